import PyProof.Rows.All
import Wide.All
import OpenK.AllK
import Wide.FinOn
import HandS.ForMost
import HandS.IsInst
import HandS.AnyAll
import HandS.Nested
import HandS.GenList
import HandS.GenOver
import HandS.EndTab
import KE.KNestM
import HandS.Star
import HandS.Walk
import HandS.Deep
import HandS.Style
import KE.KeyNested
import KE.KDictKeyed
import HandS.SortKw
import KE.DataMinMax
import PyProof.DictValues
import PyProof.DictWalks
import HandS.Conv
import HandS.DictComp
import HandS.More
import HandS.Text
import HandS.SortRule
import HandS.TupLe
import HandS.TupAny
import HandS.Lambda
import HandS.SetFor
import PyProof.WalksMore
import HandS.SortInts
import HandS.AnyAll
import HandS.Nested
import HandS.GenList
import HandS.GenOver
import HandS.ExcInit
import HandS.ExcOwn
import KE.KExcSuper
import HandS.FStr
import HandS.WordsExc
import HandS.ExcCtx
import HandS.HotCalls
import HandS.ExcInitHot
import HandS.ExcIs
import HandS.ExcField
import KE.KExcIs
import HandS.Zip
import PyProof.Rows.SortShellAny
import PySem.Challenge.RW_oneair_k11_whole_the_shortest_for_two
set_option Elab.async false
set_option linter.all false
set_option maxRecDepth 100000
set_option maxHeartbeats 4000000
set_option synthInstance.maxSize 100000
set_option synthInstance.maxHeartbeats 4000000

namespace OA
open PySem L2
def top (i : Nat) : Stmt := PySem.Challenge.pw_oneair_k11_whole_the_shortest_for_two.main.body.getD i (.Pass ⟨0, 0, 0, 0⟩)
abbrev s_is_whole : Stmt := top 13
abbrev s_check_many : Stmt := top 14
abbrev s_check_numbers : Stmt := top 15
abbrev s_check_rule : Stmt := top 16
abbrev s_fault_of : Stmt := top 17
abbrev s_has_shape : Stmt := top 18
abbrev s_are_rows : Stmt := top 19
abbrev s_is_row : Stmt := top 20
abbrev s_sets_of : Stmt := top 21
abbrev s_unheard : Stmt := top 23
abbrev s_is_alone : Stmt := top 24
abbrev s_two : Stmt := top 25
abbrev s_middle_texts : Stmt := top 26
abbrev s_chains_of : Stmt := top 27
abbrev s__law_dice : Stmt := top 29
abbrev s__law_off : Stmt := top 30
abbrev s__law_alike : Stmt := top 31
abbrev s__law_is : Stmt := top 32
abbrev s__law_refused : Stmt := top 33
abbrev s__law_many : Stmt := top 34
abbrev s__law_sets : Stmt := top 35
abbrev s__law_unheard : Stmt := top 36
abbrev s__law_texts : Stmt := top 37
abbrev s__law_are_chains : Stmt := top 38
abbrev s__law_tried : Stmt := top 39
abbrev s_law : Stmt := top 40
abbrev s_BadRule___init__ : Stmt := inClass (top 3) 0
abbrev s_BadWakes___init__ : Stmt := inClass (top 4) 0
abbrev s_BadPlan___init__ : Stmt := inClass (top 5) 0
/-- where the defs and classes stand -/
structure Ad where
  is_whole : Addr
  d_is_whole : FuncData
  check_many : Addr
  d_check_many : FuncData
  check_numbers : Addr
  d_check_numbers : FuncData
  check_rule : Addr
  d_check_rule : FuncData
  fault_of : Addr
  d_fault_of : FuncData
  has_shape : Addr
  d_has_shape : FuncData
  are_rows : Addr
  d_are_rows : FuncData
  is_row : Addr
  d_is_row : FuncData
  sets_of : Addr
  d_sets_of : FuncData
  unheard : Addr
  d_unheard : FuncData
  is_alone : Addr
  d_is_alone : FuncData
  two : Addr
  d_two : FuncData
  middle_texts : Addr
  d_middle_texts : FuncData
  chains_of : Addr
  d_chains_of : FuncData
  _law_dice : Addr
  d__law_dice : FuncData
  _law_off : Addr
  d__law_off : FuncData
  _law_alike : Addr
  d__law_alike : FuncData
  _law_is : Addr
  d__law_is : FuncData
  _law_refused : Addr
  d__law_refused : FuncData
  _law_many : Addr
  d__law_many : FuncData
  _law_sets : Addr
  d__law_sets : FuncData
  _law_unheard : Addr
  d__law_unheard : FuncData
  _law_texts : Addr
  d__law_texts : FuncData
  _law_are_chains : Addr
  d__law_are_chains : FuncData
  _law_tried : Addr
  d__law_tried : FuncData
  law : Addr
  d_law : FuncData
  t_are_rows : Addr
  p_are_rows : Addr
  t_is_row : Addr
  p_is_row : Addr
  t_law : Addr
  p_law : Addr
  v_SHAPES : Addr
/-- what the top has written -/
structure Txt (K : PySem.W.Frag) (mg : Str → Option Value) (base : Heap) (A : Ad) : Prop where
  h_are_rows : A.d_are_rows.code = .ref A.t_are_rows
  q_are_rows : GxR.TabB base mg A.t_are_rows A.p_are_rows
  h_is_row : A.d_is_row.code = .ref A.t_is_row
  q_is_row : GxR.TabB base mg A.t_is_row A.p_is_row
  h_law : A.d_law.code = .ref A.t_law
  q_law : LamX.TabB base mg A.t_law A.p_law
  np_are_rows_is_row : A.p_are_rows ≠ A.p_is_row
  F_is_whole : Fun K "is_whole" "is_whole" s_is_whole A.is_whole A.d_is_whole
  b_is_whole : Binds K A.d_is_whole ["number", "least", "most"] []
  g_is_whole : mg "is_whole" = some (.ref A.is_whole)
  k_is_whole : PySem.W.keepIn K (.ref A.is_whole) = true
  F_check_many : Fun K "check_many" "check_many" s_check_many A.check_many A.d_check_many
  b_check_many : Binds K A.d_check_many ["many"] []
  g_check_many : mg "check_many" = some (.ref A.check_many)
  k_check_many : PySem.W.keepIn K (.ref A.check_many) = true
  F_check_numbers : Fun K "check_numbers" "check_numbers" s_check_numbers A.check_numbers A.d_check_numbers
  b_check_numbers : Binds K A.d_check_numbers ["many", "most"] []
  g_check_numbers : mg "check_numbers" = some (.ref A.check_numbers)
  k_check_numbers : PySem.W.keepIn K (.ref A.check_numbers) = true
  F_check_rule : Fun K "check_rule" "check_rule" s_check_rule A.check_rule A.d_check_rule
  b_check_rule : Binds K A.d_check_rule ["rule", "many"] []
  g_check_rule : mg "check_rule" = some (.ref A.check_rule)
  k_check_rule : PySem.W.keepIn K (.ref A.check_rule) = true
  F_fault_of : Fun K "fault_of" "fault_of" s_fault_of A.fault_of A.d_fault_of
  b_fault_of : Binds K A.d_fault_of ["rule", "many"] []
  g_fault_of : mg "fault_of" = some (.ref A.fault_of)
  k_fault_of : PySem.W.keepIn K (.ref A.fault_of) = true
  F_has_shape : Fun K "has_shape" "has_shape" s_has_shape A.has_shape A.d_has_shape
  b_has_shape : Binds K A.d_has_shape ["parts", "shapes"] []
  g_has_shape : mg "has_shape" = some (.ref A.has_shape)
  k_has_shape : PySem.W.keepIn K (.ref A.has_shape) = true
  F_are_rows : Fun K "are_rows" "are_rows" s_are_rows A.are_rows A.d_are_rows
  b_are_rows : Binds K A.d_are_rows ["rows", "many"] []
  g_are_rows : mg "are_rows" = some (.ref A.are_rows)
  k_are_rows : PySem.W.keepIn K (.ref A.are_rows) = true
  F_is_row : Fun K "is_row" "is_row" s_is_row A.is_row A.d_is_row
  b_is_row : Binds K A.d_is_row ["row"] []
  g_is_row : mg "is_row" = some (.ref A.is_row)
  k_is_row : PySem.W.keepIn K (.ref A.is_row) = true
  F_sets_of : Fun K "sets_of" "sets_of" s_sets_of A.sets_of A.d_sets_of
  b_sets_of : Binds K A.d_sets_of ["many", "least", "most"] []
  g_sets_of : mg "sets_of" = some (.ref A.sets_of)
  k_sets_of : PySem.W.keepIn K (.ref A.sets_of) = true
  F_unheard : Fun K "unheard" "unheard" s_unheard A.unheard A.d_unheard
  b_unheard : Binds K A.d_unheard ["rows", "most"] []
  g_unheard : mg "unheard" = some (.ref A.unheard)
  k_unheard : PySem.W.keepIn K (.ref A.unheard) = true
  F_is_alone : Fun K "is_alone" "is_alone" s_is_alone A.is_alone A.d_is_alone
  b_is_alone : Binds K A.d_is_alone ["rows", "group", "number"] []
  g_is_alone : mg "is_alone" = some (.ref A.is_alone)
  k_is_alone : PySem.W.keepIn K (.ref A.is_alone) = true
  F_two : Fun K "two" "two" s_two A.two A.d_two
  b_two : Binds K A.d_two ["many"] []
  g_two : mg "two" = some (.ref A.two)
  k_two : PySem.W.keepIn K (.ref A.two) = true
  F_middle_texts : Fun K "middle_texts" "middle_texts" s_middle_texts A.middle_texts A.d_middle_texts
  b_middle_texts : Binds K A.d_middle_texts ["length"] []
  g_middle_texts : mg "middle_texts" = some (.ref A.middle_texts)
  k_middle_texts : PySem.W.keepIn K (.ref A.middle_texts) = true
  F_chains_of : Fun K "chains_of" "chains_of" s_chains_of A.chains_of A.d_chains_of
  b_chains_of : Binds K A.d_chains_of ["length"] []
  g_chains_of : mg "chains_of" = some (.ref A.chains_of)
  k_chains_of : PySem.W.keepIn K (.ref A.chains_of) = true
  F__law_dice : Fun K "_law_dice" "_law_dice" s__law_dice A._law_dice A.d__law_dice
  b__law_dice : Binds K A.d__law_dice ["_law_script", "_law_k"] []
  g__law_dice : mg "_law_dice" = some (.ref A._law_dice)
  k__law_dice : PySem.W.keepIn K (.ref A._law_dice) = true
  F__law_off : Fun K "_law_off" "_law_off" s__law_off A._law_off A.d__law_off
  b__law_off : Binds K A.d__law_off ["_law_d", "_law_most"] []
  g__law_off : mg "_law_off" = some (.ref A._law_off)
  k__law_off : PySem.W.keepIn K (.ref A._law_off) = true
  F__law_alike : Fun K "_law_alike" "_law_alike" s__law_alike A._law_alike A.d__law_alike
  b__law_alike : Binds K A.d__law_alike ["_law_found", "_law_due"] []
  g__law_alike : mg "_law_alike" = some (.ref A._law_alike)
  k__law_alike : PySem.W.keepIn K (.ref A._law_alike) = true
  F__law_is : Fun K "_law_is" "_law_is" s__law_is A._law_is A.d__law_is
  b__law_is : Binds K A.d__law_is ["_law_e", "_law_word"] []
  g__law_is : mg "_law_is" = some (.ref A._law_is)
  k__law_is : PySem.W.keepIn K (.ref A._law_is) = true
  F__law_refused : Fun K "_law_refused" "_law_refused" s__law_refused A._law_refused A.d__law_refused
  b__law_refused : Binds K A.d__law_refused ["_law_work", "_law_word", "_law_value"] []
  g__law_refused : mg "_law_refused" = some (.ref A._law_refused)
  k__law_refused : PySem.W.keepIn K (.ref A._law_refused) = true
  F__law_many : Fun K "_law_many" "_law_many" s__law_many A._law_many A.d__law_many
  b__law_many : Binds K A.d__law_many ["_law_d"] []
  g__law_many : mg "_law_many" = some (.ref A._law_many)
  k__law_many : PySem.W.keepIn K (.ref A._law_many) = true
  F__law_sets : Fun K "_law_sets" "_law_sets" s__law_sets A._law_sets A.d__law_sets
  b__law_sets : Binds K A.d__law_sets ["_law_many_here", "_law_most"] []
  g__law_sets : mg "_law_sets" = some (.ref A._law_sets)
  k__law_sets : PySem.W.keepIn K (.ref A._law_sets) = true
  F__law_unheard : Fun K "_law_unheard" "_law_unheard" s__law_unheard A._law_unheard A.d__law_unheard
  b__law_unheard : Binds K A.d__law_unheard ["_law_rows", "_law_most"] []
  g__law_unheard : mg "_law_unheard" = some (.ref A._law_unheard)
  k__law_unheard : PySem.W.keepIn K (.ref A._law_unheard) = true
  F__law_texts : Fun K "_law_texts" "_law_texts" s__law_texts A._law_texts A.d__law_texts
  b__law_texts : Binds K A.d__law_texts ["_law_size"] []
  g__law_texts : mg "_law_texts" = some (.ref A._law_texts)
  k__law_texts : PySem.W.keepIn K (.ref A._law_texts) = true
  F__law_are_chains : Fun K "_law_are_chains" "_law_are_chains" s__law_are_chains A._law_are_chains A.d__law_are_chains
  b__law_are_chains : Binds K A.d__law_are_chains ["_law_chains", "_law_size"] []
  g__law_are_chains : mg "_law_are_chains" = some (.ref A._law_are_chains)
  k__law_are_chains : PySem.W.keepIn K (.ref A._law_are_chains) = true
  F__law_tried : Fun K "_law_tried" "_law_tried" s__law_tried A._law_tried A.d__law_tried
  b__law_tried : Binds K A.d__law_tried ["_law_many_here", "_law_size"] []
  g__law_tried : mg "_law_tried" = some (.ref A._law_tried)
  k__law_tried : PySem.W.keepIn K (.ref A._law_tried) = true
  F_law : Fun K "law" "law" s_law A.law A.d_law
  b_law : Binds K A.d_law ["_law_script"] []
  g_law : mg "law" = some (.ref A.law)
  k_law : PySem.W.keepIn K (.ref A.law) = true
  m_ValueError : mg "ValueError" = none
  m_abs : mg "abs" = none
  m_all : mg "all" = none
  m_bool : mg "bool" = none
  m_dict : mg "dict" = none
  m_int : mg "int" = none
  m_isinstance : mg "isinstance" = none
  m_len : mg "len" = none
  m_list : mg "list" = none
  m_max : mg "max" = none
  m_min : mg "min" = none
  m_range : mg "range" = none
  m_sorted : mg "sorted" = none
  m_str : mg "str" = none
  m_tuple : mg "tuple" = none
  c_MOST_STATIONS : ∃ t, mg "MOST_STATIONS" = some (.int 8 t)
  c_MOST_SIGNS : ∃ t, mg "MOST_SIGNS" = some (.int 12 t)
  c_LEAST_BASE : ∃ t, mg "LEAST_BASE" = some (.int 2 t)
  c_MOST_BASE : ∃ t, mg "MOST_BASE" = some (.int 4 t)
  c_SHAPES : mg "SHAPES" = some (.ref A.v_SHAPES)
  x_SHAPES : ∀ H : Hp, Dp K H (.ref A.v_SHAPES) (.tuple [.tuple [.str "turns", .int 1], .tuple [.str "rows", .int 2], .tuple [.str "tree", .int 3], .tuple [.str "waits", .int 2]])
end OA

namespace OA
open PySem PySem.Spec PyProof.Rows L2
/-! own forms of the layer's readings: evaluated, not sought -/
def refR (x : V) (k : Addr → Prop) : Prop := match x with | .ref a => k a | _ => False
def intR (x : V) (k : Int → Prop) : Prop := match x with | .int a => k a | _ => False
def blR (x : V) (k : Bool → Prop) : Prop := match x with | .bl a => k a | _ => False
def strR (x : V) (k : Str → Prop) : Prop := match x with | .str a => k a | _ => False
def optR {α : Type} (o : Option α) (k : α → Prop) : Prop := match o with | some v => k v | none => False
def keyR (x : V) (k : Key → Prop) : Prop := match x with | .int a => k (.inl a) | .str a => k (.inr a) | _ => False
def insO (o : Option HO) (k : Addr → Addr → List (Str × V) → Prop) : Prop := match o with | some (.ins C dx fs) => k C dx fs | _ => False
def lstO (o : Option HO) (k : List V → Prop) : Prop := match o with | some (.lst xs) => k xs | _ => False
def tupO (o : Option HO) (k : List V → Prop) : Prop := match o with | some (.tup xs) => k xs | some (.frz _ (.tup xs)) => k xs | _ => False
def dkO (o : Option HO) (k : List (Key × V) → Prop) : Prop := match o with | some (.dK xs) => k xs | _ => False
def dkR (o : Option HO) (k : List (Key × V) → Prop) : Prop := match o with | some (.dK xs) => k xs | some (.frz _ (.dK xs)) => k xs | _ => False
def one1 {α : Type} (l : List α) (k : α → Prop) : Prop := match l with | [x] => k x | _ => False
def two2 {α : Type} (l : List α) (k : α → α → Prop) : Prop := match l with | [x, y] => k x y | _ => False
theorem refR_el {x : V} {k : Addr → Prop} (h : refR x k) : ∃ a, x = .ref a ∧ k a := by cases x <;> first | exact ⟨_, rfl, h⟩ | exact h.elim
theorem intR_el {x : V} {k : Int → Prop} (h : intR x k) : ∃ a, x = .int a ∧ k a := by cases x <;> first | exact ⟨_, rfl, h⟩ | exact h.elim
theorem blR_el {x : V} {k : Bool → Prop} (h : blR x k) : ∃ a, x = .bl a ∧ k a := by cases x <;> first | exact ⟨_, rfl, h⟩ | exact h.elim
theorem strR_el {x : V} {k : Str → Prop} (h : strR x k) : ∃ a, x = .str a ∧ k a := by cases x <;> first | exact ⟨_, rfl, h⟩ | exact h.elim
theorem optR_el {α : Type} {o : Option α} {k : α → Prop} (h : optR o k) : ∃ a, o = some a ∧ k a := by cases o <;> first | exact ⟨_, rfl, h⟩ | exact h.elim
theorem keyR_el {x : V} {k : Key → Prop} (h : keyR x k) : ∃ a, x = kV a ∧ k a := by
  cases x with
  | int a => exact ⟨.inl a, rfl, h⟩
  | str a => exact ⟨.inr a, rfl, h⟩
  | _ => exact (show False from h).elim
theorem insO_el {o : Option HO} {k : Addr → Addr → List (Str × V) → Prop} (h : insO o k) : ∃ C dx fs, o = some (.ins C dx fs) ∧ k C dx fs := by
  unfold insO at h
  split at h
  · exact ⟨_, _, _, rfl, h⟩
  · exact h.elim
theorem lstO_el {o : Option HO} {k : List V → Prop} (h : lstO o k) : ∃ xs, o = some (.lst xs) ∧ k xs := by
  unfold lstO at h
  split at h
  · exact ⟨_, rfl, h⟩
  · exact h.elim
theorem tupO_el {H : Hp} {a : Addr} {k : List V → Prop} (h : tupO (H a) k) : ∃ xs, Rd H a (.tup xs) ∧ k xs := by
  unfold tupO at h
  split at h
  · exact ⟨_, .inl ‹_›, h⟩
  · exact ⟨_, .inr ⟨_, ‹_›⟩, h⟩
  · exact h.elim
theorem rd_tupO {H : Hp} {a : Addr} {xs : List V} {k : List V → Prop} (r : Rd H a (.tup xs)) (h : k xs) : tupO (H a) k := by
  rcases r with e | ⟨o, e⟩
  · rw [e]; exact h
  · rw [e]; exact h
theorem dkO_el {o : Option HO} {k : List (Key × V) → Prop} (h : dkO o k) : ∃ xs, o = some (.dK xs) ∧ k xs := by
  unfold dkO at h
  split at h
  · exact ⟨_, rfl, h⟩
  · exact h.elim
theorem dkR_el {H : Hp} {a : Addr} {k : List (Key × V) → Prop} (h : dkR (H a) k) : ∃ xs, Rd H a (.dK xs) ∧ k xs := by
  unfold dkR at h
  split at h
  · rename_i xs e
    exact ⟨xs, .inl e, h⟩
  · rename_i ob xs e
    exact ⟨xs, .inr ⟨ob, e⟩, h⟩
  · exact h.elim
theorem dkR_e {xs : List (Key × V)} {k : List (Key × V) → Prop} : dkR (some (.dK xs)) k = k xs := rfl
theorem dkR_f {o : Obj} {xs : List (Key × V)} {k : List (Key × V) → Prop} : dkR (some (.frz o (.dK xs))) k = k xs := rfl
theorem one1_el {α : Type} {l : List α} {k : α → Prop} (h : one1 l k) : ∃ x, l = [x] ∧ k x := by
  unfold one1 at h
  split at h
  · exact ⟨_, rfl, h⟩
  · exact h.elim
theorem two2_el {α : Type} {l : List α} {k : α → α → Prop} (h : two2 l k) : ∃ x y, l = [x, y] ∧ k x y := by
  unfold two2 at h
  split at h
  · exact ⟨_, _, rfl, h⟩
  · exact h.elim
theorem refR_e {a : Addr} {k : Addr → Prop} : refR (.ref a) k = k a := rfl
theorem intR_e {a : Int} {k : Int → Prop} : intR (.int a) k = k a := rfl
theorem blR_e {a : Bool} {k : Bool → Prop} : blR (.bl a) k = k a := rfl
theorem strR_e {a : Str} {k : Str → Prop} : strR (.str a) k = k a := rfl
theorem optR_e {α : Type} {a : α} {k : α → Prop} : optR (some a) k = k a := rfl
theorem keyR_i {a : Int} {k : Key → Prop} : keyR (.int a) k = k (.inl a) := rfl
theorem keyR_s {a : Str} {k : Key → Prop} : keyR (.str a) k = k (.inr a) := rfl
theorem insO_e {C dx : Addr} {fs : List (Str × V)} {k : Addr → Addr → List (Str × V) → Prop} : insO (some (.ins C dx fs)) k = k C dx fs := rfl
theorem lstO_e {xs : List V} {k : List V → Prop} : lstO (some (.lst xs)) k = k xs := rfl
theorem tupO_f {ob : Obj} {xs : List V} {k : List V → Prop} : tupO (some (.frz ob (.tup xs))) k = k xs := rfl
theorem tupO_e {xs : List V} {k : List V → Prop} : tupO (some (.tup xs)) k = k xs := rfl
theorem dkO_e {xs : List (Key × V)} {k : List (Key × V) → Prop} : dkO (some (.dK xs)) k = k xs := rfl
theorem one1_e {α : Type} {x : α} {k : α → Prop} : one1 [x] k = k x := rfl
theorem two2_e {α : Type} {x y : α} {k : α → α → Prop} : two2 [x, y] k = k x y := rfl
/-- what comes later is not looked into -/
def Later (p : L2.St → Hp → Prop) (σ : L2.St) (H : Hp) : Prop := p σ H
theorem Later.mk {p : L2.St → Hp → Prop} {σ : L2.St} {H : Hp} (h : p σ H) : Later p σ H := h
/-- the monotone closure of a reading -/
def upE (t : TE) : TE := fun σ H Q => ∃ Q' : VK, t σ H Q' ∧ ∀ v H', Q' v H' → Q v H'
def upT (t : TT) : TT := fun σ H Q => ∃ Q' : Bool → Hp → Prop, t σ H Q' ∧ ∀ v H', Q' v H' → Q v H'
def upA (t : TA) : TA := fun σ H Q => ∃ Q' : List V → Hp → Prop, t σ H Q' ∧ ∀ v H', Q' v H' → Q v H'
def upR (r : R2) : R2 := fun x y H Q => ∃ Q' : VK, r x y H Q' ∧ ∀ v H', Q' v H' → Q v H'
section
variable {X : Cx} {e a b c o : Expr} {es : List Expr} {t t' ta tb tc te to : TE} {pos apos cpos : Pos}
theorem up_pe (h : PE X e t) : PE X e (upE t) := ⟨fun pins s σ H Q I ⟨Q', z, m⟩ => thn (h.run pins s σ H Q' I z) fun _ _ ⟨v, H', I', r, q⟩ => ⟨v, H', I', r, m v H' q⟩⟩
theorem up_pt {t : TT} (h : PT X e t) : PT X e (upT t) := ⟨fun pins s σ H Q I ⟨Q', z, m⟩ => thn (h.run pins s σ H Q' I z) fun _ _ ⟨H', I', q⟩ => ⟨H', I', m _ H' q⟩⟩
theorem up_pa {t : TA} (h : PA X es t) : PA X es (upA t) := ⟨fun pos pins s σ H Q I ⟨Q', z, m⟩ => thn (h.run pos pins s σ H Q' I z) fun _ _ ⟨v, H', I', r, q⟩ => ⟨v, H', I', r, m v H' q⟩⟩
theorem up_op {f : Value → Value → Sem Value} {r : R2} (h : OpR X f r) : OpR X f (upR r) := fun pins s σ H x y v u Q I rx ry ⟨Q', z, m⟩ => thn (h pins s σ H x y v u Q' I rx ry z) fun _ _ ⟨v, H', I', r, q⟩ => ⟨v, H', I', r, m v H' q⟩
theorem im_pe (h : PE X e t) (i : ∀ σ H Q, t' σ H Q → t σ H Q) : PE X e t' := ⟨fun pins s σ H Q I z => h.run pins s σ H Q I (i σ H Q z)⟩
theorem im_pt {t t' : TT} (h : PT X e t) (i : ∀ σ H Q, t' σ H Q → t σ H Q) : PT X e t' := ⟨fun pins s σ H Q I z => h.run pins s σ H Q I (i σ H Q z)⟩
theorem im_ps {st : Stmt} {t t' : TS} (h : PS X st t) (i : ∀ D σ H, t' D σ H → t D σ H) : PS X st t' := ⟨fun pins s σ H D I z => h.run pins s σ H D I (i D σ H z)⟩
theorem im_op {f : Value → Value → Sem Value} {r r' : R2} (h : OpR X f r) (i : ∀ x y H Q, r' x y H Q → r x y H Q) : OpR X f r' := fun pins s σ H x y v u Q I rx ry z => h pins s σ H x y v u Q I rx ry (i x y H Q z)
theorem im_ix {r r' : R2} (h : IxR X r) (i : ∀ x y H Q, r' x y H Q → r x y H Q) : IxR X r' := fun va sl pins s σ H x y v u Q I rx ry z hs => h va sl pins s σ H x y v u Q I rx ry (i x y H Q z) hs
theorem im_call {f : Value} {r r' : List V → Hp → VK → Prop} (h : CallR X f r) (i : ∀ x H Q, r' x H Q → r x H Q) : CallR X f r' := fun pins s σ H xs us Q I r z => h pins s σ H xs us Q I r (i xs H Q z)
theorem im_mt {id : String} {r r' : V → List V → Hp → VK → Prop} (h : MtR X id r) (i : ∀ x y H Q, r' x y H Q → r x y H Q) : MtR X id r' := fun pins s σ H x xs v us Q I rx r z => h pins s σ H x xs v us Q I rx r (i x xs H Q z)
/-! names, attributes -/
def vVar (i : Nat) : TE := fun σ H Q => optR (σ[i]?) fun o => optR o fun v => Q v H
theorem qv (i : Nat) {x : Str} {pos : Pos} (hN : X.N[i]? = some x := by rfl) (hv : Vis X.env.scope x := by first | exact Or.inl rfl | exact Or.inr (Or.inl rfl) | exact Or.inr (Or.inr rfl)) (hd : (x == ("__debug__" : Str)) = false := by decide)
    (hcd : (x == ("__classdict__" : Str)) = false := by decide) : PE X (.Name x pos) (vVar i) := im_pe (pe_var hN hv hd hcd) fun σ H Q h => by
  obtain ⟨o, e, h⟩ := optR_el h
  obtain ⟨v, rfl, zz⟩ := optR_el h
  clear h
  have h := zz
  clear zz
  exact ⟨v, e, h⟩
def vFld (K : PySem.W.Frag) (ta : TE) (f : Str) : TE := fun σ H Q => ta σ H fun x H1 => refR x fun a => insO (H1 a) fun C _ fs => (Cls K C ∧ NoAttr K C f) ∧ optR (fs.lookup f) fun v => Q v H1
theorem q_fld {f : Str} (he : PE X e ta) (hb : attributeBase e f X.env (eval e X.env) = eval e X.env) : PE X (.Attribute e f pos) (vFld X.K ta f) := im_pe (pe_fld (up_pe he) hb) fun σ H Q h => ⟨_, h, fun x H1 z => by
  obtain ⟨a, rfl, zz⟩ := refR_el z
  clear z
  have z := zz
  clear zz
  obtain ⟨C, dx, fs, e1, ⟨c, n⟩, z⟩ := insO_el z
  obtain ⟨v, e2, z⟩ := optR_el z
  exact ⟨a, C, dx, fs, v, rfl, e1, c, n, e2, z⟩⟩
def vsFld (K : PySem.W.Frag) (ta tv : TE) (f : Str) : TS := fun D σ H => tv σ H fun y H1 => ta σ H1 fun x H2 => refR x fun a => insO (H2 a) fun C dx fs => (Cls K C ∧ NoAttr K C f ∧ fs.length < 1000) ∧ D.nx σ (upd H2 a (.ins C dx (putF f y fs)))
theorem q_sfld {f : Str} {pos' : Pos} (ha : PE X o ta) (hv : PE X e tb) (hs : swapsWith e (some (.Attribute o f pos')) pos.line X.env = pure false) : PS X (.Assign [.Attribute o f pos'] e pos) (vsFld X.K ta tb f) := im_ps (ps_fld (up_pe ha) (up_pe hv) hs) fun D σ H h => ⟨_, h, fun y H1 h1 => ⟨_, h1, fun x H2 z => by
  obtain ⟨a, rfl, zz⟩ := refR_el z
  clear z
  have z := zz
  clear zz
  obtain ⟨C, dx, fs, e1, ⟨c, n, l⟩, z⟩ := insO_el z
  exact ⟨a, C, dx, fs, rfl, e1, c, n, l, z⟩⟩⟩
/-- e.f += value, the value of ints -/
def vAugI (K : PySem.W.Frag) (ta tv : TE) (g : Int → Int → Int) (f : Str) : TS := fun D σ H => ta σ H fun x H1 => refR x fun a => insO (H1 a) fun C _ fs => (Cls K C ∧ NoAttr K C f) ∧ optR (fs.lookup f) fun v =>
  tv σ H1 fun y H2 => intR v fun i => intR y fun j => insO (H2 a) fun C' dx' fs' => (C' = C ∧ fs'.length < 1000) ∧ D.nx σ (upd H2 a (.ins C dx' (putF f (.int (g i j)) fs')))
theorem q_augI {f : Str} {op : Operator} {g : Int → Int → Int} {tpos : Pos} (ha : PE X o ta) (hv : PE X e tb) (hop : InOp X op (fun x y H Q => ∃ i j, x = .int i ∧ y = .int j ∧ Q (.int (g i j)) H)) : PS X (.AugAssign (.Attribute o f tpos) op e pos) (vAugI X.K ta tb g f) :=
  im_ps (ps_fldaug (up_pe ha) (up_pe hv) hop) fun D σ H h => ⟨_, h, fun x H1 z => by
    obtain ⟨a, rfl, zz⟩ := refR_el z
    clear z
    have z := zz
    clear zz
    obtain ⟨C, dx, fs, e1, ⟨c, n⟩, z⟩ := insO_el z
    obtain ⟨v, e2, z⟩ := optR_el z
    refine ⟨a, C, dx, fs, v, rfl, e1, c, n, e2, _, z, fun y H2 z => ?_⟩
    obtain ⟨i, rfl, zz⟩ := intR_el z
    clear z
    have z := zz
    clear zz
    obtain ⟨j, rfl, zz⟩ := intR_el z
    clear z
    have z := zz
    clear zz
    obtain ⟨C', dx', fs', e3, ⟨rfl, l⟩, z⟩ := insO_el z
    exact ⟨i, j, rfl, rfl, dx', fs', e3, l, z⟩⟩
/-! operators by values -/
def wI0 (g : Int → Int → V) : R2 := fun x y H Q => intR x fun i => intR y fun j => Q (g i j) H
def wIC (C : Int → Int → Prop) (g : Int → Int → V) : R2 := fun x y H Q => intR x fun i => intR y fun j => C i j ∧ Q (g i j) H
theorem w_I0 {f : Value → Value → Sem Value} {g : Int → Int → V} (h : OpR X f (rI0 g)) : OpR X f (wI0 g) := im_op h fun x y H Q z => by
  obtain ⟨i, rfl, zz⟩ := intR_el z
  clear z
  have z := zz
  clear zz
  obtain ⟨j, rfl, zz⟩ := intR_el z
  clear z
  have z := zz
  clear zz
  exact ⟨i, j, rfl, rfl, z⟩
theorem w_IC {f : Value → Value → Sem Value} {C : Int → Int → Prop} {g : Int → Int → V} (h : OpR X f (rI C g)) : OpR X f (wIC C g) := im_op h fun x y H Q z => by
  obtain ⟨i, rfl, zz⟩ := intR_el z
  clear z
  have z := zz
  clear zz
  obtain ⟨j, rfl, zz⟩ := intR_el z
  clear z
  have z := zz
  clear zz
  exact ⟨i, j, rfl, rfl, z.1, z.2⟩
theorem o_add : OpR X (binaryOp .Add) (wI0 fun i j => .int (i + j)) := w_I0 op_add
theorem o_sub : OpR X (binaryOp .Sub) (wI0 fun i j => .int (i - j)) := w_I0 op_sub
theorem o_mul : OpR X (binaryOp .Mult) (wIC CMul fun i j => .int (i * j)) := w_IC op_mul
theorem o_fdiv : OpR X (binaryOp .FloorDiv) (wIC CDiv fun i j => .int (i / j)) := w_IC op_fdiv
theorem o_mod : OpR X (binaryOp .Mod) (wIC (fun _ j => 0 < j) fun i j => .int (i % j)) := w_IC op_mod
theorem o_lt : OpR X (compareOp .Lt) (wI0 fun i j => .bl (decide (i < j))) := w_I0 op_lt
theorem o_le : OpR X (compareOp .LtE) (wI0 fun i j => .bl (decide (i ≤ j))) := w_I0 op_le
theorem o_gt : OpR X (compareOp .Gt) (wI0 fun i j => .bl (decide (j < i))) := w_I0 op_gt
theorem o_ge : OpR X (compareOp .GtE) (wI0 fun i j => .bl (decide (j ≤ i))) := w_I0 op_ge
def wAddS : R2 := fun x y H Q => strR x fun i => strR y fun j => i.length + j.length ≤ sizeLine ∧ Q (.str (i ++ j)) H
theorem o_addS : OpR X (binaryOp .Add) wAddS := im_op op_add_str fun x y H Q z => by
  obtain ⟨i, rfl, zz⟩ := strR_el z
  clear z
  have z := zz
  clear zz
  obtain ⟨j, rfl, zz⟩ := strR_el z
  clear z
  have z := zz
  clear zz
  exact ⟨i, j, rfl, rfl, z.1, z.2⟩
def wCat : R2 := fun x y H Q => refR x fun l => refR y fun b => lstO (H l) fun xs => lstO (H b) fun zs => xs.length + zs.length ≤ sizeLine ∧ ∀ p, H p = none → Q (.ref p) (upd H p (.lst (xs ++ zs)))
theorem o_cat : OpR X (binaryOp .Add) wCat := im_op op_cat fun x y H Q z => by
  obtain ⟨l, rfl, zz⟩ := refR_el z
  clear z
  have z := zz
  clear zz
  obtain ⟨b, rfl, zz⟩ := refR_el z
  clear z
  have z := zz
  clear zz
  obtain ⟨xs, e1, z⟩ := lstO_el z
  obtain ⟨zs, e2, z⟩ := lstO_el z
  exact ⟨l, b, xs, zs, rfl, rfl, e1, e2, z.1, z.2⟩
def wNeg : V → Hp → VK → Prop := fun x H Q => intR x fun i => Q (.int (-i)) H
theorem o_neg : UnR X (unaryOp .USub) wNeg := fun pins s σ H x v Q I rx z => un_neg pins s σ H x v Q I rx (intR_el z)
/-! subscripts -/
def wIxL : R2 := fun x y H Q => refR x fun p => lstO (H p) fun xs => intR y fun i => optR (atI xs i) fun v => Q v H
def wIxT : R2 := fun x y H Q => refR x fun p => tupO (H p) fun xs => intR y fun i => optR (atI xs i) fun v => Q v H
def wIxS : R2 := fun x y H Q => strR x fun z => intR y fun i => z.length ≤ sizeLine ∧ optR (atI z.cps.toList i) fun c => Q (.str ⟨#[c]⟩) H
theorem ix_L : IxR X wIxL := im_ix ix_list fun x y H Q z => by
  obtain ⟨p, rfl, zz⟩ := refR_el z
  clear z
  have z := zz
  clear zz
  obtain ⟨xs, e1, z⟩ := lstO_el z
  obtain ⟨i, rfl, zz⟩ := intR_el z
  clear z
  have z := zz
  clear zz
  obtain ⟨v, e2, z⟩ := optR_el z
  exact ⟨p, xs, i, v, rfl, rfl, SqL.of e1, e2, z⟩
theorem ix_T : IxR X wIxT := im_ix ix_tup fun x y H Q z => by
  obtain ⟨p, rfl, zz⟩ := refR_el z
  clear z
  have z := zz
  clear zz
  obtain ⟨xs, e1, z⟩ := tupO_el z
  obtain ⟨i, rfl, zz⟩ := intR_el z
  clear z
  have z := zz
  clear zz
  obtain ⟨v, e2, z⟩ := optR_el z
  exact ⟨p, xs, i, v, rfl, rfl, .inl e1, e2, z⟩
theorem ix_S : IxR X wIxS := im_ix ix_str fun x y H Q z => by
  obtain ⟨p, rfl, zz⟩ := strR_el z
  clear z
  have z := zz
  clear zz
  obtain ⟨i, rfl, l, zz⟩ := intR_el z
  clear z
  have z := zz
  obtain ⟨v, e2, z⟩ := optR_el z
  exact ⟨p, i, v, rfl, rfl, l, e2, z⟩
def vPart (t : TE) : TO := fun σ H Q => t σ H fun x H1 => intR x fun i => Q (some i) H1
theorem q_some (h : PE X e te) : PO X (some e) (vPart te) := ⟨fun pins s σ H Q I z => (po_some (up_pe h)).run pins s σ H Q I ⟨_, z, fun x H1 q => intR_el q⟩⟩
def wSlL : V → Option Int → Option Int → Hp → VK → Prop := fun x lo hi H Q => refR x fun a => lstO (H a) fun xs => ∀ p, H p = none → Q (.ref p) (upd H p (.lst (cutV xs lo hi)))
theorem sl_L : SlR X wSlL := by
  intro pins s σ H x v vl vu lo hi sl Q I rx hs pl pu h
  obtain ⟨a, e, h⟩ := refR_el h
  obtain ⟨xs, e1, h⟩ := lstO_el h
  exact sl_list pins s σ H x v vl vu lo hi sl Q I rx hs pl pu ⟨a, xs, e, SqL.of e1, h⟩
/-! calls of built-ins -/
def lenO (o : Option HO) (k : Nat → Prop) : Prop := match o with
  | some (.lst xs) => k xs.length
  | some (.tup xs) => k xs.length
  | some (.frz _ (.tup xs)) => k xs.length
  | some (.dK kvs) => k kvs.length
  | _ => False
theorem lenO_l {xs : List V} {k : Nat → Prop} : lenO (some (.lst xs)) k = k xs.length := rfl
theorem lenO_t {xs : List V} {k : Nat → Prop} : lenO (some (.tup xs)) k = k xs.length := rfl
theorem lenO_f {ob : Obj} {xs : List V} {k : Nat → Prop} : lenO (some (.frz ob (.tup xs))) k = k xs.length := rfl
theorem lenO_d {xs : List (Key × V)} {k : Nat → Prop} : lenO (some (.dK xs)) k = k xs.length := rfl
def lenR (vs : List V) (H : Hp) (Q : VK) : Prop := one1 vs fun x => match x with
  | .str z => z.length ≤ sizeLine ∧ Q (.int z.length) H
  | .ref a => lenO (H a) fun n => Q (.int n) H
  | _ => False
theorem c_len : CallR X (.builtin "len") lenR := by
  intro pins s σ H xs us Q I r h
  obtain ⟨x, rfl, h⟩ := one1_el h
  cases x with
  | str z => exact call_len_str pins s σ H _ us Q I r ⟨z, rfl, h.1, h.2⟩
  | ref a =>
    have h : lenO (H a) (fun n => Q (.int n) H) := h
    unfold lenO at h
    split at h
    · rename_i xs e
      exact call_len_seq pins s σ H _ us Q I r ⟨a, xs, rfl, .inl (SqL.of e), h⟩
    · rename_i xs e
      exact call_len_seq pins s σ H _ us Q I r ⟨a, xs, rfl, .inr (SqT.of e), h⟩
    · rename_i ob xs e
      exact call_len_seq pins s σ H _ us Q I r ⟨a, xs, rfl, .inr (.inl (.inr ⟨ob, e⟩)), h⟩
    · rename_i kvs e
      exact call_lenD pins s σ H _ us Q I r ⟨a, kvs, rfl, e, h⟩
    · exact h.elim
  | _ => exact (show False from h).elim
theorem len_r {H : Hp} {a : Addr} {Q : VK} : lenR [.ref a] H Q = lenO (H a) fun n => Q (.int n) H := rfl
theorem len_s {H : Hp} {z : Str} {Q : VK} : lenR [.str z] H Q = (z.length ≤ sizeLine ∧ Q (.int z.length) H) := rfl
def wTupL (vs : List V) (H : Hp) (Q : VK) : Prop := one1 vs fun x => refR x fun p => lstO (H p) fun xs => ∀ l, H l = none → Q (.ref l) (upd H l (.tup xs))
def wLstL (vs : List V) (H : Hp) (Q : VK) : Prop := one1 vs fun x => refR x fun p => lstO (H p) fun xs => ∀ l, H l = none → Q (.ref l) (upd H l (.lst xs))
theorem c_tupL : CallR X (.type "tuple") wTupL := im_call call_tuple_of fun x H Q z => by
  obtain ⟨x, rfl, zz⟩ := one1_el z
  clear z
  have z := zz
  clear zz
  obtain ⟨p, rfl, zz⟩ := refR_el z
  clear z
  have z := zz
  clear zz
  obtain ⟨xs, e, z⟩ := lstO_el z
  exact ⟨p, xs, rfl, .inl ⟨SqL.of e, z⟩⟩
theorem c_lstL : CallR X (.type "list") wLstL := im_call call_list_of fun x H Q z => by
  obtain ⟨x, rfl, zz⟩ := one1_el z
  clear z
  have z := zz
  clear zz
  obtain ⟨p, rfl, zz⟩ := refR_el z
  clear z
  have z := zz
  clear zz
  obtain ⟨xs, e, z⟩ := lstO_el z
  exact ⟨p, xs, rfl, .inl (SqL.of e), z⟩
def wAbs (vs : List V) (H : Hp) (Q : VK) : Prop := one1 vs fun x => intR x fun i => Q (.int (if i < 0 then -i else i)) H
theorem c_abs : CallR X (.builtin "abs") wAbs := im_call call_abs fun x H Q z => by
  obtain ⟨x, rfl, zz⟩ := one1_el z
  clear z
  have z := zz
  clear zz
  obtain ⟨i, rfl, zz⟩ := intR_el z
  clear z
  have z := zz
  clear zz
  exact ⟨i, rfl, z⟩
def wIntB (vs : List V) (H : Hp) (Q : VK) : Prop := one1 vs fun x => blR x fun b => Q (.int (if b then 1 else 0)) H
theorem c_intB : CallR X (.type "int") wIntB := im_call call_int1 fun x H Q z => by
  obtain ⟨x, rfl, zz⟩ := one1_el z
  clear z
  have z := zz
  clear zz
  obtain ⟨i, rfl, zz⟩ := blR_el z
  clear z
  have z := zz
  clear zz
  exact .inr ⟨i, rfl, z⟩
def wMin2 (vs : List V) (H : Hp) (Q : VK) : Prop := two2 vs fun x y => intR x fun i => intR y fun j => Q (.int (if j < i then j else i)) H
def wMax2 (vs : List V) (H : Hp) (Q : VK) : Prop := two2 vs fun x y => intR x fun i => intR y fun j => Q (.int (if j > i then j else i)) H
theorem c_min2 (hc : X.calm = true) : CallR X (.builtin "min") wMin2 := im_call (call_min2 hc) fun x H Q z => by
  obtain ⟨x, y, rfl, zz⟩ := two2_el z
  clear z
  have z := zz
  clear zz
  obtain ⟨i, rfl, zz⟩ := intR_el z
  clear z
  have z := zz
  clear zz
  obtain ⟨j, rfl, zz⟩ := intR_el z
  clear z
  have z := zz
  clear zz
  exact ⟨i, j, rfl, z⟩
theorem c_max2 (hc : X.calm = true) : CallR X (.builtin "max") wMax2 := im_call (call_max2 hc) fun x H Q z => by
  obtain ⟨x, y, rfl, zz⟩ := two2_el z
  clear z
  have z := zz
  clear zz
  obtain ⟨i, rfl, zz⟩ := intR_el z
  clear z
  have z := zz
  clear zz
  obtain ⟨j, rfl, zz⟩ := intR_el z
  clear z
  have z := zz
  clear zz
  exact ⟨i, j, rfl, z⟩
end
end OA

namespace OA
open PySem PySem.Spec PyProof.Rows L2
section
variable {X : Cx} {e a b c o : Expr} {es rest : List Expr} {t t' ta tb tc te to : TE} {pos apos cpos : Pos}
/-! truth values -/
/-- what is not reached -/
def vNever : TE := fun _ _ _ => False
theorem q_never {e : Expr} : PE X e vNever := ⟨fun _ _ _ _ _ _ h => h.elim⟩
def vAnd (ta tb : TE) : TE := fun σ H Q => ta σ H fun x H1 => blR x fun c => if c = true then tb σ H1 Q else Q (.bl false) H1
def vOr (ta tb : TE) : TE := fun σ H Q => ta σ H fun x H1 => blR x fun c => if c = true then Q (.bl true) H1 else tb σ H1 Q
def vNot (ta : TE) : TE := fun σ H Q => ta σ H fun x H1 => blR x fun c => Q (.bl (!c)) H1
theorem q_and (ha : PE X a ta) (hb : PE X (.BoolOp .And (b :: rest) pos) tb) : PE X (.BoolOp .And (a :: b :: rest) pos) (vAnd ta tb) := im_pe (pe_and (up_pe ha) hb) fun _ _ _ h => ⟨_, h, fun _ _ z => blR_el z⟩
theorem q_or (ha : PE X a ta) (hb : PE X (.BoolOp .Or (b :: rest) pos) tb) : PE X (.BoolOp .Or (a :: b :: rest) pos) (vOr ta tb) := im_pe (pe_or (up_pe ha) hb) fun _ _ _ h => ⟨_, h, fun _ _ z => blR_el z⟩
theorem q_not (ha : PE X a ta) : PE X (.UnaryOp .Not a pos) (vNot ta) := im_pe (pe_not (up_pe ha)) fun _ _ _ h => ⟨_, h, fun _ _ z => blR_el z⟩
/-! tests -/
def vTest (t : TE) : TT := fun σ H Q => t σ H fun x H' => blR x fun k => Q k H'
theorem q_val {e : Expr} (h : PE X e t) (he : ∀ whole, isTrue e X.env whole = (do let v ← whole; standAt e.pos; holding [v] (truthy v)) := by intro _; rfl) : PT X e (vTest t) := im_pt (pt_val (up_pe h) he) fun _ _ _ h => ⟨_, h, fun _ _ z => blR_el z⟩
theorem q_cmp {op : CmpOp} {r : R2} (ho : OpR X (compareOp op) r) (ha : PE X a ta) (hb : PE X b tb) (hm : behindInMarks op b = false) : PT X (.Compare a [op] [b] pos) (vTest (tOp r ta tb)) :=
  im_pt (pt_cmpR (up_op ho) (up_pe ha) (up_pe hb) hm) fun _ _ _ h => ⟨_, h, fun _ _ h1 => ⟨_, h1, fun _ _ h2 => ⟨_, h2, fun _ _ z => blR_el z⟩⟩⟩
def vChain (r r' : R2) (ta tb tc : TE) : TE := fun σ H Q => ta σ H fun x H1 => tb σ H1 fun y H2 => r x y H2 fun z H3 => blR z fun k => if k = true then tc σ H3 fun w' H4 => r' y w' H4 Q else Q (.bl false) H3
theorem q_chain {op op' : CmpOp} {r r' : R2} (ho : OpR X (compareOp op) r) (ho' : OpR X (compareOp op') r') (ha : PE X a ta) (hb : PE X b tb) (hc : PE X c tc)
    (hm : lastMarks [op, op'] [b, c] = false := by with_unfolding_all rfl) : PE X (.Compare a [op, op'] [b, c] pos) (vChain r r' ta tb tc) :=
  im_pe (pe_chain (up_op ho) ho' (up_pe ha) (up_pe hb) hc hm) fun _ _ _ h => ⟨_, h, fun _ _ h1 => ⟨_, h1, fun _ _ h2 => ⟨_, h2, fun _ _ z => blR_el z⟩⟩⟩
theorem q_tchain {op op' : CmpOp} {r r' : R2} (ho : OpR X (compareOp op) r) (ho' : OpR X (compareOp op') r') (ha : PE X a ta) (hb : PE X b tb) (hc : PE X c tc)
    (hm : lastMarks [op, op'] [b, c] = false := by with_unfolding_all rfl) : PT X (.Compare a [op, op'] [b, c] pos) (vTest (vChain r r' ta tb tc)) :=
  im_pt (pt_chain (up_op ho) (up_op ho') (up_pe ha) (up_pe hb) (up_pe hc) hm) fun _ _ _ h => ⟨_, h, fun _ _ h1 => ⟨_, h1, fun _ _ h2 => ⟨_, h2, fun _ _ z => by
    obtain ⟨k, e, z⟩ := blR_el z
    refine ⟨k, e, ?_⟩
    cases k with
    | true => exact ⟨_, z, fun _ _ z2 => ⟨_, z2, fun _ _ z3 => blR_el z3⟩⟩
    | false => exact blR_el z⟩⟩⟩
/-! statements -/
def vSeq (t u : TS) : TS := fun D σ H => t ⟨Later (u D), D.rt, D.bk, D.ct⟩ σ H
theorem qs_cons {st : Stmt} {sts : List Stmt} {t u : TS} (h1 : PS X st t) (h2 : PSs X sts u) : PSs X (st :: sts) (vSeq t u) := pss_cons h1 h2
theorem e_seq (t u : TS) (n : L2.St → Hp → Prop) (r : VK) (k l : L2.St → Hp → Prop) (σ : L2.St) (H : Hp) : vSeq t u ⟨n, r, k, l⟩ σ H = t ⟨Later (u ⟨n, r, k, l⟩), r, k, l⟩ σ H := rfl
/-- what holds behind a statement is said once -/
def vCut (t : TS) : TS := fun D σ H => ∃ N : L2.St → Hp → Prop, (∀ σ' H', N σ' H' → D.nx σ' H') ∧ t ⟨N, D.rt, D.bk, D.ct⟩ σ H
theorem q_cut {st : Stmt} {t : TS} (h : PS X st t) : PS X st (vCut t) := ⟨fun pins s σ H D I ⟨N, m, z⟩ => thn (h.run pins s σ H _ I z) fun f s' r => by
  cases f with
  | next =>
    obtain ⟨σ', H', I', q⟩ := r
    exact ⟨σ', H', I', m _ _ q⟩
  | brk => exact r
  | cont => exact r
  | ret u => exact r⟩
theorem e_cut (t : TS) (n : L2.St → Hp → Prop) (r : VK) (k l : L2.St → Hp → Prop) (σ : L2.St) (H : Hp) : vCut t ⟨n, r, k, l⟩ σ H = ∃ N : L2.St → Hp → Prop, (∀ σ' H', N σ' H' → n σ' H') ∧ t ⟨N, r, k, l⟩ σ H := rfl
def vIf (c : TT) (t u : TS) : TS := fun D σ H => c σ H fun k H1 => if k = true then Later (t D) σ H1 else Later (u D) σ H1
theorem q_if {c : Expr} {a b : List Stmt} {tc : TT} {t u : TS} (hc : PT X c tc) (ha : PSs X a t) (hb : PSs X b u) : PS X (.If c a b pos) (vIf tc t u) := ps_if hc ha hb
theorem e_next (n : L2.St → Hp → Prop) (r : VK) (k l : L2.St → Hp → Prop) (σ : L2.St) (H : Hp) : tNext ⟨n, r, k, l⟩ σ H = n σ H := rfl
theorem e_asg (te : TE) (i : Nat) (n : L2.St → Hp → Prop) (r : VK) (k l : L2.St → Hp → Prop) (σ : L2.St) (H : Hp) : tAsg te (gName i) ⟨n, r, k, l⟩ σ H = te σ H fun x H1 => n (σ.set i (some x)) H1 := rfl
theorem e_drop (te : TE) (n : L2.St → Hp → Prop) (r : VK) (k l : L2.St → Hp → Prop) (σ : L2.St) (H : Hp) : tDrop te ⟨n, r, k, l⟩ σ H = te σ H fun _ H1 => n σ H1 := rfl
theorem e_ret (te : TE) (n : L2.St → Hp → Prop) (r : VK) (k l : L2.St → Hp → Prop) (σ : L2.St) (H : Hp) : tRet te ⟨n, r, k, l⟩ σ H = te σ H r := rfl
theorem e_retN (n : L2.St → Hp → Prop) (r : VK) (k l : L2.St → Hp → Prop) (σ : L2.St) (H : Hp) : tRetN ⟨n, r, k, l⟩ σ H = r .non H := rfl
theorem e_sfld {K : PySem.W.Frag} {ta tv : TE} {f : Str} (n : L2.St → Hp → Prop) (r : VK) (k l : L2.St → Hp → Prop) (σ : L2.St) (H : Hp) : vsFld K ta tv f ⟨n, r, k, l⟩ σ H =
    tv σ H fun y H1 => ta σ H1 fun x H2 => refR x fun a => insO (H2 a) fun C dx fs => (Cls K C ∧ NoAttr K C f ∧ fs.length < 1000) ∧ n σ (upd H2 a (.ins C dx (putF f y fs))) := rfl
theorem e_augI {K : PySem.W.Frag} {ta tv : TE} {g : Int → Int → Int} {f : Str} (n : L2.St → Hp → Prop) (r : VK) (k l : L2.St → Hp → Prop) (σ : L2.St) (H : Hp) : vAugI K ta tv g f ⟨n, r, k, l⟩ σ H =
    ta σ H fun x H1 => refR x fun a => insO (H1 a) fun C _ fs => (Cls K C ∧ NoAttr K C f) ∧ optR (fs.lookup f) fun v =>
      tv σ H1 fun y H2 => intR v fun i => intR y fun j => insO (H2 a) fun C' dx' fs' => (C' = C ∧ fs'.length < 1000) ∧ n σ (upd H2 a (.ins C dx' (putF f (.int (g i j)) fs'))) := rfl
/-- a name's own int: i += e -/
def vAug (i : Nat) (te : TE) (g : Int → Int → Int) : TS := fun D σ H => optR (σ[i]?) fun o => optR o fun x => te σ H fun y H1 => intR x fun m => intR y fun n => D.nx (σ.set i (some (.int (g m n)))) H1
theorem q_aug {i : Nat} {x : Str} {op : Operator} {g : Int → Int → Int} {pos' : Pos} (hN : X.N.Nodup) (hi : X.N[i]? = some x) (hx : Loc X.env.scope x) (he : PE X e te) (ho : PIp X op (ipI g)) (hf : X.fn x = true ∨ X.env.scope.names.lookup x = some .local := by first | exact .inl rfl | exact .inr rfl | assumption) :
    PS X (.AugAssign (.Name x pos') op e pos) (vAug i te g) := im_ps (ps_aug hN hi hx (up_pe he) ho hf) fun D σ H h => by
  obtain ⟨o, e1, h1⟩ := optR_el h
  obtain ⟨v, e2, h2⟩ := optR_el h1
  refine ⟨v, by rw [e1, e2], _, h2, fun y H1 z => ?_⟩
  obtain ⟨m, e3, z1⟩ := intR_el z
  obtain ⟨k, e4, z2⟩ := intR_el z1
  exact ⟨m, k, e3, e4, z2⟩
theorem e_aug (i : Nat) (te : TE) (g : Int → Int → Int) (n : L2.St → Hp → Prop) (r : VK) (k l : L2.St → Hp → Prop) (σ : L2.St) (H : Hp) : vAug i te g ⟨n, r, k, l⟩ σ H =
    optR (σ[i]?) fun o => optR o fun x => te σ H fun y H1 => intR x fun m => intR y fun z => n (σ.set i (some (.int (g m z)))) H1 := rfl
/-! a call of an own method -/
def vMeth (C : Addr) (m : Str) (sp : Sp) (E : XK) (ta : TE) (t : TA) : TE := fun σ H Q => ta σ H fun x H1 => refR x fun a => insO (H1 a) fun C' _ fs => (C' = C ∧ fs.lookup m = none) ∧ t σ H1 fun vs H2 => sp (x :: vs) H2 Q E
section
variable {CX : CXT} {k : Nat} {f C : Addr} {fd : FuncData} {ps : List Str} {sp : Sp} {E : XK} {x m : Str} {p : Pos} {t : TA}
theorem q_meth {pl : Sem Bool} (he : PE X o ta) (c : Cls X.K C) (hm : Meth X.K C m f) (F : FnOk X.prog X.w X.K X.mg X.base CX k f fd ps sp) (hr : Room k X.A) (hb : Binds X.K fd ps []) (hx : Passes CX X E) (ha : PA X (e :: es) t)
    (hst : starEach (e :: es) X.env = (false, eval e X.env) :: starEach es X.env := by rfl) (hpl : (backTo pos (starEach es X.env)).any (·.1) = false := by rfl)
    (ht : eval (.Call (.Attribute o m apos) (e :: es) [] pos) X.env = (do
      let ov ← eval o X.env; standAt apos.atName
      let (f, first) ← holding [ov] (getMethod ov m pl); callWith pos f first (backTo pos (starEach (e :: es) X.env)) (backToKw pos (keywordEach [] X.env))) := by rfl) :
    PE X (.Call (.Attribute o m apos) (e :: es) [] pos) (vMeth C m sp E ta t) := im_pe (pe_meth (up_pe he) c hm F hr hb .nil hx (up_pa ha) hst hpl ht) fun σ H Q h => ⟨_, h, fun x H1 z => by
  obtain ⟨a, e1, z1⟩ := refR_el z
  obtain ⟨C', dx, fs, e2, ⟨e3, e4⟩, z2⟩ := insO_el z1
  subst e3
  exact ⟨a, dx, fs, e1, e2, e4, _, z2, fun vs H2 q => by simpa only [List.append_nil] using q⟩⟩
theorem q_meth0 {pl : Sem Bool} (he : PE X o ta) (c : Cls X.K C) (hm : Meth X.K C m f) (F : FnOk X.prog X.w X.K X.mg X.base CX k f fd ps sp) (hr : Room k X.A) (hb : Binds X.K fd ps []) (hx : Passes CX X E)
    (ht : eval (.Call (.Attribute o m apos) [] [] pos) X.env = (do
      let ov ← eval o X.env; standAt apos.atName
      let (f, first) ← holding [ov] (getMethod ov m pl); callWith pos f first (backTo pos (starEach [] X.env)) (backToKw pos (keywordEach [] X.env))) := by rfl) :
    PE X (.Call (.Attribute o m apos) [] [] pos) (vMeth C m sp E ta tNil) := im_pe (pe_meth0 (up_pe he) c hm F hr hb .nil hx ht) fun σ H Q h => ⟨_, h, fun x H1 z => by
  obtain ⟨a, e1, z1⟩ := refR_el z
  obtain ⟨C', dx, fs, e2, ⟨e3, e4⟩, z2⟩ := insO_el z1
  subst e3
  exact ⟨a, dx, fs, e1, e2, e4, z2⟩⟩
def vCall (sp : Sp) (E : XK) (t : TA) : TE := fun σ H Q => t σ H fun vs H1 => sp vs H1 Q E
theorem q_call (F : FnOk X.prog X.w X.K X.mg X.base CX k f fd ps sp) (hr : Room k X.A) (hg : Gl X x) (hm : X.mg x = some (.ref f)) (hk : PySem.W.keepIn X.K (.ref f) = true) (hb : Binds X.K fd ps []) (hx : Passes CX X E)
    (ha : PA X (e :: es) t) (hdb : (x == ("__debug__" : Str)) = false := by decide) (he : starEach (e :: es) X.env = (false, eval e X.env) :: starEach es X.env := by rfl) (hpl : (backTo pos (starEach es X.env)).any (·.1) = false := by rfl) :
    PE X (.Call (.Name x p) (e :: es) [] pos) (vCall sp E t) := im_pe (pe_call F hr hg hm hk hb .nil hx (up_pa ha) hdb he hpl) fun σ H Q h => ⟨_, h, fun vs H1 z => by simpa only [List.append_nil] using z⟩
/-- C(..): a new instance -/
def vMake (C : Addr) (sp : Sp) (E : XK) (t : TA) : TE := fun σ H Q => t σ H fun vs H1 => ∀ x dx, H1 x = none → H1 dx = none → dx ≠ x →
  sp (.ref x :: vs) (upd (upd H1 dx (.own x)) x (.ins C dx [])) (fun v H2 => v = .non ∧ Q (.ref x) H2) E
theorem q_make (M : Mk X.K C f) (F : FnOk X.prog X.w X.K X.mg X.base CX k f fd ps sp) (hr : Room (k + 1) X.A) (hg : Gl X x) (hm : X.mg x = some (.ref C)) (hb : Binds X.K fd ps []) (hx : Passes CX X E)
    (ha : PA X (e :: es) t) (hdb : (x == ("__debug__" : Str)) = false := by decide) (he : starEach (e :: es) X.env = (false, eval e X.env) :: starEach es X.env := by rfl) (hpl : (backTo pos (starEach es X.env)).any (·.1) = false := by rfl) :
    PE X (.Call (.Name x p) (e :: es) [] pos) (vMake C sp E t) := im_pe (pe_make M F hr hg hm hb .nil hx (up_pa ha) hdb he hpl) fun σ H Q h => ⟨_, h, fun vs H1 z => by simpa only [List.append_nil] using z⟩
end
/-! methods of a tracked list -/
def isLst (H : Hp) (x : V) : Prop := refR x fun p => lstO (H p) fun _ => True
theorem tyL {K : PySem.W.Frag} {x : V} {H : Hp} (h : isLst H x) : tyV K "list" x H := by
  obtain ⟨p, rfl, h1⟩ := refR_el h
  obtain ⟨xs, e, _⟩ := lstO_el h1
  exact Or.inl ⟨rfl, xs, SqL.of e⟩
section
variable {t : TA} {name : Str} {id : String} {r : V → List V → Hp → VK → Prop}
def vLM0 (r : V → List V → Hp → VK → Prop) (to : TE) : TE := fun σ H Q => to σ H fun x H1 => isLst H1 x ∧ r x [] H1 Q
def vLM (r : V → List V → Hp → VK → Prop) (to : TE) (t : TA) : TE := fun σ H Q => to σ H fun x H1 => isLst H1 x ∧ t σ H1 fun xs H2 => r x xs H2 Q
theorem lm0 (slot : Slot "list" name id) (hty : typeOf (.builtin id) = pure (.type "method_descriptor")) (hm : MtR X id r) (ho : PE X o to)
    (hb : attributeBase o name X.env (eval o X.env) = eval o X.env := by rfl) (hl : (apos.endLine == cpos.line) = true := by rfl) : PE X (.Call (.Attribute o name apos) [] [] cpos) (vLM0 r to) :=
  im_pe (pe_bm0 PySem.F.plainAttrs_list slot hty hm (up_pe ho) hb hl) fun _ _ _ h => ⟨_, h, fun _ _ z => ⟨tyL z.1, z.2⟩⟩
theorem lm1 (slot : Slot "list" name id) (hty : typeOf (.builtin id) = pure (.type "method_descriptor")) (hm : MtR X id r) (ho : PE X o to) (ha : PA X (e :: es) t)
    (hb : attributeBase o name X.env (eval o X.env) = eval o X.env := by rfl)
    (hf : ((backTo cpos (starEach (e :: es) X.env)).all (fun x => !x.1) && (backToKw cpos (keywordEach [] X.env)).all (fun x => x.1.isSome) && decide ((e :: es).length + ([] : List Keyword).length + (if ([] : List Keyword).isEmpty then 0 else 1) < 30)) = true := by rfl)
    (hl : (apos.endLine == cpos.line) = true := by rfl) (hs : starEach (e :: es) X.env = (false, eval e X.env) :: starEach es X.env := by rfl) (hp : (backTo cpos (starEach es X.env)).any (·.1) = false := by rfl) :
    PE X (.Call (.Attribute o name apos) (e :: es) [] cpos) (vLM r to t) :=
  im_pe (pe_bm PySem.F.plainAttrs_list slot hty hm (up_pe ho) ha hb hf hl hs hp) fun _ _ _ h => ⟨_, h, fun _ _ z => ⟨tyL z.1, z.2⟩⟩
end
def wAppend : V → List V → Hp → VK → Prop := fun x vs H Q => refR x fun l => lstO (H l) fun xs => one1 vs fun y => xs.length < sizeLine ∧ Q .non (upd H l (.lst (xs ++ [y])))
theorem m_append : MtR X "list.append" wAppend := im_mt (r := rAppend) mt_append fun x vs H Q z => by
  obtain ⟨l, e1, z1⟩ := refR_el z
  obtain ⟨xs, e2, z2⟩ := lstO_el z1
  obtain ⟨y, e3, z3⟩ := one1_el z2
  exact ⟨l, xs, y, e1, e3, e2, z3.1, z3.2⟩
def wPopAt : V → List V → Hp → VK → Prop := fun x vs H Q => refR x fun l => lstO (H l) fun xs => one1 vs fun y => intR y fun i => (0 ≤ i ∧ i < 2 ^ 63) ∧ optR (xs[i.toNat]?) fun v => Q v (upd H l (.lst (xs.eraseIdx i.toNat)))
theorem m_popAt : MtR X "list.pop" wPopAt := im_mt (r := rPopAt) mt_popAt fun x vs H Q z => by
  obtain ⟨l, e1, z1⟩ := refR_el z
  obtain ⟨xs, e2, z2⟩ := lstO_el z1
  obtain ⟨y, e3, z3⟩ := one1_el z2
  obtain ⟨i, e4, ⟨h0, h1⟩, z4⟩ := intR_el z3
  obtain ⟨v, e5, z5⟩ := optR_el z4
  subst e4
  have hl : i.toNat < xs.length := (List.getElem?_eq_some_iff.mp e5).1
  exact ⟨l, xs, i, i.toNat, v, e1, e3, e2, by omega, h1, PySem.StrLaws.seqIndex_nonneg h0 (by omega), e5, z5⟩
def wInsert0 : V → List V → Hp → VK → Prop := fun x vs H Q => refR x fun l => lstO (H l) fun xs => two2 vs fun i y => (i = .int 0 ∧ xs.length < sizeLine) ∧ Q .non (upd H l (.lst (y :: xs)))
theorem m_insert0 : MtR X "list.insert" wInsert0 := im_mt mt_insert fun x vs H Q z => by
  obtain ⟨l, e1, z1⟩ := refR_el z
  obtain ⟨xs, e2, z2⟩ := lstO_el z1
  obtain ⟨i, y, e3, ⟨h0, h1⟩, z3⟩ := two2_el z2
  subst h0
  exact ⟨l, xs, 0, y, e1, e3, e2, h1, by decide, by decide, z3⟩
def vStar (te : TE) (t : TA) : TA := fun σ H Q => te σ H fun y H1 => refR y fun a => lstO (H1 a) fun xs => t σ H1 fun vs H2 => Q (xs ++ vs) H2
theorem q_star {te : TE} {t : TA} {p : Pos} (he : PE X e te) (hr : PA X es t) (hs : starEach (.Starred e p :: es) X.env = (true, eval e X.env) :: starEach es X.env := by rfl) : PA X (.Starred e p :: es) (vStar te t) := by
  refine ⟨fun pos pins s σ H Q I h => PySem.W.items_star (thn (he.run pins s σ H _ I h) fun v s1 z => ?_) hs⟩
  obtain ⟨y, H1, I1, ry, z1⟩ := z
  obtain ⟨a, ey, z2⟩ := refR_el z1
  obtain ⟨xs, hx, q⟩ := lstO_el z2
  subst ey
  obtain rfl : v = Value.ref a := ry
  refine StX.star_any I1 (.inr (SqL.of hx)) fun us s2 I2 rv => thn (hr.run pos pins s2 σ H1 _ I2 q) fun ws s3 z => ?_
  obtain ⟨vs, H3, I3, r3, q3⟩ := z
  exact ⟨xs ++ vs, H3, I3, rv.append r3, q3⟩
def wSetL : TSet := fun x y v H Q => refR x fun l => lstO (H l) fun xs => intR y fun i => optR (ixN xs.length i) fun j => Q (upd H l (.lst (xs.set j v)))
theorem s_setL : PSet X wSetL := by
  intro pins s σ H o i v ov iv u Q I ro ri rv h
  obtain ⟨p, e1, h1⟩ := refR_el h
  obtain ⟨xs, e2, h2⟩ := lstO_el h1
  obtain ⟨k, e3, h3⟩ := intR_el h2
  obtain ⟨j, e4, h4⟩ := optR_el h3
  exact set_list pins s σ H o i v ov iv u Q I ro ri rv ⟨p, xs, k, j, e1, e3, e2, e4, h4⟩
theorem ixN_nat {n j : Nat} (h : j < n) : ixN n (j : Int) = some j := by
  unfold ixN
  rw [if_pos (by omega), if_pos (by omega)]
  simp
theorem ixN_zero {n : Nat} : ixN (n + 1) 0 = some 0 := ixN_nat (j := 0) (by omega)
theorem ixN_one {n : Nat} : ixN (n + 1 + 1) 1 = some 1 := ixN_nat (j := 1) (by omega)
/-! dicts with ints and texts as keys -/
def vDGet (td ty : TE) : TE := fun σ H Q => td σ H fun x H1 => ty σ H1 fun y H2 => refR x fun a => dkR (H2 a) fun kvs => keyR y fun k => optR (valV kvs k) fun v => Q v H2
def vDIn (ty td : TE) : TE := fun σ H Q => ty σ H fun y H1 => td σ H1 fun x H2 => refR x fun a => dkR (H2 a) fun kvs => keyR y fun k => Q (.bl (valV kvs k).isSome) H2
def vDNotIn (ty td : TE) : TE := fun σ H Q => ty σ H fun y H1 => td σ H1 fun x H2 => refR x fun a => dkR (H2 a) fun kvs => keyR y fun k => Q (.bl (!(valV kvs k).isSome)) H2
def vsDPut (td ty tv : TE) : TS := fun D σ H => tv σ H fun v H1 => td σ H1 fun x H2 => ty σ H2 fun y H3 => refR x fun a => dkO (H3 a) fun kvs => keyR y fun k => kvs.length < sizeLine ∧ D.nx σ (upd H3 a (.dK (putK kvs k v)))
def vDGet2 (td ty tx : TE) : TE := fun σ H Q => td σ H fun x H1 => ty σ H1 fun y H2 => tx σ H2 fun z H3 => refR x fun a => dkR (H1 a) fun _ => dkR (H3 a) fun kvs => keyR y fun k => Q ((valV kvs k).getD z) H3
theorem dget_of {H : Hp} {a : Addr} {kvs : List (Key × V)} {k : Key} {o : Option V} (e : Rd H a (.dK kvs)) (ho : valV kvs k = o) : DGet H a (kV k) o := by
  rw [← ho]
  exact .inl ⟨kvs, k, e, rfl, rfl⟩
variable {td ty tx tv : TE} {i : Expr}
theorem q_dget (hu : X.A.units + 1 < cLine) (ho : PE X o td) (hi : PE X i ty) (hs : NoSl i) : PE X (.Subscript o i pos) (vDGet td ty) := im_pe (pe_dget hu (up_pe ho) (up_pe hi) hs) fun _ _ _ h => ⟨_, h, fun _ _ h1 => ⟨_, h1, fun _ _ z => by
  obtain ⟨a, e1, z1⟩ := refR_el z
  obtain ⟨kvs, e2, z2⟩ := dkR_el z1
  obtain ⟨k, e3, z3⟩ := keyR_el z2
  obtain ⟨v, e4, z4⟩ := optR_el z3
  exact ⟨a, v, e1, by rw [e3]; exact dget_of e2 e4, z4⟩⟩⟩
theorem q_din (hu : X.A.units + 1 < cLine) (hi : PE X i ty) (ho : PE X o td) (h1 : behindInMarks .In o = false := by rfl) : PE X (.Compare i [.In] [o] pos) (vDIn ty td) := im_pe (pe_cmp (pc_din hu (up_pe hi) (up_pe ho)) h1) fun _ _ _ h => ⟨_, h, fun _ _ h1 => ⟨_, h1, fun _ _ z => by
  obtain ⟨a, e1, z1⟩ := refR_el z
  obtain ⟨kvs, e2, z2⟩ := dkR_el z1
  obtain ⟨k, e3, z3⟩ := keyR_el z2
  exact ⟨a, _, e1, by rw [e3]; exact dget_of e2 rfl, z3⟩⟩⟩
theorem q_dnotin (hu : X.A.units + 1 < cLine) (hi : PE X i ty) (ho : PE X o td) (h1 : behindInMarks .NotIn o = false := by rfl) : PE X (.Compare i [.NotIn] [o] pos) (vDNotIn ty td) := im_pe (pe_cmp (pc_dnotin hu (up_pe hi) (up_pe ho)) h1) fun _ _ _ h => ⟨_, h, fun _ _ h1 => ⟨_, h1, fun _ _ z => by
  obtain ⟨a, e1, z1⟩ := refR_el z
  obtain ⟨kvs, e2, z2⟩ := dkR_el z1
  obtain ⟨k, e3, z3⟩ := keyR_el z2
  exact ⟨a, _, e1, by rw [e3]; exact dget_of e2 rfl, z3⟩⟩⟩
theorem q_tin (hu : X.A.units + 1 < cLine) (hi : PE X i ty) (ho : PE X o td) (h1 : behindInMarks .In o = false := by rfl) : PT X (.Compare i [.In] [o] pos) (vTest (vDIn ty td)) := im_pt (pt_cmp (pc_din hu (up_pe hi) (up_pe ho)) h1) fun _ _ _ h => ⟨_, h, fun _ _ h1 => ⟨_, h1, fun _ _ z => by
  obtain ⟨a, e1, z1⟩ := refR_el z
  obtain ⟨kvs, e2, z2⟩ := dkR_el z1
  obtain ⟨k, e3, z3⟩ := keyR_el z2
  exact ⟨a, _, e1, by rw [e3]; exact dget_of e2 rfl, _, rfl, z3⟩⟩⟩
theorem q_tnotin (hu : X.A.units + 1 < cLine) (hi : PE X i ty) (ho : PE X o td) (h1 : behindInMarks .NotIn o = false := by rfl) : PT X (.Compare i [.NotIn] [o] pos) (vTest (vDNotIn ty td)) := im_pt (pt_cmp (pc_dnotin hu (up_pe hi) (up_pe ho)) h1) fun _ _ _ h => ⟨_, h, fun _ _ h1 => ⟨_, h1, fun _ _ z => by
  obtain ⟨a, e1, z1⟩ := refR_el z
  obtain ⟨kvs, e2, z2⟩ := dkR_el z1
  obtain ⟨k, e3, z3⟩ := keyR_el z2
  exact ⟨a, _, e1, by rw [e3]; exact dget_of e2 rfl, _, rfl, z3⟩⟩⟩
theorem q_dput {pos' : Pos} (hu : X.A.units + 1 < cLine) (ho : PE X o td) (hi : PE X i ty) (hv : PE X e tv) (hs : swapsWith e (some (.Subscript o i pos')) pos.line X.env = pure false) : PS X (.Assign [.Subscript o i pos'] e pos) (vsDPut td ty tv) :=
  im_ps (ps_dput hu (up_pe ho) (up_pe hi) (up_pe hv) hs) fun _ _ _ h => ⟨_, h, fun _ _ h1 => ⟨_, h1, fun _ _ h2 => ⟨_, h2, fun _ _ z => by
    obtain ⟨a, e1, z1⟩ := refR_el z
    obtain ⟨kvs, e2, z2⟩ := dkO_el z1
    obtain ⟨k, e3, hz, z3⟩ := keyR_el z2
    exact ⟨a, _, e1, by rw [e3]; exact DPut.k e2 hz, z3⟩⟩⟩⟩
theorem e_dput {td ty tv : TE} (n : L2.St → Hp → Prop) (r : VK) (k l : L2.St → Hp → Prop) (σ : L2.St) (H : Hp) : vsDPut td ty tv ⟨n, r, k, l⟩ σ H =
    tv σ H fun v H1 => td σ H1 fun x H2 => ty σ H2 fun y H3 => refR x fun a => dkO (H3 a) fun kvs => keyR y fun k => kvs.length < sizeLine ∧ n σ (upd H3 a (.dK (putK kvs k v))) := rfl
theorem i_add : InOp X .Add (fun x y H Q => ∃ i j, x = .int i ∧ y = .int j ∧ Q (.int ((fun i j => i + j) i j)) H) := in_add
theorem i_sub : InOp X .Sub (fun x y H Q => ∃ i j, x = .int i ∧ y = .int j ∧ Q (.int ((fun i j => i - j) i j)) H) := in_sub
end
theorem putF_hit (f : Str) (v x : V) (r : List (Str × V)) : putF f v ((f, x) :: r) = (f, v) :: r := by
  show (if f = f then _ else _) = _
  rw [if_pos rfl]
theorem putF_miss {f g : Str} (v x : V) (r : List (Str × V)) (h : ¬ g = f) : putF f v ((g, x) :: r) = (g, x) :: putF f v r := by
  show (if g = f then _ else _) = _
  rw [if_neg h]
theorem putF_nil (f : Str) (v : V) : putF f v [] = [(f, v)] := rfl
theorem lk_hit (f : Str) (x : V) (r : List (Str × V)) : List.lookup f ((f, x) :: r) = some x := by simp [List.lookup]
theorem lk_miss {f g : Str} (x : V) (r : List (Str × V)) (h : ¬ f = g) : List.lookup f ((g, x) :: r) = List.lookup f r := by
  have hb : (f == g) = false := beq_eq_false_iff_ne.mpr h
  simp [List.lookup, hb]
theorem lk_nil (f : Str) : List.lookup f ([] : List (Str × V)) = none := rfl
theorem cx_K {CX : CXT} {P : Program} {w : World} {K : PySem.W.Frag} {mg : Str → Option Value} {base : Heap} {N : List Str} {qual : Str} {scope : Scope} {f : Addr} {cd : Value} {A' : Around} {outer : List Env} {s : Shared} {H : Hp} {E : XK} : (cxOf CX P w K mg base N qual scope f cd A' outer s H E).K = K := rfl
theorem cx_prog {CX : CXT} {P : Program} {w : World} {K : PySem.W.Frag} {mg : Str → Option Value} {base : Heap} {N : List Str} {qual : Str} {scope : Scope} {f : Addr} {cd : Value} {A' : Around} {outer : List Env} {s : Shared} {H : Hp} {E : XK} : (cxOf CX P w K mg base N qual scope f cd A' outer s H E).prog = P := rfl
theorem cx_w {CX : CXT} {P : Program} {w : World} {K : PySem.W.Frag} {mg : Str → Option Value} {base : Heap} {N : List Str} {qual : Str} {scope : Scope} {f : Addr} {cd : Value} {A' : Around} {outer : List Env} {s : Shared} {H : Hp} {E : XK} : (cxOf CX P w K mg base N qual scope f cd A' outer s H E).w = w := rfl
theorem blkK {X : Cx} {s : Shared} {H : Hp} {scope : Scope} {ce : Env} {fp : List Addr} : (X.blk s H scope ce fp).K = X.K := rfl
end OA

namespace OA
open PySem PySem.Spec PyProof.Rows L2
theorem kit_NoneType_bool : kitB "NoneType" "bool" = some false := by decide +kernel
theorem kit_NoneType_int : kitB "NoneType" "int" = some false := by decide +kernel
theorem kit_NoneType_str : kitB "NoneType" "str" = some false := by decide +kernel
theorem kit_NoneType_list : kitB "NoneType" "list" = some false := by decide +kernel
theorem kit_NoneType_tuple : kitB "NoneType" "tuple" = some false := by decide +kernel
theorem kit_NoneType_dict : kitB "NoneType" "dict" = some false := by decide +kernel
theorem kit_bool_bool : kitB "bool" "bool" = some true := by decide +kernel
theorem kit_bool_int : kitB "bool" "int" = some true := by decide +kernel
theorem kit_bool_str : kitB "bool" "str" = some false := by decide +kernel
theorem kit_bool_list : kitB "bool" "list" = some false := by decide +kernel
theorem kit_bool_tuple : kitB "bool" "tuple" = some false := by decide +kernel
theorem kit_bool_dict : kitB "bool" "dict" = some false := by decide +kernel
theorem kit_int_bool : kitB "int" "bool" = some false := by decide +kernel
theorem kit_int_int : kitB "int" "int" = some true := by decide +kernel
theorem kit_int_str : kitB "int" "str" = some false := by decide +kernel
theorem kit_int_list : kitB "int" "list" = some false := by decide +kernel
theorem kit_int_tuple : kitB "int" "tuple" = some false := by decide +kernel
theorem kit_int_dict : kitB "int" "dict" = some false := by decide +kernel
theorem kit_str_bool : kitB "str" "bool" = some false := by decide +kernel
theorem kit_str_int : kitB "str" "int" = some false := by decide +kernel
theorem kit_str_str : kitB "str" "str" = some true := by decide +kernel
theorem kit_str_list : kitB "str" "list" = some false := by decide +kernel
theorem kit_str_tuple : kitB "str" "tuple" = some false := by decide +kernel
theorem kit_str_dict : kitB "str" "dict" = some false := by decide +kernel
theorem kit_list_bool : kitB "list" "bool" = some false := by decide +kernel
theorem kit_list_int : kitB "list" "int" = some false := by decide +kernel
theorem kit_list_str : kitB "list" "str" = some false := by decide +kernel
theorem kit_list_list : kitB "list" "list" = some true := by decide +kernel
theorem kit_list_tuple : kitB "list" "tuple" = some false := by decide +kernel
theorem kit_list_dict : kitB "list" "dict" = some false := by decide +kernel
theorem kit_tuple_bool : kitB "tuple" "bool" = some false := by decide +kernel
theorem kit_tuple_int : kitB "tuple" "int" = some false := by decide +kernel
theorem kit_tuple_str : kitB "tuple" "str" = some false := by decide +kernel
theorem kit_tuple_list : kitB "tuple" "list" = some false := by decide +kernel
theorem kit_tuple_tuple : kitB "tuple" "tuple" = some true := by decide +kernel
theorem kit_tuple_dict : kitB "tuple" "dict" = some false := by decide +kernel
theorem kit_dict_bool : kitB "dict" "bool" = some false := by decide +kernel
theorem kit_dict_int : kitB "dict" "int" = some false := by decide +kernel
theorem kit_dict_str : kitB "dict" "str" = some false := by decide +kernel
theorem kit_dict_list : kitB "dict" "list" = some false := by decide +kernel
theorem kit_dict_tuple : kitB "dict" "tuple" = some false := by decide +kernel
theorem kit_dict_dict : kitB "dict" "dict" = some true := by decide +kernel
section
variable {X : Cx}
def tyO (o : Option HO) : Option String := match o with
  | some (.lst _) => some "list"
  | some (.tup _) => some "tuple"
  | some (.frz _ (.tup _)) => some "tuple"
  | some (.dK _) => some "dict"
  | _ => none
def tyN (x : V) (H : Hp) : Option String := match x with
  | .non => some "NoneType"
  | .bl _ => some "bool"
  | .int _ => some "int"
  | .str _ => some "str"
  | .ref a => tyO (H a)
  | _ => none
theorem tyO_l {xs : List V} : tyO (some (.lst xs)) = some "list" := rfl
theorem tyO_t {xs : List V} : tyO (some (.tup xs)) = some "tuple" := rfl
theorem tyO_f {ob : Obj} {xs : List V} : tyO (some (.frz ob (.tup xs))) = some "tuple" := rfl
theorem tyO_d {xs : List (Key × V)} : tyO (some (.dK xs)) = some "dict" := rfl
theorem tyN_n {H : Hp} : tyN .non H = some "NoneType" := rfl
theorem tyN_b {H : Hp} {b : Bool} : tyN (.bl b) H = some "bool" := rfl
theorem tyN_i {H : Hp} {b : Int} : tyN (.int b) H = some "int" := rfl
theorem tyN_s {H : Hp} {b : Str} : tyN (.str b) H = some "str" := rfl
theorem tyN_r {H : Hp} {a : Addr} : tyN (.ref a) H = tyO (H a) := rfl
theorem tyN_is {K : PySem.W.Frag} {x : V} {H : Hp} {n : String} (h : tyN x H = some n) : TyX K H x (.type n) := by
  cases x with
  | non => cases h; exact .base .non
  | bl b => cases h; exact .base (.bl b)
  | int b => cases h; exact .base (.int b)
  | str b => cases h; exact .base (.str b)
  | ref a =>
    have h : tyO (H a) = some n := h
    unfold tyO at h
    split at h
    · rename_i xs e; cases h; exact .base (.lst e)
    · rename_i xs e; cases h; exact .base (.tup e)
    · rename_i ob xs e; cases h; exact .fTuple e
    · rename_i xs e; cases h; exact .base (.dK e)
    · cases h
  | _ => cases h
def tyR (x : V) (k : String → Prop) : Prop := match x with | .ty n => k n | _ => False
theorem tyR_e {n : String} {k : String → Prop} : tyR (.ty n) k = k n := rfl
theorem tyR_el {x : V} {k : String → Prop} (h : tyR x k) : ∃ a, x = .ty a ∧ k a := by cases x <;> first | exact ⟨_, rfl, h⟩ | exact h.elim
def wIsi (vs : List V) (H : Hp) (Q : VK) : Prop := two2 vs fun x c => tyR c fun n => optR (tyN x H) fun t => optR (kitB t n) fun r => Q (.bl r) H
theorem c_isi : CallR X (.builtin "isinstance") wIsi := im_call call_isi fun vs H Q z => by
  obtain ⟨x, c, e1, z1⟩ := two2_el z
  obtain ⟨n, e2, z2⟩ := tyR_el z1
  obtain ⟨t, e3, z3⟩ := optR_el z2
  obtain ⟨r, e4, z4⟩ := optR_el z3
  subst e2
  exact ⟨x, _, .type t, .type n, r, e1, .ty n, tyN_is e3, kit_ty e4, z4⟩
/-! loops -/
def vWhile (c : TT) (tb : TS) : TS := fun D σ H => ∃ (Pv : Nat → L2.St → Hp → Prop) (m0 : Nat), Pv m0 σ H ∧ ∀ m σ H, Pv m σ H → c σ H fun b H1 => if b = true then Later (tb ⟨fun σ' H' => ∃ m', m' < m ∧ Pv m' σ' H', D.rt, D.nx, fun σ' H' => ∃ m', m' < m ∧ Pv m' σ' H'⟩) σ H1 else Later D.nx σ H1
theorem q_while {c : Expr} {body : List Stmt} {tc : TT} {tb : TS} {pos : Pos} (hp : PassesOwn (model X.prog X.w) X.A X.env X.xe) (hc : PT X c tc) (hb : PSs X body tb) : PS X (.While c body [] pos) (vWhile tc tb) :=
  im_ps (ps_while hp (up_pt hc) hb) fun D σ H h => by
    obtain ⟨Pv, m0, h0, hs⟩ := h
    refine ⟨Pv, ⟨m0, h0⟩, fun m σ H p => ⟨_, hs m σ H p, fun b H1 q => ?_⟩⟩
    cases b with
    | true => exact ⟨_, fun _ _ z => z, q⟩
    | false => exact q
theorem e_while {c : TT} {tb : TS} (n : L2.St → Hp → Prop) (r : VK) (k l : L2.St → Hp → Prop) (σ : L2.St) (H : Hp) : vWhile c tb ⟨n, r, k, l⟩ σ H =
    ∃ (Pv : Nat → L2.St → Hp → Prop) (m0 : Nat), Pv m0 σ H ∧ ∀ m σ H, Pv m σ H → c σ H fun b H1 => if b = true then Later (tb ⟨fun σ' H' => ∃ m', m' < m ∧ Pv m' σ' H', r, n, fun σ' H' => ∃ m', m' < m ∧ Pv m' σ' H'⟩) σ H1 else Later n σ H1 := rfl
/-! targets -/
def upG (g : TG) : TG := fun v σ H Q => ∃ Q' : L2.St → Hp → Prop, g v σ H Q' ∧ ∀ σ' H', Q' σ' H' → Q σ' H'
theorem up_pg {tg : Expr} {g : TG} (h : PG X tg g) : PG X tg (upG g) := ⟨fun pins s σ H v u Q I r ⟨Q', z, m⟩ => thn (h.run pins s σ H v u Q' I r z) fun _ _ ⟨σ', H', I', q⟩ => ⟨σ', H', I', m σ' H' q⟩⟩
theorem im_pg {tg : Expr} {g g' : TG} (h : PG X tg g) (i : ∀ v σ H Q, g' v σ H Q → g v σ H Q) : PG X tg g' := ⟨fun pins s σ H v u Q I r z => h.run pins s σ H v u Q I r (i v σ H Q z)⟩
theorem im_pgs {ts : List Expr} {g g' : TGs} (h : PGs X ts g) (i : ∀ v σ H Q, g' v σ H Q → g v σ H Q) : PGs X ts g' := ⟨fun pins s σ H v u Q I r z => h.run pins s σ H v u Q I r (i v σ H Q z)⟩
def vgTup (n : Nat) (t : TGs) : TG := fun v σ H Q => refR v fun a => tupO (H a) fun xs => xs.length = n ∧ t xs σ H Q
def vgCons (t : TG) (u : TGs) : TGs := fun vs σ H Q => match vs with | v :: r => t v σ H fun σ' H' => u r σ' H' Q | [] => False
theorem vgCons_e {t : TG} {u : TGs} {v : V} {r : List V} {σ : L2.St} {H : Hp} {Q : L2.St → Hp → Prop} : vgCons t u (v :: r) σ H Q = t v σ H fun σ' H' => u r σ' H' Q := rfl
def vgNil : TGs := fun vs σ H Q => vs = [] ∧ Q σ H
theorem vgNil_e {σ : L2.St} {H : Hp} {Q : L2.St → Hp → Prop} : vgNil [] σ H Q = Q σ H := by unfold vgNil; simp
theorem q_gcons {e : Expr} {es : List Expr} {t : TG} {u : TGs} (h1 : PG X e t) (h2 : PGs X es u)
    (hs : (assignEach (e :: es) X.env).map (·.2) = assign e X.env :: (assignEach es X.env).map (·.2) := by rfl) : PGs X (e :: es) (vgCons t u) := im_pgs (pgs_cons h1 h2 hs) fun vs σ H Q z => by
  cases vs with
  | nil => exact (show False from z).elim
  | cons v r => exact ⟨v, r, rfl, z⟩
theorem q_gnil : PGs X [] vgNil := pgs_nil
theorem q_gtup {es : List Expr} {kk : Nat} {t : TGs} {n : Nat} {pos : Pos} (hc : X.calm = true) (h : PGs X es t)
    (hn : (assignEach es X.env).length = n := by rfl) (hst : (assignEach es X.env).findIdx? (·.1) = none := by rfl) : PG X (.Tuple es kk pos) (vgTup n t) := im_pg (pg_tup hc h hn hst) fun v σ H Q z => by
  obtain ⟨a, e1, z1⟩ := refR_el z
  obtain ⟨xs, e2, e3, z2⟩ := tupO_el z1
  exact ⟨a, xs, e1, .inl e2, e3, z2⟩
theorem e_asgG (te : TE) (g : TG) (n : L2.St → Hp → Prop) (r : VK) (k l : L2.St → Hp → Prop) (σ : L2.St) (H : Hp) : tAsg te g ⟨n, r, k, l⟩ σ H = te σ H fun x H1 => g x σ H1 n := rfl
/-! what is walked -/
def upI (wi : TI) : TI := fun σ H R => ∃ R' : It → Hp → Prop, wi σ H R' ∧ ∀ J H', R' J H' → R J H'
theorem up_pi {tg it : Expr} {wi : TI} (h : PI X tg it wi) : PI X tg it (upI wi) := ⟨fun pins s σ H R I ⟨R', z, m⟩ => thn (h.run pins s σ H R' I z) fun v s1 h1 => thn h1 fun itv s2 ⟨it, fp, tn, J, H', e, I', T, st, f, q⟩ => ⟨it, fp, tn, J, H', e, I', T, st, f, m J H' q⟩⟩
theorem im_pi {tg it : Expr} {wi wi' : TI} (h : PI X tg it wi) (i : ∀ σ H R, wi' σ H R → wi σ H R) : PI X tg it wi' := ⟨fun pins s σ H R I z => h.run pins s σ H R I (i σ H R z)⟩
def viList (K : PySem.W.Frag) (tl : TE) : TI := fun σ H R => tl σ H fun x H1 => refR x fun a => lstO (H1 a) fun _ => R (Itl K a) H1
def viTup (K : PySem.W.Frag) (tl : TE) : TI := fun σ H R => tl σ H fun x H1 => refR x fun a => tupO (H1 a) fun _ => R (Itt K a) H1
def viStr (tl : TE) : TI := fun σ H R => tl σ H fun x H1 => strR x fun z => R (Its z) H1
def viR1 (ta : TA) : TI := fun σ H R => ta σ H fun vs H1 => one1 vs fun x => intR x fun j => (-(2 ^ 62) ≤ j ∧ j < 2 ^ 62) ∧ R (Itr 0 j.toNat) H1
def viEnum (K : PySem.W.Frag) (ta : TA) : TI := fun σ H R => ta σ H fun vs H1 => one1 vs fun x => refR x fun a => lstO (H1 a) fun _ => R (Ite K a) H1
section
variable {tg l : Expr} {tl : TE}
theorem qi_str (hl : PE X l tl) : PI X tg l (viStr tl) := im_pi (pi_str (up_pe hl)) fun _ _ _ h => ⟨_, h, fun _ _ z => by
  obtain ⟨a, e1, z1⟩ := strR_el z
  exact ⟨a, e1, z1⟩⟩
theorem qi_list (hl : PE X l tl) : PI X tg l (viList X.K tl) := im_pi (pi_list (up_pe hl)) fun _ _ _ h => ⟨_, h, fun _ _ z => by
  obtain ⟨a, e1, z1⟩ := refR_el z
  obtain ⟨xs, e2, z2⟩ := lstO_el z1
  exact ⟨a, e1, ⟨xs, SqL.of e2⟩, z2⟩⟩
theorem qi_tup (hl : PE X l tl) : PI X tg l (viTup X.K tl) := im_pi (pi_tup (up_pe hl)) fun _ _ _ h => ⟨_, h, fun _ _ z => by
  obtain ⟨a, e1, z1⟩ := refR_el z
  obtain ⟨xs, e2, z2⟩ := tupO_el z1
  exact ⟨a, e1, ⟨xs, .inl e2⟩, z2⟩⟩
theorem qi_r1 {a : Expr} {ta : TA} {p pos : Pos} (hg : Gl X "range") (hm : X.mg "range" = none) (ha : PA X [a] ta) (hs : starEach [a] X.env = [(false, eval a X.env)] := by rfl) : PI X tg (.Call (.Name "range" p) [a] [] pos) (viR1 ta) :=
  im_pi (pi_range1 hg hm (up_pa ha) hs) fun _ _ _ h => ⟨_, h, fun _ _ z => by
    obtain ⟨x, e1, z1⟩ := one1_el z
    obtain ⟨j, e2, ⟨h1, h2⟩, z2⟩ := intR_el z1
    subst e2
    exact ⟨j, e1, h1, h2, z2⟩⟩
theorem qi_enum {e : Expr} {ta : TA} {p pos tpos : Pos} {elts : List Expr} {kk : Nat} (hg : Gl X "enumerate") (hm : X.mg "enumerate" = none) (ha : PA X [e] ta) (hs : starEach [e] X.env = [(false, eval e X.env)] := by rfl) :
    PI X (.Tuple elts kk tpos) (.Call (.Name "enumerate" p) [e] [] pos) (viEnum X.K ta) := im_pi (pi_enum hg hm (up_pa ha) hs) fun _ _ _ h => ⟨_, h, fun _ _ z => by
    obtain ⟨x, e1, z1⟩ := one1_el z
    obtain ⟨j, e2, z2⟩ := refR_el z1
    obtain ⟨xs, e3, z3⟩ := lstO_el z2
    subst e2
    exact ⟨j, xs, e1, SqL.of e3, z3⟩⟩
end
def vFor (wi : TI) (g : TG) (tb : TS) : TS := fun D σ H => wi σ H fun J H1 => ∃ (n : Nat) (G : Hp → Prop) (Y : Nat → Hp → V → Hp → Prop) (Pv : Nat → L2.St → Hp → Prop), Walk J n G Y ∧ Pv 0 σ H1 ∧ (∀ i σ H, i ≤ n → Pv i σ H → G H) ∧
  (∀ i x σ H H', i < n → Pv i σ H → Y i H x H' → g x σ H' fun σ2 H2 => Later (tb ⟨Pv (i + 1), D.rt, D.nx, Pv (i + 1)⟩) σ2 H2) ∧ ∀ σ H, Pv n σ H → D.nx σ H
theorem q_for {tg iter : Expr} {body : List Stmt} {wi : TI} {g : TG} {tb : TS} {pos : Pos} (hp : PassesOwn (model X.prog X.w) X.A X.env X.xe) (hc : X.calm = true) (hi : PI X tg iter wi) (hg : PG X tg g) (hb : PSs X body tb)
    (hs : ∀ x, foldedSetIterable iter X.env x = pure x := by intro _; rfl) : PS X (.For tg iter body [] pos) (vFor wi g tb) := im_ps (ps_for hp hc (up_pi hi) hg hb hs) fun D σ H h => ⟨_, h, fun J H1 z => by
  obtain ⟨n, G, Y, Pv, w, h0, hG, hs, hd⟩ := z
  exact for_it w Pv h0 hG hs hd⟩
theorem e_for {wi : TI} {g : TG} {tb : TS} (n : L2.St → Hp → Prop) (r : VK) (k l : L2.St → Hp → Prop) (σ : L2.St) (H : Hp) : vFor wi g tb ⟨n, r, k, l⟩ σ H =
    wi σ H fun J H1 => ∃ (m : Nat) (G : Hp → Prop) (Y : Nat → Hp → V → Hp → Prop) (Pv : Nat → L2.St → Hp → Prop), Walk J m G Y ∧ Pv 0 σ H1 ∧ (∀ i σ H, i ≤ m → Pv i σ H → G H) ∧
      (∀ i x σ H H', i < m → Pv i σ H → Y i H x H' → g x σ H' fun σ2 H2 => Later (tb ⟨Pv (i + 1), r, n, Pv (i + 1)⟩) σ2 H2) ∧ ∀ σ H, Pv m σ H → n σ H := rfl
/-! comprehensions -/
theorem up_pts {es : List Expr} {t : TT} (h : PTs X es t) : PTs X es (upT t) := ⟨fun pins s σ H Q I ⟨Q', z, m⟩ => thn (h.run pins s σ H Q' I z) fun _ _ ⟨H', I', q⟩ => ⟨H', I', m _ H' q⟩⟩
def vLc (wi : TI) (g : TG) (tt : TT) (te : TE) (vs : List Nat) : TE := fun σ H Q => wi σ H fun J H1 => ∀ D, H1 D = none → ∃ (n : Nat) (G : Hp → Prop) (Y : Nat → Hp → V → Hp → Prop) (Pv : Nat → Hp → Prop), Walk J n G Y ∧ Pv 0 (upd H1 D (.lst [])) ∧ (∀ i H, i ≤ n → Pv i H → G H) ∧
  (∀ i x H H', i < n → Pv i H → Y i H x H' → g x (wipe σ vs) H' fun σ2 H2 => wipe σ2 vs = wipe σ vs ∧ tt σ2 H2 fun b H3 => if b = true then te σ2 H3 fun y H4 => lstO (H4 D) fun acc => acc.length < sizeLine ∧ Pv (i + 1) (upd H4 D (.lst (acc ++ [y]))) else Pv (i + 1) H3) ∧ ∀ H, Pv n H → Q (.ref D) H
theorem vLc_to {wi : TI} {g : TG} {tt : TT} {te : TE} {vs : List Nat} {σ : L2.St} {H : Hp} {Q : VK} (h : vLc wi g tt te vs σ H Q) : tLc (upI wi) (upG g) (upT tt) (upE te) vs σ H Q := ⟨_, h, fun J H1 z D hD => by
  obtain ⟨n, G, Y, Pv, w, h0, hG, hs, hd⟩ := z D hD
  refine lc_it w Pv h0 hG (fun i x H H' hi p y => ⟨_, hs i x H H' hi p y, fun σ2 H2 q => ⟨q.1, _, q.2, fun b H3 q3 => ?_⟩⟩) hd
  cases b with
  | true => exact ⟨_, q3, fun y H4 q4 => by
      obtain ⟨acc, e, z⟩ := lstO_el q4
      exact ⟨acc, e, z.1, z.2⟩⟩
  | false => exact q3⟩
theorem q_lc {elt tg iter : Expr} {ifs : List Expr} {scope : Scope} {own : List (Str × Nat)} {pos : Pos} {wi : TI} {g : TG} {tt : TT} {te : TE} (hc : X.calm = true) (hN : X.N.Nodup) (hi : PI X tg iter wi) (ok : BlkOk X.N X.env.scope scope own)
    (hg : ∀ (s : Shared) (H : Hp) (C : Addr) (cl : List (Str × Addr)) (fp : List Addr), PG (X.blk s H scope (compEnvC scope cl C X.env) fp) tg g) (ht : ∀ (s : Shared) (H : Hp) (C : Addr) (cl : List (Str × Addr)) (fp : List Addr), PTs (X.blk s H scope (compEnvC scope cl C X.env) fp) ifs tt)
    (he : ∀ (s : Shared) (H : Hp) (C : Addr) (cl : List (Str × Addr)) (fp : List Addr), PE (X.blk s H scope (compEnvC scope cl C X.env) fp) elt te) (hs : ∀ x, foldedSetIterable iter X.env x = pure x := by intro _; rfl) :
    PE X (.ListComp elt [⟨tg, iter, ifs, 0⟩] scope pos) (vLc wi g tt te (own.map (·.2))) :=
  im_pe (pe_lc hc hN (up_pi hi) ok (fun s H C cl fp => up_pg (hg s H C cl fp)) (fun s H C cl fp => up_pts (ht s H C cl fp)) (fun s H C cl fp => up_pe (he s H C cl fp)) hs) fun _ _ _ h => vLc_to h
theorem q_setLc {i : Nat} {y : Str} {py : Pos} {elt tg iter : Expr} {ifs : List Expr} {scope : Scope} {own : List (Str × Nat)} {pos spos : Pos} {wi : TI} {g : TG} {tt : TT} {te : TE} (hc : X.calm = true) (hN : X.N.Nodup) (hy : X.N[i]? = some y) (hyl : X.env.scope.names.lookup y = some .local)
    (hsw : swapsWith (.ListComp elt [⟨tg, iter, ifs, 0⟩] scope pos) (some (.Name y py)) spos.line X.env = pure true) (hi : PI X tg iter wi) (ok : BlkOk X.N X.env.scope scope own)
    (hg : ∀ (s : Shared) (H : Hp) (C : Addr) (cl : List (Str × Addr)) (fp : List Addr), PG (X.blk s H scope (compEnvC scope cl C X.env) fp) tg g) (ht : ∀ (s : Shared) (H : Hp) (C : Addr) (cl : List (Str × Addr)) (fp : List Addr), PTs (X.blk s H scope (compEnvC scope cl C X.env) fp) ifs tt)
    (he : ∀ (s : Shared) (H : Hp) (C : Addr) (cl : List (Str × Addr)) (fp : List Addr), PE (X.blk s H scope (compEnvC scope cl C X.env) fp) elt te) (hs : ∀ x, foldedSetIterable iter X.env x = pure x := by intro _; rfl) :
    PS X (.Assign [.Name y py] (.ListComp elt [⟨tg, iter, ifs, 0⟩] scope pos) spos) (tAsg (vLc wi g tt te (own.map (·.2))) (gName i)) :=
  im_ps (ps_setLc hc hN hy hyl hsw (up_pi hi) ok (fun s H C cl fp => up_pg (hg s H C cl fp)) (fun s H C cl fp => up_pts (ht s H C cl fp)) (fun s H C cl fp => up_pe (he s H C cl fp)) hs) fun _ _ _ h => vLc_to h
end
section
variable {X : Cx}
theorem _root_.L2.Room.units1 {k : Nat} {A : Around} (r : Room k A) : A.units + 65 < cLine := by have := r.un; omega
def rInDT (K : PySem.W.Frag) : R2 := fun x y H Q => ∃ d ds, Dp K H x d ∧ Dp K H y (.tuple ds) ∧ SeqAt.shaped d = true ∧ SeqAt.shaped (.tuple ds) = true ∧ Q (.bl (ds.any fun z => PyData.eqv z d)) H
theorem op_inDT (hu : X.A.units + 65 < cLine) : OpR X (compareOp .In) (rInDT X.K) := by
  rintro pins s σ H x y v u Q I rx ry ⟨d, ds, hd, he, sd, se, q⟩
  obtain ⟨as, r1⟩ := Dp.reads I d x v hd rx
  obtain ⟨bs, r2⟩ := Dp.reads I (.tuple ds) y u he ry
  have h1 := SeqAt.canLay_of_shaped se
  exact SeqAt.in_tuple_reads r2 r1 h1 (SeqAt.canLay_of_shaped sd) (room_in_shaped sd hu) ⟨.bl _, H, I, rfl, q⟩
def wInT (neg : Bool) : R2 := fun x y H Q => refR y fun p => tupO (H p) fun xs => (flatV x = true ∧ xs.all flatV = true) ∧ Q (.bl (if neg then !inV x xs else inV x xs)) H
theorem o_inT : OpR X (compareOp .In) (wInT false) := im_op op_in_seq fun x y H Q z => by
  obtain ⟨p, e1, z1⟩ := refR_el z
  obtain ⟨xs, e2, ⟨h1, h2⟩, z2⟩ := tupO_el z1
  exact ⟨p, xs, e1, .inr (.inl e2), h1, h2, z2⟩
theorem o_notInT : OpR X (compareOp .NotIn) (wInT true) := im_op op_notIn_seq fun x y H Q z => by
  obtain ⟨p, e1, z1⟩ := refR_el z
  obtain ⟨xs, e2, ⟨h1, h2⟩, z2⟩ := tupO_el z1
  exact ⟨p, xs, e1, .inr (.inl e2), h1, h2, z2⟩
theorem q_gi {x : Str} {i : Int} {pos : Pos} (hg : Gl X x) (hm : ∃ t, X.mg x = some (.int i t)) (hd : (x == ("__debug__" : Str)) = false := by decide) : PE X (.Name x pos) (tC (.int i)) := by
  obtain ⟨t, e⟩ := hm
  exact pe_glob hg e ⟨t, rfl⟩ hd
def vRev (te : TE) : TE := fun σ H Q => te σ H fun x H1 => refR x fun a => lstO (H1 a) fun xs => ∀ p, H1 p = none → Q (.ref p) (upd H1 p (.lst xs.reverse))
theorem q_rev {e : Expr} {te : TE} {k : Nat} {p1 p2 p3 pos : Pos} (he : PE X e te) : PE X (.Subscript e (.Slice none none (some (.UnaryOp .USub (.Constant (.int 1) k p1) p2)) p3) pos) (vRev te) := im_pe (pe_revL (up_pe he)) fun _ _ _ h => ⟨_, h, fun _ _ z => by
  obtain ⟨a, e1, z1⟩ := refR_el z
  obtain ⟨xs, e2, z2⟩ := lstO_el z1
  exact ⟨a, xs, e1, SqL.of e2, z2⟩⟩
theorem q_gr {x : Str} {a : Addr} {pos : Pos} (hg : Gl X x) (hm : X.mg x = some (.ref a)) (hd : (x == ("__debug__" : Str)) = false := by decide) : PE X (.Name x pos) (tC (.ref a)) := pe_glob hg hm (show RelV (.ref a) (.ref a) from rfl) hd
def wMulS : R2 := fun x y H Q => strR x fun z => intR y fun n => MulOk z n ∧ Q (.str (Txt.mul z n)) H
theorem o_mulS : OpR X (binaryOp .Mult) wMulS := by
  intro pins s σ H x y v u Q I rx ry z
  obtain ⟨a, e1, z1⟩ := strR_el z
  obtain ⟨n, e2, ok, q⟩ := intR_el z1
  subst e1; subst e2
  obtain ⟨t, rfl⟩ := rx
  obtain ⟨t', rfl⟩ := ry
  exact SB.mul ok fun t2 k => ⟨.str _, H, I.tok _, ⟨_, rfl⟩, q⟩
def frzO (o : Option HO) (k : Obj → List (Key × V) → Prop) : Prop := match o with | some (.frz od (.dK kvs)) => k od kvs | _ => False
theorem frzO_e {od : Obj} {kvs : List (Key × V)} {k : Obj → List (Key × V) → Prop} : frzO (some (.frz od (.dK kvs))) k = k od kvs := rfl
theorem frzO_el {o : Option HO} {k : Obj → List (Key × V) → Prop} (h : frzO o k) : ∃ od kvs, o = some (.frz od (.dK kvs)) ∧ k od kvs := by
  unfold frzO at h
  split at h
  · exact ⟨_, _, rfl, h⟩
  · exact h.elim
def viItems (td : TE) : TI := fun σ H R => td σ H fun x H1 => refR x fun d => frzO (H1 d) fun o kvs => R (Iti d o kvs) H1
def viKeys (td : TE) : TI := fun σ H R => td σ H fun x H1 => refR x fun d => frzO (H1 d) fun o kvs => R (Itk d o kvs) H1
theorem qi_items {elts : List Expr} {kk : Nat} {tpos apos cpos : Pos} {e : Expr} {td : TE} (he : PE X e td) (hbase : attributeBase e "items" X.env (eval e X.env) = eval e X.env := by rfl) (hline : (apos.endLine == cpos.line) = true := by rfl) :
    PI X (.Tuple elts kk tpos) (.Call (.Attribute e "items" apos) [] [] cpos) (viItems td) := im_pi (pi_items (up_pe he) hbase hline) fun _ _ _ h => ⟨_, h, fun _ _ z => by
  obtain ⟨d, e1, z1⟩ := refR_el z
  obtain ⟨o, kvs, e2, z2⟩ := frzO_el z1
  exact ⟨d, o, kvs, e1, e2, z2⟩⟩
theorem qi_keys {tg e : Expr} {td : TE} (he : PE X e td) : PI X tg e (viKeys td) := im_pi (pi_keys (up_pe he)) fun _ _ _ h => ⟨_, h, fun _ _ z => by
  obtain ⟨d, e1, z1⟩ := refR_el z
  obtain ⟨o, kvs, e2, z2⟩ := frzO_el z1
  exact ⟨d, o, e1, .inl ⟨kvs, e2, z2⟩⟩⟩
theorem e_lock {t : TS} (n : L2.St → Hp → Prop) (r : VK) (k l : L2.St → Hp → Prop) (σ : L2.St) (H : Hp) : tLock t ⟨n, r, k, l⟩ σ H = ∃ d u, H d = some u ∧ Mut (some u) ∧ ∀ od, t ⟨fun σ' H' => H' d = some (.frz od u) ∧ n σ' (upd H' d u), fun v H' => H' d = some (.frz od u) ∧ r v (upd H' d u),
    fun σ' H' => H' d = some (.frz od u) ∧ k σ' (upd H' d u), fun σ' H' => H' d = some (.frz od u) ∧ l σ' (upd H' d u)⟩ σ (upd H d (.frz od u)) := rfl
end
end OA

namespace OA
open PySem PySem.Spec PyProof.Rows L2
/-! dicts whose keys are tuples within tuples -/
mutual
/-- the value v is such a key, by what is tracked -/
inductive KeyAt (H : Hp) : V → NestedKey → Prop
  | non : KeyAt H .non .none
  | bl (b : Bool) : KeyAt H (.bl b) (.num (if b = true then 1 else 0))
  | int (i : Int) : KeyAt H (.int i) (.num i)
  | str (x : Str) : KeyAt H (.str x) (.text x)
  | tup {a : Addr} {vs : List V} {ks : List NestedKey} : H a = some (.tup vs) → KeysAt H vs ks → KeyAt H (.ref a) (.tup ks)
inductive KeysAt (H : Hp) : List V → List NestedKey → Prop
  | nil : KeysAt H [] []
  | cons {v : V} {k : NestedKey} {vs : List V} {ks : List NestedKey} : KeyAt H v k → KeysAt H vs ks → KeysAt H (v :: vs) (k :: ks)
end
section
variable {H H' : Hp}
mutual
theorem KeyAt.mono (ht : ∀ b xs, H b = some (.tup xs) → H' b = some (.tup xs)) : ∀ (k : NestedKey) (v : V), KeyAt H v k → KeyAt H' v k
  | .none, _, h => by cases h; exact .non
  | .num _, _, h => by
    cases h with
    | bl b => exact .bl b
    | int => exact .int _
  | .text _, _, h => by cases h; exact .str _
  | .tup ks, _, h => by
    cases h with
    | tup e r => exact .tup (ht _ _ e) (KeysAt.mono ht ks _ r)
theorem KeysAt.mono (ht : ∀ b xs, H b = some (.tup xs) → H' b = some (.tup xs)) : ∀ (ks : List NestedKey) (vs : List V), KeysAt H vs ks → KeysAt H' vs ks
  | [], _, h => by cases h; exact .nil
  | k :: ks, _, h => by
    cases h with
    | cons a b => exact .cons (KeyAt.mono ht k _ a) (KeysAt.mono ht ks _ b)
end
end
section
variable {X : Cx} {pins : List (Addr × Obj)} {σ : L2.St} {H : Hp} {s : Shared}
mutual
theorem KeyAt.is (I : Inv X pins σ H s) : ∀ (k : NestedKey) (v : V) (u : Value), KeyAt H v k → RelV v u → NestedIs s.heap k u
  | .none, _, _, h, r => by
    cases h
    cases r
    exact .none
  | .num _, _, _, h, r => by
    cases h with
    | bl b =>
      cases r
      exact .bool rfl
    | int =>
      obtain ⟨t, rfl⟩ := r
      exact .int _ t
  | .text x, _, _, h, r => by
    cases h
    obtain ⟨t, rfl⟩ := r
    exact .text x t
  | .tup ks, _, _, h, r => by
    cases h with
    | tup e q =>
      cases r
      obtain ⟨its, rv, ⟨o, ho, hc, n, hd⟩, _⟩ := I.tuple (SqT.of e)
      exact .tup ho hc hd (by simpa using KeysAt.is I ks _ its q rv)
theorem KeysAt.is (I : Inv X pins σ H s) : ∀ (ks : List NestedKey) (vs : List V) (us : List Value), KeysAt H vs ks → Vals vs us → NestedAll s.heap ks us
  | [], _, _, h, r => by
    cases h
    cases r
    exact .nil
  | k :: ks, _, _, h, r => by
    cases h with
    | cons h1 h2 =>
      cases r with
      | cons r1 r2 => exact .cons (KeyAt.is I k _ _ h1 r1) (KeysAt.is I ks _ _ h2 r2)
end
end
/-- an entry: the key, its tuple, the value -/
abbrev NE := NestedKey × Addr × V
abbrev relN : List NE → List (NestedKey × Addr × Value) → Prop := Paired fun p q => p.1 = q.1 ∧ p.2.1 = q.2.1 ∧ RelV p.2.2 q.2.2
def rawD (P : Program) (w : World) (d : Addr) (es : List NE) (h : Heap) : Prop := es.length ≤ sizeLine ∧ (d == sysModules) = false ∧ ∃ xs, relN es xs ∧
  ∃ o ea ep, h.get? d = some o ∧ o.ExactDict ∧ o.data = .dict ea ep ∧ ea.toList = xs.map (entryOfKey (nestedKind P w)) ∧ (xs.map (·.1)).Nodup
/-- at d stands a dict with such keys and the values kvs -/
def NDict (P : Program) (w : World) (H : Hp) (d : Addr) (kvs : List (NestedKey × V)) : Prop := ∃ es : List NE, es.map (fun x => (x.1, x.2.2)) = kvs ∧ H d = some (.ext (rawD P w d es)) ∧ ∀ x ∈ es, KeyAt H (.ref x.2.1) x.1 ∧ x.1.depth ≤ 8
theorem rawD_stays {P : Program} {w : World} {d : Addr} {es : List NE} : ∀ h1 h2 : Heap, rawD P w d es h1 → (∀ o, h1.get? d = some o → h2.get? d = some o) → rawD P w d es h2 := fun h1 h2 ⟨z, hd, xs, r, o, ea, ep, e, q⟩ k => ⟨z, hd, xs, r, o, ea, ep, k o e, q⟩
theorem NDict.keep {P : Program} {w : World} {H H' : Hp} {d : Addr} {kvs : List (NestedKey × V)} (h : NDict P w H d kvs) (hd : ∀ o, H d = some o → H' d = some o) (ht : ∀ b xs, H b = some (.tup xs) → H' b = some (.tup xs)) : NDict P w H' d kvs := by
  obtain ⟨es, e, h1, h2⟩ := h
  exact ⟨es, e, hd _ h1, fun x hx => ⟨KeyAt.mono ht _ _ (h2 x hx).1, (h2 x hx).2⟩⟩
theorem relN_kv : ∀ {es : List NE} {xs : List (NestedKey × Addr × Value)}, relN es xs → KV (es.map fun x => (x.1, x.2.2)) (pairsH xs)
  | _, _, .nil => .nil
  | _, _, .cons r t => .cons ⟨r.1, r.2.2⟩ (relN_kv t)
section
variable {X : Cx} {pins : List (Addr × Obj)} {σ : L2.St} {H : Hp} {s : Shared} {d a : Addr} {k : NestedKey}
theorem relN_mem : ∀ {es : List NE} {xs : List (NestedKey × Addr × Value)}, relN es xs → ∀ x ∈ xs, ∃ y ∈ es, y.1 = x.1 ∧ y.2.1 = x.2.1
  | _, _, .nil, x, h => by simp at h
  | _, _, .cons r t, x, h => by
    rcases List.mem_cons.mp h with rfl | h
    · exact ⟨_, List.mem_cons_self, r.1, r.2.1⟩
    · obtain ⟨y, hy, e⟩ := relN_mem t x h
      exact ⟨y, List.mem_cons_of_mem _ hy, e⟩
theorem keyIs (I : Inv X pins σ H s) (h : KeyAt H (.ref a) k) (hk : k.depth ≤ 8) : (nestedKind X.prog X.w).is s.heap k a := ⟨KeyAt.is I k _ _ h (show RelV (.ref a) (.ref a) from rfl), hk⟩
theorem NDict.raw (I : Inv X pins σ H s) {es : List NE} (h : H d = some (.ext (rawD X.prog X.w d es))) (hk : ∀ x ∈ es, KeyAt H (.ref x.2.1) x.1 ∧ x.1.depth ≤ 8) :
    es.length ≤ sizeLine ∧ (d == sysModules) = false ∧ ∃ xs, relN es xs ∧ s.heap.DictOfH (nestedKind X.prog X.w) d xs := by
  obtain ⟨⟨z, hd, xs, r, o, ea, ep, e, q1, q2, q3, q4⟩, _⟩ := (show ObjOk X.prog X.w H s.heap d (.ext (rawD X.prog X.w d es)) from I.hok d _ h)
  refine ⟨z, hd, xs, r, o, ea, ep, e, q1, q2, q3, fun x hx => ?_, q4⟩
  obtain ⟨y, hy, e1, e2⟩ := relN_mem r x hx
  rw [← e1, ← e2]
  exact keyIs I (hk y hy).1 (hk y hy).2
theorem NDict.keyed (I : Inv X pins σ H s) {kvs : List (NestedKey × V)} (h : NDict X.prog X.w H d kvs) : (d == sysModules) = false ∧ ∃ vs, KV kvs vs ∧ s.heap.DictKeyed (nestedKind X.prog X.w) d vs := by
  obtain ⟨es, rfl, h1, h2⟩ := h
  obtain ⟨z, hd, xs, r, m⟩ := NDict.raw I h1 h2
  exact ⟨hd, pairsH xs, relN_kv r, xs, m, rfl⟩
theorem roomN {A : Around} (hu : A.units + 64 < cLine) : (nestedKind X.prog X.w).room A.in1 := by
  show A.units + 1 + 8 < cLine
  omega
/-- y in d -/
def wInN (P : Program) (w : World) : R2 := fun y x H Q => ∃ a d k kvs, y = .ref a ∧ x = .ref d ∧ KeyAt H (.ref a) k ∧ k.depth ≤ 8 ∧ NDict P w H d kvs ∧ Q (.bl (valV kvs k).isSome) H
theorem o_inN (hu : X.A.units + 64 < cLine) : OpR X (compareOp .In) (wInN X.prog X.w) := by
  intro pins s σ H y x v u Q I ry rx h
  obtain ⟨a, d, k, kvs, rfl, rfl, hk, hd8, hn, q⟩ := h
  cases ry
  cases rx
  obtain ⟨hs, vs, kv, m⟩ := NDict.keyed I hn
  refine in_keyed (roomN hu) (keyIs I hk hd8) hs m ?_
  rw [← (kv.val k).isSome_eq]
  exact ⟨.bl _, H, I.tok _, rfl, q⟩
def wGetN (P : Program) (w : World) : R2 := fun x y H Q => ∃ a d k kvs v, x = .ref d ∧ y = .ref a ∧ KeyAt H (.ref a) k ∧ k.depth ≤ 8 ∧ NDict P w H d kvs ∧ valV kvs k = some v ∧ Q v H
theorem q_getN {o i : Expr} {td ty : TE} {pos : Pos} (hu : X.A.units + 64 < cLine) (ho : PE X o td) (hi : PE X i ty) (hs : NoSl i) : PE X (.Subscript o i pos) (tOp (wGetN X.prog X.w) td ty) := by
  refine ⟨fun pins s σ H Q I h => subD_of PySem.F.slot_dict_getitem.lookup hs (thn (ho.run pins s σ H _ I h) fun u s1 z1 => ?_)⟩
  obtain ⟨x, H1, I1, rx, q1⟩ := z1
  refine thn (hi.run pins s1 σ H1 _ I1 q1) fun iv s2 z2 => ?_
  obtain ⟨y, H2, I2, ry, a, d, k, kvs, v, rfl, rfl, hk, hd8, hn, hv, q⟩ := z2
  cases ry
  cases rx
  obtain ⟨hs, vs, kv, m⟩ := NDict.keyed I2 hn
  obtain ⟨w', hw, rw'⟩ := RelO.some_of (v := v) (o := valueAt vs k) (by rw [← hv]; exact kv.val k)
  exact ⟨m.typeIs, getItem_keyed (roomN hu) (keyIs I2 hk hd8) m hw ⟨v, H2, I2.tok _, rw', q⟩⟩
def wNewN (P : Program) (w : World) : TE := fun _ H Q => ∀ p o, H p = none → NDict P w (upd H p o) p [] → Q (.ref p) (upd H p o)
theorem q_newN {pos : Pos} : PE X (.Dict [] [] pos) (wNewN X.prog X.w) := ⟨fun pins s σ H Q I h => by
  have hb : sysModules < s.heap.objs.size := I.big
  have raw : rawD X.prog X.w s.heap.objs.size [] (s.heap.push { cls := .type "dict", data := .dict #[] }) :=
    ⟨Nat.zero_le _, beq_eq_false_iff_ne.mpr (Ne.symm (Nat.ne_of_lt hb)), [], .nil, _, #[], 0, Heap.get?_push_size _ rfl, ⟨rfl, rfl, rfl⟩, rfl, rfl, List.nodup_nil⟩
  have hn := I.hok.fresh (Nat.le_refl s.heap.objs.size)
  refine wpAny_Dict_empty ⟨.ref s.heap.objs.size, _, I.laid (a := s.heap.objs.size) (o := .ext (rawD X.prog X.w s.heap.objs.size [])) (t' := s.toks) (fun _ _ q => Heap.get?_push_of_some _ q) (Nat.le_refl _) ⟨raw, ⟨_, Heap.get?_push_size _ rfl⟩, rawD_stays⟩, rfl, h _ _ hn ?_⟩
  exact ⟨[], rfl, upd_same, fun x hx => by simp at hx⟩⟩
/-- d[y] = v, the key not there -/
def wPutN (P : Program) (w : World) : TSet := fun x y v H Q => ∃ a d k kvs, x = .ref d ∧ y = .ref a ∧ KeyAt H (.ref a) k ∧ k.depth ≤ 8 ∧ NDict P w H d kvs ∧ valV kvs k = none ∧ kvs.length < sizeLine ∧ ∀ o, NDict P w (upd H d o) d (kvs ++ [(k, v)]) → Q (upd H d o)
theorem s_putN (hu : X.A.units + 64 < cLine) : PSet X (wPutN X.prog X.w) := by
  intro pins s σ H x y v ov iv u Q I rx ry rv h
  obtain ⟨a, d, k, kvs, rfl, rfl, hk, hd8, ⟨es, e0, h1, h2⟩, hv, hz, q⟩ := h
  cases rx
  cases ry
  obtain ⟨z, hd, xs, r, m⟩ := NDict.raw I h1 h2
  have hlen : es.length = kvs.length := by rw [← e0, List.length_map]
  have hx : xs.length = es.length := (Paired.length r).symm
  have hat : atKey xs k = none := by
    have q1 := (relN_kv r).val k
    rw [e0, hv] at q1
    have q2 := RelO.none_of q1
    rw [valueAt_pairsH] at q2
    exact Option.map_eq_none_iff.mp q2
  refine wpAny_setItem_heap (hsz := by rw [hx]; exact z) (roomN hu) (keyIs I hk hd8) m fun h' m' hs => ?_
  have est : storedH xs k a u = xs ++ [(k, a, u)] := by
    unfold storedH
    rw [if_neg (by rw [hat]; exact Bool.false_ne_true)]
  rw [est] at m'
  obtain ⟨o, ea, ep, ho, q1, q2, q3, q4, q5⟩ := m'
  have rel : relN (es ++ [(k, a, v)]) (xs ++ [(k, a, u)]) := by
    clear q q1 q2 q3 q4 q5 ho est hat hx hlen m z h1 h2 e0
    induction r with
    | nil => exact .cons ⟨rfl, rfl, rv⟩ .nil
    | cons p _ ih => exact .cons p ih
  have raw : rawD X.prog X.w d (es ++ [(k, a, v)]) h' := ⟨by rw [List.length_append, List.length_singleton]; omega, hd, _, rel, o, ea, ep, ho, q1, q2, q3, q5⟩
  refine ⟨_, d_write I (ob := .ext (rawD X.prog X.w d (es ++ [(k, a, v)]))) (by rw [h1]; exact True.intro) hs ⟨o, ho⟩ ⟨raw, ⟨o, ho⟩, rawD_stays⟩, q _ ⟨es ++ [(k, a, v)], ?_, upd_same, fun x hx => ?_⟩⟩
  · rw [List.map_append, e0]
    rfl
  · have ht : ∀ b xs, H b = some (.tup xs) → (upd H d (.ext (rawD X.prog X.w d (es ++ [(k, a, v)])))) b = some (.tup xs) := fun b xs e => by
      rw [upd_ne (ne_of e h1 (by simp))]
      exact e
    rcases List.mem_append.mp hx with hx | hx
    · exact ⟨KeyAt.mono ht _ _ (h2 x hx).1, (h2 x hx).2⟩
    · have : x = (k, a, v) := by simpa using hx
      subst this
      exact ⟨KeyAt.mono ht _ _ hk, hd8⟩
end
end OA

namespace OA
open PySem PySem.Spec PyProof.Rows L2
section
variable {X : Cx}
/-- a view of a dict's values -/
def viewV (p d : Addr) : HO := .ext fun h => h.get? p = some { cls := .type "dict_values", data := .fields #[.ref d] }
theorem viewV_ok {P : Program} {w : World} {H : Hp} {h : Heap} {p d : Addr} (e : h.get? p = some { cls := .type "dict_values", data := .fields #[.ref d] }) : ObjOk P w H h p (viewV p d) := ⟨e, ⟨_, e⟩, fun h1 h2 q k => k _ q⟩
def vVals (td : TE) : TE := fun σ H Q => td σ H fun x H1 => refR x fun d => dkO (H1 d) fun _ => ∀ p, H1 p = none → Q (.ref p) (upd H1 p (viewV p d))
theorem q_vals {e : Expr} {td : TE} {apos cpos : Pos} (he : PE X e td) (hbase : attributeBase e "values" X.env (eval e X.env) = eval e X.env := by rfl) (hline : (apos.endLine == cpos.line) = true := by rfl) : PE X (.Call (.Attribute e "values" apos) [] [] cpos) (vVals td) := by
  refine ⟨fun pins s σ H Q I h => wpAny_Call_method (T := "dict") (id := "dict.values") hbase rfl hline F.plainAttrs_dict F.slot_dict_values F.type_dict_values (thn (he.run pins s σ H _ I h) fun u s1 z => ?_)⟩
  obtain ⟨x, H1, I1, rx, z1⟩ := z
  obtain ⟨d, ex, z2⟩ := refR_el z1
  obtain ⟨kvs, ed, q⟩ := dkO_el z2
  subst ex
  obtain rfl : u = Value.ref d := rx
  obtain ⟨hz, hs, vs, kv, dd⟩ := dk_of I1.hok ed
  refine ⟨dd.typeIs, dd.mapOf.noDict, ?_⟩
  have hn := I1.hok.fresh (Nat.le_refl s1.heap.objs.size)
  have fin : EP X pins σ Q (.ref s1.heap.objs.size) { s1 with heap := s1.heap.push { cls := .type "dict_values", data := .fields #[.ref d] } } :=
    ⟨.ref s1.heap.objs.size, _, I1.laid (a := s1.heap.objs.size) (o := viewV s1.heap.objs.size d) (t' := s1.toks) (fun b u e => Heap.get?_push_of_some _ e) (Nat.le_refl _) (viewV_ok (Heap.get?_push_size _ rfl)), rfl, q _ hn⟩
  show wpAny _ _ (callWith cpos (.builtin "dict.values") [.ref d] [] []) _ X.xe s1
  exact method_meetsIn F.slot_dict_values F.entry_dict_values rfl (PySem.evalArgs_none ⟨rfl, dd.typeIs, F.args_dict_values_1 _, _, meets_dict_values (mixKind X.prog X.w) d hs, ⟨vs, dd⟩, fin⟩)
def wMaxV : List V → List V → Hp → VK → Prop := fun vs zs H Q => ∃ (p d : Addr) (kvs : List (Key × V)) (ns : List Int) (d0 : Int), vs = [.ref p] ∧ zs = [.int d0] ∧ H p = some (viewV p d) ∧ H d = some (.dK kvs) ∧ kvs.map Prod.snd = ns.map V.int ∧
  ∀ m, (ns = [] → m = d0) → (ns ≠ [] → m ∈ ns ∧ ∀ y ∈ ns, y ≤ m) → Q (.int m) H
theorem c_maxV (hc : X.calm = true) : CallRK X (.builtin "max") [Str.ofString "default"] wMaxV := by
  intro pins s σ H xs zs us ws Q I rx rz h
  obtain ⟨p, d, kvs, ns, d0, rfl, rfl, hp, hd, hns, q⟩ := h
  obtain ⟨u, rfl, ru⟩ := rx.one
  obtain ⟨w1, rfl, t0, rfl⟩ := rz.one
  cases ru
  obtain ⟨hz, hs, vs, kv, dd⟩ := dk_of I.hok hd
  obtain ⟨ep, da⟩ := dd.dictAt
  have hv : s.heap.IsValuesView p d := ⟨_, (show ObjOk X.prog X.w H s.heap p (viewV p d) from I.hok p _ hp).1, rfl, rfl⟩
  have hl : kvs.length = vs.length := kv.length
  have hl2 : vs.length = ns.length := by
    have e := congrArg List.length hns
    rw [List.length_map, List.length_map] at e
    omega
  have hdlt : d < s.heap.objs.size := da.lt_size
  have val : ∀ (i : Nat) (v : Value), (∃ k, vs[i]? = some (k, v)) → ∃ t, v = .int (ns.getD i 0) t := by
    rintro i v ⟨k, hk⟩
    have hi : i < vs.length := (List.getElem?_eq_some_iff.mp hk).1
    have hi2 : i < kvs.length := by omega
    have hi3 : i < ns.length := by omega
    obtain ⟨k1, hk1, r⟩ : ∃ k1 : Key × Value, vs[i]? = some k1 ∧ kvs[i].1 = k1.1 ∧ RelV kvs[i].2 k1.2 := by
      have gen : ∀ {as : List (Key × V)} {bs : List (Key × Value)} (j : Nat) (h : j < as.length), KV as bs → ∃ y, bs[j]? = some y ∧ as[j].1 = y.1 ∧ RelV as[j].2 y.2 := by
        intro as bs j h r
        induction r generalizing j with
        | nil => simp at h
        | cons a _ ih =>
          cases j with
          | zero => exact ⟨_, rfl, a.1, a.2⟩
          | succ j => exact ih j (by simpa using h)
      exact gen i hi2 kv
    rw [hk] at hk1
    cases hk1
    have e2 : kvs[i].2 = V.int ns[i] := by
      have z : (kvs.map Prod.snd)[i]? = (ns.map V.int)[i]? := by rw [hns]
      rw [List.getElem?_map, List.getElem?_map, List.getElem?_eq_getElem hi2, List.getElem?_eq_getElem hi3] at z
      exact Option.some.inj z
    rw [e2] at r
    obtain ⟨t, e⟩ := r.2
    exact ⟨t, by rw [show ns.getD i 0 = ns[i] by simp [hi3]]; exact e⟩
  have ne : d ≠ s.heap.objs.size := Nat.ne_of_lt hdlt
  have keepI : ∀ b o, s.heap.get? b = some o → (s.heap.push { cls := .type "dict_valueiterator", data := .fields #[.ref d, .int 0 0, .int vs.length 0, .int ep 0] }).get? b = some o := fun b o e => Heap.get?_push_of_some _ e
  show wpAny _ _ (call (.builtin "max") [.ref p] [(Str.ofString "default", .int d0 t0)]) _ _ _
  refine call_max_walkD (wpAny_pyIter_values (knd := mixKind X.prog X.w) hv da ⟨s.heap.objs.size, [s.heap.objs.size, d], [s.heap.objs.size], _, vs.length, _, _, s.heap, (fun i j => decide (ns.getD i 0 > ns.getD j 0)), rfl, (Walks.dictValues (A := X.A.in1) (I.ok.hd hc) s.heap.objs.size d ne vs ep).toS, ⟨⟨_, Heap.get?_push_size _ rfl, rfl, rfl⟩, da.keep keepI⟩, fun b hb => ?_, fun b o e hb => ?_, keepI, fun hz s' m => ?_, fun hp0 => ⟨fun i j vi vj s' Q' E' _ hi hj hq => CmpOf.ints_gt (fun i => ns.getD i 0) val i j vi vj s' Q' E' hi hj hq, fun v s' hP m => ?_⟩⟩)
  · show b < (s.heap.push _).objs.size
    rw [Heap.size_push]
    rcases List.mem_cons.mp hb with rfl | hb
    · exact Nat.lt_succ_self _
    · rcases List.mem_cons.mp hb with rfl | hb
      · exact Nat.lt_succ_of_lt hdlt
      · cases hb
  · exact absurd (Heap.lt_size e) ((List.mem_singleton.mp hb) ▸ Nat.lt_irrefl _)
  · obtain ⟨h', tk, rfl, hk'⟩ := PySem.W.moved_old rfl rfl m
    have hn0 : ns = [] := List.eq_nil_of_length_eq_zero (by omega)
    exact ⟨.int d0, H, I.kept hk', ⟨t0, rfl⟩, q d0 (fun _ => rfl) fun h => absurd hn0 h⟩
  · obtain ⟨h', tk, rfl, hk'⟩ := PySem.W.moved_old rfl rfl m
    obtain ⟨t, rfl⟩ := val _ v hP
    obtain ⟨h1, h2⟩ := argBest_gt (fun i => ns.getD i 0) (vs.length - 1)
    refine ⟨.int _, H, I.kept hk', ⟨t, rfl⟩, q _ (fun h => ?_) fun _ => ⟨?_, fun y hy => ?_⟩⟩
    · rw [h] at hl2
      simp at hl2
      rw [hl2] at hp0
      simp at hp0
    · have hb : argBest (fun i j => decide (ns.getD i 0 > ns.getD j 0)) (vs.length - 1) < ns.length := by
        have h1' : argBest (fun i j => decide (ns.getD i 0 > ns.getD j 0)) (vs.length - 1) ≤ vs.length - 1 := h1
        omega
      generalize argBest (fun i j => decide (ns.getD i 0 > ns.getD j 0)) (vs.length - 1) = b at hb ⊢
      simp [hb]
    · obtain ⟨j, hj, rfl⟩ := List.getElem_of_mem hy
      have := h2 j (by omega)
      rw [show ns.getD j 0 = ns[j] by simp [hj]] at this
      exact this
end
end OA

namespace OA
open PySem L2
/-! lists of whole numbers, compared -/
theorem dpInts {K : PySem.W.Frag} {H : Hp} : ∀ ns : List Int, DpAll K H (ns.map V.int) (ns.map PyData.int)
  | [] => .nil
  | n :: ns => .cons (.int n) (dpInts ns)
theorem layInts : ∀ ns : List Int, PyData.canLayAll0 (ns.map PyData.int) = true
  | [] => rfl
  | n :: ns => by simp [PyData.canLayAll0, PyData.canLay0, layInts ns]
theorem depInts : ∀ ns : List Int, PyData.depthAll (ns.map PyData.int) ≤ 1
  | [] => by simp [PyData.depthAll]
  | n :: ns => by
    have := depInts ns
    simp only [List.map_cons, PyData.depthAll, PyData.depth]
    omega
theorem shapedInts (ns : List Int) : SeqAt.shaped (.list (ns.map PyData.int)) = true := by
  have := depInts ns
  have h : (PyData.list (ns.map PyData.int)).depth ≤ 64 := by
    simp only [PyData.depth]
    omega
  have c : (PyData.list (ns.map PyData.int)).canLay0 = true := by
    simp only [PyData.canLay0]
    exact layInts ns
  unfold SeqAt.shaped
  rw [c, decide_eq_true h]
  rfl
theorem eqvInts : ∀ xs ys : List Int, PyData.eqvAll (xs.map PyData.int) (ys.map PyData.int) = decide (xs = ys)
  | [], [] => by simp [PyData.eqvAll]
  | [], y :: ys => by simp [PyData.eqvAll]
  | x :: xs, [] => by simp [PyData.eqvAll]
  | x :: xs, y :: ys => by
    simp only [List.map_cons, PyData.eqvAll, PyData.eqv, eqvInts xs ys]
    by_cases h : x = y
    · subst h
      simp
    · simp [h]
section
variable {X : Cx}
def wEqLI (neg : Bool) : R2 := fun x y H Q => ∃ (a b : Addr) (xs ys : List Int), x = .ref a ∧ y = .ref b ∧ H a = some (.lst (xs.map V.int)) ∧ H b = some (.lst (ys.map V.int)) ∧ Q (.bl (if neg = true then !decide (xs = ys) else decide (xs = ys))) H
theorem o_neLI (hu : X.A.units + 64 < cLine) : OpR X (compareOp .NotEq) (wEqLI true) := im_op (op_neD hu) fun x y H Q ⟨a, b, xs, ys, e1, e2, h1, h2, q⟩ => ⟨.list (xs.map .int), .list (ys.map .int), by rw [e1]; exact .lst (SqL.of h1) (dpInts xs), by rw [e2]; exact .lst (SqL.of h2) (dpInts ys), shapedInts xs, shapedInts ys, by
  unfold PyData.eqv
  rw [eqvInts]
  exact q⟩
theorem o_eqLI (hu : X.A.units + 64 < cLine) : OpR X (compareOp .Eq) (wEqLI false) := im_op (op_eqD hu) fun x y H Q ⟨a, b, xs, ys, e1, e2, h1, h2, q⟩ => ⟨.list (xs.map .int), .list (ys.map .int), by rw [e1]; exact .lst (SqL.of h1) (dpInts xs), by rw [e2]; exact .lst (SqL.of h2) (dpInts ys), shapedInts xs, shapedInts ys, by
  unfold PyData.eqv
  rw [eqvInts]
  exact q⟩
theorem rgV_nat (n : Nat) : rgV 0 (n : Int) = (List.range n).map fun i => V.int (i : Nat) := by
  unfold rgV
  have e : ((n : Int) - 0).toNat = n := by omega
  rw [e]
  refine List.map_congr_left fun i _ => ?_
  rw [Int.zero_add]
/-- list(range(n)) -/
def vLstRg (te : TE) : TE := fun σ H Q => te σ H fun x H1 => intR x fun n => (0 ≤ n ∧ n ≤ 1000) ∧ ∀ q, H1 q = none → Q (.ref q) (upd H1 q (.lst ((List.range n.toNat).map fun i => V.int (i : Nat))))
theorem q_listRg {a : Expr} {ta : TE} {p p2 pos pos2 : Pos} (hc : X.calm = true) (hg : Gl X "list") (hm : X.mg "list" = none) (hg2 : Gl X "range") (hm2 : X.mg "range" = none) (ha : PE X a ta) (na : starEach [a] X.env = (false, eval a X.env) :: starEach [] X.env := by rfl)
    (nb : starEach [.Call (.Name "range" p2) [a] [] pos2] X.env = (false, eval (.Call (.Name "range" p2) [a] [] pos2) X.env) :: starEach [] X.env := by rfl) :
    PE X (.Call (.Name "list" p) [.Call (.Name "range" p2) [a] [] pos2] [] pos) (vLstRg ta) := im_pe (pe_listRg hc hg hm (prg_1 hg2 hm2 (up_pe ha) na) nb) fun σ H Q h => ⟨_, h, fun x H1 z => by
  obtain ⟨n, e, ⟨h0, h1⟩, z1⟩ := intR_el z
  obtain ⟨m, rfl⟩ := Int.eq_ofNat_of_zero_le h0
  refine ⟨(m : Int), e, RgOk.of_le (Int.le_refl 0) (by omega) (by omega) h0, fun q hq => ?_⟩
  rw [rgV_nat]
  exact z1 q hq⟩
def wLstD (vs : List V) (H : Hp) (Q : VK) : Prop := one1 vs fun x => refR x fun p => dkO (H p) fun kvs => ∀ l, H l = none → Q (.ref l) (upd H l (.lst (kvs.map fun kv => kV kv.1)))
theorem c_lstD (hc : X.calm = true) : CallR X (.type "list") wLstD := im_call (call_list_dK hc) fun xs H Q z => by
  obtain ⟨x, e1, z1⟩ := one1_el z
  obtain ⟨p, e2, z2⟩ := refR_el z1
  obtain ⟨kvs, e3, z3⟩ := dkO_el z2
  exact ⟨p, kvs, by rw [e1, e2], e3, z3⟩
end
end OA

namespace OA
open PySem PySem.Spec PyProof.Rows L2
section
variable {X : Cx}
/-- a dict comprehension over what is walked: D the new dict, Pv by the turn and the heap -/
def vDc (wi : TI) (g : TG) (tt : TT) (tk tv : TE) (vs : List Nat) : TE := fun σ H Q => wi σ H fun J H1 => ∀ D, H1 D = none → ∃ (n : Nat) (G : Hp → Prop) (Y : Nat → Hp → V → Hp → Prop) (Pv : Nat → Hp → Prop), Walk J n G Y ∧ Pv 0 (upd H1 D (.dK [])) ∧ (∀ i H, i ≤ n → Pv i H → G H) ∧
  (∀ i x H H', i < n → Pv i H → Y i H x H' → g x (wipe σ vs) H' fun σ2 H2 => wipe σ2 vs = wipe σ vs ∧ tt σ2 H2 fun b H3 => if b = true then tk σ2 H3 fun y H4 => tv σ2 H4 fun z H5 => keyR y fun k => dkO (H5 D) fun kvs => kvs.length < sizeLine ∧ Pv (i + 1) (upd H5 D (.dK (putK kvs k z))) else Pv (i + 1) H3) ∧ ∀ H, Pv n H → Q (.ref D) H
theorem vDc_to {wi : TI} {g : TG} {tt : TT} {tk tv : TE} {vs : List Nat} {σ : L2.St} {H : Hp} {Q : VK} (h : vDc wi g tt tk tv vs σ H Q) : tDc (upI wi) (upG g) (upT tt) (upE tk) (upE tv) vs σ H Q := ⟨_, h, fun J H1 z D hD => by
  obtain ⟨n, G, Y, Pv, w, h0, hG, hs, hd⟩ := z D hD
  refine ⟨fun i m H => m = n - i ∧ i ≤ n ∧ Pv i H, ⟨n, by simp, Nat.zero_le _, h0⟩, ?_⟩
  rintro i m H ⟨rfl, hi, p⟩
  have q := hG i H hi p
  by_cases hlt : i < n
  · refine .inr ⟨w.goes i H hlt q, Pv (i + 1), fun H' p' => ⟨n - (i + 1), by omega, rfl, hlt, p'⟩, fun x H' y => ?_⟩
    refine ⟨_, hs i x H H' hlt p (w.yields i H x H' hlt q y), fun σ2 H2 r => ⟨r.1, _, r.2, fun b H3 r3 => ?_⟩⟩
    cases b with
    | true =>
      refine ⟨_, r3, fun y H4 r4 => ⟨_, r4, fun z H5 r5 => ?_⟩⟩
      obtain ⟨k, e1, r6⟩ := keyR_el r5
      obtain ⟨kvs, e2, r7⟩ := dkO_el r6
      exact ⟨kvs, k, e1, e2, r7.1, r7.2⟩
    | false => exact r3
  · have e : i = n := by omega
    subst e
    exact .inl ⟨w.stops H q, hd H p⟩⟩
theorem q_dc {kx vx tg iter : Expr} {ifs : List Expr} {scope : Scope} {own : List (Str × Nat)} {pos : Pos} {wi : TI} {g : TG} {tt : TT} {tk tv : TE} (hc : X.calm = true) (hN : X.N.Nodup) (hi : PI X tg iter wi) (ok : BlkOk X.N X.env.scope scope own)
    (hg : ∀ (s : Shared) (H : Hp) (C : Addr) (cl : List (Str × Addr)) (fp : List Addr), PG (X.blk s H scope (compEnvC scope cl C X.env) fp) tg g) (ht : ∀ (s : Shared) (H : Hp) (C : Addr) (cl : List (Str × Addr)) (fp : List Addr), PTs (X.blk s H scope (compEnvC scope cl C X.env) fp) ifs tt)
    (hk : ∀ (s : Shared) (H : Hp) (C : Addr) (cl : List (Str × Addr)) (fp : List Addr), PE (X.blk s H scope (compEnvC scope cl C X.env) fp) kx tk)
    (he : ∀ (s : Shared) (H : Hp) (C : Addr) (cl : List (Str × Addr)) (fp : List Addr), PE (X.blk s H scope (compEnvC scope cl C X.env) fp) vx tv) (hs : ∀ x, foldedSetIterable iter X.env x = pure x := by intro _; rfl) :
    PE X (.DictComp kx vx [⟨tg, iter, ifs, 0⟩] scope pos) (vDc wi g tt tk tv (own.map (·.2))) :=
  im_pe (pe_dc hc hN (up_pi hi) ok (fun s H C cl fp => up_pg (hg s H C cl fp)) (fun s H C cl fp => up_pts (ht s H C cl fp)) (fun s H C cl fp => up_pe (hk s H C cl fp)) (fun s H C cl fp => up_pe (he s H C cl fp)) hs) fun _ _ _ h => vDc_to h
/-- sorted(d), d's keys ints -/
def wSortDI (vs : List V) (H : Hp) (Q : VK) : Prop := one1 vs fun x => refR x fun a => dkR (H a) fun kvs => ∃ ks : List Int, kvs.map (·.1) = ks.map Sum.inl ∧ ks.length < 64 ∧ ∀ (ys : List Int) (p : Addr), ys.Perm ks → ys.Pairwise (· ≤ ·) → H p = none → Q (.ref p) (upd H p (.lst (ys.map V.int)))
theorem c_sortDI (hc : X.calm = true) : CallR X (.builtin "sorted") wSortDI := im_call (call_sortedDI hc) fun vs H Q z => by
  obtain ⟨x, e1, z1⟩ := one1_el z
  obtain ⟨a, e2, z2⟩ := refR_el z1
  obtain ⟨kvs, e3, ks, e4, e5, z3⟩ := dkR_el z2
  exact ⟨a, kvs, ks, by rw [e1, e2], e3, e4, e5, z3⟩
/-- d != {} -/
def wNeD0 : R2 := fun x y H Q => refR x fun a => refR y fun b => dkO (H a) fun ks => dkO (H b) fun ls => ls = [] ∧ Q (.bl (!ks.isEmpty)) H
theorem o_neD0 (hu : X.A.units + 64 < cLine) : OpR X (compareOp .NotEq) wNeD0 := by
  intro pins s σ H x y v u Q I rx ry h
  obtain ⟨a, rfl, h1⟩ := refR_el h
  obtain ⟨b, rfl, h2⟩ := refR_el h1
  obtain ⟨ks, ea, h3⟩ := dkO_el h2
  obtain ⟨ls, eb, rfl, q⟩ := dkO_el h3
  obtain rfl : v = Value.ref a := rx
  obtain rfl : u = Value.ref b := ry
  obtain ⟨_, ya, va, ra, da⟩ := (show ObjOk X.prog X.w H s.heap a (.dK ks) from I.hok a _ ea)
  obtain ⟨_, yb, vb, rb, db⟩ := (show ObjOk X.prog X.w H s.heap b (.dK []) from I.hok b _ eb)
  have la := ra.length
  have lb : vb.length = 0 := rb.length.symm
  refine PySem.W.keq_ne (knd := mixKind X.prog X.w) (r := true) ya yb da db (by omega) (fun e => hits_all rb ra fun p hp => ?_) (fin_bl I q ?_)
  · have : ks.length = 0 := by omega
    have : ks = [] := List.eq_nil_of_length_eq_zero this
    subst this
    simp at hp
  · cases ks with
    | nil =>
      have : va.length = 0 := by simpa using la.symm
      simp [this, lb]
    | cons k ks =>
      have : va.length ≠ 0 := by simp at la; omega
      simp [this, lb]
/-- a list times an int from 0 on -/
def wRep : R2 := fun x y H Q => refR x fun l => lstO (H l) fun xs => intR y fun k => (0 ≤ k ∧ k ≤ 1000 ∧ xs.length ≤ 1000) ∧ ∀ p, H p = none → Q (.ref p) (upd H p (.lst (List.replicate k.toNat xs).flatten))
theorem o_rep : OpR X (binaryOp .Mult) wRep := im_op op_rep fun x y H Q z => by
  obtain ⟨l, e1, z1⟩ := refR_el z
  obtain ⟨xs, e2, z2⟩ := lstO_el z1
  obtain ⟨k, e3, ⟨h0, h1, h2⟩, z3⟩ := intR_el z2
  refine ⟨l, k, xs, e1, e3, e2, by omega, by omega, ?_, z3⟩
  have : xs.length * k.toNat ≤ 1000 * 1000 := Nat.mul_le_mul h2 (by omega)
  rw [sizeLine_eq]
  omega
end
end OA


namespace OA
open PySem PySem.Spec PyProof.Rows L2
theorem o_catA {X : Cx} {K' : PySem.W.Frag} (h : X.K = K' := by rfl) : OpR X (binaryOp .Add) (rCatA K') := by
  subst h
  exact op_catA
/-! sorted(..) of pairs of a number and a tuple of numbers -/
def ltL : List Int → List Int → Bool
  | [], [] => false
  | [], _ :: _ => true
  | _ :: _, [] => false
  | a :: l, b :: m => if a = b then ltL l m else decide (a < b)
theorem ltL_irr : ∀ l, ltL l l = false
  | [] => rfl
  | a :: l => by simp [ltL, ltL_irr l]
theorem ltL_asym : ∀ l m, ltL l m = true → ltL m l = false
  | [], [], h => by cases h
  | [], _ :: _, _ => rfl
  | _ :: _, [], h => by cases h
  | a :: l, b :: m, h => by
    unfold ltL at h ⊢
    by_cases z : a = b
    · rw [if_pos z] at h
      rw [if_pos z.symm]
      exact ltL_asym l m h
    · rw [if_neg z] at h
      rw [if_neg fun y => z y.symm]
      have := of_decide_eq_true h
      exact decide_eq_false (by omega)
theorem ltL_tr : ∀ x y z, ltL y x = false → ltL z y = false → ltL z x = false
  | [], [], [], _, _ => rfl
  | [], [], _ :: _, _, _ => rfl
  | [], _ :: _, [], _, h => by cases h
  | [], _ :: _, _ :: _, _, _ => rfl
  | _ :: _, [], _, h, _ => by cases h
  | _ :: _, _ :: _, [], _, h => by cases h
  | a :: l, b :: m, c :: k, h1, h2 => by
    unfold ltL at h1 h2 ⊢
    by_cases z : c = a
    · rw [if_pos z]
      by_cases y : b = a
      · rw [if_pos y] at h1
        rw [if_pos (z.trans y.symm)] at h2
        exact ltL_tr l m k h1 h2
      · rw [if_neg y] at h1
        rw [if_neg (fun w => y (w.symm.trans z))] at h2
        have h1 := of_decide_eq_false h1
        have h2 := of_decide_eq_false h2
        omega
    · rw [if_neg z]
      refine decide_eq_false ?_
      by_cases y : b = a
      · rw [if_neg (fun w => z (w.trans y))] at h2
        have h2 := of_decide_eq_false h2
        omega
      · rw [if_neg y] at h1
        have h1 := of_decide_eq_false h1
        by_cases w : c = b
        · omega
        · rw [if_neg w] at h2
          have h2 := of_decide_eq_false h2
          omega
theorem ltL_lex (l m : List Int) : Ob.lexAt (fun j => decide (l[j]? = m[j]?)) (fun j => decide (l.getD j 0 < m.getD j 0)) (decide (l.length < m.length)) 0 (min l.length m.length) = ltL l m := by
  have gen : ∀ k i, min l.length m.length - i = k → Ob.lexAt (fun j => decide (l[j]? = m[j]?)) (fun j => decide (l.getD j 0 < m.getD j 0)) (decide (l.length < m.length)) i k = if i ≤ min l.length m.length then ltL (l.drop i) (m.drop i) else decide (l.length < m.length) := fun k => by
    induction k with
    | zero =>
      intro i hk
      rw [Ob.lexAt_zero]
      by_cases z : i ≤ min l.length m.length
      · rw [if_pos z]
        have hi : i = min l.length m.length := by omega
        rcases Nat.lt_trichotomy l.length m.length with c | c | c
        · rw [List.drop_of_length_le (show l.length ≤ i by omega), List.drop_eq_getElem_cons (show i < m.length by omega), decide_eq_true c]
          rfl
        · rw [List.drop_of_length_le (show l.length ≤ i by omega), List.drop_of_length_le (show m.length ≤ i by omega), decide_eq_false (by omega)]
          rfl
        · rw [List.drop_of_length_le (show m.length ≤ i by omega), List.drop_eq_getElem_cons (show i < l.length by omega), decide_eq_false (by omega)]
          rfl
      · rw [if_neg z]
    | succ k ih =>
      intro i hk
      have c1 : i + 1 ≤ min l.length m.length := by omega
      have c2 : i ≤ min l.length m.length := by omega
      rw [Ob.lexAt_succ, ih (i + 1) (by omega), if_pos c1, if_pos c2, List.drop_eq_getElem_cons (show i < l.length by omega), List.drop_eq_getElem_cons (show i < m.length by omega)]
      show _ = if l[i] = m[i] then _ else _
      have e1 : l[i]? = some (l[i]'(by omega)) := List.getElem?_eq_getElem _
      have e2 : m[i]? = some (m[i]'(by omega)) := List.getElem?_eq_getElem _
      simp only [e1, e2, Option.some.injEq, decide_eq_true_eq, List.getD_eq_getElem?_getD, Option.getD_some]
  have h := gen _ 0 rfl
  rw [Nat.sub_zero, if_pos (Nat.zero_le _)] at h
  exact h
def ltPT (p q : Int × List Int) : Bool := if p.1 = q.1 then ltL p.2 q.2 else decide (p.1 < q.1)
theorem ltPT_irr (p : Int × List Int) : ltPT p p = false := by unfold ltPT; rw [if_pos rfl, ltL_irr]
theorem ltPT_asym (p q : Int × List Int) (h : ltPT p q = true) : ltPT q p = false := by
  unfold ltPT at h ⊢
  by_cases z : p.1 = q.1
  · rw [if_pos z] at h
    rw [if_pos z.symm]
    exact ltL_asym _ _ h
  · rw [if_neg z] at h
    rw [if_neg fun y => z y.symm]
    have := of_decide_eq_true h
    exact decide_eq_false (by omega)
theorem ltPT_tr (x y z : Int × List Int) (h1 : ltPT y x = false) (h2 : ltPT z y = false) : ltPT z x = false := by
  unfold ltPT at h1 h2 ⊢
  by_cases a : z.1 = x.1
  · rw [if_pos a]
    by_cases b : y.1 = x.1
    · rw [if_pos b] at h1
      rw [if_pos (a.trans b.symm)] at h2
      exact ltL_tr _ _ _ h1 h2
    · rw [if_neg b] at h1
      rw [if_neg (fun w => b (w.symm.trans a))] at h2
      have h1 := of_decide_eq_false h1
      have h2 := of_decide_eq_false h2
      omega
  · rw [if_neg a]
    refine decide_eq_false ?_
    by_cases b : y.1 = x.1
    · rw [if_neg (fun w => a (w.trans b))] at h2
      have h2 := of_decide_eq_false h2
      omega
    · rw [if_neg b] at h1
      have h1 := of_decide_eq_false h1
      by_cases w : z.1 = y.1
      · omega
      · rw [if_neg w] at h2
        have h2 := of_decide_eq_false h2
        omega
theorem ltPT_swo {α : Type} (k : α → Int × List Int) : SrtO.Swo fun v u => ltPT (k v) (k u) := ⟨fun _ _ h => ltPT_asym _ _ h, fun _ _ _ h1 h2 => ltPT_tr _ _ _ h1 h2⟩
/-- a tuple of numbers -/
def IsIT (h : Heap) (b : Addr) (l : List Int) : Prop := ∃ its : Array Value, h.IsTuple b its ∧ its.size = l.length ∧ ∀ j (hj : j < its.size), ∃ u, its[j] = .int (l.getD j 0) u
/-- a pair of a number and a tuple of numbers -/
def IsPT (h : Heap) (v : Value) (x : Int) (l : List Int) : Prop := ∃ a o t b n, v = .ref a ∧ h.get? a = some o ∧ o.cls = .type "tuple" ∧ o.data = .seq #[.int x t, .ref b] n ∧ IsIT h b l
theorem IsIT.keeps {h h' : Heap} {b : Addr} {l : List Int} (p : IsIT h b l) (k : ∀ b o, h.get? b = some o → o.cls = .type "tuple" → h'.get? b = some o) : IsIT h' b l := by
  obtain ⟨its, ⟨o, ho, hc, r⟩, h2, h3⟩ := p
  exact ⟨its, ⟨o, k _ _ ho hc, hc, r⟩, h2, h3⟩
theorem IsPT.keeps {h h' : Heap} {v : Value} {x : Int} {l : List Int} (p : IsPT h v x l) (k : ∀ b o, h.get? b = some o → o.cls = .type "tuple" → h'.get? b = some o) : IsPT h' v x l := by
  obtain ⟨a, o, t, b, n, e, ho, hc, hd, hi⟩ := p
  exact ⟨a, o, t, b, n, e, k _ _ ho hc, hc, hd, hi.keeps k⟩
theorem all_eqL (l m : List Int) : ((List.range (min l.length m.length)).all (fun j => decide (l[j]? = m[j]?)) && (l.length == m.length)) = decide (l = m) := by
  rw [Bool.eq_iff_iff]
  simp only [Bool.and_eq_true, List.all_eq_true, List.mem_range, decide_eq_true_eq, beq_iff_eq]
  constructor
  · rintro ⟨h1, h2⟩
    refine List.ext_getElem? fun j => ?_
    by_cases z : j < min l.length m.length
    · exact h1 j z
    · rw [List.getElem?_eq_none (by omega), List.getElem?_eq_none (by omega)]
  · rintro rfl
    exact ⟨fun _ _ => rfl, rfl⟩
section
variable {prog : Program} {w : World} {A : Around} {s : Shared} {E : Value → Shared → Prop}
theorem eq_it {b b' : Addr} {l m : List Int} (hl : IsIT s.heap b l) (hm : IsIT s.heap b' m) (hu : A.units < cLine) : SeqAt.EqAt A s (.ref b) (.ref b') (decide (l = m)) := by
  obtain ⟨its, h1, h2, h3⟩ := hl
  obtain ⟨its2, g1, g2, g3⟩ := hm
  by_cases z : b = b'
  · subst z
    have e : its = its2 := by
      obtain ⟨o, e1, c1, n, d1⟩ := h1
      obtain ⟨o2, e2, c2, n2, d2⟩ := g1
      rw [e1] at e2
      cases e2
      rw [d1] at d2
      cases d2
      rfl
    subst e
    have : l = m := by
      refine List.ext_getElem? fun j => ?_
      by_cases hj : j < its.size
      · obtain ⟨u, eu⟩ := h3 j hj
        obtain ⟨u2, eu2⟩ := g3 j hj
        rw [eu] at eu2
        have e5 : l.getD j 0 = m.getD j 0 := (Value.int.inj eu2).1
        rw [List.getElem?_eq_getElem (show j < l.length by omega), List.getElem?_eq_getElem (show j < m.length by omega)]
        rw [List.getD_eq_getElem?_getD, List.getD_eq_getElem?_getD, List.getElem?_eq_getElem (show j < l.length by omega), List.getElem?_eq_getElem (show j < m.length by omega)] at e5
        exact congrArg some e5
      · rw [List.getElem?_eq_none (by omega), List.getElem?_eq_none (by omega)]
    rw [decide_eq_true this]
    exact SeqAt.EqAt.same _
  · have := SeqAt.EqAt.of_refs z (SeqAt.RcAt.tuples (e := fun j => decide (l[j]? = m[j]?)) h1 g1 hu fun j c1 c2 => by
      obtain ⟨u, eu⟩ := h3 j c1
      obtain ⟨u2, eu2⟩ := g3 j c2
      rw [eu, eu2]
      have := SeqAt.EqAt.int_int (A := A.in1) (s := s) (l.getD j 0) u (m.getD j 0) u2
      have e : (l.getD j 0 == m.getD j 0) = decide (l[j]? = m[j]?) := by
        rw [List.getD_eq_getElem?_getD, List.getD_eq_getElem?_getD, List.getElem?_eq_getElem (show j < l.length by omega), List.getElem?_eq_getElem (show j < m.length by omega)]
        rw [Bool.eq_iff_iff]
        simp
      rw [e] at this
      exact this)
    rw [h2, g2, all_eqL] at this
    exact this
theorem lt_it {b b' : Addr} {l m : List Int} (hl : IsIT s.heap b l) (hm : IsIT s.heap b' m) (hu : A.units < cLine) : Ob.RcOp .Lt A s (.ref b) (.ref b') (ltL l m) := by
  obtain ⟨its, h1, h2, h3⟩ := hl
  obtain ⟨its2, g1, g2, g3⟩ := hm
  have := Ob.RcOp.tuples_lt (e := fun j => decide (l[j]? = m[j]?)) (r := fun j => decide (l.getD j 0 < m.getD j 0)) h1 g1 hu (fun j c1 c2 => by
      obtain ⟨u, eu⟩ := h3 j c1
      obtain ⟨u2, eu2⟩ := g3 j c2
      rw [eu, eu2]
      have := SeqAt.EqAt.int_int (A := A.in1) (s := s) (l.getD j 0) u (m.getD j 0) u2
      have e : (l.getD j 0 == m.getD j 0) = decide (l[j]? = m[j]?) := by
        rw [List.getD_eq_getElem?_getD, List.getD_eq_getElem?_getD, List.getElem?_eq_getElem (show j < l.length by omega), List.getElem?_eq_getElem (show j < m.length by omega)]
        rw [Bool.eq_iff_iff]
        simp
      rw [e] at this
      exact this) fun j c1 c2 _ => by
      obtain ⟨u, eu⟩ := h3 j c1
      obtain ⟨u2, eu2⟩ := g3 j c2
      rw [eu, eu2]
      exact Ob.RcOp.lt_int _ _ _ _
  rw [h2, g2, ltL_lex] at this
  exact this
theorem pt_cmp {vs : List Value} {k : Value → Int × List Int} (hu : A.units < cLine) (hp : ∀ v ∈ vs, IsPT s.heap v (k v).1 (k v).2) : SrtO.Cmp prog w A s (tuples' true) (fun p => p.1 ∈ vs) (SrtO.lt2 fun v u => ltPT (k v) (k u)) := by
  intro p q hm hm'
  have h1 := hp _ hm
  have h2 := hp _ hm'
  show wpAny (model prog w) A (keyLt' (tuples' true) p.1 q.1) (fun r s' => s' = s ∧ r = ltPT (k p.1) (k q.1)) (fun _ _ => False) s
  unfold ltPT
  generalize (k p.1).1 = x at h1 ⊢
  generalize (k p.1).2 = y at h1 ⊢
  generalize (k q.1).1 = x' at h2 ⊢
  generalize (k q.1).2 = y' at h2 ⊢
  obtain ⟨a, o, t, u, n, e, ho, hc, hd, hi⟩ := h1
  obtain ⟨a', o', t', u', n', e', ho', hc', hd', hi'⟩ := h2
  rw [e, e']
  refine PySem.W.kat_lt ho hd ho' hd' ?_
  show PySem.W.KatLex prog w A true (decide (2 < 2)) _ [(.int x t, .int x' t'), (.ref u, .ref u')] 0 s
  refine PySem.W.kat_cons (SeqAt.EqAt.int_int x t x' t' prog w _ _ ?_)
  refine PySem.W.kat_go (fun e1 => ?_) (fun e1 => ?_)
  · have ex : x = x' := by simpa using e1
    rw [if_pos ex]
    refine PySem.W.kat_yes (PySem.W.kat_cons (eq_it hi hi' hu prog w _ _ ?_))
    refine PySem.W.kat_go (fun e2 => ?_) (fun e2 => ?_)
    · have ey : y = y' := of_decide_eq_true e2
      rw [ey]
      exact PySem.W.kat_yes (PySem.W.kat_nil ⟨rfl, (ltL_irr y').symm⟩)
    · refine PySem.W.kat_no (PySem.W.kat_one _ _ (lt_it hi hi' hu prog w _ _ ?_))
      exact (show s = s ∧ ltL y y' = ltL y y' from ⟨rfl, rfl⟩)
  · have ex : ¬ x = x' := by simpa using e1
    rw [if_neg ex]
    exact PySem.W.kat_no (oneLt_int ⟨rfl, rfl⟩)
theorem pt_firsts {h : Heap} : ∀ {vs : List Value}, (∀ v ∈ vs, ∃ x l, IsPT h v x l) → ∃ fs : List Value, PySem.W.KatTups h vs fs ∧ fs.length = vs.length ∧ ∀ f ∈ fs, ∃ x t, f = Value.int x t
  | [], _ => ⟨[], PySem.W.KatTups.nil, rfl, fun _ hm => by simp at hm⟩
  | v :: vs, hp => by
    obtain ⟨fs, h1, h2, h3⟩ := pt_firsts (vs := vs) fun v' hm => hp v' (List.mem_cons_of_mem _ hm)
    obtain ⟨x, l, a, o, t, b, n, e, ho, hc, hd, _⟩ := hp v (List.mem_cons_self ..)
    subst e
    refine ⟨.int x t :: fs, PySem.W.KatTups.cons ho hc hd rfl h1, by rw [List.length_cons, List.length_cons, h2], fun f hm => ?_⟩
    rcases List.mem_cons.mp hm with rfl | hm
    · exact ⟨x, t, rfl⟩
    · exact h3 f hm
theorem pt_sortable {a : Addr} {vs : List Value} {k : Value → Int × List Int} (hu : A.units < cLine) (h0 : 0 < vs.length) (hp : ∀ v ∈ vs, IsPT s.heap v (k v).1 (k v).2) (ha : ∀ o, s.heap.get? a = some o → o.cls ≠ .type "tuple") : SrtO.SortableO prog w A s a vs fun v u => ltPT (k v) (k u) := by
  intro h' keep
  have hp' : ∀ v ∈ vs, IsPT h' v (k v).1 (k v).2 := fun v hm => (hp v hm).keeps fun b o e c => keep b o (fun z => by subst z; exact ha o e c) e
  obtain ⟨fs, h1, h2, h3⟩ := pt_firsts fun v hm => ⟨_, _, hp' v hm⟩
  refine ⟨tuples' true, fun Q E hq => ?_, pt_cmp hu hp'⟩
  refine PySem.W.kat_kind (T := .type "int") h1 (by omega) (fun f hm => ?_) (by rfl) ?_
  · obtain ⟨x, t, rfl⟩ := h3 f hm
    exact PySem.W.Looks.now
  · have e : (Value.type "int" != Value.type "tuple") = true := by first | decide +kernel | rfl | decide
    rw [e]
    exact hq
theorem sorted_pt {l : Addr} {vs : List Value} {k : Value → Int × List Int} {Q : Value → Shared → Prop} (hu : A.in1.in1.units < cLine) (hl : s.heap.IsList l vs.toArray) (hz : vs.length ≤ sizeLine) (hp : ∀ v ∈ vs, IsPT s.heap v (k v).1 (k v).2)
    (h : ∀ (h' : Heap) (d : Addr) (out : List Value), SrtO.Srtd (fun v u => ltPT (k v) (k u)) out → SrtO.Stb (fun v u => ltPT (k v) (k u)) out vs → (∀ b o, s.heap.get? b = some o → h'.get? b = some o) → s.heap.objs.size ≤ d → (∃ n, h'.get? d = some (seqObj "list" out.toArray n)) → Q (.ref d) { s with heap := h' }) :
    wpAny (model prog w) A (call (.builtin "sorted") [.ref l]) Q E s := by
  refine SrtO.sorted_ord (ltPT_swo k) hl hz (fun h2 h₁ a ha kk => ?_) fun out hs hb => ?_
  · refine pt_sortable (s := { s with heap := h₁ }) hu (by omega) (fun v hm => (hp v hm).keeps fun b o e _ => (kk b o e).2) fun o e => ?_
    have e' : some o = some (seqObj "list" vs.toArray 0) := e.symm.trans ha
    cases e'
    intro c
    exact absurd (Value.type.inj c) (by decide)
  · exact h _ _ out hs hb (fun b o e => sortedAll_old e) (Nat.le_succ _) (sortedAll_at s.heap vs out.toArray)
end
/-- sorted(xs), xs a list of pairs of a number and a tuple of numbers -/
def rSortedPT (K : PySem.W.Frag) : List V → Hp → VK → Prop := fun vs H Q => ∃ (a : Addr) (xs : List V) (k : V → Int × List Int), vs = [V.ref a] ∧ SqL K H a xs ∧ (∀ x ∈ xs, ∃ t u, x = V.ref t ∧ H t = some (.tup [.int (k x).1, .ref u]) ∧ H u = some (.tup ((k x).2.map V.int))) ∧
  ∀ ys p, SrtO.Srtd (fun x y => ltPT (k x) (k y)) ys → SrtO.Stb (fun x y => ltPT (k x) (k y)) ys xs → H p = none → Q (.ref p) (upd H p (.lst ys))
section
variable {X : Cx}
theorem cr_sortedPT (hu : X.A.units + 64 < cLine) : CallR X (.builtin "sorted") (rSortedPT X.K) := by
  intro pins s σ H vs us Q I r h
  obtain ⟨a, xs, k, rfl, hs, hx, q⟩ := h
  obtain ⟨its, rv, hl, hz⟩ := I.list hs
  obtain ⟨u, rfl, ru⟩ := vals1 r
  obtain rfl : u = Value.ref a := ru
  obtain ⟨e1, e2⟩ := refs_back rv fun x m => by
    obtain ⟨t, _, e, _⟩ := hx x m
    exact ⟨t, e⟩
  refine sorted_pt (k := fun u => k (backV u)) (by show X.A.units + 1 + 1 < cLine; omega) hl.isList (by rw [← rv.length]; exact hz) (fun v hv => ?_) fun h' d out h1 h2 kp hd hn => ?_
  · obtain ⟨t, rfl⟩ := e2 v hv
    have hm : V.ref t ∈ xs := by rw [e1]; exact List.mem_map.mpr ⟨_, hv, rfl⟩
    obtain ⟨t', b, e, ht, hb⟩ := hx _ hm
    cases e
    obtain ⟨_, its2, r2, o, ho, hc, n, hd⟩ := I.hok _ _ ht
    obtain ⟨u1, u2, rfl, ri, rj⟩ := vals2 r2
    obtain ⟨t1, rfl⟩ := ri
    obtain rfl : u2 = Value.ref b := rj
    obtain ⟨_, its3, r3, ho3⟩ := I.hok _ _ hb
    refine ⟨t, o, t1, b, n, rfl, ho, hc, hd, its3.toArray, ?_, ?_, fun j hj => ?_⟩
    · obtain ⟨o3, a1, a2, n3, a3⟩ := ho3
      exact ⟨o3, a1, a2, n3, a3⟩
    · have := r3.length
      rw [List.length_map] at this
      exact this.symm
    · have hj' : j < its3.length := by simpa using hj
      have hl3 := r3.length
      rw [List.length_map] at hl3
      have hk : ((k (V.ref t)).2.map V.int)[j]? = some (V.int ((k (V.ref t)).2[j]'(by omega))) := by rw [List.getElem?_map, List.getElem?_eq_getElem (by omega)]; rfl
      obtain ⟨u, hu, ru⟩ := r3.get hk
      obtain ⟨t4, e4⟩ := (show ∃ t, u = Value.int _ t from ru)
      refine ⟨t4, ?_⟩
      rw [List.getElem?_eq_getElem hj'] at hu
      have hu := Option.some.inj hu
      show its3.toArray[j] = Value.int ((k (V.ref t)).2.getD j 0) t4
      rw [List.getElem_toArray, hu, e4, List.getD_eq_getElem?_getD, List.getElem?_eq_getElem (by omega)]
      rfl
  · have h3 : ∀ u ∈ out, ∃ a, u = Value.ref a := fun u hu => e2 u (h2.perm.mem_iff.mp hu)
    obtain ⟨n, hn⟩ := hn
    have hb : SrtO.Stb (fun x y => ltPT (k x) (k y)) (out.map backV) xs := by
      rw [e1]
      exact SrtO.Stb.map (ltPT_swo k) backV h2
    refine ⟨.ref d, upd H d (.lst (out.map backV)), I.laid (t' := s.toks) kp hd ⟨?_, out, n, vals_back h3, hn⟩, rfl, q _ d (SrtO.srtd_map h1) hb (I.hok.fresh hd)⟩
    rw [hb.len]
    exact hz
end
end OA

namespace OA
open PySem PySem.Spec PyProof.Rows L2
/-! data; what stands at own addresses; the state of a run as data -/
inductive D where
  | non | bl (b : Bool) | int (i : Int) | str (s : Str) | tup (xs : List D) | lst (xs : List D) | dic (ks : List Key) (xs : List D) | py (d : PyData) | nt (ns : List Int)
inductive W where
  | sh (x : D) | pt (p : Addr) | ty (n : String)
inductive OD where
  | lst (ws : List W) | dic (ks : List Key) (ws : List W) | lk (o : Obj) (kvs : List (Key × V)) (ks : List Key) (ws : List W) | dt (ks : List (List Key)) (ws : List W)
abbrev Om := List (Addr × OD)
abbrev Gm := List (Option W)
section
variable (K : PySem.W.Frag) (H : Hp) (E : Addr → Prop)
mutual
def Lay : D → V → Prop
  | .non, v => v = .non
  | .bl b, v => v = .bl b
  | .int i, v => v = .int i
  | .str s, v => v = .str s
  | .tup xs, v => ∃ a vs, v = .ref a ∧ ¬ E a ∧ H a = some (.tup vs) ∧ LayL xs vs
  | .lst xs, v => ∃ a vs, v = .ref a ∧ ¬ E a ∧ H a = some (.lst vs) ∧ LayL xs vs
  | .dic ks xs, v => ∃ a vs, v = .ref a ∧ ¬ E a ∧ H a = some (.dK (ks.zip vs)) ∧ ks.length = xs.length ∧ LayL xs vs
  | .py d, v => ∀ H', Dp K H' v d
  | .nt ns, v => ∃ a ob, v = .ref a ∧ ¬ E a ∧ H a = some (.frz ob (.tup (ns.map V.int))) ∧ ob.dict = none
def LayL : List D → List V → Prop
  | [], vs => vs = []
  | x :: xs, vs => ∃ v r, vs = v :: r ∧ Lay x v ∧ LayL xs r
end
def VOk : W → V → Prop
  | .sh x, v => Lay K H E x v
  | .pt p, v => v = .ref p
  | .ty n, v => v = .ty n
def VOks : List W → List V → Prop
  | [], vs => vs = []
  | x :: xs, vs => ∃ v r, vs = v :: r ∧ VOk K H E x v ∧ VOks xs r
def ObOk (p : Addr) : OD → Prop
  | .lst ws => ∃ vs, H p = some (.lst vs) ∧ VOks K H E ws vs
  | .dic ks ws => ∃ vs, H p = some (.dK (ks.zip vs)) ∧ ks.length = ws.length ∧ VOks K H E ws vs
  | .lk o kvs ks ws => ∃ vs, H p = some (.frz o (.dK kvs)) ∧ kvs = ks.zip vs ∧ ks.length = ws.length ∧ VOks K H E ws vs
  | .dt ks ws => ∃ vs, H p = some (.dT (ks.zip vs)) ∧ ks.length = ws.length ∧ VOks K H E ws vs
end
section
variable {K : PySem.W.Frag} {H H' : Hp} {E E' : Addr → Prop}
mutual
theorem Lay.mono (k : ∀ b o, ¬ E b → H b = some o → ¬ E' b ∧ H' b = some o) : ∀ (x : D) (v : V), Lay K H E x v → Lay K H' E' x v
  | .non, _, h => h
  | .bl _, _, h => h
  | .int _, _, h => h
  | .str _, _, h => h
  | .tup xs, _, ⟨a, vs, e, n, ha, hl⟩ => ⟨a, vs, e, (k _ _ n ha).1, (k _ _ n ha).2, LayL.mono k xs vs hl⟩
  | .lst xs, _, ⟨a, vs, e, n, ha, hl⟩ => ⟨a, vs, e, (k _ _ n ha).1, (k _ _ n ha).2, LayL.mono k xs vs hl⟩
  | .dic ks xs, _, ⟨a, vs, e, n, ha, hn, hl⟩ => ⟨a, vs, e, (k _ _ n ha).1, (k _ _ n ha).2, hn, LayL.mono k xs vs hl⟩
  | .py _, _, h => h
  | .nt _, _, ⟨a, ob, e, n, ha, hd⟩ => ⟨a, ob, e, (k _ _ n ha).1, (k _ _ n ha).2, hd⟩
theorem LayL.mono (k : ∀ b o, ¬ E b → H b = some o → ¬ E' b ∧ H' b = some o) : ∀ (xs : List D) (vs : List V), LayL K H E xs vs → LayL K H' E' xs vs
  | [], _, h => h
  | x :: xs, _, ⟨v, r, e, h1, h2⟩ => ⟨v, r, e, Lay.mono k x v h1, LayL.mono k xs r h2⟩
end
theorem VOk.mono (k : ∀ b o, ¬ E b → H b = some o → ¬ E' b ∧ H' b = some o) {w : W} {v : V} (h : VOk K H E w v) : VOk K H' E' w v := by
  cases w with
  | sh x => exact Lay.mono k x v h
  | pt p => exact h
  | ty n => exact h
theorem VOks.mono (k : ∀ b o, ¬ E b → H b = some o → ¬ E' b ∧ H' b = some o) : ∀ {ws : List W} {vs : List V}, VOks K H E ws vs → VOks K H' E' ws vs
  | [], _, h => h
  | _ :: _, _, ⟨v, r, e, h1, h2⟩ => ⟨v, r, e, h1.mono k, VOks.mono k h2⟩
theorem VOks.len : ∀ {ws : List W} {vs : List V}, VOks K H E ws vs → ws.length = vs.length
  | [], _, h => by rw [show _ = [] from h]; rfl
  | _ :: _, _, ⟨v, r, e, h1, h2⟩ => by rw [e, List.length_cons, List.length_cons, h2.len]
theorem VOks.app : ∀ {ws us : List W} {vs ts : List V}, VOks K H E ws vs → VOks K H E us ts → VOks K H E (ws ++ us) (vs ++ ts)
  | [], _, _, _, h, g => by rw [show _ = [] from h]; exact g
  | _ :: _, _, _, _, ⟨v, r, e, h1, h2⟩, g => ⟨v, r ++ _, by rw [e]; rfl, h1, h2.app g⟩
theorem VOks.one {w : W} {v : V} (h : VOk K H E w v) : VOks K H E [w] [v] := ⟨v, [], rfl, h, rfl⟩
theorem VOks.at : ∀ {ws : List W} {vs : List V} (i : Nat), VOks K H E ws vs → ∀ {v : V}, vs[i]? = some v → ∃ w, ws[i]? = some w ∧ VOk K H E w v
  | [], _, _, h, _, e => by rw [show _ = [] from h] at e; simp at e
  | w :: ws, _, 0, ⟨v, r, e, h1, h2⟩, u, q => by
    rw [e] at q
    cases q
    exact ⟨w, rfl, h1⟩
  | w :: ws, _, i + 1, ⟨v, r, e, h1, h2⟩, u, q => by
    rw [e] at q
    exact h2.at i (v := u) q
theorem VOks.to : ∀ {ws : List W} {vs : List V} (i : Nat), VOks K H E ws vs → ∀ {w : W}, ws[i]? = some w → ∃ v, vs[i]? = some v ∧ VOk K H E w v
  | [], _, _, h, _, e => by simp at e
  | w :: ws, _, 0, ⟨v, r, e, h1, h2⟩, u, q => by
    cases q
    exact ⟨v, by rw [e]; rfl, h1⟩
  | w :: ws, _, i + 1, ⟨v, r, e, h1, h2⟩, u, q => by
    obtain ⟨v', q1, q2⟩ := h2.to i (w := u) q
    exact ⟨v', by rw [e]; exact q1, q2⟩
theorem VOks.sh_of : ∀ {xs : List D} {vs : List V}, LayL K H E xs vs → VOks K H E (xs.map .sh) vs
  | [], _, h => h
  | _ :: _, _, ⟨v, r, e, h1, h2⟩ => ⟨v, r, e, h1, VOks.sh_of h2⟩
theorem VOks.lay : ∀ {xs : List D} {vs : List V}, VOks K H E (xs.map .sh) vs → LayL K H E xs vs
  | [], _, h => h
  | _ :: _, _, ⟨v, r, e, h1, h2⟩ => ⟨v, r, e, h1, VOks.lay h2⟩
theorem LayL.len {xs : List D} {vs : List V} (h : LayL K H E xs vs) : xs.length = vs.length := by
  have := (VOks.sh_of h).len
  rwa [List.length_map] at this
theorem VOks.set : ∀ {ws : List W} {vs : List V} (i : Nat) {w : W} {v : V}, VOks K H E ws vs → VOk K H E w v → VOks K H E (ws.set i w) (vs.set i v)
  | [], _, _, _, _, h, _ => by rw [show _ = [] from h]; exact rfl
  | _ :: _, _, 0, _, _, ⟨v, r, e, h1, h2⟩, g => by rw [e]; exact ⟨_, _, rfl, g, h2⟩
  | _ :: _, _, i + 1, _, _, ⟨v, r, e, h1, h2⟩, g => by rw [e]; exact ⟨_, _, rfl, h1, h2.set i g⟩
theorem VOks.erase : ∀ {ws : List W} {vs : List V} (i : Nat), VOks K H E ws vs → VOks K H E (ws.eraseIdx i) (vs.eraseIdx i)
  | [], _, _, h => by rw [show _ = [] from h]; exact rfl
  | _ :: _, _, 0, ⟨v, r, e, h1, h2⟩ => by rw [e]; exact h2
  | _ :: _, _, i + 1, ⟨v, r, e, h1, h2⟩ => by rw [e]; exact ⟨_, _, rfl, h1, h2.erase i⟩
theorem VOks.take : ∀ {ws : List W} {vs : List V} (i : Nat), VOks K H E ws vs → VOks K H E (ws.take i) (vs.take i)
  | [], _, _, h => by rw [show _ = [] from h]; simp [VOks]
  | _ :: _, _, 0, h => by simp [VOks]
  | _ :: _, _, i + 1, ⟨v, r, e, h1, h2⟩ => by rw [e]; exact ⟨_, _, rfl, h1, h2.take i⟩
theorem VOks.drop : ∀ {ws : List W} {vs : List V} (i : Nat), VOks K H E ws vs → VOks K H E (ws.drop i) (vs.drop i)
  | [], _, _, h => by rw [show _ = [] from h]; simp [VOks]
  | _ :: _, _, 0, h => by simpa using h
  | _ :: _, _, i + 1, ⟨v, r, e, h1, h2⟩ => by rw [e]; exact h2.drop i
theorem VOks.rev : ∀ {ws : List W} {vs : List V}, VOks K H E ws vs → VOks K H E ws.reverse vs.reverse
  | [], _, h => by rw [show _ = [] from h]; exact rfl
  | _ :: _, _, ⟨v, r, e, h1, h2⟩ => by rw [e, List.reverse_cons, List.reverse_cons]; exact h2.rev.app (.one h1)
theorem ObOk.mono {p : Addr} (k : ∀ b o, ¬ E b → H b = some o → ¬ E' b ∧ H' b = some o) (hp : ∀ o, H p = some o → H' p = some o) {od : OD} (h : ObOk K H E p od) : ObOk K H' E' p od := by
  cases od with
  | lst ws =>
    obtain ⟨vs, e, z⟩ := h
    exact ⟨vs, hp _ e, z.mono k⟩
  | dic ks ws =>
    obtain ⟨vs, e, n, z⟩ := h
    exact ⟨vs, hp _ e, n, z.mono k⟩
  | lk o kvs ks ws =>
    obtain ⟨vs, e, n, m, z⟩ := h
    exact ⟨vs, hp _ e, n, m, z.mono k⟩
  | dt ks ws =>
    obtain ⟨vs, e, n, z⟩ := h
    exact ⟨vs, hp _ e, n, z.mono k⟩
/-- a code object that is known -/
def Cd (o : HO) : Prop := ∃ c q, o = LamX.CodeO c q
/-- no tuple, no code object -/
def EOk (H : Hp) (b : Addr) : Prop := ∃ o, H b = some o ∧ (∀ vs, o ≠ .tup vs) ∧ ¬ Cd o
theorem ncd_lst {vs : List V} : ¬ Cd (.lst vs) := fun ⟨_, _, z⟩ => by unfold LamX.CodeO at z; cases z
theorem ncd_dK {kvs : List (Key × V)} : ¬ Cd (.dK kvs) := fun ⟨_, _, z⟩ => by unfold LamX.CodeO at z; cases z
theorem ncd_tbl {ps : Array Value} : ¬ Cd (.tbl ps) := fun ⟨_, _, z⟩ => by unfold LamX.CodeO at z; cases z
theorem EOk.nc {H : Hp} {b : Addr} {o : HO} (h : EOk H b) (e : H b = some o) : ¬ Cd o := by
  obtain ⟨u, e2, _, n⟩ := h
  rw [e] at e2
  cases e2
  exact n
theorem EOk.some {b : Addr} (h : EOk H b) : H b ≠ none := by
  obtain ⟨o, e, _⟩ := h
  rw [e]
  simp
theorem ObOk.eok {p : Addr} {od : OD} (h : ObOk K H E p od) : EOk H p := by
  cases od with
  | lst ws =>
    obtain ⟨vs, e, z⟩ := h
    exact ⟨_, e, fun _ z => (by cases z), fun ⟨_, _, z⟩ => (by unfold LamX.CodeO at z; cases z)⟩
  | dic ks ws =>
    obtain ⟨vs, e, n, z⟩ := h
    exact ⟨_, e, fun _ z => (by cases z), fun ⟨_, _, z⟩ => (by unfold LamX.CodeO at z; cases z)⟩
  | lk o kvs ks ws =>
    obtain ⟨vs, e, n, z⟩ := h
    exact ⟨_, e, fun _ z => (by cases z), fun ⟨_, _, z⟩ => (by unfold LamX.CodeO at z; cases z)⟩
  | dt ks ws =>
    obtain ⟨vs, e, n, z⟩ := h
    exact ⟨_, e, fun _ z => (by cases z), fun ⟨_, _, z⟩ => (by unfold LamX.CodeO at z; cases z)⟩
theorem ObOk.some {p : Addr} {od : OD} (h : ObOk K H E p od) : H p ≠ none := by
  cases od with
  | lst ws =>
    obtain ⟨vs, e, z⟩ := h
    rw [e]
    simp
  | dic ks ws =>
    obtain ⟨vs, e, n, z⟩ := h
    rw [e]
    simp
  | lk o kvs ks ws =>
    obtain ⟨vs, e, n, z⟩ := h
    rw [e]
    simp
  | dt ks ws =>
    obtain ⟨vs, e, n, z⟩ := h
    rw [e]
    simp
end
class Fact' (p : Prop) : Prop where
  out : p
/-- what a run may change beside its own, and what stays true of that -/
structure Am where
  J : Hp → Prop
  M : Addr → Prop
  I : Hp → Prop
  loc : ∀ H H', (∀ b, M b → H' b = H b) → (∀ b o, Cd o → H b = some o → H' b = some o) → I H → I H'
  ex : ∀ H b, I H → M b → EOk H b
/-- a run: what may be changed, what is not to be met, the heap at its begin -/
structure Cq (am : Am) where
  E : Addr → Prop
  ME : ∀ b, am.M b → E b
  H0 : Hp
  jH : am.J H0
def Ex {am : Am} (c : Cq am) (Ω : Om) : Addr → Prop := fun b => c.E b ∨ b ∈ Ω.map (·.1)
inductive Tp where
  | v (w : W) (v : V)
  | pin (a : Addr) (o : HO)
def TpOk (K : PySem.W.Frag) (H : Hp) (E : Addr → Prop) : Tp → Prop
  | .v w v => VOk K H E w v
  | .pin a o => (∀ u, o ≠ .dK u) ∧ ¬ E a ∧ H a = some o
structure DEnv (K : PySem.W.Frag) {am : Am} (c : Cq am) (T : List Tp) (σ : L2.St) (Γ : Gm) (Ω : Om) (H : Hp) : Prop where
  len : Γ.length = σ.length
  sl : ∀ (i : Nat) (w : W), Γ[i]? = some (some w) → ∃ v, σ[i]? = some (some v) ∧ VOk K H (Ex c Ω) w v
  tm : ∀ t ∈ T, TpOk K H (Ex c Ω) t
  ob : ∀ q ∈ Ω, ObOk K H (Ex c Ω) q.1 q.2
  nd : (Ω.map (·.1)).Nodup
  fr : ∀ p ∈ Ω.map (·.1), c.H0 p = none ∧ ¬ c.E p
  el : ∀ b, c.E b → EOk H b
  frm : ∀ b o, ¬ am.M b → c.H0 b = some o → H b = some o
  inv : am.I H
section
variable {K : PySem.W.Frag} {am : Am} {c : Cq am} {T : List Tp} {σ : L2.St} {Γ : Gm} {Ω : Om} {H H' : Hp}
theorem TpOk.mono {E E' : Addr → Prop} (k : ∀ b o, ¬ E b → H b = some o → ¬ E' b ∧ H' b = some o) {t : Tp} (h : TpOk K H E t) : TpOk K H' E' t := by
  cases t with
  | v w v => exact VOk.mono k h
  | pin a o =>
    obtain ⟨h1, h2, h3⟩ := h
    exact ⟨h1, (k _ _ h2 h3).1, (k _ _ h2 h3).2⟩
/-- all but what may be changed is kept -/
theorem DEnv.step (e : DEnv K c T σ Γ Ω H) (k : ∀ b o, ¬ am.M b → H b = some o → H' b = some o) (i : am.I H') : DEnv K c T σ Γ Ω H' := by
  have nM : ∀ b, ¬ Ex c Ω b → ¬ am.M b := fun b n m => n (.inl (c.ME b m))
  have kx : ∀ b o, ¬ Ex c Ω b → H b = some o → ¬ Ex c Ω b ∧ H' b = some o := fun b o n h => ⟨n, k b o (nM b n) h⟩
  refine ⟨e.len, fun j w h => ?_, fun t ht => (e.tm t ht).mono kx, fun q hq => (e.ob q hq).mono kx fun o h => k _ _ (fun m => ?_) h, e.nd, e.fr, fun b hb => ?_, fun b o n h => k b o n (e.frm b o n h), i⟩
  · obtain ⟨v, h1, h2⟩ := e.sl j w h
    exact ⟨v, h1, h2.mono kx⟩
  · exact (e.fr q.1 (List.mem_map.mpr ⟨q, hq, rfl⟩)).2 (c.ME _ m)
  · by_cases m : am.M b
    · exact am.ex H' b i m
    · obtain ⟨o, h, n⟩ := e.el b hb
      exact ⟨o, k b o m h, n⟩
theorem DEnv.noEx (e : DEnv K c T σ Γ Ω H) {p : Addr} (hp : H p = none) : ¬ Ex c Ω p := fun h => by
  rcases h with h | h
  · exact (e.el p h).some hp
  · obtain ⟨q, hq, rfl⟩ := List.mem_map.mp h
    exact (e.ob q hq).some hp
/-- a new object -/
theorem DEnv.alloc (e : DEnv K c T σ Γ Ω H) {p : Addr} {o : HO} (hp : H p = none) : DEnv K c T σ Γ Ω (upd H p o) := by
  refine e.step (fun b u _ h => by rw [upd_ne (ne_of_none h hp)]; exact h) (am.loc H _ (fun b m => upd_ne fun z => ?_) (fun b u _ h => by rw [upd_ne (ne_of_none h hp)]; exact h) e.inv)
  exact (am.ex H b e.inv m).some (by rw [z]; exact hp)
theorem DEnv.drop {t : Tp} (e : DEnv K c (t :: T) σ Γ Ω H) : DEnv K c T σ Γ Ω H := ⟨e.len, e.sl, fun u hu => e.tm u (List.mem_cons_of_mem _ hu), e.ob, e.nd, e.fr, e.el, e.frm, e.inv⟩
theorem DEnv.drops : ∀ {S : List Tp}, DEnv K c (S ++ T) σ Γ Ω H → DEnv K c T σ Γ Ω H
  | [], e => e
  | _ :: S, e => DEnv.drops (S := S) e.drop
theorem DEnv.add {t : Tp} (e : DEnv K c T σ Γ Ω H) (h : TpOk K H (Ex c Ω) t) : DEnv K c (t :: T) σ Γ Ω H := ⟨e.len, e.sl, fun u hu => by
  rcases List.mem_cons.mp hu with rfl | hu
  · exact h
  · exact e.tm u hu, e.ob, e.nd, e.fr, e.el, e.frm, e.inv⟩
theorem DEnv.addv {w : W} {v : V} (e : DEnv K c T σ Γ Ω H) (h : VOk K H (Ex c Ω) w v) : DEnv K c (.v w v :: T) σ Γ Ω H := e.add h
theorem DEnv.hd {w : W} {v : V} (e : DEnv K c (.v w v :: T) σ Γ Ω H) : VOk K H (Ex c Ω) w v := e.tm (.v w v) List.mem_cons_self
/-- a new tuple -/
theorem DEnv.tup (e : DEnv K c T σ Γ Ω H) {p : Addr} {xs : List D} {vs : List V} (hp : H p = none) (h : LayL K H (Ex c Ω) xs vs) : DEnv K c (.v (.sh (.tup xs)) (.ref p) :: T) σ Γ Ω (upd H p (.tup vs)) :=
  e.alloc hp |>.addv ⟨p, vs, rfl, e.noEx hp, upd_same, LayL.mono (fun b o n h => ⟨n, by rw [upd_ne (ne_of_none h hp)]; exact h⟩) xs vs h⟩
theorem DEnv.lst (e : DEnv K c T σ Γ Ω H) {p : Addr} {xs : List D} {vs : List V} (hp : H p = none) (h : LayL K H (Ex c Ω) xs vs) : DEnv K c (.v (.sh (.lst xs)) (.ref p) :: T) σ Γ Ω (upd H p (.lst vs)) :=
  e.alloc hp |>.addv ⟨p, vs, rfl, e.noEx hp, upd_same, LayL.mono (fun b o n h => ⟨n, by rw [upd_ne (ne_of_none h hp)]; exact h⟩) xs vs h⟩
/-- an own object -/
theorem DEnv.own (e : DEnv K c T σ Γ Ω H) {p : Addr} {o : HO} {od : OD} (hp : H p = none) (h0 : c.H0 p = none) (h : (∃ ws vs, od = .lst ws ∧ o = .lst vs ∧ VOks K H (Ex c Ω) ws vs) ∨ (∃ ks ws vs, od = .dic ks ws ∧ o = .dK (ks.zip vs) ∧ ks.length = ws.length ∧ VOks K H (Ex c Ω) ws vs)) :
    DEnv K c (.v (.pt p) (.ref p) :: T) σ Γ ((p, od) :: Ω) (upd H p o) := by
  have nE : ¬ Ex c Ω p := e.noEx hp
  have kx : ∀ b o, ¬ Ex c Ω b → H b = some o → ¬ Ex c ((p, od) :: Ω) b := fun b o n h z => by
    rcases z with z | z
    · exact n (.inl z)
    · rcases List.mem_cons.mp z with z | z
      · rw [show b = p from z, hp] at h
        cases h
      · exact n (.inr z)
  have kx' : ∀ b o', ¬ Ex c Ω b → H b = some o' → ¬ Ex c ((p, od) :: Ω) b ∧ upd H p o b = some o' := fun b o' n h => ⟨kx b o' n h, by rw [upd_ne (ne_of_none h hp)]; exact h⟩
  have e1 := e.alloc (o := o) hp
  refine ⟨e.len, fun j w h => ?_, fun t ht => ?_, fun q hq => ?_, List.nodup_cons.mpr ⟨fun z => nE (.inr z), e.nd⟩, fun q hq => ?_, e1.el, e1.frm, e1.inv⟩
  · obtain ⟨v, h1, h2⟩ := e.sl j w h
    exact ⟨v, h1, h2.mono kx'⟩
  · rcases List.mem_cons.mp ht with rfl | ht
    · exact rfl
    · exact (e.tm t ht).mono kx'
  · rcases List.mem_cons.mp hq with rfl | hq
    · rcases h with ⟨ws, vs, rfl, rfl, h⟩ | ⟨ks, ws, vs, rfl, rfl, hn, h⟩
      · exact ⟨vs, upd_same, h.mono kx'⟩
      · exact ⟨vs, upd_same, hn, h.mono kx'⟩
    · refine (e.ob q hq).mono kx' fun o' h => ?_
      rw [upd_ne (ne_of_none h hp)]
      exact h
  · rcases List.mem_cons.mp hq with rfl | hq
    · exact ⟨h0, fun z => nE (.inl z)⟩
    · exact e.fr q hq
theorem DEnv.eok (e : DEnv K c T σ Γ Ω H) {b : Addr} (h : Ex c Ω b) : EOk H b := by
  rcases h with h | h
  · exact e.el b h
  · obtain ⟨q, hq, rfl⟩ := List.mem_map.mp h
    exact (e.ob q hq).eok
/-- a tuple is no own thing -/
theorem DEnv.noTup (e : DEnv K c T σ Γ Ω H) {p : Addr} {vs : List V} (hp : H p = some (.tup vs)) : ¬ Ex c Ω p := fun h => by
  obtain ⟨o, h1, h2⟩ := e.eok h
  rw [hp] at h1
  cases h1
  exact h2.1 _ rfl
/-- nothing new was there at the begin -/
theorem DEnv.new (e : DEnv K c T σ Γ Ω H) {p : Addr} (hp : H p = none) : c.H0 p = none := by
  cases h : c.H0 p with
  | none => rfl
  | some o =>
    by_cases m : am.M p
    · exact absurd hp (am.ex H p e.inv m).some
    · rw [e.frm p o m h] at hp
      cases hp
/-! the own heap as data -/
def look (Ω : Om) (p : Addr) : Option OD := (Ω.find? fun q => decide (q.1 = p)).map (·.2)
def put (Ω : Om) (p : Addr) (od : OD) : Om := Ω.map fun q => if q.1 = p then (q.1, od) else q
theorem look_mem {p : Addr} {od : OD} (h : look Ω p = some od) : (p, od) ∈ Ω := by
  unfold look at h
  cases e : Ω.find? fun q => decide (q.1 = p) with
  | none => rw [e] at h; cases h
  | some q =>
    rw [e] at h
    cases h
    have h1 := List.mem_of_find?_eq_some e
    have h2 := List.find?_some e
    have h3 : q.1 = p := of_decide_eq_true h2
    rw [← h3]
    exact h1
theorem put_keys {p : Addr} {od : OD} : (OA.put Ω p od).map (·.1) = Ω.map (·.1) := by
  unfold put
  rw [List.map_map]
  refine List.map_congr_left fun q _ => ?_
  show (if q.1 = p then (q.1, od) else q).1 = q.1
  split <;> rfl
theorem Ex_put {p : Addr} {od : OD} : Ex c (OA.put Ω p od) = Ex c Ω := by
  funext b
  unfold Ex
  rw [put_keys]
/-- what stands at an own address is changed -/
theorem DEnv.put (e : DEnv K c T σ Γ Ω H) {p : Addr} {o : HO} {od od' : OD} (hl : look Ω p = some od) (h : ObOk K (upd H p o) (Ex c Ω) p od') : DEnv K c T σ Γ (OA.put Ω p od') (upd H p o) := by
  have hin : p ∈ Ω.map (·.1) := List.mem_map.mpr ⟨_, look_mem hl, rfl⟩
  have kx : ∀ b o', ¬ Ex c Ω b → H b = some o' → ¬ Ex c Ω b ∧ upd H p o b = some o' := fun b o' n h => ⟨n, by rw [upd_ne fun z => n (.inr (by rw [z]; exact hin))]; exact h⟩
  obtain ⟨f0, fE⟩ := e.fr p hin
  refine ⟨e.len, fun j w h => ?_, fun t ht => ?_, fun q hq => ?_, by rw [put_keys]; exact e.nd, by rw [put_keys]; exact e.fr, fun b hb => ?_, fun b o' n h => ?_, am.loc H _ (fun b m => upd_ne fun z => fE (by rw [← z]; exact c.ME b m)) (fun b u hu h => by rw [upd_ne fun z => (e.ob (p, od) (look_mem hl)).eok.nc (by rw [← z]; exact h) hu]; exact h) e.inv⟩
  · rw [Ex_put]
    obtain ⟨v, h1, h2⟩ := e.sl j w h
    exact ⟨v, h1, h2.mono kx⟩
  · rw [Ex_put]
    exact (e.tm t ht).mono kx
  · rw [Ex_put]
    obtain ⟨r, hr, rfl⟩ := List.mem_map.mp hq
    by_cases z : r.1 = p
    · simp only [z, if_true]
      exact h
    · simp only [z, if_false]
      refine (e.ob r hr).mono kx fun o' h => ?_
      rw [upd_ne z]
      exact h
  · by_cases z : b = p
    · exact absurd (by rw [← z]; exact hb) fE
    · obtain ⟨o', h, n⟩ := e.el b hb
      exact ⟨o', by rw [upd_ne z]; exact h, n⟩
  · rw [upd_ne fun z => ?_]
    · exact e.frm b o' n h
    · rw [z, f0] at h
      cases h
theorem DEnv.putL (e : DEnv K c T σ Γ Ω H) {p : Addr} {ws ws' : List W} {vs' : List V} (hl : look Ω p = some (.lst ws)) (h : VOks K H (Ex c Ω) ws' vs') : DEnv K c T σ Γ (OA.put Ω p (.lst ws')) (upd H p (.lst vs')) :=
  e.put hl ⟨vs', upd_same, h.mono fun b o n h => ⟨n, by rw [upd_ne fun z => n (.inr (by rw [z]; exact List.mem_map.mpr ⟨_, look_mem hl, rfl⟩))]; exact h⟩⟩
theorem DEnv.putD (e : DEnv K c T σ Γ Ω H) {p : Addr} {od : OD} {ks : List Key} {ws' : List W} {vs' : List V} {kvs : List (Key × V)} (hl : look Ω p = some od) (hk : kvs = ks.zip vs') (hn : ks.length = ws'.length) (h : VOks K H (Ex c Ω) ws' vs') : DEnv K c T σ Γ (OA.put Ω p (.dic ks ws')) (upd H p (.dK kvs)) :=
  e.put hl ⟨vs', by rw [hk]; exact upd_same, hn, h.mono fun b o n h => ⟨n, by rw [upd_ne fun z => n (.inr (by rw [z]; exact List.mem_map.mpr ⟨_, look_mem hl, rfl⟩))]; exact h⟩⟩
/-- a slot is stored to -/
theorem DEnv.set {i : Nat} {w : W} {v : V} (e : DEnv K c T σ Γ Ω H) (h : VOk K H (Ex c Ω) w v) : DEnv K c T (σ.set i (some v)) (Γ.set i (some w)) Ω H := by
  refine ⟨by rw [List.length_set, List.length_set]; exact e.len, fun j u h' => ?_, e.tm, e.ob, e.nd, e.fr, e.el, e.frm, e.inv⟩
  rw [List.getElem?_set] at h'
  by_cases z : i = j
  · subst z
    rw [if_pos rfl] at h'
    split at h'
    · rename_i hl
      cases h'
      exact ⟨v, by rw [List.getElem?_set, if_pos rfl, if_pos (by rw [← e.len]; exact hl)], h⟩
    · cases h'
  · rw [if_neg z] at h'
    obtain ⟨v', h1, h2⟩ := e.sl j u h'
    exact ⟨v', by rw [List.getElem?_set, if_neg z]; exact h1, h2⟩
end
/-- what a callee may change within what the caller may -/
class AmLe (a b : Am) : Prop where
  I : ∀ H, b.I H → a.I H
  M : ∀ x, a.M x → b.M x
  back : ∀ H H', b.I H → (∀ x o, ¬ a.M x → H x = some o → H' x = some o) → a.I H' → b.I H'
def am0 : Am := ⟨fun _ => True, fun _ => False, fun _ => True, fun _ _ _ _ _ => True.intro, fun _ _ _ h => h.elim⟩
theorem Am.keep (b : Am) {H H' : Hp} (i : b.I H) (k : ∀ x o, b.M x → H x = some o → H' x = some o) (kc : ∀ x o, Cd o → H x = some o → H' x = some o) : b.I H' := b.loc H H' (fun x m => by
  cases h : H x with
  | none => exact absurd h (b.ex H x i m).some
  | some o => rw [k x o m h]) kc i
instance amLe_refl (a : Am) : AmLe a a := ⟨fun _ h => h, fun _ h => h, fun _ _ _ _ h => h⟩
instance amLe_0 (a : Am) : AmLe am0 a := ⟨fun _ _ => True.intro, fun _ h => h.elim, fun _ _ i k _ => a.keep i (fun x o _ h => k x o (fun z => z) h) (fun x o _ h => k x o (fun z => z) h)⟩
def amAnd (a b : Am) : Am := ⟨fun _ => True, fun x => a.M x ∨ b.M x, fun H => a.I H ∧ b.I H ∧ ∀ x, a.M x → b.M x → False, fun H H' k kc i => ⟨a.loc H H' (fun x m => k x (.inl m)) kc i.1, b.loc H H' (fun x m => k x (.inr m)) kc i.2.1, i.2.2⟩, fun H x i m => m.elim (a.ex H x i.1) (b.ex H x i.2.1)⟩
instance amLe_l (a b : Am) : AmLe a (amAnd a b) := ⟨fun _ h => h.1, fun _ h => .inl h, fun _ _ i k h => ⟨h, b.keep i.2.1 (fun x o m e => k x o (fun z => i.2.2 x z m) e) (fun x o hc e => k x o (fun m => (a.ex _ x i.1 m).nc e hc) e), i.2.2⟩⟩
instance amLe_r (a b : Am) : AmLe b (amAnd a b) := ⟨fun _ h => h.2.1, fun _ h => .inr h, fun _ _ i k h => ⟨a.keep i.1 (fun x o m e => k x o (fun z => i.2.2 x m z) e) (fun x o hc e => k x o (fun m => (b.ex _ x i.2.1 m).nc e hc) e), h, i.2.2⟩⟩
/-- nothing is asked of the heap at a run's begin -/
class AmJ (am : Am) : Prop where
  j : ∀ H, am.J H
instance amJ_0 : AmJ am0 := ⟨fun _ => True.intro⟩
instance amJ_and (a b : Am) : AmJ (amAnd a b) := ⟨fun _ => True.intro⟩
/-- the heap at a run's begin is H -/
def Am.at (b : Am) (H : Hp) : Am := ⟨fun H' => H' = H, b.M, b.I, b.loc, b.ex⟩
instance amLe_at (a b : Am) (H : Hp) [s : AmLe a b] : AmLe a (b.at H) := ⟨s.I, s.M, s.back⟩
end OA

namespace OA
open PySem PySem.Spec PyProof.Rows L2
abbrev DQ := W → Om → Prop
abbrev DT := Gm → Om → DQ → Prop
abbrev DB := Gm → Om → (Bool → Om → Prop) → Prop
abbrev DA := Gm → Om → (List W → Om → Prop) → Prop
abbrev DR2 := W → W → Om → DQ → Prop
abbrev DR1 := W → Om → DQ → Prop
abbrev DRC := List W → Om → DQ → Prop
abbrev DRM := W → List W → Om → DQ → Prop
class SE (K : PySem.W.Frag) (am : Am) (te : TE) (t : outParam DT) : Prop where
  run : ∀ {c : Cq am} {T : List Tp} {σ : L2.St} {Γ : Gm} {Ω : Om} {H : Hp} {Q : DQ} {R : VK}, DEnv K c T σ Γ Ω H → t Γ Ω Q → (∀ v w Ω' H', Q w Ω' → DEnv K c (.v w v :: T) σ Γ Ω' H' → R v H') → te σ H R
class ST (K : PySem.W.Frag) (am : Am) (tt : TT) (t : outParam DB) : Prop where
  run : ∀ {c : Cq am} {T : List Tp} {σ : L2.St} {Γ : Gm} {Ω : Om} {H : Hp} {Q : Bool → Om → Prop} {R : Bool → Hp → Prop}, DEnv K c T σ Γ Ω H → t Γ Ω Q → (∀ b Ω' H', Q b Ω' → DEnv K c T σ Γ Ω' H' → R b H') → tt σ H R
class SA (K : PySem.W.Frag) (am : Am) (ta : TA) (t : outParam DA) : Prop where
  run : ∀ {c : Cq am} {T : List Tp} {σ : L2.St} {Γ : Gm} {Ω : Om} {H : Hp} {Q : List W → Om → Prop} {R : List V → Hp → Prop}, DEnv K c T σ Γ Ω H → t Γ Ω Q → (∀ vs ws Ω' H', Q ws Ω' → DEnv K c T σ Γ Ω' H' → VOks K H' (Ex c Ω') ws vs → R vs H') → ta σ H R
class SR2 (K : PySem.W.Frag) (am : Am) (r : R2) (d : outParam DR2) : Prop where
  run : ∀ {c : Cq am} {T : List Tp} {σ : L2.St} {Γ : Gm} {Ω : Om} {H : Hp} {x y : V} {wx wy : W} {Q : DQ} {R : VK}, DEnv K c T σ Γ Ω H → VOk K H (Ex c Ω) wx x → VOk K H (Ex c Ω) wy y → d wx wy Ω Q → (∀ v w Ω' H', Q w Ω' → DEnv K c (.v w v :: T) σ Γ Ω' H' → R v H') → r x y H R
class SR1 (K : PySem.W.Frag) (am : Am) (r : V → Hp → VK → Prop) (d : outParam DR1) : Prop where
  run : ∀ {c : Cq am} {T : List Tp} {σ : L2.St} {Γ : Gm} {Ω : Om} {H : Hp} {x : V} {wx : W} {Q : DQ} {R : VK}, DEnv K c T σ Γ Ω H → VOk K H (Ex c Ω) wx x → d wx Ω Q → (∀ v w Ω' H', Q w Ω' → DEnv K c (.v w v :: T) σ Γ Ω' H' → R v H') → r x H R
class SRC (K : PySem.W.Frag) (am : Am) (r : List V → Hp → VK → Prop) (d : outParam DRC) : Prop where
  run : ∀ {c : Cq am} {T : List Tp} {σ : L2.St} {Γ : Gm} {Ω : Om} {H : Hp} {xs : List V} {ws : List W} {Q : DQ} {R : VK}, DEnv K c T σ Γ Ω H → VOks K H (Ex c Ω) ws xs → d ws Ω Q → (∀ v w Ω' H', Q w Ω' → DEnv K c (.v w v :: T) σ Γ Ω' H' → R v H') → r xs H R
class SRM (K : PySem.W.Frag) (am : Am) (r : V → List V → Hp → VK → Prop) (d : outParam DRM) : Prop where
  run : ∀ {c : Cq am} {T : List Tp} {σ : L2.St} {Γ : Gm} {Ω : Om} {H : Hp} {x : V} {w : W} {xs : List V} {ws : List W} {Q : DQ} {R : VK}, DEnv K c T σ Γ Ω H → VOk K H (Ex c Ω) w x → VOks K H (Ex c Ω) ws xs → d w ws Ω Q → (∀ v w Ω' H', Q w Ω' → DEnv K c (.v w v :: T) σ Γ Ω' H' → R v H') → r x xs H R
/-! views of values -/
def varR (o : Option (Option W)) (k : W → Prop) : Prop := match o with | some (some w) => k w | _ => False
def intW (w : W) (k : Int → Prop) : Prop := match w with | .sh (.int i) => k i | _ => False
def blW (w : W) (k : Bool → Prop) : Prop := match w with | .sh (.bl b) => k b | _ => False
def strW (w : W) (k : Str → Prop) : Prop := match w with | .sh (.str s) => k s | _ => False
def shW (w : W) (k : D → Prop) : Prop := match w with | .sh x => k x | _ => False
def tyW (w : W) (k : String → Prop) : Prop := match w with | .ty n => k n | _ => False
def tupW (w : W) (k : List D → Prop) : Prop := match w with | .sh (.tup xs) => k xs | .sh (.nt ns) => k (ns.map .int) | _ => False
def tup0W (w : W) (k : List D → Prop) : Prop := match w with | .sh (.tup xs) => k xs | _ => False
def seqW (Ω : Om) (w : W) (k : List W → Prop) : Prop := match w with
  | .sh (.lst xs) => k (xs.map .sh)
  | .pt p => match look Ω p with
    | some (.lst ws) => k ws
    | _ => False
  | _ => False
def dicW (Ω : Om) (w : W) (k : List Key → List W → Prop) : Prop := match w with
  | .sh (.dic ks xs) => k ks (xs.map .sh)
  | .pt p => match look Ω p with
    | some (.dic ks ws) => k ks ws
    | some (.lk _ _ ks ws) => k ks ws
    | _ => False
  | _ => False
def ownL (Ω : Om) (w : W) (k : Addr → List W → Prop) : Prop := match w with
  | .pt p => match look Ω p with
    | some (.lst ws) => k p ws
    | _ => False
  | _ => False
def ownD (Ω : Om) (w : W) (k : Addr → List Key → List W → Prop) : Prop := match w with
  | .pt p => match look Ω p with
    | some (.dic ks ws) => k p ks ws
    | _ => False
  | _ => False
def keyW (w : W) (k : Key → Prop) : Prop := match w with | .sh (.int i) => k (.inl i) | .sh (.str s) => k (.inr s) | _ => False
def shsW : List W → (List D → Prop) → Prop
  | [], k => k []
  | .sh x :: r, k => shsW r fun ds => k (x :: ds)
  | _ :: _, _ => False
def one1W (l : List W) (k : W → Prop) : Prop := match l with | [x] => k x | _ => False
def two2W (l : List W) (k : W → W → Prop) : Prop := match l with | [x, y] => k x y | _ => False
theorem shsW_map (ds : List D) (k : List D → Prop) : shsW (ds.map .sh) k = k ds := by
  induction ds generalizing k with
  | nil => rfl
  | cons d ds ih => exact ih _
section
variable {K : PySem.W.Frag} {am : Am} {c : Cq am} {T : List Tp} {σ : L2.St} {Γ : Gm} {Ω : Om} {H : Hp} {w : W} {v : V}
theorem varR_el {o : Option (Option W)} {k : W → Prop} (h : varR o k) : ∃ w, o = some (some w) ∧ k w := by
  unfold varR at h
  split at h
  · exact ⟨_, rfl, h⟩
  · exact h.elim
theorem intW_el {k : Int → Prop} (h : intW w k) : ∃ i, w = .sh (.int i) ∧ k i := by
  unfold intW at h
  split at h
  · exact ⟨_, rfl, h⟩
  · exact h.elim
theorem blW_el {k : Bool → Prop} (h : blW w k) : ∃ i, w = .sh (.bl i) ∧ k i := by
  unfold blW at h
  split at h
  · exact ⟨_, rfl, h⟩
  · exact h.elim
theorem strW_el {k : Str → Prop} (h : strW w k) : ∃ i, w = .sh (.str i) ∧ k i := by
  unfold strW at h
  split at h
  · exact ⟨_, rfl, h⟩
  · exact h.elim
theorem shW_el {k : D → Prop} (h : shW w k) : ∃ i, w = .sh i ∧ k i := by
  unfold shW at h
  split at h
  · exact ⟨_, rfl, h⟩
  · exact h.elim
theorem tyW_el {k : String → Prop} (h : tyW w k) : ∃ i, w = .ty i ∧ k i := by
  unfold tyW at h
  split at h
  · exact ⟨_, rfl, h⟩
  · exact h.elim
theorem tup0W_el {k : List D → Prop} (h : tup0W w k) : ∃ i, w = .sh (.tup i) ∧ k i := by
  unfold tup0W at h
  split at h
  · exact ⟨_, rfl, h⟩
  · exact h.elim
theorem keyW_el {k : Key → Prop} (h : keyW w k) (hv : VOk K H (Ex c Ω) w v) : ∃ i, v = kV i ∧ k i := by
  unfold keyW at h
  split at h
  · exact ⟨.inl _, hv, h⟩
  · exact ⟨.inr _, hv, h⟩
  · exact h.elim
theorem one1W_el {l : List W} {vs : List V} {k : W → Prop} (h : one1W l k) (hv : VOks K H (Ex c Ω) l vs) : ∃ w v, vs = [v] ∧ VOk K H (Ex c Ω) w v ∧ k w := by
  unfold one1W at h
  split at h
  · obtain ⟨v, r, rfl, h1, rfl⟩ := hv
    exact ⟨_, v, rfl, h1, h⟩
  · exact h.elim
theorem two2W_el {l : List W} {vs : List V} {k : W → W → Prop} (h : two2W l k) (hv : VOks K H (Ex c Ω) l vs) : ∃ w v w2 v2, vs = [v, v2] ∧ VOk K H (Ex c Ω) w v ∧ VOk K H (Ex c Ω) w2 v2 ∧ k w w2 := by
  unfold two2W at h
  split at h
  · obtain ⟨v, r, rfl, h1, v2, r2, rfl, h2, rfl⟩ := hv
    exact ⟨_, v, _, v2, rfl, h1, h2, h⟩
  · exact h.elim
theorem shsW_el : ∀ {ws : List W} {k : List D → Prop}, shsW ws k → ∃ ds, ws = ds.map .sh ∧ k ds
  | [], k, h => ⟨[], rfl, h⟩
  | .sh x :: r, k, h => by
    obtain ⟨ds, e, z⟩ := shsW_el (ws := r) h
    exact ⟨x :: ds, by rw [e]; rfl, z⟩
  | .pt _ :: _, _, h => (show False from h).elim
  | .ty _ :: _, _, h => (show False from h).elim
theorem seqW_el {k : List W → Prop} (e : DEnv K c T σ Γ Ω H) (hv : VOk K H (Ex c Ω) w v) (h : seqW Ω w k) : ∃ a vs ws, v = .ref a ∧ H a = some (.lst vs) ∧ VOks K H (Ex c Ω) ws vs ∧ k ws := by
  unfold seqW at h
  split at h
  · obtain ⟨a, vs, rfl, n, ha, hl⟩ := hv
    exact ⟨a, vs, _, rfl, ha, VOks.sh_of hl, h⟩
  · split at h
    · rename_i ws hl
      obtain ⟨vs, h1, h2⟩ := e.ob _ (look_mem hl)
      exact ⟨_, vs, _, hv, h1, h2, h⟩
    · exact h.elim
  · exact h.elim
theorem nt_lay {H : Hp} {E : Addr → Prop} : ∀ ns : List Int, LayL K H E (ns.map .int) (ns.map V.int)
  | [] => rfl
  | n :: ns => ⟨_, _, rfl, rfl, nt_lay ns⟩
theorem tupW_at {k : List D → Prop} (hv : VOk K H (Ex c Ω) w v) (h : tupW w k) : ∃ a vs xs, v = .ref a ∧ Rd H a (.tup vs) ∧ LayL K H (Ex c Ω) xs vs ∧ k xs := by
  unfold tupW at h
  split at h
  · obtain ⟨a, vs, rfl, n, ha, hl⟩ := hv
    exact ⟨a, vs, _, rfl, .inl ha, hl, h⟩
  · obtain ⟨a, ob, rfl, n, ha, _⟩ := hv
    exact ⟨a, _, _, rfl, .inr ⟨ob, ha⟩, nt_lay _, h⟩
  · exact h.elim
theorem dicW_el {k : List Key → List W → Prop} (e : DEnv K c T σ Γ Ω H) (hv : VOk K H (Ex c Ω) w v) (h : dicW Ω w k) : ∃ a ks vs ws, v = .ref a ∧ Rd H a (.dK (ks.zip vs)) ∧ ks.length = ws.length ∧ VOks K H (Ex c Ω) ws vs ∧ k ks ws := by
  unfold dicW at h
  split at h
  · obtain ⟨a, vs, rfl, n, ha, hn, hl⟩ := hv
    exact ⟨a, _, vs, _, rfl, .inl ha, by rw [List.length_map]; exact hn, VOks.sh_of hl, h⟩
  · split at h
    · rename_i ks ws hl
      obtain ⟨vs, h1, hn, h2⟩ := e.ob _ (look_mem hl)
      exact ⟨_, ks, vs, _, hv, .inl h1, hn, h2, h⟩
    · rename_i ks ws hl
      obtain ⟨vs, h1, rfl, hn, h2⟩ := e.ob _ (look_mem hl)
      exact ⟨_, ks, vs, _, hv, .inr ⟨_, h1⟩, hn, h2, h⟩
    · exact h.elim
  · exact h.elim
theorem ownL_el {k : Addr → List W → Prop} (e : DEnv K c T σ Γ Ω H) (hv : VOk K H (Ex c Ω) w v) (h : ownL Ω w k) : ∃ a vs ws, v = .ref a ∧ look Ω a = some (.lst ws) ∧ H a = some (.lst vs) ∧ VOks K H (Ex c Ω) ws vs ∧ k a ws := by
  unfold ownL at h
  split at h
  · split at h
    · rename_i ws hl
      obtain ⟨vs, h1, h2⟩ := e.ob _ (look_mem hl)
      exact ⟨_, vs, _, hv, hl, h1, h2, h⟩
    · exact h.elim
  · exact h.elim
theorem ownD_el {k : Addr → List Key → List W → Prop} (e : DEnv K c T σ Γ Ω H) (hv : VOk K H (Ex c Ω) w v) (h : ownD Ω w k) : ∃ a ks vs ws, v = .ref a ∧ look Ω a = some (.dic ks ws) ∧ H a = some (.dK (ks.zip vs)) ∧ ks.length = ws.length ∧ VOks K H (Ex c Ω) ws vs ∧ k a ks ws := by
  unfold ownD at h
  split at h
  · split at h
    · rename_i ks ws hl
      obtain ⟨vs, h1, hn, h2⟩ := e.ob _ (look_mem hl)
      exact ⟨_, ks, vs, _, hv, hl, h1, hn, h2, h⟩
    · exact h.elim
  · exact h.elim
theorem VOks.atI {E : Addr → Prop} {ws : List W} {vs : List V} (h : VOks K H E ws vs) {i : Int} {w : W} (e : L2.atI ws i = some w) : ∃ v, L2.atI vs i = some v ∧ VOk K H E w v := by
  unfold L2.atI at e ⊢
  rw [← h.len]
  cases q : ixN ws.length i with
  | none => rw [q] at e; cases e
  | some j =>
    rw [q] at e
    exact h.to j e
/-- pairs of a dict by their place -/
theorem valV_zip : ∀ {ks : List Key} {vs : List V} {ws : List W} {E : Addr → Prop} {k : Key} {w : W}, VOks K H E ws vs → ((ks.zip ws).find? fun q => decide (q.1 = k)).map (·.2) = some w → ∃ v, valV (ks.zip vs) k = some v ∧ VOk K H E w v
  | [], _, _, _, _, _, _, e => by simp at e
  | _ :: _, _, [], _, _, _, _, e => by simp at e
  | k0 :: ks, _, w0 :: ws, E, k, w, ⟨v, r, rfl, h1, h2⟩, e => by
    unfold valV
    rw [List.zip_cons_cons, List.find?_cons] at e ⊢
    by_cases z : k0 = k
    · simp only [z, decide_true] at e ⊢
      cases e
      exact ⟨v, rfl, h1⟩
    · simp only [z, decide_false] at e ⊢
      exact valV_zip h2 e
theorem valV_zipN : ∀ {ks : List Key} {vs : List V} {ws : List W} {k : Key}, ks.length = ws.length → VOks K H (Ex c Ω) ws vs → (valV (ks.zip vs) k).isSome = ks.any fun q => decide (q = k)
  | [], _, _, _, _, _ => rfl
  | k0 :: ks, _, [], k, hn, _ => by simp at hn
  | k0 :: ks, _, w0 :: ws, k, hn, ⟨v, r, rfl, h1, h2⟩ => by
    have ih := valV_zipN (k := k) (by simpa using hn) h2
    unfold valV at ih ⊢
    rw [List.zip_cons_cons, List.find?_cons]
    by_cases z : k0 = k
    · simp [z]
    · simp only [z, decide_false, ih]
      simp [z]
end
def dval (ks : List Key) (ws : List W) (k : Key) : Option W := ((ks.zip ws).find? fun q => decide (q.1 = k)).map (·.2)
/-! expressions -/
section
variable {K : PySem.W.Frag} {am : Am} {ta tb tc : TE} {da db dc : DT} {tq : TT} {dq : DB} {tas : TA} {das : DA}
def dVar (i : Nat) (Γ : Gm) (Ω : Om) (Q : DQ) : Prop := varR (Γ[i]?) fun w => Q w Ω
instance s_var (i : Nat) : SE K am (vVar i) (dVar i) := ⟨fun {c T σ Γ Ω H Q R} e h k => by
  obtain ⟨w, h1, h2⟩ := varR_el h
  obtain ⟨v, h3, h4⟩ := e.sl i w h1
  show optR _ _
  rw [h3]
  exact k v w Ω H h2 (e.addv h4)⟩
def cW : V → Option W
  | .non => some (.sh .non)
  | .bl b => some (.sh (.bl b))
  | .int i => some (.sh (.int i))
  | .str s => some (.sh (.str s))
  | .ty n => some (.ty n)
  | .ref p => some (.pt p)
  | _ => none
def dC (v : V) (_Γ0 : Gm) (Ω : Om) (Q : DQ) : Prop := match cW v with | some w => Q w Ω | none => False
instance s_c (v : V) : SE K am (tC v) (dC v) := ⟨fun {c T σ Γ Ω H Q R} e h k => by
  unfold dC at h
  split at h
  · rename_i w hw
    refine k v w Ω H h (e.addv ?_)
    cases v <;> first | (cases hw; exact rfl) | cases hw
  · exact h.elim⟩
def dOp (r : DR2) (da db : DT) (Γ : Gm) (Ω : Om) (Q : DQ) : Prop := da Γ Ω fun x Ω1 => db Γ Ω1 fun y Ω2 => r x y Ω2 Q
instance s_op {r : R2} {d : DR2} [s1 : SE K am ta da] [s2 : SE K am tb db] [s3 : SR2 K am r d] : SE K am (tOp r ta tb) (dOp d da db) := ⟨fun {c T σ Γ Ω H Q R} e h k =>
  s1.run e h fun x wx Ω1 H1 h1 e1 => s2.run e1 h1 fun y wy Ω2 H2 h2 e2 => s3.run e2.drop.drop e2.drop.hd e2.hd h2 fun v w Ω' H' q e' => k v w Ω' H' q e'⟩
def dUn (r : DR1) (da : DT) (Γ : Gm) (Ω : Om) (Q : DQ) : Prop := da Γ Ω fun x Ω1 => r x Ω1 Q
instance s_un {r : V → Hp → VK → Prop} {d : DR1} [s1 : SE K am ta da] [s3 : SR1 K am r d] : SE K am (tUn r ta) (dUn d da) := ⟨fun {c T σ Γ Ω H Q R} e h k =>
  s1.run e h fun x wx Ω1 H1 h1 e1 => s3.run e1.drop e1.hd h1 fun v w Ω' H' q e' => k v w Ω' H' q e'⟩
def dNil (_Γ0 : Gm) (Ω : Om) (Q : List W → Om → Prop) : Prop := Q [] Ω
instance s_nil : SA K am tNil dNil := ⟨fun {c T σ Γ Ω H Q R} e h k => k [] [] Ω H h e rfl⟩
def dCons (da : DT) (das : DA) (Γ : Gm) (Ω : Om) (Q : List W → Om → Prop) : Prop := da Γ Ω fun w Ω1 => das Γ Ω1 fun ws Ω2 => Q (w :: ws) Ω2
instance s_cons [s1 : SE K am ta da] [s2 : SA K am tas das] : SA K am (tCons ta tas) (dCons da das) := ⟨fun {c T σ Γ Ω H Q R} e h k =>
  s1.run e h fun x wx Ω1 H1 h1 e1 => s2.run e1 h1 fun vs ws Ω2 H2 h2 e2 h3 => k (x :: vs) (wx :: ws) Ω2 H2 h2 e2.drop ⟨x, vs, rfl, e2.hd, h3⟩⟩
def dStar (da : DT) (das : DA) (Γ : Gm) (Ω : Om) (Q : List W → Om → Prop) : Prop := da Γ Ω fun w Ω1 => seqW Ω1 w fun us => shsW us fun ds => das Γ Ω1 fun ws Ω2 => Q (ds.map .sh ++ ws) Ω2
/-- what a shared thing is, however the heap goes on -/
theorem star_run {c : Cq am} {T : List Tp} {σ : L2.St} {Γ : Gm} {Ω : Om} {H : Hp} {vs : List V} {ds : List D} (e : DEnv K c T σ Γ Ω H) (h : VOks K H (Ex c Ω) (ds.map .sh) vs) : ∃ S : List Tp, DEnv K c (S ++ T) σ Γ Ω H ∧ ∀ {Ω' : Om} {H' : Hp}, DEnv K c (S ++ T) σ Γ Ω' H' → VOks K H' (Ex c Ω') (ds.map .sh) vs := by
  induction ds generalizing vs with
  | nil => exact ⟨[], e, fun _ => h⟩
  | cons d ds ih =>
    obtain ⟨v, r, rfl, h1, h2⟩ := h
    obtain ⟨S, e1, h3⟩ := ih h2
    exact ⟨.v (.sh d) v :: S, e1.addv h1, fun e' => ⟨v, r, rfl, e'.hd, h3 e'.drop⟩⟩
instance s_star [s1 : SE K am ta da] [s2 : SA K am tas das] : SA K am (vStar ta tas) (dStar da das) := ⟨fun {c T σ Γ Ω H Q R} e h k =>
  s1.run e h fun x wx Ω1 H1 h1 e1 => by
    obtain ⟨a, vs, us, rfl, ha, hu, h2⟩ := seqW_el e1.drop e1.hd h1
    obtain ⟨ds, rfl, h3⟩ := shsW_el h2
    obtain ⟨S, e2, h4⟩ := star_run e1.drop hu
    show lstO (H1 a) _
    rw [ha]
    exact s2.run e2 h3 fun ts ws Ω2 H2 h5 e3 h6 => k (vs ++ ts) _ Ω2 H2 h5 e3.drops ((h4 e3).app h6)⟩
/-- star of a tuple -/
def vStarT (te : TE) (t : TA) : TA := fun σ H Q => te σ H fun y H1 => refR y fun a => tupO (H1 a) fun xs => t σ H1 fun vs H2 => Q (xs ++ vs) H2
def dStarT (da : DT) (das : DA) (Γ : Gm) (Ω : Om) (Q : List W → Om → Prop) : Prop := da Γ Ω fun w Ω1 => tupW w fun ds => das Γ Ω1 fun ws Ω2 => Q (ds.map .sh ++ ws) Ω2
instance s_starT [s1 : SE K am ta da] [s2 : SA K am tas das] : SA K am (vStarT ta tas) (dStarT da das) := ⟨fun {c T σ Γ Ω H Q R} e h k =>
  s1.run e h fun x wx Ω1 H1 h1 e1 => by
    obtain ⟨a, vs, ds, rfl, ha, hu, h3⟩ := tupW_at e1.hd h1
    obtain ⟨S, e2, h4⟩ := star_run e1.drop (VOks.sh_of hu)
    show tupO (H1 a) _
    exact rd_tupO ha (s2.run e2 h3 fun ts ws Ω2 H2 h5 e3 h6 => k (vs ++ ts) _ Ω2 H2 h5 e3.drops ((h4 e3).app h6))⟩
def lenOk {α : Type} (l : List α) : Prop := l.length ≤ sizeLine
theorem lenOk_of {α : Type} {l : List α} (h : l.length ≤ 16777216) : lenOk l := by unfold lenOk; rw [sizeLine_eq]; exact h
def dTup (das : DA) (Γ : Gm) (Ω : Om) (Q : DQ) : Prop := das Γ Ω fun ws Ω1 => shsW ws fun ds => lenOk ds ∧ Q (.sh (.tup ds)) Ω1
instance s_tup [s1 : SA K am tas das] : SE K am (tTup tas) (dTup das) := ⟨fun {c T σ Γ Ω H Q R} e h k =>
  s1.run e h fun vs ws Ω1 H1 h1 e1 hv => by
    obtain ⟨ds, rfl, hl, h2⟩ := shsW_el h1
    have n := hv.len
    rw [List.length_map] at n
    exact ⟨by rw [← n]; exact hl, fun p hp => k _ _ _ _ h2 (e1.tup hp hv.lay)⟩⟩
def dLst (das : DA) (Γ : Gm) (Ω : Om) (Q : DQ) : Prop := das Γ Ω fun ws Ω1 => shsW ws fun ds => lenOk ds ∧ Q (.sh (.lst ds)) Ω1
instance s_lst [s1 : SA K am tas das] : SE K am (tLst tas) (dLst das) := ⟨fun {c T σ Γ Ω H Q R} e h k =>
  s1.run e h fun vs ws Ω1 H1 h1 e1 hv => by
    obtain ⟨ds, rfl, hl, h2⟩ := shsW_el h1
    have n := hv.len
    rw [List.length_map] at n
    exact ⟨by rw [← n]; exact hl, fun p hp => k _ _ _ _ h2 (e1.lst hp hv.lay)⟩⟩
/-- the same things, to be changed by this run -/
def ownE (te : TE) : TE := te
theorem q_own {X : Cx} {e : Expr} (h : PE X e ta) : PE X e (ownE ta) := h
def notin (p : Addr) (Ω : Om) : Prop := p ∉ Ω.map (·.1)
def dLstO (das : DA) (Γ : Gm) (Ω : Om) (Q : DQ) : Prop := das Γ Ω fun ws Ω1 => lenOk ws ∧ ∀ p, notin p Ω1 → Q (.pt p) ((p, .lst ws) :: Ω1)
instance s_lstO [s1 : SA K am tas das] : SE K am (ownE (tLst tas)) (dLstO das) := ⟨fun {c T σ Γ Ω H Q R} e h k =>
  s1.run e h fun vs ws Ω1 H1 h1 e1 hv => by
    have n := hv.len
    exact ⟨by rw [← n]; exact h1.1, fun p hp => k _ _ _ _ (h1.2 p fun z => e1.noEx hp (.inr z)) (e1.own hp (e1.new hp) (.inl ⟨ws, vs, rfl, rfl, hv⟩))⟩⟩
def dAnd (da db : DT) (Γ : Gm) (Ω : Om) (Q : DQ) : Prop := da Γ Ω fun x Ω1 => blW x fun b => if b = true then db Γ Ω1 Q else Q (.sh (.bl false)) Ω1
instance s_and [s1 : SE K am ta da] [s2 : SE K am tb db] : SE K am (vAnd ta tb) (dAnd da db) := ⟨fun {c T σ Γ Ω H Q R} e h k =>
  s1.run e h fun x wx Ω1 H1 h1 e1 => by
    obtain ⟨b, rfl, h2⟩ := blW_el h1
    obtain rfl : x = .bl b := e1.hd
    show if b = true then _ else _
    cases b with
    | true => exact s2.run e1.drop h2 k
    | false => exact k _ _ _ _ h2 (e1.drop.addv rfl)⟩
def dOr (da db : DT) (Γ : Gm) (Ω : Om) (Q : DQ) : Prop := da Γ Ω fun x Ω1 => blW x fun b => if b = true then Q (.sh (.bl true)) Ω1 else db Γ Ω1 Q
instance s_or [s1 : SE K am ta da] [s2 : SE K am tb db] : SE K am (vOr ta tb) (dOr da db) := ⟨fun {c T σ Γ Ω H Q R} e h k =>
  s1.run e h fun x wx Ω1 H1 h1 e1 => by
    obtain ⟨b, rfl, h2⟩ := blW_el h1
    obtain rfl : x = .bl b := e1.hd
    show if b = true then _ else _
    cases b with
    | false => exact s2.run e1.drop h2 k
    | true => exact k _ _ _ _ h2 (e1.drop.addv rfl)⟩
def dNot (da : DT) (Γ : Gm) (Ω : Om) (Q : DQ) : Prop := da Γ Ω fun x Ω1 => blW x fun b => Q (.sh (.bl (!b))) Ω1
instance s_not [s1 : SE K am ta da] : SE K am (vNot ta) (dNot da) := ⟨fun {c T σ Γ Ω H Q R} e h k =>
  s1.run e h fun x wx Ω1 H1 h1 e1 => by
    obtain ⟨b, rfl, h2⟩ := blW_el h1
    obtain rfl : x = .bl b := e1.hd
    exact k _ _ _ _ h2 (e1.drop.addv rfl)⟩
def dIf (dq : DB) (da db : DT) (Γ : Gm) (Ω : Om) (Q : DQ) : Prop := dq Γ Ω fun b Ω1 => if b = true then da Γ Ω1 Q else db Γ Ω1 Q
instance s_if [s0 : ST K am tq dq] [s1 : SE K am ta da] [s2 : SE K am tb db] : SE K am (tIf tq ta tb) (dIf dq da db) := ⟨fun {c T σ Γ Ω H Q R} e h k =>
  s0.run e h fun b Ω1 H1 h1 e1 => by
    show if b = true then _ else _
    cases b with
    | true => exact s1.run e1 h1 k
    | false => exact s2.run e1 h1 k⟩
def dTest (da : DT) (Γ : Gm) (Ω : Om) (Q : Bool → Om → Prop) : Prop := da Γ Ω fun x Ω1 => blW x fun b => Q b Ω1
instance s_test [s1 : SE K am ta da] : ST K am (vTest ta) (dTest da) := ⟨fun {c T σ Γ Ω H Q R} e h k =>
  s1.run e h fun x wx Ω1 H1 h1 e1 => by
    obtain ⟨b, rfl, h2⟩ := blW_el h1
    obtain rfl : x = .bl b := e1.hd
    exact k _ _ _ h2 e1.drop⟩
def dYes (_Γ0 : Gm) (Ω : Om) (Q : Bool → Om → Prop) : Prop := Q true Ω
instance s_yes : ST K am tYes dYes := ⟨fun {c T σ Γ Ω H Q R} e h k => k _ _ _ h e⟩
def dChain (r r' : DR2) (da db dc : DT) (Γ : Gm) (Ω : Om) (Q : DQ) : Prop := da Γ Ω fun x Ω1 => db Γ Ω1 fun y Ω2 => r x y Ω2 fun z Ω3 => blW z fun b => if b = true then dc Γ Ω3 fun u Ω4 => r' y u Ω4 Q else Q (.sh (.bl false)) Ω3
instance s_chain {r r' : R2} {d d' : DR2} [s1 : SE K am ta da] [s2 : SE K am tb db] [s3 : SE K am tc dc] [s4 : SR2 K am r d] [s5 : SR2 K am r' d'] : SE K am (vChain r r' ta tb tc) (dChain d d' da db dc) := ⟨fun {c T σ Γ Ω H Q R} e h k =>
  s1.run e h fun x wx Ω1 H1 h1 e1 => s2.run e1 h1 fun y wy Ω2 H2 h2 e2 => s4.run e2 e2.drop.hd e2.hd h2 fun z wz Ω3 H3 h3 e3 => by
    obtain ⟨b, rfl, h4⟩ := blW_el h3
    obtain rfl : z = .bl b := e3.hd
    show if b = true then _ else _
    cases b with
    | true => exact s3.run e3.drop h4 fun u wu Ω4 H4 h5 e4 => s5.run e4.drop.drop.drop e4.drop.hd e4.hd h5 k
    | false => exact k _ _ _ _ h4 (e3.drop.drop.drop.addv rfl)⟩
def dCall (r : DRC) (das : DA) (Γ : Gm) (Ω : Om) (Q : DQ) : Prop := das Γ Ω fun ws Ω1 => r ws Ω1 Q
instance s_cb {r : List V → Hp → VK → Prop} {d : DRC} [s1 : SA K am tas das] [s2 : SRC K am r d] : SE K am (tCB r tas) (dCall d das) := ⟨fun {c T σ Γ Ω H Q R} e h k =>
  s1.run e h fun vs ws Ω1 H1 h1 e1 hv => s2.run e1 hv h1 k⟩
end
end OA

namespace OA
open PySem PySem.Spec PyProof.Rows L2
structure DN where
  nx : Gm → Om → Prop
  rt : W → Om → Prop
  bk : Gm → Om → Prop
  ct : Gm → Om → Prop
abbrev DS := DN → Gm → Om → Prop
abbrev DG := W → Gm → Om → (Gm → Om → Prop) → Prop
abbrev DGs := List W → Gm → Om → (Gm → Om → Prop) → Prop
abbrev DI := Gm → Om → (List W → Om → Prop) → Prop
structure EndsOk (K : PySem.W.Frag) {am : Am} (c : Cq am) (T : List Tp) (D : Ends) (N : DN) : Prop where
  nx : ∀ σ Γ Ω H, N.nx Γ Ω → DEnv K c T σ Γ Ω H → D.nx σ H
  rt : ∀ v w σ Γ Ω H, N.rt w Ω → DEnv K c (.v w v :: T) σ Γ Ω H → D.rt v H
  bk : ∀ σ Γ Ω H, N.bk Γ Ω → DEnv K c T σ Γ Ω H → D.bk σ H
  ct : ∀ σ Γ Ω H, N.ct Γ Ω → DEnv K c T σ Γ Ω H → D.ct σ H
class SS (K : PySem.W.Frag) (am : Am) (ts : TS) (t : outParam DS) : Prop where
  run : ∀ {c : Cq am} {T : List Tp} {σ : L2.St} {Γ : Gm} {Ω : Om} {H : Hp} {D : Ends} {N : DN}, DEnv K c T σ Γ Ω H → t N Γ Ω → EndsOk K c T D N → ts D σ H
class SG (K : PySem.W.Frag) (am : Am) (g : TG) (d : outParam DG) (ix : outParam (List Nat)) : Prop where
  run : ∀ {c : Cq am} {T : List Tp} {σ : L2.St} {Γ : Gm} {Ω : Om} {H : Hp} {v : V} {w : W} {Q : Gm → Om → Prop} {R : L2.St → Hp → Prop}, DEnv K c T σ Γ Ω H → VOk K H (Ex c Ω) w v → d w Γ Ω Q →
    (∀ σ' Γ' Ω' H', Q Γ' Ω' → DEnv K c T σ' Γ' Ω' H' → (∀ vs, (∀ i ∈ ix, i ∈ vs) → wipe σ' vs = wipe σ vs) → R σ' H') → g v σ H R
class SGs (K : PySem.W.Frag) (am : Am) (g : TGs) (d : outParam DGs) (ix : outParam (List Nat)) : Prop where
  run : ∀ {c : Cq am} {T : List Tp} {σ : L2.St} {Γ : Gm} {Ω : Om} {H : Hp} {vs : List V} {ws : List W} {Q : Gm → Om → Prop} {R : L2.St → Hp → Prop}, DEnv K c T σ Γ Ω H → VOks K H (Ex c Ω) ws vs → d ws Γ Ω Q →
    (∀ σ' Γ' Ω' H', Q Γ' Ω' → DEnv K c T σ' Γ' Ω' H' → (∀ vs, (∀ i ∈ ix, i ∈ vs) → wipe σ' vs = wipe σ vs) → R σ' H') → g vs σ H R
class SI (K : PySem.W.Frag) (am : Am) (wi : TI) (d : outParam DI) : Prop where
  run : ∀ {c : Cq am} {T : List Tp} {σ : L2.St} {Γ : Gm} {Ω : Om} {H : Hp} {Q : List W → Om → Prop} {R : It → Hp → Prop}, DEnv K c T σ Γ Ω H → d Γ Ω Q →
    (∀ J H' ws Ω' T' G Y, Q ws Ω' → DEnv K c (T' ++ T) σ Γ Ω' H' → Walk J ws.length G Y → (∀ σ Γ Ω H, DEnv K c (T' ++ T) σ Γ Ω H → G H) →
      (∀ (S : List Tp) i x σ Γ Ω H H', i < ws.length → DEnv K c (S ++ (T' ++ T)) σ Γ Ω H → Y i H x H' → ∃ w, ws[i]? = some w ∧ DEnv K c (.v w x :: (S ++ (T' ++ T))) σ Γ Ω H') → R J H') → wi σ H R
/-! own things given away -/
def subW (p : Addr) (d : D) : W → W
  | .pt q => if q = p then .sh d else .pt q
  | w => w
def subO (p : Addr) (d : D) : OD → OD
  | .lst ws => .lst (ws.map (subW p d))
  | .dic ks ws => .dic ks (ws.map (subW p d))
  | .lk o kvs ks ws => .lk o kvs ks (ws.map (subW p d))
  | .dt ks ws => .dt ks (ws.map (subW p d))
def subG (p : Addr) (d : D) (Γ : Gm) : Gm := Γ.map (·.map (subW p d))
def subΩ (p : Addr) (d : D) (Ω : Om) : Om := (Ω.filter fun q => decide (q.1 ≠ p)).map fun q => (q.1, subO p d q.2)
inductive Fz1 (Ω : Om) (p : Addr) : D → Prop
  | lst {ds : List D} : look Ω p = some (.lst (ds.map .sh)) → Fz1 Ω p (.lst ds)
  | dic {ks : List Key} {ds : List D} : look Ω p = some (.dic ks (ds.map .sh)) → Fz1 Ω p (.dic ks ds)
section
variable {K : PySem.W.Frag} {am : Am} {c : Cq am} {T : List Tp} {σ : L2.St} {Γ : Gm} {Ω : Om} {H : Hp}
theorem subW_ok {E : Addr → Prop} {p : Addr} {d : D} (h : Lay K H E d (.ref p)) {w : W} {v : V} (hv : VOk K H E w v) : VOk K H E (subW p d w) v := by
  cases w with
  | sh x => exact hv
  | ty n => exact hv
  | pt q =>
    unfold subW
    by_cases z : q = p
    · simp only [z, if_true]
      rw [show v = .ref q from hv, z]
      exact h
    · simp only [z, if_false]
      exact hv
theorem subW_oks {E : Addr → Prop} {p : Addr} {d : D} (h : Lay K H E d (.ref p)) : ∀ {ws : List W} {vs : List V}, VOks K H E ws vs → VOks K H E (ws.map (subW p d)) vs
  | [], _, hv => hv
  | _ :: _, _, ⟨v, r, e, h1, h2⟩ => ⟨v, r, e, subW_ok h h1, subW_oks h h2⟩
theorem subΩ_keys {p : Addr} {d : D} (b : Addr) : b ∈ (subΩ p d Ω).map (·.1) ↔ b ∈ Ω.map (·.1) ∧ b ≠ p := by
  unfold subΩ
  rw [List.map_map, List.mem_map, List.mem_map]
  constructor
  · rintro ⟨q, hq, rfl⟩
    obtain ⟨h1, h2⟩ := List.mem_filter.mp hq
    exact ⟨⟨q, h1, rfl⟩, of_decide_eq_true h2⟩
  · rintro ⟨⟨q, hq, rfl⟩, n⟩
    exact ⟨q, List.mem_filter.mpr ⟨hq, decide_eq_true n⟩, rfl⟩
theorem DEnv.frz {p : Addr} {d : D} (e : DEnv K c T σ Γ Ω H) (f : Fz1 Ω p d) : DEnv K c T σ (subG p d Γ) (subΩ p d Ω) H := by
  have hin : p ∈ Ω.map (·.1) := by cases f with
    | lst h => exact List.mem_map.mpr ⟨_, look_mem h, rfl⟩
    | dic h => exact List.mem_map.mpr ⟨_, look_mem h, rfl⟩
  have le : ∀ b, ¬ Ex c Ω b → ¬ Ex c (subΩ p d Ω) b := fun b n z => by
    rcases z with z | z
    · exact n (.inl z)
    · exact n (.inr ((subΩ_keys b).mp z).1)
  have kx : ∀ b o, ¬ Ex c Ω b → H b = some o → ¬ Ex c (subΩ p d Ω) b ∧ H b = some o := fun b o n h => ⟨le b n, h⟩
  have np : ¬ Ex c (subΩ p d Ω) p := fun z => by
    rcases z with z | z
    · exact (e.fr p hin).2 z
    · exact ((subΩ_keys p).mp z).2 rfl
  have lay : Lay K H (Ex c (subΩ p d Ω)) d (.ref p) := by
    cases f with
    | lst h =>
      obtain ⟨vs, h1, h2⟩ := e.ob _ (look_mem h)
      exact ⟨p, vs, rfl, np, h1, (h2.mono kx).lay⟩
    | dic h =>
      obtain ⟨vs, h1, hn, h2⟩ := e.ob _ (look_mem h)
      exact ⟨p, vs, rfl, np, h1, by rw [List.length_map] at hn; exact hn, (h2.mono kx).lay⟩
  refine ⟨by unfold subG; rw [List.length_map]; exact e.len, fun j w h => ?_, fun t ht => (e.tm t ht).mono kx, fun q hq => ?_, ?_, fun q hq => e.fr q ((subΩ_keys q).mp hq).1, e.el, e.frm, e.inv⟩
  · unfold subG at h
    rw [List.getElem?_map] at h
    cases q : Γ[j]? with
    | none => rw [q] at h; cases h
    | some o =>
      rw [q] at h
      cases o with
      | none => cases h
      | some w0 =>
        cases h
        obtain ⟨v, h1, h2⟩ := e.sl j w0 q
        exact ⟨v, h1, subW_ok lay (h2.mono kx)⟩
  · obtain ⟨r, hr, rfl⟩ := List.mem_map.mp hq
    have ho := (e.ob r (List.mem_filter.mp hr).1).mono kx fun _ h => h
    obtain ⟨r1, r2⟩ := r
    cases r2 with
    | lst ws =>
      obtain ⟨vs, h1, h2⟩ := ho
      exact ⟨vs, h1, subW_oks lay h2⟩
    | dic ks ws =>
      obtain ⟨vs, h1, hn, h2⟩ := ho
      exact ⟨vs, h1, by rw [List.length_map]; exact hn, subW_oks lay h2⟩
    | lk o kvs ks ws =>
      obtain ⟨vs, h1, hz, hn, h2⟩ := ho
      exact ⟨vs, h1, hz, by rw [List.length_map]; exact hn, subW_oks lay h2⟩
    | dt ks ws =>
      obtain ⟨vs, h1, hn, h2⟩ := ho
      exact ⟨vs, h1, by rw [List.length_map]; exact hn, subW_oks lay h2⟩
  · unfold subΩ
    rw [List.map_map]
    have : ((Ω.filter fun q => decide (q.1 ≠ p)).map (·.1)).Nodup := List.Nodup.sublist (List.Sublist.map _ List.filter_sublist) e.nd
    exact this
end
theorem DEnv.perm {K : PySem.W.Frag} {am : Am} {c : Cq am} {T : List Tp} {σ : L2.St} {Γ : Gm} {Ω Ω' : Om} {H : Hp} (e : DEnv K c T σ Γ Ω H) (p : Ω.Perm Ω') : DEnv K c T σ Γ Ω' H := by
  have ex : Ex c Ω' = Ex c Ω := by
    funext b
    have : (b ∈ Ω'.map (·.1)) = (b ∈ Ω.map (·.1)) := propext (p.map _).mem_iff.symm
    unfold Ex
    rw [this]
  exact ⟨e.len, by rw [ex]; exact e.sl, by rw [ex]; exact e.tm, fun q hq => by rw [ex]; exact e.ob q (p.mem_iff.mpr hq), (p.map _).nodup_iff.mp e.nd, fun q hq => e.fr q ((p.map _).mem_iff.mpr hq), e.el, e.frm, e.inv⟩
/-- what was built is no longer changed -/
theorem DEnv.unown {K : PySem.W.Frag} {am : Am} {c : Cq am} {T : List Tp} {σ : L2.St} {Γ : Gm} {Ω : Om} {H : Hp} {p : Addr} {ds : List D} (e : DEnv K c T σ Γ ((p, .lst (ds.map .sh)) :: Ω) H) (n : notin p Ω) : DEnv K c (.v (.sh (.lst ds)) (.ref p) :: T) σ Γ Ω H := by
  have kx : ∀ b o, ¬ Ex c ((p, .lst (ds.map .sh)) :: Ω) b → H b = some o → ¬ Ex c Ω b ∧ H b = some o := fun b o n h => ⟨fun z => n (z.elim .inl fun z => .inr (List.mem_cons_of_mem _ z)), h⟩
  obtain ⟨vs, a1, a2⟩ := e.ob _ List.mem_cons_self
  have np : ¬ Ex c Ω p := fun z => z.elim (e.fr p List.mem_cons_self).2 n
  refine ⟨e.len, fun j w h => ?_, fun t ht => ?_, fun q hq => (e.ob q (List.mem_cons_of_mem _ hq)).mono kx fun _ h => h, (List.nodup_cons.mp e.nd).2, fun q hq => e.fr q (List.mem_cons_of_mem _ hq), e.el, e.frm, e.inv⟩
  · obtain ⟨v, h1, h2⟩ := e.sl j w h
    exact ⟨v, h1, h2.mono kx⟩
  · rcases List.mem_cons.mp ht with rfl | ht
    · exact ⟨p, vs, rfl, np, a1, (a2.mono kx).lay⟩
    · exact (e.tm t ht).mono kx
/-- what comes later; own things may be given away first -/
inductive LaterD (P : Gm → Om → Prop) : Gm → Om → Prop
  | mk {Γ : Gm} {Ω : Om} : P Γ Ω → LaterD P Γ Ω
  | frz {Γ : Gm} {Ω : Om} (p : Addr) (d : D) : Fz1 Ω p d → LaterD P (subG p d Γ) (subΩ p d Ω) → LaterD P Γ Ω
  | perm {Γ : Gm} {Ω : Om} (Ω' : Om) : Ω.Perm Ω' → LaterD P Γ Ω' → LaterD P Γ Ω
theorem LaterD.run {K : PySem.W.Frag} {am : Am} {c : Cq am} {T : List Tp} {σ : L2.St} {H : Hp} {P : Gm → Om → Prop} : ∀ {Γ : Gm} {Ω : Om}, LaterD P Γ Ω → DEnv K c T σ Γ Ω H → ∃ Γ' Ω', P Γ' Ω' ∧ DEnv K c T σ Γ' Ω' H := fun h => by
  induction h with
  | mk h => exact fun e => ⟨_, _, h, e⟩
  | frz p d f _ ih => exact fun e => ih (e.frz f)
  | perm _ h _ ih => exact fun e => ih (e.perm h)
section
variable {K : PySem.W.Frag} {am : Am} {ts us : TS} {dt du : DS} {te : TE} {de : DT} {tq : TT} {dq : DB}
def dNext (N : DN) (Γ : Gm) (Ω : Om) : Prop := N.nx Γ Ω
instance s_next : SS K am tNext dNext := ⟨fun {c T σ Γ Ω H D N} e h o => o.nx _ _ _ _ h e⟩
def dNever (_N0 : DN) (_Γ0 : Gm) (_Ω0 : Om) : Prop := False
instance s_never : SS K am tNever dNever := ⟨fun {c T σ Γ Ω H D N} e h o => h.elim⟩
def dSeq (dt du : DS) (N : DN) (Γ : Gm) (Ω : Om) : Prop := dt ⟨LaterD (du N), N.rt, N.bk, N.ct⟩ Γ Ω
instance s_seq [s1 : SS K am ts dt] [s2 : SS K am us du] : SS K am (vSeq ts us) (dSeq dt du) := ⟨fun {c T σ Γ Ω H D N} e h o =>
  s1.run e h ⟨fun σ' Γ' Ω' H' h' e' => by
    obtain ⟨Γ2, Ω2, h2, e2⟩ := h'.run e'
    exact s2.run e2 h2 o, o.rt, o.bk, o.ct⟩⟩
def dDrop (de : DT) (N : DN) (Γ : Gm) (Ω : Om) : Prop := de Γ Ω fun _ Ω1 => N.nx Γ Ω1
instance s_drop [s1 : SE K am te de] : SS K am (tDrop te) (dDrop de) := ⟨fun {c T σ Γ Ω H D N} e h o => s1.run e h fun v w Ω' H' q e' => o.nx _ _ _ _ q e'.drop⟩
def dRet (de : DT) (N : DN) (Γ : Gm) (Ω : Om) : Prop := de Γ Ω N.rt
instance s_ret [s1 : SE K am te de] : SS K am (tRet te) (dRet de) := ⟨fun {c T σ Γ Ω H D N} e h o => s1.run e h fun v w Ω' H' q e' => o.rt _ _ _ _ _ _ q e'⟩
def dRetN (N : DN) (_Γ0 : Gm) (Ω : Om) : Prop := N.rt (.sh .non) Ω
instance s_retN : SS K am tRetN dRetN := ⟨fun {c T σ Γ Ω H D N} e h o => o.rt _ _ _ _ _ _ h (e.addv rfl)⟩
def dIfS (dq : DB) (dt du : DS) (N : DN) (Γ : Gm) (Ω : Om) : Prop := dq Γ Ω fun b Ω1 => if b = true then LaterD (dt N) Γ Ω1 else LaterD (du N) Γ Ω1
instance s_ifS [s0 : ST K am tq dq] [s1 : SS K am ts dt] [s2 : SS K am us du] : SS K am (vIf tq ts us) (dIfS dq dt du) := ⟨fun {c T σ Γ Ω H D N} e h o =>
  s0.run e h fun b Ω1 H1 h1 e1 => by
    show if b = true then _ else _
    cases b with
    | true =>
      obtain ⟨Γ2, Ω2, h2, e2⟩ := LaterD.run h1 e1
      exact s1.run e2 h2 o
    | false =>
      obtain ⟨Γ2, Ω2, h2, e2⟩ := LaterD.run h1 e1
      exact s2.run e2 h2 o⟩
/-- own midway -/
def dCut (dt : DS) (N : DN) (Γ : Gm) (Ω : Om) : Prop := ∃ P : Gm → Om → Prop, (∀ Γ' Ω', P Γ' Ω' → N.nx Γ' Ω') ∧ dt ⟨P, N.rt, N.bk, N.ct⟩ Γ Ω
instance s_cut [s1 : SS K am ts dt] : SS K am (vCut ts) (dCut dt) := ⟨fun {c T σ Γ Ω H D N} e h o => by
  obtain ⟨P, h1, h2⟩ := h
  exact ⟨D.nx, fun _ _ z => z, s1.run e h2 ⟨fun σ' Γ' Ω' H' q e' => o.nx _ _ _ _ (h1 _ _ q) e', o.rt, o.bk, o.ct⟩⟩⟩
/-! stores -/
def dName (i : Nat) (w : W) (Γ : Gm) (Ω : Om) (Q : Gm → Om → Prop) : Prop := Q (Γ.set i (some w)) Ω
theorem wipe_at (σ : L2.St) : ∀ (vs : List Nat) (j : Nat), (wipe σ vs)[j]? = if j ∈ vs then (σ[j]?).map fun _ => none else σ[j]?
  | [], j => by simp [wipe]
  | v :: vs, j => by
    unfold wipe
    rw [List.getElem?_set, wipe_length, wipe_at σ vs j]
    by_cases z : v = j
    · subst z
      rw [if_pos rfl, if_pos List.mem_cons_self]
      by_cases hl : v < σ.length
      · rw [if_pos hl, List.getElem?_eq_getElem hl]; rfl
      · rw [if_neg hl, List.getElem?_eq_none (by omega)]; rfl
    · rw [if_neg z]
      have : (j ∈ v :: vs) = (j ∈ vs) := by
        rw [List.mem_cons]
        exact propext ⟨fun h => h.elim (fun h => absurd h.symm z) id, .inr⟩
      simp only [this]
theorem wipe_set {σ : L2.St} {i : Nat} {x : Option V} {vs : List Nat} (h : i ∈ vs) : wipe (σ.set i x) vs = wipe σ vs := by
  refine List.ext_getElem? fun j => ?_
  rw [wipe_at, wipe_at, List.getElem?_set]
  by_cases z : i = j
  · subst z
    rw [if_pos rfl, if_pos h, if_pos h]
    by_cases hl : i < σ.length
    · rw [if_pos hl, List.getElem?_eq_getElem hl]; rfl
    · rw [if_neg hl, List.getElem?_eq_none (by omega)]
  · rw [if_neg z]
theorem wipe_wipe {σ : L2.St} {vs : List Nat} : wipe (wipe σ vs) vs = wipe σ vs := by
  refine List.ext_getElem? fun j => ?_
  rw [wipe_at, wipe_at]
  split
  · cases σ[j]? <;> rfl
  · rfl
instance s_name (i : Nat) : SG K am (gName i) (dName i) [i] := ⟨fun {c T σ Γ Ω H v w Q R} e hv h k => k _ _ _ _ h (e.set hv) fun vs hi => wipe_set (hi i (List.mem_singleton.mpr rfl))⟩
def dGnil (ws : List W) (Γ : Gm) (Ω : Om) (Q : Gm → Om → Prop) : Prop := ws = [] ∧ Q Γ Ω
instance s_gnil : SGs K am vgNil dGnil [] := ⟨fun {c T σ Γ Ω H vs ws Q R} e hv h k => by
  obtain ⟨rfl, h⟩ := h
  obtain rfl : vs = [] := hv
  exact ⟨rfl, k _ _ _ _ h e fun _ _ => rfl⟩⟩
def dGcons (g : DG) (gs : DGs) (ws : List W) (Γ : Gm) (Ω : Om) (Q : Gm → Om → Prop) : Prop := match ws with | w :: r => g w Γ Ω fun Γ1 Ω1 => gs r Γ1 Ω1 Q | [] => False
theorem oks_keep {c : Cq am} {T : List Tp} {σ : L2.St} {Γ : Gm} {Ω : Om} {H : Hp} {ws : List W} {vs : List V} (e : DEnv K c T σ Γ Ω H) (h : VOks K H (Ex c Ω) ws vs) : ∃ S : List Tp, DEnv K c (S ++ T) σ Γ Ω H ∧ ∀ {σ' : L2.St} {Γ' : Gm} {Ω' : Om} {H' : Hp}, DEnv K c (S ++ T) σ' Γ' Ω' H' → VOks K H' (Ex c Ω') ws vs := by
  induction ws generalizing vs with
  | nil => exact ⟨[], e, fun _ => h⟩
  | cons d ds ih =>
    obtain ⟨v, r, rfl, h1, h2⟩ := h
    obtain ⟨S, e1, h3⟩ := ih h2
    exact ⟨.v d v :: S, e1.addv h1, fun e' => ⟨v, r, rfl, e'.hd, h3 e'.drop⟩⟩
instance s_gcons {g : TG} {gs : TGs} {d : DG} {ds : DGs} {i1 i2 : List Nat} [s1 : SG K am g d i1] [s2 : SGs K am gs ds i2] : SGs K am (vgCons g gs) (dGcons d ds) (i1 ++ i2) := ⟨fun {c T σ Γ Ω H vs ws Q R} e hv h k => by
  cases ws with
  | nil => exact (show False from h).elim
  | cons w r =>
    obtain ⟨v, rs, rfl, h1, h2⟩ := hv
    obtain ⟨S, e1, h3⟩ := oks_keep e h2
    exact s1.run (T := S ++ T) e1 ((e1.add (t := .v w v) (by exact h1)).hd) h fun σ' Γ' Ω' H' q e' hw => s2.run e'.drops (h3 e') q fun σ2 Γ2 Ω2 H2 q2 e2 hw2 => k _ _ _ _ q2 e2 fun vs hi => by
      rw [hw2 vs fun i h => hi i (List.mem_append_right _ h), hw vs fun i h => hi i (List.mem_append_left _ h)]⟩
def dGtup (n : Nat) (gs : DGs) (w : W) (Γ : Gm) (Ω : Om) (Q : Gm → Om → Prop) : Prop := tupW w fun ds => ds.length = n ∧ gs (ds.map .sh) Γ Ω Q
instance s_gtup {n : Nat} {gs : TGs} {ds : DGs} {ix : List Nat} [s1 : SGs K am gs ds ix] : SG K am (vgTup n gs) (dGtup n ds) ix := ⟨fun {c T σ Γ Ω H v w Q R} e hv h k => by
  obtain ⟨a, vs, xs, rfl, ha, hl, hn, h2⟩ := tupW_at hv h
  show tupO (H a) _
  exact rd_tupO ha ⟨by rw [← hl.len]; exact hn, s1.run e (VOks.sh_of hl) h2 k⟩⟩
def dAsg (de : DT) (g : DG) (N : DN) (Γ : Gm) (Ω : Om) : Prop := de Γ Ω fun w Ω1 => g w Γ Ω1 N.nx
instance s_asg {g : TG} {d : DG} {ix : List Nat} [s1 : SE K am te de] [s2 : SG K am g d ix] : SS K am (tAsg te g) (dAsg de d) := ⟨fun {c T σ Γ Ω H D N} e h o =>
  s1.run e h fun v w Ω' H' q e' => s2.run e'.drop e'.hd q fun σ2 Γ2 Ω2 H2 q2 e2 _ => o.nx _ _ _ _ q2 e2⟩
def dAug (i : Nat) (de : DT) (g : Int → Int → Int) (N : DN) (Γ : Gm) (Ω : Om) : Prop := varR (Γ[i]?) fun x => de Γ Ω fun y Ω1 => intW x fun m => intW y fun n => N.nx (Γ.set i (some (.sh (.int (g m n))))) Ω1
instance s_aug {i : Nat} {g : Int → Int → Int} [s1 : SE K am te de] : SS K am (vAug i te g) (dAug i de g) := ⟨fun {c T σ Γ Ω H D N} e h o => by
  obtain ⟨w, h1, h2⟩ := varR_el h
  obtain ⟨v, h3, h4⟩ := e.sl i w h1
  show optR _ _
  rw [h3]
  refine s1.run (T := .v w v :: T) (e.addv h4) h2 fun y wy Ω' H' q e' => ?_
  have hx := e'.drop.hd
  obtain ⟨m, rfl, q1⟩ := intW_el q
  obtain ⟨n, rfl, q2⟩ := intW_el q1
  obtain rfl : v = .int m := hx
  obtain rfl : y = .int n := e'.hd
  exact o.nx _ _ _ _ q2 (e'.drop.drop.set rfl)⟩
/-! loops -/
def dWhile (dq : DB) (dt : DS) (N : DN) (Γ : Gm) (Ω : Om) : Prop := ∃ (Pv : Nat → Gm → Om → Prop) (m0 : Nat), Pv m0 Γ Ω ∧ ∀ m Γ Ω, Pv m Γ Ω → dq Γ Ω fun b Ω1 => if b = true then LaterD (dt ⟨fun Γ' Ω' => ∃ m', m' < m ∧ Pv m' Γ' Ω', N.rt, N.nx, fun Γ' Ω' => ∃ m', m' < m ∧ Pv m' Γ' Ω'⟩) Γ Ω1 else LaterD N.nx Γ Ω1
instance s_while [s0 : ST K am tq dq] [s1 : SS K am ts dt] : SS K am (vWhile tq ts) (dWhile dq dt) := ⟨fun {c T σ Γ Ω H D N} e h o => by
  obtain ⟨Pv, m0, h0, hs⟩ := h
  refine ⟨fun m σ H => ∃ Γ Ω, Pv m Γ Ω ∧ DEnv K c T σ Γ Ω H, m0, ⟨Γ, Ω, h0, e⟩, fun m σ H ⟨Γ, Ω, p, e⟩ => s0.run e (hs m Γ Ω p) fun b Ω1 H1 h1 e1 => ?_⟩
  cases b with
  | true =>
    obtain ⟨Γ2, Ω2, h2, e2⟩ := LaterD.run h1 e1
    exact s1.run e2 h2 ⟨fun σ' Γ' Ω' H' ⟨m', hm, p'⟩ e' => ⟨m', hm, Γ', Ω', p', e'⟩, o.rt, o.nx, fun σ' Γ' Ω' H' ⟨m', hm, p'⟩ e' => ⟨m', hm, Γ', Ω', p', e'⟩⟩
  | false =>
    obtain ⟨Γ2, Ω2, h2, e2⟩ := LaterD.run h1 e1
    exact o.nx _ _ _ _ h2 e2⟩
def dFor (di : DI) (g : DG) (dt : DS) (N : DN) (Γ : Gm) (Ω : Om) : Prop := di Γ Ω fun ws Ω1 => ∃ Pv : Nat → Gm → Om → Prop, Pv 0 Γ Ω1 ∧ (∀ i w Γ Ω, ws[i]? = some w → Pv i Γ Ω → g w Γ Ω fun Γ2 Ω2 => LaterD (dt ⟨Pv (i + 1), N.rt, N.nx, Pv (i + 1)⟩) Γ2 Ω2) ∧ ∀ Γ Ω, Pv ws.length Γ Ω → LaterD N.nx Γ Ω
theorem EndsOk.more {c : Cq am} {S T : List Tp} {D : Ends} {N : DN} (o : EndsOk K c T D N) : EndsOk K c (S ++ T) D N := ⟨fun _ _ _ _ h e => o.nx _ _ _ _ h e.drops, fun v w σ Γ Ω H h e => o.rt v w _ _ _ _ h (e.drop.drops.addv e.hd), fun _ _ _ _ h e => o.bk _ _ _ _ h e.drops, fun _ _ _ _ h e => o.ct _ _ _ _ h e.drops⟩
instance s_for {wi : TI} {di : DI} {g : TG} {d : DG} {ix : List Nat} [s0 : SI K am wi di] [s1 : SG K am g d ix] [s2 : SS K am ts dt] : SS K am (vFor wi g ts) (dFor di d dt) := ⟨fun {c T σ Γ Ω H D N} e h o =>
  s0.run e h fun J H1 ws Ω1 T' G Y q e1 hw hG hY => by
    obtain ⟨Pv, p0, ps, pe⟩ := q
    have om : EndsOk K c (T' ++ T) D N := o.more
    refine ⟨ws.length, G, Y, fun i σ H => ∃ Γ Ω, Pv i Γ Ω ∧ DEnv K c (T' ++ T) σ Γ Ω H, hw, ⟨Γ, Ω1, p0, e1⟩, fun i σ H _ ⟨Γ, Ω, _, e⟩ => hG σ Γ Ω H e, fun i x σ H H' hi ⟨Γ, Ω, p, e⟩ y => ?_, fun σ H ⟨Γ, Ω, p, e⟩ => ?_⟩
    · obtain ⟨w, hw, e2⟩ := hY [] i x σ Γ Ω H H' hi e y
      refine s1.run e2.drop e2.hd (ps i w Γ Ω hw p) fun σ2 Γ2 Ω2 H2 q2 e3 _ => ?_
      obtain ⟨Γ3, Ω3, h3, e4⟩ := LaterD.run q2 e3
      exact s2.run e4 h3 ⟨fun σ' Γ' Ω' H' p' e' => ⟨Γ', Ω', p', e'⟩, om.rt, om.nx, fun σ' Γ' Ω' H' p' e' => ⟨Γ', Ω', p', e'⟩⟩
    · obtain ⟨Γ3, Ω3, h3, e4⟩ := LaterD.run (pe Γ Ω p) e
      exact om.nx _ _ _ _ h3 e4⟩
/-! comprehensions -/
def wipeG (Γ : Gm) : List Nat → Gm
  | [] => Γ
  | v :: vs => (wipeG Γ vs).set v none
theorem wipeG_len (Γ : Gm) : ∀ vs, (wipeG Γ vs).length = Γ.length
  | [] => rfl
  | v :: vs => by unfold wipeG; rw [List.length_set, wipeG_len Γ vs]
theorem wipeG_some {Γ : Gm} {i : Nat} {w : W} : ∀ {vs : List Nat}, (wipeG Γ vs)[i]? = some (some w) → Γ[i]? = some (some w) ∧ i ∉ vs
  | [], h => ⟨h, by simp⟩
  | v :: vs, h => by
    unfold wipeG at h
    rw [List.getElem?_set] at h
    by_cases z : v = i
    · subst z
      rw [if_pos rfl] at h
      split at h <;> cases h
    · rw [if_neg z] at h
      obtain ⟨h1, h2⟩ := wipeG_some h
      exact ⟨h1, by simp only [List.mem_cons, not_or]; exact ⟨fun e => z e.symm, h2⟩⟩
theorem DEnv.wipe {c : Cq am} {T : List Tp} {σ : L2.St} {Γ : Gm} {Ω : Om} {H : Hp} (e : DEnv K c T σ Γ Ω H) (vs : List Nat) : DEnv K c T (L2.wipe σ vs) (wipeG Γ vs) Ω H := ⟨by rw [wipeG_len, wipe_length]; exact e.len, fun i w h => by
  obtain ⟨h1, h2⟩ := wipeG_some h
  obtain ⟨v, h3, h4⟩ := e.sl i w h1
  exact ⟨v, by rw [wipe_at, if_neg h2]; exact h3, h4⟩, e.tm, e.ob, e.nd, e.fr, e.el, e.frm, e.inv⟩
/-- the slots' things kept beside, while other slots are about -/
theorem DEnv.save {c : Cq am} {T : List Tp} {σ : L2.St} {Γ : Gm} {Ω : Om} {H : Hp} (e : DEnv K c T σ Γ Ω H) : ∃ S : List Tp, DEnv K c (S ++ T) σ Γ Ω H ∧ ∀ {σ' : L2.St} {Γ' : Gm} {Ω' : Om} {H' : Hp}, DEnv K c (S ++ T) σ' Γ' Ω' H' → DEnv K c T σ Γ Ω' H' := by
  have key : ∀ n, ∃ S : List Tp, DEnv K c (S ++ T) σ Γ Ω H ∧ ∀ {σ' : L2.St} {Γ' : Gm} {Ω' : Om} {H' : Hp}, DEnv K c (S ++ T) σ' Γ' Ω' H' → ∀ (i : Nat) (w : W), i < n → Γ[i]? = some (some w) → ∃ v, σ[i]? = some (some v) ∧ VOk K H' (Ex c Ω') w v := by
    intro n
    induction n with
    | zero => exact ⟨[], e, fun _ i w h => absurd h (Nat.not_lt_zero _)⟩
    | succ n ih =>
      obtain ⟨S, e1, h1⟩ := ih
      cases q : Γ[n]? with
      | none => exact ⟨S, e1, fun e' i w hi h => by
          rcases Nat.lt_succ_iff_lt_or_eq.mp hi with z | z
          · exact h1 e' i w z h
          · rw [z, q] at h; cases h⟩
      | some o =>
        cases o with
        | none => exact ⟨S, e1, fun e' i w hi h => by
            rcases Nat.lt_succ_iff_lt_or_eq.mp hi with z | z
            · exact h1 e' i w z h
            · rw [z, q] at h; cases h⟩
        | some w0 =>
          obtain ⟨v, h3, h4⟩ := e1.sl n w0 q
          refine ⟨.v w0 v :: S, e1.addv h4, fun e' i w hi h => ?_⟩
          rcases Nat.lt_succ_iff_lt_or_eq.mp hi with z | z
          · exact h1 e'.drop i w z h
          · rw [z, q] at h
            cases h
            rw [z]
            exact ⟨v, h3, e'.hd⟩
  obtain ⟨S, e1, h1⟩ := key Γ.length
  refine ⟨S, e1, fun e' => ⟨e.len, fun i w h => ?_, e'.drops.tm, e'.ob, e'.nd, e'.fr, e'.el, e'.frm, e'.inv⟩⟩
  exact h1 e' i w (by
    rcases Nat.lt_or_ge i Γ.length with z | z
    · exact z
    · rw [List.getElem?_eq_none z] at h; cases h) h
def lenLt {α : Type} (l : List α) : Prop := l.length < sizeLine
def dLcP (n : Nat) (ws : List W) (g : DG) (dq : DB) (de : DT) (vs : List Nat) (Γ : Gm) (Ω1 : Om) (Pv : Nat → List W → Prop) : Prop :=
  Pv 0 [] ∧ ∀ i w acc p, ws[i]? = some w → Pv i acc → notin p Ω1 → g w (wipeG Γ vs) ((p, .lst acc) :: Ω1) fun Γ2 Ω2 => Ω2 = (p, .lst acc) :: Ω1 ∧ dq Γ2 ((p, .lst acc) :: Ω1) fun b Ω3 => Ω3 = (p, .lst acc) :: Ω1 ∧
    if b = true then de Γ2 ((p, .lst acc) :: Ω1) fun y Ω4 => Ω4 = (p, .lst acc) :: Ω1 ∧ lenLt acc ∧ Pv (i + 1) (acc ++ [y]) else Pv (i + 1) acc
def dLc (ix : List Nat) (di : DI) (g : DG) (dq : DB) (de : DT) (vs : List Nat) (Γ : Gm) (Ω : Om) (Q : DQ) : Prop := (∀ i ∈ ix, i ∈ vs) ∧ di Γ Ω fun ws Ω1 => ∃ Pv : Nat → List W → Prop, dLcP ws.length ws g dq de vs Γ Ω1 Pv ∧ ∀ acc, Pv ws.length acc → shsW acc fun ds => Q (.sh (.lst ds)) Ω1
def dLcO (ix : List Nat) (di : DI) (g : DG) (dq : DB) (de : DT) (vs : List Nat) (Γ : Gm) (Ω : Om) (Q : DQ) : Prop := (∀ i ∈ ix, i ∈ vs) ∧ di Γ Ω fun ws Ω1 => ∃ Pv : Nat → List W → Prop, dLcP ws.length ws g dq de vs Γ Ω1 Pv ∧ ∀ acc p, Pv ws.length acc → notin p Ω1 → Q (.pt p) ((p, .lst acc) :: Ω1)
theorem look_hd {p : Addr} {od : OD} {Ω : Om} : look ((p, od) :: Ω) p = some od := by simp [look, List.find?_cons]
theorem put_hd {p : Addr} {od od' : OD} {Ω : Om} (h : notin p Ω) : OA.put ((p, od) :: Ω) p od' = (p, od') :: Ω := by
  unfold OA.put
  rw [List.map_cons]
  simp only [if_true]
  congr 1
  have : ∀ q ∈ Ω, (if q.1 = p then (q.1, od') else q) = q := fun q hq => if_neg fun z => h (List.mem_map.mpr ⟨q, hq, z⟩)
  rw [List.map_congr_left this, List.map_id']
theorem lc_run {wi : TI} {di : DI} {g : TG} {d : DG} {ix vs : List Nat} (hix : ∀ i ∈ ix, i ∈ vs) [s0 : SI K am wi di] [s1 : SG K am g d ix] [s2 : ST K am tq dq] [s3 : SE K am te de]
    {c : Cq am} {T : List Tp} {σ : L2.St} {Γ : Gm} {Ω : Om} {H : Hp} {Z : List W → Om → (Nat → List W → Prop) → Prop} {R : VK} (e : DEnv K c T σ Γ Ω H)
    (h : di Γ Ω fun ws Ω1 => ∃ Pv : Nat → List W → Prop, dLcP ws.length ws d dq de vs Γ Ω1 Pv ∧ Z ws Ω1 Pv)
    (k : ∀ ws Ω1 Pv acc D H', Z ws Ω1 Pv → Pv ws.length acc → notin D Ω1 → DEnv K c (.v (.pt D) (.ref D) :: T) σ Γ ((D, .lst acc) :: Ω1) H' → R (.ref D) H') : vLc wi g tq te vs σ H R :=
  s0.run e h fun J H1 ws Ω1 T' G Y ⟨Pv, ⟨p0, ps⟩, hz⟩ e1 hw hG hY => fun D hD => by
    obtain ⟨S, e2, back⟩ := e1.save
    have nD : notin D Ω1 := fun z => e1.noEx hD (.inr z)
    have e3 : DEnv K c (.v (.pt D) (.ref D) :: (S ++ (T' ++ T))) σ Γ ((D, .lst []) :: Ω1) (upd H1 D (.lst [])) := e2.own hD (e2.new hD) (.inl ⟨[], [], rfl, rfl, rfl⟩)
    have to' : ∀ {σ : L2.St} {Γ : Gm} {Ω : Om} {H : Hp}, DEnv K c (.v (.pt D) (.ref D) :: (S ++ (T' ++ T))) σ Γ Ω H → DEnv K c (T' ++ T) σ Γ Ω H := fun e => e.drop.drops
    refine ⟨ws.length, G, Y, fun i H => ∃ acc σ2 Γ2, Pv i acc ∧ DEnv K c (.v (.pt D) (.ref D) :: (S ++ (T' ++ T))) σ2 Γ2 ((D, .lst acc) :: Ω1) H, hw, ⟨[], σ, Γ, p0, e3⟩, fun i H _ ⟨acc, σ2, Γ2, _, e⟩ => hG _ _ _ _ (to' e), fun i x H H' hi ⟨acc, σ2, Γ2, p, e⟩ y => ?_, fun H ⟨acc, σ2, Γ2, p, e⟩ => ?_⟩
    · have eW : DEnv K c (.v (.pt D) (.ref D) :: (S ++ (T' ++ T))) (L2.wipe σ vs) (wipeG Γ vs) ((D, .lst acc) :: Ω1) H := by
        have b1 := (back e.drop).wipe vs
        exact ⟨b1.len, b1.sl, e.tm, e.ob, e.nd, e.fr, e.el, e.frm, e.inv⟩
      obtain ⟨w, hw', e5⟩ := hY (.v (.pt D) (.ref D) :: S) i x _ _ _ H H' hi eW y
      refine s1.run e5.drop e5.hd (ps i w acc D hw' p nD) fun σ3 Γ3 Ω3 H3 ⟨z3, q3⟩ e6 hwp => ⟨by rw [hwp vs hix, wipe_wipe], ?_⟩
      subst z3
      refine s2.run e6 q3 fun b Ω4 H4 ⟨z4, q4⟩ e7 => ?_
      subst z4
      cases b with
      | false => exact ⟨acc, _, _, q4, e7⟩
      | true =>
        refine s3.run e7 q4 fun y wy Ω5 H5 ⟨z5, hl, p'⟩ e8 => ?_
        subst z5
        obtain ⟨vs', a1, a2⟩ := e8.ob (D, .lst acc) List.mem_cons_self
        show lstO (H5 D) _
        rw [a1]
        have e9 := e8.drop.putL (vs' := vs' ++ [y]) (ws' := acc ++ [wy]) look_hd (a2.app (.one e8.hd))
        rw [put_hd nD] at e9
        exact ⟨by rw [← a2.len]; exact hl, acc ++ [wy], _, _, p', e9⟩
    · have b1 := back e.drop
      exact k ws Ω1 Pv acc D H hz p nD ⟨b1.len, b1.sl, fun t ht => by
        rcases List.mem_cons.mp ht with rfl | ht
        · exact rfl
        · exact b1.drops.tm t ht, b1.ob, b1.nd, b1.fr, b1.el, b1.frm, b1.inv⟩
instance s_lc {wi : TI} {di : DI} {g : TG} {d : DG} {ix vs : List Nat} [s0 : SI K am wi di] [s1 : SG K am g d ix] [s2 : ST K am tq dq] [s3 : SE K am te de] : SE K am (vLc wi g tq te vs) (dLc ix di d dq de vs) := ⟨fun {c T σ Γ Ω H Q R} e ⟨hx, h⟩ k =>
  lc_run hx e (Z := fun ws Ω1 Pv => ∀ acc, Pv ws.length acc → shsW acc fun ds => Q (.sh (.lst ds)) Ω1) h fun ws Ω1 Pv acc D H' hz p nD e' => by
    obtain ⟨ds, rfl, h2⟩ := shsW_el (hz acc p)
    exact k _ _ _ _ h2 (e'.drop.unown nD)⟩
instance s_lcO {wi : TI} {di : DI} {g : TG} {d : DG} {ix vs : List Nat} [s0 : SI K am wi di] [s1 : SG K am g d ix] [s2 : ST K am tq dq] [s3 : SE K am te de] : SE K am (ownE (vLc wi g tq te vs)) (dLcO ix di d dq de vs) := ⟨fun {c T σ Γ Ω H Q R} e ⟨hx, h⟩ k =>
  lc_run hx e (Z := fun ws Ω1 Pv => ∀ acc p, Pv ws.length acc → notin p Ω1 → Q (.pt p) ((p, .lst acc) :: Ω1)) h fun ws Ω1 Pv acc D H' hz p nD e' => k _ _ _ _ (hz acc D p nD) e'⟩
end
end OA

namespace OA
open PySem PySem.Spec PyProof.Rows L2
/-! operators over data -/
def flV : D → Option V
  | .non => some .non
  | .bl b => some (.bl b)
  | .int i => some (.int i)
  | .str s => some (.str s)
  | _ => none
def cWR (v : V) (k : W → Prop) : Prop := match cW v with | some w => k w | none => False
def flW (w : W) (k : V → Prop) : Prop := match w with | .sh x => (match flV x with | some v => k v | none => False) | _ => False
def intsD : List D → (List Int → Prop) → Prop
  | [], k => k []
  | .int x :: r, k => intsD r fun ds => k (x :: ds)
  | _ :: _, _ => False
def strsD : List D → (List Str → Prop) → Prop
  | [], k => k []
  | .str x :: r, k => strsD r fun ds => k (x :: ds)
  | _ :: _, _ => False
theorem intsD_el : ∀ {ds : List D} {k : List Int → Prop}, intsD ds k → ∃ ns, ds = ns.map .int ∧ k ns
  | [], k, h => ⟨[], rfl, h⟩
  | .int x :: r, k, h => by
    obtain ⟨ds, e, z⟩ := intsD_el (ds := r) h
    exact ⟨x :: ds, by rw [e]; rfl, z⟩
  | .non :: _, _, h => (show False from h).elim
  | .bl _ :: _, _, h => (show False from h).elim
  | .str _ :: _, _, h => (show False from h).elim
  | .tup _ :: _, _, h => (show False from h).elim
  | .lst _ :: _, _, h => (show False from h).elim
  | .dic _ _ :: _, _, h => (show False from h).elim
  | .py _ :: _, _, h => (show False from h).elim
theorem strsD_el : ∀ {ds : List D} {k : List Str → Prop}, strsD ds k → ∃ ns, ds = ns.map .str ∧ k ns
  | [], k, h => ⟨[], rfl, h⟩
  | .str x :: r, k, h => by
    obtain ⟨ds, e, z⟩ := strsD_el (ds := r) h
    exact ⟨x :: ds, by rw [e]; rfl, z⟩
  | .non :: _, _, h => (show False from h).elim
  | .bl _ :: _, _, h => (show False from h).elim
  | .int _ :: _, _, h => (show False from h).elim
  | .tup _ :: _, _, h => (show False from h).elim
  | .lst _ :: _, _, h => (show False from h).elim
  | .dic _ _ :: _, _, h => (show False from h).elim
  | .py _ :: _, _, h => (show False from h).elim
theorem intsD_map (ns : List Int) (k : List Int → Prop) : intsD (ns.map .int) k = k ns := by
  induction ns generalizing k with
  | nil => rfl
  | cons d ds ih => exact ih _
theorem strsD_map (ns : List Str) (k : List Str → Prop) : strsD (ns.map .str) k = k ns := by
  induction ns generalizing k with
  | nil => rfl
  | cons d ds ih => exact ih _
section
variable {K : PySem.W.Frag} {am : Am} {H : Hp} {E : Addr → Prop}
theorem lay_ints : ∀ {ns : List Int} {vs : List V}, LayL K H E (ns.map .int) vs → vs = ns.map V.int
  | [], _, h => h
  | n :: ns, _, ⟨v, r, e, h1, h2⟩ => by rw [e, show v = .int n from h1, lay_ints h2]; rfl
theorem lay_strs : ∀ {ns : List Str} {vs : List V}, LayL K H E (ns.map .str) vs → vs = ns.map V.str
  | [], _, h => h
  | n :: ns, _, ⟨v, r, e, h1, h2⟩ => by rw [e, show v = .str n from h1, lay_strs h2]; rfl
theorem ints_lay (ns : List Int) : LayL K H E (ns.map .int) (ns.map V.int) := by
  induction ns with
  | nil => exact rfl
  | cons n ns ih => exact ⟨_, _, rfl, rfl, ih⟩
theorem strs_lay (ns : List Str) : LayL K H E (ns.map .str) (ns.map V.str) := by
  induction ns with
  | nil => exact rfl
  | cons n ns ih => exact ⟨_, _, rfl, rfl, ih⟩
theorem flW_el {w : W} {v : V} {k : V → Prop} (h : flW w k) (hv : VOk K H E w v) : k v ∧ flatV v = true := by
  unfold flW at h
  split at h
  · rename_i x
    split at h
    · rename_i u hu
      cases x <;> first | (cases hu; obtain rfl : v = _ := hv; exact ⟨h, rfl⟩) | cases hu
    · exact h.elim
  · exact h.elim
theorem cWR_el {v : V} {k : W → Prop} (h : cWR v k) : ∃ w, VOk K H E w v ∧ k w := by
  unfold cWR at h
  split at h
  · rename_i w hw
    refine ⟨w, ?_, h⟩
    cases v <;> first | (cases hw; exact rfl) | cases hw
  · exact h.elim
def dI0 (g : Int → Int → V) (x : W) (y : W) (Ω : Om) (Q : DQ) : Prop := intW x fun i => intW y fun j => cWR (g i j) fun w => Q w Ω
instance r_I0 {g : Int → Int → V} : SR2 K am (wI0 g) (dI0 g) := ⟨fun {c T σ Γ Ω H x y wx wy Q R} e hx hy h k => by
  obtain ⟨i, rfl, h_1⟩ := intW_el h
  obtain ⟨j, rfl, h_2⟩ := intW_el h_1
  obtain ⟨w, hw, q⟩ := cWR_el (K := K) (H := H) (E := Ex c Ω) h_2
  obtain rfl : x = .int i := hx
  obtain rfl : y = .int j := hy
  exact k _ _ _ _ q (e.addv hw)⟩
def dIC (C : Int → Int → Prop) (g : Int → Int → V) (x : W) (y : W) (Ω : Om) (Q : DQ) : Prop := intW x fun i => intW y fun j => C i j ∧ cWR (g i j) fun w => Q w Ω
instance r_IC {C : Int → Int → Prop} {g : Int → Int → V} : SR2 K am (wIC C g) (dIC C g) := ⟨fun {c T σ Γ Ω H x y wx wy Q R} e hx hy h k => by
  obtain ⟨i, rfl, h_1⟩ := intW_el h
  obtain ⟨j, rfl, h0, h_2⟩ := intW_el h_1
  obtain ⟨w, hw, q⟩ := cWR_el (K := K) (H := H) (E := Ex c Ω) h_2
  obtain rfl : x = .int i := hx
  obtain rfl : y = .int j := hy
  exact ⟨h0, k _ _ _ _ q (e.addv hw)⟩⟩
def dEq (neg : Bool) (x : W) (y : W) (Ω : Om) (Q : DQ) : Prop := flW x fun u => flW y fun v => scal u v = true ∧ Q (.sh (.bl (if neg then !decide (u = v) else decide (u = v)))) Ω
instance r_eq : SR2 K am rEq (dEq false) := ⟨fun {c T σ Γ Ω H x y wx wy Q R} e hx hy h k => by
  obtain ⟨h, _⟩ := flW_el h hx
  obtain ⟨h, _⟩ := flW_el h hy
  exact ⟨h.1, k _ _ _ _ h.2 (e.addv rfl)⟩⟩
instance r_ne : SR2 K am rNe (dEq true) := ⟨fun {c T σ Γ Ω H x y wx wy Q R} e hx hy h k => by
  obtain ⟨h, _⟩ := flW_el h hx
  obtain ⟨h, _⟩ := flW_el h hy
  exact ⟨h.1, k _ _ _ _ h.2 (e.addv rfl)⟩⟩
def wIsN (neg : Bool) : R2 := fun x y H Q => y = .non ∧ Q (.bl (if neg then !decide (x = .non) else decide (x = .non))) H
theorem o_isN {X : Cx} : OpR X (compareOp .Is) (wIsN false) := op_isN
theorem o_notN {X : Cx} : OpR X (compareOp .IsNot) (wIsN true) := op_notN
def isNonW : W → Bool
  | .sh .non => true
  | _ => false
theorem isNon_iff {w : W} {v : V} (h : VOk K H E w v) (hp : ∀ d, w ≠ .sh (.py d)) : decide (v = .non) = isNonW w := by
  cases w with
  | pt p => rw [show v = .ref p from h]; rfl
  | ty n => rw [show v = .ty n from h]; rfl
  | sh x =>
    cases x with
    | non => rw [show v = .non from h]; rfl
    | bl b => rw [show v = .bl b from h]; rfl
    | int b => rw [show v = .int b from h]; rfl
    | str b => rw [show v = .str b from h]; rfl
    | tup xs => obtain ⟨a, vs, rfl, _⟩ := h; rfl
    | lst xs => obtain ⟨a, vs, rfl, _⟩ := h; rfl
    | dic ks xs => obtain ⟨a, vs, rfl, _⟩ := h; rfl
    | py d => exact absurd rfl (hp d)
    | nt ns => obtain ⟨a, ob, rfl, _⟩ := h; rfl
def noPy (w : W) : Prop := match w with | .sh (.py _) => False | _ => True
def dIsN (neg : Bool) (x : W) (y : W) (Ω : Om) (Q : DQ) : Prop := (isNonW y = true ∧ noPy x) ∧ Q (.sh (.bl (if neg then !isNonW x else isNonW x))) Ω
instance r_isN {neg : Bool} : SR2 K am (wIsN neg) (dIsN neg) := ⟨fun {c T σ Γ Ω H x y wx wy Q R} e hx hy h k => by
  obtain ⟨⟨h1, hp⟩, h_1⟩ := h
  have hp' : ∀ d, wx ≠ .sh (.py d) := fun d z => by rw [z] at hp; exact hp
  have hy' : wy = .sh .non := by
    cases wy with
    | sh y' => cases y' <;> first | rfl | cases h1
    | pt p => cases h1
    | ty n => cases h1
  rw [hy'] at hy
  refine ⟨hy, ?_⟩
  rw [isNon_iff hx hp']
  exact k _ _ _ _ h_1 (e.addv rfl)⟩
def dAddS (x : W) (y : W) (Ω : Om) (Q : DQ) : Prop := strW x fun i => strW y fun j => i.length + j.length ≤ sizeLine ∧ Q (.sh (.str (i ++ j))) Ω
instance r_addS : SR2 K am wAddS dAddS := ⟨fun {c T σ Γ Ω H x y wx wy Q R} e hx hy h k => by
  obtain ⟨i, rfl, h_1⟩ := strW_el h
  obtain ⟨j, rfl, h0, h_2⟩ := strW_el h_1
  obtain rfl : x = .str i := hx
  obtain rfl : y = .str j := hy
  exact ⟨h0, k _ _ _ _ h_2 (e.addv rfl)⟩⟩
def dMulS (x : W) (y : W) (Ω : Om) (Q : DQ) : Prop := strW x fun i => intW y fun j => MulOk i j ∧ Q (.sh (.str (Txt.mul i j))) Ω
instance r_mulS : SR2 K am wMulS dMulS := ⟨fun {c T σ Γ Ω H x y wx wy Q R} e hx hy h k => by
  obtain ⟨i, rfl, h_1⟩ := strW_el h
  obtain ⟨j, rfl, h0, h_2⟩ := intW_el h_1
  obtain rfl : x = .str i := hx
  obtain rfl : y = .int j := hy
  exact ⟨h0, k _ _ _ _ h_2 (e.addv rfl)⟩⟩
def dCat (x : W) (y : W) (Ω : Om) (Q : DQ) : Prop := seqW Ω x fun ws => seqW Ω y fun us => shsW ws fun ds => shsW us fun es => lenOk (ds ++ es) ∧ Q (.sh (.lst (ds ++ es))) Ω
instance r_cat : SR2 K am wCat dCat := ⟨fun {c T σ Γ Ω H x y wx wy Q R} e hx hy h k => by
  obtain ⟨a, vs, ws, rfl, ha, hv, h_1⟩ := seqW_el e hx h
  obtain ⟨b, ts, us, rfl, hb, ht, h_2⟩ := seqW_el e hy h_1
  obtain ⟨ds, rfl, h_3⟩ := shsW_el h_2
  obtain ⟨es, rfl, hl, h_4⟩ := shsW_el h_3
  have n1 := hv.lay.len
  have n2 := ht.lay.len
  show lstO (H a) _
  rw [ha]
  show lstO (H b) _
  rw [hb]
  refine ⟨by rw [← n1, ← n2, ← List.length_append]; exact hl, fun p hp => k _ _ _ _ h_4 (e.lst hp ?_)⟩
  have := hv.app ht
  rw [← List.map_append] at this
  exact this.lay⟩
def dCatT (x : W) (y : W) (Ω : Om) (Q : DQ) : Prop := tup0W x fun ds => tup0W y fun es => lenOk (ds ++ es) ∧ Q (.sh (.tup (ds ++ es))) Ω
instance r_catA : SR2 K am (rCatA K) dCatT := ⟨fun {c T σ Γ Ω H x y wx wy Q R} e hx hy h k => by
  obtain ⟨ds, rfl, h_1⟩ := tup0W_el h
  obtain ⟨es, rfl, hl, h_2⟩ := tup0W_el h_1
  obtain ⟨a, vs, rfl, na, ha, hv⟩ := hx
  obtain ⟨b, ts, rfl, nb, hb, ht⟩ := hy
  have n1 := hv.len
  have n2 := ht.len
  refine ⟨a, b, vs, ts, rfl, rfl, SqT.of ha, SqT.of hb, by rw [← n1, ← n2, ← List.length_append]; exact hl, fun z => ?_, fun _ z => ?_, fun _ _ p hp => k _ _ _ _ h_2 (e.tup hp ?_)⟩
  · subst z
    have : ds = [] := List.eq_nil_of_length_eq_zero n1
    subst this
    exact k _ _ _ _ h_2 (e.addv ⟨b, ts, rfl, nb, hb, ht⟩)
  · subst z
    have : es = [] := List.eq_nil_of_length_eq_zero n2
    subst this
    rw [List.append_nil] at h_2
    exact k _ _ _ _ h_2 (e.addv ⟨a, vs, rfl, na, ha, hv⟩)
  · have := (VOks.sh_of hv).app (VOks.sh_of ht)
    rw [← List.map_append] at this
    exact this.lay⟩
/-- x in a tuple of flat things -/
def dInT (neg : Bool) (x : W) (y : W) (Ω : Om) (Q : DQ) : Prop := flW x fun u => tupW y fun ds => flsD ds fun vs => Q (.sh (.bl (if neg then !inV u vs else inV u vs))) Ω
where flsD : List D → (List V → Prop) → Prop
  | [], k => k []
  | x :: r, k => match flV x with
    | some v => flsD r fun vs => k (v :: vs)
    | none => False
theorem flsD_el : ∀ {ds : List D} {vs : List V} {k : List V → Prop}, dInT.flsD ds k → LayL K H E ds vs → k vs ∧ vs.all flatV = true
  | [], _, k, h, hv => by rw [show _ = [] from hv]; exact ⟨h, rfl⟩
  | x :: r, _, k, h, ⟨v, rs, e, h1, h2⟩ => by
    unfold dInT.flsD at h
    cases q : flV x with
    | none => rw [q] at h; exact h.elim
    | some u =>
      rw [q] at h
      obtain ⟨a, b⟩ := flsD_el h h2
      have eu : u = v ∧ flatV v = true := by cases x <;> first | (cases q; exact ⟨Eq.symm h1, by rw [show v = _ from h1]; rfl⟩) | cases q
      rw [e, ← eu.1]
      refine ⟨a, ?_⟩
      rw [List.all_cons, b, eu.1, eu.2]
      rfl
instance r_inT {neg : Bool} : SR2 K am (wInT neg) (dInT neg) := ⟨fun {c T σ Γ Ω H x y wx wy Q R} e hx hy h k => by
  obtain ⟨g1, f1⟩ := flW_el h hx
  obtain ⟨a, vs, ds, rfl, ha, hl, g2⟩ := tupW_at hy g1
  obtain ⟨g3, f2⟩ := flsD_el g2 hl
  show tupO (H a) _
  exact rd_tupO ha ⟨⟨f1, f2⟩, k _ _ _ _ g3 (e.addv rfl)⟩⟩
/-- x in a list of ints -/
def wInLI : R2 := fun x y H Q => intR x fun i => refR y fun p => lstO (H p) fun xs => ∃ ns : List Int, xs = ns.map V.int ∧ Q (.bl (decide (i ∈ ns))) H
theorem inV_ints (i : Int) (ns : List Int) : inV (.int i) (ns.map V.int) = decide (i ∈ ns) := by
  unfold inV
  induction ns with
  | nil => rfl
  | cons n ns ih =>
    rw [List.map_cons, List.any_cons, ih]
    have : eqV (.int n) (.int i) = decide (n = i) := by
      rw [Bool.eq_iff_iff]
      simp [eqV]
    rw [this]
    by_cases z : n = i
    · simp [z]
    · have : ¬ i = n := fun h => z h.symm
      simp [z, this]
theorem flat_ints (ns : List Int) : (ns.map V.int).all flatV = true := by
  induction ns with
  | nil => rfl
  | cons n ns ih => rw [List.map_cons, List.all_cons, ih]; rfl
theorem o_inLI {X : Cx} : OpR X (compareOp .In) wInLI := im_op op_in_seq fun x y H Q z => by
  obtain ⟨i, rfl, z⟩ := intR_el z
  obtain ⟨p, rfl, z⟩ := refR_el z
  obtain ⟨xs, e, ns, rfl, z⟩ := lstO_el z
  refine ⟨p, _, rfl, .inl (SqL.of e), rfl, flat_ints ns, ?_⟩
  simp only [Bool.false_eq_true, if_false, inV_ints]
  exact z
def dInLI (x : W) (y : W) (Ω : Om) (Q : DQ) : Prop := intW x fun i => seqW Ω y fun ws => shsW ws fun ds => intsD ds fun ns => Q (.sh (.bl (decide (i ∈ ns)))) Ω
instance r_inLI : SR2 K am wInLI dInLI := ⟨fun {c T σ Γ Ω H x y wx wy Q R} e hx hy h k => by
  obtain ⟨i, rfl, h_1⟩ := intW_el h
  obtain ⟨a, vs, ws, rfl, ha, hv, h_2⟩ := seqW_el e hy h_1
  obtain ⟨ds, rfl, h_3⟩ := shsW_el h_2
  obtain ⟨ns, rfl, h_4⟩ := intsD_el h_3
  obtain rfl : x = .int i := hx
  show lstO (H a) _
  rw [ha]
  exact ⟨ns, lay_ints hv.lay, k _ _ _ _ h_4 (e.addv rfl)⟩⟩
/-- x in a tuple of ints -/
def wInTI : R2 := fun x y H Q => intR x fun i => refR y fun p => tupO (H p) fun xs => ∃ ns : List Int, xs = ns.map V.int ∧ Q (.bl (decide (i ∈ ns))) H
theorem o_inTI {X : Cx} : OpR X (compareOp .In) wInTI := im_op op_in_seq fun x y H Q z => by
  obtain ⟨i, rfl, z⟩ := intR_el z
  obtain ⟨p, rfl, z⟩ := refR_el z
  obtain ⟨xs, e, ns, rfl, z⟩ := tupO_el z
  refine ⟨p, _, rfl, .inr (.inl e), rfl, flat_ints ns, ?_⟩
  simp only [Bool.false_eq_true, if_false, inV_ints]
  exact z
def dInTI (x : W) (y : W) (Ω : Om) (Q : DQ) : Prop := intW x fun i => tupW y fun ds => intsD ds fun ns => Q (.sh (.bl (decide (i ∈ ns)))) Ω
instance r_inTI : SR2 K am wInTI dInTI := ⟨fun {c T σ Γ Ω H x y wx wy Q R} e hx hy h k => by
  obtain ⟨i, rfl, h_1⟩ := intW_el h
  obtain ⟨a, vs, ds, rfl, ha, hv, h_2⟩ := tupW_at hy h_1
  obtain ⟨ns, rfl, h_3⟩ := intsD_el h_2
  obtain rfl : x = .int i := hx
  show tupO (H a) _
  exact rd_tupO ha ⟨ns, lay_ints hv, k _ _ _ _ h_3 (e.addv rfl)⟩⟩
def wInS : R2 := fun x y H Q => ∃ i j, x = .str i ∧ y = .str j ∧ Q (.bl (!(Builtin.Str.occurrences j i 0 j.length 1).isEmpty)) H
theorem o_inS {X : Cx} : OpR X (compareOp .In) wInS := op_in_str
def dInS (x : W) (y : W) (Ω : Om) (Q : DQ) : Prop := strW x fun i => strW y fun j => Q (.sh (.bl (!(Builtin.Str.occurrences j i 0 j.length 1).isEmpty))) Ω
instance r_inS : SR2 K am wInS dInS := ⟨fun {c T σ Γ Ω H x y wx wy Q R} e hx hy h k => by
  obtain ⟨i, rfl, h_1⟩ := strW_el h
  obtain ⟨j, rfl, h_2⟩ := strW_el h_1
  exact ⟨i, j, hx, hy, k _ _ _ _ h_2 (e.addv rfl)⟩⟩
/-! subscripts -/
def atR {α : Type} (xs : List α) (i : Int) (k : α → Prop) : Prop := match L2.atI xs i with | some v => k v | none => False
theorem atR_el {α : Type} {xs : List α} {i : Int} {k : α → Prop} (h : atR xs i k) : ∃ v, L2.atI xs i = some v ∧ k v := by
  unfold atR at h
  split at h
  · exact ⟨_, ‹_›, h⟩
  · exact h.elim
def dIxL (x : W) (y : W) (Ω : Om) (Q : DQ) : Prop := seqW Ω x fun ws => intW y fun i => atR ws i fun w => Q w Ω
instance r_ixL : SR2 K am wIxL dIxL := ⟨fun {c T σ Γ Ω H x y wx wy Q R} e hx hy h k => by
  obtain ⟨a, vs, ws, rfl, ha, hv, h_1⟩ := seqW_el e hx h
  obtain ⟨i, rfl, h_2⟩ := intW_el h_1
  obtain ⟨w, hw, h_3⟩ := atR_el h_2
  obtain rfl : y = .int i := hy
  obtain ⟨v, h1, h2⟩ := hv.atI hw
  show lstO (H a) _
  rw [ha]
  show optR _ _
  rw [h1]
  exact k _ _ _ _ h_3 (e.addv h2)⟩
def dIxT (x : W) (y : W) (Ω : Om) (Q : DQ) : Prop := tupW x fun ds => intW y fun i => atR ds i fun d => Q (.sh d) Ω
theorem atI_map {α β : Type} (f : α → β) (xs : List α) (i : Int) : L2.atI (xs.map f) i = (L2.atI xs i).map f := by
  unfold L2.atI
  rw [List.length_map]
  cases ixN xs.length i with
  | none => rfl
  | some j => simp
instance r_ixT : SR2 K am wIxT dIxT := ⟨fun {c T σ Γ Ω H x y wx wy Q R} e hx hy h k => by
  obtain ⟨a, vs, ds, rfl, ha, hv, h_1⟩ := tupW_at hx h
  obtain ⟨i, rfl, h_2⟩ := intW_el h_1
  obtain ⟨d, hw, h_3⟩ := atR_el h_2
  obtain rfl : y = .int i := hy
  obtain ⟨v, h1, h2⟩ := (VOks.sh_of hv).atI (w := .sh d) (i := i) (by rw [atI_map, hw]; rfl)
  show tupO (H a) _
  refine rd_tupO ha ?_
  show optR _ _
  rw [h1]
  exact k _ _ _ _ h_3 (e.addv h2)⟩
def dIxS (x : W) (y : W) (Ω : Om) (Q : DQ) : Prop := strW x fun z => intW y fun i => z.length ≤ sizeLine ∧ atR z.cps.toList i fun c => Q (.sh (.str ⟨#[c]⟩)) Ω
instance r_ixS : SR2 K am wIxS dIxS := ⟨fun {c T σ Γ Ω H x y wx wy Q R} e hx hy h k => by
  obtain ⟨z, rfl, h_1⟩ := strW_el h
  obtain ⟨i, rfl, h0, h_2⟩ := intW_el h_1
  obtain ⟨d, hw, h_3⟩ := atR_el h_2
  obtain rfl : x = .str z := hx
  obtain rfl : y = .int i := hy
  refine ⟨h0, ?_⟩
  show optR _ _
  rw [hw]
  exact k _ _ _ _ h_3 (e.addv rfl)⟩
def dNeg (x : W) (Ω : Om) (Q : DQ) : Prop := intW x fun i => Q (.sh (.int (-i))) Ω
instance r_neg : SR1 K am wNeg dNeg := ⟨fun {c T σ Γ Ω H x wx Q R} e hx h k => by
  obtain ⟨i, rfl, h_1⟩ := intW_el h
  obtain rfl : x = .int i := hx
  exact k _ _ _ _ h_1 (e.addv rfl)⟩
theorem q_setOwn {X : Cx} {st : Stmt} {te : TE} {g : TG} (h : PS X st (tAsg te g)) : PS X st (tAsg (ownE te) g) := h
theorem q_starT {X : Cx} {e : Expr} {es : List Expr} {te : TE} {t : TA} {p : Pos} (he : PE X e te) (hr : PA X es t) (hs : starEach (.Starred e p :: es) X.env = (true, eval e X.env) :: starEach es X.env := by rfl) : PA X (.Starred e p :: es) (vStarT te t) := by
  refine ⟨fun pos pins s σ H Q I h => PySem.W.items_star (thn (he.run pins s σ H _ I h) fun v s1 z => ?_) hs⟩
  obtain ⟨y, H1, I1, ry, z1⟩ := z
  obtain ⟨a, ey, z2⟩ := refR_el z1
  obtain ⟨xs, hx, q⟩ := tupO_el z2
  subst ey
  obtain rfl : v = Value.ref a := ry
  refine StX.star_any I1 (.inl (.inl hx)) fun us s2 I2 rv => thn (hr.run pos pins s2 σ H1 _ I2 q) fun ws s3 z => ?_
  obtain ⟨vs, H3, I3, r3, q3⟩ := z
  exact ⟨xs ++ vs, H3, I3, rv.append r3, q3⟩
/-! slices -/
class SO (K : PySem.W.Frag) (am : Am) (to : TO) (d : outParam (Gm → Om → (Option Int → Om → Prop) → Prop)) : Prop where
  run : ∀ {c : Cq am} {T : List Tp} {σ : L2.St} {Γ : Gm} {Ω : Om} {H : Hp} {Q : Option Int → Om → Prop} {R : Option Int → Hp → Prop}, DEnv K c T σ Γ Ω H → d Γ Ω Q → (∀ o Ω' H', Q o Ω' → DEnv K c T σ Γ Ω' H' → R o H') → to σ H R
def dNoPart (_Γ0 : Gm) (Ω : Om) (Q : Option Int → Om → Prop) : Prop := Q none Ω
instance s_nopart : SO K am tNoPart dNoPart := ⟨fun {c T σ Γ Ω H Q R} e h k => k _ _ _ h e⟩
def dPart (da : DT) (Γ : Gm) (Ω : Om) (Q : Option Int → Om → Prop) : Prop := da Γ Ω fun x Ω1 => intW x fun i => Q (some i) Ω1
instance s_part {ta : TE} {da : DT} [s1 : SE K am ta da] : SO K am (vPart ta) (dPart da) := ⟨fun {c T σ Γ Ω H Q R} e h k =>
  s1.run e h fun x wx Ω1 H1 h1 e1 => by
    obtain ⟨i, rfl, h2⟩ := intW_el h1
    obtain rfl : x = .int i := e1.hd
    exact k _ _ _ h2 e1.drop⟩
class SRS (K : PySem.W.Frag) (am : Am) (r : V → Option Int → Option Int → Hp → VK → Prop) (d : outParam (W → Option Int → Option Int → Om → DQ → Prop)) : Prop where
  run : ∀ {c : Cq am} {T : List Tp} {σ : L2.St} {Γ : Gm} {Ω : Om} {H : Hp} {x : V} {wx : W} {lo hi : Option Int} {Q : DQ} {R : VK}, DEnv K c T σ Γ Ω H → VOk K H (Ex c Ω) wx x → d wx lo hi Ω Q → (∀ v w Ω' H', Q w Ω' → DEnv K c (.v w v :: T) σ Γ Ω' H' → R v H') → r x lo hi H R
def dSl (r : W → Option Int → Option Int → Om → DQ → Prop) (da : DT) (dl dh : Gm → Om → (Option Int → Om → Prop) → Prop) (Γ : Gm) (Ω : Om) (Q : DQ) : Prop := da Γ Ω fun x Ω1 => dl Γ Ω1 fun l Ω2 => dh Γ Ω2 fun u Ω3 => r x l u Ω3 Q
instance s_sl {r : V → Option Int → Option Int → Hp → VK → Prop} {d : W → Option Int → Option Int → Om → DQ → Prop} {ta : TE} {da : DT} {tl th : TO} {dl dh : Gm → Om → (Option Int → Om → Prop) → Prop} [s1 : SE K am ta da] [s2 : SO K am tl dl] [s3 : SO K am th dh] [s4 : SRS K am r d] : SE K am (tSl r ta tl th) (dSl d da dl dh) := ⟨fun {c T σ Γ Ω H Q R} e h k =>
  s1.run e h fun x wx Ω1 H1 h1 e1 => s2.run e1 h1 fun l Ω2 H2 h2 e2 => s3.run e2 h2 fun u Ω3 H3 h3 e3 => s4.run e3.drop e3.hd h3 k⟩
def cutA {α : Type} (xs : List α) (lo hi : Option Int) : List α := (xs.drop (HT.sIx xs.length 0 lo)).take (HT.sIx xs.length xs.length hi - HT.sIx xs.length 0 lo)
theorem cut_oks {ws : List W} {vs : List V} (h : VOks K H E ws vs) (lo hi : Option Int) : VOks K H E (cutA ws lo hi) (cutV vs lo hi) := by
  unfold cutA cutV
  rw [h.len]
  exact (h.drop _).take _
theorem cutA_map {α β : Type} (f : α → β) (xs : List α) (lo hi : Option Int) : cutA (xs.map f) lo hi = (cutA xs lo hi).map f := by
  unfold cutA
  rw [List.length_map, List.map_take, List.map_drop]
def dSlL (x : W) (lo : Option Int) (hi : Option Int) (Ω : Om) (Q : DQ) : Prop := seqW Ω x fun ws => shsW ws fun ds => Q (.sh (.lst (cutA ds lo hi))) Ω
instance r_slL : SRS K am wSlL dSlL := ⟨fun {c T σ Γ Ω H x wx lo hi Q R} e hx h k => by
  obtain ⟨a, vs, ws, rfl, ha, hv, h_1⟩ := seqW_el e hx h
  obtain ⟨ds, rfl, h_2⟩ := shsW_el h_1
  show lstO (H a) _
  rw [ha]
  intro p hp
  have := cut_oks hv lo hi
  rw [cutA_map] at this
  exact k _ _ _ _ h_2 (e.lst hp this.lay)⟩
def dSlT (x : W) (lo : Option Int) (hi : Option Int) (Ω : Om) (Q : DQ) : Prop := tup0W x fun ds => Q (.sh (.tup (cutA ds lo hi))) Ω
instance r_slA : SRS K am (rSlA K) dSlT := ⟨fun {c T σ Γ Ω H x wx lo hi Q R} e hx h k => by
  obtain ⟨ds, rfl, h_1⟩ := tup0W_el h
  obtain ⟨a, vs, rfl, na, ha, hv⟩ := hx
  have n1 := hv.len
  refine ⟨a, vs, rfl, SqT.of ha, fun z => ?_, fun z p hp => ?_⟩
  · have e1 : cutA ds lo hi = ds := by
      unfold cutA
      rw [n1, z.1, z.2, List.drop_zero, Nat.sub_zero, ← n1, List.take_length]
    rw [e1] at h_1
    exact k _ _ _ _ h_1 (e.addv ⟨a, vs, rfl, na, ha, hv⟩)
  · have := cut_oks (VOks.sh_of hv) lo hi
    rw [cutA_map] at this
    exact k _ _ _ _ h_1 (e.tup hp this.lay)⟩
def dSlS (x : W) (lo : Option Int) (hi : Option Int) (Ω : Om) (Q : DQ) : Prop := strW x fun z => z.length ≤ sizeLine ∧ Q (.sh (.str (cutS z lo hi))) Ω
instance r_slS : SRS K am rSlS dSlS := ⟨fun {c T σ Γ Ω H x wx lo hi Q R} e hx h k => by
  obtain ⟨z, rfl, h0, h_1⟩ := strW_el h
  exact ⟨z, hx, h0, k _ _ _ _ h_1 (e.addv rfl)⟩⟩
def dRev (da : DT) (Γ : Gm) (Ω : Om) (Q : DQ) : Prop := da Γ Ω fun x Ω1 => seqW Ω1 x fun ws => shsW ws fun ds => Q (.sh (.lst ds.reverse)) Ω1
instance s_rev {ta : TE} {da : DT} [s1 : SE K am ta da] : SE K am (vRev ta) (dRev da) := ⟨fun {c T σ Γ Ω H Q R} e h k =>
  s1.run e h fun x wx Ω1 H1 h1 e1 => by
    obtain ⟨a, vs, ws, rfl, ha, hv, h⟩ := seqW_el e1.drop e1.hd h1
    obtain ⟨ds, rfl, h_1⟩ := shsW_el h
    show lstO (H1 a) _
    rw [ha]
    intro p hp
    have := hv.rev
    rw [← List.map_reverse] at this
    exact k _ _ _ _ h_1 (e1.drop.lst hp this.lay)⟩
/-! dicts -/
def dvalR (ks : List Key) (ws : List W) (x : Key) (k : W → Prop) : Prop := match dval ks ws x with | some w => k w | none => False
def dDGet (da db : DT) (Γ : Gm) (Ω : Om) (Q : DQ) : Prop := da Γ Ω fun x Ω1 => db Γ Ω1 fun y Ω2 => dicW Ω2 x fun ks ws => keyW y fun q => dvalR ks ws q fun w => Q w Ω2
theorem rd_dkR {a : Addr} {kvs : List (Key × V)} {k : List (Key × V) → Prop} (h : Rd H a (.dK kvs)) (z : k kvs) : dkR (H a) k := by
  rcases h with h | ⟨o, h⟩
  · rw [h]; exact z
  · rw [h]; exact z
theorem keyR_k {k : Key → Prop} (q : Key) (h : k q) : keyR (kV q) k := by cases q <;> exact h
instance s_dget {ta tb : TE} {da db : DT} [s1 : SE K am ta da] [s2 : SE K am tb db] : SE K am (vDGet ta tb) (dDGet da db) := ⟨fun {c T σ Γ Ω H Q R} e h k =>
  s1.run e h fun x wx Ω1 H1 h1 e1 => s2.run e1 h1 fun y wy Ω2 H2 h2 e2 => by
    obtain ⟨a, ks, vs, ws, rfl, ha, hn, hv, h⟩ := dicW_el e2.drop.drop e2.drop.hd h2
    obtain ⟨q, rfl, h_1⟩ := keyW_el h e2.hd
    unfold dvalR at h_1
    split at h_1
    · rename_i w hw
      obtain ⟨v, g1, g2⟩ := valV_zip hv hw
      refine rd_dkR ha (keyR_k q ?_)
      show optR _ _
      rw [g1]
      exact k _ _ _ _ h_1 (e2.drop.drop.addv g2)
    · exact h_1.elim⟩
def hasK (ks : List Key) (q : Key) : Bool := ks.any fun x => decide (x = q)
def dDIn (neg : Bool) (da db : DT) (Γ : Gm) (Ω : Om) (Q : DQ) : Prop := da Γ Ω fun y Ω1 => db Γ Ω1 fun x Ω2 => dicW Ω2 x fun ks ws => keyW y fun q => Q (.sh (.bl (if neg then !hasK ks q else hasK ks q))) Ω2
instance s_din {ta tb : TE} {da db : DT} [s1 : SE K am ta da] [s2 : SE K am tb db] : SE K am (vDIn ta tb) (dDIn false da db) := ⟨fun {c T σ Γ Ω H Q R} e h k =>
  s1.run e h fun y wy Ω1 H1 h1 e1 => s2.run e1 h1 fun x wx Ω2 H2 h2 e2 => by
    obtain ⟨a, ks, vs, ws, rfl, ha, hn, hv, h⟩ := dicW_el e2.drop.drop e2.hd h2
    obtain ⟨q, rfl, h_1⟩ := keyW_el h e2.drop.hd
    refine rd_dkR ha (keyR_k q ?_)
    rw [valV_zipN hn hv]
    exact k _ _ _ _ h_1 (e2.drop.drop.addv rfl)⟩
instance s_dnotin {ta tb : TE} {da db : DT} [s1 : SE K am ta da] [s2 : SE K am tb db] : SE K am (vDNotIn ta tb) (dDIn true da db) := ⟨fun {c T σ Γ Ω H Q R} e h k =>
  s1.run e h fun y wy Ω1 H1 h1 e1 => s2.run e1 h1 fun x wx Ω2 H2 h2 e2 => by
    obtain ⟨a, ks, vs, ws, rfl, ha, hn, hv, h⟩ := dicW_el e2.drop.drop e2.hd h2
    obtain ⟨q, rfl, h_1⟩ := keyW_el h e2.drop.hd
    refine rd_dkR ha (keyR_k q ?_)
    rw [valV_zipN hn hv]
    exact k _ _ _ _ h_1 (e2.drop.drop.addv rfl)⟩
def dDNew (_Γ0 : Gm) (Ω : Om) (Q : DQ) : Prop := ∀ p, notin p Ω → Q (.pt p) ((p, .dic [] []) :: Ω)
instance s_dnew : SE K am (ownE tDNewK) dDNew := ⟨fun {c T σ Γ Ω H Q R} e h k => fun p hp =>
  k _ _ _ _ (h p fun z => e.noEx hp (.inr z)) (e.own hp (e.new hp) (.inr ⟨[], [], [], rfl, rfl, rfl, rfl⟩))⟩
def dDNewS (_Γ0 : Gm) (Ω : Om) (Q : DQ) : Prop := Q (.sh (.dic [] [])) Ω
instance s_dnewS : SE K am tDNewK dDNewS := ⟨fun {c T σ Γ Ω H Q R} e h k => fun p hp =>
  k _ _ _ _ h (e.alloc hp |>.addv ⟨p, [], rfl, e.noEx hp, upd_same, rfl, rfl⟩)⟩
/-- a dict's pairs, one put -/
def putA (ks : List Key) (ws : List W) (q : Key) (w : W) : List Key × List W := if hasK ks q = true then (ks, (ks.zip ws).map fun p => if p.1 = q then w else p.2) else (ks ++ [q], ws ++ [w])
theorem putA_ok : ∀ {ks : List Key} {ws : List W} {vs : List V} (q : Key) {w : W} {v : V}, ks.length = ws.length → VOks K H E ws vs → VOk K H E w v →
    ∃ vs', putK (ks.zip vs) q v = (putA ks ws q w).1.zip vs' ∧ (putA ks ws q w).1.length = (putA ks ws q w).2.length ∧ VOks K H E (putA ks ws q w).2 vs' := by
  intro ks ws vs q w v hn hv hw
  have any_eq : ∀ {ks : List Key} {vs : List V}, ks.length = vs.length → ((ks.zip vs).any fun kv => decide (kv.1 = q)) = hasK ks q := by
    intro ks
    induction ks with
    | nil => intro vs _; rfl
    | cons k ks ih =>
      intro vs h
      cases vs with
      | nil => simp at h
      | cons v vs =>
        unfold hasK at ih ⊢
        rw [List.zip_cons_cons, List.any_cons, List.any_cons, ih (by simpa using h)]
  have n2 : ks.length = vs.length := by rw [hn, hv.len]
  unfold putK putA
  rw [any_eq n2]
  by_cases hb : hasK ks q = true
  · rw [if_pos hb, if_pos hb]
    refine ⟨(ks.zip vs).map fun kv => if kv.1 = q then v else kv.2, ?_, ?_, ?_⟩
    · clear hb hv hw any_eq hn
      induction ks generalizing vs with
      | nil => rfl
      | cons k ks ih =>
        cases vs with
        | nil => simp at n2
        | cons u us =>
          rw [List.zip_cons_cons, List.map_cons, List.map_cons, List.zip_cons_cons, ← ih (by simpa using n2)]
          congr 1
          by_cases z : k = q <;> simp [z]
    · simp [List.length_zip, hn]
    · clear hb any_eq n2
      induction ks generalizing ws vs with
      | nil => exact rfl
      | cons k ks ih =>
        cases ws with
        | nil => simp at hn
        | cons w0 ws =>
          obtain ⟨u, us, rfl, h1, h2⟩ := hv
          rw [List.zip_cons_cons, List.map_cons, List.zip_cons_cons, List.map_cons]
          refine ⟨_, _, rfl, ?_, ih (by simpa using hn) h2⟩
          by_cases z : k = q
          · simp only [z, if_true]; exact hw
          · simp only [z, if_false]; exact h1
  · rw [if_neg hb, if_neg hb]
    exact ⟨vs ++ [v], by rw [List.zip_append n2]; rfl, by simp [hn], hv.app (.one hw)⟩
def dsDPut (dd dk dv : DT) (N : DN) (Γ : Gm) (Ω : Om) : Prop := dv Γ Ω fun v Ω1 => dd Γ Ω1 fun x Ω2 => dk Γ Ω2 fun y Ω3 => ownD Ω3 x fun p ks ws => keyW y fun q => lenLt ks ∧ N.nx Γ (OA.put Ω3 p (.dic (putA ks ws q v).1 (putA ks ws q v).2))
instance s_dput {td ty tv : TE} {dd dk dv : DT} [s1 : SE K am tv dv] [s2 : SE K am td dd] [s3 : SE K am ty dk] : SS K am (vsDPut td ty tv) (dsDPut dd dk dv) := ⟨fun {c T σ Γ Ω H D N} e h o =>
  s1.run e h fun v wv Ω1 H1 h1 e1 => s2.run e1 h1 fun x wx Ω2 H2 h2 e2 => s3.run e2 h2 fun y wy Ω3 H3 h3 e3 => by
    obtain ⟨a, ks, vs, ws, rfl, hl, ha, hn, hv, h⟩ := ownD_el e3 e3.drop.hd h3
    obtain ⟨q, rfl, h0, h_1⟩ := keyW_el h e3.hd
    obtain ⟨vs', g1, g2, g3⟩ := putA_ok q hn hv e3.drop.drop.hd
    show dkO (H3 a) _
    rw [ha]
    refine keyR_k (k := fun q => (ks.zip vs).length < sizeLine ∧ D.nx σ (upd H3 a (.dK (putK (ks.zip vs) q v)))) q ⟨?_, o.nx _ _ _ _ h_1 (e3.drop.drop.drop.putD hl g1 g2 g3)⟩
    rw [List.length_zip, ← hv.len, hn, Nat.min_self, ← hn]
    exact h0⟩
/-! stores into lists -/
def dgSub (r : W → W → W → Om → (Om → Prop) → Prop) (do_ di : DT) (w : W) (Γ : Gm) (Ω : Om) (Q : Gm → Om → Prop) : Prop := do_ Γ Ω fun x Ω1 => di Γ Ω1 fun y Ω2 => r x y w Ω2 fun Ω3 => Q Γ Ω3
def dSetL (x : W) (y : W) (w : W) (Ω : Om) (Q : Om → Prop) : Prop := ownL Ω x fun p ws => intW y fun i => match ixN ws.length i with | some j => Q (OA.put Ω p (.lst (ws.set j w))) | none => False
instance s_gsub {to ti : TE} {do_ di : DT} [s1 : SE K am to do_] [s2 : SE K am ti di] : SG K am (gSub to ti wSetL) (dgSub dSetL do_ di) [] := ⟨fun {c T σ Γ Ω H v w Q R} e hv h k =>
  s1.run (T := .v w v :: T) (e.addv hv) h fun x wx Ω1 H1 h1 e1 => s2.run e1 h1 fun y wy Ω2 H2 h2 e2 => by
    obtain ⟨a, vs, ws, rfl, hl, ha, hs, h⟩ := ownL_el e2 e2.drop.hd h2
    obtain ⟨i, rfl, h_1⟩ := intW_el h
    obtain rfl : y = .int i := e2.hd
    show lstO (H2 a) _
    rw [ha]
    show optR _ _
    rw [← hs.len]
    split at h_1
    · rename_i j hj
      rw [hj]
      exact k _ _ _ _ h_1 (e2.drop.drop.drop.putL hl (hs.set j e2.drop.drop.hd)) (fun _ _ => rfl)
    · exact h_1.elim⟩
/-! methods of lists -/
def isLW (Ω : Om) (w : W) : Prop := seqW Ω w fun _ => True
theorem isL_of {c : Cq am} {T : List Tp} {σ : L2.St} {Γ : Gm} {Ω : Om} {w : W} {v : V} (e : DEnv K c T σ Γ Ω H) (hv : VOk K H (Ex c Ω) w v) (h : isLW Ω w) : isLst H v := by
  obtain ⟨a, vs, ws, rfl, ha, _, _⟩ := seqW_el e hv h
  show lstO (H a) _
  rw [ha]
  exact True.intro
def dLM (r : DRM) (do_ : DT) (das : DA) (Γ : Gm) (Ω : Om) (Q : DQ) : Prop := do_ Γ Ω fun w Ω1 => isLW Ω1 w ∧ das Γ Ω1 fun ws Ω2 => r w ws Ω2 Q
instance s_lm {r : V → List V → Hp → VK → Prop} {d : DRM} {to : TE} {do_ : DT} {t : TA} {das : DA} [s1 : SE K am to do_] [s2 : SA K am t das] [s3 : SRM K am r d] : SE K am (vLM r to t) (dLM d do_ das) := ⟨fun {c T σ Γ Ω H Q R} e h k =>
  s1.run e h fun x wx Ω1 H1 h1 e1 => ⟨isL_of e1 e1.hd h1.1, s2.run e1 h1.2 fun vs ws Ω2 H2 h2 e2 hv => s3.run e2.drop e2.hd hv h2 k⟩⟩
def dLM0 (r : DRM) (do_ : DT) (Γ : Gm) (Ω : Om) (Q : DQ) : Prop := do_ Γ Ω fun w Ω1 => isLW Ω1 w ∧ r w [] Ω1 Q
instance s_lm0 {r : V → List V → Hp → VK → Prop} {d : DRM} {to : TE} {do_ : DT} [s1 : SE K am to do_] [s3 : SRM K am r d] : SE K am (vLM0 r to) (dLM0 d do_) := ⟨fun {c T σ Γ Ω H Q R} e h k =>
  s1.run e h fun x wx Ω1 H1 h1 e1 => ⟨isL_of e1 e1.hd h1.1, s3.run (ws := []) e1.drop e1.hd rfl h1.2 k⟩⟩
def dAppend (w : W) (ws : List W) (Ω : Om) (Q : DQ) : Prop := ownL Ω w fun p xs => one1W ws fun y => lenLt xs ∧ Q (.sh .non) (OA.put Ω p (.lst (xs ++ [y])))
instance r_append : SRM K am wAppend dAppend := ⟨fun {c T σ Γ Ω H x w xs ws Q R} e hx hs h k => by
  obtain ⟨a, vs, us, rfl, hl, ha, hv, h_1⟩ := ownL_el e hx h
  obtain ⟨y, v, rfl, hy, h0, h_2⟩ := one1W_el h_1 hs
  show lstO (H a) _
  rw [ha]
  exact ⟨by rw [← hv.len]; exact h0, k _ _ _ _ h_2 ((e.putL hl (hv.app (.one hy))).addv rfl)⟩⟩
def dPopAt (w : W) (ws : List W) (Ω : Om) (Q : DQ) : Prop := ownL Ω w fun p xs => one1W ws fun y => intW y fun i => (0 ≤ i ∧ i < 2 ^ 63) ∧ match xs[i.toNat]? with | some u => Q u (OA.put Ω p (.lst (xs.eraseIdx i.toNat))) | none => False
instance r_popAt : SRM K am wPopAt dPopAt := ⟨fun {c T σ Γ Ω H x w xs ws Q R} e hx hs h k => by
  obtain ⟨a, vs, us, rfl, hl, ha, hv, h_1⟩ := ownL_el e hx h
  obtain ⟨y, v, rfl, hy, h_2⟩ := one1W_el h_1 hs
  obtain ⟨i, rfl, h0, h_3⟩ := intW_el h_2
  obtain rfl : v = .int i := hy
  show lstO (H a) _
  rw [ha]
  refine ⟨h0, ?_⟩
  split at h_3
  · rename_i u hu
    obtain ⟨z, g1, g2⟩ := hv.to _ hu
    show optR _ _
    rw [g1]
    have e2 := (e.addv (w := u) (v := z) g2).putL (ws' := us.eraseIdx i.toNat) (vs' := vs.eraseIdx i.toNat) hl (hv.erase _)
    exact k _ _ _ _ h_3 e2
  · exact h_3.elim⟩
/-! calls of built-ins -/
def lenW (Ω : Om) (w : W) (k : Nat → Prop) : Prop := match w with
  | .sh (.lst xs) => k xs.length
  | .sh (.tup xs) => k xs.length
  | .sh (.nt ns) => k ns.length
  | .sh (.str s) => s.length ≤ sizeLine ∧ k s.length
  | .sh (.dic ks _) => k ks.length
  | .pt p => match look Ω p with
    | some (.lst ws) => k ws.length
    | some (.dic ks _) => k ks.length
    | _ => False
  | _ => False
def dLen (ws : List W) (Ω : Om) (Q : DQ) : Prop := one1W ws fun w => lenW Ω w fun n => Q (.sh (.int n)) Ω
instance r_len : SRC K am lenR dLen := ⟨fun {c T σ Γ Ω H xs ws Q R} e hs h k => by
  obtain ⟨w, v, rfl, hw, h_1⟩ := one1W_el h hs
  unfold lenW at h_1
  split at h_1
  · obtain ⟨a, vs, rfl, n, ha, hl⟩ := hw
    rw [len_r, ha]
    show R (.int vs.length) H
    rw [← hl.len]
    exact k _ _ _ _ h_1 (e.addv rfl)
  · obtain ⟨a, vs, rfl, n, ha, hl⟩ := hw
    rw [len_r, ha]
    show R (.int vs.length) H
    rw [← hl.len]
    exact k _ _ _ _ h_1 (e.addv rfl)
  · obtain ⟨a, ob, rfl, n, ha, _⟩ := hw
    rw [len_r, ha]
    show R (.int (List.length (List.map V.int _))) H
    rw [List.length_map]
    exact k _ _ _ _ h_1 (e.addv rfl)
  · obtain rfl : v = .str _ := hw
    exact ⟨h_1.1, k _ _ _ _ h_1.2 (e.addv rfl)⟩
  · rename_i ks xs
    obtain ⟨a, vs, rfl, n, ha, hn, hl⟩ := hw
    rw [len_r, ha]
    show R (.int (ks.zip vs).length) H
    have : (ks.zip vs).length = ks.length := by rw [List.length_zip, ← hl.len, hn, Nat.min_self]
    rw [this]
    exact k _ _ _ _ h_1 (e.addv rfl)
  · split at h_1
    · rename_i us hl
      obtain ⟨vs, h1, h2⟩ := e.ob _ (look_mem hl)
      obtain rfl : v = .ref _ := hw
      rw [len_r, h1]
      show R (.int vs.length) H
      rw [← h2.len]
      exact k _ _ _ _ h_1 (e.addv rfl)
    · rename_i ks us hl
      obtain ⟨vs, h1, hn, h2⟩ := e.ob _ (look_mem hl)
      obtain rfl : v = .ref _ := hw
      rw [len_r, h1]
      show R (.int (ks.zip vs).length) H
      have : (ks.zip vs).length = ks.length := by rw [List.length_zip, ← h2.len, hn, Nat.min_self]
      rw [this]
      exact k _ _ _ _ h_1 (e.addv rfl)
    · exact h_1.elim
  · exact h_1.elim⟩
def dTupL (ws : List W) (Ω : Om) (Q : DQ) : Prop := one1W ws fun w => seqW Ω w fun us => shsW us fun ds => Q (.sh (.tup ds)) Ω
instance r_tupL : SRC K am wTupL dTupL := ⟨fun {c T σ Γ Ω H xs ws Q R} e hs h k => by
  obtain ⟨w, v, rfl, hw, h_1⟩ := one1W_el h hs
  obtain ⟨a, vs, us, rfl, ha, hv, h_2⟩ := seqW_el e hw h_1
  obtain ⟨ds, rfl, h_3⟩ := shsW_el h_2
  show lstO (H a) _
  rw [ha]
  exact fun l hl => k _ _ _ _ h_3 (e.tup hl hv.lay)⟩
def dLstL (ws : List W) (Ω : Om) (Q : DQ) : Prop := one1W ws fun w => seqW Ω w fun us => shsW us fun ds => Q (.sh (.lst ds)) Ω
instance r_lstL : SRC K am wLstL dLstL := ⟨fun {c T σ Γ Ω H xs ws Q R} e hs h k => by
  obtain ⟨w, v, rfl, hw, h_1⟩ := one1W_el h hs
  obtain ⟨a, vs, us, rfl, ha, hv, h_2⟩ := seqW_el e hw h_1
  obtain ⟨ds, rfl, h_3⟩ := shsW_el h_2
  show lstO (H a) _
  rw [ha]
  exact fun l hl => k _ _ _ _ h_3 (e.lst hl hv.lay)⟩
def dAbs (ws : List W) (Ω : Om) (Q : DQ) : Prop := one1W ws fun w => intW w fun i => Q (.sh (.int (if i < 0 then -i else i))) Ω
instance r_abs : SRC K am wAbs dAbs := ⟨fun {c T σ Γ Ω H xs ws Q R} e hs h k => by
  obtain ⟨w, v, rfl, hw, h_1⟩ := one1W_el h hs
  obtain ⟨i, rfl, h_2⟩ := intW_el h_1
  obtain rfl : v = .int i := hw
  exact k _ _ _ _ h_2 (e.addv rfl)⟩
def dIntB (ws : List W) (Ω : Om) (Q : DQ) : Prop := one1W ws fun w => blW w fun i => Q (.sh (.int (if i then 1 else 0))) Ω
instance r_intB : SRC K am wIntB dIntB := ⟨fun {c T σ Γ Ω H xs ws Q R} e hs h k => by
  obtain ⟨w, v, rfl, hw, h_1⟩ := one1W_el h hs
  obtain ⟨i, rfl, h_2⟩ := blW_el h_1
  obtain rfl : v = .bl i := hw
  exact k _ _ _ _ h_2 (e.addv rfl)⟩
def dMin2 (ws : List W) (Ω : Om) (Q : DQ) : Prop := two2W ws fun x y => intW x fun i => intW y fun j => Q (.sh (.int (if j < i then j else i))) Ω
instance r_min2 : SRC K am wMin2 dMin2 := ⟨fun {c T σ Γ Ω H xs ws Q R} e hs h k => by
  obtain ⟨w, v, w2, v2, rfl, hw, hw2, h_1⟩ := two2W_el h hs
  obtain ⟨i, rfl, h_2⟩ := intW_el h_1
  obtain ⟨j, rfl, h_3⟩ := intW_el h_2
  obtain rfl : v = .int i := hw
  obtain rfl : v2 = .int j := hw2
  exact k _ _ _ _ h_3 (e.addv rfl)⟩
def dMax2 (ws : List W) (Ω : Om) (Q : DQ) : Prop := two2W ws fun x y => intW x fun i => intW y fun j => Q (.sh (.int (if j > i then j else i))) Ω
instance r_max2 : SRC K am wMax2 dMax2 := ⟨fun {c T σ Γ Ω H xs ws Q R} e hs h k => by
  obtain ⟨w, v, w2, v2, rfl, hw, hw2, h_1⟩ := two2W_el h hs
  obtain ⟨i, rfl, h_2⟩ := intW_el h_1
  obtain ⟨j, rfl, h_3⟩ := intW_el h_2
  obtain rfl : v = .int i := hw
  obtain rfl : v2 = .int j := hw2
  exact k _ _ _ _ h_3 (e.addv rfl)⟩
def maxI (d0 : Int) : List Int → Int
  | [] => d0
  | x :: r => r.foldl max x
theorem foldl_max (r : List Int) : ∀ x : Int, r.foldl max x ∈ x :: r ∧ ∀ y ∈ x :: r, y ≤ r.foldl max x := by
  induction r with
  | nil => intro x; simp
  | cons a r ih =>
    intro x
    rw [List.foldl_cons]
    obtain ⟨h1, h2⟩ := ih (max x a)
    have h3 := h2 (max x a) List.mem_cons_self
    refine ⟨?_, fun y hy => ?_⟩
    · rcases List.mem_cons.mp h1 with h | h
      · rw [h]
        rcases Int.le_total x a with z | z
        · rw [Int.max_eq_right z]; simp
        · rw [Int.max_eq_left z]; simp
      · simp [h]
    · rcases List.mem_cons.mp hy with rfl | hy
      · omega
      · rcases List.mem_cons.mp hy with rfl | hy
        · omega
        · exact h2 y (List.mem_cons_of_mem _ hy)
theorem maxI_eq {ns : List Int} {m d0 : Int} (h0 : ns = [] → m = d0) (h1 : ns ≠ [] → m ∈ ns ∧ ∀ y ∈ ns, y ≤ m) : m = maxI d0 ns := by
  cases ns with
  | nil => exact h0 rfl
  | cons x r =>
    obtain ⟨a, b⟩ := h1 (by simp)
    obtain ⟨c, d⟩ := foldl_max r x
    have := b _ c
    have := d _ a
    show m = r.foldl max x
    omega
def dMaxL (ws : List W) (Ω : Om) (Q : DQ) : Prop := one1W ws fun w => seqW Ω w fun us => shsW us fun ds => intsD ds fun ns => ns ≠ [] ∧ Q (.sh (.int (maxI 0 ns))) Ω
instance r_maxL : SRC K am (rMax K) dMaxL := ⟨fun {c T σ Γ Ω H xs ws Q R} e hs h k => by
  obtain ⟨w, v, rfl, hw, h_1⟩ := one1W_el h hs
  obtain ⟨a, vs, us, rfl, ha, hv, h_2⟩ := seqW_el e hw h_1
  obtain ⟨ds, rfl, h_3⟩ := shsW_el h_2
  obtain ⟨ns, rfl, h0, h_4⟩ := intsD_el h_3
  rw [lay_ints hv.lay] at ha
  refine ⟨a, ns, rfl, SqL.of ha, List.length_pos_iff.mpr h0, fun m h1 h2 => ?_⟩
  rw [maxI_eq (d0 := 0) (fun z => absurd z h0) fun _ => ⟨h1, h2⟩]
  exact k _ _ _ _ h_4 (e.addv rfl)⟩
/-- max(tuple of ints, default=n) -/
def wMaxT : List V → List V → Hp → VK → Prop := fun vs zs H Q => one1 vs fun x => one1 zs fun z => refR x fun p => intR z fun d0 => tupO (H p) fun xs => ∃ ns : List Int, xs = ns.map V.int ∧ ∀ m, (ns = [] → m = d0) → (ns ≠ [] → m ∈ ns ∧ ∀ y ∈ ns, y ≤ m) → Q (.int m) H
theorem c_maxT {X : Cx} (hc : X.calm = true) : CallRK X (.builtin "max") [Str.ofString "default"] wMaxT := by
  intro pins s σ H xs zs us ws Q I rx rz h
  obtain ⟨x, rfl, h_1⟩ := one1_el h
  obtain ⟨z, rfl, h_2⟩ := one1_el h_1
  obtain ⟨p, rfl, h_3⟩ := refR_el h_2
  obtain ⟨d0, rfl, h_4⟩ := intR_el h_3
  obtain ⟨vs, hp, ns, rfl, q⟩ := tupO_el h_4
  obtain ⟨u, rfl, ru⟩ := rx.one
  obtain ⟨w1, rfl, t0, rfl⟩ := rz.one
  cases ru
  obtain ⟨its, rv, ht, _⟩ := I.tuple (X := X) (.inl hp)
  have hl := rv.length
  rw [List.length_map] at hl
  have hplt : p < s.heap.objs.size := by obtain ⟨_, e, _⟩ := ht; exact Heap.lt_size e
  have val : ∀ (i : Nat) (v : Value), its.toArray[i]? = some v → ∃ t, v = .int (ns.getD i 0) t := by
    intro i v hv
    have hv' : its[i]? = some v := by simpa using hv
    have hi : i < its.length := (List.getElem?_eq_some_iff.mp hv').1
    have gen : ∀ {as : List Int} {bs : List Value} (j : Nat), Vals (as.map V.int) bs → ∀ {v : Value}, bs[j]? = some v → ∃ t, v = .int (as.getD j 0) t := by
      intro as
      induction as with
      | nil => intro bs j r v hv; cases r; simp at hv
      | cons a as ih =>
        intro bs j r v hv
        cases r with
        | cons r1 r2 =>
          cases j with
          | zero => cases hv; exact r1
          | succ j => simpa using ih j r2 (v := v) (by simpa using hv)
    exact gen i rv hv'
  have ne : p ≠ s.heap.objs.size := Nat.ne_of_lt hplt
  show wpAny _ _ (call (.builtin "max") [.ref p] [(Str.ofString "default", .int d0 t0)]) _ _ _
  refine call_max_walkD (wpAny_pyIter_tuple (show s.heap.IsTuple p its.toArray from ht) ⟨s.heap.objs.size, [s.heap.objs.size, p], [s.heap.objs.size], _, its.toArray.size, _, _, s.heap, (fun i j => decide (ns.getD i 0 > ns.getD j 0)), rfl, (Walks.tuple (A := X.A.in1) (I.ok.hd hc) s.heap.objs.size p ne its.toArray).toS, ⟨⟨_, Heap.get?_push_size _ rfl, rfl, rfl⟩, ?_⟩, fun b hb => ?_, fun b o e hb => ?_, fun b o e => Heap.get?_push_of_some _ e, fun hz s' m => ?_, fun hp0 => ⟨fun i j vi vj s' Q' E' _ hi hj hq => CmpOf.ints_gt (fun i => ns.getD i 0) val i j vi vj s' Q' E' hi hj hq, fun v s' hP m => ?_⟩⟩)
  · obtain ⟨o, e, r⟩ := ht
    exact ⟨o, Heap.get?_push_of_some _ e, r⟩
  · show b < (s.heap.push _).objs.size
    rw [Heap.size_push]
    rcases List.mem_cons.mp hb with rfl | hb
    · exact Nat.lt_succ_self _
    · rcases List.mem_cons.mp hb with rfl | hb
      · exact Nat.lt_succ_of_lt hplt
      · cases hb
  · exact absurd (Heap.lt_size e) ((List.mem_singleton.mp hb) ▸ Nat.lt_irrefl _)
  · obtain ⟨h', tk, rfl, hk'⟩ := PySem.W.moved_old rfl rfl m
    have hn0 : ns = [] := List.eq_nil_of_length_eq_zero (by simp at hz; rw [hz] at hl; simpa using hl)
    exact ⟨.int d0, H, I.kept hk', ⟨t0, rfl⟩, q d0 (fun _ => rfl) fun h => absurd hn0 h⟩
  · obtain ⟨h', tk, rfl, hk'⟩ := PySem.W.moved_old rfl rfl m
    obtain ⟨t, rfl⟩ := val _ v hP
    obtain ⟨h1, h2⟩ := argBest_gt (fun i => ns.getD i 0) (its.toArray.size - 1)
    have es : its.toArray.size = ns.length := by rw [List.size_toArray, hl]
    rw [es] at h1 h2 hp0 ⊢
    refine ⟨.int _, H, I.kept hk', ⟨t, rfl⟩, q _ (fun h => by rw [h] at hp0; simp at hp0) fun _ => ⟨?_, fun y hy => ?_⟩⟩
    · have hb : argBest (fun i j => decide (ns.getD i 0 > ns.getD j 0)) (ns.length - 1) < ns.length := by
        have h1' : argBest (fun i j => decide (ns.getD i 0 > ns.getD j 0)) (ns.length - 1) ≤ ns.length - 1 := h1
        omega
      generalize argBest (fun i j => decide (ns.getD i 0 > ns.getD j 0)) (ns.length - 1) = b at hb ⊢
      simp [hb]
    · obtain ⟨j, hj, rfl⟩ := List.getElem_of_mem hy
      have := h2 j (by omega)
      rw [show ns.getD j 0 = ns[j] by simp [hj]] at this
      exact this
class SRK (K : PySem.W.Frag) (am : Am) (r : List V → List V → Hp → VK → Prop) (d : outParam (List W → List W → Om → DQ → Prop)) : Prop where
  run : ∀ {c : Cq am} {T : List Tp} {σ : L2.St} {Γ : Gm} {Ω : Om} {H : Hp} {xs zs : List V} {ws us : List W} {Q : DQ} {R : VK}, DEnv K c T σ Γ Ω H → VOks K H (Ex c Ω) ws xs → VOks K H (Ex c Ω) us zs → d ws us Ω Q → (∀ v w Ω' H', Q w Ω' → DEnv K c (.v w v :: T) σ Γ Ω' H' → R v H') → r xs zs H R
def dCKw (r : List W → List W → Om → DQ → Prop) (da dk : DA) (Γ : Gm) (Ω : Om) (Q : DQ) : Prop := da Γ Ω fun ws Ω1 => dk Γ Ω1 fun us Ω2 => r ws us Ω2 Q
instance s_ckw {r : List V → List V → Hp → VK → Prop} {d : List W → List W → Om → DQ → Prop} {t tk : TA} {da dk : DA} [s1 : SA K am t da] [s2 : SA K am tk dk] [s3 : SRK K am r d] : SE K am (tCKw r t tk) (dCKw d da dk) := ⟨fun {c T σ Γ Ω H Q R} e h k =>
  s1.run e h fun vs ws Ω1 H1 h1 e1 hv => by
    obtain ⟨S, e2, h3⟩ := oks_keep e1 hv
    exact s2.run e2 h1 fun zs us Ω2 H2 h4 e3 hz => s3.run e3.drops (h3 e3) hz h4 k⟩
def dMaxT (ws : List W) (us : List W) (Ω : Om) (Q : DQ) : Prop := one1W ws fun w => one1W us fun u => intW u fun d0 => tupW w fun ds => intsD ds fun ns => Q (.sh (.int (maxI d0 ns))) Ω
instance r_maxT : SRK K am wMaxT dMaxT := ⟨fun {c T σ Γ Ω H xs zs ws us Q R} e hs hz h k => by
  obtain ⟨w, v, rfl, hw, h_1⟩ := one1W_el h hs
  obtain ⟨u, z, rfl, hu, h_2⟩ := one1W_el h_1 hz
  obtain ⟨d0, rfl, h_3⟩ := intW_el h_2
  obtain ⟨a, vs, ds, rfl, ha, hl, h_4⟩ := tupW_at hw h_3
  obtain ⟨ns, rfl, h_5⟩ := intsD_el h_4
  obtain rfl : z = .int d0 := hu
  show tupO (H a) _
  refine rd_tupO ha ⟨ns, lay_ints hl, fun m h0 h1 => ?_⟩
  rw [maxI_eq h0 h1]
  exact k _ _ _ _ h_5 (e.addv rfl)⟩
/-! isinstance -/
def tnW (Ω : Om) (w : W) (k : String → Prop) : Prop := match w with
  | .sh .non => k "NoneType"
  | .sh (.bl _) => k "bool"
  | .sh (.int _) => k "int"
  | .sh (.str _) => k "str"
  | .sh (.tup _) => k "tuple"
  | .sh (.nt _) => k "tuple"
  | .sh (.lst _) => k "list"
  | .pt p => match look Ω p with
    | some (.lst _) => k "list"
    | some (.dic _ _) => k "dict"
    | _ => False
  | _ => False
def kitR (a b : String) (k : Bool → Prop) : Prop := match kitB a b with | some r => k r | none => False
end
end OA

namespace OA
open PySem PySem.Spec PyProof.Rows L2
/-! defs by data -/
def ExN (E : Addr → Prop) (Ωn : Om) : Addr → Prop := fun b => E b ∨ b ∈ Ωn.map (·.1)
abbrev DSp := List W → DQ → Prop
def spD (K : PySem.W.Frag) (am : Am) (sp : DSp) : Sp := fun vs H Q _ => ∃ (E : Addr → Prop) (ws : List W) (Qd : DQ), (∀ b, E b → EOk H b) ∧ (∀ b, am.M b → E b) ∧ am.I H ∧ VOks K H E ws vs ∧ sp ws Qd ∧
  ∀ v H' w Ωn, Qd w Ωn → VOk K H' (ExN E Ωn) w v → (∀ q ∈ Ωn, ObOk K H' (ExN E Ωn) q.1 q.2) → (∀ p ∈ Ωn.map (·.1), H p = none) → (Ωn.map (·.1)).Nodup → (∀ b o, ¬ am.M b → H b = some o → H' b = some o) → am.I H' → Q v H'
/-- what is told: a shared thing, or an own one given away -/
inductive RtD (Q : DQ) : W → Om → Prop
  | sh {d : D} {Ω : Om} : Q (.sh d) [] → RtD Q (.sh d) Ω
  | own {p : Addr} {Ω : Om} {od : OD} : look Ω p = some od → Q (.pt p) [(p, od)] → RtD Q (.pt p) Ω
  | frz {p : Addr} {d : D} {Ω : Om} : Fz1 Ω p d → Q (.sh d) [] → RtD Q (.pt p) Ω
def startG (n : Nat) (ws : List W) : Gm := ws.map some ++ List.replicate (n - ws.length) none
section
variable {K : PySem.W.Frag} {am : Am}
theorem spD_run [aj : AmJ am] {X : Cx} {body : List Stmt} {ts : TS} {td : DS} {sp : DSp} {vs : List V} {H : Hp} {Q : VK} {E0 : XK} {N : List Str} (h : spD K am sp vs H Q E0) (hP : PSs X body ts) (hs : SS K am ts td)
    (hD : ∀ ws Qd, sp ws Qd → td ⟨fun _ _ => Qd (.sh .non) [], RtD Qd, fun _ _ => False, fun _ _ => False⟩ (startG N.length ws) []) :
    ∃ t, PSs X body t ∧ t { nx := fun _ H' => Q .non H', rt := Q } (start N vs) H := by
  obtain ⟨E, ws, Qd, hE, hM, hI, hv, hsp, k⟩ := h
  let c : Cq am := ⟨E, hM, H, aj.j H⟩
  have ex : Ex c [] = E := by
    funext b
    unfold Ex
    simp [c]
  have e0 : DEnv K c [] (start N vs) (startG N.length ws) [] H := by
    refine ⟨?_, fun i w hw => ?_, fun t ht => by simp at ht, fun q hq => by simp at hq, List.nodup_nil, fun p hp => by simp at hp, hE, fun b o _ hb => hb, hI⟩
    · unfold L2.start startG
      simp [hv.len]
    · rw [ex]
      unfold startG at hw
      rcases Nat.lt_or_ge i ws.length with z | z
      · rw [List.getElem?_append_left (by simpa using z), List.getElem?_map] at hw
        cases q : ws[i]? with
        | none => rw [q] at hw; cases hw
        | some w0 =>
          rw [q] at hw
          cases hw
          obtain ⟨v, h1, h2⟩ := hv.to i q
          refine ⟨v, ?_, h2⟩
          unfold L2.start
          rw [List.getElem?_append_left (by rw [List.length_map, ← hv.len]; exact z), List.getElem?_map, h1]
          rfl
      · rw [List.getElem?_append_right (by simpa using z)] at hw
        rw [List.getElem?_replicate] at hw
        split at hw <;> cases hw
  have fin : ∀ v w H' (Ωn : Om), Qd w Ωn → VOk K H' (ExN E Ωn) w v → (∀ q ∈ Ωn, ObOk K H' (ExN E Ωn) q.1 q.2) → (∀ p ∈ Ωn.map (·.1), H p = none) → (Ωn.map (·.1)).Nodup → (∀ b o, ¬ am.M b → H b = some o → H' b = some o) → am.I H' → Q v H' := fun v w H' Ωn => k v H' w Ωn
  have sub : ∀ {Ω : Om} {H' : Hp} {p : Addr} {od : OD}, look Ω p = some od → ∀ b o, ¬ Ex c Ω b → H' b = some o → ¬ ExN E [(p, od)] b ∧ H' b = some o := fun hl b o n h => ⟨fun z => n (z.elim .inl fun z => .inr (by
    have zz : b = _ := List.mem_singleton.mp z
    rw [zz]
    exact List.mem_map.mpr ⟨_, look_mem hl, rfl⟩)), h⟩
  have sub0 : ∀ {Ω : Om} {H' : Hp}, ∀ b o, ¬ Ex c Ω b → H' b = some o → ¬ ExN E [] b ∧ H' b = some o := fun b o n h => ⟨fun z => n (z.elim .inl fun z => by simp at z), h⟩
  refine ⟨ts, hP, hs.run (c := c) (T := []) e0 (hD ws Qd hsp) ⟨fun σ Γ Ω H' q e => fin .non _ H' [] q rfl (fun q hq => by simp at hq) (fun p hp => by simp at hp) List.nodup_nil e.frm e.inv, fun v w σ Γ Ω H' q e => ?_, fun _ _ _ _ q _ => q, fun _ _ _ _ q _ => q⟩⟩
  cases q with
  | sh q => exact fin v _ H' [] q (e.hd.mono sub0) (fun q hq => by simp at hq) (fun p hp => by simp at hp) List.nodup_nil e.frm e.inv
  | own hl q =>
    rename_i p od
    have hob := e.ob _ (look_mem hl)
    refine fin v _ H' [(p, od)] q e.hd (fun q hq => ?_) (fun p' hp => ?_) (by simp) e.frm e.inv
    · have : q = (p, od) := by simpa using hq
      rw [this]
      exact ObOk.mono (sub hl) (fun _ h => h) hob
    · have : p' = p := by simpa using hp
      rw [this]
      exact (e.fr p (List.mem_map.mpr ⟨_, look_mem hl, rfl⟩)).1
  | frz f q =>
    rename_i p d
    obtain rfl : v = .ref p := e.hd
    have e2 := e.frz f
    have hin : p ∈ Ω.map (·.1) := by cases f with
      | lst h => exact List.mem_map.mpr ⟨_, look_mem h, rfl⟩
      | dic h => exact List.mem_map.mpr ⟨_, look_mem h, rfl⟩
    have lay : Lay K H' (ExN E []) d (.ref p) := by
      have np : ¬ ExN E [] p := fun z => z.elim (e.fr p hin).2 fun z => by simp at z
      cases f with
      | lst h =>
        obtain ⟨vs, h1, h2⟩ := e.ob _ (look_mem h)
        exact ⟨p, vs, rfl, np, h1, (h2.mono sub0).lay⟩
      | dic h =>
        obtain ⟨vs, h1, hn, h2⟩ := e.ob _ (look_mem h)
        exact ⟨p, vs, rfl, np, h1, by rw [List.length_map] at hn; exact hn, (h2.mono sub0).lay⟩
    exact fin _ _ H' [] q lay (fun q hq => by simp at hq) (fun p hp => by simp at hp) List.nodup_nil e.frm e.inv
def notins (Ωn Ω : Om) : Prop := ∀ p ∈ Ωn.map (·.1), p ∉ Ω.map (·.1)
theorem DEnv.call {a : Am} [le : AmLe a am] {c : Cq am} {T : List Tp} {σ : L2.St} {Γ : Gm} {Ω Ωn : Om} {H H' : Hp} {w : W} {v : V} (e : DEnv K c T σ Γ Ω H) (hv : VOk K H' (ExN (Ex c Ω) Ωn) w v) (ho : ∀ q ∈ Ωn, ObOk K H' (ExN (Ex c Ω) Ωn) q.1 q.2)
    (hn : ∀ p ∈ Ωn.map (·.1), H p = none) (nd : (Ωn.map (·.1)).Nodup) (k : ∀ b o, ¬ a.M b → H b = some o → H' b = some o) (i : a.I H') : notins Ωn Ω ∧ DEnv K c (.v w v :: T) σ Γ (Ωn ++ Ω) H' := by
  have hi := le.back H H' e.inv k i
  have kam : ∀ b o, ¬ am.M b → H b = some o → H' b = some o := fun b o n h => k b o (fun m => n (le.M b m)) h
  have e1 := e.step kam hi
  have exe : Ex c (Ωn ++ Ω) = ExN (Ex c Ω) Ωn := by
    funext b
    unfold Ex ExN
    rw [List.map_append]
    simp only [List.mem_append, eq_iff_iff]
    constructor
    · rintro (h | h | h)
      · exact .inl (.inl h)
      · exact .inr h
      · exact .inl (.inr h)
    · rintro ((h | h) | h)
      · exact .inl h
      · exact .inr (.inr h)
      · exact .inr (.inl h)
  have ni : notins Ωn Ω := fun p hp z => e.noEx (hn p hp) (.inr z)
  have kx : ∀ b o, ¬ Ex c Ω b → H b = some o → ¬ Ex c (Ωn ++ Ω) b ∧ H' b = some o := fun b o n h => by
    refine ⟨fun z => ?_, kam b o (fun m => n (.inl (c.ME b m))) h⟩
    rw [exe] at z
    rcases z with z | z
    · exact n z
    · rw [hn b z] at h
      cases h
  refine ⟨ni, ⟨e.len, fun j w h => ?_, fun t ht => ?_, fun q hq => ?_, ?_, fun p hp => ?_, e1.el, e1.frm, e1.inv⟩⟩
  · obtain ⟨v, h1, h2⟩ := e.sl j w h
    exact ⟨v, h1, h2.mono kx⟩
  · rcases List.mem_cons.mp ht with rfl | ht
    · show VOk K H' _ w v
      rw [exe]
      exact hv
    · exact (e.tm t ht).mono kx
  · rcases List.mem_append.mp hq with hq | hq
    · rw [exe]
      exact ho q hq
    · refine (e.ob q hq).mono kx fun o h => kam _ _ (fun m => ?_) h
      exact (e.fr q.1 (List.mem_map.mpr ⟨q, hq, rfl⟩)).2 (c.ME _ m)
  · rw [List.map_append, List.nodup_append]
    exact ⟨nd, e.nd, fun a ha b hb z => ni a ha (by rw [z]; exact hb)⟩
  · rw [List.map_append] at hp
    rcases List.mem_append.mp hp with hp | hp
    · exact ⟨e.new (hn p hp), fun z => (e.el p z).some (hn p hp)⟩
    · exact e.fr p hp
def dFn (sp : DSp) (das : DA) (Γ : Gm) (Ω : Om) (Q : DQ) : Prop := das Γ Ω fun ws Ω1 => sp ws fun w Ωn => notins Ωn Ω1 → Q w (Ωn ++ Ω1)
theorem call_run {a : Am} [le : AmLe a am] {sp : DSp} {E0 : XK} {c : Cq am} {T : List Tp} {σ : L2.St} {Γ : Gm} {Ω : Om} {H : Hp} {vs : List V} {ws : List W} {Q : DQ} {R : VK} (e1 : DEnv K c T σ Γ Ω H) (hv : VOks K H (Ex c Ω) ws vs)
    (h : sp ws fun w Ωn => notins Ωn Ω → Q w (Ωn ++ Ω)) (k : ∀ v w Ω' H', Q w Ω' → DEnv K c (.v w v :: T) σ Γ Ω' H' → R v H') : spD K a sp vs H R E0 := by
  refine ⟨Ex c Ω, ws, _, fun b hb => e1.eok hb, fun b m => .inl (c.ME b (le.M b m)), le.I _ e1.inv, hv, h, fun v H' w Ωn q hw ho hn nd kk i => ?_⟩
  obtain ⟨ni, e2⟩ := e1.call (a := a) hw ho hn nd kk i
  exact k v w _ H' (q ni) e2
instance s_call {a : Am} {sp : DSp} {E0 : XK} {tas : TA} {das : DA} [le : AmLe a am] [s1 : SA K am tas das] : SE K am (vCall (spD K a sp) E0 tas) (dFn sp das) := ⟨fun {c T σ Γ Ω H Q R} e h k =>
  s1.run e h fun vs ws Ω1 H1 h1 e1 hv => call_run e1 hv h1 k⟩
/-! what is walked -/
def dList (da : DT) (Γ : Gm) (Ω : Om) (Q : List W → Om → Prop) : Prop := da Γ Ω fun w Ω1 => shW w fun x => match x with | .lst ds => Q (ds.map .sh) Ω1 | _ => False
def dTupI (da : DT) (Γ : Gm) (Ω : Om) (Q : List W → Om → Prop) : Prop := da Γ Ω fun w Ω1 => tupW w fun ds => Q (ds.map .sh) Ω1
instance i_list {tl : TE} {da : DT} [s1 : SE K am tl da] : SI K am (viList K tl) (dList da) := ⟨fun {c T σ Γ Ω H Q R} e h k =>
  s1.run e h fun x wx Ω1 H1 h1 e1 => by
    obtain ⟨d, rfl, h2⟩ := shW_el h1
    cases d with
    | lst ds =>
      obtain ⟨a, vs, rfl, n, ha, hl⟩ := e1.hd
      show lstO (H1 a) _
      rw [ha]
      have hx : VOk K H1 (Ex c Ω1) (.sh (.lst ds)) (.ref a) := ⟨a, vs, rfl, n, ha, hl⟩
      have hlen : (ds.map W.sh).length = vs.length := by rw [List.length_map]; exact hl.len
      refine k (Itl K a) H1 (ds.map .sh) Ω1 [.pin a (.lst vs), .v (.sh (.lst ds)) (.ref a)] _ _ h2 (e1.add (t := .pin a (.lst vs)) ⟨(fun u z => by cases z), n, ha⟩) (by rw [hlen]; exact walk_list) (fun σ Γ Ω H e => SqL.of (e.tm (.pin a (.lst vs)) (by simp)).2.2) fun S i x σ Γ Ω H H' hi e y => ?_
      obtain ⟨rfl, hx⟩ := y
      have hp := (e.tm (.pin a (.lst vs)) (by simp)).2.2
      obtain ⟨a', vs', e1, _, ha', hl'⟩ := (e.tm (.v (.sh (.lst ds)) (.ref a)) (by simp))
      cases e1
      rw [hp] at ha'
      cases ha'
      obtain ⟨w, h1, h2⟩ := (VOks.sh_of hl').at i hx
      exact ⟨w, h1, e.addv h2⟩
    | _ => exact (show False from h2).elim⟩
instance i_tup {tl : TE} {da : DT} [s1 : SE K am tl da] : SI K am (viTup K tl) (dTupI da) := ⟨fun {c T σ Γ Ω H Q R} e h k =>
  s1.run e h fun x wx Ω1 H1 h1 e1 => by
    unfold tupW at h1
    split at h1
    · rename_i ds
      have h2 := h1
      obtain ⟨a, vs, rfl, n, ha, hl⟩ := e1.hd
      show tupO (H1 a) _
      refine rd_tupO (.inl ha) ?_
      have hx : VOk K H1 (Ex c Ω1) (.sh (.tup ds)) (.ref a) := ⟨a, vs, rfl, n, ha, hl⟩
      have hlen : (ds.map W.sh).length = vs.length := by rw [List.length_map]; exact hl.len
      refine k (Itt K a) H1 (ds.map .sh) Ω1 [.pin a (.tup vs), .v (.sh (.tup ds)) (.ref a)] _ _ h2 (e1.add (t := .pin a (.tup vs)) ⟨(fun u z => by cases z), n, ha⟩) (by rw [hlen]; exact walk_tup) (fun σ Γ Ω H e => SqT.of (e.tm (.pin a (.tup vs)) (by simp)).2.2) fun S i x σ Γ Ω H H' hi e y => ?_
      obtain ⟨rfl, hx⟩ := y
      have hp := (e.tm (.pin a (.tup vs)) (by simp)).2.2
      obtain ⟨a', vs', e1, _, ha', hl'⟩ := (e.tm (.v (.sh (.tup ds)) (.ref a)) (by simp))
      cases e1
      rw [hp] at ha'
      cases ha'
      obtain ⟨w, h1, h2⟩ := (VOks.sh_of hl').at i hx
      exact ⟨w, h1, e.addv h2⟩
    · rename_i ns
      have h2 := h1
      obtain ⟨a, ob, rfl, n, ha, hd⟩ := e1.hd
      show tupO (H1 a) _
      refine rd_tupO (.inr ⟨ob, ha⟩) ?_
      have hlen : ((ns.map D.int).map W.sh).length = (ns.map V.int).length := by rw [List.length_map, List.length_map, List.length_map]
      refine k (Itt K a) H1 ((ns.map D.int).map .sh) Ω1 [.pin a (.frz ob (.tup (ns.map V.int))), .v (.sh (.nt ns)) (.ref a)] _ _ h2 (e1.add (t := .pin a (.frz ob (.tup (ns.map V.int)))) ⟨(fun u z => by cases z), n, ha⟩) (by rw [hlen]; exact walk_tup) (fun σ Γ Ω H e => (show SqT K H a (ns.map V.int) from .inl (.inr ⟨ob, (e.tm (.pin a (.frz ob (.tup (ns.map V.int)))) (by simp)).2.2⟩))) fun S i x σ Γ Ω H H' hi e y => ?_
      obtain ⟨rfl, hx⟩ := y
      obtain ⟨w, h1, h2⟩ := (VOks.sh_of (nt_lay (K := K) (H := H') (E := Ex c Ω) ns)).at i hx
      exact ⟨w, h1, e.addv h2⟩
    · exact h1.elim⟩
def dStrI (da : DT) (Γ : Gm) (Ω : Om) (Q : List W → Om → Prop) : Prop := da Γ Ω fun w Ω1 => strW w fun z => Q (z.cps.toList.map fun c => .sh (.str ⟨#[c]⟩)) Ω1
instance i_str {tl : TE} {da : DT} [s1 : SE K am tl da] : SI K am (viStr tl) (dStrI da) := ⟨fun {c T σ Γ Ω H Q R} e h k =>
  s1.run e h fun x wx Ω1 H1 h1 e1 => by
    obtain ⟨z, rfl, h2⟩ := strW_el h1
    obtain rfl : x = .str z := e1.hd
    have hlen : (z.cps.toList.map fun c => W.sh (.str ⟨#[c]⟩)).length = z.cps.size := by rw [List.length_map, Array.length_toList]
    refine k (Its z) H1 _ Ω1 [] _ _ h2 e1.drop (by rw [hlen]; exact walk_str) (fun _ _ _ _ _ => True.intro) fun S i x σ Γ Ω H H' hi e y => ?_
    obtain ⟨rfl, ch, hc, rfl⟩ := y
    have hc' : z.cps.toList[i]? = some ch := by rw [Array.getElem?_toList]; exact hc
    exact ⟨.sh (.str ⟨#[ch]⟩), by rw [List.getElem?_map, hc']; rfl, e.addv rfl⟩⟩
def natsW (n : Nat) : List W := (List.range n).map fun i => W.sh (.int (i : Nat))
def dR1 (das : DA) (Γ : Gm) (Ω : Om) (Q : List W → Om → Prop) : Prop := das Γ Ω fun ws Ω1 => one1W ws fun w => intW w fun j => (-(2 ^ 62) ≤ j ∧ j < 2 ^ 62) ∧ Q (natsW j.toNat) Ω1
instance i_r1 {ta : TA} {das : DA} [s1 : SA K am ta das] : SI K am (viR1 ta) (dR1 das) := ⟨fun {c T σ Γ Ω H Q R} e h k =>
  s1.run e h fun vs ws Ω1 H1 h1 e1 hv => by
    obtain ⟨w, v, rfl, hw, h2⟩ := one1W_el h1 hv
    obtain ⟨j, rfl, hj, h3⟩ := intW_el h2
    obtain rfl : v = .int j := hw
    have hlen : (natsW j.toNat).length = j.toNat := by unfold natsW; rw [List.length_map, List.length_range]
    refine ⟨hj, k (Itr 0 j.toNat) H1 _ Ω1 [] _ _ h3 e1 (by rw [hlen]; exact walk_range) (fun _ _ _ _ _ => True.intro) fun S i x σ Γ Ω H H' hi e y => ?_⟩
    obtain ⟨rfl, rfl⟩ := y
    rw [hlen] at hi
    refine ⟨.sh (.int (i : Nat)), by unfold natsW; rw [List.getElem?_map, List.getElem?_range hi]; rfl, e.addv ?_⟩
    show V.int (0 + (i : Nat)) = _
    rw [Int.zero_add]⟩
def dEnum (das : DA) (Γ : Gm) (Ω : Om) (Q : List W → Om → Prop) : Prop := das Γ Ω fun ws Ω1 => one1W ws fun w => shW w fun x => match x with | .lst ds => Q (ds.mapIdx fun i d => .sh (.tup [.int (i : Nat), d])) Ω1 | _ => False
instance i_enum {ta : TA} {das : DA} [s1 : SA K am ta das] : SI K am (viEnum K ta) (dEnum das) := ⟨fun {c T σ Γ Ω H Q R} e h k =>
  s1.run e h fun vs ws Ω1 H1 h1 e1 hv => by
    obtain ⟨w, v, rfl, hw, h2⟩ := one1W_el h1 hv
    obtain ⟨d, rfl, h3⟩ := shW_el h2
    cases d with
    | lst ds =>
      obtain ⟨a, vs, rfl, n, ha, hl⟩ := hw
      show lstO (H1 a) _
      rw [ha]
      have hx : VOk K H1 (Ex c Ω1) (.sh (.lst ds)) (.ref a) := ⟨a, vs, rfl, n, ha, hl⟩
      have hlen : (ds.mapIdx fun i d => W.sh (.tup [.int (i : Nat), d])).length = vs.length := by rw [List.length_mapIdx]; exact hl.len
      refine k (Ite K a) H1 _ Ω1 [.pin a (.lst vs), .v (.sh (.lst ds)) (.ref a)] _ _ h3 ((e1.addv hx).add (t := .pin a (.lst vs)) ⟨(fun u z => by cases z), n, ha⟩) (by rw [hlen]; exact walk_enum) (fun σ Γ Ω H e => SqL.of (e.tm (.pin a (.lst vs)) (by simp)).2.2) fun S i x σ Γ Ω H H' hi e y => ?_
      obtain ⟨T0, x1, x2, rfl, hT, rfl, e1, e2⟩ := y
      cases e1
      have e2 : vs[i]? = some x2 := e2
      have hp := (e.tm (.pin a (.lst vs)) (by simp)).2.2
      obtain ⟨a', vs', e3, _, ha', hl'⟩ := (e.tm (.v (.sh (.lst ds)) (.ref a)) (by simp))
      cases e3
      rw [hp] at ha'
      cases ha'
      obtain ⟨w, g1, g2⟩ := (VOks.sh_of hl').at i e2
      rw [List.getElem?_map] at g1
      cases q : ds[i]? with
      | none => rw [q] at g1; cases g1
      | some d =>
        rw [q] at g1
        cases g1
        refine ⟨.sh (.tup [.int (i : Nat), d]), by rw [List.getElem?_mapIdx, q]; rfl, e.tup hT ⟨_, _, rfl, rfl, _, _, rfl, g2, rfl⟩⟩
    | _ => exact (show False from h3).elim⟩
end
end OA

namespace OA
open PySem PySem.Spec PyProof.Rows L2
section
variable {K : PySem.W.Frag} {am : Am}
/-! two clauses -/
def dLc2P (ws : List W) (g : DG) (dq : DB) (di1 : DI) (g1 : DG) (dq1 : DB) (de : DT) (vs vs1 : List Nat) (Γ : Gm) (Ω1 : Om) (Pv : Nat → List W → Prop) : Prop :=
  Pv 0 [] ∧ ∀ i w acc p, ws[i]? = some w → Pv i acc → notin p Ω1 → g w (wipeG Γ vs) ((p, .lst acc) :: Ω1) fun Γ2 Ω2 => Ω2 = (p, .lst acc) :: Ω1 ∧ dq Γ2 ((p, .lst acc) :: Ω1) fun b Ω3 => Ω3 = (p, .lst acc) :: Ω1 ∧
    if b = true then di1 Γ2 ((p, .lst acc) :: Ω1) fun us Ω4 => Ω4 = (p, .lst acc) :: Ω1 ∧ ∃ Pw : Nat → List W → Prop, Pw 0 acc ∧
      (∀ j u acc', us[j]? = some u → Pw j acc' → g1 u (wipeG Γ2 vs1) ((p, .lst acc') :: Ω1) fun Γ3 Ω5 => Ω5 = (p, .lst acc') :: Ω1 ∧ dq1 Γ3 ((p, .lst acc') :: Ω1) fun b Ω6 => Ω6 = (p, .lst acc') :: Ω1 ∧
        if b = true then de Γ3 ((p, .lst acc') :: Ω1) fun y Ω7 => Ω7 = (p, .lst acc') :: Ω1 ∧ lenLt acc' ∧ Pw (j + 1) (acc' ++ [y]) else Pw (j + 1) acc') ∧ ∀ acc', Pw us.length acc' → Pv (i + 1) acc'
    else Pv (i + 1) acc
def dLc2 (ix ix1 : List Nat) (di : DI) (g : DG) (dq : DB) (di1 : DI) (g1 : DG) (dq1 : DB) (de : DT) (vs vs1 : List Nat) (Γ : Gm) (Ω : Om) (Q : DQ) : Prop := (∀ i ∈ ix, i ∈ vs) ∧ (∀ i ∈ ix1, i ∈ vs1) ∧ di Γ Ω fun ws Ω1 => ∃ Pv : Nat → List W → Prop, dLc2P ws g dq di1 g1 dq1 de vs vs1 Γ Ω1 Pv ∧ ∀ acc, Pv ws.length acc → shsW acc fun ds => Q (.sh (.lst ds)) Ω1
theorem DEnv.reslot {c : Cq am} {T T' : List Tp} {σ σ' : L2.St} {Γ Γ' : Gm} {Ω Ω' : Om} {H H' : Hp} (a : DEnv K c T σ Γ Ω H) (b : DEnv K c T' σ' Γ' Ω H) : DEnv K c T' σ Γ Ω H := ⟨a.len, a.sl, b.tm, b.ob, b.nd, b.fr, b.el, b.frm, b.inv⟩
instance s_lc2 {wi wi1 : TI} {di di1 : DI} {g g1 : TG} {d d1 : DG} {ix ix1 vs vs1 : List Nat} {tq tq1 : TT} {dq dq1 : DB} {te : TE} {de : DT} [s0 : SI K am wi di] [s1 : SG K am g d ix] [s2 : ST K am tq dq] [s3 : SE K am te de] [s4 : SI K am wi1 di1] [s5 : SG K am g1 d1 ix1] [s6 : ST K am tq1 dq1]
    : SE K am (tLc2 wi g tq wi1 g1 tq1 te vs vs1) (dLc2 ix ix1 di d dq di1 d1 dq1 de vs vs1) := ⟨fun {c T σ Γ Ω H Q R} e ⟨hx, hx1, h⟩ k =>
  s0.run e h fun J H1 ws Ω1 T' G Y ⟨Pv, ⟨p0, ps⟩, hz⟩ e1 hw hG hY => fun D hD => by
    obtain ⟨S, e2, back⟩ := e1.save
    have nD : notin D Ω1 := fun z => e1.noEx hD (.inr z)
    have e3 : DEnv K c (.v (.pt D) (.ref D) :: (S ++ (T' ++ T))) σ Γ ((D, .lst []) :: Ω1) (upd H1 D (.lst [])) := e2.own hD (e2.new hD) (.inl ⟨[], [], rfl, rfl, rfl⟩)
    have to' : ∀ {σ : L2.St} {Γ : Gm} {Ω : Om} {H : Hp}, DEnv K c (.v (.pt D) (.ref D) :: (S ++ (T' ++ T))) σ Γ Ω H → DEnv K c (T' ++ T) σ Γ Ω H := fun e => e.drop.drops
    refine ⟨fun i m H => m = ws.length - i ∧ i ≤ ws.length ∧ ∃ acc σ2 Γ2, Pv i acc ∧ DEnv K c (.v (.pt D) (.ref D) :: (S ++ (T' ++ T))) σ2 Γ2 ((D, .lst acc) :: Ω1) H, ⟨_, rfl, Nat.zero_le _, [], σ, Γ, p0, e3⟩, ?_⟩
    rintro i m H ⟨rfl, hi, acc, σ2, Γ2, p, e⟩
    by_cases hlt : i < ws.length
    · refine .inr ⟨hw.goes i H hlt (hG _ _ _ _ (to' e)), fun H' => ∃ acc σ2 Γ2, Pv (i + 1) acc ∧ DEnv K c (.v (.pt D) (.ref D) :: (S ++ (T' ++ T))) σ2 Γ2 ((D, .lst acc) :: Ω1) H', fun H' ⟨acc, σ2, Γ2, p', e'⟩ => ⟨_, by omega, rfl, hlt, acc, σ2, Γ2, p', e'⟩, fun x H' y => ?_⟩
      have eW : DEnv K c (.v (.pt D) (.ref D) :: (S ++ (T' ++ T))) (L2.wipe σ vs) (wipeG Γ vs) ((D, .lst acc) :: Ω1) H := by
        have b1 := (back e.drop).wipe vs
        exact ⟨b1.len, b1.sl, e.tm, e.ob, e.nd, e.fr, e.el, e.frm, e.inv⟩
      obtain ⟨w, hw', e5⟩ := hY (.v (.pt D) (.ref D) :: S) i x _ _ _ H H' hlt eW (hw.yields i H x H' hlt (hG _ _ _ _ (to' e)) y)
      refine s1.run e5.drop e5.hd (ps i w acc D hw' p nD) fun σ3 Γ3 Ω3 H3 ⟨z3, q3⟩ e6 hwp => ⟨by rw [hwp vs hx, wipe_wipe], ?_⟩
      subst z3
      refine s2.run e6 q3 fun b Ω4 H4 ⟨z4, q4⟩ e7 => ?_
      subst z4
      cases b with
      | false => exact ⟨acc, _, _, q4, e7⟩
      | true =>
        refine s4.run e7 q4 fun J1 H5 us Ω5 T1 G1 Y1 ⟨z5, Pw, pw0, pws, pwe⟩ e8 hw1 hG1 hY1 => ?_
        subst z5
        obtain ⟨S1, e9, back1⟩ := e8.save
        have to1 : ∀ {σ : L2.St} {Γ : Gm} {Ω : Om} {H : Hp}, DEnv K c (S1 ++ (T1 ++ (.v (.pt D) (.ref D) :: (S ++ (T' ++ T))))) σ Γ Ω H → DEnv K c (.v (.pt D) (.ref D) :: (S ++ (T' ++ T))) σ Γ Ω H := fun e => e.drops.drops
        refine ⟨fun j m H => m = us.length - j ∧ j ≤ us.length ∧ ∃ acc' σ2 Γ2, Pw j acc' ∧ DEnv K c (S1 ++ (T1 ++ (.v (.pt D) (.ref D) :: (S ++ (T' ++ T))))) σ2 Γ2 ((D, .lst acc') :: Ω1) H, ⟨_, rfl, Nat.zero_le _, acc, _, _, pw0, e9⟩, ?_⟩
        rintro j m H ⟨rfl, hj, acc', σ4, Γ4, p', e10⟩
        by_cases hjl : j < us.length
        · refine .inr ⟨hw1.goes j H hjl (hG1 _ _ _ _ e10.drops), fun H' => ∃ acc' σ2 Γ2, Pw (j + 1) acc' ∧ DEnv K c (S1 ++ (T1 ++ (.v (.pt D) (.ref D) :: (S ++ (T' ++ T))))) σ2 Γ2 ((D, .lst acc') :: Ω1) H', fun H' ⟨acc, σ2, Γ2, p', e'⟩ => ⟨_, by omega, rfl, hjl, acc, σ2, Γ2, p', e'⟩, fun x1 H6 y1 => ?_⟩
          have eW1 : DEnv K c (S1 ++ (T1 ++ (.v (.pt D) (.ref D) :: (S ++ (T' ++ T))))) (L2.wipe σ3 vs1) (wipeG Γ3 vs1) ((D, .lst acc') :: Ω1) H := by
            have b1 := (back1 e10).wipe vs1
            exact ⟨b1.len, b1.sl, e10.tm, e10.ob, e10.nd, e10.fr, e10.el, e10.frm, e10.inv⟩
          obtain ⟨u, hu', e11⟩ := hY1 S1 j x1 _ _ _ H H6 hjl eW1 (hw1.yields j H x1 H6 hjl (hG1 _ _ _ _ e10.drops) y1)
          refine s5.run e11.drop e11.hd (pws j u acc' hu' p') fun σ5 Γ5 Ω6 H7 ⟨z6, q6⟩ e12 hwp1 => ⟨by rw [hwp1 vs1 hx1, wipe_wipe], ?_⟩
          subst z6
          refine s6.run e12 q6 fun b Ω7 H8 ⟨z7, q7⟩ e13 => ?_
          subst z7
          cases b with
          | false => exact ⟨acc', _, _, q7, e13⟩
          | true =>
            refine s3.run e13 q7 fun y wy Ω8 H9 ⟨z8, hl, p''⟩ e14 => ?_
            subst z8
            obtain ⟨vs', a1, a2⟩ := e14.ob (D, .lst acc') List.mem_cons_self
            have e15 := e14.drop.putL (vs' := vs' ++ [y]) (ws' := acc' ++ [wy]) look_hd (a2.app (.one e14.hd))
            rw [put_hd nD] at e15
            exact ⟨vs', a1, by rw [← a2.len]; exact hl, acc' ++ [wy], _, _, p'', e15⟩
        · have ej : j = us.length := by omega
          subst ej
          exact .inl ⟨hw1.stops H (hG1 _ _ _ _ e10.drops), acc', _, _, pwe acc' p', to1 e10⟩
    · have ei : i = ws.length := by omega
      subst ei
      have b1 := back e.drop
      obtain ⟨ds, rfl, h2⟩ := shsW_el (hz acc p)
      have e' : DEnv K c T σ Γ ((D, .lst (ds.map .sh)) :: Ω1) H := ⟨b1.len, b1.sl, b1.drops.tm, b1.ob, b1.nd, b1.fr, b1.el, b1.frm, b1.inv⟩
      exact .inl ⟨hw.stops H (hG _ _ _ _ (to' e)), k _ _ _ _ h2 (e'.unown nD)⟩⟩
def dTAnd (dt du : DB) (Γ : Gm) (Ω : Om) (Q : Bool → Om → Prop) : Prop := dt Γ Ω fun c Ω1 => if c = true then du Γ Ω1 Q else Q false Ω1
instance s_tand {t u : TT} {dt du : DB} [s1 : ST K am t dt] [s2 : ST K am u du] : ST K am (tAnd t u) (dTAnd dt du) := ⟨fun {c T σ Γ Ω H Q R} e h k =>
  s1.run e h fun b Ω1 H1 h1 e1 => by
    show if b = true then _ else _
    cases b with
    | true => exact s2.run e1 h1 k
    | false => exact k _ _ _ h1 e1⟩
def dTOr (dt du : DB) (Γ : Gm) (Ω : Om) (Q : Bool → Om → Prop) : Prop := dt Γ Ω fun c Ω1 => if c = true then Q true Ω1 else du Γ Ω1 Q
instance s_tor {t u : TT} {dt du : DB} [s1 : ST K am t dt] [s2 : ST K am u du] : ST K am (tOr t u) (dTOr dt du) := ⟨fun {c T σ Γ Ω H Q R} e h k =>
  s1.run e h fun b Ω1 H1 h1 e1 => by
    show if b = true then _ else _
    cases b with
    | false => exact s2.run e1 h1 k
    | true => exact k _ _ _ h1 e1⟩
def dTNot (dt : DB) (Γ : Gm) (Ω : Om) (Q : Bool → Om → Prop) : Prop := dt Γ Ω fun c Ω1 => Q (!c) Ω1
instance s_tnot {t : TT} {dt : DB} [s1 : ST K am t dt] : ST K am (tNot t) (dTNot dt) := ⟨fun {c T σ Γ Ω H Q R} e h k =>
  s1.run e h fun b Ω1 H1 h1 e1 => k _ _ _ h1 e1⟩
/-! list.extend -/
def wExtend : V → List V → Hp → VK → Prop := fun x vs H Q => refR x fun l => lstO (H l) fun xs => one1 vs fun y => refR y fun b => lstO (H b) fun zs => xs.length + zs.length ≤ sizeLine ∧ Q .non (upd H l (.lst (xs ++ zs)))
theorem m_extend {X : Cx} : MtR X "list.extend" wExtend := im_mt (r := rExtend) mt_extend fun x vs H Q z => by
  obtain ⟨l, e1, z1⟩ := refR_el z
  obtain ⟨xs, e2, z2⟩ := lstO_el z1
  obtain ⟨y, e3, z3⟩ := one1_el z2
  obtain ⟨b, e4, z4⟩ := refR_el z3
  obtain ⟨zs, e5, z5, z6⟩ := lstO_el z4
  exact ⟨l, b, xs, zs, e1, by rw [e3, e4], e2, e5, z5, z6⟩
def dExtend (w : W) (ws : List W) (Ω : Om) (Q : DQ) : Prop := ownL Ω w fun p xs => one1W ws fun y => seqW Ω y fun us => lenOk (xs ++ us) ∧ Q (.sh .non) (OA.put Ω p (.lst (xs ++ us)))
instance r_extend : SRM K am wExtend dExtend := ⟨fun {c T σ Γ Ω H x w xs ws Q R} e hx hs h k => by
  obtain ⟨a, vs, us, rfl, hl, ha, hv, h1⟩ := ownL_el e hx h
  obtain ⟨y, v, rfl, hy, h2⟩ := one1W_el h1 hs
  obtain ⟨b, ts, us', rfl, hb, ht, h3⟩ := seqW_el e hy h2
  show lstO (H a) _
  rw [ha]
  show lstO (H b) _
  rw [hb]
  refine ⟨?_, k _ _ _ _ h3.2 ((e.putL hl (hv.app ht)).addv rfl)⟩
  rw [← hv.len, ← ht.len, ← List.length_append]
  exact h3.1⟩
def dPop (w : W) (ws : List W) (Ω : Om) (Q : DQ) : Prop := ownL Ω w fun p xs => ws = [] ∧ match xs[xs.length - 1]? with | some u => Q u (OA.put Ω p (.lst xs.dropLast)) | none => False
/-! range(a, b) -/
def viR2 (ta : TA) : TI := fun σ H R => ta σ H fun vs H1 => two2 vs fun x y => intR x fun i => intR y fun j => (-(2 ^ 62) ≤ i ∧ i < 2 ^ 62 ∧ -(2 ^ 62) ≤ j ∧ j < 2 ^ 62) ∧ R (Itr i (j - i).toNat) H1
theorem up_rng2 {tg a b : Expr} {ta : TA} {p pos : Pos} {X : Cx} (hg : Gl X "range") (hm : X.mg "range" = none) (ha : PA X [a, b] ta) (hs : starEach [a, b] X.env = [(false, eval a X.env), (false, eval b X.env)] := by rfl) (hs2 : starEach [b] X.env = [(false, eval b X.env)] := by rfl) :
    PI X tg (.Call (.Name "range" p) [a, b] [] pos) (viR2 ta) := im_pi (pi_range2 hg hm (up_pa ha) hs hs2) fun σ H R h => ⟨_, h, fun vs H1 z => by
  obtain ⟨x, y, e, z1⟩ := two2_el z
  obtain ⟨i, e1, z2⟩ := intR_el z1
  obtain ⟨j, e2, z3⟩ := intR_el z2
  exact ⟨i, j, by rw [e, e1, e2], z3.1, z3.2⟩⟩
def intsFrom (i : Int) (n : Nat) : List W := (List.range n).map fun (k : Nat) => W.sh (.int (i + k))
def dR2 (das : DA) (Γ : Gm) (Ω : Om) (Q : List W → Om → Prop) : Prop := das Γ Ω fun ws Ω1 => two2W ws fun x y => intW x fun i => intW y fun j => (-(2 ^ 62) ≤ i ∧ i < 2 ^ 62 ∧ -(2 ^ 62) ≤ j ∧ j < 2 ^ 62) ∧ Q (intsFrom i (j - i).toNat) Ω1
instance i_r2 {ta : TA} {das : DA} [s1 : SA K am ta das] : SI K am (viR2 ta) (dR2 das) := ⟨fun {c T σ Γ Ω H Q R} e h k =>
  s1.run e h fun vs ws Ω1 H1 h1 e1 hv => by
    obtain ⟨w, v, w2, v2, rfl, hw, hw2, h2⟩ := two2W_el h1 hv
    obtain ⟨i, rfl, h3⟩ := intW_el h2
    obtain ⟨j, rfl, hj, h4⟩ := intW_el h3
    obtain rfl : v = .int i := hw
    obtain rfl : v2 = .int j := hw2
    have hlen : (intsFrom i (j - i).toNat).length = (j - i).toNat := by unfold intsFrom; rw [List.length_map, List.length_range]
    refine ⟨hj, k (Itr i (j - i).toNat) H1 _ Ω1 [] _ _ h4 e1 (by rw [hlen]; exact walk_range) (fun _ _ _ _ _ => True.intro) fun S n x σ Γ Ω H H' hi e y => ?_⟩
    obtain ⟨rfl, rfl⟩ := y
    rw [hlen] at hi
    exact ⟨.sh (.int (i + n)), by unfold intsFrom; rw [List.getElem?_map, List.getElem?_range hi]; rfl, e.addv rfl⟩⟩
/-! dict comprehensions -/
def dDcP (ws : List W) (g : DG) (dq : DB) (dk dv : DT) (vs : List Nat) (Γ : Gm) (Ω1 : Om) (Pv : Nat → List Key → List W → Prop) : Prop :=
  Pv 0 [] [] ∧ ∀ i w ks us p, ws[i]? = some w → Pv i ks us → notin p Ω1 → g w (wipeG Γ vs) ((p, .dic ks us) :: Ω1) fun Γ2 Ω2 => Ω2 = (p, .dic ks us) :: Ω1 ∧ dq Γ2 ((p, .dic ks us) :: Ω1) fun b Ω3 => Ω3 = (p, .dic ks us) :: Ω1 ∧
    if b = true then dk Γ2 ((p, .dic ks us) :: Ω1) fun y Ω4 => Ω4 = (p, .dic ks us) :: Ω1 ∧ dv Γ2 ((p, .dic ks us) :: Ω1) fun z Ω5 => Ω5 = (p, .dic ks us) :: Ω1 ∧ lenLt ks ∧ keyW y fun q => Pv (i + 1) (putA ks us q z).1 (putA ks us q z).2 else Pv (i + 1) ks us
def dDc (ix : List Nat) (di : DI) (g : DG) (dq : DB) (dk dv : DT) (vs : List Nat) (Γ : Gm) (Ω : Om) (Q : DQ) : Prop := (∀ i ∈ ix, i ∈ vs) ∧ di Γ Ω fun ws Ω1 => ∃ Pv : Nat → List Key → List W → Prop, dDcP ws g dq dk dv vs Γ Ω1 Pv ∧ ∀ ks us, Pv ws.length ks us → shsW us fun ds => Q (.sh (.dic ks ds)) Ω1
theorem DEnv.unownD {c : Cq am} {T : List Tp} {σ : L2.St} {Γ : Gm} {Ω : Om} {H : Hp} {p : Addr} {ks : List Key} {ds : List D} (e : DEnv K c T σ Γ ((p, .dic ks (ds.map .sh)) :: Ω) H) (n : notin p Ω) : DEnv K c (.v (.sh (.dic ks ds)) (.ref p) :: T) σ Γ Ω H := by
  have kx : ∀ b o, ¬ Ex c ((p, .dic ks (ds.map .sh)) :: Ω) b → H b = some o → ¬ Ex c Ω b ∧ H b = some o := fun b o n h => ⟨fun z => n (z.elim .inl fun z => .inr (List.mem_cons_of_mem _ z)), h⟩
  obtain ⟨vs, a1, an, a2⟩ := e.ob _ List.mem_cons_self
  have np : ¬ Ex c Ω p := fun z => z.elim (e.fr p List.mem_cons_self).2 n
  refine ⟨e.len, fun j w h => ?_, fun t ht => ?_, fun q hq => (e.ob q (List.mem_cons_of_mem _ hq)).mono kx fun _ h => h, (List.nodup_cons.mp e.nd).2, fun q hq => e.fr q (List.mem_cons_of_mem _ hq), e.el, e.frm, e.inv⟩
  · obtain ⟨v, h1, h2⟩ := e.sl j w h
    exact ⟨v, h1, h2.mono kx⟩
  · rcases List.mem_cons.mp ht with rfl | ht
    · exact ⟨p, vs, rfl, np, a1, by rw [List.length_map] at an; exact an, (a2.mono kx).lay⟩
    · exact (e.tm t ht).mono kx
instance s_dc {wi : TI} {di : DI} {g : TG} {d : DG} {ix vs : List Nat} {tq : TT} {dq : DB} {tk tv : TE} {dk dv : DT} [s0 : SI K am wi di] [s1 : SG K am g d ix] [s2 : ST K am tq dq] [s3 : SE K am tk dk] [s4 : SE K am tv dv] : SE K am (vDc wi g tq tk tv vs) (dDc ix di d dq dk dv vs) := ⟨fun {c T σ Γ Ω H Q R} e ⟨hx, h⟩ k =>
  s0.run e h fun J H1 ws Ω1 T' G Y ⟨Pv, ⟨p0, ps⟩, hz⟩ e1 hw hG hY => fun D hD => by
    obtain ⟨S, e2, back⟩ := e1.save
    have nD : notin D Ω1 := fun z => e1.noEx hD (.inr z)
    have e3 : DEnv K c (.v (.pt D) (.ref D) :: (S ++ (T' ++ T))) σ Γ ((D, .dic [] []) :: Ω1) (upd H1 D (.dK [])) := e2.own hD (e2.new hD) (.inr ⟨[], [], [], rfl, rfl, rfl, rfl⟩)
    have to' : ∀ {σ : L2.St} {Γ : Gm} {Ω : Om} {H : Hp}, DEnv K c (.v (.pt D) (.ref D) :: (S ++ (T' ++ T))) σ Γ Ω H → DEnv K c (T' ++ T) σ Γ Ω H := fun e => e.drop.drops
    refine ⟨ws.length, G, Y, fun i H => ∃ ks us σ2 Γ2, Pv i ks us ∧ DEnv K c (.v (.pt D) (.ref D) :: (S ++ (T' ++ T))) σ2 Γ2 ((D, .dic ks us) :: Ω1) H, hw, ⟨[], [], σ, Γ, p0, e3⟩, fun i H _ ⟨ks, us, σ2, Γ2, _, e⟩ => hG _ _ _ _ (to' e), fun i x H H' hi ⟨ks, us, σ2, Γ2, p, e⟩ y => ?_, fun H ⟨ks, us, σ2, Γ2, p, e⟩ => ?_⟩
    · have eW : DEnv K c (.v (.pt D) (.ref D) :: (S ++ (T' ++ T))) (L2.wipe σ vs) (wipeG Γ vs) ((D, .dic ks us) :: Ω1) H := by
        have b1 := (back e.drop).wipe vs
        exact ⟨b1.len, b1.sl, e.tm, e.ob, e.nd, e.fr, e.el, e.frm, e.inv⟩
      obtain ⟨w, hw', e5⟩ := hY (.v (.pt D) (.ref D) :: S) i x _ _ _ H H' hi eW y
      refine s1.run e5.drop e5.hd (ps i w ks us D hw' p nD) fun σ3 Γ3 Ω3 H3 ⟨z3, q3⟩ e6 hwp => ⟨by rw [hwp vs hx, wipe_wipe], ?_⟩
      subst z3
      refine s2.run e6 q3 fun b Ω4 H4 ⟨z4, q4⟩ e7 => ?_
      subst z4
      cases b with
      | false => exact ⟨ks, us, _, _, q4, e7⟩
      | true =>
        refine s3.run e7 q4 fun y wy Ω5 H5 ⟨z5, q5⟩ e8 => ?_
        subst z5
        refine s4.run e8 q5 fun z wz Ω6 H6 ⟨z6, hl, q6⟩ e9 => ?_
        subst z6
        obtain ⟨q, rfl, p'⟩ := keyW_el q6 e9.drop.hd
        obtain ⟨vs', a1, an, a2⟩ := e9.ob (D, .dic ks us) List.mem_cons_self
        obtain ⟨vs2, g1, g2, g3⟩ := putA_ok q an a2 e9.hd
        refine keyR_k (k := fun k => dkO (H6 D) fun kvs => kvs.length < sizeLine ∧ ∃ ks us σ2 Γ2, Pv (i + 1) ks us ∧ DEnv K c (.v (.pt D) (.ref D) :: (S ++ (T' ++ T))) σ2 Γ2 ((D, .dic ks us) :: Ω1) (upd H6 D (.dK (putK kvs k z)))) q ?_
        rw [a1]
        have e10 := e9.drop.drop.putD (look_hd (od := .dic ks us)) g1 g2 g3
        rw [put_hd nD] at e10
        refine ⟨?_, _, _, _, _, p', e10⟩
        rw [List.length_zip, ← a2.len, an, Nat.min_self, ← an]
        exact hl
    · have b1 := back e.drop
      obtain ⟨ds, rfl, h2⟩ := shsW_el (hz ks us p)
      have e' : DEnv K c T σ Γ ((D, .dic ks (ds.map .sh)) :: Ω1) H := ⟨b1.len, b1.sl, b1.drops.tm, b1.ob, b1.nd, b1.fr, b1.el, b1.frm, b1.inv⟩
      exact k _ _ _ _ h2 (e'.unownD nD)⟩
end
/-! what evaluates -/
section
variable {Ω : Om} {k : W → Prop}
theorem varR_e {w : W} : varR (some (some w)) k = k w := rfl
theorem intW_e {i : Int} {k : Int → Prop} : intW (.sh (.int i)) k = k i := rfl
theorem blW_e {i : Bool} {k : Bool → Prop} : blW (.sh (.bl i)) k = k i := rfl
theorem strW_e {i : Str} {k : Str → Prop} : strW (.sh (.str i)) k = k i := rfl
theorem shW_e {i : D} {k : D → Prop} : shW (.sh i) k = k i := rfl
theorem tyW_e {i : String} {k : String → Prop} : tyW (.ty i) k = k i := rfl
theorem tupW_n {ns : List Int} {k : List D → Prop} : tupW (.sh (.nt ns)) k = k (ns.map .int) := rfl
theorem tup0W_e {i : List D} {k : List D → Prop} : tup0W (.sh (.tup i)) k = k i := rfl
theorem tupW_e {i : List D} {k : List D → Prop} : tupW (.sh (.tup i)) k = k i := rfl
def lookL (o : Option OD) (k : List W → Prop) : Prop := match o with | some (.lst ws) => k ws | _ => False
def lookD (o : Option OD) (k : List Key → List W → Prop) : Prop := match o with | some (.dic ks ws) => k ks ws | _ => False
def lookR (o : Option OD) (k : List Key → List W → Prop) : Prop := match o with | some (.dic ks ws) => k ks ws | some (.lk _ _ ks ws) => k ks ws | _ => False
theorem lookR_e {ks : List Key} {ws : List W} {k : List Key → List W → Prop} : lookR (some (.dic ks ws)) k = k ks ws := rfl
theorem lookR_l {o : Obj} {kvs : List (Key × V)} {ks : List Key} {ws : List W} {k : List Key → List W → Prop} : lookR (some (.lk o kvs ks ws)) k = k ks ws := rfl
theorem lookL_e {ws : List W} {k : List W → Prop} : lookL (some (.lst ws)) k = k ws := rfl
theorem lookD_e {ks : List Key} {ws : List W} {k : List Key → List W → Prop} : lookD (some (.dic ks ws)) k = k ks ws := rfl
theorem seqW_e {xs : List D} {k : List W → Prop} : seqW Ω (.sh (.lst xs)) k = k (xs.map .sh) := rfl
theorem seqW_p {p : Addr} {k : List W → Prop} : seqW Ω (.pt p) k = lookL (look Ω p) k := rfl
theorem dicW_e {ks : List Key} {xs : List D} {k : List Key → List W → Prop} : dicW Ω (.sh (.dic ks xs)) k = k ks (xs.map .sh) := rfl
theorem dicW_p {p : Addr} {k : List Key → List W → Prop} : dicW Ω (.pt p) k = lookR (look Ω p) k := rfl
theorem ownL_p {p : Addr} {k : Addr → List W → Prop} : ownL Ω (.pt p) k = lookL (look Ω p) (k p) := rfl
theorem ownD_p {p : Addr} {k : Addr → List Key → List W → Prop} : ownD Ω (.pt p) k = lookD (look Ω p) (k p) := rfl
theorem keyW_i {i : Int} {k : Key → Prop} : keyW (.sh (.int i)) k = k (.inl i) := rfl
theorem keyW_s {i : Str} {k : Key → Prop} : keyW (.sh (.str i)) k = k (.inr i) := rfl
theorem one1W_e {w : W} {k : W → Prop} : one1W [w] k = k w := rfl
theorem two2W_e {w v : W} {k : W → W → Prop} : two2W [w, v] k = k w v := rfl
theorem shsW_nil {k : List D → Prop} : shsW [] k = k [] := rfl
theorem shsW_cons {x : D} {r : List W} {k : List D → Prop} : shsW (.sh x :: r) k = shsW r fun ds => k (x :: ds) := rfl
theorem shsW_app {xs : List D} {r : List W} {k : List D → Prop} : shsW (xs.map .sh ++ r) k = shsW r fun ds => k (xs ++ ds) := by
  induction xs generalizing k with
  | nil => rfl
  | cons x xs ih => exact ih
theorem intsD_nil {k : List Int → Prop} : intsD [] k = k [] := rfl
theorem intsD_cons {i : Int} {r : List D} {k : List Int → Prop} : intsD (.int i :: r) k = intsD r fun ds => k (i :: ds) := rfl
theorem cWR_n {k : W → Prop} : cWR .non k = k (.sh .non) := rfl
theorem cWR_b {b : Bool} {k : W → Prop} : cWR (.bl b) k = k (.sh (.bl b)) := rfl
theorem cWR_i {b : Int} {k : W → Prop} : cWR (.int b) k = k (.sh (.int b)) := rfl
theorem cWR_s {b : Str} {k : W → Prop} : cWR (.str b) k = k (.sh (.str b)) := rfl
theorem dC_n {Γ : Gm} {Q : DQ} : dC .non Γ Ω Q = Q (.sh .non) Ω := rfl
theorem dC_b {b : Bool} {Γ : Gm} {Q : DQ} : dC (.bl b) Γ Ω Q = Q (.sh (.bl b)) Ω := rfl
theorem dC_i {b : Int} {Γ : Gm} {Q : DQ} : dC (.int b) Γ Ω Q = Q (.sh (.int b)) Ω := rfl
theorem dC_s {b : Str} {Γ : Gm} {Q : DQ} : dC (.str b) Γ Ω Q = Q (.sh (.str b)) Ω := rfl
theorem dC_t {b : String} {Γ : Gm} {Q : DQ} : dC (.ty b) Γ Ω Q = Q (.ty b) Ω := rfl
theorem dC_r {b : Addr} {Γ : Gm} {Q : DQ} : dC (.ref b) Γ Ω Q = Q (.pt b) Ω := rfl
theorem flW_n {k : V → Prop} : flW (.sh .non) k = k .non := rfl
theorem flW_b {b : Bool} {k : V → Prop} : flW (.sh (.bl b)) k = k (.bl b) := rfl
theorem flW_i {b : Int} {k : V → Prop} : flW (.sh (.int b)) k = k (.int b) := rfl
theorem flW_s {b : Str} {k : V → Prop} : flW (.sh (.str b)) k = k (.str b) := rfl
theorem fls_nil {k : List V → Prop} : dInT.flsD [] k = k [] := rfl
theorem fls_n {r : List D} {k : List V → Prop} : dInT.flsD (.non :: r) k = dInT.flsD r fun vs => k (.non :: vs) := rfl
theorem fls_b {b : Bool} {r : List D} {k : List V → Prop} : dInT.flsD (.bl b :: r) k = dInT.flsD r fun vs => k (.bl b :: vs) := rfl
theorem fls_i {b : Int} {r : List D} {k : List V → Prop} : dInT.flsD (.int b :: r) k = dInT.flsD r fun vs => k (.int b :: vs) := rfl
theorem fls_s {b : Str} {r : List D} {k : List V → Prop} : dInT.flsD (.str b :: r) k = dInT.flsD r fun vs => k (.str b :: vs) := rfl
theorem lenW_l {xs : List D} {k : Nat → Prop} : lenW Ω (.sh (.lst xs)) k = k xs.length := rfl
theorem lenW_n {ns : List Int} {k : Nat → Prop} : lenW Ω (.sh (.nt ns)) k = k ns.length := rfl
theorem lenW_d {ks : List Key} {xs : List D} {k : Nat → Prop} : lenW Ω (.sh (.dic ks xs)) k = k ks.length := rfl
theorem lenW_t {xs : List D} {k : Nat → Prop} : lenW Ω (.sh (.tup xs)) k = k xs.length := rfl
theorem lenW_s {x : Str} {k : Nat → Prop} : lenW Ω (.sh (.str x)) k = (x.length ≤ sizeLine ∧ k x.length) := rfl
def lenO' (o : Option OD) (k : Nat → Prop) : Prop := match o with | some (.lst ws) => k ws.length | some (.dic ks _) => k ks.length | _ => False
theorem lenW_p {p : Addr} {k : Nat → Prop} : lenW Ω (.pt p) k = lenO' (look Ω p) k := by
  show (match look Ω p with
    | some (.lst ws) => k ws.length
    | some (.dic ks _) => k ks.length
    | _ => False) = _
  cases look Ω p with
  | none => rfl
  | some o => cases o <;> rfl
theorem lenO'_l {ws : List W} {k : Nat → Prop} : lenO' (some (.lst ws)) k = k ws.length := rfl
theorem lenO'_d {ks : List Key} {ws : List W} {k : Nat → Prop} : lenO' (some (.dic ks ws)) k = k ks.length := rfl
theorem atR_some {α : Type} {xs : List α} {i : Int} {v : α} {k : α → Prop} (h : L2.atI xs i = some v) : atR xs i k = k v := by unfold atR; rw [h]
theorem atR_0 {α : Type} {x : α} {xs : List α} {k : α → Prop} : atR (x :: xs) 0 k = k x := atR_some (atI_nat (j := 0) rfl)
theorem atR_1 {α : Type} {x y : α} {xs : List α} {k : α → Prop} : atR (x :: y :: xs) 1 k = k y := atR_some (atI_nat (j := 1) rfl)
theorem atR_2 {α : Type} {x y z : α} {xs : List α} {k : α → Prop} : atR (x :: y :: z :: xs) 2 k = k z := atR_some (atI_nat (j := 2) rfl)
theorem atR_3 {α : Type} {x y z u : α} {xs : List α} {k : α → Prop} : atR (x :: y :: z :: u :: xs) 3 k = k u := atR_some (atI_nat (j := 3) rfl)
theorem atR_4 {α : Type} {x y z u v : α} {xs : List α} {k : α → Prop} : atR (x :: y :: z :: u :: v :: xs) 4 k = k v := atR_some (atI_nat (j := 4) rfl)
theorem lenOk_0 {α : Type} : lenOk ([] : List α) = True := eq_true (lenOk_of (by show 0 ≤ _; decide))
theorem lenOk_1 {α : Type} {a : α} : lenOk [a] = True := eq_true (lenOk_of (by show 1 ≤ _; decide))
theorem lenOk_2 {α : Type} {a b : α} : lenOk [a, b] = True := eq_true (lenOk_of (by show 2 ≤ _; decide))
theorem lenOk_3 {α : Type} {a b c : α} : lenOk [a, b, c] = True := eq_true (lenOk_of (by show 3 ≤ _; decide))
theorem lenOk_4 {α : Type} {a b c d : α} : lenOk [a, b, c, d] = True := eq_true (lenOk_of (by show 4 ≤ _; decide))
theorem lenOk_5 {α : Type} {a b c d e : α} : lenOk [a, b, c, d, e] = True := eq_true (lenOk_of (by show 5 ≤ _; decide))
theorem look_tl {p q : Addr} {od : OD} (h : p ≠ q) : look ((q, od) :: Ω) p = look Ω p := by
  unfold look
  rw [List.find?_cons]
  have : decide (q = p) = false := decide_eq_false fun z => h z.symm
  rw [this]
theorem put_c {p : Addr} {od od' : OD} : OA.put ((p, od) :: Ω) p od' = (p, od') :: OA.put Ω p od' := by
  unfold OA.put
  rw [List.map_cons]
  simp only [if_true]
theorem put_n {p : Addr} {od' : OD} : OA.put [] p od' = [] := rfl
theorem put_t {p q : Addr} {od od' : OD} (h : q ≠ p) : OA.put ((q, od) :: Ω) p od' = (q, od) :: OA.put Ω p od' := by
  unfold OA.put
  rw [List.map_cons, if_neg h]
theorem notins_nil {Ω : Om} : notins [] Ω = True := eq_true fun p hp => by simp at hp
theorem sgnil_e {Γ : Gm} {Q : Gm → Om → Prop} : dGnil [] Γ Ω Q = Q Γ Ω := by unfold dGnil; simp
theorem sgcons_e {g : DG} {gs : DGs} {w : W} {r : List W} {Γ : Gm} {Q : Gm → Om → Prop} : dGcons g gs (w :: r) Γ Ω Q = g w Γ Ω fun Γ1 Ω1 => gs r Γ1 Ω1 Q := rfl
theorem dList_l {ds : List D} {k : List W → Prop} : (shW (.sh (.lst ds)) fun x => match x with | .lst ds => k (ds.map .sh) | _ => False) = k (ds.map .sh) := rfl
end
/-- a comprehension whose element is a function of the thing walked -/
theorem dLcP_of {ws : List W} {g : DG} {dq : DB} {de : DT} {vs : List Nat} {Γ : Gm} {Ω1 : Om} (F : W → Option W)
    (h : ∀ w ∈ ws, ∀ acc p (Pn : List W → Prop), notin p Ω1 → acc.length < ws.length → (∀ y, F w = some y → Pn (acc ++ [y])) → (F w = none → Pn acc) → g w (wipeG Γ vs) ((p, .lst acc) :: Ω1) fun Γ2 Ω2 => Ω2 = (p, .lst acc) :: Ω1 ∧ dq Γ2 ((p, .lst acc) :: Ω1) fun b Ω3 => Ω3 = (p, .lst acc) :: Ω1 ∧
      if b = true then de Γ2 ((p, .lst acc) :: Ω1) fun y Ω4 => Ω4 = (p, .lst acc) :: Ω1 ∧ lenLt acc ∧ Pn (acc ++ [y]) else Pn acc) :
    dLcP ws.length ws g dq de vs Γ Ω1 fun i acc => acc = (ws.take i).filterMap F := by
  refine ⟨rfl, fun i w acc p hw ha hn => ?_⟩
  have hi : i < ws.length := (List.getElem?_eq_some_iff.mp hw).1
  have ht : ws.take (i + 1) = ws.take i ++ [w] := by rw [List.take_succ, hw]; rfl
  refine h w (List.mem_of_getElem? hw) acc p (fun a => a = (ws.take (i + 1)).filterMap F) hn ?_ (fun y hy => ?_) fun hy => ?_
  · rw [ha]
    exact Nat.lt_of_le_of_lt (List.length_filterMap_le _ _) (Nat.lt_of_le_of_lt (List.length_take_le _ _) hi)
  · rw [ht, List.filterMap_append, ← ha]
    simp [hy]
  · rw [ht, List.filterMap_append, ← ha]
    simp [hy]
end OA

namespace OA
open PySem PySem.Spec PyProof.Rows L2
section
variable {K : PySem.W.Frag} {am : Am}
def dIsi (ws : List W) (Ω : Om) (Q : DQ) : Prop := two2W ws fun x c => tyW c fun n => tnW Ω x fun t => kitR t n fun r => Q (.sh (.bl r)) Ω
instance r_isi : SRC K am wIsi dIsi := ⟨fun {c T σ Γ Ω H xs ws Q R} e hs h k => by
  obtain ⟨x, v, w2, v2, rfl, hx, hc, h1⟩ := two2W_el h hs
  obtain ⟨n, rfl, h2⟩ := tyW_el h1
  obtain rfl : v2 = .ty n := hc
  have fin : ∀ t, kitR t n (fun r => Q (.sh (.bl r)) Ω) → optR (kitB t n) fun r => R (.bl r) H := fun t h => by
    unfold kitR at h
    split at h
    · rename_i r hr
      rw [hr]
      exact k _ _ _ _ h (e.addv rfl)
    · exact h.elim
  show optR (tyN v H) _
  unfold tnW at h2
  split at h2
  · obtain rfl : v = .non := hx
    exact fin _ h2
  · obtain rfl : v = .bl _ := hx
    exact fin _ h2
  · obtain rfl : v = .int _ := hx
    exact fin _ h2
  · obtain rfl : v = .str _ := hx
    exact fin _ h2
  · obtain ⟨a, vs, rfl, _, ha, _⟩ := hx
    rw [tyN_r, ha]
    exact fin _ h2
  · obtain ⟨a, ob, rfl, _, ha, _⟩ := hx
    rw [tyN_r, ha]
    exact fin _ h2
  · obtain ⟨a, vs, rfl, _, ha, _⟩ := hx
    rw [tyN_r, ha]
    exact fin _ h2
  · obtain rfl : v = .ref _ := hx
    split at h2
    · rename_i ws hl
      obtain ⟨vs, h3, h4⟩ := e.ob _ (look_mem hl)
      rw [tyN_r, h3]
      exact fin _ h2
    · rename_i ks ws hl
      obtain ⟨vs, h3, h4⟩ := e.ob _ (look_mem hl)
      rw [tyN_r, h3]
      exact fin _ h2
    · exact h2.elim
  · exact h2.elim⟩
theorem tn_n {Ω : Om} {k : String → Prop} : tnW Ω (.sh .non) k = k "NoneType" := rfl
theorem tn_b {Ω : Om} {b : Bool} {k : String → Prop} : tnW Ω (.sh (.bl b)) k = k "bool" := rfl
theorem tn_i {Ω : Om} {b : Int} {k : String → Prop} : tnW Ω (.sh (.int b)) k = k "int" := rfl
theorem tn_s {Ω : Om} {b : Str} {k : String → Prop} : tnW Ω (.sh (.str b)) k = k "str" := rfl
theorem tn_t {Ω : Om} {b : List D} {k : String → Prop} : tnW Ω (.sh (.tup b)) k = k "tuple" := rfl
theorem tn_nt {Ω : Om} {b : List Int} {k : String → Prop} : tnW Ω (.sh (.nt b)) k = k "tuple" := rfl
theorem tn_l {Ω : Om} {b : List D} {k : String → Prop} : tnW Ω (.sh (.lst b)) k = k "list" := rfl
theorem kr_NoneType_bool {k : Bool → Prop} : kitR "NoneType" "bool" k = k false := by unfold kitR; rw [kit_NoneType_bool]
theorem kr_NoneType_int {k : Bool → Prop} : kitR "NoneType" "int" k = k false := by unfold kitR; rw [kit_NoneType_int]
theorem kr_NoneType_str {k : Bool → Prop} : kitR "NoneType" "str" k = k false := by unfold kitR; rw [kit_NoneType_str]
theorem kr_NoneType_list {k : Bool → Prop} : kitR "NoneType" "list" k = k false := by unfold kitR; rw [kit_NoneType_list]
theorem kr_NoneType_tuple {k : Bool → Prop} : kitR "NoneType" "tuple" k = k false := by unfold kitR; rw [kit_NoneType_tuple]
theorem kr_NoneType_dict {k : Bool → Prop} : kitR "NoneType" "dict" k = k false := by unfold kitR; rw [kit_NoneType_dict]
theorem kr_bool_bool {k : Bool → Prop} : kitR "bool" "bool" k = k true := by unfold kitR; rw [kit_bool_bool]
theorem kr_bool_int {k : Bool → Prop} : kitR "bool" "int" k = k true := by unfold kitR; rw [kit_bool_int]
theorem kr_bool_str {k : Bool → Prop} : kitR "bool" "str" k = k false := by unfold kitR; rw [kit_bool_str]
theorem kr_bool_list {k : Bool → Prop} : kitR "bool" "list" k = k false := by unfold kitR; rw [kit_bool_list]
theorem kr_bool_tuple {k : Bool → Prop} : kitR "bool" "tuple" k = k false := by unfold kitR; rw [kit_bool_tuple]
theorem kr_bool_dict {k : Bool → Prop} : kitR "bool" "dict" k = k false := by unfold kitR; rw [kit_bool_dict]
theorem kr_int_bool {k : Bool → Prop} : kitR "int" "bool" k = k false := by unfold kitR; rw [kit_int_bool]
theorem kr_int_int {k : Bool → Prop} : kitR "int" "int" k = k true := by unfold kitR; rw [kit_int_int]
theorem kr_int_str {k : Bool → Prop} : kitR "int" "str" k = k false := by unfold kitR; rw [kit_int_str]
theorem kr_int_list {k : Bool → Prop} : kitR "int" "list" k = k false := by unfold kitR; rw [kit_int_list]
theorem kr_int_tuple {k : Bool → Prop} : kitR "int" "tuple" k = k false := by unfold kitR; rw [kit_int_tuple]
theorem kr_int_dict {k : Bool → Prop} : kitR "int" "dict" k = k false := by unfold kitR; rw [kit_int_dict]
theorem kr_str_bool {k : Bool → Prop} : kitR "str" "bool" k = k false := by unfold kitR; rw [kit_str_bool]
theorem kr_str_int {k : Bool → Prop} : kitR "str" "int" k = k false := by unfold kitR; rw [kit_str_int]
theorem kr_str_str {k : Bool → Prop} : kitR "str" "str" k = k true := by unfold kitR; rw [kit_str_str]
theorem kr_str_list {k : Bool → Prop} : kitR "str" "list" k = k false := by unfold kitR; rw [kit_str_list]
theorem kr_str_tuple {k : Bool → Prop} : kitR "str" "tuple" k = k false := by unfold kitR; rw [kit_str_tuple]
theorem kr_str_dict {k : Bool → Prop} : kitR "str" "dict" k = k false := by unfold kitR; rw [kit_str_dict]
theorem kr_list_bool {k : Bool → Prop} : kitR "list" "bool" k = k false := by unfold kitR; rw [kit_list_bool]
theorem kr_list_int {k : Bool → Prop} : kitR "list" "int" k = k false := by unfold kitR; rw [kit_list_int]
theorem kr_list_str {k : Bool → Prop} : kitR "list" "str" k = k false := by unfold kitR; rw [kit_list_str]
theorem kr_list_list {k : Bool → Prop} : kitR "list" "list" k = k true := by unfold kitR; rw [kit_list_list]
theorem kr_list_tuple {k : Bool → Prop} : kitR "list" "tuple" k = k false := by unfold kitR; rw [kit_list_tuple]
theorem kr_list_dict {k : Bool → Prop} : kitR "list" "dict" k = k false := by unfold kitR; rw [kit_list_dict]
theorem kr_tuple_bool {k : Bool → Prop} : kitR "tuple" "bool" k = k false := by unfold kitR; rw [kit_tuple_bool]
theorem kr_tuple_int {k : Bool → Prop} : kitR "tuple" "int" k = k false := by unfold kitR; rw [kit_tuple_int]
theorem kr_tuple_str {k : Bool → Prop} : kitR "tuple" "str" k = k false := by unfold kitR; rw [kit_tuple_str]
theorem kr_tuple_list {k : Bool → Prop} : kitR "tuple" "list" k = k false := by unfold kitR; rw [kit_tuple_list]
theorem kr_tuple_tuple {k : Bool → Prop} : kitR "tuple" "tuple" k = k true := by unfold kitR; rw [kit_tuple_tuple]
theorem kr_tuple_dict {k : Bool → Prop} : kitR "tuple" "dict" k = k false := by unfold kitR; rw [kit_tuple_dict]
theorem kr_dict_bool {k : Bool → Prop} : kitR "dict" "bool" k = k false := by unfold kitR; rw [kit_dict_bool]
theorem kr_dict_int {k : Bool → Prop} : kitR "dict" "int" k = k false := by unfold kitR; rw [kit_dict_int]
theorem kr_dict_str {k : Bool → Prop} : kitR "dict" "str" k = k false := by unfold kitR; rw [kit_dict_str]
theorem kr_dict_list {k : Bool → Prop} : kitR "dict" "list" k = k false := by unfold kitR; rw [kit_dict_list]
theorem kr_dict_tuple {k : Bool → Prop} : kitR "dict" "tuple" k = k false := by unfold kitR; rw [kit_dict_tuple]
theorem kr_dict_dict {k : Bool → Prop} : kitR "dict" "dict" k = k true := by unfold kitR; rw [kit_dict_dict]
/-! list.pop(), list.remove(k) -/
def wPop : V → List V → Hp → VK → Prop := fun x vs H Q => refR x fun l => lstO (H l) fun xs => vs = [] ∧ optR (xs[xs.length - 1]?) fun v => Q v (upd H l (.lst xs.dropLast))
end
end OA

namespace OA
open PySem PySem.Spec PyProof.Rows L2
section
variable {K : PySem.W.Frag} {am : Am}
/-! a dict walked by its keys while it is locked -/
def keyD : Key → D
  | .inl i => .int i
  | .inr s => .str s
def dForK (i : Nat) (g : DG) (dt : DS) (N : DN) (Γ : Gm) (Ω : Om) : Prop := varR (Γ[i]?) fun w => ownD Ω w fun p ks ws => ∀ o kvs, ∃ Pv : Nat → Gm → Om → Prop, Pv 0 Γ (OA.put Ω p (.lk o kvs ks ws)) ∧
  (∀ j q Γ Ω', ks[j]? = some q → Pv j Γ Ω' → look Ω' p = some (.lk o kvs ks ws) ∧ g (.sh (keyD q)) Γ Ω' fun Γ2 Ω2 => LaterD (dt ⟨Pv (j + 1), fun w Ω' => look Ω' p = some (.lk o kvs ks ws) ∧ N.rt w (OA.put Ω' p (.dic ks ws)), fun _ _ => False, Pv (j + 1)⟩) Γ2 Ω2) ∧
  ∀ Γ Ω', Pv ks.length Γ Ω' → look Ω' p = some (.lk o kvs ks ws) ∧ LaterD N.nx Γ (OA.put Ω' p (.dic ks ws))
theorem look_put {Ω : Om} {p : Addr} {od od' : OD} (h : look Ω p = some od) : look (OA.put Ω p od') p = some od' := by
  induction Ω with
  | nil => simp [look] at h
  | cons q Ω ih =>
    obtain ⟨b, o⟩ := q
    by_cases z : b = p
    · subst z
      rw [put_c, look_hd]
    · rw [put_t z, look_tl (fun y => z y.symm)]
      rw [look_tl (fun y => z y.symm)] at h
      exact ih h
theorem DEnv.unlock {c : Cq am} {T : List Tp} {σ : L2.St} {Γ : Gm} {Ω : Om} {H : Hp} {p : Addr} {o : Obj} {kvs : List (Key × V)} {ks : List Key} {ws : List W} (e : DEnv K c T σ Γ Ω H) (hl : look Ω p = some (.lk o kvs ks ws)) : H p = some (.frz o (.dK kvs)) ∧ DEnv K c T σ Γ (OA.put Ω p (.dic ks ws)) (upd H p (.dK kvs)) := by
  obtain ⟨vs, h1, h2, h3, h4⟩ := e.ob _ (look_mem hl)
  exact ⟨h1, e.putD hl h2 h3 h4⟩
instance s_forK {i : Nat} {g : TG} {d : DG} {ix : List Nat} {ts : TS} {dt : DS} [s1 : SG K am g d ix] [s2 : SS K am ts dt] : SS K am (tLock (vFor (viKeys (vVar i)) g ts)) (dForK i d dt) := ⟨fun {c T σ Γ Ω H D N} e h o => by
  obtain ⟨w, h1, h2⟩ := varR_el h
  obtain ⟨v, h3, h4⟩ := e.sl i w h1
  obtain ⟨a, ks, vs, ws, rfl, hl, ha, hn, hv, h5⟩ := ownD_el e h4 h2
  refine ⟨a, _, ha, True.intro, fun od => ?_⟩
  obtain ⟨Pv, p0, ps, pe⟩ := h5 od (ks.zip vs)
  have hlk : look (OA.put Ω a (.lk od (ks.zip vs) ks ws)) a = some (.lk od (ks.zip vs) ks ws) := look_put hl
  have e1 : DEnv K c T σ Γ (OA.put Ω a (.lk od (ks.zip vs) ks ws)) (upd H a (.frz od (.dK (ks.zip vs)))) :=
    e.put hl ⟨vs, upd_same, rfl, hn, hv.mono fun b o n h => ⟨n, by rw [upd_ne fun z => n (.inr (by rw [z]; exact List.mem_map.mpr ⟨_, look_mem hl, rfl⟩))]; exact h⟩⟩
  show optR _ _
  rw [h3]
  show frzO (upd H a _ a) _
  rw [upd_same, frzO_e]
  have gets : ∀ j σ Γ Ω H, j ≤ ks.length → Pv j Γ Ω → DEnv K c T σ Γ Ω H → look Ω a = some (.lk od (ks.zip vs) ks ws) := fun j σ Γ Ω H hj p e => by
    rcases Nat.lt_or_eq_of_le hj with z | z
    · exact (ps j _ Γ Ω (List.getElem?_eq_getElem z) p).1
    · rw [z] at p
      exact (pe Γ Ω p).1
  have hz : (ks.zip vs).length = ks.length := by rw [List.length_zip, ← hv.len, hn, Nat.min_self]
  have wk : Walk (Itk a od (ks.zip vs)) ks.length (fun H => H a = some (.frz od (.dK (ks.zip vs)))) (fun i H x H' => H' = H ∧ ∃ k v, (ks.zip vs)[i]? = some (k, v) ∧ x = kV k) := by
    have z := walk_keys (d := a) (o := od) (kvs := ks.zip vs)
    rw [hz] at z
    exact z
  refine ⟨ks.length, _, _, fun j σ H => ∃ Γ Ω, Pv j Γ Ω ∧ DEnv K c T σ Γ Ω H, wk, ⟨Γ, _, p0, e1⟩, fun j σ H hj ⟨Γ, Ω, p, e⟩ => (e.unlock (gets j σ Γ Ω H hj p e)).1, fun j x σ H H' hj ⟨Γ, Ω, p, e⟩ y => ?_, fun σ H ⟨Γ, Ω, p, e⟩ => ?_⟩
  · obtain ⟨rfl, q, u, hq, rfl⟩ := y
    have hk : ks[j]? = some q := by
      have := congrArg (Option.map Prod.fst) hq
      rw [← List.getElem?_map, List.map_fst_zip (by rw [← hv.len, hn]; exact Nat.le_refl _)] at this
      exact this
    obtain ⟨g1, g2⟩ := ps j q Γ Ω hk p
    have hkv : VOk K H' (Ex c Ω) (.sh (keyD q)) (kV q) := by cases q <;> exact rfl
    refine s1.run e hkv g2 fun σ2 Γ2 Ω2 H2 q2 e2 _ => ?_
    obtain ⟨Γ3, Ω3, h3, e4⟩ := LaterD.run q2 e2
    refine s2.run e4 h3 ⟨fun σ' Γ' Ω' H' p' e' => ⟨Γ', Ω', p', e'⟩, fun v w σ' Γ' Ω' H' ⟨hl', q'⟩ e' => ?_, fun _ _ _ _ z _ => z.elim, fun σ' Γ' Ω' H' p' e' => ⟨Γ', Ω', p', e'⟩⟩
    obtain ⟨b1, b2⟩ := e'.unlock hl'
    exact ⟨b1, o.rt _ _ _ _ _ _ q' b2⟩
  · obtain ⟨hl', q'⟩ := pe Γ Ω p
    obtain ⟨b1, b2⟩ := e.unlock hl'
    obtain ⟨Γ3, Ω3, h3, e4⟩ := LaterD.run q' b2
    exact ⟨b1, o.nx _ _ _ _ h3 e4⟩⟩
end
end OA

namespace OA
open PySem PySem.Spec PyProof.Rows L2
theorem Same.new {H : Hp} {p : Addr} {o : HO} (h : H p = none) : Same H (upd H p o) := fun b u e => by
  rw [upd_ne (ne_of_none e h)]
  exact e
theorem atI_zero (x : V) (xs : List V) : atI (x :: xs) 0 = some x := by
  have := atI_nat (xs := x :: xs) (j := 0) (v := x) rfl
  exact this
theorem atI_one (x y : V) (xs : List V) : atI (x :: y :: xs) 1 = some y := atI_nat (xs := x :: y :: xs) (j := 1) (v := y) rfl
theorem atI_two (x y z : V) (xs : List V) : atI (x :: y :: z :: xs) 2 = some z := atI_nat (xs := x :: y :: z :: xs) (j := 2) (v := z) rfl
theorem Same.back {H H' : Hp} (e : Same H H') : ∀ b, H' b = none → H b = none := fun b h => by
  cases q : H b with
  | none => rfl
  | some o => rw [e b o q] at h; cases h
/-- wakes, by number and moment -/
abbrev WL := List (Nat × Nat)
def wkv (wl : WL) : List (Key × V) := wl.map fun x => (Sum.inl (x.1 : Int), V.int (x.2 : Nat))
theorem valV_wkv {wl : WL} {j : Nat} : valV (wkv wl) (Sum.inl (j : Int)) = (wl.lookup j).map fun t => V.int (t : Nat) := by
  unfold valV wkv
  induction wl with
  | nil => rfl
  | cons x wl ih =>
    rw [List.map_cons, List.find?_cons]
    by_cases h : x.1 = j
    · have h1 : (j == x.1) = true := by simp [h]
      simp [h, List.lookup]
    · have h1 : (j == x.1) = false := by simp; omega
      have h2 : ¬ ((x.1 : Int) = (j : Int)) := by omega
      simp only [List.lookup, h1, Sum.inl.injEq, h2, decide_false]
      exact ih
end OA

namespace OA
open PySem L2
local macro_rules
  | `(tactic| simp! [$a,*]) => `(tactic| simp -implicitDefEqProofs only [wNeD0, wRep, tDNewK, vDc, wSortDI, dkR_e, dkR_f, e_cut, wSetL, vLstRg, wLstD, e_lock, vVals, gSub, tCKw, frzO_e, viItems, viKeys, vRev, e_while, e_for, e_asgG, gName, vgTup, vgCons_e, vgNil_e, viList, viTup, viStr, viR1, viEnum, vLc, tYes, wipe, e_seq, e_next, e_drop, e_ret, e_retN, e_sfld, e_augI, e_aug, e_dput, vIf, vTest, wInT, vVar, vFld, tC, tOp, tUn, wI0, wIC, rEq, rNe, scal, wAddS, wMulS, wCat, wNeg, wIxL, wIxT, wIxS, vPart, tNoPart, tSl, wSlL, tCB, tCons, tNil, len_s, wTupL, wLstL, wAbs, wIntB, wMin2, wMax2, vAnd, vOr, vNot, vChain, vMeth, vCall, vMake, vLM0, vLM, isLst, wAppend, wPopAt, wInsert0, vStar, vDGet, vDIn, vDNotIn, tTup, tLst, tIf, tAnd, tOr, tNot, refR_e, intR_e, blR_e, strR_e, optR_e, keyR_i, keyR_s, insO_e, lstO_e, tupO_e, tupO_f, dkO_e, one1_e, two2_e, len_r, lenO_l, lenO_t, lenO_f, lenO_d, L2.start, List.map, List.replicate, List.length_cons, List.length_nil, List.cons_append, List.nil_append, List.append_nil, List.getElem?_cons_zero, List.getElem?_cons_succ, List.set_cons_zero, List.set_cons_succ, true_and, and_true, cx_K, cx_prog, cx_w, blkK, Int.toNat_natCast, upd_same, upd_upd, if_true, if_false, decide_eq_true_eq, reduceCtorEq, reduceIte, Bool.false_eq_true, decide_true, decide_false, Bool.true_and, Bool.false_and, Bool.and_true, Bool.and_false, Bool.not_true, Bool.not_false, V.int.injEq, V.str.injEq, V.bl.injEq, putF_nil, Nat.reduceAdd, Nat.reduceSub, Nat.reduceLT, Int.reduceEq, Int.reduceLT, Int.reduceLE, Int.reduceAdd, Int.reduceSub, Int.cast_ofNat_Int, wIsi, tyR_e, tyO_l, tyO_t, tyO_f, tyO_d, tyN_n, tyN_b, tyN_i, tyN_s, tyN_r, kit_NoneType_bool, kit_NoneType_int, kit_NoneType_str, kit_NoneType_list, kit_NoneType_tuple, kit_NoneType_dict, kit_bool_bool, kit_bool_int, kit_bool_str, kit_bool_list, kit_bool_tuple, kit_bool_dict, kit_int_bool, kit_int_int, kit_int_str, kit_int_list, kit_int_tuple, kit_int_dict, kit_str_bool, kit_str_int, kit_str_str, kit_str_list, kit_str_tuple, kit_str_dict, kit_list_bool, kit_list_int, kit_list_str, kit_list_list, kit_list_tuple, kit_list_dict, kit_tuple_bool, kit_tuple_int, kit_tuple_str, kit_tuple_list, kit_tuple_tuple, kit_tuple_dict, kit_dict_bool, kit_dict_int, kit_dict_str, kit_dict_list, kit_dict_tuple, kit_dict_dict, $a,*])
  | `(tactic| dsimp! [$a,*]) => `(tactic| ((try refine Later.mk ?_); simp! [$a,*]; repeat (refine Later.mk ?_; simp! [$a,*])))
def viListS (K : PySem.W.Frag) (tl : TE) : TI := fun σ H R => tl σ H fun x H1 => refR x fun a => (∃ xs, SqL K H1 a xs) ∧ R (Itl K a) H1
theorem qi_listS {X : Cx} {tg l : Expr} {tl : TE} (hl : PE X l tl) : PI X tg l (viListS X.K tl) := im_pi (pi_list (up_pe hl)) fun _ _ _ h => ⟨_, h, fun _ _ z => by
  obtain ⟨a, e1, z1, z2⟩ := refR_el z
  exact ⟨a, e1, z1, z2⟩⟩
/-- draws: numbers from 0 on, the first one below a line -/
structure DrawOk (ns : List Int) : Prop where
  l2 : 2 ≤ ns.length
  l100 : ns.length ≤ 100
  nn : ∀ z ∈ ns, 0 ≤ z
  hd : ns.headD 0 < 2147483647
section
variable {P : Program} {w : World} {K : PySem.W.Frag} {mg : Str → Option Value} {base : Heap} {A : Ad}
def DrawAt (H : Hp) (d : Addr) : Prop := ∃ ns : List Int, H d = some (.lst (ns.map V.int)) ∧ DrawOk ns
theorem abs_eq (z : Int) : (if z < 0 then -z else z) = (z.natAbs : Int) := by split <;> omega
theorem getInt {ns : List Int} {i : Nat} {x : V} (e : (ns.map V.int)[i]? = some x) : ∃ z, z ∈ ns ∧ x = .int z := by
  rw [List.getElem?_map] at e
  cases q : ns[i]? with
  | none => rw [q] at e; cases e
  | some z => rw [q] at e; exact ⟨z, List.mem_of_getElem? q, (Option.some.inj e).symm⟩
def spDice (K : PySem.W.Frag) : Sp := fun vs H Q _ => ∃ (a : Addr) (ns : List Int), vs = [.ref a, .int 0] ∧ SqL K H a (ns.map V.int) ∧ ns.length ≤ 63 ∧ ∀ d H', Same H H' → H d = none → DrawAt H' d → Q (.ref d) H'
theorem sc__law_dice : FnScope ["_law_script", "_law_k", "_law_found", "_law_cell"] ["_law_script", "_law_k"] (defScope s__law_dice) := ⟨rfl, rfl, rfl, by decide +kernel, rfl, by decide +kernel, by decide +kernel⟩
theorem ok__law_dice (T : Txt K mg base A) : FnOk P w K mg base CX0 2 A._law_dice A.d__law_dice ["_law_script", "_law_k"] (spDice K) := by
  refine T.F__law_dice.ok sc__law_dice (fun vs H Q E h => ?_) (fun cdv A' outer s H vs Q E hr h => ?_)
  · obtain ⟨a, ns, rfl, _⟩ := h
    rfl
  obtain ⟨a, ns, rfl, hS, hl, kk⟩ := h
  have hu := hu_of hr
  refine ⟨_, (qs_cons (ps_set (i := 2) sc__law_dice.nd rfl (Or.inl rfl) (qv 1))
    (qs_cons (q_for PassesOwn.never rfl (qi_listS (qv 0)) (pg_name (i := 3) sc__law_dice.nd rfl (Or.inl rfl)) (pss_one (ps_set (i := 2) sc__law_dice.nd rfl (Or.inl rfl) (pe_op o_mod (pe_op o_add (pe_op o_mul (qv 2) pe_int) (pe_callB c_abs (by rfl) T.m_abs (by decide +kernel) (pa_cons (qv 3) pa_nil))) pe_int))))
    (pss_one (ps_ret (pe_op o_cat (pe_lst (pa_cons (qv 2) (pa_cons pe_int pa_nil))) (q_lc (own := [("_law_cell", 3)]) (g := gName 3) rfl sc__law_dice.nd (qi_listS (qv 0)) (blkOk_by (own := [("_law_cell", 3)]) (N := ["_law_script", "_law_k", "_law_found", "_law_cell"]) (sc := defScope s__law_dice) (by decide +kernel)) (fun _ _ _ _ _ => (pg_name (i := 3) sc__law_dice.nd rfl (Or.inl rfl))) (fun _ _ _ _ _ => pts_one (q_cmp o_ge (qv 3) (pe_op op_pow pe_int pe_int) (nomark _))) (fun _ _ _ _ _ => (qv 3)))))))), ?_⟩
  dsimp! [viListS]
  refine ⟨⟨_, hS⟩, _, _, _, fun i σ H1 => H1 = H ∧ ∃ (z : Int) (v : Option V), σ = [some (.ref a), some (.int 0), some (.int z), v] ∧ 0 ≤ z ∧ z < 2147483647, walk_list (K := K) (a := a) (xs := ns.map V.int), ⟨rfl, 0, none, rfl, by decide, by decide⟩, ?_, ?_, ?_⟩
  · rintro i σ H1 _ ⟨rfl, _⟩
    exact hS
  · rintro i x σ H1 H2 hi ⟨rfl, z, v, rfl, h0, h1⟩ ⟨rfl, ex⟩
    obtain ⟨y, _, rfl⟩ := getInt ex
    dsimp! []
    refine ⟨.inr ⟨by decide, by decide⟩, _, _, rfl, ?_, ?_⟩
    · exact Int.emod_nonneg _ (by decide)
    · exact Int.emod_lt_of_pos _ (by decide)
  · rintro σ H1 ⟨rfl, z, v, rfl, h0, h1⟩
    dsimp! [viListS]
    refine ⟨by decide, fun p hp => ⟨⟨_, (Same.new hp).seq hS⟩, fun D hD => ?_⟩⟩
    have nD : p ≠ D := ne_of_none upd_same hD
    refine ⟨_, _, _, fun i H2 => Same (upd H1 p (.lst [V.int z, V.int 0])) H2 ∧ ∃ ms : List Int, H2 D = some (.lst (ms.map V.int)) ∧ ms.length ≤ i ∧ ∀ y ∈ ms, 0 ≤ y, walk_list (K := K) (a := a) (xs := ns.map V.int), ⟨Same.new hD, [], upd_same, Nat.le_refl _, fun y hy => by simp at hy⟩, fun i H2 _ h => ((Same.new hp).trans h.1).seq hS, ?_, ?_⟩
    · rintro i x H2 H3 hi ⟨sm, ms, hD2, hml, hms⟩ ⟨rfl, ex⟩
      obtain ⟨y, _, rfl⟩ := getInt ex
      refine ⟨10, 18, rfl, rfl, ⟨by decide, by decide, by decide⟩, ?_⟩
      rw [List.length_map] at hi
      dsimp! [hD2]
      refine ite2 (fun c => ?_) (fun c => ⟨sm, ms, by first | exact hD2 | rfl, by omega, hms⟩)
      have hy : 0 ≤ y := Int.le_trans (by decide) c
      refine ⟨by rw [List.length_map, sizeLine_eq]; omega, fun b o e => ?_, ms ++ [y], by rw [List.map_append]; rfl, by rw [List.length_append]; simp; omega, fun u hu => ?_⟩
      · have hnb : b ≠ D := ne_of_none e hD
        rw [upd_ne hnb]
        exact sm _ _ e
      · rcases List.mem_append.mp hu with h | h
        · exact hms u h
        · have : u = y := by simpa using h
          omega
    · rintro H2 ⟨sm, ms, hD2, hml, hms⟩
      have hp2 := sm _ _ upd_same
      rw [List.length_map] at hml
      dsimp! [hp2, hD2]
      refine ⟨by rw [List.length_map, sizeLine_eq]; omega, fun q hq => ?_⟩
      have s2 : Same H1 H2 := (Same.new hp).trans sm
      refine kk q _ (s2.trans (Same.new hq)) (Same.back s2 _ hq) ⟨z :: 0 :: ms, ?_, ⟨by simp, by simp; omega, fun y hy => ?_, h1⟩⟩
      · rw [upd_same]
        rfl
      · rcases List.mem_cons.mp hy with rfl | hy
        · exact h0
        · rcases List.mem_cons.mp hy with rfl | hy
          · exact Int.le_refl _
          · exact hms y hy
/-- all but d is kept -/
def KeptD (d : Addr) (H H' : Hp) : Prop := ∀ b o, H b = some o → b ≠ d → H' b = some o
def spOff (A : Ad) : Sp := fun vs H Q _ => ∃ (d : Addr) (most : Nat), vs = [.ref d, .int most] ∧ DrawAt H d ∧ 1 ≤ most ∧ most ≤ 1000 ∧ ∀ (x : Nat) H', x < most → KeptD d H H' → DrawAt H' d → Q (.int x) H'
theorem sc__law_off : FnScope ["_law_d", "_law_most", "_law_found"] ["_law_d", "_law_most"] (defScope s__law_off) := ⟨rfl, rfl, rfl, by decide +kernel, rfl, by decide +kernel, by decide +kernel⟩
theorem ok__law_off (T : Txt K mg base A) : FnOk P w K mg base CX0 1 A._law_off A.d__law_off ["_law_d", "_law_most"] (spOff A) := by
  refine T.F__law_off.ok sc__law_off (fun vs H Q E h => ?_) (fun cdv A' outer s H vs Q E hr h => ?_)
  · obtain ⟨d, most, rfl, _⟩ := h
    rfl
  obtain ⟨d, most, rfl, hD, h1, h2, kk⟩ := h
  have hu := hu_of hr
  refine ⟨_, (qs_cons (q_cut (q_if (PW.pt (pw_and (q_cmp op_eq (pe_ix ix_L (qv 0) pe_int (fun _ _ => rfl)) pe_int (nomark _)) (pw_and1 (q_cmp o_gt (pe_callB c_len (by rfl) T.m_len (by decide +kernel) (pa_cons (qv 0) pa_nil)) pe_int (nomark _))))) (pss_one (ps_asg (lm1 PySem.F.slot_list_pop PySem.F.type_list_pop m_popAt (qv 0) (pa_cons pe_int pa_nil)) (pg_sub (qv 0) pe_int s_setL))) pss_nil))
    (qs_cons (q_if (q_cmp o_gt (pe_ix ix_L (qv 0) pe_int (fun _ _ => rfl)) pe_int (nomark _)) (qs_cons (ps_set (i := 2) sc__law_off.nd rfl (Or.inl rfl) (pe_op o_mod (pe_ix ix_L (qv 0) pe_int (fun _ _ => rfl)) (qv 1)))
    (qs_cons (ps_asg (pe_op o_fdiv (pe_ix ix_L (qv 0) pe_int (fun _ _ => rfl)) (qv 1)) (pg_sub (qv 0) pe_int s_setL))
    (pss_one (ps_ret (qv 2))))) pss_nil)
    (qs_cons (ps_asg (pe_op o_mod (pe_op o_add (pe_op o_mul (pe_ix ix_L (qv 0) pe_int (fun _ _ => rfl)) pe_int) pe_int) pe_int) (pg_sub (qv 0) pe_int s_setL))
    (pss_one (ps_ret (pe_op o_mod (pe_op o_fdiv (pe_ix ix_L (qv 0) pe_int (fun _ _ => rfl)) pe_int) (qv 1))))))), ?_⟩
  have ixs : ∀ z0 z1 r, atI (V.int z0 :: V.int z1 :: r) 1 = some (V.int z1) := fun z0 z1 r => atI_one _ _ _
  dsimp! []
  refine ⟨fun σ H1 => σ = [some (.ref d), some (.int most), none] ∧ KeptD d H H1 ∧ DrawAt H1 d, ?_, ?_⟩
  · rintro σ H1 ⟨rfl, kd, ns, hd, ⟨l2, l100, nn, hh⟩⟩
    obtain ⟨z0, z1, r, rfl⟩ : ∃ z0 z1 r, ns = z0 :: z1 :: r := by
      match ns, l2 with
      | z0 :: z1 :: r, _ => exact ⟨z0, z1, r, rfl⟩
    have hz0 : 0 ≤ z0 := nn z0 (by simp)
    have hz1 : 0 ≤ z1 := nn z1 (by simp)
    have hz0' : z0 < 2147483647 := hh
    have nnr : ∀ z ∈ r, 0 ≤ z := fun z hz => nn z (by simp [hz])
    have hm : (0 : Int) < most := by omega
    have fin : ∀ (x : Int) (u0 u1 : Int), 0 ≤ x → x < most → 0 ≤ u0 → u0 < 2147483647 → 0 ≤ u1 → Q (.int x) (upd H1 d (.lst (V.int u0 :: V.int u1 :: List.map V.int r))) := fun x u0 u1 hx hxm a0 a1 b0 => by
      obtain ⟨n, rfl⟩ := Int.eq_ofNat_of_zero_le hx
      refine kk n _ (by omega) (fun b o e n => by rw [upd_ne n]; exact kd b o e n) ⟨u0 :: u1 :: r, upd_same, ⟨by simp, by simpa using l100, fun z hz => ?_, a1⟩⟩
      rcases List.mem_cons.mp hz with rfl | hz
      · exact a0
      · rcases List.mem_cons.mp hz with rfl | hz
        · exact b0
        · exact nnr z hz
    dsimp! [hd, atI_zero, ixs, ixN_one, ixN_zero]
    refine ite2 (fun c => ?_) (fun c => ?_)
    · dsimp! [hd, atI_zero, ixs, ixN_one, ixN_zero]
      refine ⟨hm, ?_⟩
      dsimp! [hd, atI_zero, ixs, ixN_one, ixN_zero]
      refine ⟨⟨hm, by omega⟩, ?_⟩
      dsimp! [hd, atI_zero, ixs, ixN_one, ixN_zero]
      exact fin _ z0 (z1 / most) (Int.emod_nonneg _ (by omega)) (Int.emod_lt_of_pos _ hm) hz0 hz0' (Int.ediv_nonneg hz1 (by omega))
    · (refine Later.mk ?_; simp! [])
      refine Later.mk ?_
      simp -implicitDefEqProofs only [e_seq, e_asgG, e_asg, tOp, vVar, tC, wIxL, gSub, optR_e, List.getElem?_cons_zero, refR_e, lstO_e, hd, intR_e, List.map, atI_zero]
      refine ⟨.inr ⟨by decide, by decide⟩, (by decide : (0 : Int) < 2147483647), ?_⟩
      show wSetL (.ref d) (.int 0) (.int ((z0 * 48271 + 11) % 2147483647)) H1 _
      generalize hu : (z0 * 48271 + 11) % 2147483647 = u
      have u0 : 0 ≤ u := by rw [← hu]; exact Int.emod_nonneg _ (by decide)
      have u1 : u < 2147483647 := by rw [← hu]; exact Int.emod_lt_of_pos _ (by decide)
      simp! [hd, atI_zero, ixs, ixN_one, ixN_zero]
      dsimp! [hd, atI_zero, ixs, ixN_one, ixN_zero]
      refine ⟨⟨by decide, by decide⟩, hm, ?_⟩
      exact fin _ _ z1 (Int.emod_nonneg _ (by omega)) (Int.emod_lt_of_pos _ hm) u0 u1 hz1
  · obtain ⟨ns, hd, ⟨l2, l100, nn, hh⟩⟩ := hD
    obtain ⟨z0, z1, r, rfl⟩ : ∃ z0 z1 r, ns = z0 :: z1 :: r := by
      match ns, l2 with
      | z0 :: z1 :: r, _ => exact ⟨z0, z1, r, rfl⟩
    have same : DrawAt H d := ⟨z0 :: z1 :: r, hd, ⟨l2, l100, nn, hh⟩⟩
    have kd : KeptD d H H := fun b o e _ => e
    dsimp! [hd, ixs]
    refine ite2 (fun c => ?_) (fun c => ?_)
    · refine ite2 (fun c2 => ?_) (fun c2 => ?_)
      · obtain ⟨z2, r, rfl⟩ : ∃ z2 r', r = z2 :: r' := by
          match r, c2 with
          | [], c2 => simp at c2
          | z2 :: r', _ => exact ⟨z2, r', rfl⟩
        have e2 : (2 : Int).toNat = 2 := rfl
        dsimp! [hd, ixs, e2, List.eraseIdx_cons_succ, List.eraseIdx_cons_zero, ixN_one]
        refine ⟨by decide, fun b o e n => by rw [upd_ne n]; exact e, z0 :: z2 :: r, upd_same, ⟨by simp, by simp at l100 ⊢; omega, fun z hz => nn z ?_, hh⟩⟩
        rcases List.mem_cons.mp hz with rfl | hz
        · simp
        · simp [hz]
      · dsimp! []
        exact ⟨kd, same⟩
    · dsimp! []
      exact ⟨kd, same⟩
end
end OA

namespace OA
open PySem L2
local macro_rules
  | `(tactic| simp! [$a,*]) => `(tactic| simp -implicitDefEqProofs only [wNeD0, wRep, tDNewK, vDc, wSortDI, dkR_e, dkR_f, e_cut, wSetL, vLstRg, wLstD, e_lock, vVals, gSub, tCKw, frzO_e, viItems, viKeys, vRev, e_while, e_for, e_asgG, gName, vgTup, vgCons_e, vgNil_e, viList, viTup, viStr, viR1, viEnum, vLc, tYes, wipe, e_seq, e_next, e_drop, e_ret, e_retN, e_sfld, e_augI, e_aug, e_dput, vIf, vTest, wInT, vVar, vFld, tC, tOp, tUn, wI0, wIC, rEq, rNe, scal, wAddS, wMulS, wCat, wNeg, wIxL, wIxT, wIxS, vPart, tNoPart, tSl, wSlL, tCB, tCons, tNil, len_s, wTupL, wLstL, wAbs, wIntB, wMin2, wMax2, vAnd, vOr, vNot, vChain, vMeth, vCall, vMake, vLM0, vLM, isLst, wAppend, wPopAt, wInsert0, vStar, vDGet, vDIn, vDNotIn, tTup, tLst, tIf, tAnd, tOr, tNot, refR_e, intR_e, blR_e, strR_e, optR_e, keyR_i, keyR_s, insO_e, lstO_e, tupO_e, tupO_f, dkO_e, one1_e, two2_e, len_r, lenO_l, lenO_t, lenO_f, lenO_d, L2.start, List.map, List.replicate, List.length_cons, List.length_nil, List.cons_append, List.nil_append, List.append_nil, List.getElem?_cons_zero, List.getElem?_cons_succ, List.set_cons_zero, List.set_cons_succ, true_and, and_true, cx_K, cx_prog, cx_w, blkK, Int.toNat_natCast, upd_same, upd_upd, if_true, if_false, decide_eq_true_eq, reduceCtorEq, reduceIte, Bool.false_eq_true, decide_true, decide_false, Bool.true_and, Bool.false_and, Bool.and_true, Bool.and_false, Bool.not_true, Bool.not_false, V.int.injEq, V.str.injEq, V.bl.injEq, putF_nil, Nat.reduceAdd, Nat.reduceSub, Nat.reduceLT, Int.reduceEq, Int.reduceLT, Int.reduceLE, Int.reduceAdd, Int.reduceSub, Int.cast_ofNat_Int, wIsi, tyR_e, tyO_l, tyO_t, tyO_f, tyO_d, tyN_n, tyN_b, tyN_i, tyN_s, tyN_r, kit_NoneType_bool, kit_NoneType_int, kit_NoneType_str, kit_NoneType_list, kit_NoneType_tuple, kit_NoneType_dict, kit_bool_bool, kit_bool_int, kit_bool_str, kit_bool_list, kit_bool_tuple, kit_bool_dict, kit_int_bool, kit_int_int, kit_int_str, kit_int_list, kit_int_tuple, kit_int_dict, kit_str_bool, kit_str_int, kit_str_str, kit_str_list, kit_str_tuple, kit_str_dict, kit_list_bool, kit_list_int, kit_list_str, kit_list_list, kit_list_tuple, kit_list_dict, kit_tuple_bool, kit_tuple_int, kit_tuple_str, kit_tuple_list, kit_tuple_tuple, kit_tuple_dict, kit_dict_bool, kit_dict_int, kit_dict_str, kit_dict_list, kit_dict_tuple, kit_dict_dict, $a,*])
  | `(tactic| dsimp! [$a,*]) => `(tactic| ((try refine Later.mk ?_); simp! [$a,*]; repeat (refine Later.mk ?_; simp! [$a,*])))
section
variable {P : Program} {w : World} {K : PySem.W.Frag} {mg : Str → Option Value} {base : Heap} {A : Ad}
theorem KeptD.refl (d : Addr) (H : Hp) : KeptD d H H := fun _ _ e _ => e
theorem KeptD.trans {d : Addr} {H H1 H2 : Hp} (a : KeptD d H H1) (b : KeptD d H1 H2) : KeptD d H H2 := fun x o e n => b x o (a x o e n) n
theorem KeptD.same {d : Addr} {H H1 : Hp} (a : Same H H1) : KeptD d H H1 := fun x o e _ => a x o e
theorem KeptD.back {d : Addr} {H H1 : Hp} (a : KeptD d H H1) {b : Addr} (n : b ≠ d) (h : H1 b = none) : H b = none := by
  cases e : H b with
  | none => rfl
  | some o => rw [a b o e n] at h; cases h
theorem DrawAt.same {H H1 : Hp} {d : Addr} (a : Same H H1) (h : DrawAt H d) : DrawAt H1 d := by
  obtain ⟨ns, e, ok⟩ := h
  exact ⟨ns, a _ _ e, ok⟩
theorem DrawAt.put {H : Hp} {d b : Addr} {o : HO} (h : DrawAt H d) (n : d ≠ b) : DrawAt (upd H b o) d := by
  obtain ⟨ns, e, ok⟩ := h
  exact ⟨ns, by rw [upd_ne n]; exact e, ok⟩
theorem DrawAt.some {H : Hp} {d : Addr} (h : DrawAt H d) : ∃ o, H d = some o := by
  obtain ⟨ns, e, ok⟩ := h
  exact ⟨_, e⟩
theorem erase_perm {α : Type} : ∀ (ws : List α) (j : Nat) (h : j < ws.length), ([ws[j]] ++ ws.eraseIdx j).Perm ws
  | a :: ws, 0, h => List.Perm.refl _
  | a :: ws, j + 1, h => by
    have ih := erase_perm ws j (by simpa using h)
    simp only [List.getElem_cons_succ, List.eraseIdx_cons_succ, List.singleton_append] at ih ⊢
    exact (List.Perm.swap _ _ _).trans (List.Perm.cons a ih)
def spLMany (A : Ad) : Sp := fun vs H Q _ => ∃ (d : Addr), vs = [.ref d] ∧ DrawAt H d ∧ ∀ (x : Nat) H', 1 ≤ x → x ≤ 8 → KeptD d H H' → DrawAt H' d → Q (.int x) H'
theorem sc__law_many : FnScope ["_law_d"] ["_law_d"] (defScope s__law_many) := ⟨rfl, rfl, rfl, by decide +kernel, rfl, by decide +kernel, by decide +kernel⟩
theorem ok__law_many (T : Txt K mg base A) : FnOk P w K mg base CX0 2 A._law_many A.d__law_many ["_law_d"] (spLMany A) := by
  refine T.F__law_many.ok sc__law_many (fun vs H Q E h => ?_) (fun cdv A' outer s H vs Q E hr h => ?_)
  · obtain ⟨d, rfl, _⟩ := h
    rfl
  obtain ⟨d, rfl, hD, kk⟩ := h
  have hu := hu_of hr
  refine ⟨_, (pss_one (ps_ret (pe_ix ix_L (pe_lst (pa_cons pe_int (pa_cons pe_int (pa_cons pe_int (pa_cons (pe_op o_add pe_int (q_call (ok__law_off T) (hr.mono (by decide)) rfl T.g__law_off T.k__law_off T.b__law_off pass0 (pa_cons (qv 0) (pa_cons pe_int pa_nil)))) pa_nil))))) (q_call (ok__law_off T) (hr.mono (by decide)) rfl T.g__law_off T.k__law_off T.b__law_off pass0 (pa_cons (qv 0) (pa_cons pe_int pa_nil))) (fun _ _ => rfl)))), ?_⟩
  dsimp! []
  refine ⟨d, 8, rfl, hD, by decide, by decide, fun x H1 hx k1 D1 => ?_⟩
  dsimp! []
  refine ⟨by decide, fun p hp => ?_⟩
  have nd : d ≠ p := by
    obtain ⟨o, e⟩ := D1.some
    exact ne_of_none e hp
  refine ⟨d, 4, rfl, D1.put nd, by decide, by decide, fun y H2 hy k2 D2 => ?_⟩
  have hp2 : H2 p = some (.lst [V.int 8, V.int 5, V.int 4, V.int (1 + x)]) := k2 _ _ upd_same nd.symm
  have k3 : KeptD d H H2 := fun b o e n => k2 b o (by rw [upd_ne (ne_of_none (k1 b o e n) hp)]; exact k1 b o e n) n
  have hy4 : y = 0 ∨ y = 1 ∨ y = 2 ∨ y = 3 := by omega
  have e1 : (1 : Int) + (x : Nat) = ((1 + x : Nat) : Int) := by omega
  rcases hy4 with rfl | rfl | rfl | rfl
  · simp! [hp2, atI_nat (xs := [V.int 8, V.int 5, V.int 4, V.int (1 + x)]) (j := 0) (v := V.int 8) rfl]
    exact kk 8 H2 (by decide) (by decide) k3 D2
  · simp! [hp2, atI_nat (xs := [V.int 8, V.int 5, V.int 4, V.int (1 + x)]) (j := 1) (v := V.int 5) rfl]
    exact kk 5 H2 (by decide) (by decide) k3 D2
  · simp! [hp2, atI_nat (xs := [V.int 8, V.int 5, V.int 4, V.int (1 + x)]) (j := 2) (v := V.int 4) rfl]
    exact kk 4 H2 (by decide) (by decide) k3 D2
  · simp! [hp2, atI_nat (xs := [V.int 8, V.int 5, V.int 4, V.int (1 + x)]) (j := 3) (v := V.int (1 + x)) rfl]
    rw [e1]
    exact kk (1 + x) H2 (by omega) (by omega) k3 D2
def spMixed (A : Ad) : Sp := fun vs H Q _ => ∃ (d r : Addr) (ns : List Int), vs = [.ref d, .ref r] ∧ DrawAt H d ∧ H r = some (.lst (ns.map V.int)) ∧ ns.length ≤ 100 ∧ ∀ (f : Addr) (ms : List Int) H', H f = none → KeptD d H H' → DrawAt H' d → H' f = some (.lst (ms.map V.int)) → ms.Perm ns → Q (.ref f) H'
end
end OA

namespace OA
open PySem PySem.Spec PyProof.Rows L2
/-! draws: what may be changed -/
def amD (d : Addr) : Am := ⟨fun _ => True, fun b => b = d, fun H => DrawAt H d, fun H H' k _ h => by
  obtain ⟨ns, e, ok⟩ := h
  exact ⟨ns, by rw [k d rfl]; exact e, ok⟩, fun H b h hb => by
  obtain ⟨ns, e, _⟩ := h
  exact ⟨_, by rw [hb]; exact e, fun _ z => (by cases z), ncd_lst⟩⟩
instance amJ_D (d : Addr) : AmJ (amD d) := ⟨fun _ => True.intro⟩
section
variable {K : PySem.W.Frag} {A : Ad} {E0 : XK} {am : Am} {d : Addr} {tas : TA} {das : DA}
/-- the draws are of what may be changed -/
class DrawsIn (d : outParam Addr) (am : Am) : Prop where
  mem : am.M d
  get : ∀ H, am.I H → DrawAt H d
  put : ∀ H H', am.I H → KeptD d H H' → DrawAt H' d → am.I H'
instance drawsIn_1 (d : Addr) : DrawsIn d (amD d) := ⟨rfl, fun _ h => h, fun _ _ _ _ h => h⟩
instance drawsIn_at (d : Addr) (a : Am) (H : Hp) [s : DrawsIn d a] : DrawsIn d (a.at H) := ⟨s.mem, s.get, s.put⟩
instance drawsIn_2 (d : Addr) (b : Am) : DrawsIn d (amAnd (amD d) b) := ⟨.inl rfl, fun _ h => h.1, fun H H' i k h => ⟨h, b.keep i.2.1 (fun x o m e => k x o e fun z => i.2.2 x z m) (fun x o hc e => k x o e fun z => ((amD d).ex _ x i.1 z).nc e hc), i.2.2⟩⟩
theorem keptD_am [s : DrawsIn d am] {H H' : Hp} (k : KeptD d H H') : ∀ b o, ¬ am.M b → H b = some o → H' b = some o := fun b o n h => k b o h fun z => n (by rw [z]; exact s.mem)
theorem DEnv.drawn [s : DrawsIn d am] {c : Cq am} {T : List Tp} {σ : L2.St} {Γ : Gm} {Ω : Om} {H H' : Hp} (e : DEnv K c T σ Γ Ω H) (k : KeptD d H H') (h : DrawAt H' d) : DEnv K c T σ Γ Ω H' := e.step (keptD_am k) (s.put _ _ e.inv k h)
def dOff (d : Addr) (das : DA) (Γ : Gm) (Ω : Om) (Q : DQ) : Prop := das Γ Ω fun ws Ω1 => two2W ws fun x y => x = .pt d ∧ intW y fun i => (1 ≤ i ∧ i ≤ 1000) ∧ ∀ n : Nat, (n : Int) < i → Q (.sh (.int n)) Ω1
instance c_off [sd : DrawsIn d am] [s1 : SA K am tas das] : SE K am (vCall (spOff A) E0 tas) (dOff d das) := ⟨fun {c T σ Γ Ω H Q R} e h k =>
  s1.run e h fun vs ws Ω1 H1 h1 e1 hv => by
    obtain ⟨w, v, w2, v2, rfl, hw, hw2, rfl, h2⟩ := two2W_el h1 hv
    obtain ⟨i, rfl, ⟨i1, i2⟩, h3⟩ := intW_el h2
    obtain rfl : v = .ref d := hw
    obtain rfl : v2 = .int i := hw2
    obtain ⟨m, rfl⟩ := Int.eq_ofNat_of_zero_le (show 0 ≤ i by omega)
    refine ⟨d, m, rfl, sd.get _ e1.inv, by omega, by omega, fun x H' hx kd hd => k _ _ _ _ (h3 x (by omega)) ((e1.drawn kd hd).addv rfl)⟩⟩
def dMany (d : Addr) (das : DA) (Γ : Gm) (Ω : Om) (Q : DQ) : Prop := das Γ Ω fun ws Ω1 => one1W ws fun x => x = .pt d ∧ ∀ n : Nat, 1 ≤ n → n ≤ 8 → Q (.sh (.int n)) Ω1
instance c_many [sd : DrawsIn d am] [s1 : SA K am tas das] : SE K am (vCall (spLMany A) E0 tas) (dMany d das) := ⟨fun {c T σ Γ Ω H Q R} e h k =>
  s1.run e h fun vs ws Ω1 H1 h1 e1 hv => by
    obtain ⟨w, v, rfl, hw, rfl, h2⟩ := one1W_el h1 hv
    obtain rfl : v = .ref d := hw
    exact ⟨d, rfl, sd.get _ e1.inv, fun x H' h1 h8 kd hd => k _ _ _ _ (h2 x h1 h8) ((e1.drawn kd hd).addv rfl)⟩⟩
theorem lay_nums {H : Hp} {E : Addr → Prop} (ns : List Int) : LayL K H E (ns.map .int) (ns.map V.int) := ints_lay ns
def dMixed (d : Addr) (das : DA) (Γ : Gm) (Ω : Om) (Q : DQ) : Prop := das Γ Ω fun ws Ω1 => two2W ws fun x y => x = .pt d ∧ seqW Ω1 y fun us => shsW us fun ds => intsD ds fun ns => ns.length ≤ 100 ∧ ∀ ms : List Int, ms.Perm ns → Q (.sh (.lst (ms.map .int))) Ω1
instance c_mixed [sd : DrawsIn d am] [s1 : SA K am tas das] : SE K am (vCall (spMixed A) E0 tas) (dMixed d das) := ⟨fun {c T σ Γ Ω H Q R} e h k =>
  s1.run e h fun vs ws Ω1 H1 h1 e1 hv => by
    obtain ⟨w, v, w2, v2, rfl, hw, hw2, rfl, h2⟩ := two2W_el h1 hv
    obtain rfl : v = .ref d := hw
    obtain ⟨a, vs, us, rfl, ha, hu, h3⟩ := seqW_el e1 hw2 h2
    obtain ⟨ds, rfl, h4⟩ := shsW_el h3
    obtain ⟨ns, rfl, hl, h5⟩ := intsD_el h4
    have := lay_ints hu.lay
    subst this
    refine ⟨d, a, ns, rfl, sd.get _ e1.inv, ha, hl, fun f ms H' hf kd hd hm pm => ?_⟩
    have e2 := e1.drawn kd hd
    have nf : ¬ Ex c Ω1 f := e1.noEx hf
    exact k _ _ _ _ (h5 ms pm) (e2.addv ⟨f, _, rfl, nf, hm, ints_lay ms⟩)⟩
def wlK (wl : WL) : List Key := wl.map fun x => Sum.inl (x.1 : Int)
def wlD (wl : WL) : List D := wl.map fun x => .int (x.2 : Nat)
def wlW (wl : WL) : List W := (wlD wl).map .sh
theorem wkv_zip (wl : WL) : wkv wl = (wlK wl).zip (wl.map fun x => V.int (x.2 : Nat)) := by
  unfold wkv wlK
  rw [List.zip_map']
theorem wl_oks {H : Hp} {E : Addr → Prop} (wl : WL) : VOks K H E (wlW wl) (wl.map fun x => V.int (x.2 : Nat)) := by
  refine VOks.sh_of ?_
  unfold wlD
  induction wl with
  | nil => exact rfl
  | cons x wl ih => exact ⟨_, _, rfl, rfl, ih⟩
theorem wl_lay_eq {H : Hp} {E : Addr → Prop} {wl : WL} {vs : List V} (h : LayL K H E (wlD wl) vs) : vs = wl.map fun x => V.int (x.2 : Nat) := by
  unfold wlD at h
  induction wl generalizing vs with
  | nil => exact h
  | cons x wl ih =>
    obtain ⟨v, r, rfl, h1, h2⟩ := h
    rw [show v = .int _ from h1, ih h2]
    rfl
theorem wl_oks_eq {H : Hp} {E : Addr → Prop} {wl : WL} {vs : List V} (h : VOks K H E (wlW wl) vs) : vs = wl.map fun x => V.int (x.2 : Nat) := wl_lay_eq h.lay
theorem same_am {am : Am} {H H' : Hp} (k : Same H H') : ∀ b o, ¬ am.M b → H b = some o → H' b = some o := fun b o _ h => k b o h
theorem same_inv {am : Am} {H H' : Hp} (k : Same H H') (i : am.I H) : am.I H' := am.loc H H' (fun b m => by
  obtain ⟨o, e, _⟩ := am.ex H b i m
  rw [e, k _ _ e]) (fun b o _ e => k b o e) i
theorem DEnv.same {am : Am} {c : Cq am} {T : List Tp} {σ : L2.St} {Γ : Gm} {Ω : Om} {H H' : Hp} (e : DEnv K c T σ Γ Ω H) (k : Same H H') : DEnv K c T σ Γ Ω H' := e.step (same_am k) (same_inv k e.inv)
theorem lookup_mem {wl : WL} (nd : (wl.map (·.1)).Nodup) {x : Nat × Nat} (h : x ∈ wl) : wl.lookup x.1 = some x.2 := by
  induction wl with
  | nil => simp at h
  | cons y wl ih =>
    rw [List.map_cons, List.nodup_cons] at nd
    rcases List.mem_cons.mp h with rfl | h
    · simp [List.lookup]
    · have : ¬ x.1 = y.1 := fun z => nd.1 (by rw [← z]; exact List.mem_map.mpr ⟨x, h, rfl⟩)
      have e : (x.1 == y.1) = false := by simp [this]
      simp only [List.lookup, e]
      exact ih nd.2 h
end
end OA

namespace OA
open PySem L2
local macro_rules
  | `(tactic| simp! [$a,*]) => `(tactic| simp -implicitDefEqProofs only [wNeD0, wRep, tDNewK, vDc, wSortDI, dkR_e, dkR_f, e_cut, wSetL, vLstRg, wLstD, e_lock, vVals, gSub, tCKw, frzO_e, viItems, viKeys, vRev, e_while, e_for, e_asgG, gName, vgTup, vgCons_e, vgNil_e, viList, viTup, viStr, viR1, viEnum, vLc, tYes, wipe, e_seq, e_next, e_drop, e_ret, e_retN, e_sfld, e_augI, e_aug, e_dput, vIf, vTest, wInT, vVar, vFld, tC, tOp, tUn, wI0, wIC, rEq, rNe, scal, wAddS, wMulS, wCat, wNeg, wIxL, wIxT, wIxS, vPart, tNoPart, tSl, wSlL, tCB, tCons, tNil, len_s, wTupL, wLstL, wAbs, wIntB, wMin2, wMax2, vAnd, vOr, vNot, vChain, vMeth, vCall, vMake, vLM0, vLM, isLst, wAppend, wPopAt, wInsert0, vStar, vDGet, vDIn, vDNotIn, tTup, tLst, tIf, tAnd, tOr, tNot, refR_e, intR_e, blR_e, strR_e, optR_e, keyR_i, keyR_s, insO_e, lstO_e, tupO_e, tupO_f, dkO_e, one1_e, two2_e, len_r, lenO_l, lenO_t, lenO_f, lenO_d, L2.start, List.map, List.replicate, List.length_cons, List.length_nil, List.cons_append, List.nil_append, List.append_nil, List.getElem?_cons_zero, List.getElem?_cons_succ, List.set_cons_zero, List.set_cons_succ, true_and, and_true, cx_K, cx_prog, cx_w, blkK, Int.toNat_natCast, upd_same, upd_upd, if_true, if_false, decide_eq_true_eq, reduceCtorEq, reduceIte, Bool.false_eq_true, decide_true, decide_false, Bool.true_and, Bool.false_and, Bool.and_true, Bool.and_false, Bool.not_true, Bool.not_false, V.int.injEq, V.str.injEq, V.bl.injEq, putF_nil, Nat.reduceAdd, Nat.reduceSub, Nat.reduceLT, Int.reduceEq, Int.reduceLT, Int.reduceLE, Int.reduceAdd, Int.reduceSub, Int.cast_ofNat_Int, wIsi, tyR_e, tyO_l, tyO_t, tyO_f, tyO_d, tyN_n, tyN_b, tyN_i, tyN_s, tyN_r, kit_NoneType_bool, kit_NoneType_int, kit_NoneType_str, kit_NoneType_list, kit_NoneType_tuple, kit_NoneType_dict, kit_bool_bool, kit_bool_int, kit_bool_str, kit_bool_list, kit_bool_tuple, kit_bool_dict, kit_int_bool, kit_int_int, kit_int_str, kit_int_list, kit_int_tuple, kit_int_dict, kit_str_bool, kit_str_int, kit_str_str, kit_str_list, kit_str_tuple, kit_str_dict, kit_list_bool, kit_list_int, kit_list_str, kit_list_list, kit_list_tuple, kit_list_dict, kit_tuple_bool, kit_tuple_int, kit_tuple_str, kit_tuple_list, kit_tuple_tuple, kit_tuple_dict, kit_dict_bool, kit_dict_int, kit_dict_str, kit_dict_list, kit_dict_tuple, kit_dict_dict, $a,*])
  | `(tactic| dsimp! [$a,*]) => `(tactic| ((try refine Later.mk ?_); simp! [$a,*]; repeat (refine Later.mk ?_; simp! [$a,*])))
def flatE : V → Bool
  | .non => true
  | .bl _ => true
  | .int _ => true
  | .str _ => true
  | _ => false
def Alike (H : Hp) : Nat → V → V → Prop
  | 0, x, y => x = y ∧ flatE x = true
  | n + 1, x, y => (x = y ∧ flatE x = true) ∨ (∃ a b xs ys, x = .ref a ∧ y = .ref b ∧ Rd H a (.tup xs) ∧ Rd H b (.tup ys) ∧ xs.length = ys.length ∧ ys.length ≤ 10000 ∧ ∀ (k : Nat) (u v : V), xs[k]? = some u → ys[k]? = some v → Alike H n u v) ∨
    (∃ a b xs ys, x = .ref a ∧ y = .ref b ∧ H a = some (.lst xs) ∧ H b = some (.lst ys) ∧ xs.length = ys.length ∧ ys.length ≤ 10000 ∧ ∀ (k : Nat) (u v : V), xs[k]? = some u → ys[k]? = some v → Alike H n u v) ∨
    ∃ a b kvs kws, x = .ref a ∧ y = .ref b ∧ H a = some (.dK kvs) ∧ H b = some (.dK kws) ∧ kvs.length = kws.length ∧ kws.length ≤ 10000 ∧ a ≠ b ∧ ∀ kw ∈ kws, valV kvs kw.1 = some kw.2 ∧ valV kws kw.1 = some kw.2 ∧ flatE kw.2 = true
theorem Alike.same {H H' : Hp} (s : Same H H') : ∀ (n : Nat) (x y : V), Alike H n x y → Alike H' n x y
  | 0, x, y, h => h
  | n + 1, x, y, h => by
    rcases h with h | ⟨a, b, xs, ys, e1, e2, h1, h2, h3, h4, h5⟩ | ⟨a, b, xs, ys, e1, e2, h1, h2, h3, h4, h5⟩ | ⟨a, b, xs, ys, e1, e2, h1, h2, h3, h4, h6, h5⟩
    · exact .inl h
    · exact .inr (.inl ⟨a, b, xs, ys, e1, e2, h1.imp (s _ _) fun ⟨o, h⟩ => ⟨o, s _ _ h⟩, h2.imp (s _ _) fun ⟨o, h⟩ => ⟨o, s _ _ h⟩, h3, h4, fun k u v q1 q2 => Alike.same s n u v (h5 k u v q1 q2)⟩)
    · exact .inr (.inr (.inl ⟨a, b, xs, ys, e1, e2, s _ _ h1, s _ _ h2, h3, h4, fun k u v q1 q2 => Alike.same s n u v (h5 k u v q1 q2)⟩))
    · refine .inr (.inr (.inr ⟨a, b, xs, ys, e1, e2, s _ _ h1, s _ _ h2, h3, h4, h6, h5⟩))
theorem Alike.flat {H : Hp} {x : V} (h : flatE x = true) : ∀ n, Alike H n x x
  | 0 => ⟨rfl, h⟩
  | n + 1 => .inl ⟨rfl, h⟩
def trues (i : Nat) : List V := (List.replicate i true).map V.bl
theorem trues_succ (i : Nat) : trues i ++ [V.bl true] = trues (i + 1) := by
  unfold trues
  rw [List.replicate_succ', List.map_append]
  rfl
theorem trues_len (i : Nat) : (trues i).length = i := by
  unfold trues
  rw [List.length_map, List.length_replicate]
section
variable {P : Program} {w : World} {K : PySem.W.Frag} {mg : Str → Option Value} {base : Heap} {A : Ad}
def spAlike (n : Nat) : Sp := fun vs H Q _ => ∃ (x y : V), vs = [x, y] ∧ Alike H n x y ∧ ∀ H', Same H H' → Q (.bl true) H'
theorem sc__law_alike : FnScope ["_law_found", "_law_due", "_law_name", "_law_k"] ["_law_found", "_law_due"] (defScope s__law_alike) := ⟨rfl, rfl, rfl, by decide +kernel, rfl, by decide +kernel, by decide +kernel⟩
theorem alike_0 (T : Txt K mg base A) : FnOk P w K mg base CX0 1 A._law_alike A.d__law_alike ["_law_found", "_law_due"] (spAlike 0) := by
  refine T.F__law_alike.ok sc__law_alike (fun vs H Q E h => ?_) (fun cdv A' outer s H vs Q E hr h => ?_)
  · obtain ⟨x, y, rfl, _⟩ := h
    rfl
  obtain ⟨x, y, rfl, ⟨rfl, fl⟩, kk⟩ := h
  have hu := hu_of hr
  refine ⟨_, (qs_cons (q_if (q_cmp op_isN (qv 1) pe_non (nomark _)) (pss_one (ps_ret (pe_cmpR op_isN (qv 0) pe_non (nomark _)))) pss_nil)
    (qs_cons (q_if (q_val (pe_callB c_isi (by rfl) T.m_isinstance (by decide +kernel) (pa_cons (qv 1) (pa_cons (pe_bltn (v := .ty "bool") (by rfl) T.m_bool (by decide +kernel) rfl) pa_nil)))) (pss_one (ps_ret (q_and (pe_callB c_isi (by rfl) T.m_isinstance (by decide +kernel) (pa_cons (qv 0) (pa_cons (pe_bltn (v := .ty "bool") (by rfl) T.m_bool (by decide +kernel) rfl) pa_nil))) (pe_one (pe_cmpR op_eq (qv 0) (qv 1) (nomark _)))))) pss_nil)
    (qs_cons (q_if (q_val (pe_callB c_isi (by rfl) T.m_isinstance (by decide +kernel) (pa_cons (qv 1) (pa_cons (pe_bltn (v := .ty "int") (by rfl) T.m_int (by decide +kernel) rfl) pa_nil)))) (pss_one (ps_ret (q_and (pe_callB c_isi (by rfl) T.m_isinstance (by decide +kernel) (pa_cons (qv 0) (pa_cons (pe_bltn (v := .ty "int") (by rfl) T.m_int (by decide +kernel) rfl) pa_nil))) (q_and (q_not (pe_callB c_isi (by rfl) T.m_isinstance (by decide +kernel) (pa_cons (qv 0) (pa_cons (pe_bltn (v := .ty "bool") (by rfl) T.m_bool (by decide +kernel) rfl) pa_nil)))) (pe_one (pe_cmpR op_eq (qv 0) (qv 1) (nomark _))))))) pss_nil)
    (qs_cons (q_if (q_val (pe_callB c_isi (by rfl) T.m_isinstance (by decide +kernel) (pa_cons (qv 1) (pa_cons (pe_bltn (v := .ty "str") (by rfl) T.m_str (by decide +kernel) rfl) pa_nil)))) (pss_one (ps_ret (q_and (pe_callB c_isi (by rfl) T.m_isinstance (by decide +kernel) (pa_cons (qv 0) (pa_cons (pe_bltn (v := .ty "str") (by rfl) T.m_str (by decide +kernel) rfl) pa_nil))) (pe_one (pe_cmpR op_eq (qv 0) (qv 1) (nomark _)))))) pss_nil)
    (qs_cons ps_never
    (qs_cons (q_if (PW.pt (pw_or (q_cmp op_ne (pe_callB c_isi (by rfl) T.m_isinstance (by decide +kernel) (pa_cons (qv 1) (pa_cons (pe_bltn (v := .ty "tuple") (by rfl) T.m_tuple (by decide +kernel) rfl) pa_nil))) (pe_callB c_isi (by rfl) T.m_isinstance (by decide +kernel) (pa_cons (qv 0) (pa_cons (pe_bltn (v := .ty "tuple") (by rfl) T.m_tuple (by decide +kernel) rfl) pa_nil))) (nomark _)) (pw_or1 (q_cmp op_ne (pe_callB c_isi (by rfl) T.m_isinstance (by decide +kernel) (pa_cons (qv 1) (pa_cons (pe_bltn (v := .ty "list") (by rfl) T.m_list (by decide +kernel) rfl) pa_nil))) (pe_callB c_isi (by rfl) T.m_isinstance (by decide +kernel) (pa_cons (qv 0) (pa_cons (pe_bltn (v := .ty "list") (by rfl) T.m_list (by decide +kernel) rfl) pa_nil))) (nomark _))))) (pss_one (ps_ret pe_bl)) pss_nil)
    (qs_cons (q_if (q_cmp op_ne (pe_callB c_len (by rfl) T.m_len (by decide +kernel) (pa_cons (qv 0) pa_nil)) (pe_callB c_len (by rfl) T.m_len (by decide +kernel) (pa_cons (qv 1) pa_nil)) (nomark _)) (pss_one (ps_ret pe_bl)) pss_nil)
    (pss_one ps_never)))))))), ?_⟩
  cases x with
  | non =>
    dsimp! []
    exact kk _ (fun _ _ e => e)
  | bl b =>
    dsimp! []
    exact kk _ (fun _ _ e => e)
  | int b =>
    dsimp! []
    exact kk _ (fun _ _ e => e)
  | str b =>
    dsimp! []
    exact kk _ (fun _ _ e => e)
  | _ => cases fl
theorem alike_s (T : Txt K mg base A) (n : Nat) (G : FnOk P w K mg base CX0 (n + 1) A._law_alike A.d__law_alike ["_law_found", "_law_due"] (spAlike n)) : FnOk P w K mg base CX0 (n + 2) A._law_alike A.d__law_alike ["_law_found", "_law_due"] (spAlike (n + 1)) := by
  refine T.F__law_alike.ok sc__law_alike (fun vs H Q E h => ?_) (fun cdv A' outer s H vs Q E hr h => ?_)
  · obtain ⟨x, y, rfl, _⟩ := h
    rfl
  obtain ⟨x, y, rfl, al, kk⟩ := h
  have hu := hu_of hr
  have allT : ∀ i : Nat, (List.replicate i true).all id = true := fun i => by
    induction i with
    | zero => rfl
    | succ i ih => rw [List.replicate_succ, List.all_cons, ih]; rfl
  have small : ∀ m : Nat, m ≤ 10000 → m < sizeLine := fun m h => by rw [sizeLine_eq]; omega
  rcases al with ⟨rfl, fl⟩ | ⟨a, b, xs, ys, rfl, rfl, ha, hb, hl, h1, hk⟩ | ⟨a, b, xs, ys, rfl, rfl, ha, hb, hl, h1, hk⟩ | ⟨a, b, kvs, kws, rfl, rfl, ha, hb, hl, h1, nab, hk⟩
  · refine ⟨_, (qs_cons (q_if (q_cmp op_isN (qv 1) pe_non (nomark _)) (pss_one (ps_ret (pe_cmpR op_isN (qv 0) pe_non (nomark _)))) pss_nil)
    (qs_cons (q_if (q_val (pe_callB c_isi (by rfl) T.m_isinstance (by decide +kernel) (pa_cons (qv 1) (pa_cons (pe_bltn (v := .ty "bool") (by rfl) T.m_bool (by decide +kernel) rfl) pa_nil)))) (pss_one (ps_ret (q_and (pe_callB c_isi (by rfl) T.m_isinstance (by decide +kernel) (pa_cons (qv 0) (pa_cons (pe_bltn (v := .ty "bool") (by rfl) T.m_bool (by decide +kernel) rfl) pa_nil))) (pe_one (pe_cmpR op_eq (qv 0) (qv 1) (nomark _)))))) pss_nil)
    (qs_cons (q_if (q_val (pe_callB c_isi (by rfl) T.m_isinstance (by decide +kernel) (pa_cons (qv 1) (pa_cons (pe_bltn (v := .ty "int") (by rfl) T.m_int (by decide +kernel) rfl) pa_nil)))) (pss_one (ps_ret (q_and (pe_callB c_isi (by rfl) T.m_isinstance (by decide +kernel) (pa_cons (qv 0) (pa_cons (pe_bltn (v := .ty "int") (by rfl) T.m_int (by decide +kernel) rfl) pa_nil))) (q_and (q_not (pe_callB c_isi (by rfl) T.m_isinstance (by decide +kernel) (pa_cons (qv 0) (pa_cons (pe_bltn (v := .ty "bool") (by rfl) T.m_bool (by decide +kernel) rfl) pa_nil)))) (pe_one (pe_cmpR op_eq (qv 0) (qv 1) (nomark _))))))) pss_nil)
    (qs_cons (q_if (q_val (pe_callB c_isi (by rfl) T.m_isinstance (by decide +kernel) (pa_cons (qv 1) (pa_cons (pe_bltn (v := .ty "str") (by rfl) T.m_str (by decide +kernel) rfl) pa_nil)))) (pss_one (ps_ret (q_and (pe_callB c_isi (by rfl) T.m_isinstance (by decide +kernel) (pa_cons (qv 0) (pa_cons (pe_bltn (v := .ty "str") (by rfl) T.m_str (by decide +kernel) rfl) pa_nil))) (pe_one (pe_cmpR op_eq (qv 0) (qv 1) (nomark _)))))) pss_nil)
    (qs_cons (q_if (q_val (pe_callB c_isi (by rfl) T.m_isinstance (by decide +kernel) (pa_cons (qv 1) (pa_cons (pe_bltn (v := .ty "dict") (by rfl) T.m_dict (by decide +kernel) rfl) pa_nil)))) (qs_cons (q_if (PW.pt (pw_or (pt_not (q_val (pe_callB c_isi (by rfl) T.m_isinstance (by decide +kernel) (pa_cons (qv 0) (pa_cons (pe_bltn (v := .ty "dict") (by rfl) T.m_dict (by decide +kernel) rfl) pa_nil))))) (pw_or1 (q_cmp op_ne (pe_callB c_len (by rfl) T.m_len (by decide +kernel) (pa_cons (qv 0) pa_nil)) (pe_callB c_len (by rfl) T.m_len (by decide +kernel) (pa_cons (qv 1) pa_nil)) (nomark _))))) (pss_one (ps_ret pe_bl)) pss_nil)
    (pss_one (ps_ret (pe_callB (cr_all rfl) (by rfl) T.m_all (by decide +kernel) (pa_cons (pe_lock (q_lc (own := [("_law_name", 2)]) (g := gName 2) (tt := tYes) rfl sc__law_alike.nd (qi_keys (qv 1)) (blkOk_by (own := [("_law_name", 2)]) (N := ["_law_found", "_law_due", "_law_name", "_law_k"]) (sc := defScope s__law_alike) (by decide +kernel)) (fun _ _ _ _ _ => (pg_name (i := 2) sc__law_alike.nd rfl (Or.inl rfl))) (fun _ _ _ _ _ => pts_nil) (fun _ _ _ _ _ => (q_and (q_din hu (qv 2) (qv 0)) (pe_one (q_call G hr rfl T.g__law_alike T.k__law_alike T.b__law_alike pass0 (pa_cons (q_dget hu (qv 0) (qv 2) (fun _ _ => rfl)) (pa_cons (q_dget hu (qv 1) (qv 2) (fun _ _ => rfl)) pa_nil)))))))) pa_nil))))) pss_nil)
    (qs_cons (q_if (PW.pt (pw_or (q_cmp op_ne (pe_callB c_isi (by rfl) T.m_isinstance (by decide +kernel) (pa_cons (qv 1) (pa_cons (pe_bltn (v := .ty "tuple") (by rfl) T.m_tuple (by decide +kernel) rfl) pa_nil))) (pe_callB c_isi (by rfl) T.m_isinstance (by decide +kernel) (pa_cons (qv 0) (pa_cons (pe_bltn (v := .ty "tuple") (by rfl) T.m_tuple (by decide +kernel) rfl) pa_nil))) (nomark _)) (pw_or1 (q_cmp op_ne (pe_callB c_isi (by rfl) T.m_isinstance (by decide +kernel) (pa_cons (qv 1) (pa_cons (pe_bltn (v := .ty "list") (by rfl) T.m_list (by decide +kernel) rfl) pa_nil))) (pe_callB c_isi (by rfl) T.m_isinstance (by decide +kernel) (pa_cons (qv 0) (pa_cons (pe_bltn (v := .ty "list") (by rfl) T.m_list (by decide +kernel) rfl) pa_nil))) (nomark _))))) (pss_one (ps_ret pe_bl)) pss_nil)
    (qs_cons (q_if (q_cmp op_ne (pe_callB c_len (by rfl) T.m_len (by decide +kernel) (pa_cons (qv 0) pa_nil)) (pe_callB c_len (by rfl) T.m_len (by decide +kernel) (pa_cons (qv 1) pa_nil)) (nomark _)) (pss_one (ps_ret pe_bl)) pss_nil)
    (pss_one (ps_ret (pe_callB (cr_all rfl) (by rfl) T.m_all (by decide +kernel) (pa_cons (q_lc (own := [("_law_k", 3)]) (g := gName 3) (tt := tYes) rfl sc__law_alike.nd (qi_r1 (by rfl) T.m_range (pa_cons (pe_callB c_len (by rfl) T.m_len (by decide +kernel) (pa_cons (qv 1) pa_nil)) pa_nil)) (blkOk_by (own := [("_law_k", 3)]) (N := ["_law_found", "_law_due", "_law_name", "_law_k"]) (sc := defScope s__law_alike) (by decide +kernel)) (fun _ _ _ _ _ => (pg_name (i := 3) sc__law_alike.nd rfl (Or.inl rfl))) (fun _ _ _ _ _ => pts_nil) (fun _ _ _ _ _ => (q_call G hr rfl T.g__law_alike T.k__law_alike T.b__law_alike pass0 (pa_cons (pe_ix ix_L (qv 0) (qv 3) (fun _ _ => rfl)) (pa_cons (pe_ix ix_L (qv 1) (qv 3) (fun _ _ => rfl)) pa_nil))))) pa_nil))))))))))), ?_⟩
    cases x with
    | non =>
      dsimp! []
      exact kk _ (fun _ _ e => e)
    | bl b =>
      dsimp! []
      exact kk _ (fun _ _ e => e)
    | int b =>
      dsimp! []
      exact kk _ (fun _ _ e => e)
    | str b =>
      dsimp! []
      exact kk _ (fun _ _ e => e)
    | _ => cases fl
  · rcases ha with ha | ⟨oa, ha⟩ <;> rcases hb with hb | ⟨ob, hb⟩
    all_goals
      refine ⟨_, (qs_cons (q_if (q_cmp op_isN (qv 1) pe_non (nomark _)) (pss_one (ps_ret (pe_cmpR op_isN (qv 0) pe_non (nomark _)))) pss_nil)
    (qs_cons (q_if (q_val (pe_callB c_isi (by rfl) T.m_isinstance (by decide +kernel) (pa_cons (qv 1) (pa_cons (pe_bltn (v := .ty "bool") (by rfl) T.m_bool (by decide +kernel) rfl) pa_nil)))) (pss_one (ps_ret (q_and (pe_callB c_isi (by rfl) T.m_isinstance (by decide +kernel) (pa_cons (qv 0) (pa_cons (pe_bltn (v := .ty "bool") (by rfl) T.m_bool (by decide +kernel) rfl) pa_nil))) (pe_one (pe_cmpR op_eq (qv 0) (qv 1) (nomark _)))))) pss_nil)
    (qs_cons (q_if (q_val (pe_callB c_isi (by rfl) T.m_isinstance (by decide +kernel) (pa_cons (qv 1) (pa_cons (pe_bltn (v := .ty "int") (by rfl) T.m_int (by decide +kernel) rfl) pa_nil)))) (pss_one (ps_ret (q_and (pe_callB c_isi (by rfl) T.m_isinstance (by decide +kernel) (pa_cons (qv 0) (pa_cons (pe_bltn (v := .ty "int") (by rfl) T.m_int (by decide +kernel) rfl) pa_nil))) (q_and (q_not (pe_callB c_isi (by rfl) T.m_isinstance (by decide +kernel) (pa_cons (qv 0) (pa_cons (pe_bltn (v := .ty "bool") (by rfl) T.m_bool (by decide +kernel) rfl) pa_nil)))) (pe_one (pe_cmpR op_eq (qv 0) (qv 1) (nomark _))))))) pss_nil)
    (qs_cons (q_if (q_val (pe_callB c_isi (by rfl) T.m_isinstance (by decide +kernel) (pa_cons (qv 1) (pa_cons (pe_bltn (v := .ty "str") (by rfl) T.m_str (by decide +kernel) rfl) pa_nil)))) (pss_one (ps_ret (q_and (pe_callB c_isi (by rfl) T.m_isinstance (by decide +kernel) (pa_cons (qv 0) (pa_cons (pe_bltn (v := .ty "str") (by rfl) T.m_str (by decide +kernel) rfl) pa_nil))) (pe_one (pe_cmpR op_eq (qv 0) (qv 1) (nomark _)))))) pss_nil)
    (qs_cons (q_if (q_val (pe_callB c_isi (by rfl) T.m_isinstance (by decide +kernel) (pa_cons (qv 1) (pa_cons (pe_bltn (v := .ty "dict") (by rfl) T.m_dict (by decide +kernel) rfl) pa_nil)))) (qs_cons (q_if (PW.pt (pw_or (pt_not (q_val (pe_callB c_isi (by rfl) T.m_isinstance (by decide +kernel) (pa_cons (qv 0) (pa_cons (pe_bltn (v := .ty "dict") (by rfl) T.m_dict (by decide +kernel) rfl) pa_nil))))) (pw_or1 (q_cmp op_ne (pe_callB c_len (by rfl) T.m_len (by decide +kernel) (pa_cons (qv 0) pa_nil)) (pe_callB c_len (by rfl) T.m_len (by decide +kernel) (pa_cons (qv 1) pa_nil)) (nomark _))))) (pss_one (ps_ret pe_bl)) pss_nil)
    (pss_one (ps_ret (pe_callB (cr_all rfl) (by rfl) T.m_all (by decide +kernel) (pa_cons (pe_lock (q_lc (own := [("_law_name", 2)]) (g := gName 2) (tt := tYes) rfl sc__law_alike.nd (qi_keys (qv 1)) (blkOk_by (own := [("_law_name", 2)]) (N := ["_law_found", "_law_due", "_law_name", "_law_k"]) (sc := defScope s__law_alike) (by decide +kernel)) (fun _ _ _ _ _ => (pg_name (i := 2) sc__law_alike.nd rfl (Or.inl rfl))) (fun _ _ _ _ _ => pts_nil) (fun _ _ _ _ _ => (q_and (q_din hu (qv 2) (qv 0)) (pe_one (q_call G hr rfl T.g__law_alike T.k__law_alike T.b__law_alike pass0 (pa_cons (q_dget hu (qv 0) (qv 2) (fun _ _ => rfl)) (pa_cons (q_dget hu (qv 1) (qv 2) (fun _ _ => rfl)) pa_nil)))))))) pa_nil))))) pss_nil)
    (qs_cons (q_if (PW.pt (pw_or (q_cmp op_ne (pe_callB c_isi (by rfl) T.m_isinstance (by decide +kernel) (pa_cons (qv 1) (pa_cons (pe_bltn (v := .ty "tuple") (by rfl) T.m_tuple (by decide +kernel) rfl) pa_nil))) (pe_callB c_isi (by rfl) T.m_isinstance (by decide +kernel) (pa_cons (qv 0) (pa_cons (pe_bltn (v := .ty "tuple") (by rfl) T.m_tuple (by decide +kernel) rfl) pa_nil))) (nomark _)) (pw_or1 (q_cmp op_ne (pe_callB c_isi (by rfl) T.m_isinstance (by decide +kernel) (pa_cons (qv 1) (pa_cons (pe_bltn (v := .ty "list") (by rfl) T.m_list (by decide +kernel) rfl) pa_nil))) (pe_callB c_isi (by rfl) T.m_isinstance (by decide +kernel) (pa_cons (qv 0) (pa_cons (pe_bltn (v := .ty "list") (by rfl) T.m_list (by decide +kernel) rfl) pa_nil))) (nomark _))))) (pss_one (ps_ret pe_bl)) pss_nil)
    (qs_cons (q_if (q_cmp op_ne (pe_callB c_len (by rfl) T.m_len (by decide +kernel) (pa_cons (qv 0) pa_nil)) (pe_callB c_len (by rfl) T.m_len (by decide +kernel) (pa_cons (qv 1) pa_nil)) (nomark _)) (pss_one (ps_ret pe_bl)) pss_nil)
    (pss_one (ps_ret (pe_callB (cr_all rfl) (by rfl) T.m_all (by decide +kernel) (pa_cons (q_lc (own := [("_law_k", 3)]) (g := gName 3) (tt := tYes) rfl sc__law_alike.nd (qi_r1 (by rfl) T.m_range (pa_cons (pe_callB c_len (by rfl) T.m_len (by decide +kernel) (pa_cons (qv 1) pa_nil)) pa_nil)) (blkOk_by (own := [("_law_k", 3)]) (N := ["_law_found", "_law_due", "_law_name", "_law_k"]) (sc := defScope s__law_alike) (by decide +kernel)) (fun _ _ _ _ _ => (pg_name (i := 3) sc__law_alike.nd rfl (Or.inl rfl))) (fun _ _ _ _ _ => pts_nil) (fun _ _ _ _ _ => (q_call G hr rfl T.g__law_alike T.k__law_alike T.b__law_alike pass0 (pa_cons (pe_ix ix_T (qv 0) (qv 3) (fun _ _ => rfl)) (pa_cons (pe_ix ix_T (qv 1) (qv 3) (fun _ _ => rfl)) pa_nil))))) pa_nil))))))))))), ?_⟩
      dsimp! [ha, hb, hl, eq_self]
      refine ⟨⟨by omega, by omega⟩, fun D hD => ⟨_, _, _, fun i H1 => H1 D = some (.lst (trues i)) ∧ Same H H1, walk_range (lo := 0) (n := ys.length), ⟨upd_same, Same.new hD⟩, fun _ _ _ _ => True.intro, ?_, ?_⟩⟩
      · rintro i z H1 H2 hi ⟨hD1, s1⟩ ⟨rfl, rfl⟩
        have e0 : (0 : Int) + (i : Nat) = (i : Nat) := Int.zero_add _
        obtain ⟨v, hv⟩ : ∃ v, ys[i]? = some v := ⟨_, List.getElem?_eq_getElem hi⟩
        obtain ⟨u, hu1⟩ : ∃ u, xs[i]? = some u := ⟨_, List.getElem?_eq_getElem (by omega)⟩
        have ha1 := s1 _ _ ha
        have hb1 := s1 _ _ hb
        simp! [e0, ha1, hb1, atI_nat hv, atI_nat hu1]
        refine ⟨u, v, rfl, Alike.same s1 n u v (hk i u v hu1 hv), fun H3 s3 => ?_⟩
        have hD3 := s3 _ _ hD1
        simp! [hD3]
        refine ⟨by rw [trues_len]; exact small _ (by omega), by rw [trues_succ], fun b' o e => ?_⟩
        rw [upd_ne (ne_of_none e hD)]
        exact s3 _ _ (s1 _ _ e)
      · rintro H1 ⟨hD1, s1⟩
        refine ⟨D, List.replicate ys.length true, rfl, SqL.of hD1, ?_⟩
        rw [allT]
        exact kk _ s1
  · refine ⟨_, (qs_cons (q_if (q_cmp op_isN (qv 1) pe_non (nomark _)) (pss_one (ps_ret (pe_cmpR op_isN (qv 0) pe_non (nomark _)))) pss_nil)
    (qs_cons (q_if (q_val (pe_callB c_isi (by rfl) T.m_isinstance (by decide +kernel) (pa_cons (qv 1) (pa_cons (pe_bltn (v := .ty "bool") (by rfl) T.m_bool (by decide +kernel) rfl) pa_nil)))) (pss_one (ps_ret (q_and (pe_callB c_isi (by rfl) T.m_isinstance (by decide +kernel) (pa_cons (qv 0) (pa_cons (pe_bltn (v := .ty "bool") (by rfl) T.m_bool (by decide +kernel) rfl) pa_nil))) (pe_one (pe_cmpR op_eq (qv 0) (qv 1) (nomark _)))))) pss_nil)
    (qs_cons (q_if (q_val (pe_callB c_isi (by rfl) T.m_isinstance (by decide +kernel) (pa_cons (qv 1) (pa_cons (pe_bltn (v := .ty "int") (by rfl) T.m_int (by decide +kernel) rfl) pa_nil)))) (pss_one (ps_ret (q_and (pe_callB c_isi (by rfl) T.m_isinstance (by decide +kernel) (pa_cons (qv 0) (pa_cons (pe_bltn (v := .ty "int") (by rfl) T.m_int (by decide +kernel) rfl) pa_nil))) (q_and (q_not (pe_callB c_isi (by rfl) T.m_isinstance (by decide +kernel) (pa_cons (qv 0) (pa_cons (pe_bltn (v := .ty "bool") (by rfl) T.m_bool (by decide +kernel) rfl) pa_nil)))) (pe_one (pe_cmpR op_eq (qv 0) (qv 1) (nomark _))))))) pss_nil)
    (qs_cons (q_if (q_val (pe_callB c_isi (by rfl) T.m_isinstance (by decide +kernel) (pa_cons (qv 1) (pa_cons (pe_bltn (v := .ty "str") (by rfl) T.m_str (by decide +kernel) rfl) pa_nil)))) (pss_one (ps_ret (q_and (pe_callB c_isi (by rfl) T.m_isinstance (by decide +kernel) (pa_cons (qv 0) (pa_cons (pe_bltn (v := .ty "str") (by rfl) T.m_str (by decide +kernel) rfl) pa_nil))) (pe_one (pe_cmpR op_eq (qv 0) (qv 1) (nomark _)))))) pss_nil)
    (qs_cons (q_if (q_val (pe_callB c_isi (by rfl) T.m_isinstance (by decide +kernel) (pa_cons (qv 1) (pa_cons (pe_bltn (v := .ty "dict") (by rfl) T.m_dict (by decide +kernel) rfl) pa_nil)))) (qs_cons (q_if (PW.pt (pw_or (pt_not (q_val (pe_callB c_isi (by rfl) T.m_isinstance (by decide +kernel) (pa_cons (qv 0) (pa_cons (pe_bltn (v := .ty "dict") (by rfl) T.m_dict (by decide +kernel) rfl) pa_nil))))) (pw_or1 (q_cmp op_ne (pe_callB c_len (by rfl) T.m_len (by decide +kernel) (pa_cons (qv 0) pa_nil)) (pe_callB c_len (by rfl) T.m_len (by decide +kernel) (pa_cons (qv 1) pa_nil)) (nomark _))))) (pss_one (ps_ret pe_bl)) pss_nil)
    (pss_one (ps_ret (pe_callB (cr_all rfl) (by rfl) T.m_all (by decide +kernel) (pa_cons (pe_lock (q_lc (own := [("_law_name", 2)]) (g := gName 2) (tt := tYes) rfl sc__law_alike.nd (qi_keys (qv 1)) (blkOk_by (own := [("_law_name", 2)]) (N := ["_law_found", "_law_due", "_law_name", "_law_k"]) (sc := defScope s__law_alike) (by decide +kernel)) (fun _ _ _ _ _ => (pg_name (i := 2) sc__law_alike.nd rfl (Or.inl rfl))) (fun _ _ _ _ _ => pts_nil) (fun _ _ _ _ _ => (q_and (q_din hu (qv 2) (qv 0)) (pe_one (q_call G hr rfl T.g__law_alike T.k__law_alike T.b__law_alike pass0 (pa_cons (q_dget hu (qv 0) (qv 2) (fun _ _ => rfl)) (pa_cons (q_dget hu (qv 1) (qv 2) (fun _ _ => rfl)) pa_nil)))))))) pa_nil))))) pss_nil)
    (qs_cons (q_if (PW.pt (pw_or (q_cmp op_ne (pe_callB c_isi (by rfl) T.m_isinstance (by decide +kernel) (pa_cons (qv 1) (pa_cons (pe_bltn (v := .ty "tuple") (by rfl) T.m_tuple (by decide +kernel) rfl) pa_nil))) (pe_callB c_isi (by rfl) T.m_isinstance (by decide +kernel) (pa_cons (qv 0) (pa_cons (pe_bltn (v := .ty "tuple") (by rfl) T.m_tuple (by decide +kernel) rfl) pa_nil))) (nomark _)) (pw_or1 (q_cmp op_ne (pe_callB c_isi (by rfl) T.m_isinstance (by decide +kernel) (pa_cons (qv 1) (pa_cons (pe_bltn (v := .ty "list") (by rfl) T.m_list (by decide +kernel) rfl) pa_nil))) (pe_callB c_isi (by rfl) T.m_isinstance (by decide +kernel) (pa_cons (qv 0) (pa_cons (pe_bltn (v := .ty "list") (by rfl) T.m_list (by decide +kernel) rfl) pa_nil))) (nomark _))))) (pss_one (ps_ret pe_bl)) pss_nil)
    (qs_cons (q_if (q_cmp op_ne (pe_callB c_len (by rfl) T.m_len (by decide +kernel) (pa_cons (qv 0) pa_nil)) (pe_callB c_len (by rfl) T.m_len (by decide +kernel) (pa_cons (qv 1) pa_nil)) (nomark _)) (pss_one (ps_ret pe_bl)) pss_nil)
    (pss_one (ps_ret (pe_callB (cr_all rfl) (by rfl) T.m_all (by decide +kernel) (pa_cons (q_lc (own := [("_law_k", 3)]) (g := gName 3) (tt := tYes) rfl sc__law_alike.nd (qi_r1 (by rfl) T.m_range (pa_cons (pe_callB c_len (by rfl) T.m_len (by decide +kernel) (pa_cons (qv 1) pa_nil)) pa_nil)) (blkOk_by (own := [("_law_k", 3)]) (N := ["_law_found", "_law_due", "_law_name", "_law_k"]) (sc := defScope s__law_alike) (by decide +kernel)) (fun _ _ _ _ _ => (pg_name (i := 3) sc__law_alike.nd rfl (Or.inl rfl))) (fun _ _ _ _ _ => pts_nil) (fun _ _ _ _ _ => (q_call G hr rfl T.g__law_alike T.k__law_alike T.b__law_alike pass0 (pa_cons (pe_ix ix_L (qv 0) (qv 3) (fun _ _ => rfl)) (pa_cons (pe_ix ix_L (qv 1) (qv 3) (fun _ _ => rfl)) pa_nil))))) pa_nil))))))))))), ?_⟩
    dsimp! [ha, hb, hl, eq_self]
    refine ⟨⟨by omega, by omega⟩, fun D hD => ⟨_, _, _, fun i H1 => H1 D = some (.lst (trues i)) ∧ Same H H1, walk_range (lo := 0) (n := ys.length), ⟨upd_same, Same.new hD⟩, fun _ _ _ _ => True.intro, ?_, ?_⟩⟩
    · rintro i z H1 H2 hi ⟨hD1, s1⟩ ⟨rfl, rfl⟩
      have e0 : (0 : Int) + (i : Nat) = (i : Nat) := Int.zero_add _
      obtain ⟨v, hv⟩ : ∃ v, ys[i]? = some v := ⟨_, List.getElem?_eq_getElem hi⟩
      obtain ⟨u, hu1⟩ : ∃ u, xs[i]? = some u := ⟨_, List.getElem?_eq_getElem (by omega)⟩
      have ha1 := s1 _ _ ha
      have hb1 := s1 _ _ hb
      simp! [e0, ha1, hb1, atI_nat hv, atI_nat hu1]
      refine ⟨u, v, rfl, Alike.same s1 n u v (hk i u v hu1 hv), fun H3 s3 => ?_⟩
      have hD3 := s3 _ _ hD1
      simp! [hD3]
      refine ⟨by rw [trues_len]; exact small _ (by omega), by rw [trues_succ], fun b' o e => ?_⟩
      rw [upd_ne (ne_of_none e hD)]
      exact s3 _ _ (s1 _ _ e)
    · rintro H1 ⟨hD1, s1⟩
      refine ⟨D, List.replicate ys.length true, rfl, SqL.of hD1, ?_⟩
      rw [allT]
      exact kk _ s1
  · refine ⟨_, (qs_cons (q_if (q_cmp op_isN (qv 1) pe_non (nomark _)) (pss_one (ps_ret (pe_cmpR op_isN (qv 0) pe_non (nomark _)))) pss_nil)
    (qs_cons (q_if (q_val (pe_callB c_isi (by rfl) T.m_isinstance (by decide +kernel) (pa_cons (qv 1) (pa_cons (pe_bltn (v := .ty "bool") (by rfl) T.m_bool (by decide +kernel) rfl) pa_nil)))) (pss_one (ps_ret (q_and (pe_callB c_isi (by rfl) T.m_isinstance (by decide +kernel) (pa_cons (qv 0) (pa_cons (pe_bltn (v := .ty "bool") (by rfl) T.m_bool (by decide +kernel) rfl) pa_nil))) (pe_one (pe_cmpR op_eq (qv 0) (qv 1) (nomark _)))))) pss_nil)
    (qs_cons (q_if (q_val (pe_callB c_isi (by rfl) T.m_isinstance (by decide +kernel) (pa_cons (qv 1) (pa_cons (pe_bltn (v := .ty "int") (by rfl) T.m_int (by decide +kernel) rfl) pa_nil)))) (pss_one (ps_ret (q_and (pe_callB c_isi (by rfl) T.m_isinstance (by decide +kernel) (pa_cons (qv 0) (pa_cons (pe_bltn (v := .ty "int") (by rfl) T.m_int (by decide +kernel) rfl) pa_nil))) (q_and (q_not (pe_callB c_isi (by rfl) T.m_isinstance (by decide +kernel) (pa_cons (qv 0) (pa_cons (pe_bltn (v := .ty "bool") (by rfl) T.m_bool (by decide +kernel) rfl) pa_nil)))) (pe_one (pe_cmpR op_eq (qv 0) (qv 1) (nomark _))))))) pss_nil)
    (qs_cons (q_if (q_val (pe_callB c_isi (by rfl) T.m_isinstance (by decide +kernel) (pa_cons (qv 1) (pa_cons (pe_bltn (v := .ty "str") (by rfl) T.m_str (by decide +kernel) rfl) pa_nil)))) (pss_one (ps_ret (q_and (pe_callB c_isi (by rfl) T.m_isinstance (by decide +kernel) (pa_cons (qv 0) (pa_cons (pe_bltn (v := .ty "str") (by rfl) T.m_str (by decide +kernel) rfl) pa_nil))) (pe_one (pe_cmpR op_eq (qv 0) (qv 1) (nomark _)))))) pss_nil)
    (qs_cons (q_if (q_val (pe_callB c_isi (by rfl) T.m_isinstance (by decide +kernel) (pa_cons (qv 1) (pa_cons (pe_bltn (v := .ty "dict") (by rfl) T.m_dict (by decide +kernel) rfl) pa_nil)))) (qs_cons (q_if (PW.pt (pw_or (pt_not (q_val (pe_callB c_isi (by rfl) T.m_isinstance (by decide +kernel) (pa_cons (qv 0) (pa_cons (pe_bltn (v := .ty "dict") (by rfl) T.m_dict (by decide +kernel) rfl) pa_nil))))) (pw_or1 (q_cmp op_ne (pe_callB c_len (by rfl) T.m_len (by decide +kernel) (pa_cons (qv 0) pa_nil)) (pe_callB c_len (by rfl) T.m_len (by decide +kernel) (pa_cons (qv 1) pa_nil)) (nomark _))))) (pss_one (ps_ret pe_bl)) pss_nil)
    (pss_one (ps_ret (pe_callB (cr_all rfl) (by rfl) T.m_all (by decide +kernel) (pa_cons (pe_lock (q_lc (own := [("_law_name", 2)]) (g := gName 2) (tt := tYes) rfl sc__law_alike.nd (qi_keys (qv 1)) (blkOk_by (own := [("_law_name", 2)]) (N := ["_law_found", "_law_due", "_law_name", "_law_k"]) (sc := defScope s__law_alike) (by decide +kernel)) (fun _ _ _ _ _ => (pg_name (i := 2) sc__law_alike.nd rfl (Or.inl rfl))) (fun _ _ _ _ _ => pts_nil) (fun _ _ _ _ _ => (q_and (q_din hu (qv 2) (qv 0)) (pe_one (q_call G hr rfl T.g__law_alike T.k__law_alike T.b__law_alike pass0 (pa_cons (q_dget hu (qv 0) (qv 2) (fun _ _ => rfl)) (pa_cons (q_dget hu (qv 1) (qv 2) (fun _ _ => rfl)) pa_nil)))))))) pa_nil))))) pss_nil)
    (qs_cons (q_if (PW.pt (pw_or (q_cmp op_ne (pe_callB c_isi (by rfl) T.m_isinstance (by decide +kernel) (pa_cons (qv 1) (pa_cons (pe_bltn (v := .ty "tuple") (by rfl) T.m_tuple (by decide +kernel) rfl) pa_nil))) (pe_callB c_isi (by rfl) T.m_isinstance (by decide +kernel) (pa_cons (qv 0) (pa_cons (pe_bltn (v := .ty "tuple") (by rfl) T.m_tuple (by decide +kernel) rfl) pa_nil))) (nomark _)) (pw_or1 (q_cmp op_ne (pe_callB c_isi (by rfl) T.m_isinstance (by decide +kernel) (pa_cons (qv 1) (pa_cons (pe_bltn (v := .ty "list") (by rfl) T.m_list (by decide +kernel) rfl) pa_nil))) (pe_callB c_isi (by rfl) T.m_isinstance (by decide +kernel) (pa_cons (qv 0) (pa_cons (pe_bltn (v := .ty "list") (by rfl) T.m_list (by decide +kernel) rfl) pa_nil))) (nomark _))))) (pss_one (ps_ret pe_bl)) pss_nil)
    (qs_cons (q_if (q_cmp op_ne (pe_callB c_len (by rfl) T.m_len (by decide +kernel) (pa_cons (qv 0) pa_nil)) (pe_callB c_len (by rfl) T.m_len (by decide +kernel) (pa_cons (qv 1) pa_nil)) (nomark _)) (pss_one (ps_ret pe_bl)) pss_nil)
    (pss_one (ps_ret (pe_callB (cr_all rfl) (by rfl) T.m_all (by decide +kernel) (pa_cons (q_lc (own := [("_law_k", 3)]) (g := gName 3) (tt := tYes) rfl sc__law_alike.nd (qi_r1 (by rfl) T.m_range (pa_cons (pe_callB c_len (by rfl) T.m_len (by decide +kernel) (pa_cons (qv 1) pa_nil)) pa_nil)) (blkOk_by (own := [("_law_k", 3)]) (N := ["_law_found", "_law_due", "_law_name", "_law_k"]) (sc := defScope s__law_alike) (by decide +kernel)) (fun _ _ _ _ _ => (pg_name (i := 3) sc__law_alike.nd rfl (Or.inl rfl))) (fun _ _ _ _ _ => pts_nil) (fun _ _ _ _ _ => (q_call G hr rfl T.g__law_alike T.k__law_alike T.b__law_alike pass0 (pa_cons (pe_ix ix_L (qv 0) (qv 3) (fun _ _ => rfl)) (pa_cons (pe_ix ix_L (qv 1) (qv 3) (fun _ _ => rfl)) pa_nil))))) pa_nil))))))))))), ?_⟩
    dsimp! [ha, hb, hl, eq_self, tLockE]
    refine ⟨b, _, hb, True.intro, fun od => ?_⟩
    simp! []
    intro D hD
    have nbD : b ≠ D := ne_of_none upd_same hD
    have hD0 : H D = none := by rw [upd_ne nbD.symm] at hD; exact hD
    refine ⟨_, _, _, fun i H1 => H1 D = some (.lst (trues i)) ∧ Same (upd H b (.frz od (.dK kws))) H1, walk_keys (d := b) (o := od) (kvs := kws), ⟨upd_same, Same.new hD⟩, fun i H1 _ h => h.2 _ _ upd_same, ?_, ?_⟩
    · rintro i z H1 H2 hi ⟨hD1, s1⟩ ⟨rfl, key, v, hkv, rfl⟩
      obtain ⟨q1, q2, q3⟩ := hk _ (List.mem_of_getElem? hkv)
      have ha1 := s1 _ _ (show (upd H b (.frz od (.dK kws))) a = some (.dK kvs) by rw [upd_ne nab]; exact ha)
      have hb1 := s1 _ _ (show (upd H b (.frz od (.dK kws))) b = some (.frz od (.dK kws)) from upd_same)
      have ek : ∀ R : Key → Prop, keyR (kV key) R = R key := fun R => by cases key <;> rfl
      simp! [ek, ha1, hb1, q1, q2, Option.isSome_some]
      refine ⟨v, v, rfl, Alike.flat q3 n, fun H3 s3 => ?_⟩
      have hD3 := s3 _ _ hD1
      simp! [hD3]
      refine ⟨by rw [trues_len]; exact small _ (by omega), by rw [trues_succ], fun b' o e => ?_⟩
      rw [upd_ne (ne_of_none e hD)]
      exact s3 _ _ (s1 _ _ e)
    · rintro H1 ⟨hD1, s1⟩
      refine ⟨s1 _ _ upd_same, ?_⟩
      refine ⟨D, List.replicate kws.length true, rfl, SqL.of (by rw [upd_ne nbD.symm]; exact hD1), ?_⟩
      rw [allT]
      refine kk _ fun b' o e => ?_
      by_cases n : b' = b
      · rw [n] at e
        rw [hb] at e
        rw [n, upd_same]
        exact e
      · rw [upd_ne n]
        exact s1 _ _ (by rw [upd_ne n]; exact e)
theorem ok_alike (T : Txt K mg base A) : ∀ n, FnOk P w K mg base CX0 (n + 1) A._law_alike A.d__law_alike ["_law_found", "_law_due"] (spAlike n)
  | 0 => alike_0 T
  | n + 1 => alike_s T n (ok_alike T n)
end
end OA

namespace OA
open PySem PySem.Spec PyProof.Rows L2
section
variable {K : PySem.W.Frag} {A : Ad} {E0 : XK} {am : Am} {d : Addr} {tas : TA} {das : DA}
/-! alike -/
inductive AlkD : Nat → D → Prop
  | non {n : Nat} : AlkD n .non
  | bl {n : Nat} {b : Bool} : AlkD n (.bl b)
  | int {n : Nat} {b : Int} : AlkD n (.int b)
  | str {n : Nat} {b : Str} : AlkD n (.str b)
  | tup {n : Nat} {xs : List D} : xs.length ≤ 10000 → (∀ x ∈ xs, AlkD n x) → AlkD (n + 1) (.tup xs)
  | lst {n : Nat} {xs : List D} : xs.length ≤ 10000 → (∀ x ∈ xs, AlkD n x) → AlkD (n + 1) (.lst xs)
  | nt {n : Nat} {ns : List Int} : ns.length ≤ 10000 → AlkD (n + 1) (.nt ns)
theorem alk_of {H : Hp} {E : Addr → Prop} : ∀ {n : Nat} {d : D} {x y : V}, AlkD n d → Lay K H E d x → Lay K H E d y → Alike H n x y := fun {n d x y} h => by
  induction h generalizing x y with
  | non => intro hx hy; rw [show x = .non from hx, show y = .non from hy]; exact Alike.flat rfl _
  | bl => intro hx hy; rw [show x = .bl _ from hx, show y = .bl _ from hy]; exact Alike.flat rfl _
  | int => intro hx hy; rw [show x = .int _ from hx, show y = .int _ from hy]; exact Alike.flat rfl _
  | str => intro hx hy; rw [show x = .str _ from hx, show y = .str _ from hy]; exact Alike.flat rfl _
  | tup hl ha ih =>
    rintro ⟨a, vs, rfl, _, h1, h2⟩ ⟨b, us, rfl, _, h3, h4⟩
    refine .inr (.inl ⟨a, b, vs, us, rfl, rfl, .inl h1, .inl h3, by rw [← h2.len, ← h4.len], by rw [← h4.len]; exact hl, fun k u v q1 q2 => ?_⟩)
    obtain ⟨w1, e1, f1⟩ := (VOks.sh_of h2).at k q1
    obtain ⟨w2, e2, f2⟩ := (VOks.sh_of h4).at k q2
    rw [e1] at e2
    cases e2
    rw [List.getElem?_map] at e1
    cases q : (_ : List D)[k]? with
    | none => rw [q] at e1; cases e1
    | some d =>
      rw [q] at e1
      cases e1
      exact ih d (List.mem_of_getElem? q) f1 f2
  | lst hl ha ih =>
    rintro ⟨a, vs, rfl, _, h1, h2⟩ ⟨b, us, rfl, _, h3, h4⟩
    refine .inr (.inr (.inl ⟨a, b, vs, us, rfl, rfl, h1, h3, by rw [← h2.len, ← h4.len], by rw [← h4.len]; exact hl, fun k u v q1 q2 => ?_⟩))
    obtain ⟨w1, e1, f1⟩ := (VOks.sh_of h2).at k q1
    obtain ⟨w2, e2, f2⟩ := (VOks.sh_of h4).at k q2
    rw [e1] at e2
    cases e2
    rw [List.getElem?_map] at e1
    cases q : (_ : List D)[k]? with
    | none => rw [q] at e1; cases e1
    | some d =>
      rw [q] at e1
      cases e1
      exact ih d (List.mem_of_getElem? q) f1 f2
  | nt hl =>
    rintro ⟨a, oa, rfl, _, h1, _⟩ ⟨b, ob, rfl, _, h3, _⟩
    refine .inr (.inl ⟨a, b, _, _, rfl, rfl, .inr ⟨_, h1⟩, .inr ⟨_, h3⟩, rfl, by rw [List.length_map]; exact hl, fun k u v q1 q2 => ?_⟩)
    rw [q1] at q2
    cases q2
    rw [List.getElem?_map] at q1
    cases q : (_ : List Int)[k]? with
    | none => rw [q] at q1; cases q1
    | some i =>
      rw [q] at q1
      cases q1
      exact Alike.flat rfl _
def AlkW (Ω : Om) (n : Nat) (x y : W) : Prop := (∃ d, x = .sh d ∧ y = .sh d ∧ AlkD n d) ∨ ∃ p q wl wl', x = .pt p ∧ y = .pt q ∧ p ≠ q ∧ look Ω p = some (.dic (wlK wl) (wlW wl)) ∧ look Ω q = some (.dic (wlK wl') (wlW wl')) ∧ 0 < n ∧ wl.length = wl'.length ∧ wl.length ≤ 100 ∧ (wl'.map (·.1)).Nodup ∧ ∀ x ∈ wl', wl.lookup x.1 = some x.2
def dAlike (n : Nat) (das : DA) (Γ : Gm) (Ω : Om) (Q : DQ) : Prop := das Γ Ω fun ws Ω1 => two2W ws fun x y => AlkW Ω1 n x y ∧ Q (.sh (.bl true)) Ω1
instance c_alike {n : Nat} [s1 : SA K am tas das] : SE K am (vCall (spAlike n) E0 tas) (dAlike n das) := ⟨fun {c T σ Γ Ω H Q R} e h k =>
  s1.run e h fun vs ws Ω1 H1 h1 e1 hv => by
    obtain ⟨w, v, w2, v2, rfl, hw, hw2, h2, h3⟩ := two2W_el h1 hv
    refine ⟨v, v2, rfl, ?_, fun H' s' => k _ _ _ _ h3 ((e1.same s').addv rfl)⟩
    rcases h2 with ⟨d, rfl, rfl, hd⟩ | ⟨p, q, wl, wl', rfl, rfl, npq, hp, hq, n0, hl, h100, nd, hall⟩
    · exact alk_of hd hw hw2
    · obtain ⟨u1, a1, _, a3⟩ := e1.ob _ (look_mem hp)
      obtain ⟨u2, b1, _, b3⟩ := e1.ob _ (look_mem hq)
      rw [wl_oks_eq a3, ← wkv_zip] at a1
      rw [wl_oks_eq b3, ← wkv_zip] at b1
      obtain ⟨m, rfl⟩ : ∃ m, n = m + 1 := ⟨n - 1, by omega⟩
      refine .inr (.inr (.inr ⟨p, q, _, _, hw, hw2, a1, b1, by simp [wkv, hl], by simp [wkv]; omega, npq, fun kw hkw => ?_⟩))
      obtain ⟨x, hx, rfl⟩ := List.mem_map.mp hkw
      refine ⟨?_, ?_, rfl⟩
      · show valV (wkv wl) (Sum.inl (x.1 : Int)) = _
        rw [valV_wkv, hall x hx]
        rfl
      · show valV (wkv wl') (Sum.inl (x.1 : Int)) = _
        rw [valV_wkv, lookup_mem nd hx]
        rfl⟩
end
end OA

namespace OA
open PySem PySem.Spec PyProof.Rows L2
section
variable {K : PySem.W.Frag} {am : Am}
/-! a dict comprehension that is changed later, or handed in -/
def dDcO (ix : List Nat) (di : DI) (g : DG) (dq : DB) (dk dv : DT) (vs : List Nat) (Γ : Gm) (Ω : Om) (Q : DQ) : Prop := (∀ i ∈ ix, i ∈ vs) ∧ di Γ Ω fun ws Ω1 => ∃ Pv : Nat → List Key → List W → Prop, dDcP ws g dq dk dv vs Γ Ω1 Pv ∧ ∀ ks us p, Pv ws.length ks us → notin p Ω1 → Q (.pt p) ((p, .dic ks us) :: Ω1)
instance s_dcO {wi : TI} {di : DI} {g : TG} {d : DG} {ix vs : List Nat} {tq : TT} {dq : DB} {tk tv : TE} {dk dv : DT} [s0 : SI K am wi di] [s1 : SG K am g d ix] [s2 : ST K am tq dq] [s3 : SE K am tk dk] [s4 : SE K am tv dv] : SE K am (ownE (vDc wi g tq tk tv vs)) (dDcO ix di d dq dk dv vs) := ⟨fun {c T σ Γ Ω H Q R} e ⟨hx, h⟩ k =>
  s0.run e h fun J H1 ws Ω1 T' G Y ⟨Pv, ⟨p0, ps⟩, hz⟩ e1 hw hG hY => fun D hD => by
    obtain ⟨S, e2, back⟩ := e1.save
    have nD : notin D Ω1 := fun z => e1.noEx hD (.inr z)
    have e3 : DEnv K c (.v (.pt D) (.ref D) :: (S ++ (T' ++ T))) σ Γ ((D, .dic [] []) :: Ω1) (upd H1 D (.dK [])) := e2.own hD (e2.new hD) (.inr ⟨[], [], [], rfl, rfl, rfl, rfl⟩)
    have to' : ∀ {σ : L2.St} {Γ : Gm} {Ω : Om} {H : Hp}, DEnv K c (.v (.pt D) (.ref D) :: (S ++ (T' ++ T))) σ Γ Ω H → DEnv K c (T' ++ T) σ Γ Ω H := fun e => e.drop.drops
    refine ⟨ws.length, G, Y, fun i H => ∃ ks us σ2 Γ2, Pv i ks us ∧ DEnv K c (.v (.pt D) (.ref D) :: (S ++ (T' ++ T))) σ2 Γ2 ((D, .dic ks us) :: Ω1) H, hw, ⟨[], [], σ, Γ, p0, e3⟩, fun i H _ ⟨ks, us, σ2, Γ2, _, e⟩ => hG _ _ _ _ (to' e), fun i x H H' hi ⟨ks, us, σ2, Γ2, p, e⟩ y => ?_, fun H ⟨ks, us, σ2, Γ2, p, e⟩ => ?_⟩
    · have eW : DEnv K c (.v (.pt D) (.ref D) :: (S ++ (T' ++ T))) (L2.wipe σ vs) (wipeG Γ vs) ((D, .dic ks us) :: Ω1) H := by
        have b1 := (back e.drop).wipe vs
        exact ⟨b1.len, b1.sl, e.tm, e.ob, e.nd, e.fr, e.el, e.frm, e.inv⟩
      obtain ⟨w, hw', e5⟩ := hY (.v (.pt D) (.ref D) :: S) i x _ _ _ H H' hi eW y
      refine s1.run e5.drop e5.hd (ps i w ks us D hw' p nD) fun σ3 Γ3 Ω3 H3 ⟨z3, q3⟩ e6 hwp => ⟨by rw [hwp vs hx, wipe_wipe], ?_⟩
      subst z3
      refine s2.run e6 q3 fun b Ω4 H4 ⟨z4, q4⟩ e7 => ?_
      subst z4
      cases b with
      | false => exact ⟨ks, us, _, _, q4, e7⟩
      | true =>
        refine s3.run e7 q4 fun y wy Ω5 H5 ⟨z5, q5⟩ e8 => ?_
        subst z5
        refine s4.run e8 q5 fun z wz Ω6 H6 ⟨z6, hl, q6⟩ e9 => ?_
        subst z6
        obtain ⟨q, rfl, p'⟩ := keyW_el q6 e9.drop.hd
        obtain ⟨vs', a1, an, a2⟩ := e9.ob (D, .dic ks us) List.mem_cons_self
        obtain ⟨vs2, g1, g2, g3⟩ := putA_ok q an a2 e9.hd
        refine keyR_k (k := fun k => dkO (H6 D) fun kvs => kvs.length < sizeLine ∧ ∃ ks us σ2 Γ2, Pv (i + 1) ks us ∧ DEnv K c (.v (.pt D) (.ref D) :: (S ++ (T' ++ T))) σ2 Γ2 ((D, .dic ks us) :: Ω1) (upd H6 D (.dK (putK kvs k z)))) q ?_
        rw [a1]
        have e10 := e9.drop.drop.putD (look_hd (od := .dic ks us)) g1 g2 g3
        rw [put_hd nD] at e10
        refine ⟨?_, _, _, _, _, p', e10⟩
        rw [List.length_zip, ← a2.len, an, Nat.min_self, ← an]
        exact hl
    · have b1 := back e.drop
      exact k _ _ _ _ (hz ks us D p nD) ⟨b1.len, b1.sl, fun t ht => by
        rcases List.mem_cons.mp ht with rfl | ht
        · exact rfl
        · exact b1.drops.tm t ht, b1.ob, b1.nd, b1.fr, b1.el, b1.frm, b1.inv⟩⟩
/-! list(d.values()) -/
def wLstV : List V → Hp → VK → Prop := fun vs H Q => one1 vs fun x => refR x fun p => ∃ d kvs, H p = some (viewV p d) ∧ H d = some (.dK kvs) ∧ ∀ q, H q = none → Q (.ref q) (upd H q (.lst (kvs.map Prod.snd)))
theorem kv_at : ∀ {as : List (Key × V)} {bs : List (Key × Value)} (j : Nat) (h : j < as.length), KV as bs → ∃ y, bs[j]? = some y ∧ as[j].1 = y.1 ∧ RelV as[j].2 y.2 := by
  intro as bs j h r
  induction r generalizing j with
  | nil => simp at h
  | cons a _ ih =>
    cases j with
    | zero => exact ⟨_, rfl, a.1, a.2⟩
    | succ j => exact ih j (by simpa using h)
theorem c_lstV {X : Cx} (hc : X.calm = true) : CallR X (.type "list") wLstV := by
  intro pins s σ H xs us Q I r h
  obtain ⟨x, rfl, h⟩ := one1_el h
  obtain ⟨p, rfl, d, kvs, hp, hk, q⟩ := refR_el h
  obtain ⟨u, eu, rx⟩ := vals1 r
  subst eu
  obtain rfl : u = Value.ref p := rx
  obtain ⟨z, lo, vs, rk, hd⟩ := (show ObjOk X.prog X.w H s.heap d (.dK kvs) from I.hok d _ hk)
  obtain ⟨ep, hat⟩ := hd.dictAt
  have hv : s.heap.IsValuesView p d := ⟨_, (show ObjOk X.prog X.w H s.heap p (viewV p d) from I.hok p _ hp).1, rfl, rfl⟩
  have hl : kvs.length = vs.length := Paired.length rk
  refine PySem.W.kdl_call (PySem.W.kdl_values (knd := mixKind X.prog X.w) (kvs := vs) (ep := ep)) (I.ok.hd hc) ⟨hv, hat⟩ (by rw [← hl]; exact z) fun h' tk acc' c' hkeep hS hacc => ?_
  refine ⟨.ref s.heap.objs.size, upd H s.heap.objs.size (.lst (kvs.map Prod.snd)), I.laid hkeep (Nat.le_refl _) (show ObjOk X.prog X.w _ _ _ (.lst (kvs.map Prod.snd)) from ⟨?_, acc'.toList, c', ?_, ?_⟩), rfl, q _ (I.hok.fresh (Nat.le_refl _))⟩
  · rw [List.length_map]; exact z
  · have el : acc'.toList.length = acc'.size := by simp
    refine vals_of_at (by rw [List.length_map, el, hacc.1, hl]) fun j x w h1 h2 => ?_
    obtain ⟨k, hi⟩ := hacc.2 j w (by rw [← Array.getElem?_toList]; exact h2)
    rw [List.getElem?_map] at h1
    cases q : kvs[j]? with
    | none => rw [q] at h1; cases h1
    | some y =>
      rw [q] at h1
      cases h1
      have hj : j < kvs.length := (List.getElem?_eq_some_iff.mp q).1
      obtain ⟨y', e1, e2, e3⟩ := kv_at j hj rk
      rw [hi] at e1
      cases e1
      rw [List.getElem?_eq_getElem hj] at q
      cases q
      exact e3
  · rw [Array.toArray_toList]; exact hS
def dLstVals (da : DT) (Γ : Gm) (Ω : Om) (Q : DQ) : Prop := da Γ Ω fun x Ω1 => match x with
  | .pt p => lookD (look Ω1 p) fun _ ws => shsW ws fun ds => Q (.sh (.lst ds)) Ω1
  | .sh (.dic _ ds) => Q (.sh (.lst ds)) Ω1
  | _ => False
instance s_lstVals {td : TE} {da : DT} [s1 : SE K am td da] : SE K am (tCB wLstV (tCons (vVals td) tNil)) (dLstVals da) := ⟨fun {c T σ Γ Ω H Q R} e h k =>
  s1.run e h fun x w Ω1 H1 h1 e1 => by
    cases w with
    | pt p =>
      have h1' : lookD (look Ω1 p) fun _ ws => shsW ws fun ds => Q (.sh (.lst ds)) Ω1 := h1
      cases hl : look Ω1 p with
      | none => rw [hl] at h1'; exact (show False from h1').elim
      | some od =>
        rw [hl] at h1'
        cases od with
        | lst ws => exact (show False from h1').elim
        | lk o kvs ks ws => exact (show False from h1').elim
        | dt ks ws => exact (show False from h1').elim
        | dic ks ws =>
          obtain ⟨vs, g1, g2, g3⟩ := e1.ob _ (look_mem hl)
          obtain ⟨ds, rfl, h2⟩ := shsW_el (show shsW ws fun ds => Q (.sh (.lst ds)) Ω1 from h1')
          obtain rfl : x = .ref p := e1.hd
          show dkO (H1 p) _
          rw [g1]
          intro a ha
          have hp2 : upd H1 a (viewV a p) p = some (.dK (ks.zip vs)) := by rw [upd_ne (ne_of_none g1 ha)]; exact g1
          refine ⟨p, _, upd_same, hp2, fun b hb => k _ _ _ _ h2 ?_⟩
          have e2 := (e1.drop.alloc (o := viewV a p) ha)
          have e3 : VOks K _ (Ex c Ω1) (ds.map .sh) vs := g3.mono (H' := upd H1 a (viewV a p)) fun b' o n h => ⟨n, by rw [upd_ne (ne_of_none h ha)]; exact h⟩
          have em : (ks.zip vs).map Prod.snd = vs := by
            rw [List.map_snd_zip]
            rw [← g3.len, g2]
            exact Nat.le_refl _
          rw [em]
          exact e2.lst hb e3.lay
    | sh d =>
      cases d with
      | dic ks ds =>
        obtain ⟨p, vs, rfl, np, g1, g2, g3⟩ := e1.hd
        show dkO (H1 p) _
        rw [g1]
        intro a ha
        have hp2 : upd H1 a (viewV a p) p = some (.dK (ks.zip vs)) := by rw [upd_ne (ne_of_none g1 ha)]; exact g1
        refine ⟨p, _, upd_same, hp2, fun b hb => k _ _ _ _ h1 ?_⟩
        have e2 := (e1.drop.alloc (o := viewV a p) ha)
        have e3 : LayL K (upd H1 a (viewV a p)) (Ex c Ω1) ds vs := LayL.mono (fun b' o n h => ⟨n, by rw [upd_ne (ne_of_none h ha)]; exact h⟩) ds vs g3
        have em : (ks.zip vs).map Prod.snd = vs := by
          rw [List.map_snd_zip]
          rw [← g3.len, g2]
          exact Nat.le_refl _
        rw [em]
        exact e2.lst hb e3
      | _ => exact (show False from h1).elim
    | ty n => exact (show False from h1).elim⟩
/-! pop() -/
theorem m_pop {X : Cx} : MtR X "list.pop" wPop := im_mt (r := rPop) mt_pop fun x vs H Q z => by
  obtain ⟨l, rfl, z1⟩ := refR_el z
  obtain ⟨xs, e, rfl, z2⟩ := lstO_el z1
  obtain ⟨v, e2, z3⟩ := optR_el z2
  exact ⟨l, xs, v, rfl, rfl, e, e2, z3⟩
instance r_pop : SRM K am wPop dPop := ⟨fun {c T σ Γ Ω H x w xs ws Q R} e hx hs h k => by
  obtain ⟨a, vs, us, rfl, hl, ha, hv, rfl, h2⟩ := ownL_el e hx h
  obtain rfl : xs = [] := hs
  split at h2
  · rename_i u hu
    show lstO (H a) _
    rw [ha]
    refine ⟨rfl, ?_⟩
    rw [← hv.len]
    obtain ⟨v, q1, q2⟩ := hv.to _ hu
    show optR _ _
    rw [q1]
    have hd : VOks K H (Ex c Ω) us.dropLast vs.dropLast := by
      rw [List.dropLast_eq_take, List.dropLast_eq_take, hv.len]
      exact hv.take _
    exact k _ _ _ _ h2 ((e.addv q2).putL hl hd)
  · exact h2.elim⟩
/-! list of ints against another -/
def dEqLI (neg : Bool) (x : W) (y : W) (Ω : Om) (Q : DQ) : Prop := seqW Ω x fun ws => seqW Ω y fun us => shsW ws fun ds => shsW us fun es => intsD ds fun ms => intsD es fun ns => Q (.sh (.bl (if neg then !decide (ms = ns) else decide (ms = ns)))) Ω
instance r_eqLI {neg : Bool} : SR2 K am (wEqLI neg) (dEqLI neg) := ⟨fun {c T σ Γ Ω H x y wx wy Q R} e hx hy h k => by
  obtain ⟨a, vs, ws, rfl, ha, hv, h1⟩ := seqW_el e hx h
  obtain ⟨b, ts, us, rfl, hb, ht, h2⟩ := seqW_el e hy h1
  obtain ⟨ds, rfl, h3⟩ := shsW_el h2
  obtain ⟨es, rfl, h4⟩ := shsW_el h3
  obtain ⟨ms, rfl, h5⟩ := intsD_el h4
  obtain ⟨ns, rfl, h6⟩ := intsD_el h5
  exact ⟨a, b, ms, ns, rfl, rfl, by rw [ha, lay_ints hv.lay], by rw [hb, lay_ints ht.lay], k _ _ _ _ h6 (e.addv rfl)⟩⟩
end
end OA

namespace OA
open PySem PySem.Spec PyProof.Rows L2
/-! a law: its draws, then the rest by data -/
def dN (n : Nat) (k : Nat → Prop) : Prop := k n
theorem put_no {p : Addr} {od : OD} {Ω : Om} (h : notin p Ω) : OA.put Ω p od = Ω := by
  unfold OA.put
  have : ∀ q ∈ Ω, (if q.1 = p then (q.1, od) else q) = q := fun q hq => if_neg fun z => h (List.mem_map.mpr ⟨q, hq, z⟩)
  rw [List.map_congr_left this, List.map_id']
theorem notin_cons {p q : Addr} {od : OD} {Ω : Om} : notin p ((q, od) :: Ω) ↔ p ≠ q ∧ notin p Ω := by
  unfold notin
  simp
theorem notin_put {p q : Addr} {od : OD} {Ω : Om} : notin p (OA.put Ω q od) ↔ notin p Ω := by
  unfold notin
  rw [put_keys]
section
variable {K : PySem.W.Frag} {A : Ad}
def spLaw (K : PySem.W.Frag) : Sp := fun vs H Q _ => ∃ (a : Addr) (ns : List Int), vs = [.ref a] ∧ SqL K H a (ns.map V.int) ∧ ns.length ≤ 63 ∧ ∀ H', Q (.bl true) H'
def lawG (N : List Str) (d : Addr) : Gm := (List.replicate N.length none).set 1 (some (.pt d))
def lawN : DN := ⟨fun _ _ => False, fun w _ => w = .sh (.bl true), fun _ _ => False, fun _ _ => False⟩
theorem law_go {X : Cx} {body : List Stmt} {ts : TS} {E0 E1 : XK} {N : List Str} {vs : List V} {H : Hp} {Q : VK} (h : spLaw K vs H Q E1) (hP : PSs X body (vSeq (tAsg (vCall (spDice K) E0 (tCons (vVar 0) (tCons (tC (.int 0)) tNil))) (gName 1)) ts))
    (hN : 2 ≤ N.length) (hD : ∀ d, ∃ td : DS, SS K (amD d) ts td ∧ td lawN (lawG N d) []) :
    ∃ t, PSs X body t ∧ t { nx := fun _ H' => Q .non H', rt := Q } (start N vs) H := by
  obtain ⟨a, ns, rfl, hS, hl, kk⟩ := h
  refine ⟨_, hP, ?_⟩
  refine (show spDice K [.ref a, .int 0] H (fun v H1 => Later (ts { nx := fun _ H' => Q .non H', rt := Q }) ((start N [.ref a]).set 1 (some v)) H1) E0 from ⟨a, ns, rfl, hS, hl, fun d H' sm hd dr => Later.mk ?_⟩)
  let c : Cq (amD d) := ⟨fun b => b = d, fun b m => m, H', True.intro⟩
  have e0 : DEnv K c [] ((start N [.ref a]).set 1 (some (.ref d))) (lawG N d) [] H' := by
    refine ⟨?_, fun i w hw => ?_, fun t ht => by simp at ht, fun q hq => by simp at hq, List.nodup_nil, fun p hp => by simp at hp, fun b hb => ?_, fun b o _ hb => hb, dr⟩
    · rw [List.length_set]
      unfold lawG L2.start
      simp
      omega
    · unfold lawG at hw
      rw [List.getElem?_set] at hw
      split at hw
      · rename_i z
        subst z
        split at hw
        · rename_i hl
          cases hw
          refine ⟨.ref d, ?_, rfl⟩
          rw [List.getElem?_set, if_pos rfl, if_pos]
          unfold L2.start
          simp
          omega
        · cases hw
      · rw [List.getElem?_replicate] at hw
        split at hw <;> cases hw
    · obtain ⟨ns, e, _⟩ := dr
      exact ⟨_, by rw [show b = d from hb]; exact e, fun _ z => (by cases z), ncd_lst⟩
  obtain ⟨td, hs, hD⟩ := hD d
  refine hs.run (c := c) (T := []) e0 hD ⟨fun _ _ _ _ z _ => z.elim, fun v w σ Γ Ω H2 q e => ?_, fun _ _ _ _ z _ => z.elim, fun _ _ _ _ z _ => z.elim⟩
  have q : w = .sh (.bl true) := q
  subst q
  rw [show v = .bl true from e.hd]
  exact kk H2
end
end OA

namespace OA
open PySem PySem.Spec PyProof.Rows L2
/-! data as the library's data; equality of data -/
mutual
def pdD : D → PyData
  | .non => .none
  | .bl b => .bool b
  | .int i => .int i
  | .str s => .str s
  | .tup xs => .tuple (pdL xs)
  | .lst xs => .list (pdL xs)
  | .dic _ _ => .none
  | .py d => d
  | .nt ns => .tuple (ns.map .int)
def pdL : List D → List PyData
  | [] => []
  | x :: r => pdD x :: pdL r
end
mutual
/-- nothing but numbers, signs, tuples, lists -/
def plD : D → Bool
  | .str s => PyData.strOk s
  | .tup xs => plL xs
  | .lst xs => plL xs
  | .dic _ _ => false
  | .py _ => false
  | _ => true
def plL : List D → Bool
  | [] => true
  | x :: r => plD x && plL r
end
section
variable {K : PySem.W.Frag} {H : Hp} {E : Addr → Prop}
mutual
theorem pd_dp : ∀ (x : D) (v : V), plD x = true → Lay K H E x v → Dp K H v (pdD x)
  | .non, _, _, h => by rw [show _ = V.non from h]; exact .non
  | .bl b, _, _, h => by rw [show _ = V.bl b from h]; exact .bl b
  | .int i, _, _, h => by rw [show _ = V.int i from h]; exact .int i
  | .str s, _, _, h => by rw [show _ = V.str s from h]; exact .str s
  | .tup xs, _, p, ⟨a, vs, e, _, ha, hl⟩ => by rw [e]; exact .tup (SqT.of ha) (pd_dpL xs vs p hl)
  | .lst xs, _, p, ⟨a, vs, e, _, ha, hl⟩ => by rw [e]; exact .lst (SqL.of ha) (pd_dpL xs vs p hl)
  | .dic _ _, _, p, _ => by cases p
  | .py _, _, p, _ => by cases p
  | .nt ns, _, p, ⟨a, ob, e, _, ha, _⟩ => by rw [e]; exact .tup (.inl (.inr ⟨ob, ha⟩)) (dpInts ns)
theorem pd_dpL : ∀ (xs : List D) (vs : List V), plL xs = true → LayL K H E xs vs → DpAll K H vs (pdL xs)
  | [], _, _, h => by rw [show _ = [] from h]; exact .nil
  | x :: xs, _, p, ⟨v, r, e, h1, h2⟩ => by
    unfold plL at p
    obtain ⟨p1, p2⟩ := Bool.and_eq_true_iff.mp p
    rw [e]
    exact .cons (pd_dp x v p1 h1) (pd_dpL xs r p2 h2)
end
mutual
theorem pd_can : ∀ (x : D), plD x = true → (pdD x).canLay0 = true
  | .non, _ => by simp [pdD, PyData.canLay0]
  | .bl b, _ => by simp [pdD, PyData.canLay0]
  | .int i, _ => by simp [pdD, PyData.canLay0]
  | .str s, p => by simpa [pdD, PyData.canLay0, plD] using p
  | .tup xs, p => by
    unfold pdD PyData.canLay0
    exact pd_canL xs p
  | .lst xs, p => by
    unfold pdD PyData.canLay0
    exact pd_canL xs p
  | .dic _ _, p => by cases p
  | .py _, p => by cases p
  | .nt ns, _ => by
    have gen : ∀ l : List Int, PyData.canLayAll0 (l.map PyData.int) = true := fun l => by
      induction l with
      | nil => simp [PyData.canLayAll0]
      | cons n ns ih => rw [List.map_cons]; unfold PyData.canLayAll0; rw [ih]; simp [PyData.canLay0]
    unfold pdD PyData.canLay0
    exact gen ns
theorem pd_canL : ∀ (xs : List D), plL xs = true → PyData.canLayAll0 (pdL xs) = true
  | [], _ => by simp [pdL, PyData.canLayAll0]
  | x :: xs, p => by
    unfold plL at p
    obtain ⟨p1, p2⟩ := Bool.and_eq_true_iff.mp p
    unfold pdL PyData.canLayAll0
    rw [pd_can x p1, pd_canL xs p2]
    rfl
end
end
/-- x and y as data, neither too deep -/
def pdW (Ω : Om) (w : W) (k : PyData → Prop) : Prop := match w with
  | .sh x => (plD x = true ∧ (pdD x).depth ≤ 64) ∧ k (pdD x)
  | .pt p => lookL (look Ω p) fun ws => shsW ws fun ds => (plL ds = true ∧ (pdD (.lst ds)).depth ≤ 64) ∧ k (.list (pdL ds))
  | _ => False
section
variable {K : PySem.W.Frag} {am : Am}
theorem shaped_of {d : PyData} (h1 : d.canLay0 = true) (h2 : d.depth ≤ 64) : SeqAt.shaped d = true := by
  unfold SeqAt.shaped
  rw [h1, decide_eq_true h2]
  rfl
theorem pdW_el {c : Cq am} {T : List Tp} {σ : L2.St} {Γ : Gm} {Ω : Om} {H : Hp} {w : W} {v : V} {k : PyData → Prop} (e : DEnv K c T σ Γ Ω H) (hv : VOk K H (Ex c Ω) w v) (h : pdW Ω w k) : ∃ d, Dp K H v d ∧ SeqAt.shaped d = true ∧ k d := by
  cases w with
  | sh x =>
    obtain ⟨⟨h1, h2⟩, h3⟩ := h
    exact ⟨_, pd_dp x v h1 hv, shaped_of (pd_can x h1) h2, h3⟩
  | ty n => exact (show False from h).elim
  | pt p =>
    have h : lookL (look Ω p) fun ws => shsW ws fun ds => (plL ds = true ∧ (pdD (.lst ds)).depth ≤ 64) ∧ k (.list (pdL ds)) := h
    cases hl : look Ω p with
    | none => rw [hl] at h; exact (show False from h).elim
    | some od =>
      rw [hl] at h
      cases od with
      | dic ks ws => exact (show False from h).elim
      | lk o kvs ks ws => exact (show False from h).elim
      | dt ks ws => exact (show False from h).elim
      | lst ws =>
        obtain ⟨ds, rfl, ⟨h1, h2⟩, h3⟩ := shsW_el (show shsW ws fun ds => (plL ds = true ∧ (pdD (.lst ds)).depth ≤ 64) ∧ k (.list (pdL ds)) from h)
        obtain ⟨vs, a1, a2⟩ := e.ob _ (look_mem hl)
        have hx : Dp K H v (.list (pdL ds)) := by
          rw [show v = .ref p from hv]
          exact .lst (SqL.of a1) (pd_dpL ds vs h1 a2.lay)
        refine ⟨_, hx, shaped_of ?_ h2, h3⟩
        unfold PyData.canLay0
        exact pd_canL ds h1
def dEqP (neg : Bool) (x : W) (y : W) (Ω : Om) (Q : DQ) : Prop := pdW Ω x fun d => pdW Ω y fun e => Q (.sh (.bl (if neg = true then !PyData.eqv d e else PyData.eqv d e))) Ω
instance r_eqP : SR2 K am (rEqD K) (dEqP false) := ⟨fun {c T σ Γ Ω H x y wx wy Q R} e hx hy h k => by
  obtain ⟨d, h1, h2, h3⟩ := pdW_el e hx h
  obtain ⟨d', g1, g2, g3⟩ := pdW_el e hy h3
  exact ⟨d, d', h1, g1, h2, g2, k _ _ _ _ g3 (e.addv rfl)⟩⟩
instance r_neP : SR2 K am (rNeD K) (dEqP true) := ⟨fun {c T σ Γ Ω H x y wx wy Q R} e hx hy h k => by
  obtain ⟨d, h1, h2, h3⟩ := pdW_el e hx h
  obtain ⟨d', g1, g2, g3⟩ := pdW_el e hy h3
  exact ⟨d, d', h1, g1, h2, g2, k _ _ _ _ g3 (e.addv rfl)⟩⟩
theorem pdW_s {x : D} {Ω : Om} {k : PyData → Prop} : pdW Ω (.sh x) k = ((plD x = true ∧ (pdD x).depth ≤ 64) ∧ k (pdD x)) := rfl
theorem pdW_p {p : Addr} {Ω : Om} {k : PyData → Prop} : pdW Ω (.pt p) k = lookL (look Ω p) fun ws => shsW ws fun ds => (plL ds = true ∧ (pdD (.lst ds)).depth ≤ 64) ∧ k (.list (pdL ds)) := rfl
/-! sorted(ints), list.insert(0, x) -/
def dSortI (ws : List W) (Ω : Om) (Q : DQ) : Prop := one1W ws fun w => seqW Ω w fun us => shsW us fun ds => intsD ds fun ns => ∀ ms : List Int, ms.Perm ns → ms.Pairwise (· ≤ ·) → Q (.sh (.lst (ms.map .int))) Ω
instance r_sortI : SRC K am (rSortedI K) dSortI := ⟨fun {c T σ Γ Ω H xs ws Q R} e hs h k => by
  obtain ⟨w, v, rfl, hw, h1⟩ := one1W_el h hs
  obtain ⟨a, vs, us, rfl, ha, hv, h2⟩ := seqW_el e hw h1
  obtain ⟨ds, rfl, h3⟩ := shsW_el h2
  obtain ⟨ns, rfl, h4⟩ := intsD_el h3
  refine ⟨a, ns, rfl, SqL.of (by rw [ha, lay_ints hv.lay]), fun ms p pm pw hp => k _ _ _ _ (h4 ms pm pw) (e.lst hp (ints_lay ms))⟩⟩
def dInsert0 (w : W) (ws : List W) (Ω : Om) (Q : DQ) : Prop := ownL Ω w fun p xs => two2W ws fun i y => i = .sh (.int 0) ∧ lenLt xs ∧ Q (.sh .non) (OA.put Ω p (.lst (y :: xs)))
instance r_insert0 : SRM K am wInsert0 dInsert0 := ⟨fun {c T σ Γ Ω H x w xs ws Q R} e hx hs h k => by
  obtain ⟨a, vs, us, rfl, hl, ha, hv, h1⟩ := ownL_el e hx h
  obtain ⟨w1, v1, w2, v2, rfl, g1, g2, rfl, h2, h3⟩ := two2W_el h1 hs
  obtain rfl : v1 = .int 0 := g1
  show lstO (H a) _
  rw [ha]
  refine ⟨⟨rfl, ?_⟩, k _ _ _ _ h3 ((e.putL hl (ws' := w2 :: us) (vs' := v2 :: vs) ⟨_, _, rfl, g2, hv⟩).addv rfl)⟩
  rw [← hv.len]
  exact h2⟩
/-! a comprehension over an own dict's keys, locked -/
def dLcK (ix : List Nat) (i : Nat) (g : DG) (dq : DB) (de : DT) (vs : List Nat) (Γ : Gm) (Ω : Om) (Q : DQ) : Prop := (∀ i ∈ ix, i ∈ vs) ∧ varR (Γ[i]?) fun w => ownD Ω w fun p ks ws => ∀ o kvs, ∃ Pv : Nat → List W → Prop,
  dLcP ks.length (ks.map fun q => W.sh (keyD q)) g dq de vs Γ (OA.put Ω p (.lk o kvs ks ws)) Pv ∧ ∀ acc, Pv ks.length acc → shsW acc fun ds => Q (.sh (.lst ds)) Ω
theorem put_put {Ω : Om} {p : Addr} {a b : OD} : OA.put (OA.put Ω p a) p b = OA.put Ω p b := by
  unfold OA.put
  rw [List.map_map]
  refine List.map_congr_left fun q _ => ?_
  show (if (if q.1 = p then (q.1, a) else q).1 = p then ((if q.1 = p then (q.1, a) else q).1, b) else (if q.1 = p then (q.1, a) else q)) = _
  by_cases z : q.1 = p
  · simp [z]
  · simp [z]
theorem nodup_fun {α : Type} : ∀ {Ω : List (Addr × α)} {p : Addr} {a b : α}, (Ω.map (·.1)).Nodup → (p, a) ∈ Ω → (p, b) ∈ Ω → a = b
  | [], _, _, _, _, h, _ => by simp at h
  | q :: Ω, p, a, b, nd, h1, h2 => by
    obtain ⟨n1, n2⟩ := List.nodup_cons.mp nd
    rcases List.mem_cons.mp h1 with e1 | g1
    · rcases List.mem_cons.mp h2 with e2 | g2
      · rw [← e2] at e1
        exact congrArg Prod.snd e1
      · refine absurd (show q.1 ∈ Ω.map (·.1) from ?_) n1
        rw [← e1]
        exact List.mem_map.mpr ⟨(p, b), g2, rfl⟩
    · rcases List.mem_cons.mp h2 with e2 | g2
      · refine absurd (show q.1 ∈ Ω.map (·.1) from ?_) n1
        rw [← e2]
        exact List.mem_map.mpr ⟨(p, a), g1, rfl⟩
      · exact nodup_fun n2 g1 g2
theorem put_same {Ω : Om} {p : Addr} {od : OD} (nd : (Ω.map (·.1)).Nodup) (h : look Ω p = some od) : OA.put Ω p od = Ω := by
  unfold OA.put
  have : ∀ q ∈ Ω, (if q.1 = p then (q.1, od) else q) = q := fun q hq => by
    by_cases z : q.1 = p
    · rw [if_pos z]
      have := nodup_fun nd (show (p, q.2) ∈ Ω by rw [← z]; exact hq) (look_mem h)
      rw [← this]
    · rw [if_neg z]
  rw [List.map_congr_left this, List.map_id']
instance s_lcK {i : Nat} {g : TG} {d : DG} {ix vs : List Nat} {tq : TT} {dq : DB} {te : TE} {de : DT} [s1 : SG K am g d ix] [s2 : ST K am tq dq] [s3 : SE K am te de] : SE K am (tLockE (vLc (viKeys (vVar i)) g tq te vs)) (dLcK ix i d dq de vs) := ⟨fun {c T σ Γ Ω H Q R} e h k => by
  obtain ⟨hix, h⟩ := h
  obtain ⟨w, h1, h2⟩ := varR_el h
  obtain ⟨v, h3, h4⟩ := e.sl i w h1
  obtain ⟨a, ks, us, ws, rfl, hl, ha, hn, hv, h5⟩ := ownD_el e h4 h2
  refine ⟨a, _, ha, True.intro, fun od => ?_⟩
  obtain ⟨Pv, ⟨p0, ps⟩, hz⟩ := h5 od (ks.zip us)
  have nd0 := e.nd
  have hlk : look (OA.put Ω a (.lk od (ks.zip us) ks ws)) a = some (.lk od (ks.zip us) ks ws) := look_put hl
  have e1 : DEnv K c T σ Γ (OA.put Ω a (.lk od (ks.zip us) ks ws)) (upd H a (.frz od (.dK (ks.zip us)))) :=
    e.put hl ⟨us, upd_same, rfl, hn, hv.mono fun b o n h => ⟨n, by rw [upd_ne fun z => n (.inr (by rw [z]; exact List.mem_map.mpr ⟨_, look_mem hl, rfl⟩))]; exact h⟩⟩
  generalize hΩ : OA.put Ω a (.lk od (ks.zip us) ks ws) = Ω1 at *
  show optR _ _
  rw [h3]
  show frzO (upd H a _ a) _
  rw [upd_same, frzO_e]
  intro D hD
  have nD : notin D Ω1 := fun z => e1.noEx hD (.inr z)
  have naD : a ≠ D := fun z => nD (by
    rw [← z]
    exact List.mem_map.mpr ⟨_, look_mem hlk, rfl⟩)
  obtain ⟨S, e2, back⟩ := e1.save
  have e3 : DEnv K c (.v (.pt D) (.ref D) :: (S ++ T)) σ Γ ((D, .lst []) :: Ω1) (upd (upd H a (.frz od (.dK (ks.zip us)))) D (.lst [])) := e2.own hD (e2.new hD) (.inl ⟨[], [], rfl, rfl, rfl⟩)
  have hz2 : (ks.zip us).length = ks.length := by rw [List.length_zip, ← hv.len, hn, Nat.min_self]
  have wk : Walk (Itk a od (ks.zip us)) ks.length (fun H => H a = some (.frz od (.dK (ks.zip us)))) (fun i H x H' => H' = H ∧ ∃ k v, (ks.zip us)[i]? = some (k, v) ∧ x = kV k) := by
    have z := walk_keys (d := a) (o := od) (kvs := ks.zip us)
    rw [hz2] at z
    exact z
  have lkD : ∀ acc, look ((D, OD.lst acc) :: Ω1) a = some (.lk od (ks.zip us) ks ws) := fun acc => by rw [look_tl naD]; exact hlk
  refine ⟨ks.length, _, _, fun i H => ∃ acc σ2 Γ2, Pv i acc ∧ DEnv K c (.v (.pt D) (.ref D) :: (S ++ T)) σ2 Γ2 ((D, .lst acc) :: Ω1) H, wk, ⟨[], σ, Γ, p0, e3⟩, fun i H _ ⟨acc, σ2, Γ2, _, e⟩ => (e.unlock (lkD acc)).1, fun j x H2 H' hj ⟨acc, σ2, Γ2, p, e⟩ y => ?_, fun H2 ⟨acc, σ2, Γ2, p, e⟩ => ?_⟩
  · obtain ⟨rfl, q, u, hq, rfl⟩ := y
    have hk : ks[j]? = some q := by
      have := congrArg (Option.map Prod.fst) hq
      rw [← List.getElem?_map, List.map_fst_zip (by rw [← hv.len, hn]; exact Nat.le_refl _)] at this
      exact this
    have eW : DEnv K c (.v (.pt D) (.ref D) :: (S ++ T)) (L2.wipe σ vs) (wipeG Γ vs) ((D, .lst acc) :: Ω1) H' := by
      have b1 := (back e.drop).wipe vs
      exact ⟨b1.len, b1.sl, e.tm, e.ob, e.nd, e.fr, e.el, e.frm, e.inv⟩
    have hkv : VOk K H' (Ex c ((D, .lst acc) :: Ω1)) (.sh (keyD q)) (kV q) := by cases q <;> exact rfl
    refine s1.run eW hkv (ps j (.sh (keyD q)) acc D (by rw [List.getElem?_map, hk]; rfl) p nD) fun σ3 Γ3 Ω3 H3 ⟨z3, q3⟩ e6 hwp => ⟨by rw [hwp vs hix, wipe_wipe], ?_⟩
    subst z3
    refine s2.run e6 q3 fun b Ω4 H4 ⟨z4, q4⟩ e7 => ?_
    subst z4
    cases b with
    | false => exact ⟨acc, _, _, q4, e7⟩
    | true =>
      refine s3.run e7 q4 fun y wy Ω5 H5 ⟨z5, hlt, p'⟩ e8 => ?_
      subst z5
      obtain ⟨vs', a1, a2⟩ := e8.ob (D, .lst acc) List.mem_cons_self
      show lstO (H5 D) _
      rw [a1]
      have e9 := e8.drop.putL (vs' := vs' ++ [y]) (ws' := acc ++ [wy]) look_hd (a2.app (.one e8.hd))
      rw [put_hd nD] at e9
      exact ⟨by rw [← a2.len]; exact hlt, acc ++ [wy], _, _, p', e9⟩
  · have b1 := back e.drop
    have b2 : DEnv K c (.v (.pt D) (.ref D) :: T) σ Γ ((D, .lst acc) :: Ω1) H2 := ⟨b1.len, b1.sl, fun t ht => by
      rcases List.mem_cons.mp ht with rfl | ht
      · exact rfl
      · exact b1.tm t ht, b1.ob, b1.nd, b1.fr, b1.el, b1.frm, b1.inv⟩
    obtain ⟨c1, c2⟩ := b2.unlock (lkD acc)
    refine ⟨c1, ?_⟩
    rw [put_t naD.symm, ← hΩ, put_put, put_same nd0 hl] at c2
    obtain ⟨ds, rfl, h6⟩ := shsW_el (hz acc p)
    have nD' : notin D Ω := by
      rw [← hΩ] at nD
      exact fun z => nD (by rw [put_keys]; exact z)
    exact k _ _ _ _ h6 (c2.drop.unown nD')⟩
/-! a list put together, changed later -/
def dCatO (da db : DT) (Γ : Gm) (Ω : Om) (Q : DQ) : Prop := da Γ Ω fun x Ω1 => db Γ Ω1 fun y Ω2 => seqW Ω2 x fun ws => seqW Ω2 y fun us => lenOk (ws ++ us) ∧ ∀ p, notin p Ω2 → Q (.pt p) ((p, .lst (ws ++ us)) :: Ω2)
instance s_catO {ta tb : TE} {da db : DT} [s1 : SE K am ta da] [s2 : SE K am tb db] : SE K am (ownE (tOp wCat ta tb)) (dCatO da db) := ⟨fun {c T σ Γ Ω H Q R} e h k =>
  s1.run e h fun x wx Ω1 H1 h1 e1 => s2.run e1 h1 fun y wy Ω2 H2 h2 e2 => by
    obtain ⟨a, vs, ws, rfl, ha, hv, h3⟩ := seqW_el e2 e2.drop.hd h2
    obtain ⟨b, ts, us, rfl, hb, ht, hl, h4⟩ := seqW_el e2 e2.hd h3
    have n1 := hv.len
    have n2 := ht.len
    show lstO (H2 a) _
    rw [ha]
    show lstO (H2 b) _
    rw [hb]
    refine ⟨?_, fun p hp => k _ _ _ _ (h4 p (fun z => e2.noEx hp (.inr z))) (e2.drop.drop.own hp (e2.new hp) (.inl ⟨_, _, rfl, rfl, hv.app ht⟩))⟩
    have hl' : (ws ++ us).length ≤ sizeLine := hl
    rw [List.length_append] at hl'
    rw [← n1, ← n2]
    exact hl'⟩
theorem look_put_ne {Ω : Om} {p q : Addr} {od : OD} (h : p ≠ q) : look (OA.put Ω p od) q = look Ω q := by
  induction Ω with
  | nil => rfl
  | cons x Ω ih =>
    obtain ⟨b, o⟩ := x
    by_cases z : b = p
    · subst z
      rw [put_c, look_tl (fun y => h y.symm), look_tl (fun y => h y.symm), ih]
    · rw [put_t z]
      by_cases y : b = q
      · subst y
        rw [look_hd, look_hd]
      · rw [look_tl (fun x => y x.symm), look_tl (fun x => y x.symm), ih]
theorem look_in {Ω : Om} {p : Addr} {od : OD} (h : look Ω p = some od) : ¬ notin p Ω := fun n => n (List.mem_map.mpr ⟨_, look_mem h, rfl⟩)
theorem look_new {Ω : Om} {p q : Addr} {od : OD} (h : look Ω p = some od) (n : notin q Ω) : p ≠ q := fun z => look_in h (by rw [z]; exact n)
theorem pl_ints (ns : List Nat) : plL (ns.map fun (n : Nat) => D.int (n : Nat)) = true := by
  induction ns with
  | nil => rfl
  | cons n ns ih => rw [List.map_cons]; unfold plL; rw [ih]; rfl
theorem dp_ints (ns : List Nat) : PyData.depthAll (pdL (ns.map fun (n : Nat) => D.int (n : Nat))) = 0 := by
  induction ns with
  | nil => rfl
  | cons n ns ih =>
    rw [List.map_cons]
    unfold pdL PyData.depthAll
    rw [ih]
    rfl
theorem pl_all {xs : List D} (h : ∀ x ∈ xs, plD x = true) : plL xs = true := by
  induction xs with
  | nil => rfl
  | cons x xs ih =>
    unfold plL
    rw [h x List.mem_cons_self, ih fun y hy => h y (List.mem_cons_of_mem _ hy)]
    rfl
theorem dp_all {xs : List D} {n : Nat} (h : ∀ x ∈ xs, (pdD x).depth ≤ n) : PyData.depthAll (pdL xs) ≤ n := by
  induction xs with
  | nil => exact Nat.zero_le _
  | cons x xs ih =>
    unfold pdL PyData.depthAll
    have a := h x List.mem_cons_self
    have b := ih fun y hy => h y (List.mem_cons_of_mem _ hy)
    omega
end
end OA

namespace OA
open PySem PySem.Spec PyProof.Rows L2
theorem ext_srt {α : Type} {lt : α → α → Prop} (as : ∀ a b, lt a b → ¬ lt b a) : ∀ l1 l2 : List α, l1.Pairwise lt → l2.Pairwise lt → (∀ x, x ∈ l1 ↔ x ∈ l2) → l1 = l2
  | [], [], _, _, _ => rfl
  | [], y :: l2, _, _, h => absurd ((h y).mpr List.mem_cons_self) (by simp)
  | x :: l1, [], _, _, h => absurd ((h x).mp List.mem_cons_self) (by simp)
  | x :: l1, y :: l2, p1, p2, h => by
    have a1 := List.pairwise_cons.mp p1
    have a2 := List.pairwise_cons.mp p2
    have exy : x = y := by
      rcases List.mem_cons.mp ((h x).mp List.mem_cons_self) with e | m1
      · exact e
      · rcases List.mem_cons.mp ((h y).mpr List.mem_cons_self) with e | m2
        · exact e.symm
        · exact absurd (a2.1 x m1) (as _ _ (a1.1 y m2))
    subst exy
    have e := ext_srt as l1 l2 a1.2 a2.2 fun z => by
      constructor
      · intro hz
        rcases List.mem_cons.mp ((h z).mp (List.mem_cons_of_mem _ hz)) with e | m
        · subst e
          exact absurd (a1.1 z hz) (as _ _ (a1.1 z hz))
        · exact m
      · intro hz
        rcases List.mem_cons.mp ((h z).mpr (List.mem_cons_of_mem _ hz)) with e | m
        · subst e
          exact absurd (a2.1 z hz) (as _ _ (a2.1 z hz))
        · exact m
    rw [e]
section
variable {K : PySem.W.Frag} {am : Am}
/-! dict(pairs) -/
def wDictP (K : PySem.W.Frag) : List V → Hp → VK → Prop := fun xs H Q => ∃ (a : Addr) (ps : List Addr) (kvs : List (Key × V)), xs = [.ref a] ∧ SqL K H a (ps.map V.ref) ∧ Paired (fun p kv => SqT K H p [kV kv.1, kv.2]) ps kvs ∧ ∀ p, H p = none → Q (.ref p) (upd H p (.dK (mergeK [] kvs)))
theorem c_dictP {X : Cx} (hc : X.calm = true) : CallR X (.type "dict") (wDictP X.K) := im_call (call_dictP hc) fun xs H Q z => z
theorem merge_nd (wl : WL) : ∀ acc : WL, ((acc ++ wl).map (·.1)).Nodup → mergeK (wkv acc) (wkv wl) = wkv (acc ++ wl) := by
  induction wl with
  | nil => intro acc _; rw [List.append_nil]; rfl
  | cons x wl ih =>
    intro acc nd
    show mergeK (putK (wkv acc) (Sum.inl (x.1 : Int)) (V.int (x.2 : Nat))) (wkv wl) = _
    have hx : valV (wkv acc) (Sum.inl (x.1 : Int) : Key) = none := by
      rw [valV_wkv]
      cases q : acc.lookup x.1 with
      | none => rfl
      | some t =>
        rw [List.map_append, List.nodup_append] at nd
        have : (x.1, t) ∈ acc := by
          clear ih nd
          induction acc with
          | nil => cases q
          | cons y l ihl =>
            simp only [List.lookup] at q
            split at q
            · rename_i e
              have e' : x.1 = y.1 := by simpa using e
              cases q
              rw [e']
              exact List.mem_cons_self
            · exact List.mem_cons_of_mem _ (ihl q)
        exact absurd rfl (nd.2.2 x.1 (List.mem_map.mpr ⟨_, this, rfl⟩) x.1 (by simp))
    rw [putK_new _ hx]
    have e : wkv acc ++ [(Sum.inl (x.1 : Int), V.int (x.2 : Nat))] = wkv (acc ++ [x]) := by
      unfold wkv
      rw [List.map_append]
      rfl
    rw [e, ih (acc ++ [x]) (by rw [List.append_assoc]; exact nd), List.append_assoc]
    rfl
def dDictO (das : DA) (Γ : Gm) (Ω : Om) (Q : DQ) : Prop := das Γ Ω fun ws Ω1 => one1W ws fun x => ∃ wl : WL, x = .sh (.lst (wl.map fun x => D.tup [.int (x.1 : Nat), .int (x.2 : Nat)])) ∧ (wl.map (·.1)).Nodup ∧ ∀ p, notin p Ω1 → Q (.pt p) ((p, .dic (wlK wl) (wlW wl)) :: Ω1)
theorem pairs_lay {H : Hp} {E : Addr → Prop} : ∀ {wl : WL} {vs : List V}, LayL K H E (wl.map fun x => D.tup [.int (x.1 : Nat), .int (x.2 : Nat)]) vs → ∃ ps : List Addr, vs = ps.map V.ref ∧ Paired (fun p kv => SqT K H p [kV kv.1, kv.2]) ps (wkv wl)
  | [], _, h => ⟨[], by rw [show _ = [] from h]; rfl, .nil⟩
  | x :: wl, _, ⟨v, r, e, ⟨a, us, e2, _, ha, u1, r1, e3, h1, u2, r2, e4, h2, h3⟩, hr⟩ => by
    obtain ⟨ps, e5, hp⟩ := pairs_lay hr
    refine ⟨a :: ps, by rw [e, e2, e5]; rfl, .cons ?_ hp⟩
    rw [e3, e4, show u1 = .int _ from h1, show u2 = .int _ from h2, show r2 = [] from h3] at ha
    exact SqT.of ha
instance s_dictO {tas : TA} {das : DA} [s1 : SA K am tas das] : SE K am (ownE (tCB (wDictP K) tas)) (dDictO das) := ⟨fun {c T σ Γ Ω H Q R} e h k =>
  s1.run e h fun vs ws Ω1 H1 h1 e1 hv => by
    obtain ⟨w, v, rfl, hw, wl, rfl, nd, h2⟩ := one1W_el h1 hv
    obtain ⟨a, us, rfl, na, ha, hl⟩ := hw
    obtain ⟨ps, rfl, hp⟩ := pairs_lay hl
    refine ⟨a, ps, wkv wl, rfl, SqL.of ha, hp, fun p hpn => ?_⟩
    rw [show mergeK [] (wkv wl) = wkv wl from by
      have e := merge_nd wl [] (by simpa using nd)
      rw [List.nil_append] at e
      exact e]
    refine k _ _ _ _ (h2 p (fun z => e1.noEx hpn (.inr z))) (e1.own hpn (e1.new hpn) (.inr ⟨wlK wl, wlW wl, _, rfl, by rw [wkv_zip], by simp [wlK, wlW, wlD], wl_oks wl⟩))⟩
/-! sorted(pairs) -/
def prD (p : Int × Int) : D := .tup [.int p.1, .int p.2]
def kOf (H : Hp) (v : V) : Int × Int := match v with
  | .ref t => (match H t with
    | some (.tup [.int i, .int j]) => (i, j)
    | _ => (0, 0))
  | _ => (0, 0)
def dSortP (ws : List W) (Ω : Om) (Q : DQ) : Prop := one1W ws fun w => ∃ prs : List (Int × Int), w = .sh (.lst (prs.map prD)) ∧ ∀ qs : List (Int × Int), qs.Perm prs → qs.Pairwise (fun a b => SrtO.lexB b a = false) → Q (.sh (.lst (qs.map prD))) Ω
theorem prs_lay {H : Hp} {E : Addr → Prop} : ∀ {prs : List (Int × Int)} {vs : List V}, LayL K H E (prs.map prD) vs → vs.map (kOf H) = prs ∧ ∀ x ∈ vs, (∃ t, x = V.ref t ∧ H t = some (.tup [.int (kOf H x).1, .int (kOf H x).2])) ∧ Lay K H E (prD (kOf H x)) x
  | [], _, h => by rw [show _ = [] from h]; exact ⟨rfl, fun x hx => by simp at hx⟩
  | p :: prs, _, ⟨v, r, e, hv, hr⟩ => by
    obtain ⟨h1, h2⟩ := prs_lay hr
    obtain ⟨a, us, e2, na, ha, u1, r1, e3, g1, u2, r2, e4, g2, g3⟩ := hv
    rw [e3, e4, show u1 = .int _ from g1, show u2 = .int _ from g2, show r2 = [] from g3] at ha
    have hk : kOf H v = p := by
      rw [e2]
      show (match H a with | some (.tup [.int i, .int j]) => (i, j) | _ => ((0 : Int), (0 : Int))) = p
      rw [ha]
    rw [e, List.map_cons, hk, h1]
    refine ⟨rfl, fun x hx => ?_⟩
    rcases List.mem_cons.mp hx with rfl | hx
    · rw [hk]
      exact ⟨⟨a, e2, ha⟩, a, _, e2, na, ha, _, _, rfl, rfl, _, _, rfl, rfl, rfl⟩
    · exact h2 x hx
theorem lay_prs {H : Hp} {E : Addr → Prop} : ∀ {ys : List V}, (∀ x ∈ ys, Lay K H E (prD (kOf H x)) x) → LayL K H E ((ys.map (kOf H)).map prD) ys
  | [], _ => rfl
  | y :: ys, h => ⟨y, ys, rfl, h y List.mem_cons_self, lay_prs fun x hx => h x (List.mem_cons_of_mem _ hx)⟩
instance r_sortP : SRC K am (rSortedPO K) dSortP := ⟨fun {c T σ Γ Ω H xs ws Q R} e hs h k => by
  obtain ⟨w, v, rfl, hw, prs, rfl, h2⟩ := one1W_el h hs
  obtain ⟨a, us, rfl, na, ha, hl⟩ := hw
  obtain ⟨h3, h4⟩ := prs_lay hl
  refine ⟨a, us, kOf H, rfl, SqL.of ha, fun x hx => (h4 x hx).1, fun ys p hsr hst hp => ?_⟩
  have pm : ys.Perm us := hst.perm
  have h5 := h2 (ys.map (kOf H)) (by rw [← h3]; exact pm.map _) (by
    rw [List.pairwise_map]
    exact hsr)
  refine k _ _ _ _ h5 (e.lst hp ?_)
  exact lay_prs fun x hx => (h4 x (pm.mem_iff.mp hx)).2⟩
/-- a comprehension, thing by thing -/
theorem dLcP_map {α : Type} {D0 : List α} {f G : α → W} {n : Nat} {g : DG} {dq : DB} {de : DT} {vs : List Nat} {Γ : Gm} {Ω1 : Om} (h8 : D0.length ≤ 1000)
    (h : ∀ x ∈ D0, ∀ acc p (Pn : List W → Prop), notin p Ω1 → lenLt acc → Pn (acc ++ [G x]) → g (f x) (wipeG Γ vs) ((p, .lst acc) :: Ω1) fun Γ2 Ω2 => Ω2 = (p, .lst acc) :: Ω1 ∧ dq Γ2 ((p, .lst acc) :: Ω1) fun b Ω3 => Ω3 = (p, .lst acc) :: Ω1 ∧
      if b = true then de Γ2 ((p, .lst acc) :: Ω1) fun y Ω4 => Ω4 = (p, .lst acc) :: Ω1 ∧ lenLt acc ∧ Pn (acc ++ [y]) else Pn acc) :
    dLcP n (D0.map f) g dq de vs Γ Ω1 fun i acc => acc = (D0.take i).map G := by
  refine ⟨rfl, fun i w acc p hw ha hn => ?_⟩
  rw [List.getElem?_map] at hw
  cases q : D0[i]? with
  | none => rw [q] at hw; cases hw
  | some x =>
    rw [q] at hw
    obtain rfl : f x = w := Option.some.inj hw
    have hi : i < D0.length := (List.getElem?_eq_some_iff.mp q).1
    have ht : D0.take (i + 1) = D0.take i ++ [x] := by rw [List.take_succ, q]; rfl
    refine h x (List.mem_of_getElem? q) acc p (fun a => a = (D0.take (i + 1)).map G) hn ?_ ?_
    · rw [ha]
      unfold lenLt
      rw [sizeLine_eq, List.length_map, List.length_take]
      omega
    · rw [ht, List.map_append, ← ha]
      rfl
/-- a comprehension with a test -/
theorem dLcP_filt {α : Type} {D0 : List α} {f G : α → W} {t : α → Bool} {n : Nat} {g : DG} {dq : DB} {de : DT} {vs : List Nat} {Γ : Gm} {Ω1 : Om} (h8 : D0.length ≤ 1000)
    (h : ∀ x ∈ D0, ∀ acc p (Pn : List W → Prop), notin p Ω1 → lenLt acc → (if t x = true then Pn (acc ++ [G x]) else Pn acc) → g (f x) (wipeG Γ vs) ((p, .lst acc) :: Ω1) fun Γ2 Ω2 => Ω2 = (p, .lst acc) :: Ω1 ∧ dq Γ2 ((p, .lst acc) :: Ω1) fun b Ω3 => Ω3 = (p, .lst acc) :: Ω1 ∧
      if b = true then de Γ2 ((p, .lst acc) :: Ω1) fun y Ω4 => Ω4 = (p, .lst acc) :: Ω1 ∧ lenLt acc ∧ Pn (acc ++ [y]) else Pn acc) :
    dLcP n (D0.map f) g dq de vs Γ Ω1 fun i acc => acc = ((D0.take i).filter t).map G := by
  refine ⟨rfl, fun i w acc p hw ha hn => ?_⟩
  rw [List.getElem?_map] at hw
  cases q : D0[i]? with
  | none => rw [q] at hw; cases hw
  | some x =>
    rw [q] at hw
    obtain rfl : f x = w := Option.some.inj hw
    have hi : i < D0.length := (List.getElem?_eq_some_iff.mp q).1
    have ht : D0.take (i + 1) = D0.take i ++ [x] := by rw [List.take_succ, q]; rfl
    refine h x (List.mem_of_getElem? q) acc p (fun a => a = ((D0.take (i + 1)).filter t).map G) hn ?_ ?_
    · rw [ha]
      unfold lenLt
      have := List.length_filter_le t (D0.take i)
      rw [List.length_take] at this
      rw [sizeLine_eq, List.length_map]
      omega
    · rw [ht, List.filter_append, List.map_append, ← ha]
      cases z : t x with
      | true => simp [z]
      | false => simp [z]
end
end OA

namespace OA
open PySem PySem.Spec PyProof.Rows L2
section
variable {K : PySem.W.Frag} {am : Am}
/-! a list of an own dict's names; an own dict against an empty one; a list again and again -/
theorem keys_lay {H : Hp} {E : Addr → Prop} : ∀ (ks : List Key), LayL K H E (ks.map keyD) (ks.map kV)
  | [] => rfl
  | q :: ks => ⟨_, _, rfl, by cases q <;> exact rfl, keys_lay ks⟩
def dLstK (ws : List W) (Ω : Om) (Q : DQ) : Prop := one1W ws fun w => ownD Ω w fun _ ks _ => Q (.sh (.lst (ks.map keyD))) Ω
instance r_lstK : SRC K am wLstD dLstK := ⟨fun {c T σ Γ Ω H xs ws Q R} e hs h k => by
  obtain ⟨w, v, rfl, hw, h_1⟩ := one1W_el h hs
  obtain ⟨a, ks, vs, us, rfl, hl, ha, hn, hv, h_2⟩ := ownD_el e hw h_1
  show dkO (H a) _
  rw [ha]
  intro l hl'
  have em : (ks.zip vs).map (fun kv => kV kv.1) = ks.map kV := by
    have z : (ks.zip vs).map Prod.fst = ks := List.map_fst_zip (by rw [← hv.len, hn]; exact Nat.le_refl _)
    have : (ks.zip vs).map (fun kv => kV kv.1) = ((ks.zip vs).map Prod.fst).map kV := by rw [List.map_map]; rfl
    rw [this, z]
  rw [em]
  exact k _ _ _ _ h_2 (e.lst hl' (keys_lay ks))⟩
def dNeD0 (x y : W) (Ω : Om) (Q : DQ) : Prop := ownD Ω x fun _ ks _ => y = .sh (.dic [] []) ∧ Q (.sh (.bl (!ks.isEmpty))) Ω
instance r_neD0 : SR2 K am wNeD0 dNeD0 := ⟨fun {c T σ Γ Ω H x y wx wy Q R} e hx hy h k => by
  obtain ⟨a, ks, vs, us, rfl, hl, ha, hn, hv, rfl, h_2⟩ := ownD_el e hx h
  obtain ⟨b, ts, rfl, _, h3, h4⟩ := hy
  obtain rfl : ts = [] := h4.2
  show dkO (H a) _
  rw [ha]
  show dkO (H b) _
  rw [h3]
  refine ⟨by simp, ?_⟩
  have em : (ks.zip vs).isEmpty = ks.isEmpty := by
    have hz : (ks.zip vs).length = ks.length := by rw [List.length_zip, ← hv.len, hn, Nat.min_self]
    cases ks with
    | nil => rfl
    | cons q ks =>
      cases z : (q :: ks).zip vs with
      | nil => rw [z] at hz; simp at hz
      | cons _ _ => rfl
  rw [em]
  exact k _ _ _ _ h_2 (e.addv rfl)⟩
theorem layL_rep {H : Hp} {E : Addr → Prop} {ds : List D} {vs : List V} (h : LayL K H E ds vs) : ∀ n : Nat, LayL K H E (List.replicate n ds).flatten (List.replicate n vs).flatten
  | 0 => rfl
  | n + 1 => by
    rw [List.replicate_succ, List.replicate_succ, List.flatten_cons, List.flatten_cons]
    have h1 := (VOks.sh_of h).app (VOks.sh_of (layL_rep h n))
    rw [← List.map_append] at h1
    exact h1.lay
def dRep (x y : W) (Ω : Om) (Q : DQ) : Prop := seqW Ω x fun us => shsW us fun ds => intW y fun k => (0 ≤ k ∧ k ≤ 1000 ∧ ds.length ≤ 1000) ∧ Q (.sh (.lst (List.replicate k.toNat ds).flatten)) Ω
instance r_rep : SR2 K am wRep dRep := ⟨fun {c T σ Γ Ω H x y wx wy Q R} e hx hy h k => by
  obtain ⟨a, vs, ws, rfl, ha, hv, h_1⟩ := seqW_el e hx h
  obtain ⟨ds, rfl, h_2⟩ := shsW_el h_1
  obtain ⟨i, rfl, ⟨g0, g1, g2⟩, h_3⟩ := intW_el h_2
  obtain rfl : y = .int i := hy
  show lstO (H a) _
  rw [ha]
  refine ⟨⟨g0, g1, by rw [← hv.lay.len]; exact g2⟩, fun p hp => k _ _ _ _ h_3 (e.lst hp (layL_rep hv.lay _))⟩⟩
def dLstRg (da : DT) (Γ : Gm) (Ω : Om) (Q : DQ) : Prop := da Γ Ω fun x Ω1 => intW x fun n => (0 ≤ n ∧ n ≤ 1000) ∧ Q (.sh (.lst ((List.range n.toNat).map fun i => D.int (i : Nat)))) Ω1
theorem range_lay {H : Hp} {E : Addr → Prop} (n : Nat) : LayL K H E ((List.range n).map fun i => D.int (i : Nat)) ((List.range n).map fun i => V.int (i : Nat)) := by
  induction (List.range n) with
  | nil => exact rfl
  | cons x l ih => exact ⟨_, _, rfl, rfl, ih⟩
instance s_lstRg {ta : TE} {da : DT} [s1 : SE K am ta da] : SE K am (vLstRg ta) (dLstRg da) := ⟨fun {c T σ Γ Ω H Q R} e h k =>
  s1.run e h fun x w Ω1 H1 h1 e1 => by
    obtain ⟨n, rfl, hn, h2⟩ := intW_el h1
    obtain rfl : x = .int n := e1.hd
    exact ⟨hn, fun q hq => k _ _ _ _ h2 (e1.drop.lst hq (range_lay _))⟩⟩
end
end OA

namespace OA
open PySem PySem.Spec PyProof.Rows L2
section
variable {K : PySem.W.Frag} {am : Am}
/-! sorted(pairs of a number and a tuple) -/
def ptD (p : Int × List Int) : D := .tup [.int p.1, .tup (p.2.map .int)]
def intsV : List V → List Int
  | [] => []
  | .int i :: r => i :: intsV r
  | _ :: r => intsV r
theorem intsV_map (l : List Int) : intsV (l.map .int) = l := by
  induction l with
  | nil => rfl
  | cons a l ih => rw [List.map_cons, intsV, ih]
def kPT (H : Hp) (v : V) : Int × List Int := match v with
  | .ref t => (match H t with
    | some (.tup [.int i, .ref u]) => (match H u with
      | some (.tup xs) => (i, intsV xs)
      | _ => (0, []))
    | _ => (0, []))
  | _ => (0, [])
def dSortPT (ws : List W) (Ω : Om) (Q : DQ) : Prop := one1W ws fun w => ∃ prs : List (Int × List Int), w = .sh (.lst (prs.map ptD)) ∧ ∀ qs : List (Int × List Int), qs.Perm prs → qs.Pairwise (fun a b => ltPT b a = false) → Q (.sh (.lst (qs.map ptD))) Ω
theorem pts_lay {H : Hp} {E : Addr → Prop} : ∀ {prs : List (Int × List Int)} {vs : List V}, LayL K H E (prs.map ptD) vs → vs.map (kPT H) = prs ∧ ∀ x ∈ vs, (∃ t u, x = V.ref t ∧ H t = some (.tup [.int (kPT H x).1, .ref u]) ∧ H u = some (.tup ((kPT H x).2.map V.int))) ∧ Lay K H E (ptD (kPT H x)) x
  | [], _, h => by rw [show _ = [] from h]; exact ⟨rfl, fun x hx => by simp at hx⟩
  | p :: prs, _, ⟨v, r, e, hv, hr⟩ => by
    obtain ⟨h1, h2⟩ := pts_lay hr
    have hv0 := hv
    obtain ⟨a, us, e2, na, ha, u1, r1, e3, g1, u2, r2, e4, ⟨b, ws, e5, nb, hb, hl⟩, g3⟩ := hv
    have hw := lay_ints hl
    subst hw
    rw [e3, e4, show u1 = .int _ from g1, e5, show r2 = [] from g3] at ha
    have hk : kPT H v = p := by
      rw [e2]
      show (match H a with | some (.tup [.int i, .ref u]) => (match H u with | some (.tup xs) => (i, intsV xs) | _ => ((0 : Int), ([] : List Int))) | _ => ((0 : Int), ([] : List Int))) = p
      rw [ha]
      simp only [hb, intsV_map]
    rw [e, List.map_cons, hk, h1]
    refine ⟨rfl, fun x hx => ?_⟩
    rcases List.mem_cons.mp hx with rfl | hx
    · rw [hk]
      exact ⟨⟨a, b, e2, ha, hb⟩, hv0⟩
    · exact h2 x hx
theorem lay_pts {H : Hp} {E : Addr → Prop} : ∀ {ys : List V}, (∀ x ∈ ys, Lay K H E (ptD (kPT H x)) x) → LayL K H E ((ys.map (kPT H)).map ptD) ys
  | [], _ => rfl
  | y :: ys, h => ⟨y, ys, rfl, h y List.mem_cons_self, lay_pts fun x hx => h x (List.mem_cons_of_mem _ hx)⟩
instance r_sortPT : SRC K am (rSortedPT K) dSortPT := ⟨fun {c T σ Γ Ω H xs ws Q R} e hs h k => by
  obtain ⟨w, v, rfl, hw, prs, rfl, h2⟩ := one1W_el h hs
  obtain ⟨a, us, rfl, na, ha, hl⟩ := hw
  obtain ⟨h3, h4⟩ := pts_lay hl
  refine ⟨a, us, kPT H, rfl, SqL.of ha, fun x hx => (h4 x hx).1, fun ys p hsr hst hp => ?_⟩
  have pm : ys.Perm us := hst.perm
  have h5 := h2 (ys.map (kPT H)) (by rw [← h3]; exact pm.map _) (by
    rw [List.pairwise_map]
    exact hsr)
  refine k _ _ _ _ h5 (e.lst hp ?_)
  exact lay_pts fun x hx => (h4 x (pm.mem_iff.mp hx)).2⟩
end
end OA

namespace OA
open PySem PySem.Spec PyProof.Rows L2
/-! sep.join(a list of texts) -/
def vJoin (K : PySem.W.Frag) (to te : TE) : TE := fun σ H Q => to σ H fun x H1 => strR x fun a => te σ H1 fun y H2 => ∃ (p : Addr) (ys : List Str), y = .ref p ∧ SqL K H2 p (ys.map V.str) ∧ (ys.map (·.length)).sum + ys.length * a.length ≤ 16777216 ∧ Q (.str (Txt.join a ys)) H2
theorem q_join {X : Cx} {o e : Expr} {to te : TE} {apos pos : Pos} (ho : PE X o to) (he : PE X e te) (hs : starEach [e] X.env = [(false, eval e X.env)] := by rfl) (hbase : attributeBase o "join" X.env (eval o X.env) = eval o X.env := by rfl) (hline : (apos.endLine == pos.line) = true := by rfl) : PE X (.Call (.Attribute o "join" apos) [e] [] pos) (vJoin X.K to te) := im_pe (pe_join (up_pe ho) (up_pe he) (hs := hs) (hbase := hbase) (hline := hline)) fun σ H Q h =>
  ⟨_, h, fun x H1 h1 => by
    obtain ⟨a, rfl, h2⟩ := strR_el h1
    refine ⟨⟨a, rfl⟩, _, h2, fun y H2 h3 => ?_⟩
    obtain ⟨p, ys, e1, e2, e3, e4⟩ := h3
    exact ⟨a, p, ys, rfl, by rw [e1], .inl e2, e3, e4⟩⟩
def dJoin (da db : DT) (Γ : Gm) (Ω : Om) (Q : DQ) : Prop := da Γ Ω fun x Ω1 => strW x fun a => db Γ Ω1 fun y Ω2 => seqW Ω2 y fun us => shsW us fun ds => strsD ds fun ys => (ys.map (·.length)).sum + ys.length * a.length ≤ 16777216 ∧ Q (.sh (.str (Txt.join a ys))) Ω2
section
variable {K : PySem.W.Frag} {am : Am}
instance s_join {ta tb : TE} {da db : DT} [s1 : SE K am ta da] [s2 : SE K am tb db] : SE K am (vJoin K ta tb) (dJoin da db) := ⟨fun {c T σ Γ Ω H Q R} e h k =>
  s1.run e h fun x w Ω1 H1 h1 e1 => by
    obtain ⟨a, rfl, h2⟩ := strW_el h1
    obtain rfl : x = .str a := e1.hd
    refine s2.run e1.drop h2 fun y w2 Ω2 H2 h3 e2 => ?_
    obtain ⟨p, vs, us, rfl, hp, hv, h4⟩ := seqW_el e2 e2.hd h3
    obtain ⟨ds, rfl, h5⟩ := shsW_el h4
    obtain ⟨ys, rfl, hb, h6⟩ := strsD_el h5
    have := lay_strs hv.lay
    subst this
    exact ⟨p, ys, rfl, SqL.of hp, hb, k _ _ _ _ h6 (e2.drop.addv rfl)⟩⟩
end
end OA

namespace OA
open PySem PySem.Spec PyProof.Rows L2
/-! defs that change what they get -/
abbrev MSp := List W → Om → DQ → Prop
def spDM (K : PySem.W.Frag) (am : Am) (sp : MSp) : Sp := fun vs H Q _ => ∃ (E : Addr → Prop) (ws : List W) (Ω0 : Om) (Qd : DQ), (∀ b, E b → EOk H b) ∧ (∀ b, am.M b → E b) ∧ am.I H ∧ (∀ q ∈ Ω0, ObOk K H (ExN E Ω0) q.1 q.2) ∧ (Ω0.map (·.1)).Nodup ∧ (∀ p ∈ Ω0.map (·.1), ¬ E p) ∧
  VOks K H (ExN E Ω0) ws vs ∧ sp ws Ω0 Qd ∧
  ∀ v H' w Ω', Qd w Ω' → VOk K H' (ExN E Ω') w v → (∀ q ∈ Ω', ObOk K H' (ExN E Ω') q.1 q.2) → (Ω'.map (·.1)).Nodup → (∀ p ∈ Ω'.map (·.1), (p ∈ Ω0.map (·.1) ∨ H p = none) ∧ ¬ E p) →
    (∀ b o, ¬ am.M b → b ∉ Ω0.map (·.1) → H b = some o → H' b = some o) → am.I H' → Q v H'
section
variable {K : PySem.W.Frag} {am : Am}
theorem spDM_run [aj : AmJ am] {X : Cx} {body : List Stmt} {ts : TS} {td : DS} {sp : MSp} {vs : List V} {H : Hp} {Q : VK} {E0 : XK} {N : List Str} (h : spDM K am sp vs H Q E0) (hP : PSs X body ts) (hs : SS K am ts td)
    (hD : ∀ ws Ω0 Qd, sp ws Ω0 Qd → (Ω0.map (·.1)).Nodup → td ⟨fun _ Ω => Qd (.sh .non) Ω, Qd, fun _ _ => False, fun _ _ => False⟩ (startG N.length ws) Ω0) :
    ∃ t, PSs X body t ∧ t { nx := fun _ H' => Q .non H', rt := Q } (start N vs) H := by
  obtain ⟨E, ws, Ω0, Qd, hE, hM, hI, hob, hnd, hfr, hv, hsp, k⟩ := h
  let c : Cq am := ⟨E, hM, fun b => if b ∈ Ω0.map (·.1) then none else H b, aj.j _⟩
  have ex : ∀ Ω, Ex c Ω = ExN E Ω := fun Ω => rfl
  have e0 : DEnv K c [] (start N vs) (startG N.length ws) Ω0 H := by
    refine ⟨?_, fun i w hw => ?_, fun t ht => by simp at ht, hob, hnd, fun p hp => ⟨if_pos hp, hfr p hp⟩, hE, fun b o _ hb => ?_, hI⟩
    · unfold L2.start startG
      simp [hv.len]
    · rw [ex]
      unfold startG at hw
      rcases Nat.lt_or_ge i ws.length with z | z
      · rw [List.getElem?_append_left (by simpa using z), List.getElem?_map] at hw
        cases q : ws[i]? with
        | none => rw [q] at hw; cases hw
        | some w0 =>
          rw [q] at hw
          cases hw
          obtain ⟨v, h1, h2⟩ := hv.to i q
          refine ⟨v, ?_, h2⟩
          unfold L2.start
          rw [List.getElem?_append_left (by rw [List.length_map, ← hv.len]; exact z), List.getElem?_map, h1]
          rfl
      · rw [List.getElem?_append_right (by simpa using z)] at hw
        rw [List.getElem?_replicate] at hw
        split at hw <;> cases hw
    · have hb : (if b ∈ Ω0.map (·.1) then none else H b) = some o := hb
      split at hb
      · cases hb
      · exact hb
  have fin : ∀ {T σ Γ v w H'} {Ω' : Om}, Qd w Ω' → VOk K H' (Ex c Ω') w v → DEnv K c T σ Γ Ω' H' → Q v H' := fun {T σ Γ v w H' Ω'} q hw e => k v H' w Ω' q hw e.ob e.nd (fun p hp => by
    obtain ⟨h1, h2⟩ := e.fr p hp
    refine ⟨?_, h2⟩
    have h1 : (if p ∈ Ω0.map (·.1) then none else H p) = none := h1
    split at h1
    · exact .inl (by assumption)
    · exact .inr h1) (fun b o n hb he => e.frm b o n (by
    show (if b ∈ Ω0.map (·.1) then none else H b) = some o
    rw [if_neg hb]
    exact he)) e.inv
  exact ⟨ts, hP, hs.run (c := c) (T := []) e0 (hD ws Ω0 Qd hsp hnd) ⟨fun σ Γ Ω H' q e => fin q rfl e, fun v w σ Γ Ω H' q e => fin q e.hd e, fun _ _ _ _ q _ => q, fun _ _ _ _ q _ => q⟩⟩
theorem DEnv.callM {a : Am} [le : AmLe a am] {c : Cq am} {T : List Tp} {σ : L2.St} {Γ : Gm} {Ω Ω' : Om} {H H' : Hp} {w : W} {v : V} (e : DEnv K c T σ Γ Ω H) (hpin : ∀ t ∈ T, ∀ a o, t = .pin a o → True) (hv : VOk K H' (ExN c.E Ω') w v) (ho : ∀ q ∈ Ω', ObOk K H' (ExN c.E Ω') q.1 q.2)
    (nd : (Ω'.map (·.1)).Nodup) (hn : ∀ p ∈ Ω'.map (·.1), (p ∈ Ω.map (·.1) ∨ H p = none) ∧ ¬ c.E p) (k : ∀ b o, ¬ a.M b → b ∉ Ω.map (·.1) → H b = some o → H' b = some o) (hi : am.I H') : DEnv K c (.v w v :: T) σ Γ Ω' H' := by
  have kam : ∀ b o, ¬ am.M b → b ∉ Ω.map (·.1) → H b = some o → H' b = some o := fun b o n m h => k b o (fun z => n (le.M b z)) m h
  have kx : ∀ b o, ¬ Ex c Ω b → H b = some o → ¬ Ex c Ω' b ∧ H' b = some o := fun b o n h => by
    refine ⟨fun z => ?_, kam b o (fun m => n (.inl (c.ME b m))) (fun m => n (.inr m)) h⟩
    rcases z with z | z
    · exact n (.inl z)
    · rcases (hn b z).1 with q | q
      · exact n (.inr q)
      · rw [q] at h
        cases h
  refine ⟨e.len, fun j w h => ?_, fun t ht => ?_, ho, nd, fun p hp => ?_, fun b hb => ?_, fun b o n h => ?_, hi⟩
  · obtain ⟨v, h1, h2⟩ := e.sl j w h
    exact ⟨v, h1, h2.mono kx⟩
  · rcases List.mem_cons.mp ht with rfl | ht
    · exact hv
    · exact (e.tm t ht).mono kx
  · obtain ⟨h1, h2⟩ := hn p hp
    rcases h1 with h1 | h1
    · exact e.fr p h1
    · exact ⟨e.new h1, h2⟩
  · by_cases m : am.M b
    · exact am.ex H' b hi m
    · obtain ⟨o, h1, h2⟩ := e.el b hb
      exact ⟨o, kam b o m (fun z => (e.fr b z).2 hb) h1, h2⟩
  · have h1 := e.frm b o n h
    exact kam b o n (fun z => by
      have := (e.fr b z).1
      rw [h] at this
      cases this) h1
def dFnM (sp : MSp) (das : DA) (Γ : Gm) (Ω : Om) (Q : DQ) : Prop := das Γ Ω fun ws Ω1 => sp ws Ω1 Q
instance s_callM {sp : MSp} {E0 : XK} {tas : TA} {das : DA} [s1 : SA K am tas das] : SE K am (vCall (spDM K am sp) E0 tas) (dFnM sp das) := ⟨fun {c T σ Γ Ω H Q R} e h k =>
  s1.run e h fun vs ws Ω1 H1 h1 e1 hv => ⟨c.E, ws, Ω1, Q, e1.el, c.ME, e1.inv, e1.ob, e1.nd, fun p hp => (e1.fr p hp).2, hv, h1, fun v H' w Ω' q hw ho nd hn kk hi => k v w Ω' H' q (e1.callM (a := am) (fun _ _ _ _ _ => True.intro) hw ho nd hn kk hi)⟩⟩
theorem valV_zipNone {H : Hp} {E : Addr → Prop} : ∀ {ks : List Key} {vs : List V} {ws : List W} {k : Key}, ks.length = ws.length → VOks K H E ws vs → dval ks ws k = none → valV (ks.zip vs) k = none
  | [], vs, ws, k, _, _, _ => rfl
  | q :: ks, vs, [], k, hl, _, _ => by simp at hl
  | q :: ks, vs, w :: ws, k, hl, ⟨v, r, e, h1, h2⟩, hd => by
    subst e
    unfold dval at hd
    rw [List.zip_cons_cons, List.find?_cons] at hd
    unfold valV
    rw [List.zip_cons_cons, List.find?_cons]
    cases z : decide (q = k) with
    | true =>
      have hd : Option.map Prod.snd (match decide (q = k) with | true => some (q, w) | false => List.find? (fun q => decide (q.1 = k)) (ks.zip ws)) = none := hd
      rw [z] at hd
      cases hd
    | false =>
      have hd : Option.map Prod.snd (match decide (q = k) with | true => some (q, w) | false => List.find? (fun q => decide (q.1 = k)) (ks.zip ws)) = none := hd
      rw [z] at hd
      exact valV_zipNone (by simpa using hl) h2 hd
/-- d.get(k, x) -/
def vGet2 (td ty tx : TE) : TE := fun σ H Q => td σ H fun x H1 => refR x fun a => dkR (H1 a) fun _ => ty σ H1 fun y H2 => tx σ H2 fun z H3 => dkR (H3 a) fun kvs => keyR y fun k => Q ((valV kvs k).getD z) H3
theorem q_dget2 {X : Cx} {o e f : Expr} {td ty tx : TE} {apos cpos : Pos} (hu : X.A.units + 1 < cLine) (ho : PE X o td) (he : PE X e ty) (hf : PE X f tx) (m : M2 X o "get" apos e f cpos) : PE X (.Call (.Attribute o "get" apos) [e, f] [] cpos) (vGet2 td ty tx) := im_pe (pe_dget2 hu (up_pe ho) (up_pe he) (up_pe hf) m) fun σ H Q h =>
  ⟨_, h, fun x H1 z => by
    obtain ⟨a, rfl, z1⟩ := refR_el z
    obtain ⟨kvs1, e1, z2⟩ := dkR_el z1
    refine ⟨a, rfl, .inl ⟨kvs1, e1⟩, _, z2, fun y H2 z3 => ⟨_, z3, fun w H3 z4 => ?_⟩⟩
    obtain ⟨kvs, e3, z5⟩ := dkR_el z4
    obtain ⟨k, e4, z6⟩ := keyR_el z5
    exact ⟨valV kvs k, by rw [e4]; exact dget_of e3 rfl, z6⟩⟩
def dvalD (ks : List Key) (ws : List W) (x : Key) (z : W) : W := (dval ks ws x).getD z
def dDGet2 (da db dx : DT) (Γ : Gm) (Ω : Om) (Q : DQ) : Prop := da Γ Ω fun x Ω1 => dicW Ω1 x fun _ _ => db Γ Ω1 fun y Ω2 => dx Γ Ω2 fun z Ω3 => dicW Ω3 x fun ks ws => keyW y fun q => Q (dvalD ks ws q z) Ω3
instance s_dget2 {ta tb tx : TE} {da db dx : DT} [s1 : SE K am ta da] [s2 : SE K am tb db] [s3 : SE K am tx dx] : SE K am (vGet2 ta tb tx) (dDGet2 da db dx) := ⟨fun {c T σ Γ Ω H Q R} e h k =>
  s1.run e h fun x wx Ω1 H1 h1 e1 => by
    obtain ⟨a1, ks1, vs1, ws1, rfl, ha1, hn1, hv1, h1'⟩ := dicW_el e1.drop e1.hd h1
    show dkR (H1 a1) _
    refine rd_dkR ha1 ?_
    refine s2.run e1 h1' fun y wy Ω2 H2 h2 e2 => s3.run e2 h2 fun z wz Ω3 H3 h3 e3 => ?_
    obtain ⟨a, ks, vs, ws, ea, ha, hn, hv, h4⟩ := dicW_el e3.drop.drop.drop e3.drop.drop.hd h3
    obtain rfl : a1 = a := by injection ea
    obtain ⟨q, rfl, h5⟩ := keyW_el h4 e3.drop.hd
    refine rd_dkR ha (keyR_k (k := fun k => R ((valV (ks.zip vs) k).getD z) H3) q ?_)
    unfold dvalD at h5
    cases hw : dval ks ws q with
    | none =>
      rw [hw] at h5
      have : valV (ks.zip vs) q = none := valV_zipNone hn hv hw
      rw [this]
      exact k _ _ _ _ h5 (e3.drop.drop.drop.addv e3.hd)
    | some w =>
      rw [hw] at h5
      obtain ⟨v, g1, g2⟩ := valV_zip hv hw
      rw [g1]
      exact k _ _ _ _ h5 (e3.drop.drop.drop.addv g2)⟩
def dSortDW (ws : List W) (Ω : Om) (Q : DQ) : Prop := one1W ws fun w => dicW Ω w fun ks _ => ∃ ns : List Int, ks = ns.map Sum.inl ∧ ns.length < 64 ∧ ∀ ms : List Int, ms.Perm ns → ms.Pairwise (· ≤ ·) → Q (.sh (.lst (ms.map .int))) Ω
instance (priority := high) r_sortDW : SRC K am wSortDI dSortDW := ⟨fun {c T σ Γ Ω H xs ws Q R} e hs h k => by
  obtain ⟨w, v, rfl, hw, h1⟩ := one1W_el h hs
  obtain ⟨a, ks, vs, us, rfl, ha, hn, hv, ns, rfl, h64, h2⟩ := dicW_el e hw h1
  refine rd_dkR ha ⟨ns, ?_, h64, fun ms p pm pw hp => k _ _ _ _ (h2 ms pm pw) (e.lst hp (ints_lay ms))⟩
  rw [List.map_fst_zip]
  rw [← hv.len, hn]
  exact Nat.le_refl _⟩
end
end OA

namespace OA
namespace P
open PySem L2
abbrev iD (n : Nat) : D := .int (n : Nat)
abbrev tD (ns : List Nat) : D := .tup (ns.map iD)
theorem intsD_nat (g : List Nat) (k : List Int → Prop) : intsD (g.map iD) k = k (g.map fun (n : Nat) => (n : Int)) := by
  have : g.map iD = (g.map fun (n : Nat) => (n : Int)).map .int := by rw [List.map_map]; rfl
  rw [this, intsD_map]
end P
end OA

namespace OA
open PySem PySem.Spec PyProof.Rows L2 P
/-! sets among sets -/
theorem pd_tD (g : List Nat) : pdD (P.tD g) = .tuple ((g.map fun (n : Nat) => (n : Int)).map PyData.int) := by
  have : ∀ g : List Nat, pdL (g.map iD) = (g.map fun (n : Nat) => (n : Int)).map PyData.int := fun g => by
    induction g with
    | nil => rfl
    | cons n g ih =>
      rw [List.map_cons]
      unfold pdL
      rw [ih]
      rfl
  unfold pdD
  rw [this]
theorem pl_tD (g : List Nat) : plD (P.tD g) = true := pl_ints g
theorem eqv_tD (g h : List Nat) : PyData.eqv (pdD (P.tD g)) (pdD (P.tD h)) = decide (g = h) := by
  rw [pd_tD, pd_tD]
  unfold PyData.eqv
  rw [eqvInts]
  by_cases z : g = h
  · rw [z]
    simp
  · rw [decide_eq_false z, decide_eq_false fun y => z ?_]
    have inj : ∀ a b : List Nat, (a.map fun (n : Nat) => (n : Int)) = (b.map fun (n : Nat) => (n : Int)) → a = b := fun a => by
      induction a with
      | nil =>
        intro b h
        cases b with
        | nil => rfl
        | cons y b => cases h
      | cons x a ih =>
        intro b h
        cases b with
        | nil => cases h
        | cons y b =>
          rw [List.map_cons, List.map_cons] at h
          obtain ⟨h1, h2⟩ := List.cons.inj h
          rw [ih b h2, show x = y from by omega]
    exact inj _ _ y
theorem pd_gs (gs : List (List Nat)) : pdL (gs.map P.tD) = gs.map fun g => pdD (P.tD g) := by
  induction gs with
  | nil => rfl
  | cons g gs ih =>
    rw [List.map_cons]
    unfold pdL
    rw [ih]
    rfl
theorem pl_gs (gs : List (List Nat)) : plL (gs.map P.tD) = true := pl_all fun x hx => by
  obtain ⟨g, _, rfl⟩ := List.mem_map.mp hx
  exact pl_tD g
theorem dp_tD (g : List Nat) : (pdD (P.tD g)).depth ≤ 1 := by
  unfold pdD PyData.depth
  have := dp_ints g
  show PyData.depthAll _ + 1 ≤ 1
  rw [show PyData.depthAll (pdL (g.map iD)) = 0 from this]
  exact Nat.le_refl 1
theorem sh_tD (g : List Nat) : SeqAt.shaped (pdD (P.tD g)) = true := shaped_of (pd_can _ (pl_tD g)) (Nat.le_trans (dp_tD g) (by decide))
theorem sh_gs (gs : List (List Nat)) : SeqAt.shaped (.list (pdL (gs.map P.tD))) = true := by
  refine shaped_of ?_ ?_
  · unfold PyData.canLay0
    exact pd_canL _ (pl_gs gs)
  · unfold PyData.depth
    have := dp_all (xs := gs.map P.tD) (n := 1) fun x hx => by
      obtain ⟨g, _, rfl⟩ := List.mem_map.mp hx
      exact dp_tD g
    omega
section
variable {X : Cx}
def wTupT (vs : List V) (H : Hp) (Q : VK) : Prop := one1 vs fun x => refR x fun p => tupO (H p) fun _ => Q (.ref p) H
theorem c_tupT : CallR X (.type "tuple") wTupT := im_call call_tuple_of fun x H Q z => by
  obtain ⟨v, e1, z1⟩ := one1_el z
  obtain ⟨p, e2, z2⟩ := refR_el z1
  obtain ⟨xs, e3, z3⟩ := tupO_el z2
  exact ⟨p, xs, by rw [e1, e2], .inr ⟨.inl e3, z3⟩⟩
end
section
variable {K : PySem.W.Frag} {am : Am}
def dTupT (ws : List W) (Ω : Om) (Q : DQ) : Prop := one1W ws fun w => ∃ ds, w = .sh (.tup ds) ∧ Q w Ω
instance r_tupT : SRC K am wTupT dTupT := ⟨fun {c T σ Γ Ω H xs ws Q R} e hs h k => by
  obtain ⟨w, v, rfl, hw, ds, rfl, h1⟩ := one1W_el h hs
  obtain ⟨a, vs, rfl, n, ha, hl⟩ := hw
  show tupO (H a) _
  rw [ha]
  exact k _ _ _ _ h1 (e.addv ⟨a, vs, rfl, n, ha, hl⟩)⟩
theorem lay_gs {H : Hp} {E : Addr → Prop} {gs : List (List Nat)} {v : V} (h : Lay K H E (.lst (gs.map P.tD)) v) : Dp K H v (.list (pdL (gs.map P.tD))) := pd_dp (.lst (gs.map P.tD)) v (pl_gs gs) h
def dNotInLT (x : W) (y : W) (Ω : Om) (Q : DQ) : Prop := ∃ (g : List Nat) (gs : List (List Nat)), x = .sh (P.tD g) ∧ y = .sh (.lst (gs.map P.tD)) ∧ Q (.sh (.bl (!decide (g ∈ gs)))) Ω
instance r_notInLT : SR2 K am (rNotInD K) dNotInLT := ⟨fun {c T σ Γ Ω H x y wx wy Q R} e hx hy h k => by
  obtain ⟨g, gs, rfl, rfl, q⟩ := h
  refine ⟨pdD (P.tD g), _, pd_dp _ _ (pl_tD g) hx, lay_gs hy, sh_tD g, sh_gs gs, ?_⟩
  have e1 : ((pdL (gs.map P.tD)).any fun z => PyData.eqv z (pdD (P.tD g))) = decide (g ∈ gs) := by
    rw [pd_gs, List.any_map]
    by_cases z : g ∈ gs
    · rw [decide_eq_true z, List.any_eq_true]
      exact ⟨g, z, by show PyData.eqv _ _ = true; rw [eqv_tD, decide_eq_true rfl]⟩
    · rw [decide_eq_false z, List.any_eq_false]
      intro h hh y
      have y : PyData.eqv (pdD (P.tD h)) (pdD (P.tD g)) = true := y
      rw [eqv_tD] at y
      exact z (by rw [← of_decide_eq_true y]; exact hh)
  rw [e1]
  exact k _ _ _ _ q (e.addv rfl)⟩
def dIndexLT (w : W) (ws : List W) (Ω : Om) (Q : DQ) : Prop := ∃ (g : List Nat) (gs : List (List Nat)) (j : Nat), w = .sh (.lst (gs.map P.tD)) ∧ ws = [.sh (P.tD g)] ∧ gs[j]? = some g ∧ (∀ m h, m < j → gs[m]? = some h → h ≠ g) ∧ Q (.sh (.int (j : Nat))) Ω
instance r_indexLT : SRM K am (rIndexD K) dIndexLT := ⟨fun {c T σ Γ Ω H x w xs ws Q R} e hx hs h k => by
  obtain ⟨g, gs, j, rfl, rfl, hj, hno, q⟩ := h
  obtain ⟨y, r, rfl, hy, rfl⟩ := hs
  obtain ⟨a, vs, rfl, _⟩ := (show ∃ a vs, x = .ref a ∧ _ from hx)
  refine ⟨a, y, pdD (P.tD g), _, j, pdD (P.tD g), rfl, rfl, lay_gs hx, pd_dp _ _ (pl_tD g) hy, sh_gs gs, sh_tD g, ?_, ?_, fun m z hm hz => ?_, k _ _ _ _ q (e.addv rfl)⟩
  · rw [pd_gs, List.getElem?_map, hj]
    rfl
  · rw [eqv_tD, decide_eq_true rfl]
  · rw [pd_gs, List.getElem?_map] at hz
    cases q2 : gs[m]? with
    | none => rw [q2] at hz; cases hz
    | some h =>
      rw [q2] at hz
      cases hz
      rw [eqv_tD, decide_eq_false (hno m h hm q2)]⟩
end
end OA

namespace OA
namespace P
open PySem L2
local macro_rules
  | `(tactic| push_cast only [$a,*]) => `(tactic| simp -implicitDefEqProofs only [Int.toNat_natCast, List.cons.injEq, W.sh.injEq, D.int.injEq, D.str.injEq, D.bl.injEq, D.tup.injEq, D.lst.injEq, W.pt.injEq, and_assoc, exists_eq_left', exists_eq_left, exists_and_left, true_implies, dIsi, tn_n, tn_b, tn_i, tn_s, tn_t, tn_nt, tn_l, kr_NoneType_bool, kr_NoneType_int, kr_NoneType_str, kr_NoneType_list, kr_NoneType_tuple, kr_NoneType_dict, kr_bool_bool, kr_bool_int, kr_bool_str, kr_bool_list, kr_bool_tuple, kr_bool_dict, kr_int_bool, kr_int_int, kr_int_str, kr_int_list, kr_int_tuple, kr_int_dict, kr_str_bool, kr_str_int, kr_str_str, kr_str_list, kr_str_tuple, kr_str_dict, kr_list_bool, kr_list_int, kr_list_str, kr_list_list, kr_list_tuple, kr_list_dict, kr_tuple_bool, kr_tuple_int, kr_tuple_str, kr_tuple_list, kr_tuple_tuple, kr_tuple_dict, kr_dict_bool, kr_dict_int, kr_dict_str, kr_dict_list, kr_dict_tuple, kr_dict_dict, dVar, dC_n, dC_b, dC_i, dC_s, dC_t, dC_r, dOp, dUn, dNil, dCons, dStar, dStarT, dTup, dLst, dLstO, dAnd, dOr, dNot, dIf, dTest, dYes, dChain, dCall, dNext, dCut, dSeq, dDrop, dRet, dRetN, dIfS, dName, sgnil_e, sgcons_e, dGtup, dAsg, dAug, dWhile, dFor, dLc, dLcO, dLc2, dDc, dI0, dIC, dEq, dIsN, isNonW, noPy, dAddS, dMulS, dCat, dCatT, dInT, dInLI, dInTI, dInS, dIxL, dIxT, dIxS, dNeg, dNoPart, dPart, dSl, dSlL, dSlT, dSlS, dRev, dDGet, dDIn, dDNew, dDNewS, dsDPut, dgSub, dSetL, isLW, dLM, dLM0, dAppend, dPopAt, dExtend, dPop, dLen, dTupL, dLstL, dAbs, dIntB, dMin2, dMax2, dMaxL, dCKw, dMaxT, dFn, dList, dTupI, dStrI, dR1, dR2, dEnum, dTAnd, dTOr, dTNot, varR_e, intW_e, blW_e, strW_e, shW_e, tyW_e, tupW_e, tupW_n, tup0W_e, lookL_e, lookD_e, lookR_e, lookR_l, seqW_e, seqW_p, dicW_e, dicW_p, ownL_p, ownD_p, keyW_i, keyW_s, one1W_e, two2W_e, shsW_nil, shsW_cons, shsW_app, shsW_map, intsD_nil, intsD_cons, intsD_map, strsD_map, cWR_n, cWR_b, cWR_i, cWR_s, flW_n, flW_b, flW_i, flW_s, fls_nil, fls_n, fls_b, fls_i, fls_s, lenW_l, lenW_d, lenW_t, lenW_n, lenW_s, lenW_p, lenO'_l, lenO'_d, atR_0, atR_1, atR_2, atR_3, atR_4, lenOk_0, lenOk_1, lenOk_2, lenOk_3, lenOk_4, lenOk_5, look_hd, put_c, put_n, notins_nil, startG, scal, List.map, List.replicate, List.length_cons, List.length_nil, List.cons_append, List.nil_append, List.append_nil, List.getElem?_cons_zero, List.getElem?_cons_succ, List.set_cons_zero, List.set_cons_succ, wipeG, true_and, and_true, if_true, if_false, decide_eq_true_eq, reduceCtorEq, reduceIte, Bool.false_eq_true, decide_true, decide_false, Bool.true_and, Bool.false_and, Bool.and_true, Bool.and_false, Bool.not_true, Bool.not_false, V.int.injEq, V.str.injEq, V.bl.injEq, Nat.reduceAdd, Nat.reduceSub, Nat.reduceLT, Int.reduceEq, Int.reduceLT, Int.reduceLE, Int.reduceAdd, Int.reduceSub, Int.cast_ofNat_Int, $a,*])
  | `(tactic| push_cast [$a,*]) => `(tactic| ((repeat refine LaterD.mk ?_); push_cast only [$a,*]; repeat ((refine LaterD.mk ?_); (repeat refine LaterD.mk ?_); push_cast only [$a,*])))
/-! sets -/
def lastN (g : List Nat) : Int := maxI (-1) (g.map fun (n : Nat) => (n : Int))
def growN (many : Nat) (gs : List (List Nat)) : List (List Nat) := gs.flatMap fun g => ((List.range many).filter fun (n : Nat) => decide (lastN g < (n : Int))).map fun n => g ++ [n]
def levN (many : Nat) : Nat → List (List Nat)
  | 0 => [[]]
  | s + 1 => growN many (levN many s)
def setsN (many least most : Nat) : List (List Nat) := ((List.range (most + 1)).filter fun s => decide (least ≤ s)).flatMap (levN many)
theorem levN_len : ∀ many, many ≤ 8 → ∀ s, s ≤ 9 → (levN many s).length ≤ 256 ∧ ∀ g ∈ levN many s, g.length ≤ 8 := by decide +kernel
theorem sets_len {many least : Nat} (h8 : many ≤ 8) : ∀ i, i ≤ 9 → ((((List.range i).filter fun s => decide (least ≤ s)).flatMap (levN many)).length ≤ 256 * i)
  | 0, _ => by simp
  | i + 1, hi => by
    have ih := sets_len (least := least) h8 i (by omega)
    have l := (levN_len many h8 i (by omega)).1
    rw [List.range_succ, List.filter_append, List.flatMap_append, List.length_append]
    have : (([i].filter fun s => decide (least ≤ s)).flatMap (levN many)).length ≤ 256 := by
      by_cases z : least ≤ i
      · simp [z]; omega
      · simp [z]
    omega
section
variable {P : Program} {w : World} {K : PySem.W.Frag} {mg : Str → Option Value} {base : Heap} {A : Ad}
theorem sc_is_whole : FnScope ["number", "least", "most"] ["number", "least", "most"] (defScope s_is_whole) := ⟨rfl, rfl, rfl, by decide +kernel, rfl, by decide +kernel, by decide +kernel⟩
theorem ok_is_whole (T : Txt K mg base A) : FnOk P w K mg base CX0 1 A.is_whole A.d_is_whole ["number", "least", "most"] (spD K am0 (fun ws Q => ∃ i lo hi : Int, ws = [.sh (.int i), .sh (.int lo), .sh (.int hi)] ∧ Q (.sh (.bl (decide (lo ≤ i) && decide (i ≤ hi)))) [])) := by
  refine T.F_is_whole.ok sc_is_whole (fun vs H Q E h => by
    obtain ⟨_, ws, Qd, _, _, _, hv, hsp, _⟩ := h
    obtain ⟨i, lo, hi, rfl, _⟩ := hsp
    exact hv.len.symm) (fun cdv A' outer s H vs Q E hr h => ?_)
  have hu := hu_of hr
  refine spD_run (td := ?td) h (qs_cons (q_if (PW.pt (pw_or (q_val (pe_callB c_isi (by rfl) T.m_isinstance (by decide +kernel) (pa_cons (qv 0) (pa_cons (pe_bltn (v := .ty "bool") (by rfl) T.m_bool (by decide +kernel) rfl) pa_nil)))) (pw_or1 (pt_not (q_val (pe_callB c_isi (by rfl) T.m_isinstance (by decide +kernel) (pa_cons (qv 0) (pa_cons (pe_bltn (v := .ty "int") (by rfl) T.m_int (by decide +kernel) rfl) pa_nil)))))))) (pss_one (ps_ret pe_bl)) pss_nil)
    (pss_one (ps_ret (q_chain o_le o_le (qv 1) (qv 0) (qv 2))))) ?hs ?hD
  case hs => (try simp only [cx_K, cx_prog, cx_w, blkK]); exact inferInstance
  rintro ws Qd ⟨i, lo, hi, rfl, kk⟩
  push_cast []
  refine ite2 (fun h => ?_) (fun h => ?_)
  · rw [decide_eq_true h, Bool.true_and] at kk
    exact .sh kk
  · rw [decide_eq_false h, Bool.false_and] at kk
    exact .sh kk
theorem sc_check_many : FnScope ["many"] ["many"] (defScope s_check_many) := ⟨rfl, rfl, rfl, by decide +kernel, rfl, by decide +kernel, by decide +kernel⟩
theorem ok_check_many (T : Txt K mg base A) : FnOk P w K mg base CX0 2 A.check_many A.d_check_many ["many"] (spD K am0 (fun ws Q => ∃ n : Nat, ws = [.sh (.int n)] ∧ (1 ≤ n ∧ n ≤ 8) ∧ Q (.sh .non) [])) := by
  refine T.F_check_many.ok sc_check_many (fun vs H Q E h => by
    obtain ⟨_, ws, Qd, _, _, _, hv, hsp, _⟩ := h
    obtain ⟨n, rfl, _⟩ := hsp
    exact hv.len.symm) (fun cdv A' outer s H vs Q E hr h => ?_)
  have hu := hu_of hr
  refine spD_run (td := ?td) h (pss_one (q_if (pt_not (q_val (q_call (ok_is_whole T) (hr.mono (by decide)) rfl T.g_is_whole T.k_is_whole T.b_is_whole pass0 (pa_cons (qv 0) (pa_cons pe_int (pa_cons (q_gi rfl T.c_MOST_STATIONS) pa_nil)))))) (pss_one ps_never) pss_nil)) ?hs ?hD
  case hs => (try simp only [cx_K, cx_prog, cx_w, blkK]); exact inferInstance
  rintro ws Qd ⟨n, rfl, hn, kk⟩
  push_cast []
  rw [decide_eq_true (by omega), decide_eq_true (by omega)]
  push_cast []
  exact kk
theorem sc_check_numbers : FnScope ["many", "most"] ["many", "most"] (defScope s_check_numbers) := ⟨rfl, rfl, rfl, by decide +kernel, rfl, by decide +kernel, by decide +kernel⟩
theorem ok_check_numbers (T : Txt K mg base A) : FnOk P w K mg base CX0 3 A.check_numbers A.d_check_numbers ["many", "most"] (spD K am0 (fun ws Q => ∃ n m : Nat, ws = [.sh (.int n), .sh (.int m)] ∧ (1 ≤ n ∧ n ≤ 8 ∧ 1 ≤ m ∧ m ≤ n) ∧ Q (.sh .non) [])) := by
  refine T.F_check_numbers.ok sc_check_numbers (fun vs H Q E h => by
    obtain ⟨_, ws, Qd, _, _, _, hv, hsp, _⟩ := h
    obtain ⟨n, m, rfl, _⟩ := hsp
    exact hv.len.symm) (fun cdv A' outer s H vs Q E hr h => ?_)
  have hu := hu_of hr
  refine spD_run (td := ?td) h (qs_cons (ps_expr (q_call (ok_check_many T) (hr.mono (by decide)) rfl T.g_check_many T.k_check_many T.b_check_many pass0 (pa_cons (qv 0) pa_nil)))
    (pss_one (q_if (pt_not (q_val (q_call (ok_is_whole T) (hr.mono (by decide)) rfl T.g_is_whole T.k_is_whole T.b_is_whole pass0 (pa_cons (qv 1) (pa_cons pe_int (pa_cons (qv 0) pa_nil)))))) (pss_one ps_never) pss_nil))) ?hs ?hD
  case hs => (try simp only [cx_K, cx_prog, cx_w, blkK]); exact inferInstance
  rintro ws Qd ⟨n, m, rfl, hn, kk⟩
  push_cast []
  refine ⟨n, rfl, by omega, by omega, ?_⟩
  push_cast []
  rw [decide_eq_true (by omega), decide_eq_true (by omega)]
  push_cast []
  exact kk
theorem sc_sets_of : FnScope ["many", "least", "most", "told", "groups", "size", "group", "number"] ["many", "least", "most"] (defScope s_sets_of) := ⟨rfl, rfl, rfl, by decide +kernel, rfl, by decide +kernel, by decide +kernel⟩
theorem ok_sets_of (T : Txt K mg base A) : FnOk P w K mg base CX0 1 A.sets_of A.d_sets_of ["many", "least", "most"] (spD K am0 (fun ws Q => ∃ many least most : Nat, ws = [.sh (.int many), .sh (.int least), .sh (.int most)] ∧ (many ≤ 8 ∧ most ≤ 8) ∧ Q (.sh (.lst ((setsN many least most).map tD))) [])) := by
  refine T.F_sets_of.ok sc_sets_of (fun vs H Q E h => by
    obtain ⟨_, ws, Qd, _, _, _, hv, hsp, _⟩ := h
    obtain ⟨many, least, most, rfl, _⟩ := hsp
    exact hv.len.symm) (fun cdv A' outer s H vs Q E hr h => ?_)
  have hu := hu_of hr
  refine spD_run (td := ?td) h (qs_cons (ps_set (i := 3) sc_sets_of.nd rfl (Or.inl rfl) (q_own (pe_lst pa_nil)))
    (qs_cons (ps_set (i := 4) sc_sets_of.nd rfl (Or.inl rfl) (pe_lst (pa_cons (pe_tup pa_nil) pa_nil)))
    (qs_cons (q_for PassesOwn.never rfl (qi_r1 (by rfl) T.m_range (pa_cons (pe_op o_add (qv 2) pe_int) pa_nil)) (pg_name (i := 5) sc_sets_of.nd rfl (Or.inl rfl)) (qs_cons (q_cut (q_if (q_cmp o_ge (qv 5) (qv 1) (nomark _)) (pss_one (ps_expr (lm1 PySem.F.slot_list_extend PySem.F.type_list_extend m_extend (qv 3) (pa_cons (qv 4) pa_nil)))) pss_nil))
    (pss_one (ps_setLc2 (i := 4) (own := [("group", 6), ("number", 7)]) (vs1 := [7]) (g := gName 6) (g1 := gName 7) (tt := tYes) rfl sc_sets_of.nd rfl rfl (sw_true rfl rfl rfl (by decide +kernel)) (qi_list (qv 4)) (blkOk_by (own := [("group", 6), ("number", 7)]) (N := ["many", "least", "most", "told", "groups", "size", "group", "number"]) (sc := defScope s_sets_of) (by decide +kernel)) (by decide) (fun _ _ _ _ _ => (pg_name (i := 6) sc_sets_of.nd rfl (Or.inl rfl))) (fun _ _ _ _ _ => pts_nil) (fun _ _ _ _ _ => (qi_r1 (by rfl) T.m_range (pa_cons (qv 0) pa_nil))) (fun _ _ _ _ _ => (pg_name (i := 7) sc_sets_of.nd rfl (Or.inl rfl))) (fun _ _ _ _ _ => pts_one (q_cmp o_gt (qv 7) (pe_callBK (c_maxT rfl) (by rfl) T.m_max (by decide +kernel) (pa_cons (qv 6) pa_nil) (pk_cons (pe_un o_neg pe_int) pk_nil)) (nomark _))) (fun _ _ _ _ _ => (pe_tup (q_starT (qv 6) (pa_cons (qv 7) pa_nil))))))))
    (pss_one (ps_ret (qv 3)))))) ?hs ?hD
  case hs => (try simp only [cx_K, cx_prog, cx_w, blkK]); exact inferInstance
  rintro ws Qd ⟨many, least, most, rfl, hn, kk⟩
  push_cast []
  intro p hp
  push_cast []
  have e1 : ((most : Int) + 1).toNat = most + 1 := by omega
  rw [e1]
  refine ⟨by omega, by omega, fun i Γ Ω => ∃ v5 v6 v7, Γ = [some (.sh (.int many)), some (.sh (.int least)), some (.sh (.int most)), some (.pt p), some (.sh (.lst ((levN many i).map tD))), v5, v6, v7] ∧ Ω = [(p, .lst ((((List.range i).filter fun s => decide (least ≤ s)).flatMap (levN many)).map fun g => W.sh (tD g)))], ⟨none, none, none, rfl, rfl⟩, ?_, ?_⟩
  · rintro i w Γ Ω hw ⟨v5, v6, v7, rfl, rfl⟩
    have hi : i < most + 1 := by
      have := (List.getElem?_eq_some_iff.mp hw).1
      simpa [natsW] using this
    obtain rfl : W.sh (.int (i : Nat)) = w := by
      unfold natsW at hw
      rw [List.getElem?_map, List.getElem?_range hi] at hw
      exact Option.some.inj hw
    push_cast []
    refine ⟨fun Γ Ω => Γ = [some (.sh (.int many)), some (.sh (.int least)), some (.sh (.int most)), some (.pt p), some (.sh (.lst ((levN many i).map tD))), some (.sh (.int i)), v6, v7] ∧ Ω = [(p, .lst ((((List.range (i + 1)).filter fun s => decide (least ≤ s)).flatMap (levN many)).map fun g => W.sh (tD g)))], ?_, ?_⟩
    · rintro Γ Ω ⟨rfl, rfl⟩
      push_cast []
      refine ⟨by decide, by decide, fun i1 acc => acc = (growN many ((levN many i).take i1)).map fun g => W.sh (tD g), ⟨rfl, fun i1 w acc p1 hw ha hn1 => ?_⟩, ?_⟩
      · rw [List.map_map, List.getElem?_map] at hw
        cases q : (levN many i)[i1]? with
        | none => rw [q] at hw; cases hw
        | some g =>
          rw [q] at hw
          obtain rfl : W.sh (tD g) = w := Option.some.inj hw
          have ht : (levN many i).take (i1 + 1) = (levN many i).take i1 ++ [g] := by rw [List.take_succ, q]; rfl
          have hg := (levN_len many hn.1 i (by omega)).2 g (List.mem_of_getElem? q)
          push_cast [intsD_nat]
          refine ⟨by omega, by omega, fun j acc' => acc' = acc ++ ((List.range j).filter fun (n : Nat) => decide (lastN g < (n : Int))).map fun n => W.sh (tD (g ++ [n])), by simp, fun j u acc' hu hacc' => ?_, fun acc' h => ?_⟩
          · have hj : j < many := by
              have := (List.getElem?_eq_some_iff.mp hu).1
              simpa [natsW] using this
            obtain rfl : W.sh (.int (j : Nat)) = u := by
              unfold natsW at hu
              rw [List.getElem?_map, List.getElem?_range hj] at hu
              exact Option.some.inj hu
            have hr : ((List.range (j + 1)).filter fun (n : Nat) => decide (lastN g < (n : Int))) = if lastN g < (j : Int) then ((List.range j).filter fun (n : Nat) => decide (lastN g < (n : Int))) ++ [j] else (List.range j).filter fun (n : Nat) => decide (lastN g < (n : Int)) := by
              rw [List.range_succ, List.filter_append]
              by_cases z : lastN g < (j : Int)
              · simp [z]
              · simp [z]
            push_cast [hr]
            refine ite2 (fun h => ?_) (fun h => ?_)
            · have h' : lastN g < (j : Int) := h
              rw [if_pos h']
              refine ⟨lenOk_of (by simp; omega), ?_, ?_⟩
              · subst hacc' ha
                unfold lenLt
                rw [sizeLine_eq, List.length_append, List.length_map, List.length_map]
                have b1 : (growN many ((levN many i).take i1)).length ≤ 8 * 256 := by
                  unfold growN
                  rw [List.length_flatMap]
                  have : ∀ l : List (List Nat), (l.map fun g => (((List.range many).filter fun (n : Nat) => decide (lastN g < (n : Int))).map fun n => g ++ [n]).length).sum ≤ 8 * l.length := fun l => by
                    induction l with
                    | nil => simp
                    | cons a l ih =>
                      rw [List.map_cons, List.sum_cons, List.length_cons]
                      have : (((List.range many).filter fun (n : Nat) => decide (lastN a < (n : Int))).map fun n => a ++ [n]).length ≤ many := by
                        rw [List.length_map]
                        exact Nat.le_trans (List.length_filter_le _ _) (by rw [List.length_range]; exact Nat.le_refl _)
                      omega
                  have t := this ((levN many i).take i1)
                  have t2 := List.length_take_le i1 (levN many i)
                  have t3 := (levN_len many hn.1 i (by omega)).1
                  have t4 : ((levN many i).take i1).length ≤ (levN many i).length := by rw [List.length_take]; omega
                  omega
                have b2 := List.length_filter_le (fun (n : Nat) => decide (lastN g < (n : Int))) (List.range j)
                rw [List.length_range] at b2
                omega
              · rw [hacc']
                simp
            · have h' : ¬ lastN g < (j : Int) := h
              rw [if_neg h']
              exact hacc'
          · have el : (natsW many).length = many := by simp [natsW]
            rw [el] at h
            rw [h, ha, ht]
            simp [growN, List.map_map]
      · rintro acc rfl
        have el : (List.map W.sh (List.map tD (levN many i))).length = (levN many i).length := by simp
        rw [el, List.take_length]
        have e2 : (growN many (levN many i)).map (fun g => W.sh (tD g)) = ((growN many (levN many i)).map tD).map W.sh := by rw [List.map_map]; rfl
        rw [e2]
        push_cast []
        first | done | exact ⟨rfl, _, rfl⟩ | exact ⟨_, rfl⟩
    · have hf : ((List.range (i + 1)).filter fun s => decide (least ≤ s)) = if least ≤ i then ((List.range i).filter fun s => decide (least ≤ s)) ++ [i] else (List.range i).filter fun s => decide (least ≤ s) := by
        rw [List.range_succ, List.filter_append]
        by_cases z : least ≤ i
        · simp [z]
        · simp [z]
      rw [hf]
      refine ite2 (fun h => ?_) (fun h => ?_)
      · have h' : least ≤ i := by omega
        simp only [h', if_true, List.flatMap_append, List.map_append]
        push_cast []
        refine ⟨lenOk_of ?_, ?_⟩
        · rw [List.length_append, List.length_map, List.length_map, List.length_map]
          have := (levN_len many hn.1 i (by omega)).1
          have := sets_len (least := least) hn.1 i (by omega)
          omega
        · simp [List.map_map]
      · have h' : ¬ least ≤ i := by omega
        simp only [h', if_false]
        push_cast []
  · rintro Γ Ω ⟨v5, v6, v7, rfl, rfl⟩
    push_cast []
    have e2 : (natsW (most + 1)).length = most + 1 := by simp [natsW]
    rw [e2]
    refine .frz (.lst (ds := (setsN many least most).map tD) ?_) kk
    rw [look_hd, List.map_map]
    rfl
end
end P
end OA

namespace OA
namespace P
open PySem L2
theorem sets_ok {many : Nat} : ∀ s, ∀ g ∈ levN many s, g.Nodup ∧ (∀ j ∈ g, j < many)
  | 0, g, h => by
    have : g = [] := by simpa [levN] using h
    rw [this]; simp
  | s + 1, g, h => by
    unfold levN growN at h
    obtain ⟨g0, h0, h1⟩ := List.mem_flatMap.mp h
    obtain ⟨n, h2, rfl⟩ := List.mem_map.mp h1
    obtain ⟨h3, h4⟩ := List.mem_filter.mp h2
    obtain ⟨a, b⟩ := sets_ok s g0 h0
    have h5 := List.mem_range.mp h3
    have h6 : lastN g0 < (n : Int) := of_decide_eq_true h4
    have mx : ∀ j ∈ g0, (j : Int) ≤ lastN g0 := fun j hj => by
      unfold lastN
      cases g0 with
      | nil => simp at hj
      | cons x r =>
        show _ ≤ maxI (-1) ((x : Int) :: r.map fun (n : Nat) => (n : Int))
        exact (foldl_max _ _).2 _ (by
          have : (j : Int) ∈ (x :: r).map fun (n : Nat) => (n : Int) := List.mem_map.mpr ⟨j, hj, rfl⟩
          exact this)
    refine ⟨?_, fun j hj => ?_⟩
    · rw [List.nodup_append]
      refine ⟨a, by simp, fun x hx y hy => ?_⟩
      have : y = n := by simpa using hy
      have := mx x hx
      omega
    · rcases List.mem_append.mp hj with hj | hj
      · exact b j hj
      · have : j = n := by simpa using hj
        omega
theorem setsN_ok {many least most : Nat} {g : List Nat} (h : g ∈ setsN many least most) : g.Nodup ∧ (∀ j ∈ g, j < many) := by
  obtain ⟨s, _, h⟩ := List.mem_flatMap.mp h
  exact sets_ok s g h
end P
end OA

namespace OA
namespace P
open PySem L2
local macro_rules
  | `(tactic| push_cast only [$a,*]) => `(tactic| simp -implicitDefEqProofs only [Int.toNat_natCast, List.cons.injEq, W.sh.injEq, D.int.injEq, D.str.injEq, D.bl.injEq, D.tup.injEq, D.lst.injEq, W.pt.injEq, and_assoc, exists_eq_left', exists_eq_left, exists_and_left, true_implies, dIsi, tn_n, tn_b, tn_i, tn_s, tn_t, tn_nt, tn_l, kr_NoneType_bool, kr_NoneType_int, kr_NoneType_str, kr_NoneType_list, kr_NoneType_tuple, kr_NoneType_dict, kr_bool_bool, kr_bool_int, kr_bool_str, kr_bool_list, kr_bool_tuple, kr_bool_dict, kr_int_bool, kr_int_int, kr_int_str, kr_int_list, kr_int_tuple, kr_int_dict, kr_str_bool, kr_str_int, kr_str_str, kr_str_list, kr_str_tuple, kr_str_dict, kr_list_bool, kr_list_int, kr_list_str, kr_list_list, kr_list_tuple, kr_list_dict, kr_tuple_bool, kr_tuple_int, kr_tuple_str, kr_tuple_list, kr_tuple_tuple, kr_tuple_dict, kr_dict_bool, kr_dict_int, kr_dict_str, kr_dict_list, kr_dict_tuple, kr_dict_dict, dVar, dC_n, dC_b, dC_i, dC_s, dC_t, dC_r, dOp, dUn, dNil, dCons, dStar, dStarT, dTup, dLst, dLstO, dAnd, dOr, dNot, dIf, dTest, dYes, dChain, dCall, dNext, dCut, dSeq, dDrop, dRet, dRetN, dIfS, dName, sgnil_e, sgcons_e, dGtup, dAsg, dAug, dWhile, dFor, dLc, dLcO, dLc2, dDc, dI0, dIC, dEq, dIsN, isNonW, noPy, dAddS, dMulS, dCat, dCatT, dInT, dInLI, dInTI, dInS, dIxL, dIxT, dIxS, dNeg, dNoPart, dPart, dSl, dSlL, dSlT, dSlS, dRev, dDGet, dDIn, dDNew, dDNewS, dsDPut, dgSub, dSetL, isLW, dLM, dLM0, dAppend, dPopAt, dExtend, dPop, dLen, dTupL, dLstL, dAbs, dIntB, dMin2, dMax2, dMaxL, dCKw, dMaxT, dFn, dList, dTupI, dStrI, dR1, dR2, dEnum, dTAnd, dTOr, dTNot, varR_e, intW_e, blW_e, strW_e, shW_e, tyW_e, tupW_e, tupW_n, tup0W_e, lookL_e, lookD_e, lookR_e, lookR_l, seqW_e, seqW_p, dicW_e, dicW_p, ownL_p, ownD_p, keyW_i, keyW_s, one1W_e, two2W_e, shsW_nil, shsW_cons, shsW_app, shsW_map, intsD_nil, intsD_cons, intsD_map, strsD_map, cWR_n, cWR_b, cWR_i, cWR_s, flW_n, flW_b, flW_i, flW_s, fls_nil, fls_n, fls_b, fls_i, fls_s, lenW_l, lenW_d, lenW_t, lenW_n, lenW_s, lenW_p, lenO'_l, lenO'_d, atR_0, atR_1, atR_2, atR_3, atR_4, lenOk_0, lenOk_1, lenOk_2, lenOk_3, lenOk_4, lenOk_5, look_hd, put_c, put_n, notins_nil, startG, scal, List.map, List.replicate, List.length_cons, List.length_nil, List.cons_append, List.nil_append, List.append_nil, List.getElem?_cons_zero, List.getElem?_cons_succ, List.set_cons_zero, List.set_cons_succ, wipeG, true_and, and_true, if_true, if_false, decide_eq_true_eq, reduceCtorEq, reduceIte, Bool.false_eq_true, decide_true, decide_false, Bool.true_and, Bool.false_and, Bool.and_true, Bool.and_false, Bool.not_true, Bool.not_false, V.int.injEq, V.str.injEq, V.bl.injEq, Nat.reduceAdd, Nat.reduceSub, Nat.reduceLT, Int.reduceEq, Int.reduceLT, Int.reduceLE, Int.reduceAdd, Int.reduceSub, Int.cast_ofNat_Int, dForK, dDcO, dLstVals, dEqLI, dDictO, dSortP, dSortPT, $a,*])
  | `(tactic| push_cast [$a,*]) => `(tactic| ((repeat refine LaterD.mk ?_); push_cast only [$a,*]; repeat ((refine LaterD.mk ?_); (repeat refine LaterD.mk ?_); push_cast only [$a,*])))
/-! the law's own sets -/
def subG : Nat → List (List Nat)
  | 0 => [[]]
  | n + 1 => subG n ++ (subG n).map (· ++ [n])
def allL (many : Nat) : List (List Nat) := (List.range (many + 1)).flatMap (levN many)
abbrev ptN (g : List Nat) : Int × List Int := ((g.length : Int), g.map fun (n : Nat) => (n : Int))
def srtC : List (List Nat) → Bool
  | [] => true
  | [_] => true
  | a :: b :: r => ltPT (ptN a) (ptN b) && srtC (b :: r)
def setsC (many : Nat) : Bool := (allL many).isPerm (subG many) && srtC (allL many) && ((List.range 9).all fun most => decide ((allL many).filter (fun g => decide (1 ≤ g.length) && decide (g.length ≤ most)) = setsN many 1 most)) && decide ((subG many).length ≤ 256) && (subG many).all fun g => decide (g.length ≤ 8)
theorem sets_all : ((List.range 9).all setsC) = true := by decide +kernel
theorem ltL_tot : ∀ l m : List Int, l ≠ m → ltL m l = false → ltL l m = true
  | [], [], h, _ => (h rfl).elim
  | [], _ :: _, _, _ => rfl
  | _ :: _, [], _, h => by cases h
  | a :: l, b :: m, h, h2 => by
    unfold ltL at h2 ⊢
    by_cases z : a = b
    · rw [if_pos z]
      rw [if_pos z.symm] at h2
      exact ltL_tot l m (fun e => h (by rw [z, e])) h2
    · rw [if_neg z]
      rw [if_neg fun y => z y.symm] at h2
      have := of_decide_eq_false h2
      exact decide_eq_true (by omega)
theorem ltPT_tot {p q : Int × List Int} (h : p ≠ q) (h2 : ltPT q p = false) : ltPT p q = true := by
  unfold ltPT at h2 ⊢
  by_cases z : p.1 = q.1
  · rw [if_pos z]
    rw [if_pos z.symm] at h2
    exact ltL_tot _ _ (fun e => h (Prod.ext z e)) h2
  · rw [if_neg z]
    rw [if_neg fun y => z y.symm] at h2
    have := of_decide_eq_false h2
    exact decide_eq_true (by omega)
theorem srtC_pw : ∀ l : List (List Nat), srtC l = true → (l.map ptN).Pairwise fun a b => ltPT a b = true
  | [], _ => List.Pairwise.nil
  | [a], _ => List.pairwise_singleton _ _
  | a :: b :: r, h => by
    unfold srtC at h
    obtain ⟨h1, h2⟩ := Bool.and_eq_true_iff.mp h
    have ih := srtC_pw (b :: r) h2
    rw [List.map_cons]
    refine List.pairwise_cons.mpr ⟨fun y hy => ?_, ih⟩
    rcases List.mem_cons.mp hy with rfl | hy
    · exact h1
    · have h3 := (List.pairwise_cons.mp ih).1 y hy
      exact (ltPT_swo (id : Int × List Int → Int × List Int)).ltle h1 (ltPT_asym _ _ h3)
theorem sets_at {many : Nat} (h8 : many ≤ 8) : (allL many).Perm (subG many) ∧ ((allL many).map ptN).Pairwise (fun a b => ltPT a b = true) ∧ (∀ most, most ≤ 8 → (allL many).filter (fun g => decide (1 ≤ g.length) && decide (g.length ≤ most)) = setsN many 1 most) ∧ (subG many).length ≤ 256 ∧ ∀ g ∈ subG many, g.length ≤ 8 := by
  have h := sets_all
  rw [List.all_eq_true] at h
  have h := h many (List.mem_range.mpr (by omega))
  unfold setsC at h
  simp only [Bool.and_eq_true, List.all_eq_true, decide_eq_true_eq] at h
  obtain ⟨⟨⟨⟨h1, h2⟩, h3⟩, h4⟩, h5⟩ := h
  exact ⟨List.isPerm_iff.mp h1, srtC_pw _ h2, fun most hm => h3 most (List.mem_range.mpr (by omega)), h4, h5⟩
theorem sets_sorted {many : Nat} (h8 : many ≤ 8) {qs : List (Int × List Int)} (pm : qs.Perm ((subG many).map ptN)) (pw : qs.Pairwise fun a b => ltPT b a = false) : qs = (allL many).map ptN := by
  obtain ⟨h1, h2, _⟩ := sets_at h8
  have pm2 : qs.Perm ((allL many).map ptN) := pm.trans (h1.map ptN).symm
  have nd : qs.Nodup := pm2.nodup_iff.mpr (h2.imp fun {a b} hh e => by
    rw [e, ltPT_irr] at hh
    cases hh)
  refine ext_srt (lt := fun a b => ltPT a b = true) (fun a b h h' => by rw [ltPT_asym _ _ h] at h'; cases h') _ _ ((pw.and nd).imp fun hh => ltPT_tot hh.2 hh.1) h2 fun x => pm2.mem_iff
section
variable {P : Program} {w : World} {K : PySem.W.Frag} {mg : Str → Option Value} {base : Heap} {A : Ad}
theorem sc__law_sets : FnScope ["_law_many_here", "_law_most", "_law_some", "_law_number", "_law_one", "_law_pair"] ["_law_many_here", "_law_most"] (defScope s__law_sets) := ⟨rfl, rfl, rfl, by decide +kernel, rfl, by decide +kernel, by decide +kernel⟩
theorem ok__law_sets (T : Txt K mg base A) : FnOk P w K mg base CX0 1 A._law_sets A.d__law_sets ["_law_many_here", "_law_most"] (spD K am0 (fun ws Q => ∃ many most : Nat, ws = [.sh (.int many), .sh (.int most)] ∧ (many ≤ 8 ∧ most ≤ 8) ∧ Q (.sh (.lst ((setsN many 1 most).map tD))) [])) := by
  refine T.F__law_sets.ok sc__law_sets (fun vs H Q E h => by
    obtain ⟨_, ws, Qd, _, _, _, hv, hsp, _⟩ := h
    obtain ⟨many, most, rfl, _⟩ := hsp
    exact hv.len.symm) (fun cdv A' outer s H vs Q E hr h => ?_)
  have hu := hu_of hr
  refine spD_run (td := ?td) h (qs_cons (ps_set (i := 2) sc__law_sets.nd rfl (Or.inl rfl) (pe_lst (pa_cons (pe_tup pa_nil) pa_nil)))
    (qs_cons (q_for PassesOwn.never rfl (qi_r1 (by rfl) T.m_range (pa_cons (qv 0) pa_nil)) (pg_name (i := 3) sc__law_sets.nd rfl (Or.inr rfl)) (pss_one (ps_set (i := 2) sc__law_sets.nd rfl (Or.inl rfl) (pe_op o_cat (qv 2) (q_lc (own := [("_law_one", 4)]) (g := gName 4) (tt := tYes) rfl sc__law_sets.nd (qi_list (qv 2)) (blkOk_by (own := [("_law_one", 4)]) (N := ["_law_many_here", "_law_most", "_law_some", "_law_number", "_law_one", "_law_pair"]) (sc := defScope s__law_sets) (by decide +kernel)) (fun _ _ _ _ _ => (pg_name (i := 4) sc__law_sets.nd rfl (Or.inl rfl))) (fun _ _ _ _ _ => pts_nil) (fun _ _ _ _ _ => (pe_op (o_catA (K' := K)) (qv 4) (pe_tup (pa_cons (qv 3) pa_nil)))))))))
    (pss_one (ps_ret (q_lc (own := [("_law_pair", 5)]) (g := gName 5) rfl sc__law_sets.nd (qi_list (pe_callB (cr_sortedPT hr.units) (by rfl) T.m_sorted (by decide +kernel) (pa_cons (q_lc (own := [("_law_one", 4)]) (g := gName 4) (tt := tYes) rfl sc__law_sets.nd (qi_list (qv 2)) (blkOk_by (own := [("_law_one", 4)]) (N := ["_law_many_here", "_law_most", "_law_some", "_law_number", "_law_one", "_law_pair"]) (sc := defScope s__law_sets) (by decide +kernel)) (fun _ _ _ _ _ => (pg_name (i := 4) sc__law_sets.nd rfl (Or.inl rfl))) (fun _ _ _ _ _ => pts_nil) (fun _ _ _ _ _ => (pe_tup (pa_cons (pe_callB c_len (by rfl) T.m_len (by decide +kernel) (pa_cons (qv 4) pa_nil)) (pa_cons (qv 4) pa_nil))))) pa_nil))) (blkOk_by (own := [("_law_pair", 5)]) (N := ["_law_many_here", "_law_most", "_law_some", "_law_number", "_law_one", "_law_pair"]) (sc := defScope s__law_sets) (by decide +kernel)) (fun _ _ _ _ _ => (pg_name (i := 5) sc__law_sets.nd rfl (Or.inl rfl))) (fun _ _ _ _ _ => pts_one (q_tchain o_le o_le pe_int (pe_ix ix_T (qv 5) pe_int (fun _ _ => rfl)) (qv 1))) (fun _ _ _ _ _ => (pe_ix ix_T (qv 5) pe_int (fun _ _ => rfl)))))))) ?hs ?hD
  case hs => (try simp only [cx_K, cx_prog, cx_w, blkK]); exact inferInstance
  rintro ws Qd ⟨many, most, rfl, hn, kk⟩
  push_cast []
  refine ⟨by omega, by omega, fun i Γ Ω => ∃ v3 v4 v5, Γ = [some (.sh (.int many)), some (.sh (.int most)), some (.sh (.lst ((subG i).map tD))), v3, v4, v5] ∧ Ω = [], ⟨_, _, _, rfl, rfl⟩, ?_, ?_⟩
  · rintro i w Γ Ω hw ⟨v3, v4, v5, rfl, rfl⟩
    have hi : i < many := by
      have := (List.getElem?_eq_some_iff.mp hw).1
      simpa [natsW] using this
    obtain rfl : W.sh (.int (i : Nat)) = w := by
      unfold natsW at hw
      rw [List.getElem?_map, List.getElem?_range hi] at hw
      exact Option.some.inj hw
    obtain ⟨_, _, _, s4, s5⟩ := sets_at (many := i) (by omega)
    push_cast []
    have e0 : List.map W.sh (List.map tD (subG i)) = (subG i).map fun g => W.sh (tD g) := by rw [List.map_map]; rfl
    rw [e0]
    refine ⟨by simp, _, dLcP_map (D0 := subG i) (f := fun g => W.sh (tD g)) (G := fun g => W.sh (tD (g ++ [i]))) (by omega) (fun g hg acc q Pn hn0 ll k1 => ?_), fun acc hacc => ?_⟩
    · have lg := s5 g hg
      have ea : tD (g ++ [i]) = D.tup (g.map iD ++ [iD i]) := by simp [tD]
      rw [ea] at k1
      push_cast []
      exact ⟨lenOk_of (by simp; omega), ll, k1⟩
    · have : acc = ((subG i).map fun g => tD (g ++ [i])).map W.sh := by
        rw [hacc, List.length_map, List.take_length, List.map_map]
        rfl
      subst this
      push_cast []
      refine ⟨lenOk_of (by simp; omega), ?_, _, rfl⟩
      simp [subG, List.map_map]
  · rintro Γ Ω ⟨v3, v4, v5, rfl, rfl⟩
    have e2 : (natsW many).length = many := by simp [natsW]
    rw [e2]
    obtain ⟨_, _, s3, s4, s5⟩ := sets_at hn.1
    push_cast []
    have e0 : List.map W.sh (List.map tD (subG many)) = (subG many).map fun g => W.sh (tD g) := by rw [List.map_map]; rfl
    rw [e0]
    have ep : ∀ g : List Nat, ptD (ptN g) = D.tup [.int (g.length : Nat), tD g] := fun g => by
      unfold ptD tD
      rw [List.map_map]
      rfl
    refine ⟨by simp, by simp, _, dLcP_map (D0 := subG many) (f := fun g => W.sh (tD g)) (G := fun g => W.sh (ptD (ptN g))) (by omega) (fun g hg acc q Pn hn0 ll k1 => ?_), fun acc hacc => ?_⟩
    · have k1' := k1
      rw [ep] at k1'
      have eg : ((g.map iD).length : Int) = (g.length : Int) := by rw [List.length_map]
      push_cast [eg]
      exact ⟨ll, k1'⟩
    · have : acc = (((subG many).map ptN).map ptD).map W.sh := by
        rw [hacc, List.length_map, List.take_length, List.map_map, List.map_map]
        rfl
      subst this
      push_cast []
      refine ⟨(subG many).map ptN, rfl, fun qs pm pw => ?_⟩
      have eq := sets_sorted hn.1 pm pw
      subst eq
      have e1 : List.map W.sh (List.map ptD (List.map ptN (allL many))) = (allL many).map fun g => W.sh (ptD (ptN g)) := by rw [List.map_map, List.map_map]; rfl
      rw [e1]
      have al : (allL many).length ≤ 256 := by rw [(sets_at hn.1).1.length_eq]; exact s4
      refine ⟨_, dLcP_filt (D0 := allL many) (f := fun g => W.sh (ptD (ptN g))) (G := fun g => W.sh (tD g)) (t := fun g => decide (1 ≤ g.length) && decide (g.length ≤ most)) (by omega) (fun g hg acc q Pn hn0 ll k1 => ?_), fun acc hacc => ?_⟩
      · rw [ep]
        push_cast []
        by_cases c1 : 1 ≤ g.length
        · rw [if_pos (by omega)]
          by_cases c2 : g.length ≤ most
          · rw [if_pos (by omega)]
            exact ⟨ll, by simpa [c1, c2] using k1⟩
          · rw [if_neg (by omega)]
            simpa [c1, c2] using k1
        · rw [if_neg (by omega)]
          simpa [c1] using k1
      · rw [List.length_map, List.take_length, s3 most hn.2] at hacc
        have : acc = ((setsN many 1 most).map tD).map W.sh := by rw [hacc, List.map_map]; rfl
        subst this
        push_cast []
        exact .sh kk
end
end P
end OA

namespace OA
open PySem L2
/-! the program's ways as plain functions -/
inductive Wd where
  | sil | hrd | noi
  deriving DecidableEq
def Wd.s : Wd → Str
  | .sil => "silent"
  | .hrd => "heard"
  | .noi => "noise"
inductive WayM where
  | row (r : Str) (k : Nat)
  | wait (ds : List Int) (p : Nat) (l : Int)
  | tree (sk jn : Bool) (ds : List Int) (lv : Option Int) (ls : List Nat) (skp : Bool)
def lvV : Option Int → V
  | none => .non
  | some i => .int i
def nV (n : Nat) : V := .int n
/-- what is asked of a way -/
def WayM.Ok : WayM → Prop
  | .row r k => r.length ≤ 12 ∧ k < r.length
  | .wait ds p _ => p < ds.length
  | .tree _ _ ds _ ls skp => 0 < ds.length ∧ (∀ p ∈ ls, p < ds.length) ∧ (skp = true → 2 ≤ ls.length)
def WayM.deep : WayM → Nat
  | .tree _ _ _ _ ls _ => ls.length
  | _ => 0
def comes (jn pr : Bool) (lv : Option Int) (ls : List Nat) : Option Int := if pr = true ∧ lv = none ∧ (jn = true ∨ ls = []) then some 0 else lv
def opened (ls : List Nat) : List Nat := if ls = [] then [0] else ls
def WayM.asked (pr : Bool) : WayM → WayM
  | .row r k => .row r k
  | .wait ds p l => .wait ds p l
  | .tree sk jn ds lv ls skp => .tree sk jn ds (comes jn pr lv ls) (opened ls) skp
def WayM.wants (pr : Bool) : WayM → Bool
  | .row r k => pr && r.cps.toList.getD k 0 == 49
  | .wait _ _ l => pr && l == 0
  | .tree _ jn _ lv ls _ => pr && comes jn pr lv ls == some 0
def splitLv (ds : List Int) (inside : Bool) (lv : Option Int) (ls : List Nat) : Option Int := if inside = true then some (ds.getD (ls.headD 0) 0) else lv.map (· + 1)
def splitLs (ds : List Int) (ls : List Nat) : List Nat := (ls.headD 0 + 1) % ds.length :: (ls.headD 0 + 1) % ds.length :: ls.tail
def dropLv (lv : Option Int) : Option Int := lv.map (· - 1)
def WayM.goes (sp : Bool) (wd : Wd) : WayM → WayM
  | .row r k => .row r ((k + 1) % r.length)
  | .wait ds p l => if sp = true ∧ wd = .noi then .wait ds ((p + 1) % ds.length) (ds.getD p 0) else if 0 < l then .wait ds p (l - 1) else .wait ds p l
  | .tree sk jn ds lv ls skp =>
    if wd = .noi then .tree sk jn ds (splitLv ds sp lv ls) (splitLs ds ls) sk
    else if wd = .sil ∧ skp = true then .tree sk jn ds (splitLv ds (dropLv lv == some 0) (dropLv lv) ls.tail) (splitLs ds ls.tail) skp
    else .tree sk jn ds (dropLv (if sp = true then none else lv)) ls.tail false
theorem opened_ne (ls : List Nat) : opened ls ≠ [] := by
  unfold opened
  split
  · simp
  · assumption
theorem WayM.asked_ok {m : WayM} (pr : Bool) (h : m.Ok) : (m.asked pr).Ok := by
  cases m with
  | row r k => exact h
  | wait ds p l => exact h
  | tree sk jn ds lv ls skp =>
    obtain ⟨h0, h1, h2⟩ := h
    refine ⟨h0, fun p hp => ?_, fun hs => ?_⟩
    · unfold opened at hp
      split at hp
      · simp at hp; omega
      · exact h1 p hp
    · have := h2 hs
      unfold opened
      split
      · rename_i e; rw [e] at this; simp at this
      · exact this
theorem splitLs_ok {ds : List Int} {ls : List Nat} (h0 : 0 < ds.length) (h1 : ∀ p ∈ ls, p < ds.length) : ∀ p ∈ splitLs ds ls, p < ds.length := by
  intro p hp
  have hm : (ls.headD 0 + 1) % ds.length < ds.length := Nat.mod_lt _ h0
  unfold splitLs at hp
  rcases List.mem_cons.mp hp with e | hp
  · omega
  · rcases List.mem_cons.mp hp with e | hp
    · omega
    · exact h1 p (List.mem_of_mem_tail hp)
/-- a tree's way behind wants -/
def WayM.Set : WayM → Prop
  | .tree _ _ _ _ ls _ => ls ≠ []
  | _ => True
theorem WayM.asked_set (m : WayM) (pr : Bool) : (m.asked pr).Set := by
  cases m with
  | row r k => exact True.intro
  | wait ds p l => exact True.intro
  | tree sk jn ds lv ls skp => exact opened_ne ls
theorem WayM.goes_ok {m : WayM} (sp : Bool) (wd : Wd) (h : m.Ok) : (m.goes sp wd).Ok := by
  cases m with
  | row r k =>
    obtain ⟨h1, h2⟩ := h
    exact ⟨h1, Nat.mod_lt _ (by omega)⟩
  | wait ds p l =>
    have hp : p < ds.length := h
    have hm : (p + 1) % ds.length < ds.length := Nat.mod_lt _ (by omega)
    simp only [WayM.goes]
    split
    · exact hm
    · split
      · exact hp
      · exact hp
  | tree sk jn ds lv ls skp =>
    obtain ⟨h0, h1, h2⟩ := h
    have ht : ∀ p ∈ ls.tail, p < ds.length := fun p hp => h1 p (List.mem_of_mem_tail hp)
    simp only [WayM.goes]
    split
    · exact ⟨h0, splitLs_ok h0 h1, fun _ => by simp [splitLs]⟩
    · split
      · exact ⟨h0, splitLs_ok h0 ht, fun _ => by simp [splitLs]⟩
      · exact ⟨h0, ht, fun h => by cases h⟩
end OA

namespace OA
open PySem L2
/-! digits -/
def moreD (b : Nat) : Nat → Nat → Nat → List Nat
  | 0, _, _ => []
  | f + 1, g, n => if g = 0 then [] else n / b % b :: moreD b f (g / b) (n / b)
def digsN (b many n : Nat) : List Nat := (n % b :: moreD b 3 ((many - 1) / b) n).reverse
def digs (b many n : Nat) : List Int := (digsN b many n).map fun (k : Nat) => (k : Int)
theorem moreD_zero (b f n : Nat) : moreD b f 0 n = [] := by cases f <;> simp [moreD]
theorem moreD_len (b : Nat) : ∀ f g n, (moreD b f g n).length ≤ f
  | 0, _, _ => Nat.le_refl _
  | f + 1, g, n => by
    unfold moreD
    split
    · simp
    · have := moreD_len b f (g / b) (n / b)
      simp
      omega
theorem digs_pos (b many n : Nat) : 0 < (digs b many n).length := by simp [digs, digsN]
theorem digs_len (b many n : Nat) : (digs b many n).length ≤ 4 := by
  have := moreD_len b 3 ((many - 1) / b) n
  simp [digs, digsN]
  omega
/-! rules -/
inductive RuleM where
  | turns
  | rows (rs : List Str)
  | tree (sk jn : Bool)
  | waits (b : Nat)
def howS (sk : Bool) : Str := if sk = true then "skips" else "plain"
def lateS (jn : Bool) : Str := if jn = true then "joins" else "waits"
def RuleAt (H : Hp) (a : Addr) : RuleM → Prop
  | .turns => H a = some (.tup [.str "turns"])
  | .rows rs => ∃ b, H a = some (.tup [.str "rows", .ref b]) ∧ H b = some (.tup (rs.map V.str))
  | .tree sk jn => H a = some (.tup [.str "tree", .str (howS sk), .str (lateS jn)])
  | .waits b => H a = some (.tup [.str "waits", .int b])
def RuleM.Ok (many : Nat) : RuleM → Prop
  | .turns => True
  | .rows rs => rs.length = many ∧ ∃ n, 1 ≤ n ∧ n ≤ 12 ∧ ∀ r ∈ rs, r.length = n ∧ ∀ c ∈ r.cps.toList, c = 48 ∨ c = 49
  | .tree _ _ => True
  | .waits b => 2 ≤ b ∧ b ≤ 4
abbrev RuleM.OkN (many : Nat) (R : RuleM) : Prop := R.Ok many
theorem RuleAt.same {H H' : Hp} (e : Same H H') {a : Addr} {R : RuleM} (h : RuleAt H a R) : RuleAt H' a R := by
  cases R with
  | turns => exact e _ _ h
  | rows rs =>
    obtain ⟨b, h1, h2⟩ := h
    exact ⟨b, e _ _ h1, e _ _ h2⟩
  | tree sk jn => exact e _ _ h
  | waits b => exact e _ _ h
end OA

namespace OA
open PySem PySem.Spec PyProof.Rows L2
/-! all(elt for x in iter): the element's own frame -/
theorem inv_regens {X : Cx} {pins : List (Addr × Obj)} {σ : L2.St} {H : Hp} {s s' : Shared} (I : Inv X pins σ H s) (h1 : s'.heap = s.heap) (h2 : s'.os = s.os) (h3 : AllBare s'.gens) : Inv X pins σ H s' :=
  ⟨I.ok, h2.trans I.os, h3, by rw [h1]; exact I.base, by rw [h1]; exact I.loc, by rw [h1]; exact I.cell, I.free, I.freeC, by rw [h1]; exact I.pin, by rw [h1]; exact I.hok, I.len⟩
def gxY (X : Cx) (N : List Str) (scope : Scope) (cl : List (Str × Addr)) (C : Addr) (code : Value) (fp : List Addr) (pn : List (Addr × Obj)) (A : Around) (s4 : Shared) (H4 : Hp) : Cx :=
  { prog := X.prog, w := X.w, K := X.K, mg := X.mg, base := X.base, A := A, N := N, s_0 := s4, H_0 := H4, env := genEnv scope cl C code builtinsNs X.env, outer := X.stack, stack := genEnv scope cl C code builtinsNs X.env :: X.stack, ex := fp, fn := fun _ => false, calm := true, pn := pn, xe := fun _ _ => False }
/-- the names that the generator takes from the def -/
def FreeOk (X : Cx) (σ : L2.St) (scope : Scope) (N : List Str) (σY : L2.St) : Prop := ∀ (i : Nat) (y : Str) (v : V), N[i]? = some y → σY[i]? = some (some v) → scope.names.lookup y = some .free ∧ ∃ j : Nat, X.N[j]? = some y ∧ σ[j]? = some (some v) ∧ (X.env.kindOf y = some .cell ∨ X.env.kindOf y = some .free)
theorem gx_start {X : Cx} {pins : List (Addr × Obj)} {σ σY : L2.St} {H4 : Hp} {s4 s5 : Shared} {N : List Str} {scope : Scope} {code : Value} {fp : List Addr} {A : Around} {x : Str} {a : Addr} {go : Obj} {m : Str → Option Value}
    (I : Inv X pins σ H4 s4) (S : GxR.GenS X.env scope x) (hfp : ∀ b ∈ fp, FpOk X pins H4 b ∧ b < s4.heap.objs.size) (hd : A.handled = none) (hfr : A.frames = some (genEnv scope (cloFrom X.env.cells scope.names []) s4.heap.objs.size code builtinsNs X.env :: X.stack))
    (hk : ∀ b o, s4.heap.get? b = some o → s5.heap.get? b = some o) (hos : s5.os = s4.os) (hg : AllBare s5.gens) (hm : s5.heap.Ns s4.heap.objs.size m) (ha : s5.heap.get? a = some go) (han : s4.heap.objs.size < a) (hgo : ∀ v, go.data ≠ .cell v)
    (hl : σY.length = N.length) (hf : FreeOk X σ scope N σY) :
    Inv (gxY X N scope (cloFrom X.env.cells scope.names []) s4.heap.objs.size code fp [(a, go)] A s4 H4) [] σY H4 s5 := by
  have cm : ∀ {y : Str} {c : Addr}, (cloFrom X.env.cells scope.names []).lookup y = some c → X.env.cells.lookup y = some c := fun e => NdefX.clo_cm S.free e
  have lt4 : ∀ b, b ∈ fp → b ≠ s4.heap.objs.size := fun b hb => Nat.ne_of_lt (hfp b hb).2
  refine ⟨⟨I.ok.mod, S.kind, I.ok.glob, rfl, Nat.le_refl _, fun y z c h1 h2 => I.ok.inj y z c (cm h1) (cm h2), fun y hy => ?_, fun _ _ h => (by cases h), fun _ => hd, hfr, .inr ⟨rfl, rfl⟩, fun b hb => ⟨lt4 b hb, fun y c h => (hfp b hb).1.2.2.2.2.1 y c (cm h)⟩,
    fun b o e => I.bs b o e, Nat.le_trans I.ok.bsz I.sz, fun b o e hb => ?_, fun b hb hs => ?_, I.stack, I.stkFree⟩, hos, hg, Un.kept hk, ⟨m, hm, fun i y v h1 h2 h3 => ?_⟩, fun y c h => ?_, I.hok.fresh (Nat.le_refl _), fun y c h => I.freeC y c (cm h), fun p hp => ?_, I.hok.kept hk, hl⟩
  · have hy : scope.names.lookup y = some .cell ∨ scope.names.lookup y = some .free := hy
    rcases hy with hy | hy
    · exact absurd rfl (S.cell _ (PySem.mem_of_lookup hy))
    · obtain ⟨c, hc⟩ := S.free _ (PySem.mem_of_lookup hy) rfl
      exact ⟨c, NdefX.clo_has S.free (PySem.mem_of_lookup hy) hc⟩
  · rcases (hfp b hb).1.2.2.2.1 with z | z
    · exact I.ok.noex b o e z
    · have h1 := Heap.lt_size e
      exact absurd (Nat.lt_of_lt_of_le h1 (Nat.le_trans I.ok.bsz z)) (Nat.lt_irrefl _)
  · rcases List.mem_cons.mp (I.stkSub b hs) with z | z
    · exact (hfp b hb).1.2.1 z
    · exact (hfp b hb).1.2.2.1 z
  · obtain ⟨k1, j, j1, j2, j3⟩ := hf i y v h1 h2
    obtain ⟨mX, _, hX⟩ := I.loc
    obtain ⟨u, ru, lu⟩ := hX j y v j1 j2 (by
      rcases j3 with j3 | j3
      · exact .inr (.inl j3)
      · exact .inr (.inr j3))
    obtain ⟨c, hc⟩ := S.free _ (PySem.mem_of_lookup k1) rfl
    refine ⟨u, ru, .inr ⟨.inr k1, c, NdefX.clo_has S.free (PySem.mem_of_lookup k1) hc, ?_⟩⟩
    rcases lu with ⟨l1, l2⟩ | ⟨l1, c', l2, l3⟩
    · rcases j3 with j3 | j3 <;> rw [j3] at l1 <;> cases l1
    · rw [hc] at l2
      cases l2
      exact l3.keeps hk
  · obtain ⟨v, hv⟩ := I.cell y c (cm h)
    exact ⟨v, hv.keeps hk⟩
  · have hp : p = (a, go) := by simpa [gxY] using hp
    rw [hp]
    refine ⟨ha, I.hok.fresh (Nat.le_of_lt han), Nat.ne_of_gt han, fun hm => ?_, hgo⟩
    obtain ⟨_, o, ho, _⟩ := I.stack.mem hm
    exact absurd (Heap.lt_size ho) (Nat.not_lt_of_gt (Nat.lt_of_lt_of_le han (Nat.le_refl _)))
/-! one turn after another -/
def slR (Y : Cx) (pins : List (Addr × Obj)) (fp : List Addr) (tn : Nat → Heap → Prop) (Sl : L2.St → Prop) (Pv : Nat → Hp → Prop) (i : Nat) (s : Shared) : Prop := ∃ σ H, Sl σ ∧ Pv i H ∧ Inv Y pins σ H s ∧ tn i s.heap ∧ ∀ b ∈ fp, H b = none
def gxR (Y : Cx) (pins : List (Addr × Obj)) (Pv : Nat → Hp → Prop) (n : Nat) : GenEnd := fun m _ r s1 => r = .ok .next ∧ m = 0 ∧ ∃ σ H, Pv n H ∧ Inv Y pins σ H s1
def gxP (Y : Cx) (pins : List (Addr × Obj)) (fp : List Addr) (tn : Nat → Heap → Prop) (Sl : L2.St → Prop) (Pv : Nat → Hp → Prop) (n : Nat) (tr : Nat → Bool) : Protocol := fun m _ v s kap =>
  ∃ i, i < n ∧ m = n - 1 - i ∧ v = .bool (tr i) ∧ slR Y pins fp tn Sl Pv (i + 1) s ∧ ∀ s'' : Shared, s''.heap = s.heap → s''.os = s.os → AllBare s''.gens → kap (.send .none) s''
section
variable {P : Program} {w : World} {K : PySem.W.Frag} {Y : Cx} {pins : List (Addr × Obj)} {S : Around} {elt iter : Expr} {x : Str} {px pos : Pos} {scope : Scope} {J : It} {it : Addr} {fp : List Addr} {tn : Nat → Heap → Prop} {g : TG} {te : TE} {Sl : L2.St → Prop} {Pv : Nat → Hp → Prop} {n : Nat} {tr : Nat → Bool} {env : Env}
theorem seg_gx (hP : Y.prog = P) (hw : Y.w = w) (hK : Y.K = K) (hcl : Y.calm = true) (hxe : Y.xe = fun _ _ => False) (henv : Y.env = env) (hA : Y.A = S.over (.compLoop (.GeneratorExp elt [⟨.Name x px, iter, [], 0⟩] scope pos) 0 (.ref it) .none env) [])
    (hco : env.scope.isCoroutine = false) (T : Turn P w K (.Name x px) J fp it tn) (hst : ∀ H, (∀ b ∈ fp, H b = none) → ∀ b ∈ fp, FpOk Y pins H b) (hg : PG Y (.Name x px) g) (he : PE Y elt te)
    (stop : ∀ H, Pv n H → J.stop n H) (go : ∀ i H, i < n → Pv i H → J.go i H) (turn : ∀ i σ H u H', i < n → Sl σ → Pv i H → J.yld i H u H' → g u σ H' fun σ2 H2 => Sl σ2 ∧ te σ2 H2 fun y H3 => y = .bl (tr i) ∧ Pv (i + 1) H3) :
    ∀ (k i : Nat) (s₀ s : Shared), n - i = k → i ≤ n → slR Y pins fp tn Sl Pv i s →
      Seg (model P w) S (gxR Y pins Pv n) (gxP Y pins fp tn Sl Pv n tr) (n - i) s₀ (.compLoop (.GeneratorExp elt [⟨.Name x px, iter, [], 0⟩] scope pos) 0 (.ref it) .none env)
        ((model P w).den (.compLoop (.GeneratorExp elt [⟨.Name x px, iter, [], 0⟩] scope pos) 0 (.ref it) .none env)) [] s := by
  subst hP hw hK henv
  intro k
  induction k with
  | zero =>
    intro i s₀ s hk hi ⟨σ, H, sl, pv, I, st, fr⟩
    have hin : i = n := by omega
    subst hin
    show Seg _ S _ _ _ s₀ _ ((compTurn (.GeneratorExp elt [⟨.Name x px, iter, [], 0⟩] scope pos) 0 (.ref it) .none Y.env).onRaise (leaving Y.env)) [] s
    rw [compTurn_gen, Sem.onRaise_eq_wrap]
    refine seg_bind_wrap (wpAny_standAt ?_)
    have d := T.done Y rfl rfl rfl hcl i pins s σ H
    rw [hA] at d
    refine seg_bind_wrap (wpAny_mono (d (fun x s' => Seg _ _ _ _ _ _ _ _ _ _) I (hst H fr) st (stop H pv)) (fun r s1 ⟨hr, I1⟩ => ?_) fun _ _ e => e)
    subst hr
    exact seg_end (.ok .next) ⟨rfl, by omega, σ, H, pv, I1⟩
  | succ k ih =>
    intro i s₀ s hk hi ⟨σ, H, sl, pv, I, st, fr⟩
    have hlt : i < n := by omega
    show Seg _ S _ _ _ s₀ _ ((compTurn (.GeneratorExp elt [⟨.Name x px, iter, [], 0⟩] scope pos) 0 (.ref it) .none Y.env).onRaise (leaving Y.env)) [] s
    rw [compTurn_gen, Sem.onRaise_eq_wrap]
    refine seg_bind_wrap (wpAny_standAt ?_)
    have d := T.item Y rfl rfl rfl hcl i pins s σ H
    rw [hA] at d
    refine seg_bind_wrap (wpAny_mono (d (fun x s' => Seg _ _ _ _ _ _ _ _ _ _) I (hst H fr) st (go i H hlt pv)) (fun r s1 ⟨u, hr, h4⟩ => ?_) fun _ _ e => e)
    subst hr
    refine seg_bind_wrap (wpAny_mono h4 (fun _ s2 ⟨y, H', I2, r2, y2, st2, fr2⟩ => ?_) fun _ _ e => e)
    have I2' := I2.pinned (hst H' fr2) (T.obj _ _ st2)
    have hgr := hg.run _ s2 σ H' y u _ I2' r2 (turn i σ H y H' hlt sl pv y2)
    rw [hA, hxe] at hgr
    refine seg_bind_wrap (wpAny_mono hgr (fun _ s3 ⟨σ3, H3, I3, sl3, q3⟩ => ?_) fun _ _ e => e.elim)
    simp only [List.forIn_nil]
    refine seg_bind_wrap (wpAny_pure ?_)
    simp only [if_true]
    have hy : ∀ v, yieldOut Y.env v = yieldValue v := fun v => by simp only [yieldOut, hco, Bool.false_eq_true, if_false]
    simp only [hy]
    rw [Sem.bind_eq_wrap', Sem.bind_eq_wrap', Sem.wrap_wrap, Sem.wrap_wrap]
    have her := he.run _ s3 σ3 H3 _ I3 q3
    rw [hA, hxe] at her
    refine seg_wrap (wpAny_mono her (fun z s4 ⟨v, H4, I4, rv, hv, pv4⟩ => ?_) fun _ _ e => e.elim)
    have hz : z = .bool (tr i) := by rw [hv] at rv; exact rv
    have en : n - i = (n - 1 - i) + 1 := by omega
    rw [en]
    have st4 : tn (i + 1) s4.heap := T.keep _ _ _ st2 fun b hb o e => (I4.pin (b, o) (List.mem_append_right _ (List.mem_append_right _ (mem_pinsAt hb e)))).1
    have fr4 : ∀ b ∈ fp, H4 b = none := fun b hb => by
      obtain ⟨o, e, d⟩ := T.obj _ _ st2 b hb
      exact (I4.pin (b, o) (List.mem_append_right _ (List.mem_append_right _ (mem_pinsAt hb e)))).2.1
    refine seg_at (seg_yield rfl rfl rfl ⟨i, hlt, rfl, hz, ⟨σ3, H4, sl3, pv4, I4.unpinned, st4, fr4⟩, fun s'' e1 e2 e3 => ?_⟩)
    have : n - 1 - i = n - (i + 1) := by omega
    rw [this]
    exact seg_again rfl (ih (i + 1) s'' s'' (by omega) hlt ⟨σ3, H4, sl3, pv4, inv_regens I4.unpinned e1 e2 e3, by rw [e1]; exact st4, fr4⟩)
/-- the generator, ready for its i-th turn -/
def gxSt (S : Around) (Y : Cx) (pins : List (Addr × Obj)) (fp : List Addr) (tn : Nat → Heap → Prop) (Sl : L2.St → Prop) (Pv : Nat → Hp → Prop) (n : Nat) (tr : Nat → Bool) (a : Addr) (gi : Nat) (i : Nat) (s : Shared) : Prop :=
  s.heap.IsGen a gi ∧ gi < s.gens.size ∧ (∃ σ H, Pv i H ∧ Inv Y pins σ H s) ∧ ∃ gs, s.gens[gi]? = some gs ∧ ∀ s'' : Shared, s''.heap = s.heap → s''.os = s.os → AllBare s''.gens → gs.Goes (model Y.prog Y.w) S (gxR Y pins Pv n) (gxP Y pins fp tn Sl Pv n tr) (n - i) (.send .none) s''
def gxFin (Y : Cx) (pins : List (Addr × Obj)) (Pv : Nat → Hp → Prop) (n : Nat) (s : Shared) : Prop := ∃ i σ H, ((0 < i ∨ i = n) ∧ i ≤ n) ∧ Pv i H ∧ Inv Y pins σ H s
section
variable {B : Around} {a : Addr} {gi i : Nat} {s : Shared} {Q : Option Value → Shared → Prop} {E : Value → Shared → Prop} {go : Obj}
theorem gx_item (hh : B.handled = none) (hroom : B.depth < recursionLimit) (hpn : (a, go) ∈ Y.pn) (hi : i < n) (st : gxSt B.in1 Y pins fp tn Sl Pv n tr a gi i s) (hQ : ∀ s', gxSt B.in1 Y pins fp tn Sl Pv n tr a gi (i + 1) s' → Q (some (.bool (tr i))) s') :
    wpAny (model Y.prog Y.w) B (pyNext (.ref a)) Q E s := by
  obtain ⟨hg, hlt, ⟨σ, H, pv, I⟩, gs, hgs, hgo⟩ := st
  have en : n - i = (n - 1 - i) + 1 := by omega
  rw [en] at hgo
  have hga := hg
  obtain ⟨o, nm, qn, ho, hoc, hod, hos⟩ := hga
  have hpin := (I.pin (a, go) (List.mem_append_left _ hpn)).1
  have hpin : s.heap.get? a = some go := hpin
  refine GenW.wpAny_gsz (n := s.gens.size) (Nat.le_refl _) ?_
  refine wpAny_pyNext_genexpQ (A := B) (n := n - 1 - i + 1) (P := fun m _ s1 => m = 0 ∧ ∃ σ H, Pv n H ∧ Inv Y pins σ H s1) hh I.nolimit hroom hg hgs (hgo _ rfl rfl (allBare_setGen I.bare rfl)) (fun v s1 gs' hb hv hsz => ?_) (fun s1 hp h' hk hsz => ?_)
  · obtain ⟨i', hi', em, rfl, ⟨σ2, H2, sl2, pv2, I2, st2, fr2⟩, kap⟩ := hv
    have : i' = i := by omega
    subst this
    have hsz' : s.gens.size ≤ s1.gens.size := by rw [GenW.setGen_size] at hsz; exact hsz
    have hpin2 : s1.heap.get? a = some go := (I2.pin (a, go) (List.mem_append_left _ hpn)).1
    have hog : o = go := by rw [ho] at hpin; exact Option.some.inj hpin
    have hb2 : AllBare (s1.setGen gi gs').gens := allBare_setGen I2.bare hb
    refine hQ _ ⟨⟨go, nm, qn, hpin2, by rw [← hog]; exact hoc, by rw [← hog]; exact hod, by rw [← hog]; exact hos⟩, by rw [GenW.setGen_size]; omega, ⟨σ2, H2, pv2, inv_regens I2 rfl rfl hb2⟩, gs', setGen_at (by omega), fun s'' e1 e2 e3 => ?_⟩
    have := kap s'' e1 e2 e3
    have e4 : n - 1 - i' = n - (i' + 1) := by omega
    rw [← e4]
    exact this
  · exact absurd hp.1 (Nat.succ_ne_zero _)
theorem gx_done (hh : B.handled = none) (hroom : B.depth < recursionLimit) (st : gxSt B.in1 Y pins fp tn Sl Pv n tr a gi n s) (hQ : ∀ s', gxFin Y pins Pv n s' → Q none s') : wpAny (model Y.prog Y.w) B (pyNext (.ref a)) Q E s := by
  obtain ⟨hg, hlt, ⟨σ, H, pv, I⟩, gs, hgs, hgo⟩ := st
  rw [Nat.sub_self] at hgo
  refine wpAny_pyNext_genexpQ (A := B) (n := 0) (P := fun m _ s1 => m = 0 ∧ ∃ σ H, Pv n H ∧ Inv Y pins σ H s1) hh I.nolimit hroom hg hgs (hgo _ rfl rfl (allBare_setGen I.bare rfl)) (fun v s1 gs' hb hv => ?_) (fun s1 hp h' hk => ?_)
  · obtain ⟨i', hi', em, _, _, kap⟩ := hv
    exact False.elim (kap s1 rfl rfl (by
      obtain ⟨_, _, _, _, I2, _⟩ := ‹slR Y pins fp tn Sl Pv (i' + 1) s1›
      exact I2.bare))
  · obtain ⟨_, σ2, H2, pv2, I2⟩ := hp
    refine hQ _ ⟨n, σ2, H2, ⟨.inr rfl, Nat.le_refl _⟩, pv2, ?_⟩
    have I3 := I2.kept (h' := h') (t' := s1.toks) hk
    exact inv_regens I3 rfl rfl (allBare_setGen I2.bare rfl)
end
theorem all_loop {prog : Program} {w : World} {A : Around} {I : Addr} {n : Nat} {tr : Nat → Bool} {R : Result → Shared → Prop} (St : Nat → Shared → Prop) (Fin : Shared → Prop)
    (item : ∀ i s (Q : Option Value → Shared → Prop) (E : Value → Shared → Prop), i < n → St i s → (∀ s', St (i + 1) s' → Q (some (.bool (tr i))) s') → wpAny (model prog w) A.in1 (pyNext (.ref I)) Q E s)
    (done : ∀ s (Q : Option Value → Shared → Prop) (E : Value → Shared → Prop), St n s → (∀ s', Fin s' → Q none s') → wpAny (model prog w) A.in1 (pyNext (.ref I)) Q E s) (fin : ∀ i s, 0 < i → i ≤ n → St i s → Fin s) :
    ∀ (k i : Nat) (s : Shared), n - i = k → i ≤ n → St i s → (∀ s', Fin s' → R (.ok (.ret (.bool (((List.range n).drop i).all tr)))) s') → codeAny (model prog w) A (.builtin "all.loop" ⟨[.ref I], []⟩) R s := by
  intro k
  induction k with
  | zero =>
    intro i s hk hi hst hR
    have hin : i = n := by omega
    subst hin
    refine codeAny_builtin F.entry_all_loop ?_
    rw [Around.under_plainId F.plain_all_loop _]
    show wpAny _ A.in1 (pyNext (.ref I) >>= _) _ _ s
    refine wpAny_bind (done s _ _ hst fun s' hm => ?_)
    refine wpAny_bind (wpAny_rule (wpAny_pure ?_))
    have := hR s' hm
    rw [List.drop_of_length_le (by simp)] at this
    exact this
  | succ k ih =>
    intro i s hk hi hst hR
    have hlt : i < n := by omega
    have hd : (List.range n).drop i = i :: (List.range n).drop (i + 1) := by
      rw [List.drop_eq_getElem_cons (by simpa using hlt)]; simp
    refine codeAny_builtin F.entry_all_loop ?_
    rw [Around.under_plainId F.plain_all_loop _]
    show wpAny _ A.in1 (pyNext (.ref I) >>= _) _ _ s
    refine wpAny_bind (item i s _ _ hlt hst fun s' hst' => ?_)
    refine wpAny_bind (wpAny_holding (wpAny_truthy_bool ?_))
    refine wpAny_bind (wpAny_letGo ?_)
    cases hb : tr i with
    | true =>
      simp only [if_true]
      refine wpAny_pure ⟨plainId_quiet F.plain_all_loop _, ih (i + 1) _ (by omega) hlt hst' fun s'' hm' => ?_⟩
      have := hR s'' hm'
      rw [hd, List.all_cons, hb, Bool.true_and] at this
      exact this
    | false =>
      simp only [Bool.false_eq_true, if_false]
      refine wpAny_bind (wpAny_rule (wpAny_pure ?_))
      have := hR s' (fin (i + 1) s' (Nat.succ_pos _) hlt hst')
      rw [hd, List.all_cons, hb, Bool.false_and] at this
      exact this
end
end OA

namespace OA
open PySem PySem.Spec PyProof.Rows L2
/-! all(elt for x in iter): the rule -/
section
variable {P : Program} {w : World} {K : PySem.W.Frag} {Y : Cx} {pins : List (Addr × Obj)} {S : Around} {elt iter : Expr} {x : Str} {px pos : Pos} {scope : Scope} {J : It} {it : Addr} {fp : List Addr} {tn : Nat → Heap → Prop} {g : TG} {te : TE} {Sl : L2.St → Prop} {Pv : Nat → Hp → Prop} {n : Nat} {tr : Nat → Bool} {env : Env}
theorem seg_gx0 (hP : Y.prog = P) (hw : Y.w = w) (hK : Y.K = K) (hcl : Y.calm = true) (hxe : Y.xe = fun _ _ => False) (henv : Y.env = env) (hA : Y.A = S.over (.compLoop (.GeneratorExp elt [⟨.Name x px, iter, [], 0⟩] scope pos) 0 (.ref it) .none env) [])
    (hco : env.scope.isCoroutine = false) (T : Turn P w K (.Name x px) J fp it tn) (hst : ∀ H, (∀ b ∈ fp, H b = none) → ∀ b ∈ fp, FpOk Y pins H b) (hg : PG Y (.Name x px) g) (he : PE Y elt te)
    (stop : ∀ H, Pv n H → J.stop n H) (go : ∀ i H, i < n → Pv i H → J.go i H) (turn : ∀ i σ H u H', i < n → Sl σ → Pv i H → J.yld i H u H' → g u σ H' fun σ2 H2 => Sl σ2 ∧ te σ2 H2 fun y H3 => y = .bl (tr i) ∧ Pv (i + 1) H3)
    (s₀ s : Shared) (h : slR Y pins fp tn Sl Pv 0 s) :
      Seg (model P w) S (gxR Y pins Pv n) (gxP Y pins fp tn Sl Pv n tr) n s₀ (.compStart (.GeneratorExp elt [⟨.Name x px, iter, [], 0⟩] scope pos) 0 (.ref it) .none env)
        ((model P w).den (.compStart (.GeneratorExp elt [⟨.Name x px, iter, [], 0⟩] scope pos) 0 (.ref it) .none env)) [] s := by
  have loop := seg_gx hP hw hK hcl hxe henv hA hco T hst hg he stop go turn n 0 s₀ s (Nat.sub_zero _) (Nat.zero_le _) h
  rw [Nat.sub_zero] at loop
  obtain ⟨_, _, _, _, _, st, _⟩ := h
  show Seg _ S _ _ _ s₀ _ ((compStart (.GeneratorExp elt [⟨.Name x px, iter, [], 0⟩] scope pos) 0 (.ref it) .none env).onRaise (leaving env)) [] s
  unfold compStart
  rw [Sem.onRaise_eq_wrap]
  show Seg _ S _ _ _ s₀ _ ((ask >>= _).wrap _ _ _ _) [] s
  refine seg_bind_wrap (wpAny_askSetting ?_)
  split
  · exact seg_again rfl loop
  · first
      | exact seg_bind_wrap (wpAny_rule (seg_bind_wrap (wpAny_standAt (seg_bind_wrap (T.self _ 0 s _ _ st (seg_again rfl loop))))))
      | (refine seg_bind_wrap (wpAny_rule ?_); show Seg _ S _ _ _ s₀ _ ((standAt iter.pos >>= _).wrap _ _ _ _) [] s; exact seg_bind_wrap (wpAny_standAt (seg_bind_wrap (T.self _ 0 s _ _ st (seg_again rfl loop)))))
end
theorem call_all_own {prog : Program} {w : World} {A : Around} {a : Addr} {gi n : Nat} {tr : Nat → Bool} {s : Shared} {Q : Value → Shared → Prop} {E : Value → Shared → Prop} (hg : s.heap.IsGen a gi) (St : Nat → Shared → Prop) (Fin : Shared → Prop)
    (item : ∀ i s (Q : Option Value → Shared → Prop) (E : Value → Shared → Prop), i < n → St i s → (∀ s', St (i + 1) s' → Q (some (.bool (tr i))) s') → wpAny (model prog w) A.in1 (pyNext (.ref a)) Q E s)
    (done : ∀ s (Q : Option Value → Shared → Prop) (E : Value → Shared → Prop), St n s → (∀ s', Fin s' → Q none s') → wpAny (model prog w) A.in1 (pyNext (.ref a)) Q E s) (fin : ∀ i s, 0 < i → i ≤ n → St i s → Fin s)
    (h0 : St 0 s) (hQ : ∀ s', Fin s' → Q (.bool ((List.range n).all tr)) s') : wpAny (model prog w) A (call (.builtin "all") [.ref a]) Q E s := by
  refine call_function_tree F.kind_all F.plain_all F.entry_all (F.args_all1 _) ?_
  unfold Builtin.«all»
  refine wpAny_bind (m := oneArg "all" _) (wpAny_pure ?_)
  refine wpAny_bind (wpAny_pyIter_gen hg ?_)
  exact wpAny_pure ⟨plainId_quiet F.plain_all_loop _, all_loop St Fin item done fin n 0 s rfl (Nat.zero_le _) h0 fun s' hm => by simpa using hQ s' hm⟩
/-- a generator that is ready: n answers tr, from the state it stands in -/
def ReadyG (X : Cx) (pins : List (Addr × Obj)) (σ : L2.St) (n : Nat) (tr : Nat → Bool) (Pv : Nat → Hp → Prop) (a : Addr) (s5 : Shared) : Prop :=
  ∃ (gi : Nat) (St : Nat → Shared → Prop) (Fin : Shared → Prop), s5.heap.IsGen a gi ∧ St 0 s5 ∧
    (∀ i s (Q : Option Value → Shared → Prop) (E : Value → Shared → Prop), i < n → St i s → (∀ s', St (i + 1) s' → Q (some (.bool (tr i))) s') → wpAny (model X.prog X.w) X.A.in1 (pyNext (.ref a)) Q E s) ∧
    (∀ s (Q : Option Value → Shared → Prop) (E : Value → Shared → Prop), St n s → (∀ s', Fin s' → Q none s') → wpAny (model X.prog X.w) X.A.in1 (pyNext (.ref a)) Q E s) ∧
    (∀ i s, 0 < i → i ≤ n → St i s → Fin s) ∧ ∀ s', Fin s' → ∃ i H2, ((0 < i ∨ i = n) ∧ i ≤ n) ∧ Pv i H2 ∧ Inv X pins σ H2 s'
/-- the names of the generator's frame: own ones, taken ones with their places in the def -/
def gxSl (σ : L2.St) (sl : List (Option Nat)) : L2.St := sl.map fun o => match o with
  | none => none
  | some j => (σ[j]?).join
structure GxN (X : Cx) (scope : Scope) (N : List Str) (sl : List (Option Nat)) : Prop where
  len : sl.length = N.length
  ok : ∀ i j : Nat, sl[i]? = some (some j) → ∃ y : Str, N[i]? = some y ∧ scope.names.lookup y = some .free ∧ X.N[j]? = some y ∧ (X.env.kindOf y = some .cell ∨ X.env.kindOf y = some .free)
theorem GxN.free {X : Cx} {scope : Scope} {N : List Str} {sl : List (Option Nat)} (h : GxN X scope N sl) (σ : L2.St) : FreeOk X σ scope N (gxSl σ sl) := by
  intro i y v h1 h2
  unfold gxSl at h2
  rw [List.getElem?_map] at h2
  cases q : sl[i]? with
  | none => rw [q] at h2; cases h2
  | some o =>
    rw [q] at h2
    cases o with
    | none => cases h2
    | some j =>
      obtain ⟨y', e1, e2, e3, e4⟩ := h.ok i j q
      rw [h1] at e1
      cases e1
      refine ⟨e2, j, e3, ?_, e4⟩
      have h3 : (σ[j]?).join = some v := Option.some.inj h2
      cases q2 : σ[j]? with
      | none => rw [q2] at h3; cases h3
      | some u => rw [q2] at h3; rw [show u = some v from h3]
theorem gxSl_len {σ : L2.St} {sl : List (Option Nat)} : (gxSl σ sl).length = sl.length := by simp [gxSl]
/-- the table at P has the code that belongs to gp -/
def WarmAt (H : Hp) (P : Addr) (gp : Pos) : Prop := ∃ ps : Array Value, H P = some (.tbl ps) ∧ TriplesOk ps.toList ∧ ∃ cv, codeAmong gp ps.toList = some cv
def TabbedW (P : Addr) (gp : Pos) (H H' : Hp) : Prop := WarmAt H' P gp ∧ (∀ b, b ≠ P → H' b = H b) ∧ (WarmAt H P gp → H' = H)
theorem upd_self {H : Hp} {P : Addr} {o : HO} (h : H P = some o) : upd H P o = H := by
  funext b
  by_cases hb : b = P
  · rw [hb, upd_same, h]
  · rw [upd_ne hb]
def tAllG (P0 : Addr) (gp : Pos) (sl : List (Option Nat)) (wi : TI) (g : TG) (te : TE) : TE := fun σ H Q => wi σ H fun J H1 => GxR.TabG H1 P0 ∧ ∃ (n : Nat) (Sl : L2.St → Prop) (Pv : Nat → Hp → Prop) (tr : Nat → Bool),
  Sl (gxSl σ sl) ∧ (∀ H2, TabbedW P0 gp H1 H2 → Pv 0 H2) ∧ (∀ H, Pv n H → J.stop n H) ∧ (∀ i H, i < n → Pv i H → J.go i H) ∧
  (∀ i σ H u H', i < n → Sl σ → Pv i H → J.yld i H u H' → g u σ H' fun σ2 H2 => Sl σ2 ∧ te σ2 H2 fun y H3 => y = .bl (tr i) ∧ Pv (i + 1) H3) ∧
  ∀ i H, ((0 < i ∨ i = n) ∧ i ≤ n) → Pv i H → Q (.bl ((List.range n).all tr)) H
structure GenS0 (env : Env) (scope : Scope) (x : Str) : Prop where
  kind : scope.kind = .function
  co : scope.isCoroutine = false
  cell : ∀ y ∈ scope.names, y.2 ≠ .cell
  dot : scope.names.lookup (".0" : Str) = some NameKind.local
  loc : scope.names.lookup x = some .local
  free : ∀ y ∈ scope.names, y.2 = .free → env.scope.names.lookup y.1 = some .cell ∨ env.scope.names.lookup y.1 = some .free
theorem GenS0.to {env : Env} {scope : Scope} {x : Str} (h : GenS0 env scope x) (has : ∀ y, (env.kindOf y = some .cell ∨ env.kindOf y = some .free) → ∃ c, env.cells.lookup y = some c) : GxR.GenS env scope x :=
  ⟨h.kind, h.co, h.cell, h.dot, h.loc, fun y hy e => has y.1 (h.free y hy e)⟩
def gsC (sc scope : Scope) (x : Str) : Bool := (match scope.kind with | .function => true | _ => false) && !scope.isCoroutine && (scope.names.all fun y => decide (y.2 ≠ .cell)) && decide (scope.names.lookup (".0" : Str) = some NameKind.local) && decide (scope.names.lookup x = some .local) &&
  (scope.names.all fun y => !decide (y.2 = .free) || decide (sc.names.lookup y.1 = some .cell) || decide (sc.names.lookup y.1 = some .free))
theorem gs_by {env : Env} {sc scope : Scope} {x : Str} (h : gsC sc scope x = true) (he : env.scope = sc := by rfl) : GenS0 env scope x := by
  subst he
  unfold gsC at h
  simp only [Bool.and_eq_true, List.all_eq_true, decide_eq_true_eq, Bool.or_eq_true, Bool.not_eq_true', decide_eq_false_iff_not] at h
  obtain ⟨⟨⟨⟨⟨h1, h2⟩, h3⟩, h4⟩, h5⟩, h6⟩ := h
  refine ⟨?_, h2, h3, h4, h5, fun y hy e => ?_⟩
  · split at h1
    · assumption
    · cases h1
  · rcases h6 y hy with (z | z) | z
    · exact absurd e z
    · exact .inl z
    · exact .inr z
def gnC (XN : List Str) (sc scope : Scope) (N : List Str) (sl : List (Option Nat)) : Bool := decide (sl.length = N.length) && (List.range sl.length).all fun i => match sl[i]? with
  | some (some j) => (match N[i]? with
    | some y => decide (scope.names.lookup y = some .free) && decide (XN[j]? = some y) && (decide (sc.names.lookup y = some .cell) || decide (sc.names.lookup y = some .free))
    | none => false)
  | _ => true
theorem gn_by {X : Cx} {scope : Scope} {N : List Str} {sl : List (Option Nat)} {XN : List Str} {sc : Scope} (h : gnC XN sc scope N sl = true) (hn : X.N = XN := by rfl) (he : X.env.scope = sc := by rfl) : GxN X scope N sl := by
  subst hn he
  unfold gnC at h
  simp only [Bool.and_eq_true, List.all_eq_true, decide_eq_true_eq] at h
  obtain ⟨h1, h2⟩ := h
  refine ⟨h1, fun i j e => ?_⟩
  have q := h2 i (List.mem_range.mpr (List.getElem?_eq_some_iff.mp e).1)
  simp only [e] at q
  cases hn : N[i]? with
  | none => rw [hn] at q; cases q
  | some y =>
    rw [hn] at q
    simp only [Bool.and_eq_true, Bool.or_eq_true, decide_eq_true_eq] at q
    exact ⟨y, rfl, q.1.1, q.1.2, q.2⟩
theorem frames_gx {A : Around} {c : Code} {env : Env} {st : List Env} (h : A.frames = some st) (hc : c.envs = [env]) : (A.over c []).frames = some (env :: st) := by
  show pushEnvs c.envs (pushEnvs (envsOf []) A.frames) = _
  rw [hc, h]
  rfl
section
variable {X : Cx} {pins : List (Addr × Obj)} {σ : L2.St} {H : Hp} {s : Shared}
theorem gen_gx {c P0 : Addr} {elt iter : Expr} {x : Str} {px gpos : Pos} {scope : Scope} {N : List Str} {sl : List (Option Nat)} {k : Nat} {wi : TI} {g : TG} {te : TE} {Q : VK} {Q' : Value → Shared → Prop}
    (hr : Room (k + 1) X.A) (TB : GxR.TabB X.base X.mg c P0) (hcode : X.env.code = .ref c) (S0 : GenS0 X.env scope x) (hN : GxN X scope N sl) (hi : PI X (.Name x px) iter wi)
    (hG : ∀ cl C code fp pn A s H, PG (gxY X N scope cl C code fp pn A s H) (.Name x px) g) (he : ∀ cl C code fp pn A s H, Room k A → PE (gxY X N scope cl C code fp pn A s H) elt te)
    (hs : ∀ v, genFold iter X.env v = pure v) (I : Inv X pins σ H s) (h : tAllG P0 gpos sl wi g te σ H Q)
    (hQ : ∀ n tr Pv a s5, (∀ i H, ((0 < i ∨ i = n) ∧ i ≤ n) → Pv i H → Q (.bl ((List.range n).all tr)) H) → ReadyG X pins σ n tr Pv a s5 → Q' (.ref a) s5) :
    wpAny (model X.prog X.w) X.A (eval (.GeneratorExp elt [⟨.Name x px, iter, [], 0⟩] scope gpos) X.env) Q' X.xe s := by
  have S : GxR.GenS X.env scope x := S0.to I.ok.has
  refine wpAny_GeneratorExp_make S.co (closure_ok S.free) S.cell S.dot S.kind (by have := hr.dp; omega) ?_ hs
  refine thn (hi.run pins s σ H _ I h) fun xv s1 h1 => ?_
  refine wpAny_mono h1 (fun itv s2 hp => ?_) fun _ _ e => e
  obtain ⟨it, fp, tn, J, H', rfl, I2, T, st0, hfp, ⟨ps, hP, ht⟩, n, Sl, Pv, tr, hSl, h0, hstop, hgo, hturn, hfin⟩ := hp
  have hPs : s2.heap.get? P0 = some { cls := .none, data := .fields ps } := I2.hok P0 _ hP
  have hPlt : P0 < s2.heap.objs.size := Heap.lt_size hPs
  have cd : PySem.W.CodeHd s2.heap c P0 := TB.code.keeps fun b u e => I2.bk b u e
  have fpP : ∀ b ∈ fp, b ≠ P0 := fun b hb z => by
    have := (hfp b hb).1
    rw [z, hP] at this
    cases this
  refine ⟨I2.nolimit, ?_⟩
  have cont : ∀ (code : Value) (h3 : Heap) (tk : Nat) (ps' : Array Value), Heap.ExtBut P0 s2.heap h3 → h3.get? P0 = some { cls := .none, data := .fields ps' } → (∃ more, ps' = ps ++ more ∧ ∀ cv, codeAmong gpos ps.toList = some cv → more = #[]) → TriplesOk ps'.toList → (∃ cv, codeAmong gpos ps'.toList = some cv) →
      wpAny (model X.prog X.w) X.A (builtinsFor X.env.globals X.env.builtins) (fun bi s₄ => ∀ h', h'.Ns s₄.heap.objs.size (fun y => if y = ".0" then some (.ref it) else none) → Heap.SameBut s₄.heap.objs.size (s₄.heap.push { cls := .type "frame", data := .dict #[] }) h' →
          Q' (.ref h'.objs.size) { s₄ with
            gens := s₄.gens.push (.fresh (.compStart (.GeneratorExp elt [⟨.Name x px, iter, [], 0⟩] scope gpos) 0 (.ref it) .none (genEnv scope (cloFrom X.env.cells scope.names []) s₄.heap.objs.size code bi X.env))),
            toks := s₄.toks + 1 + 1 + 1,
            heap := h'.push { cls := .type "generator", data := .fields #[.int s₄.gens.size 0, .str "<genexpr>" (s₄.toks + 1), .str (X.env.qual ++ "<genexpr>") (s₄.toks + 1 + 1)] } }) X.xe { s2 with heap := h3, toks := tk } := by
    intro code h3 tk ps' hx hP3 hmore ht3 hcv
    obtain ⟨bm, ob, e1, e2, e3, e4, e5, e6, e7, e8⟩ := TB.bm
    have keep3 : ∀ b u, b ≠ P0 → s2.heap.get? b = some u → h3.get? b = some u := fun b u hb e => hx b u hb e
    refine wpAny_builtinsFor (m := X.mg) (by rw [I2.ok.glob]; exact (I2.mod.glob.keeps I2.bk).extBut hx TB.gP) e1 e2 (keep3 _ _ e4 (I2.bk _ _ e5)) e6 e7 e8 ?_
    intro h' hn' hs'
    obtain ⟨more, rfl, hsame⟩ := hmore
    have hpv : Pv 0 (upd H' P0 (.tbl (ps ++ more))) := h0 _ ⟨⟨_, upd_same, ht3, hcv⟩, fun b hb => upd_ne hb, fun hw => by
      obtain ⟨ps1, w1, _, cv, w3⟩ := hw
      rw [hP] at w1
      cases w1
      rw [hsame cv w3, Array.append_empty]
      exact upd_self hP⟩
    -- behind the table
    have I4 : Inv X pins σ (upd H' P0 (.tbl (ps ++ more))) { s2 with heap := h3, toks := tk } := GxR.inv_tab (g' := s2.gens) (d' := s2.drawn) I2 hP keep3 hP3 I2.bare
    have hfp4 : ∀ b ∈ fp, FpOk X pins (upd H' P0 (.tbl (ps ++ more))) b ∧ b < h3.objs.size := fun b hb => by
      obtain ⟨f1, f2, f3, f4, f5, f6⟩ := hfp b hb
      obtain ⟨o, e, _⟩ := T.obj _ _ st0 b hb
      exact ⟨⟨by rw [upd_ne (fpP b hb)]; exact f1, f2, f3, f4, f5, f6⟩, Heap.lt_size (keep3 b o (fpP b hb) e)⟩
    have hsz : h'.objs.size = h3.objs.size + 1 := by rw [hs'.1, Heap.size_push]
    have keep' : ∀ b o, h3.get? b = some o → h'.get? b = some o := fun b o e => hs'.extBut b o (Nat.ne_of_lt (Heap.lt_size e)) (Heap.get?_push_of_some _ e)
    generalize hgo' : ({ cls := .type "generator", data := .fields #[.int s2.gens.size 0, .str "<genexpr>" (tk + 1), .str (X.env.qual ++ "<genexpr>") (tk + 1 + 1)] } : Obj) = go
    have hgoc : ∀ v, go.data ≠ .cell v := fun v z => by
      rw [← hgo'] at z
      cases z
    have hgf : go.isFreed = false := by rw [← hgo']; rfl
    have keep5 : ∀ b o, h3.get? b = some o → (h'.push go).get? b = some o := fun b o e => Heap.get?_push_of_some _ (keep' b o e)
    have hga : (h'.push go).get? h'.objs.size = some go := Heap.get?_push_size _ hgf
    let env : Env := genEnv scope (cloFrom X.env.cells scope.names []) h3.objs.size code builtinsNs X.env
    let AY : Around := X.A.in1.in1.over (.compLoop (.GeneratorExp elt [⟨.Name x px, iter, [], 0⟩] scope gpos) 0 (.ref it) .none env) []
    have hAd : AY.handled = none := hr.hd
    have hAf : AY.frames = some (env :: X.stack) := frames_gx (A := X.A.in1.in1) I2.ok.frames rfl
    have start : ∀ s'' : Shared, s''.heap = h'.push go → s''.os = s2.os → AllBare s''.gens → Inv (gxY X N scope (cloFrom X.env.cells scope.names []) h3.objs.size code fp [(h'.objs.size, go)] AY { s2 with heap := h3, toks := tk } (upd H' P0 (.tbl (ps ++ more)))) [] (gxSl σ sl) (upd H' P0 (.tbl (ps ++ more))) s'' := fun s'' q1 q2 q3 =>
      gx_start I4 S hfp4 hAd hAf (fun b o e => by rw [q1]; exact keep5 b o e) q2 q3 (by rw [q1]; exact hn'.push _) (by rw [q1]; exact hga) (by show h3.objs.size < h'.objs.size; omega) hgoc (gxSl_len.trans hN.len) (hN.free σ)
    have hst : ∀ H, (∀ b ∈ fp, H b = none) → ∀ b ∈ fp, FpOk (gxY X N scope (cloFrom X.env.cells scope.names []) h3.objs.size code fp [(h'.objs.size, go)] AY { s2 with heap := h3, toks := tk } (upd H' P0 (.tbl (ps ++ more)))) [] H b := fun H hH b hb => by
      have I5 := start { s2 with heap := h'.push go } rfl rfl I2.bare
      refine ⟨hH b hb, (I5.ok.exf b hb).1, I5.ok.exfs b hb, .inl hb, fun y c h z => (I5.ok.exf b hb).2 y c h z, fun p hp z => ?_⟩
      have hp : p = (h'.objs.size, go) := by simpa [gxY] using hp
      rw [hp] at z
      have := (hfp4 b hb).2
      have z : b = h'.objs.size := Eq.symm z
      have l1 : b < h3.objs.size := this
      rw [z, hsz] at l1
      exact absurd l1 (Nat.not_lt_of_ge (Nat.le_succ _))
    have hRoom : Room k AY := ⟨hAd, by have := hr.dp; show X.A.depth + 0 + 1 + 3 * k + 5 < recursionLimit; omega, by have := hr.un; show X.A.units + 1 + 1 + 0 + 3 + 16 * k + 200 < cLine; omega⟩
    refine hQ n tr Pv h'.objs.size _ hfin ⟨s2.gens.size, gxSt X.A.in1.in1 (gxY X N scope (cloFrom X.env.cells scope.names []) h3.objs.size code fp [(h'.objs.size, go)] AY { s2 with heap := h3, toks := tk } (upd H' P0 (.tbl (ps ++ more)))) [] fp tn Sl Pv n tr h'.objs.size s2.gens.size, gxFin (gxY X N scope (cloFrom X.env.cells scope.names []) h3.objs.size code fp [(h'.objs.size, go)] AY { s2 with heap := h3, toks := tk } (upd H' P0 (.tbl (ps ++ more)))) [] Pv n, ?_, ?_, ?_, ?_, ?_, ?_⟩
    · exact ⟨go, _, _, hga, by rw [← hgo'], by rw [← hgo'], by rw [← hgo']⟩
    · refine ⟨⟨go, _, _, hga, by rw [← hgo'], by rw [← hgo'], by rw [← hgo']⟩, by simp, ⟨_, _, hpv, start _ rfl rfl ?_⟩, _, Array.getElem?_push_size .., fun s'' q1 q2 q3 => ⟨rfl, ?_⟩⟩
      · exact I2.bare.push rfl
      · exact seg_gx0 (Y := (gxY X N scope (cloFrom X.env.cells scope.names []) h3.objs.size code fp [(h'.objs.size, go)] AY { s2 with heap := h3, toks := tk } (upd H' P0 (.tbl (ps ++ more))))) rfl rfl rfl rfl rfl rfl rfl S.co T hst (hG _ _ _ _ _ _ _ _) (he _ _ _ _ _ _ _ _ hRoom) hstop hgo hturn _ s'' ⟨gxSl σ sl, _, hSl, hpv, start s'' q1 q2 q3, T.keep _ _ _ st0 fun b hb o e => by rw [q1]; exact keep5 b o (keep3 b o (fpP b hb) e), fun b hb => (hfp4 b hb).1.1⟩
    · exact fun i s Q E hi st hQ => gx_item (Y := (gxY X N scope (cloFrom X.env.cells scope.names []) h3.objs.size code fp [(h'.objs.size, go)] AY { s2 with heap := h3, toks := tk } (upd H' P0 (.tbl (ps ++ more))))) hr.hd (by have := hr.dp; show X.A.depth < recursionLimit; omega) (List.mem_singleton.mpr rfl) hi st hQ
    · exact fun s Q E st hQ => gx_done (Y := (gxY X N scope (cloFrom X.env.cells scope.names []) h3.objs.size code fp [(h'.objs.size, go)] AY { s2 with heap := h3, toks := tk } (upd H' P0 (.tbl (ps ++ more))))) hr.hd (by have := hr.dp; show X.A.depth < recursionLimit; omega) st hQ
    · exact fun i s h0 hi ⟨_, _, ⟨σ, H, pv, I⟩, _⟩ => ⟨i, σ, H, ⟨.inl h0, hi⟩, pv, I⟩
    · rintro s' ⟨i, σ5, H5, hi, pv, I5⟩
      refine ⟨i, H5, hi, pv, I4.call' (ch := fp) I5.os I5.base I5.hok I5.bare fun b hb => ?_⟩
      obtain ⟨f1, f2, f3, f4, f5, f6⟩ := hfp b hb
      exact ⟨f4, f2, f5, f6⟩
  cases hf : codeAmong gpos ps.toList with
  | none =>
    refine wpAny_genexprCodeX hcode (cd.code hPs ht) (cd.tab hPs) hf fun c' h' tk hx hge hlt hco' _ htab' _ => ?_
    obtain ⟨o1, vs, f1, tf, fl, tg, inF, tx, tt, op, _, _, _, _, _, _, _, _, _, htr, _⟩ := hco'
    exact cont _ h' tk _ hx htab'.2 ⟨_, rfl, fun cv z => by rw [hf] at z; cases z⟩ htr ⟨_, by rw [Array.toList_append]; exact codeAmong_snoc _ ht hf⟩
  | some cv =>
    refine wpAny_genexprCode_hit hcode (cd.code hPs ht) hf ?_
    exact cont cv s2.heap s2.toks ps (Heap.ExtBut.refl _ _) hPs ⟨#[], by simp, fun _ _ => rfl⟩ ht ⟨cv, hf⟩
theorem pe_allG {c P0 : Addr} {elt iter : Expr} {x : Str} {px p pos gpos : Pos} {scope : Scope} {N : List Str} {sl : List (Option Nat)} {k : Nat} {wi : TI} {g : TG} {te : TE}
    (hr : Room (k + 1) X.A) (hg : Gl X "all") (hm : X.mg "all" = none) (hb : bootBuiltins "all" = some (.builtin "all")) (TB : GxR.TabB X.base X.mg c P0) (hcode : X.env.code = .ref c) (S0 : GenS0 X.env scope x) (hN : GxN X scope N sl) (hi : PI X (.Name x px) iter wi)
    (hG : ∀ cl C code fp pn A s H, PG (gxY X N scope cl C code fp pn A s H) (.Name x px) g) (he : ∀ cl C code fp pn A s H, Room k A → PE (gxY X N scope cl C code fp pn A s H) elt te)
    (hs : ∀ v, genFold iter X.env v = pure v)
    (hst : starEach [.GeneratorExp elt [⟨.Name x px, iter, [], 0⟩] scope gpos] X.env = (false, eval (.GeneratorExp elt [⟨.Name x px, iter, [], 0⟩] scope gpos) X.env) :: starEach [] X.env := by rfl) :
    PE X (.Call (.Name "all" p) [.GeneratorExp elt [⟨.Name x px, iter, [], 0⟩] scope gpos] [] pos) (tAllG P0 gpos sl wi g te) := by
  refine ⟨fun pins s σ H Q I h => ?_⟩
  refine wpAny_Call_Name_kw (ld_blt I hg hm hb ?_)
  refine PyProof.Rows.callWith_builtin1 ?_ hst (by rfl)
  rw [hst]
  show wpAny _ _ (spliced ((false, eval (.GeneratorExp elt [⟨.Name x px, iter, [], 0⟩] scope gpos) X.env) :: backTo pos (starEach [] X.env))) _ _ s
  refine Calls.spliced_cons (gen_gx hr TB hcode S0 hN hi hG he hs I h fun n tr Pv a s5 hfin hG5 => ?_)
  obtain ⟨gi, St, Fin, hgen, st0, item, done, fin, hF⟩ := hG5
  refine Calls.spliced_nil ?_
  refine call_all_own hgen St Fin item done fin st0 fun s' hf => ?_
  obtain ⟨i, H2, hi, pv, J⟩ := hF s' hf
  exact ⟨.bl _, H2, J, rfl, hfin i H2 hi pv⟩
end
end OA

namespace OA
open PySem PySem.Spec PyProof.Rows L2
/-! a def whose code object is known; where a generator stands in a def -/
theorem okC {P : Program} {w : World} {K : PySem.W.Frag} {mg : Str → Option Value} {base : Heap} {x qual : Str} {st : Stmt} {f c : Addr} {fd : FuncData} {N ps : List Str} {k : Nat} {sp : Sp} (F : Fun K x qual st f fd) (hc : fd.code = .ref c) (S : FnScope N ps (defScope st)) (len : ∀ vs H Q E, sp vs H Q E → vs.length = ps.length)
    (hbody : ∀ (cdv : Value) (A : Around) (outer : List Env) (s : Shared) (H : Hp) (vs : List V) (Q : VK) (E : XK), cdv = .ref c → Room k (A.deeper (envOfC qual (defScope st) s.heap.objs.size f cdv)) → sp vs H Q E →
      ∃ t, PSs (cxOf CX0 P w K mg base N qual (defScope st) f cdv A outer s H E).nox (defBody st) t ∧ t { nx := fun _ H' => Q .non H', rt := Q } (start N vs) H) : FnOk P w K mg base CX0 (k + 1) f fd ps sp := by
  obtain ⟨oc, od, kV, doc, pm, an, cdv, ct, osl, rfl, lk, hcd⟩ := F.ex
  refine fn_of lk hcd S len fun A outer s H vs Q E hr hsp => ?_
  obtain ⟨t, h, q⟩ := hbody cdv A outer s H vs Q E hc hr hsp
  exact ⟨t, h.nox, q⟩
def gpE : Expr → Option Pos
  | .Call _ [.GeneratorExp _ _ _ g] _ _ => some g
  | .UnaryOp _ e _ => gpE e
  | _ => none
def gpS : List Stmt → Option Pos
  | [] => none
  | .Return (some e) _ :: r => (match gpE e with
    | some g => some g
    | none => gpS r)
  | .If e _ _ _ :: r => (match gpE e with
    | some g => some g
    | none => gpS r)
  | _ :: r => gpS r
def gpOf (st : Stmt) : Pos := (gpS (defBody st)).getD ⟨0, 0, 0, 0⟩
end OA

namespace OA
open PySem PySem.Spec PyProof.Rows L2 NdefX
/-! an own exception's __init__: super().__init__(..), then self.f = x -/
section
variable {P : Program} {w : World} {A : Around} {E : Value → Shared → Prop} {h : Heap} {g : Array GenState} {d : Drawn} {t : Nat} {os : OsState}
variable {nm q : Str} {C N : Addr} {bs bm : List Value} {hdct : Bool} {sn : List Str} {sub : List Value} {ab : Bool} {col : Option Bool} {dd : Option Addr} {k0 k1 k2 k3 k5 : Option Value}
/-- the bound ValueError.__init__ at u, called: the exception at e gets its args anew -/
theorem call_mwV {u e t0 : Addr} {rest : List Value} {Q : Value → Shared → Prop} (hC : h.get? C = some (excClassObj nm q C N bs bm hdct sn sub ab col dd k0 k1 k2 k3 k5 "ValueError.__new__"))
    (he : h.get? e = some (PySem.HandSPX.excO C t0)) (hu : h.get? u = some (PySem.W.kxs_mw "ValueError.__init__" e)) (hrest : rest.length ≤ sizeLine)
    (hq : ∀ h' t1, (∀ b o, b ≠ e → h.get? b = some o → h'.get? b = some o) → h'.get? e = some (PySem.HandSPX.excO C t1) → Q .none ⟨h', g, d, t, os⟩) : wpAny (model P w) A (call (.ref u) rest) Q E ⟨h, g, d, t, os⟩ := by
  have FB := PySem.F.excBase_ValueError
  refine wpAny_call (codeAny_of_tree (show wpAny _ A.in1 (callAny (.ref u) ⟨rest, []⟩) _ _ _ from ?_))
  rw [callAny.eq_def]
  refine wpAny_bind (wpAny_load hu ?_)
  dsimp only [PySem.W.kxs_mw]
  refine PySem.W.KFB.if_so (by decide +kernel) (wpAny_bind (PySem.W.check_bound_init FB.toExcCallFacts hC he rfl (wpAny_bind (wpAny_pure (wpAny_pure ⟨plainId_quiet FB.init.plain _, codeAny_builtin FB.initEntry ?_⟩)))))
  exact PySem.W.exc_init_tree (cls := .ref C) (t0 := t0) (dv := none) (c2 := .none) (c3 := .none) (b4 := .bool false) he hrest fun h' k e1 _ => hq h' _ k e1
end
/-- what the written part says of the class at C and its __init__ at fI -/
structure XI (P : Program) (K : PySem.W.Frag) (mg : Str → Option Value) (C fI : Addr) (fd : FuncData) (qual : Str) (st : Stmt) (f : Str) : Prop where
  ox : OexC K C
  fn : ∃ (oc : Value) (od : Option Addr) (kV doc pm : Value) (an : Option Addr) (cda : Addr) (ct : Value) (osl : Array (Option Value)) (cc : Addr),
    fd = PySem.W.ksFn "__init__" qual (defArgs st) (defBody st) (defScope st) .none kV doc pm an (.ref cda) ct cc ∧ K.lookup fI = some ⟨oc, od, .func fd, osl⟩ ∧ PySem.W.codeIn K (.ref cda) qual = true ∧
    (∃ (cl : Value) (cld : Option Addr) (csl : Array (Option Value)), K.lookup cc = some ⟨cl, cld, .cell (some (.ref C)), csl⟩) ∧
    ∃ (ccl : Value) (cdd : Option Addr) (ccs : Array (Option Value)) (vs : Array Value) (file : Str) (tf : Tok), K.lookup cda = some ⟨ccl, cdd, .fields vs, ccs⟩ ∧ vs[2]? = some (.str file tf) ∧ ((P.main.file : Str) == file) = true
  no : PySem.W.findIn K (.ref C) f = some none
  iC : PySem.W.findIn K (.ref C) "__init__" = some (some (.ref fI))
  tI : PySem.W.typeIn K (.ref fI) = some (.type "function")
  su : mg "super" = none
  ks : PySem.W.ks_superIn K C C "__init__" = some (some (.builtin "ValueError.__init__"))
  tp : PySem.W.nsIn K cStatics "thirdparty.any" = some none
  ve : PySem.W.subIn K (.ref C) (.type "ValueError") = some true
  me : PySem.W.mroIn K C (.ref C) = some true
  top : (P.main.scope.names.lookup ("super" : Str)).isSome = false
def spInit (K : PySem.W.Frag) (C : Addr) (f : Str) (ok : V → Prop) : Sp := fun vs H Q _ => ∃ (a : Addr) (y : V), vs = [.ref a, y] ∧ ok y ∧ H a = some (exo a C none) ∧ ∀ dx, H dx = none → dx ≠ a → Q .non (upd (upd H dx (exd dx [(f, y)])) a (exo a C (some dx)))
section
variable {CX : CXT} {P : Program} {w : World} {K : PySem.W.Frag} {mg : Str → Option Value} {base : Heap} {C fI : Addr} {fd : FuncData} {qual : Str} {st : Stmt} {f x : Str} {ok : V → Prop} {k : Nat}
theorem xinit_ok (T : XI P K mg C fI fd qual st f) (S : NScope ["self", x, "__class__"] ["self", x] ["__class__"] (defScope st)) {e : Expr} {p0 p1 p2 p3 p4 q1 q2 q3 q4 : Pos}
    (hb : defBody st = [.Expr (.Call (.Attribute (.Call (.Name "super" p0) [] [] p1) "__init__" p2) [e] [] p3) p4, .Assign [.Attribute (.Name "self" q1) f q2] (.Name x q3) q4])
    (hh : ((defArgs st).posonlyargs ++ (defArgs st).args).head?.map (·.arg) = some "self") (hks : (defScope st).names.lookup ("super" : Str) = some .globalImplicit)
    (hdx : (x == ("__debug__" : Str)) = false) (hcx : (x == ("__classdict__" : Str)) = false)
    {te : TE} (he : ∀ (F : NF) (A : Around) (outer : List Env) (s : Shared) (H : Hp) (Eo : XK), F.scope = defScope st → PE (ncx CX P w K mg base ["self", x, "__class__"] F fI A outer s H Eo) e te)
    (hte : ∀ (a : Addr) (y : V) (H : Hp) (Q : VK), ok y → (∀ z : Str, Q (.str z) H) → te [some (.ref a), some y, none] H Q)
    (hsE : ∀ env : Env, starEach [e] env = [(false, eval e env)])
    (hsw : ∀ env : Env, swapsWith (.Call (.Attribute (.Call (.Name "super" p0) [] [] p1) "__init__" p2) [e] [] p3) none p4.line env = pure false)
    (hcall : ∀ env : Env, ∃ pl : Sem Bool, eval (.Call (.Attribute (.Call (.Name "super" p0) [] [] p1) "__init__" p2) [e] [] p3) env = (do
      let ov ← attributeBase (.Call (.Name "super" p0) [] [] p1) "__init__" env (eval (.Call (.Name "super" p0) [] [] p1) env)
      standAt p2.atName
      let (f, first) ← holding [ov] (getMethod ov "__init__" pl)
      callWith p3 f first (backTo p3 (starEach [e] env)) [])) :
    FnOk P w K mg base CX (k + 1) fI fd ["self", x] (spInit K C f ok) := by
  obtain ⟨oc, od, kV, doc, pm, an, cda, ct, osl, cc, rfl, lk, hcd, ⟨cl, cld, csl, lcc⟩, ccl, cdd, ccs, vs, file, tf, lcd, hvs, hfile⟩ := T.fn
  obtain ⟨nm, q, N, bs, bm, sn, sub, ab, col, dd, k0, k1, k2, k3, k5, lC, hbm⟩ := T.ox.cls
  refine ⟨fun vs H Q E h => ?_, fun A outer s H args us vs' Q E hr e0 hbd r hsp => ?_⟩
  · obtain ⟨a, y, rfl, _⟩ := h
    rfl
  obtain ⟨a, y, rfl, oky, ha, kk⟩ := hsp
  have KX : K.In s.heap := e0.mod.kin.keeps fun b o e => (e0.bs b o e).1
  have lim : s.heap.NoLimit := e0.mod.nolimit.keeps fun b o e => (e0.bs b o e).1
  refine PySem.ks_codeAny_call_defAt (fd := PySem.W.ksFn "__init__" qual (defArgs st) (defBody st) (defScope st) .none kV doc pm an (.ref cda) ct cc) (body := defBody st) hr.depth (KX _ _ lk) rfl lim (PySem.W.codeRec_of KX hcd) rfl hbd S.nocell
    (fun ⟨n, _⟩ hy => S.par n (List.of_mem_zip hy).1) (fun h₁ hns kp => ?_) S.co S.gen S.kind
  have hN : NF := ⟨"__init__", qual, defArgs st, defBody st, defScope st, [("__class__", cc)], cda⟩
  have hcc := e0.bs cc _ (e0.mod.kin _ _ lcc)
  have cl1 : ∀ (y : Str) (c : Addr), List.lookup y [(("__class__" : Str), cc)] = some c → y = "__class__" ∧ c = cc := fun y c z => by
    by_cases z2 : y = "__class__"
    · subst z2
      have z : some cc = some c := by rw [← z]; simp [List.lookup]
      exact ⟨rfl, (Option.some.inj z).symm⟩
    · have b : (y == ("__class__" : Str)) = false := by simpa using z2
      simp [List.lookup, b] at z
  have CA : CellsAt [(("__class__" : Str), cc)] ["__class__"] [none] s.heap H := by
    refine ⟨rfl, fun y c z => ?_, fun y z c h1 h2 => ?_, fun i y hi => ?_⟩
    · obtain ⟨rfl, rfl⟩ := cl1 y c z
      exact ⟨hcc.2, _, ⟨_, hcc.1, rfl⟩⟩
    · rw [(cl1 _ _ h1).1, (cl1 _ _ h2).1]
    · cases i with
      | zero =>
        have hi : some ("__class__" : Str) = some y := hi
        cases hi
        exact ⟨cc, by simp [List.lookup], fun v z => by simp at z⟩
      | succ i => simp at hi
  let F : NF := ⟨"__init__", qual, defArgs st, defBody st, defScope st, [("__class__", cc)], cda⟩
  let X : Cx := ncx CX P w K mg base ["self", x, "__class__"] F fI A outer s H E
  have I0 : L2.Inv X [] (startF ["self", x, "__class__"] [.ref a, y] [none]) H { s with heap := h₁, toks := s.toks + (List.zip (["self", x] : List Str) us).length } := inv_startN (F := F) S hr.hd e0 rfl r CA hns kp
  have est : startF ["self", x, "__class__"] [V.ref a, y] [none] = [some (.ref a), some y, none] := rfl
  rw [est] at I0
  show _root_.PySem.wpAt (model P w) X.A (.func (defBody st) X.env) (execs (defBody st) X.env) _ X.xe _
  rw [hb]
  have hkx : X.env.scope.names.lookup ("__class__" : Str) = some .free := S.frk _ List.mem_cons_self
  have hkse : X.env.scope.names.lookup ("self" : Str) = some .local := S.par _ List.mem_cons_self
  obtain ⟨ar, har, hare⟩ : ∃ ar, ((defArgs st).posonlyargs ++ (defArgs st).args).head? = some ar ∧ ar.arg = "self" := Option.map_eq_some_iff.mp hh
  obtain ⟨pl, hcal⟩ := hcall X.env
  refine PySem.ks_wpAt_execs_cons (PySem.ks_wpAt_Expr_any (PySem.ks_wpAt_MethodCall (pl := pl) ?_ hcal) (by show (_ : Bool) = false; unfold interactive; rw [show X.env.scope.kind = _ from S.kind]; rfl) (hsw _))
  have ga := I0.kIn _ _ lk
  refine PySem.ks_wpAt_super_base hks hkx (by decide +kernel) (show X.env.func = some fI from rfl) ga rfl har (show X.env.code = .ref cda from rfl) (I0.kIn _ _ lcd) rfl hvs hfile T.top ?_
  have hcl : PySem.W.clsIn K C = some { name := nm, bases := bs, mro := .ref C :: bm, ns := N, qualname := q, hasDict := true, slotNames := sn, subclasses := sub, abstract := ab, collection := col, hasDel := false } := by unfold PySem.W.clsIn; rw [lC] <;> rfl
  obtain ⟨mb, b1, b2⟩ := I0.mod.blt
  refine PySem.W.ks_loadName_global (env := X.env) S.kind hks (Calls.loadGlobal_builtin (env := X.env) (I0.mod.glob.keeps I0.bk) T.su (b1.keeps I0.bk) ((b2 _ (by decide +kernel)).trans PyProof.Rows.Boot.«super») ⟨rfl, ?_⟩)
  refine wpAny_loadName_free (env := X.env) (c := cc) S.kind hkx (show List.lookup ("__class__" : Str) [(("__class__" : Str), cc)] = some cc by simp [List.lookup]) ⟨_, I0.kIn _ _ lcc, rfl⟩ ?_
  rw [hare]
  have hself : ∃ m, Heap.Ns h₁ X.env.locals m ∧ m "self" = some (.ref a) := by
    obtain ⟨m, hn, hl⟩ := I0.loc
    obtain ⟨u, ru, z⟩ := hl 0 "self" (.ref a) rfl rfl (.inl hkse)
    obtain rfl : u = .ref a := ru
    rcases z with ⟨_, z⟩ | ⟨z, _⟩
    · exact ⟨m, hn, z⟩
    · have z : X.env.scope.names.lookup ("self" : Str) = some .cell ∨ X.env.scope.names.lookup ("self" : Str) = some .free := z
      rw [hkse] at z
      rcases z with z | z <;> cases z
  obtain ⟨m, hns2, hms⟩ := hself
  refine wpAny_loadName_local (env := X.env) S.kind hkse hns2 hms ?_
  refine PySem.ks_wpAny_isType_cls (I0.kIn _ _ lC) rfl ⟨rfl, ?_⟩
  obtain ⟨t1, ha1⟩ := exo_at I0.hok ha
  refine PySem.ks_wpAny_call_super (I0.kIn _ _ lC) rfl ha1 rfl (fun c z => by cases z) (PySem.W.looks_mroIn I0.kIn T.me) (fun h2 hso k2 => ?_)
  have I1 : L2.Inv X [] [some (.ref a), some y, none] H { s with heap := h2, toks := s.toks + (List.zip (["self", x] : List Str) us).length } := I0.kept k2
  have ha2 := k2 _ _ ha1
  have IA : PySem.W.InstAt h2 a { cls := .ref C, dict := none, data := .fields #[.ref t1, .none, .none, .none, .bool false, .none] } C none := ⟨ha2, rfl, rfl, trivial⟩
  have hks2 := T.ks
  unfold PySem.W.ks_superIn at hks2
  rw [hcl, Option.bind_some] at hks2
  refine PySem.W.kxs_getMethod PySem.W.kxs_ValueError hso (PySem.W.looks_opaque I1.kIn T.tp) (fun A Q E s k q => wpAny_bind ((PySem.W.looks_clsIn I1.kIn hcl) A _ E s k (wpAny_pure q))) rfl I1.kIn hks2 (IA.type.andThen (PySem.W.looks_subIn I1.kIn T.ve)) (PySem.W.ks_ne I1.kIn IA hcl) (by decide +kernel) ?_
  have hsz2 : h2.objs.size ≤ h2.objs.size := Nat.le_refl _
  let u : Addr := h2.objs.size
  have I2' : L2.Inv X [] [some (.ref a), some y, none] H { s with heap := h2.push (PySem.W.kxs_mw "ValueError.__init__" a), toks := s.toks + (List.zip (["self", x] : List Str) us).length + 1 } := I1.kept fun b o e => Heap.get?_push_of_some _ e
  have hu2 : (h2.push (PySem.W.kxs_mw "ValueError.__init__" a)).get? u = some (PySem.W.kxs_mw "ValueError.__init__" a) := Heap.get?_push_at rfl rfl
  have I2 : L2.Inv X [(u, PySem.W.kxs_mw "ValueError.__init__" a)] [some (.ref a), some y, none] H { s with heap := h2.push (PySem.W.kxs_mw "ValueError.__init__" a), toks := s.toks + (List.zip (["self", x] : List Str) us).length + 1 } :=
    ⟨I2'.ok, I2'.os, I2'.bare, I2'.base, I2'.loc, I2'.cell, I2'.free, I2'.freeC, fun p hp => by
      have hp : p ∈ ([] : List (Addr × Obj)) ++ [(u, PySem.W.kxs_mw "ValueError.__init__" a)] := hp
      rw [List.nil_append, List.mem_singleton] at hp
      subst hp
      exact ⟨hu2, I1.hok.fresh hsz2, Nat.ne_of_gt I1.lt, I1.nofs hsz2, fun v z => by cases z⟩, I2'.hok, I2'.len⟩
  rw [hsE X.env]
  refine PySem.W.kxs_callWith (i := "ValueError.__init__") (x := a) rfl (Calls.evalArgs_plain ?_)
  show wpAny _ _ (spliced ((false, eval e X.env) :: backTo p3 [])) _ _ _
  refine Calls.spliced_cons (thn ((he F A outer s H E rfl).run _ _ _ _ (fun v H2 => (∃ z : Str, v = .str z) ∧ H2 = H) I2 (hte a y H _ oky fun z => ⟨⟨z, rfl⟩, rfl⟩)) fun uz s3 ⟨v3, H3, I3, r3, ⟨z, ez⟩, eH⟩ => ?_)
  subst ez
  subst eH
  refine Calls.spliced_nil ?_
  have hu3 := (I3.pin (u, PySem.W.kxs_mw "ValueError.__init__" a) (List.mem_append_right _ List.mem_cons_self)).1
  refine ⟨hu3, ?_⟩
  obtain ⟨hp3, g3, d3, tk3, os3⟩ := s3
  obtain ⟨t3, ha3⟩ := exo_at I3.hok ha
  refine call_mwV (I3.kIn _ _ lC) ha3 hu3 (by rw [sizeLine_eq]; show 1 ≤ _; decide) fun h4 t4 k4 ha4 => ?_
  have I4' := I3.write (t' := tk3) (x := a) (e := a) (o := exo a C none) (by rw [ha]; exact True.intro) (.inl rfl) k4 ⟨_, ha4⟩ (exo_ok ha4)
  have eu : upd H3 a (exo a C none) = H3 := by
    funext b
    by_cases hb : b = a
    · rw [hb, upd_same, ha]
    · rw [upd_ne hb]
  rw [eu] at I4'
  have I4 : L2.Inv X [] [some (.ref a), some y, none] H3 { heap := h4, gens := g3, drawn := d3, toks := tk3, os := os3 } := ⟨I4'.ok, I4'.os, I4'.bare, I4'.base, I4'.loc, I4'.cell, I4'.free, I4'.freeC, fun p hp => by
      have hp : p ∈ ([] : List (Addr × Obj)) ++ [] := hp
      simp at hp, I4'.hok, I4'.len⟩
  refine wpAt_of_wpAny ?_
  have ps : PSs X [.Assign [.Attribute (.Name "self" q1) f q2] (.Name x q3) q4] (tOst X.K f (tVar 0) (tVar 1)) :=
    pss_one (ps_ost (pe_var (i := 0) rfl (.inl hkse)) (pe_var (i := 1) rfl (.inl (S.par _ (List.mem_cons_of_mem _ List.mem_cons_self))) hdx hcx))
  refine wpAny_mono (ps.run [] _ _ _ { nx := fun _ H' => Q .non H', rt := Q } I4 ⟨y, rfl, .ref a, rfl, a, C, rfl, T.ox, T.no, .inl ⟨ha, fun dx n ne => kk dx n ne⟩⟩) (fun fl s' hs => ?_) fun e s' hs => hs
  match fl, hs with
  | .ret uv, ⟨v5, σ5, H5, J5, r5, q5⟩ => exact ⟨v5, H5, J5.os, J5.bare, J5.base, J5.hok, r5, q5⟩
  | .next, ⟨σ5, H5, J5, q5⟩ => exact ⟨.non, H5, J5.os, J5.bare, J5.base, J5.hok, rfl, q5⟩
  | .brk, ⟨_, _, _, q5⟩ => exact q5.elim
  | .cont, ⟨_, _, _, q5⟩ => exact q5.elim
end
end OA

namespace OA
open PySem PySem.Spec PyProof.Rows L2 NdefX
/-! the program's refusals -/
structure XA where
  c_AirError : Addr
  c_BadNumber : Addr
  c_BadRule : Addr
  c_BadWakes : Addr
  c_BadPlan : Addr
  c_BadText : Addr
  i_BadRule : Addr
  i_BadWakes : Addr
  i_BadPlan : Addr
  d_BadRule : FuncData
  d_BadWakes : FuncData
  d_BadPlan : FuncData
/-- a class without an own __init__ -/
structure XN (K : PySem.W.Frag) (C : Addr) : Prop where
  ex : PySem.W.excIn K C [.type "ValueError", .type "Exception", .type "BaseException", .type "object"] "ValueError.__new__" = true
  kC : PySem.W.keepIn K (.ref C) = true
  exC : PySem.W.subIn K (.ref C) (.type "BaseException") = some true
  tyC : PySem.W.typeIn K (.ref C) = some (.type "type")
structure XTxt (P : Program) (K : PySem.W.Frag) (mg : Str → Option Value) (Z : XA) : Prop where
  x_BadRule : XI P K mg Z.c_BadRule Z.i_BadRule Z.d_BadRule "BadRule.__init__" s_BadRule___init__ "why"
  x_BadWakes : XI P K mg Z.c_BadWakes Z.i_BadWakes Z.d_BadWakes "BadWakes.__init__" s_BadWakes___init__ "number"
  x_BadPlan : XI P K mg Z.c_BadPlan Z.i_BadPlan Z.d_BadPlan "BadPlan.__init__" s_BadPlan___init__ "why"
  b_BadRule : Binds K Z.d_BadRule ["self", "why"] []
  b_BadWakes : Binds K Z.d_BadWakes ["self", "number"] []
  b_BadPlan : Binds K Z.d_BadPlan ["self", "why"] []
  n_BadNumber : XN K Z.c_BadNumber
  n_BadText : XN K Z.c_BadText
  g_AirError : mg "AirError" = some (.ref Z.c_AirError)
  g_BadNumber : mg "BadNumber" = some (.ref Z.c_BadNumber)
  g_BadRule : mg "BadRule" = some (.ref Z.c_BadRule)
  g_BadWakes : mg "BadWakes" = some (.ref Z.c_BadWakes)
  g_BadPlan : mg "BadPlan" = some (.ref Z.c_BadPlan)
  g_BadText : mg "BadText" = some (.ref Z.c_BadText)
def okS (y : V) : Prop := ∃ s : Str, y = .str s ∧ s.length ≤ 100
def okI (y : V) : Prop := ∃ i : Int, y = .int i
section
variable {CX : CXT} {P : Program} {w : World} {K : PySem.W.Frag} {mg : Str → Option Value} {base : Heap} {Z : XA}
theorem str_app_len (a b : Str) : (a ++ b).length = a.length + b.length := by
  show (a.cps ++ b.cps).size = _
  rw [Array.size_append]
  rfl
theorem ns3 {x : Str} {sc : Scope} (h : nscB ["self", x, "__class__"] ["self", x] ["__class__"] sc = true) : NScope ["self", x, "__class__"] ["self", x] ["__class__"] sc := nscope_by h
theorem joined_ok {a b : Str} (ha : a.length ≤ 100) (hb : b.length ≤ 100) (o : Addr) (y : V) (H : Hp) (Q : VK) (hy : okS y) (q : ∀ z : Str, Q (.str z) H) : tJs [tC (.str a), tFmt (tVar 1), tC (.str b)] Str.empty [some (.ref o), some y, none] H fun out H1 => Q (.str out) H1 := by
  obtain ⟨s, rfl, hs⟩ := hy
  have h0 : Str.empty.length = 0 := rfl
  refine ⟨a, rfl, ?_, .str s, rfl, .inl ⟨s, rfl, ?_, s, rfl, ?_, b, rfl, ?_, q _⟩⟩
  all_goals (rw [sizeLine_eq]; (try simp only [str_app_len]); omega)
theorem ok_i_BadRule (T : XTxt P K mg Z) : FnOk P w K mg base CX0 2 Z.i_BadRule Z.d_BadRule ["self", "why"] (spInit K Z.c_BadRule "why" okS) :=
  xinit_ok T.x_BadRule (ns3 (by decide +kernel)) rfl rfl rfl rfl rfl
    (fun F A outer s H Eo hF => pe_joined (.cons pe_str (.cons (pe_fmt (pe_var (i := 1) rfl (.inl (by show F.scope.names.lookup _ = _; rw [hF]; rfl)))) (.cons pe_str .nil))))
    (fun a y H Q hy q => joined_ok (by decide +kernel) (by decide +kernel) a y H Q hy q) (fun _ => rfl) (fun _ => rfl) (fun _ => ⟨_, rfl⟩)
theorem ok_i_BadPlan (T : XTxt P K mg Z) : FnOk P w K mg base CX0 2 Z.i_BadPlan Z.d_BadPlan ["self", "why"] (spInit K Z.c_BadPlan "why" okS) :=
  xinit_ok T.x_BadPlan (ns3 (by decide +kernel)) rfl rfl rfl rfl rfl
    (fun F A outer s H Eo hF => pe_joined (.cons pe_str (.cons (pe_fmt (pe_var (i := 1) rfl (.inl (by show F.scope.names.lookup _ = _; rw [hF]; rfl)))) (.cons pe_str .nil))))
    (fun a y H Q hy q => joined_ok (by decide +kernel) (by decide +kernel) a y H Q hy q) (fun _ => rfl) (fun _ => rfl) (fun _ => ⟨_, rfl⟩)
theorem ok_i_BadWakes (T : XTxt P K mg Z) : FnOk P w K mg base CX0 2 Z.i_BadWakes Z.d_BadWakes ["self", "number"] (spInit K Z.c_BadWakes "number" okI) :=
  xinit_ok T.x_BadWakes (ns3 (by decide +kernel)) rfl rfl rfl rfl rfl
    (fun F A outer s H Eo hF => pe_str)
    (fun a y H Q hy q => q _) (fun _ => rfl) (fun _ => rfl) (fun _ => ⟨_, rfl⟩)
end
/-! raise C(e); raise C('..') -/
def vRz1 (C : Addr) (f : Str) (ok : V → Prop) (E : XK) (te : TE) : TS := fun _ σ H => te σ H fun y H1 => ok y ∧ ∀ d, H1 d = none → E (.ref C) (some d) (upd H1 d (.xd [(f, y)]))
def vRz0 (C : Addr) (E : XK) : TS := fun _ _ H => E (.ref C) none H
section
variable {X : Cx} {E : XK}
theorem upd_del {H1 : Hp} {a d : Addr} {o o2 : HO} {p : HO} (ha : H1 a = none) (hda : d ≠ a) (q : HO) : upd (del (upd (upd (upd H1 a o) d p) a o2) a) d q = upd H1 d q := by
  funext b
  by_cases hb : b = d
  · subst hb
    rw [upd_same, upd_same]
  · rw [upd_ne hb, upd_ne hb]
    by_cases hc : b = a
    · subst hc
      rw [del_same, ha]
    · rw [del_ne hc, upd_ne hc, upd_ne hb, upd_ne hc]
/-- an exception of an own class with an own __init__ is made; its context is None -/
theorem pmk_x {x f pn qual : Str} {C fI : Addr} {fd : FuncData} {st : Stmt} {k : Nat} {ok : V → Prop} {e : Expr} {te : TE} {p pos : Pos} (T : XI X.prog X.K X.mg C fI fd qual st f) (F1 : FnOk X.prog X.w X.K X.mg X.base CX0 k fI fd ["self", pn] (spInit X.K C f ok)) (hr : Room (k + 1) X.A) (hb : Binds X.K fd ["self", pn] [])
    (hg : Gl X x) (hm : X.mg x = some (.ref C)) (he : PE X e te) (hdb : (x == ("__debug__" : Str)) = false := by decide) (hs : starEach [e] X.env = (false, eval e X.env) :: starEach [] X.env := by rfl) :
    L2N.PMk X (.Call (.Name x p) [e] [] pos) (fun σ H Q => te σ H fun y H1 => ok y ∧ ∀ d, H1 d = none → Q (.ref C) (some d) (upd H1 d (.xd [(f, y)]))) := by
  intro pins s σ H Q I h
  obtain ⟨nm, q, N, bs, bm, sn, sub, ab, col, dd, k0, k1, k2, k3, k5, hC, hbm⟩ := T.ox.cls
  have args := (pa_cons (up_pe he) pa_nil hs).run pos pins s σ H (fun vs H1 => ∃ y, vs = [y] ∧ ok y ∧ ∀ d, H1 d = none → Q (.ref C) (some d) (upd H1 d (.xd [(f, y)]))) I ⟨_, h, fun y H1 ⟨a, b⟩ => ⟨y, rfl, a, b⟩⟩
  refine wpAny_Call_Name_kw (ld_glob I hg hm (PySem.W.callWith_K (h₀ := X.base) I.ok.mod.kin T.ox.kC (thn args fun us s1 z => ?_) hs (by rfl)) hdb)
  obtain ⟨vs, H1, I1, r1, y, rfl, oky, q1⟩ := z
  obtain ⟨hp, g, dr, tk, os⟩ := s1
  refine ⟨I1.kIn, wpAny_call ?_⟩
  have gu0 : ((hp.push (PySem.W.kdv_tup us)).push (PySem.HandSPX.excO C hp.objs.size)).get? (hp.objs.size + 1) = some (PySem.HandSPX.excO C hp.objs.size) := by heap_get
  let u : Addr := hp.objs.size + 1
  let G1 : Heap := (hp.push (PySem.W.kdv_tup us)).push (PySem.HandSPX.excO C hp.objs.size)
  have lt : hp.objs.size ≤ u := Nat.le_succ _
  have nu : H1 u = none := I1.hok.fresh lt
  have kG : ∀ b o, hp.get? b = some o → G1.get? b = some o := fun b o z => Heap.get?_push_of_some _ (Heap.get?_push_of_some _ z)
  have gu : G1.get? u = some (PySem.HandSPX.excO C hp.objs.size) := gu0
  have I2 : L2.Inv X pins σ (upd H1 u (exo u C none)) ⟨G1, g, dr, tk, os⟩ := I1.laid (t' := tk) kG lt (exo_ok gu)
  have us1 : us.length = 1 := (Paired.length r1).symm
  have b2 := hb ⟨G1, g, dr, tk, os⟩ (.ref u :: us) I2.kIn (by rw [List.append_nil, List.length_cons, us1]; rfl)
  rw [List.append_nil] at b2
  have run := F1.run _ X.stack _ _ ⟨.ref u :: us, []⟩ (.ref u :: us) [.ref u, y] (fun v H2 => v = .non ∧ ∃ d, H2 u = some (exo u C (some d)) ∧ H2 d = some (exd d [(f, y)]) ∧ H1 d = none ∧ Q (.ref C) (some d) (upd (del H2 u) d (.xd [(f, y)]))) E0 (hr.make C us []) (I2.env0.make C us []) b2 (.cons rfl r1)
    ⟨u, y, rfl, oky, upd_same, fun dx n ne => ⟨rfl, dx, upd_same, by rw [upd_ne ne, upd_same], by rw [upd_ne ne] at n; exact n, by rw [upd_del nu ne]; exact q1 dx (by rw [upd_ne ne] at n; exact n)⟩⟩
  refine PySem.HandSPX.call_own PySem.F.excBase_ValueError (fun Y => PySem.HandSPX.refsVE_contains Y bm hbm) (I1.kIn _ _ hC) (PySem.W.looks_findIn I1.kIn T.iC) (fun self => PySem.W.bind_fn I1.kIn self T.tI) (by rw [List.nil_append, us1, sizeLine_eq]; decide)
    (codeAny_mono run fun r s' hq => ?_)
  match r, hq with
  | .error er, hq => exact hq.elim
  | .ok .next, hq => exact hq.elim
  | .ok .brk, hq => exact hq.elim
  | .ok .cont, hq => exact hq.elim
  | .ok (.ret v), ⟨v1, H2, os2, bare2, un2, hok2, rv, e1, d, ea, ed, hd1, q2⟩ =>
    subst e1
    obtain ⟨h2, g2, d2, t2, os3⟩ := s'
    obtain ⟨t0, G, J, k2, ge, hoe, na⟩ := mk_end0 (d2 := d2) (t2 := t2) I1 lt kG un2 hok2 os2 bare2 ea ed hd1
    exact ⟨rv, u, _, _, ⟨G, g2, d2, t2, os3⟩, _, .ref C, some d, rfl, J, k2, ge, hoe, ⟨rfl, rfl, fun vs z => by cases z; rfl⟩, rfl, rfl, na, rfl, bare2, raises_own T.ox.exC T.ox.tyC, q2⟩
theorem ps_raise1 {x f pn qual : Str} {C fI : Addr} {fd : FuncData} {st : Stmt} {k : Nat} {ok : V → Prop} {e : Expr} {te : TE} {p pos pos2 : Pos} (hc : X.calm = true) (tk : L2N.Takes X fun cls d _ H => E cls d H) (T : XI X.prog X.K X.mg C fI fd qual st f) (F1 : FnOk X.prog X.w X.K X.mg X.base CX0 k fI fd ["self", pn] (spInit X.K C f ok)) (hr : Room (k + 1) X.A) (hb : Binds X.K fd ["self", pn] [])
    (hg : Gl X x) (hm : X.mg x = some (.ref C)) (he : PE X e te) (hdb : (x == ("__debug__" : Str)) = false := by decide) (hs : starEach [e] X.env = (false, eval e X.env) :: starEach [] X.env := by rfl) :
    PS X (.Raise (some (.Call (.Name x p) [e] [] pos)) none pos2) (vRz1 C f ok E te) := L2N.ps_raise hc tk (pmk_x T F1 hr hb hg hm he hdb hs)
theorem ps_raise0 {x m : Str} {C : Addr} {j : Nat} {p p2 pos pos2 : Pos} (hc : X.calm = true) (tk : L2N.Takes X fun cls d _ H => E cls d H) (T : XN X.K C) (hg : Gl X x) (hm : X.mg x = some (.ref C)) (hdb : (x == ("__debug__" : Str)) = false := by decide) :
    PS X (.Raise (some (.Call (.Name x p) [.Constant (.str m) j p2] [] pos)) none pos2) (vRz0 C E) := L2N.ps_raise hc tk (L2N.pmk_own PySem.F.excBase_ValueError T.ex hm T.kC (raises_own T.exC T.tyC) hg hdb)
/-- a refusal that leaves a def: what the def's caller wants of it -/
abbrev CXN : Program → World → CXT := L2N.CX
theorem passX {P : Program} {w : World} {K : PySem.W.Frag} {mg : Str → Option Value} {base : Heap} {N : List Str} {qual : Str} {scope : Scope} {f : Addr} {cd : Value} {A : Around} {outer : List Env} {s : Shared} {H : Hp} {E : XK} : Passes (CXN P w) (cxOf (CXN P w) P w K mg base N qual scope f cd A outer s H E) E :=
  L2N.passes_call (L2N.takes_of rfl rfl rfl rfl) (fun _ _ _ _ h => h)
theorem takeX {P : Program} {w : World} {K : PySem.W.Frag} {mg : Str → Option Value} {base : Heap} {N : List Str} {qual : Str} {scope : Scope} {f : Addr} {cd : Value} {A : Around} {outer : List Env} {s : Shared} {H : Hp} {E : XK} : L2N.Takes (cxOf (CXN P w) P w K mg base N qual scope f cd A outer s H E) (fun cls d _ H => E cls d H) :=
  L2N.takes_of rfl rfl rfl rfl
end
end OA

namespace OA
open PySem PySem.Spec PyProof.Rows L2
/-! refusals by data -/
inductive XD where
  | num | txt | rule (why : Str) | wakes (n : Int) | plan (why : Str)
def XAt (Z : XA) (H : Hp) (x : XD) (cls : Value) (d : Option Addr) : Prop := match x with
  | .num => cls = .ref Z.c_BadNumber ∧ d = none
  | .txt => cls = .ref Z.c_BadText ∧ d = none
  | .rule s => cls = .ref Z.c_BadRule ∧ ∃ a, d = some a ∧ H a = some (.xd [("why", .str s)])
  | .wakes n => cls = .ref Z.c_BadWakes ∧ ∃ a, d = some a ∧ H a = some (.xd [("number", .int n)])
  | .plan s => cls = .ref Z.c_BadPlan ∧ ∃ a, d = some a ∧ H a = some (.xd [("why", .str s)])
abbrev DXSp := List W → DQ → (XD → Prop) → Prop
/-- a def that may refuse -/
def spX (K : PySem.W.Frag) (Z : XA) (am : Am) (sp : DXSp) : Sp := fun vs H Q E0 => ∃ (E : Addr → Prop) (ws : List W) (Qd : DQ) (Xd : XD → Prop), (∀ b, E b → EOk H b) ∧ (∀ b, am.M b → E b) ∧ am.I H ∧ VOks K H E ws vs ∧ sp ws Qd Xd ∧
  (∀ v H' w Ωn, Qd w Ωn → VOk K H' (ExN E Ωn) w v → (∀ q ∈ Ωn, ObOk K H' (ExN E Ωn) q.1 q.2) → (∀ p ∈ Ωn.map (·.1), H p = none) → (Ωn.map (·.1)).Nodup → (∀ b o, ¬ am.M b → H b = some o → H' b = some o) → am.I H' → Q v H') ∧
  ∀ x cls d H', Xd x → XAt Z H' x cls d → (∀ b o, ¬ am.M b → H b = some o → H' b = some o) → am.I H' → E0 cls d H'
/-- what is wanted of a refusal, by data -/
class SX (Z : XA) (am : Am) (E0 : XK) (Xd : outParam (XD → Prop)) : Prop where
  run : ∀ (H0 H' : Hp) (x : XD) (cls : Value) (d : Option Addr), am.J H0 → Xd x → XAt Z H' x cls d → (∀ b o, ¬ am.M b → H0 b = some o → H' b = some o) → am.I H' → E0 cls d H'
section
variable {K : PySem.W.Frag} {Z : XA} {am : Am}
theorem spX_run {X : Cx} {body : List Stmt} {ts : TS} {td : (XD → Prop) → DS} {sp : DXSp} {vs : List V} {H : Hp} {Q : VK} {E0 : XK} {N : List Str} (h : spX K Z am sp vs H Q E0) (hP : PSs X body ts) (hs : ∀ Xd, SX Z (am.at H) E0 Xd → SS K (am.at H) ts (td Xd))
    (hD : ∀ ws Qd Xd, sp ws Qd Xd → td Xd ⟨fun _ _ => Qd (.sh .non) [], RtD Qd, fun _ _ => False, fun _ _ => False⟩ (startG N.length ws) []) :
    ∃ t, PSs X body t ∧ t { nx := fun _ H' => Q .non H', rt := Q } (start N vs) H := by
  obtain ⟨E, ws, Qd, Xd, hE, hM, hI, hv, hsp, k, kx⟩ := h
  have sx : SX Z (am.at H) E0 Xd := ⟨fun H0 H' x cls d j a b c e => by
    have j : H0 = H := j
    subst j
    exact kx x cls d H' a b c e⟩
  let c : Cq (am.at H) := ⟨E, hM, H, rfl⟩
  have ex : Ex c [] = E := by
    funext b
    unfold Ex
    simp [c]
  have e0 : DEnv K c [] (start N vs) (startG N.length ws) [] H := by
    refine ⟨?_, fun i w hw => ?_, fun t ht => by simp at ht, fun q hq => by simp at hq, List.nodup_nil, fun p hp => by simp at hp, hE, fun b o _ hb => hb, hI⟩
    · unfold L2.start startG
      simp [hv.len]
    · rw [ex]
      unfold startG at hw
      rcases Nat.lt_or_ge i ws.length with z | z
      · rw [List.getElem?_append_left (by simpa using z), List.getElem?_map] at hw
        cases q : ws[i]? with
        | none => rw [q] at hw; cases hw
        | some w0 =>
          rw [q] at hw
          cases hw
          obtain ⟨v, h1, h2⟩ := hv.to i q
          refine ⟨v, ?_, h2⟩
          unfold L2.start
          rw [List.getElem?_append_left (by rw [List.length_map, ← hv.len]; exact z), List.getElem?_map, h1]
          rfl
      · rw [List.getElem?_append_right (by simpa using z)] at hw
        rw [List.getElem?_replicate] at hw
        split at hw <;> cases hw
  have fin : ∀ v w H' (Ωn : Om), Qd w Ωn → VOk K H' (ExN E Ωn) w v → (∀ q ∈ Ωn, ObOk K H' (ExN E Ωn) q.1 q.2) → (∀ p ∈ Ωn.map (·.1), H p = none) → (Ωn.map (·.1)).Nodup → (∀ b o, ¬ am.M b → H b = some o → H' b = some o) → am.I H' → Q v H' := fun v w H' Ωn => k v H' w Ωn
  have sub : ∀ {Ω : Om} {H' : Hp} {p : Addr} {od : OD}, look Ω p = some od → ∀ b o, ¬ Ex c Ω b → H' b = some o → ¬ ExN E [(p, od)] b ∧ H' b = some o := fun hl b o n h => ⟨fun z => n (z.elim .inl fun z => .inr (by
    have zz : b = _ := List.mem_singleton.mp z
    rw [zz]
    exact List.mem_map.mpr ⟨_, look_mem hl, rfl⟩)), h⟩
  have sub0 : ∀ {Ω : Om} {H' : Hp}, ∀ b o, ¬ Ex c Ω b → H' b = some o → ¬ ExN E [] b ∧ H' b = some o := fun b o n h => ⟨fun z => n (z.elim .inl fun z => by simp at z), h⟩
  refine ⟨ts, hP, (hs Xd sx).run (c := c) (T := []) e0 (hD ws Qd Xd hsp) ⟨fun σ Γ Ω H' q e => fin .non _ H' [] q rfl (fun q hq => by simp at hq) (fun p hp => by simp at hp) List.nodup_nil e.frm e.inv, fun v w σ Γ Ω H' q e => ?_, fun _ _ _ _ q _ => q, fun _ _ _ _ q _ => q⟩⟩
  cases q with
  | sh q => exact fin v _ H' [] q (e.hd.mono sub0) (fun q hq => by simp at hq) (fun p hp => by simp at hp) List.nodup_nil e.frm e.inv
  | own hl q =>
    rename_i p od
    have hob := e.ob _ (look_mem hl)
    refine fin v _ H' [(p, od)] q e.hd (fun q hq => ?_) (fun p' hp => ?_) (by simp) e.frm e.inv
    · have : q = (p, od) := by simpa using hq
      rw [this]
      exact ObOk.mono (sub hl) (fun _ h => h) hob
    · have : p' = p := by simpa using hp
      rw [this]
      exact (e.fr p (List.mem_map.mpr ⟨_, look_mem hl, rfl⟩)).1
  | frz f q =>
    rename_i p d
    obtain rfl : v = .ref p := e.hd
    have e2 := e.frz f
    have hin : p ∈ Ω.map (·.1) := by cases f with
      | lst h => exact List.mem_map.mpr ⟨_, look_mem h, rfl⟩
      | dic h => exact List.mem_map.mpr ⟨_, look_mem h, rfl⟩
    have lay : Lay K H' (ExN E []) d (.ref p) := by
      have np : ¬ ExN E [] p := fun z => z.elim (e.fr p hin).2 fun z => by simp at z
      cases f with
      | lst h =>
        obtain ⟨vs, h1, h2⟩ := e.ob _ (look_mem h)
        exact ⟨p, vs, rfl, np, h1, (h2.mono sub0).lay⟩
      | dic h =>
        obtain ⟨vs, h1, hn, h2⟩ := e.ob _ (look_mem h)
        exact ⟨p, vs, rfl, np, h1, by rw [List.length_map] at hn; exact hn, (h2.mono sub0).lay⟩
    exact fin _ _ H' [] q lay (fun q hq => by simp at hq) (fun p hp => by simp at hp) List.nodup_nil e.frm e.inv
def dFnX (sp : DXSp) (Xd : XD → Prop) (das : DA) (Γ : Gm) (Ω : Om) (Q : DQ) : Prop := das Γ Ω fun ws Ω1 => sp ws (fun w Ωn => notins Ωn Ω1 → Q w (Ωn ++ Ω1)) Xd
instance s_callX {a : Am} {sp : DXSp} {E0 : XK} {Xd : XD → Prop} {tas : TA} {das : DA} [le : AmLe a am] [sx : SX Z am E0 Xd] [s1 : SA K am tas das] : SE K am (vCall (spX K Z a sp) E0 tas) (dFnX sp Xd das) := ⟨fun {c T σ Γ Ω H Q R} e h k =>
  s1.run e h fun vs ws Ω1 H1 h1 e1 hv => ⟨Ex c Ω1, ws, _, Xd, fun b hb => e1.eok hb, fun b m => .inl (c.ME b (le.M b m)), le.I _ e1.inv, hv, h1, fun v H' w Ωn q hw ho hn nd kk i => by
    obtain ⟨ni, e2⟩ := e1.call (a := a) hw ho hn nd kk i
    exact k v w _ H' (q ni) e2,
  fun x cls d H' hx hat kk i => sx.run c.H0 H' x cls d c.jH hx hat (fun b o n hb => kk b o (fun m => n (le.M b m)) (e1.frm b o n hb)) (le.back _ _ e1.inv kk i)⟩⟩
/-! raise -/
def dRzS (mk : Str → XD) (Xd : XD → Prop) (de : DT) (_N : DN) (Γ : Gm) (Ω : Om) : Prop := de Γ Ω fun w _ => strW w fun s => s.length ≤ 100 ∧ Xd (mk s)
def dRzI (mk : Int → XD) (Xd : XD → Prop) (de : DT) (_N : DN) (Γ : Gm) (Ω : Om) : Prop := de Γ Ω fun w _ => intW w fun s => Xd (mk s)
def dRz0 (x : XD) (Xd : XD → Prop) (_N : DN) (_Γ : Gm) (_Ω : Om) : Prop := Xd x
section
variable {E0 : XK} {Xd : XD → Prop} {te : TE} {de : DT}
instance s_rzRule [sx : SX Z am E0 Xd] [s1 : SE K am te de] : SS K am (vRz1 Z.c_BadRule "why" okS E0 te) (dRzS .rule Xd de) := ⟨fun {c T σ Γ Ω H D N} e h o =>
  s1.run e h fun v w Ω1 H1 h1 e1 => by
    obtain ⟨s, rfl, hl, h2⟩ := strW_el h1
    obtain rfl : v = .str s := e1.hd
    refine ⟨⟨s, rfl, hl⟩, fun d hd => ?_⟩
    have e2 := e1.alloc (o := .xd [("why", .str s)]) hd
    exact sx.run c.H0 _ _ _ _ c.jH h2 ⟨rfl, d, rfl, upd_same⟩ e2.frm e2.inv⟩
instance s_rzPlan [sx : SX Z am E0 Xd] [s1 : SE K am te de] : SS K am (vRz1 Z.c_BadPlan "why" okS E0 te) (dRzS .plan Xd de) := ⟨fun {c T σ Γ Ω H D N} e h o =>
  s1.run e h fun v w Ω1 H1 h1 e1 => by
    obtain ⟨s, rfl, hl, h2⟩ := strW_el h1
    obtain rfl : v = .str s := e1.hd
    refine ⟨⟨s, rfl, hl⟩, fun d hd => ?_⟩
    have e2 := e1.alloc (o := .xd [("why", .str s)]) hd
    exact sx.run c.H0 _ _ _ _ c.jH h2 ⟨rfl, d, rfl, upd_same⟩ e2.frm e2.inv⟩
instance s_rzWakes [sx : SX Z am E0 Xd] [s1 : SE K am te de] : SS K am (vRz1 Z.c_BadWakes "number" okI E0 te) (dRzI .wakes Xd de) := ⟨fun {c T σ Γ Ω H D N} e h o =>
  s1.run e h fun v w Ω1 H1 h1 e1 => by
    obtain ⟨s, rfl, h2⟩ := intW_el h1
    obtain rfl : v = .int s := e1.hd
    refine ⟨⟨s, rfl⟩, fun d hd => ?_⟩
    have e2 := e1.alloc (o := .xd [("number", .int s)]) hd
    exact sx.run c.H0 _ _ _ _ c.jH h2 ⟨rfl, d, rfl, upd_same⟩ e2.frm e2.inv⟩
instance s_rzNum [sx : SX Z am E0 Xd] : SS K am (vRz0 Z.c_BadNumber E0) (dRz0 .num Xd) := ⟨fun {c T σ Γ Ω H D N} e h o => sx.run c.H0 _ _ _ _ c.jH h ⟨rfl, rfl⟩ e.frm e.inv⟩
instance s_rzTxt [sx : SX Z am E0 Xd] : SS K am (vRz0 Z.c_BadText E0) (dRz0 .txt Xd) := ⟨fun {c T σ Γ Ω H D N} e h o => sx.run c.H0 _ _ _ _ c.jH h ⟨rfl, rfl⟩ e.frm e.inv⟩
end
/-! a call within a lambda: what is wanted of a refusal is open -/
abbrev DTX := Gm → Om → DQ → (XD → Om → Prop) → Prop
class SEX (K : PySem.W.Frag) (Z : XA) (am : Am) (t : XK → TE) (dt : outParam DTX) : Prop where
  run : ∀ {c : Cq am} {T : List Tp} {σ : L2.St} {Γ : Gm} {Ω : Om} {H : Hp} {Q : DQ} {Xd : XD → Om → Prop} {R : VK} {E : XK}, DEnv K c T σ Γ Ω H → dt Γ Ω Q Xd → (∀ v w Ω' H', Q w Ω' → DEnv K c (.v w v :: T) σ Γ Ω' H' → R v H') →
    (∀ x cls d Ω' H', Xd x Ω' → XAt Z H' x cls d → DEnv K c T σ Γ Ω' H' → E cls d H') → t E σ H R
def dCallX (sp : DXSp) (das : DA) (Γ : Gm) (Ω : Om) (Q : DQ) (Xd : XD → Om → Prop) : Prop := das Γ Ω fun ws Ω1 => sp ws (fun w Ωn => notins Ωn Ω1 → Q w (Ωn ++ Ω1)) fun x => Xd x Ω1
instance x_call {a : Am} {sp : DXSp} {tas : TA} {das : DA} [le : AmLe a am] [s1 : SA K am tas das] : SEX K Z am (fun E => vCall (spX K Z a sp) E tas) (dCallX sp das) := ⟨fun {c T σ Γ Ω H Q Xd R E} e h k kx =>
  s1.run e h fun vs ws Ω1 H1 h1 e1 hv => ⟨Ex c Ω1, ws, _, _, fun b hb => e1.eok hb, fun b m => .inl (c.ME b (le.M b m)), le.I _ e1.inv, hv, h1, fun v H' w Ωn q hw ho hn nd kk i => by
    obtain ⟨ni, e2⟩ := e1.call (a := a) hw ho hn nd kk i
    exact k v w _ H' (q ni) e2,
  fun x cls d H' hx hat kk i => kx x cls d Ω1 H' hx hat (e1.step (fun b o n h => kk b o (fun m => n (le.M b m)) h) (le.back _ _ e1.inv kk i))⟩⟩
end
end OA

namespace OA
open PySem PySem.Spec PyProof.Rows L2
/-! who a caught exception is -/
inductive X5 where
  | num | rule | wakes | plan | txt
  deriving DecidableEq
def XA.cl (Z : XA) : X5 → Addr
  | .num => Z.c_BadNumber
  | .rule => Z.c_BadRule
  | .wakes => Z.c_BadWakes
  | .plan => Z.c_BadPlan
  | .txt => Z.c_BadText
def XD.k5 : XD → X5
  | .num => .num
  | .txt => .txt
  | .rule _ => .rule
  | .wakes _ => .wakes
  | .plan _ => .plan
theorem XAt.cls {Z : XA} {H : Hp} {x : XD} {cls : Value} {d : Option Addr} (h : XAt Z H x cls d) : cls = .ref (Z.cl x.k5) := by
  cases x <;> exact h.1
/-- what the written part says of the five classes -/
structure XCls (K : PySem.W.Frag) (Z : XA) : Prop where
  kit : ∀ x y : X5, PySem.W.kitOne K (.ref (Z.cl x)) (.ref (Z.cl y)) = some (decide (x = y))
  ve : ∀ x : X5, PySem.W.kitOne K (.ref (Z.cl x)) (.type "ValueError") = some true
  air : ∀ x : X5, PySem.W.exmOne K (.ref (Z.cl x)) (.ref Z.c_AirError) = some true
  ci : ∀ x : X5, (PySem.W.clsIn K (Z.cl x)).isSome = true
  ga : ∀ x : X5, PySem.W.findIn K (.ref (Z.cl x)) "__getattribute__" = some (some (.builtin "BaseException.__getattribute__"))
  gt : ∀ x : X5, PySem.W.findIn K (.ref (Z.cl x)) "__getattr__" = some none
  sb : ∀ x : X5, PySem.W.subIn K (.ref (Z.cl x)) (.type "BaseException") = some true
  cl : ∀ x : X5, PySem.W.findIn K (.ref (Z.cl x)) "__class__" = some (some (.builtin "object.__class__"))
  mo : ∀ x : X5, PySem.W.mroIn K (Z.cl x) (.type "object") = some true
  hd : ∀ x : X5, PySem.W.hasDictIn K (Z.cl x) = true
  sp : PySem.W.specialIn K (.builtin "object.__class__") "__get__" = some (some (.builtin "getset_descriptor.__get__"))
  tk : PySem.W.takesIn K (.builtin "object.__class__") = some true
/-- a context that knows an exception's object and its dict -/
structure EKnow (X : Cx) (a : Addr) (oe : Obj) (d : Option Addr) : Prop where
  ob : ∀ (pins : List (Addr × Obj)) (σ : L2.St) (H : Hp) (s : Shared), L2.Inv X pins σ H s → s.heap.get? a = some oe
  dd : ∀ (pins : List (Addr × Obj)) (σ : L2.St) (H : Hp) (s : Shared) (dd : Addr), d = some dd → L2.Inv X pins σ H s → ∃ od, s.heap.get? dd = some od
section
variable {X : Cx} {a : Addr} {oe : Obj}
/-- isinstance(e, C), isinstance(e, ValueError) -/
def wIsX (Z : XA) (a : Addr) (x : X5) (vs : List V) (H : Hp) (Q : VK) : Prop := two2 vs fun e c => e = .ref a ∧ ((∃ y : X5, c = .ref (Z.cl y) ∧ Q (.bl (decide (x = y))) H) ∨ c = .ty "ValueError" ∧ Q (.bl true) H)
theorem c_isX {Z : XA} (F : XCls X.K Z) {x : X5} {d : Option Addr} (p : EKnow X a oe d) (hz : Zc (.ref (Z.cl x)) d oe) (hf : ∃ vs, oe.data = .fields vs) : CallR X (.builtin "isinstance") (wIsX Z a x) := by
  intro pins s σ H xs us Q I r h
  obtain ⟨e, c, rfl, rfl, hh⟩ := two2_el h
  obtain ⟨vs, hv⟩ := hf
  have nc : PySem.W.notCls oe = true := by unfold PySem.W.notCls; rw [hv] <;> rfl
  have J : ∃ od, PySem.W.InstAt s.heap a oe (Z.cl x) od := by
    cases ed : d with
    | none => exact ⟨none, p.ob _ _ _ _ I, hz.1, nc, by rw [hz.2, ed]; trivial⟩
    | some dd =>
      obtain ⟨od, ho⟩ := p.dd _ _ _ _ dd ed I
      exact ⟨some od, p.ob _ _ _ _ I, hz.1, nc, by rw [hz.2, ed]; exact ho⟩
  obtain ⟨od, J⟩ := J
  have go : ∀ (cv : Value) (b : Bool), us = [.ref a, cv] → PySem.W.kitOne X.K (.ref (Z.cl x)) cv = some b → Q (.bl b) H → wpAny (model X.prog X.w) X.A (call (.builtin "isinstance") us) (EP X pins σ Q) X.xe s := fun cv b eu ek q => by
    subst eu
    exact PySem.W.kia_one (PySem.W.kitx_exc (od := od) (ox := oe) (F.ci x) (F.ga x) (F.gt x) (F.sb x) (F.cl x) F.sp F.tk (F.mo x)) I.kIn J ek (fun z => nomatch z) fun tk => ⟨.bl b, H, I.kept (t' := tk) fun _ _ z => z, rfl, q⟩
  obtain ⟨u1, u2, rfl, r1, r2⟩ : ∃ u1 u2, us = [u1, u2] ∧ RelV (.ref a) u1 ∧ RelV c u2 := by
    cases r with
    | cons r1 rr =>
      cases rr with
      | cons r2 rr =>
        cases rr
        exact ⟨_, _, rfl, r1, r2⟩
  obtain rfl : u1 = .ref a := r1
  rcases hh with ⟨y, rfl, q⟩ | ⟨rfl, q⟩
  · obtain rfl : u2 = .ref (Z.cl y) := r2
    exact go _ _ rfl (F.kit x y) q
  · obtain rfl : u2 = .type "ValueError" := r2
    exact go _ _ rfl (F.ve x) q
end
section
variable {K : PySem.W.Frag} {am : Am}
/-- by data: classes are told by where they stand -/
def dIsX (Z : XA) (a : Addr) (x : X5) (ws : List W) (Ω : Om) (Q : DQ) : Prop := two2W ws fun e c => e = .pt a ∧ ((∃ y : X5, c = .pt (Z.cl y) ∧ Q (.sh (.bl (decide (x = y)))) Ω) ∨ c = .ty "ValueError" ∧ Q (.sh (.bl true)) Ω)
instance r_isX {Z : XA} {a : Addr} {x : X5} : SRC K am (wIsX Z a x) (dIsX Z a x) := ⟨fun {c T σ Γ Ω H xs ws Q R} e hs h k => by
  obtain ⟨w1, v1, w2, v2, rfl, h1, h2, rfl, h4⟩ := two2W_el h hs
  have e1 : v1 = .ref a := h1
  refine ⟨e1, ?_⟩
  rcases h4 with ⟨y, rfl, q⟩ | ⟨rfl, q⟩
  · have e2 : v2 = .ref (Z.cl y) := h2
    exact .inl ⟨y, e2, k _ _ _ _ q (e.addv rfl)⟩
  · have e2 : v2 = .ty "ValueError" := h2
    exact .inr ⟨e2, k _ _ _ _ q (e.addv rfl)⟩⟩
end
/-! a def called in an except suite, its body judged at the very state -/
theorem fn_runE {P : Program} {w : World} {K : PySem.W.Frag} {mg : Str → Option Value} {base : Heap} {k : Nat} {f : Addr} {fd : FuncData} {x qual : Str} {st : Stmt} {N ps : List Str} (F : Fun K x qual st f fd) (S : FnScope N ps (defScope st)) {A : Around} {outer : List Env} {s : Shared} {H : Hp} {args : Args} {us : List Value} {vs : List V} {Q : VK} {p : Addr × Obj}
    (hr : L2H.RoomH (k + 1) A) (hpin : L2H.PinOk outer H s p) (e0 : Env0 P w K mg base A outer s H) (hb : BindsTo s fd args (ps.zip us)) (r : Vals vs us) (hl : vs.length = ps.length)
    (hbody : ∀ cdv, L2H.RoomH k (A.deeper (envOfC qual (defScope st) s.heap.objs.size f cdv)) → ∃ t, PSs (L2H.cxH CX0 P w K mg base N qual (defScope st) f cdv A outer s H E0 p) (defBody st) t ∧ t { nx := fun _ H' => Q .non H', rt := Q } (start N vs) H) :
    codeAny (model P w) A (.call (.ref f) args) (CR CX0 outer P w H s Q E0) s := by
  obtain ⟨oc, od, kV, doc, pm, an, cdv, ct, osl, rfl, lk, hcd⟩ := F.ex
  have lim : s.heap.NoLimit := e0.mod.nolimit.keeps fun b o z => (e0.bs b o z).1
  have KX : K.In s.heap := e0.mod.kin.keeps fun b o z => (e0.bs b o z).1
  refine codeAny_call_function hr.depth (KX _ _ lk) rfl S.co S.gen rfl (PySem.W.codeRec_of KX hcd) (hb _ _ _ _ (wpAny_newFunctionEnv_cells S.kind (fun y hy => ?_) fun env he s1 z => ?_))
  · rcases S.par y.1 (List.of_mem_zip (a := y.1) (b := y.2) hy).1 with q | q
    · exact .inl q
    · exact .inr ⟨q, PySem.W.cellsFrom_some _ _ _ (.inl q)⟩
  subst he
  obtain ⟨t, ht, hq⟩ := hbody cdv (hr.deeper _)
  refine ⟨lim.keeps z.toInCall.keep, codeAny_func (wpAny_mono (ht.run [] s1 (start N vs) H _ (L2H.inv_startH S hpin e0 hl r z) hq) (fun fl s2 h2 => ?_) fun _ _ h2 => h2)⟩
  match fl, h2 with
  | .ret uv, ⟨v5, σ5, H5, J5, r5, q5⟩ => exact ⟨v5, H5, J5.os, J5.bare, J5.base, J5.hok, r5, q5⟩
  | .next, ⟨σ5, H5, J5, q5⟩ => exact ⟨.non, H5, J5.os, J5.bare, J5.base, J5.hok, rfl, q5⟩
  | .brk, ⟨_, _, _, q5⟩ => exact q5.elim
  | .cont, ⟨_, _, _, q5⟩ => exact q5.elim
end OA

namespace OA
open PySem PySem.Spec PyProof.Rows L2
/-! a list comprehension while an exception is handled -/
section
variable {prog : Program} {w : World} {A : Around} {E : Value → Shared → Prop} {s : Shared}
theorem next_end_hot {it l x1 : Addr} {i : Nat} {items : Array Value} {Q : Option Value → Shared → Prop} (hot : HotX.HotAt A x1 s.heap) (nx : x1 ≠ it) (hit : s.heap.IsListIter it l i) (hl : s.heap.IsList l items) (hx : items[i]? = none)
    (hQ : ∀ h', (∀ b o, b ≠ it → s.heap.get? b = some o → h'.get? b = some o) → Q none { s with heap := h' }) : wpAny (model prog w) A (pyNext (.ref it)) Q E s := by
  obtain ⟨hh, o1, v1, g1, d1, c1⟩ := hot
  obtain ⟨o, ho, _, hd⟩ := id hit
  obtain ⟨ol, hol, _, nl, hdl⟩ := hl
  unfold pyNext
  refine wpAny_bind (wpAny_attempt (wpAny_callSpecial?_slot (name := Str.ofString "__next__") hit.typeIs slot_listiter_next (wpAny_call_entry slot_listiter_next hit.typeIs entry_listiter_next ?_ (args_listiter_next _))))
  refine (show wpAny (model prog w) A.in1 (field (.ref it) 0 >>= _) _ _ s from wpAny_bind (wpAny_field ho hd (x := .ref l) rfl ?_))
  refine (show wpAny (model prog w) A.in1 (if (Value.ref l == Value.none) = true then _ else _) _ _ s from ?_)
  rw [if_neg (show ¬ ((Value.ref l == Value.none) = true) from Bool.false_ne_true)]
  refine (show wpAny (model prog w) A.in1 (field (.ref it) 1 >>= _) _ _ s from wpAny_bind (wpAny_field ho hd (x := .int i 0) rfl ?_))
  refine (show wpAny (model prog w) A.in1 (seqItems? (.ref l) >>= _) _ _ s from wpAny_bind (wpAny_seqItems hol hdl ?_))
  simp only [Int.toNat_natCast, hx]
  refine wpAny_bind (wpAny_rule (wpAny_bind (wpAny_setField ho hd (by simp) ?_)))
  generalize hG : s.heap.update it _ = G
  have kG : ∀ b o, b ≠ it → s.heap.get? b = some o → G.get? b = some o := fun b o hb z => by
    rw [← hG, Heap.get?_update_other _ _ (Ne.symm hb)]
    exact z
  refine (show wpAny (model prog w) A.in1 (newExc (.type "StopIteration") [] >>= _) _ _ _ from wpAny_bind ?_)
  simp only [newExc, newTuple]
  refine wpAny_bind (wpAny_newObj_type (wpAny_bind (m := firstArgMember _ _) (wpAny_of_eq (a := Value.none) (by first | rfl | (simp only [firstArgMember]; rfl)) (wpAny_newObj_type ?_ (by size_fits)))) (by size_fits))
  have gx := Heap.get?_push_of_some (h := G) { cls := Value.type "tuple", data := Data.seq #[] } (kG x1 o1 nx g1)
  refine HotX.raiseNew_hot (x1 := x1) ⟨hh, o1, v1, Heap.get?_push_of_some _ gx, d1, c1⟩ (Nat.ne_of_lt (Heap.lt_size gx)) (Heap.get?_push_size _ rfl) rfl (by first | (simp; done) | (simp; omega)) ?_
  refine wpAny_bind (wpAny_isInstance (T := "StopIteration") (b := true) ⟨_, Heap.get?_update_self _ (Heap.get?_push_size _ rfl) rfl, rfl⟩ isSubtype_stop (wpAny_pure (hQ _ fun b o hb z => ?_)))
  have gb := Heap.get?_push_of_some (h := G) { cls := Value.type "tuple", data := Data.seq #[] } (kG b o hb z)
  rw [Heap.get?_update_other _ _ (Nat.ne_of_gt (Heap.lt_size gb))]
  exact Heap.get?_push_of_some _ gb
end
section
variable {X : Cx}
/-- [elt for target in l] in an except suite: over a list, every item taken -/
theorem pe_lcH {elt tg l : Expr} {scope : Scope} {own : List (Str × Nat)} {pos : Pos} {tl te : TE} {g : TG} (hc : L2H.HotC X) (hN : X.N.Nodup) (hl : PE X l tl) (ok : BlkOk X.N X.env.scope scope own)
    (hg : ∀ (s : Shared) (H : Hp) (C : Addr) (cl : List (Str × Addr)) (fp : List Addr), PG (X.blk s H scope (compEnvC scope cl C X.env) fp) tg g) (he : ∀ (s : Shared) (H : Hp) (C : Addr) (cl : List (Str × Addr)) (fp : List Addr), PE (X.blk s H scope (compEnvC scope cl C X.env) fp) elt te)
    (hs : ∀ x, foldedSetIterable l X.env x = pure x := by intro _; rfl) : PE X (.ListComp elt [⟨tg, l, [], 0⟩] scope pos) (tLc (iList X.K tl) g tYes te (own.map (·.2))) := by
  refine ⟨fun pins s σ H Q I h => ?_⟩
  obtain ⟨px, ⟨hh, v1, d1, c1⟩, hpx⟩ := hc
  rw [eval_ListComp]
  have hfree : ∀ y ∈ scope.names, y.2 = .free → ∃ c, X.env.cells.lookup y.1 = some c := fun y hy z => (ok.free y hy z).elim (fun q => I.ok.has _ (.inl q)) fun q => I.ok.has _ (.inr q)
  refine wpAny_comprehension_free (use := none) rfl hs (closure_ok hfree) ok.kind (fun y hy z => by rw [ok.uniq y hy, z]) (thn (hl.run pins s σ H _ I h) fun v s1 z1 => ?_)
  obtain ⟨x, H1, I1, r1, a, rfl, ⟨xs0, hq0⟩, q⟩ := z1
  obtain rfl : v = .ref a := r1
  obtain ⟨its0, _, pl0, _⟩ := I1.list hq0
  refine wpAny_pyIter_list pl0.isList (wpAny_newObj_type (newEnv_comp ?_) (by show 0 ≤ sizeLine; decide))
  -- the iterator, the new list, the block's frame
  generalize ei : s1.heap.objs.size = it
  generalize eg2 : s1.heap.push _ = g2
  have k2 : ∀ b o, s1.heap.get? b = some o → g2.get? b = some o := fun b o z => by rw [← eg2]; exact Heap.get?_push_of_some _ z
  have it2 : g2.IsListIter it a 0 := by rw [← eg2, ← ei]; exact ⟨_, Heap.get?_push_size _ rfl, rfl, rfl⟩
  have I2 : L2.Inv X pins σ H1 { s1 with heap := g2 } := I1.kept (t' := s1.toks) k2
  have fi2 : FpOk X pins H1 it := by rw [← ei]; exact I1.fpOk (Nat.le_refl _) (I1.hok.fresh (Nat.le_refl _))
  have li2 : it < g2.objs.size := by
    obtain ⟨o, z, _⟩ := it2
    exact Heap.lt_size z
  generalize eD : g2.objs.size = D
  have nD : H1 D = none := I2.hok.fresh (Nat.le_of_eq eD)
  obtain ⟨W, ⟨m0, w0⟩, turn⟩ := q D nD
  generalize eg3 : g2.push _ = g3
  have k3 : ∀ b o, g2.get? b = some o → g3.get? b = some o := fun b o z => by rw [← eg3]; exact Heap.get?_push_of_some _ z
  have l3 : g3.objs.size = g2.objs.size + 1 := by rw [← eg3, Heap.size_push]
  have I3 : L2.Inv X pins σ (upd H1 D (.lst [])) { s1 with heap := g3 } := by
    refine I2.laid (t' := s1.toks) k3 (Nat.le_of_eq eD) ⟨Nat.zero_le _, [], 0, .nil, ?_⟩
    rw [← eg3, ← eD]
    exact Heap.get?_push_size _ rfl
  have f3 : FpOk X pins (upd H1 D (.lst [])) it := ⟨by rw [upd_ne (by rw [← eD]; exact Nat.ne_of_lt li2)]; exact fi2.1, fi2.2⟩
  have it3 : g3.IsListIter it a 0 := it2.at fun o z => k3 _ _ z
  have I4 := block_start I3 ok hN (fp := [it]) fun b hb => by
    rw [List.mem_singleton.mp hb]
    exact ⟨f3, by show it < g3.objs.size; rw [l3]; exact Nat.lt_succ_of_lt li2⟩
  have pg := hg { s1 with heap := g3 } (upd H1 D (.lst [])) g3.objs.size (cellsFrom (g3.objs.size + 1) scope.names (cloFrom X.env.cells scope.names [])) [it]
  have pe := he { s1 with heap := g3 } (upd H1 D (.lst [])) g3.objs.size (cellsFrom (g3.objs.size + 1) scope.names (cloFrom X.env.cells scope.names [])) [it]
  have pin3 := I3.pin px (List.mem_append_left _ hpx)
  generalize eH3 : upd H1 D (.lst []) = H3 at I3 f3 I4 pg pe w0 pin3
  show codeAny _ _ (.compStart (.ListComp elt [⟨tg, l, [], 0⟩] scope pos) 0 (.ref it) (.ref D) (compEnvC scope (cellsFrom (g3.objs.size + 1) scope.names (cloFrom X.env.cells scope.names [])) g3.objs.size X.env)) (compPost (model X.prog X.w) X.A X.xe none _ (.ref D) g3.objs.size) { s1 with heap := pushCells (g3.push { cls := .type "dict", data := .dict #[] }) scope.names }
  generalize eC : compEnvC scope (cellsFrom (g3.objs.size + 1) scope.names (cloFrom X.env.cells scope.names [])) g3.objs.size X.env = ce at I4 pg pe ⊢
  have cL : ce.locals = g3.objs.size := by rw [← eC]; rfl
  let B : Cx := X.blk { s1 with heap := g3 } H3 scope ce [it]
  have it4 : (pushCells (g3.push { cls := .type "dict", data := .dict #[] }) scope.names).IsListIter it a 0 := it3.at fun o z => pushCells_keeps _ _ _ _ (Heap.get?_push_of_some _ z)
  generalize eg4 : pushCells (g3.push { cls := .type "dict", data := .dict #[] }) scope.names = g4 at I4 it4 ⊢
  -- what stays true through the turns
  have hotB : ∀ {σ5 : L2.St} {H5 : Hp} {s5 : Shared}, L2.Inv B [] σ5 H5 s5 → HotX.HotAt X.A px.1 s5.heap := fun I5 =>
    ⟨hh, px.2, v1, I5.base.keep px.1 px.2 pin3.1 pin3.2.1 (fun z => (List.mem_cons.mp (I3.stkSub _ z)).elim pin3.2.2.1 pin3.2.2.2.1) (fun z => f3.2.2.2.2.2 px (List.mem_append_left _ hpx) (List.mem_singleton.mp z)), d1, c1⟩
  have fB : ∀ {σ5 : L2.St} {H5 : Hp} {s5 : Shared}, L2.Inv B [] σ5 H5 s5 → H5 it = none → FpOk B [] H5 it := fun I5 n =>
    ⟨n, (I5.ok.exf it List.mem_cons_self).1, I5.ok.exfs it List.mem_cons_self, .inl List.mem_cons_self, fun x c z => (I5.ok.exf it List.mem_cons_self).2 x c z, fun p hp => absurd (show p ∈ ([] : List (Addr × Obj)) ++ [] from hp) (by simp)⟩
  have loop : codeAny (model X.prog X.w) X.A (.compLoop (.ListComp elt [⟨tg, l, [], 0⟩] scope pos) 0 (.ref it) (.ref D) ce) (compPost (model X.prog X.w) X.A X.xe none (EP X pins σ Q) (.ref D) g3.objs.size) { s1 with heap := g4 } := by
    refine compLoop_any (fun n s' => ∃ i H', L2.Inv B [] (wipe σ (own.map (·.2))) H' s' ∧ s'.heap.IsListIter it a i ∧ H' it = none ∧ W i n H') ?_ m0 ⟨0, H3, I4, it4, f3.1, w0⟩
    rintro n s5 ⟨i, H5, I5, st5, n5, w5⟩
    have F5 := fB I5 n5
    rcases turn i n H5 w5 with ⟨⟨ys, hq5, hi5⟩, qq⟩ | ⟨⟨ys, y, hq5, hy5⟩, Nx, hNx, step⟩
    · obtain ⟨its5, rv5, pl5, _⟩ := I5.list hq5
      have lv := rv5.length
      refine next_end_hot (hotB I5) (f3.2.2.2.2.2 px (List.mem_append_left _ hpx)) st5 pl5.isList (by simp; omega) fun h6 k6 => ?_
      have I6 : L2.Inv B [] (wipe σ (own.map (·.2))) H5 { s5 with heap := h6 } := I5.turned (t' := s5.toks) k6 F5.1 F5.2.1 F5.2.2.2.1 F5.2.2.2.2.1 F5.2.2.2.2.2
      have I7 : L2.Inv X pins σ H5 { s5 with heap := h6 } := I3.call' (ch := [it]) I6.os I6.base I6.hok I6.bare fun b hb => by
        rw [List.mem_singleton.mp hb]
        exact ⟨f3.2.2.2.1, f3.2.1, f3.2.2.2.2.1, f3.2.2.2.2.2⟩
      have nC : H5 g3.objs.size = none := by rw [← cL]; exact I6.free
      obtain ⟨m, hn, _⟩ := I6.loc
      have hn : h6.Ns ce.locals m := hn
      rw [cL] at hn
      have FC := I3.fpOk (H' := H5) (b := g3.objs.size) (Nat.le_refl _) nC
      exact ⟨m, hn, fun h7 sb => ⟨.ref D, H5, I7.turned (t' := s5.toks) (fun b o hb z => (sb.2 b hb).trans z) FC.1 FC.2.1 FC.2.2.2.1 FC.2.2.2.2.1 FC.2.2.2.2.2, rfl, qq⟩⟩
    · obtain ⟨its5, rv5, pl5, _⟩ := I5.list hq5
      obtain ⟨u, hu, ru⟩ := rv5.get hy5
      refine wpAny_pyNext_list_item st5 pl5.isList (x := u) (by simpa using hu) fun h6 st6 sb6 => ?_
      have I6 : L2.Inv B [] (wipe σ (own.map (·.2))) H5 { s5 with heap := h6 } := I5.turned (t' := s5.toks) (fun b o hb z => (sb6.2 b hb).trans z) F5.1 F5.2.1 F5.2.2.2.1 F5.2.2.2.2.1 F5.2.2.2.2.2
      obtain ⟨oi, g6, c6, d6⟩ := id st6
      refine go_of (s := { s5 with heap := h6 }) g6 c6 d6 (by decide) ?_
      have I6' := I6.pinned (fp := [it]) (fun b hb => by rw [List.mem_singleton.mp hb]; exact fB I6 n5) fun b hb => by rw [List.mem_singleton.mp hb]; exact ⟨oi, g6, fun v z => by rw [d6] at z; cases z⟩
      refine thnF (pg.run _ _ _ H5 y u _ I6' ru (step y H5 ⟨rfl, fun zs hz => by rw [I5.list_inj hz hq5]; exact hy5⟩)) fun _ s8 ⟨σ8, H8, I8, hw8, q8⟩ => ?_
      refine wpAny_tests_nil ?_
      simp only [if_true]
      have q8 : te σ8 H8 _ := q8
      refine thnF (pe.run _ s8 σ8 H8 _ I8 q8) fun w8 s9 ⟨yv, H9, I9, r9, acc, hD9, hz9, nx⟩ => ?_
      refine app_ok (X := B) I9 hD9 hz9 r9 fun s10 I10 => ?_
      obtain ⟨m', hm, w'⟩ := hNx _ nx
      have pi := I10.pin (it, oi) (List.mem_append_right _ (List.mem_append_right _ (mem_pinsAt List.mem_cons_self g6)))
      exact ⟨m', hm, i + 1, _, (I10.unpinned (pins := [])).weak (by rw [← hw8, wipe_length]) (fun j v z => by rw [← hw8] at z; exact (wipe_some z).1), ⟨oi, pi.1, c6, d6⟩, pi.2.1, w'⟩
  exact codeAny_compStart_list loop (wpAny_pyIter_listiter it4 loop)
theorem q_lcH {elt tg l : Expr} {scope : Scope} {own : List (Str × Nat)} {pos : Pos} {tl te : TE} {g : TG} (hc : L2H.HotC X) (hN : X.N.Nodup) (hl : PE X l tl) (ok : BlkOk X.N X.env.scope scope own)
    (hg : ∀ (s : Shared) (H : Hp) (C : Addr) (cl : List (Str × Addr)) (fp : List Addr), PG (X.blk s H scope (compEnvC scope cl C X.env) fp) tg g) (he : ∀ (s : Shared) (H : Hp) (C : Addr) (cl : List (Str × Addr)) (fp : List Addr), PE (X.blk s H scope (compEnvC scope cl C X.env) fp) elt te)
    (hs : ∀ x, foldedSetIterable l X.env x = pure x := by intro _; rfl) : PE X (.ListComp elt [⟨tg, l, [], 0⟩] scope pos) (vLc (viList X.K tl) g tYes te (own.map (·.2))) :=
  im_pe (pe_lcH hc hN (up_pe hl) ok (fun s H C cl fp => up_pg (hg s H C cl fp)) (fun s H C cl fp => up_pe (he s H C cl fp)) hs) fun σ H Q h => ⟨_, h, fun x H1 z => by
    obtain ⟨a, e, z1⟩ := refR_el z
    obtain ⟨xs, e2, z2⟩ := lstO_el z1
    refine ⟨a, e, ⟨xs, SqL.of e2⟩, fun D hD => ?_⟩
    obtain ⟨n, G, Y, Pv, w, h0, hG, hs, hd⟩ := z2 D hD
    refine lc_it w Pv h0 hG (fun i x H H' hi p y => ⟨_, hs i x H H' hi p y, fun σ2 H2 q => ⟨q.1, ?_⟩⟩) hd
    have q2 := q.2
    simp only [tYes, if_true] at q2 ⊢
    exact ⟨_, q2, fun y H4 q4 => by
      obtain ⟨acc, e, z⟩ := lstO_el q4
      exact ⟨acc, e, z.1, z.2⟩⟩⟩
end
end OA

namespace OA
open PySem PySem.Spec PyProof.Rows L2
local macro_rules
  | `(tactic| push_cast only [$a,*]) => `(tactic| simp -implicitDefEqProofs only [Int.toNat_natCast, List.cons.injEq, W.sh.injEq, D.int.injEq, D.str.injEq, D.bl.injEq, D.tup.injEq, D.lst.injEq, W.pt.injEq, and_assoc, exists_eq_left', exists_eq_left, exists_and_left, true_implies, dIsi, tn_n, tn_b, tn_i, tn_s, tn_t, tn_nt, tn_l, kr_NoneType_bool, kr_NoneType_int, kr_NoneType_str, kr_NoneType_list, kr_NoneType_tuple, kr_NoneType_dict, kr_bool_bool, kr_bool_int, kr_bool_str, kr_bool_list, kr_bool_tuple, kr_bool_dict, kr_int_bool, kr_int_int, kr_int_str, kr_int_list, kr_int_tuple, kr_int_dict, kr_str_bool, kr_str_int, kr_str_str, kr_str_list, kr_str_tuple, kr_str_dict, kr_list_bool, kr_list_int, kr_list_str, kr_list_list, kr_list_tuple, kr_list_dict, kr_tuple_bool, kr_tuple_int, kr_tuple_str, kr_tuple_list, kr_tuple_tuple, kr_tuple_dict, kr_dict_bool, kr_dict_int, kr_dict_str, kr_dict_list, kr_dict_tuple, kr_dict_dict, dVar, dC_n, dC_b, dC_i, dC_s, dC_t, dC_r, dOp, dUn, dNil, dCons, dStar, dStarT, dTup, dLst, dLstO, dAnd, dOr, dNot, dIf, dTest, dYes, dChain, dCall, dNext, dCut, dSeq, dDrop, dRet, dRetN, dIfS, dName, sgnil_e, sgcons_e, dGtup, dAsg, dAug, dWhile, dFor, dLc, dLcO, dLc2, dDc, dI0, dIC, dEq, dIsN, isNonW, noPy, dAddS, dMulS, dCat, dCatT, dInT, dInLI, dInTI, dInS, dIxL, dIxT, dIxS, dNeg, dNoPart, dPart, dSl, dSlL, dSlT, dSlS, dRev, dDGet, dDIn, dDNew, dDNewS, dsDPut, dgSub, dSetL, isLW, dLM, dLM0, dAppend, dPopAt, dExtend, dPop, dLen, dTupL, dLstL, dAbs, dIntB, dMin2, dMax2, dMaxL, dCKw, dMaxT, dFn, dList, dTupI, dStrI, dR1, dR2, dEnum, dTAnd, dTOr, dTNot, varR_e, intW_e, blW_e, strW_e, shW_e, tyW_e, tupW_e, tupW_n, tup0W_e, lookL_e, lookD_e, lookR_e, lookR_l, seqW_e, seqW_p, dicW_e, dicW_p, ownL_p, ownD_p, keyW_i, keyW_s, one1W_e, two2W_e, shsW_nil, shsW_cons, shsW_app, shsW_map, intsD_nil, intsD_cons, intsD_map, strsD_map, cWR_n, cWR_b, cWR_i, cWR_s, flW_n, flW_b, flW_i, flW_s, fls_nil, fls_n, fls_b, fls_i, fls_s, lenW_l, lenW_d, lenW_t, lenW_n, lenW_s, lenW_p, lenO'_l, lenO'_d, atR_0, atR_1, atR_2, atR_3, atR_4, lenOk_0, lenOk_1, lenOk_2, lenOk_3, lenOk_4, lenOk_5, look_hd, put_c, put_n, notins_nil, startG, scal, List.map, List.replicate, List.length_cons, List.length_nil, List.cons_append, List.nil_append, List.append_nil, List.getElem?_cons_zero, List.getElem?_cons_succ, List.set_cons_zero, List.set_cons_succ, wipeG, true_and, and_true, if_true, if_false, decide_eq_true_eq, reduceCtorEq, reduceIte, Bool.false_eq_true, decide_true, decide_false, Bool.true_and, Bool.false_and, Bool.and_true, Bool.and_false, Bool.not_true, Bool.not_false, V.int.injEq, V.str.injEq, V.bl.injEq, Nat.reduceAdd, Nat.reduceSub, Nat.reduceLT, Int.reduceEq, Int.reduceLT, Int.reduceLE, Int.reduceAdd, Int.reduceSub, Int.cast_ofNat_Int, dForK, dDcO, dLstVals, dEqLI, dDictO, dSortP, dEqP, pdW_s, pdW_p, dSortI, dInsert0, dCatO, dLcK, $a,*])
  | `(tactic| push_cast [$a,*]) => `(tactic| ((repeat refine LaterD.mk ?_); push_cast only [$a,*]; repeat ((refine LaterD.mk ?_); (repeat refine LaterD.mk ?_); push_cast only [$a,*])))
/-! _law_is: called in an except suite -/
theorem _root_.L2H.RoomH.units {k : Nat} {A : Around} (r : L2H.RoomH k A) : A.units + 64 < cLine := by
  have := r.un
  omega
def X5.nm : X5 → Str
  | .num => "number"
  | .rule => "rule"
  | .wakes => "wakes"
  | .plan => "plan"
  | .txt => "text"
section
variable {CX : CXT} {P : Program} {w : World} {K : PySem.W.Frag} {mg : Str → Option Value} {base : Heap} {N : List Str} {qual : Str} {scope : Scope} {f : Addr} {cd : Value} {A : Around} {outer : List Env} {s : Shared} {H : Hp} {E : XK} {p : Addr × Obj}
theorem cxh_K : (L2H.cxH CX P w K mg base N qual scope f cd A outer s H E p).K = K := rfl
theorem cxh_prog : (L2H.cxH CX P w K mg base N qual scope f cd A outer s H E p).prog = P := rfl
theorem cxh_w : (L2H.cxH CX P w K mg base N qual scope f cd A outer s H E p).w = w := rfl
end
def wds : List Str := ["number", "rule", "wakes", "plan", "text"]
section
variable {P : Program} {w : World} {K : PySem.W.Frag} {mg : Str → Option Value} {base : Heap} {A : Ad} {Z : XA}
theorem sc__law_is : FnScope ["_law_e", "_law_word", "_law_kinds", "_law_words", "_law_one"] ["_law_e", "_law_word"] (defScope s__law_is) := ⟨rfl, rfl, rfl, by decide +kernel, rfl, by decide +kernel, by decide +kernel⟩
theorem law_is_run (T : Txt K mg base A) (TX : XTxt P K mg Z) (F : XCls K Z) {Ar : Around} {outer : List Env} {s : Shared} {H : Hp} {a : Addr} {oe : Obj} {d : Option Addr} {x y : X5} {us : List Value} {Q : VK} (hr : L2H.RoomH 3 Ar) (hot : L2H.Hot1 Ar (a, oe)) (hpin : L2H.PinOk outer H s (a, oe))
    (e0 : Env0 P w K mg base Ar outer s H) (hz : Zc (.ref (Z.cl x)) d oe) (hf : ∃ vs, oe.data = .fields vs) (hdd : ∀ dd, d = some dd → ∃ od, s.heap.get? dd = some od) (r : Vals [.ref a, .str y.nm] us) (k : ∀ H', Same H H' → Q (.bl (decide (x = y))) H') :
    codeAny (model P w) Ar (.call (.ref A._law_is) ⟨us, []⟩) (CR CX0 outer P w H s Q E0) s := by
  have kin : K.In s.heap := e0.mod.kin.keeps fun b o z => (e0.bs b o z).1
  have hlen : us.length = 2 := (Paired.length r).symm
  have hb := T.b__law_is s us kin (by rw [List.append_nil, hlen]; rfl)
  rw [List.append_nil] at hb
  refine fn_runE (k := 2) T.F__law_is sc__law_is hr hpin e0 hb r rfl fun cdv hr => ?_
  have ek : EKnow (L2H.cxH CX0 P w K mg base ["_law_e", "_law_word", "_law_kinds", "_law_words", "_law_one"] "_law_is" (defScope s__law_is) A._law_is cdv Ar outer s H E0 (a, oe)) a oe d :=
    ⟨fun pins σ H s I => (I.pin (a, oe) List.mem_cons_self).1, fun pins σ H s1 dd e I => by
      obtain ⟨od, ho⟩ := hdd dd e
      exact I.base.there dd od ho (fun z => nomatch z)⟩
  have hc : L2H.HotC (L2H.cxH CX0 P w K mg base ["_law_e", "_law_word", "_law_kinds", "_law_words", "_law_one"] "_law_is" (defScope s__law_is) A._law_is cdv Ar outer s H E0 (a, oe)) := ⟨(a, oe), hot, List.mem_cons_self⟩
  have h : spD K am0 (fun ws Q => ws = [.pt a, .sh (.str y.nm)] ∧ Q (.sh (.bl (decide (x = y)))) []) [.ref a, .str y.nm] H Q E0 := by
    refine ⟨fun _ => False, _, fun w Ω => w = .sh (.bl (decide (x = y))) ∧ Ω = [], fun _ z => z.elim, fun _ z => z.elim, True.intro, ?_, ⟨rfl, rfl, rfl⟩, fun v H' w Ωn q hw _ _ _ fr _ => ?_⟩
    · exact ⟨_, _, rfl, rfl, _, _, rfl, rfl, rfl⟩
    · obtain ⟨rfl, rfl⟩ := q
      obtain rfl : v = _ := hw
      exact k H' fun b o z => fr b o (fun z => z) z
  refine spD_run (td := ?td) h (qs_cons (ps_set (i := 2) sc__law_is.nd rfl (Or.inl rfl) (q_own (pe_lst (pa_cons (pe_callB (c_isX F ek hz hf) (by rfl) T.m_isinstance (by decide +kernel) (pa_cons (qv 0) (pa_cons (q_gr rfl TX.g_BadNumber) pa_nil))) (pa_cons (pe_callB (c_isX F ek hz hf) (by rfl) T.m_isinstance (by decide +kernel) (pa_cons (qv 0) (pa_cons (q_gr rfl TX.g_BadRule) pa_nil))) (pa_cons (pe_callB (c_isX F ek hz hf) (by rfl) T.m_isinstance (by decide +kernel) (pa_cons (qv 0) (pa_cons (q_gr rfl TX.g_BadWakes) pa_nil))) (pa_cons (pe_callB (c_isX F ek hz hf) (by rfl) T.m_isinstance (by decide +kernel) (pa_cons (qv 0) (pa_cons (q_gr rfl TX.g_BadPlan) pa_nil))) pa_nil)))))))
    (qs_cons (ps_expr (lm1 PySem.F.slot_list_append PySem.F.type_list_append m_append (qv 2) (pa_cons (pe_callB (c_isX F ek hz hf) (by rfl) T.m_isinstance (by decide +kernel) (pa_cons (qv 0) (pa_cons (q_gr rfl TX.g_BadText) pa_nil))) pa_nil)))
    (qs_cons (ps_set (i := 3) sc__law_is.nd rfl (Or.inl rfl) (pe_lst (pa_cons pe_str (pa_cons pe_str (pa_cons pe_str (pa_cons pe_str (pa_cons pe_str pa_nil)))))))
    (pss_one (ps_ret (q_and (pe_callB (c_isX F ek hz hf) (by rfl) T.m_isinstance (by decide +kernel) (pa_cons (qv 0) (pa_cons (pe_bltn (v := .ty "ValueError") (by rfl) T.m_ValueError (by decide +kernel) rfl) pa_nil))) (pe_one (pe_cmpR (op_eqD (X := _) hr.units) (qv 2) (q_lcH (own := [("_law_one", 4)]) (g := gName 4) hc sc__law_is.nd (qv 3) (blkOk_by (own := [("_law_one", 4)]) (N := ["_law_e", "_law_word", "_law_kinds", "_law_words", "_law_one"]) (sc := defScope s__law_is) (by decide +kernel)) (fun _ _ _ _ _ => (pg_name (i := 4) sc__law_is.nd rfl (Or.inl rfl))) (fun _ _ _ _ _ => (pe_cmpR op_eq (qv 1) (qv 4) (nomark _)))) (nomark _))))))))) ?hs ?hD
  case hs => (try simp only [cxh_K, cxh_prog, cxh_w, blkK]); exact inferInstance
  rintro ws Qd ⟨rfl, hq⟩
  push_cast [dIsX, or_false, false_or, false_and]
  refine ⟨.num, rfl, .rule, rfl, .wakes, rfl, .plan, rfl, fun p hp => ?_⟩
  push_cast [dIsX, or_false, false_or, false_and]
  refine ⟨.txt, rfl, ?_⟩
  push_cast [dIsX, or_false, false_or, false_and]
  refine ⟨by show 4 < sizeLine; rw [sizeLine_eq]; decide, ?_⟩
  push_cast [dIsX, or_false, false_or, false_and]
  have e0 : [W.sh (D.str (Str.ofString "number")), W.sh (D.str (Str.ofString "rule")), W.sh (D.str (Str.ofString "wakes")), W.sh (D.str (Str.ofString "plan")), W.sh (D.str (Str.ofString "text"))] = wds.map fun t => W.sh (.str t) := rfl
  rw [e0]
  refine .inr ⟨fun _ h => h, _, dLcP_map (D0 := wds) (f := fun t => W.sh (.str t)) (G := fun t => W.sh (.bl (decide (y.nm = t)))) (by decide) (fun t ht acc q Pn hn0 ll k1 => ?_), fun acc hacc => ?_⟩
  · push_cast []
    exact ⟨ll, k1⟩
  · subst hacc
    show shsW [W.sh (.bl (decide (y.nm = "number"))), W.sh (.bl (decide (y.nm = "rule"))), W.sh (.bl (decide (y.nm = "wakes"))), W.sh (.bl (decide (y.nm = "plan"))), W.sh (.bl (decide (y.nm = "text")))] _
    push_cast []
    refine ⟨rfl, by cases x <;> decide +kernel, rfl, by cases x <;> cases y <;> decide +kernel, ?_⟩
    refine RtD.sh ?_
    have e : ((PyData.list (pdL [D.bl (decide (x = X5.num)), D.bl (decide (x = X5.rule)), D.bl (decide (x = X5.wakes)), D.bl (decide (x = X5.plan)), D.bl (decide (x = X5.txt))])).eqv (pdD (D.lst [D.bl (decide (y.nm = Str.ofString "number")), D.bl (decide (y.nm = Str.ofString "rule")), D.bl (decide (y.nm = Str.ofString "wakes")), D.bl (decide (y.nm = Str.ofString "plan")), D.bl (decide (y.nm = Str.ofString "text"))]))) = decide (x = y) := by
      cases x <;> cases y <;> decide +kernel
    rw [e]
    exact hq
end
end OA

namespace OA
open PySem PySem.Spec PyProof.Rows L2 LamX
/-! a lambda without parameters, called by the def that got it; a refusal may leave it -/
section
variable {X : Cx} {pins : List (Addr × Obj)} {σ : L2.St} {H : Hp} {s : Shared}
/-- the context of a lambda's body, made within X, entered at s from the frames outer -/
def lamN (X : Cx) (A : Around) (outer : List Env) (s : Shared) (H : Hp) (E : XK) (scope : Scope) (f c' : Addr) : Cx :=
  (lamCx X A outer s H E scope f c').wish fun e s' => wpAny (model X.prog X.w) (A.deeper (lamEnv X scope s.heap.objs.size f c')) (leaving (lamEnv X scope s.heap.objs.size f c') e) (fun _ z => L2N.CX X.prog X.w outer H s E e z) (fun e' z => L2N.CX X.prog X.w outer H s E e' z) s'
theorem lamN_pass {A : Around} {outer : List Env} {E : XK} {scope : Scope} {f c' : Addr} : Passes (CXN X.prog X.w) (lamN X A outer s H E scope f c') E := L2N.passes_call (L2N.takes_of (X := lamN X A outer s H E scope f c') rfl rfl rfl rfl) fun _ _ _ _ h => h
theorem lamN_passP {P : Program} {w : World} {A : Around} {outer : List Env} {E : XK} {scope : Scope} {f c' : Addr} (hP : X.prog = P := by rfl) (hw : X.w = w := by rfl) : Passes (CXN P w) (lamN X A outer s H E scope f c') E := by
  subst hP hw
  exact lamN_pass
/-- what a lambda's call asks: the lambda is at slot i, its code object is known; what is wanted of a refusal may hang on the state -/
def tAct (i : Nat) (f c' : Addr) (q : Str) (tl : XK → Hp → VK → Prop) (W : WX) : TE := fun σ H Q => σ[i]? = some (some (.ref f)) ∧ H c' = some (CodeO c' q) ∧ ∃ E : XK, (∀ cls d H', E cls d H' → W cls d σ H') ∧ tl E H Q
theorem pe_actN {Eg : XK} {CXg : CXT} {Ng : List Str} {qg : Str} {sg : Scope} {g f c' : Addr} {cdg pm ctv : Value} {params : Arguments} {body : Expr} {scope : Scope} {k i : Nat} {a : Str} {pn : List (Addr × Obj)} {xe : Value → Shared → Prop} {W : WX} {tb : XK → TE} {p1 p2 : Pos}
    (I : L2.Inv X pins σ H s) (L : LamS X.env.scope scope) (hf : s.heap.get? f = some (PySem.W.kla_obj "<lambda>" (X.env.qual ++ "<lambda>") params body scope (cloFrom X.env.cells scope.names []) pm c' ctv)) (hfn : H f = none) (hfr : f ∉ frs X.stack)
    (hbind : bindArgs (PySem.W.kla_fn "<lambda>" (X.env.qual ++ "<lambda>") params body scope (cloFrom X.env.cells scope.names []) pm (.ref c') ctv) ⟨[], []⟩ = pure [])
    (tk : L2N.Takes ((cxOf CXg X.prog X.w X.K X.mg X.base Ng qg sg g cdg X.A X.stack s H Eg).tr pn xe) W) (hr : Room (k + 1) (X.A.deeper (envOfC qg sg s.heap.objs.size g cdg)))
    (hbody : ∀ (A : Around) (outer : List Env) (s : Shared) (H : Hp) (E : XK), Room k (A.deeper (lamEnv X scope s.heap.objs.size f c')) → PE (lamN X A outer s H E scope f c') body (tb E)) (hN : Ng[i]? = some a) (hv : Vis sg a) (hd : (a == ("__debug__" : Str)) = false := by decide) (hcd : (a == ("__classdict__" : Str)) = false := by decide) :
    PE ((cxOf CXg X.prog X.w X.K X.mg X.base Ng qg sg g cdg X.A X.stack s H Eg).tr pn xe) (.Call (.Name a p1) [] [] p2) (tAct i f c' (X.env.qual ++ "<lambda>") (fun E H' Q' => tb E σ H' Q') W) := by
  constructor
  intro pinsZ sZ σZ HZ Q IZ ⟨hs, hc, E, hE, ht⟩
  have nm := (pe_var (X := (cxOf CXg X.prog X.w X.K X.mg X.base Ng qg sg g cdg X.A X.stack s H Eg).tr pn xe) (pos := p1) (i := i) hN hv hd hcd).run pinsZ sZ σZ HZ (fun v H1 => v = .ref f ∧ H1 = HZ) IZ ⟨.ref f, hs, rfl, rfl⟩
  refine wpAny_Call_Name_kw (thn nm fun u s1 ⟨v, H1, I1, r1, ev, eH⟩ => ?_)
  subst ev eH
  obtain rfl : u = Value.ref f := r1
  have ob := I1.base.keep f _ hf hfn hfr (fun z => nomatch (show f ∈ ([] : List Addr) from z))
  have un : Un (frs X.stack) [] H H1 s.heap s1.heap := I1.base
  obtain ⟨⟨oc, vs, t, g1, g2, g3⟩, _, _⟩ := I1.hok c' _ hc
  refine PySem.W.callWith_F0 ⟨_, _, _, _, ob⟩ (wpAny_call (codeAny_mono (R := CR (L2N.CX X.prog X.w) (envOfC qg sg s.heap.objs.size g cdg :: X.stack) X.prog X.w H1 s1 Q E) (PySem.W.kla_callFunE hr.depth ob rfl L.co L.gen rfl ⟨c', oc, vs, t, rfl, g1, g2, g3⟩ ?_) fun r s2 hq => ?_))
  · rw [show bindArgs _ ⟨([] : List Value) ++ [], []⟩ = pure [] from hbind]
    refine wpAny_pure (wpAny_newFunctionEnv (fun y hy => (L.own y hy).2) (fun y hy => absurd hy (by simp)) (fun h₁ hns hsb => ⟨I1.nolimit.fresh _ hsb, PySem.W.kla_codeExpr ?_⟩) L.kind)
    have kp : ∀ b o, s1.heap.get? b = some o → h₁.get? b = some o := fun b o z => hsb.extBut b o (Nat.ne_of_lt (Heap.lt_size z)) (Heap.get?_push_of_some _ z)
    have J := (lam_start2 (A := X.A.deeper (envOfC qg sg s.heap.objs.size g cdg)) (outer := envOfC qg sg s.heap.objs.size g cdg :: X.stack) (E := E) (f := f) (c' := c') (tk := s1.toks + ([] : List (Str × Value)).length) I L I1.env0 hr.hd un hns kp).wish
      (fun e s' => wpAny (model X.prog X.w) ((X.A.deeper (envOfC qg sg s.heap.objs.size g cdg)).deeper (lamEnv X scope s1.heap.objs.size f c')) (leaving (lamEnv X scope s1.heap.objs.size f c') e) (fun _ z => L2N.CX X.prog X.w (envOfC qg sg s.heap.objs.size g cdg :: X.stack) H1 s1 E e z) (fun e' z => L2N.CX X.prog X.w (envOfC qg sg s.heap.objs.size g cdg :: X.stack) H1 s1 E e' z) s')
    exact wpAny_mono ((hbody _ _ s1 H1 E (hr.deeper _)).run [] _ _ H1 Q J ht) (fun v z ⟨w', H', J', rv, q⟩ => ⟨w', H', J'.os, J'.bare, J'.base, J'.hok, rv, q⟩) fun _ _ z => z
  · match r, hq with
    | .error e, hq => exact tk e s2 (L2N.XE.of_call I1 (fun cls d H' z => hE cls d H' z) hq)
    | .ok (.ret u), hq => exact I1.after hq
    | .ok .next, hq => exact hq.elim
    | .ok .brk, hq => exact hq.elim
    | .ok .cont, hq => exact hq.elim
theorem lamN_K {A : Around} {outer : List Env} {E : XK} {scope : Scope} {f c' : Addr} : (lamN X A outer s H E scope f c').K = X.K := rfl
theorem lamN_prog {A : Around} {outer : List Env} {E : XK} {scope : Scope} {f c' : Addr} : (lamN X A outer s H E scope f c').prog = X.prog := rfl
theorem lamN_w {A : Around} {outer : List Env} {E : XK} {scope : Scope} {f c' : Addr} : (lamN X A outer s H E scope f c').w = X.w := rfl
end
end OA

namespace OA
open PySem PySem.Spec PyProof.Rows L2
/-! a refusal that is caught -/
theorem takesN0 {X : Cx} : L2N.Takes X (fun _ _ _ _ => False) := fun _ _ ⟨_, _, _, _, _, _, _, _, _, _, _, _, _, _, _, _, z⟩ => z.elim
section
variable {X : Cx} {W : WX} {k : Nat} {f : Addr} {fd : FuncData} {ps : List Str} {sp : Sp} {x : Str} {p pos : Pos} {e : Expr} {es : List Expr} {t : TA}
/-- f(..) that may refuse, within a try: what is wanted of the refusal hangs on the state -/
def vCallT (sp : Sp) (t : TA) (W : WX) : TE := fun σ H Q => t σ H fun vs H1 => ∃ E : XK, (∀ cls d H', E cls d H' → W cls d σ H') ∧ sp vs H1 Q E
theorem q_callT (F : FnOk X.prog X.w X.K X.mg X.base (CXN X.prog X.w) k f fd ps sp) (hr : Room k X.A) (hg : Gl X x) (hm : X.mg x = some (.ref f)) (hk : PySem.W.keepIn X.K (.ref f) = true) (hb : Binds X.K fd ps []) (tk : L2N.Takes X W)
    (ha : PA X (e :: es) t) (hdb : (x == ("__debug__" : Str)) = false := by decide) (he : starEach (e :: es) X.env = (false, eval e X.env) :: starEach es X.env := by rfl) (hpl : (backTo pos (starEach es X.env)).any (·.1) = false := by rfl) :
    PE X (.Call (.Name x p) (e :: es) [] pos) (vCallT sp t W) := ⟨fun pins s σ H Q I h => by
  refine wpAny_Call_Name_kw (ld_glob I hg hm (PySem.W.callWith_K (h₀ := X.base) I.ok.mod.kin hk (thn (ha.run pos pins s σ H _ I h) fun us s1 ⟨vs, H1, I1, r, E, hE, q⟩ => ⟨I1.kIn, ?_⟩) he hpl) hdb)
  have n : us.length = ps.length := by rw [← r.length]; exact F.len _ _ _ _ q
  have b := hb s1 us I1.kIn (by rw [List.append_nil]; exact n)
  rw [List.append_nil] at b
  refine wpAny_call (codeAny_mono (F.run X.A X.stack s1 H1 ⟨us, []⟩ us vs Q E hr I1.env0 b r q) fun r s' hq => ?_)
  match r, hq with
  | .error u, hq => exact tk u s' (L2N.XE.of_call I1 (fun cls d H' z => hE cls d H' z) hq)
  | .ok (.ret u), hq => exact I1.after hq
  | .ok .next, hq => exact hq.elim
  | .ok .brk, hq => exact hq.elim
  | .ok .cont, hq => exact hq.elim⟩
end
/-- _law_is in the suite -/
def vLawIs (Z : XA) (a : Addr) (cls : Value) (d : Option Addr) (t : TA) : TE := fun σ H Q => t σ H fun vs H1 => ∃ x y : X5, cls = .ref (Z.cl x) ∧ vs = [.ref a, .str y.nm] ∧ (∀ dd, d = some dd → ∃ fs, H1 dd = some (.xd fs)) ∧ ∀ H', Same H1 H' → Q (.bl (decide (x = y))) H'
section
variable {X : Cx} {A : Ad} {Z : XA} {a : Addr} {oe : Obj} {cls : Value} {d : Option Addr} {pn : List (Addr × Obj)} {p pos : Pos} {e : Expr} {es : List Expr} {t : TA}
theorem pe_lawis (T : Txt X.K X.mg X.base A) (TX : XTxt X.prog X.K X.mg Z) (F : XCls X.K Z) (hr : Room 3 X.A) (hz : L2N.Zn cls d oe) (hf : ∃ vs, oe.data = .fields vs) (hg : Gl (X.suite a ((a, oe) :: pn)) "_law_is")
    (ha : PA (X.suite a ((a, oe) :: pn)) (e :: es) t) (he : starEach (e :: es) X.env = (false, eval e X.env) :: starEach es X.env := by rfl) (hpl : (backTo pos (starEach es X.env)).any (·.1) = false := by rfl) :
    PE (X.suite a ((a, oe) :: pn)) (.Call (.Name "_law_is" p) (e :: es) [] pos) (vLawIs Z a cls d t) := ⟨fun pins s σ H Q I h => by
  refine wpAny_Call_Name_kw (ld_glob I hg T.g__law_is (PySem.W.callWith_K (h₀ := X.base) I.ok.mod.kin T.k__law_is (thn (ha.run pos pins s σ H _ I h) fun us s1 ⟨vs, H1, I1, r, x, y, ec, ev, hd, q⟩ => ⟨I1.kIn, ?_⟩) he hpl) (by decide))
  subst ev
  subst ec
  have P1 := I1.pin (a, oe) (List.mem_append_left _ List.mem_cons_self)
  have hpin : L2H.PinOk X.stack H1 s1 (a, oe) := ⟨P1.1, P1.2.1, fun hm => (List.mem_cons.mp (I1.stkSub a hm)).elim P1.2.2.1 P1.2.2.2.1, P1.2.2.2.2⟩
  have hot : L2H.Hot1 (X.suite a ((a, oe) :: pn)).A (a, oe) := ⟨rfl, by
    obtain ⟨vs, ef⟩ := hf
    exact ⟨vs, ef, hz.2.2 vs ef⟩⟩
  refine wpAny_call (codeAny_mono (law_is_run T TX F (L2H.roomH_mark hr _) hot hpin I1.env0 hz.zc hf (fun dd ed => by
    obtain ⟨fs, ef⟩ := hd dd ed
    have ok := I1.hok dd _ ef
    obtain ⟨mA, hns, hr2⟩ := ok
    obtain ⟨od, ho, hl⟩ := lookIn_ns hns
    exact ⟨od, ho⟩) r q) fun r s' hq => ?_)
  match r, hq with
  | .error u, hq => exact hq.elim
  | .ok (.ret u), hq => exact I1.after hq
  | .ok .next, hq => exact hq.elim
  | .ok .brk, hq => exact hq.elim
  | .ok .cont, hq => exact hq.elim⟩
end
def tnm : X5 → Str
  | .txt => "text"
  | .rule => "rule"
  | _ => "other"
theorem XAt.dd {Z : XA} {H : Hp} {x : XD} {cls : Value} {d : Option Addr} (h : XAt Z H x cls d) : ∀ dd, d = some dd → ∃ fs, H dd = some (.xd fs) := fun dd e => by
  cases x with
  | num => rw [h.2] at e; cases e
  | txt => rw [h.2] at e; cases e
  | rule s =>
    obtain ⟨_, b, e2, e3⟩ := h
    rw [e2] at e
    cases e
    exact ⟨_, e3⟩
  | wakes n =>
    obtain ⟨_, b, e2, e3⟩ := h
    rw [e2] at e
    cases e
    exact ⟨_, e3⟩
  | plan s =>
    obtain ⟨_, b, e2, e3⟩ := h
    rw [e2] at e
    cases e
    exact ⟨_, e3⟩
section
variable {K : PySem.W.Frag} {Z : XA} {am : Am}
def dTold (i : Nat) (f : XD → Str) (sp : DXSp) (das : DA) (N : DN) (Γ : Gm) (Ω : Om) : Prop := i < Γ.length ∧ dCallX sp das Γ Ω N.rt fun x Ω' => N.rt (.sh (.str (f x))) Ω'
/-- try: return f(..) / except AirError as e: a word of the refusal's class -/
theorem s_told (F : XCls K Z) {a : Am} {i : Nat} {f : XD → Str} {ts : Addr → Value → Option Addr → TS} {sp : DXSp} {tas : TA} {das : DA} [le : AmLe a am] [s1 : SA K am tas das]
    (hsu : ∀ (b : Addr) (cls : Value) (d : Option Addr) (x : XD) (D : Ends) (σ : L2.St) (H : Hp), σ[i]? = some (some (.ref b)) → XAt Z H x cls d → (∀ H', Same H H' → D.rt (.str (f x)) H') → ts b cls d D σ H) :
    SS K am (fun D σ H => tRet (vCallT (spX K Z a sp) tas (wAs K (.ref Z.c_AirError) i ts (fun _ _ _ _ => False) D)) D σ H) (dTold i f sp das) := ⟨fun {c T σ Γ Ω H D N} e h o => by
  obtain ⟨hi, h⟩ := h
  refine s1.run e h fun vs ws Ω1 H1 h1 e1 hv => ⟨fun cls d H' => ∃ x, XAt Z H' x cls d ∧ N.rt (.sh (.str (f x))) Ω1 ∧ DEnv K c T σ Γ Ω1 H', fun cls d H' ⟨x, hx, hn, e2⟩ => ?_, Ex c Ω1, ws, _, _, fun b hb => e1.eok hb, fun b m => .inl (c.ME b (le.M b m)), le.I _ e1.inv, hv, h1, fun v H' w Ωn q hw ho hn nd kk ii => ?_, fun x cls d H' hx hat kk ii => ?_⟩
  · refine ⟨true, ?_, fun _ b hb => ?_, fun z => Bool.noConfusion z⟩
    · rw [hx.cls]
      exact F.air _
    · refine hsu b cls d x _ _ _ ?_ hx fun H'' sm => o.rt _ _ σ Γ Ω1 _ hn ?_
      · rw [List.getElem?_set_self (by rw [← e2.len]; exact hi)]
      · exact (e2.step (fun b o _ z => sm b o z) (am.loc _ _ (fun b m => by
          have hne := (am.ex _ b e2.inv m).some
          cases hb : H' b with
          | none => exact absurd hb hne
          | some ob => exact sm b ob hb) (fun b o _ e => sm b o e) e2.inv)).addv rfl
  · obtain ⟨ni, e2⟩ := e1.call (a := a) hw ho hn nd kk ii
    exact o.rt _ _ _ _ _ _ (q ni) e2
  · exact ⟨x, hat, hx, e1.step (fun b o n h => kk b o (fun m => n (le.M b m)) h) (le.back _ _ e1.inv kk ii)⟩⟩
end
end OA

namespace OA
open PySem PySem.Spec PyProof.Rows L2
/-! len(set(a list of ints)); text.count(text) -/
def met (ns : List Int) : List Int := PyProof.Rows.firstMet (fun i => ns.getD i 0) ns.length
def vLenSet (K : PySem.W.Frag) (ta : TE) : TE := fun σ H Q => ta σ H fun x H1 => refR x fun l => lstO (H1 l) fun xs => ∃ ns : List Int, xs = ns.map V.int ∧ ns.length ≤ 4000 ∧ Q (.int ((met ns).length : Nat)) H1
section
variable {X : Cx}
theorem q_lenSet {e : Expr} {te : TE} {p1 p2 q pos : Pos} (g1 : Gl X "len") (m1 : X.mg "len" = none) (g2 : Gl X "set") (m2 : X.mg "set" = none) (he : PE X e te) (calm : X.calm = true := by rfl) (na : starEach [e] X.env = (false, eval e X.env) :: starEach [] X.env := by rfl) :
    PE X (.Call (.Name "len" p1) [.Call (.Name "set" p2) [e] [] q] [] pos) (vLenSet X.K te) := ⟨fun pins s σ H Q I h => by
  have inner : wpAny (model X.prog X.w) X.A (eval (.Call (.Name "set" p2) [e] [] q) X.env) (fun v s2 => ∃ (ns : List Int) (H1 : Hp) (a : Addr), v = .ref a ∧ L2.Inv X pins σ H1 s2 ∧ s2.heap.SetOf (intKind X.prog X.w) a (fun k => (met ns).any (· == k)) (met ns).length ∧ (met ns).length ≤ 4000 ∧ Q (.int ((met ns).length : Nat)) H1) X.xe s := by
    refine Call_ (ld_blt I g2 m2 PyProof.Rows.boot_set (PyProof.Rows.callWith_type1 (PyProof.Rows.args_cons (thn (he.run pins s σ H _ I h) fun v s1 hv => PyProof.Rows.args_nil ?_) na) na rfl))
    obtain ⟨x, H1, I1, rx, hx⟩ := hv
    obtain ⟨l, rfl, h2⟩ := refR_el hx
    obtain ⟨xs, hl, ns, rfl, h4, q1⟩ := lstO_el h2
    obtain rfl : v = .ref l := rx
    obtain ⟨its, r, pl, _⟩ := I1.list (SqL.of hl)
    have n : its.toArray.size = ns.length := by rw [List.size_toArray, ← r.length, List.length_map]
    refine call_set_list (I1.ok.hd calm) pl.isList (ns := ns) ?_ (by rw [n]; unfold scanBound; omega) fun h' tk hS hk => ?_
    · simpa using RZ.intsAre_vals r
    · rw [n] at hS
      exact ⟨ns, H1, _, rfl, I1.kept fun b o z => hk b o (Heap.lt_size z) z, hS, Nat.le_trans (PyProof.Rows.firstMet_length_le _ _) h4, q1⟩
  refine Call_ (ld_blt I g1 m1 boot_len (PyProof.Rows.callWith_builtin1 (PyProof.Rows.args_cons (thn inner fun v s2 hv => PyProof.Rows.args_nil ?_) rfl) rfl rfl))
  obtain ⟨ns, H1, a, rfl, I2, hS, hn, q1⟩ := hv
  obtain ⟨o, es, ep, t, ho, hex, hd, _, _, _, hf, hc⟩ := hS
  exact call_len_set ho hex hd hf (by rw [hc]; omega) ⟨.int (met ns).length, H1, I2.tok _, ⟨_, by rw [hc]⟩, q1⟩⟩
def vCount (to te : TE) : TE := fun σ H Q => to σ H fun x H1 => strR x fun a => te σ H1 fun y H2 => strR y fun b => Q (.int (Txt.count a b)) H2
theorem q_count {o e : Expr} {to te : TE} {apos pos : Pos} (ho : PE X o to) (he : PE X e te) (hs : starEach [e] X.env = [(false, eval e X.env)] := by rfl) (hbase : attributeBase o "count" X.env (eval o X.env) = eval o X.env := by rfl) (hline : (apos.endLine == pos.line) = true := by rfl) : PE X (.Call (.Attribute o "count" apos) [e] [] pos) (vCount to te) :=
  im_pe (pe_m1 F.slot_str_count F.type_str_count mt_count (up_pe ho) (up_pe he) (hs := hs) (hbase := hbase) (hline := hline)) fun σ H Q h => ⟨_, h, fun x H1 h1 => by
    obtain ⟨a, rfl, h2⟩ := strR_el h1
    refine ⟨⟨a, rfl⟩, _, h2, fun y H2 h3 => ?_⟩
    obtain ⟨b, rfl, h4⟩ := strR_el h3
    exact ⟨a, b, rfl, rfl, h4⟩⟩
end
section
variable {K : PySem.W.Frag} {am : Am}
def dCount (da db : DT) (Γ : Gm) (Ω : Om) (Q : DQ) : Prop := da Γ Ω fun x Ω1 => strW x fun a => db Γ Ω1 fun y Ω2 => strW y fun b => Q (.sh (.int (Txt.count a b))) Ω2
instance s_count {ta tb : TE} {da db : DT} [s1 : SE K am ta da] [s2 : SE K am tb db] : SE K am (vCount ta tb) (dCount da db) := ⟨fun {c T σ Γ Ω H Q R} e h k =>
  s1.run e h fun x w Ω1 H1 h1 e1 => by
    obtain ⟨a, rfl, h2⟩ := strW_el h1
    obtain rfl : x = .str a := e1.hd
    refine s2.run e1.drop h2 fun y w2 Ω2 H2 h3 e2 => ?_
    obtain ⟨b, rfl, h4⟩ := strW_el h3
    obtain rfl : y = .str b := e2.hd
    exact k _ _ _ _ h4 (e2.drop.addv rfl)⟩
def dLenSet (da : DT) (Γ : Gm) (Ω : Om) (Q : DQ) : Prop := da Γ Ω fun w Ω1 => seqW Ω1 w fun us => shsW us fun ds => intsD ds fun ns => ns.length ≤ 4000 ∧ Q (.sh (.int ((met ns).length : Nat))) Ω1
instance s_lenSet {ta : TE} {da : DT} [s1 : SE K am ta da] : SE K am (vLenSet K ta) (dLenSet da) := ⟨fun {c T σ Γ Ω H Q R} e h k =>
  s1.run e h fun x w Ω1 H1 h1 e1 => by
    obtain ⟨p, vs, us, rfl, hp, hv, h2⟩ := seqW_el e1 e1.hd h1
    obtain ⟨ds, rfl, h3⟩ := shsW_el h2
    obtain ⟨ns, rfl, h4, h5⟩ := intsD_el h3
    have := lay_ints hv.lay
    subst this
    show lstO (H1 p) _
    rw [hp]
    exact ⟨ns, rfl, h4, k _ _ _ _ h5 (e1.drop.addv rfl)⟩⟩
/-- x in a list of flat things -/
def wInLs (neg : Bool) : R2 := fun x y H Q => refR y fun p => lstO (H p) fun xs => (flatV x = true ∧ xs.all flatV = true) ∧ Q (.bl (if neg then !inV x xs else inV x xs)) H
theorem o_inLs {X : Cx} : OpR X (compareOp .In) (wInLs false) := im_op op_in_seq fun x y H Q z => by
  obtain ⟨p, e1, z1⟩ := refR_el z
  obtain ⟨xs, e2, ⟨h1, h2⟩, z2⟩ := lstO_el z1
  exact ⟨p, xs, e1, .inl (SqL.of e2), h1, h2, z2⟩
theorem o_notInLs {X : Cx} : OpR X (compareOp .NotIn) (wInLs true) := im_op op_notIn_seq fun x y H Q z => by
  obtain ⟨p, e1, z1⟩ := refR_el z
  obtain ⟨xs, e2, ⟨h1, h2⟩, z2⟩ := lstO_el z1
  exact ⟨p, xs, e1, .inl (SqL.of e2), h1, h2, z2⟩
def dInLs (neg : Bool) (x : W) (y : W) (Ω : Om) (Q : DQ) : Prop := flW x fun u => seqW Ω y fun us => shsW us fun ds => dInT.flsD ds fun vs => Q (.sh (.bl (if neg then !inV u vs else inV u vs))) Ω
instance r_inLs {neg : Bool} : SR2 K am (wInLs neg) (dInLs neg) := ⟨fun {c T σ Γ Ω H x y wx wy Q R} e hx hy h k => by
  obtain ⟨g1, f1⟩ := flW_el h hx
  obtain ⟨p, vs, us, rfl, hp, hv, g2⟩ := seqW_el e hy g1
  obtain ⟨ds, rfl, g3⟩ := shsW_el g2
  obtain ⟨g4, f2⟩ := flsD_el g3 hv.lay
  show lstO (H p) _
  rw [hp]
  exact ⟨⟨f1, f2⟩, k _ _ _ _ g4 (e.addv rfl)⟩⟩
end
end OA

namespace OA
open PySem PySem.Spec PyProof.Rows L2 LamX
local macro_rules
  | `(tactic| push_cast only [$a,*]) => `(tactic| simp -implicitDefEqProofs only [Int.toNat_natCast, List.cons.injEq, W.sh.injEq, D.int.injEq, D.str.injEq, D.bl.injEq, D.tup.injEq, D.lst.injEq, W.pt.injEq, and_assoc, exists_eq_left', exists_eq_left, exists_and_left, true_implies, dIsi, tn_n, tn_b, tn_i, tn_s, tn_t, tn_nt, tn_l, kr_NoneType_bool, kr_NoneType_int, kr_NoneType_str, kr_NoneType_list, kr_NoneType_tuple, kr_NoneType_dict, kr_bool_bool, kr_bool_int, kr_bool_str, kr_bool_list, kr_bool_tuple, kr_bool_dict, kr_int_bool, kr_int_int, kr_int_str, kr_int_list, kr_int_tuple, kr_int_dict, kr_str_bool, kr_str_int, kr_str_str, kr_str_list, kr_str_tuple, kr_str_dict, kr_list_bool, kr_list_int, kr_list_str, kr_list_list, kr_list_tuple, kr_list_dict, kr_tuple_bool, kr_tuple_int, kr_tuple_str, kr_tuple_list, kr_tuple_tuple, kr_tuple_dict, kr_dict_bool, kr_dict_int, kr_dict_str, kr_dict_list, kr_dict_tuple, kr_dict_dict, dVar, dC_n, dC_b, dC_i, dC_s, dC_t, dC_r, dOp, dUn, dNil, dCons, dStar, dStarT, dTup, dLst, dLstO, dAnd, dOr, dNot, dIf, dTest, dYes, dChain, dCall, dNext, dCut, dSeq, dDrop, dRet, dRetN, dIfS, dName, sgnil_e, sgcons_e, dGtup, dAsg, dAug, dWhile, dFor, dLc, dLcO, dLc2, dDc, dI0, dIC, dEq, dIsN, isNonW, noPy, dAddS, dMulS, dCat, dCatT, dInT, dInLI, dInTI, dInS, dIxL, dIxT, dIxS, dNeg, dNoPart, dPart, dSl, dSlL, dSlT, dSlS, dRev, dDGet, dDIn, dDNew, dDNewS, dsDPut, dgSub, dSetL, isLW, dLM, dLM0, dAppend, dPopAt, dExtend, dPop, dLen, dTupL, dLstL, dAbs, dIntB, dMin2, dMax2, dMaxL, dCKw, dMaxT, dFn, dList, dTupI, dStrI, dR1, dR2, dEnum, dTAnd, dTOr, dTNot, varR_e, intW_e, blW_e, strW_e, shW_e, tyW_e, tupW_e, tupW_n, tup0W_e, lookL_e, lookD_e, lookR_e, lookR_l, seqW_e, seqW_p, dicW_e, dicW_p, ownL_p, ownD_p, keyW_i, keyW_s, one1W_e, two2W_e, shsW_nil, shsW_cons, shsW_app, shsW_map, intsD_nil, intsD_cons, intsD_map, strsD_map, cWR_n, cWR_b, cWR_i, cWR_s, flW_n, flW_b, flW_i, flW_s, fls_nil, fls_n, fls_b, fls_i, fls_s, lenW_l, lenW_d, lenW_t, lenW_n, lenW_s, lenW_p, lenO'_l, lenO'_d, atR_0, atR_1, atR_2, atR_3, atR_4, lenOk_0, lenOk_1, lenOk_2, lenOk_3, lenOk_4, lenOk_5, look_hd, put_c, put_n, notins_nil, startG, scal, List.map, List.replicate, List.length_cons, List.length_nil, List.cons_append, List.nil_append, List.append_nil, List.getElem?_cons_zero, List.getElem?_cons_succ, List.set_cons_zero, List.set_cons_succ, wipeG, true_and, and_true, if_true, if_false, decide_eq_true_eq, reduceCtorEq, reduceIte, Bool.false_eq_true, decide_true, decide_false, Bool.true_and, Bool.false_and, Bool.and_true, Bool.and_false, Bool.not_true, Bool.not_false, V.int.injEq, V.str.injEq, V.bl.injEq, Nat.reduceAdd, Nat.reduceSub, Nat.reduceLT, Int.reduceEq, Int.reduceLT, Int.reduceLE, Int.reduceAdd, Int.reduceSub, Int.cast_ofNat_Int, dForK, dAlike, dDcO, dLstVals, dEqLI, dDictO, dSortP, dCount, dLenSet, dInLs, dEqP, pdW_s, pdW_p, dSortI, dInsert0, dCatO, dLcK, $a,*])
  | `(tactic| push_cast [$a,*]) => `(tactic| ((repeat refine LaterD.mk ?_); push_cast only [$a,*]; repeat ((refine LaterD.mk ?_); (repeat refine LaterD.mk ?_); push_cast only [$a,*])))
/-! _law_refused(lambda: .., .., ..) -/
/-- but the table at P nothing is changed; the table's code objects bear the name q -/
def Lmd (P : Addr) (q : Str) (H H1 : Hp) : Prop := (∀ b o, b ≠ P → H b = some o → H1 b = some o) ∧ TabS H1 P q
section
variable {X : Cx} {pins : List (Addr × Obj)} {σ : L2.St} {H : Hp} {s : Shared}
/-- a lambda is made: all that is known of the heap but the table stays -/
theorem lam_made {c P : Addr} {params : Arguments} {body : Expr} {scope : Scope} {pos : Pos} {E Q : Value → Shared → Prop} (I : L2.Inv X pins σ H s) (TB : LamX.TabB X.base X.mg c P) (hcode : X.env.code = .ref c) (tab : TabS H P (X.env.qual ++ "<lambda>"))
    (hdef : defaultsOf params X.env = ([], [])) (hfree : ∀ y ∈ scope.names, y.2 = .free → ∃ c, X.env.cells.lookup y.1 = some c)
    (k : ∀ (f c' : Addr) (pm ctv : Value) (H1 : Hp) (s1 : Shared), L2.Inv X pins σ H1 s1 → Lmd P (X.env.qual ++ "<lambda>") H H1 → s1.heap.get? f = some (PySem.W.kla_obj "<lambda>" (X.env.qual ++ "<lambda>") params body scope (cloFrom X.env.cells scope.names []) pm c' ctv) →
      H1 f = none → f ≠ X.env.locals → f ∉ X.fs → H1 c' = some (CodeO c' (X.env.qual ++ "<lambda>")) → Q (.ref f) s1) :
    wpAny (model X.prog X.w) X.A (eval (.Lambda params body scope pos) X.env) Q E s := by
  obtain ⟨told, hat, tri, names⟩ := tab
  have plain : s.heap.get? P = some { cls := .none, data := .fields told } := I.hok P _ hat
  have bi := TB.bm.keeps I.bk
  refine PySem.W.kla_eval hdef ?_
  cases found : codeAmong pos told.toList with
  | some cv =>
    obtain ⟨c', rfl, known⟩ := names pos cv found
    refine PySem.W.kla_makeFunctionHit (P := P) (c := c) (ps := told) (mg := X.mg) (closure_ok hfree) I.ok.glob (I.mod.glob.keeps I.bk) hcode (TB.code.keeps I.bk) plain tri found bi fun ctv h2 t2 up grow => ?_
    refine k h2.objs.size c' ((X.mg "__name__").getD .none) ctv H _ ?_ ⟨fun b o _ e => e, told, hat, tri, names⟩ (Heap.get?_push_size _ rfl) (I.hok.fresh grow) (Nat.ne_of_gt (Nat.lt_of_lt_of_le I.lt grow)) (I.nofs grow) known
    exact I.kept (t' := t2) fun b o e => Heap.get?_push_of_some _ (up b o e)
  | none =>
    refine PySem.W.kla_makeFunction (P := P) (c := c) (ps := told) (mg := X.mg) (closure_ok hfree) I.ok.glob (I.mod.glob.keeps I.bk) hcode (TB.code.keeps I.bk) plain tri found TB.gP bi fun c' ctv h2 t2 ext low high rec tb => ?_
    obtain ⟨c2, oc, vs, t, e2, g1, g2, g3⟩ := rec
    cases e2
    have grow : s.heap.objs.size ≤ h2.objs.size := Nat.le_trans low (Nat.le_of_lt high)
    have newc : H c' = none := I.hok.fresh low
    have nPc : P ≠ c' := ne_of_none hat newc
    have J := LamX.inv_table (t' := t2) (more := #[rawInt pos.line, rawInt pos.col, .ref c']) (h' := h2.push (PySem.W.kla_obj "<lambda>" (X.env.qual ++ "<lambda>") params body scope (cloFrom X.env.cells scope.names []) ((X.mg "__name__").getD .none) c' ctv)) I hat
      (fun b o n e => Heap.get?_push_of_some _ (ext b o n e)) (Heap.get?_push_of_some _ tb) low ⟨oc, vs, t, Heap.get?_push_of_some _ g1, g2, g3⟩
    have lst : (told ++ #[rawInt pos.line, rawInt pos.col, .ref c']).toList = told.toList ++ [rawInt pos.line, rawInt pos.col, .ref c'] := by simp
    have keep : ∀ b o, b ≠ P → H b = some o → upd (upd H P (.tbl (told ++ #[rawInt pos.line, rawInt pos.col, .ref c']))) c' (CodeO c' (X.env.qual ++ "<lambda>")) b = some o := fun b o n e => by
      rw [upd_ne (ne_of_none e newc), upd_ne n]
      exact e
    have hfP : h2.objs.size ≠ P := Nat.ne_of_gt (Nat.lt_of_lt_of_le (Heap.lt_size plain) grow)
    refine k h2.objs.size c' ((X.mg "__name__").getD .none) ctv _ _ J ⟨keep, _, by rw [upd_ne nPc, upd_same], ?_, fun p' cv hcv => ?_⟩ (Heap.get?_push_size _ rfl) ?_ (Nat.ne_of_gt (Nat.lt_of_lt_of_le I.lt grow)) (I.nofs grow) upd_same
    · rw [lst]
      exact PySem.TriplesOk_snoc _ _ _ _ tri
    · rw [lst] at hcv
      rcases LamX.among_app _ tri hcv with z | z
      · obtain ⟨c0, e1, e2⟩ := names p' cv z
        refine ⟨c0, e1, keep _ _ (fun q => ?_) e2⟩
        rw [q, hat] at e2
        exact LamX.codeO_ne (c := P) (q := X.env.qual ++ "<lambda>") told (Option.some.inj e2).symm
      · exact ⟨c', z, upd_same⟩
    · rw [upd_ne (Nat.ne_of_gt high), upd_ne hfP]
      exact I.hok.fresh grow
theorem pinL {p : Addr × Obj} {H : Hp} (I : L2.Inv X pins σ H s) (h1 : s.heap.get? p.1 = some p.2) (h2 : H p.1 = none) (h3 : p.1 ≠ X.env.locals) (h4 : p.1 ∉ X.fs) (h5 : ∀ v, p.2.data ≠ .cell v) : L2.Inv X (p :: pins) σ H s := I.pins_of fun r hr => by
  rcases List.mem_cons.mp hr with rfl | z
  · exact ⟨h1, h2, h3, h4, h5⟩
  · exact I.pin r (List.mem_append_right _ z)
theorem unpinL {p : Addr × Obj} {H : Hp} (I : L2.Inv X (p :: pins) σ H s) : L2.Inv X pins σ H s := I.pins_of fun r hr => I.pin r (List.mem_append_right _ (List.mem_cons_of_mem _ hr))
end
/-- a def called, its body judged at the very state -/
theorem fn_runS {CX : CXT} {P : Program} {w : World} {K : PySem.W.Frag} {mg : Str → Option Value} {base : Heap} {k : Nat} {f : Addr} {fd : FuncData} {x qual : Str} {st : Stmt} {N ps : List Str} (F : Fun K x qual st f fd) (S : FnScope N ps (defScope st)) {A : Around} {outer : List Env} {s : Shared} {H : Hp} {args : Args} {us : List Value} {vs : List V} {Q : VK} {E : XK}
    (hr : Room (k + 1) A) (e0 : Env0 P w K mg base A outer s H) (hb : BindsTo s fd args (ps.zip us)) (r : Vals vs us) (hl : vs.length = ps.length)
    (hbody : ∀ cdv, Room k (A.deeper (envOfC qual (defScope st) s.heap.objs.size f cdv)) → ∃ t, PSs (cxOf CX P w K mg base N qual (defScope st) f cdv A outer s H E) (defBody st) t ∧ t { nx := fun _ H' => Q .non H', rt := Q } (start N vs) H) :
    codeAny (model P w) A (.call (.ref f) args) (CR CX outer P w H s Q E) s := by
  obtain ⟨oc, od, kV, doc, pm, an, cdv, ct, osl, rfl, lk, hcd⟩ := F.ex
  exact LamX.run_ofS lk hcd S hr e0 hb r hl (hbody cdv)
/-! _law_alike, called in an except suite: two words, two numbers -/
section
variable {P : Program} {w : World} {K : PySem.W.Frag} {mg : Str → Option Value} {base : Heap} {A : Ad} {Z : XA}
def flatSI (v : V) : Prop := (∃ t : Str, v = .str t) ∨ ∃ i : Int, v = .int i
theorem alike_run (T : Txt K mg base A) {Ar : Around} {outer : List Env} {s : Shared} {H : Hp} {a : Addr} {oe : Obj} {v : V} {us : List Value} {Q : VK} (hv : flatSI v) (hr : L2H.RoomH 2 Ar) (hot : L2H.Hot1 Ar (a, oe)) (hpin : L2H.PinOk outer H s (a, oe))
    (e0 : Env0 P w K mg base Ar outer s H) (r : Vals [v, v] us) (k : ∀ H', Same H H' → Q (.bl true) H') :
    codeAny (model P w) Ar (.call (.ref A._law_alike) ⟨us, []⟩) (CR CX0 outer P w H s Q E0) s := by
  have kin : K.In s.heap := e0.mod.kin.keeps fun b o z => (e0.bs b o z).1
  have hlen : us.length = 2 := (Paired.length r).symm
  have hb := T.b__law_alike s us kin (by rw [List.append_nil, hlen]; rfl)
  rw [List.append_nil] at hb
  refine fn_runE (k := 1) T.F__law_alike sc__law_alike hr hpin e0 hb r rfl fun cdv hr => ?_
  rcases hv with ⟨t, rfl⟩ | ⟨i, rfl⟩
  · have h : spD K am0 (fun ws Q => ws = [.sh (.str t), .sh (.str t)] ∧ Q (.sh (.bl true)) []) [.str t, .str t] H Q E0 := by
      refine ⟨fun _ => False, _, fun w Ω => w = .sh (.bl true) ∧ Ω = [], fun _ z => z.elim, fun _ z => z.elim, True.intro, ?_, ⟨rfl, rfl, rfl⟩, fun v H' w Ωn q hw _ _ _ fr _ => ?_⟩
      · exact ⟨_, _, rfl, rfl, _, _, rfl, rfl, rfl⟩
      · obtain ⟨rfl, rfl⟩ := q
        obtain rfl : v = _ := hw
        exact k H' fun b o z => fr b o (fun z => z) z
    refine spD_run (td := ?td) h (qs_cons (q_if (q_cmp o_isN (qv 1) pe_non (nomark _)) (pss_one (ps_ret (pe_cmpR o_isN (qv 0) pe_non (nomark _)))) pss_nil)
    (qs_cons (q_if (q_val (pe_callB c_isi (by rfl) T.m_isinstance (by decide +kernel) (pa_cons (qv 1) (pa_cons (pe_bltn (v := .ty "bool") (by rfl) T.m_bool (by decide +kernel) rfl) pa_nil)))) (pss_one (ps_ret (q_and (pe_callB c_isi (by rfl) T.m_isinstance (by decide +kernel) (pa_cons (qv 0) (pa_cons (pe_bltn (v := .ty "bool") (by rfl) T.m_bool (by decide +kernel) rfl) pa_nil))) (pe_one (pe_cmpR op_eq (qv 0) (qv 1) (nomark _)))))) pss_nil)
    (qs_cons (q_if (q_val (pe_callB c_isi (by rfl) T.m_isinstance (by decide +kernel) (pa_cons (qv 1) (pa_cons (pe_bltn (v := .ty "int") (by rfl) T.m_int (by decide +kernel) rfl) pa_nil)))) (pss_one (ps_ret (q_and (pe_callB c_isi (by rfl) T.m_isinstance (by decide +kernel) (pa_cons (qv 0) (pa_cons (pe_bltn (v := .ty "int") (by rfl) T.m_int (by decide +kernel) rfl) pa_nil))) (q_and (q_not (pe_callB c_isi (by rfl) T.m_isinstance (by decide +kernel) (pa_cons (qv 0) (pa_cons (pe_bltn (v := .ty "bool") (by rfl) T.m_bool (by decide +kernel) rfl) pa_nil)))) (pe_one (pe_cmpR op_eq (qv 0) (qv 1) (nomark _))))))) pss_nil)
    (qs_cons (q_if (q_val (pe_callB c_isi (by rfl) T.m_isinstance (by decide +kernel) (pa_cons (qv 1) (pa_cons (pe_bltn (v := .ty "str") (by rfl) T.m_str (by decide +kernel) rfl) pa_nil)))) (pss_one (ps_ret (q_and (pe_callB c_isi (by rfl) T.m_isinstance (by decide +kernel) (pa_cons (qv 0) (pa_cons (pe_bltn (v := .ty "str") (by rfl) T.m_str (by decide +kernel) rfl) pa_nil))) (pe_one (pe_cmpR op_eq (qv 0) (qv 1) (nomark _)))))) pss_nil)
    (qs_cons ps_never
    (qs_cons ps_never
    (qs_cons ps_never
    (pss_one ps_never)))))))) ?hs ?hD
    case hs => (try simp only [cxh_K, cxh_prog, cxh_w, blkK]); exact inferInstance
    rintro ws Qd ⟨rfl, hq⟩
    push_cast []
    exact RtD.sh hq
  · have h : spD K am0 (fun ws Q => ws = [.sh (.int i), .sh (.int i)] ∧ Q (.sh (.bl true)) []) [.int i, .int i] H Q E0 := by
      refine ⟨fun _ => False, _, fun w Ω => w = .sh (.bl true) ∧ Ω = [], fun _ z => z.elim, fun _ z => z.elim, True.intro, ?_, ⟨rfl, rfl, rfl⟩, fun v H' w Ωn q hw _ _ _ fr _ => ?_⟩
      · exact ⟨_, _, rfl, rfl, _, _, rfl, rfl, rfl⟩
      · obtain ⟨rfl, rfl⟩ := q
        obtain rfl : v = _ := hw
        exact k H' fun b o z => fr b o (fun z => z) z
    refine spD_run (td := ?td2) h (qs_cons (q_if (q_cmp o_isN (qv 1) pe_non (nomark _)) (pss_one (ps_ret (pe_cmpR o_isN (qv 0) pe_non (nomark _)))) pss_nil)
    (qs_cons (q_if (q_val (pe_callB c_isi (by rfl) T.m_isinstance (by decide +kernel) (pa_cons (qv 1) (pa_cons (pe_bltn (v := .ty "bool") (by rfl) T.m_bool (by decide +kernel) rfl) pa_nil)))) (pss_one (ps_ret (q_and (pe_callB c_isi (by rfl) T.m_isinstance (by decide +kernel) (pa_cons (qv 0) (pa_cons (pe_bltn (v := .ty "bool") (by rfl) T.m_bool (by decide +kernel) rfl) pa_nil))) (pe_one (pe_cmpR op_eq (qv 0) (qv 1) (nomark _)))))) pss_nil)
    (qs_cons (q_if (q_val (pe_callB c_isi (by rfl) T.m_isinstance (by decide +kernel) (pa_cons (qv 1) (pa_cons (pe_bltn (v := .ty "int") (by rfl) T.m_int (by decide +kernel) rfl) pa_nil)))) (pss_one (ps_ret (q_and (pe_callB c_isi (by rfl) T.m_isinstance (by decide +kernel) (pa_cons (qv 0) (pa_cons (pe_bltn (v := .ty "int") (by rfl) T.m_int (by decide +kernel) rfl) pa_nil))) (q_and (q_not (pe_callB c_isi (by rfl) T.m_isinstance (by decide +kernel) (pa_cons (qv 0) (pa_cons (pe_bltn (v := .ty "bool") (by rfl) T.m_bool (by decide +kernel) rfl) pa_nil)))) (pe_one (pe_cmpR op_eq (qv 0) (qv 1) (nomark _))))))) pss_nil)
    (qs_cons (q_if (q_val (pe_callB c_isi (by rfl) T.m_isinstance (by decide +kernel) (pa_cons (qv 1) (pa_cons (pe_bltn (v := .ty "str") (by rfl) T.m_str (by decide +kernel) rfl) pa_nil)))) (pss_one (ps_ret (q_and (pe_callB c_isi (by rfl) T.m_isinstance (by decide +kernel) (pa_cons (qv 0) (pa_cons (pe_bltn (v := .ty "str") (by rfl) T.m_str (by decide +kernel) rfl) pa_nil))) (pe_one (pe_cmpR op_eq (qv 0) (qv 1) (nomark _)))))) pss_nil)
    (qs_cons ps_never
    (qs_cons ps_never
    (qs_cons ps_never
    (pss_one ps_never)))))))) ?hs2 ?hD2
    case hs2 => (try simp only [cxh_K, cxh_prog, cxh_w, blkK]); exact inferInstance
    rintro ws Qd ⟨rfl, hq⟩
    push_cast []
    exact RtD.sh hq
end
def vAlk (t : TA) : TE := fun σ H Q => t σ H fun vs H1 => ∃ v : V, vs = [v, v] ∧ flatSI v ∧ ∀ H', Same H1 H' → Q (.bl true) H'
/-- err.why; err.number -/
def tWhy (Z : XA) (a : Addr) (cls : Value) (d : Option Addr) (te : TE) : TE := fun σ H Q => ∃ y : X5, (y = .rule ∨ y = .plan) ∧ tXf a cls d (Z.cl y) "why" te σ H Q
def tNumb (Z : XA) (a : Addr) (cls : Value) (d : Option Addr) (te : TE) : TE := tXf a cls d (Z.cl .wakes) "number" te
section
variable {X : Cx} {A : Ad} {Z : XA} {a : Addr} {oe : Obj} {cls : Value} {d : Option Addr} {pn : List (Addr × Obj)} {p pos : Pos} {e : Expr} {es : List Expr} {t : TA} {te : TE}
theorem pe_alikeH (T : Txt X.K X.mg X.base A) (hr : Room 2 X.A) (hz : L2N.Zn cls d oe) (hf : ∃ vs, oe.data = .fields vs) (hg : Gl (X.suite a ((a, oe) :: pn)) "_law_alike")
    (ha : PA (X.suite a ((a, oe) :: pn)) (e :: es) t) (he : starEach (e :: es) X.env = (false, eval e X.env) :: starEach es X.env := by rfl) (hpl : (backTo pos (starEach es X.env)).any (·.1) = false := by rfl) :
    PE (X.suite a ((a, oe) :: pn)) (.Call (.Name "_law_alike" p) (e :: es) [] pos) (vAlk t) := ⟨fun pins s σ H Q I h => by
  refine wpAny_Call_Name_kw (ld_glob I hg T.g__law_alike (PySem.W.callWith_K (h₀ := X.base) I.ok.mod.kin T.k__law_alike (thn (ha.run pos pins s σ H _ I h) fun us s1 ⟨vs, H1, I1, r, v, ev, hv, q⟩ => ⟨I1.kIn, ?_⟩) he hpl) (by decide))
  subst ev
  have P1 := I1.pin (a, oe) (List.mem_append_left _ List.mem_cons_self)
  have hpin : L2H.PinOk X.stack H1 s1 (a, oe) := ⟨P1.1, P1.2.1, fun hm => (List.mem_cons.mp (I1.stkSub a hm)).elim P1.2.2.1 P1.2.2.2.1, P1.2.2.2.2⟩
  have hot : L2H.Hot1 (X.suite a ((a, oe) :: pn)).A (a, oe) := ⟨rfl, by
    obtain ⟨vs, ef⟩ := hf
    exact ⟨vs, ef, hz.2.2 vs ef⟩⟩
  refine wpAny_call (codeAny_mono (alike_run T hv (L2H.roomH_mark hr _) hot hpin I1.env0 r q) fun r s' hq => ?_)
  match r, hq with
  | .error u, hq => exact hq.elim
  | .ok (.ret u), hq => exact I1.after hq
  | .ok .next, hq => exact hq.elim
  | .ok .brk, hq => exact hq.elim
  | .ok .cont, hq => exact hq.elim⟩
theorem xfC_of (FX : XCls X.K Z) (y : X5) : XfC X.K (Z.cl y) := ⟨FX.ga y, FX.gt y, FX.sb y, FX.hd y⟩
theorem pe_xwhy (TX : XTxt X.prog X.K X.mg Z) (FX : XCls X.K Z) (hz : L2N.Zn cls d oe) (hf : ∃ vs, oe.data = .fields vs) (he : PE (X.suite a ((a, oe) :: pn)) e te) (hb : attributeBase e "why" X.env (eval e X.env) = eval e X.env := by rfl) :
    PE (X.suite a ((a, oe) :: pn)) (.Attribute e "why" pos) (tWhy Z a cls d te) := ⟨fun pins s σ H Q I ⟨y, hy, h⟩ => by
  have no : PySem.W.findIn X.K (.ref (Z.cl y)) "why" = some none := by
    rcases hy with rfl | rfl
    · exact TX.x_BadRule.no
    · exact TX.x_BadPlan.no
  exact (pe_xf (pos := pos) (xfC_of FX y) no hz.zc hf he hb).run pins s σ H Q I h⟩
theorem pe_xnumb (TX : XTxt X.prog X.K X.mg Z) (FX : XCls X.K Z) (hz : L2N.Zn cls d oe) (hf : ∃ vs, oe.data = .fields vs) (he : PE (X.suite a ((a, oe) :: pn)) e te) (hb : attributeBase e "number" X.env (eval e X.env) = eval e X.env := by rfl) :
    PE (X.suite a ((a, oe) :: pn)) (.Attribute e "number" pos) (tNumb Z a cls d te) := pe_xf (xfC_of FX .wakes) TX.x_BadWakes.no hz.zc hf he hb
/-- x in a tuple of flat things -/
def wInTu : R2 := fun x y H Q => refR y fun p => ∃ xs, H p = some (.tup xs) ∧ (flatV x = true ∧ xs.all flatV = true) ∧ Q (.bl (inV x xs)) H
theorem o_inTu : OpR X (compareOp .In) wInTu := im_op op_in_seq fun x y H Q z => by
  obtain ⟨p, e1, xs, e2, ⟨h1, h2⟩, z2⟩ := refR_el z
  exact ⟨p, xs, e1, .inr (.inl (.inl e2)), h1, h2, z2⟩
end
end OA

namespace OA
open PySem PySem.Spec PyProof.Rows L2 LamX
local macro_rules
  | `(tactic| simp! [$a,*]) => `(tactic| simp -implicitDefEqProofs only [wNeD0, wRep, tDNewK, vDc, wSortDI, dkR_e, dkR_f, e_cut, wSetL, vLstRg, wLstD, e_lock, vVals, gSub, tCKw, frzO_e, viItems, viKeys, vRev, e_while, e_for, e_asgG, gName, vgTup, vgCons_e, vgNil_e, viList, viTup, viStr, viR1, viEnum, vLc, tYes, wipe, e_seq, e_next, e_drop, e_ret, e_retN, e_sfld, e_augI, e_aug, e_dput, vIf, vTest, wInT, vVar, vFld, tC, tOp, tUn, wI0, wIC, rEq, rNe, scal, wAddS, wMulS, wCat, wNeg, wIxL, wIxT, wIxS, vPart, tNoPart, tSl, wSlL, tCB, tCons, tNil, len_s, wTupL, wLstL, wAbs, wIntB, wMin2, wMax2, vAnd, vOr, vNot, vChain, vMeth, vCall, vMake, vLM0, vLM, isLst, wAppend, wPopAt, wInsert0, vStar, vDGet, vDIn, vDNotIn, tTup, tLst, tIf, tAnd, tOr, tNot, refR_e, intR_e, blR_e, strR_e, optR_e, keyR_i, keyR_s, insO_e, lstO_e, tupO_e, tupO_f, dkO_e, one1_e, two2_e, len_r, lenO_l, lenO_t, lenO_f, lenO_d, L2.start, List.map, List.replicate, List.length_cons, List.length_nil, List.cons_append, List.nil_append, List.append_nil, List.getElem?_cons_zero, List.getElem?_cons_succ, List.set_cons_zero, List.set_cons_succ, true_and, and_true, cx_K, cx_prog, cx_w, blkK, Int.toNat_natCast, upd_same, upd_upd, if_true, if_false, decide_eq_true_eq, reduceCtorEq, reduceIte, Bool.false_eq_true, decide_true, decide_false, Bool.true_and, Bool.false_and, Bool.and_true, Bool.and_false, Bool.not_true, Bool.not_false, V.int.injEq, V.str.injEq, V.bl.injEq, putF_nil, Nat.reduceAdd, Nat.reduceSub, Nat.reduceLT, Int.reduceEq, Int.reduceLT, Int.reduceLE, Int.reduceAdd, Int.reduceSub, Int.cast_ofNat_Int, wIsi, tyR_e, tyO_l, tyO_t, tyO_f, tyO_d, tyN_n, tyN_b, tyN_i, tyN_s, tyN_r, kit_NoneType_bool, kit_NoneType_int, kit_NoneType_str, kit_NoneType_list, kit_NoneType_tuple, kit_NoneType_dict, kit_bool_bool, kit_bool_int, kit_bool_str, kit_bool_list, kit_bool_tuple, kit_bool_dict, kit_int_bool, kit_int_int, kit_int_str, kit_int_list, kit_int_tuple, kit_int_dict, kit_str_bool, kit_str_int, kit_str_str, kit_str_list, kit_str_tuple, kit_str_dict, kit_list_bool, kit_list_int, kit_list_str, kit_list_list, kit_list_tuple, kit_list_dict, kit_tuple_bool, kit_tuple_int, kit_tuple_str, kit_tuple_list, kit_tuple_tuple, kit_tuple_dict, kit_dict_bool, kit_dict_int, kit_dict_str, kit_dict_list, kit_dict_tuple, kit_dict_dict, $a,*])
  | `(tactic| dsimp! [$a,*]) => `(tactic| ((try refine Later.mk ?_); simp! [$a,*]; repeat (refine Later.mk ?_; simp! [$a,*])))
/-! _law_refused of a lambda that is refused as it should -/
def XD.pay : XD → V → Prop
  | .rule s, v => v = .str s
  | .plan s, v => v = .str s
  | .wakes n, v => v = .int n
  | _, _ => True
theorem XAt.sm {Z : XA} {H H' : Hp} {x : XD} {cls : Value} {d : Option Addr} (h : XAt Z H x cls d) (s : Same H H') : XAt Z H' x cls d := by
  cases x with
  | num => exact h
  | txt => exact h
  | rule => exact ⟨h.1, let ⟨a, e, g⟩ := h.2; ⟨a, e, s _ _ g⟩⟩
  | wakes => exact ⟨h.1, let ⟨a, e, g⟩ := h.2; ⟨a, e, s _ _ g⟩⟩
  | plan => exact ⟨h.1, let ⟨a, e, g⟩ := h.2; ⟨a, e, s _ _ g⟩⟩
theorem lawis_at {Z : XA} {b : Addr} {cls : Value} {d : Option Addr} {σ : L2.St} {H : Hp} {Q : VK} {x : XD} {y : X5} {i j : Nat} (hb : σ[i]? = some (some (.ref b))) (hw : σ[j]? = some (some (.str y.nm))) (hx : XAt Z H x cls d) (k : ∀ H', Same H H' → Q (.bl (decide (x.k5 = y))) H') : vLawIs Z b cls d (tCons (vVar i) (tCons (vVar j) tNil)) σ H Q := by
  unfold vLawIs
  dsimp! [hb, hw]
  exact ⟨x.k5, y, hx.cls, rfl, hx.dd, k⟩
theorem alk_why {Z : XA} {b dd : Addr} {cls : Value} {d : Option Addr} {σ : L2.St} {H : Hp} {Q : VK} {v : V} {y : X5} {t : Str} (h3 : σ[3]? = some (some (.ref b))) (h2 : σ[2]? = some (some v)) (hy : y = .rule ∨ y = .plan) (hc : cls = .ref (Z.cl y)) (hd : d = some dd) (hg : H dd = some (.xd [("why", .str t)])) (hv : v = .str t)
    (k : ∀ H', Same H H' → Q (.bl true) H') : vAlk (tCons (tWhy Z b cls d (vVar 3)) (tCons (vVar 2) tNil)) σ H Q := by
  unfold vAlk
  dsimp! []
  refine ⟨y, hy, ?_⟩
  unfold tXf
  dsimp! [h3, h2]
  refine ⟨hc, dd, _, _, hd, hg, (by kernel_rfl : List.lookup (Str.ofString "why") [(Str.ofString "why", V.str t)] = some (V.str t)), v, ?_, .inl ⟨t, hv⟩, k⟩
  rw [hv]
theorem alk_numb {Z : XA} {b dd : Addr} {cls : Value} {d : Option Addr} {σ : L2.St} {H : Hp} {Q : VK} {v : V} {t : Int} (h3 : σ[3]? = some (some (.ref b))) (h2 : σ[2]? = some (some v)) (hc : cls = .ref (Z.cl .wakes)) (hd : d = some dd) (hg : H dd = some (.xd [("number", .int t)])) (hv : v = .int t)
    (k : ∀ H', Same H H' → Q (.bl true) H') : vAlk (tCons (tNumb Z b cls d (vVar 3)) (tCons (vVar 2) tNil)) σ H Q := by
  unfold vAlk
  dsimp! []
  unfold tNumb tXf
  dsimp! [h3, h2]
  refine ⟨hc, dd, _, _, hd, hg, (by kernel_rfl : List.lookup (Str.ofString "number") [(Str.ofString "number", V.int t)] = some (V.int t)), v, ?_, .inr ⟨t, hv⟩, k⟩
  rw [hv]
/-- what is wanted of the refusal -/
def Told (Z : XA) (y : X5) (v : V) (Q : VK) : XK := fun cls d H' => ∃ x : XD, XAt Z H' x cls d ∧ x.k5 = y ∧ x.pay v ∧ ∀ H'', Same H' H'' → Q (.bl true) H''
section
variable {P : Program} {w : World} {K : PySem.W.Frag} {mg : Str → Option Value} {base : Heap} {A : Ad} {Z : XA}
theorem sc__law_refused : FnScope ["_law_work", "_law_word", "_law_value", "_law_e"] ["_law_work", "_law_word", "_law_value"] (defScope s__law_refused) := ⟨rfl, rfl, rfl, by decide +kernel, rfl, by decide +kernel, by decide +kernel⟩
theorem refused_body (T : Txt K mg base A) (TX : XTxt P K mg Z) (FX : XCls K Z) {cdv : Value} {Ar : Around} {outer : List Env} {s : Shared} {H : Hp} {Q : VK} {y : X5} {v : V} {f c' : Addr} {q : Str} {tl : XK → Hp → VK → Prop} (hr : Room 5 (Ar.deeper (envOfC "_law_refused" (defScope s__law_refused) s.heap.objs.size A._law_refused cdv)))
    (act : ∀ (W : WX) (pn : List (Addr × Obj)) (xe : Value → Shared → Prop) (p1 p2 : Pos), L2N.Takes ((cxOf CX0 P w K mg base ["_law_work", "_law_word", "_law_value", "_law_e"] "_law_refused" (defScope s__law_refused) A._law_refused cdv Ar outer s H E0).tr pn xe) W → PE ((cxOf CX0 P w K mg base ["_law_work", "_law_word", "_law_value", "_law_e"] "_law_refused" (defScope s__law_refused) A._law_refused cdv Ar outer s H E0).tr pn xe) (.Call (.Name "_law_work" p1) [] [] p2) (tAct 0 f c' q tl W))
    (hc : H c' = some (CodeO c' q)) (ht : ∀ R, tl (Told Z y v Q) H R) :
    ∃ t, PSs (cxOf CX0 P w K mg base ["_law_work", "_law_word", "_law_value", "_law_e"] "_law_refused" (defScope s__law_refused) A._law_refused cdv Ar outer s H E0) (defBody s__law_refused) t ∧ t { nx := fun _ H' => Q .non H', rt := Q } (start ["_law_work", "_law_word", "_law_value", "_law_e"] [.ref f, .str y.nm, v]) H := by
  have hu := hu_of hr
  refine ⟨_, (qs_cons (L2N.ps_try_as (i := 3) rfl rfl sc__law_refused.nd rfl rfl (show L2.Names _ "AirError" _ from ⟨rfl, rfl, .inl TX.g_AirError⟩) takesN0 (fun W pn xe tk _ => (pss_one (ps_expr (act W pn xe _ _ tk)))) (fun a oe cls d pn hz hf => (qs_cons (q_if (pt_not (q_val (pe_lawis T TX FX (hr.mono (by decide)) hz hf rfl (pa_cons (qv 3) (pa_cons (qv 1) pa_nil))))) (pss_one (ps_ret pe_bl)) pss_nil)
    (qs_cons (q_if (q_cmp o_inTu (qv 1) (pe_tup (pa_cons pe_str (pa_cons pe_str pa_nil))) (by rfl)) (pss_one (ps_ret (pe_alikeH T (hr.mono (by decide)) hz hf rfl (pa_cons (pe_xwhy TX FX hz hf (qv 3)) (pa_cons (qv 2) pa_nil))))) pss_nil)
    (pss_one (ps_ret (q_or (pe_cmpR op_ne (qv 1) pe_str (nomark _)) (pe_one (pe_alikeH T (hr.mono (by decide)) hz hf rfl (pa_cons (pe_xnumb TX FX hz hf (qv 3)) (pa_cons (qv 2) pa_nil)))))))))))
    (pss_one (ps_ret pe_bl))), ?_⟩
  dsimp! []
  refine ⟨rfl, hc, Told Z y v Q, fun cls d H' ⟨x, hx, hxy, hp, hk⟩ => ⟨true, by rw [hx.cls]; exact FX.air _, fun _ b hb => ?_, fun z => Bool.noConfusion z⟩, ht _⟩
  dsimp! []
  refine lawis_at rfl rfl hx fun H1 s1 => ?_
  rw [hxy, decide_eq_true rfl]
  dsimp! []
  refine ⟨by rw [sizeLine_eq]; decide, fun p hp' => ?_⟩
  have s2 : Same H1 (upd H1 p (HO.tup [V.str (Str.ofString "rule"), V.str (Str.ofString "plan")])) := fun b o z => by rw [upd_ne (ne_of_none z hp')]; exact z
  generalize hG : upd H1 p (HO.tup [V.str (Str.ofString "rule"), V.str (Str.ofString "plan")]) = G at s2
  have hx2 := hx.sm (s1.trans s2)
  show ∃ xs, G p = some (.tup xs) ∧ _
  refine ⟨_, by rw [← hG]; exact upd_same, ⟨rfl, rfl⟩, ?_⟩
  subst hxy
  have kk : ∀ H', Same G H' → Q (.bl true) H' := fun H' z => hk H' ((s1.trans s2).trans z)
  have g0 := kk G fun _ _ z => z
  cases x with
  | num =>
    rw [show inV (V.str (XD.num.k5).nm) [V.str (Str.ofString "rule"), V.str (Str.ofString "plan")] = false by decide +kernel]
    dsimp! []
    rw [if_pos (by decide +kernel)]
    exact g0
  | txt =>
    rw [show inV (V.str (XD.txt.k5).nm) [V.str (Str.ofString "rule"), V.str (Str.ofString "plan")] = false by decide +kernel]
    dsimp! []
    rw [if_pos (by decide +kernel)]
    exact g0
  | rule t =>
    rw [show inV (V.str ((XD.rule t).k5).nm) [V.str (Str.ofString "rule"), V.str (Str.ofString "plan")] = true from (by decide +kernel : inV (V.str (X5.rule).nm) [V.str (Str.ofString "rule"), V.str (Str.ofString "plan")] = true)]
    dsimp! []
    obtain ⟨hc1, dd, hd, hg⟩ := hx2
    exact alk_why (y := .rule) rfl rfl (.inl rfl) hc1 hd hg hp kk
  | plan t =>
    rw [show inV (V.str ((XD.plan t).k5).nm) [V.str (Str.ofString "rule"), V.str (Str.ofString "plan")] = true from (by decide +kernel : inV (V.str (X5.plan).nm) [V.str (Str.ofString "rule"), V.str (Str.ofString "plan")] = true)]
    dsimp! []
    obtain ⟨hc1, dd, hd, hg⟩ := hx2
    exact alk_why (y := .plan) rfl rfl (.inr rfl) hc1 hd hg hp kk
  | wakes t =>
    rw [show inV (V.str ((XD.wakes t).k5).nm) [V.str (Str.ofString "rule"), V.str (Str.ofString "plan")] = false from (by decide +kernel : inV (V.str (X5.wakes).nm) [V.str (Str.ofString "rule"), V.str (Str.ofString "plan")] = false)]
    dsimp! []
    rw [if_neg (show ¬ (!decide ((XD.wakes t).k5.nm = Str.ofString "wakes")) = true from (by decide +kernel : ¬ (!decide ((X5.wakes).nm = Str.ofString "wakes")) = true))]
    obtain ⟨hc1, dd, hd, hg⟩ := hx2
    exact alk_numb rfl rfl hc1 hd hg hp kk
end
end OA

namespace OA
open PySem PySem.Spec PyProof.Rows L2
/-! all(test for x in l), by data -/
/-- the table at P0 is of what may be changed -/
class TabIn1 (P0 : Addr) (am : Am) : Prop where
  m : am.M P0
  get : ∀ H, am.I H → GxR.TabG H P0
  put : ∀ H H', am.I H → (∀ b, b ≠ P0 → H' b = H b) → GxR.TabG H' P0 → am.I H'
instance tabIn1_at (P0 : Addr) (a : Am) (H : Hp) [s : TabIn1 P0 a] : TabIn1 P0 (a.at H) := ⟨s.m, s.get, s.put⟩
def gxG (Γ : Gm) (sl : List (Option Nat)) : Gm := sl.map fun o => match o with
  | none => none
  | some j => (Γ[j]?).join
theorem join_el {α : Type} {o : Option (Option α)} {w : α} (h : o.join = some w) : o = some (some w) := by
  cases o with
  | none => cases h
  | some u => rw [show u = some w from h]
section
variable {K : PySem.W.Frag} {am : Am}
theorem DEnv.gx {c : Cq am} {T : List Tp} {σ σ' : L2.St} {Γ : Gm} {Ω : Om} {H : Hp} {sl : List (Option Nat)} (e : DEnv K c T σ Γ Ω H) (hs : L2.wipe σ' [0] = L2.wipe (gxSl σ sl) [0]) : DEnv K c T σ' (wipeG (gxG Γ sl) [0]) Ω H := by
  refine ⟨?_, fun i w h => ?_, e.tm, e.ob, e.nd, e.fr, e.el, e.frm, e.inv⟩
  · have h1 := congrArg List.length hs
    rw [wipe_length, wipe_length, gxSl_len] at h1
    rw [wipeG_len, h1]
    simp [gxG]
  · obtain ⟨h1, h2⟩ := wipeG_some h
    unfold gxG at h1
    rw [List.getElem?_map] at h1
    cases q : sl[i]? with
    | none => rw [q] at h1; cases h1
    | some o =>
      rw [q] at h1
      cases o with
      | none => cases h1
      | some j =>
        obtain ⟨v, h3, h4⟩ := e.sl j w (join_el (Option.some.inj h1))
        refine ⟨v, ?_, h4⟩
        have h5 := congrArg (fun l => l[i]?) hs
        simp only [wipe_at, if_neg h2] at h5
        rw [h5]
        unfold gxSl
        rw [List.getElem?_map, q]
        show some (σ[j]?).join = _
        rw [h3]
        rfl
def dAllG (ix : List Nat) (sl : List (Option Nat)) (di : DI) (dg : DG) (de : DT) (Γ : Gm) (Ω : Om) (Q : DQ) : Prop := (∀ i ∈ ix, i ∈ [0]) ∧ di Γ Ω fun ws Ω1 => ∃ tr : Nat → Bool,
  (∀ i w, ws[i]? = some w → dg w (wipeG (gxG Γ sl) [0]) Ω1 fun Γ2 Ω2 => Ω2 = Ω1 ∧ de Γ2 Ω1 fun y Ω3 => Ω3 = Ω1 ∧ y = .sh (.bl (tr i))) ∧ Q (.sh (.bl ((List.range ws.length).all tr))) Ω1
instance s_allG {P0 : Addr} {gp : Pos} {sl : List (Option Nat)} {wi : TI} {di : DI} {g : TG} {dg : DG} {ix : List Nat} {te : TE} {de : DT} [tb : TabIn1 P0 am] [s0 : SI K am wi di] [s1 : SG K am g dg ix] [s2 : SE K am te de] : SE K am (tAllG P0 gp sl wi g te) (dAllG ix sl di dg de) := ⟨fun {c T σ Γ Ω H Q R} e h k => by
  obtain ⟨hix, h⟩ := h
  refine s0.run e h fun J H1 ws Ω1 T' G Y q e1 hw hG hY => ?_
  obtain ⟨tr, hel, hq⟩ := q
  refine ⟨tb.get _ e1.inv, ws.length, fun σ' => L2.wipe σ' [0] = L2.wipe (gxSl σ sl) [0], fun _ H => DEnv K c (T' ++ T) σ Γ Ω1 H, tr, rfl, fun H2 t => ?_, fun H e => hw.stops H (hG _ _ _ _ e), fun i H hi e => hw.goes i H hi (hG _ _ _ _ e), fun i σ' H u H' hi hs e y => ?_, fun i H _ e => k _ _ _ _ hq (e.drops.addv rfl)⟩
  · exact e1.step (fun b o n h => by rw [t.2.1 b fun z => n (z ▸ tb.m)]; exact h) (tb.put _ _ e1.inv t.2.1 (let ⟨ps, a, b, _⟩ := t.1; ⟨ps, a, b⟩))
  · obtain ⟨S, eS, back⟩ := e.save
    obtain ⟨w, hwi, e2⟩ := hY S i u σ Γ Ω1 H H' hi eS (hw.yields i H u H' hi (hG _ _ _ _ e) y)
    have e3 := e2.gx hs
    refine s1.run e3.drop e3.hd (hel i w hwi) fun σ2 Γ2 Ω2 H2 q2 e4 hwp => ?_
    obtain ⟨rfl, q3⟩ := q2
    exact ⟨(hwp [0] hix).trans hs, s2.run e4 q3 fun v w' Ω' H3 q4 e5 => by
      obtain ⟨rfl, rfl⟩ := q4
      exact ⟨e5.hd, back e5.drop⟩⟩⟩
theorem all_range {α : Type} {xs : List α} {p : α → Bool} {tr : Nat → Bool} (h : ∀ i x, xs[i]? = some x → tr i = p x) : (List.range xs.length).all tr = xs.all p := by
  rw [Bool.eq_iff_iff, List.all_eq_true, List.all_eq_true]
  constructor
  · intro z x hx
    obtain ⟨i, hi, e⟩ := List.mem_iff_getElem.mp hx
    rw [← h i x (by rw [List.getElem?_eq_getElem hi, e])]
    exact z i (List.mem_range.mpr hi)
  · intro z i hi
    have hi := List.mem_range.mp hi
    rw [h i _ (List.getElem?_eq_getElem hi)]
    exact z _ (List.getElem_mem hi)
/-- each thing's answer is p's -/
def atB {α : Type} (xs : List α) (p : α → Bool) (i : Nat) : Bool := match xs[i]? with
  | some x => p x
  | none => false
theorem at_map {α : Type} {xs : List α} {f : α → W} (p : α → Bool) {i : Nat} {w : W} (h : (xs.map f)[i]? = some w) : ∃ x ∈ xs, w = f x ∧ atB xs p i = p x := by
  rw [List.getElem?_map] at h
  cases q : xs[i]? with
  | none => rw [q] at h; cases h
  | some x =>
    rw [q] at h
    cases h
    refine ⟨x, List.mem_of_getElem? q, rfl, ?_⟩
    unfold atB
    rw [q]
theorem all_atB {α : Type} (xs : List α) (f : α → W) (p : α → Bool) : (List.range (xs.map f).length).all (atB xs p) = xs.all p := by
  rw [List.length_map]
  exact all_range fun i x e => by
    unfold atB
    rw [e]
end
end OA

namespace OA
open PySem PySem.Spec PyProof.Rows L2
/-- a def that may refuse, its refusals' context None -/
theorem funX {P : Program} {w : World} {K : PySem.W.Frag} {mg : Str → Option Value} {base : Heap} {x qual : Str} {st : Stmt} {f : Addr} {fd : FuncData} {N ps : List Str} {k : Nat} {sp : Sp} (F : Fun K x qual st f fd) (S : FnScope N ps (defScope st)) (len : ∀ vs H Q E, sp vs H Q E → vs.length = ps.length)
    (body : ∀ (cdv : Value) (A : Around) (outer : List Env) (s : Shared) (H : Hp) (vs : List V) (Q : VK) (E : XK), Room k (A.deeper (envOfC qual (defScope st) s.heap.objs.size f cdv)) → sp vs H Q E →
      ∃ t, PSs (cxOf (CXN P w) P w K mg base N qual (defScope st) f cdv A outer s H E) (defBody st) t ∧ t { nx := fun _ H' => Q .non H', rt := Q } (start N vs) H) : FnOk P w K mg base (CXN P w) (k + 1) f fd ps sp :=
  by
  obtain ⟨_, _, _, _, _, _, _, _, _, e, lk, hcd⟩ := F.ex
  subst e
  exact fn_of lk hcd S len fun A outer s H vs Q E => body _ A outer s H vs Q E
/-! the tables of some code objects -/
def amTb (ps : List Addr) : Am := ⟨fun _ => True, fun b => b ∈ ps, fun H => ∀ p ∈ ps, GxR.TabG H p, fun H H' k _ h p hp => by
  obtain ⟨qs, h1, h2⟩ := h p hp
  exact ⟨qs, by rw [k p hp]; exact h1, h2⟩, fun H b h hb => by
  obtain ⟨qs, h1, h2⟩ := h b hb
  exact ⟨_, h1, fun _ z => (by cases z), ncd_tbl⟩⟩
instance amJ_tb (ps : List Addr) : AmJ (amTb ps) := ⟨fun _ => True.intro⟩
class MemL (p : Addr) (ps : List Addr) : Prop where
  m : p ∈ ps
instance memL_hd (p : Addr) (ps : List Addr) : MemL p (p :: ps) := ⟨List.mem_cons_self⟩
instance memL_tl (p q : Addr) (ps : List Addr) [h : MemL p ps] : MemL p (q :: ps) := ⟨List.mem_cons_of_mem _ h.m⟩
instance tabIn1_tb (P0 : Addr) (ps : List Addr) [h : MemL P0 ps] : TabIn1 P0 (amTb ps) := ⟨h.m, fun _ i => i _ h.m, fun H H' i off t p hp => by
  by_cases e : p = P0
  · rw [e]; exact t
  · obtain ⟨qs, h1, h2⟩ := i p hp
    exact ⟨qs, by rw [off p e]; exact h1, h2⟩⟩
end OA

namespace OA
open PySem PySem.Spec PyProof.Rows L2 LamX
def tRf (Z : XA) (P : Addr) (q : Str) (tb : XK → TE) (ta : TA) : TE := fun σ H Q => TabS H P q ∧ ∀ H1 c', Lmd P q H H1 → H1 c' = some (CodeO c' q) → ta σ H1 fun vs H2 => H2 c' = some (CodeO c' q) ∧ ∃ (y : X5) (v : V), vs = [.str y.nm, v] ∧ ∀ R, tb (Told Z y v Q) σ H2 R
/-- _law_refused(lambda: .., ..), refused as it should be -/
theorem pe_refused {X : Cx} {A : Ad} {Z : XA} {c P : Addr} {q : Str} {params : Arguments} {body : Expr} {scope : Scope} {k : Nat} {tb : XK → TE} {ta : TA} {e : Expr} {es : List Expr} {p lpos pos : Pos} (T : Txt X.K X.mg X.base A) (TX : XTxt X.prog X.K X.mg Z) (FX : XCls X.K Z) (TB : LamX.TabB X.base X.mg c P) (hcode : X.env.code = .ref c)
    (hg : Gl X "_law_refused") (hr : Room (k + 6) X.A) (L : LamS X.env.scope scope) (hdef : defaultsOf params X.env = ([], [])) (hbind : ∀ (q : Str) (cl : List (Str × Addr)) (pm cv ctv : Value), bindArgs (PySem.W.kla_fn "<lambda>" q params body scope cl pm cv ctv) ⟨[], []⟩ = pure []) (hq : X.env.qual ++ "<lambda>" = q)
    (hbody : ∀ (A : Around) (outer : List Env) (s : Shared) (H : Hp) (E : XK) (f c' : Addr), Room k (A.deeper (lamEnv X scope s.heap.objs.size f c')) → PE (lamN X A outer s H E scope f c') body (tb E)) (ha : PA X (e :: es) ta)
    (he : starEach (e :: es) X.env = (false, eval e X.env) :: starEach es X.env := by rfl) (hl : starEach (.Lambda params body scope lpos :: e :: es) X.env = (false, eval (.Lambda params body scope lpos) X.env) :: starEach (e :: es) X.env := by rfl) (hpl : (backTo pos (starEach (e :: es) X.env)).any (·.1) = false := by rfl) :
    PE X (.Call (.Name "_law_refused" p) (.Lambda params body scope lpos :: e :: es) [] pos) (tRf Z P q tb ta) := by
  subst hq
  constructor
  intro pins s σ H Q I ⟨tab, h⟩
  refine wpAny_Call_Name_kw (ld_glob I hg T.g__law_refused (PySem.W.callWith_K (h₀ := X.base) I.ok.mod.kin T.k__law_refused ?_ hl hpl) (by decide))
  rw [hl]
  show wpAny _ _ (spliced ((false, eval (.Lambda params body scope lpos) X.env) :: backTo pos (starEach (e :: es) X.env))) _ _ s
  refine Calls.spliced_cons (lam_made I TB hcode tab hdef (L.has I.ok) fun f c' pm ctv H1 s1 I1 lm hf hn hloc hfs known => ?_)
  have J1 := pinL (p := (f, PySem.W.kla_obj "<lambda>" (X.env.qual ++ "<lambda>") params body scope (cloFrom X.env.cells scope.names []) pm c' ctv)) I1 hf hn hloc hfs (fun v z => by cases z)
  refine thn (ha.run pos _ s1 σ H1 _ J1 (h H1 c' lm known)) fun us s2 ⟨vs, H2, I2, r, hc2, y, v, ev, ht⟩ => ⟨I2.kIn, ?_⟩
  subst ev
  have P1 := I2.pin _ (List.mem_append_right _ List.mem_cons_self)
  have I3 := unpinL I2
  have hus : us.length = 2 := (Paired.length r).symm
  have hfr : f ∉ frs X.stack := fun m => (List.mem_cons.mp (I3.stkSub f m)).elim P1.2.2.1 P1.2.2.2.1
  have b := T.b__law_refused s2 (.ref f :: us) I3.kIn (by rw [List.append_nil, List.length_cons, hus]; rfl)
  rw [List.append_nil] at b
  have rc : codeAny (model X.prog X.w) X.A (.call (.ref A._law_refused) ⟨.ref f :: us, []⟩) (CR CX0 X.stack X.prog X.w H2 s2 Q E0) s2 := by
    refine fn_runS (k := k + 5) T.F__law_refused sc__law_refused hr I3.env0 b (vs := [.ref f, .str y.nm, v]) (.cons rfl r) rfl fun cdv hr' => ?_
    exact refused_body (tl := fun E H' Q' => tb E σ H' Q') T TX FX (hr'.mono (by omega)) (fun W pn xe p1 p2 tk => pe_actN (tb := tb) (k := k) I3 L P1.1 P1.2.1 hfr (hbind _ _ _ _ _) tk (hr'.mono (by omega)) (fun A outer s H E hr2 => hbody A outer s H E f c' hr2) rfl (.inl rfl)) hc2 ht
  refine wpAny_call (codeAny_mono rc fun r s3 hq => ?_)
  match r, hq with
  | .error u, hq => exact hq.elim
  | .ok (.ret u), hq => exact I3.after hq
  | .ok .next, hq => exact hq.elim
  | .ok .brk, hq => exact hq.elim
  | .ok .cont, hq => exact hq.elim
/-- the name of a def's lambda -/
abbrev lq (n : Str) : Str := n ++ ".<locals>." ++ "<lambda>"
/-! by data -/
def XD.payD : XD → D → Prop
  | .rule s, d => d = .str s
  | .plan s, d => d = .str s
  | .wakes n, d => d = .int n
  | _, _ => True
/-- the table at P of a lambda's maker is of what may be changed -/
class LamIn (P : Addr) (q : Str) (am : Am) : Prop where
  m : am.M P
  get : ∀ H, am.I H → TabS H P q
  put : ∀ H H1, am.I H → Lmd P q H H1 → am.I H1
def amL1 (P : Addr) (q : Str) : Am := ⟨fun _ => True, fun b => b = P, fun H => TabS H P q, fun H H' k kc ⟨ps, h1, h2, h3⟩ => ⟨ps, by rw [k P rfl]; exact h1, h2, fun pos cv z => let ⟨c, e1, e2⟩ := h3 pos cv z; ⟨c, e1, kc _ _ ⟨_, _, rfl⟩ e2⟩⟩, fun H b ⟨ps, h1, _, _⟩ hb => by
  rw [show b = P from hb]
  exact ⟨_, h1, fun _ z => (by cases z), ncd_tbl⟩⟩
instance amJ_L1 (P : Addr) (q : Str) : AmJ (amL1 P q) := ⟨fun _ => True.intro⟩
instance lamIn_1 (P : Addr) (q : Str) : LamIn P q (amL1 P q) := ⟨rfl, fun _ h => h, fun _ _ _ h => h.2⟩
instance lamIn_at (P : Addr) (q : Str) (a : Am) (H : Hp) [s : LamIn P q a] : LamIn P q (a.at H) := ⟨s.m, s.get, s.put⟩
theorem Lmd.cd {P : Addr} {q : Str} {H H1 : Hp} (l : Lmd P q H H1) (t : TabS H P q) : ∀ x o, Cd o → H x = some o → H1 x = some o := fun x o hc e => l.1 x o (fun z => by
  obtain ⟨ps, h1, _⟩ := t
  rw [z, h1] at e
  cases e
  exact ncd_tbl hc) e
instance lamIn_l (P : Addr) (q : Str) (a b : Am) [s : LamIn P q a] : LamIn P q (amAnd a b) := ⟨.inl s.m, fun H h => s.get H h.1, fun H H1 i l => ⟨s.put H H1 i.1 l, b.keep i.2.1 (fun x o m e => l.1 x o (fun z => i.2.2 P s.m (z ▸ m)) e) (l.cd (s.get H i.1)), i.2.2⟩⟩
instance lamIn_r (P : Addr) (q : Str) (a b : Am) [s : LamIn P q b] : LamIn P q (amAnd a b) := ⟨.inr s.m, fun H h => s.get H h.2.1, fun H H1 i l => ⟨a.keep i.1 (fun x o m e => l.1 x o (fun z => i.2.2 P (z ▸ m) s.m) e) (l.cd (s.get H i.2.1)), s.put H H1 i.2.1 l, i.2.2⟩⟩
instance amLe_rT (a b c : Am) [s : AmLe a c] : AmLe a (amAnd b c) := ⟨fun H h => s.I H h.2.1, fun x m => .inr (s.M x m), fun H H' i k h => ⟨b.keep i.1 (fun x o m e => k x o (fun z => i.2.2 x m (s.M x z)) e) (fun x o hc e => k x o (fun m => (c.ex H x i.2.1 (s.M x m)).nc e hc) e), s.back H H' i.2.1 k h, i.2.2⟩⟩
instance amLe_lT (a b c : Am) [s : AmLe a b] : AmLe a (amAnd b c) := ⟨fun H h => s.I H h.1, fun x m => .inl (s.M x m), fun H H' i k h => ⟨s.back H H' i.1 k h, c.keep i.2.1 (fun x o m e => k x o (fun z => i.2.2 x (s.M x z) m) e) (fun x o hc e => k x o (fun m => (b.ex H x i.1 (s.M x m)).nc e hc) e), i.2.2⟩⟩
section
variable {K : PySem.W.Frag} {Z : XA} {am : Am}
def dRf (dt : DTX) (das : DA) (Γ : Gm) (Ω : Om) (Q : DQ) : Prop := das Γ Ω fun ws Ω1 => ∃ (y : X5) (d : D), ws = [.sh (.str y.nm), .sh d] ∧ dt Γ Ω1 (fun _ _ => False) fun x Ω2 => x.k5 = y ∧ x.payD d ∧ Q (.sh (.bl true)) Ω2
instance s_refused {P : Addr} {q : Str} {tb : XK → TE} {dt : DTX} {ta : TA} {das : DA} [li : LamIn P q am] [sx : SEX K Z am tb dt] [s1 : SA K am ta das] : SE K am (tRf Z P q tb ta) (dRf dt das) := ⟨fun {c T σ Γ Ω H Q R} e h k => by
  refine ⟨li.get _ e.inv, fun H1 c' lm hc => ?_⟩
  have e0 := e.step (fun b o n h => lm.1 b o (fun z => n (z ▸ li.m)) h) (li.put _ _ e.inv lm)
  have e1 : DEnv K c (.pin c' (CodeO c' q) :: T) σ Γ Ω H1 := e0.add ⟨fun u z => (by unfold CodeO at z; cases z), fun z => (e0.eok z).nc hc ⟨_, _, rfl⟩, hc⟩
  refine s1.run e1 h fun vs ws Ω1 H2 h1 e2 hv => ?_
  obtain ⟨y, d, rfl, h2⟩ := h1
  obtain ⟨v0, vs1, rfl, hv0, v1, vs2, rfl, hv1, hv2⟩ := hv
  have pin : TpOk K H2 (Ex c Ω1) (.pin c' (CodeO c' q)) := e2.tm _ List.mem_cons_self
  obtain rfl : v0 = .str y.nm := hv0
  obtain rfl : vs2 = [] := hv2
  have l1 : Lay K H2 (Ex c Ω1) d v1 := hv1
  refine ⟨pin.2.2, y, v1, rfl, fun R' => sx.run e2.drop h2 (fun _ _ _ _ z _ => z.elim) fun x cls dd Ω' H' ⟨hk, hp, hq⟩ hx e3 => ⟨x, hx, hk, ?_, fun H'' sm => k _ _ _ _ hq ((e3.same sm).addv rfl)⟩⟩
  cases x with
  | num => exact True.intro
  | txt => exact True.intro
  | rule t => rw [show d = .str t from hp] at l1; exact l1
  | plan t => rw [show d = .str t from hp] at l1; exact l1
  | wakes t => rw [show d = .int t from hp] at l1; exact l1⟩
end
end OA

namespace OA
namespace X
open PySem L2
local macro_rules
  | `(tactic| push_cast only [$a,*]) => `(tactic| simp -implicitDefEqProofs only [Int.toNat_natCast, List.cons.injEq, W.sh.injEq, D.int.injEq, D.str.injEq, D.bl.injEq, D.tup.injEq, D.lst.injEq, W.pt.injEq, and_assoc, exists_eq_left', exists_eq_left, exists_and_left, true_implies, dIsi, tn_n, tn_b, tn_i, tn_s, tn_t, tn_nt, tn_l, kr_NoneType_bool, kr_NoneType_int, kr_NoneType_str, kr_NoneType_list, kr_NoneType_tuple, kr_NoneType_dict, kr_bool_bool, kr_bool_int, kr_bool_str, kr_bool_list, kr_bool_tuple, kr_bool_dict, kr_int_bool, kr_int_int, kr_int_str, kr_int_list, kr_int_tuple, kr_int_dict, kr_str_bool, kr_str_int, kr_str_str, kr_str_list, kr_str_tuple, kr_str_dict, kr_list_bool, kr_list_int, kr_list_str, kr_list_list, kr_list_tuple, kr_list_dict, kr_tuple_bool, kr_tuple_int, kr_tuple_str, kr_tuple_list, kr_tuple_tuple, kr_tuple_dict, kr_dict_bool, kr_dict_int, kr_dict_str, kr_dict_list, kr_dict_tuple, kr_dict_dict, dVar, dC_n, dC_b, dC_i, dC_s, dC_t, dC_r, dOp, dUn, dNil, dCons, dStar, dStarT, dTup, dLst, dLstO, dAnd, dOr, dNot, dIf, dTest, dYes, dChain, dCall, dNext, dCut, dSeq, dDrop, dRet, dRetN, dIfS, dName, sgnil_e, sgcons_e, dGtup, dAsg, dAug, dWhile, dFor, dLc, dLcO, dLc2, dDc, dI0, dIC, dEq, dIsN, isNonW, noPy, dAddS, dMulS, dCat, dCatT, dInT, dInLI, dInTI, dInS, dIxL, dIxT, dIxS, dNeg, dNoPart, dPart, dSl, dSlL, dSlT, dSlS, dRev, dDGet, dDIn, dDNew, dDNewS, dsDPut, dgSub, dSetL, isLW, dLM, dLM0, dAppend, dPopAt, dExtend, dPop, dLen, dTupL, dLstL, dAbs, dIntB, dMin2, dMax2, dMaxL, dCKw, dMaxT, dFn, dList, dTupI, dStrI, dR1, dR2, dEnum, dTAnd, dTOr, dTNot, varR_e, intW_e, blW_e, strW_e, shW_e, tyW_e, tupW_e, tupW_n, tup0W_e, lookL_e, lookD_e, lookR_e, lookR_l, seqW_e, seqW_p, dicW_e, dicW_p, ownL_p, ownD_p, keyW_i, keyW_s, one1W_e, two2W_e, shsW_nil, shsW_cons, shsW_app, shsW_map, intsD_nil, intsD_cons, intsD_map, strsD_map, cWR_n, cWR_b, cWR_i, cWR_s, flW_n, flW_b, flW_i, flW_s, fls_nil, fls_n, fls_b, fls_i, fls_s, lenW_l, lenW_d, lenW_t, lenW_n, lenW_s, lenW_p, lenO'_l, lenO'_d, atR_0, atR_1, atR_2, atR_3, atR_4, lenOk_0, lenOk_1, lenOk_2, lenOk_3, lenOk_4, lenOk_5, look_hd, put_c, put_n, notins_nil, startG, scal, List.map, List.replicate, List.length_cons, List.length_nil, List.cons_append, List.nil_append, List.append_nil, List.getElem?_cons_zero, List.getElem?_cons_succ, List.set_cons_zero, List.set_cons_succ, wipeG, true_and, and_true, if_true, if_false, decide_eq_true_eq, reduceCtorEq, reduceIte, Bool.false_eq_true, decide_true, decide_false, Bool.true_and, Bool.false_and, Bool.and_true, Bool.and_false, Bool.not_true, Bool.not_false, V.int.injEq, V.str.injEq, V.bl.injEq, Nat.reduceAdd, Nat.reduceSub, Nat.reduceLT, Int.reduceEq, Int.reduceLT, Int.reduceLE, Int.reduceAdd, Int.reduceSub, Int.cast_ofNat_Int, $a,*])
  | `(tactic| push_cast [$a,*]) => `(tactic| ((repeat refine LaterD.mk ?_); push_cast only [$a,*]; repeat ((refine LaterD.mk ?_); (repeat refine LaterD.mk ?_); push_cast only [$a,*])))
/-! what is looked at of rules, good or not -/
def rowB (s : Str) : Bool := decide (1 ≤ s.length) && decide (s.length ≤ 12) && s.cps.toList.all fun c => decide (c = 48) || decide (c = 49)
theorem str1 {c d : Nat} : ((⟨#[c]⟩ : Str) = ⟨#[d]⟩) = (c = d) := by simp
theorem in01 (c : Nat) : inV (.str ⟨#[c]⟩) [.str "0", .str "1"] = (decide (c = 48) || decide (c = 49)) := by
  have e0 : (Str.ofString "0") = ⟨#[48]⟩ := by decide +kernel
  have e1 : (Str.ofString "1") = ⟨#[49]⟩ := by decide +kernel
  show inV (.str ⟨#[c]⟩) [.str (Str.ofString "0"), .str (Str.ofString "1")] = _
  rw [e0, e1]
  by_cases h0 : c = 48
  · subst h0; decide +kernel
  · by_cases h1 : c = 49
    · subst h1; decide +kernel
    · rw [decide_eq_false h0, decide_eq_false h1]
      have n1 : ∀ d : Nat, c ≠ d → ((⟨#[d]⟩ : Str) == ⟨#[c]⟩) = false := fun d h => by
        cases q : ((⟨#[d]⟩ : Str) == ⟨#[c]⟩) with
        | false => rfl
        | true =>
          have z : (⟨#[d]⟩ : Str) = ⟨#[c]⟩ := by first | exact eq_of_beq q | exact of_decide_eq_true q
          rw [str1] at z
          exact absurd z.symm h
      show ((((⟨#[48]⟩ : Str) == ⟨#[c]⟩) || (((⟨#[49]⟩ : Str) == ⟨#[c]⟩) || false)) : Bool) = false
      rw [n1 _ h0, n1 _ h1]
      rfl
def rowsB (rs : List Str) (many : Int) : Bool := decide ((rs.length : Int) = many) && rs.all fun r => rowB r && decide (r.length = (rs.headD Str.empty).length)
section
variable {P : Program} {w : World} {K : PySem.W.Frag} {mg : Str → Option Value} {base : Heap} {A : Ad} {Z : XA} {am : Am}
theorem sc_is_whole : FnScope ["number", "least", "most"] ["number", "least", "most"] (defScope s_is_whole) := ⟨rfl, rfl, rfl, by decide +kernel, rfl, by decide +kernel, by decide +kernel⟩
theorem ok_is_whole (T : Txt K mg base A) : FnOk P w K mg base CX0 1 A.is_whole A.d_is_whole ["number", "least", "most"] (spD K am0 (fun ws Q => ∃ i lo hi : Int, ws = [.sh (.int i), .sh (.int lo), .sh (.int hi)] ∧ Q (.sh (.bl (decide (lo ≤ i) && decide (i ≤ hi)))) [])) := by
  refine T.F_is_whole.ok sc_is_whole (fun vs H Q E h => by
    obtain ⟨_, ws, Qd, _, _, _, hv, hsp, _⟩ := h
    obtain ⟨i, lo, hi, rfl, _⟩ := hsp
    exact hv.len.symm) (fun cdv A' outer s H vs Q E hr h => ?_)
  have hu := hu_of hr
  refine spD_run (td := ?td) h (qs_cons (q_if (PW.pt (pw_or (q_val (pe_callB c_isi (by rfl) T.m_isinstance (by decide +kernel) (pa_cons (qv 0) (pa_cons (pe_bltn (v := .ty "bool") (by rfl) T.m_bool (by decide +kernel) rfl) pa_nil)))) (pw_or1 (pt_not (q_val (pe_callB c_isi (by rfl) T.m_isinstance (by decide +kernel) (pa_cons (qv 0) (pa_cons (pe_bltn (v := .ty "int") (by rfl) T.m_int (by decide +kernel) rfl) pa_nil)))))))) (pss_one (ps_ret pe_bl)) pss_nil)
    (pss_one (ps_ret (q_chain o_le o_le (qv 1) (qv 0) (qv 2))))) ?hs ?hD
  case hs => (try simp only [cx_K, cx_prog, cx_w, blkK]); exact inferInstance
  rintro ws Qd ⟨i, lo, hi, rfl, kk⟩
  push_cast []
  refine ite2 (fun h => ?_) (fun h => ?_)
  · rw [decide_eq_true h, Bool.true_and] at kk
    exact .sh kk
  · rw [decide_eq_false h, Bool.false_and] at kk
    exact .sh kk
theorem sc_check_many : FnScope ["many"] ["many"] (defScope s_check_many) := ⟨rfl, rfl, rfl, by decide +kernel, rfl, by decide +kernel, by decide +kernel⟩
theorem ok_check_many (T : Txt K mg base A) : FnOk P w K mg base CX0 2 A.check_many A.d_check_many ["many"] (spD K am0 (fun ws Q => ∃ n : Nat, ws = [.sh (.int n)] ∧ (1 ≤ n ∧ n ≤ 8) ∧ Q (.sh .non) [])) := by
  refine T.F_check_many.ok sc_check_many (fun vs H Q E h => by
    obtain ⟨_, ws, Qd, _, _, _, hv, hsp, _⟩ := h
    obtain ⟨n, rfl, _⟩ := hsp
    exact hv.len.symm) (fun cdv A' outer s H vs Q E hr h => ?_)
  have hu := hu_of hr
  refine spD_run (td := ?td) h (pss_one (q_if (pt_not (q_val (q_call (ok_is_whole T) (hr.mono (by decide)) rfl T.g_is_whole T.k_is_whole T.b_is_whole pass0 (pa_cons (qv 0) (pa_cons pe_int (pa_cons (q_gi rfl T.c_MOST_STATIONS) pa_nil)))))) (pss_one ps_never) pss_nil)) ?hs ?hD
  case hs => (try simp only [cx_K, cx_prog, cx_w, blkK]); exact inferInstance
  rintro ws Qd ⟨n, rfl, hn, kk⟩
  push_cast []
  rw [decide_eq_true (by omega), decide_eq_true (by omega)]
  push_cast []
  exact kk
theorem sc_is_row : FnScope ["row", "sign"] ["row"] (defScope s_is_row) := ⟨rfl, rfl, rfl, by decide +kernel, rfl, by decide +kernel, by decide +kernel⟩
theorem ok_is_row (T : Txt K mg base A)[AmJ am] [TabIn1 A.p_is_row am] : FnOk P w K mg base CX0 3 A.is_row A.d_is_row ["row"] (spD K am (fun ws Q => ∃ s : Str, ws = [.sh (.str s)] ∧ s.length ≤ 1000 ∧ Q (.sh (.bl (rowB s))) [])) := by
  refine okC T.F_is_row T.h_is_row sc_is_row (fun vs H Q E h => by
    obtain ⟨_, ws, Qd, _, _, _, hv, hsp, _⟩ := h
    obtain ⟨s, rfl, _⟩ := hsp
    exact hv.len.symm) (fun cdv A' outer s H vs Q E hcd hr h => ?_)
  have hu := hu_of hr
  refine spD_run (td := ?td) h (qs_cons (q_if (PW.pt (pw_or (pt_not (q_val (pe_callB c_isi (by rfl) T.m_isinstance (by decide +kernel) (pa_cons (qv 0) (pa_cons (pe_bltn (v := .ty "str") (by rfl) T.m_str (by decide +kernel) rfl) pa_nil))))) (pw_or1 (pt_not (q_tchain o_le o_le pe_int (pe_callB c_len (by rfl) T.m_len (by decide +kernel) (pa_cons (qv 0) pa_nil)) (q_gi rfl T.c_MOST_SIGNS)))))) (pss_one (ps_ret pe_bl)) pss_nil)
    (pss_one (ps_ret (pe_allG (k := _) hr rfl T.m_all rfl T.q_is_row hcd (gs_by (sc := defScope s_is_row) (by decide +kernel)) (gn_by (XN := ["row", "sign"]) (sc := defScope s_is_row) (N := ["sign"]) (sl := [none]) (by decide +kernel)) (qi_str (qv 0)) (fun _ _ _ _ _ _ _ _ => (pg_name (i := 0) (show List.Nodup (α := Str) ["sign"] by decide +kernel) rfl (Or.inl rfl))) (fun _ _ _ _ _ _ _ _ hr => have hu := hu_of hr; (pe_cmpR o_inT (qv 0) (pe_tup (pa_cons pe_str (pa_cons pe_str pa_nil))) (by rfl))) (fun _ => rfl))))) ?hs ?hD
  case hs => (try simp only [cx_K, cx_prog, cx_w, blkK]); exact inferInstance
  rintro ws Qd ⟨s, rfl, hs, kk⟩
  push_cast []
  refine ⟨by rw [sizeLine_eq]; omega, ?_⟩
  by_cases h1 : 1 ≤ s.length
  · rw [if_pos (by omega)]
    by_cases h2 : s.length ≤ 12
    · rw [if_neg (by rw [decide_eq_true (by omega)]; decide)]
      push_cast [dAllG, wipeG, gxG]
      refine ⟨fun _ h => h, atB s.cps.toList fun c => decide (c = 48) || decide (c = 49), fun i w hw => ?_, ?_⟩
      · obtain ⟨c, hc, rfl, e⟩ := at_map (fun c => decide (c = 48) || decide (c = 49)) hw
        rw [e]
        push_cast []
        exact in01 c
      · rw [all_atB]
        unfold rowB at kk
        rw [decide_eq_true h1, decide_eq_true h2] at kk
        exact .sh kk
    · rw [if_pos (by rw [decide_eq_false (by omega)]; rfl)]
      push_cast []
      unfold rowB at kk
      rw [decide_eq_false h2, Bool.and_false, Bool.false_and] at kk
      exact .sh kk
  · rw [if_neg (by omega)]
    push_cast []
    unfold rowB at kk
    rw [decide_eq_false h1, Bool.false_and, Bool.false_and] at kk
    exact .sh kk
theorem sc_are_rows : FnScope ["rows", "many", "row"] ["rows", "many"] (defScope s_are_rows) := ⟨rfl, rfl, rfl, by decide +kernel, rfl, by decide +kernel, by decide +kernel⟩
theorem ok_are_rows (T : Txt K mg base A)[AmJ am] [TabIn1 A.p_are_rows am] [TabIn1 A.p_is_row am] : FnOk P w K mg base CX0 5 A.are_rows A.d_are_rows ["rows", "many"] (spD K am (fun ws Q => ∃ (rs : List Str) (many : Int), ws = [.sh (.tup (rs.map .str)), .sh (.int many)] ∧ (rs.length ≤ 1000 ∧ ∀ r ∈ rs, r.length ≤ 1000) ∧ Q (.sh (.bl (rowsB rs many))) [])) := by
  refine okC T.F_are_rows T.h_are_rows sc_are_rows (fun vs H Q E h => by
    obtain ⟨_, ws, Qd, _, _, _, hv, hsp, _⟩ := h
    obtain ⟨rs, many, rfl, _⟩ := hsp
    exact hv.len.symm) (fun cdv A' outer s H vs Q E hcd hr h => ?_)
  have hu := hu_of hr
  refine spD_run (td := ?td) h (qs_cons (q_if (PW.pt (pw_or (pt_not (q_val (pe_callB c_isi (by rfl) T.m_isinstance (by decide +kernel) (pa_cons (qv 0) (pa_cons (pe_bltn (v := .ty "tuple") (by rfl) T.m_tuple (by decide +kernel) rfl) pa_nil))))) (pw_or1 (q_cmp op_ne (pe_callB c_len (by rfl) T.m_len (by decide +kernel) (pa_cons (qv 0) pa_nil)) (qv 1) (nomark _))))) (pss_one (ps_ret pe_bl)) pss_nil)
    (pss_one (ps_ret (pe_allG (k := _) hr rfl T.m_all rfl T.q_are_rows hcd (gs_by (sc := defScope s_are_rows) (by decide +kernel)) (gn_by (XN := ["rows", "many", "row"]) (sc := defScope s_are_rows) (N := ["row", "rows"]) (sl := [none, some 0]) (by decide +kernel)) (qi_tup (qv 0)) (fun _ _ _ _ _ _ _ _ => (pg_name (i := 0) (show List.Nodup (α := Str) ["row", "rows"] by decide +kernel) rfl (Or.inl rfl))) (fun _ _ _ _ _ _ _ _ hr => have hu := hu_of hr; (q_and (q_call (ok_is_row (am := am) T) (hr.mono (by decide)) rfl T.g_is_row T.k_is_row T.b_is_row pass0 (pa_cons (qv 0) pa_nil)) (pe_one (pe_cmpR op_eq (pe_callB c_len (by rfl) T.m_len (by decide +kernel) (pa_cons (qv 0) pa_nil)) (pe_callB c_len (by rfl) T.m_len (by decide +kernel) (pa_cons (pe_ix ix_T (qv 1) pe_int (fun _ _ => rfl)) pa_nil)) (nomark _))))) (fun _ => rfl))))) ?hs ?hD
  case hs => (try simp only [cx_K, cx_prog, cx_w, blkK]); exact inferInstance
  rintro ws Qd ⟨rs, many, rfl, ⟨hl, hs⟩, kk⟩
  push_cast []
  rw [List.length_map]
  by_cases hm : (rs.length : Int) = many
  · rw [if_neg (by rw [decide_eq_true hm]; decide)]
    push_cast [dAllG, wipeG, gxG]
    rw [List.map_map]
    refine ⟨fun _ h => h, atB rs fun r => rowB r && decide (r.length = (rs.headD Str.empty).length), fun i w hw => ?_, ?_⟩
    · obtain ⟨r, hr1, rfl, e⟩ := at_map (f := W.sh ∘ D.str) (fun r => rowB r && decide (r.length = (rs.headD Str.empty).length)) hw
      rw [e]
      push_cast [Function.comp_apply]
      refine ⟨hs r hr1, ?_⟩
      cases q : rowB r with
      | false =>
        rw [if_neg (by decide)]
        rfl
      | true =>
        rw [if_pos rfl]
        cases rs with
        | nil => cases hr1
        | cons r0 rs =>
          push_cast []
          refine ⟨by have := hs r hr1; rw [sizeLine_eq]; omega, ?_⟩
          have e0 : L2.atI (D.str r0 :: rs.map D.str) 0 = some (D.str r0) := atI_nat (j := 0) rfl
          show atR (D.str r0 :: rs.map D.str) 0 _
          unfold atR
          rw [e0]
          show lenW [] (W.sh (D.str r0)) _
          push_cast []
          refine ⟨by have := hs r0 List.mem_cons_self; rw [sizeLine_eq]; omega, ?_⟩
          show decide ((r.length : Int) = (r0.length : Int)) = (true && decide (r.length = r0.length))
          rw [Bool.true_and]
          exact decide_eq_decide.mpr (by omega)
    · rw [all_atB]
      unfold rowsB at kk
      rw [decide_eq_true hm] at kk
      exact .sh kk
  · rw [if_pos (by rw [decide_eq_false hm]; rfl)]
    push_cast []
    unfold rowsB at kk
    rw [decide_eq_false hm, Bool.false_and] at kk
    exact .sh kk
end
end X
end OA

namespace OA
namespace X
open PySem PySem.Spec PyProof.Rows L2
local macro_rules
  | `(tactic| push_cast only [$a,*]) => `(tactic| simp -implicitDefEqProofs only [Int.toNat_natCast, List.cons.injEq, W.sh.injEq, D.int.injEq, D.str.injEq, D.bl.injEq, D.tup.injEq, D.lst.injEq, W.pt.injEq, and_assoc, exists_eq_left', exists_eq_left, exists_and_left, true_implies, dIsi, tn_n, tn_b, tn_i, tn_s, tn_t, tn_nt, tn_l, kr_NoneType_bool, kr_NoneType_int, kr_NoneType_str, kr_NoneType_list, kr_NoneType_tuple, kr_NoneType_dict, kr_bool_bool, kr_bool_int, kr_bool_str, kr_bool_list, kr_bool_tuple, kr_bool_dict, kr_int_bool, kr_int_int, kr_int_str, kr_int_list, kr_int_tuple, kr_int_dict, kr_str_bool, kr_str_int, kr_str_str, kr_str_list, kr_str_tuple, kr_str_dict, kr_list_bool, kr_list_int, kr_list_str, kr_list_list, kr_list_tuple, kr_list_dict, kr_tuple_bool, kr_tuple_int, kr_tuple_str, kr_tuple_list, kr_tuple_tuple, kr_tuple_dict, kr_dict_bool, kr_dict_int, kr_dict_str, kr_dict_list, kr_dict_tuple, kr_dict_dict, dVar, dC_n, dC_b, dC_i, dC_s, dC_t, dC_r, dOp, dUn, dNil, dCons, dStar, dStarT, dTup, dLst, dLstO, dAnd, dOr, dNot, dIf, dTest, dYes, dChain, dCall, dNext, dCut, dSeq, dDrop, dRet, dRetN, dIfS, dName, sgnil_e, sgcons_e, dGtup, dAsg, dAug, dWhile, dFor, dLc, dLcO, dLc2, dDc, dI0, dIC, dEq, dIsN, isNonW, noPy, dAddS, dMulS, dCat, dCatT, dInT, dInLI, dInTI, dInS, dIxL, dIxT, dIxS, dNeg, dNoPart, dPart, dSl, dSlL, dSlT, dSlS, dRev, dDGet, dDIn, dDNew, dDNewS, dsDPut, dgSub, dSetL, isLW, dLM, dLM0, dAppend, dPopAt, dExtend, dPop, dLen, dTupL, dLstL, dAbs, dIntB, dMin2, dMax2, dMaxL, dCKw, dMaxT, dFn, dList, dTupI, dStrI, dR1, dR2, dEnum, dTAnd, dTOr, dTNot, varR_e, intW_e, blW_e, strW_e, shW_e, tyW_e, tupW_e, tupW_n, tup0W_e, lookL_e, lookD_e, lookR_e, lookR_l, seqW_e, seqW_p, dicW_e, dicW_p, ownL_p, ownD_p, keyW_i, keyW_s, one1W_e, two2W_e, shsW_nil, shsW_cons, shsW_app, shsW_map, intsD_nil, intsD_cons, intsD_map, strsD_map, cWR_n, cWR_b, cWR_i, cWR_s, flW_n, flW_b, flW_i, flW_s, fls_nil, fls_n, fls_b, fls_i, fls_s, lenW_l, lenW_d, lenW_t, lenW_n, lenW_s, lenW_p, lenO'_l, lenO'_d, atR_0, atR_1, atR_2, atR_3, atR_4, lenOk_0, lenOk_1, lenOk_2, lenOk_3, lenOk_4, lenOk_5, look_hd, put_c, put_n, notins_nil, startG, scal, List.map, List.replicate, List.length_cons, List.length_nil, List.cons_append, List.nil_append, List.append_nil, List.getElem?_cons_zero, List.getElem?_cons_succ, List.set_cons_zero, List.set_cons_succ, wipeG, true_and, and_true, if_true, if_false, decide_eq_true_eq, reduceCtorEq, reduceIte, Bool.false_eq_true, decide_true, decide_false, Bool.true_and, Bool.false_and, Bool.and_true, Bool.and_false, Bool.not_true, Bool.not_false, V.int.injEq, V.str.injEq, V.bl.injEq, Nat.reduceAdd, Nat.reduceSub, Nat.reduceLT, Int.reduceEq, Int.reduceLT, Int.reduceLE, Int.reduceAdd, Int.reduceSub, Int.cast_ofNat_Int, $a,*])
  | `(tactic| push_cast [$a,*]) => `(tactic| ((repeat refine LaterD.mk ?_); push_cast only [$a,*]; repeat ((refine LaterD.mk ?_); (repeat refine LaterD.mk ?_); push_cast only [$a,*])))
/-! (word, count) in SHAPES -/
def shapeB (s : Str) (n : Int) : Bool := (decide (s = "turns") && decide (n = 1)) || ((decide (s = "rows") && decide (n = 2)) || ((decide (s = "tree") && decide (n = 3)) || (decide (s = "waits") && decide (n = 2))))
theorem str_beq (a b : Str) : (a == b) = decide (b = a) := by
  by_cases h : b = a
  · subst h
    rw [decide_eq_true rfl]
    first | exact beq_self_eq_true _ | exact decide_eq_true rfl
  · rw [decide_eq_false h]
    cases q : (a == b) with
    | false => rfl
    | true => exact absurd ((by first | exact eq_of_beq q | exact of_decide_eq_true q) : a = b).symm h
theorem eqv_pair (a b : Str) (i j : Int) : PyData.eqv (.tuple [.str a, .int i]) (.tuple [.str b, .int j]) = (decide (b = a) && decide (j = i)) := by
  show ((a == b) && ((i == j) && true)) = _
  rw [str_beq, Bool.and_true, show (i == j) = decide (j = i) from by
    by_cases h : j = i
    · subst h; simp
    · rw [decide_eq_false h]; simp; omega]
theorem shapes_any (s : Str) (n : Int) : ([PyData.tuple [.str "turns", .int 1], .tuple [.str "rows", .int 2], .tuple [.str "tree", .int 3], .tuple [.str "waits", .int 2]].any fun z => PyData.eqv z (.tuple [.str s, .int n])) = shapeB s n := by
  simp only [List.any_cons, List.any_nil, eqv_pair, Bool.or_false]
  rfl
def rSh (q : Addr) (neg : Bool) : R2 := fun x y H Q => ∃ (p : Addr) (s : Str) (n : Int), x = .ref p ∧ H p = some (.tup [.str s, .int n]) ∧ y = .ref q ∧ PyData.strOk s = true ∧ Q (.bl (if neg then !shapeB s n else shapeB s n)) H
section
variable {X : Cx} {A : Ad}
theorem o_inSh (T : Txt X.K X.mg X.base A) (hu : X.A.units + 65 < cLine) : OpR X (compareOp .In) (rSh A.v_SHAPES false) := im_op (op_inDT hu) fun x y H Q ⟨p, s, n, ex, hp, ey, hs, q⟩ => by
  subst ex ey
  refine ⟨.tuple [.str s, .int n], _, .tup (SqT.of hp) (.cons (.str _) (.cons (.int _) .nil)), T.x_SHAPES _, by simp [SeqAt.shaped, PyData.canLay0, PyData.canLayAll0, PyData.depth, PyData.depthAll, hs], by decide +kernel, ?_⟩
  rw [shapes_any]
  exact q
theorem o_notInSh (T : Txt X.K X.mg X.base A) (hu : X.A.units + 65 < cLine) : OpR X (compareOp .NotIn) (rSh A.v_SHAPES true) := by
  rintro pins st σ H x y v u Q I rx ry ⟨p, s, n, ex, hp, ey, hs, q⟩
  subst ex ey
  have dx : Dp X.K H (.ref p) (.tuple [.str s, .int n]) := .tup (SqT.of hp) (.cons (.str _) (.cons (.int _) .nil))
  obtain ⟨as, r1⟩ := Dp.reads I _ _ v dx rx
  obtain ⟨bs, r2⟩ := Dp.reads I _ _ u (T.x_SHAPES _) ry
  have s1 : SeqAt.shaped (.tuple [.str s, .int n]) = true := by simp [SeqAt.shaped, PyData.canLay0, PyData.canLayAll0, PyData.depth, PyData.depthAll, hs]
  have s2 : SeqAt.shaped (.tuple [PyData.tuple [.str "turns", .int 1], .tuple [.str "rows", .int 2], .tuple [.str "tree", .int 3], .tuple [.str "waits", .int 2]]) = true := by decide +kernel
  have h1 := SeqAt.canLay_of_shaped s2
  refine SeqAt.notIn_tuple_reads r2 r1 h1 (SeqAt.canLay_of_shaped s1) (room_in_shaped s1 hu) ⟨.bl _, H, I, rfl, ?_⟩
  rw [shapes_any]
  exact q
end
section
variable {K : PySem.W.Frag} {am : Am}
def dSh (q : Addr) (neg : Bool) (wx wy : W) (Ω : Om) (Q : DQ) : Prop := wy = .pt q ∧ tup0W wx fun ds => ∃ s n, ds = [.str s, .int n] ∧ PyData.strOk s = true ∧ Q (.sh (.bl (if neg then !shapeB s n else shapeB s n))) Ω
instance r_sh {q : Addr} {neg : Bool} : SR2 K am (rSh q neg) (dSh q neg) := ⟨fun {c T σ Γ Ω H x y wx wy Q R} e hx hy h k => by
  obtain ⟨rfl, h⟩ := h
  obtain rfl : y = .ref q := hy
  obtain ⟨ds, rfl, s, n, rfl, hs, h2⟩ := tup0W_el h
  obtain ⟨a, vs, rfl, _, ha, v1, r1, rfl, g1, v2, r2, rfl, g2, rfl⟩ := hx
  obtain rfl : v1 = .str _ := g1
  obtain rfl : v2 = .int _ := g2
  exact ⟨a, s, n, rfl, ha, rfl, hs, k _ _ _ _ h2 (e.addv rfl)⟩⟩
end
section
variable {P : Program} {w : World} {K : PySem.W.Frag} {mg : Str → Option Value} {base : Heap} {A : Ad} {Z : XA} {am : Am}
theorem sc_has_shape : FnScope ["parts", "shapes"] ["parts", "shapes"] (defScope s_has_shape) := ⟨rfl, rfl, rfl, by decide +kernel, rfl, by decide +kernel, by decide +kernel⟩
theorem ok_has_shape (T : Txt K mg base A) : FnOk P w K mg base CX0 1 A.has_shape A.d_has_shape ["parts", "shapes"] (spD K am0 (fun ws Q => ∃ (s : Str) (ps : List D), ws = [.sh (.tup (.str s :: ps)), .pt A.v_SHAPES] ∧ PyData.strOk s = true ∧ Q (.sh (.bl (shapeB s (ps.length + 1 : Nat)))) [])) := by
  refine T.F_has_shape.ok sc_has_shape (fun vs H Q E h => by
    obtain ⟨_, ws, Qd, _, _, _, hv, hsp, _⟩ := h
    obtain ⟨s, ps, rfl, _⟩ := hsp
    exact hv.len.symm) (fun cdv A' outer s H vs Q E hr h => ?_)
  have hu := hu_of hr
  refine spD_run (td := ?td) h (qs_cons (q_if (PW.pt (pw_or (pt_not (q_val (pe_callB c_isi (by rfl) T.m_isinstance (by decide +kernel) (pa_cons (qv 0) (pa_cons (pe_bltn (v := .ty "tuple") (by rfl) T.m_tuple (by decide +kernel) rfl) pa_nil))))) (pw_or1 (q_cmp op_eq (pe_callB c_len (by rfl) T.m_len (by decide +kernel) (pa_cons (qv 0) pa_nil)) pe_int (nomark _))))) (pss_one (ps_ret pe_bl)) pss_nil)
    (pss_one (ps_ret (pe_cmpR (o_inSh T hr.units1) (pe_tup (pa_cons (pe_ix ix_T (qv 0) pe_int (fun _ _ => rfl)) (pa_cons (pe_callB c_len (by rfl) T.m_len (by decide +kernel) (pa_cons (qv 0) pa_nil)) pa_nil))) (qv 1) (by rfl))))) ?hs ?hD
  case hs => (try simp only [cx_K, cx_prog, cx_w, blkK]); exact inferInstance
  rintro ws Qd ⟨s, ps, rfl, hs, kk⟩
  push_cast []
  exact ⟨rfl, s, _, rfl, hs, .sh kk⟩
end
end X
end OA

namespace OA
namespace X
open PySem PySem.Spec PyProof.Rows L2
local macro_rules
  | `(tactic| push_cast only [$a,*]) => `(tactic| simp -implicitDefEqProofs only [Int.toNat_natCast, List.cons.injEq, W.sh.injEq, D.int.injEq, D.str.injEq, D.bl.injEq, D.tup.injEq, D.lst.injEq, W.pt.injEq, and_assoc, exists_eq_left', exists_eq_left, exists_and_left, true_implies, dIsi, tn_n, tn_b, tn_i, tn_s, tn_t, tn_nt, tn_l, kr_NoneType_bool, kr_NoneType_int, kr_NoneType_str, kr_NoneType_list, kr_NoneType_tuple, kr_NoneType_dict, kr_bool_bool, kr_bool_int, kr_bool_str, kr_bool_list, kr_bool_tuple, kr_bool_dict, kr_int_bool, kr_int_int, kr_int_str, kr_int_list, kr_int_tuple, kr_int_dict, kr_str_bool, kr_str_int, kr_str_str, kr_str_list, kr_str_tuple, kr_str_dict, kr_list_bool, kr_list_int, kr_list_str, kr_list_list, kr_list_tuple, kr_list_dict, kr_tuple_bool, kr_tuple_int, kr_tuple_str, kr_tuple_list, kr_tuple_tuple, kr_tuple_dict, kr_dict_bool, kr_dict_int, kr_dict_str, kr_dict_list, kr_dict_tuple, kr_dict_dict, dVar, dC_n, dC_b, dC_i, dC_s, dC_t, dC_r, dOp, dUn, dNil, dCons, dStar, dStarT, dTup, dLst, dLstO, dAnd, dOr, dNot, dIf, dTest, dYes, dChain, dCall, dNext, dCut, dSeq, dDrop, dRet, dRetN, dIfS, dName, sgnil_e, sgcons_e, dGtup, dAsg, dAug, dWhile, dFor, dLc, dLcO, dLc2, dDc, dI0, dIC, dEq, dIsN, isNonW, noPy, dAddS, dMulS, dCat, dCatT, dInT, dInLI, dInTI, dInS, dIxL, dIxT, dIxS, dNeg, dNoPart, dPart, dSl, dSlL, dSlT, dSlS, dRev, dDGet, dDIn, dDNew, dDNewS, dsDPut, dgSub, dSetL, isLW, dLM, dLM0, dAppend, dPopAt, dExtend, dPop, dLen, dTupL, dLstL, dAbs, dIntB, dMin2, dMax2, dMaxL, dCKw, dMaxT, dFn, dList, dTupI, dStrI, dR1, dR2, dEnum, dTAnd, dTOr, dTNot, varR_e, intW_e, blW_e, strW_e, shW_e, tyW_e, tupW_e, tupW_n, tup0W_e, lookL_e, lookD_e, lookR_e, lookR_l, seqW_e, seqW_p, dicW_e, dicW_p, ownL_p, ownD_p, keyW_i, keyW_s, one1W_e, two2W_e, shsW_nil, shsW_cons, shsW_app, shsW_map, intsD_nil, intsD_cons, intsD_map, strsD_map, cWR_n, cWR_b, cWR_i, cWR_s, flW_n, flW_b, flW_i, flW_s, fls_nil, fls_n, fls_b, fls_i, fls_s, lenW_l, lenW_d, lenW_t, lenW_n, lenW_s, lenW_p, lenO'_l, lenO'_d, atR_0, atR_1, atR_2, atR_3, atR_4, lenOk_0, lenOk_1, lenOk_2, lenOk_3, lenOk_4, lenOk_5, look_hd, put_c, put_n, notins_nil, startG, scal, List.map, List.replicate, List.length_cons, List.length_nil, List.cons_append, List.nil_append, List.append_nil, List.getElem?_cons_zero, List.getElem?_cons_succ, List.set_cons_zero, List.set_cons_succ, wipeG, true_and, and_true, if_true, if_false, decide_eq_true_eq, reduceCtorEq, reduceIte, Bool.false_eq_true, decide_true, decide_false, Bool.true_and, Bool.false_and, Bool.and_true, Bool.and_false, Bool.not_true, Bool.not_false, V.int.injEq, V.str.injEq, V.bl.injEq, Nat.reduceAdd, Nat.reduceSub, Nat.reduceLT, Int.reduceEq, Int.reduceLT, Int.reduceLE, Int.reduceAdd, Int.reduceSub, Int.cast_ofNat_Int, $a,*])
  | `(tactic| push_cast [$a,*]) => `(tactic| ((repeat refine LaterD.mk ?_); push_cast only [$a,*]; repeat ((refine LaterD.mk ?_); (repeat refine LaterD.mk ?_); push_cast only [$a,*])))
/-! what is wrong with a rule -/
inductive RX where
  | odd (s : Str) (ps : List D)
  | turns
  | rows (rs : List Str)
  | tree (a b : Str)
  | waits (i : Int)
def RX.d : RX → D
  | .odd s ps => .tup (.str s :: ps)
  | .turns => .tup [.str "turns"]
  | .rows rs => .tup [.str "rows", .tup (rs.map .str)]
  | .tree a b => .tup [.str "tree", .str a, .str b]
  | .waits i => .tup [.str "waits", .int i]
def RX.Ok : RX → Prop
  | .odd s ps => PyData.strOk s = true ∧ shapeB s (ps.length + 1 : Nat) = false
  | .rows rs => rs.length ≤ 1000 ∧ ∀ r ∈ rs, r.length ≤ 1000
  | _ => True
def howB (a : Str) : Bool := decide (a = "plain") || decide (a = "skips")
def lateB (a : Str) : Bool := decide (a = "waits") || decide (a = "joins")
def RX.fault (many : Int) : RX → Option Str
  | .odd _ _ => some "rule"
  | .turns => none
  | .rows rs => if rowsB rs many then none else some "rows"
  | .tree a b => if howB a then (if lateB b then none else some "late") else some "how"
  | .waits i => if decide (2 ≤ i) && decide (i ≤ 4) then none else some "base"
def RX.end_ (r : RX) (many : Int) (Q : DQ) (Xd : XD → Prop) : Prop := match r.fault many with
  | none => Q (.sh .non) []
  | some s => Xd (.rule s)
def optD : Option Str → D
  | none => .non
  | some s => .str s
theorem fl_rows (rs : List Str) (many : Int) : (RX.rows rs).fault many = if rowsB rs many then none else some (Str.ofString "rows") := rfl
theorem fl_tree (a b : Str) (many : Int) : (RX.tree a b).fault many = if howB a then (if lateB b then none else some (Str.ofString "late")) else some (Str.ofString "how") := rfl
theorem fl_waits (i many : Int) : (RX.waits i).fault many = if decide (2 ≤ i) && decide (i ≤ 4) then none else some (Str.ofString "base") := rfl
theorem in2 (a x y : Str) : inV (.str a) [.str x, .str y] = (decide (a = x) || decide (a = y)) := by
  show ((x == a) || ((y == a) || false)) = _
  rw [Bool.or_false, str_beq, str_beq]
theorem nq_turns_rows : (Str.ofString "turns" = Str.ofString "rows") = False := by simp only [eq_iff_iff, iff_false]; decide +kernel
theorem nq_turns_tree : (Str.ofString "turns" = Str.ofString "tree") = False := by simp only [eq_iff_iff, iff_false]; decide +kernel
theorem nq_turns_waits : (Str.ofString "turns" = Str.ofString "waits") = False := by simp only [eq_iff_iff, iff_false]; decide +kernel
theorem nq_rows_turns : (Str.ofString "rows" = Str.ofString "turns") = False := by simp only [eq_iff_iff, iff_false]; decide +kernel
theorem nq_rows_tree : (Str.ofString "rows" = Str.ofString "tree") = False := by simp only [eq_iff_iff, iff_false]; decide +kernel
theorem nq_rows_waits : (Str.ofString "rows" = Str.ofString "waits") = False := by simp only [eq_iff_iff, iff_false]; decide +kernel
theorem nq_tree_turns : (Str.ofString "tree" = Str.ofString "turns") = False := by simp only [eq_iff_iff, iff_false]; decide +kernel
theorem nq_tree_rows : (Str.ofString "tree" = Str.ofString "rows") = False := by simp only [eq_iff_iff, iff_false]; decide +kernel
theorem nq_tree_waits : (Str.ofString "tree" = Str.ofString "waits") = False := by simp only [eq_iff_iff, iff_false]; decide +kernel
theorem nq_waits_turns : (Str.ofString "waits" = Str.ofString "turns") = False := by simp only [eq_iff_iff, iff_false]; decide +kernel
theorem nq_waits_rows : (Str.ofString "waits" = Str.ofString "rows") = False := by simp only [eq_iff_iff, iff_false]; decide +kernel
theorem nq_waits_tree : (Str.ofString "waits" = Str.ofString "tree") = False := by simp only [eq_iff_iff, iff_false]; decide +kernel
section
variable {P : Program} {w : World} {K : PySem.W.Frag} {mg : Str → Option Value} {base : Heap} {A : Ad} {Z : XA} {am : Am}
theorem sc_fault_of : FnScope ["rule", "many"] ["rule", "many"] (defScope s_fault_of) := ⟨rfl, rfl, rfl, by decide +kernel, rfl, by decide +kernel, by decide +kernel⟩
theorem ok_fault_of (T : Txt K mg base A)[AmJ am] [TabIn1 A.p_are_rows am] [TabIn1 A.p_is_row am] : FnOk P w K mg base CX0 6 A.fault_of A.d_fault_of ["rule", "many"] (spD K am (fun ws Q => ∃ (r : RX) (many : Int), ws = [.sh r.d, .sh (.int many)] ∧ r.Ok ∧ Q (.sh (optD (r.fault many))) [])) := by
  refine T.F_fault_of.ok sc_fault_of (fun vs H Q E h => by
    obtain ⟨_, ws, Qd, _, _, _, hv, hsp, _⟩ := h
    obtain ⟨r, many, rfl, _⟩ := hsp
    exact hv.len.symm) (fun cdv A' outer s H vs Q E hr h => ?_)
  have hu := hu_of hr
  refine spD_run (td := ?td) h (qs_cons (q_if (pt_not (q_val (q_call (ok_has_shape T) (hr.mono (by decide)) rfl T.g_has_shape T.k_has_shape T.b_has_shape pass0 (pa_cons (qv 0) (pa_cons (q_gr rfl T.c_SHAPES) pa_nil))))) (pss_one (ps_ret pe_str)) pss_nil)
    (qs_cons (q_if (PW.pt (pw_and (q_cmp op_eq (pe_ix ix_T (qv 0) pe_int (fun _ _ => rfl)) pe_str (nomark _)) (pw_and1 (pt_not (q_val (q_call (ok_are_rows (am := am) T) (hr.mono (by decide)) rfl T.g_are_rows T.k_are_rows T.b_are_rows pass0 (pa_cons (pe_ix ix_T (qv 0) pe_int (fun _ _ => rfl)) (pa_cons (qv 1) pa_nil)))))))) (pss_one (ps_ret pe_str)) pss_nil)
    (qs_cons (q_if (PW.pt (pw_and (q_cmp op_eq (pe_ix ix_T (qv 0) pe_int (fun _ _ => rfl)) pe_str (nomark _)) (pw_and1 (q_cmp o_notInT (pe_ix ix_T (qv 0) pe_int (fun _ _ => rfl)) (pe_tup (pa_cons pe_str (pa_cons pe_str pa_nil))) (by rfl))))) (pss_one (ps_ret pe_str)) pss_nil)
    (qs_cons (q_if (PW.pt (pw_and (q_cmp op_eq (pe_ix ix_T (qv 0) pe_int (fun _ _ => rfl)) pe_str (nomark _)) (pw_and1 (q_cmp o_notInT (pe_ix ix_T (qv 0) pe_int (fun _ _ => rfl)) (pe_tup (pa_cons pe_str (pa_cons pe_str pa_nil))) (by rfl))))) (pss_one (ps_ret pe_str)) pss_nil)
    (qs_cons (q_if (PW.pt (pw_and (q_cmp op_eq (pe_ix ix_T (qv 0) pe_int (fun _ _ => rfl)) pe_str (nomark _)) (pw_and1 (pt_not (q_val (q_call (ok_is_whole T) (hr.mono (by decide)) rfl T.g_is_whole T.k_is_whole T.b_is_whole pass0 (pa_cons (pe_ix ix_T (qv 0) pe_int (fun _ _ => rfl)) (pa_cons (q_gi rfl T.c_LEAST_BASE) (pa_cons (q_gi rfl T.c_MOST_BASE) pa_nil))))))))) (pss_one (ps_ret pe_str)) pss_nil)
    (pss_one (ps_ret pe_non))))))) ?hs ?hD
  case hs => (try simp only [cx_K, cx_prog, cx_w, blkK]); exact inferInstance
  rintro ws Qd ⟨r, many, rfl, hok, kk⟩
  cases r with
  | odd s ps =>
    obtain ⟨h1, h2⟩ := hok
    push_cast [RX.d]
    refine ⟨h1, ?_⟩
    rw [if_pos (by rw [h2]; rfl)]
    push_cast []
    exact .sh kk
  | turns =>
    push_cast [RX.d]
    refine ⟨by decide +kernel, ?_⟩
    rw [if_neg (by decide +kernel)]
    push_cast [nq_turns_rows, nq_turns_tree, nq_turns_waits, nq_rows_turns, nq_rows_tree, nq_rows_waits, nq_tree_turns, nq_tree_rows, nq_tree_waits, nq_waits_turns, nq_waits_rows, nq_waits_tree]
    exact .sh kk
  | rows rs =>
    push_cast [RX.d]
    refine ⟨by decide +kernel, ?_⟩
    rw [if_neg (by decide +kernel)]
    push_cast [nq_turns_rows, nq_turns_tree, nq_turns_waits, nq_rows_turns, nq_rows_tree, nq_rows_waits, nq_tree_turns, nq_tree_rows, nq_tree_waits, nq_waits_turns, nq_waits_rows, nq_waits_tree]
    refine ⟨rs, rfl, hok.1, hok.2, ?_⟩
    cases q : rowsB rs many with
    | true =>
      rw [if_neg (by decide)]
      push_cast [nq_turns_rows, nq_turns_tree, nq_turns_waits, nq_rows_turns, nq_rows_tree, nq_rows_waits, nq_tree_turns, nq_tree_rows, nq_tree_waits, nq_waits_turns, nq_waits_rows, nq_waits_tree]
      rw [show optD ((RX.rows rs).fault many) = .non from by rw [fl_rows, q]; rfl] at kk
      exact .sh kk
    | false =>
      rw [if_pos (by decide)]
      push_cast [nq_turns_rows, nq_turns_tree, nq_turns_waits, nq_rows_turns, nq_rows_tree, nq_rows_waits, nq_tree_turns, nq_tree_rows, nq_tree_waits, nq_waits_turns, nq_waits_rows, nq_waits_tree]
      rw [show optD ((RX.rows rs).fault many) = .str "rows" from by rw [fl_rows, q]; rfl] at kk
      exact .sh kk
  | tree a b =>
    push_cast [RX.d]
    refine ⟨by decide +kernel, ?_⟩
    rw [if_neg (by decide +kernel)]
    push_cast [nq_turns_rows, nq_turns_tree, nq_turns_waits, nq_rows_turns, nq_rows_tree, nq_rows_waits, nq_tree_turns, nq_tree_rows, nq_tree_waits, nq_waits_turns, nq_waits_rows, nq_waits_tree]
    rw [in2]
    cases q : howB a with
    | false =>
      rw [show (decide (a = "plain") || decide (a = "skips")) = false from q, if_pos (by decide)]
      push_cast [nq_turns_rows, nq_turns_tree, nq_turns_waits, nq_rows_turns, nq_rows_tree, nq_rows_waits, nq_tree_turns, nq_tree_rows, nq_tree_waits, nq_waits_turns, nq_waits_rows, nq_waits_tree]
      rw [show optD ((RX.tree a b).fault many) = .str "how" from by rw [fl_tree]; rw [q]; rfl] at kk
      exact .sh kk
    | true =>
      rw [show (decide (a = "plain") || decide (a = "skips")) = true from q, if_neg (by decide)]
      push_cast [nq_turns_rows, nq_turns_tree, nq_turns_waits, nq_rows_turns, nq_rows_tree, nq_rows_waits, nq_tree_turns, nq_tree_rows, nq_tree_waits, nq_waits_turns, nq_waits_rows, nq_waits_tree]
      rw [in2]
      cases q2 : lateB b with
      | false =>
        rw [show (decide (b = "waits") || decide (b = "joins")) = false from q2, if_pos (by decide)]
        push_cast [nq_turns_rows, nq_turns_tree, nq_turns_waits, nq_rows_turns, nq_rows_tree, nq_rows_waits, nq_tree_turns, nq_tree_rows, nq_tree_waits, nq_waits_turns, nq_waits_rows, nq_waits_tree]
        rw [show optD ((RX.tree a b).fault many) = .str "late" from by rw [fl_tree]; rw [q, q2]; rfl] at kk
        exact .sh kk
      | true =>
        rw [show (decide (b = "waits") || decide (b = "joins")) = true from q2, if_neg (by decide)]
        push_cast [nq_turns_rows, nq_turns_tree, nq_turns_waits, nq_rows_turns, nq_rows_tree, nq_rows_waits, nq_tree_turns, nq_tree_rows, nq_tree_waits, nq_waits_turns, nq_waits_rows, nq_waits_tree]
        rw [show optD ((RX.tree a b).fault many) = .non from by rw [fl_tree]; rw [q, q2]; rfl] at kk
        exact .sh kk
  | waits i =>
    push_cast [RX.d]
    refine ⟨by decide +kernel, ?_⟩
    rw [if_neg (by decide +kernel)]
    push_cast [nq_turns_rows, nq_turns_tree, nq_turns_waits, nq_rows_turns, nq_rows_tree, nq_rows_waits, nq_tree_turns, nq_tree_rows, nq_tree_waits, nq_waits_turns, nq_waits_rows, nq_waits_tree]
    cases q : (decide (2 ≤ i) && decide (i ≤ 4)) with
    | true =>
      rw [if_neg (by decide)]
      push_cast [nq_turns_rows, nq_turns_tree, nq_turns_waits, nq_rows_turns, nq_rows_tree, nq_rows_waits, nq_tree_turns, nq_tree_rows, nq_tree_waits, nq_waits_turns, nq_waits_rows, nq_waits_tree]
      rw [show optD ((RX.waits i).fault many) = .non from by rw [fl_waits]; rw [q]; rfl] at kk
      exact .sh kk
    | false =>
      rw [if_pos (by decide)]
      push_cast [nq_turns_rows, nq_turns_tree, nq_turns_waits, nq_rows_turns, nq_rows_tree, nq_rows_waits, nq_tree_turns, nq_tree_rows, nq_tree_waits, nq_waits_turns, nq_waits_rows, nq_waits_tree]
      rw [show optD ((RX.waits i).fault many) = .str "base" from by rw [fl_waits]; rw [q]; rfl] at kk
      exact .sh kk
theorem fault_len (r : RX) (many : Int) {s : Str} (h : r.fault many = some s) : s.length ≤ 100 := by
  have key : s = "rule" ∨ s = "rows" ∨ s = "how" ∨ s = "late" ∨ s = "base" := by
    cases r with
    | odd s ps => exact .inl (Option.some.inj h).symm
    | turns => cases h
    | rows rs =>
      rw [fl_rows] at h
      cases q : rowsB rs many <;> rw [q] at h <;> cases h
      exact .inr (.inl rfl)
    | tree a b =>
      rw [fl_tree] at h
      cases q : howB a <;> rw [q] at h
      · cases h
        exact .inr (.inr (.inl rfl))
      · cases q2 : lateB b <;> rw [q2] at h <;> cases h
        exact .inr (.inr (.inr (.inl rfl)))
    | waits i =>
      rw [fl_waits] at h
      cases q : (decide (2 ≤ i) && decide (i ≤ 4)) <;> rw [q] at h <;> cases h
      exact .inr (.inr (.inr (.inr rfl)))
  rcases key with rfl | rfl | rfl | rfl | rfl <;> decide +kernel
theorem sc_check_rule : FnScope ["rule", "many", "why"] ["rule", "many"] (defScope s_check_rule) := ⟨rfl, rfl, rfl, by decide +kernel, rfl, by decide +kernel, by decide +kernel⟩
theorem okx_check_rule (T : Txt K mg base A) (TX : XTxt P K mg Z)[AmJ am] [TabIn1 A.p_are_rows am] [TabIn1 A.p_is_row am] : FnOk P w K mg base (CXN P w) 7 A.check_rule A.d_check_rule ["rule", "many"] (spX K Z am (fun ws Q Xd => ∃ (r : RX) (many : Int), ws = [.sh r.d, .sh (.int many)] ∧ r.Ok ∧ RX.end_ r many Q Xd)) := by
  refine funX T.F_check_rule sc_check_rule (fun vs H Q E h => by
    obtain ⟨_, ws, Qd, _, _, _, _, hv, hsp, _⟩ := h
    obtain ⟨r, many, rfl, _⟩ := hsp
    exact hv.len.symm) (fun cdv A' outer s H vs Q E hr h => ?_)
  have hu := hu_of hr
  refine spX_run (td := ?td) h (qs_cons (ps_set (i := 2) sc_check_rule.nd rfl (Or.inl rfl) (q_call (ok_fault_of (am := am) T) (hr.mono (by decide)) rfl T.g_fault_of T.k_fault_of T.b_fault_of pass0 (pa_cons (qv 0) (pa_cons (qv 1) pa_nil))))
    (pss_one (q_if (q_cmp o_notN (qv 2) pe_non (nomark _)) (pss_one (ps_raise1 rfl takeX TX.x_BadRule (ok_i_BadRule TX) (hr.mono (by decide)) TX.b_BadRule rfl TX.g_BadRule (qv 2))) pss_nil))) ?hs ?hD
  case hs => intro Xd sx; (try simp only [cx_K, cx_prog, cx_w, blkK]); exact inferInstance
  rintro ws Qd Xd ⟨r, many, rfl, ⟨hok, kk⟩⟩
  push_cast []
  refine ⟨r, rfl, hok, ?_⟩
  unfold RX.end_ at kk
  cases q : r.fault many with
  | none =>
    rw [q] at kk
    push_cast [optD]
    exact kk
  | some s =>
    rw [q] at kk
    push_cast [optD, dRzS]
    exact ⟨fault_len r many q, kk⟩
end
end X
end OA

namespace OA
open PySem PySem.Spec PyProof.Rows L2 LamX
/-! a law that draws, with tables of generators and of lambdas -/
class MemT (P : Addr) (q : Str) (T : List (Addr × Str)) : Prop where
  m : (P, q) ∈ T
instance memT_hd (P : Addr) (q : Str) (T : List (Addr × Str)) : MemT P q ((P, q) :: T) := ⟨List.mem_cons_self⟩
instance memT_tl (P : Addr) (q : Str) (r : Addr × Str) (T : List (Addr × Str)) [h : MemT P q T] : MemT P q (r :: T) := ⟨List.mem_cons_of_mem _ h.m⟩
abbrev keysT (T : List (Addr × Str)) : List Addr := T.map Prod.fst
/-- the tables of some lambdas' makers -/
def amLs (T : List (Addr × Str)) : Am := ⟨fun _ => True, fun b => b ∈ keysT T, fun H => (keysT T).Nodup ∧ ∀ p ∈ T, TabS H p.1 p.2, fun H H' k kc ⟨n, h⟩ => ⟨n, fun p hp => by
  obtain ⟨ps, h1, h2, h3⟩ := h p hp
  exact ⟨ps, by rw [k p.1 (List.mem_map.mpr ⟨p, hp, rfl⟩)]; exact h1, h2, fun pos cv z => let ⟨c, e1, e2⟩ := h3 pos cv z; ⟨c, e1, kc _ _ ⟨_, _, rfl⟩ e2⟩⟩⟩, fun H b ⟨_, h⟩ hb => by
  obtain ⟨p, hp, rfl⟩ := List.mem_map.mp hb
  obtain ⟨ps, h1, _⟩ := h p hp
  exact ⟨_, h1, fun _ z => (by cases z), ncd_tbl⟩⟩
instance amJ_Ls (T : List (Addr × Str)) : AmJ (amLs T) := ⟨fun _ => True.intro⟩
theorem nd_mem {T : List (Addr × Str)} (n : (keysT T).Nodup) {p r : Addr × Str} (hp : p ∈ T) (hr : r ∈ T) (e : p.1 = r.1) : p = r := by
  induction T with
  | nil => cases hp
  | cons x T ih =>
    have n : x.1 ∉ keysT T ∧ (keysT T).Nodup := List.nodup_cons.mp n
    rcases List.mem_cons.mp hp with e1 | h1
    · rcases List.mem_cons.mp hr with e2 | h2
      · rw [e1, e2]
      · exact absurd (List.mem_map.mpr ⟨r, h2, by rw [← e, e1]⟩) n.1
    · rcases List.mem_cons.mp hr with e2 | h2
      · exact absurd (List.mem_map.mpr ⟨p, h1, by rw [e, e2]⟩) n.1
      · exact ih n.2 h1 h2
theorem Lmd.tabS {P : Addr} {q : Str} {H H1 : Hp} (l : Lmd P q H H1) (t : TabS H P q) {P' : Addr} {q' : Str} (ne : P' ≠ P) (h : TabS H P' q') : TabS H1 P' q' := by
  obtain ⟨ps, h1, h2, h3⟩ := h
  exact ⟨ps, l.1 _ _ ne h1, h2, fun pos cv z => let ⟨c, e1, e2⟩ := h3 pos cv z; ⟨c, e1, l.cd t _ _ ⟨_, _, rfl⟩ e2⟩⟩
instance lamIn_ls (P : Addr) (q : Str) (T : List (Addr × Str)) [m : MemT P q T] : LamIn P q (amLs T) := ⟨List.mem_map.mpr ⟨_, m.m, rfl⟩, fun H h => h.2 _ m.m, fun H H1 i l => ⟨i.1, fun p hp => by
  by_cases e : p.1 = P
  · obtain rfl := nd_mem i.1 hp m.m e
    exact l.2
  · exact l.tabS (i.2 _ m.m) e (i.2 p hp)⟩⟩
/-- generators' tables and lambdas' tables -/
abbrev amA (ps : List Addr) (T : List (Addr × Str)) : Am := amAnd (amTb ps) (amLs T)
theorem amA_at {ps : List Addr} {T : List (Addr × Str)} {H : Hp} (n : (ps ++ keysT T).Nodup) (h1 : ∀ p ∈ ps, H p = some (.tbl #[])) (h2 : ∀ p ∈ T, H p.1 = some (.tbl #[])) : (amA ps T).I H := by
  obtain ⟨_, n2, n3⟩ := List.nodup_append.mp n
  exact ⟨fun p hp => ⟨#[], h1 p hp, True.intro⟩, ⟨n2, fun p hp => TabS.nil (h2 p hp)⟩, fun x hx hy => n3 x hx x hy rfl⟩
section
variable {K : PySem.W.Frag} {A : Ad}
def spLawA (K : PySem.W.Frag) (am : Am) : Sp := fun vs H Q _ => ∃ (a : Addr) (ns : List Int), vs = [.ref a] ∧ SqL K H a (ns.map V.int) ∧ ns.length ≤ 63 ∧ am.I H ∧ ∀ H', Q (.bl true) H'
theorem law_goA {X : Cx} {am : Am} {body : List Stmt} {ts : TS} {E0 E1 : XK} {N : List Str} {vs : List V} {H : Hp} {Q : VK} (h : spLawA K am vs H Q E1) (hP : PSs X body (vSeq (tAsg (vCall (spDice K) E0 (tCons (vVar 0) (tCons (tC (.int 0)) tNil))) (gName 1)) ts))
    (hN : 2 ≤ N.length) (hD : ∀ d, ∃ td : DS, SS K (amAnd (amD d) am) ts td ∧ td lawN (lawG N d) []) :
    ∃ t, PSs X body t ∧ t { nx := fun _ H' => Q .non H', rt := Q } (start N vs) H := by
  obtain ⟨a, ns, rfl, hS, hl, hT, kk⟩ := h
  refine ⟨_, hP, ?_⟩
  refine (show spDice K [.ref a, .int 0] H (fun v H1 => Later (ts { nx := fun _ H' => Q .non H', rt := Q }) ((start N [.ref a]).set 1 (some v)) H1) E0 from ⟨a, ns, rfl, hS, hl, fun d H' sm hd dr => Later.mk ?_⟩)
  have inv : (amAnd (amD d) am).I H' := ⟨dr, am.keep hT (fun x o _ e => sm x o e) (fun x o _ e => sm x o e), fun x z y => by
    have z : x = d := z
    rw [z] at y
    exact (am.ex H d hT y).some hd⟩
  let c : Cq (amAnd (amD d) am) := ⟨(amAnd (amD d) am).M, fun b m => m, H', True.intro⟩
  have e0 : DEnv K c [] ((start N [.ref a]).set 1 (some (.ref d))) (lawG N d) [] H' := by
    refine ⟨?_, fun i w hw => ?_, fun t ht => by simp at ht, fun q hq => by simp at hq, List.nodup_nil, fun p hp => by simp at hp, fun b hb => (amAnd (amD d) am).ex H' b inv hb, fun b o _ hb => hb, inv⟩
    · rw [List.length_set]
      unfold lawG L2.start
      simp
      omega
    · unfold lawG at hw
      rw [List.getElem?_set] at hw
      split at hw
      · rename_i z
        subst z
        split at hw
        · rename_i hl
          cases hw
          refine ⟨.ref d, ?_, rfl⟩
          rw [List.getElem?_set, if_pos rfl, if_pos]
          unfold L2.start
          simp
          omega
        · cases hw
      · rw [List.getElem?_replicate] at hw
        split at hw <;> cases hw
  obtain ⟨td, hs, hD⟩ := hD d
  refine hs.run (c := c) (T := []) e0 hD ⟨fun _ _ _ _ z _ => z.elim, fun v w σ Γ Ω H2 q e => ?_, fun _ _ _ _ z _ => z.elim, fun _ _ _ _ z _ => z.elim⟩
  have q : w = .sh (.bl true) := q
  subst q
  rw [show v = .bl true from e.hd]
  exact kk H2
end
end OA

namespace OA
namespace X
namespace C
open PySem PySem.Spec PyProof.Rows L2
local macro_rules
  | `(tactic| push_cast only [$a,*]) => `(tactic| simp -implicitDefEqProofs only [Int.toNat_natCast, List.cons.injEq, W.sh.injEq, D.int.injEq, D.str.injEq, D.bl.injEq, D.tup.injEq, D.lst.injEq, W.pt.injEq, and_assoc, exists_eq_left', exists_eq_left, exists_and_left, true_implies, dIsi, tn_n, tn_b, tn_i, tn_s, tn_t, tn_nt, tn_l, kr_NoneType_bool, kr_NoneType_int, kr_NoneType_str, kr_NoneType_list, kr_NoneType_tuple, kr_NoneType_dict, kr_bool_bool, kr_bool_int, kr_bool_str, kr_bool_list, kr_bool_tuple, kr_bool_dict, kr_int_bool, kr_int_int, kr_int_str, kr_int_list, kr_int_tuple, kr_int_dict, kr_str_bool, kr_str_int, kr_str_str, kr_str_list, kr_str_tuple, kr_str_dict, kr_list_bool, kr_list_int, kr_list_str, kr_list_list, kr_list_tuple, kr_list_dict, kr_tuple_bool, kr_tuple_int, kr_tuple_str, kr_tuple_list, kr_tuple_tuple, kr_tuple_dict, kr_dict_bool, kr_dict_int, kr_dict_str, kr_dict_list, kr_dict_tuple, kr_dict_dict, dVar, dC_n, dC_b, dC_i, dC_s, dC_t, dC_r, dOp, dUn, dNil, dCons, dStar, dStarT, dTup, dLst, dLstO, dAnd, dOr, dNot, dIf, dTest, dYes, dChain, dCall, dNext, dCut, dSeq, dDrop, dRet, dRetN, dIfS, dName, sgnil_e, sgcons_e, dGtup, dAsg, dAug, dWhile, dFor, dLc, dLcO, dLc2, dDc, dI0, dIC, dEq, dIsN, isNonW, noPy, dAddS, dMulS, dCat, dCatT, dInT, dInLI, dInTI, dInS, dIxL, dIxT, dIxS, dNeg, dNoPart, dPart, dSl, dSlL, dSlT, dSlS, dRev, dDGet, dDIn, dDNew, dDNewS, dsDPut, dgSub, dSetL, isLW, dLM, dLM0, dAppend, dPopAt, dExtend, dPop, dLen, dTupL, dLstL, dAbs, dIntB, dMin2, dMax2, dMaxL, dCKw, dMaxT, dFn, dList, dTupI, dStrI, dR1, dR2, dEnum, dTAnd, dTOr, dTNot, varR_e, intW_e, blW_e, strW_e, shW_e, tyW_e, tupW_e, tupW_n, tup0W_e, lookL_e, lookD_e, lookR_e, lookR_l, seqW_e, seqW_p, dicW_e, dicW_p, ownL_p, ownD_p, keyW_i, keyW_s, one1W_e, two2W_e, shsW_nil, shsW_cons, shsW_app, shsW_map, intsD_nil, intsD_cons, intsD_map, strsD_map, cWR_n, cWR_b, cWR_i, cWR_s, flW_n, flW_b, flW_i, flW_s, fls_nil, fls_n, fls_b, fls_i, fls_s, lenW_l, lenW_d, lenW_t, lenW_n, lenW_s, lenW_p, lenO'_l, lenO'_d, atR_0, atR_1, atR_2, atR_3, atR_4, lenOk_0, lenOk_1, lenOk_2, lenOk_3, lenOk_4, lenOk_5, look_hd, put_c, put_n, notins_nil, startG, scal, List.map, List.replicate, List.length_cons, List.length_nil, List.cons_append, List.nil_append, List.append_nil, List.getElem?_cons_zero, List.getElem?_cons_succ, List.set_cons_zero, List.set_cons_succ, wipeG, true_and, and_true, if_true, if_false, decide_eq_true_eq, reduceCtorEq, reduceIte, Bool.false_eq_true, decide_true, decide_false, Bool.true_and, Bool.false_and, Bool.and_true, Bool.and_false, Bool.not_true, Bool.not_false, V.int.injEq, V.str.injEq, V.bl.injEq, Nat.reduceAdd, Nat.reduceSub, Nat.reduceLT, Int.reduceEq, Int.reduceLT, Int.reduceLE, Int.reduceAdd, Int.reduceSub, Int.cast_ofNat_Int, $a,*])
  | `(tactic| push_cast [$a,*]) => `(tactic| ((repeat refine LaterD.mk ?_); push_cast only [$a,*]; repeat ((refine LaterD.mk ?_); (repeat refine LaterD.mk ?_); push_cast only [$a,*])))
/-! numbers of stations and of speakers, good or not -/
section
variable {P : Program} {w : World} {K : PySem.W.Frag} {mg : Str → Option Value} {base : Heap} {A : Ad} {Z : XA} {am : Am}
theorem and_dec {a b : Prop} [Decidable a] [Decidable b] : (!(decide a && decide b)) = true ↔ ¬ (a ∧ b) := by
  rw [Bool.not_eq_true', ← Bool.decide_and, decide_eq_false_iff_not]
theorem sc_check_many : FnScope ["many"] ["many"] (defScope s_check_many) := ⟨rfl, rfl, rfl, by decide +kernel, rfl, by decide +kernel, by decide +kernel⟩
theorem okx_check_many (T : Txt K mg base A) (TX : XTxt P K mg Z)[AmJ am] : FnOk P w K mg base (CXN P w) 3 A.check_many A.d_check_many ["many"] (spX K Z am (fun ws Q Xd => ∃ n : Int, ws = [.sh (.int n)] ∧ if 1 ≤ n ∧ n ≤ 8 then Q (.sh .non) [] else Xd .num)) := by
  refine funX T.F_check_many sc_check_many (fun vs H Q E h => by
    obtain ⟨_, ws, Qd, _, _, _, _, hv, hsp, _⟩ := h
    obtain ⟨n, rfl, _⟩ := hsp
    exact hv.len.symm) (fun cdv A' outer s H vs Q E hr h => ?_)
  have hu := hu_of hr
  refine spX_run (td := ?td) h (pss_one (q_if (pt_not (q_val (q_call (ok_is_whole T) (hr.mono (by decide)) rfl T.g_is_whole T.k_is_whole T.b_is_whole pass0 (pa_cons (qv 0) (pa_cons pe_int (pa_cons (q_gi rfl T.c_MOST_STATIONS) pa_nil)))))) (pss_one (ps_raise0 rfl takeX TX.n_BadNumber rfl TX.g_BadNumber)) pss_nil)) ?hs ?hD
  case hs => intro Xd sx; (try simp only [cx_K, cx_prog, cx_w, blkK]); exact inferInstance
  rintro ws Qd Xd ⟨n, rfl, kk⟩
  push_cast []
  by_cases h : 1 ≤ n ∧ n ≤ 8
  · rw [if_neg (fun z => and_dec.mp z h)]
    rw [if_pos h] at kk
    push_cast []
    exact kk
  · rw [if_pos (and_dec.mpr h)]
    rw [if_neg h] at kk
    push_cast [dRz0]
    exact kk
theorem sc_check_numbers : FnScope ["many", "most"] ["many", "most"] (defScope s_check_numbers) := ⟨rfl, rfl, rfl, by decide +kernel, rfl, by decide +kernel, by decide +kernel⟩
theorem okx_check_numbers (T : Txt K mg base A) (TX : XTxt P K mg Z)[AmJ am] : FnOk P w K mg base (CXN P w) 4 A.check_numbers A.d_check_numbers ["many", "most"] (spX K Z am (fun ws Q Xd => ∃ n m : Int, ws = [.sh (.int n), .sh (.int m)] ∧ if (1 ≤ n ∧ n ≤ 8) ∧ 1 ≤ m ∧ m ≤ n then Q (.sh .non) [] else Xd .num)) := by
  refine funX T.F_check_numbers sc_check_numbers (fun vs H Q E h => by
    obtain ⟨_, ws, Qd, _, _, _, _, hv, hsp, _⟩ := h
    obtain ⟨n, m, rfl, _⟩ := hsp
    exact hv.len.symm) (fun cdv A' outer s H vs Q E hr h => ?_)
  have hu := hu_of hr
  refine spX_run (td := ?td) h (qs_cons (ps_expr (q_call (okx_check_many (am := am) T TX) (hr.mono (by decide)) rfl T.g_check_many T.k_check_many T.b_check_many passX (pa_cons (qv 0) pa_nil)))
    (pss_one (q_if (pt_not (q_val (q_call (ok_is_whole T) (hr.mono (by decide)) rfl T.g_is_whole T.k_is_whole T.b_is_whole pass0 (pa_cons (qv 1) (pa_cons pe_int (pa_cons (qv 0) pa_nil)))))) (pss_one (ps_raise0 rfl takeX TX.n_BadNumber rfl TX.g_BadNumber)) pss_nil))) ?hs ?hD
  case hs => intro Xd sx; (try simp only [cx_K, cx_prog, cx_w, blkK]); exact inferInstance
  rintro ws Qd Xd ⟨n, m, rfl, kk⟩
  push_cast [dFnX]
  by_cases h : 1 ≤ n ∧ n ≤ 8
  · rw [if_pos h]
    push_cast []
    by_cases h2 : 1 ≤ m ∧ m ≤ n
    · rw [if_neg (fun z => and_dec.mp z h2)]
      rw [if_pos ⟨h, h2⟩] at kk
      push_cast []
      exact kk
    · rw [if_pos (and_dec.mpr h2)]
      rw [if_neg (fun z => h2 z.2)] at kk
      push_cast [dRz0]
      exact kk
  · rw [if_neg h]
    rw [if_neg (fun z => h z.1)] at kk
    exact kk
end
end C
end X
end OA

namespace OA
namespace P
open PySem PySem.Spec PyProof.Rows L2
theorem one_eq (c : Nat) : decide ((⟨#[c]⟩ : Str) = Str.ofString "1") = (c == 49) := by
  have h : ((⟨#[c]⟩ : Str) = Str.ofString "1") ↔ c = 49 := by
    rw [show Str.ofString "1" = (⟨#[49]⟩ : Str) from by decide +kernel]
    constructor
    · intro e
      injection e with e
      have := congrArg Array.toList e
      simpa using this
    · rintro rfl
      rfl
  rw [Bool.eq_iff_iff]
  simp [h]
/-! who is alone somewhere -/
abbrev rsD (rs : List Str) : D := .tup (rs.map .str)
def oneAt (rs : List Str) (j p : Nat) : Bool := (rs.getD j "").cps.toList.getD p 0 == 49
def speakN (rs : List Str) (g : List Nat) (p : Nat) : List Nat := g.filter fun o => oneAt rs o p
def aloneB (rs : List Str) (n : Nat) (g : List Nat) (j : Nat) : Bool := (List.range n).any fun p => decide (speakN rs g p = [j])
def firstU (rs : List Str) (n : Nat) (gs : List (List Nat)) : Option (List Nat × Nat) := gs.findSome? fun g => (g.find? fun j => !aloneB rs n g j).map fun j => (g, j)
def uD : Option (List Nat × Nat) → D
  | none => .non
  | some x => .tup [tD x.1, iD x.2]
structure RowsN (rs : List Str) (n : Nat) : Prop where
  n1 : 1 ≤ n
  n12 : n ≤ 12
  len : ∀ r ∈ rs, r.length = n
theorem at_rs {rs : List Str} {o : Nat} {k : D → Prop} (h : o < rs.length) : atR (rs.map D.str) (o : Int) k = k (.str (rs.getD o "")) := by
  refine atR_some (atI_nat (j := o) ?_)
  rw [List.getElem?_map, List.getElem?_eq_getElem h, List.getD_eq_getElem?_getD, List.getElem?_eq_getElem h]
  rfl
theorem rs_len {rs : List Str} {n o : Nat} (r : RowsN rs n) (h : o < rs.length) : (rs.getD o "").length = n := by
  refine r.len _ ?_
  rw [List.getD_eq_getElem?_getD, List.getElem?_eq_getElem h]
  exact List.getElem_mem h
theorem sign_eq {rs : List Str} {o p c : Nat} (h : (rs.getD o "").cps.toList[p]? = some c) : oneAt rs o p = (c == 49) := by
  unfold oneAt
  rw [List.getD_eq_getElem?_getD, h]
  rfl
theorem any_hit {f : Nat → Bool} {i n : Nat} (hi : i < n) (h : f i = true) : (List.range n).any f = true := List.any_eq_true.mpr ⟨i, List.mem_range.mpr hi, h⟩
theorem if_one {c : Nat} {L A B : Prop} (h : L ∧ if (c == 49) = true then A else B) : if (⟨#[c]⟩ : Str) = Str.ofString "1" then L ∧ A else B := by
  have e := one_eq c
  by_cases z : (⟨#[c]⟩ : Str) = Str.ofString "1"
  · rw [if_pos z]
    rw [decide_eq_true z] at e
    rw [← e, if_pos rfl] at h
    exact h
  · rw [if_neg z]
    rw [decide_eq_false z] at e
    rw [← e, if_neg (by decide)] at h
    exact h.2
theorem nat_inj {l : List Nat} {j : Nat} (h : (l.map fun (n : Nat) => (n : Int)) = [(j : Int)]) : l = [j] := by
  match l, h with
  | [x], h =>
    have h1 : (x : Int) = (j : Int) := (List.cons.inj h).1
    have : x = j := by omega
    rw [this]
theorem firstU_cons {rs : List Str} {n : Nat} {g : List Nat} {gs : List (List Nat)} : firstU rs n (g :: gs) = (match (g.find? fun j => !aloneB rs n g j) with
    | some j => some (g, j)
    | none => firstU rs n gs) := by
  unfold firstU
  rw [List.findSome?_cons]
  cases g.find? fun j => !aloneB rs n g j <;> rfl
theorem nd_len' {many : Nat} {g : List Nat} (nd : g.Nodup) (lt : ∀ j ∈ g, j < many) : g.length ≤ many := by
  have : g.length ≤ (List.range many).length := nd.length_le_of_subset fun z hz => List.mem_range.mpr (lt z hz)
  rwa [List.length_range] at this
end P
end OA

namespace OA
namespace P
open PySem L2
local macro_rules
  | `(tactic| push_cast only [$a,*]) => `(tactic| simp -implicitDefEqProofs only [Int.toNat_natCast, List.cons.injEq, W.sh.injEq, D.int.injEq, D.str.injEq, D.bl.injEq, D.tup.injEq, D.lst.injEq, W.pt.injEq, and_assoc, exists_eq_left', exists_eq_left, exists_and_left, true_implies, dIsi, tn_n, tn_b, tn_i, tn_s, tn_t, tn_nt, tn_l, kr_NoneType_bool, kr_NoneType_int, kr_NoneType_str, kr_NoneType_list, kr_NoneType_tuple, kr_NoneType_dict, kr_bool_bool, kr_bool_int, kr_bool_str, kr_bool_list, kr_bool_tuple, kr_bool_dict, kr_int_bool, kr_int_int, kr_int_str, kr_int_list, kr_int_tuple, kr_int_dict, kr_str_bool, kr_str_int, kr_str_str, kr_str_list, kr_str_tuple, kr_str_dict, kr_list_bool, kr_list_int, kr_list_str, kr_list_list, kr_list_tuple, kr_list_dict, kr_tuple_bool, kr_tuple_int, kr_tuple_str, kr_tuple_list, kr_tuple_tuple, kr_tuple_dict, kr_dict_bool, kr_dict_int, kr_dict_str, kr_dict_list, kr_dict_tuple, kr_dict_dict, dVar, dC_n, dC_b, dC_i, dC_s, dC_t, dC_r, dOp, dUn, dNil, dCons, dStar, dStarT, dTup, dLst, dLstO, dAnd, dOr, dNot, dIf, dTest, dYes, dChain, dCall, dNext, dCut, dSeq, dDrop, dRet, dRetN, dIfS, dName, sgnil_e, sgcons_e, dGtup, dAsg, dAug, dWhile, dFor, dLc, dLcO, dLc2, dDc, dI0, dIC, dEq, dIsN, isNonW, noPy, dAddS, dMulS, dCat, dCatT, dInT, dInLI, dInTI, dInS, dIxL, dIxT, dIxS, dNeg, dNoPart, dPart, dSl, dSlL, dSlT, dSlS, dRev, dDGet, dDIn, dDNew, dDNewS, dsDPut, dgSub, dSetL, isLW, dLM, dLM0, dAppend, dPopAt, dExtend, dPop, dLen, dTupL, dLstL, dAbs, dIntB, dMin2, dMax2, dMaxL, dCKw, dMaxT, dFn, dList, dTupI, dStrI, dR1, dR2, dEnum, dTAnd, dTOr, dTNot, varR_e, intW_e, blW_e, strW_e, shW_e, tyW_e, tupW_e, tupW_n, tup0W_e, lookL_e, lookD_e, lookR_e, lookR_l, seqW_e, seqW_p, dicW_e, dicW_p, ownL_p, ownD_p, keyW_i, keyW_s, one1W_e, two2W_e, shsW_nil, shsW_cons, shsW_app, shsW_map, intsD_nil, intsD_cons, intsD_map, strsD_map, cWR_n, cWR_b, cWR_i, cWR_s, flW_n, flW_b, flW_i, flW_s, fls_nil, fls_n, fls_b, fls_i, fls_s, lenW_l, lenW_d, lenW_t, lenW_n, lenW_s, lenW_p, lenO'_l, lenO'_d, atR_0, atR_1, atR_2, atR_3, atR_4, lenOk_0, lenOk_1, lenOk_2, lenOk_3, lenOk_4, lenOk_5, look_hd, put_c, put_n, notins_nil, startG, scal, List.map, List.replicate, List.length_cons, List.length_nil, List.cons_append, List.nil_append, List.append_nil, List.getElem?_cons_zero, List.getElem?_cons_succ, List.set_cons_zero, List.set_cons_succ, wipeG, true_and, and_true, if_true, if_false, decide_eq_true_eq, reduceCtorEq, reduceIte, Bool.false_eq_true, decide_true, decide_false, Bool.true_and, Bool.false_and, Bool.and_true, Bool.and_false, Bool.not_true, Bool.not_false, V.int.injEq, V.str.injEq, V.bl.injEq, Nat.reduceAdd, Nat.reduceSub, Nat.reduceLT, Int.reduceEq, Int.reduceLT, Int.reduceLE, Int.reduceAdd, Int.reduceSub, Int.cast_ofNat_Int, dForK, dDcO, dLstVals, dEqLI, dDictO, dSortP, dSortPT, $a,*])
  | `(tactic| push_cast [$a,*]) => `(tactic| ((repeat refine LaterD.mk ?_); push_cast only [$a,*]; repeat ((refine LaterD.mk ?_); (repeat refine LaterD.mk ?_); push_cast only [$a,*])))
section
variable {P : Program} {w : World} {K : PySem.W.Frag} {mg : Str → Option Value} {base : Heap} {A : Ad}
theorem sc_is_alone : FnScope ["rows", "group", "number", "place", "other"] ["rows", "group", "number"] (defScope s_is_alone) := ⟨rfl, rfl, rfl, by decide +kernel, rfl, by decide +kernel, by decide +kernel⟩
theorem ok_is_alone (T : Txt K mg base A) : FnOk P w K mg base CX0 1 A.is_alone A.d_is_alone ["rows", "group", "number"] (spD K am0 (fun ws Q => ∃ (rs : List Str) (n : Nat) (g : List Nat) (j : Nat), ws = [.sh (rsD rs), .sh (tD g), .sh (iD j)] ∧ (RowsN rs n ∧ (∀ o ∈ g, o < rs.length) ∧ g.length ≤ 8 ∧ j < rs.length) ∧ Q (.sh (.bl (aloneB rs n g j))) [])) := by
  refine T.F_is_alone.ok sc_is_alone (fun vs H Q E h => by
    obtain ⟨_, ws, Qd, _, _, _, hv, hsp, _⟩ := h
    obtain ⟨rs, n, g, j, rfl, _⟩ := hsp
    exact hv.len.symm) (fun cdv A' outer s H vs Q E hr h => ?_)
  have hu := hu_of hr
  refine spD_run (td := ?td) h (qs_cons (q_for PassesOwn.never rfl (qi_r1 (by rfl) T.m_range (pa_cons (pe_callB c_len (by rfl) T.m_len (by decide +kernel) (pa_cons (pe_ix ix_T (qv 0) (qv 2) (fun _ _ => rfl)) pa_nil)) pa_nil)) (pg_name (i := 3) sc_is_alone.nd rfl (Or.inr rfl)) (pss_one (q_if (q_cmp (o_eqLI hr.units) (q_lc (own := [("other", 4)]) (g := gName 4) rfl sc_is_alone.nd (qi_tup (qv 1)) (blkOk_by (own := [("other", 4)]) (N := ["rows", "group", "number", "place", "other"]) (sc := defScope s_is_alone) (by decide +kernel)) (fun _ _ _ _ _ => (pg_name (i := 4) sc_is_alone.nd rfl (Or.inl rfl))) (fun _ _ _ _ _ => pts_one (q_cmp op_eq (pe_ix ix_S (pe_ix ix_T (qv 0) (qv 4) (fun _ _ => rfl)) (qv 3) (fun _ _ => rfl)) pe_str (nomark _))) (fun _ _ _ _ _ => (qv 4))) (pe_lst (pa_cons (qv 2) pa_nil)) (nomark _)) (pss_one (ps_ret pe_bl)) pss_nil)))
    (pss_one (ps_ret pe_bl))) ?hs ?hD
  case hs => (try simp only [cx_K, cx_prog, cx_w, blkK]); exact inferInstance
  rintro ws Qd ⟨rs, n, g, j, rfl, ⟨hr, hg, g8, hj⟩, kk⟩
  have hr' : RowsN rs n := by assumption
  push_cast [at_rs hj, rs_len hr' hj]
  have n62 : (n : Int) < 2 ^ 62 := by have := hr'.n12; omega
  have nz : n ≤ sizeLine := by rw [sizeLine_eq]; have := hr'.n12; omega
  refine ⟨nz, by omega, n62, fun i Γ Ω => ∃ v3 v4, Γ = [some (.sh (rsD rs)), some (.sh (tD g)), some (.sh (iD j)), v3, v4] ∧ Ω = [] ∧ (List.range i).any (fun p => decide (speakN rs g p = [j])) = false, ⟨_, _, rfl, rfl, rfl⟩, ?_, ?_⟩
  · rintro i w Γ Ω hw ⟨v3, v4, rfl, rfl, hno⟩
    have hi : i < n := by
      have := (List.getElem?_eq_some_iff.mp hw).1
      simpa [natsW] using this
    obtain rfl : W.sh (.int (i : Nat)) = w := by
      unfold natsW at hw
      rw [List.getElem?_map, List.getElem?_range hi] at hw
      exact Option.some.inj hw
    push_cast []
    have e0 : List.map W.sh (List.map iD g) = g.map fun o => W.sh (iD o) := by rw [List.map_map]; rfl
    rw [e0]
    refine ⟨by simp, _, dLcP_filt (D0 := g) (f := fun o => W.sh (iD o)) (G := fun o => W.sh (iD o)) (t := fun o => oneAt rs o i) (by omega) (fun o ho acc q Pn hn0 ll k1 => ?_), fun acc hacc => ?_⟩
    · have ho' := hg o ho
      have hl := rs_len hr' ho'
      have hc : (rs.getD o "").cps.toList[i]? = some ((rs.getD o "").cps.toList[i]'(by rw [Array.length_toList]; show i < (rs.getD o "").length; omega)) := List.getElem?_eq_getElem _
      have ea : atI (rs.getD o "").cps.toList ((i : Nat) : Int) = some _ := atI_nat hc
      have es := sign_eq hc
      rw [es] at k1
      push_cast [at_rs ho']
      refine ⟨by rw [show (rs.getD o (Str.ofString "")).length = n from hl]; exact nz, ?_⟩
      rw [atR_some ea]
      exact if_one ⟨ll, k1⟩
    · have : acc = ((speakN rs g i).map iD).map W.sh := by
        rw [hacc, List.length_map, List.take_length, List.map_map]
        rfl
      subst this
      push_cast []
      rw [intsD_nat]
      by_cases z : speakN rs g i = [j]
      · rw [z]
        rw [if_pos (show ([j].map fun (n : Nat) => (n : Int)) = [(j : Int)] from rfl)]
        push_cast []
        refine .sh ?_
        have : aloneB rs n g j = true := any_hit hi (decide_eq_true z)
        rw [this] at kk
        exact kk
      · rw [if_neg (fun h => z (nat_inj h))]
        push_cast []
        rw [List.range_succ, List.any_append, hno]
        simp [z]
  · rintro Γ Ω ⟨v3, v4, rfl, rfl, hno⟩
    have e2 : (natsW n).length = n := by simp [natsW]
    rw [e2] at hno
    push_cast []
    refine .sh ?_
    have : aloneB rs n g j = false := hno
    rw [this] at kk
    exact kk
end
end P
end OA

namespace OA
namespace X
open PySem PySem.Spec PyProof.Rows L2
local macro_rules
  | `(tactic| push_cast only [$a,*]) => `(tactic| simp -implicitDefEqProofs only [Int.toNat_natCast, List.cons.injEq, W.sh.injEq, D.int.injEq, D.str.injEq, D.bl.injEq, D.tup.injEq, D.lst.injEq, W.pt.injEq, and_assoc, exists_eq_left', exists_eq_left, exists_and_left, true_implies, dIsi, tn_n, tn_b, tn_i, tn_s, tn_t, tn_nt, tn_l, kr_NoneType_bool, kr_NoneType_int, kr_NoneType_str, kr_NoneType_list, kr_NoneType_tuple, kr_NoneType_dict, kr_bool_bool, kr_bool_int, kr_bool_str, kr_bool_list, kr_bool_tuple, kr_bool_dict, kr_int_bool, kr_int_int, kr_int_str, kr_int_list, kr_int_tuple, kr_int_dict, kr_str_bool, kr_str_int, kr_str_str, kr_str_list, kr_str_tuple, kr_str_dict, kr_list_bool, kr_list_int, kr_list_str, kr_list_list, kr_list_tuple, kr_list_dict, kr_tuple_bool, kr_tuple_int, kr_tuple_str, kr_tuple_list, kr_tuple_tuple, kr_tuple_dict, kr_dict_bool, kr_dict_int, kr_dict_str, kr_dict_list, kr_dict_tuple, kr_dict_dict, dVar, dC_n, dC_b, dC_i, dC_s, dC_t, dC_r, dOp, dUn, dNil, dCons, dStar, dStarT, dTup, dLst, dLstO, dAnd, dOr, dNot, dIf, dTest, dYes, dChain, dCall, dNext, dCut, dSeq, dDrop, dRet, dRetN, dIfS, dName, sgnil_e, sgcons_e, dGtup, dAsg, dAug, dWhile, dFor, dLc, dLcO, dLc2, dDc, dI0, dIC, dEq, dIsN, isNonW, noPy, dAddS, dMulS, dCat, dCatT, dInT, dInLI, dInTI, dInS, dIxL, dIxT, dIxS, dNeg, dNoPart, dPart, dSl, dSlL, dSlT, dSlS, dRev, dDGet, dDIn, dDNew, dDNewS, dsDPut, dgSub, dSetL, isLW, dLM, dLM0, dAppend, dPopAt, dExtend, dPop, dLen, dTupL, dLstL, dAbs, dIntB, dMin2, dMax2, dMaxL, dCKw, dMaxT, dFn, dList, dTupI, dStrI, dR1, dR2, dEnum, dTAnd, dTOr, dTNot, varR_e, intW_e, blW_e, strW_e, shW_e, tyW_e, tupW_e, tupW_n, tup0W_e, lookL_e, lookD_e, lookR_e, lookR_l, seqW_e, seqW_p, dicW_e, dicW_p, ownL_p, ownD_p, keyW_i, keyW_s, one1W_e, two2W_e, shsW_nil, shsW_cons, shsW_app, shsW_map, intsD_nil, intsD_cons, intsD_map, strsD_map, cWR_n, cWR_b, cWR_i, cWR_s, flW_n, flW_b, flW_i, flW_s, fls_nil, fls_n, fls_b, fls_i, fls_s, lenW_l, lenW_d, lenW_t, lenW_n, lenW_s, lenW_p, lenO'_l, lenO'_d, atR_0, atR_1, atR_2, atR_3, atR_4, lenOk_0, lenOk_1, lenOk_2, lenOk_3, lenOk_4, lenOk_5, look_hd, put_c, put_n, notins_nil, startG, scal, List.map, List.replicate, List.length_cons, List.length_nil, List.cons_append, List.nil_append, List.append_nil, List.getElem?_cons_zero, List.getElem?_cons_succ, List.set_cons_zero, List.set_cons_succ, wipeG, true_and, and_true, if_true, if_false, decide_eq_true_eq, reduceCtorEq, reduceIte, Bool.false_eq_true, decide_true, decide_false, Bool.true_and, Bool.false_and, Bool.and_true, Bool.and_false, Bool.not_true, Bool.not_false, V.int.injEq, V.str.injEq, V.bl.injEq, Nat.reduceAdd, Nat.reduceSub, Nat.reduceLT, Int.reduceEq, Int.reduceLT, Int.reduceLE, Int.reduceAdd, Int.reduceSub, Int.cast_ofNat_Int, dForK, dDcO, dLstVals, dEqLI, dDictO, dSortP, dSortPT, $a,*])
  | `(tactic| push_cast [$a,*]) => `(tactic| ((repeat refine LaterD.mk ?_); push_cast only [$a,*]; repeat ((refine LaterD.mk ?_); (repeat refine LaterD.mk ?_); push_cast only [$a,*])))
/-! unheard, of any rows and numbers -/
def unhEnd (rs : List Str) (most : Int) (Q : DQ) (Xd : XD → Prop) : Prop := if (1 ≤ (rs.length : Int) ∧ (rs.length : Int) ≤ 8) ∧ 1 ≤ most ∧ most ≤ (rs.length : Int) then
    (if rowsB rs rs.length = true then Q (.sh (P.uD (P.firstU rs (rs.headD Str.empty).length (P.setsN rs.length 1 most.toNat)))) [] else Xd (.rule "rows"))
  else Xd .num
theorem rowsN_of {rs : List Str} {many : Int} (h : rowsB rs many = true) (h1 : 1 ≤ rs.length) : P.RowsN rs (rs.headD Str.empty).length := by
  unfold rowsB at h
  rw [Bool.and_eq_true, List.all_eq_true] at h
  have len : ∀ r ∈ rs, r.length = (rs.headD Str.empty).length := fun r m => of_decide_eq_true (Bool.and_eq_true_iff.mp (h.2 r m)).2
  obtain ⟨r0, hr0⟩ : ∃ r0, r0 ∈ rs := List.exists_mem_of_length_pos (by omega)
  have hb := (Bool.and_eq_true_iff.mp (h.2 r0 hr0)).1
  unfold rowB at hb
  simp only [Bool.and_eq_true, decide_eq_true_eq] at hb
  have e0 := len r0 hr0
  exact ⟨by omega, by omega, len⟩
section
variable {P : Program} {w : World} {K : PySem.W.Frag} {mg : Str → Option Value} {base : Heap} {A : Ad} {Z : XA} {am : Am}
theorem sc_unheard : FnScope ["rows", "most", "many", "group", "number"] ["rows", "most"] (defScope s_unheard) := ⟨rfl, rfl, rfl, by decide +kernel, rfl, by decide +kernel, by decide +kernel⟩
theorem okx_unheard (T : Txt K mg base A) (TX : XTxt P K mg Z)[AmJ am] [TabIn1 A.p_are_rows am] [TabIn1 A.p_is_row am] : FnOk P w K mg base (CXN P w) 9 A.unheard A.d_unheard ["rows", "most"] (spX K Z am (fun ws Q Xd => ∃ (rs : List Str) (most : Int), ws = [.sh (OA.P.rsD rs), .sh (.int most)] ∧ (rs.length ≤ 1000 ∧ ∀ r ∈ rs, r.length ≤ 1000) ∧ unhEnd rs most Q Xd)) := by
  refine funX T.F_unheard sc_unheard (fun vs H Q E h => by
    obtain ⟨_, ws, Qd, _, _, _, _, hv, hsp, _⟩ := h
    obtain ⟨rs, most, rfl, _⟩ := hsp
    exact hv.len.symm) (fun cdv A' outer s H vs Q E hr h => ?_)
  have hu := hu_of hr
  refine spX_run (td := ?td) h (qs_cons (ps_set (i := 2) sc_unheard.nd rfl (Or.inl rfl) (pe_callB c_len (by rfl) T.m_len (by decide +kernel) (pa_cons (qv 0) pa_nil)))
    (qs_cons (ps_expr (q_call (C.okx_check_numbers (am := am) T TX) (hr.mono (by decide)) rfl T.g_check_numbers T.k_check_numbers T.b_check_numbers passX (pa_cons (qv 2) (pa_cons (qv 1) pa_nil))))
    (qs_cons (ps_expr (q_call (okx_check_rule (am := am) T TX) (hr.mono (by decide)) rfl T.g_check_rule T.k_check_rule T.b_check_rule passX (pa_cons (pe_tup (pa_cons pe_str (pa_cons (qv 0) pa_nil))) (pa_cons (qv 2) pa_nil))))
    (qs_cons (q_for (passes_of rfl) rfl (qi_list (q_call (OA.P.ok_sets_of T) (hr.mono (by decide)) rfl T.g_sets_of T.k_sets_of T.b_sets_of pass0 (pa_cons (qv 2) (pa_cons pe_int (pa_cons (qv 1) pa_nil))))) (pg_name (i := 3) sc_unheard.nd rfl (Or.inl rfl)) (pss_one (q_for (passes_of rfl) rfl (qi_tup (qv 3)) (pg_name (i := 4) sc_unheard.nd rfl (Or.inl rfl)) (pss_one (q_if (pt_not (q_val (q_call (OA.P.ok_is_alone T) (hr.mono (by decide)) rfl T.g_is_alone T.k_is_alone T.b_is_alone pass0 (pa_cons (qv 0) (pa_cons (qv 3) (pa_cons (qv 4) pa_nil)))))) (pss_one (ps_ret (pe_tup (pa_cons (qv 3) (pa_cons (qv 4) pa_nil))))) pss_nil)))))
    (pss_one (ps_ret pe_non)))))) ?hs ?hD
  case hs => intro Xd sx; (try simp only [cx_K, cx_prog, cx_w, blkK]); exact inferInstance
  rintro ws Qd Xd ⟨rs, most, rfl, hok, kk⟩
  push_cast [dFnX]
  have e0 : ((rs.map D.str).length : Int) = (rs.length : Int) := by rw [List.length_map]
  rw [e0]
  unfold unhEnd at kk
  by_cases h0 : ¬ ((1 ≤ (rs.length : Int) ∧ (rs.length : Int) ≤ 8) ∧ 1 ≤ most ∧ most ≤ (rs.length : Int))
  · rw [if_neg h0] at kk
    rw [if_neg (fun z => h0 ⟨⟨z.1, z.2.1⟩, z.2.2⟩)]
    exact kk
  have h := Decidable.not_not.mp h0
  rw [if_pos h] at kk
  obtain ⟨⟨l1, l8⟩, hm1, hm⟩ := h
  rw [if_pos ⟨l1, l8, hm1, hm⟩]
  push_cast [dFnX]
  refine ⟨.rows rs, rfl, hok, ?_⟩
  cases q0 : rowsB rs rs.length with
  | false =>
    rw [if_neg (by rw [q0]; decide)] at kk
    simp only [RX.end_, fl_rows, q0]
    exact kk
  | true =>
  rw [if_pos q0] at kk
  simp only [RX.end_, fl_rows, q0, if_true]
  intro hn2
  have hr' := rowsN_of q0 (by omega)
  generalize (rs.headD Str.empty).length = n at hr' kk
  obtain ⟨mo, rfl⟩ := Int.eq_ofNat_of_zero_le (show 0 ≤ most by omega)
  rw [show (mo : Int).toNat = mo from rfl] at kk
  push_cast []
  refine ⟨rs.length, rfl, 1, rfl, mo, rfl, by omega, by omega, ?_⟩
  generalize hgs : OA.P.setsN rs.length 1 mo = gs at *
  have gok : ∀ g ∈ gs, (∀ o ∈ g, o < rs.length) ∧ g.length ≤ 8 := fun g hg => by
    rw [← hgs] at hg
    obtain ⟨a, b⟩ := OA.P.setsN_ok hg
    exact ⟨b, Nat.le_trans (OA.P.nd_len' a b) (by omega)⟩
  have eg : List.map W.sh (List.map OA.P.tD gs) = gs.map fun g => W.sh (OA.P.tD g) := by rw [List.map_map]; rfl
  push_cast []
  rw [eg]
  refine ⟨fun i Γ Ω => ∃ v3 v4, Γ = [some (.sh (OA.P.rsD rs)), some (.sh (.int (mo : Nat))), some (.sh (.int (rs.length : Nat))), v3, v4] ∧ Ω = [] ∧ OA.P.firstU rs n gs = OA.P.firstU rs n (gs.drop i), ⟨_, _, rfl, rfl, rfl⟩, ?_, ?_⟩
  · rintro i w Γ Ω hw ⟨v3, v4, rfl, rfl, hno⟩
    rw [List.getElem?_map] at hw
    cases q : gs[i]? with
    | none => rw [q] at hw; cases hw
    | some g =>
      rw [q] at hw
      obtain rfl : W.sh (OA.P.tD g) = w := Option.some.inj hw
      obtain ⟨hg, g8⟩ := gok g (List.mem_of_getElem? q)
      have hi : i < gs.length := (List.getElem?_eq_some_iff.mp q).1
      have hd : gs.drop i = g :: gs.drop (i + 1) := by
        rw [List.drop_eq_getElem_cons hi]
        rw [List.getElem?_eq_getElem hi] at q
        rw [Option.some.inj q]
      rw [hd, OA.P.firstU_cons] at hno
      push_cast []
      have eg2 : List.map W.sh (List.map OA.P.iD g) = g.map fun o => W.sh (OA.P.iD o) := by rw [List.map_map]; rfl
      rw [eg2]
      refine ⟨fun k Γ Ω => ∃ v4, Γ = [some (.sh (OA.P.rsD rs)), some (.sh (.int (mo : Nat))), some (.sh (.int (rs.length : Nat))), some (.sh (OA.P.tD g)), v4] ∧ Ω = [] ∧ (g.find? fun j => !OA.P.aloneB rs n g j) = (g.drop k).find? fun j => !OA.P.aloneB rs n g j, ⟨_, rfl, rfl, rfl⟩, ?_, ?_⟩
      · rintro k w Γ Ω hw ⟨v4, rfl, rfl, hk⟩
        rw [List.getElem?_map] at hw
        cases q2 : g[k]? with
        | none => rw [q2] at hw; cases hw
        | some j =>
          rw [q2] at hw
          obtain rfl : W.sh (OA.P.iD j) = w := Option.some.inj hw
          have hkl : k < g.length := (List.getElem?_eq_some_iff.mp q2).1
          have hd2 : g.drop k = j :: g.drop (k + 1) := by
            rw [List.drop_eq_getElem_cons hkl]
            rw [List.getElem?_eq_getElem hkl] at q2
            rw [Option.some.inj q2]
          rw [hd2, List.find?_cons] at hk
          push_cast []
          refine ⟨rs, rfl, n, g, rfl, j, rfl, hr', hg, g8, hg j (List.mem_of_getElem? q2), ?_⟩
          cases z : OA.P.aloneB rs n g j with
          | true =>
            rw [z] at hk
            push_cast []
            exact hk
          | false =>
            rw [z] at hk
            have hk : (g.find? fun j => !OA.P.aloneB rs n g j) = some j := hk
            rw [hk] at hno
            push_cast []
            refine .sh ?_
            rw [hno] at kk
            exact kk
      · rintro Γ Ω ⟨v4, rfl, rfl, hk⟩
        rw [List.length_map, List.drop_length] at hk
        have hk : (g.find? fun j => !OA.P.aloneB rs n g j) = none := hk
        rw [hk] at hno
        push_cast []
        exact hno
  · rintro Γ Ω ⟨v3, v4, rfl, rfl, hno⟩
    rw [List.length_map, List.drop_length] at hno
    push_cast []
    refine .sh ?_
    rw [hno] at kk
    exact kk
end
end X
end OA

namespace OA
open PySem L2
/-- where nothing is refused -/
theorem fn_calm {P : Program} {w : World} {K : PySem.W.Frag} {mg : Str → Option Value} {base : Heap} {k : Nat} {f : Addr} {fd : FuncData} {ps : List Str} {Z : XA} {am : Am} {sp : DXSp} (F : L2.FnOk P w K mg base (CXN P w) k f fd ps (spX K Z am sp)) : L2.FnOk P w K mg base L2.CX0 k f fd ps (spD K am fun ws Q => sp ws Q fun _ => False) := by
  have conv : ∀ vs H Q E, spD K am (fun ws Q => sp ws Q fun _ => False) vs H Q E → spX K Z am sp vs H Q fun _ _ _ => False := fun vs H Q E h => by
    obtain ⟨D, ws, Qd, h1, h2, h3, h4, h5, h6⟩ := h
    exact ⟨D, ws, Qd, _, h1, h2, h3, h4, h5, h6, fun _ _ _ _ z => z.elim⟩
  refine ⟨fun vs H Q E h => F.len vs H Q _ (conv vs H Q E h), fun A outer s H args us vs Q E hr e0 hb r h => PySem.codeAny_mono (F.run A outer s H args us vs Q _ hr e0 hb r (conv vs H Q E h)) fun r s' hq => ?_⟩
  match r, hq with
  | .error u, hq =>
    obtain ⟨_, _, _, _, _, _, _, _, _, _, _, _, z⟩ := hq
    exact z.elim
  | .ok (.ret u), hq => exact hq
  | .ok .next, hq => exact hq
  | .ok .brk, hq => exact hq
  | .ok .cont, hq => exact hq
end OA

namespace OA
open PySem PySem.Spec PyProof.Rows L2
section
variable {K : PySem.W.Frag} {am : Am}
/-- a power -/
def dPow (x : W) (y : W) (Ω : Om) (Q : DQ) : Prop := intW x fun i => intW y fun j => CPow i j ∧ Q (.sh (.int (i ^ j.toNat))) Ω
instance r_pow : SR2 K am (rI CPow fun i j => .int (i ^ j.toNat)) dPow := ⟨fun {c T σ Γ Ω H x y wx wy Q R} e hx hy h k => by
  obtain ⟨i, rfl, h1⟩ := intW_el h
  obtain ⟨j, rfl, h2, h3⟩ := intW_el h1
  obtain rfl : x = .int i := hx
  obtain rfl : y = .int j := hy
  exact ⟨i, j, rfl, rfl, h2, k _ _ _ _ h3 (e.addv rfl)⟩⟩
end
end OA

namespace OA
open PySem PySem.Spec PyProof.Rows L2
section
variable {X : Cx}
/-- list(t) -/
def wLstU (vs : List V) (H : Hp) (Q : VK) : Prop := one1 vs fun x => refR x fun p => tupO (H p) fun xs => ∀ l, H l = none → Q (.ref l) (upd H l (.lst xs))
theorem c_lstU : CallR X (.type "list") wLstU := im_call call_list_of fun vs H Q z => by
  obtain ⟨x, rfl, z1⟩ := one1_el z
  obtain ⟨p, rfl, z2⟩ := refR_el z1
  obtain ⟨xs, e3, z3⟩ := tupO_el z2
  exact ⟨p, xs, rfl, .inr (.inl e3), z3⟩
end
section
variable {K : PySem.W.Frag} {am : Am}
def dLstU (ws : List W) (Ω : Om) (Q : DQ) : Prop := one1W ws fun w => tup0W w fun ds => Q (.sh (.lst ds)) Ω
instance r_lstU : SRC K am wLstU dLstU := ⟨fun {c T σ Γ Ω H xs ws Q R} e hs h k => by
  obtain ⟨w, v, rfl, hw, h2⟩ := one1W_el h hs
  obtain ⟨ds, rfl, h3⟩ := tup0W_el h2
  obtain ⟨a, vs, rfl, na, ha, hv⟩ := hw
  show tupO (H a) _
  rw [ha]
  intro l hl
  exact k _ _ _ _ h3 (e.lst hl hv)⟩
end
end OA

namespace OA
namespace X
open PySem PySem.Spec PyProof.Rows L2
/-! the shortest rows for two, as data -/
def grT (ts : List Str) : List Str := (ts.map fun t => Str.ofString "0" ++ t) ++ (ts.map fun t => Str.ofString "1" ++ t)
def allT : Nat → List Str
  | 0 => [Str.ofString ""]
  | n + 1 => grT (allT n)
def midB (n : Nat) (t : Str) : Bool := decide ((Txt.count t (Str.ofString "1") : Int) = (n : Int) / 2)
def midT (n : Nat) : List Str := (allT n).filter (midB n)
def lastS (c : List Str) : Str := (c.getLast?).getD (Str.ofString "")
def loF (c : List Str) : List Str := (c.map fun t => t ++ Str.ofString "0") ++ [lastS c ++ Str.ofString "1"]
def shF (c : List Str) : List Str := c.dropLast.map fun t => t ++ Str.ofString "1"
def longB (c : List Str) : Bool := decide (1 < c.length)
def chF : Nat → List (List Str)
  | 0 => [[Str.ofString ""]]
  | n + 1 => ((chF n).map loF) ++ (((chF n).filter longB).map shF)
def lenQ (many : Nat) : Nat := [1, 1, 2, 3, 4, 4, 4, 5, 5].getD many 5
abbrev tsD (c : List Str) : D := .lst (c.map .str)
def csD (cs : List (List Str)) : D := .lst (cs.map tsD)
def rowsQ (many : Nat) : List Str := if many = 1 then [Str.ofString "1"] else (midT (lenQ many)).take many
def chainsQ (many : Nat) : List (List Str) := if many = 1 then [] else chF (lenQ many - 1)
def twoD (many : Nat) : D := .tup [OA.P.rsD (rowsQ many), csD (chainsQ many)]
theorem allT_ok : ∀ n, n ≤ 5 → (allT n).length ≤ 32 ∧ ∀ t ∈ allT n, t.length ≤ 5 := by decide +kernel
theorem chF_ok : ∀ n, n ≤ 5 → (chF n).length ≤ 100 ∧ ∀ c ∈ chF n, 1 ≤ c.length ∧ c.length ≤ 100 ∧ ∀ t ∈ c, t.length ≤ 5 := by decide +kernel
theorem lenQ_ok : ∀ many, many ≤ 8 → 2 ≤ many → 1 ≤ lenQ many ∧ lenQ many ≤ 5 ∧ many ≤ (midT (lenQ many)).length ∧ ∀ l, l < lenQ many → 1 ≤ l → (midT l).length < many := by decide +kernel
end X
end OA

namespace OA
open PySem PySem.Spec PyProof.Rows L2
/-! sorted(a list or tuple of texts); an item of a list or of a tuple; texts by their order -/
section
variable {prog : Program} {w : World} {A : Around} {E : Value → Shared → Prop} {s : Shared}
theorem sorted_seqS {it : Addr} {T : String} {o : Obj} {items : Array Value} {n : Nat} {ss : List Str} {Q : Value → Shared → Prop} (hT : T = "list" ∨ T = "tuple") (ho : s.heap.get? it = some o) (hc : o.cls = .type T) (hd : o.data = .seq items n) (hS : StrsAre items.toList ss) (hsz : items.size ≤ sizeLine)
    (h : ∀ (h1 h' : Heap) (out : Array Value) (ss' : List Str) (ep : Nat), (∀ b u, s.heap.get? b = some u → h1.get? b = some u) → (∀ b u, h1.get? b = some u → h'.get? b = some u) → h'.get? h1.objs.size = some (seqObj "list" out ep) → StrsAre out.toList ss' → ss'.Perm ss → sortedS ss' = true → Q (.ref h1.objs.size) { s with heap := h' }) :
    wpAny (model prog w) A (call (.builtin "sorted") [.ref it]) Q E s := by
  refine Calls.call_function_entry kind_sorted plain_sorted entry_sorted (args_sorted1 _) ?_
  unfold Builtin.«sorted»
  refine wpAny_bind (m := checkCount "sorted" 1 1 _) (wpAny_pure ?_)
  refine wpAny_bind (wpAny_collect_seq it hT ho hc hd (fun h1 k1 => ?_) hsz)
  refine wpAny_bind (wpAny_newList ?_)
  have hoL : (h1.push (seqObj "list" items.toList.toArray 0)).get? h1.objs.size = some (seqObj "list" items.toList.toArray 0) := Heap.get?_push_size _ rfl
  refine wpAny_bind (wpAny_holding (wpAny_call_entry slot_list_sort ⟨_, hoL, rfl⟩ entry_list_sort (list_sort_treeKAny strKind_oneLt hoL hS.keysOf (fun v₁ v₂ rest e => keyKind_strs (by rw [← e]; exact hS)) (by simpa using hsz) fun st' a1 a2 => ⟨_, rfl, ?_⟩) (args_list_sort _)))
  obtain ⟨ss', e1, e2, e3⟩ := sorted_out_str hS a1 a2
  obtain ⟨c, hc⟩ := sortedHeap_at (vs := items.toList) (out := (arrOf st').map (·.2)) hoL
  refine wpAny_pure ⟨_, rfl, h h1 _ _ ss' c k1 (fun b u q => ?_) hc e1 e2 e3⟩
  have hlt := Heap.lt_size q
  rw [sortedHeap_old (Nat.ne_of_lt hlt) (by rw [size_push']; exact Nat.lt_succ_of_lt hlt)]
  exact Heap.get?_push_of_some _ q
end
section
variable {X : Cx}
def wSortSU : List V → Hp → VK → Prop := fun vs H Q => ∃ (a : Addr) (xs : List Str), vs = [V.ref a] ∧ (H a = some (.lst (xs.map V.str)) ∨ H a = some (.tup (xs.map V.str))) ∧ xs.length ≤ 1000 ∧
  ∀ (ys : List Str) (p : Addr), ys.Perm xs → sortedS ys = true → H p = none → Q (.ref p) (upd H p (.lst (ys.map V.str)))
theorem c_sortSU : CallR X (.builtin "sorted") wSortSU := by
  intro pins s σ H vs us Q I r h
  obtain ⟨a, xs, rfl, hs, h64, q⟩ := h
  have sl : (1000 : Nat) ≤ sizeLine := by rw [sizeLine_eq]; decide
  rw [Vals.ref1 r]
  have key : ∀ (T : String) (o : Obj) (items : Array Value) (n : Nat), (T = "list" ∨ T = "tuple") → s.heap.get? a = some o → o.cls = .type T → o.data = .seq items n → Vals (xs.map V.str) items.toList → wpAny (model X.prog X.w) X.A (call (.builtin "sorted") [.ref a]) (fun v s' => ∃ (w : V) (H' : Hp), L2.Inv X pins σ H' s' ∧ RelV w v ∧ Q w H') X.xe s := fun T o items n hT ho hc hd rv => by
    have hlen0 := rv.length
    rw [List.length_map] at hlen0
    refine sorted_seqS hT ho hc hd rv.strs (by rw [← Array.length_toList, ← hlen0]; omega) fun hh h' out ys ep k1 k2 hp h1 h2 h3 => ?_
    have I1 : L2.Inv X pins σ H { s with heap := hh } := I.kept (t' := s.toks) k1
    have hlen : (ys.map V.str).length ≤ sizeLine := by rw [List.length_map, h2.length_eq]; omega
    exact ⟨.ref hh.objs.size, upd H hh.objs.size (.lst (ys.map V.str)), I1.laid (t' := s.toks) k2 (Nat.le_refl _) ⟨hlen, out.toList, ep, vals_of_strs h1, hp⟩, rfl, q ys _ h2 h3 (I1.hok.fresh (Nat.le_refl _))⟩
  rcases hs with hs | hs
  · obtain ⟨its, rv, hl, _⟩ := I.list (SqL.of hs)
    obtain ⟨o, ho, hc, n, hd⟩ := hl.isList
    exact key "list" o its.toArray n (.inl rfl) ho hc hd (by simpa using rv)
  · obtain ⟨its, rv, ⟨o, ho, hc, n, hd⟩, _⟩ := I.tuple (SqT.of hs)
    exact key "tuple" o its.toArray n (.inr rfl) ho hc hd (by simpa using rv)
def wIxLT : R2 := fun x y H Q => wIxL x y H Q ∨ wIxT x y H Q
theorem ix_LT : IxR X wIxLT := fun va sl pins s σ H x y v u Q I rx ry z hs => z.elim (fun z => ix_L va sl pins s σ H x y v u Q I rx ry z hs) fun z => ix_T va sl pins s σ H x y v u Q I rx ry z hs
def wLtS : R2 := fun x y H Q => strR x fun i => strR y fun j => Q (.bl (decide (i.cps.toList < j.cps.toList))) H
theorem o_ltS : OpR X (compareOp .Lt) wLtS := im_op op_lt_str fun x y H Q z => by
  obtain ⟨i, rfl, z1⟩ := strR_el z
  obtain ⟨j, rfl, z2⟩ := strR_el z1
  exact ⟨i, j, rfl, rfl, z2⟩
def rNotInG (K : PySem.W.Frag) : R2 := rNotInD K
theorem o_notInG (hu : X.A.units + 65 < cLine) : OpR X (compareOp .NotIn) (rNotInG X.K) := op_notInD hu
end
section
variable {K : PySem.W.Frag} {am : Am}
def dSortSU (ws : List W) (Ω : Om) (Q : DQ) : Prop := one1W ws fun w => ∃ ss : List Str, (w = .sh (.lst (ss.map .str)) ∨ w = .sh (.tup (ss.map .str)) ∨ ∃ p, w = .pt p ∧ look Ω p = some (.lst (ss.map fun t => .sh (.str t)))) ∧ ss.length ≤ 1000 ∧
  ∀ ys : List Str, ys.Perm ss → sortedS ys = true → Q (.sh (.lst (ys.map .str))) Ω
instance r_sortSU : SRC K am wSortSU dSortSU := ⟨fun {c T σ Γ Ω H xs ws Q R} e hs h k => by
  obtain ⟨w, v, rfl, hw, ss, hss, hl, h2⟩ := one1W_el h hs
  have key : ∀ a : Addr, v = .ref a → (H a = some (.lst (ss.map V.str)) ∨ H a = some (.tup (ss.map V.str))) → wSortSU [v] H R := fun a ev ha => ⟨a, ss, by rw [ev], ha, hl, fun ys p pm pw hp => k _ _ _ _ (h2 ys pm pw) (e.lst hp (strs_lay ys))⟩
  rcases hss with rfl | rfl | ⟨p, rfl, hp⟩
  · obtain ⟨a, vs, rfl, na, ha, hv⟩ := hw
    have := lay_strs hv
    subst this
    exact key a rfl (.inl ha)
  · obtain ⟨a, vs, rfl, na, ha, hv⟩ := hw
    have := lay_strs hv
    subst this
    exact key a rfl (.inr ha)
  · obtain ⟨vs, h1, h3⟩ := e.ob _ (look_mem hp)
    have h3 : VOks K H (Ex c Ω) ((ss.map D.str).map W.sh) vs := by rw [List.map_map]; exact h3
    have := lay_strs h3.lay
    subst this
    exact key p hw (.inl h1)⟩
def dIxLT (x : W) (y : W) (Ω : Om) (Q : DQ) : Prop := dIxL x y Ω Q ∨ dIxT x y Ω Q
instance r_ixLT : SR2 K am wIxLT dIxLT := ⟨fun e hx hy h k => h.elim (fun h => .inl (r_ixL.run e hx hy h k)) fun h => .inr (r_ixT.run e hx hy h k)⟩
def dLtS (x : W) (y : W) (Ω : Om) (Q : DQ) : Prop := strW x fun i => strW y fun j => Q (.sh (.bl (decide (i.cps.toList < j.cps.toList)))) Ω
instance r_ltS : SR2 K am wLtS dLtS := ⟨fun {c T σ Γ Ω H x y wx wy Q R} e hx hy h k => by
  obtain ⟨i, rfl, h1⟩ := strW_el h
  obtain ⟨j, rfl, h2⟩ := strW_el h1
  obtain rfl : x = .str i := hx
  obtain rfl : y = .str j := hy
  exact k _ _ _ _ h2 (e.addv rfl)⟩
/-- x not in a list, by data -/
def dNotInG (x : W) (y : W) (Ω : Om) (Q : DQ) : Prop := shW x fun a => shW y fun l => (plD a = true ∧ (pdD a).depth ≤ 64) ∧ ∃ ds, l = .lst ds ∧ (plL ds = true ∧ (pdD (.lst ds)).depth ≤ 64) ∧ Q (.sh (.bl (!(pdL ds).any fun z => PyData.eqv z (pdD a)))) Ω
instance r_notInG : SR2 K am (rNotInG K) dNotInG := ⟨fun {c T σ Γ Ω H x y wx wy Q R} e hx hy h k => by
  obtain ⟨a, rfl, h1⟩ := shW_el h
  obtain ⟨l, rfl, ⟨p1, p2⟩, ds, rfl, ⟨p3, p4⟩, h2⟩ := shW_el h1
  exact ⟨pdD a, pdL ds, pd_dp a x p1 hx, pd_dp (.lst ds) y p3 hy, shaped_of (pd_can a p1) p2, shaped_of (pd_can (.lst ds) p3) p4, k _ _ _ _ h2 (e.addv rfl)⟩⟩
end
/-! sorted texts are told by what they hold -/
theorem leCps_pw : ∀ (p : Str) (l : List Str), risingS p l = true → (p :: l).Pairwise fun a b => a.cps.toList ≤ b.cps.toList
  | p, [], _ => List.pairwise_singleton _ _
  | p, x :: r, h => by
    have h : (!ltCps x.cps.toList p.cps.toList && risingS x r) = true := h
    obtain ⟨h1, h2⟩ := Bool.and_eq_true_iff.mp h
    rw [ltCps_eq, Bool.not_eq_true', decide_eq_false_iff_not] at h1
    have ih := leCps_pw x r h2
    have le : p.cps.toList ≤ x.cps.toList := h1
    refine List.pairwise_cons.mpr ⟨fun y hy => ?_, ih⟩
    rcases List.mem_cons.mp hy with rfl | hy
    · exact le
    · exact List.le_trans le ((List.pairwise_cons.mp ih).1 y hy)
theorem srtS_uniq {l m : List Str} (h : l.Perm m) (hl : sortedS l = true) (hm : sortedS m = true) : l = m := by
  have pw : ∀ l : List Str, sortedS l = true → l.Pairwise fun a b => a.cps.toList ≤ b.cps.toList := fun l h => by
    cases l with
    | nil => exact List.Pairwise.nil
    | cons x r => exact leCps_pw x r h
  refine List.Perm.eq_of_pairwise (le := fun a b : Str => a.cps.toList ≤ b.cps.toList) (fun a b _ _ h1 h2 => ?_) (pw l hl) (pw m hm) h
  have := List.le_antisymm h1 h2
  cases a
  cases b
  simp only at this
  congr 1
  exact Array.toList_inj.mp this
end OA

namespace OA
open PySem PySem.Spec PyProof.Rows L2 LamX
/-! statements with nothing kept beside; lists within a told list changed, all that was known of lists forgotten -/
class SS0 (K : PySem.W.Frag) (am : Am) (ts : TS) (t : outParam DS) : Prop where
  run : ∀ {c : Cq am} {σ : L2.St} {Γ : Gm} {Ω : Om} {H : Hp} {D : Ends} {N : DN}, DEnv K c [] σ Γ Ω H → t N Γ Ω → EndsOk K c [] D N → ts D σ H
section
variable {K : PySem.W.Frag} {am : Am} {ts us : TS} {dt du : DS}
instance (priority := low) s0_of [s : SS K am ts dt] : SS0 K am ts dt := ⟨fun e h o => s.run e h o⟩
instance s0_seq [s1 : SS0 K am ts dt] [s2 : SS0 K am us du] : SS0 K am (vSeq ts us) (dSeq dt du) := ⟨fun {c σ Γ Ω H D N} e h o =>
  s1.run e h ⟨fun σ' Γ' Ω' H' h' e' => by
    obtain ⟨Γ2, Ω2, h2, e2⟩ := h'.run e'
    exact s2.run e2 h2 o, o.rt, o.bk, o.ct⟩⟩
instance s0_for {ta : TA} {das : DA} {g : TG} {d : DG} {ix : List Nat} [s0 : SA K am ta das] [s1 : SG K am g d ix] [s2 : SS0 K am ts dt] : SS0 K am (vFor (viR1 ta) g ts) (dFor (dR1 das) d dt) := ⟨fun {c σ Γ Ω H D N} e h o =>
  s0.run e h fun vs ws Ω1 H1 h1 e1 hv => by
    obtain ⟨w, v, rfl, hw, h2⟩ := one1W_el h1 hv
    obtain ⟨j, rfl, hj, Pv, p0, ps, pe⟩ := intW_el h2
    obtain rfl : v = .int j := hw
    have hlen : (natsW j.toNat).length = j.toNat := by unfold natsW; rw [List.length_map, List.length_range]
    refine ⟨hj, j.toNat, _, _, fun i σ H => ∃ Γ Ω, Pv i Γ Ω ∧ DEnv K c [] σ Γ Ω H, walk_range, ⟨Γ, Ω1, p0, e1⟩, fun i σ H _ _ => True.intro, fun i x σ H H' hi ⟨Γ, Ω, p, e⟩ y => ?_, fun σ H ⟨Γ, Ω, p, e⟩ => ?_⟩
    · obtain ⟨eh, ex⟩ := y
      subst eh ex
      have hw' : (natsW j.toNat)[i]? = some (W.sh (.int (i : Nat))) := by unfold natsW; rw [List.getElem?_map, List.getElem?_range hi]; rfl
      have hv' : ∀ H, VOk K H (Ex c Ω) (.sh (.int (i : Nat))) (.int (0 + (i : Nat))) := fun H => by
        show V.int (0 + (i : Nat)) = _
        rw [Int.zero_add]
      refine s1.run e (hv' _) (ps i _ Γ Ω hw' p) fun σ2 Γ2 Ω2 H2 q2 e3 _ => ?_
      obtain ⟨Γ3, Ω3, h3, e4⟩ := LaterD.run q2 e3
      exact s2.run e4 h3 ⟨fun σ' Γ' Ω' H' p' e' => ⟨Γ', Ω', p', e'⟩, o.rt, o.nx, fun σ' Γ' Ω' H' p' e' => ⟨Γ', Ω', p', e'⟩⟩
    · rw [hlen] at pe
      obtain ⟨Γ3, Ω3, h3, e4⟩ := LaterD.run (pe Γ Ω p) e
      exact o.nx _ _ _ _ h3 e4⟩
/-- all lists that were there at a run's begin are not to be met -/
class BurnAm (am : Am) : Prop where
  b : ∀ (c : Cq am) (a : Addr) (vs : List V), c.H0 a = some (.lst vs) → c.E a
def amBn (a : Am) (H0 : Hp) : Am := ⟨fun H => H = H0, fun b => a.M b ∨ ∃ vs, H0 b = some (.lst vs), fun H => a.I H ∧ ∀ b, (∃ vs, H0 b = some (.lst vs)) → EOk H b, fun H H' k kc i => ⟨a.loc H H' (fun b m => k b (.inl m)) kc i.1, fun b hb => by
  obtain ⟨o, e, z⟩ := i.2 b hb
  exact ⟨o, by rw [k b (.inr hb)]; exact e, z⟩⟩, fun H b i m => m.elim (a.ex H b i.1) (i.2 b)⟩
instance burn_bn (a : Am) (H0 : Hp) : BurnAm (amBn a H0) := ⟨fun c b vs h => c.ME b (.inr ⟨vs, by rw [← (show c.H0 = H0 from c.jH)]; exact h⟩)⟩
instance amLe_bn (x a : Am) (H0 : Hp) [le : AmLe x a] : AmLe x (amBn a H0) := ⟨fun H h => le.I H h.1, fun b m => .inl (le.M b m), fun H H' i k h => ⟨le.back H H' i.1 k h, fun b hb => by
  by_cases m : x.M b
  · exact x.ex H' b h m
  · obtain ⟨o, e, z⟩ := i.2 b hb
    exact ⟨o, k b o m e, z⟩⟩⟩
instance drawsIn_bn (d : Addr) (a : Am) (H0 : Hp) [s : DrawsIn d a] : DrawsIn d (amBn a H0) := ⟨.inl s.mem, fun H h => s.get H h.1, fun H H' i k dr => ⟨s.put H H' i.1 k dr, fun b hb => by
  by_cases m : b = d
  · rw [m]
    exact a.ex H' d (s.put H H' i.1 k dr) s.mem
  · obtain ⟨o, e, z⟩ := i.2 b hb
    exact ⟨o, k b o e m, z⟩⟩⟩
instance lamIn_bn (P : Addr) (q : Str) (a : Am) (H0 : Hp) [s : LamIn P q a] : LamIn P q (amBn a H0) := ⟨.inl s.m, fun H h => s.get H h.1, fun H H1 i l => ⟨s.put H H1 i.1 l, fun b hb => by
  by_cases m : b = P
  · rw [m]
    exact a.ex H1 P (s.put H H1 i.1 l) s.m
  · obtain ⟨o, e, z⟩ := i.2 b hb
    exact ⟨o, l.1 b o m e, z⟩⟩⟩
/-- for x in xs: x.append("x") -/
def vBurn (K : PySem.W.Frag) (i j : Nat) (t : Str) : TS := vFor (viList K (vVar j)) (gName i) (tDrop (vLM wAppend (vVar i) (tCons (tC (.str t)) tNil)))
def keepO : Option W → Option W
  | some (.sh (.int n)) => some (.sh (.int n))
  | some (.pt p) => some (.pt p)
  | _ => none
def dBurn (i j : Nat) (N : DN) (Γ : Gm) (_Ω : Om) : Prop := ∃ cs : List (List Str), Γ[j]? = some (some (.sh (.lst (cs.map fun c => .lst (c.map .str))))) ∧ ((i ≠ j ∧ i < Γ.length) ∧ cs.length ≤ 1000 ∧ ∀ c ∈ cs, c.length ≤ 1000) ∧
  ∀ (a : Addr) (ps : List Addr), ps.length = cs.length → N.nx (((Γ.map keepO).set i none).set j (some (.pt a))) [(a, .lst (ps.map .pt))]
theorem pts_of {H : Hp} {E : Addr → Prop} : ∀ {cs : List (List Str)} {vs : List V}, LayL K H E (cs.map fun c => .lst (c.map .str)) vs → ∃ ps : List Addr, vs = ps.map V.ref ∧ ps.length = cs.length ∧ ∀ p ∈ ps, ¬ E p ∧ ∃ c ∈ cs, H p = some (.lst (c.map V.str))
  | [], vs, h => ⟨[], h, rfl, fun p hp => by simp at hp⟩
  | c :: cs, vs, ⟨v, r, e, ⟨a, us, e2, n, ha, hl⟩, hr⟩ => by
    obtain ⟨ps, h1, h2, h3⟩ := pts_of hr
    have := lay_strs hl
    subst this
    refine ⟨a :: ps, by rw [e, e2, h1]; rfl, by simp [h2], fun p hp => ?_⟩
    rcases List.mem_cons.mp hp with rfl | hp
    · exact ⟨n, c, List.mem_cons_self, ha⟩
    · obtain ⟨h4, c', h5, h6⟩ := h3 p hp
      exact ⟨h4, c', List.mem_cons_of_mem _ h5, h6⟩
theorem pts_oks {H : Hp} {E : Addr → Prop} (ps : List Addr) : VOks K H E (ps.map .pt) (ps.map V.ref) := by
  induction ps with
  | nil => exact rfl
  | cons p ps ih => exact ⟨_, _, rfl, rfl, ih⟩
instance s0_burn [bu : BurnAm am] {i j : Nat} {t : Str} : SS0 K am (vBurn K i j t) (dBurn i j) := ⟨fun {c σ Γ Ω H D N} e h o => by
  obtain ⟨cs, hj, ⟨⟨hij, hil⟩, h1, h2⟩, kk⟩ := h
  obtain ⟨v, hv, a, vs, rfl, na, ha, hl⟩ := e.sl j _ hj
  obtain ⟨ps, rfl, hpl, hps⟩ := pts_of hl
  have nap : a ∉ ps := fun m => by
    obtain ⟨_, c', _, h6⟩ := hps a m
    rw [ha] at h6
    have h6 : ps.map V.ref = c'.map V.str := by
      injection (Option.some.inj h6)
    cases ps with
    | nil => simp at m
    | cons p ps =>
      cases c' with
      | nil => cases h6
      | cons x c' =>
        rw [List.map_cons, List.map_cons] at h6
        cases (List.cons.inj h6).1
  -- all these were not there at the begin
  have new : ∀ p us, ¬ Ex c Ω p → H p = some (.lst us) → c.H0 p = none ∧ ¬ c.E p := fun p us n hp => by
    have nE : ¬ c.E p := fun z => n (.inl z)
    refine ⟨?_, nE⟩
    cases q : c.H0 p with
    | none => rfl
    | some u =>
      have := e.frm p u (fun m => nE (c.ME p m)) q
      rw [hp] at this
      cases this
      exact absurd (bu.b c p us q) nE
  obtain ⟨a0, aE⟩ := new a _ na ha
  show optR (σ[j]?) _
  rw [hv]
  show lstO (H a) _
  rw [ha]
  show ∃ (n : Nat) (G : Hp → Prop) (Y : Nat → Hp → V → Hp → Prop) (Pv : Nat → L2.St → Hp → Prop), _
  refine ⟨ps.length, fun H' => SqL K H' a (ps.map V.ref), YAt (ps.map V.ref), fun k σ' H' => (σ'.length = σ.length ∧ ∀ m, m ≠ i → σ'[m]? = σ[m]?) ∧ (∀ b, b ∉ ps → H' b = H b) ∧ ∀ b ∈ ps, ∃ us, H' b = some (.lst us) ∧ us.length ≤ 1000 + k, by have := walk_list (K := K) (a := a) (xs := ps.map V.ref); rwa [List.length_map] at this, ⟨⟨rfl, fun _ _ => rfl⟩, fun _ _ => rfl, fun b hb => ?_⟩, fun k σ' H' _ ⟨_, h3, _⟩ => SqL.of (by rw [h3 a nap]; exact ha), fun k x σ' H1 H2 hk ⟨⟨z1, z2⟩, z3, z4⟩ y => ?_, fun σ' H' ⟨⟨z1, z2⟩, z3, z4⟩ => ?_⟩
  · obtain ⟨_, c', m, h6⟩ := hps b hb
    exact ⟨_, h6, by rw [List.length_map]; have := h2 c' m; omega⟩
  · obtain ⟨ey, hx⟩ := y
    subst ey
    rw [List.getElem?_map] at hx
    cases q : ps[k]? with
    | none => rw [q] at hx; cases hx
    | some p =>
      rw [q] at hx
      obtain rfl : V.ref p = x := Option.some.inj hx
      have hp : p ∈ ps := List.mem_of_getElem? q
      obtain ⟨us, hu, hul⟩ := z4 p hp
      have hi : i < σ'.length := by rw [z1, ← e.len]; exact hil
      have hsi : (σ'.set i (some (V.ref p)))[i]? = some (some (V.ref p)) := by rw [List.getElem?_set, if_pos rfl, if_pos hi]
      show Later _ (σ'.set i (some (V.ref p))) H2
      refine Later.mk ?_
      show optR ((σ'.set i (some (V.ref p)))[i]?) _
      rw [hsi]
      show lstO (H2 p) _ ∧ lstO (H2 p) _
      rw [hu]
      refine ⟨True.intro, by rw [sizeLine_eq]; omega, ⟨by rw [List.length_set]; exact z1, fun m hm => by rw [List.getElem?_set, if_neg (fun z => hm z.symm)]; exact z2 m hm⟩, fun b hb => ?_, fun b hb => ?_⟩
      · rw [upd_ne (fun z => hb (by rw [z]; exact hp))]
        exact z3 b hb
      · by_cases z : b = p
        · subst z
          exact ⟨_, upd_same, by rw [List.length_append]; show us.length + 1 ≤ _; omega⟩
        · obtain ⟨us2, hu2, hul2⟩ := z4 b hb
          exact ⟨us2, by rw [upd_ne z]; exact hu2, by omega⟩
  · refine o.nx _ _ _ _ (kk a ps hpl) ⟨?_, fun m w hm => ?_, fun t ht => by simp at ht, fun q hq => ?_, by simp, fun p hp => ?_, fun b hb => ?_, fun b u n hb => ?_, ?_⟩
    · rw [List.length_set, List.length_set, List.length_map, z1]
      exact e.len
    · rw [List.getElem?_set] at hm
      by_cases mj : j = m
      · subst mj
        rw [if_pos rfl] at hm
        split at hm
        · obtain rfl : w = .pt a := by injection hm with hm; injection hm with hm; exact hm.symm
          exact ⟨.ref a, by rw [z2 j (fun z => hij z.symm)]; exact hv, rfl⟩
        · cases hm
      · rw [if_neg mj, List.getElem?_set] at hm
        by_cases mi : i = m
        · rw [if_pos mi] at hm
          split at hm <;> cases hm
        · rw [if_neg mi, List.getElem?_map] at hm
          cases q : Γ[m]? with
          | none => rw [q] at hm; cases hm
          | some g =>
            rw [q] at hm
            have hm : keepO g = some w := Option.some.inj hm
            have key : g = some w ∧ ∀ v, VOk K H (Ex c Ω) w v → VOk K H' (Ex c [(a, .lst (ps.map .pt))]) w v := by
              unfold keepO at hm
              split at hm
              · cases hm
                exact ⟨rfl, fun v z => z⟩
              · cases hm
                exact ⟨rfl, fun v z => z⟩
              · cases hm
            rw [key.1] at q
            obtain ⟨v, g1, g2⟩ := e.sl m w q
            exact ⟨v, by rw [z2 m (fun z => mi z.symm)]; exact g1, key.2 v g2⟩
    · obtain rfl := List.mem_singleton.mp hq
      exact ⟨ps.map V.ref, by rw [z3 a nap]; exact ha, pts_oks ps⟩
    · obtain rfl : p = a := by simpa using hp
      exact ⟨a0, aE⟩
    · have nb : b ∉ ps := fun m => (hps b m).1 (.inl hb)
      obtain ⟨u, e1, e2⟩ := e.el b hb
      exact ⟨u, by rw [z3 b nb]; exact e1, e2⟩
    · have nb : b ∉ ps := fun m => by
        obtain ⟨n2, c', _, h6⟩ := hps b m
        rw [(new b _ n2 h6).1] at hb
        cases hb
      rw [z3 b nb]
      exact e.frm b u n hb
    · refine am.loc H H' (fun b m => z3 b fun hb => (hps b hb).1 (.inl (c.ME b m))) (fun b u hc hb => ?_) e.inv
      rw [z3 b fun m => ?_]
      · exact hb
      · obtain ⟨_, c', _, h6⟩ := hps b m
        rw [h6] at hb
        cases hb
        exact ncd_lst hc⟩
theorem law_goB {X : Cx} {am : Am} {body : List Stmt} {ts : TS} {E0 E1 : XK} {N : List Str} {vs : List V} {H : Hp} {Q : VK} (h : spLawA K am vs H Q E1) (hP : PSs X body (vSeq (tAsg (vCall (spDice K) E0 (tCons (vVar 0) (tCons (tC (.int 0)) tNil))) (gName 1)) ts))
    (hN : 2 ≤ N.length) (hD : ∀ d H', ∃ td : DS, SS0 K (amBn (amAnd (amD d) am) H') ts td ∧ td lawN (lawG N d) []) :
    ∃ t, PSs X body t ∧ t { nx := fun _ H' => Q .non H', rt := Q } (start N vs) H := by
  obtain ⟨a, ns, rfl, hS, hl, hT, kk⟩ := h
  refine ⟨_, hP, ?_⟩
  refine (show spDice K [.ref a, .int 0] H (fun v H1 => Later (ts { nx := fun _ H' => Q .non H', rt := Q }) ((start N [.ref a]).set 1 (some v)) H1) E0 from ⟨a, ns, rfl, hS, hl, fun d H' sm hd dr => Later.mk ?_⟩)
  have inv : (amAnd (amD d) am).I H' := ⟨dr, am.keep hT (fun x o _ e => sm x o e) (fun x o _ e => sm x o e), fun x z y => by
    have z : x = d := z
    rw [z] at y
    exact (am.ex H d hT y).some hd⟩
  have inv2 : (amBn (amAnd (amD d) am) H').I H' := ⟨inv, fun b ⟨vs, e⟩ => ⟨_, e, fun _ z => (by cases z), ncd_lst⟩⟩
  let c : Cq (amBn (amAnd (amD d) am) H') := ⟨(amBn (amAnd (amD d) am) H').M, fun b m => m, H', rfl⟩
  have e0 : DEnv K c [] ((start N [.ref a]).set 1 (some (.ref d))) (lawG N d) [] H' := by
    refine ⟨?_, fun i w hw => ?_, fun t ht => by simp at ht, fun q hq => by simp at hq, List.nodup_nil, fun p hp => by simp at hp, fun b hb => (amBn (amAnd (amD d) am) H').ex H' b inv2 hb, fun b o _ hb => hb, inv2⟩
    · rw [List.length_set]
      unfold lawG L2.start
      simp
      omega
    · unfold lawG at hw
      rw [List.getElem?_set] at hw
      split at hw
      · rename_i z
        subst z
        split at hw
        · rename_i hl
          cases hw
          refine ⟨.ref d, ?_, rfl⟩
          rw [List.getElem?_set, if_pos rfl, if_pos]
          unfold L2.start
          simp
          omega
        · cases hw
      · rw [List.getElem?_replicate] at hw
        split at hw <;> cases hw
  obtain ⟨td, hs, hD⟩ := hD d H'
  refine hs.run (c := c) e0 hD ⟨fun _ _ _ _ z _ => z.elim, fun v w σ Γ Ω H2 q e => ?_, fun _ _ _ _ z _ => z.elim, fun _ _ _ _ z _ => z.elim⟩
  have q : w = .sh (.bl true) := q
  subst q
  rw [show v = .bl true from e.hd]
  exact kk H2
end
end OA

namespace OA
namespace X
open PySem PySem.Spec PyProof.Rows L2
local macro_rules
  | `(tactic| push_cast only [$a,*]) => `(tactic| simp -implicitDefEqProofs only [Int.toNat_natCast, List.cons.injEq, W.sh.injEq, D.int.injEq, D.str.injEq, D.bl.injEq, D.tup.injEq, D.lst.injEq, W.pt.injEq, and_assoc, exists_eq_left', exists_eq_left, exists_and_left, true_implies, dIsi, tn_n, tn_b, tn_i, tn_s, tn_t, tn_nt, tn_l, kr_NoneType_bool, kr_NoneType_int, kr_NoneType_str, kr_NoneType_list, kr_NoneType_tuple, kr_NoneType_dict, kr_bool_bool, kr_bool_int, kr_bool_str, kr_bool_list, kr_bool_tuple, kr_bool_dict, kr_int_bool, kr_int_int, kr_int_str, kr_int_list, kr_int_tuple, kr_int_dict, kr_str_bool, kr_str_int, kr_str_str, kr_str_list, kr_str_tuple, kr_str_dict, kr_list_bool, kr_list_int, kr_list_str, kr_list_list, kr_list_tuple, kr_list_dict, kr_tuple_bool, kr_tuple_int, kr_tuple_str, kr_tuple_list, kr_tuple_tuple, kr_tuple_dict, kr_dict_bool, kr_dict_int, kr_dict_str, kr_dict_list, kr_dict_tuple, kr_dict_dict, dVar, dC_n, dC_b, dC_i, dC_s, dC_t, dC_r, dOp, dUn, dNil, dCons, dStar, dStarT, dTup, dLst, dLstO, dAnd, dOr, dNot, dIf, dTest, dYes, dChain, dCall, dNext, dCut, dSeq, dDrop, dRet, dRetN, dIfS, dName, sgnil_e, sgcons_e, dGtup, dAsg, dAug, dWhile, dFor, dLc, dLcO, dLc2, dDc, dI0, dIC, dEq, dIsN, isNonW, noPy, dAddS, dMulS, dCat, dCatT, dInT, dInLI, dInTI, dInS, dIxL, dIxT, dIxS, dNeg, dNoPart, dPart, dSl, dSlL, dSlT, dSlS, dRev, dDGet, dDIn, dDNew, dDNewS, dsDPut, dgSub, dSetL, isLW, dLM, dLM0, dAppend, dPopAt, dExtend, dPop, dLen, dTupL, dLstL, dAbs, dIntB, dMin2, dMax2, dMaxL, dCKw, dMaxT, dFn, dList, dTupI, dStrI, dR1, dR2, dEnum, dTAnd, dTOr, dTNot, varR_e, intW_e, blW_e, strW_e, shW_e, tyW_e, tupW_e, tupW_n, tup0W_e, lookL_e, lookD_e, lookR_e, lookR_l, seqW_e, seqW_p, dicW_e, dicW_p, ownL_p, ownD_p, keyW_i, keyW_s, one1W_e, two2W_e, shsW_nil, shsW_cons, shsW_app, shsW_map, intsD_nil, intsD_cons, intsD_map, strsD_map, cWR_n, cWR_b, cWR_i, cWR_s, flW_n, flW_b, flW_i, flW_s, fls_nil, fls_n, fls_b, fls_i, fls_s, lenW_l, lenW_d, lenW_t, lenW_n, lenW_s, lenW_p, lenO'_l, lenO'_d, atR_0, atR_1, atR_2, atR_3, atR_4, lenOk_0, lenOk_1, lenOk_2, lenOk_3, lenOk_4, lenOk_5, look_hd, put_c, put_n, notins_nil, startG, scal, List.map, List.replicate, List.length_cons, List.length_nil, List.cons_append, List.nil_append, List.append_nil, List.getElem?_cons_zero, List.getElem?_cons_succ, List.set_cons_zero, List.set_cons_succ, wipeG, true_and, and_true, if_true, if_false, decide_eq_true_eq, reduceCtorEq, reduceIte, Bool.false_eq_true, decide_true, decide_false, Bool.true_and, Bool.false_and, Bool.and_true, Bool.and_false, Bool.not_true, Bool.not_false, V.int.injEq, V.str.injEq, V.bl.injEq, Nat.reduceAdd, Nat.reduceSub, Nat.reduceLT, Int.reduceEq, Int.reduceLT, Int.reduceLE, Int.reduceAdd, Int.reduceSub, Int.cast_ofNat_Int, dForK, dDictO, dSortP, dCount, dLenSet, dInLs, $a,*])
  | `(tactic| push_cast [$a,*]) => `(tactic| ((repeat refine LaterD.mk ?_); push_cast only [$a,*]; repeat ((refine LaterD.mk ?_); (repeat refine LaterD.mk ?_); push_cast only [$a,*])))
theorem qi_listK {X : Cx} {tg l : Expr} {tl : TE} {K : PySem.W.Frag} (hK : X.K = K) (hl : PE X l tl) : PI X tg l (viList K tl) := by
  subst hK
  exact qi_list hl
theorem one_len : (Str.ofString "0").length = 1 ∧ (Str.ofString "1").length = 1 := by decide
theorem sapp_len (a b : Str) : (a ++ b).length = a.length + b.length := by
  show (a.cps ++ b.cps).size = _
  rw [Array.size_append]
  rfl
theorem atR_lastS {c : List Str} {k : W → Prop} (h : 1 ≤ c.length) : atR (c.map fun t => W.sh (.str t)) (-1) k = k (.sh (.str (lastS c))) := by
  have hx : ixN (c.map fun t => W.sh (.str t)).length (-1) = some (c.length - 1) := by
    unfold ixN
    rw [List.length_map, if_neg (by decide), if_pos (by omega)]
    congr 1
    omega
  have e : L2.atI (c.map fun t => W.sh (.str t)) (-1) = some (W.sh (.str (lastS c))) := by
    unfold L2.atI
    rw [hx]
    show (c.map fun t => W.sh (.str t))[c.length - 1]? = _
    unfold lastS
    rw [List.getElem?_map, List.getLast?_eq_getElem?, List.getElem?_eq_getElem (by omega)]
    rfl
  unfold atR
  rw [e]
theorem cutA_but1 {α : Type} (xs : List α) : OA.cutA xs none (some (-1)) = xs.dropLast := by
  unfold OA.cutA
  show (xs.drop 0).take ((-1 + (xs.length : Int)).toNat - 0) = _
  rw [List.drop_zero, List.dropLast_eq_take]
  congr 1
  omega
theorem cutA_tk {α : Type} (xs : List α) (n : Nat) : OA.cutA xs none (some (n : Int)) = xs.take n := by
  unfold OA.cutA
  rw [HT.sIx_nat]
  show (xs.drop 0).take (min n xs.length - 0) = _
  rw [List.drop_zero, Nat.sub_zero]
  rcases Nat.le_total n xs.length with z | z
  · rw [Nat.min_eq_left z]
  · rw [Nat.min_eq_right z, List.take_of_length_le (Nat.le_refl _), List.take_of_length_le z]
section
variable {P : Program} {w : World} {K : PySem.W.Frag} {mg : Str → Option Value} {base : Heap} {A : Ad} {Z : XA}
theorem sc_middle_texts : FnScope ["length", "texts", "size", "sign", "text"] ["length"] (defScope s_middle_texts) := ⟨rfl, rfl, rfl, by decide +kernel, rfl, by decide +kernel, by decide +kernel⟩
theorem ok_middle_texts (T : Txt K mg base A) : FnOk P w K mg base CX0 1 A.middle_texts A.d_middle_texts ["length"] (spD K am0 (fun ws Q => ∃ n : Nat, ws = [.sh (.int n)] ∧ n ≤ 5 ∧ Q (.sh (.lst ((midT n).map .str))) [])) := by
  refine T.F_middle_texts.ok sc_middle_texts (fun vs H Q E h => by
    obtain ⟨_, ws, Qd, _, _, _, hv, hsp, _⟩ := h
    obtain ⟨n, rfl, _⟩ := hsp
    exact hv.len.symm) (fun cdv A' outer s H vs Q E hr h => ?_)
  have hu := hu_of hr
  refine spD_run (td := ?td) h (qs_cons (ps_set (i := 1) sc_middle_texts.nd rfl (Or.inr rfl) (pe_lst (pa_cons pe_str pa_nil)))
    (qs_cons (q_for PassesOwn.never rfl (qi_r1 (by rfl) T.m_range (pa_cons (qv 0) pa_nil)) (pg_name (i := 2) sc_middle_texts.nd rfl (Or.inl rfl)) (pss_one (ps_set (i := 1) sc_middle_texts.nd rfl (Or.inr rfl) (pe_lc2 (own := [("sign", 3), ("text", 4)]) (vs1 := [4]) (g := gName 3) (g1 := gName 4) (tt := tYes) (tt1 := tYes) rfl sc_middle_texts.nd (qi_str pe_str) (blkOk_by (own := [("sign", 3), ("text", 4)]) (N := ["length", "texts", "size", "sign", "text"]) (sc := defScope s_middle_texts) (by decide +kernel)) (by decide) (fun _ _ _ _ _ => (pg_name (i := 3) sc_middle_texts.nd rfl (Or.inl rfl))) (fun _ _ _ _ _ => pts_nil) (fun _ _ _ _ _ => (qi_listK (K := K) rfl (qv 1))) (fun _ _ _ _ _ => (pg_name (i := 4) sc_middle_texts.nd rfl (Or.inl rfl))) (fun _ _ _ _ _ => pts_nil) (fun _ _ _ _ _ => (pe_op o_addS (qv 3) (qv 4)))))))
    (pss_one (ps_ret (q_lc (own := [("text", 4)]) (g := gName 4) rfl sc_middle_texts.nd (qi_list (qv 1)) (blkOk_by (own := [("text", 4)]) (N := ["length", "texts", "size", "sign", "text"]) (sc := defScope s_middle_texts) (by decide +kernel)) (fun _ _ _ _ _ => (pg_name (i := 4) sc_middle_texts.nd rfl (Or.inl rfl))) (fun _ _ _ _ _ => pts_one (q_cmp op_eq (q_count (qv 4) pe_str) (pe_op o_fdiv (qv 0) pe_int) (nomark _))) (fun _ _ _ _ _ => (qv 4))))))) ?hs ?hD
  case hs => (try simp only [cx_K, cx_prog, cx_w, blkK]); exact inferInstance
  rintro ws Qd ⟨n, rfl, h5, kk⟩
  push_cast []
  refine ⟨by omega, by omega, fun i Γ Ω => ∃ v2 v3 v4, Γ = [some (.sh (.int n)), some (.sh (.lst ((allT i).map .str))), v2, v3, v4] ∧ Ω = [], ⟨_, _, _, rfl, rfl⟩, ?_, ?_⟩
  · rintro i w Γ Ω hw ⟨v2, v3, v4, rfl, rfl⟩
    have hi : i < n := by
      have := (List.getElem?_eq_some_iff.mp hw).1
      simpa [natsW] using this
    obtain rfl : W.sh (.int (i : Nat)) = w := by
      unfold natsW at hw
      rw [List.getElem?_map, List.getElem?_range hi] at hw
      exact Option.some.inj hw
    obtain ⟨l32, l5⟩ := allT_ok i (by omega)
    push_cast []
    have ew : List.map (fun c => W.sh (D.str { cps := #[c] })) (Str.ofString "01").cps.toList = [W.sh (.str (Str.ofString "0")), W.sh (.str (Str.ofString "1"))] := by
      rw [show (Str.ofString "01").cps.toList = [48, 49] from by decide +kernel, show Str.ofString "0" = (⟨#[48]⟩ : Str) from by decide +kernel, show Str.ofString "1" = (⟨#[49]⟩ : Str) from by decide +kernel]
      rfl
    rw [ew]
    let sg : List Str := [Str.ofString "0", Str.ofString "1"]
    let F : Str → List W := fun g => (allT i).map fun t => W.sh (.str (g ++ t))
    refine ⟨by decide, by decide, fun i1 acc => acc = (sg.take i1).flatMap F, ⟨rfl, fun i1 w acc p1 hw ha hn1 => ?_⟩, fun acc hacc => ?_⟩
    · obtain ⟨g, hg, rfl, g1⟩ : ∃ g, sg[i1]? = some g ∧ W.sh (.str g) = w ∧ g.length = 1 := by
        match i1, hw with
        | 0, hw => exact ⟨_, rfl, Option.some.inj hw, one_len.1⟩
        | 1, hw => exact ⟨_, rfl, Option.some.inj hw, one_len.2⟩
      have ht : sg.take (i1 + 1) = sg.take i1 ++ [g] := by rw [List.take_succ, hg]; rfl
      have hsg : (sg.take i1).length ≤ 2 := by rw [List.length_take]; exact Nat.min_le_right _ _
      have accl : acc.length ≤ 64 := by
        rw [ha, List.length_flatMap]
        have : ∀ l : List Str, (l.map fun g => (F g).length).sum = l.length * (allT i).length := fun l => by
          induction l with
          | nil => simp
          | cons a l ih =>
            rw [List.map_cons, List.sum_cons, ih, List.length_cons, Nat.add_mul]
            show ((allT i).map _).length + _ = _
            rw [List.length_map]
            omega
        rw [this]
        calc (sg.take i1).length * (allT i).length ≤ 2 * 32 := Nat.mul_le_mul hsg l32
          _ = 64 := rfl
      push_cast []
      refine ⟨fun j acc' => acc' = acc ++ ((allT i).take j).map fun t => W.sh (.str (g ++ t)), by simp, fun j u acc' hu hacc' => ?_, fun acc' h => ?_⟩
      · cases q : (allT i)[j]? with
        | none => simp [q] at hu
        | some t =>
          obtain rfl : W.sh (.str t) = u := by simpa [q] using hu
          have tl := l5 t (List.mem_of_getElem? q)
          have htj : (allT i).take (j + 1) = (allT i).take j ++ [t] := by rw [List.take_succ, q]; rfl
          push_cast []
          refine ⟨by rw [sizeLine_eq]; omega, ?_, ?_⟩
          · subst hacc'
            unfold lenLt
            rw [sizeLine_eq, List.length_append, List.length_map]
            have := List.length_take_le' j (allT i)
            omega
          · rw [hacc', htj, List.map_append, List.append_assoc]
            rfl
      · rw [h, ha, ht, List.flatMap_append, List.flatMap_singleton]
        simp [F]
    · have : acc = ((allT (i + 1)).map D.str).map W.sh := by
        rw [hacc]
        show (sg.take 2).flatMap F = _
        show F (Str.ofString "0") ++ (F (Str.ofString "1") ++ []) = _
        rw [List.append_nil]
        unfold allT grT
        rw [List.map_append, List.map_append, List.map_map, List.map_map, List.map_map, List.map_map]
        rfl
      subst this
      push_cast []
  · rintro Γ Ω ⟨v2, v3, v4, rfl, rfl⟩
    have e2 : (natsW n).length = n := by simp [natsW]
    rw [e2]
    obtain ⟨l32, l5⟩ := allT_ok n h5
    push_cast []
    rw [show List.map W.sh (List.map D.str (allT n)) = (allT n).map fun t => W.sh (.str t) from by rw [List.map_map]; rfl]
    refine ⟨by decide, _, dLcP_filt (D0 := allT n) (f := fun t => W.sh (.str t)) (G := fun t => W.sh (.str t)) (t := midB n) (by omega) (fun t ht acc q Pn hn0 ll k1 => ?_), fun acc hacc => ?_⟩
    · push_cast []
      refine ⟨by unfold CDiv; omega, ?_⟩
      unfold midB at k1
      simp only [decide_eq_true_eq] at k1
      split
      · rename_i z
        rw [if_pos z] at k1
        exact ⟨ll, k1⟩
      · rename_i z
        rw [if_neg z] at k1
        exact k1
    · have : acc = ((midT n).map D.str).map W.sh := by
        rw [hacc, List.length_map, List.take_length, List.map_map]
        rfl
      subst this
      push_cast []
      exact .sh kk
theorem sc_chains_of : FnScope ["length", "chains", "size", "longer", "shorter", "chain", "text"] ["length"] (defScope s_chains_of) := ⟨rfl, rfl, rfl, by decide +kernel, rfl, by decide +kernel, by decide +kernel⟩
theorem ok_chains_of (T : Txt K mg base A) : FnOk P w K mg base CX0 1 A.chains_of A.d_chains_of ["length"] (spD K am0 (fun ws Q => ∃ n : Nat, ws = [.sh (.int n)] ∧ n ≤ 4 ∧ Q (.sh (csD (chF n))) [])) := by
  refine T.F_chains_of.ok sc_chains_of (fun vs H Q E h => by
    obtain ⟨_, ws, Qd, _, _, _, hv, hsp, _⟩ := h
    obtain ⟨n, rfl, _⟩ := hsp
    exact hv.len.symm) (fun cdv A' outer s H vs Q E hr h => ?_)
  have hu := hu_of hr
  refine spD_run (td := ?td) h (qs_cons (ps_set (i := 1) sc_chains_of.nd rfl (Or.inl rfl) (pe_lst (pa_cons (pe_lst (pa_cons pe_str pa_nil)) pa_nil)))
    (qs_cons (q_for PassesOwn.never rfl (qi_r1 (by rfl) T.m_range (pa_cons (qv 0) pa_nil)) (pg_name (i := 2) sc_chains_of.nd rfl (Or.inl rfl)) (qs_cons (q_setLc (i := 3) (own := [("chain", 5)]) (g := gName 5) (tt := tYes) rfl sc_chains_of.nd rfl rfl (sw_true rfl rfl rfl (by decide +kernel)) (qi_list (qv 1)) (blkOk_by (own := [("chain", 5)]) (N := ["length", "chains", "size", "longer", "shorter", "chain", "text"]) (sc := defScope s_chains_of) (by decide +kernel)) (fun _ _ _ _ _ => (pg_name (i := 5) sc_chains_of.nd rfl (Or.inl rfl))) (fun _ _ _ _ _ => pts_nil) (fun _ _ _ _ _ => (pe_op o_cat (q_lc (own := [("text", 6)]) (g := gName 6) (tt := tYes) rfl sc_chains_of.nd (qi_listK (K := K) rfl (qv 5)) (blkOk_by (own := [("text", 6)]) (N := ["length", "chains", "size", "longer", "shorter", "chain", "text"]) (by kernel_rfl)) (fun _ _ _ _ _ => (pg_name (i := 6) sc_chains_of.nd rfl (Or.inl rfl))) (fun _ _ _ _ _ => pts_nil) (fun _ _ _ _ _ => (pe_op o_addS (qv 6) pe_str))) (pe_lst (pa_cons (pe_op o_addS (pe_ix ix_L (qv 5) (pe_un o_neg pe_int) (fun _ _ => rfl)) pe_str) pa_nil)))))
    (qs_cons (q_setLc (i := 4) (own := [("chain", 5)]) (g := gName 5) rfl sc_chains_of.nd rfl rfl (sw_true rfl rfl rfl (by decide +kernel)) (qi_list (qv 1)) (blkOk_by (own := [("chain", 5)]) (N := ["length", "chains", "size", "longer", "shorter", "chain", "text"]) (sc := defScope s_chains_of) (by decide +kernel)) (fun _ _ _ _ _ => (pg_name (i := 5) sc_chains_of.nd rfl (Or.inl rfl))) (fun _ _ _ _ _ => pts_one (q_cmp o_gt (pe_callB c_len (by rfl) T.m_len (by decide +kernel) (pa_cons (qv 5) pa_nil)) pe_int (nomark _))) (fun _ _ _ _ _ => (q_lc (own := [("text", 6)]) (g := gName 6) (tt := tYes) rfl sc_chains_of.nd (qi_listK (K := K) rfl (pe_slice sl_L (qv 5) po_none (q_some (pe_un o_neg pe_int)))) (blkOk_by (own := [("text", 6)]) (N := ["length", "chains", "size", "longer", "shorter", "chain", "text"]) (by kernel_rfl)) (fun _ _ _ _ _ => (pg_name (i := 6) sc_chains_of.nd rfl (Or.inl rfl))) (fun _ _ _ _ _ => pts_nil) (fun _ _ _ _ _ => (pe_op o_addS (qv 6) pe_str)))))
    (pss_one (ps_set (i := 1) sc_chains_of.nd rfl (Or.inl rfl) (pe_op o_cat (qv 3) (qv 4)))))))
    (pss_one (ps_ret (qv 1))))) ?hs ?hD
  case hs => (try simp only [cx_K, cx_prog, cx_w, blkK]); exact inferInstance
  rintro ws Qd ⟨n, rfl, h5, kk⟩
  push_cast []
  refine ⟨by omega, by omega, fun i Γ Ω => ∃ v2 v3 v4 v5 v6, Γ = [some (.sh (.int n)), some (.sh (csD (chF i))), v2, v3, v4, v5, v6] ∧ Ω = [], ⟨_, _, _, _, _, rfl, rfl⟩, ?_, ?_⟩
  · rintro i w Γ Ω hw ⟨v2, v3, v4, v5, v6, rfl, rfl⟩
    have hi : i < n := by
      have := (List.getElem?_eq_some_iff.mp hw).1
      simpa [natsW] using this
    obtain rfl : W.sh (.int (i : Nat)) = w := by
      unfold natsW at hw
      rw [List.getElem?_map, List.getElem?_range hi] at hw
      exact Option.some.inj hw
    obtain ⟨l100, lc⟩ := chF_ok i (by omega)
    have ec : csD (chF i) = D.lst ((chF i).map tsD) := rfl
    push_cast [ec]
    rw [show List.map W.sh (List.map tsD (chF i)) = (chF i).map fun c => W.sh (tsD c) from by rw [List.map_map]; rfl]
    refine ⟨by decide, _, dLcP_map (D0 := chF i) (f := fun c => W.sh (tsD c)) (G := fun c => W.sh (tsD (loF c))) (by omega) (fun c hc acc q Pn hn0 ll k1 => ?_), fun acc hacc => ?_⟩
    · obtain ⟨c1, c100, ct⟩ := lc c hc
      push_cast []
      rw [show List.map W.sh (List.map D.str c) = c.map fun t => W.sh (.str t) from by rw [List.map_map]; rfl]
      refine ⟨by decide, _, dLcP_map (D0 := c) (f := fun t => W.sh (.str t)) (G := fun t => W.sh (.str (t ++ Str.ofString "0"))) (by omega) (fun t ht acc2 q2 Pn2 hn2 ll2 k2 => ?_), fun acc2 hacc2 => ?_⟩
      · have tl := ct t ht
        have := one_len.1
        push_cast []
        exact ⟨by rw [sizeLine_eq]; omega, ll2, k2⟩
      · have : acc2 = ((c.map fun t => t ++ Str.ofString "0").map D.str).map W.sh := by
          rw [hacc2, List.length_map, List.take_length, List.map_map, List.map_map]
          rfl
        subst this
        push_cast []
        rw [atR_lastS c1]
        push_cast []
        have hl : (lastS c).length ≤ 5 := by
          unfold lastS
          rw [List.getLast?_eq_getElem?, List.getElem?_eq_getElem (by omega)]
          exact ct _ (List.getElem_mem _)
        have := one_len.2
        refine ⟨by rw [sizeLine_eq]; omega, lenOk_of (by simp; omega), ll, ?_⟩
        have e5 : List.map D.str (List.map (fun t => t ++ Str.ofString "0") c) ++ [D.str (lastS c ++ Str.ofString "1")] = (loF c).map D.str := by
          unfold loF
          rw [List.map_append]
          rfl
        rw [e5]
        exact k1
    · have : acc = (((chF i).map loF).map tsD).map W.sh := by
        rw [hacc, List.length_map, List.take_length, List.map_map, List.map_map]
        rfl
      subst this
      push_cast []
      rw [show List.map W.sh (List.map tsD (chF i)) = (chF i).map fun c => W.sh (tsD c) from by rw [List.map_map]; rfl]
      refine ⟨by decide, _, dLcP_filt (D0 := chF i) (f := fun c => W.sh (tsD c)) (G := fun c => W.sh (tsD (shF c))) (t := longB) (by omega) (fun c hc acc q Pn hn0 ll k1 => ?_), fun acc hacc => ?_⟩
      · obtain ⟨c1, c100, ct⟩ := lc c hc
        push_cast []
        rw [List.length_map, cutA_map, cutA_but1]
        unfold longB at k1
        simp only [decide_eq_true_eq] at k1
        split
        · rename_i z
          rw [if_pos (by omega)] at k1
          rw [show List.map W.sh (List.map D.str c.dropLast) = c.dropLast.map fun t => W.sh (.str t) from by rw [List.map_map]; rfl]
          have dl := List.length_dropLast (xs := c)
          refine ⟨by decide, _, dLcP_map (D0 := c.dropLast) (f := fun t => W.sh (.str t)) (G := fun t => W.sh (.str (t ++ Str.ofString "1"))) (by omega) (fun t ht acc2 q2 Pn2 hn2 ll2 k2 => ?_), fun acc2 hacc2 => ?_⟩
          · have tl := ct t (List.dropLast_subset _ ht)
            have := one_len.2
            push_cast []
            exact ⟨by rw [sizeLine_eq]; omega, ll2, k2⟩
          · have : acc2 = ((c.dropLast.map fun t => t ++ Str.ofString "1").map D.str).map W.sh := by
              rw [hacc2, List.length_map, List.take_length, List.map_map, List.map_map]
              rfl
            subst this
            push_cast []
            exact ⟨ll, k1⟩
        · rename_i z
          rw [if_neg (by omega)] at k1
          exact k1
      · have : acc = ((((chF i).filter longB).map shF).map tsD).map W.sh := by
          rw [hacc, List.length_map, List.take_length, List.map_map, List.map_map]
          rfl
        subst this
        push_cast []
        have fl := List.length_filter_le longB (chF i)
        refine ⟨lenOk_of (by simp; omega), ?_, _, rfl⟩
        rw [show chF (i + 1) = ((chF i).map loF) ++ (((chF i).filter longB).map shF) from rfl]
        unfold csD
        rw [List.map_append]
  · rintro Γ Ω ⟨v2, v3, v4, v5, v6, rfl, rfl⟩
    have e2 : (natsW n).length = n := by simp [natsW]
    rw [e2]
    push_cast []
    exact .sh kk
theorem sc_two : FnScope ["many", "length"] ["many"] (defScope s_two) := ⟨rfl, rfl, rfl, by decide +kernel, rfl, by decide +kernel, by decide +kernel⟩
theorem okx_two (T : Txt K mg base A) (TX : XTxt P K mg Z) : FnOk P w K mg base (CXN P w) 4 A.two A.d_two ["many"] (spX K Z am0 (fun ws Q Xd => ∃ n : Int, ws = [.sh (.int n)] ∧ if 1 ≤ n ∧ n ≤ 8 then Q (.sh (twoD n.toNat)) [] else Xd .num)) := by
  refine funX T.F_two sc_two (fun vs H Q E h => by
    obtain ⟨_, ws, Qd, _, _, _, _, hv, hsp, _⟩ := h
    obtain ⟨n, rfl, _⟩ := hsp
    exact hv.len.symm) (fun cdv A' outer s H vs Q E hr h => ?_)
  have hu := hu_of hr
  refine spX_run (td := ?td) h (qs_cons (ps_expr (q_call (C.okx_check_many (am := am0) T TX) (hr.mono (by decide)) rfl T.g_check_many T.k_check_many T.b_check_many passX (pa_cons (qv 0) pa_nil)))
    (qs_cons (q_if (q_cmp op_eq (qv 0) pe_int (nomark _)) (pss_one (ps_ret (pe_tup (pa_cons (pe_tup (pa_cons pe_str pa_nil)) (pa_cons (pe_lst pa_nil) pa_nil))))) pss_nil)
    (qs_cons (ps_set (i := 1) sc_two.nd rfl (Or.inl rfl) pe_int)
    (qs_cons (q_while (passes_of rfl) (q_cmp o_lt (pe_callB c_len (by rfl) T.m_len (by decide +kernel) (pa_cons (q_call (ok_middle_texts T) (hr.mono (by decide)) rfl T.g_middle_texts T.k_middle_texts T.b_middle_texts pass0 (pa_cons (qv 1) pa_nil)) pa_nil)) (qv 0) (nomark _)) (pss_one (q_aug (i := 1) sc_two.nd rfl (Or.inl rfl) pe_int ip_add)))
    (pss_one (ps_ret (pe_tup (pa_cons (pe_callTy c_tupL (by rfl) T.m_tuple (by decide +kernel) (pa_cons (pe_slice sl_L (q_call (ok_middle_texts T) (hr.mono (by decide)) rfl T.g_middle_texts T.k_middle_texts T.b_middle_texts pass0 (pa_cons (qv 1) pa_nil)) po_none (q_some (qv 0))) pa_nil)) (pa_cons (q_call (ok_chains_of T) (hr.mono (by decide)) rfl T.g_chains_of T.k_chains_of T.b_chains_of pass0 (pa_cons (pe_op o_sub (qv 1) pe_int) pa_nil)) pa_nil))))))))) ?hs ?hD
  case hs => intro Xd sx; (try simp only [cx_K, cx_prog, cx_w, blkK]); exact inferInstance
  rintro ws Qd Xd ⟨n, rfl, kk⟩
  push_cast [dFnX]
  by_cases h : 1 ≤ n ∧ n ≤ 8
  · rw [if_pos h]
    rw [if_pos h] at kk
    obtain ⟨many, rfl⟩ := Int.eq_ofNat_of_zero_le (show 0 ≤ n by omega)
    rw [Int.toNat_natCast] at kk
    push_cast []
    by_cases c1 : (many : Int) = 1
    · rw [if_pos c1]
      obtain rfl : many = 1 := by omega
      push_cast []
      refine .sh ?_
      have e1 : twoD 1 = D.tup [D.tup [D.str (Str.ofString "1")], D.lst []] := by rfl
      rw [e1] at kk
      exact kk
    · rw [if_neg c1]
      push_cast []
      obtain ⟨q1, q5, qm, ql⟩ := lenQ_ok many (by omega) (by omega)
      refine ⟨fun m Γ Ω => ∃ l : Nat, Γ = [some (.sh (.int (many : Nat))), some (.sh (.int l))] ∧ Ω = [] ∧ 1 ≤ l ∧ l ≤ lenQ many ∧ m = lenQ many - l, _, ⟨1, rfl, rfl, Nat.le_refl _, q1, rfl⟩, ?_⟩
      rintro m Γ Ω ⟨l, rfl, rfl, l1, l2, rfl⟩
      push_cast []
      refine ⟨l, rfl, by omega, ?_⟩
      push_cast []
      by_cases c2 : l < lenQ many
      · have := ql l c2 l1
        rw [List.length_map, if_pos (by omega)]
        push_cast []
        exact ⟨lenQ many - (l + 1), by omega, l + 1, rfl, by omega, by omega, rfl⟩
      · obtain rfl : l = lenQ many := by omega
        rw [List.length_map, if_neg (by omega)]
        push_cast []
        refine ⟨lenQ many, rfl, q5, lenQ many - 1, by omega, by omega, .sh ?_⟩
        rw [cutA_map, cutA_tk]
        have e1 : twoD many = D.tup [D.tup (((midT (lenQ many)).take many).map D.str), csD (chF (lenQ many - 1))] := by
          unfold twoD rowsQ chainsQ
          rw [if_neg (by omega), if_neg (by omega)]
        rw [e1] at kk
        exact kk
  · rw [if_neg h]
    rw [if_neg h] at kk
    exact kk
end
end X
end OA

namespace OA
namespace P
open PySem PySem.Spec PyProof.Rows L2
local macro_rules
  | `(tactic| push_cast only [$a,*]) => `(tactic| simp -implicitDefEqProofs only [Int.toNat_natCast, List.cons.injEq, W.sh.injEq, D.int.injEq, D.str.injEq, D.bl.injEq, D.tup.injEq, D.lst.injEq, W.pt.injEq, and_assoc, exists_eq_left', exists_eq_left, exists_and_left, true_implies, dIsi, tn_n, tn_b, tn_i, tn_s, tn_t, tn_nt, tn_l, kr_NoneType_bool, kr_NoneType_int, kr_NoneType_str, kr_NoneType_list, kr_NoneType_tuple, kr_NoneType_dict, kr_bool_bool, kr_bool_int, kr_bool_str, kr_bool_list, kr_bool_tuple, kr_bool_dict, kr_int_bool, kr_int_int, kr_int_str, kr_int_list, kr_int_tuple, kr_int_dict, kr_str_bool, kr_str_int, kr_str_str, kr_str_list, kr_str_tuple, kr_str_dict, kr_list_bool, kr_list_int, kr_list_str, kr_list_list, kr_list_tuple, kr_list_dict, kr_tuple_bool, kr_tuple_int, kr_tuple_str, kr_tuple_list, kr_tuple_tuple, kr_tuple_dict, kr_dict_bool, kr_dict_int, kr_dict_str, kr_dict_list, kr_dict_tuple, kr_dict_dict, dVar, dC_n, dC_b, dC_i, dC_s, dC_t, dC_r, dOp, dUn, dNil, dCons, dStar, dStarT, dTup, dLst, dLstO, dAnd, dOr, dNot, dIf, dTest, dYes, dChain, dCall, dNext, dCut, dSeq, dDrop, dRet, dRetN, dIfS, dName, sgnil_e, sgcons_e, dGtup, dAsg, dAug, dWhile, dFor, dLc, dLcO, dLc2, dDc, dI0, dIC, dEq, dIsN, isNonW, noPy, dAddS, dMulS, dCat, dCatT, dInT, dInLI, dInTI, dInS, dIxL, dIxT, dIxS, dNeg, dNoPart, dPart, dSl, dSlL, dSlT, dSlS, dRev, dDGet, dDIn, dDNew, dDNewS, dsDPut, dgSub, dSetL, isLW, dLM, dLM0, dAppend, dPopAt, dExtend, dPop, dLen, dTupL, dLstL, dAbs, dIntB, dMin2, dMax2, dMaxL, dCKw, dMaxT, dFn, dList, dTupI, dStrI, dR1, dR2, dEnum, dTAnd, dTOr, dTNot, varR_e, intW_e, blW_e, strW_e, shW_e, tyW_e, tupW_e, tupW_n, tup0W_e, lookL_e, lookD_e, lookR_e, lookR_l, seqW_e, seqW_p, dicW_e, dicW_p, ownL_p, ownD_p, keyW_i, keyW_s, one1W_e, two2W_e, shsW_nil, shsW_cons, shsW_app, shsW_map, intsD_nil, intsD_cons, intsD_map, strsD_map, cWR_n, cWR_b, cWR_i, cWR_s, flW_n, flW_b, flW_i, flW_s, fls_nil, fls_n, fls_b, fls_i, fls_s, lenW_l, lenW_d, lenW_t, lenW_n, lenW_s, lenW_p, lenO'_l, lenO'_d, atR_0, atR_1, atR_2, atR_3, atR_4, lenOk_0, lenOk_1, lenOk_2, lenOk_3, lenOk_4, lenOk_5, look_hd, put_c, put_n, notins_nil, startG, scal, List.map, List.replicate, List.length_cons, List.length_nil, List.cons_append, List.nil_append, List.append_nil, List.getElem?_cons_zero, List.getElem?_cons_succ, List.set_cons_zero, List.set_cons_succ, wipeG, true_and, and_true, if_true, if_false, decide_eq_true_eq, reduceCtorEq, reduceIte, Bool.false_eq_true, decide_true, decide_false, Bool.true_and, Bool.false_and, Bool.and_true, Bool.and_false, Bool.not_true, Bool.not_false, V.int.injEq, V.str.injEq, V.bl.injEq, Nat.reduceAdd, Nat.reduceSub, Nat.reduceLT, Int.reduceEq, Int.reduceLT, Int.reduceLE, Int.reduceAdd, Int.reduceSub, Int.cast_ofNat_Int, dForK, dDcO, dLstVals, dEqLI, dDictO, dSortP, dSortPT, $a,*])
  | `(tactic| push_cast [$a,*]) => `(tactic| ((repeat refine LaterD.mk ?_); push_cast only [$a,*]; repeat ((refine LaterD.mk ?_); (repeat refine LaterD.mk ?_); push_cast only [$a,*])))
/-! the law's look at rows, a tuple or a list of texts -/
def rsX (b : Bool) (rs : List Str) : D := if b then .tup (rs.map .str) else .lst (rs.map .str)
theorem ixlt_rs {b : Bool} {rs : List Str} {o : Nat} {Ω : Om} {Q : DQ} (h : o < rs.length) : dIxLT (.sh (rsX b rs)) (.sh (.int (o : Int))) Ω Q = Q (.sh (.str (rs.getD o ""))) Ω := by
  cases b with
  | true =>
    have e1 : dIxL (.sh (rsX true rs)) (.sh (.int (o : Int))) Ω Q = False := rfl
    have e2 : dIxT (.sh (rsX true rs)) (.sh (.int (o : Int))) Ω Q = Q (.sh (.str (rs.getD o ""))) Ω := by
      show atR (rs.map D.str) (o : Int) (fun d => Q (.sh d) Ω) = _
      exact at_rs h
    unfold dIxLT
    rw [e1, e2, false_or]
  | false =>
    have e1 : dIxT (.sh (rsX false rs)) (.sh (.int (o : Int))) Ω Q = False := rfl
    have e2 : dIxL (.sh (rsX false rs)) (.sh (.int (o : Int))) Ω Q = Q (.sh (.str (rs.getD o ""))) Ω := by
      show atR ((rs.map D.str).map W.sh) (o : Int) (fun w => Q w Ω) = _
      unfold atR
      rw [atI_map]
      have := at_rs (rs := rs) (o := o) (k := fun d => Q (.sh d) Ω) h
      unfold atR at this
      cases q : L2.atI (rs.map D.str) (o : Int) with
      | none => rw [q] at this; exact this
      | some d => rw [q] at this; exact this
    unfold dIxLT
    rw [e1, e2, or_false]
theorem lenW_rs {b : Bool} {rs : List Str} {Ω : Om} {k : Nat → Prop} : lenW Ω (.sh (rsX b rs)) k = k rs.length := by
  cases b with
  | true =>
    show k (rs.map D.str).length = _
    rw [List.length_map]
  | false =>
    show k (rs.map D.str).length = _
    rw [List.length_map]
section
variable {P : Program} {w : World} {K : PySem.W.Frag} {mg : Str → Option Value} {base : Heap} {A : Ad}
theorem sc__law_unheard : FnScope ["_law_rows", "_law_most", "_law_some", "_law_number", "_law_good", "_law_at", "_law_speak", "_law_one"] ["_law_rows", "_law_most"] (defScope s__law_unheard) := ⟨rfl, rfl, rfl, by decide +kernel, rfl, by decide +kernel, by decide +kernel⟩
theorem ok__law_unheard (T : Txt K mg base A) : FnOk P w K mg base CX0 2 A._law_unheard A.d__law_unheard ["_law_rows", "_law_most"] (spD K am0 (fun ws Q => ∃ (b : Bool) (rs : List Str) (n most : Nat), ws = [.sh (rsX b rs), .sh (.int most)] ∧ (RowsN rs n ∧ (1 ≤ rs.length ∧ rs.length ≤ 8) ∧ most ≤ 8) ∧ Q (.sh (uD (firstU rs n (setsN rs.length 1 most)))) [])) := by
  refine T.F__law_unheard.ok sc__law_unheard (fun vs H Q E h => by
    obtain ⟨_, ws, Qd, _, _, _, hv, hsp, _⟩ := h
    obtain ⟨b, rs, n, most, rfl, _⟩ := hsp
    exact hv.len.symm) (fun cdv A' outer s H vs Q E hr h => ?_)
  have hu := hu_of hr
  refine spD_run (td := ?td) h (qs_cons (q_for PassesOwn.never rfl (qi_list (q_call (ok__law_sets T) (hr.mono (by decide)) rfl T.g__law_sets T.k__law_sets T.b__law_sets pass0 (pa_cons (pe_callB c_len (by rfl) T.m_len (by decide +kernel) (pa_cons (qv 0) pa_nil)) (pa_cons (qv 1) pa_nil)))) (pg_name (i := 2) sc__law_unheard.nd rfl (Or.inl rfl)) (pss_one (q_for PassesOwn.never rfl (qi_tup (qv 2)) (pg_name (i := 3) sc__law_unheard.nd rfl (Or.inl rfl)) (qs_cons (ps_set (i := 4) sc__law_unheard.nd rfl (Or.inl rfl) pe_bl)
    (qs_cons (q_for PassesOwn.never rfl (qi_r1 (by rfl) T.m_range (pa_cons (pe_callB c_len (by rfl) T.m_len (by decide +kernel) (pa_cons (pe_ix ix_LT (qv 0) pe_int (fun _ _ => rfl)) pa_nil)) pa_nil)) (pg_name (i := 5) sc__law_unheard.nd rfl (Or.inr rfl)) (qs_cons (q_setLc (i := 6) (own := [("_law_one", 7)]) (g := gName 7) rfl sc__law_unheard.nd rfl rfl (sw_true rfl rfl rfl (by decide +kernel)) (qi_tup (qv 2)) (blkOk_by (own := [("_law_one", 7)]) (N := ["_law_rows", "_law_most", "_law_some", "_law_number", "_law_good", "_law_at", "_law_speak", "_law_one"]) (sc := defScope s__law_unheard) (by decide +kernel)) (fun _ _ _ _ _ => (pg_name (i := 7) sc__law_unheard.nd rfl (Or.inl rfl))) (fun _ _ _ _ _ => pts_one (q_cmp op_eq (pe_ix ix_S (pe_ix ix_LT (qv 0) (qv 7) (fun _ _ => rfl)) (qv 5) (fun _ _ => rfl)) pe_str (nomark _))) (fun _ _ _ _ _ => (qv 7)))
    (pss_one (ps_set (i := 4) sc__law_unheard.nd rfl (Or.inl rfl) (q_or (qv 4) (pe_one (pe_cmpR (o_eqLI hr.units) (qv 6) (pe_lst (pa_cons (qv 3) pa_nil)) (nomark _))))))))
    (pss_one (q_if (pt_not (q_val (qv 4))) (pss_one (ps_ret (pe_tup (pa_cons (qv 2) (pa_cons (qv 3) pa_nil))))) pss_nil)))))))
    (pss_one (ps_ret pe_non))) ?hs ?hD
  case hs => (try simp only [cx_K, cx_prog, cx_w, blkK]); exact inferInstance
  rintro ws Qd ⟨b, rs, n, most, rfl, ⟨hr', hl, hm⟩, kk⟩
  push_cast [lenW_rs]
  refine ⟨rs.length, rfl, most, rfl, hl.2, hm, ?_⟩
  have n62 : (n : Int) < 2 ^ 62 := by have := hr'.n12; omega
  have nz : n ≤ sizeLine := by rw [sizeLine_eq]; have := hr'.n12; omega
  generalize hgs : setsN rs.length 1 most = gs at *
  have gok : ∀ g ∈ gs, (∀ o ∈ g, o < rs.length) ∧ g.length ≤ 8 := fun g hg => by
    rw [← hgs] at hg
    obtain ⟨a, b⟩ := setsN_ok hg
    exact ⟨b, Nat.le_trans (nd_len' a b) hl.2⟩
  have eg : List.map W.sh (List.map tD gs) = gs.map fun g => W.sh (tD g) := by rw [List.map_map]; rfl
  rw [eg]
  refine ⟨fun i Γ Ω => ∃ v2 v3 v4 v5 v6 v7, Γ = [some (.sh (rsX b rs)), some (.sh (.int most)), v2, v3, v4, v5, v6, v7] ∧ Ω = [] ∧ firstU rs n gs = firstU rs n (gs.drop i), ⟨_, _, _, _, _, _, rfl, rfl, rfl⟩, ?_, ?_⟩
  · rintro i w Γ Ω hw ⟨v2, v3, v4, v5, v6, v7, rfl, rfl, hno⟩
    rw [List.getElem?_map] at hw
    cases q : gs[i]? with
    | none => rw [q] at hw; cases hw
    | some g =>
      rw [q] at hw
      obtain rfl : W.sh (tD g) = w := Option.some.inj hw
      obtain ⟨hg, g8⟩ := gok g (List.mem_of_getElem? q)
      have hi : i < gs.length := (List.getElem?_eq_some_iff.mp q).1
      have hd : gs.drop i = g :: gs.drop (i + 1) := by
        rw [List.drop_eq_getElem_cons hi]
        rw [List.getElem?_eq_getElem hi] at q
        rw [Option.some.inj q]
      rw [hd, firstU_cons] at hno
      push_cast []
      have eg2 : List.map W.sh (List.map iD g) = g.map fun o => W.sh (iD o) := by rw [List.map_map]; rfl
      rw [eg2]
      refine ⟨fun k Γ Ω => ∃ v3 v4 v5 v6 v7, Γ = [some (.sh (rsX b rs)), some (.sh (.int most)), some (.sh (tD g)), v3, v4, v5, v6, v7] ∧ Ω = [] ∧ (g.find? fun j => !aloneB rs n g j) = (g.drop k).find? fun j => !aloneB rs n g j, ⟨_, _, _, _, _, rfl, rfl, rfl⟩, ?_, ?_⟩
      · rintro k w Γ Ω hw ⟨v3, v4, v5, v6, v7, rfl, rfl, hk⟩
        rw [List.getElem?_map] at hw
        cases q2 : g[k]? with
        | none => rw [q2] at hw; cases hw
        | some j =>
          rw [q2] at hw
          obtain rfl : W.sh (iD j) = w := Option.some.inj hw
          have hkl : k < g.length := (List.getElem?_eq_some_iff.mp q2).1
          have hd2 : g.drop k = j :: g.drop (k + 1) := by
            rw [List.drop_eq_getElem_cons hkl]
            rw [List.getElem?_eq_getElem hkl] at q2
            rw [Option.some.inj q2]
          rw [hd2, List.find?_cons] at hk
          have r0 : 0 < rs.length := hl.1
          have a0 : ∀ (Ω : Om) (Q : DQ), dIxLT (.sh (rsX b rs)) (.sh (.int 0)) Ω Q = Q (.sh (.str (rs.getD 0 ""))) Ω := fun Ω Q => ixlt_rs (o := 0) r0
          have l0 : (rs.getD 0 "").length = n := rs_len hr' r0
          push_cast [a0, l0]
          refine ⟨nz, by omega, n62, fun p Γ Ω => ∃ v5 v6 v7, Γ = [some (.sh (rsX b rs)), some (.sh (.int most)), some (.sh (tD g)), some (.sh (iD j)), some (.sh (.bl ((List.range p).any fun p => decide (speakN rs g p = [j])))), v5, v6, v7] ∧ Ω = [], ⟨_, _, _, rfl, rfl⟩, ?_, ?_⟩
          · rintro p w Γ Ω hw ⟨v5, v6, v7, rfl, rfl⟩
            have hp : p < n := by
              have := (List.getElem?_eq_some_iff.mp hw).1
              simpa [natsW] using this
            obtain rfl : W.sh (.int (p : Nat)) = w := by
              unfold natsW at hw
              rw [List.getElem?_map, List.getElem?_range hp] at hw
              exact Option.some.inj hw
            push_cast []
            rw [eg2]
            refine ⟨by simp, _, dLcP_filt (D0 := g) (f := fun o => W.sh (iD o)) (G := fun o => W.sh (iD o)) (t := fun o => oneAt rs o p) (by omega) (fun o ho acc q Pn hn0 ll k1 => ?_), fun acc hacc => ?_⟩
            · have ho' := hg o ho
              have hlo := rs_len hr' ho'
              have hc : (rs.getD o "").cps.toList[p]? = some ((rs.getD o "").cps.toList[p]'(by rw [Array.length_toList]; show p < (rs.getD o "").length; omega)) := List.getElem?_eq_getElem _
              have ea : atI (rs.getD o "").cps.toList ((p : Nat) : Int) = some _ := atI_nat hc
              have es := sign_eq hc
              rw [es] at k1
              push_cast [ixlt_rs ho']
              refine ⟨by rw [show (rs.getD o (Str.ofString "")).length = n from hlo]; exact nz, ?_⟩
              rw [atR_some ea]
              exact if_one ⟨ll, k1⟩
            · have : acc = ((speakN rs g p).map iD).map W.sh := by
                rw [hacc, List.length_map, List.take_length, List.map_map]
                rfl
              subst this
              have er : ((List.range (p + 1)).any fun p => decide (speakN rs g p = [j])) = (((List.range p).any fun p => decide (speakN rs g p = [j])) || decide (speakN rs g p = [j])) := by
                rw [List.range_succ, List.any_append]
                simp
              have em : ((speakN rs g p).map fun (n : Nat) => (n : Int)) = [(j : Int)] ↔ speakN rs g p = [j] := ⟨nat_inj, fun h => by rw [h]; rfl⟩
              push_cast [intsD_nat]
              rw [er]
              have ed : decide (((speakN rs g p).map fun (n : Nat) => (n : Int)) = [(j : Int)]) = decide (speakN rs g p = [j]) := decide_eq_decide.mpr em
              rw [ed]
              cases ((List.range p).any fun p => decide (speakN rs g p = [j])) with
              | true => exact ⟨rfl, _, rfl⟩
              | false => exact ⟨rfl, _, rfl⟩
          · rintro Γ Ω ⟨v5, v6, v7, rfl, rfl⟩
            have e2 : (natsW n).length = n := by simp [natsW]
            rw [e2]
            have ea : ((List.range n).any fun p => decide (speakN rs g p = [j])) = aloneB rs n g j := rfl
            rw [ea]
            push_cast []
            cases z : aloneB rs n g j with
            | true =>
              rw [z] at hk
              push_cast []
              exact hk
            | false =>
              rw [z] at hk
              have hk : (g.find? fun j => !aloneB rs n g j) = some j := hk
              rw [hk] at hno
              push_cast []
              refine .sh ?_
              rw [hno] at kk
              exact kk
      · rintro Γ Ω ⟨v3, v4, v5, v6, v7, rfl, rfl, hk⟩
        rw [List.length_map, List.drop_length] at hk
        have hk : (g.find? fun j => !aloneB rs n g j) = none := hk
        rw [hk] at hno
        push_cast []
        exact hno
  · rintro Γ Ω ⟨v2, v3, v4, v5, v6, v7, rfl, rfl, hno⟩
    rw [List.length_map, List.drop_length] at hno
    push_cast []
    refine .sh ?_
    rw [hno] at kk
    exact kk
end
end P
end OA

namespace OA
namespace X
open PySem PySem.Spec PyProof.Rows L2
local macro_rules
  | `(tactic| push_cast only [$a,*]) => `(tactic| simp -implicitDefEqProofs only [Int.toNat_natCast, List.cons.injEq, W.sh.injEq, D.int.injEq, D.str.injEq, D.bl.injEq, D.tup.injEq, D.lst.injEq, W.pt.injEq, and_assoc, exists_eq_left', exists_eq_left, exists_and_left, true_implies, dIsi, tn_n, tn_b, tn_i, tn_s, tn_t, tn_nt, tn_l, kr_NoneType_bool, kr_NoneType_int, kr_NoneType_str, kr_NoneType_list, kr_NoneType_tuple, kr_NoneType_dict, kr_bool_bool, kr_bool_int, kr_bool_str, kr_bool_list, kr_bool_tuple, kr_bool_dict, kr_int_bool, kr_int_int, kr_int_str, kr_int_list, kr_int_tuple, kr_int_dict, kr_str_bool, kr_str_int, kr_str_str, kr_str_list, kr_str_tuple, kr_str_dict, kr_list_bool, kr_list_int, kr_list_str, kr_list_list, kr_list_tuple, kr_list_dict, kr_tuple_bool, kr_tuple_int, kr_tuple_str, kr_tuple_list, kr_tuple_tuple, kr_tuple_dict, kr_dict_bool, kr_dict_int, kr_dict_str, kr_dict_list, kr_dict_tuple, kr_dict_dict, dVar, dC_n, dC_b, dC_i, dC_s, dC_t, dC_r, dOp, dUn, dNil, dCons, dStar, dStarT, dTup, dLst, dLstO, dAnd, dOr, dNot, dIf, dTest, dYes, dChain, dCall, dNext, dCut, dSeq, dDrop, dRet, dRetN, dIfS, dName, sgnil_e, sgcons_e, dGtup, dAsg, dAug, dWhile, dFor, dLc, dLcO, dLc2, dDc, dI0, dIC, dEq, dIsN, isNonW, noPy, dAddS, dMulS, dCat, dCatT, dInT, dInLI, dInTI, dInS, dIxL, dIxT, dIxS, dNeg, dNoPart, dPart, dSl, dSlL, dSlT, dSlS, dRev, dDGet, dDIn, dDNew, dDNewS, dsDPut, dgSub, dSetL, isLW, dLM, dLM0, dAppend, dPopAt, dExtend, dPop, dLen, dTupL, dLstL, dAbs, dIntB, dMin2, dMax2, dMaxL, dCKw, dMaxT, dFn, dList, dTupI, dStrI, dR1, dR2, dEnum, dTAnd, dTOr, dTNot, varR_e, intW_e, blW_e, strW_e, shW_e, tyW_e, tupW_e, tupW_n, tup0W_e, lookL_e, lookD_e, lookR_e, lookR_l, seqW_e, seqW_p, dicW_e, dicW_p, ownL_p, ownD_p, keyW_i, keyW_s, one1W_e, two2W_e, shsW_nil, shsW_cons, shsW_app, shsW_map, intsD_nil, intsD_cons, intsD_map, strsD_map, cWR_n, cWR_b, cWR_i, cWR_s, flW_n, flW_b, flW_i, flW_s, fls_nil, fls_n, fls_b, fls_i, fls_s, lenW_l, lenW_d, lenW_t, lenW_n, lenW_s, lenW_p, lenO'_l, lenO'_d, atR_0, atR_1, atR_2, atR_3, atR_4, lenOk_0, lenOk_1, lenOk_2, lenOk_3, lenOk_4, lenOk_5, look_hd, put_c, put_n, notins_nil, startG, scal, List.map, List.replicate, List.length_cons, List.length_nil, List.cons_append, List.nil_append, List.append_nil, List.getElem?_cons_zero, List.getElem?_cons_succ, List.set_cons_zero, List.set_cons_succ, wipeG, true_and, and_true, if_true, if_false, decide_eq_true_eq, reduceCtorEq, reduceIte, Bool.false_eq_true, decide_true, decide_false, Bool.true_and, Bool.false_and, Bool.and_true, Bool.and_false, Bool.not_true, Bool.not_false, V.int.injEq, V.str.injEq, V.bl.injEq, Nat.reduceAdd, Nat.reduceSub, Nat.reduceLT, Int.reduceEq, Int.reduceLT, Int.reduceLE, Int.reduceAdd, Int.reduceSub, Int.cast_ofNat_Int, dForK, dDcO, dLstVals, dEqLI, dDictO, dSortP, dSortPT, dCount, dLenSet, dInLs, dEqP, pdW_s, pdW_p, dSortI, dInsert0, dCatO, dLcK, $a,*])
  | `(tactic| push_cast [$a,*]) => `(tactic| ((repeat refine LaterD.mk ?_); push_cast only [$a,*]; repeat ((refine LaterD.mk ?_); (repeat refine LaterD.mk ?_); push_cast only [$a,*])))
/-! the law's own texts, chains, rows tried -/
def lawT : Nat → List Str
  | 0 => [Str.ofString ""]
  | n + 1 => ((lawT n).map fun t => t ++ Str.ofString "0") ++ ((lawT n).map fun t => t ++ Str.ofString "1")
theorem lawT_ok : ∀ n, n ≤ 5 → (lawT n).length ≤ 32 ∧ ∀ t ∈ lawT n, t.length ≤ 5 ∧ PyData.strOk t = true := by decide +kernel
def chr (t : Str) (a : Nat) : Nat := t.cps.toList.getD a 0
def unlF (n : Nat) (c : List Str) (k : Nat) : List Nat := (List.range n).filter fun a => !(chr (c.getD k (Str.ofString "")) a == chr (c.getD (k - 1) (Str.ofString "")) a)
def chainB (n : Nat) (c : List Str) : Bool := (c.all fun t => t.length == n) && (List.range c.length).all fun k => decide (k = 0) || (decide ((unlF n c k).length = 1) && chr (c.getD k (Str.ofString "")) ((unlF n c k).getD 0 0) == 49)
def chainsB (n : Nat) : Bool := (chF n).all (chainB n) && (chF n).flatten.isPerm (lawT n) && !((pdL ((chF n).map tsD)).any fun z => PyData.eqv z (.list [])) && (plL ((chF n).map tsD)) && decide ((chF n).flatten.length ≤ 32)
theorem chains_ok : ∀ n, n ≤ 4 → chainsB n = true := by decide +kernel
theorem chainsB_at {n : Nat} (h : n ≤ 4) : (∀ c ∈ chF n, c.length ≤ 32 ∧ (∀ t ∈ c, t.length = n) ∧ ∀ k, k < c.length → k ≠ 0 → (unlF n c k).length = 1 ∧ chr (c.getD k (Str.ofString "")) ((unlF n c k).getD 0 0) = 49) ∧ (chF n).flatten.Perm (lawT n) ∧ ((pdL ((chF n).map tsD)).any fun z => PyData.eqv z (.list [])) = false ∧ plL ((chF n).map tsD) = true ∧ (chF n).flatten.length ≤ 32 := by
  have h0 := chains_ok n h
  unfold chainsB at h0
  simp only [Bool.and_eq_true, List.all_eq_true, decide_eq_true_eq] at h0
  obtain ⟨⟨⟨⟨h1, h2⟩, h3⟩, h4⟩, h5⟩ := h0
  refine ⟨fun c hc => ?_, List.isPerm_iff.mp h2, by simpa using h3, h4, h5⟩
  have h6 := h1 c hc
  unfold chainB at h6
  simp only [Bool.and_eq_true, Bool.or_eq_true, List.all_eq_true, decide_eq_true_eq, beq_iff_eq, List.mem_range] at h6
  refine ⟨?_, h6.1, fun k hk k0 => (h6.2 k hk).resolve_left k0⟩
  have : c.length ≤ (chF n).flatten.length := (List.sublist_flatten_of_mem hc).length_le
  omega
def lastLt (rs : List Str) (t : Str) : Bool := rs.isEmpty || decide ((lastS rs).cps.toList < t.cps.toList)
def moreF (n : Nat) (rs : List Str) : List (List Str) := ((lawT n).filter (lastLt rs)).map fun t => rs ++ [t]
def triF (n : Nat) : Nat → List (List Str)
  | 0 => [[]]
  | k + 1 => (triF n k).flatMap (moreF n)
def triB (n : Nat) : Bool := ((List.range (n + 2)).all fun k => decide ((triF n k).length ≤ 100) && (triF n k).all fun rs => rs.length == k && rs.all fun t => t.length == n && PyData.strOk t) && (triF n (n + 1)).all fun rs => (P.firstU rs n (P.setsN (n + 1) 1 2)).isSome
theorem tri_ok : ∀ n, n ≤ 3 → 1 ≤ n → triB n = true := by decide +kernel
theorem tri_at {n : Nat} (h1 : 1 ≤ n) (h3 : n ≤ 3) : (∀ k, k ≤ n + 1 → (triF n k).length ≤ 100 ∧ ∀ rs ∈ triF n k, rs.length = k ∧ ∀ t ∈ rs, t.length = n ∧ PyData.strOk t = true) ∧ ∀ rs ∈ triF n (n + 1), (P.firstU rs n (P.setsN (n + 1) 1 2)).isSome = true := by
  have h0 := tri_ok n h3 h1
  unfold triB at h0
  simp only [Bool.and_eq_true, List.all_eq_true, decide_eq_true_eq, List.mem_range, beq_iff_eq] at h0
  exact ⟨fun k hk => h0.1 k (by omega), h0.2⟩
theorem pl_strs {ys : List Str} (h : ∀ t ∈ ys, PyData.strOk t = true) : plD (.lst (ys.map .str)) = true := by
  unfold plD
  induction ys with
  | nil => rfl
  | cons y ys ih =>
    rw [List.map_cons]
    unfold plL plD
    rw [h y List.mem_cons_self, ih fun t ht => h t (List.mem_cons_of_mem _ ht)]
    rfl
theorem dp_strs (ys : List Str) : (pdD (.lst (ys.map .str))).depth ≤ 64 := by
  unfold pdD PyData.depth
  have : PyData.depthAll (pdL (ys.map .str)) = 0 := by
    induction ys with
    | nil => rfl
    | cons y ys ih =>
      rw [List.map_cons]
      unfold pdL pdD PyData.depthAll PyData.depth
      rw [ih]
      rfl
  rw [this]
  decide
theorem dp_all1 : ∀ (cs : List (List Str)), PyData.depthAll (pdL (cs.map tsD)) ≤ 1
  | [] => by decide
  | c :: cs => by
    rw [List.map_cons]
    unfold pdL PyData.depthAll
    have h1 := dp_all1 cs
    have h2 : (pdD (tsD c)).depth ≤ 1 := by
      unfold tsD pdD PyData.depth
      have : PyData.depthAll (pdL (c.map .str)) = 0 := by
        induction c with
        | nil => rfl
        | cons y ys ih =>
          rw [List.map_cons]
          unfold pdL pdD PyData.depthAll PyData.depth
          rw [ih]
          rfl
      rw [this]
      decide
    exact Nat.max_le.mpr ⟨h2, h1⟩
theorem dp_css (cs : List (List Str)) : (pdD (.lst (cs.map tsD))).depth ≤ 64 := by
  unfold pdD PyData.depth
  have := dp_all1 cs
  omega
theorem one_cp {x y : Nat} : ((⟨#[x]⟩ : Str) = ⟨#[y]⟩) ↔ x = y := by
  constructor
  · intro e
    injection e with e
    have := congrArg Array.toList e
    simpa using this
  · rintro rfl
    rfl
theorem getD_nat {L : List Nat} {a : Nat} (h : a < L.length) : L[a]? = some (L.getD a 0) := by
  rw [List.getD_eq_getElem?_getD, List.getElem?_eq_getElem h]
  rfl
theorem o_eqDK {X : Cx} {K : PySem.W.Frag} (hK : X.K = K) (hu : X.A.units + 64 < cLine) : OpR X (compareOp .Eq) (rEqD K) := by
  subst hK
  exact op_eqD hu
section
variable {P : Program} {w : World} {K : PySem.W.Frag} {mg : Str → Option Value} {base : Heap} {A : Ad} {Z : XA}
theorem sc__law_texts : FnScope ["_law_size", "_law_found", "_law_turn", "_law_text"] ["_law_size"] (defScope s__law_texts) := ⟨rfl, rfl, rfl, by decide +kernel, rfl, by decide +kernel, by decide +kernel⟩
theorem ok__law_texts (T : Txt K mg base A) : FnOk P w K mg base CX0 1 A._law_texts A.d__law_texts ["_law_size"] (spD K am0 (fun ws Q => ∃ n : Nat, ws = [.sh (.int n)] ∧ n ≤ 5 ∧ Q (.sh (.lst ((lawT n).map .str))) [])) := by
  refine T.F__law_texts.ok sc__law_texts (fun vs H Q E h => by
    obtain ⟨_, ws, Qd, _, _, _, hv, hsp, _⟩ := h
    obtain ⟨n, rfl, _⟩ := hsp
    exact hv.len.symm) (fun cdv A' outer s H vs Q E hr h => ?_)
  have hu := hu_of hr
  refine spD_run (td := ?td) h (qs_cons (ps_set (i := 1) sc__law_texts.nd rfl (Or.inl rfl) (pe_lst (pa_cons pe_str pa_nil)))
    (qs_cons (q_for PassesOwn.never rfl (qi_r1 (by rfl) T.m_range (pa_cons (qv 0) pa_nil)) (pg_name (i := 2) sc__law_texts.nd rfl (Or.inl rfl)) (pss_one (ps_set (i := 1) sc__law_texts.nd rfl (Or.inl rfl) (pe_op o_cat (q_lc (own := [("_law_text", 3)]) (g := gName 3) (tt := tYes) rfl sc__law_texts.nd (qi_list (qv 1)) (blkOk_by (own := [("_law_text", 3)]) (N := ["_law_size", "_law_found", "_law_turn", "_law_text"]) (sc := defScope s__law_texts) (by decide +kernel)) (fun _ _ _ _ _ => (pg_name (i := 3) sc__law_texts.nd rfl (Or.inl rfl))) (fun _ _ _ _ _ => pts_nil) (fun _ _ _ _ _ => (pe_op o_addS (qv 3) pe_str))) (q_lc (own := [("_law_text", 3)]) (g := gName 3) (tt := tYes) rfl sc__law_texts.nd (qi_list (qv 1)) (blkOk_by (own := [("_law_text", 3)]) (N := ["_law_size", "_law_found", "_law_turn", "_law_text"]) (sc := defScope s__law_texts) (by decide +kernel)) (fun _ _ _ _ _ => (pg_name (i := 3) sc__law_texts.nd rfl (Or.inl rfl))) (fun _ _ _ _ _ => pts_nil) (fun _ _ _ _ _ => (pe_op o_addS (qv 3) pe_str)))))))
    (pss_one (ps_ret (qv 1))))) ?hs ?hD
  case hs => (try simp only [cx_K, cx_prog, cx_w, blkK]); exact inferInstance
  rintro ws Qd ⟨n, rfl, h5, kk⟩
  push_cast []
  refine ⟨by omega, by omega, fun i Γ Ω => ∃ v2 v3, Γ = [some (.sh (.int n)), some (.sh (.lst ((lawT i).map .str))), v2, v3] ∧ Ω = [], ⟨_, _, rfl, rfl⟩, ?_, ?_⟩
  · rintro i w Γ Ω hw ⟨v2, v3, rfl, rfl⟩
    have hi : i < n := by
      have := (List.getElem?_eq_some_iff.mp hw).1
      simpa [natsW] using this
    obtain rfl : W.sh (.int (i : Nat)) = w := by
      unfold natsW at hw
      rw [List.getElem?_map, List.getElem?_range hi] at hw
      exact Option.some.inj hw
    obtain ⟨l32, l5⟩ := lawT_ok i (by omega)
    push_cast []
    rw [show List.map W.sh (List.map D.str (lawT i)) = (lawT i).map fun t => W.sh (.str t) from by rw [List.map_map]; rfl]
    refine ⟨by decide, _, dLcP_map (D0 := lawT i) (f := fun t => W.sh (.str t)) (G := fun t => W.sh (.str (t ++ Str.ofString "0"))) (by omega) (fun t ht acc2 q2 Pn2 hn2 ll2 k2 => ?_), fun acc2 hacc2 => ?_⟩
    · have tl := (l5 t ht).1
      have := one_len.1
      push_cast []
      exact ⟨by rw [sizeLine_eq]; omega, ll2, k2⟩
    · have : acc2 = (((lawT i).map fun t => t ++ Str.ofString "0").map D.str).map W.sh := by
        rw [hacc2, List.length_map, List.take_length, List.map_map, List.map_map]
        rfl
      subst this
      push_cast []
      refine ⟨by decide, _, dLcP_map (D0 := lawT i) (f := fun t => W.sh (.str t)) (G := fun t => W.sh (.str (t ++ Str.ofString "1"))) (by omega) (fun t ht acc2 q2 Pn2 hn2 ll2 k2 => ?_), fun acc2 hacc2 => ?_⟩
      · have tl := (l5 t ht).1
        have := one_len.2
        push_cast []
        exact ⟨by rw [sizeLine_eq]; omega, ll2, k2⟩
      · have : acc2 = (((lawT i).map fun t => t ++ Str.ofString "1").map D.str).map W.sh := by
          rw [hacc2, List.length_map, List.take_length, List.map_map, List.map_map]
          rfl
        subst this
        push_cast []
        refine ⟨lenOk_of (by simp; omega), ?_⟩
        rw [show lawT (i + 1) = ((lawT i).map fun t => t ++ Str.ofString "0") ++ ((lawT i).map fun t => t ++ Str.ofString "1") from rfl, List.map_append]
        exact ⟨rfl, _, rfl⟩
  · rintro Γ Ω ⟨v2, v3, rfl, rfl⟩
    have e2 : (natsW n).length = n := by simp [natsW]
    rw [e2]
    push_cast []
    exact .sh kk
theorem sc__law_are_chains : FnScope ["_law_chains", "_law_size", "_law_seen", "_law_chain", "_law_k", "_law_unlike", "_law_at"] ["_law_chains", "_law_size"] (defScope s__law_are_chains) := ⟨rfl, rfl, rfl, by decide +kernel, rfl, by decide +kernel, by decide +kernel⟩
theorem ok__law_are_chains (T : Txt K mg base A) : FnOk P w K mg base CX0 2 A._law_are_chains A.d__law_are_chains ["_law_chains", "_law_size"] (spD K am0 (fun ws Q => ∃ n : Nat, ws = [.sh (csD (chF n)), .sh (.int n)] ∧ n ≤ 4 ∧ Q (.sh (.bl true)) [])) := by
  refine T.F__law_are_chains.ok sc__law_are_chains (fun vs H Q E h => by
    obtain ⟨_, ws, Qd, _, _, _, hv, hsp, _⟩ := h
    obtain ⟨n, rfl, _⟩ := hsp
    exact hv.len.symm) (fun cdv A' outer s H vs Q E hr h => ?_)
  have hu := hu_of hr
  refine spD_run (td := ?td) h (qs_cons (ps_set (i := 2) sc__law_are_chains.nd rfl (Or.inl rfl) (q_own (pe_lst pa_nil)))
    (qs_cons (q_for PassesOwn.never rfl (qi_list (qv 0)) (pg_name (i := 3) sc__law_are_chains.nd rfl (Or.inr rfl)) (pss_one (q_for PassesOwn.never rfl (qi_r1 (by rfl) T.m_range (pa_cons (pe_callB c_len (by rfl) T.m_len (by decide +kernel) (pa_cons (qv 3) pa_nil)) pa_nil)) (pg_name (i := 4) sc__law_are_chains.nd rfl (Or.inr rfl)) (qs_cons (ps_expr (lm1 PySem.F.slot_list_append PySem.F.type_list_append m_append (qv 2) (pa_cons (pe_ix ix_L (qv 3) (qv 4) (fun _ _ => rfl)) pa_nil)))
    (pss_one (q_if (q_cmp o_gt (qv 4) pe_int (nomark _)) (qs_cons (q_setLc (i := 5) (own := [("_law_at", 6)]) (g := gName 6) rfl sc__law_are_chains.nd rfl rfl (sw_true rfl rfl rfl (by decide +kernel)) (qi_r1 (by rfl) T.m_range (pa_cons (qv 1) pa_nil)) (blkOk_by (own := [("_law_at", 6)]) (N := ["_law_chains", "_law_size", "_law_seen", "_law_chain", "_law_k", "_law_unlike", "_law_at"]) (sc := defScope s__law_are_chains) (by decide +kernel)) (fun _ _ _ _ _ => (pg_name (i := 6) sc__law_are_chains.nd rfl (Or.inl rfl))) (fun _ _ _ _ _ => pts_one (q_cmp op_ne (pe_ix ix_S (pe_ix ix_L (qv 3) (qv 4) (fun _ _ => rfl)) (qv 6) (fun _ _ => rfl)) (pe_ix ix_S (pe_ix ix_L (qv 3) (pe_op o_sub (qv 4) pe_int) (fun _ _ => rfl)) (qv 6) (fun _ _ => rfl)) (nomark _))) (fun _ _ _ _ _ => (qv 6)))
    (pss_one (q_if (PW.pt (pw_or (q_cmp op_ne (pe_callB c_len (by rfl) T.m_len (by decide +kernel) (pa_cons (qv 5) pa_nil)) pe_int (nomark _)) (pw_or1 (q_cmp op_ne (pe_ix ix_S (pe_ix ix_L (qv 3) (qv 4) (fun _ _ => rfl)) (pe_ix ix_L (qv 5) pe_int (fun _ _ => rfl)) (fun _ _ => rfl)) pe_str (nomark _))))) (pss_one (ps_ret pe_bl)) pss_nil))) pss_nil))))))
    (pss_one (ps_ret (q_and (pe_cmpR (op_eqD (X := _) hr.units) (pe_callB c_sortSU (by rfl) T.m_sorted (by decide +kernel) (pa_cons (qv 2) pa_nil)) (pe_callB c_sortSU (by rfl) T.m_sorted (by decide +kernel) (pa_cons (q_call (ok__law_texts T) (hr.mono (by decide)) rfl T.g__law_texts T.k__law_texts T.b__law_texts pass0 (pa_cons (qv 1) pa_nil)) pa_nil)) (nomark _)) (pe_one (pe_cmpR (o_notInG hr.units1) (pe_lst pa_nil) (qv 0) (by rfl)))))))) ?hs ?hD
  case hs => (try simp only [cx_K, cx_prog, cx_w, blkK]); exact inferInstance
  rintro ws Qd ⟨n, rfl, h4, kk⟩
  push_cast []
  intro p hp
  obtain ⟨f1, f2, f3, f4, f5⟩ := chainsB_at h4
  obtain ⟨l32, l5⟩ := lawT_ok n (by omega)
  have ec : csD (chF n) = D.lst ((chF n).map tsD) := rfl
  push_cast [ec]
  rw [show List.map W.sh (List.map tsD (chF n)) = (chF n).map fun c => W.sh (tsD c) from by rw [List.map_map]; rfl]
  let sW : Str → W := fun t => .sh (.str t)
  refine ⟨fun i Γ Ω => ∃ v3 v4 v5 v6, Γ = [some (.sh (csD (chF n))), some (.sh (.int n)), some (.pt p), v3, v4, v5, v6] ∧ Ω = [(p, .lst ((((chF n).take i).flatten).map sW))], ⟨_, _, _, _, rfl, rfl⟩, ?_, ?_⟩
  · rintro i w Γ Ω hw ⟨v3, v4, v5, v6, rfl, rfl⟩
    rw [List.getElem?_map] at hw
    cases q : (chF n)[i]? with
    | none => rw [q] at hw; cases hw
    | some c =>
      rw [q] at hw
      obtain rfl : W.sh (tsD c) = w := Option.some.inj hw
      have hc := List.mem_of_getElem? q
      have hcl := f1 c hc
      have htk : (chF n).take (i + 1) = (chF n).take i ++ [c] := by rw [List.take_succ, q]; rfl
      push_cast []
      obtain ⟨c32, cl, ck⟩ := hcl
      have accl : (((chF n).take i).flatten).length + c.length ≤ 32 := by
        have : ((chF n).take (i + 1)).flatten.length ≤ (chF n).flatten.length := by
          have e9 : (chF n).flatten = ((chF n).take (i + 1)).flatten ++ ((chF n).drop (i + 1)).flatten := by rw [← List.flatten_append, List.take_append_drop]
          rw [e9, List.length_append]
          omega
        rw [htk, List.flatten_append, List.length_append, List.flatten_singleton] at this
        omega
      rw [List.length_map]
      refine ⟨by omega, by omega, fun k Γ Ω => ∃ v4 v5 v6, Γ = [some (.sh (csD (chF n))), some (.sh (.int n)), some (.pt p), some (.sh (tsD c)), v4, v5, v6] ∧ Ω = [(p, .lst ((((chF n).take i).flatten ++ c.take k).map sW))], ⟨_, _, _, rfl, by rw [List.take_zero, List.append_nil]⟩, ?_, ?_⟩
      · rintro k w Γ Ω hw ⟨v4, v5, v6, rfl, rfl⟩
        have hk : k < c.length := by
          have := (List.getElem?_eq_some_iff.mp hw).1
          simpa [natsW] using this
        obtain rfl : W.sh (.int (k : Nat)) = w := by
          unfold natsW at hw
          rw [List.getElem?_map, List.getElem?_range hk] at hw
          exact Option.some.inj hw
        have hck : ∀ m, m < c.length → ∀ (Q : W → Prop), atR (List.map W.sh (List.map D.str c)) (m : Int) Q = Q (.sh (.str (c.getD m (Str.ofString "")))) := fun m hm Q => by
          refine atR_some (atI_nat ?_)
          rw [List.getElem?_map, List.getElem?_map, List.getElem?_eq_getElem hm, List.getD_eq_getElem?_getD, List.getElem?_eq_getElem hm]
          rfl
        have hkt : c.take (k + 1) = c.take k ++ [c.getD k (Str.ofString "")] := by
          rw [List.take_succ, List.getD_eq_getElem?_getD, List.getElem?_eq_getElem hk]
          rfl
        push_cast [hck k hk]
        have ctk := List.length_take_le k c
        refine ⟨by unfold lenLt; rw [sizeLine_eq, List.length_map, List.length_append]; omega, ?_⟩
        have eΩ : List.map sW (((chF n).take i).flatten ++ c.take k) ++ [W.sh (D.str (c.getD k (Str.ofString "")))] = List.map sW (((chF n).take i).flatten ++ c.take (k + 1)) := by
          rw [hkt, List.map_append, List.map_append, List.map_append, List.append_assoc]
          rfl
        rw [eΩ]
        push_cast []
        by_cases k0 : (0 : Int) < (k : Int)
        · rw [if_pos k0]
          obtain ⟨u1, u2⟩ := ck k hk (by omega)
          obtain ⟨j, hj⟩ := List.length_eq_one_iff.mp u1
          rw [hj] at u2
          have u2 : chr (c.getD k (Str.ofString "")) j = 49 := u2
          have hjn : j < n := by
            have : j ∈ unlF n c k := by rw [hj]; exact List.mem_singleton.mpr rfl
            unfold unlF at this
            exact List.mem_range.mp (List.mem_filter.mp this).1
          have km : (k : Int) - 1 = ((k - 1 : Nat) : Int) := by omega
          have lk : ∀ m, m < c.length → (c.getD m (Str.ofString "")).length = n := fun m hm => by
            refine cl _ ?_
            rw [List.getD_eq_getElem?_getD, List.getElem?_eq_getElem hm]
            exact List.getElem_mem hm
          have hch : ∀ m, m < c.length → ∀ a, a < n → ∀ (Q : Nat → Prop), atR (c.getD m (Str.ofString "")).cps.toList (a : Int) Q = Q (chr (c.getD m (Str.ofString "")) a) := fun m hm a ha Q => by
            have h1 := lk m hm
            refine atR_some (atI_nat ?_)
            exact getD_nat (by rw [Array.length_toList]; show a < (c.getD m (Str.ofString "")).length; omega)
          have nz : n ≤ sizeLine := by rw [sizeLine_eq]; omega
          push_cast []
          rw [show natsW n = (List.range n).map fun a => W.sh (.int (a : Nat)) from rfl]
          refine ⟨by decide, by omega, by omega, _, dLcP_filt (D0 := List.range n) (f := fun a => W.sh (.int (a : Nat))) (G := fun a => W.sh (.int (a : Nat))) (t := fun a => !(chr (c.getD k (Str.ofString "")) a == chr (c.getD (k - 1) (Str.ofString "")) a)) (by rw [List.length_range]; omega) (fun a ha acc q2 Pn hn0 ll k1 => ?_), fun acc hacc => ?_⟩
          · have ha := List.mem_range.mp ha
            push_cast [km, hck k hk, hck (k - 1) (by omega), lk k hk, lk (k - 1) (by omega), hch k hk a ha, hch (k - 1) (by omega) a ha]
            refine ⟨nz, nz, ?_⟩
            by_cases z : chr (c.getD k (Str.ofString "")) a = chr (c.getD (k - 1) (Str.ofString "")) a
            · rw [if_neg (by rw [z]; simp)] at k1
              rw [if_neg (by rw [z]; simp)]
              exact k1
            · rw [if_pos (by simpa using z)] at k1
              rw [if_pos (by rw [Bool.not_eq_true', decide_eq_false_iff_not, one_cp]; exact z)]
              exact ⟨ll, k1⟩
          · have : acc = ((unlF n c k).map fun (a : Nat) => D.int a).map W.sh := by
              rw [hacc, List.length_map, List.take_length, List.map_map]
              rfl
            subst this
            rw [hj]
            push_cast [hck k hk, hch k hk j hjn, lk k hk, u2]
            refine ⟨nz, ?_⟩
            rw [if_neg (by rw [show (⟨#[49]⟩ : Str) = Str.ofString "1" from by decide +kernel]; simp)]
            push_cast []
            exact ⟨_, rfl⟩
        · rw [if_neg k0]
          push_cast []
          exact ⟨_, rfl⟩
      · rintro Γ Ω ⟨v4, v5, v6, rfl, rfl⟩
        have e2 : (natsW c.length).length = c.length := by simp [natsW]
        rw [e2, List.take_length]
        push_cast []
        rw [htk, List.flatten_append, List.flatten_singleton]
  · rintro Γ Ω ⟨v3, v4, v5, v6, rfl, rfl⟩
    push_cast []
    rw [List.length_map, List.take_length]
    refine ⟨(chF n).flatten, .inr (.inr ⟨p, rfl, by rw [look_hd]⟩), by omega, fun ys pm srt => ⟨n, rfl, by omega, ?_⟩⟩
    refine ⟨lawT n, .inl rfl, by omega, fun zs pm2 srt2 => ?_⟩
    obtain rfl : ys = zs := srtS_uniq (pm.trans (f2.trans pm2.symm)) srt srt2
    have hys : ∀ t ∈ ys, PyData.strOk t = true := fun t ht => (l5 t (pm2.mem_iff.mp ht)).2
    have hok : plD (.lst (ys.map .str)) = true := pl_strs hys
    have hdp : (pdD (.lst (ys.map .str))).depth ≤ 64 := dp_strs ys
    push_cast [hok, hdp, PySem.SeqAt.eqv_refl _ (pd_can _ hok), dNotInG]
    refine ⟨rfl, by decide, _, rfl, f4, dp_css _, .sh ?_⟩
    have e0 : pdD (D.lst []) = .list [] := rfl
    rw [e0, f3]
    exact kk
theorem sc__law_tried : FnScope ["_law_many_here", "_law_size", "_law_some", "_law_number", "_law_longer", "_law_rows", "_law_text"] ["_law_many_here", "_law_size"] (defScope s__law_tried) := ⟨rfl, rfl, rfl, by decide +kernel, rfl, by decide +kernel, by decide +kernel⟩
theorem ok__law_tried (T : Txt K mg base A) : FnOk P w K mg base CX0 3 A._law_tried A.d__law_tried ["_law_many_here", "_law_size"] (spD K am0 (fun ws Q => ∃ n : Nat, ws = [.sh (.int (n + 1 : Nat)), .sh (.int n)] ∧ (1 ≤ n ∧ n ≤ 3) ∧ Q (.sh (.bl false)) [])) := by
  refine T.F__law_tried.ok sc__law_tried (fun vs H Q E h => by
    obtain ⟨_, ws, Qd, _, _, _, hv, hsp, _⟩ := h
    obtain ⟨n, rfl, _⟩ := hsp
    exact hv.len.symm) (fun cdv A' outer s H vs Q E hr h => ?_)
  have hu := hu_of hr
  refine spD_run (td := ?td) h (qs_cons (ps_set (i := 2) sc__law_tried.nd rfl (Or.inl rfl) (pe_lst (pa_cons (pe_lst pa_nil) pa_nil)))
    (qs_cons (q_for PassesOwn.never rfl (qi_r1 (by rfl) T.m_range (pa_cons (qv 0) pa_nil)) (pg_name (i := 3) sc__law_tried.nd rfl (Or.inl rfl)) (qs_cons (ps_set (i := 4) sc__law_tried.nd rfl (Or.inl rfl) (pe_lst pa_nil))
    (qs_cons (q_for PassesOwn.never rfl (qi_list (qv 2)) (pg_name (i := 5) sc__law_tried.nd rfl (Or.inr rfl)) (pss_one (ps_set (i := 4) sc__law_tried.nd rfl (Or.inl rfl) (pe_op o_cat (qv 4) (q_lc (own := [("_law_text", 6)]) (g := gName 6) rfl sc__law_tried.nd (qi_list (q_call (ok__law_texts T) (hr.mono (by decide)) rfl T.g__law_texts T.k__law_texts T.b__law_texts pass0 (pa_cons (qv 1) pa_nil))) (blkOk_by (own := [("_law_text", 6)]) (N := ["_law_many_here", "_law_size", "_law_some", "_law_number", "_law_longer", "_law_rows", "_law_text"]) (sc := defScope s__law_tried) (by decide +kernel)) (fun _ _ _ _ _ => (pg_name (i := 6) sc__law_tried.nd rfl (Or.inl rfl))) (fun _ _ _ _ _ => pts_one (PW.pt (pw_or (q_cmp (o_eqDK (K := K) rfl hr.units) (qv 5) (pe_lst pa_nil) (nomark _)) (pw_or1 (q_cmp o_ltS (pe_ix ix_L (qv 5) (pe_un o_neg pe_int) (fun _ _ => rfl)) (qv 6) (nomark _)))))) (fun _ _ _ _ _ => (pe_op o_cat (qv 5) (pe_lst (pa_cons (qv 6) pa_nil)))))))))
    (pss_one (ps_set (i := 2) sc__law_tried.nd rfl (Or.inl rfl) (qv 4))))))
    (pss_one (ps_ret (pe_cmpR (op_neD hr.units) (q_lc (own := [("_law_rows", 5)]) (g := gName 5) rfl sc__law_tried.nd (qi_list (qv 2)) (blkOk_by (own := [("_law_rows", 5)]) (N := ["_law_many_here", "_law_size", "_law_some", "_law_number", "_law_longer", "_law_rows", "_law_text"]) (sc := defScope s__law_tried) (by decide +kernel)) (fun _ _ _ _ _ => (pg_name (i := 5) sc__law_tried.nd rfl (Or.inl rfl))) (fun _ _ _ _ _ => pts_one (q_cmp o_isN (q_call (OA.P.ok__law_unheard T) (hr.mono (by decide)) rfl T.g__law_unheard T.k__law_unheard T.b__law_unheard pass0 (pa_cons (qv 5) (pa_cons pe_int pa_nil))) pe_non (nomark _))) (fun _ _ _ _ _ => (qv 5))) (pe_lst pa_nil) (nomark _)))))) ?hs ?hD
  case hs => (try simp only [cx_K, cx_prog, cx_w, blkK]); exact inferInstance
  rintro ws Qd ⟨n, rfl, ⟨h1, h3⟩, kk⟩
  push_cast []
  have tr := tri_at h1 h3
  refine ⟨by omega, by omega, fun i Γ Ω => ∃ v3 v4 v5 v6, Γ = [some (.sh (.int (n + 1 : Nat))), some (.sh (.int n)), some (.sh (csD (triF n i))), v3, v4, v5, v6] ∧ Ω = [], ⟨_, _, _, _, rfl, rfl⟩, ?_, ?_⟩
  · rintro i w Γ Ω hw ⟨v3, v4, v5, v6, rfl, rfl⟩
    have hi : i < n + 1 := by
      have := (List.getElem?_eq_some_iff.mp hw).1
      simpa [natsW] using this
    obtain rfl : W.sh (.int (i : Nat)) = w := by
      unfold natsW at hw
      rw [List.getElem?_map, List.getElem?_range hi] at hw
      exact Option.some.inj hw
    obtain ⟨t100, tl⟩ := tr.1 i (by omega)
    obtain ⟨t100b, _⟩ := tr.1 (i + 1) (by omega)
    have ec : csD (triF n i) = D.lst ((triF n i).map tsD) := rfl
    push_cast [ec]
    rw [show List.map W.sh (List.map tsD (triF n i)) = (triF n i).map fun c => W.sh (tsD c) from by rw [List.map_map]; rfl]
    refine ⟨fun j Γ Ω => ∃ v5 v6, Γ = [some (.sh (.int (n + 1 : Nat))), some (.sh (.int n)), some (.sh (csD (triF n i))), some (.sh (.int i)), some (.sh (csD (((triF n i).take j).flatMap (moreF n)))), v5, v6] ∧ Ω = [], ⟨_, _, rfl, rfl⟩, ?_, ?_⟩
    · rintro j w Γ Ω hw ⟨v5, v6, rfl, rfl⟩
      rw [List.getElem?_map] at hw
      cases q : (triF n i)[j]? with
      | none => rw [q] at hw; cases hw
      | some rs =>
        rw [q] at hw
        obtain rfl : W.sh (tsD rs) = w := Option.some.inj hw
        have htk : (triF n i).take (j + 1) = (triF n i).take j ++ [rs] := by rw [List.take_succ, q]; rfl
        have ec2 : csD (((triF n i).take j).flatMap (moreF n)) = D.lst ((((triF n i).take j).flatMap (moreF n)).map tsD) := rfl
        push_cast [ec2]
        refine ⟨by decide, n, rfl, by omega, ?_⟩
        obtain ⟨l32, l5⟩ := lawT_ok n (by omega)
        obtain ⟨rl, rt⟩ := tl rs (List.mem_of_getElem? q)
        rw [show List.map W.sh (List.map D.str (lawT n)) = (lawT n).map fun t => W.sh (.str t) from by rw [List.map_map]; rfl]
        refine ⟨_, dLcP_filt (D0 := lawT n) (f := fun t => W.sh (.str t)) (G := fun t => W.sh (tsD (rs ++ [t]))) (t := lastLt rs) (by omega) (fun t ht acc q2 Pn hn0 ll k1 => ?_), fun acc hacc => ?_⟩
        · have hok : plD (tsD rs) = true := pl_strs fun t ht => (rt t ht).2
          have hdp : (pdD (tsD rs)).depth ≤ 64 := dp_strs rs
          have eap : List.map D.str rs ++ [D.str t] = (rs ++ [t]).map D.str := by rw [List.map_append]; rfl
          push_cast [hok, hdp, eap]
          refine ⟨rfl, by decide, ?_⟩
          have lo : lenOk (List.map D.str (rs ++ [t])) := lenOk_of (by simp; omega)
          cases rs with
          | nil =>
            rw [if_pos (by rfl)]
            rw [if_pos (by rfl)] at k1
            exact ⟨lo, ll, k1⟩
          | cons r rs =>
            rw [if_neg (by rw [show (pdD (tsD (r :: rs))).eqv (pdD (D.lst [])) = false from by rfl]; decide), List.map_map]
            rw [show List.map (W.sh ∘ D.str) (r :: rs) = (r :: rs).map fun t => W.sh (.str t) from rfl, atR_lastS (by simp)]
            have el : lastLt (r :: rs) t = decide ((lastS (r :: rs)).cps.toList < t.cps.toList) := rfl
            rw [el] at k1
            push_cast [dLtS]
            by_cases z : (lastS (r :: rs)).cps.toList < t.cps.toList
            · rw [if_pos (decide_eq_true z)] at k1
              rw [if_pos z]
              exact ⟨lo, ll, k1⟩
            · rw [if_neg (by simpa using z)] at k1
              rw [if_neg z]
              exact k1
        · have : acc = ((moreF n rs).map tsD).map W.sh := by
            rw [hacc, List.length_map, List.take_length]
            unfold moreF
            rw [List.map_map, List.map_map]
            rfl
          subst this
          push_cast []
          rw [htk, List.flatMap_append, List.flatMap_singleton, ← List.map_append]
          refine ⟨lenOk_of ?_, rfl, _, rfl⟩
          rw [List.length_map]
          have e9 : triF n (i + 1) = (((triF n i).take (j + 1)).flatMap (moreF n)) ++ (((triF n i).drop (j + 1)).flatMap (moreF n)) := by
            rw [← List.flatMap_append, List.take_append_drop]
            rfl
          rw [e9, htk, List.flatMap_append, List.flatMap_singleton, List.length_append] at t100b
          omega
    · rintro Γ Ω ⟨v5, v6, rfl, rfl⟩
      rw [List.length_map, List.take_length]
      push_cast []
      exact ⟨rfl, _, rfl⟩
  · rintro Γ Ω ⟨v3, v4, v5, v6, rfl, rfl⟩
    have e2 : (natsW (n + 1)).length = n + 1 := by simp [natsW]
    rw [e2]
    have ec : csD (triF n (n + 1)) = D.lst ((triF n (n + 1)).map tsD) := rfl
    push_cast [ec]
    obtain ⟨t100, tl⟩ := tr.1 (n + 1) (Nat.le_refl _)
    rw [show List.map W.sh (List.map tsD (triF n (n + 1))) = (triF n (n + 1)).map fun c => W.sh (tsD c) from by rw [List.map_map]; rfl]
    refine ⟨by decide, _, dLcP_filt (D0 := triF n (n + 1)) (f := fun rs => W.sh (tsD rs)) (G := fun rs => W.sh (tsD rs)) (t := fun _ => false) (by omega) (fun rs hrs acc q2 Pn hn0 ll k1 => ?_), fun acc hacc => ?_⟩
    · obtain ⟨rl, rt⟩ := tl rs hrs
      have hu := tr.2 rs hrs
      push_cast []
      refine ⟨false, rs, rfl, n, 2, rfl, ⟨h1, by omega, fun r hr => (rt r hr).1⟩, by omega, by omega, by decide, ?_⟩
      rw [rl]
      cases q3 : OA.P.firstU rs n (OA.P.setsN (n + 1) 1 2) with
      | none => rw [q3] at hu; cases hu
      | some x =>
        push_cast [OA.P.uD]
        exact k1
    · have : acc = [] := by
        rw [hacc]
        simp
      subst this
      push_cast []
      refine ⟨rfl, by decide, rfl, by decide, .sh ?_⟩
      rw [show (!(pdD (D.lst [])).eqv (pdD (D.lst []))) = false from by rfl]
      exact kk
end
end X
end OA

namespace OA
namespace X
open PySem PySem.Spec PyProof.Rows L2
/-! the rows told, for each number of stations -/
def cntOk (m : Nat) (r : Str) : Bool := decide (r.length = lenQ m) && decide ((Txt.count r (Str.ofString "0") : Int) + (Txt.count r (Str.ofString "1") : Int) = (lenQ m : Int)) && PyData.strOk r
def lawQ (m : Nat) : Bool := decide ((rowsQ m).length = m) && (rowsQ m).all (cntOk m) && sortedS (rowsQ m) && rowsB (rowsQ m) m && decide (((rowsQ m).headD Str.empty).length = lenQ m) && (P.firstU (rowsQ m) (lenQ m) (P.setsN m 1 (min 2 m))).isNone && decide (m ≤ 1 ∨ (chainsQ m).length < m) && decide (1 ≤ lenQ m ∧ lenQ m ≤ 5)
theorem lawQ_ok : ∀ m, m ≤ 8 → 1 ≤ m → lawQ m = true := by decide +kernel
theorem atR_all11 {α : Type} {xs : List α} {o : Nat} {k : α → Prop} (h : o < xs.length) (hk : ∀ x ∈ xs, k x) : atR xs (o : Nat) k := by
  rw [atR_some (atI_nat (j := o) (List.getElem?_eq_getElem h))]
  exact hk _ (List.getElem_mem h)
structure ToldQ (m : Nat) (rowsQ : List Str) (chainsQ : List (List Str)) : Prop where
  len : (rowsQ).length = m
  row : ∀ r ∈ rowsQ, r.length = lenQ m ∧ (Txt.count r (Str.ofString "0") : Int) + (Txt.count r (Str.ofString "1") : Int) = (lenQ m : Int) ∧ PyData.strOk r = true
  srt : sortedS (rowsQ) = true
  rows : rowsB (rowsQ) m = true
  hd : ((rowsQ).headD Str.empty).length = lenQ m
  no : P.firstU (rowsQ) (lenQ m) (P.setsN m 1 (min 2 m)) = none
  few : 2 ≤ m → (chainsQ).length < m
  l1 : 1 ≤ lenQ m
  l5 : lenQ m ≤ 5
theorem told_at {m : Nat} (h8 : m ≤ 8) (h1 : 1 ≤ m) : ToldQ m (rowsQ m) (chainsQ m) := by
  have h0 := lawQ_ok m h8 h1
  unfold lawQ at h0
  simp only [Bool.and_eq_true, List.all_eq_true, decide_eq_true_eq, Option.isNone_iff_eq_none] at h0
  obtain ⟨⟨⟨⟨⟨⟨⟨a1, a2⟩, a3⟩, a4⟩, a5⟩, a6⟩, a7⟩, a8⟩ := h0
  refine ⟨a1, fun r hr => ?_, a3, a4, a5, a6, fun h => a7.resolve_left (by omega), a8.1, a8.2⟩
  have := a2 r hr
  unfold cntOk at this
  simp only [Bool.and_eq_true, decide_eq_true_eq] at this
  exact ⟨this.1.1, this.1.2, this.2⟩
theorem chainsQ_ok {m : Nat} (h8 : m ≤ 8) (h2 : 2 ≤ m) : chainsQ m = chF (lenQ m - 1) ∧ lenQ m - 1 ≤ 4 := by
  obtain ⟨a, b, _⟩ := lenQ_ok m h8 h2
  unfold chainsQ
  rw [if_neg (by omega)]
  exact ⟨rfl, by omega⟩
theorem chainsQ_len {m : Nat} (h8 : m ≤ 8) (h1 : 1 ≤ m) : (chainsQ m).length ≤ 1000 ∧ ∀ c ∈ chainsQ m, c.length ≤ 1000 := by
  by_cases h : m = 1
  · subst h
    exact ⟨by decide, fun c hc => absurd hc (by simp [chainsQ])⟩
  · obtain ⟨e, l4⟩ := chainsQ_ok h8 (by omega)
    obtain ⟨a, b⟩ := chF_ok _ (show lenQ m - 1 ≤ 5 by omega)
    rw [e]
    exact ⟨by omega, fun c hc => by have := (b c hc).2.1; omega⟩
end X
end OA

namespace OA
namespace X
open PySem PySem.Spec PyProof.Rows L2
local macro_rules
  | `(tactic| push_cast only [$a,*]) => `(tactic| simp -implicitDefEqProofs only [Int.toNat_natCast, List.cons.injEq, W.sh.injEq, D.int.injEq, D.str.injEq, D.bl.injEq, D.tup.injEq, D.lst.injEq, W.pt.injEq, and_assoc, exists_eq_left', exists_eq_left, exists_and_left, true_implies, dIsi, tn_n, tn_b, tn_i, tn_s, tn_t, tn_nt, tn_l, kr_NoneType_bool, kr_NoneType_int, kr_NoneType_str, kr_NoneType_list, kr_NoneType_tuple, kr_NoneType_dict, kr_bool_bool, kr_bool_int, kr_bool_str, kr_bool_list, kr_bool_tuple, kr_bool_dict, kr_int_bool, kr_int_int, kr_int_str, kr_int_list, kr_int_tuple, kr_int_dict, kr_str_bool, kr_str_int, kr_str_str, kr_str_list, kr_str_tuple, kr_str_dict, kr_list_bool, kr_list_int, kr_list_str, kr_list_list, kr_list_tuple, kr_list_dict, kr_tuple_bool, kr_tuple_int, kr_tuple_str, kr_tuple_list, kr_tuple_tuple, kr_tuple_dict, kr_dict_bool, kr_dict_int, kr_dict_str, kr_dict_list, kr_dict_tuple, kr_dict_dict, dVar, dC_n, dC_b, dC_i, dC_s, dC_t, dC_r, dOp, dUn, dNil, dCons, dStar, dStarT, dTup, dLst, dLstO, dAnd, dOr, dNot, dIf, dTest, dYes, dChain, dCall, dNext, dCut, dSeq, dDrop, dRet, dRetN, dIfS, dName, sgnil_e, sgcons_e, dGtup, dAsg, dAug, dWhile, dFor, dLc, dLcO, dLc2, dDc, dI0, dIC, dEq, dIsN, isNonW, noPy, dAddS, dMulS, dCat, dCatT, dInT, dInLI, dInTI, dInS, dIxL, dIxT, dIxS, dNeg, dNoPart, dPart, dSl, dSlL, dSlT, dSlS, dRev, dDGet, dDIn, dDNew, dDNewS, dsDPut, dgSub, dSetL, isLW, dLM, dLM0, dAppend, dPopAt, dExtend, dPop, dLen, dTupL, dLstL, dAbs, dIntB, dMin2, dMax2, dMaxL, dCKw, dMaxT, dFn, dList, dTupI, dStrI, dR1, dR2, dEnum, dTAnd, dTOr, dTNot, varR_e, intW_e, blW_e, strW_e, shW_e, tyW_e, tupW_e, tupW_n, tup0W_e, lookL_e, lookD_e, lookR_e, lookR_l, seqW_e, seqW_p, dicW_e, dicW_p, ownL_p, ownD_p, keyW_i, keyW_s, one1W_e, two2W_e, shsW_nil, shsW_cons, shsW_app, shsW_map, intsD_nil, intsD_cons, intsD_map, strsD_map, cWR_n, cWR_b, cWR_i, cWR_s, flW_n, flW_b, flW_i, flW_s, fls_nil, fls_n, fls_b, fls_i, fls_s, lenW_l, lenW_d, lenW_t, lenW_n, lenW_s, lenW_p, lenO'_l, lenO'_d, atR_0, atR_1, atR_2, atR_3, atR_4, lenOk_0, lenOk_1, lenOk_2, lenOk_3, lenOk_4, lenOk_5, look_hd, put_c, put_n, notins_nil, startG, scal, List.map, List.replicate, List.length_cons, List.length_nil, List.cons_append, List.nil_append, List.append_nil, List.getElem?_cons_zero, List.getElem?_cons_succ, List.set_cons_zero, List.set_cons_succ, wipeG, true_and, and_true, if_true, if_false, decide_eq_true_eq, reduceCtorEq, reduceIte, Bool.false_eq_true, decide_true, decide_false, Bool.true_and, Bool.false_and, Bool.and_true, Bool.and_false, Bool.not_true, Bool.not_false, V.int.injEq, V.str.injEq, V.bl.injEq, Nat.reduceAdd, Nat.reduceSub, Nat.reduceLT, Int.reduceEq, Int.reduceLT, Int.reduceLE, Int.reduceAdd, Int.reduceSub, Int.cast_ofNat_Int, dForK, dOff, dMany, dMixed, dAlike, dDcO, dLstVals, dEqLI, dDictO, dSortP, dLstK, dNeD0, dRep, dLstRg, dSortPT, dJoin, dCount, dLenSet, dInLs, dDGet2, dSortDW, dFnM, dTupT, dNotInLT, dIndexLT, dEqP, pdW_s, pdW_p, dSortI, dInsert0, dCatO, dLcK, $a,*])
  | `(tactic| push_cast [$a,*]) => `(tactic| ((repeat refine LaterD.mk ?_); push_cast only [$a,*]; repeat ((refine LaterD.mk ?_); (repeat refine LaterD.mk ?_); push_cast only [$a,*])))
section
variable {P : Program} {w : World} {K : PySem.W.Frag} {mg : Str → Option Value} {base : Heap} {A : Ad} {Z : XA}
abbrev ps11 (A : Ad) : List Addr := [A.p_are_rows, A.p_is_row]
abbrev ls11 (A : Ad) : List (Addr × Str) := [(A.p_law, lq "law")]
theorem sc_law : FnScope ["_law_script", "_law_d", "_law_many_here", "_law_again", "_law_rows", "_law_chains", "_law_size", "_law_most", "_law_chain", "_law_odd", "_law_row"] ["_law_script"] (defScope s_law) := ⟨rfl, rfl, rfl, by decide +kernel, rfl, by decide +kernel, by decide +kernel⟩
theorem ok_law (T : Txt K mg base A) (TX : XTxt P K mg Z) (FX : XCls K Z) : FnOk P w K mg base CX0 20 A.law A.d_law ["_law_script"] (spLawA K (amA (ps11 A) (ls11 A))) := by
  refine okC T.F_law T.h_law sc_law (fun vs H Q E h => ?_) (fun cdv A' outer s H vs Q E hcd hr h => ?_)
  · obtain ⟨a, ns, rfl, _⟩ := h
    rfl
  have hu := hu_of hr
  refine law_goB h (qs_cons (ps_set (i := 1) sc_law.nd rfl (Or.inl rfl) (q_call (ok__law_dice T) (hr.mono (by decide)) rfl T.g__law_dice T.k__law_dice T.b__law_dice pass0 (pa_cons (qv 0) (pa_cons pe_int pa_nil))))
    (qs_cons (ps_set (i := 2) sc_law.nd rfl (Or.inl rfl) (q_call (ok__law_many T) (hr.mono (by decide)) rfl T.g__law_many T.k__law_many T.b__law_many pass0 (pa_cons (qv 1) pa_nil)))
    (qs_cons (q_for PassesOwn.never rfl (qi_r1 (by rfl) T.m_range (pa_cons pe_int pa_nil)) (pg_name (i := 3) sc_law.nd rfl (Or.inl rfl)) (qs_cons (ps_asg (q_call (fn_calm (okx_two T TX)) (hr.mono (by decide)) rfl T.g_two T.k_two T.b_two pass0 (pa_cons (qv 2) pa_nil)) (q_gtup (n := 2) rfl (q_gcons (pg_name (i := 4) sc_law.nd rfl (Or.inl rfl)) (q_gcons (pg_name (i := 5) sc_law.nd rfl (Or.inl rfl)) q_gnil))))
    (qs_cons (ps_set (i := 6) sc_law.nd rfl (Or.inr rfl) (pe_callB c_len (by rfl) T.m_len (by decide +kernel) (pa_cons (pe_ix ix_T (qv 4) pe_int (fun _ _ => rfl)) pa_nil)))
    (qs_cons (q_if (PW.pt (pw_or (pt_not (q_val (pe_callB c_isi (by rfl) T.m_isinstance (by decide +kernel) (pa_cons (qv 4) (pa_cons (pe_bltn (v := .ty "tuple") (by rfl) T.m_tuple (by decide +kernel) rfl) pa_nil))))) (pw_or1 (q_cmp op_ne (pe_callB c_len (by rfl) T.m_len (by decide +kernel) (pa_cons (qv 4) pa_nil)) (qv 2) (nomark _))))) (pss_one (ps_ret pe_bl)) pss_nil)
    (qs_cons (q_if (q_cmp (op_neD hr.units) (pe_callTy c_lstU (by rfl) T.m_list (by decide +kernel) (pa_cons (qv 4) pa_nil)) (pe_callB c_sortSU (by rfl) T.m_sorted (by decide +kernel) (pa_cons (qv 4) pa_nil)) (nomark _)) (pss_one (ps_ret pe_bl)) pss_nil)
    (qs_cons (q_if (q_cmp (op_neD hr.units) (q_lc (own := [("_law_row", 10)]) (g := gName 10) rfl sc_law.nd (qi_tup (qv 4)) (blkOk_by (own := [("_law_row", 10)]) (N := ["_law_script", "_law_d", "_law_many_here", "_law_again", "_law_rows", "_law_chains", "_law_size", "_law_most", "_law_chain", "_law_odd", "_law_row"]) (sc := defScope s_law) (by decide +kernel)) (fun _ _ _ _ _ => (pg_name (i := 10) sc_law.nd rfl (Or.inl rfl))) (fun _ _ _ _ _ => pts_one (PW.pt (pw_or (q_cmp op_ne (pe_callB c_len (by rfl) T.m_len (by decide +kernel) (pa_cons (qv 10) pa_nil)) (qv 6) (nomark _)) (pw_or1 (q_cmp op_ne (pe_op o_add (q_count (qv 10) pe_str) (q_count (qv 10) pe_str)) (qv 6) (nomark _)))))) (fun _ _ _ _ _ => (qv 10))) (pe_lst pa_nil) (nomark _)) (pss_one (ps_ret pe_bl)) pss_nil)
    (qs_cons (ps_set (i := 7) sc_law.nd rfl (Or.inl rfl) (pe_callB (c_min2 rfl) (by rfl) T.m_min (by decide +kernel) (pa_cons pe_int (pa_cons (qv 2) pa_nil))))
    (qs_cons (q_if (PW.pt (pw_or (q_cmp o_notN (q_call (OA.P.ok__law_unheard T) (hr.mono (by decide)) rfl T.g__law_unheard T.k__law_unheard T.b__law_unheard pass0 (pa_cons (qv 4) (pa_cons (qv 7) pa_nil))) pe_non (nomark _)) (pw_or1 (q_cmp o_notN (q_call (fn_calm (okx_unheard (am := amTb (ps11 A)) T TX)) (hr.mono (by decide)) rfl T.g_unheard T.k_unheard T.b_unheard pass0 (pa_cons (qv 4) (pa_cons (qv 7) pa_nil))) pe_non (nomark _))))) (pss_one (ps_ret pe_bl)) pss_nil)
    (qs_cons (q_if (PW.pt (pw_and (q_cmp op_eq (qv 2) pe_int (nomark _)) (pw_and1 (PW.pt (pw_or (q_cmp (op_neD hr.units) (qv 4) (pe_tup (pa_cons pe_str pa_nil)) (nomark _)) (pw_or1 (q_cmp (op_neD hr.units) (qv 5) (pe_lst pa_nil) (nomark _)))))))) (pss_one (ps_ret pe_bl)) pss_nil)
    (qs_cons (q_if (PW.pt (pw_and (q_cmp o_gt (qv 2) pe_int (nomark _)) (pw_and1 (PW.pt (pw_or (pt_not (q_val (q_call (ok__law_are_chains T) (hr.mono (by decide)) rfl T.g__law_are_chains T.k__law_are_chains T.b__law_are_chains pass0 (pa_cons (qv 5) (pa_cons (pe_op o_sub (qv 6) pe_int) pa_nil))))) (pw_or1 (q_cmp o_ge (pe_callB c_len (by rfl) T.m_len (by decide +kernel) (pa_cons (qv 5) pa_nil)) (qv 2) (nomark _)))))))) (pss_one (ps_ret pe_bl)) pss_nil)
    (qs_cons (q_if (PW.pt (pw_and (q_tchain o_lt o_lt pe_int (qv 2) pe_int) (pw_and1 (q_val (q_call (ok__law_tried T) (hr.mono (by decide)) rfl T.g__law_tried T.k__law_tried T.b__law_tried pass0 (pa_cons (qv 2) (pa_cons (pe_op o_sub (qv 6) pe_int) pa_nil))))))) (pss_one (ps_ret pe_bl)) pss_nil)
    (qs_cons (show PS _ _ (vBurn K 8 5 (Str.ofString "x")) from (q_for PassesOwn.never rfl (qi_list (qv 5)) (pg_name (i := 8) sc_law.nd rfl (Or.inl rfl)) (pss_one (ps_expr (lm1 PySem.F.slot_list_append PySem.F.type_list_append m_append (qv 8) (pa_cons pe_str pa_nil))))))
    (pss_one (ps_expr (lm1 PySem.F.slot_list_append PySem.F.type_list_append m_append (qv 5) (pa_cons (pe_lst pa_nil) pa_nil))))))))))))))))
    (qs_cons (ps_set (i := 9) sc_law.nd rfl (Or.inr rfl) (pe_ix ix_L (pe_lst (pa_cons pe_int (pa_cons pe_int (pa_cons (pe_un o_neg pe_int) (pa_cons (pe_op op_pow pe_int pe_int) pa_nil))))) (q_call (ok__law_off T) (hr.mono (by decide)) rfl T.g__law_off T.k__law_off T.b__law_off pass0 (pa_cons (qv 1) (pa_cons pe_int pa_nil))) (fun _ _ => rfl)))
    (pss_one (ps_ret (pe_refused (k := 5) (q := lq "law") T TX FX T.q_law hcd rfl (hr.mono (by decide)) (show LamX.LamS (defScope s_law) _ from LamX.lamS_by (by decide +kernel)) rfl (fun _ _ _ _ _ => rfl) (by rfl) (fun _ _ _ _ _ _ _ hr => have hu := hu_of hr; (q_call (okx_two T TX) (hr.mono (by decide)) rfl T.g_two T.k_two T.b_two lamN_passP (pa_cons (qv 9) pa_nil))) (pa_cons pe_str (pa_cons pe_int pa_nil))))))))) (by decide) (fun d H' => ?_)
  refine ⟨?td, ?hs, ?hD⟩
  case hs => (try simp only [cx_K, cx_prog, cx_w, blkK]); exact inferInstance
  push_cast [lawG, lawN]
  intro many m1 m8
  have tq := told_at m8 m1
  obtain ⟨cq1, cq2⟩ := chainsQ_len m8 m1
  have nz : lenQ many ≤ sizeLine := by rw [sizeLine_eq]; have := tq.l5; omega
  push_cast []
  refine ⟨by decide, by decide, fun i Γ Ω => ∃ (v0 v3 v4 v5 v6 v7 v8 v9 v10 : Option W), Γ = [v0, some (.pt d), some (.sh (.int (many : Nat))), v3, v4, v5, v6, v7, v8, v9, v10], ⟨_, _, _, _, _, _, _, _, _, rfl⟩, ?_, ?_⟩
  · rintro i w Γ Ω hw ⟨v0, v3, v4, v5, v6, v7, v8, v9, v10, rfl⟩
    push_cast []
    rw [if_pos (by omega)]
    generalize hrs : rowsQ many = rs at tq
    generalize hcs : chainsQ many = cs at tq cq1 cq2
    have eD : twoD many = D.tup [.tup (rs.map .str), .lst (cs.map tsD)] := by rw [← hrs, ← hcs]; rfl
    obtain ⟨r0, rs0, ers⟩ : ∃ r0 rs0, rs = r0 :: rs0 := by
      cases rs with
      | nil => have := tq.len; simp at this; omega
      | cons r rs => exact ⟨r, rs, rfl⟩
    have a0 : ∀ (Q : D → Prop), atR (rs.map D.str) (0 : Int) Q = Q (.str r0) := fun Q => by
      rw [ers]
      exact atR_some (atI_nat (j := 0) rfl)
    have l0 : r0.length = lenQ many := (tq.row r0 (by rw [ers]; exact List.mem_cons_self)).1
    push_cast [eD, a0, l0]
    refine ⟨nz, ?_⟩
    have hl : (rs.map D.str).length = many := by rw [List.length_map]; exact tq.len
    push_cast [hl, dLstU]
    refine ⟨rs, .inr (.inl rfl), by have := tq.len; omega, fun ys pm srt => ?_⟩
    obtain rfl := srtS_uniq pm srt tq.srt
    have hok : plD (.lst (ys.map .str)) = true := pl_strs fun t ht => (tq.row t ht).2.2
    have hdp : (pdD (.lst (ys.map .str))).depth ≤ 64 := dp_strs ys
    push_cast [hok, hdp, PySem.SeqAt.eqv_refl _ (pd_can _ hok)]
    rw [show List.map W.sh (List.map D.str ys) = ys.map fun t => W.sh (.str t) from by rw [List.map_map]; rfl]
    refine ⟨by decide, _, dLcP_filt (D0 := ys) (f := fun t => W.sh (.str t)) (G := fun t => W.sh (.str t)) (t := fun _ => false) (by have := tq.len; omega) (fun t ht acc q2 Pn hn0 ll k1 => ?_), fun acc hacc => ?_⟩
    · obtain ⟨tl, tc, _⟩ := tq.row t ht
      push_cast [tl, tc]
      exact ⟨nz, k1⟩
    have : acc = [] := by
      rw [hacc]
      simp
    subst this
    have em : (if (many : Int) < 2 then (many : Int) else 2) = ((min 2 many : Nat) : Int) := by
      split
      · rw [Nat.min_eq_right (by omega)]
      · rw [Nat.min_eq_left (by omega)]
        rfl
    have enn : (pdD (D.lst [])).eqv (pdD (D.lst [])) = true := by rfl
    push_cast [enn, em]
    refine ⟨rfl, by decide, rfl, by decide, ?_⟩
    push_cast [em]
    have ru := tq.rows
    have rn : OA.P.RowsN ys (lenQ many) := by
      have := rowsN_of ru (by have := tq.len; omega)
      rwa [tq.hd] at this
    have hl2 := tq.len
    have nof := tq.no
    refine ⟨true, ys, rfl, lenQ many, _, rfl, rn, by omega, by omega, by omega, ?_⟩
    rw [hl2, nof]
    push_cast [OA.P.uD]
    refine ⟨ys, rfl, by omega, fun r hr => by have := (tq.row r hr).1; have := tq.l5; omega, ?_⟩
    unfold unhEnd
    rw [if_pos (by omega), if_pos (by rw [hl2]; exact ru), Int.toNat_natCast, tq.hd, hl2, nof]
    intro _
    push_cast [OA.P.uD]
    have k1 : keepO (some (.pt d)) = some (.pt d) := rfl
    have k2 : ∀ n : Int, keepO (some (.sh (.int n))) = some (.sh (.int n)) := fun n => rfl
    by_cases c1 : (many : Int) = 1
    · rw [if_pos c1]
      obtain rfl : many = 1 := by omega
      obtain rfl : ys = [Str.ofString "1"] := by rw [← hrs]; rfl
      obtain rfl : cs = [] := by rw [← hcs]; rfl
      refine ⟨by kernel_rfl, by decide +kernel, by kernel_rfl, by decide +kernel, ?_⟩
      rw [if_neg (by decide +kernel)]
      push_cast []
      refine ⟨by kernel_rfl, by decide +kernel, by kernel_rfl, by decide +kernel, ?_⟩
      rw [if_neg (by decide +kernel)]
      push_cast [dBurn]
      refine ⟨[], rfl, by decide, cq1, cq2, fun a ps hps => ?_⟩
      push_cast [k1, k2]
      exact ⟨by unfold lenLt; rw [List.length_map, hps, sizeLine_eq]; exact Nat.lt_of_le_of_lt cq1 (by decide), _, rfl⟩
    · rw [if_neg c1]
      obtain ⟨ec, l4⟩ := chainsQ_ok m8 (by omega)
      rw [hcs] at ec
      have few := tq.few (by omega)
      have l1 := tq.l1
      subst ec
      have el : ((chF (lenQ many - 1)).map tsD).length = (chF (lenQ many - 1)).length := List.length_map _
      have es : (lenQ many : Int) - 1 = ((lenQ many - 1 : Nat) : Int) := by omega
      push_cast [es]
      rw [if_pos (by omega)]
      refine ⟨lenQ many - 1, rfl, rfl, l4, ?_⟩
      rw [if_neg (by rw [el]; omega)]
      push_cast [es, dBurn]
      rw [if_pos (by omega)]
      by_cases c5 : (many : Int) < 5
      · rw [if_pos c5]
        have eq : lenQ many = many := by
          have : many = 2 ∨ many = 3 ∨ many = 4 := by omega
          rcases this with z | z | z <;> rw [z] <;> rfl
        refine ⟨many - 1, by omega, by rw [eq], by omega, by omega, ?_⟩
        push_cast [dBurn]
        refine ⟨chF (lenQ many - 1), rfl, by decide, cq1, cq2, fun a ps hps => ?_⟩
        push_cast [k1, k2]
        exact ⟨by unfold lenLt; rw [List.length_map, hps, sizeLine_eq]; exact Nat.lt_of_le_of_lt cq1 (by decide), _, rfl⟩
      · rw [if_neg c5]
        push_cast [dBurn]
        refine ⟨chF (lenQ many - 1), rfl, by decide, cq1, cq2, fun a ps hps => ?_⟩
        push_cast [k1, k2]
        exact ⟨by unfold lenLt; rw [List.length_map, hps, sizeLine_eq]; exact Nat.lt_of_le_of_lt cq1 (by decide), _, rfl⟩
  · rintro Γ Ω ⟨v0, v3, v4, v5, v6, v7, v8, v9, v10, rfl⟩
    push_cast [dPow]
    refine ⟨⟨by decide, by decide, by decide⟩, fun n hn => atR_all11 (by show n < 4; omega) fun w hw => ?_⟩
    obtain ⟨odd, ho, rfl⟩ : ∃ odd : Int, ¬ (1 ≤ odd ∧ odd ≤ 8) ∧ w = W.sh (D.int odd) := by
      simp only [List.mem_cons, List.not_mem_nil, or_false, List.map_cons, List.map_nil] at hw
      rcases hw with rfl | rfl | rfl | rfl
      · exact ⟨0, by omega, rfl⟩
      · exact ⟨9, by omega, rfl⟩
      · exact ⟨-1, by omega, rfl⟩
      · exact ⟨_, by
          have : (10 : Int) ^ Int.toNat 9 = 1000000000 := by decide
          omega, rfl⟩
    push_cast [dRf, dCallX]
    refine ⟨.num, rfl, ?_⟩
    rw [if_neg ho]
    exact ⟨rfl, True.intro⟩
end
end X
end OA

namespace OA
namespace X
open PySem PySem.Spec PyProof.Rows L2
set_option maxHeartbeats 0
theorem all_mk {l : PySem.W.OpenLaw} {w : World} {K : PySem.W.Frag} {h : Heap} {mg : Str → Option Value} {fa : Addr} (X : K.In h) (G : h.Ns mainGlobals mg) (hfa : mg "law" = some (.ref fa))
  {f_is_whole : Addr} {od_is_whole an_is_whole : Option Addr} {sl_is_whole : Array (Option Value)} {oc_is_whole kV_is_whole dc_is_whole pm_is_whole cd_is_whole ct_is_whole : Value}
  {f_check_many : Addr} {od_check_many an_check_many : Option Addr} {sl_check_many : Array (Option Value)} {oc_check_many kV_check_many dc_check_many pm_check_many cd_check_many ct_check_many : Value}
  {f_check_numbers : Addr} {od_check_numbers an_check_numbers : Option Addr} {sl_check_numbers : Array (Option Value)} {oc_check_numbers kV_check_numbers dc_check_numbers pm_check_numbers cd_check_numbers ct_check_numbers : Value}
  {f_check_rule : Addr} {od_check_rule an_check_rule : Option Addr} {sl_check_rule : Array (Option Value)} {oc_check_rule kV_check_rule dc_check_rule pm_check_rule cd_check_rule ct_check_rule : Value}
  {f_fault_of : Addr} {od_fault_of an_fault_of : Option Addr} {sl_fault_of : Array (Option Value)} {oc_fault_of kV_fault_of dc_fault_of pm_fault_of cd_fault_of ct_fault_of : Value}
  {f_has_shape : Addr} {od_has_shape an_has_shape : Option Addr} {sl_has_shape : Array (Option Value)} {oc_has_shape kV_has_shape dc_has_shape pm_has_shape cd_has_shape ct_has_shape : Value}
  {f_are_rows : Addr} {od_are_rows an_are_rows : Option Addr} {sl_are_rows : Array (Option Value)} {oc_are_rows kV_are_rows dc_are_rows pm_are_rows cd_are_rows ct_are_rows : Value}
  {f_is_row : Addr} {od_is_row an_is_row : Option Addr} {sl_is_row : Array (Option Value)} {oc_is_row kV_is_row dc_is_row pm_is_row cd_is_row ct_is_row : Value}
  {f_sets_of : Addr} {od_sets_of an_sets_of : Option Addr} {sl_sets_of : Array (Option Value)} {oc_sets_of kV_sets_of dc_sets_of pm_sets_of cd_sets_of ct_sets_of : Value}
  {f_unheard : Addr} {od_unheard an_unheard : Option Addr} {sl_unheard : Array (Option Value)} {oc_unheard kV_unheard dc_unheard pm_unheard cd_unheard ct_unheard : Value}
  {f_is_alone : Addr} {od_is_alone an_is_alone : Option Addr} {sl_is_alone : Array (Option Value)} {oc_is_alone kV_is_alone dc_is_alone pm_is_alone cd_is_alone ct_is_alone : Value}
  {f_two : Addr} {od_two an_two : Option Addr} {sl_two : Array (Option Value)} {oc_two kV_two dc_two pm_two cd_two ct_two : Value}
  {f_middle_texts : Addr} {od_middle_texts an_middle_texts : Option Addr} {sl_middle_texts : Array (Option Value)} {oc_middle_texts kV_middle_texts dc_middle_texts pm_middle_texts cd_middle_texts ct_middle_texts : Value}
  {f_chains_of : Addr} {od_chains_of an_chains_of : Option Addr} {sl_chains_of : Array (Option Value)} {oc_chains_of kV_chains_of dc_chains_of pm_chains_of cd_chains_of ct_chains_of : Value}
  {f__law_dice : Addr} {od__law_dice an__law_dice : Option Addr} {sl__law_dice : Array (Option Value)} {oc__law_dice kV__law_dice dc__law_dice pm__law_dice cd__law_dice ct__law_dice : Value}
  {f__law_off : Addr} {od__law_off an__law_off : Option Addr} {sl__law_off : Array (Option Value)} {oc__law_off kV__law_off dc__law_off pm__law_off cd__law_off ct__law_off : Value}
  {f__law_alike : Addr} {od__law_alike an__law_alike : Option Addr} {sl__law_alike : Array (Option Value)} {oc__law_alike kV__law_alike dc__law_alike pm__law_alike cd__law_alike ct__law_alike : Value}
  {f__law_is : Addr} {od__law_is an__law_is : Option Addr} {sl__law_is : Array (Option Value)} {oc__law_is kV__law_is dc__law_is pm__law_is cd__law_is ct__law_is : Value}
  {f__law_refused : Addr} {od__law_refused an__law_refused : Option Addr} {sl__law_refused : Array (Option Value)} {oc__law_refused kV__law_refused dc__law_refused pm__law_refused cd__law_refused ct__law_refused : Value}
  {f__law_many : Addr} {od__law_many an__law_many : Option Addr} {sl__law_many : Array (Option Value)} {oc__law_many kV__law_many dc__law_many pm__law_many cd__law_many ct__law_many : Value}
  {f__law_sets : Addr} {od__law_sets an__law_sets : Option Addr} {sl__law_sets : Array (Option Value)} {oc__law_sets kV__law_sets dc__law_sets pm__law_sets cd__law_sets ct__law_sets : Value}
  {f__law_unheard : Addr} {od__law_unheard an__law_unheard : Option Addr} {sl__law_unheard : Array (Option Value)} {oc__law_unheard kV__law_unheard dc__law_unheard pm__law_unheard cd__law_unheard ct__law_unheard : Value}
  {f__law_texts : Addr} {od__law_texts an__law_texts : Option Addr} {sl__law_texts : Array (Option Value)} {oc__law_texts kV__law_texts dc__law_texts pm__law_texts cd__law_texts ct__law_texts : Value}
  {f__law_are_chains : Addr} {od__law_are_chains an__law_are_chains : Option Addr} {sl__law_are_chains : Array (Option Value)} {oc__law_are_chains kV__law_are_chains dc__law_are_chains pm__law_are_chains cd__law_are_chains ct__law_are_chains : Value}
  {f__law_tried : Addr} {od__law_tried an__law_tried : Option Addr} {sl__law_tried : Array (Option Value)} {oc__law_tried kV__law_tried dc__law_tried pm__law_tried cd__law_tried ct__law_tried : Value}
  {f_law : Addr} {od_law an_law : Option Addr} {sl_law : Array (Option Value)} {oc_law kV_law dc_law pm_law cd_law ct_law : Value}
  {c_AirError : Addr}
  {c_BadNumber : Addr}
  {c_BadRule : Addr}
  {c_BadWakes : Addr}
  {c_BadPlan : Addr}
  {c_BadText : Addr}
  {xi_BadRule xcc_BadRule xcda_BadRule xN_BadRule : Addr} {xoc_BadRule xkV_BadRule xdoc_BadRule xpm_BadRule xct_BadRule xcl_BadRule xccl_BadRule : Value} {xod_BadRule xan_BadRule xcld_BadRule xcdd_BadRule : Option Addr} {xosl_BadRule xcsl_BadRule xccs_BadRule : Array (Option Value)} {xvs_BadRule : Array Value} {xfile_BadRule xnm_BadRule xq_BadRule : Str} {xtf_BadRule : Tok} {xbs_BadRule xbm_BadRule xsub_BadRule : List Value} {xsn_BadRule : List Str} {xab_BadRule : Bool} {xcol_BadRule : Option Bool} {xdd_BadRule : Option Addr} {xk0_BadRule xk1_BadRule xk2_BadRule xk3_BadRule xk5_BadRule : Option Value}
  {xi_BadWakes xcc_BadWakes xcda_BadWakes xN_BadWakes : Addr} {xoc_BadWakes xkV_BadWakes xdoc_BadWakes xpm_BadWakes xct_BadWakes xcl_BadWakes xccl_BadWakes : Value} {xod_BadWakes xan_BadWakes xcld_BadWakes xcdd_BadWakes : Option Addr} {xosl_BadWakes xcsl_BadWakes xccs_BadWakes : Array (Option Value)} {xvs_BadWakes : Array Value} {xfile_BadWakes xnm_BadWakes xq_BadWakes : Str} {xtf_BadWakes : Tok} {xbs_BadWakes xbm_BadWakes xsub_BadWakes : List Value} {xsn_BadWakes : List Str} {xab_BadWakes : Bool} {xcol_BadWakes : Option Bool} {xdd_BadWakes : Option Addr} {xk0_BadWakes xk1_BadWakes xk2_BadWakes xk3_BadWakes xk5_BadWakes : Option Value}
  {xi_BadPlan xcc_BadPlan xcda_BadPlan xN_BadPlan : Addr} {xoc_BadPlan xkV_BadPlan xdoc_BadPlan xpm_BadPlan xct_BadPlan xcl_BadPlan xccl_BadPlan : Value} {xod_BadPlan xan_BadPlan xcld_BadPlan xcdd_BadPlan : Option Addr} {xosl_BadPlan xcsl_BadPlan xccs_BadPlan : Array (Option Value)} {xvs_BadPlan : Array Value} {xfile_BadPlan xnm_BadPlan xq_BadPlan : Str} {xtf_BadPlan : Tok} {xbs_BadPlan xbm_BadPlan xsub_BadPlan : List Value} {xsn_BadPlan : List Str} {xab_BadPlan : Bool} {xcol_BadPlan : Option Bool} {xdd_BadPlan : Option Addr} {xk0_BadPlan xk1_BadPlan xk2_BadPlan xk3_BadPlan xk5_BadPlan : Option Value}
  {t_MOST_STATIONS : Tok}
  {t_MOST_SIGNS : Tok}
  {t_LEAST_BASE : Tok}
  {t_MOST_BASE : Tok}
  {v_SHAPES : Addr}
  {p_SHAPES_0_0 : Addr}
  {p_SHAPES_0_1 : Addr}
  {p_SHAPES_0_2 : Addr}
  {p_SHAPES_0_3 : Addr}
  {od_SHAPES_0 : Option Addr} {n_SHAPES_0 : Nat} {sl_SHAPES_0 : Array (Option Value)}
  {t_SHAPES_1_0 : Tok}
  {t_SHAPES_1_1 : Tok}
  {od_SHAPES_1 : Option Addr} {n_SHAPES_1 : Nat} {sl_SHAPES_1 : Array (Option Value)}
  {t_SHAPES_2_0 : Tok}
  {t_SHAPES_2_1 : Tok}
  {od_SHAPES_2 : Option Addr} {n_SHAPES_2 : Nat} {sl_SHAPES_2 : Array (Option Value)}
  {t_SHAPES_3_0 : Tok}
  {t_SHAPES_3_1 : Tok}
  {od_SHAPES_3 : Option Addr} {n_SHAPES_3 : Nat} {sl_SHAPES_3 : Array (Option Value)}
  {t_SHAPES_4_0 : Tok}
  {t_SHAPES_4_1 : Tok}
  {od_SHAPES_4 : Option Addr} {n_SHAPES_4 : Nat} {sl_SHAPES_4 : Array (Option Value)}
  (a_is_whole : PySem.W.nsIn K mainGlobals "is_whole" = some (some (.ref f_is_whole)))
  (l_is_whole : K.lookup f_is_whole = some ⟨oc_is_whole, od_is_whole, .func (PySem.W.fnOf "is_whole" "is_whole" (defArgs s_is_whole) (defBody s_is_whole) (defScope s_is_whole) .none kV_is_whole dc_is_whole pm_is_whole an_is_whole cd_is_whole ct_is_whole), sl_is_whole⟩)
  (c_is_whole : PySem.W.codeIn K cd_is_whole "is_whole" = true)
  (k_is_whole : PySem.W.keepIn K (.ref f_is_whole) = true)
  (a_check_many : PySem.W.nsIn K mainGlobals "check_many" = some (some (.ref f_check_many)))
  (l_check_many : K.lookup f_check_many = some ⟨oc_check_many, od_check_many, .func (PySem.W.fnOf "check_many" "check_many" (defArgs s_check_many) (defBody s_check_many) (defScope s_check_many) .none kV_check_many dc_check_many pm_check_many an_check_many cd_check_many ct_check_many), sl_check_many⟩)
  (c_check_many : PySem.W.codeIn K cd_check_many "check_many" = true)
  (k_check_many : PySem.W.keepIn K (.ref f_check_many) = true)
  (a_check_numbers : PySem.W.nsIn K mainGlobals "check_numbers" = some (some (.ref f_check_numbers)))
  (l_check_numbers : K.lookup f_check_numbers = some ⟨oc_check_numbers, od_check_numbers, .func (PySem.W.fnOf "check_numbers" "check_numbers" (defArgs s_check_numbers) (defBody s_check_numbers) (defScope s_check_numbers) .none kV_check_numbers dc_check_numbers pm_check_numbers an_check_numbers cd_check_numbers ct_check_numbers), sl_check_numbers⟩)
  (c_check_numbers : PySem.W.codeIn K cd_check_numbers "check_numbers" = true)
  (k_check_numbers : PySem.W.keepIn K (.ref f_check_numbers) = true)
  (a_check_rule : PySem.W.nsIn K mainGlobals "check_rule" = some (some (.ref f_check_rule)))
  (l_check_rule : K.lookup f_check_rule = some ⟨oc_check_rule, od_check_rule, .func (PySem.W.fnOf "check_rule" "check_rule" (defArgs s_check_rule) (defBody s_check_rule) (defScope s_check_rule) .none kV_check_rule dc_check_rule pm_check_rule an_check_rule cd_check_rule ct_check_rule), sl_check_rule⟩)
  (c_check_rule : PySem.W.codeIn K cd_check_rule "check_rule" = true)
  (k_check_rule : PySem.W.keepIn K (.ref f_check_rule) = true)
  (a_fault_of : PySem.W.nsIn K mainGlobals "fault_of" = some (some (.ref f_fault_of)))
  (l_fault_of : K.lookup f_fault_of = some ⟨oc_fault_of, od_fault_of, .func (PySem.W.fnOf "fault_of" "fault_of" (defArgs s_fault_of) (defBody s_fault_of) (defScope s_fault_of) .none kV_fault_of dc_fault_of pm_fault_of an_fault_of cd_fault_of ct_fault_of), sl_fault_of⟩)
  (c_fault_of : PySem.W.codeIn K cd_fault_of "fault_of" = true)
  (k_fault_of : PySem.W.keepIn K (.ref f_fault_of) = true)
  (a_has_shape : PySem.W.nsIn K mainGlobals "has_shape" = some (some (.ref f_has_shape)))
  (l_has_shape : K.lookup f_has_shape = some ⟨oc_has_shape, od_has_shape, .func (PySem.W.fnOf "has_shape" "has_shape" (defArgs s_has_shape) (defBody s_has_shape) (defScope s_has_shape) .none kV_has_shape dc_has_shape pm_has_shape an_has_shape cd_has_shape ct_has_shape), sl_has_shape⟩)
  (c_has_shape : PySem.W.codeIn K cd_has_shape "has_shape" = true)
  (k_has_shape : PySem.W.keepIn K (.ref f_has_shape) = true)
  (a_are_rows : PySem.W.nsIn K mainGlobals "are_rows" = some (some (.ref f_are_rows)))
  (l_are_rows : K.lookup f_are_rows = some ⟨oc_are_rows, od_are_rows, .func (PySem.W.fnOf "are_rows" "are_rows" (defArgs s_are_rows) (defBody s_are_rows) (defScope s_are_rows) .none kV_are_rows dc_are_rows pm_are_rows an_are_rows cd_are_rows ct_are_rows), sl_are_rows⟩)
  (c_are_rows : PySem.W.codeIn K cd_are_rows "are_rows" = true)
  (k_are_rows : PySem.W.keepIn K (.ref f_are_rows) = true)
  (a_is_row : PySem.W.nsIn K mainGlobals "is_row" = some (some (.ref f_is_row)))
  (l_is_row : K.lookup f_is_row = some ⟨oc_is_row, od_is_row, .func (PySem.W.fnOf "is_row" "is_row" (defArgs s_is_row) (defBody s_is_row) (defScope s_is_row) .none kV_is_row dc_is_row pm_is_row an_is_row cd_is_row ct_is_row), sl_is_row⟩)
  (c_is_row : PySem.W.codeIn K cd_is_row "is_row" = true)
  (k_is_row : PySem.W.keepIn K (.ref f_is_row) = true)
  (a_sets_of : PySem.W.nsIn K mainGlobals "sets_of" = some (some (.ref f_sets_of)))
  (l_sets_of : K.lookup f_sets_of = some ⟨oc_sets_of, od_sets_of, .func (PySem.W.fnOf "sets_of" "sets_of" (defArgs s_sets_of) (defBody s_sets_of) (defScope s_sets_of) .none kV_sets_of dc_sets_of pm_sets_of an_sets_of cd_sets_of ct_sets_of), sl_sets_of⟩)
  (c_sets_of : PySem.W.codeIn K cd_sets_of "sets_of" = true)
  (k_sets_of : PySem.W.keepIn K (.ref f_sets_of) = true)
  (a_unheard : PySem.W.nsIn K mainGlobals "unheard" = some (some (.ref f_unheard)))
  (l_unheard : K.lookup f_unheard = some ⟨oc_unheard, od_unheard, .func (PySem.W.fnOf "unheard" "unheard" (defArgs s_unheard) (defBody s_unheard) (defScope s_unheard) .none kV_unheard dc_unheard pm_unheard an_unheard cd_unheard ct_unheard), sl_unheard⟩)
  (c_unheard : PySem.W.codeIn K cd_unheard "unheard" = true)
  (k_unheard : PySem.W.keepIn K (.ref f_unheard) = true)
  (a_is_alone : PySem.W.nsIn K mainGlobals "is_alone" = some (some (.ref f_is_alone)))
  (l_is_alone : K.lookup f_is_alone = some ⟨oc_is_alone, od_is_alone, .func (PySem.W.fnOf "is_alone" "is_alone" (defArgs s_is_alone) (defBody s_is_alone) (defScope s_is_alone) .none kV_is_alone dc_is_alone pm_is_alone an_is_alone cd_is_alone ct_is_alone), sl_is_alone⟩)
  (c_is_alone : PySem.W.codeIn K cd_is_alone "is_alone" = true)
  (k_is_alone : PySem.W.keepIn K (.ref f_is_alone) = true)
  (a_two : PySem.W.nsIn K mainGlobals "two" = some (some (.ref f_two)))
  (l_two : K.lookup f_two = some ⟨oc_two, od_two, .func (PySem.W.fnOf "two" "two" (defArgs s_two) (defBody s_two) (defScope s_two) .none kV_two dc_two pm_two an_two cd_two ct_two), sl_two⟩)
  (c_two : PySem.W.codeIn K cd_two "two" = true)
  (k_two : PySem.W.keepIn K (.ref f_two) = true)
  (a_middle_texts : PySem.W.nsIn K mainGlobals "middle_texts" = some (some (.ref f_middle_texts)))
  (l_middle_texts : K.lookup f_middle_texts = some ⟨oc_middle_texts, od_middle_texts, .func (PySem.W.fnOf "middle_texts" "middle_texts" (defArgs s_middle_texts) (defBody s_middle_texts) (defScope s_middle_texts) .none kV_middle_texts dc_middle_texts pm_middle_texts an_middle_texts cd_middle_texts ct_middle_texts), sl_middle_texts⟩)
  (c_middle_texts : PySem.W.codeIn K cd_middle_texts "middle_texts" = true)
  (k_middle_texts : PySem.W.keepIn K (.ref f_middle_texts) = true)
  (a_chains_of : PySem.W.nsIn K mainGlobals "chains_of" = some (some (.ref f_chains_of)))
  (l_chains_of : K.lookup f_chains_of = some ⟨oc_chains_of, od_chains_of, .func (PySem.W.fnOf "chains_of" "chains_of" (defArgs s_chains_of) (defBody s_chains_of) (defScope s_chains_of) .none kV_chains_of dc_chains_of pm_chains_of an_chains_of cd_chains_of ct_chains_of), sl_chains_of⟩)
  (c_chains_of : PySem.W.codeIn K cd_chains_of "chains_of" = true)
  (k_chains_of : PySem.W.keepIn K (.ref f_chains_of) = true)
  (a__law_dice : PySem.W.nsIn K mainGlobals "_law_dice" = some (some (.ref f__law_dice)))
  (l__law_dice : K.lookup f__law_dice = some ⟨oc__law_dice, od__law_dice, .func (PySem.W.fnOf "_law_dice" "_law_dice" (defArgs s__law_dice) (defBody s__law_dice) (defScope s__law_dice) .none kV__law_dice dc__law_dice pm__law_dice an__law_dice cd__law_dice ct__law_dice), sl__law_dice⟩)
  (c__law_dice : PySem.W.codeIn K cd__law_dice "_law_dice" = true)
  (k__law_dice : PySem.W.keepIn K (.ref f__law_dice) = true)
  (a__law_off : PySem.W.nsIn K mainGlobals "_law_off" = some (some (.ref f__law_off)))
  (l__law_off : K.lookup f__law_off = some ⟨oc__law_off, od__law_off, .func (PySem.W.fnOf "_law_off" "_law_off" (defArgs s__law_off) (defBody s__law_off) (defScope s__law_off) .none kV__law_off dc__law_off pm__law_off an__law_off cd__law_off ct__law_off), sl__law_off⟩)
  (c__law_off : PySem.W.codeIn K cd__law_off "_law_off" = true)
  (k__law_off : PySem.W.keepIn K (.ref f__law_off) = true)
  (a__law_alike : PySem.W.nsIn K mainGlobals "_law_alike" = some (some (.ref f__law_alike)))
  (l__law_alike : K.lookup f__law_alike = some ⟨oc__law_alike, od__law_alike, .func (PySem.W.fnOf "_law_alike" "_law_alike" (defArgs s__law_alike) (defBody s__law_alike) (defScope s__law_alike) .none kV__law_alike dc__law_alike pm__law_alike an__law_alike cd__law_alike ct__law_alike), sl__law_alike⟩)
  (c__law_alike : PySem.W.codeIn K cd__law_alike "_law_alike" = true)
  (k__law_alike : PySem.W.keepIn K (.ref f__law_alike) = true)
  (a__law_is : PySem.W.nsIn K mainGlobals "_law_is" = some (some (.ref f__law_is)))
  (l__law_is : K.lookup f__law_is = some ⟨oc__law_is, od__law_is, .func (PySem.W.fnOf "_law_is" "_law_is" (defArgs s__law_is) (defBody s__law_is) (defScope s__law_is) .none kV__law_is dc__law_is pm__law_is an__law_is cd__law_is ct__law_is), sl__law_is⟩)
  (c__law_is : PySem.W.codeIn K cd__law_is "_law_is" = true)
  (k__law_is : PySem.W.keepIn K (.ref f__law_is) = true)
  (a__law_refused : PySem.W.nsIn K mainGlobals "_law_refused" = some (some (.ref f__law_refused)))
  (l__law_refused : K.lookup f__law_refused = some ⟨oc__law_refused, od__law_refused, .func (PySem.W.fnOf "_law_refused" "_law_refused" (defArgs s__law_refused) (defBody s__law_refused) (defScope s__law_refused) .none kV__law_refused dc__law_refused pm__law_refused an__law_refused cd__law_refused ct__law_refused), sl__law_refused⟩)
  (c__law_refused : PySem.W.codeIn K cd__law_refused "_law_refused" = true)
  (k__law_refused : PySem.W.keepIn K (.ref f__law_refused) = true)
  (a__law_many : PySem.W.nsIn K mainGlobals "_law_many" = some (some (.ref f__law_many)))
  (l__law_many : K.lookup f__law_many = some ⟨oc__law_many, od__law_many, .func (PySem.W.fnOf "_law_many" "_law_many" (defArgs s__law_many) (defBody s__law_many) (defScope s__law_many) .none kV__law_many dc__law_many pm__law_many an__law_many cd__law_many ct__law_many), sl__law_many⟩)
  (c__law_many : PySem.W.codeIn K cd__law_many "_law_many" = true)
  (k__law_many : PySem.W.keepIn K (.ref f__law_many) = true)
  (a__law_sets : PySem.W.nsIn K mainGlobals "_law_sets" = some (some (.ref f__law_sets)))
  (l__law_sets : K.lookup f__law_sets = some ⟨oc__law_sets, od__law_sets, .func (PySem.W.fnOf "_law_sets" "_law_sets" (defArgs s__law_sets) (defBody s__law_sets) (defScope s__law_sets) .none kV__law_sets dc__law_sets pm__law_sets an__law_sets cd__law_sets ct__law_sets), sl__law_sets⟩)
  (c__law_sets : PySem.W.codeIn K cd__law_sets "_law_sets" = true)
  (k__law_sets : PySem.W.keepIn K (.ref f__law_sets) = true)
  (a__law_unheard : PySem.W.nsIn K mainGlobals "_law_unheard" = some (some (.ref f__law_unheard)))
  (l__law_unheard : K.lookup f__law_unheard = some ⟨oc__law_unheard, od__law_unheard, .func (PySem.W.fnOf "_law_unheard" "_law_unheard" (defArgs s__law_unheard) (defBody s__law_unheard) (defScope s__law_unheard) .none kV__law_unheard dc__law_unheard pm__law_unheard an__law_unheard cd__law_unheard ct__law_unheard), sl__law_unheard⟩)
  (c__law_unheard : PySem.W.codeIn K cd__law_unheard "_law_unheard" = true)
  (k__law_unheard : PySem.W.keepIn K (.ref f__law_unheard) = true)
  (a__law_texts : PySem.W.nsIn K mainGlobals "_law_texts" = some (some (.ref f__law_texts)))
  (l__law_texts : K.lookup f__law_texts = some ⟨oc__law_texts, od__law_texts, .func (PySem.W.fnOf "_law_texts" "_law_texts" (defArgs s__law_texts) (defBody s__law_texts) (defScope s__law_texts) .none kV__law_texts dc__law_texts pm__law_texts an__law_texts cd__law_texts ct__law_texts), sl__law_texts⟩)
  (c__law_texts : PySem.W.codeIn K cd__law_texts "_law_texts" = true)
  (k__law_texts : PySem.W.keepIn K (.ref f__law_texts) = true)
  (a__law_are_chains : PySem.W.nsIn K mainGlobals "_law_are_chains" = some (some (.ref f__law_are_chains)))
  (l__law_are_chains : K.lookup f__law_are_chains = some ⟨oc__law_are_chains, od__law_are_chains, .func (PySem.W.fnOf "_law_are_chains" "_law_are_chains" (defArgs s__law_are_chains) (defBody s__law_are_chains) (defScope s__law_are_chains) .none kV__law_are_chains dc__law_are_chains pm__law_are_chains an__law_are_chains cd__law_are_chains ct__law_are_chains), sl__law_are_chains⟩)
  (c__law_are_chains : PySem.W.codeIn K cd__law_are_chains "_law_are_chains" = true)
  (k__law_are_chains : PySem.W.keepIn K (.ref f__law_are_chains) = true)
  (a__law_tried : PySem.W.nsIn K mainGlobals "_law_tried" = some (some (.ref f__law_tried)))
  (l__law_tried : K.lookup f__law_tried = some ⟨oc__law_tried, od__law_tried, .func (PySem.W.fnOf "_law_tried" "_law_tried" (defArgs s__law_tried) (defBody s__law_tried) (defScope s__law_tried) .none kV__law_tried dc__law_tried pm__law_tried an__law_tried cd__law_tried ct__law_tried), sl__law_tried⟩)
  (c__law_tried : PySem.W.codeIn K cd__law_tried "_law_tried" = true)
  (k__law_tried : PySem.W.keepIn K (.ref f__law_tried) = true)
  (a_law : PySem.W.nsIn K mainGlobals "law" = some (some (.ref f_law)))
  (l_law : K.lookup f_law = some ⟨oc_law, od_law, .func (PySem.W.fnOf "law" "law" (defArgs s_law) (defBody s_law) (defScope s_law) .none kV_law dc_law pm_law an_law cd_law ct_law), sl_law⟩)
  (c_law : PySem.W.codeIn K cd_law "law" = true)
  (k_law : PySem.W.keepIn K (.ref f_law) = true)
  (z_ValueError : PySem.W.nsIn K mainGlobals "ValueError" = some none)
  (z_abs : PySem.W.nsIn K mainGlobals "abs" = some none)
  (z_all : PySem.W.nsIn K mainGlobals "all" = some none)
  (z_bool : PySem.W.nsIn K mainGlobals "bool" = some none)
  (z_dict : PySem.W.nsIn K mainGlobals "dict" = some none)
  (z_int : PySem.W.nsIn K mainGlobals "int" = some none)
  (z_isinstance : PySem.W.nsIn K mainGlobals "isinstance" = some none)
  (z_len : PySem.W.nsIn K mainGlobals "len" = some none)
  (z_list : PySem.W.nsIn K mainGlobals "list" = some none)
  (z_max : PySem.W.nsIn K mainGlobals "max" = some none)
  (z_min : PySem.W.nsIn K mainGlobals "min" = some none)
  (z_range : PySem.W.nsIn K mainGlobals "range" = some none)
  (z_sorted : PySem.W.nsIn K mainGlobals "sorted" = some none)
  (z_str : PySem.W.nsIn K mainGlobals "str" = some none)
  (z_tuple : PySem.W.nsIn K mainGlobals "tuple" = some none)
  (aC_AirError : PySem.W.nsIn K mainGlobals "AirError" = some (some (.ref c_AirError)))
  (aC_BadNumber : PySem.W.nsIn K mainGlobals "BadNumber" = some (some (.ref c_BadNumber)))
  (aC_BadRule : PySem.W.nsIn K mainGlobals "BadRule" = some (some (.ref c_BadRule)))
  (aC_BadWakes : PySem.W.nsIn K mainGlobals "BadWakes" = some (some (.ref c_BadWakes)))
  (aC_BadPlan : PySem.W.nsIn K mainGlobals "BadPlan" = some (some (.ref c_BadPlan)))
  (aC_BadText : PySem.W.nsIn K mainGlobals "BadText" = some (some (.ref c_BadText)))
  (x_sp : PySem.W.specialIn K (.builtin "object.__class__") "__get__" = some (some (.builtin "getset_descriptor.__get__")))
  (x_tk : PySem.W.takesIn K (.builtin "object.__class__") = some true)
  (x_tp : PySem.W.nsIn K PySem.cStatics "thirdparty.any" = some none)
  (x_su : PySem.W.nsIn K mainGlobals "super" = some none)
  (x_top : (l.prog.main.scope.names.lookup ("super" : Str)).isSome = false)
  (kC_BadNumber : PySem.W.keepIn K (.ref c_BadNumber) = true)
  (sb_BadNumber : PySem.W.subIn K (.ref c_BadNumber) (.type "BaseException") = some true)
  (ty_BadNumber : PySem.W.typeIn K (.ref c_BadNumber) = some (.type "type"))
  (ci_BadNumber : (PySem.W.clsIn K c_BadNumber).isSome = true)
  (ga_BadNumber : PySem.W.findIn K (.ref c_BadNumber) "__getattribute__" = some (some (.builtin "BaseException.__getattribute__")))
  (gt_BadNumber : PySem.W.findIn K (.ref c_BadNumber) "__getattr__" = some none)
  (cc_BadNumber : PySem.W.findIn K (.ref c_BadNumber) "__class__" = some (some (.builtin "object.__class__")))
  (mo_BadNumber : PySem.W.mroIn K c_BadNumber (.type "object") = some true)
  (hx_BadNumber : PySem.W.hasDictIn K c_BadNumber = true)
  (ve_BadNumber : PySem.W.kitOne K (.ref c_BadNumber) (.type "ValueError") = some true)
  (ae_BadNumber : PySem.W.exmOne K (.ref c_BadNumber) (.ref c_AirError) = some true)
  (kk_BadNumber_BadNumber : PySem.W.kitOne K (.ref c_BadNumber) (.ref c_BadNumber) = some true)
  (kk_BadNumber_BadRule : PySem.W.kitOne K (.ref c_BadNumber) (.ref c_BadRule) = some false)
  (kk_BadNumber_BadWakes : PySem.W.kitOne K (.ref c_BadNumber) (.ref c_BadWakes) = some false)
  (kk_BadNumber_BadPlan : PySem.W.kitOne K (.ref c_BadNumber) (.ref c_BadPlan) = some false)
  (kk_BadNumber_BadText : PySem.W.kitOne K (.ref c_BadNumber) (.ref c_BadText) = some false)
  (xe_BadNumber : PySem.W.excIn K c_BadNumber [.type "ValueError", .type "Exception", .type "BaseException", .type "object"] "ValueError.__new__" = true)
  (kC_BadRule : PySem.W.keepIn K (.ref c_BadRule) = true)
  (sb_BadRule : PySem.W.subIn K (.ref c_BadRule) (.type "BaseException") = some true)
  (ty_BadRule : PySem.W.typeIn K (.ref c_BadRule) = some (.type "type"))
  (ci_BadRule : (PySem.W.clsIn K c_BadRule).isSome = true)
  (ga_BadRule : PySem.W.findIn K (.ref c_BadRule) "__getattribute__" = some (some (.builtin "BaseException.__getattribute__")))
  (gt_BadRule : PySem.W.findIn K (.ref c_BadRule) "__getattr__" = some none)
  (cc_BadRule : PySem.W.findIn K (.ref c_BadRule) "__class__" = some (some (.builtin "object.__class__")))
  (mo_BadRule : PySem.W.mroIn K c_BadRule (.type "object") = some true)
  (hx_BadRule : PySem.W.hasDictIn K c_BadRule = true)
  (ve_BadRule : PySem.W.kitOne K (.ref c_BadRule) (.type "ValueError") = some true)
  (ae_BadRule : PySem.W.exmOne K (.ref c_BadRule) (.ref c_AirError) = some true)
  (kk_BadRule_BadNumber : PySem.W.kitOne K (.ref c_BadRule) (.ref c_BadNumber) = some false)
  (kk_BadRule_BadRule : PySem.W.kitOne K (.ref c_BadRule) (.ref c_BadRule) = some true)
  (kk_BadRule_BadWakes : PySem.W.kitOne K (.ref c_BadRule) (.ref c_BadWakes) = some false)
  (kk_BadRule_BadPlan : PySem.W.kitOne K (.ref c_BadRule) (.ref c_BadPlan) = some false)
  (kk_BadRule_BadText : PySem.W.kitOne K (.ref c_BadRule) (.ref c_BadText) = some false)
  (iI_BadRule : PySem.W.findIn K (.ref c_BadRule) "__init__" = some (some (.ref xi_BadRule)))
  (lI_BadRule : K.lookup xi_BadRule = some ⟨xoc_BadRule, xod_BadRule, .func (PySem.W.ksFn "__init__" "BadRule.__init__" (defArgs s_BadRule___init__) (defBody s_BadRule___init__) (defScope s_BadRule___init__) .none xkV_BadRule xdoc_BadRule xpm_BadRule xan_BadRule (.ref xcda_BadRule) xct_BadRule xcc_BadRule), xosl_BadRule⟩)
  (cI_BadRule : PySem.W.codeIn K (.ref xcda_BadRule) "BadRule.__init__" = true)
  (tI_BadRule : PySem.W.typeIn K (.ref xi_BadRule) = some (.type "function"))
  (lcc_BadRule : K.lookup xcc_BadRule = some ⟨xcl_BadRule, xcld_BadRule, .cell (some (.ref c_BadRule)), xcsl_BadRule⟩)
  (lcd_BadRule : K.lookup xcda_BadRule = some ⟨xccl_BadRule, xcdd_BadRule, .fields xvs_BadRule, xccs_BadRule⟩)
  (vsF_BadRule : xvs_BadRule[2]? = some (.str xfile_BadRule xtf_BadRule))
  (fle_BadRule : ((l.prog.main.file : Str) == xfile_BadRule) = true)
  (lC_BadRule : K.lookup c_BadRule = some (excClassObj xnm_BadRule xq_BadRule c_BadRule xN_BadRule xbs_BadRule xbm_BadRule true xsn_BadRule xsub_BadRule xab_BadRule xcol_BadRule xdd_BadRule xk0_BadRule xk1_BadRule xk2_BadRule xk3_BadRule xk5_BadRule "ValueError.__new__"))
  (rVE_BadRule : PySem.HandSPX.refsVE xbm_BadRule = true)
  (sC_BadRule : PySem.W.findIn K (.ref c_BadRule) "__setattr__" = some (some (.builtin "object.__setattr__")))
  (nW_BadRule : PySem.W.findIn K (.ref c_BadRule) "why" = some none)
  (sI_BadRule : PySem.W.ks_superIn K c_BadRule c_BadRule "__init__" = some (some (.builtin "ValueError.__init__")))
  (vE_BadRule : PySem.W.subIn K (.ref c_BadRule) (.type "ValueError") = some true)
  (mC_BadRule : PySem.W.mroIn K c_BadRule (.ref c_BadRule) = some true)
  (kC_BadWakes : PySem.W.keepIn K (.ref c_BadWakes) = true)
  (sb_BadWakes : PySem.W.subIn K (.ref c_BadWakes) (.type "BaseException") = some true)
  (ty_BadWakes : PySem.W.typeIn K (.ref c_BadWakes) = some (.type "type"))
  (ci_BadWakes : (PySem.W.clsIn K c_BadWakes).isSome = true)
  (ga_BadWakes : PySem.W.findIn K (.ref c_BadWakes) "__getattribute__" = some (some (.builtin "BaseException.__getattribute__")))
  (gt_BadWakes : PySem.W.findIn K (.ref c_BadWakes) "__getattr__" = some none)
  (cc_BadWakes : PySem.W.findIn K (.ref c_BadWakes) "__class__" = some (some (.builtin "object.__class__")))
  (mo_BadWakes : PySem.W.mroIn K c_BadWakes (.type "object") = some true)
  (hx_BadWakes : PySem.W.hasDictIn K c_BadWakes = true)
  (ve_BadWakes : PySem.W.kitOne K (.ref c_BadWakes) (.type "ValueError") = some true)
  (ae_BadWakes : PySem.W.exmOne K (.ref c_BadWakes) (.ref c_AirError) = some true)
  (kk_BadWakes_BadNumber : PySem.W.kitOne K (.ref c_BadWakes) (.ref c_BadNumber) = some false)
  (kk_BadWakes_BadRule : PySem.W.kitOne K (.ref c_BadWakes) (.ref c_BadRule) = some false)
  (kk_BadWakes_BadWakes : PySem.W.kitOne K (.ref c_BadWakes) (.ref c_BadWakes) = some true)
  (kk_BadWakes_BadPlan : PySem.W.kitOne K (.ref c_BadWakes) (.ref c_BadPlan) = some false)
  (kk_BadWakes_BadText : PySem.W.kitOne K (.ref c_BadWakes) (.ref c_BadText) = some false)
  (iI_BadWakes : PySem.W.findIn K (.ref c_BadWakes) "__init__" = some (some (.ref xi_BadWakes)))
  (lI_BadWakes : K.lookup xi_BadWakes = some ⟨xoc_BadWakes, xod_BadWakes, .func (PySem.W.ksFn "__init__" "BadWakes.__init__" (defArgs s_BadWakes___init__) (defBody s_BadWakes___init__) (defScope s_BadWakes___init__) .none xkV_BadWakes xdoc_BadWakes xpm_BadWakes xan_BadWakes (.ref xcda_BadWakes) xct_BadWakes xcc_BadWakes), xosl_BadWakes⟩)
  (cI_BadWakes : PySem.W.codeIn K (.ref xcda_BadWakes) "BadWakes.__init__" = true)
  (tI_BadWakes : PySem.W.typeIn K (.ref xi_BadWakes) = some (.type "function"))
  (lcc_BadWakes : K.lookup xcc_BadWakes = some ⟨xcl_BadWakes, xcld_BadWakes, .cell (some (.ref c_BadWakes)), xcsl_BadWakes⟩)
  (lcd_BadWakes : K.lookup xcda_BadWakes = some ⟨xccl_BadWakes, xcdd_BadWakes, .fields xvs_BadWakes, xccs_BadWakes⟩)
  (vsF_BadWakes : xvs_BadWakes[2]? = some (.str xfile_BadWakes xtf_BadWakes))
  (fle_BadWakes : ((l.prog.main.file : Str) == xfile_BadWakes) = true)
  (lC_BadWakes : K.lookup c_BadWakes = some (excClassObj xnm_BadWakes xq_BadWakes c_BadWakes xN_BadWakes xbs_BadWakes xbm_BadWakes true xsn_BadWakes xsub_BadWakes xab_BadWakes xcol_BadWakes xdd_BadWakes xk0_BadWakes xk1_BadWakes xk2_BadWakes xk3_BadWakes xk5_BadWakes "ValueError.__new__"))
  (rVE_BadWakes : PySem.HandSPX.refsVE xbm_BadWakes = true)
  (sC_BadWakes : PySem.W.findIn K (.ref c_BadWakes) "__setattr__" = some (some (.builtin "object.__setattr__")))
  (nW_BadWakes : PySem.W.findIn K (.ref c_BadWakes) "number" = some none)
  (sI_BadWakes : PySem.W.ks_superIn K c_BadWakes c_BadWakes "__init__" = some (some (.builtin "ValueError.__init__")))
  (vE_BadWakes : PySem.W.subIn K (.ref c_BadWakes) (.type "ValueError") = some true)
  (mC_BadWakes : PySem.W.mroIn K c_BadWakes (.ref c_BadWakes) = some true)
  (kC_BadPlan : PySem.W.keepIn K (.ref c_BadPlan) = true)
  (sb_BadPlan : PySem.W.subIn K (.ref c_BadPlan) (.type "BaseException") = some true)
  (ty_BadPlan : PySem.W.typeIn K (.ref c_BadPlan) = some (.type "type"))
  (ci_BadPlan : (PySem.W.clsIn K c_BadPlan).isSome = true)
  (ga_BadPlan : PySem.W.findIn K (.ref c_BadPlan) "__getattribute__" = some (some (.builtin "BaseException.__getattribute__")))
  (gt_BadPlan : PySem.W.findIn K (.ref c_BadPlan) "__getattr__" = some none)
  (cc_BadPlan : PySem.W.findIn K (.ref c_BadPlan) "__class__" = some (some (.builtin "object.__class__")))
  (mo_BadPlan : PySem.W.mroIn K c_BadPlan (.type "object") = some true)
  (hx_BadPlan : PySem.W.hasDictIn K c_BadPlan = true)
  (ve_BadPlan : PySem.W.kitOne K (.ref c_BadPlan) (.type "ValueError") = some true)
  (ae_BadPlan : PySem.W.exmOne K (.ref c_BadPlan) (.ref c_AirError) = some true)
  (kk_BadPlan_BadNumber : PySem.W.kitOne K (.ref c_BadPlan) (.ref c_BadNumber) = some false)
  (kk_BadPlan_BadRule : PySem.W.kitOne K (.ref c_BadPlan) (.ref c_BadRule) = some false)
  (kk_BadPlan_BadWakes : PySem.W.kitOne K (.ref c_BadPlan) (.ref c_BadWakes) = some false)
  (kk_BadPlan_BadPlan : PySem.W.kitOne K (.ref c_BadPlan) (.ref c_BadPlan) = some true)
  (kk_BadPlan_BadText : PySem.W.kitOne K (.ref c_BadPlan) (.ref c_BadText) = some false)
  (iI_BadPlan : PySem.W.findIn K (.ref c_BadPlan) "__init__" = some (some (.ref xi_BadPlan)))
  (lI_BadPlan : K.lookup xi_BadPlan = some ⟨xoc_BadPlan, xod_BadPlan, .func (PySem.W.ksFn "__init__" "BadPlan.__init__" (defArgs s_BadPlan___init__) (defBody s_BadPlan___init__) (defScope s_BadPlan___init__) .none xkV_BadPlan xdoc_BadPlan xpm_BadPlan xan_BadPlan (.ref xcda_BadPlan) xct_BadPlan xcc_BadPlan), xosl_BadPlan⟩)
  (cI_BadPlan : PySem.W.codeIn K (.ref xcda_BadPlan) "BadPlan.__init__" = true)
  (tI_BadPlan : PySem.W.typeIn K (.ref xi_BadPlan) = some (.type "function"))
  (lcc_BadPlan : K.lookup xcc_BadPlan = some ⟨xcl_BadPlan, xcld_BadPlan, .cell (some (.ref c_BadPlan)), xcsl_BadPlan⟩)
  (lcd_BadPlan : K.lookup xcda_BadPlan = some ⟨xccl_BadPlan, xcdd_BadPlan, .fields xvs_BadPlan, xccs_BadPlan⟩)
  (vsF_BadPlan : xvs_BadPlan[2]? = some (.str xfile_BadPlan xtf_BadPlan))
  (fle_BadPlan : ((l.prog.main.file : Str) == xfile_BadPlan) = true)
  (lC_BadPlan : K.lookup c_BadPlan = some (excClassObj xnm_BadPlan xq_BadPlan c_BadPlan xN_BadPlan xbs_BadPlan xbm_BadPlan true xsn_BadPlan xsub_BadPlan xab_BadPlan xcol_BadPlan xdd_BadPlan xk0_BadPlan xk1_BadPlan xk2_BadPlan xk3_BadPlan xk5_BadPlan "ValueError.__new__"))
  (rVE_BadPlan : PySem.HandSPX.refsVE xbm_BadPlan = true)
  (sC_BadPlan : PySem.W.findIn K (.ref c_BadPlan) "__setattr__" = some (some (.builtin "object.__setattr__")))
  (nW_BadPlan : PySem.W.findIn K (.ref c_BadPlan) "why" = some none)
  (sI_BadPlan : PySem.W.ks_superIn K c_BadPlan c_BadPlan "__init__" = some (some (.builtin "ValueError.__init__")))
  (vE_BadPlan : PySem.W.subIn K (.ref c_BadPlan) (.type "ValueError") = some true)
  (mC_BadPlan : PySem.W.mroIn K c_BadPlan (.ref c_BadPlan) = some true)
  (kC_BadText : PySem.W.keepIn K (.ref c_BadText) = true)
  (sb_BadText : PySem.W.subIn K (.ref c_BadText) (.type "BaseException") = some true)
  (ty_BadText : PySem.W.typeIn K (.ref c_BadText) = some (.type "type"))
  (ci_BadText : (PySem.W.clsIn K c_BadText).isSome = true)
  (ga_BadText : PySem.W.findIn K (.ref c_BadText) "__getattribute__" = some (some (.builtin "BaseException.__getattribute__")))
  (gt_BadText : PySem.W.findIn K (.ref c_BadText) "__getattr__" = some none)
  (cc_BadText : PySem.W.findIn K (.ref c_BadText) "__class__" = some (some (.builtin "object.__class__")))
  (mo_BadText : PySem.W.mroIn K c_BadText (.type "object") = some true)
  (hx_BadText : PySem.W.hasDictIn K c_BadText = true)
  (ve_BadText : PySem.W.kitOne K (.ref c_BadText) (.type "ValueError") = some true)
  (ae_BadText : PySem.W.exmOne K (.ref c_BadText) (.ref c_AirError) = some true)
  (kk_BadText_BadNumber : PySem.W.kitOne K (.ref c_BadText) (.ref c_BadNumber) = some false)
  (kk_BadText_BadRule : PySem.W.kitOne K (.ref c_BadText) (.ref c_BadRule) = some false)
  (kk_BadText_BadWakes : PySem.W.kitOne K (.ref c_BadText) (.ref c_BadWakes) = some false)
  (kk_BadText_BadPlan : PySem.W.kitOne K (.ref c_BadText) (.ref c_BadPlan) = some false)
  (kk_BadText_BadText : PySem.W.kitOne K (.ref c_BadText) (.ref c_BadText) = some true)
  (xe_BadText : PySem.W.excIn K c_BadText [.type "ValueError", .type "Exception", .type "BaseException", .type "object"] "ValueError.__new__" = true)
  (q_MOST_STATIONS : PySem.W.nsIn K mainGlobals "MOST_STATIONS" = some (some (.int 8 t_MOST_STATIONS)))
  (q_MOST_SIGNS : PySem.W.nsIn K mainGlobals "MOST_SIGNS" = some (some (.int 12 t_MOST_SIGNS)))
  (q_LEAST_BASE : PySem.W.nsIn K mainGlobals "LEAST_BASE" = some (some (.int 2 t_LEAST_BASE)))
  (q_MOST_BASE : PySem.W.nsIn K mainGlobals "MOST_BASE" = some (some (.int 4 t_MOST_BASE)))
  (q_SHAPES : PySem.W.nsIn K mainGlobals "SHAPES" = some (some (.ref v_SHAPES)))
  (l_SHAPES_0 : K.lookup v_SHAPES = some ⟨.type "tuple", od_SHAPES_0, .seq #[.ref p_SHAPES_0_0, .ref p_SHAPES_0_1, .ref p_SHAPES_0_2, .ref p_SHAPES_0_3] n_SHAPES_0, sl_SHAPES_0⟩)
  (l_SHAPES_1 : K.lookup p_SHAPES_0_0 = some ⟨.type "tuple", od_SHAPES_1, .seq #[.str "turns" t_SHAPES_1_0, .int 1 t_SHAPES_1_1] n_SHAPES_1, sl_SHAPES_1⟩)
  (l_SHAPES_2 : K.lookup p_SHAPES_0_1 = some ⟨.type "tuple", od_SHAPES_2, .seq #[.str "rows" t_SHAPES_2_0, .int 2 t_SHAPES_2_1] n_SHAPES_2, sl_SHAPES_2⟩)
  (l_SHAPES_3 : K.lookup p_SHAPES_0_2 = some ⟨.type "tuple", od_SHAPES_3, .seq #[.str "tree" t_SHAPES_3_0, .int 3 t_SHAPES_3_1] n_SHAPES_3, sl_SHAPES_3⟩)
  (l_SHAPES_4 : K.lookup p_SHAPES_0_3 = some ⟨.type "tuple", od_SHAPES_4, .seq #[.str "waits" t_SHAPES_4_0, .int 2 t_SHAPES_4_1] n_SHAPES_4, sl_SHAPES_4⟩)
  (e_are_rows : cd_are_rows = .ref 167)
  (nT_are_rows : K.lookup 163 = none)
  (T_are_rows : h.get? 163 = some { cls := .none, data := .fields #[] })
  (C_are_rows : PySem.W.CodeHd h 167 163)
  (e_is_row : cd_is_row = .ref 174)
  (nT_is_row : K.lookup 170 = none)
  (T_is_row : h.get? 170 = some { cls := .none, data := .fields #[] })
  (C_is_row : PySem.W.CodeHd h 174 170)
  (e_law : cd_law = .ref 274)
  (nT_law : K.lookup 272 = none)
  (T_law : h.get? 272 = some { cls := .none, data := .fields #[] })
  (C_law : PySem.W.CodeHd h 274 272) :
  LamX.LawAtS l w K CX0 20 63 "_law_script" mg fa h := by
  have e : f_law = fa := by
    have z := (PySem.W.mg_of X G a_law).symm.trans hfa
    cases z
    rfl
  subst e
  let A : Ad := { is_whole := f_is_whole, d_is_whole := PySem.W.fnOf "is_whole" "is_whole" (defArgs s_is_whole) (defBody s_is_whole) (defScope s_is_whole) .none kV_is_whole dc_is_whole pm_is_whole an_is_whole cd_is_whole ct_is_whole, check_many := f_check_many, d_check_many := PySem.W.fnOf "check_many" "check_many" (defArgs s_check_many) (defBody s_check_many) (defScope s_check_many) .none kV_check_many dc_check_many pm_check_many an_check_many cd_check_many ct_check_many, check_numbers := f_check_numbers, d_check_numbers := PySem.W.fnOf "check_numbers" "check_numbers" (defArgs s_check_numbers) (defBody s_check_numbers) (defScope s_check_numbers) .none kV_check_numbers dc_check_numbers pm_check_numbers an_check_numbers cd_check_numbers ct_check_numbers, check_rule := f_check_rule, d_check_rule := PySem.W.fnOf "check_rule" "check_rule" (defArgs s_check_rule) (defBody s_check_rule) (defScope s_check_rule) .none kV_check_rule dc_check_rule pm_check_rule an_check_rule cd_check_rule ct_check_rule, fault_of := f_fault_of, d_fault_of := PySem.W.fnOf "fault_of" "fault_of" (defArgs s_fault_of) (defBody s_fault_of) (defScope s_fault_of) .none kV_fault_of dc_fault_of pm_fault_of an_fault_of cd_fault_of ct_fault_of, has_shape := f_has_shape, d_has_shape := PySem.W.fnOf "has_shape" "has_shape" (defArgs s_has_shape) (defBody s_has_shape) (defScope s_has_shape) .none kV_has_shape dc_has_shape pm_has_shape an_has_shape cd_has_shape ct_has_shape, are_rows := f_are_rows, d_are_rows := PySem.W.fnOf "are_rows" "are_rows" (defArgs s_are_rows) (defBody s_are_rows) (defScope s_are_rows) .none kV_are_rows dc_are_rows pm_are_rows an_are_rows cd_are_rows ct_are_rows, is_row := f_is_row, d_is_row := PySem.W.fnOf "is_row" "is_row" (defArgs s_is_row) (defBody s_is_row) (defScope s_is_row) .none kV_is_row dc_is_row pm_is_row an_is_row cd_is_row ct_is_row, sets_of := f_sets_of, d_sets_of := PySem.W.fnOf "sets_of" "sets_of" (defArgs s_sets_of) (defBody s_sets_of) (defScope s_sets_of) .none kV_sets_of dc_sets_of pm_sets_of an_sets_of cd_sets_of ct_sets_of, unheard := f_unheard, d_unheard := PySem.W.fnOf "unheard" "unheard" (defArgs s_unheard) (defBody s_unheard) (defScope s_unheard) .none kV_unheard dc_unheard pm_unheard an_unheard cd_unheard ct_unheard, is_alone := f_is_alone, d_is_alone := PySem.W.fnOf "is_alone" "is_alone" (defArgs s_is_alone) (defBody s_is_alone) (defScope s_is_alone) .none kV_is_alone dc_is_alone pm_is_alone an_is_alone cd_is_alone ct_is_alone, two := f_two, d_two := PySem.W.fnOf "two" "two" (defArgs s_two) (defBody s_two) (defScope s_two) .none kV_two dc_two pm_two an_two cd_two ct_two, middle_texts := f_middle_texts, d_middle_texts := PySem.W.fnOf "middle_texts" "middle_texts" (defArgs s_middle_texts) (defBody s_middle_texts) (defScope s_middle_texts) .none kV_middle_texts dc_middle_texts pm_middle_texts an_middle_texts cd_middle_texts ct_middle_texts, chains_of := f_chains_of, d_chains_of := PySem.W.fnOf "chains_of" "chains_of" (defArgs s_chains_of) (defBody s_chains_of) (defScope s_chains_of) .none kV_chains_of dc_chains_of pm_chains_of an_chains_of cd_chains_of ct_chains_of, _law_dice := f__law_dice, d__law_dice := PySem.W.fnOf "_law_dice" "_law_dice" (defArgs s__law_dice) (defBody s__law_dice) (defScope s__law_dice) .none kV__law_dice dc__law_dice pm__law_dice an__law_dice cd__law_dice ct__law_dice, _law_off := f__law_off, d__law_off := PySem.W.fnOf "_law_off" "_law_off" (defArgs s__law_off) (defBody s__law_off) (defScope s__law_off) .none kV__law_off dc__law_off pm__law_off an__law_off cd__law_off ct__law_off, _law_alike := f__law_alike, d__law_alike := PySem.W.fnOf "_law_alike" "_law_alike" (defArgs s__law_alike) (defBody s__law_alike) (defScope s__law_alike) .none kV__law_alike dc__law_alike pm__law_alike an__law_alike cd__law_alike ct__law_alike, _law_is := f__law_is, d__law_is := PySem.W.fnOf "_law_is" "_law_is" (defArgs s__law_is) (defBody s__law_is) (defScope s__law_is) .none kV__law_is dc__law_is pm__law_is an__law_is cd__law_is ct__law_is, _law_refused := f__law_refused, d__law_refused := PySem.W.fnOf "_law_refused" "_law_refused" (defArgs s__law_refused) (defBody s__law_refused) (defScope s__law_refused) .none kV__law_refused dc__law_refused pm__law_refused an__law_refused cd__law_refused ct__law_refused, _law_many := f__law_many, d__law_many := PySem.W.fnOf "_law_many" "_law_many" (defArgs s__law_many) (defBody s__law_many) (defScope s__law_many) .none kV__law_many dc__law_many pm__law_many an__law_many cd__law_many ct__law_many, _law_sets := f__law_sets, d__law_sets := PySem.W.fnOf "_law_sets" "_law_sets" (defArgs s__law_sets) (defBody s__law_sets) (defScope s__law_sets) .none kV__law_sets dc__law_sets pm__law_sets an__law_sets cd__law_sets ct__law_sets, _law_unheard := f__law_unheard, d__law_unheard := PySem.W.fnOf "_law_unheard" "_law_unheard" (defArgs s__law_unheard) (defBody s__law_unheard) (defScope s__law_unheard) .none kV__law_unheard dc__law_unheard pm__law_unheard an__law_unheard cd__law_unheard ct__law_unheard, _law_texts := f__law_texts, d__law_texts := PySem.W.fnOf "_law_texts" "_law_texts" (defArgs s__law_texts) (defBody s__law_texts) (defScope s__law_texts) .none kV__law_texts dc__law_texts pm__law_texts an__law_texts cd__law_texts ct__law_texts, _law_are_chains := f__law_are_chains, d__law_are_chains := PySem.W.fnOf "_law_are_chains" "_law_are_chains" (defArgs s__law_are_chains) (defBody s__law_are_chains) (defScope s__law_are_chains) .none kV__law_are_chains dc__law_are_chains pm__law_are_chains an__law_are_chains cd__law_are_chains ct__law_are_chains, _law_tried := f__law_tried, d__law_tried := PySem.W.fnOf "_law_tried" "_law_tried" (defArgs s__law_tried) (defBody s__law_tried) (defScope s__law_tried) .none kV__law_tried dc__law_tried pm__law_tried an__law_tried cd__law_tried ct__law_tried, law := f_law, d_law := PySem.W.fnOf "law" "law" (defArgs s_law) (defBody s_law) (defScope s_law) .none kV_law dc_law pm_law an_law cd_law ct_law, v_SHAPES := v_SHAPES, t_are_rows := 167, p_are_rows := 163, t_is_row := 174, p_is_row := 170, t_law := 274, p_law := 272 }
  have F_is_whole : Fun K "is_whole" "is_whole" s_is_whole A.is_whole A.d_is_whole := fun_mk (st := s_is_whole) l_is_whole c_is_whole k_is_whole
  have F_check_many : Fun K "check_many" "check_many" s_check_many A.check_many A.d_check_many := fun_mk (st := s_check_many) l_check_many c_check_many k_check_many
  have F_check_numbers : Fun K "check_numbers" "check_numbers" s_check_numbers A.check_numbers A.d_check_numbers := fun_mk (st := s_check_numbers) l_check_numbers c_check_numbers k_check_numbers
  have F_check_rule : Fun K "check_rule" "check_rule" s_check_rule A.check_rule A.d_check_rule := fun_mk (st := s_check_rule) l_check_rule c_check_rule k_check_rule
  have F_fault_of : Fun K "fault_of" "fault_of" s_fault_of A.fault_of A.d_fault_of := fun_mk (st := s_fault_of) l_fault_of c_fault_of k_fault_of
  have F_has_shape : Fun K "has_shape" "has_shape" s_has_shape A.has_shape A.d_has_shape := fun_mk (st := s_has_shape) l_has_shape c_has_shape k_has_shape
  have F_are_rows : Fun K "are_rows" "are_rows" s_are_rows A.are_rows A.d_are_rows := fun_mk (st := s_are_rows) l_are_rows c_are_rows k_are_rows
  have F_is_row : Fun K "is_row" "is_row" s_is_row A.is_row A.d_is_row := fun_mk (st := s_is_row) l_is_row c_is_row k_is_row
  have F_sets_of : Fun K "sets_of" "sets_of" s_sets_of A.sets_of A.d_sets_of := fun_mk (st := s_sets_of) l_sets_of c_sets_of k_sets_of
  have F_unheard : Fun K "unheard" "unheard" s_unheard A.unheard A.d_unheard := fun_mk (st := s_unheard) l_unheard c_unheard k_unheard
  have F_is_alone : Fun K "is_alone" "is_alone" s_is_alone A.is_alone A.d_is_alone := fun_mk (st := s_is_alone) l_is_alone c_is_alone k_is_alone
  have F_two : Fun K "two" "two" s_two A.two A.d_two := fun_mk (st := s_two) l_two c_two k_two
  have F_middle_texts : Fun K "middle_texts" "middle_texts" s_middle_texts A.middle_texts A.d_middle_texts := fun_mk (st := s_middle_texts) l_middle_texts c_middle_texts k_middle_texts
  have F_chains_of : Fun K "chains_of" "chains_of" s_chains_of A.chains_of A.d_chains_of := fun_mk (st := s_chains_of) l_chains_of c_chains_of k_chains_of
  have F__law_dice : Fun K "_law_dice" "_law_dice" s__law_dice A._law_dice A.d__law_dice := fun_mk (st := s__law_dice) l__law_dice c__law_dice k__law_dice
  have F__law_off : Fun K "_law_off" "_law_off" s__law_off A._law_off A.d__law_off := fun_mk (st := s__law_off) l__law_off c__law_off k__law_off
  have F__law_alike : Fun K "_law_alike" "_law_alike" s__law_alike A._law_alike A.d__law_alike := fun_mk (st := s__law_alike) l__law_alike c__law_alike k__law_alike
  have F__law_is : Fun K "_law_is" "_law_is" s__law_is A._law_is A.d__law_is := fun_mk (st := s__law_is) l__law_is c__law_is k__law_is
  have F__law_refused : Fun K "_law_refused" "_law_refused" s__law_refused A._law_refused A.d__law_refused := fun_mk (st := s__law_refused) l__law_refused c__law_refused k__law_refused
  have F__law_many : Fun K "_law_many" "_law_many" s__law_many A._law_many A.d__law_many := fun_mk (st := s__law_many) l__law_many c__law_many k__law_many
  have F__law_sets : Fun K "_law_sets" "_law_sets" s__law_sets A._law_sets A.d__law_sets := fun_mk (st := s__law_sets) l__law_sets c__law_sets k__law_sets
  have F__law_unheard : Fun K "_law_unheard" "_law_unheard" s__law_unheard A._law_unheard A.d__law_unheard := fun_mk (st := s__law_unheard) l__law_unheard c__law_unheard k__law_unheard
  have F__law_texts : Fun K "_law_texts" "_law_texts" s__law_texts A._law_texts A.d__law_texts := fun_mk (st := s__law_texts) l__law_texts c__law_texts k__law_texts
  have F__law_are_chains : Fun K "_law_are_chains" "_law_are_chains" s__law_are_chains A._law_are_chains A.d__law_are_chains := fun_mk (st := s__law_are_chains) l__law_are_chains c__law_are_chains k__law_are_chains
  have F__law_tried : Fun K "_law_tried" "_law_tried" s__law_tried A._law_tried A.d__law_tried := fun_mk (st := s__law_tried) l__law_tried c__law_tried k__law_tried
  have F_law : Fun K "law" "law" s_law A.law A.d_law := fun_mk (st := s_law) l_law c_law k_law
  refine ⟨A.d_law, [(167, 163), (174, 170), (274, 272)], spLawA K (amA [163, 170] [(272, lq "law")]), (List.forall_mem_cons.mpr ⟨T_are_rows, (List.forall_mem_cons.mpr ⟨T_is_row, (List.forall_mem_cons.mpr ⟨T_law, (fun _ hp => nomatch hp)⟩)⟩)⟩), (List.forall_mem_cons.mpr ⟨nT_are_rows, (List.forall_mem_cons.mpr ⟨nT_is_row, (List.forall_mem_cons.mpr ⟨nT_law, (fun _ hp => nomatch hp)⟩)⟩)⟩), (List.forall_mem_cons.mpr ⟨C_are_rows, (List.forall_mem_cons.mpr ⟨C_is_row, (List.forall_mem_cons.mpr ⟨C_law, (fun _ hp => nomatch hp)⟩)⟩)⟩), fun s v => .of_eq rfl, fun H a ns hl _ hH hS => ⟨a, ns, rfl, hS, hl, amA_at (by decide) (List.forall_mem_cons.mpr ⟨hH (167, 163) (by simp), (List.forall_mem_cons.mpr ⟨hH (174, 170) (by simp), (fun _ hp => nomatch hp)⟩)⟩) (List.forall_mem_cons.mpr ⟨hH (274, 272) (by simp), (fun _ hp => nomatch hp)⟩), fun _ => rfl⟩, fun base _ _ hTB => ?_⟩
  have T : Txt K mg base A := { F_is_whole := F_is_whole, b_is_whole := F_is_whole.binds (ps := ["number", "least", "most"]) fun _ _ _ _ _ _ us hl => match us, hl with | [_, _, _], _ => rfl, g_is_whole := PySem.W.mg_of X G a_is_whole, k_is_whole := k_is_whole, F_check_many := F_check_many, b_check_many := F_check_many.binds (ps := ["many"]) fun _ _ _ _ _ _ us hl => match us, hl with | [_], _ => rfl, g_check_many := PySem.W.mg_of X G a_check_many, k_check_many := k_check_many, F_check_numbers := F_check_numbers, b_check_numbers := F_check_numbers.binds (ps := ["many", "most"]) fun _ _ _ _ _ _ us hl => match us, hl with | [_, _], _ => rfl, g_check_numbers := PySem.W.mg_of X G a_check_numbers, k_check_numbers := k_check_numbers, F_check_rule := F_check_rule, b_check_rule := F_check_rule.binds (ps := ["rule", "many"]) fun _ _ _ _ _ _ us hl => match us, hl with | [_, _], _ => rfl, g_check_rule := PySem.W.mg_of X G a_check_rule, k_check_rule := k_check_rule, F_fault_of := F_fault_of, b_fault_of := F_fault_of.binds (ps := ["rule", "many"]) fun _ _ _ _ _ _ us hl => match us, hl with | [_, _], _ => rfl, g_fault_of := PySem.W.mg_of X G a_fault_of, k_fault_of := k_fault_of, F_has_shape := F_has_shape, b_has_shape := F_has_shape.binds (ps := ["parts", "shapes"]) fun _ _ _ _ _ _ us hl => match us, hl with | [_, _], _ => rfl, g_has_shape := PySem.W.mg_of X G a_has_shape, k_has_shape := k_has_shape, F_are_rows := F_are_rows, b_are_rows := F_are_rows.binds (ps := ["rows", "many"]) fun _ _ _ _ _ _ us hl => match us, hl with | [_, _], _ => rfl, g_are_rows := PySem.W.mg_of X G a_are_rows, k_are_rows := k_are_rows, F_is_row := F_is_row, b_is_row := F_is_row.binds (ps := ["row"]) fun _ _ _ _ _ _ us hl => match us, hl with | [_], _ => rfl, g_is_row := PySem.W.mg_of X G a_is_row, k_is_row := k_is_row, F_sets_of := F_sets_of, b_sets_of := F_sets_of.binds (ps := ["many", "least", "most"]) fun _ _ _ _ _ _ us hl => match us, hl with | [_, _, _], _ => rfl, g_sets_of := PySem.W.mg_of X G a_sets_of, k_sets_of := k_sets_of, F_unheard := F_unheard, b_unheard := F_unheard.binds (ps := ["rows", "most"]) fun _ _ _ _ _ _ us hl => match us, hl with | [_, _], _ => rfl, g_unheard := PySem.W.mg_of X G a_unheard, k_unheard := k_unheard, F_is_alone := F_is_alone, b_is_alone := F_is_alone.binds (ps := ["rows", "group", "number"]) fun _ _ _ _ _ _ us hl => match us, hl with | [_, _, _], _ => rfl, g_is_alone := PySem.W.mg_of X G a_is_alone, k_is_alone := k_is_alone, F_two := F_two, b_two := F_two.binds (ps := ["many"]) fun _ _ _ _ _ _ us hl => match us, hl with | [_], _ => rfl, g_two := PySem.W.mg_of X G a_two, k_two := k_two, F_middle_texts := F_middle_texts, b_middle_texts := F_middle_texts.binds (ps := ["length"]) fun _ _ _ _ _ _ us hl => match us, hl with | [_], _ => rfl, g_middle_texts := PySem.W.mg_of X G a_middle_texts, k_middle_texts := k_middle_texts, F_chains_of := F_chains_of, b_chains_of := F_chains_of.binds (ps := ["length"]) fun _ _ _ _ _ _ us hl => match us, hl with | [_], _ => rfl, g_chains_of := PySem.W.mg_of X G a_chains_of, k_chains_of := k_chains_of, F__law_dice := F__law_dice, b__law_dice := F__law_dice.binds (ps := ["_law_script", "_law_k"]) fun _ _ _ _ _ _ us hl => match us, hl with | [_, _], _ => rfl, g__law_dice := PySem.W.mg_of X G a__law_dice, k__law_dice := k__law_dice, F__law_off := F__law_off, b__law_off := F__law_off.binds (ps := ["_law_d", "_law_most"]) fun _ _ _ _ _ _ us hl => match us, hl with | [_, _], _ => rfl, g__law_off := PySem.W.mg_of X G a__law_off, k__law_off := k__law_off, F__law_alike := F__law_alike, b__law_alike := F__law_alike.binds (ps := ["_law_found", "_law_due"]) fun _ _ _ _ _ _ us hl => match us, hl with | [_, _], _ => rfl, g__law_alike := PySem.W.mg_of X G a__law_alike, k__law_alike := k__law_alike, F__law_is := F__law_is, b__law_is := F__law_is.binds (ps := ["_law_e", "_law_word"]) fun _ _ _ _ _ _ us hl => match us, hl with | [_, _], _ => rfl, g__law_is := PySem.W.mg_of X G a__law_is, k__law_is := k__law_is, F__law_refused := F__law_refused, b__law_refused := F__law_refused.binds (ps := ["_law_work", "_law_word", "_law_value"]) fun _ _ _ _ _ _ us hl => match us, hl with | [_, _, _], _ => rfl, g__law_refused := PySem.W.mg_of X G a__law_refused, k__law_refused := k__law_refused, F__law_many := F__law_many, b__law_many := F__law_many.binds (ps := ["_law_d"]) fun _ _ _ _ _ _ us hl => match us, hl with | [_], _ => rfl, g__law_many := PySem.W.mg_of X G a__law_many, k__law_many := k__law_many, F__law_sets := F__law_sets, b__law_sets := F__law_sets.binds (ps := ["_law_many_here", "_law_most"]) fun _ _ _ _ _ _ us hl => match us, hl with | [_, _], _ => rfl, g__law_sets := PySem.W.mg_of X G a__law_sets, k__law_sets := k__law_sets, F__law_unheard := F__law_unheard, b__law_unheard := F__law_unheard.binds (ps := ["_law_rows", "_law_most"]) fun _ _ _ _ _ _ us hl => match us, hl with | [_, _], _ => rfl, g__law_unheard := PySem.W.mg_of X G a__law_unheard, k__law_unheard := k__law_unheard, F__law_texts := F__law_texts, b__law_texts := F__law_texts.binds (ps := ["_law_size"]) fun _ _ _ _ _ _ us hl => match us, hl with | [_], _ => rfl, g__law_texts := PySem.W.mg_of X G a__law_texts, k__law_texts := k__law_texts, F__law_are_chains := F__law_are_chains, b__law_are_chains := F__law_are_chains.binds (ps := ["_law_chains", "_law_size"]) fun _ _ _ _ _ _ us hl => match us, hl with | [_, _], _ => rfl, g__law_are_chains := PySem.W.mg_of X G a__law_are_chains, k__law_are_chains := k__law_are_chains, F__law_tried := F__law_tried, b__law_tried := F__law_tried.binds (ps := ["_law_many_here", "_law_size"]) fun _ _ _ _ _ _ us hl => match us, hl with | [_, _], _ => rfl, g__law_tried := PySem.W.mg_of X G a__law_tried, k__law_tried := k__law_tried, F_law := F_law, b_law := F_law.binds (ps := ["_law_script"]) fun _ _ _ _ _ _ us hl => match us, hl with | [_], _ => rfl, g_law := PySem.W.mg_of X G a_law, k_law := k_law, m_ValueError := PySem.W.mg_none_of X G z_ValueError, m_abs := PySem.W.mg_none_of X G z_abs, m_all := PySem.W.mg_none_of X G z_all, m_bool := PySem.W.mg_none_of X G z_bool, m_dict := PySem.W.mg_none_of X G z_dict, m_int := PySem.W.mg_none_of X G z_int, m_isinstance := PySem.W.mg_none_of X G z_isinstance, m_len := PySem.W.mg_none_of X G z_len, m_list := PySem.W.mg_none_of X G z_list, m_max := PySem.W.mg_none_of X G z_max, m_min := PySem.W.mg_none_of X G z_min, m_range := PySem.W.mg_none_of X G z_range, m_sorted := PySem.W.mg_none_of X G z_sorted, m_str := PySem.W.mg_none_of X G z_str, m_tuple := PySem.W.mg_none_of X G z_tuple, c_MOST_STATIONS := ⟨_, PySem.W.mg_of X G q_MOST_STATIONS⟩, c_MOST_SIGNS := ⟨_, PySem.W.mg_of X G q_MOST_SIGNS⟩, c_LEAST_BASE := ⟨_, PySem.W.mg_of X G q_LEAST_BASE⟩, c_MOST_BASE := ⟨_, PySem.W.mg_of X G q_MOST_BASE⟩, c_SHAPES := PySem.W.mg_of X G q_SHAPES, x_SHAPES := fun H => (.tup (xs := [V.ref p_SHAPES_0_0, V.ref p_SHAPES_0_1, V.ref p_SHAPES_0_2, V.ref p_SHAPES_0_3]) (.inr ⟨_, _, _, l_SHAPES_0, rfl, rfl, (by rw [sizeLine_eq]; show 4 ≤ _; decide), (.cons rfl (.cons rfl (.cons rfl (.cons rfl .nil))))⟩) (.cons (.tup (xs := [V.str "turns", V.int 1]) (.inr ⟨_, _, _, l_SHAPES_1, rfl, rfl, (by rw [sizeLine_eq]; show 2 ≤ _; decide), (.cons ⟨_, rfl⟩ (.cons ⟨_, rfl⟩ .nil))⟩) (.cons (.str _) (.cons (.int _) .nil))) (.cons (.tup (xs := [V.str "rows", V.int 2]) (.inr ⟨_, _, _, l_SHAPES_2, rfl, rfl, (by rw [sizeLine_eq]; show 2 ≤ _; decide), (.cons ⟨_, rfl⟩ (.cons ⟨_, rfl⟩ .nil))⟩) (.cons (.str _) (.cons (.int _) .nil))) (.cons (.tup (xs := [V.str "tree", V.int 3]) (.inr ⟨_, _, _, l_SHAPES_3, rfl, rfl, (by rw [sizeLine_eq]; show 2 ≤ _; decide), (.cons ⟨_, rfl⟩ (.cons ⟨_, rfl⟩ .nil))⟩) (.cons (.str _) (.cons (.int _) .nil))) (.cons (.tup (xs := [V.str "waits", V.int 2]) (.inr ⟨_, _, _, l_SHAPES_4, rfl, rfl, (by rw [sizeLine_eq]; show 2 ≤ _; decide), (.cons ⟨_, rfl⟩ (.cons ⟨_, rfl⟩ .nil))⟩) (.cons (.str _) (.cons (.int _) .nil))) .nil))))), h_are_rows := e_are_rows, q_are_rows := ⟨(hTB (167, 163) (by simp)).code, (hTB (167, 163) (by simp)).bm, (hTB (167, 163) (by simp)).gP⟩, h_is_row := e_is_row, q_is_row := ⟨(hTB (174, 170) (by simp)).code, (hTB (174, 170) (by simp)).bm, (hTB (174, 170) (by simp)).gP⟩, np_are_rows_is_row := (by decide : (163 : Nat) ≠ 170), h_law := e_law, q_law := ⟨(hTB (274, 272) (by simp)).code, (hTB (274, 272) (by simp)).bm, (hTB (274, 272) (by simp)).gP⟩ }
  let Z : XA := { c_AirError := c_AirError, c_BadNumber := c_BadNumber, c_BadRule := c_BadRule, c_BadWakes := c_BadWakes, c_BadPlan := c_BadPlan, c_BadText := c_BadText, i_BadRule := xi_BadRule, i_BadWakes := xi_BadWakes, i_BadPlan := xi_BadPlan, d_BadRule := PySem.W.ksFn "__init__" "BadRule.__init__" (defArgs s_BadRule___init__) (defBody s_BadRule___init__) (defScope s_BadRule___init__) .none xkV_BadRule xdoc_BadRule xpm_BadRule xan_BadRule (.ref xcda_BadRule) xct_BadRule xcc_BadRule, d_BadWakes := PySem.W.ksFn "__init__" "BadWakes.__init__" (defArgs s_BadWakes___init__) (defBody s_BadWakes___init__) (defScope s_BadWakes___init__) .none xkV_BadWakes xdoc_BadWakes xpm_BadWakes xan_BadWakes (.ref xcda_BadWakes) xct_BadWakes xcc_BadWakes, d_BadPlan := PySem.W.ksFn "__init__" "BadPlan.__init__" (defArgs s_BadPlan___init__) (defBody s_BadPlan___init__) (defScope s_BadPlan___init__) .none xkV_BadPlan xdoc_BadPlan xpm_BadPlan xan_BadPlan (.ref xcda_BadPlan) xct_BadPlan xcc_BadPlan }
  have TX : XTxt l.prog K mg Z := { x_BadRule := ⟨⟨⟨_, _, _, _, _, _, _, _, _, _, _, _, _, _, _, lC_BadRule, rVE_BadRule⟩, sC_BadRule, sb_BadRule, ty_BadRule, kC_BadRule⟩, ⟨_, _, _, _, _, _, _, _, _, _, rfl, lI_BadRule, cI_BadRule, ⟨_, _, _, lcc_BadRule⟩, _, _, _, _, _, _, lcd_BadRule, vsF_BadRule, fle_BadRule⟩, nW_BadRule, iI_BadRule, tI_BadRule, PySem.W.mg_none_of X G x_su, sI_BadRule, x_tp, vE_BadRule, mC_BadRule, x_top⟩, b_BadRule := Binds.all fun us hl => match us, hl with | [_, _], _ => rfl, x_BadWakes := ⟨⟨⟨_, _, _, _, _, _, _, _, _, _, _, _, _, _, _, lC_BadWakes, rVE_BadWakes⟩, sC_BadWakes, sb_BadWakes, ty_BadWakes, kC_BadWakes⟩, ⟨_, _, _, _, _, _, _, _, _, _, rfl, lI_BadWakes, cI_BadWakes, ⟨_, _, _, lcc_BadWakes⟩, _, _, _, _, _, _, lcd_BadWakes, vsF_BadWakes, fle_BadWakes⟩, nW_BadWakes, iI_BadWakes, tI_BadWakes, PySem.W.mg_none_of X G x_su, sI_BadWakes, x_tp, vE_BadWakes, mC_BadWakes, x_top⟩, b_BadWakes := Binds.all fun us hl => match us, hl with | [_, _], _ => rfl, x_BadPlan := ⟨⟨⟨_, _, _, _, _, _, _, _, _, _, _, _, _, _, _, lC_BadPlan, rVE_BadPlan⟩, sC_BadPlan, sb_BadPlan, ty_BadPlan, kC_BadPlan⟩, ⟨_, _, _, _, _, _, _, _, _, _, rfl, lI_BadPlan, cI_BadPlan, ⟨_, _, _, lcc_BadPlan⟩, _, _, _, _, _, _, lcd_BadPlan, vsF_BadPlan, fle_BadPlan⟩, nW_BadPlan, iI_BadPlan, tI_BadPlan, PySem.W.mg_none_of X G x_su, sI_BadPlan, x_tp, vE_BadPlan, mC_BadPlan, x_top⟩, b_BadPlan := Binds.all fun us hl => match us, hl with | [_, _], _ => rfl, n_BadNumber := ⟨xe_BadNumber, kC_BadNumber, sb_BadNumber, ty_BadNumber⟩, n_BadText := ⟨xe_BadText, kC_BadText, sb_BadText, ty_BadText⟩, g_AirError := PySem.W.mg_of X G aC_AirError, g_BadNumber := PySem.W.mg_of X G aC_BadNumber, g_BadRule := PySem.W.mg_of X G aC_BadRule, g_BadWakes := PySem.W.mg_of X G aC_BadWakes, g_BadPlan := PySem.W.mg_of X G aC_BadPlan, g_BadText := PySem.W.mg_of X G aC_BadText }
  have FX : XCls K Z := { kit := fun x y => match x, y with | .num, .num => kk_BadNumber_BadNumber | .num, .rule => kk_BadNumber_BadRule | .num, .wakes => kk_BadNumber_BadWakes | .num, .plan => kk_BadNumber_BadPlan | .num, .txt => kk_BadNumber_BadText | .rule, .num => kk_BadRule_BadNumber | .rule, .rule => kk_BadRule_BadRule | .rule, .wakes => kk_BadRule_BadWakes | .rule, .plan => kk_BadRule_BadPlan | .rule, .txt => kk_BadRule_BadText | .wakes, .num => kk_BadWakes_BadNumber | .wakes, .rule => kk_BadWakes_BadRule | .wakes, .wakes => kk_BadWakes_BadWakes | .wakes, .plan => kk_BadWakes_BadPlan | .wakes, .txt => kk_BadWakes_BadText | .plan, .num => kk_BadPlan_BadNumber | .plan, .rule => kk_BadPlan_BadRule | .plan, .wakes => kk_BadPlan_BadWakes | .plan, .plan => kk_BadPlan_BadPlan | .plan, .txt => kk_BadPlan_BadText | .txt, .num => kk_BadText_BadNumber | .txt, .rule => kk_BadText_BadRule | .txt, .wakes => kk_BadText_BadWakes | .txt, .plan => kk_BadText_BadPlan | .txt, .txt => kk_BadText_BadText, ve := fun x => match x with | .num => ve_BadNumber | .rule => ve_BadRule | .wakes => ve_BadWakes | .plan => ve_BadPlan | .txt => ve_BadText, air := fun x => match x with | .num => ae_BadNumber | .rule => ae_BadRule | .wakes => ae_BadWakes | .plan => ae_BadPlan | .txt => ae_BadText, ci := fun x => match x with | .num => ci_BadNumber | .rule => ci_BadRule | .wakes => ci_BadWakes | .plan => ci_BadPlan | .txt => ci_BadText, ga := fun x => match x with | .num => ga_BadNumber | .rule => ga_BadRule | .wakes => ga_BadWakes | .plan => ga_BadPlan | .txt => ga_BadText, gt := fun x => match x with | .num => gt_BadNumber | .rule => gt_BadRule | .wakes => gt_BadWakes | .plan => gt_BadPlan | .txt => gt_BadText, sb := fun x => match x with | .num => sb_BadNumber | .rule => sb_BadRule | .wakes => sb_BadWakes | .plan => sb_BadPlan | .txt => sb_BadText, cl := fun x => match x with | .num => cc_BadNumber | .rule => cc_BadRule | .wakes => cc_BadWakes | .plan => cc_BadPlan | .txt => cc_BadText, mo := fun x => match x with | .num => mo_BadNumber | .rule => mo_BadRule | .wakes => mo_BadWakes | .plan => mo_BadPlan | .txt => mo_BadText, hd := fun x => match x with | .num => hx_BadNumber | .rule => hx_BadRule | .wakes => hx_BadWakes | .plan => hx_BadPlan | .txt => hx_BadText, sp := x_sp, tk := x_tk }
  exact ok_law T TX FX
theorem walk {l : PySem.W.OpenLaw} {q : Program} {loose : List Str} {XP : (Str → Option Value) → Heap → Prop} {YP : World → Heap → Prop} {d : DefRec} {K : Params → PySem.W.Frag} (hn : l.most = some 63) (hdf : d.params.defaults = [])
    (hY : ∀ (w : World) (h : Heap), YP w h → (K w.params).In h)
    (F : ∀ (w : World) (mg : Str → Option Value) (fa : Addr) (h : Heap), YP w h → (K w.params).In h → h.Ns mainGlobals mg → mg d.name = some (.ref fa) → LamX.LawAtS l w (K w.params) CX0 20 63 "_law_script" mg fa h) :
    PySem.W.WalkO q loose XP YP l.row.toRowW d [] (fun f vs => PySem.call f vs) :=
  LamX.walk_ofTs (n := 63) (k := 20) (x := "_law_script") (CX := fun _ => CX0) hn (by decide) hdf ⟨rfl, by decide, by decide⟩ hY F fun _ _ _ _ _ z => z
end X
end OA
open PySem PySem.W PyProof.Rows
local macro_rules
  | `(tactic| o_head ($f:ident $k $a $p $t)) => `(tactic| o_head ((PySem.W.kmHook $k $a $p [163, 170, 272])))
set_option maxRecDepth 100000 in
set_option maxHeartbeats 0 in
theorem PySem.Challenge.cw_oneair_k11_whole_the_shortest_for_two_holds : PySem.Challenge.rw_oneair_k11_whole_the_shortest_for_two.Holds := by
  w_on; o_law; k_head; (case hw => w_witness2)
  k_fill
  refine OA.X.walk (l := PySem.Challenge.rw_oneair_k11_whole_the_shortest_for_two) rfl rfl (fun w h Y => PySem.W.km_in_of Y) ?F
  case F =>
    intro w mg fa h Y KX G hmg
    have hT8 := PySem.W.km_tabs_of Y
    refine' OA.X.all_mk KX G hmg ?a_is_whole ?l_is_whole ?c_is_whole ?k_is_whole ?a_check_many ?l_check_many ?c_check_many ?k_check_many ?a_check_numbers ?l_check_numbers ?c_check_numbers ?k_check_numbers ?a_check_rule ?l_check_rule ?c_check_rule ?k_check_rule ?a_fault_of ?l_fault_of ?c_fault_of ?k_fault_of ?a_has_shape ?l_has_shape ?c_has_shape ?k_has_shape ?a_are_rows ?l_are_rows ?c_are_rows ?k_are_rows ?a_is_row ?l_is_row ?c_is_row ?k_is_row ?a_sets_of ?l_sets_of ?c_sets_of ?k_sets_of ?a_unheard ?l_unheard ?c_unheard ?k_unheard ?a_is_alone ?l_is_alone ?c_is_alone ?k_is_alone ?a_two ?l_two ?c_two ?k_two ?a_middle_texts ?l_middle_texts ?c_middle_texts ?k_middle_texts ?a_chains_of ?l_chains_of ?c_chains_of ?k_chains_of ?a__law_dice ?l__law_dice ?c__law_dice ?k__law_dice ?a__law_off ?l__law_off ?c__law_off ?k__law_off ?a__law_alike ?l__law_alike ?c__law_alike ?k__law_alike ?a__law_is ?l__law_is ?c__law_is ?k__law_is ?a__law_refused ?l__law_refused ?c__law_refused ?k__law_refused ?a__law_many ?l__law_many ?c__law_many ?k__law_many ?a__law_sets ?l__law_sets ?c__law_sets ?k__law_sets ?a__law_unheard ?l__law_unheard ?c__law_unheard ?k__law_unheard ?a__law_texts ?l__law_texts ?c__law_texts ?k__law_texts ?a__law_are_chains ?l__law_are_chains ?c__law_are_chains ?k__law_are_chains ?a__law_tried ?l__law_tried ?c__law_tried ?k__law_tried ?a_law ?l_law ?c_law ?k_law ?z_ValueError ?z_abs ?z_all ?z_bool ?z_dict ?z_int ?z_isinstance ?z_len ?z_list ?z_max ?z_min ?z_range ?z_sorted ?z_str ?z_tuple ?aC_AirError ?aC_BadNumber ?aC_BadRule ?aC_BadWakes ?aC_BadPlan ?aC_BadText ?x_sp ?x_tk ?x_tp ?x_su ?x_top ?kC_BadNumber ?sb_BadNumber ?ty_BadNumber ?ci_BadNumber ?ga_BadNumber ?gt_BadNumber ?cc_BadNumber ?mo_BadNumber ?hx_BadNumber ?ve_BadNumber ?ae_BadNumber ?kk_BadNumber_BadNumber ?kk_BadNumber_BadRule ?kk_BadNumber_BadWakes ?kk_BadNumber_BadPlan ?kk_BadNumber_BadText ?xe_BadNumber ?kC_BadRule ?sb_BadRule ?ty_BadRule ?ci_BadRule ?ga_BadRule ?gt_BadRule ?cc_BadRule ?mo_BadRule ?hx_BadRule ?ve_BadRule ?ae_BadRule ?kk_BadRule_BadNumber ?kk_BadRule_BadRule ?kk_BadRule_BadWakes ?kk_BadRule_BadPlan ?kk_BadRule_BadText ?iI_BadRule ?lI_BadRule ?cI_BadRule ?tI_BadRule ?lcc_BadRule ?lcd_BadRule ?vsF_BadRule ?fle_BadRule ?lC_BadRule ?rVE_BadRule ?sC_BadRule ?nW_BadRule ?sI_BadRule ?vE_BadRule ?mC_BadRule ?kC_BadWakes ?sb_BadWakes ?ty_BadWakes ?ci_BadWakes ?ga_BadWakes ?gt_BadWakes ?cc_BadWakes ?mo_BadWakes ?hx_BadWakes ?ve_BadWakes ?ae_BadWakes ?kk_BadWakes_BadNumber ?kk_BadWakes_BadRule ?kk_BadWakes_BadWakes ?kk_BadWakes_BadPlan ?kk_BadWakes_BadText ?iI_BadWakes ?lI_BadWakes ?cI_BadWakes ?tI_BadWakes ?lcc_BadWakes ?lcd_BadWakes ?vsF_BadWakes ?fle_BadWakes ?lC_BadWakes ?rVE_BadWakes ?sC_BadWakes ?nW_BadWakes ?sI_BadWakes ?vE_BadWakes ?mC_BadWakes ?kC_BadPlan ?sb_BadPlan ?ty_BadPlan ?ci_BadPlan ?ga_BadPlan ?gt_BadPlan ?cc_BadPlan ?mo_BadPlan ?hx_BadPlan ?ve_BadPlan ?ae_BadPlan ?kk_BadPlan_BadNumber ?kk_BadPlan_BadRule ?kk_BadPlan_BadWakes ?kk_BadPlan_BadPlan ?kk_BadPlan_BadText ?iI_BadPlan ?lI_BadPlan ?cI_BadPlan ?tI_BadPlan ?lcc_BadPlan ?lcd_BadPlan ?vsF_BadPlan ?fle_BadPlan ?lC_BadPlan ?rVE_BadPlan ?sC_BadPlan ?nW_BadPlan ?sI_BadPlan ?vE_BadPlan ?mC_BadPlan ?kC_BadText ?sb_BadText ?ty_BadText ?ci_BadText ?ga_BadText ?gt_BadText ?cc_BadText ?mo_BadText ?hx_BadText ?ve_BadText ?ae_BadText ?kk_BadText_BadNumber ?kk_BadText_BadRule ?kk_BadText_BadWakes ?kk_BadText_BadPlan ?kk_BadText_BadText ?xe_BadText ?q_MOST_STATIONS ?q_MOST_SIGNS ?q_LEAST_BASE ?q_MOST_BASE ?q_SHAPES ?l_SHAPES_0 ?l_SHAPES_1 ?l_SHAPES_2 ?l_SHAPES_3 ?l_SHAPES_4 ?e_are_rows ?nT_are_rows (hT8 163 (by simp)) (PySem.W.codeHd_of_K KX (by kernel_rfl)) ?e_is_row ?nT_is_row (hT8 170 (by simp)) (PySem.W.codeHd_of_K KX (by kernel_rfl)) ?e_law ?nT_law (hT8 272 (by simp)) (PySem.W.codeHd_of_K KX (by kernel_rfl))
    (case a_is_whole => k_is); (case l_is_whole => k_is); (case c_is_whole => k_is); (case k_is_whole => k_is); (case a_check_many => k_is); (case l_check_many => k_is)
    (case c_check_many => k_is); (case k_check_many => k_is); (case a_check_numbers => k_is); (case l_check_numbers => k_is); (case c_check_numbers => k_is); (case k_check_numbers => k_is)
    (case a_check_rule => k_is); (case l_check_rule => k_is); (case c_check_rule => k_is); (case k_check_rule => k_is); (case a_fault_of => k_is); (case l_fault_of => k_is)
    (case c_fault_of => k_is); (case k_fault_of => k_is); (case a_has_shape => k_is); (case l_has_shape => k_is); (case c_has_shape => k_is); (case k_has_shape => k_is)
    (case a_are_rows => k_is); (case l_are_rows => k_is); (case c_are_rows => k_is); (case k_are_rows => k_is); (case a_is_row => k_is); (case l_is_row => k_is)
    (case c_is_row => k_is); (case k_is_row => k_is); (case a_sets_of => k_is); (case l_sets_of => k_is); (case c_sets_of => k_is); (case k_sets_of => k_is)
    (case a_unheard => k_is); (case l_unheard => k_is); (case c_unheard => k_is); (case k_unheard => k_is); (case a_is_alone => k_is); (case l_is_alone => k_is)
    (case c_is_alone => k_is); (case k_is_alone => k_is); (case a_two => k_is); (case l_two => k_is); (case c_two => k_is); (case k_two => k_is)
    (case a_middle_texts => k_is); (case l_middle_texts => k_is); (case c_middle_texts => k_is); (case k_middle_texts => k_is); (case a_chains_of => k_is); (case l_chains_of => k_is)
    (case c_chains_of => k_is); (case k_chains_of => k_is); (case a__law_dice => k_is); (case l__law_dice => k_is); (case c__law_dice => k_is); (case k__law_dice => k_is)
    (case a__law_off => k_is); (case l__law_off => k_is); (case c__law_off => k_is); (case k__law_off => k_is); (case a__law_alike => k_is); (case l__law_alike => k_is)
    (case c__law_alike => k_is); (case k__law_alike => k_is); (case a__law_is => k_is); (case l__law_is => k_is); (case c__law_is => k_is); (case k__law_is => k_is)
    (case a__law_refused => k_is); (case l__law_refused => k_is); (case c__law_refused => k_is); (case k__law_refused => k_is); (case a__law_many => k_is); (case l__law_many => k_is)
    (case c__law_many => k_is); (case k__law_many => k_is); (case a__law_sets => k_is); (case l__law_sets => k_is); (case c__law_sets => k_is); (case k__law_sets => k_is)
    (case a__law_unheard => k_is); (case l__law_unheard => k_is); (case c__law_unheard => k_is); (case k__law_unheard => k_is); (case a__law_texts => k_is); (case l__law_texts => k_is)
    (case c__law_texts => k_is); (case k__law_texts => k_is); (case a__law_are_chains => k_is); (case l__law_are_chains => k_is); (case c__law_are_chains => k_is); (case k__law_are_chains => k_is)
    (case a__law_tried => k_is); (case l__law_tried => k_is); (case c__law_tried => k_is); (case k__law_tried => k_is); (case a_law => k_is); (case l_law => k_is)
    (case c_law => k_is); (case k_law => k_is); (case z_ValueError => k_is); (case z_abs => k_is); (case z_all => k_is); (case z_bool => k_is)
    (case z_dict => k_is); (case z_int => k_is); (case z_isinstance => k_is); (case z_len => k_is); (case z_list => k_is); (case z_max => k_is)
    (case z_min => k_is); (case z_range => k_is); (case z_sorted => k_is); (case z_str => k_is); (case z_tuple => k_is); (case aC_AirError => first | k_is | kernel_rfl | rfl)
    (case aC_BadNumber => first | k_is | kernel_rfl | rfl); (case aC_BadRule => first | k_is | kernel_rfl | rfl); (case aC_BadWakes => first | k_is | kernel_rfl | rfl); (case aC_BadPlan => first | k_is | kernel_rfl | rfl); (case aC_BadText => first | k_is | kernel_rfl | rfl); (case x_sp => first | k_is | kernel_rfl | rfl)
    (case x_tk => first | k_is | kernel_rfl | rfl); (case x_tp => first | k_is | kernel_rfl | rfl); (case x_su => first | k_is | kernel_rfl | rfl); (case x_top => first | k_is | kernel_rfl | rfl); (case kC_BadNumber => first | k_is | kernel_rfl | rfl); (case sb_BadNumber => first | k_is | kernel_rfl | rfl)
    (case ty_BadNumber => first | k_is | kernel_rfl | rfl); (case ci_BadNumber => first | k_is | kernel_rfl | rfl); (case ga_BadNumber => first | k_is | kernel_rfl | rfl); (case gt_BadNumber => first | k_is | kernel_rfl | rfl); (case cc_BadNumber => first | k_is | kernel_rfl | rfl); (case mo_BadNumber => first | k_is | kernel_rfl | rfl)
    (case hx_BadNumber => first | k_is | kernel_rfl | rfl); (case ve_BadNumber => first | k_is | kernel_rfl | rfl); (case ae_BadNumber => first | k_is | kernel_rfl | rfl); (case kk_BadNumber_BadNumber => first | k_is | kernel_rfl | rfl); (case kk_BadNumber_BadRule => first | k_is | kernel_rfl | rfl); (case kk_BadNumber_BadWakes => first | k_is | kernel_rfl | rfl)
    (case kk_BadNumber_BadPlan => first | k_is | kernel_rfl | rfl); (case kk_BadNumber_BadText => first | k_is | kernel_rfl | rfl); (case xe_BadNumber => first | k_is | kernel_rfl | rfl); (case kC_BadRule => first | k_is | kernel_rfl | rfl); (case sb_BadRule => first | k_is | kernel_rfl | rfl); (case ty_BadRule => first | k_is | kernel_rfl | rfl)
    (case ci_BadRule => first | k_is | kernel_rfl | rfl); (case ga_BadRule => first | k_is | kernel_rfl | rfl); (case gt_BadRule => first | k_is | kernel_rfl | rfl); (case cc_BadRule => first | k_is | kernel_rfl | rfl); (case mo_BadRule => first | k_is | kernel_rfl | rfl); (case hx_BadRule => first | k_is | kernel_rfl | rfl)
    (case ve_BadRule => first | k_is | kernel_rfl | rfl); (case ae_BadRule => first | k_is | kernel_rfl | rfl); (case kk_BadRule_BadNumber => first | k_is | kernel_rfl | rfl); (case kk_BadRule_BadRule => first | k_is | kernel_rfl | rfl); (case kk_BadRule_BadWakes => first | k_is | kernel_rfl | rfl); (case kk_BadRule_BadPlan => first | k_is | kernel_rfl | rfl)
    (case kk_BadRule_BadText => first | k_is | kernel_rfl | rfl); (case iI_BadRule => first | k_is | kernel_rfl | rfl); (case lI_BadRule => first | k_is | kernel_rfl | rfl); (case cI_BadRule => first | k_is | kernel_rfl | rfl); (case tI_BadRule => first | k_is | kernel_rfl | rfl); (case lcc_BadRule => first | k_is | kernel_rfl | rfl)
    (case lcd_BadRule => first | k_is | kernel_rfl | rfl); (case vsF_BadRule => rfl); (case fle_BadRule => first | k_is | kernel_rfl | rfl); (case lC_BadRule => first | k_is | kernel_rfl | rfl); (case rVE_BadRule => first | k_is | kernel_rfl | rfl); (case sC_BadRule => first | k_is | kernel_rfl | rfl)
    (case nW_BadRule => first | k_is | kernel_rfl | rfl); (case sI_BadRule => first | k_is | kernel_rfl | rfl); (case vE_BadRule => first | k_is | kernel_rfl | rfl); (case mC_BadRule => first | k_is | kernel_rfl | rfl); (case kC_BadWakes => first | k_is | kernel_rfl | rfl); (case sb_BadWakes => first | k_is | kernel_rfl | rfl)
    (case ty_BadWakes => first | k_is | kernel_rfl | rfl); (case ci_BadWakes => first | k_is | kernel_rfl | rfl); (case ga_BadWakes => first | k_is | kernel_rfl | rfl); (case gt_BadWakes => first | k_is | kernel_rfl | rfl); (case cc_BadWakes => first | k_is | kernel_rfl | rfl); (case mo_BadWakes => first | k_is | kernel_rfl | rfl)
    (case hx_BadWakes => first | k_is | kernel_rfl | rfl); (case ve_BadWakes => first | k_is | kernel_rfl | rfl); (case ae_BadWakes => first | k_is | kernel_rfl | rfl); (case kk_BadWakes_BadNumber => first | k_is | kernel_rfl | rfl); (case kk_BadWakes_BadRule => first | k_is | kernel_rfl | rfl); (case kk_BadWakes_BadWakes => first | k_is | kernel_rfl | rfl)
    (case kk_BadWakes_BadPlan => first | k_is | kernel_rfl | rfl); (case kk_BadWakes_BadText => first | k_is | kernel_rfl | rfl); (case iI_BadWakes => first | k_is | kernel_rfl | rfl); (case lI_BadWakes => first | k_is | kernel_rfl | rfl); (case cI_BadWakes => first | k_is | kernel_rfl | rfl); (case tI_BadWakes => first | k_is | kernel_rfl | rfl)
    (case lcc_BadWakes => first | k_is | kernel_rfl | rfl); (case lcd_BadWakes => first | k_is | kernel_rfl | rfl); (case vsF_BadWakes => rfl); (case fle_BadWakes => first | k_is | kernel_rfl | rfl); (case lC_BadWakes => first | k_is | kernel_rfl | rfl); (case rVE_BadWakes => first | k_is | kernel_rfl | rfl)
    (case sC_BadWakes => first | k_is | kernel_rfl | rfl); (case nW_BadWakes => first | k_is | kernel_rfl | rfl); (case sI_BadWakes => first | k_is | kernel_rfl | rfl); (case vE_BadWakes => first | k_is | kernel_rfl | rfl); (case mC_BadWakes => first | k_is | kernel_rfl | rfl); (case kC_BadPlan => first | k_is | kernel_rfl | rfl)
    (case sb_BadPlan => first | k_is | kernel_rfl | rfl); (case ty_BadPlan => first | k_is | kernel_rfl | rfl); (case ci_BadPlan => first | k_is | kernel_rfl | rfl); (case ga_BadPlan => first | k_is | kernel_rfl | rfl); (case gt_BadPlan => first | k_is | kernel_rfl | rfl); (case cc_BadPlan => first | k_is | kernel_rfl | rfl)
    (case mo_BadPlan => first | k_is | kernel_rfl | rfl); (case hx_BadPlan => first | k_is | kernel_rfl | rfl); (case ve_BadPlan => first | k_is | kernel_rfl | rfl); (case ae_BadPlan => first | k_is | kernel_rfl | rfl); (case kk_BadPlan_BadNumber => first | k_is | kernel_rfl | rfl); (case kk_BadPlan_BadRule => first | k_is | kernel_rfl | rfl)
    (case kk_BadPlan_BadWakes => first | k_is | kernel_rfl | rfl); (case kk_BadPlan_BadPlan => first | k_is | kernel_rfl | rfl); (case kk_BadPlan_BadText => first | k_is | kernel_rfl | rfl); (case iI_BadPlan => first | k_is | kernel_rfl | rfl); (case lI_BadPlan => first | k_is | kernel_rfl | rfl); (case cI_BadPlan => first | k_is | kernel_rfl | rfl)
    (case tI_BadPlan => first | k_is | kernel_rfl | rfl); (case lcc_BadPlan => first | k_is | kernel_rfl | rfl); (case lcd_BadPlan => first | k_is | kernel_rfl | rfl); (case vsF_BadPlan => rfl); (case fle_BadPlan => first | k_is | kernel_rfl | rfl); (case lC_BadPlan => first | k_is | kernel_rfl | rfl)
    (case rVE_BadPlan => first | k_is | kernel_rfl | rfl); (case sC_BadPlan => first | k_is | kernel_rfl | rfl); (case nW_BadPlan => first | k_is | kernel_rfl | rfl); (case sI_BadPlan => first | k_is | kernel_rfl | rfl); (case vE_BadPlan => first | k_is | kernel_rfl | rfl); (case mC_BadPlan => first | k_is | kernel_rfl | rfl)
    (case kC_BadText => first | k_is | kernel_rfl | rfl); (case sb_BadText => first | k_is | kernel_rfl | rfl); (case ty_BadText => first | k_is | kernel_rfl | rfl); (case ci_BadText => first | k_is | kernel_rfl | rfl); (case ga_BadText => first | k_is | kernel_rfl | rfl); (case gt_BadText => first | k_is | kernel_rfl | rfl)
    (case cc_BadText => first | k_is | kernel_rfl | rfl); (case mo_BadText => first | k_is | kernel_rfl | rfl); (case hx_BadText => first | k_is | kernel_rfl | rfl); (case ve_BadText => first | k_is | kernel_rfl | rfl); (case ae_BadText => first | k_is | kernel_rfl | rfl); (case kk_BadText_BadNumber => first | k_is | kernel_rfl | rfl)
    (case kk_BadText_BadRule => first | k_is | kernel_rfl | rfl); (case kk_BadText_BadWakes => first | k_is | kernel_rfl | rfl); (case kk_BadText_BadPlan => first | k_is | kernel_rfl | rfl); (case kk_BadText_BadText => first | k_is | kernel_rfl | rfl); (case xe_BadText => first | k_is | kernel_rfl | rfl); (case q_MOST_STATIONS => k_is)
    (case q_MOST_SIGNS => k_is); (case q_LEAST_BASE => k_is); (case q_MOST_BASE => k_is); (case q_SHAPES => k_is); (case l_SHAPES_0 => k_is); (case l_SHAPES_1 => k_is)
    (case l_SHAPES_2 => k_is); (case l_SHAPES_3 => k_is); (case l_SHAPES_4 => k_is); (case e_are_rows => rfl); (case nT_are_rows => kernel_rfl); (case e_is_row => rfl)
    (case nT_is_row => kernel_rfl); (case e_law => rfl); (case nT_law => kernel_rfl)
