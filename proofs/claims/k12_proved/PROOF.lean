import PyProof.Rows.All
import Wide.All
import OpenK.AllK
import Wide.FinOn
import HandS.ForMost
import HandS.IsInst
import HandS.AnyAll
import HandS.Nested
import HandS.GenList
import HandS.GenOver
import HandS.EndTab
import KE.KNestM
import HandS.Star
import HandS.Walk
import HandS.Deep
import HandS.Style
import KE.KeyNested
import KE.KDictKeyed
import HandS.SortKw
import KE.DataMinMax
import PyProof.DictValues
import PyProof.DictWalks
import HandS.Conv
import HandS.DictComp
import HandS.More
import HandS.AnyAll
import HandS.Nested
import HandS.GenList
import HandS.GenOver
import HandS.TupAny
import HandS.SetFor
import PyProof.WalksMore
import PySem.Challenge.RW_oneair_k12_whole_stations_by_themselves
set_option Elab.async false
set_option linter.all false
set_option maxRecDepth 100000
set_option maxHeartbeats 4000000
set_option synthInstance.maxSize 100000
set_option synthInstance.maxHeartbeats 4000000

namespace OA
open PySem L2
def top (i : Nat) : Stmt := PySem.Challenge.pw_oneair_k12_whole_stations_by_themselves.main.body.getD i (.Pass ⟨0, 0, 0, 0⟩)
abbrev s_is_whole : Stmt := top 11
abbrev s_check_many : Stmt := top 12
abbrev s_check_rule : Stmt := top 13
abbrev s_fault_of : Stmt := top 14
abbrev s_has_shape : Stmt := top 15
abbrev s_are_rows : Stmt := top 16
abbrev s_is_row : Stmt := top 17
abbrev s_digits_of : Stmt := top 18
abbrev s_RowWay___init__ : Stmt := inClass (top 20) 0
abbrev s_RowWay_wants : Stmt := inClass (top 20) 1
abbrev s_RowWay_goes_on : Stmt := inClass (top 20) 2
abbrev s_RowWay_standing : Stmt := inClass (top 20) 3
abbrev s_WaitWay___init__ : Stmt := inClass (top 21) 0
abbrev s_WaitWay_wants : Stmt := inClass (top 21) 1
abbrev s_WaitWay_goes_on : Stmt := inClass (top 21) 2
abbrev s_WaitWay_standing : Stmt := inClass (top 21) 3
abbrev s_TreeWay___init__ : Stmt := inClass (top 22) 0
abbrev s_TreeWay_wants : Stmt := inClass (top 22) 1
abbrev s_TreeWay_goes_on : Stmt := inClass (top 22) 2
abbrev s_TreeWay_split_level : Stmt := inClass (top 22) 3
abbrev s_TreeWay_drop_level : Stmt := inClass (top 22) 4
abbrev s_TreeWay_standing : Stmt := inClass (top 22) 5
abbrev s_way_of : Stmt := top 23
abbrev s_Station___init__ : Stmt := inClass (top 24) 0
abbrev s_Station_speaks : Stmt := inClass (top 24) 1
abbrev s_Station_hears : Stmt := inClass (top 24) 2
abbrev s_Station_standing : Stmt := inClass (top 24) 3
abbrev s_play : Stmt := top 27
abbrev s_check_wakes : Stmt := top 28
abbrev s_one_moment : Stmt := top 29
abbrev s_heard_word : Stmt := top 30
abbrev s__law_dice : Stmt := top 32
abbrev s__law_off : Stmt := top 33
abbrev s__law_alike : Stmt := top 34
abbrev s__law_mixed : Stmt := top 35
abbrev s__law_rows : Stmt := top 36
abbrev s__law_rule : Stmt := top 37
abbrev s__law_many : Stmt := top 38
abbrev s__law_wakes : Stmt := top 39
abbrev s__law_moment : Stmt := top 40
abbrev s_law : Stmt := top 41
/-- where the defs and classes stand -/
structure Ad where
  is_whole : Addr
  d_is_whole : FuncData
  check_many : Addr
  d_check_many : FuncData
  check_rule : Addr
  d_check_rule : FuncData
  fault_of : Addr
  d_fault_of : FuncData
  has_shape : Addr
  d_has_shape : FuncData
  are_rows : Addr
  d_are_rows : FuncData
  is_row : Addr
  d_is_row : FuncData
  digits_of : Addr
  d_digits_of : FuncData
  RowWay___init__ : Addr
  d_RowWay___init__ : FuncData
  RowWay_wants : Addr
  d_RowWay_wants : FuncData
  RowWay_goes_on : Addr
  d_RowWay_goes_on : FuncData
  RowWay_standing : Addr
  d_RowWay_standing : FuncData
  WaitWay___init__ : Addr
  d_WaitWay___init__ : FuncData
  WaitWay_wants : Addr
  d_WaitWay_wants : FuncData
  WaitWay_goes_on : Addr
  d_WaitWay_goes_on : FuncData
  WaitWay_standing : Addr
  d_WaitWay_standing : FuncData
  TreeWay___init__ : Addr
  d_TreeWay___init__ : FuncData
  TreeWay_wants : Addr
  d_TreeWay_wants : FuncData
  TreeWay_goes_on : Addr
  d_TreeWay_goes_on : FuncData
  TreeWay_split_level : Addr
  d_TreeWay_split_level : FuncData
  TreeWay_drop_level : Addr
  d_TreeWay_drop_level : FuncData
  TreeWay_standing : Addr
  d_TreeWay_standing : FuncData
  way_of : Addr
  d_way_of : FuncData
  Station___init__ : Addr
  d_Station___init__ : FuncData
  Station_speaks : Addr
  d_Station_speaks : FuncData
  Station_hears : Addr
  d_Station_hears : FuncData
  Station_standing : Addr
  d_Station_standing : FuncData
  play : Addr
  d_play : FuncData
  check_wakes : Addr
  d_check_wakes : FuncData
  one_moment : Addr
  d_one_moment : FuncData
  heard_word : Addr
  d_heard_word : FuncData
  _law_dice : Addr
  d__law_dice : FuncData
  _law_off : Addr
  d__law_off : FuncData
  _law_alike : Addr
  d__law_alike : FuncData
  _law_mixed : Addr
  d__law_mixed : FuncData
  _law_rows : Addr
  d__law_rows : FuncData
  _law_rule : Addr
  d__law_rule : FuncData
  _law_many : Addr
  d__law_many : FuncData
  _law_wakes : Addr
  d__law_wakes : FuncData
  _law_moment : Addr
  d__law_moment : FuncData
  law : Addr
  d_law : FuncData
  t_are_rows : Addr
  p_are_rows : Addr
  t_is_row : Addr
  p_is_row : Addr
  c_RowWay : Addr
  c_WaitWay : Addr
  c_TreeWay : Addr
  c_Station : Addr
  v_SHAPES : Addr
/-- what the top has written -/
structure Txt (K : PySem.W.Frag) (mg : Str → Option Value) (base : Heap) (A : Ad) : Prop where
  h_are_rows : A.d_are_rows.code = .ref A.t_are_rows
  q_are_rows : GxR.TabB base mg A.t_are_rows A.p_are_rows
  h_is_row : A.d_is_row.code = .ref A.t_is_row
  q_is_row : GxR.TabB base mg A.t_is_row A.p_is_row
  np_are_rows_is_row : A.p_are_rows ≠ A.p_is_row
  F_is_whole : Fun K "is_whole" "is_whole" s_is_whole A.is_whole A.d_is_whole
  b_is_whole : Binds K A.d_is_whole ["number", "least", "most"] []
  g_is_whole : mg "is_whole" = some (.ref A.is_whole)
  k_is_whole : PySem.W.keepIn K (.ref A.is_whole) = true
  F_check_many : Fun K "check_many" "check_many" s_check_many A.check_many A.d_check_many
  b_check_many : Binds K A.d_check_many ["many"] []
  g_check_many : mg "check_many" = some (.ref A.check_many)
  k_check_many : PySem.W.keepIn K (.ref A.check_many) = true
  F_check_rule : Fun K "check_rule" "check_rule" s_check_rule A.check_rule A.d_check_rule
  b_check_rule : Binds K A.d_check_rule ["rule", "many"] []
  g_check_rule : mg "check_rule" = some (.ref A.check_rule)
  k_check_rule : PySem.W.keepIn K (.ref A.check_rule) = true
  F_fault_of : Fun K "fault_of" "fault_of" s_fault_of A.fault_of A.d_fault_of
  b_fault_of : Binds K A.d_fault_of ["rule", "many"] []
  g_fault_of : mg "fault_of" = some (.ref A.fault_of)
  k_fault_of : PySem.W.keepIn K (.ref A.fault_of) = true
  F_has_shape : Fun K "has_shape" "has_shape" s_has_shape A.has_shape A.d_has_shape
  b_has_shape : Binds K A.d_has_shape ["parts", "shapes"] []
  g_has_shape : mg "has_shape" = some (.ref A.has_shape)
  k_has_shape : PySem.W.keepIn K (.ref A.has_shape) = true
  F_are_rows : Fun K "are_rows" "are_rows" s_are_rows A.are_rows A.d_are_rows
  b_are_rows : Binds K A.d_are_rows ["rows", "many"] []
  g_are_rows : mg "are_rows" = some (.ref A.are_rows)
  k_are_rows : PySem.W.keepIn K (.ref A.are_rows) = true
  F_is_row : Fun K "is_row" "is_row" s_is_row A.is_row A.d_is_row
  b_is_row : Binds K A.d_is_row ["row"] []
  g_is_row : mg "is_row" = some (.ref A.is_row)
  k_is_row : PySem.W.keepIn K (.ref A.is_row) = true
  F_digits_of : Fun K "digits_of" "digits_of" s_digits_of A.digits_of A.d_digits_of
  b_digits_of : Binds K A.d_digits_of ["number", "base", "many"] []
  g_digits_of : mg "digits_of" = some (.ref A.digits_of)
  k_digits_of : PySem.W.keepIn K (.ref A.digits_of) = true
  F_RowWay___init__ : Fun K "__init__" "RowWay.__init__" s_RowWay___init__ A.RowWay___init__ A.d_RowWay___init__
  b_RowWay___init__ : Binds K A.d_RowWay___init__ ["self", "row"] []
  mk_RowWay : Mk K A.c_RowWay A.RowWay___init__
  F_RowWay_wants : Fun K "wants" "RowWay.wants" s_RowWay_wants A.RowWay_wants A.d_RowWay_wants
  b_RowWay_wants : Binds K A.d_RowWay_wants ["self", "present"] []
  me_RowWay_wants : Meth K A.c_RowWay "wants" A.RowWay_wants
  F_RowWay_goes_on : Fun K "goes_on" "RowWay.goes_on" s_RowWay_goes_on A.RowWay_goes_on A.d_RowWay_goes_on
  b_RowWay_goes_on : Binds K A.d_RowWay_goes_on ["self", "spoke", "word"] []
  me_RowWay_goes_on : Meth K A.c_RowWay "goes_on" A.RowWay_goes_on
  F_RowWay_standing : Fun K "standing" "RowWay.standing" s_RowWay_standing A.RowWay_standing A.d_RowWay_standing
  b_RowWay_standing : Binds K A.d_RowWay_standing ["self"] []
  me_RowWay_standing : Meth K A.c_RowWay "standing" A.RowWay_standing
  F_WaitWay___init__ : Fun K "__init__" "WaitWay.__init__" s_WaitWay___init__ A.WaitWay___init__ A.d_WaitWay___init__
  b_WaitWay___init__ : Binds K A.d_WaitWay___init__ ["self", "digits"] []
  mk_WaitWay : Mk K A.c_WaitWay A.WaitWay___init__
  F_WaitWay_wants : Fun K "wants" "WaitWay.wants" s_WaitWay_wants A.WaitWay_wants A.d_WaitWay_wants
  b_WaitWay_wants : Binds K A.d_WaitWay_wants ["self", "present"] []
  me_WaitWay_wants : Meth K A.c_WaitWay "wants" A.WaitWay_wants
  F_WaitWay_goes_on : Fun K "goes_on" "WaitWay.goes_on" s_WaitWay_goes_on A.WaitWay_goes_on A.d_WaitWay_goes_on
  b_WaitWay_goes_on : Binds K A.d_WaitWay_goes_on ["self", "spoke", "word"] []
  me_WaitWay_goes_on : Meth K A.c_WaitWay "goes_on" A.WaitWay_goes_on
  F_WaitWay_standing : Fun K "standing" "WaitWay.standing" s_WaitWay_standing A.WaitWay_standing A.d_WaitWay_standing
  b_WaitWay_standing : Binds K A.d_WaitWay_standing ["self"] []
  me_WaitWay_standing : Meth K A.c_WaitWay "standing" A.WaitWay_standing
  F_TreeWay___init__ : Fun K "__init__" "TreeWay.__init__" s_TreeWay___init__ A.TreeWay___init__ A.d_TreeWay___init__
  b_TreeWay___init__ : Binds K A.d_TreeWay___init__ ["self", "how", "late", "digits"] []
  mk_TreeWay : Mk K A.c_TreeWay A.TreeWay___init__
  F_TreeWay_wants : Fun K "wants" "TreeWay.wants" s_TreeWay_wants A.TreeWay_wants A.d_TreeWay_wants
  b_TreeWay_wants : Binds K A.d_TreeWay_wants ["self", "present"] []
  me_TreeWay_wants : Meth K A.c_TreeWay "wants" A.TreeWay_wants
  F_TreeWay_goes_on : Fun K "goes_on" "TreeWay.goes_on" s_TreeWay_goes_on A.TreeWay_goes_on A.d_TreeWay_goes_on
  b_TreeWay_goes_on : Binds K A.d_TreeWay_goes_on ["self", "spoke", "word"] []
  me_TreeWay_goes_on : Meth K A.c_TreeWay "goes_on" A.TreeWay_goes_on
  F_TreeWay_split_level : Fun K "split_level" "TreeWay.split_level" s_TreeWay_split_level A.TreeWay_split_level A.d_TreeWay_split_level
  b_TreeWay_split_level : Binds K A.d_TreeWay_split_level ["self", "inside"] []
  me_TreeWay_split_level : Meth K A.c_TreeWay "split_level" A.TreeWay_split_level
  F_TreeWay_drop_level : Fun K "drop_level" "TreeWay.drop_level" s_TreeWay_drop_level A.TreeWay_drop_level A.d_TreeWay_drop_level
  b_TreeWay_drop_level : Binds K A.d_TreeWay_drop_level ["self"] []
  me_TreeWay_drop_level : Meth K A.c_TreeWay "drop_level" A.TreeWay_drop_level
  F_TreeWay_standing : Fun K "standing" "TreeWay.standing" s_TreeWay_standing A.TreeWay_standing A.d_TreeWay_standing
  b_TreeWay_standing : Binds K A.d_TreeWay_standing ["self"] []
  me_TreeWay_standing : Meth K A.c_TreeWay "standing" A.TreeWay_standing
  F_way_of : Fun K "way_of" "way_of" s_way_of A.way_of A.d_way_of
  b_way_of : Binds K A.d_way_of ["rule", "many", "number"] []
  g_way_of : mg "way_of" = some (.ref A.way_of)
  k_way_of : PySem.W.keepIn K (.ref A.way_of) = true
  F_Station___init__ : Fun K "__init__" "Station.__init__" s_Station___init__ A.Station___init__ A.d_Station___init__
  b_Station___init__ : Binds K A.d_Station___init__ ["self", "rule", "many", "number"] []
  mk_Station : Mk K A.c_Station A.Station___init__
  F_Station_speaks : Fun K "speaks" "Station.speaks" s_Station_speaks A.Station_speaks A.d_Station_speaks
  b_Station_speaks : Binds K A.d_Station_speaks ["self", "awake"] []
  me_Station_speaks : Meth K A.c_Station "speaks" A.Station_speaks
  F_Station_hears : Fun K "hears" "Station.hears" s_Station_hears A.Station_hears A.d_Station_hears
  b_Station_hears : Binds K A.d_Station_hears ["self", "word"] []
  me_Station_hears : Meth K A.c_Station "hears" A.Station_hears
  F_Station_standing : Fun K "standing" "Station.standing" s_Station_standing A.Station_standing A.d_Station_standing
  b_Station_standing : Binds K A.d_Station_standing ["self"] []
  me_Station_standing : Meth K A.c_Station "standing" A.Station_standing
  F_play : Fun K "play" "play" s_play A.play A.d_play
  b_play : Binds K A.d_play ["rule", "many", "wakes"] []
  g_play : mg "play" = some (.ref A.play)
  k_play : PySem.W.keepIn K (.ref A.play) = true
  F_check_wakes : Fun K "check_wakes" "check_wakes" s_check_wakes A.check_wakes A.d_check_wakes
  b_check_wakes : Binds K A.d_check_wakes ["wakes", "many"] []
  g_check_wakes : mg "check_wakes" = some (.ref A.check_wakes)
  k_check_wakes : PySem.W.keepIn K (.ref A.check_wakes) = true
  F_one_moment : Fun K "one_moment" "one_moment" s_one_moment A.one_moment A.d_one_moment
  b_one_moment : Binds K A.d_one_moment ["stations", "awake"] []
  g_one_moment : mg "one_moment" = some (.ref A.one_moment)
  k_one_moment : PySem.W.keepIn K (.ref A.one_moment) = true
  F_heard_word : Fun K "heard_word" "heard_word" s_heard_word A.heard_word A.d_heard_word
  b_heard_word : Binds K A.d_heard_word ["many_speak"] []
  g_heard_word : mg "heard_word" = some (.ref A.heard_word)
  k_heard_word : PySem.W.keepIn K (.ref A.heard_word) = true
  F__law_dice : Fun K "_law_dice" "_law_dice" s__law_dice A._law_dice A.d__law_dice
  b__law_dice : Binds K A.d__law_dice ["_law_script", "_law_k"] []
  g__law_dice : mg "_law_dice" = some (.ref A._law_dice)
  k__law_dice : PySem.W.keepIn K (.ref A._law_dice) = true
  F__law_off : Fun K "_law_off" "_law_off" s__law_off A._law_off A.d__law_off
  b__law_off : Binds K A.d__law_off ["_law_d", "_law_most"] []
  g__law_off : mg "_law_off" = some (.ref A._law_off)
  k__law_off : PySem.W.keepIn K (.ref A._law_off) = true
  F__law_alike : Fun K "_law_alike" "_law_alike" s__law_alike A._law_alike A.d__law_alike
  b__law_alike : Binds K A.d__law_alike ["_law_found", "_law_due"] []
  g__law_alike : mg "_law_alike" = some (.ref A._law_alike)
  k__law_alike : PySem.W.keepIn K (.ref A._law_alike) = true
  F__law_mixed : Fun K "_law_mixed" "_law_mixed" s__law_mixed A._law_mixed A.d__law_mixed
  b__law_mixed : Binds K A.d__law_mixed ["_law_d", "_law_row"] []
  g__law_mixed : mg "_law_mixed" = some (.ref A._law_mixed)
  k__law_mixed : PySem.W.keepIn K (.ref A._law_mixed) = true
  F__law_rows : Fun K "_law_rows" "_law_rows" s__law_rows A._law_rows A.d__law_rows
  b__law_rows : Binds K A.d__law_rows ["_law_d", "_law_many_here"] []
  g__law_rows : mg "_law_rows" = some (.ref A._law_rows)
  k__law_rows : PySem.W.keepIn K (.ref A._law_rows) = true
  F__law_rule : Fun K "_law_rule" "_law_rule" s__law_rule A._law_rule A.d__law_rule
  b__law_rule : Binds K A.d__law_rule ["_law_d", "_law_many_here"] []
  g__law_rule : mg "_law_rule" = some (.ref A._law_rule)
  k__law_rule : PySem.W.keepIn K (.ref A._law_rule) = true
  F__law_many : Fun K "_law_many" "_law_many" s__law_many A._law_many A.d__law_many
  b__law_many : Binds K A.d__law_many ["_law_d"] []
  g__law_many : mg "_law_many" = some (.ref A._law_many)
  k__law_many : PySem.W.keepIn K (.ref A._law_many) = true
  F__law_wakes : Fun K "_law_wakes" "_law_wakes" s__law_wakes A._law_wakes A.d__law_wakes
  b__law_wakes : Binds K A.d__law_wakes ["_law_d", "_law_many_here"] []
  g__law_wakes : mg "_law_wakes" = some (.ref A._law_wakes)
  k__law_wakes : PySem.W.keepIn K (.ref A._law_wakes) = true
  F__law_moment : Fun K "_law_moment" "_law_moment" s__law_moment A._law_moment A.d__law_moment
  b__law_moment : Binds K A.d__law_moment ["_law_stations", "_law_wakes_here", "_law_now"] []
  g__law_moment : mg "_law_moment" = some (.ref A._law_moment)
  k__law_moment : PySem.W.keepIn K (.ref A._law_moment) = true
  F_law : Fun K "law" "law" s_law A.law A.d_law
  b_law : Binds K A.d_law ["_law_script"] []
  g_law : mg "law" = some (.ref A.law)
  k_law : PySem.W.keepIn K (.ref A.law) = true
  cl_RowWay : Cls K A.c_RowWay
  g_RowWay : mg "RowWay" = some (.ref A.c_RowWay)
  n_RowWay_row : NoAttr K A.c_RowWay "row"
  n_RowWay_place : NoAttr K A.c_RowWay "place"
  cl_WaitWay : Cls K A.c_WaitWay
  g_WaitWay : mg "WaitWay" = some (.ref A.c_WaitWay)
  n_WaitWay_digits : NoAttr K A.c_WaitWay "digits"
  n_WaitWay_place : NoAttr K A.c_WaitWay "place"
  n_WaitWay_left : NoAttr K A.c_WaitWay "left"
  cl_TreeWay : Cls K A.c_TreeWay
  g_TreeWay : mg "TreeWay" = some (.ref A.c_TreeWay)
  n_TreeWay_skips : NoAttr K A.c_TreeWay "skips"
  n_TreeWay_joins : NoAttr K A.c_TreeWay "joins"
  n_TreeWay_digits : NoAttr K A.c_TreeWay "digits"
  n_TreeWay_level : NoAttr K A.c_TreeWay "level"
  n_TreeWay_levels : NoAttr K A.c_TreeWay "levels"
  n_TreeWay_skipping : NoAttr K A.c_TreeWay "skipping"
  cl_Station : Cls K A.c_Station
  g_Station : mg "Station" = some (.ref A.c_Station)
  n_Station_way : NoAttr K A.c_Station "way"
  n_Station_spoke : NoAttr K A.c_Station "spoke"
  n_Station_over : NoAttr K A.c_Station "over"
  m_abs : mg "abs" = none
  m_all : mg "all" = none
  m_bool : mg "bool" = none
  m_dict : mg "dict" = none
  m_enumerate : mg "enumerate" = none
  m_int : mg "int" = none
  m_isinstance : mg "isinstance" = none
  m_len : mg "len" = none
  m_list : mg "list" = none
  m_max : mg "max" = none
  m_min : mg "min" = none
  m_range : mg "range" = none
  m_str : mg "str" = none
  m_tuple : mg "tuple" = none
  c_MOST_STATIONS : ∃ t, mg "MOST_STATIONS" = some (.int 8 t)
  c_MOST_SIGNS : ∃ t, mg "MOST_SIGNS" = some (.int 12 t)
  c_LEAST_BASE : ∃ t, mg "LEAST_BASE" = some (.int 2 t)
  c_MOST_BASE : ∃ t, mg "MOST_BASE" = some (.int 4 t)
  c_SHAPES : mg "SHAPES" = some (.ref A.v_SHAPES)
  x_SHAPES : ∀ H : Hp, Dp K H (.ref A.v_SHAPES) (.tuple [.tuple [.str "turns", .int 1], .tuple [.str "rows", .int 2], .tuple [.str "tree", .int 3], .tuple [.str "waits", .int 2]])
  c_LATEST_WAKE : ∃ t, mg "LATEST_WAKE" = some (.int 40 t)
end OA

namespace OA
open PySem PySem.Spec PyProof.Rows L2
/-! own forms of the layer's readings: evaluated, not sought -/
def refR (x : V) (k : Addr → Prop) : Prop := match x with | .ref a => k a | _ => False
def intR (x : V) (k : Int → Prop) : Prop := match x with | .int a => k a | _ => False
def blR (x : V) (k : Bool → Prop) : Prop := match x with | .bl a => k a | _ => False
def strR (x : V) (k : Str → Prop) : Prop := match x with | .str a => k a | _ => False
def optR {α : Type} (o : Option α) (k : α → Prop) : Prop := match o with | some v => k v | none => False
def keyR (x : V) (k : Key → Prop) : Prop := match x with | .int a => k (.inl a) | .str a => k (.inr a) | _ => False
def insO (o : Option HO) (k : Addr → Addr → List (Str × V) → Prop) : Prop := match o with | some (.ins C dx fs) => k C dx fs | _ => False
def lstO (o : Option HO) (k : List V → Prop) : Prop := match o with | some (.lst xs) => k xs | _ => False
def tupO (o : Option HO) (k : List V → Prop) : Prop := match o with | some (.tup xs) => k xs | _ => False
def dkO (o : Option HO) (k : List (Key × V) → Prop) : Prop := match o with | some (.dK xs) => k xs | _ => False
def dkR (o : Option HO) (k : List (Key × V) → Prop) : Prop := match o with | some (.dK xs) => k xs | some (.frz _ (.dK xs)) => k xs | _ => False
def one1 {α : Type} (l : List α) (k : α → Prop) : Prop := match l with | [x] => k x | _ => False
def two2 {α : Type} (l : List α) (k : α → α → Prop) : Prop := match l with | [x, y] => k x y | _ => False
theorem refR_el {x : V} {k : Addr → Prop} (h : refR x k) : ∃ a, x = .ref a ∧ k a := by cases x <;> first | exact ⟨_, rfl, h⟩ | exact h.elim
theorem intR_el {x : V} {k : Int → Prop} (h : intR x k) : ∃ a, x = .int a ∧ k a := by cases x <;> first | exact ⟨_, rfl, h⟩ | exact h.elim
theorem blR_el {x : V} {k : Bool → Prop} (h : blR x k) : ∃ a, x = .bl a ∧ k a := by cases x <;> first | exact ⟨_, rfl, h⟩ | exact h.elim
theorem strR_el {x : V} {k : Str → Prop} (h : strR x k) : ∃ a, x = .str a ∧ k a := by cases x <;> first | exact ⟨_, rfl, h⟩ | exact h.elim
theorem optR_el {α : Type} {o : Option α} {k : α → Prop} (h : optR o k) : ∃ a, o = some a ∧ k a := by cases o <;> first | exact ⟨_, rfl, h⟩ | exact h.elim
theorem keyR_el {x : V} {k : Key → Prop} (h : keyR x k) : ∃ a, x = kV a ∧ k a := by
  cases x with
  | int a => exact ⟨.inl a, rfl, h⟩
  | str a => exact ⟨.inr a, rfl, h⟩
  | _ => exact (show False from h).elim
theorem insO_el {o : Option HO} {k : Addr → Addr → List (Str × V) → Prop} (h : insO o k) : ∃ C dx fs, o = some (.ins C dx fs) ∧ k C dx fs := by
  unfold insO at h
  split at h
  · exact ⟨_, _, _, rfl, h⟩
  · exact h.elim
theorem lstO_el {o : Option HO} {k : List V → Prop} (h : lstO o k) : ∃ xs, o = some (.lst xs) ∧ k xs := by
  unfold lstO at h
  split at h
  · exact ⟨_, rfl, h⟩
  · exact h.elim
theorem tupO_el {o : Option HO} {k : List V → Prop} (h : tupO o k) : ∃ xs, o = some (.tup xs) ∧ k xs := by
  unfold tupO at h
  split at h
  · exact ⟨_, rfl, h⟩
  · exact h.elim
theorem dkO_el {o : Option HO} {k : List (Key × V) → Prop} (h : dkO o k) : ∃ xs, o = some (.dK xs) ∧ k xs := by
  unfold dkO at h
  split at h
  · exact ⟨_, rfl, h⟩
  · exact h.elim
theorem dkR_el {H : Hp} {a : Addr} {k : List (Key × V) → Prop} (h : dkR (H a) k) : ∃ xs, Rd H a (.dK xs) ∧ k xs := by
  unfold dkR at h
  split at h
  · rename_i xs e
    exact ⟨xs, .inl e, h⟩
  · rename_i ob xs e
    exact ⟨xs, .inr ⟨ob, e⟩, h⟩
  · exact h.elim
theorem dkR_e {xs : List (Key × V)} {k : List (Key × V) → Prop} : dkR (some (.dK xs)) k = k xs := rfl
theorem dkR_f {o : Obj} {xs : List (Key × V)} {k : List (Key × V) → Prop} : dkR (some (.frz o (.dK xs))) k = k xs := rfl
theorem one1_el {α : Type} {l : List α} {k : α → Prop} (h : one1 l k) : ∃ x, l = [x] ∧ k x := by
  unfold one1 at h
  split at h
  · exact ⟨_, rfl, h⟩
  · exact h.elim
theorem two2_el {α : Type} {l : List α} {k : α → α → Prop} (h : two2 l k) : ∃ x y, l = [x, y] ∧ k x y := by
  unfold two2 at h
  split at h
  · exact ⟨_, _, rfl, h⟩
  · exact h.elim
theorem refR_e {a : Addr} {k : Addr → Prop} : refR (.ref a) k = k a := rfl
theorem intR_e {a : Int} {k : Int → Prop} : intR (.int a) k = k a := rfl
theorem blR_e {a : Bool} {k : Bool → Prop} : blR (.bl a) k = k a := rfl
theorem strR_e {a : Str} {k : Str → Prop} : strR (.str a) k = k a := rfl
theorem optR_e {α : Type} {a : α} {k : α → Prop} : optR (some a) k = k a := rfl
theorem keyR_i {a : Int} {k : Key → Prop} : keyR (.int a) k = k (.inl a) := rfl
theorem keyR_s {a : Str} {k : Key → Prop} : keyR (.str a) k = k (.inr a) := rfl
theorem insO_e {C dx : Addr} {fs : List (Str × V)} {k : Addr → Addr → List (Str × V) → Prop} : insO (some (.ins C dx fs)) k = k C dx fs := rfl
theorem lstO_e {xs : List V} {k : List V → Prop} : lstO (some (.lst xs)) k = k xs := rfl
theorem tupO_e {xs : List V} {k : List V → Prop} : tupO (some (.tup xs)) k = k xs := rfl
theorem dkO_e {xs : List (Key × V)} {k : List (Key × V) → Prop} : dkO (some (.dK xs)) k = k xs := rfl
theorem one1_e {α : Type} {x : α} {k : α → Prop} : one1 [x] k = k x := rfl
theorem two2_e {α : Type} {x y : α} {k : α → α → Prop} : two2 [x, y] k = k x y := rfl
/-- what comes later is not looked into -/
def Later (p : L2.St → Hp → Prop) (σ : L2.St) (H : Hp) : Prop := p σ H
theorem Later.mk {p : L2.St → Hp → Prop} {σ : L2.St} {H : Hp} (h : p σ H) : Later p σ H := h
/-- the monotone closure of a reading -/
def upE (t : TE) : TE := fun σ H Q => ∃ Q' : VK, t σ H Q' ∧ ∀ v H', Q' v H' → Q v H'
def upT (t : TT) : TT := fun σ H Q => ∃ Q' : Bool → Hp → Prop, t σ H Q' ∧ ∀ v H', Q' v H' → Q v H'
def upA (t : TA) : TA := fun σ H Q => ∃ Q' : List V → Hp → Prop, t σ H Q' ∧ ∀ v H', Q' v H' → Q v H'
def upR (r : R2) : R2 := fun x y H Q => ∃ Q' : VK, r x y H Q' ∧ ∀ v H', Q' v H' → Q v H'
section
variable {X : Cx} {e a b c o : Expr} {es : List Expr} {t t' ta tb tc te to : TE} {pos apos cpos : Pos}
theorem up_pe (h : PE X e t) : PE X e (upE t) := ⟨fun pins s σ H Q I ⟨Q', z, m⟩ => thn (h.run pins s σ H Q' I z) fun _ _ ⟨v, H', I', r, q⟩ => ⟨v, H', I', r, m v H' q⟩⟩
theorem up_pt {t : TT} (h : PT X e t) : PT X e (upT t) := ⟨fun pins s σ H Q I ⟨Q', z, m⟩ => thn (h.run pins s σ H Q' I z) fun _ _ ⟨H', I', q⟩ => ⟨H', I', m _ H' q⟩⟩
theorem up_pa {t : TA} (h : PA X es t) : PA X es (upA t) := ⟨fun pos pins s σ H Q I ⟨Q', z, m⟩ => thn (h.run pos pins s σ H Q' I z) fun _ _ ⟨v, H', I', r, q⟩ => ⟨v, H', I', r, m v H' q⟩⟩
theorem up_op {f : Value → Value → Sem Value} {r : R2} (h : OpR X f r) : OpR X f (upR r) := fun pins s σ H x y v u Q I rx ry ⟨Q', z, m⟩ => thn (h pins s σ H x y v u Q' I rx ry z) fun _ _ ⟨v, H', I', r, q⟩ => ⟨v, H', I', r, m v H' q⟩
theorem im_pe (h : PE X e t) (i : ∀ σ H Q, t' σ H Q → t σ H Q) : PE X e t' := ⟨fun pins s σ H Q I z => h.run pins s σ H Q I (i σ H Q z)⟩
theorem im_pt {t t' : TT} (h : PT X e t) (i : ∀ σ H Q, t' σ H Q → t σ H Q) : PT X e t' := ⟨fun pins s σ H Q I z => h.run pins s σ H Q I (i σ H Q z)⟩
theorem im_ps {st : Stmt} {t t' : TS} (h : PS X st t) (i : ∀ D σ H, t' D σ H → t D σ H) : PS X st t' := ⟨fun pins s σ H D I z => h.run pins s σ H D I (i D σ H z)⟩
theorem im_op {f : Value → Value → Sem Value} {r r' : R2} (h : OpR X f r) (i : ∀ x y H Q, r' x y H Q → r x y H Q) : OpR X f r' := fun pins s σ H x y v u Q I rx ry z => h pins s σ H x y v u Q I rx ry (i x y H Q z)
theorem im_ix {r r' : R2} (h : IxR X r) (i : ∀ x y H Q, r' x y H Q → r x y H Q) : IxR X r' := fun va sl pins s σ H x y v u Q I rx ry z hs => h va sl pins s σ H x y v u Q I rx ry (i x y H Q z) hs
theorem im_call {f : Value} {r r' : List V → Hp → VK → Prop} (h : CallR X f r) (i : ∀ x H Q, r' x H Q → r x H Q) : CallR X f r' := fun pins s σ H xs us Q I r z => h pins s σ H xs us Q I r (i xs H Q z)
theorem im_mt {id : String} {r r' : V → List V → Hp → VK → Prop} (h : MtR X id r) (i : ∀ x y H Q, r' x y H Q → r x y H Q) : MtR X id r' := fun pins s σ H x xs v us Q I rx r z => h pins s σ H x xs v us Q I rx r (i x xs H Q z)
/-! names, attributes -/
def vVar (i : Nat) : TE := fun σ H Q => optR (σ[i]?) fun o => optR o fun v => Q v H
theorem qv (i : Nat) {x : Str} {pos : Pos} (hN : X.N[i]? = some x := by rfl) (hv : Vis X.env.scope x := by first | exact Or.inl rfl | exact Or.inr (Or.inl rfl) | exact Or.inr (Or.inr rfl)) (hd : (x == ("__debug__" : Str)) = false := by decide)
    (hcd : (x == ("__classdict__" : Str)) = false := by decide) : PE X (.Name x pos) (vVar i) := im_pe (pe_var hN hv hd hcd) fun σ H Q h => by
  obtain ⟨o, e, h⟩ := optR_el h
  obtain ⟨v, rfl, zz⟩ := optR_el h
  clear h
  have h := zz
  clear zz
  exact ⟨v, e, h⟩
def vFld (K : PySem.W.Frag) (ta : TE) (f : Str) : TE := fun σ H Q => ta σ H fun x H1 => refR x fun a => insO (H1 a) fun C _ fs => (Cls K C ∧ NoAttr K C f) ∧ optR (fs.lookup f) fun v => Q v H1
theorem q_fld {f : Str} (he : PE X e ta) (hb : attributeBase e f X.env (eval e X.env) = eval e X.env) : PE X (.Attribute e f pos) (vFld X.K ta f) := im_pe (pe_fld (up_pe he) hb) fun σ H Q h => ⟨_, h, fun x H1 z => by
  obtain ⟨a, rfl, zz⟩ := refR_el z
  clear z
  have z := zz
  clear zz
  obtain ⟨C, dx, fs, e1, ⟨c, n⟩, z⟩ := insO_el z
  obtain ⟨v, e2, z⟩ := optR_el z
  exact ⟨a, C, dx, fs, v, rfl, e1, c, n, e2, z⟩⟩
def vsFld (K : PySem.W.Frag) (ta tv : TE) (f : Str) : TS := fun D σ H => tv σ H fun y H1 => ta σ H1 fun x H2 => refR x fun a => insO (H2 a) fun C dx fs => (Cls K C ∧ NoAttr K C f ∧ fs.length < 1000) ∧ D.nx σ (upd H2 a (.ins C dx (putF f y fs)))
theorem q_sfld {f : Str} {pos' : Pos} (ha : PE X o ta) (hv : PE X e tb) (hs : swapsWith e (some (.Attribute o f pos')) pos.line X.env = pure false) : PS X (.Assign [.Attribute o f pos'] e pos) (vsFld X.K ta tb f) := im_ps (ps_fld (up_pe ha) (up_pe hv) hs) fun D σ H h => ⟨_, h, fun y H1 h1 => ⟨_, h1, fun x H2 z => by
  obtain ⟨a, rfl, zz⟩ := refR_el z
  clear z
  have z := zz
  clear zz
  obtain ⟨C, dx, fs, e1, ⟨c, n, l⟩, z⟩ := insO_el z
  exact ⟨a, C, dx, fs, rfl, e1, c, n, l, z⟩⟩⟩
/-- e.f += value, the value of ints -/
def vAugI (K : PySem.W.Frag) (ta tv : TE) (g : Int → Int → Int) (f : Str) : TS := fun D σ H => ta σ H fun x H1 => refR x fun a => insO (H1 a) fun C _ fs => (Cls K C ∧ NoAttr K C f) ∧ optR (fs.lookup f) fun v =>
  tv σ H1 fun y H2 => intR v fun i => intR y fun j => insO (H2 a) fun C' dx' fs' => (C' = C ∧ fs'.length < 1000) ∧ D.nx σ (upd H2 a (.ins C dx' (putF f (.int (g i j)) fs')))
theorem q_augI {f : Str} {op : Operator} {g : Int → Int → Int} {tpos : Pos} (ha : PE X o ta) (hv : PE X e tb) (hop : InOp X op (fun x y H Q => ∃ i j, x = .int i ∧ y = .int j ∧ Q (.int (g i j)) H)) : PS X (.AugAssign (.Attribute o f tpos) op e pos) (vAugI X.K ta tb g f) :=
  im_ps (ps_fldaug (up_pe ha) (up_pe hv) hop) fun D σ H h => ⟨_, h, fun x H1 z => by
    obtain ⟨a, rfl, zz⟩ := refR_el z
    clear z
    have z := zz
    clear zz
    obtain ⟨C, dx, fs, e1, ⟨c, n⟩, z⟩ := insO_el z
    obtain ⟨v, e2, z⟩ := optR_el z
    refine ⟨a, C, dx, fs, v, rfl, e1, c, n, e2, _, z, fun y H2 z => ?_⟩
    obtain ⟨i, rfl, zz⟩ := intR_el z
    clear z
    have z := zz
    clear zz
    obtain ⟨j, rfl, zz⟩ := intR_el z
    clear z
    have z := zz
    clear zz
    obtain ⟨C', dx', fs', e3, ⟨rfl, l⟩, z⟩ := insO_el z
    exact ⟨i, j, rfl, rfl, dx', fs', e3, l, z⟩⟩
/-! operators by values -/
def wI0 (g : Int → Int → V) : R2 := fun x y H Q => intR x fun i => intR y fun j => Q (g i j) H
def wIC (C : Int → Int → Prop) (g : Int → Int → V) : R2 := fun x y H Q => intR x fun i => intR y fun j => C i j ∧ Q (g i j) H
theorem w_I0 {f : Value → Value → Sem Value} {g : Int → Int → V} (h : OpR X f (rI0 g)) : OpR X f (wI0 g) := im_op h fun x y H Q z => by
  obtain ⟨i, rfl, zz⟩ := intR_el z
  clear z
  have z := zz
  clear zz
  obtain ⟨j, rfl, zz⟩ := intR_el z
  clear z
  have z := zz
  clear zz
  exact ⟨i, j, rfl, rfl, z⟩
theorem w_IC {f : Value → Value → Sem Value} {C : Int → Int → Prop} {g : Int → Int → V} (h : OpR X f (rI C g)) : OpR X f (wIC C g) := im_op h fun x y H Q z => by
  obtain ⟨i, rfl, zz⟩ := intR_el z
  clear z
  have z := zz
  clear zz
  obtain ⟨j, rfl, zz⟩ := intR_el z
  clear z
  have z := zz
  clear zz
  exact ⟨i, j, rfl, rfl, z.1, z.2⟩
theorem o_add : OpR X (binaryOp .Add) (wI0 fun i j => .int (i + j)) := w_I0 op_add
theorem o_sub : OpR X (binaryOp .Sub) (wI0 fun i j => .int (i - j)) := w_I0 op_sub
theorem o_mul : OpR X (binaryOp .Mult) (wIC CMul fun i j => .int (i * j)) := w_IC op_mul
theorem o_fdiv : OpR X (binaryOp .FloorDiv) (wIC CDiv fun i j => .int (i / j)) := w_IC op_fdiv
theorem o_mod : OpR X (binaryOp .Mod) (wIC (fun _ j => 0 < j) fun i j => .int (i % j)) := w_IC op_mod
theorem o_lt : OpR X (compareOp .Lt) (wI0 fun i j => .bl (decide (i < j))) := w_I0 op_lt
theorem o_le : OpR X (compareOp .LtE) (wI0 fun i j => .bl (decide (i ≤ j))) := w_I0 op_le
theorem o_gt : OpR X (compareOp .Gt) (wI0 fun i j => .bl (decide (j < i))) := w_I0 op_gt
theorem o_ge : OpR X (compareOp .GtE) (wI0 fun i j => .bl (decide (j ≤ i))) := w_I0 op_ge
def wAddS : R2 := fun x y H Q => strR x fun i => strR y fun j => i.length + j.length ≤ sizeLine ∧ Q (.str (i ++ j)) H
theorem o_addS : OpR X (binaryOp .Add) wAddS := im_op op_add_str fun x y H Q z => by
  obtain ⟨i, rfl, zz⟩ := strR_el z
  clear z
  have z := zz
  clear zz
  obtain ⟨j, rfl, zz⟩ := strR_el z
  clear z
  have z := zz
  clear zz
  exact ⟨i, j, rfl, rfl, z.1, z.2⟩
def wCat : R2 := fun x y H Q => refR x fun l => refR y fun b => lstO (H l) fun xs => lstO (H b) fun zs => xs.length + zs.length ≤ sizeLine ∧ ∀ p, H p = none → Q (.ref p) (upd H p (.lst (xs ++ zs)))
theorem o_cat : OpR X (binaryOp .Add) wCat := im_op op_cat fun x y H Q z => by
  obtain ⟨l, rfl, zz⟩ := refR_el z
  clear z
  have z := zz
  clear zz
  obtain ⟨b, rfl, zz⟩ := refR_el z
  clear z
  have z := zz
  clear zz
  obtain ⟨xs, e1, z⟩ := lstO_el z
  obtain ⟨zs, e2, z⟩ := lstO_el z
  exact ⟨l, b, xs, zs, rfl, rfl, e1, e2, z.1, z.2⟩
def wNeg : V → Hp → VK → Prop := fun x H Q => intR x fun i => Q (.int (-i)) H
theorem o_neg : UnR X (unaryOp .USub) wNeg := fun pins s σ H x v Q I rx z => un_neg pins s σ H x v Q I rx (intR_el z)
/-! subscripts -/
def wIxL : R2 := fun x y H Q => refR x fun p => lstO (H p) fun xs => intR y fun i => optR (atI xs i) fun v => Q v H
def wIxT : R2 := fun x y H Q => refR x fun p => tupO (H p) fun xs => intR y fun i => optR (atI xs i) fun v => Q v H
def wIxS : R2 := fun x y H Q => strR x fun z => intR y fun i => z.length ≤ sizeLine ∧ optR (atI z.cps.toList i) fun c => Q (.str ⟨#[c]⟩) H
theorem ix_L : IxR X wIxL := im_ix ix_list fun x y H Q z => by
  obtain ⟨p, rfl, zz⟩ := refR_el z
  clear z
  have z := zz
  clear zz
  obtain ⟨xs, e1, z⟩ := lstO_el z
  obtain ⟨i, rfl, zz⟩ := intR_el z
  clear z
  have z := zz
  clear zz
  obtain ⟨v, e2, z⟩ := optR_el z
  exact ⟨p, xs, i, v, rfl, rfl, SqL.of e1, e2, z⟩
theorem ix_T : IxR X wIxT := im_ix ix_tup fun x y H Q z => by
  obtain ⟨p, rfl, zz⟩ := refR_el z
  clear z
  have z := zz
  clear zz
  obtain ⟨xs, e1, z⟩ := tupO_el z
  obtain ⟨i, rfl, zz⟩ := intR_el z
  clear z
  have z := zz
  clear zz
  obtain ⟨v, e2, z⟩ := optR_el z
  exact ⟨p, xs, i, v, rfl, rfl, SqT.of e1, e2, z⟩
theorem ix_S : IxR X wIxS := im_ix ix_str fun x y H Q z => by
  obtain ⟨p, rfl, zz⟩ := strR_el z
  clear z
  have z := zz
  clear zz
  obtain ⟨i, rfl, l, zz⟩ := intR_el z
  clear z
  have z := zz
  obtain ⟨v, e2, z⟩ := optR_el z
  exact ⟨p, i, v, rfl, rfl, l, e2, z⟩
def vPart (t : TE) : TO := fun σ H Q => t σ H fun x H1 => intR x fun i => Q (some i) H1
theorem q_some (h : PE X e te) : PO X (some e) (vPart te) := ⟨fun pins s σ H Q I z => (po_some (up_pe h)).run pins s σ H Q I ⟨_, z, fun x H1 q => intR_el q⟩⟩
def wSlL : V → Option Int → Option Int → Hp → VK → Prop := fun x lo hi H Q => refR x fun a => lstO (H a) fun xs => ∀ p, H p = none → Q (.ref p) (upd H p (.lst (cutV xs lo hi)))
theorem sl_L : SlR X wSlL := by
  intro pins s σ H x v vl vu lo hi sl Q I rx hs pl pu h
  obtain ⟨a, e, h⟩ := refR_el h
  obtain ⟨xs, e1, h⟩ := lstO_el h
  exact sl_list pins s σ H x v vl vu lo hi sl Q I rx hs pl pu ⟨a, xs, e, SqL.of e1, h⟩
/-! calls of built-ins -/
def lenO (o : Option HO) (k : Nat → Prop) : Prop := match o with
  | some (.lst xs) => k xs.length
  | some (.tup xs) => k xs.length
  | some (.dK kvs) => k kvs.length
  | _ => False
theorem lenO_l {xs : List V} {k : Nat → Prop} : lenO (some (.lst xs)) k = k xs.length := rfl
theorem lenO_t {xs : List V} {k : Nat → Prop} : lenO (some (.tup xs)) k = k xs.length := rfl
theorem lenO_d {xs : List (Key × V)} {k : Nat → Prop} : lenO (some (.dK xs)) k = k xs.length := rfl
def lenR (vs : List V) (H : Hp) (Q : VK) : Prop := one1 vs fun x => match x with
  | .str z => z.length ≤ sizeLine ∧ Q (.int z.length) H
  | .ref a => lenO (H a) fun n => Q (.int n) H
  | _ => False
theorem c_len : CallR X (.builtin "len") lenR := by
  intro pins s σ H xs us Q I r h
  obtain ⟨x, rfl, h⟩ := one1_el h
  cases x with
  | str z => exact call_len_str pins s σ H _ us Q I r ⟨z, rfl, h.1, h.2⟩
  | ref a =>
    have h : lenO (H a) (fun n => Q (.int n) H) := h
    unfold lenO at h
    split at h
    · rename_i xs e
      exact call_len_seq pins s σ H _ us Q I r ⟨a, xs, rfl, .inl (SqL.of e), h⟩
    · rename_i xs e
      exact call_len_seq pins s σ H _ us Q I r ⟨a, xs, rfl, .inr (SqT.of e), h⟩
    · rename_i kvs e
      exact call_lenD pins s σ H _ us Q I r ⟨a, kvs, rfl, e, h⟩
    · exact h.elim
  | _ => exact (show False from h).elim
theorem len_r {H : Hp} {a : Addr} {Q : VK} : lenR [.ref a] H Q = lenO (H a) fun n => Q (.int n) H := rfl
theorem len_s {H : Hp} {z : Str} {Q : VK} : lenR [.str z] H Q = (z.length ≤ sizeLine ∧ Q (.int z.length) H) := rfl
def wTupL (vs : List V) (H : Hp) (Q : VK) : Prop := one1 vs fun x => refR x fun p => lstO (H p) fun xs => ∀ l, H l = none → Q (.ref l) (upd H l (.tup xs))
def wLstL (vs : List V) (H : Hp) (Q : VK) : Prop := one1 vs fun x => refR x fun p => lstO (H p) fun xs => ∀ l, H l = none → Q (.ref l) (upd H l (.lst xs))
theorem c_tupL : CallR X (.type "tuple") wTupL := im_call call_tuple_of fun x H Q z => by
  obtain ⟨x, rfl, zz⟩ := one1_el z
  clear z
  have z := zz
  clear zz
  obtain ⟨p, rfl, zz⟩ := refR_el z
  clear z
  have z := zz
  clear zz
  obtain ⟨xs, e, z⟩ := lstO_el z
  exact ⟨p, xs, rfl, .inl ⟨SqL.of e, z⟩⟩
theorem c_lstL : CallR X (.type "list") wLstL := im_call call_list_of fun x H Q z => by
  obtain ⟨x, rfl, zz⟩ := one1_el z
  clear z
  have z := zz
  clear zz
  obtain ⟨p, rfl, zz⟩ := refR_el z
  clear z
  have z := zz
  clear zz
  obtain ⟨xs, e, z⟩ := lstO_el z
  exact ⟨p, xs, rfl, .inl (SqL.of e), z⟩
def wAbs (vs : List V) (H : Hp) (Q : VK) : Prop := one1 vs fun x => intR x fun i => Q (.int (if i < 0 then -i else i)) H
theorem c_abs : CallR X (.builtin "abs") wAbs := im_call call_abs fun x H Q z => by
  obtain ⟨x, rfl, zz⟩ := one1_el z
  clear z
  have z := zz
  clear zz
  obtain ⟨i, rfl, zz⟩ := intR_el z
  clear z
  have z := zz
  clear zz
  exact ⟨i, rfl, z⟩
def wIntB (vs : List V) (H : Hp) (Q : VK) : Prop := one1 vs fun x => blR x fun b => Q (.int (if b then 1 else 0)) H
theorem c_intB : CallR X (.type "int") wIntB := im_call call_int1 fun x H Q z => by
  obtain ⟨x, rfl, zz⟩ := one1_el z
  clear z
  have z := zz
  clear zz
  obtain ⟨i, rfl, zz⟩ := blR_el z
  clear z
  have z := zz
  clear zz
  exact .inr ⟨i, rfl, z⟩
def wMin2 (vs : List V) (H : Hp) (Q : VK) : Prop := two2 vs fun x y => intR x fun i => intR y fun j => Q (.int (if j < i then j else i)) H
def wMax2 (vs : List V) (H : Hp) (Q : VK) : Prop := two2 vs fun x y => intR x fun i => intR y fun j => Q (.int (if j > i then j else i)) H
theorem c_min2 (hc : X.calm = true) : CallR X (.builtin "min") wMin2 := im_call (call_min2 hc) fun x H Q z => by
  obtain ⟨x, y, rfl, zz⟩ := two2_el z
  clear z
  have z := zz
  clear zz
  obtain ⟨i, rfl, zz⟩ := intR_el z
  clear z
  have z := zz
  clear zz
  obtain ⟨j, rfl, zz⟩ := intR_el z
  clear z
  have z := zz
  clear zz
  exact ⟨i, j, rfl, z⟩
theorem c_max2 (hc : X.calm = true) : CallR X (.builtin "max") wMax2 := im_call (call_max2 hc) fun x H Q z => by
  obtain ⟨x, y, rfl, zz⟩ := two2_el z
  clear z
  have z := zz
  clear zz
  obtain ⟨i, rfl, zz⟩ := intR_el z
  clear z
  have z := zz
  clear zz
  obtain ⟨j, rfl, zz⟩ := intR_el z
  clear z
  have z := zz
  clear zz
  exact ⟨i, j, rfl, z⟩
end
end OA

namespace OA
open PySem PySem.Spec PyProof.Rows L2
section
variable {X : Cx} {e a b c o : Expr} {es rest : List Expr} {t t' ta tb tc te to : TE} {pos apos cpos : Pos}
/-! truth values -/
/-- what is not reached -/
def vNever : TE := fun _ _ _ => False
theorem q_never {e : Expr} : PE X e vNever := ⟨fun _ _ _ _ _ _ h => h.elim⟩
def vAnd (ta tb : TE) : TE := fun σ H Q => ta σ H fun x H1 => blR x fun c => if c = true then tb σ H1 Q else Q (.bl false) H1
def vOr (ta tb : TE) : TE := fun σ H Q => ta σ H fun x H1 => blR x fun c => if c = true then Q (.bl true) H1 else tb σ H1 Q
def vNot (ta : TE) : TE := fun σ H Q => ta σ H fun x H1 => blR x fun c => Q (.bl (!c)) H1
theorem q_and (ha : PE X a ta) (hb : PE X (.BoolOp .And (b :: rest) pos) tb) : PE X (.BoolOp .And (a :: b :: rest) pos) (vAnd ta tb) := im_pe (pe_and (up_pe ha) hb) fun _ _ _ h => ⟨_, h, fun _ _ z => blR_el z⟩
theorem q_or (ha : PE X a ta) (hb : PE X (.BoolOp .Or (b :: rest) pos) tb) : PE X (.BoolOp .Or (a :: b :: rest) pos) (vOr ta tb) := im_pe (pe_or (up_pe ha) hb) fun _ _ _ h => ⟨_, h, fun _ _ z => blR_el z⟩
theorem q_not (ha : PE X a ta) : PE X (.UnaryOp .Not a pos) (vNot ta) := im_pe (pe_not (up_pe ha)) fun _ _ _ h => ⟨_, h, fun _ _ z => blR_el z⟩
/-! tests -/
def vTest (t : TE) : TT := fun σ H Q => t σ H fun x H' => blR x fun k => Q k H'
theorem q_val {e : Expr} (h : PE X e t) (he : ∀ whole, isTrue e X.env whole = (do let v ← whole; standAt e.pos; holding [v] (truthy v)) := by intro _; rfl) : PT X e (vTest t) := im_pt (pt_val (up_pe h) he) fun _ _ _ h => ⟨_, h, fun _ _ z => blR_el z⟩
theorem q_cmp {op : CmpOp} {r : R2} (ho : OpR X (compareOp op) r) (ha : PE X a ta) (hb : PE X b tb) (hm : behindInMarks op b = false) : PT X (.Compare a [op] [b] pos) (vTest (tOp r ta tb)) :=
  im_pt (pt_cmpR (up_op ho) (up_pe ha) (up_pe hb) hm) fun _ _ _ h => ⟨_, h, fun _ _ h1 => ⟨_, h1, fun _ _ h2 => ⟨_, h2, fun _ _ z => blR_el z⟩⟩⟩
def vChain (r r' : R2) (ta tb tc : TE) : TE := fun σ H Q => ta σ H fun x H1 => tb σ H1 fun y H2 => r x y H2 fun z H3 => blR z fun k => if k = true then tc σ H3 fun w' H4 => r' y w' H4 Q else Q (.bl false) H3
theorem q_chain {op op' : CmpOp} {r r' : R2} (ho : OpR X (compareOp op) r) (ho' : OpR X (compareOp op') r') (ha : PE X a ta) (hb : PE X b tb) (hc : PE X c tc)
    (hm : lastMarks [op, op'] [b, c] = false := by with_unfolding_all rfl) : PE X (.Compare a [op, op'] [b, c] pos) (vChain r r' ta tb tc) :=
  im_pe (pe_chain (up_op ho) ho' (up_pe ha) (up_pe hb) hc hm) fun _ _ _ h => ⟨_, h, fun _ _ h1 => ⟨_, h1, fun _ _ h2 => ⟨_, h2, fun _ _ z => blR_el z⟩⟩⟩
theorem q_tchain {op op' : CmpOp} {r r' : R2} (ho : OpR X (compareOp op) r) (ho' : OpR X (compareOp op') r') (ha : PE X a ta) (hb : PE X b tb) (hc : PE X c tc)
    (hm : lastMarks [op, op'] [b, c] = false := by with_unfolding_all rfl) : PT X (.Compare a [op, op'] [b, c] pos) (vTest (vChain r r' ta tb tc)) :=
  im_pt (pt_chain (up_op ho) (up_op ho') (up_pe ha) (up_pe hb) (up_pe hc) hm) fun _ _ _ h => ⟨_, h, fun _ _ h1 => ⟨_, h1, fun _ _ h2 => ⟨_, h2, fun _ _ z => by
    obtain ⟨k, e, z⟩ := blR_el z
    refine ⟨k, e, ?_⟩
    cases k with
    | true => exact ⟨_, z, fun _ _ z2 => ⟨_, z2, fun _ _ z3 => blR_el z3⟩⟩
    | false => exact blR_el z⟩⟩⟩
/-! statements -/
def vSeq (t u : TS) : TS := fun D σ H => t ⟨Later (u D), D.rt, D.bk, D.ct⟩ σ H
theorem qs_cons {st : Stmt} {sts : List Stmt} {t u : TS} (h1 : PS X st t) (h2 : PSs X sts u) : PSs X (st :: sts) (vSeq t u) := pss_cons h1 h2
theorem e_seq (t u : TS) (n : L2.St → Hp → Prop) (r : VK) (k l : L2.St → Hp → Prop) (σ : L2.St) (H : Hp) : vSeq t u ⟨n, r, k, l⟩ σ H = t ⟨Later (u ⟨n, r, k, l⟩), r, k, l⟩ σ H := rfl
/-- what holds behind a statement is said once -/
def vCut (t : TS) : TS := fun D σ H => ∃ N : L2.St → Hp → Prop, (∀ σ' H', N σ' H' → D.nx σ' H') ∧ t ⟨N, D.rt, D.bk, D.ct⟩ σ H
theorem q_cut {st : Stmt} {t : TS} (h : PS X st t) : PS X st (vCut t) := ⟨fun pins s σ H D I ⟨N, m, z⟩ => thn (h.run pins s σ H _ I z) fun f s' r => by
  cases f with
  | next =>
    obtain ⟨σ', H', I', q⟩ := r
    exact ⟨σ', H', I', m _ _ q⟩
  | brk => exact r
  | cont => exact r
  | ret u => exact r⟩
theorem e_cut (t : TS) (n : L2.St → Hp → Prop) (r : VK) (k l : L2.St → Hp → Prop) (σ : L2.St) (H : Hp) : vCut t ⟨n, r, k, l⟩ σ H = ∃ N : L2.St → Hp → Prop, (∀ σ' H', N σ' H' → n σ' H') ∧ t ⟨N, r, k, l⟩ σ H := rfl
def vIf (c : TT) (t u : TS) : TS := fun D σ H => c σ H fun k H1 => if k = true then Later (t D) σ H1 else Later (u D) σ H1
theorem q_if {c : Expr} {a b : List Stmt} {tc : TT} {t u : TS} (hc : PT X c tc) (ha : PSs X a t) (hb : PSs X b u) : PS X (.If c a b pos) (vIf tc t u) := ps_if hc ha hb
theorem e_next (n : L2.St → Hp → Prop) (r : VK) (k l : L2.St → Hp → Prop) (σ : L2.St) (H : Hp) : tNext ⟨n, r, k, l⟩ σ H = n σ H := rfl
theorem e_asg (te : TE) (i : Nat) (n : L2.St → Hp → Prop) (r : VK) (k l : L2.St → Hp → Prop) (σ : L2.St) (H : Hp) : tAsg te (gName i) ⟨n, r, k, l⟩ σ H = te σ H fun x H1 => n (σ.set i (some x)) H1 := rfl
theorem e_drop (te : TE) (n : L2.St → Hp → Prop) (r : VK) (k l : L2.St → Hp → Prop) (σ : L2.St) (H : Hp) : tDrop te ⟨n, r, k, l⟩ σ H = te σ H fun _ H1 => n σ H1 := rfl
theorem e_ret (te : TE) (n : L2.St → Hp → Prop) (r : VK) (k l : L2.St → Hp → Prop) (σ : L2.St) (H : Hp) : tRet te ⟨n, r, k, l⟩ σ H = te σ H r := rfl
theorem e_retN (n : L2.St → Hp → Prop) (r : VK) (k l : L2.St → Hp → Prop) (σ : L2.St) (H : Hp) : tRetN ⟨n, r, k, l⟩ σ H = r .non H := rfl
theorem e_sfld {K : PySem.W.Frag} {ta tv : TE} {f : Str} (n : L2.St → Hp → Prop) (r : VK) (k l : L2.St → Hp → Prop) (σ : L2.St) (H : Hp) : vsFld K ta tv f ⟨n, r, k, l⟩ σ H =
    tv σ H fun y H1 => ta σ H1 fun x H2 => refR x fun a => insO (H2 a) fun C dx fs => (Cls K C ∧ NoAttr K C f ∧ fs.length < 1000) ∧ n σ (upd H2 a (.ins C dx (putF f y fs))) := rfl
theorem e_augI {K : PySem.W.Frag} {ta tv : TE} {g : Int → Int → Int} {f : Str} (n : L2.St → Hp → Prop) (r : VK) (k l : L2.St → Hp → Prop) (σ : L2.St) (H : Hp) : vAugI K ta tv g f ⟨n, r, k, l⟩ σ H =
    ta σ H fun x H1 => refR x fun a => insO (H1 a) fun C _ fs => (Cls K C ∧ NoAttr K C f) ∧ optR (fs.lookup f) fun v =>
      tv σ H1 fun y H2 => intR v fun i => intR y fun j => insO (H2 a) fun C' dx' fs' => (C' = C ∧ fs'.length < 1000) ∧ n σ (upd H2 a (.ins C dx' (putF f (.int (g i j)) fs'))) := rfl
/-- a name's own int: i += e -/
def vAug (i : Nat) (te : TE) (g : Int → Int → Int) : TS := fun D σ H => optR (σ[i]?) fun o => optR o fun x => te σ H fun y H1 => intR x fun m => intR y fun n => D.nx (σ.set i (some (.int (g m n)))) H1
theorem q_aug {i : Nat} {x : Str} {op : Operator} {g : Int → Int → Int} {pos' : Pos} (hN : X.N.Nodup) (hi : X.N[i]? = some x) (hx : Loc X.env.scope x) (he : PE X e te) (ho : PIp X op (ipI g)) (hf : X.fn x = true ∨ X.env.scope.names.lookup x = some .local := by first | exact .inl rfl | exact .inr rfl | assumption) :
    PS X (.AugAssign (.Name x pos') op e pos) (vAug i te g) := im_ps (ps_aug hN hi hx (up_pe he) ho hf) fun D σ H h => by
  obtain ⟨o, e1, h1⟩ := optR_el h
  obtain ⟨v, e2, h2⟩ := optR_el h1
  refine ⟨v, by rw [e1, e2], _, h2, fun y H1 z => ?_⟩
  obtain ⟨m, e3, z1⟩ := intR_el z
  obtain ⟨k, e4, z2⟩ := intR_el z1
  exact ⟨m, k, e3, e4, z2⟩
theorem e_aug (i : Nat) (te : TE) (g : Int → Int → Int) (n : L2.St → Hp → Prop) (r : VK) (k l : L2.St → Hp → Prop) (σ : L2.St) (H : Hp) : vAug i te g ⟨n, r, k, l⟩ σ H =
    optR (σ[i]?) fun o => optR o fun x => te σ H fun y H1 => intR x fun m => intR y fun z => n (σ.set i (some (.int (g m z)))) H1 := rfl
/-! a call of an own method -/
def vMeth (C : Addr) (m : Str) (sp : Sp) (E : XK) (ta : TE) (t : TA) : TE := fun σ H Q => ta σ H fun x H1 => refR x fun a => insO (H1 a) fun C' _ fs => (C' = C ∧ fs.lookup m = none) ∧ t σ H1 fun vs H2 => sp (x :: vs) H2 Q E
section
variable {CX : CXT} {k : Nat} {f C : Addr} {fd : FuncData} {ps : List Str} {sp : Sp} {E : XK} {x m : Str} {p : Pos} {t : TA}
theorem q_meth {pl : Sem Bool} (he : PE X o ta) (c : Cls X.K C) (hm : Meth X.K C m f) (F : FnOk X.prog X.w X.K X.mg X.base CX k f fd ps sp) (hr : Room k X.A) (hb : Binds X.K fd ps []) (hx : Passes CX X E) (ha : PA X (e :: es) t)
    (hst : starEach (e :: es) X.env = (false, eval e X.env) :: starEach es X.env := by rfl) (hpl : (backTo pos (starEach es X.env)).any (·.1) = false := by rfl)
    (ht : eval (.Call (.Attribute o m apos) (e :: es) [] pos) X.env = (do
      let ov ← eval o X.env; standAt apos.atName
      let (f, first) ← holding [ov] (getMethod ov m pl); callWith pos f first (backTo pos (starEach (e :: es) X.env)) (backToKw pos (keywordEach [] X.env))) := by rfl) :
    PE X (.Call (.Attribute o m apos) (e :: es) [] pos) (vMeth C m sp E ta t) := im_pe (pe_meth (up_pe he) c hm F hr hb .nil hx (up_pa ha) hst hpl ht) fun σ H Q h => ⟨_, h, fun x H1 z => by
  obtain ⟨a, e1, z1⟩ := refR_el z
  obtain ⟨C', dx, fs, e2, ⟨e3, e4⟩, z2⟩ := insO_el z1
  subst e3
  exact ⟨a, dx, fs, e1, e2, e4, _, z2, fun vs H2 q => by simpa only [List.append_nil] using q⟩⟩
theorem q_meth0 {pl : Sem Bool} (he : PE X o ta) (c : Cls X.K C) (hm : Meth X.K C m f) (F : FnOk X.prog X.w X.K X.mg X.base CX k f fd ps sp) (hr : Room k X.A) (hb : Binds X.K fd ps []) (hx : Passes CX X E)
    (ht : eval (.Call (.Attribute o m apos) [] [] pos) X.env = (do
      let ov ← eval o X.env; standAt apos.atName
      let (f, first) ← holding [ov] (getMethod ov m pl); callWith pos f first (backTo pos (starEach [] X.env)) (backToKw pos (keywordEach [] X.env))) := by rfl) :
    PE X (.Call (.Attribute o m apos) [] [] pos) (vMeth C m sp E ta tNil) := im_pe (pe_meth0 (up_pe he) c hm F hr hb .nil hx ht) fun σ H Q h => ⟨_, h, fun x H1 z => by
  obtain ⟨a, e1, z1⟩ := refR_el z
  obtain ⟨C', dx, fs, e2, ⟨e3, e4⟩, z2⟩ := insO_el z1
  subst e3
  exact ⟨a, dx, fs, e1, e2, e4, z2⟩⟩
def vCall (sp : Sp) (E : XK) (t : TA) : TE := fun σ H Q => t σ H fun vs H1 => sp vs H1 Q E
theorem q_call (F : FnOk X.prog X.w X.K X.mg X.base CX k f fd ps sp) (hr : Room k X.A) (hg : Gl X x) (hm : X.mg x = some (.ref f)) (hk : PySem.W.keepIn X.K (.ref f) = true) (hb : Binds X.K fd ps []) (hx : Passes CX X E)
    (ha : PA X (e :: es) t) (hdb : (x == ("__debug__" : Str)) = false := by decide) (he : starEach (e :: es) X.env = (false, eval e X.env) :: starEach es X.env := by rfl) (hpl : (backTo pos (starEach es X.env)).any (·.1) = false := by rfl) :
    PE X (.Call (.Name x p) (e :: es) [] pos) (vCall sp E t) := im_pe (pe_call F hr hg hm hk hb .nil hx (up_pa ha) hdb he hpl) fun σ H Q h => ⟨_, h, fun vs H1 z => by simpa only [List.append_nil] using z⟩
/-- C(..): a new instance -/
def vMake (C : Addr) (sp : Sp) (E : XK) (t : TA) : TE := fun σ H Q => t σ H fun vs H1 => ∀ x dx, H1 x = none → H1 dx = none → dx ≠ x →
  sp (.ref x :: vs) (upd (upd H1 dx (.own x)) x (.ins C dx [])) (fun v H2 => v = .non ∧ Q (.ref x) H2) E
theorem q_make (M : Mk X.K C f) (F : FnOk X.prog X.w X.K X.mg X.base CX k f fd ps sp) (hr : Room (k + 1) X.A) (hg : Gl X x) (hm : X.mg x = some (.ref C)) (hb : Binds X.K fd ps []) (hx : Passes CX X E)
    (ha : PA X (e :: es) t) (hdb : (x == ("__debug__" : Str)) = false := by decide) (he : starEach (e :: es) X.env = (false, eval e X.env) :: starEach es X.env := by rfl) (hpl : (backTo pos (starEach es X.env)).any (·.1) = false := by rfl) :
    PE X (.Call (.Name x p) (e :: es) [] pos) (vMake C sp E t) := im_pe (pe_make M F hr hg hm hb .nil hx (up_pa ha) hdb he hpl) fun σ H Q h => ⟨_, h, fun vs H1 z => by simpa only [List.append_nil] using z⟩
end
/-! methods of a tracked list -/
def isLst (H : Hp) (x : V) : Prop := refR x fun p => lstO (H p) fun _ => True
theorem tyL {K : PySem.W.Frag} {x : V} {H : Hp} (h : isLst H x) : tyV K "list" x H := by
  obtain ⟨p, rfl, h1⟩ := refR_el h
  obtain ⟨xs, e, _⟩ := lstO_el h1
  exact Or.inl ⟨rfl, xs, SqL.of e⟩
section
variable {t : TA} {name : Str} {id : String} {r : V → List V → Hp → VK → Prop}
def vLM0 (r : V → List V → Hp → VK → Prop) (to : TE) : TE := fun σ H Q => to σ H fun x H1 => isLst H1 x ∧ r x [] H1 Q
def vLM (r : V → List V → Hp → VK → Prop) (to : TE) (t : TA) : TE := fun σ H Q => to σ H fun x H1 => isLst H1 x ∧ t σ H1 fun xs H2 => r x xs H2 Q
theorem lm0 (slot : Slot "list" name id) (hty : typeOf (.builtin id) = pure (.type "method_descriptor")) (hm : MtR X id r) (ho : PE X o to)
    (hb : attributeBase o name X.env (eval o X.env) = eval o X.env := by rfl) (hl : (apos.endLine == cpos.line) = true := by rfl) : PE X (.Call (.Attribute o name apos) [] [] cpos) (vLM0 r to) :=
  im_pe (pe_bm0 PySem.F.plainAttrs_list slot hty hm (up_pe ho) hb hl) fun _ _ _ h => ⟨_, h, fun _ _ z => ⟨tyL z.1, z.2⟩⟩
theorem lm1 (slot : Slot "list" name id) (hty : typeOf (.builtin id) = pure (.type "method_descriptor")) (hm : MtR X id r) (ho : PE X o to) (ha : PA X (e :: es) t)
    (hb : attributeBase o name X.env (eval o X.env) = eval o X.env := by rfl)
    (hf : ((backTo cpos (starEach (e :: es) X.env)).all (fun x => !x.1) && (backToKw cpos (keywordEach [] X.env)).all (fun x => x.1.isSome) && decide ((e :: es).length + ([] : List Keyword).length + (if ([] : List Keyword).isEmpty then 0 else 1) < 30)) = true := by rfl)
    (hl : (apos.endLine == cpos.line) = true := by rfl) (hs : starEach (e :: es) X.env = (false, eval e X.env) :: starEach es X.env := by rfl) (hp : (backTo cpos (starEach es X.env)).any (·.1) = false := by rfl) :
    PE X (.Call (.Attribute o name apos) (e :: es) [] cpos) (vLM r to t) :=
  im_pe (pe_bm PySem.F.plainAttrs_list slot hty hm (up_pe ho) ha hb hf hl hs hp) fun _ _ _ h => ⟨_, h, fun _ _ z => ⟨tyL z.1, z.2⟩⟩
end
def wAppend : V → List V → Hp → VK → Prop := fun x vs H Q => refR x fun l => lstO (H l) fun xs => one1 vs fun y => xs.length < sizeLine ∧ Q .non (upd H l (.lst (xs ++ [y])))
theorem m_append : MtR X "list.append" wAppend := im_mt (r := rAppend) mt_append fun x vs H Q z => by
  obtain ⟨l, e1, z1⟩ := refR_el z
  obtain ⟨xs, e2, z2⟩ := lstO_el z1
  obtain ⟨y, e3, z3⟩ := one1_el z2
  exact ⟨l, xs, y, e1, e3, e2, z3.1, z3.2⟩
def wPopAt : V → List V → Hp → VK → Prop := fun x vs H Q => refR x fun l => lstO (H l) fun xs => one1 vs fun y => intR y fun i => (0 ≤ i ∧ i < 2 ^ 63) ∧ optR (xs[i.toNat]?) fun v => Q v (upd H l (.lst (xs.eraseIdx i.toNat)))
theorem m_popAt : MtR X "list.pop" wPopAt := im_mt (r := rPopAt) mt_popAt fun x vs H Q z => by
  obtain ⟨l, e1, z1⟩ := refR_el z
  obtain ⟨xs, e2, z2⟩ := lstO_el z1
  obtain ⟨y, e3, z3⟩ := one1_el z2
  obtain ⟨i, e4, ⟨h0, h1⟩, z4⟩ := intR_el z3
  obtain ⟨v, e5, z5⟩ := optR_el z4
  subst e4
  have hl : i.toNat < xs.length := (List.getElem?_eq_some_iff.mp e5).1
  exact ⟨l, xs, i, i.toNat, v, e1, e3, e2, by omega, h1, PySem.StrLaws.seqIndex_nonneg h0 (by omega), e5, z5⟩
def wInsert0 : V → List V → Hp → VK → Prop := fun x vs H Q => refR x fun l => lstO (H l) fun xs => two2 vs fun i y => (i = .int 0 ∧ xs.length < sizeLine) ∧ Q .non (upd H l (.lst (y :: xs)))
theorem m_insert0 : MtR X "list.insert" wInsert0 := im_mt mt_insert fun x vs H Q z => by
  obtain ⟨l, e1, z1⟩ := refR_el z
  obtain ⟨xs, e2, z2⟩ := lstO_el z1
  obtain ⟨i, y, e3, ⟨h0, h1⟩, z3⟩ := two2_el z2
  subst h0
  exact ⟨l, xs, 0, y, e1, e3, e2, h1, by decide, by decide, z3⟩
def vStar (te : TE) (t : TA) : TA := fun σ H Q => te σ H fun y H1 => refR y fun a => lstO (H1 a) fun xs => t σ H1 fun vs H2 => Q (xs ++ vs) H2
theorem q_star {te : TE} {t : TA} {p : Pos} (he : PE X e te) (hr : PA X es t) (hs : starEach (.Starred e p :: es) X.env = (true, eval e X.env) :: starEach es X.env := by rfl) : PA X (.Starred e p :: es) (vStar te t) := by
  refine ⟨fun pos pins s σ H Q I h => PySem.W.items_star (thn (he.run pins s σ H _ I h) fun v s1 z => ?_) hs⟩
  obtain ⟨y, H1, I1, ry, z1⟩ := z
  obtain ⟨a, ey, z2⟩ := refR_el z1
  obtain ⟨xs, hx, q⟩ := lstO_el z2
  subst ey
  obtain rfl : v = Value.ref a := ry
  refine StX.star_any I1 (.inr (SqL.of hx)) fun us s2 I2 rv => thn (hr.run pos pins s2 σ H1 _ I2 q) fun ws s3 z => ?_
  obtain ⟨vs, H3, I3, r3, q3⟩ := z
  exact ⟨xs ++ vs, H3, I3, rv.append r3, q3⟩
def wSetL : TSet := fun x y v H Q => refR x fun l => lstO (H l) fun xs => intR y fun i => optR (ixN xs.length i) fun j => Q (upd H l (.lst (xs.set j v)))
theorem s_setL : PSet X wSetL := by
  intro pins s σ H o i v ov iv u Q I ro ri rv h
  obtain ⟨p, e1, h1⟩ := refR_el h
  obtain ⟨xs, e2, h2⟩ := lstO_el h1
  obtain ⟨k, e3, h3⟩ := intR_el h2
  obtain ⟨j, e4, h4⟩ := optR_el h3
  exact set_list pins s σ H o i v ov iv u Q I ro ri rv ⟨p, xs, k, j, e1, e3, e2, e4, h4⟩
theorem ixN_nat {n j : Nat} (h : j < n) : ixN n (j : Int) = some j := by
  unfold ixN
  rw [if_pos (by omega), if_pos (by omega)]
  simp
theorem ixN_zero {n : Nat} : ixN (n + 1) 0 = some 0 := ixN_nat (j := 0) (by omega)
theorem ixN_one {n : Nat} : ixN (n + 1 + 1) 1 = some 1 := ixN_nat (j := 1) (by omega)
/-! dicts with ints and texts as keys -/
def vDGet (td ty : TE) : TE := fun σ H Q => td σ H fun x H1 => ty σ H1 fun y H2 => refR x fun a => dkR (H2 a) fun kvs => keyR y fun k => optR (valV kvs k) fun v => Q v H2
def vDIn (ty td : TE) : TE := fun σ H Q => ty σ H fun y H1 => td σ H1 fun x H2 => refR x fun a => dkR (H2 a) fun kvs => keyR y fun k => Q (.bl (valV kvs k).isSome) H2
def vDNotIn (ty td : TE) : TE := fun σ H Q => ty σ H fun y H1 => td σ H1 fun x H2 => refR x fun a => dkR (H2 a) fun kvs => keyR y fun k => Q (.bl (!(valV kvs k).isSome)) H2
def vsDPut (td ty tv : TE) : TS := fun D σ H => tv σ H fun v H1 => td σ H1 fun x H2 => ty σ H2 fun y H3 => refR x fun a => dkO (H3 a) fun kvs => keyR y fun k => kvs.length < sizeLine ∧ D.nx σ (upd H3 a (.dK (putK kvs k v)))
def vDGet2 (td ty tx : TE) : TE := fun σ H Q => td σ H fun x H1 => ty σ H1 fun y H2 => tx σ H2 fun z H3 => refR x fun a => dkR (H1 a) fun _ => dkR (H3 a) fun kvs => keyR y fun k => Q ((valV kvs k).getD z) H3
theorem dget_of {H : Hp} {a : Addr} {kvs : List (Key × V)} {k : Key} {o : Option V} (e : Rd H a (.dK kvs)) (ho : valV kvs k = o) : DGet H a (kV k) o := by
  rw [← ho]
  exact .inl ⟨kvs, k, e, rfl, rfl⟩
variable {td ty tx tv : TE} {i : Expr}
theorem q_dget (hu : X.A.units + 1 < cLine) (ho : PE X o td) (hi : PE X i ty) (hs : NoSl i) : PE X (.Subscript o i pos) (vDGet td ty) := im_pe (pe_dget hu (up_pe ho) (up_pe hi) hs) fun _ _ _ h => ⟨_, h, fun _ _ h1 => ⟨_, h1, fun _ _ z => by
  obtain ⟨a, e1, z1⟩ := refR_el z
  obtain ⟨kvs, e2, z2⟩ := dkR_el z1
  obtain ⟨k, e3, z3⟩ := keyR_el z2
  obtain ⟨v, e4, z4⟩ := optR_el z3
  exact ⟨a, v, e1, by rw [e3]; exact dget_of e2 e4, z4⟩⟩⟩
theorem q_din (hu : X.A.units + 1 < cLine) (hi : PE X i ty) (ho : PE X o td) (h1 : behindInMarks .In o = false := by rfl) : PE X (.Compare i [.In] [o] pos) (vDIn ty td) := im_pe (pe_cmp (pc_din hu (up_pe hi) (up_pe ho)) h1) fun _ _ _ h => ⟨_, h, fun _ _ h1 => ⟨_, h1, fun _ _ z => by
  obtain ⟨a, e1, z1⟩ := refR_el z
  obtain ⟨kvs, e2, z2⟩ := dkR_el z1
  obtain ⟨k, e3, z3⟩ := keyR_el z2
  exact ⟨a, _, e1, by rw [e3]; exact dget_of e2 rfl, z3⟩⟩⟩
theorem q_dnotin (hu : X.A.units + 1 < cLine) (hi : PE X i ty) (ho : PE X o td) (h1 : behindInMarks .NotIn o = false := by rfl) : PE X (.Compare i [.NotIn] [o] pos) (vDNotIn ty td) := im_pe (pe_cmp (pc_dnotin hu (up_pe hi) (up_pe ho)) h1) fun _ _ _ h => ⟨_, h, fun _ _ h1 => ⟨_, h1, fun _ _ z => by
  obtain ⟨a, e1, z1⟩ := refR_el z
  obtain ⟨kvs, e2, z2⟩ := dkR_el z1
  obtain ⟨k, e3, z3⟩ := keyR_el z2
  exact ⟨a, _, e1, by rw [e3]; exact dget_of e2 rfl, z3⟩⟩⟩
theorem q_tin (hu : X.A.units + 1 < cLine) (hi : PE X i ty) (ho : PE X o td) (h1 : behindInMarks .In o = false := by rfl) : PT X (.Compare i [.In] [o] pos) (vTest (vDIn ty td)) := im_pt (pt_cmp (pc_din hu (up_pe hi) (up_pe ho)) h1) fun _ _ _ h => ⟨_, h, fun _ _ h1 => ⟨_, h1, fun _ _ z => by
  obtain ⟨a, e1, z1⟩ := refR_el z
  obtain ⟨kvs, e2, z2⟩ := dkR_el z1
  obtain ⟨k, e3, z3⟩ := keyR_el z2
  exact ⟨a, _, e1, by rw [e3]; exact dget_of e2 rfl, _, rfl, z3⟩⟩⟩
theorem q_tnotin (hu : X.A.units + 1 < cLine) (hi : PE X i ty) (ho : PE X o td) (h1 : behindInMarks .NotIn o = false := by rfl) : PT X (.Compare i [.NotIn] [o] pos) (vTest (vDNotIn ty td)) := im_pt (pt_cmp (pc_dnotin hu (up_pe hi) (up_pe ho)) h1) fun _ _ _ h => ⟨_, h, fun _ _ h1 => ⟨_, h1, fun _ _ z => by
  obtain ⟨a, e1, z1⟩ := refR_el z
  obtain ⟨kvs, e2, z2⟩ := dkR_el z1
  obtain ⟨k, e3, z3⟩ := keyR_el z2
  exact ⟨a, _, e1, by rw [e3]; exact dget_of e2 rfl, _, rfl, z3⟩⟩⟩
theorem q_dput {pos' : Pos} (hu : X.A.units + 1 < cLine) (ho : PE X o td) (hi : PE X i ty) (hv : PE X e tv) (hs : swapsWith e (some (.Subscript o i pos')) pos.line X.env = pure false) : PS X (.Assign [.Subscript o i pos'] e pos) (vsDPut td ty tv) :=
  im_ps (ps_dput hu (up_pe ho) (up_pe hi) (up_pe hv) hs) fun _ _ _ h => ⟨_, h, fun _ _ h1 => ⟨_, h1, fun _ _ h2 => ⟨_, h2, fun _ _ z => by
    obtain ⟨a, e1, z1⟩ := refR_el z
    obtain ⟨kvs, e2, z2⟩ := dkO_el z1
    obtain ⟨k, e3, hz, z3⟩ := keyR_el z2
    exact ⟨a, _, e1, by rw [e3]; exact DPut.k e2 hz, z3⟩⟩⟩⟩
theorem e_dput {td ty tv : TE} (n : L2.St → Hp → Prop) (r : VK) (k l : L2.St → Hp → Prop) (σ : L2.St) (H : Hp) : vsDPut td ty tv ⟨n, r, k, l⟩ σ H =
    tv σ H fun v H1 => td σ H1 fun x H2 => ty σ H2 fun y H3 => refR x fun a => dkO (H3 a) fun kvs => keyR y fun k => kvs.length < sizeLine ∧ n σ (upd H3 a (.dK (putK kvs k v))) := rfl
theorem i_add : InOp X .Add (fun x y H Q => ∃ i j, x = .int i ∧ y = .int j ∧ Q (.int ((fun i j => i + j) i j)) H) := in_add
theorem i_sub : InOp X .Sub (fun x y H Q => ∃ i j, x = .int i ∧ y = .int j ∧ Q (.int ((fun i j => i - j) i j)) H) := in_sub
end
theorem putF_hit (f : Str) (v x : V) (r : List (Str × V)) : putF f v ((f, x) :: r) = (f, v) :: r := by
  show (if f = f then _ else _) = _
  rw [if_pos rfl]
theorem putF_miss {f g : Str} (v x : V) (r : List (Str × V)) (h : ¬ g = f) : putF f v ((g, x) :: r) = (g, x) :: putF f v r := by
  show (if g = f then _ else _) = _
  rw [if_neg h]
theorem putF_nil (f : Str) (v : V) : putF f v [] = [(f, v)] := rfl
theorem lk_hit (f : Str) (x : V) (r : List (Str × V)) : List.lookup f ((f, x) :: r) = some x := by simp [List.lookup]
theorem lk_miss {f g : Str} (x : V) (r : List (Str × V)) (h : ¬ f = g) : List.lookup f ((g, x) :: r) = List.lookup f r := by
  have hb : (f == g) = false := beq_eq_false_iff_ne.mpr h
  simp [List.lookup, hb]
theorem lk_nil (f : Str) : List.lookup f ([] : List (Str × V)) = none := rfl
theorem cx_K {CX : CXT} {P : Program} {w : World} {K : PySem.W.Frag} {mg : Str → Option Value} {base : Heap} {N : List Str} {qual : Str} {scope : Scope} {f : Addr} {cd : Value} {A' : Around} {outer : List Env} {s : Shared} {H : Hp} {E : XK} : (cxOf CX P w K mg base N qual scope f cd A' outer s H E).K = K := rfl
theorem cx_prog {CX : CXT} {P : Program} {w : World} {K : PySem.W.Frag} {mg : Str → Option Value} {base : Heap} {N : List Str} {qual : Str} {scope : Scope} {f : Addr} {cd : Value} {A' : Around} {outer : List Env} {s : Shared} {H : Hp} {E : XK} : (cxOf CX P w K mg base N qual scope f cd A' outer s H E).prog = P := rfl
theorem cx_w {CX : CXT} {P : Program} {w : World} {K : PySem.W.Frag} {mg : Str → Option Value} {base : Heap} {N : List Str} {qual : Str} {scope : Scope} {f : Addr} {cd : Value} {A' : Around} {outer : List Env} {s : Shared} {H : Hp} {E : XK} : (cxOf CX P w K mg base N qual scope f cd A' outer s H E).w = w := rfl
theorem blkK {X : Cx} {s : Shared} {H : Hp} {scope : Scope} {ce : Env} {fp : List Addr} : (X.blk s H scope ce fp).K = X.K := rfl
end OA

namespace OA
open PySem PySem.Spec PyProof.Rows L2
theorem kit_NoneType_bool : kitB "NoneType" "bool" = some false := by decide +kernel
theorem kit_NoneType_int : kitB "NoneType" "int" = some false := by decide +kernel
theorem kit_NoneType_str : kitB "NoneType" "str" = some false := by decide +kernel
theorem kit_NoneType_list : kitB "NoneType" "list" = some false := by decide +kernel
theorem kit_NoneType_tuple : kitB "NoneType" "tuple" = some false := by decide +kernel
theorem kit_NoneType_dict : kitB "NoneType" "dict" = some false := by decide +kernel
theorem kit_bool_bool : kitB "bool" "bool" = some true := by decide +kernel
theorem kit_bool_int : kitB "bool" "int" = some true := by decide +kernel
theorem kit_bool_str : kitB "bool" "str" = some false := by decide +kernel
theorem kit_bool_list : kitB "bool" "list" = some false := by decide +kernel
theorem kit_bool_tuple : kitB "bool" "tuple" = some false := by decide +kernel
theorem kit_bool_dict : kitB "bool" "dict" = some false := by decide +kernel
theorem kit_int_bool : kitB "int" "bool" = some false := by decide +kernel
theorem kit_int_int : kitB "int" "int" = some true := by decide +kernel
theorem kit_int_str : kitB "int" "str" = some false := by decide +kernel
theorem kit_int_list : kitB "int" "list" = some false := by decide +kernel
theorem kit_int_tuple : kitB "int" "tuple" = some false := by decide +kernel
theorem kit_int_dict : kitB "int" "dict" = some false := by decide +kernel
theorem kit_str_bool : kitB "str" "bool" = some false := by decide +kernel
theorem kit_str_int : kitB "str" "int" = some false := by decide +kernel
theorem kit_str_str : kitB "str" "str" = some true := by decide +kernel
theorem kit_str_list : kitB "str" "list" = some false := by decide +kernel
theorem kit_str_tuple : kitB "str" "tuple" = some false := by decide +kernel
theorem kit_str_dict : kitB "str" "dict" = some false := by decide +kernel
theorem kit_list_bool : kitB "list" "bool" = some false := by decide +kernel
theorem kit_list_int : kitB "list" "int" = some false := by decide +kernel
theorem kit_list_str : kitB "list" "str" = some false := by decide +kernel
theorem kit_list_list : kitB "list" "list" = some true := by decide +kernel
theorem kit_list_tuple : kitB "list" "tuple" = some false := by decide +kernel
theorem kit_list_dict : kitB "list" "dict" = some false := by decide +kernel
theorem kit_tuple_bool : kitB "tuple" "bool" = some false := by decide +kernel
theorem kit_tuple_int : kitB "tuple" "int" = some false := by decide +kernel
theorem kit_tuple_str : kitB "tuple" "str" = some false := by decide +kernel
theorem kit_tuple_list : kitB "tuple" "list" = some false := by decide +kernel
theorem kit_tuple_tuple : kitB "tuple" "tuple" = some true := by decide +kernel
theorem kit_tuple_dict : kitB "tuple" "dict" = some false := by decide +kernel
theorem kit_dict_bool : kitB "dict" "bool" = some false := by decide +kernel
theorem kit_dict_int : kitB "dict" "int" = some false := by decide +kernel
theorem kit_dict_str : kitB "dict" "str" = some false := by decide +kernel
theorem kit_dict_list : kitB "dict" "list" = some false := by decide +kernel
theorem kit_dict_tuple : kitB "dict" "tuple" = some false := by decide +kernel
theorem kit_dict_dict : kitB "dict" "dict" = some true := by decide +kernel
section
variable {X : Cx}
def tyO (o : Option HO) : Option String := match o with
  | some (.lst _) => some "list"
  | some (.tup _) => some "tuple"
  | some (.dK _) => some "dict"
  | _ => none
def tyN (x : V) (H : Hp) : Option String := match x with
  | .non => some "NoneType"
  | .bl _ => some "bool"
  | .int _ => some "int"
  | .str _ => some "str"
  | .ref a => tyO (H a)
  | _ => none
theorem tyO_l {xs : List V} : tyO (some (.lst xs)) = some "list" := rfl
theorem tyO_t {xs : List V} : tyO (some (.tup xs)) = some "tuple" := rfl
theorem tyO_d {xs : List (Key × V)} : tyO (some (.dK xs)) = some "dict" := rfl
theorem tyN_n {H : Hp} : tyN .non H = some "NoneType" := rfl
theorem tyN_b {H : Hp} {b : Bool} : tyN (.bl b) H = some "bool" := rfl
theorem tyN_i {H : Hp} {b : Int} : tyN (.int b) H = some "int" := rfl
theorem tyN_s {H : Hp} {b : Str} : tyN (.str b) H = some "str" := rfl
theorem tyN_r {H : Hp} {a : Addr} : tyN (.ref a) H = tyO (H a) := rfl
theorem tyN_is {K : PySem.W.Frag} {x : V} {H : Hp} {n : String} (h : tyN x H = some n) : TyX K H x (.type n) := by
  cases x with
  | non => cases h; exact .base .non
  | bl b => cases h; exact .base (.bl b)
  | int b => cases h; exact .base (.int b)
  | str b => cases h; exact .base (.str b)
  | ref a =>
    have h : tyO (H a) = some n := h
    unfold tyO at h
    split at h
    · rename_i xs e; cases h; exact .base (.lst e)
    · rename_i xs e; cases h; exact .base (.tup e)
    · rename_i xs e; cases h; exact .base (.dK e)
    · cases h
  | _ => cases h
def tyR (x : V) (k : String → Prop) : Prop := match x with | .ty n => k n | _ => False
theorem tyR_e {n : String} {k : String → Prop} : tyR (.ty n) k = k n := rfl
theorem tyR_el {x : V} {k : String → Prop} (h : tyR x k) : ∃ a, x = .ty a ∧ k a := by cases x <;> first | exact ⟨_, rfl, h⟩ | exact h.elim
def wIsi (vs : List V) (H : Hp) (Q : VK) : Prop := two2 vs fun x c => tyR c fun n => optR (tyN x H) fun t => optR (kitB t n) fun r => Q (.bl r) H
theorem c_isi : CallR X (.builtin "isinstance") wIsi := im_call call_isi fun vs H Q z => by
  obtain ⟨x, c, e1, z1⟩ := two2_el z
  obtain ⟨n, e2, z2⟩ := tyR_el z1
  obtain ⟨t, e3, z3⟩ := optR_el z2
  obtain ⟨r, e4, z4⟩ := optR_el z3
  subst e2
  exact ⟨x, _, .type t, .type n, r, e1, .ty n, tyN_is e3, kit_ty e4, z4⟩
/-! loops -/
def vWhile (c : TT) (tb : TS) : TS := fun D σ H => ∃ (Pv : Nat → L2.St → Hp → Prop) (m0 : Nat), Pv m0 σ H ∧ ∀ m σ H, Pv m σ H → c σ H fun b H1 => if b = true then Later (tb ⟨fun σ' H' => ∃ m', m' < m ∧ Pv m' σ' H', D.rt, D.nx, fun σ' H' => ∃ m', m' < m ∧ Pv m' σ' H'⟩) σ H1 else Later D.nx σ H1
theorem q_while {c : Expr} {body : List Stmt} {tc : TT} {tb : TS} {pos : Pos} (hp : PassesOwn (model X.prog X.w) X.A X.env X.xe) (hc : PT X c tc) (hb : PSs X body tb) : PS X (.While c body [] pos) (vWhile tc tb) :=
  im_ps (ps_while hp (up_pt hc) hb) fun D σ H h => by
    obtain ⟨Pv, m0, h0, hs⟩ := h
    refine ⟨Pv, ⟨m0, h0⟩, fun m σ H p => ⟨_, hs m σ H p, fun b H1 q => ?_⟩⟩
    cases b with
    | true => exact ⟨_, fun _ _ z => z, q⟩
    | false => exact q
theorem e_while {c : TT} {tb : TS} (n : L2.St → Hp → Prop) (r : VK) (k l : L2.St → Hp → Prop) (σ : L2.St) (H : Hp) : vWhile c tb ⟨n, r, k, l⟩ σ H =
    ∃ (Pv : Nat → L2.St → Hp → Prop) (m0 : Nat), Pv m0 σ H ∧ ∀ m σ H, Pv m σ H → c σ H fun b H1 => if b = true then Later (tb ⟨fun σ' H' => ∃ m', m' < m ∧ Pv m' σ' H', r, n, fun σ' H' => ∃ m', m' < m ∧ Pv m' σ' H'⟩) σ H1 else Later n σ H1 := rfl
/-! targets -/
def upG (g : TG) : TG := fun v σ H Q => ∃ Q' : L2.St → Hp → Prop, g v σ H Q' ∧ ∀ σ' H', Q' σ' H' → Q σ' H'
theorem up_pg {tg : Expr} {g : TG} (h : PG X tg g) : PG X tg (upG g) := ⟨fun pins s σ H v u Q I r ⟨Q', z, m⟩ => thn (h.run pins s σ H v u Q' I r z) fun _ _ ⟨σ', H', I', q⟩ => ⟨σ', H', I', m σ' H' q⟩⟩
theorem im_pg {tg : Expr} {g g' : TG} (h : PG X tg g) (i : ∀ v σ H Q, g' v σ H Q → g v σ H Q) : PG X tg g' := ⟨fun pins s σ H v u Q I r z => h.run pins s σ H v u Q I r (i v σ H Q z)⟩
theorem im_pgs {ts : List Expr} {g g' : TGs} (h : PGs X ts g) (i : ∀ v σ H Q, g' v σ H Q → g v σ H Q) : PGs X ts g' := ⟨fun pins s σ H v u Q I r z => h.run pins s σ H v u Q I r (i v σ H Q z)⟩
def vgTup (n : Nat) (t : TGs) : TG := fun v σ H Q => refR v fun a => tupO (H a) fun xs => xs.length = n ∧ t xs σ H Q
def vgCons (t : TG) (u : TGs) : TGs := fun vs σ H Q => match vs with | v :: r => t v σ H fun σ' H' => u r σ' H' Q | [] => False
theorem vgCons_e {t : TG} {u : TGs} {v : V} {r : List V} {σ : L2.St} {H : Hp} {Q : L2.St → Hp → Prop} : vgCons t u (v :: r) σ H Q = t v σ H fun σ' H' => u r σ' H' Q := rfl
def vgNil : TGs := fun vs σ H Q => vs = [] ∧ Q σ H
theorem vgNil_e {σ : L2.St} {H : Hp} {Q : L2.St → Hp → Prop} : vgNil [] σ H Q = Q σ H := by unfold vgNil; simp
theorem q_gcons {e : Expr} {es : List Expr} {t : TG} {u : TGs} (h1 : PG X e t) (h2 : PGs X es u)
    (hs : (assignEach (e :: es) X.env).map (·.2) = assign e X.env :: (assignEach es X.env).map (·.2) := by rfl) : PGs X (e :: es) (vgCons t u) := im_pgs (pgs_cons h1 h2 hs) fun vs σ H Q z => by
  cases vs with
  | nil => exact (show False from z).elim
  | cons v r => exact ⟨v, r, rfl, z⟩
theorem q_gnil : PGs X [] vgNil := pgs_nil
theorem q_gtup {es : List Expr} {kk : Nat} {t : TGs} {n : Nat} {pos : Pos} (hc : X.calm = true) (h : PGs X es t)
    (hn : (assignEach es X.env).length = n := by rfl) (hst : (assignEach es X.env).findIdx? (·.1) = none := by rfl) : PG X (.Tuple es kk pos) (vgTup n t) := im_pg (pg_tup hc h hn hst) fun v σ H Q z => by
  obtain ⟨a, e1, z1⟩ := refR_el z
  obtain ⟨xs, e2, e3, z2⟩ := tupO_el z1
  exact ⟨a, xs, e1, SqT.of e2, e3, z2⟩
theorem e_asgG (te : TE) (g : TG) (n : L2.St → Hp → Prop) (r : VK) (k l : L2.St → Hp → Prop) (σ : L2.St) (H : Hp) : tAsg te g ⟨n, r, k, l⟩ σ H = te σ H fun x H1 => g x σ H1 n := rfl
/-! what is walked -/
def upI (wi : TI) : TI := fun σ H R => ∃ R' : It → Hp → Prop, wi σ H R' ∧ ∀ J H', R' J H' → R J H'
theorem up_pi {tg it : Expr} {wi : TI} (h : PI X tg it wi) : PI X tg it (upI wi) := ⟨fun pins s σ H R I ⟨R', z, m⟩ => thn (h.run pins s σ H R' I z) fun v s1 h1 => thn h1 fun itv s2 ⟨it, fp, tn, J, H', e, I', T, st, f, q⟩ => ⟨it, fp, tn, J, H', e, I', T, st, f, m J H' q⟩⟩
theorem im_pi {tg it : Expr} {wi wi' : TI} (h : PI X tg it wi) (i : ∀ σ H R, wi' σ H R → wi σ H R) : PI X tg it wi' := ⟨fun pins s σ H R I z => h.run pins s σ H R I (i σ H R z)⟩
def viList (K : PySem.W.Frag) (tl : TE) : TI := fun σ H R => tl σ H fun x H1 => refR x fun a => lstO (H1 a) fun _ => R (Itl K a) H1
def viTup (K : PySem.W.Frag) (tl : TE) : TI := fun σ H R => tl σ H fun x H1 => refR x fun a => tupO (H1 a) fun _ => R (Itt K a) H1
def viStr (tl : TE) : TI := fun σ H R => tl σ H fun x H1 => strR x fun z => R (Its z) H1
def viR1 (ta : TA) : TI := fun σ H R => ta σ H fun vs H1 => one1 vs fun x => intR x fun j => (-(2 ^ 62) ≤ j ∧ j < 2 ^ 62) ∧ R (Itr 0 j.toNat) H1
def viEnum (K : PySem.W.Frag) (ta : TA) : TI := fun σ H R => ta σ H fun vs H1 => one1 vs fun x => refR x fun a => lstO (H1 a) fun _ => R (Ite K a) H1
section
variable {tg l : Expr} {tl : TE}
theorem qi_str (hl : PE X l tl) : PI X tg l (viStr tl) := im_pi (pi_str (up_pe hl)) fun _ _ _ h => ⟨_, h, fun _ _ z => by
  obtain ⟨a, e1, z1⟩ := strR_el z
  exact ⟨a, e1, z1⟩⟩
theorem qi_list (hl : PE X l tl) : PI X tg l (viList X.K tl) := im_pi (pi_list (up_pe hl)) fun _ _ _ h => ⟨_, h, fun _ _ z => by
  obtain ⟨a, e1, z1⟩ := refR_el z
  obtain ⟨xs, e2, z2⟩ := lstO_el z1
  exact ⟨a, e1, ⟨xs, SqL.of e2⟩, z2⟩⟩
theorem qi_tup (hl : PE X l tl) : PI X tg l (viTup X.K tl) := im_pi (pi_tup (up_pe hl)) fun _ _ _ h => ⟨_, h, fun _ _ z => by
  obtain ⟨a, e1, z1⟩ := refR_el z
  obtain ⟨xs, e2, z2⟩ := tupO_el z1
  exact ⟨a, e1, ⟨xs, SqT.of e2⟩, z2⟩⟩
theorem qi_r1 {a : Expr} {ta : TA} {p pos : Pos} (hg : Gl X "range") (hm : X.mg "range" = none) (ha : PA X [a] ta) (hs : starEach [a] X.env = [(false, eval a X.env)] := by rfl) : PI X tg (.Call (.Name "range" p) [a] [] pos) (viR1 ta) :=
  im_pi (pi_range1 hg hm (up_pa ha) hs) fun _ _ _ h => ⟨_, h, fun _ _ z => by
    obtain ⟨x, e1, z1⟩ := one1_el z
    obtain ⟨j, e2, ⟨h1, h2⟩, z2⟩ := intR_el z1
    subst e2
    exact ⟨j, e1, h1, h2, z2⟩⟩
theorem qi_enum {e : Expr} {ta : TA} {p pos tpos : Pos} {elts : List Expr} {kk : Nat} (hg : Gl X "enumerate") (hm : X.mg "enumerate" = none) (ha : PA X [e] ta) (hs : starEach [e] X.env = [(false, eval e X.env)] := by rfl) :
    PI X (.Tuple elts kk tpos) (.Call (.Name "enumerate" p) [e] [] pos) (viEnum X.K ta) := im_pi (pi_enum hg hm (up_pa ha) hs) fun _ _ _ h => ⟨_, h, fun _ _ z => by
    obtain ⟨x, e1, z1⟩ := one1_el z
    obtain ⟨j, e2, z2⟩ := refR_el z1
    obtain ⟨xs, e3, z3⟩ := lstO_el z2
    subst e2
    exact ⟨j, xs, e1, SqL.of e3, z3⟩⟩
end
def vFor (wi : TI) (g : TG) (tb : TS) : TS := fun D σ H => wi σ H fun J H1 => ∃ (n : Nat) (G : Hp → Prop) (Y : Nat → Hp → V → Hp → Prop) (Pv : Nat → L2.St → Hp → Prop), Walk J n G Y ∧ Pv 0 σ H1 ∧ (∀ i σ H, i ≤ n → Pv i σ H → G H) ∧
  (∀ i x σ H H', i < n → Pv i σ H → Y i H x H' → g x σ H' fun σ2 H2 => Later (tb ⟨Pv (i + 1), D.rt, D.nx, Pv (i + 1)⟩) σ2 H2) ∧ ∀ σ H, Pv n σ H → D.nx σ H
theorem q_for {tg iter : Expr} {body : List Stmt} {wi : TI} {g : TG} {tb : TS} {pos : Pos} (hp : PassesOwn (model X.prog X.w) X.A X.env X.xe) (hc : X.calm = true) (hi : PI X tg iter wi) (hg : PG X tg g) (hb : PSs X body tb)
    (hs : ∀ x, foldedSetIterable iter X.env x = pure x := by intro _; rfl) : PS X (.For tg iter body [] pos) (vFor wi g tb) := im_ps (ps_for hp hc (up_pi hi) hg hb hs) fun D σ H h => ⟨_, h, fun J H1 z => by
  obtain ⟨n, G, Y, Pv, w, h0, hG, hs, hd⟩ := z
  exact for_it w Pv h0 hG hs hd⟩
theorem e_for {wi : TI} {g : TG} {tb : TS} (n : L2.St → Hp → Prop) (r : VK) (k l : L2.St → Hp → Prop) (σ : L2.St) (H : Hp) : vFor wi g tb ⟨n, r, k, l⟩ σ H =
    wi σ H fun J H1 => ∃ (m : Nat) (G : Hp → Prop) (Y : Nat → Hp → V → Hp → Prop) (Pv : Nat → L2.St → Hp → Prop), Walk J m G Y ∧ Pv 0 σ H1 ∧ (∀ i σ H, i ≤ m → Pv i σ H → G H) ∧
      (∀ i x σ H H', i < m → Pv i σ H → Y i H x H' → g x σ H' fun σ2 H2 => Later (tb ⟨Pv (i + 1), r, n, Pv (i + 1)⟩) σ2 H2) ∧ ∀ σ H, Pv m σ H → n σ H := rfl
/-! comprehensions -/
theorem up_pts {es : List Expr} {t : TT} (h : PTs X es t) : PTs X es (upT t) := ⟨fun pins s σ H Q I ⟨Q', z, m⟩ => thn (h.run pins s σ H Q' I z) fun _ _ ⟨H', I', q⟩ => ⟨H', I', m _ H' q⟩⟩
def vLc (wi : TI) (g : TG) (tt : TT) (te : TE) (vs : List Nat) : TE := fun σ H Q => wi σ H fun J H1 => ∀ D, H1 D = none → ∃ (n : Nat) (G : Hp → Prop) (Y : Nat → Hp → V → Hp → Prop) (Pv : Nat → Hp → Prop), Walk J n G Y ∧ Pv 0 (upd H1 D (.lst [])) ∧ (∀ i H, i ≤ n → Pv i H → G H) ∧
  (∀ i x H H', i < n → Pv i H → Y i H x H' → g x (wipe σ vs) H' fun σ2 H2 => wipe σ2 vs = wipe σ vs ∧ tt σ2 H2 fun b H3 => if b = true then te σ2 H3 fun y H4 => lstO (H4 D) fun acc => acc.length < sizeLine ∧ Pv (i + 1) (upd H4 D (.lst (acc ++ [y]))) else Pv (i + 1) H3) ∧ ∀ H, Pv n H → Q (.ref D) H
theorem vLc_to {wi : TI} {g : TG} {tt : TT} {te : TE} {vs : List Nat} {σ : L2.St} {H : Hp} {Q : VK} (h : vLc wi g tt te vs σ H Q) : tLc (upI wi) (upG g) (upT tt) (upE te) vs σ H Q := ⟨_, h, fun J H1 z D hD => by
  obtain ⟨n, G, Y, Pv, w, h0, hG, hs, hd⟩ := z D hD
  refine lc_it w Pv h0 hG (fun i x H H' hi p y => ⟨_, hs i x H H' hi p y, fun σ2 H2 q => ⟨q.1, _, q.2, fun b H3 q3 => ?_⟩⟩) hd
  cases b with
  | true => exact ⟨_, q3, fun y H4 q4 => by
      obtain ⟨acc, e, z⟩ := lstO_el q4
      exact ⟨acc, e, z.1, z.2⟩⟩
  | false => exact q3⟩
theorem q_lc {elt tg iter : Expr} {ifs : List Expr} {scope : Scope} {own : List (Str × Nat)} {pos : Pos} {wi : TI} {g : TG} {tt : TT} {te : TE} (hc : X.calm = true) (hN : X.N.Nodup) (hi : PI X tg iter wi) (ok : BlkOk X.N X.env.scope scope own)
    (hg : ∀ (s : Shared) (H : Hp) (C : Addr) (cl : List (Str × Addr)) (fp : List Addr), PG (X.blk s H scope (compEnvC scope cl C X.env) fp) tg g) (ht : ∀ (s : Shared) (H : Hp) (C : Addr) (cl : List (Str × Addr)) (fp : List Addr), PTs (X.blk s H scope (compEnvC scope cl C X.env) fp) ifs tt)
    (he : ∀ (s : Shared) (H : Hp) (C : Addr) (cl : List (Str × Addr)) (fp : List Addr), PE (X.blk s H scope (compEnvC scope cl C X.env) fp) elt te) (hs : ∀ x, foldedSetIterable iter X.env x = pure x := by intro _; rfl) :
    PE X (.ListComp elt [⟨tg, iter, ifs, 0⟩] scope pos) (vLc wi g tt te (own.map (·.2))) :=
  im_pe (pe_lc hc hN (up_pi hi) ok (fun s H C cl fp => up_pg (hg s H C cl fp)) (fun s H C cl fp => up_pts (ht s H C cl fp)) (fun s H C cl fp => up_pe (he s H C cl fp)) hs) fun _ _ _ h => vLc_to h
theorem q_setLc {i : Nat} {y : Str} {py : Pos} {elt tg iter : Expr} {ifs : List Expr} {scope : Scope} {own : List (Str × Nat)} {pos spos : Pos} {wi : TI} {g : TG} {tt : TT} {te : TE} (hc : X.calm = true) (hN : X.N.Nodup) (hy : X.N[i]? = some y) (hyl : X.env.scope.names.lookup y = some .local)
    (hsw : swapsWith (.ListComp elt [⟨tg, iter, ifs, 0⟩] scope pos) (some (.Name y py)) spos.line X.env = pure true) (hi : PI X tg iter wi) (ok : BlkOk X.N X.env.scope scope own)
    (hg : ∀ (s : Shared) (H : Hp) (C : Addr) (cl : List (Str × Addr)) (fp : List Addr), PG (X.blk s H scope (compEnvC scope cl C X.env) fp) tg g) (ht : ∀ (s : Shared) (H : Hp) (C : Addr) (cl : List (Str × Addr)) (fp : List Addr), PTs (X.blk s H scope (compEnvC scope cl C X.env) fp) ifs tt)
    (he : ∀ (s : Shared) (H : Hp) (C : Addr) (cl : List (Str × Addr)) (fp : List Addr), PE (X.blk s H scope (compEnvC scope cl C X.env) fp) elt te) (hs : ∀ x, foldedSetIterable iter X.env x = pure x := by intro _; rfl) :
    PS X (.Assign [.Name y py] (.ListComp elt [⟨tg, iter, ifs, 0⟩] scope pos) spos) (tAsg (vLc wi g tt te (own.map (·.2))) (gName i)) :=
  im_ps (ps_setLc hc hN hy hyl hsw (up_pi hi) ok (fun s H C cl fp => up_pg (hg s H C cl fp)) (fun s H C cl fp => up_pts (ht s H C cl fp)) (fun s H C cl fp => up_pe (he s H C cl fp)) hs) fun _ _ _ h => vLc_to h
end
section
variable {X : Cx}
theorem _root_.L2.Room.units1 {k : Nat} {A : Around} (r : Room k A) : A.units + 65 < cLine := by have := r.un; omega
def rInDT (K : PySem.W.Frag) : R2 := fun x y H Q => ∃ d ds, Dp K H x d ∧ Dp K H y (.tuple ds) ∧ SeqAt.shaped d = true ∧ SeqAt.shaped (.tuple ds) = true ∧ Q (.bl (ds.any fun z => PyData.eqv z d)) H
theorem op_inDT (hu : X.A.units + 65 < cLine) : OpR X (compareOp .In) (rInDT X.K) := by
  rintro pins s σ H x y v u Q I rx ry ⟨d, ds, hd, he, sd, se, q⟩
  obtain ⟨as, r1⟩ := Dp.reads I d x v hd rx
  obtain ⟨bs, r2⟩ := Dp.reads I (.tuple ds) y u he ry
  have h1 := SeqAt.canLay_of_shaped se
  exact SeqAt.in_tuple_reads r2 r1 h1 (SeqAt.canLay_of_shaped sd) (room_in_shaped sd hu) ⟨.bl _, H, I, rfl, q⟩
def wInT (neg : Bool) : R2 := fun x y H Q => refR y fun p => tupO (H p) fun xs => (flatV x = true ∧ xs.all flatV = true) ∧ Q (.bl (if neg then !inV x xs else inV x xs)) H
theorem o_inT : OpR X (compareOp .In) (wInT false) := im_op op_in_seq fun x y H Q z => by
  obtain ⟨p, e1, z1⟩ := refR_el z
  obtain ⟨xs, e2, ⟨h1, h2⟩, z2⟩ := tupO_el z1
  exact ⟨p, xs, e1, .inr (SqT.of e2), h1, h2, z2⟩
theorem o_notInT : OpR X (compareOp .NotIn) (wInT true) := im_op op_notIn_seq fun x y H Q z => by
  obtain ⟨p, e1, z1⟩ := refR_el z
  obtain ⟨xs, e2, ⟨h1, h2⟩, z2⟩ := tupO_el z1
  exact ⟨p, xs, e1, .inr (SqT.of e2), h1, h2, z2⟩
theorem q_gi {x : Str} {i : Int} {pos : Pos} (hg : Gl X x) (hm : ∃ t, X.mg x = some (.int i t)) (hd : (x == ("__debug__" : Str)) = false := by decide) : PE X (.Name x pos) (tC (.int i)) := by
  obtain ⟨t, e⟩ := hm
  exact pe_glob hg e ⟨t, rfl⟩ hd
def vRev (te : TE) : TE := fun σ H Q => te σ H fun x H1 => refR x fun a => lstO (H1 a) fun xs => ∀ p, H1 p = none → Q (.ref p) (upd H1 p (.lst xs.reverse))
theorem q_rev {e : Expr} {te : TE} {k : Nat} {p1 p2 p3 pos : Pos} (he : PE X e te) : PE X (.Subscript e (.Slice none none (some (.UnaryOp .USub (.Constant (.int 1) k p1) p2)) p3) pos) (vRev te) := im_pe (pe_revL (up_pe he)) fun _ _ _ h => ⟨_, h, fun _ _ z => by
  obtain ⟨a, e1, z1⟩ := refR_el z
  obtain ⟨xs, e2, z2⟩ := lstO_el z1
  exact ⟨a, xs, e1, SqL.of e2, z2⟩⟩
theorem q_gr {x : Str} {a : Addr} {pos : Pos} (hg : Gl X x) (hm : X.mg x = some (.ref a)) (hd : (x == ("__debug__" : Str)) = false := by decide) : PE X (.Name x pos) (tC (.ref a)) := pe_glob hg hm (show RelV (.ref a) (.ref a) from rfl) hd
def wMulS : R2 := fun x y H Q => strR x fun z => intR y fun n => MulOk z n ∧ Q (.str (Txt.mul z n)) H
theorem o_mulS : OpR X (binaryOp .Mult) wMulS := by
  intro pins s σ H x y v u Q I rx ry z
  obtain ⟨a, e1, z1⟩ := strR_el z
  obtain ⟨n, e2, ok, q⟩ := intR_el z1
  subst e1; subst e2
  obtain ⟨t, rfl⟩ := rx
  obtain ⟨t', rfl⟩ := ry
  exact SB.mul ok fun t2 k => ⟨.str _, H, I.tok _, ⟨_, rfl⟩, q⟩
def frzO (o : Option HO) (k : Obj → List (Key × V) → Prop) : Prop := match o with | some (.frz od (.dK kvs)) => k od kvs | _ => False
theorem frzO_e {od : Obj} {kvs : List (Key × V)} {k : Obj → List (Key × V) → Prop} : frzO (some (.frz od (.dK kvs))) k = k od kvs := rfl
theorem frzO_el {o : Option HO} {k : Obj → List (Key × V) → Prop} (h : frzO o k) : ∃ od kvs, o = some (.frz od (.dK kvs)) ∧ k od kvs := by
  unfold frzO at h
  split at h
  · exact ⟨_, _, rfl, h⟩
  · exact h.elim
def viItems (td : TE) : TI := fun σ H R => td σ H fun x H1 => refR x fun d => frzO (H1 d) fun o kvs => R (Iti d o kvs) H1
def viKeys (td : TE) : TI := fun σ H R => td σ H fun x H1 => refR x fun d => frzO (H1 d) fun o kvs => R (Itk d o kvs) H1
theorem qi_items {elts : List Expr} {kk : Nat} {tpos apos cpos : Pos} {e : Expr} {td : TE} (he : PE X e td) (hbase : attributeBase e "items" X.env (eval e X.env) = eval e X.env := by rfl) (hline : (apos.endLine == cpos.line) = true := by rfl) :
    PI X (.Tuple elts kk tpos) (.Call (.Attribute e "items" apos) [] [] cpos) (viItems td) := im_pi (pi_items (up_pe he) hbase hline) fun _ _ _ h => ⟨_, h, fun _ _ z => by
  obtain ⟨d, e1, z1⟩ := refR_el z
  obtain ⟨o, kvs, e2, z2⟩ := frzO_el z1
  exact ⟨d, o, kvs, e1, e2, z2⟩⟩
theorem qi_keys {tg e : Expr} {td : TE} (he : PE X e td) : PI X tg e (viKeys td) := im_pi (pi_keys (up_pe he)) fun _ _ _ h => ⟨_, h, fun _ _ z => by
  obtain ⟨d, e1, z1⟩ := refR_el z
  obtain ⟨o, kvs, e2, z2⟩ := frzO_el z1
  exact ⟨d, o, e1, .inl ⟨kvs, e2, z2⟩⟩⟩
theorem e_lock {t : TS} (n : L2.St → Hp → Prop) (r : VK) (k l : L2.St → Hp → Prop) (σ : L2.St) (H : Hp) : tLock t ⟨n, r, k, l⟩ σ H = ∃ d u, H d = some u ∧ Mut (some u) ∧ ∀ od, t ⟨fun σ' H' => H' d = some (.frz od u) ∧ n σ' (upd H' d u), fun v H' => H' d = some (.frz od u) ∧ r v (upd H' d u),
    fun σ' H' => H' d = some (.frz od u) ∧ k σ' (upd H' d u), fun σ' H' => H' d = some (.frz od u) ∧ l σ' (upd H' d u)⟩ σ (upd H d (.frz od u)) := rfl
end
end OA

namespace OA
open PySem PySem.Spec PyProof.Rows L2
/-! dicts whose keys are tuples within tuples -/
mutual
/-- the value v is such a key, by what is tracked -/
inductive KeyAt (H : Hp) : V → NestedKey → Prop
  | non : KeyAt H .non .none
  | bl (b : Bool) : KeyAt H (.bl b) (.num (if b = true then 1 else 0))
  | int (i : Int) : KeyAt H (.int i) (.num i)
  | str (x : Str) : KeyAt H (.str x) (.text x)
  | tup {a : Addr} {vs : List V} {ks : List NestedKey} : H a = some (.tup vs) → KeysAt H vs ks → KeyAt H (.ref a) (.tup ks)
inductive KeysAt (H : Hp) : List V → List NestedKey → Prop
  | nil : KeysAt H [] []
  | cons {v : V} {k : NestedKey} {vs : List V} {ks : List NestedKey} : KeyAt H v k → KeysAt H vs ks → KeysAt H (v :: vs) (k :: ks)
end
section
variable {H H' : Hp}
mutual
theorem KeyAt.mono (ht : ∀ b xs, H b = some (.tup xs) → H' b = some (.tup xs)) : ∀ (k : NestedKey) (v : V), KeyAt H v k → KeyAt H' v k
  | .none, _, h => by cases h; exact .non
  | .num _, _, h => by
    cases h with
    | bl b => exact .bl b
    | int => exact .int _
  | .text _, _, h => by cases h; exact .str _
  | .tup ks, _, h => by
    cases h with
    | tup e r => exact .tup (ht _ _ e) (KeysAt.mono ht ks _ r)
theorem KeysAt.mono (ht : ∀ b xs, H b = some (.tup xs) → H' b = some (.tup xs)) : ∀ (ks : List NestedKey) (vs : List V), KeysAt H vs ks → KeysAt H' vs ks
  | [], _, h => by cases h; exact .nil
  | k :: ks, _, h => by
    cases h with
    | cons a b => exact .cons (KeyAt.mono ht k _ a) (KeysAt.mono ht ks _ b)
end
end
section
variable {X : Cx} {pins : List (Addr × Obj)} {σ : L2.St} {H : Hp} {s : Shared}
mutual
theorem KeyAt.is (I : Inv X pins σ H s) : ∀ (k : NestedKey) (v : V) (u : Value), KeyAt H v k → RelV v u → NestedIs s.heap k u
  | .none, _, _, h, r => by
    cases h
    cases r
    exact .none
  | .num _, _, _, h, r => by
    cases h with
    | bl b =>
      cases r
      exact .bool rfl
    | int =>
      obtain ⟨t, rfl⟩ := r
      exact .int _ t
  | .text x, _, _, h, r => by
    cases h
    obtain ⟨t, rfl⟩ := r
    exact .text x t
  | .tup ks, _, _, h, r => by
    cases h with
    | tup e q =>
      cases r
      obtain ⟨its, rv, ⟨o, ho, hc, n, hd⟩, _⟩ := I.tuple (SqT.of e)
      exact .tup ho hc hd (by simpa using KeysAt.is I ks _ its q rv)
theorem KeysAt.is (I : Inv X pins σ H s) : ∀ (ks : List NestedKey) (vs : List V) (us : List Value), KeysAt H vs ks → Vals vs us → NestedAll s.heap ks us
  | [], _, _, h, r => by
    cases h
    cases r
    exact .nil
  | k :: ks, _, _, h, r => by
    cases h with
    | cons h1 h2 =>
      cases r with
      | cons r1 r2 => exact .cons (KeyAt.is I k _ _ h1 r1) (KeysAt.is I ks _ _ h2 r2)
end
end
/-- an entry: the key, its tuple, the value -/
abbrev NE := NestedKey × Addr × V
abbrev relN : List NE → List (NestedKey × Addr × Value) → Prop := Paired fun p q => p.1 = q.1 ∧ p.2.1 = q.2.1 ∧ RelV p.2.2 q.2.2
def rawD (P : Program) (w : World) (d : Addr) (es : List NE) (h : Heap) : Prop := es.length ≤ sizeLine ∧ (d == sysModules) = false ∧ ∃ xs, relN es xs ∧
  ∃ o ea ep, h.get? d = some o ∧ o.ExactDict ∧ o.data = .dict ea ep ∧ ea.toList = xs.map (entryOfKey (nestedKind P w)) ∧ (xs.map (·.1)).Nodup
/-- at d stands a dict with such keys and the values kvs -/
def NDict (P : Program) (w : World) (H : Hp) (d : Addr) (kvs : List (NestedKey × V)) : Prop := ∃ es : List NE, es.map (fun x => (x.1, x.2.2)) = kvs ∧ H d = some (.ext (rawD P w d es)) ∧ ∀ x ∈ es, KeyAt H (.ref x.2.1) x.1 ∧ x.1.depth ≤ 8
theorem rawD_stays {P : Program} {w : World} {d : Addr} {es : List NE} : ∀ h1 h2 : Heap, rawD P w d es h1 → (∀ o, h1.get? d = some o → h2.get? d = some o) → rawD P w d es h2 := fun h1 h2 ⟨z, hd, xs, r, o, ea, ep, e, q⟩ k => ⟨z, hd, xs, r, o, ea, ep, k o e, q⟩
theorem NDict.keep {P : Program} {w : World} {H H' : Hp} {d : Addr} {kvs : List (NestedKey × V)} (h : NDict P w H d kvs) (hd : ∀ o, H d = some o → H' d = some o) (ht : ∀ b xs, H b = some (.tup xs) → H' b = some (.tup xs)) : NDict P w H' d kvs := by
  obtain ⟨es, e, h1, h2⟩ := h
  exact ⟨es, e, hd _ h1, fun x hx => ⟨KeyAt.mono ht _ _ (h2 x hx).1, (h2 x hx).2⟩⟩
theorem relN_kv : ∀ {es : List NE} {xs : List (NestedKey × Addr × Value)}, relN es xs → KV (es.map fun x => (x.1, x.2.2)) (pairsH xs)
  | _, _, .nil => .nil
  | _, _, .cons r t => .cons ⟨r.1, r.2.2⟩ (relN_kv t)
section
variable {X : Cx} {pins : List (Addr × Obj)} {σ : L2.St} {H : Hp} {s : Shared} {d a : Addr} {k : NestedKey}
theorem relN_mem : ∀ {es : List NE} {xs : List (NestedKey × Addr × Value)}, relN es xs → ∀ x ∈ xs, ∃ y ∈ es, y.1 = x.1 ∧ y.2.1 = x.2.1
  | _, _, .nil, x, h => by simp at h
  | _, _, .cons r t, x, h => by
    rcases List.mem_cons.mp h with rfl | h
    · exact ⟨_, List.mem_cons_self, r.1, r.2.1⟩
    · obtain ⟨y, hy, e⟩ := relN_mem t x h
      exact ⟨y, List.mem_cons_of_mem _ hy, e⟩
theorem keyIs (I : Inv X pins σ H s) (h : KeyAt H (.ref a) k) (hk : k.depth ≤ 8) : (nestedKind X.prog X.w).is s.heap k a := ⟨KeyAt.is I k _ _ h (show RelV (.ref a) (.ref a) from rfl), hk⟩
theorem NDict.raw (I : Inv X pins σ H s) {es : List NE} (h : H d = some (.ext (rawD X.prog X.w d es))) (hk : ∀ x ∈ es, KeyAt H (.ref x.2.1) x.1 ∧ x.1.depth ≤ 8) :
    es.length ≤ sizeLine ∧ (d == sysModules) = false ∧ ∃ xs, relN es xs ∧ s.heap.DictOfH (nestedKind X.prog X.w) d xs := by
  obtain ⟨⟨z, hd, xs, r, o, ea, ep, e, q1, q2, q3, q4⟩, _⟩ := (show ObjOk X.prog X.w H s.heap d (.ext (rawD X.prog X.w d es)) from I.hok d _ h)
  refine ⟨z, hd, xs, r, o, ea, ep, e, q1, q2, q3, fun x hx => ?_, q4⟩
  obtain ⟨y, hy, e1, e2⟩ := relN_mem r x hx
  rw [← e1, ← e2]
  exact keyIs I (hk y hy).1 (hk y hy).2
theorem NDict.keyed (I : Inv X pins σ H s) {kvs : List (NestedKey × V)} (h : NDict X.prog X.w H d kvs) : (d == sysModules) = false ∧ ∃ vs, KV kvs vs ∧ s.heap.DictKeyed (nestedKind X.prog X.w) d vs := by
  obtain ⟨es, rfl, h1, h2⟩ := h
  obtain ⟨z, hd, xs, r, m⟩ := NDict.raw I h1 h2
  exact ⟨hd, pairsH xs, relN_kv r, xs, m, rfl⟩
theorem roomN {A : Around} (hu : A.units + 64 < cLine) : (nestedKind X.prog X.w).room A.in1 := by
  show A.units + 1 + 8 < cLine
  omega
/-- y in d -/
def wInN (P : Program) (w : World) : R2 := fun y x H Q => ∃ a d k kvs, y = .ref a ∧ x = .ref d ∧ KeyAt H (.ref a) k ∧ k.depth ≤ 8 ∧ NDict P w H d kvs ∧ Q (.bl (valV kvs k).isSome) H
theorem o_inN (hu : X.A.units + 64 < cLine) : OpR X (compareOp .In) (wInN X.prog X.w) := by
  intro pins s σ H y x v u Q I ry rx h
  obtain ⟨a, d, k, kvs, rfl, rfl, hk, hd8, hn, q⟩ := h
  cases ry
  cases rx
  obtain ⟨hs, vs, kv, m⟩ := NDict.keyed I hn
  refine in_keyed (roomN hu) (keyIs I hk hd8) hs m ?_
  rw [← (kv.val k).isSome_eq]
  exact ⟨.bl _, H, I.tok _, rfl, q⟩
def wGetN (P : Program) (w : World) : R2 := fun x y H Q => ∃ a d k kvs v, x = .ref d ∧ y = .ref a ∧ KeyAt H (.ref a) k ∧ k.depth ≤ 8 ∧ NDict P w H d kvs ∧ valV kvs k = some v ∧ Q v H
theorem q_getN {o i : Expr} {td ty : TE} {pos : Pos} (hu : X.A.units + 64 < cLine) (ho : PE X o td) (hi : PE X i ty) (hs : NoSl i) : PE X (.Subscript o i pos) (tOp (wGetN X.prog X.w) td ty) := by
  refine ⟨fun pins s σ H Q I h => subD_of PySem.F.slot_dict_getitem.lookup hs (thn (ho.run pins s σ H _ I h) fun u s1 z1 => ?_)⟩
  obtain ⟨x, H1, I1, rx, q1⟩ := z1
  refine thn (hi.run pins s1 σ H1 _ I1 q1) fun iv s2 z2 => ?_
  obtain ⟨y, H2, I2, ry, a, d, k, kvs, v, rfl, rfl, hk, hd8, hn, hv, q⟩ := z2
  cases ry
  cases rx
  obtain ⟨hs, vs, kv, m⟩ := NDict.keyed I2 hn
  obtain ⟨w', hw, rw'⟩ := RelO.some_of (v := v) (o := valueAt vs k) (by rw [← hv]; exact kv.val k)
  exact ⟨m.typeIs, getItem_keyed (roomN hu) (keyIs I2 hk hd8) m hw ⟨v, H2, I2.tok _, rw', q⟩⟩
def wNewN (P : Program) (w : World) : TE := fun _ H Q => ∀ p o, H p = none → NDict P w (upd H p o) p [] → Q (.ref p) (upd H p o)
theorem q_newN {pos : Pos} : PE X (.Dict [] [] pos) (wNewN X.prog X.w) := ⟨fun pins s σ H Q I h => by
  have hb : sysModules < s.heap.objs.size := I.big
  have raw : rawD X.prog X.w s.heap.objs.size [] (s.heap.push { cls := .type "dict", data := .dict #[] }) :=
    ⟨Nat.zero_le _, beq_eq_false_iff_ne.mpr (Ne.symm (Nat.ne_of_lt hb)), [], .nil, _, #[], 0, Heap.get?_push_size _ rfl, ⟨rfl, rfl, rfl⟩, rfl, rfl, List.nodup_nil⟩
  have hn := I.hok.fresh (Nat.le_refl s.heap.objs.size)
  refine wpAny_Dict_empty ⟨.ref s.heap.objs.size, _, I.laid (a := s.heap.objs.size) (o := .ext (rawD X.prog X.w s.heap.objs.size [])) (t' := s.toks) (fun _ _ q => Heap.get?_push_of_some _ q) (Nat.le_refl _) ⟨raw, ⟨_, Heap.get?_push_size _ rfl⟩, rawD_stays⟩, rfl, h _ _ hn ?_⟩
  exact ⟨[], rfl, upd_same, fun x hx => by simp at hx⟩⟩
/-- d[y] = v, the key not there -/
def wPutN (P : Program) (w : World) : TSet := fun x y v H Q => ∃ a d k kvs, x = .ref d ∧ y = .ref a ∧ KeyAt H (.ref a) k ∧ k.depth ≤ 8 ∧ NDict P w H d kvs ∧ valV kvs k = none ∧ kvs.length < sizeLine ∧ ∀ o, NDict P w (upd H d o) d (kvs ++ [(k, v)]) → Q (upd H d o)
theorem s_putN (hu : X.A.units + 64 < cLine) : PSet X (wPutN X.prog X.w) := by
  intro pins s σ H x y v ov iv u Q I rx ry rv h
  obtain ⟨a, d, k, kvs, rfl, rfl, hk, hd8, ⟨es, e0, h1, h2⟩, hv, hz, q⟩ := h
  cases rx
  cases ry
  obtain ⟨z, hd, xs, r, m⟩ := NDict.raw I h1 h2
  have hlen : es.length = kvs.length := by rw [← e0, List.length_map]
  have hx : xs.length = es.length := (Paired.length r).symm
  have hat : atKey xs k = none := by
    have q1 := (relN_kv r).val k
    rw [e0, hv] at q1
    have q2 := RelO.none_of q1
    rw [valueAt_pairsH] at q2
    exact Option.map_eq_none_iff.mp q2
  refine wpAny_setItem_heap (hsz := by rw [hx]; exact z) (roomN hu) (keyIs I hk hd8) m fun h' m' hs => ?_
  have est : storedH xs k a u = xs ++ [(k, a, u)] := by
    unfold storedH
    rw [if_neg (by rw [hat]; exact Bool.false_ne_true)]
  rw [est] at m'
  obtain ⟨o, ea, ep, ho, q1, q2, q3, q4, q5⟩ := m'
  have rel : relN (es ++ [(k, a, v)]) (xs ++ [(k, a, u)]) := by
    clear q q1 q2 q3 q4 q5 ho est hat hx hlen m z h1 h2 e0
    induction r with
    | nil => exact .cons ⟨rfl, rfl, rv⟩ .nil
    | cons p _ ih => exact .cons p ih
  have raw : rawD X.prog X.w d (es ++ [(k, a, v)]) h' := ⟨by rw [List.length_append, List.length_singleton]; omega, hd, _, rel, o, ea, ep, ho, q1, q2, q3, q5⟩
  refine ⟨_, d_write I (ob := .ext (rawD X.prog X.w d (es ++ [(k, a, v)]))) (by rw [h1]; exact True.intro) hs ⟨o, ho⟩ ⟨raw, ⟨o, ho⟩, rawD_stays⟩, q _ ⟨es ++ [(k, a, v)], ?_, upd_same, fun x hx => ?_⟩⟩
  · rw [List.map_append, e0]
    rfl
  · have ht : ∀ b xs, H b = some (.tup xs) → (upd H d (.ext (rawD X.prog X.w d (es ++ [(k, a, v)])))) b = some (.tup xs) := fun b xs e => by
      rw [upd_ne (ne_of e h1 (by simp))]
      exact e
    rcases List.mem_append.mp hx with hx | hx
    · exact ⟨KeyAt.mono ht _ _ (h2 x hx).1, (h2 x hx).2⟩
    · have : x = (k, a, v) := by simpa using hx
      subst this
      exact ⟨KeyAt.mono ht _ _ hk, hd8⟩
end
end OA

namespace OA
open PySem PySem.Spec PyProof.Rows L2
section
variable {X : Cx}
/-- a view of a dict's values -/
def viewV (p d : Addr) : HO := .ext fun h => h.get? p = some { cls := .type "dict_values", data := .fields #[.ref d] }
theorem viewV_ok {P : Program} {w : World} {H : Hp} {h : Heap} {p d : Addr} (e : h.get? p = some { cls := .type "dict_values", data := .fields #[.ref d] }) : ObjOk P w H h p (viewV p d) := ⟨e, ⟨_, e⟩, fun h1 h2 q k => k _ q⟩
def vVals (td : TE) : TE := fun σ H Q => td σ H fun x H1 => refR x fun d => dkO (H1 d) fun _ => ∀ p, H1 p = none → Q (.ref p) (upd H1 p (viewV p d))
theorem q_vals {e : Expr} {td : TE} {apos cpos : Pos} (he : PE X e td) (hbase : attributeBase e "values" X.env (eval e X.env) = eval e X.env := by rfl) (hline : (apos.endLine == cpos.line) = true := by rfl) : PE X (.Call (.Attribute e "values" apos) [] [] cpos) (vVals td) := by
  refine ⟨fun pins s σ H Q I h => wpAny_Call_method (T := "dict") (id := "dict.values") hbase rfl hline F.plainAttrs_dict F.slot_dict_values F.type_dict_values (thn (he.run pins s σ H _ I h) fun u s1 z => ?_)⟩
  obtain ⟨x, H1, I1, rx, z1⟩ := z
  obtain ⟨d, ex, z2⟩ := refR_el z1
  obtain ⟨kvs, ed, q⟩ := dkO_el z2
  subst ex
  obtain rfl : u = Value.ref d := rx
  obtain ⟨hz, hs, vs, kv, dd⟩ := dk_of I1.hok ed
  refine ⟨dd.typeIs, dd.mapOf.noDict, ?_⟩
  have hn := I1.hok.fresh (Nat.le_refl s1.heap.objs.size)
  have fin : EP X pins σ Q (.ref s1.heap.objs.size) { s1 with heap := s1.heap.push { cls := .type "dict_values", data := .fields #[.ref d] } } :=
    ⟨.ref s1.heap.objs.size, _, I1.laid (a := s1.heap.objs.size) (o := viewV s1.heap.objs.size d) (t' := s1.toks) (fun b u e => Heap.get?_push_of_some _ e) (Nat.le_refl _) (viewV_ok (Heap.get?_push_size _ rfl)), rfl, q _ hn⟩
  show wpAny _ _ (callWith cpos (.builtin "dict.values") [.ref d] [] []) _ X.xe s1
  exact method_meetsIn F.slot_dict_values F.entry_dict_values rfl (PySem.evalArgs_none ⟨rfl, dd.typeIs, F.args_dict_values_1 _, _, meets_dict_values (mixKind X.prog X.w) d hs, ⟨vs, dd⟩, fin⟩)
def wMaxV : List V → List V → Hp → VK → Prop := fun vs zs H Q => ∃ (p d : Addr) (kvs : List (Key × V)) (ns : List Int) (d0 : Int), vs = [.ref p] ∧ zs = [.int d0] ∧ H p = some (viewV p d) ∧ H d = some (.dK kvs) ∧ kvs.map Prod.snd = ns.map V.int ∧
  ∀ m, (ns = [] → m = d0) → (ns ≠ [] → m ∈ ns ∧ ∀ y ∈ ns, y ≤ m) → Q (.int m) H
theorem c_maxV (hc : X.calm = true) : CallRK X (.builtin "max") [Str.ofString "default"] wMaxV := by
  intro pins s σ H xs zs us ws Q I rx rz h
  obtain ⟨p, d, kvs, ns, d0, rfl, rfl, hp, hd, hns, q⟩ := h
  obtain ⟨u, rfl, ru⟩ := rx.one
  obtain ⟨w1, rfl, t0, rfl⟩ := rz.one
  cases ru
  obtain ⟨hz, hs, vs, kv, dd⟩ := dk_of I.hok hd
  obtain ⟨ep, da⟩ := dd.dictAt
  have hv : s.heap.IsValuesView p d := ⟨_, (show ObjOk X.prog X.w H s.heap p (viewV p d) from I.hok p _ hp).1, rfl, rfl⟩
  have hl : kvs.length = vs.length := kv.length
  have hl2 : vs.length = ns.length := by
    have e := congrArg List.length hns
    rw [List.length_map, List.length_map] at e
    omega
  have hdlt : d < s.heap.objs.size := da.lt_size
  have val : ∀ (i : Nat) (v : Value), (∃ k, vs[i]? = some (k, v)) → ∃ t, v = .int (ns.getD i 0) t := by
    rintro i v ⟨k, hk⟩
    have hi : i < vs.length := (List.getElem?_eq_some_iff.mp hk).1
    have hi2 : i < kvs.length := by omega
    have hi3 : i < ns.length := by omega
    obtain ⟨k1, hk1, r⟩ : ∃ k1 : Key × Value, vs[i]? = some k1 ∧ kvs[i].1 = k1.1 ∧ RelV kvs[i].2 k1.2 := by
      have gen : ∀ {as : List (Key × V)} {bs : List (Key × Value)} (j : Nat) (h : j < as.length), KV as bs → ∃ y, bs[j]? = some y ∧ as[j].1 = y.1 ∧ RelV as[j].2 y.2 := by
        intro as bs j h r
        induction r generalizing j with
        | nil => simp at h
        | cons a _ ih =>
          cases j with
          | zero => exact ⟨_, rfl, a.1, a.2⟩
          | succ j => exact ih j (by simpa using h)
      exact gen i hi2 kv
    rw [hk] at hk1
    cases hk1
    have e2 : kvs[i].2 = V.int ns[i] := by
      have z : (kvs.map Prod.snd)[i]? = (ns.map V.int)[i]? := by rw [hns]
      rw [List.getElem?_map, List.getElem?_map, List.getElem?_eq_getElem hi2, List.getElem?_eq_getElem hi3] at z
      exact Option.some.inj z
    rw [e2] at r
    obtain ⟨t, e⟩ := r.2
    exact ⟨t, by rw [show ns.getD i 0 = ns[i] by simp [hi3]]; exact e⟩
  have ne : d ≠ s.heap.objs.size := Nat.ne_of_lt hdlt
  have keepI : ∀ b o, s.heap.get? b = some o → (s.heap.push { cls := .type "dict_valueiterator", data := .fields #[.ref d, .int 0 0, .int vs.length 0, .int ep 0] }).get? b = some o := fun b o e => Heap.get?_push_of_some _ e
  show wpAny _ _ (call (.builtin "max") [.ref p] [(Str.ofString "default", .int d0 t0)]) _ _ _
  refine call_max_walkD (wpAny_pyIter_values (knd := mixKind X.prog X.w) hv da ⟨s.heap.objs.size, [s.heap.objs.size, d], [s.heap.objs.size], _, vs.length, _, _, s.heap, (fun i j => decide (ns.getD i 0 > ns.getD j 0)), rfl, (Walks.dictValues (A := X.A.in1) (I.ok.hd hc) s.heap.objs.size d ne vs ep).toS, ⟨⟨_, Heap.get?_push_size _ rfl, rfl, rfl⟩, da.keep keepI⟩, fun b hb => ?_, fun b o e hb => ?_, keepI, fun hz s' m => ?_, fun hp0 => ⟨fun i j vi vj s' Q' E' _ hi hj hq => CmpOf.ints_gt (fun i => ns.getD i 0) val i j vi vj s' Q' E' hi hj hq, fun v s' hP m => ?_⟩⟩)
  · show b < (s.heap.push _).objs.size
    rw [Heap.size_push]
    rcases List.mem_cons.mp hb with rfl | hb
    · exact Nat.lt_succ_self _
    · rcases List.mem_cons.mp hb with rfl | hb
      · exact Nat.lt_succ_of_lt hdlt
      · cases hb
  · exact absurd (Heap.lt_size e) ((List.mem_singleton.mp hb) ▸ Nat.lt_irrefl _)
  · obtain ⟨h', tk, rfl, hk'⟩ := PySem.W.moved_old rfl rfl m
    have hn0 : ns = [] := List.eq_nil_of_length_eq_zero (by omega)
    exact ⟨.int d0, H, I.kept hk', ⟨t0, rfl⟩, q d0 (fun _ => rfl) fun h => absurd hn0 h⟩
  · obtain ⟨h', tk, rfl, hk'⟩ := PySem.W.moved_old rfl rfl m
    obtain ⟨t, rfl⟩ := val _ v hP
    obtain ⟨h1, h2⟩ := argBest_gt (fun i => ns.getD i 0) (vs.length - 1)
    refine ⟨.int _, H, I.kept hk', ⟨t, rfl⟩, q _ (fun h => ?_) fun _ => ⟨?_, fun y hy => ?_⟩⟩
    · rw [h] at hl2
      simp at hl2
      rw [hl2] at hp0
      simp at hp0
    · have hb : argBest (fun i j => decide (ns.getD i 0 > ns.getD j 0)) (vs.length - 1) < ns.length := by
        have h1' : argBest (fun i j => decide (ns.getD i 0 > ns.getD j 0)) (vs.length - 1) ≤ vs.length - 1 := h1
        omega
      generalize argBest (fun i j => decide (ns.getD i 0 > ns.getD j 0)) (vs.length - 1) = b at hb ⊢
      simp [hb]
    · obtain ⟨j, hj, rfl⟩ := List.getElem_of_mem hy
      have := h2 j (by omega)
      rw [show ns.getD j 0 = ns[j] by simp [hj]] at this
      exact this
end
end OA

namespace OA
open PySem L2
/-! lists of whole numbers, compared -/
theorem dpInts {K : PySem.W.Frag} {H : Hp} : ∀ ns : List Int, DpAll K H (ns.map V.int) (ns.map PyData.int)
  | [] => .nil
  | n :: ns => .cons (.int n) (dpInts ns)
theorem layInts : ∀ ns : List Int, PyData.canLayAll0 (ns.map PyData.int) = true
  | [] => rfl
  | n :: ns => by simp [PyData.canLayAll0, PyData.canLay0, layInts ns]
theorem depInts : ∀ ns : List Int, PyData.depthAll (ns.map PyData.int) ≤ 1
  | [] => by simp [PyData.depthAll]
  | n :: ns => by
    have := depInts ns
    simp only [List.map_cons, PyData.depthAll, PyData.depth]
    omega
theorem shapedInts (ns : List Int) : SeqAt.shaped (.list (ns.map PyData.int)) = true := by
  have := depInts ns
  have h : (PyData.list (ns.map PyData.int)).depth ≤ 64 := by
    simp only [PyData.depth]
    omega
  have c : (PyData.list (ns.map PyData.int)).canLay0 = true := by
    simp only [PyData.canLay0]
    exact layInts ns
  unfold SeqAt.shaped
  rw [c, decide_eq_true h]
  rfl
theorem eqvInts : ∀ xs ys : List Int, PyData.eqvAll (xs.map PyData.int) (ys.map PyData.int) = decide (xs = ys)
  | [], [] => by simp [PyData.eqvAll]
  | [], y :: ys => by simp [PyData.eqvAll]
  | x :: xs, [] => by simp [PyData.eqvAll]
  | x :: xs, y :: ys => by
    simp only [List.map_cons, PyData.eqvAll, PyData.eqv, eqvInts xs ys]
    by_cases h : x = y
    · subst h
      simp
    · simp [h]
section
variable {X : Cx}
def wEqLI (neg : Bool) : R2 := fun x y H Q => ∃ (a b : Addr) (xs ys : List Int), x = .ref a ∧ y = .ref b ∧ H a = some (.lst (xs.map V.int)) ∧ H b = some (.lst (ys.map V.int)) ∧ Q (.bl (if neg = true then !decide (xs = ys) else decide (xs = ys))) H
theorem o_neLI (hu : X.A.units + 64 < cLine) : OpR X (compareOp .NotEq) (wEqLI true) := im_op (op_neD hu) fun x y H Q ⟨a, b, xs, ys, e1, e2, h1, h2, q⟩ => ⟨.list (xs.map .int), .list (ys.map .int), by rw [e1]; exact .lst (SqL.of h1) (dpInts xs), by rw [e2]; exact .lst (SqL.of h2) (dpInts ys), shapedInts xs, shapedInts ys, by
  unfold PyData.eqv
  rw [eqvInts]
  exact q⟩
theorem o_eqLI (hu : X.A.units + 64 < cLine) : OpR X (compareOp .Eq) (wEqLI false) := im_op (op_eqD hu) fun x y H Q ⟨a, b, xs, ys, e1, e2, h1, h2, q⟩ => ⟨.list (xs.map .int), .list (ys.map .int), by rw [e1]; exact .lst (SqL.of h1) (dpInts xs), by rw [e2]; exact .lst (SqL.of h2) (dpInts ys), shapedInts xs, shapedInts ys, by
  unfold PyData.eqv
  rw [eqvInts]
  exact q⟩
theorem rgV_nat (n : Nat) : rgV 0 (n : Int) = (List.range n).map fun i => V.int (i : Nat) := by
  unfold rgV
  have e : ((n : Int) - 0).toNat = n := by omega
  rw [e]
  refine List.map_congr_left fun i _ => ?_
  rw [Int.zero_add]
/-- list(range(n)) -/
def vLstRg (te : TE) : TE := fun σ H Q => te σ H fun x H1 => intR x fun n => (0 ≤ n ∧ n ≤ 1000) ∧ ∀ q, H1 q = none → Q (.ref q) (upd H1 q (.lst ((List.range n.toNat).map fun i => V.int (i : Nat))))
theorem q_listRg {a : Expr} {ta : TE} {p p2 pos pos2 : Pos} (hc : X.calm = true) (hg : Gl X "list") (hm : X.mg "list" = none) (hg2 : Gl X "range") (hm2 : X.mg "range" = none) (ha : PE X a ta) (na : starEach [a] X.env = (false, eval a X.env) :: starEach [] X.env := by rfl)
    (nb : starEach [.Call (.Name "range" p2) [a] [] pos2] X.env = (false, eval (.Call (.Name "range" p2) [a] [] pos2) X.env) :: starEach [] X.env := by rfl) :
    PE X (.Call (.Name "list" p) [.Call (.Name "range" p2) [a] [] pos2] [] pos) (vLstRg ta) := im_pe (pe_listRg hc hg hm (prg_1 hg2 hm2 (up_pe ha) na) nb) fun σ H Q h => ⟨_, h, fun x H1 z => by
  obtain ⟨n, e, ⟨h0, h1⟩, z1⟩ := intR_el z
  obtain ⟨m, rfl⟩ := Int.eq_ofNat_of_zero_le h0
  refine ⟨(m : Int), e, RgOk.of_le (Int.le_refl 0) (by omega) (by omega) h0, fun q hq => ?_⟩
  rw [rgV_nat]
  exact z1 q hq⟩
def wLstD (vs : List V) (H : Hp) (Q : VK) : Prop := one1 vs fun x => refR x fun p => dkO (H p) fun kvs => ∀ l, H l = none → Q (.ref l) (upd H l (.lst (kvs.map fun kv => kV kv.1)))
theorem c_lstD (hc : X.calm = true) : CallR X (.type "list") wLstD := im_call (call_list_dK hc) fun xs H Q z => by
  obtain ⟨x, e1, z1⟩ := one1_el z
  obtain ⟨p, e2, z2⟩ := refR_el z1
  obtain ⟨kvs, e3, z3⟩ := dkO_el z2
  exact ⟨p, kvs, by rw [e1, e2], e3, z3⟩
end
end OA

namespace OA
open PySem PySem.Spec PyProof.Rows L2
section
variable {X : Cx}
/-- a dict comprehension over what is walked: D the new dict, Pv by the turn and the heap -/
def vDc (wi : TI) (g : TG) (tt : TT) (tk tv : TE) (vs : List Nat) : TE := fun σ H Q => wi σ H fun J H1 => ∀ D, H1 D = none → ∃ (n : Nat) (G : Hp → Prop) (Y : Nat → Hp → V → Hp → Prop) (Pv : Nat → Hp → Prop), Walk J n G Y ∧ Pv 0 (upd H1 D (.dK [])) ∧ (∀ i H, i ≤ n → Pv i H → G H) ∧
  (∀ i x H H', i < n → Pv i H → Y i H x H' → g x (wipe σ vs) H' fun σ2 H2 => wipe σ2 vs = wipe σ vs ∧ tt σ2 H2 fun b H3 => if b = true then tk σ2 H3 fun y H4 => tv σ2 H4 fun z H5 => keyR y fun k => dkO (H5 D) fun kvs => kvs.length < sizeLine ∧ Pv (i + 1) (upd H5 D (.dK (putK kvs k z))) else Pv (i + 1) H3) ∧ ∀ H, Pv n H → Q (.ref D) H
theorem vDc_to {wi : TI} {g : TG} {tt : TT} {tk tv : TE} {vs : List Nat} {σ : L2.St} {H : Hp} {Q : VK} (h : vDc wi g tt tk tv vs σ H Q) : tDc (upI wi) (upG g) (upT tt) (upE tk) (upE tv) vs σ H Q := ⟨_, h, fun J H1 z D hD => by
  obtain ⟨n, G, Y, Pv, w, h0, hG, hs, hd⟩ := z D hD
  refine ⟨fun i m H => m = n - i ∧ i ≤ n ∧ Pv i H, ⟨n, by simp, Nat.zero_le _, h0⟩, ?_⟩
  rintro i m H ⟨rfl, hi, p⟩
  have q := hG i H hi p
  by_cases hlt : i < n
  · refine .inr ⟨w.goes i H hlt q, Pv (i + 1), fun H' p' => ⟨n - (i + 1), by omega, rfl, hlt, p'⟩, fun x H' y => ?_⟩
    refine ⟨_, hs i x H H' hlt p (w.yields i H x H' hlt q y), fun σ2 H2 r => ⟨r.1, _, r.2, fun b H3 r3 => ?_⟩⟩
    cases b with
    | true =>
      refine ⟨_, r3, fun y H4 r4 => ⟨_, r4, fun z H5 r5 => ?_⟩⟩
      obtain ⟨k, e1, r6⟩ := keyR_el r5
      obtain ⟨kvs, e2, r7⟩ := dkO_el r6
      exact ⟨kvs, k, e1, e2, r7.1, r7.2⟩
    | false => exact r3
  · have e : i = n := by omega
    subst e
    exact .inl ⟨w.stops H q, hd H p⟩⟩
theorem q_dc {kx vx tg iter : Expr} {ifs : List Expr} {scope : Scope} {own : List (Str × Nat)} {pos : Pos} {wi : TI} {g : TG} {tt : TT} {tk tv : TE} (hc : X.calm = true) (hN : X.N.Nodup) (hi : PI X tg iter wi) (ok : BlkOk X.N X.env.scope scope own)
    (hg : ∀ (s : Shared) (H : Hp) (C : Addr) (cl : List (Str × Addr)) (fp : List Addr), PG (X.blk s H scope (compEnvC scope cl C X.env) fp) tg g) (ht : ∀ (s : Shared) (H : Hp) (C : Addr) (cl : List (Str × Addr)) (fp : List Addr), PTs (X.blk s H scope (compEnvC scope cl C X.env) fp) ifs tt)
    (hk : ∀ (s : Shared) (H : Hp) (C : Addr) (cl : List (Str × Addr)) (fp : List Addr), PE (X.blk s H scope (compEnvC scope cl C X.env) fp) kx tk)
    (he : ∀ (s : Shared) (H : Hp) (C : Addr) (cl : List (Str × Addr)) (fp : List Addr), PE (X.blk s H scope (compEnvC scope cl C X.env) fp) vx tv) (hs : ∀ x, foldedSetIterable iter X.env x = pure x := by intro _; rfl) :
    PE X (.DictComp kx vx [⟨tg, iter, ifs, 0⟩] scope pos) (vDc wi g tt tk tv (own.map (·.2))) :=
  im_pe (pe_dc hc hN (up_pi hi) ok (fun s H C cl fp => up_pg (hg s H C cl fp)) (fun s H C cl fp => up_pts (ht s H C cl fp)) (fun s H C cl fp => up_pe (hk s H C cl fp)) (fun s H C cl fp => up_pe (he s H C cl fp)) hs) fun _ _ _ h => vDc_to h
/-- sorted(d), d's keys ints -/
def wSortDI (vs : List V) (H : Hp) (Q : VK) : Prop := one1 vs fun x => refR x fun a => dkR (H a) fun kvs => ∃ ks : List Int, kvs.map (·.1) = ks.map Sum.inl ∧ ks.length < 64 ∧ ∀ (ys : List Int) (p : Addr), ys.Perm ks → ys.Pairwise (· ≤ ·) → H p = none → Q (.ref p) (upd H p (.lst (ys.map V.int)))
theorem c_sortDI (hc : X.calm = true) : CallR X (.builtin "sorted") wSortDI := im_call (call_sortedDI hc) fun vs H Q z => by
  obtain ⟨x, e1, z1⟩ := one1_el z
  obtain ⟨a, e2, z2⟩ := refR_el z1
  obtain ⟨kvs, e3, ks, e4, e5, z3⟩ := dkR_el z2
  exact ⟨a, kvs, ks, by rw [e1, e2], e3, e4, e5, z3⟩
/-- d != {} -/
def wNeD0 : R2 := fun x y H Q => refR x fun a => refR y fun b => dkO (H a) fun ks => dkO (H b) fun ls => ls = [] ∧ Q (.bl (!ks.isEmpty)) H
theorem o_neD0 (hu : X.A.units + 64 < cLine) : OpR X (compareOp .NotEq) wNeD0 := by
  intro pins s σ H x y v u Q I rx ry h
  obtain ⟨a, rfl, h1⟩ := refR_el h
  obtain ⟨b, rfl, h2⟩ := refR_el h1
  obtain ⟨ks, ea, h3⟩ := dkO_el h2
  obtain ⟨ls, eb, rfl, q⟩ := dkO_el h3
  obtain rfl : v = Value.ref a := rx
  obtain rfl : u = Value.ref b := ry
  obtain ⟨_, ya, va, ra, da⟩ := (show ObjOk X.prog X.w H s.heap a (.dK ks) from I.hok a _ ea)
  obtain ⟨_, yb, vb, rb, db⟩ := (show ObjOk X.prog X.w H s.heap b (.dK []) from I.hok b _ eb)
  have la := ra.length
  have lb : vb.length = 0 := rb.length.symm
  refine PySem.W.keq_ne (knd := mixKind X.prog X.w) (r := true) ya yb da db (by omega) (fun e => hits_all rb ra fun p hp => ?_) (fin_bl I q ?_)
  · have : ks.length = 0 := by omega
    have : ks = [] := List.eq_nil_of_length_eq_zero this
    subst this
    simp at hp
  · cases ks with
    | nil =>
      have : va.length = 0 := by simpa using la.symm
      simp [this, lb]
    | cons k ks =>
      have : va.length ≠ 0 := by simp at la; omega
      simp [this, lb]
/-- a list times an int from 0 on -/
def wRep : R2 := fun x y H Q => refR x fun l => lstO (H l) fun xs => intR y fun k => (0 ≤ k ∧ k ≤ 1000 ∧ xs.length ≤ 1000) ∧ ∀ p, H p = none → Q (.ref p) (upd H p (.lst (List.replicate k.toNat xs).flatten))
theorem o_rep : OpR X (binaryOp .Mult) wRep := im_op op_rep fun x y H Q z => by
  obtain ⟨l, e1, z1⟩ := refR_el z
  obtain ⟨xs, e2, z2⟩ := lstO_el z1
  obtain ⟨k, e3, ⟨h0, h1, h2⟩, z3⟩ := intR_el z2
  refine ⟨l, k, xs, e1, e3, e2, by omega, by omega, ?_, z3⟩
  have : xs.length * k.toNat ≤ 1000 * 1000 := Nat.mul_le_mul h2 (by omega)
  rw [sizeLine_eq]
  omega
end
end OA


namespace OA
open PySem L2
/-! the program's ways as plain functions -/
inductive Wd where
  | sil | hrd | noi
  deriving DecidableEq
def Wd.s : Wd → Str
  | .sil => "silent"
  | .hrd => "heard"
  | .noi => "noise"
inductive WayM where
  | row (r : Str) (k : Nat)
  | wait (ds : List Int) (p : Nat) (l : Int)
  | tree (sk jn : Bool) (ds : List Int) (lv : Option Int) (ls : List Nat) (skp : Bool)
def lvV : Option Int → V
  | none => .non
  | some i => .int i
def nV (n : Nat) : V := .int n
/-- what is asked of a way -/
def WayM.Ok : WayM → Prop
  | .row r k => r.length ≤ 12 ∧ k < r.length
  | .wait ds p _ => p < ds.length
  | .tree _ _ ds _ ls skp => 0 < ds.length ∧ (∀ p ∈ ls, p < ds.length) ∧ (skp = true → 2 ≤ ls.length)
def WayM.deep : WayM → Nat
  | .tree _ _ _ _ ls _ => ls.length
  | _ => 0
def comes (jn pr : Bool) (lv : Option Int) (ls : List Nat) : Option Int := if pr = true ∧ lv = none ∧ (jn = true ∨ ls = []) then some 0 else lv
def opened (ls : List Nat) : List Nat := if ls = [] then [0] else ls
def WayM.asked (pr : Bool) : WayM → WayM
  | .row r k => .row r k
  | .wait ds p l => .wait ds p l
  | .tree sk jn ds lv ls skp => .tree sk jn ds (comes jn pr lv ls) (opened ls) skp
def WayM.wants (pr : Bool) : WayM → Bool
  | .row r k => pr && r.cps.toList.getD k 0 == 49
  | .wait _ _ l => pr && l == 0
  | .tree _ jn _ lv ls _ => pr && comes jn pr lv ls == some 0
def splitLv (ds : List Int) (inside : Bool) (lv : Option Int) (ls : List Nat) : Option Int := if inside = true then some (ds.getD (ls.headD 0) 0) else lv.map (· + 1)
def splitLs (ds : List Int) (ls : List Nat) : List Nat := (ls.headD 0 + 1) % ds.length :: (ls.headD 0 + 1) % ds.length :: ls.tail
def dropLv (lv : Option Int) : Option Int := lv.map (· - 1)
def WayM.goes (sp : Bool) (wd : Wd) : WayM → WayM
  | .row r k => .row r ((k + 1) % r.length)
  | .wait ds p l => if sp = true ∧ wd = .noi then .wait ds ((p + 1) % ds.length) (ds.getD p 0) else if 0 < l then .wait ds p (l - 1) else .wait ds p l
  | .tree sk jn ds lv ls skp =>
    if wd = .noi then .tree sk jn ds (splitLv ds sp lv ls) (splitLs ds ls) sk
    else if wd = .sil ∧ skp = true then .tree sk jn ds (splitLv ds (dropLv lv == some 0) (dropLv lv) ls.tail) (splitLs ds ls.tail) skp
    else .tree sk jn ds (dropLv (if sp = true then none else lv)) ls.tail false
theorem opened_ne (ls : List Nat) : opened ls ≠ [] := by
  unfold opened
  split
  · simp
  · assumption
theorem WayM.asked_ok {m : WayM} (pr : Bool) (h : m.Ok) : (m.asked pr).Ok := by
  cases m with
  | row r k => exact h
  | wait ds p l => exact h
  | tree sk jn ds lv ls skp =>
    obtain ⟨h0, h1, h2⟩ := h
    refine ⟨h0, fun p hp => ?_, fun hs => ?_⟩
    · unfold opened at hp
      split at hp
      · simp at hp; omega
      · exact h1 p hp
    · have := h2 hs
      unfold opened
      split
      · rename_i e; rw [e] at this; simp at this
      · exact this
theorem splitLs_ok {ds : List Int} {ls : List Nat} (h0 : 0 < ds.length) (h1 : ∀ p ∈ ls, p < ds.length) : ∀ p ∈ splitLs ds ls, p < ds.length := by
  intro p hp
  have hm : (ls.headD 0 + 1) % ds.length < ds.length := Nat.mod_lt _ h0
  unfold splitLs at hp
  rcases List.mem_cons.mp hp with e | hp
  · omega
  · rcases List.mem_cons.mp hp with e | hp
    · omega
    · exact h1 p (List.mem_of_mem_tail hp)
/-- a tree's way behind wants -/
def WayM.Set : WayM → Prop
  | .tree _ _ _ _ ls _ => ls ≠ []
  | _ => True
theorem WayM.asked_set (m : WayM) (pr : Bool) : (m.asked pr).Set := by
  cases m with
  | row r k => exact True.intro
  | wait ds p l => exact True.intro
  | tree sk jn ds lv ls skp => exact opened_ne ls
theorem WayM.goes_ok {m : WayM} (sp : Bool) (wd : Wd) (h : m.Ok) : (m.goes sp wd).Ok := by
  cases m with
  | row r k =>
    obtain ⟨h1, h2⟩ := h
    exact ⟨h1, Nat.mod_lt _ (by omega)⟩
  | wait ds p l =>
    have hp : p < ds.length := h
    have hm : (p + 1) % ds.length < ds.length := Nat.mod_lt _ (by omega)
    simp only [WayM.goes]
    split
    · exact hm
    · split
      · exact hp
      · exact hp
  | tree sk jn ds lv ls skp =>
    obtain ⟨h0, h1, h2⟩ := h
    have ht : ∀ p ∈ ls.tail, p < ds.length := fun p hp => h1 p (List.mem_of_mem_tail hp)
    simp only [WayM.goes]
    split
    · exact ⟨h0, splitLs_ok h0 h1, fun _ => by simp [splitLs]⟩
    · split
      · exact ⟨h0, splitLs_ok h0 ht, fun _ => by simp [splitLs]⟩
      · exact ⟨h0, ht, fun h => by cases h⟩
end OA

namespace OA
open PySem L2
/-! digits -/
def moreD (b : Nat) : Nat → Nat → Nat → List Nat
  | 0, _, _ => []
  | f + 1, g, n => if g = 0 then [] else n / b % b :: moreD b f (g / b) (n / b)
def digsN (b many n : Nat) : List Nat := (n % b :: moreD b 3 ((many - 1) / b) n).reverse
def digs (b many n : Nat) : List Int := (digsN b many n).map fun (k : Nat) => (k : Int)
theorem moreD_zero (b f n : Nat) : moreD b f 0 n = [] := by cases f <;> simp [moreD]
theorem moreD_len (b : Nat) : ∀ f g n, (moreD b f g n).length ≤ f
  | 0, _, _ => Nat.le_refl _
  | f + 1, g, n => by
    unfold moreD
    split
    · simp
    · have := moreD_len b f (g / b) (n / b)
      simp
      omega
theorem digs_pos (b many n : Nat) : 0 < (digs b many n).length := by simp [digs, digsN]
theorem digs_len (b many n : Nat) : (digs b many n).length ≤ 4 := by
  have := moreD_len b 3 ((many - 1) / b) n
  simp [digs, digsN]
  omega
/-! rules -/
inductive RuleM where
  | turns
  | rows (rs : List Str)
  | tree (sk jn : Bool)
  | waits (b : Nat)
def howS (sk : Bool) : Str := if sk = true then "skips" else "plain"
def lateS (jn : Bool) : Str := if jn = true then "joins" else "waits"
def RuleAt (H : Hp) (a : Addr) : RuleM → Prop
  | .turns => H a = some (.tup [.str "turns"])
  | .rows rs => ∃ b, H a = some (.tup [.str "rows", .ref b]) ∧ H b = some (.tup (rs.map V.str))
  | .tree sk jn => H a = some (.tup [.str "tree", .str (howS sk), .str (lateS jn)])
  | .waits b => H a = some (.tup [.str "waits", .int b])
def RuleM.Ok (many : Nat) : RuleM → Prop
  | .turns => True
  | .rows rs => rs.length = many ∧ ∃ n, 1 ≤ n ∧ n ≤ 12 ∧ ∀ r ∈ rs, r.length = n ∧ ∀ c ∈ r.cps.toList, c = 48 ∨ c = 49
  | .tree _ _ => True
  | .waits b => 2 ≤ b ∧ b ≤ 4
abbrev RuleM.OkN (many : Nat) (R : RuleM) : Prop := R.Ok many
theorem RuleAt.same {H H' : Hp} (e : Same H H') {a : Addr} {R : RuleM} (h : RuleAt H a R) : RuleAt H' a R := by
  cases R with
  | turns => exact e _ _ h
  | rows rs =>
    obtain ⟨b, h1, h2⟩ := h
    exact ⟨b, e _ _ h1, e _ _ h2⟩
  | tree sk jn => exact e _ _ h
  | waits b => exact e _ _ h
end OA

namespace OA
open PySem L2
local macro_rules
  | `(tactic| simp! [$a,*]) => `(tactic| simp -implicitDefEqProofs only [wNeD0, wRep, tDNewK, vDc, wSortDI, dkR_e, dkR_f, e_cut, wSetL, vLstRg, wLstD, e_lock, vVals, gSub, tCKw, frzO_e, viItems, viKeys, vRev, e_while, e_for, e_asgG, gName, vgTup, vgCons_e, vgNil_e, viList, viTup, viStr, viR1, viEnum, vLc, tYes, wipe, e_seq, e_next, e_drop, e_ret, e_retN, e_sfld, e_augI, e_aug, e_dput, vIf, vTest, wInT, vVar, vFld, tC, tOp, tUn, wI0, wIC, rEq, rNe, scal, wAddS, wMulS, wCat, wNeg, wIxL, wIxT, wIxS, vPart, tNoPart, tSl, wSlL, tCB, tCons, tNil, len_s, wTupL, wLstL, wAbs, wIntB, wMin2, wMax2, vAnd, vOr, vNot, vChain, vMeth, vCall, vMake, vLM0, vLM, isLst, wAppend, wPopAt, wInsert0, vStar, vDGet, vDIn, vDNotIn, tTup, tLst, tIf, tAnd, tOr, tNot, refR_e, intR_e, blR_e, strR_e, optR_e, keyR_i, keyR_s, insO_e, lstO_e, tupO_e, dkO_e, one1_e, two2_e, len_r, lenO_l, lenO_t, lenO_d, L2.start, List.map, List.replicate, List.length_cons, List.length_nil, List.cons_append, List.nil_append, List.append_nil, List.getElem?_cons_zero, List.getElem?_cons_succ, List.set_cons_zero, List.set_cons_succ, true_and, and_true, cx_K, cx_prog, cx_w, blkK, Int.toNat_natCast, upd_same, upd_upd, if_true, if_false, decide_eq_true_eq, reduceCtorEq, reduceIte, Bool.false_eq_true, decide_true, decide_false, Bool.true_and, Bool.false_and, Bool.and_true, Bool.and_false, Bool.not_true, Bool.not_false, V.int.injEq, V.str.injEq, V.bl.injEq, putF_nil, Nat.reduceAdd, Nat.reduceSub, Nat.reduceLT, Int.reduceEq, Int.reduceLT, Int.reduceLE, Int.reduceAdd, Int.reduceSub, Int.cast_ofNat_Int, wIsi, tyR_e, tyO_l, tyO_t, tyO_d, tyN_n, tyN_b, tyN_i, tyN_s, tyN_r, kit_NoneType_bool, kit_NoneType_int, kit_NoneType_str, kit_NoneType_list, kit_NoneType_tuple, kit_NoneType_dict, kit_bool_bool, kit_bool_int, kit_bool_str, kit_bool_list, kit_bool_tuple, kit_bool_dict, kit_int_bool, kit_int_int, kit_int_str, kit_int_list, kit_int_tuple, kit_int_dict, kit_str_bool, kit_str_int, kit_str_str, kit_str_list, kit_str_tuple, kit_str_dict, kit_list_bool, kit_list_int, kit_list_str, kit_list_list, kit_list_tuple, kit_list_dict, kit_tuple_bool, kit_tuple_int, kit_tuple_str, kit_tuple_list, kit_tuple_tuple, kit_tuple_dict, kit_dict_bool, kit_dict_int, kit_dict_str, kit_dict_list, kit_dict_tuple, kit_dict_dict, $a,*])
  | `(tactic| dsimp! [$a,*]) => `(tactic| ((try refine Later.mk ?_); simp! [$a,*]; repeat (refine Later.mk ?_; simp! [$a,*])))
section
variable {P : Program} {w : World} {K : PySem.W.Frag} {mg : Str → Option Value} {base : Heap} {A : Ad}
def F_RowWay (v0 v1 : V) : List (Str × V) := [("row", v0), ("place", v1)]
theorem lk_RowWay_row (v0 v1 : V) : List.lookup (Str.ofString "row") (F_RowWay v0 v1) = some v0 := by unfold F_RowWay; rw [lk_hit]
theorem pf_RowWay_row (v0 v1 : V) (x : V) : putF (Str.ofString "row") x (F_RowWay v0 v1) = F_RowWay x v1 := by unfold F_RowWay; rw [putF_hit]
theorem lk_RowWay_place (v0 v1 : V) : List.lookup (Str.ofString "place") (F_RowWay v0 v1) = some v1 := by unfold F_RowWay; rw [lk_miss _ _ (by decide +kernel)]; rw [lk_hit]
theorem pf_RowWay_place (v0 v1 : V) (x : V) : putF (Str.ofString "place") x (F_RowWay v0 v1) = F_RowWay v0 x := by unfold F_RowWay; rw [putF_miss _ _ _ (by decide +kernel)]; rw [putF_hit]
theorem lm_RowWay_wants (v0 v1 : V) : List.lookup (Str.ofString "wants") (F_RowWay v0 v1) = none := by unfold F_RowWay; rw [lk_miss _ _ (by decide +kernel)]; rw [lk_miss _ _ (by decide +kernel)]; rw [lk_nil]
theorem lm_RowWay_goes_on (v0 v1 : V) : List.lookup (Str.ofString "goes_on") (F_RowWay v0 v1) = none := by unfold F_RowWay; rw [lk_miss _ _ (by decide +kernel)]; rw [lk_miss _ _ (by decide +kernel)]; rw [lk_nil]
theorem lm_RowWay_standing (v0 v1 : V) : List.lookup (Str.ofString "standing") (F_RowWay v0 v1) = none := by unfold F_RowWay; rw [lk_miss _ _ (by decide +kernel)]; rw [lk_miss _ _ (by decide +kernel)]; rw [lk_nil]
theorem ln_RowWay (v0 v1 : V) : (F_RowWay v0 v1).length < 1000 := by show 2 < 1000; decide
theorem ij_RowWay (v0 v1 : V) (w0 w1 : V) : (F_RowWay v0 v1 = F_RowWay w0 w1) = (v0 = w0 ∧ v1 = w1) := by unfold F_RowWay; simp only [List.cons.injEq, Prod.mk.injEq, true_and, and_true, eq_iff_iff, and_assoc]
theorem pm_RowWay_1 (v0 v1 : V) : putF (Str.ofString "place") v1 [("row", v0)] = (F_RowWay v0 v1 : List (Str × V)) := by rw [putF_miss _ _ _ (by decide +kernel)]; rw [putF_nil]; rfl
def F_WaitWay (v0 v1 v2 : V) : List (Str × V) := [("digits", v0), ("place", v1), ("left", v2)]
theorem lk_WaitWay_digits (v0 v1 v2 : V) : List.lookup (Str.ofString "digits") (F_WaitWay v0 v1 v2) = some v0 := by unfold F_WaitWay; rw [lk_hit]
theorem pf_WaitWay_digits (v0 v1 v2 : V) (x : V) : putF (Str.ofString "digits") x (F_WaitWay v0 v1 v2) = F_WaitWay x v1 v2 := by unfold F_WaitWay; rw [putF_hit]
theorem lk_WaitWay_place (v0 v1 v2 : V) : List.lookup (Str.ofString "place") (F_WaitWay v0 v1 v2) = some v1 := by unfold F_WaitWay; rw [lk_miss _ _ (by decide +kernel)]; rw [lk_hit]
theorem pf_WaitWay_place (v0 v1 v2 : V) (x : V) : putF (Str.ofString "place") x (F_WaitWay v0 v1 v2) = F_WaitWay v0 x v2 := by unfold F_WaitWay; rw [putF_miss _ _ _ (by decide +kernel)]; rw [putF_hit]
theorem lk_WaitWay_left (v0 v1 v2 : V) : List.lookup (Str.ofString "left") (F_WaitWay v0 v1 v2) = some v2 := by unfold F_WaitWay; rw [lk_miss _ _ (by decide +kernel)]; rw [lk_miss _ _ (by decide +kernel)]; rw [lk_hit]
theorem pf_WaitWay_left (v0 v1 v2 : V) (x : V) : putF (Str.ofString "left") x (F_WaitWay v0 v1 v2) = F_WaitWay v0 v1 x := by unfold F_WaitWay; rw [putF_miss _ _ _ (by decide +kernel)]; rw [putF_miss _ _ _ (by decide +kernel)]; rw [putF_hit]
theorem lm_WaitWay_wants (v0 v1 v2 : V) : List.lookup (Str.ofString "wants") (F_WaitWay v0 v1 v2) = none := by unfold F_WaitWay; rw [lk_miss _ _ (by decide +kernel)]; rw [lk_miss _ _ (by decide +kernel)]; rw [lk_miss _ _ (by decide +kernel)]; rw [lk_nil]
theorem lm_WaitWay_goes_on (v0 v1 v2 : V) : List.lookup (Str.ofString "goes_on") (F_WaitWay v0 v1 v2) = none := by unfold F_WaitWay; rw [lk_miss _ _ (by decide +kernel)]; rw [lk_miss _ _ (by decide +kernel)]; rw [lk_miss _ _ (by decide +kernel)]; rw [lk_nil]
theorem lm_WaitWay_standing (v0 v1 v2 : V) : List.lookup (Str.ofString "standing") (F_WaitWay v0 v1 v2) = none := by unfold F_WaitWay; rw [lk_miss _ _ (by decide +kernel)]; rw [lk_miss _ _ (by decide +kernel)]; rw [lk_miss _ _ (by decide +kernel)]; rw [lk_nil]
theorem ln_WaitWay (v0 v1 v2 : V) : (F_WaitWay v0 v1 v2).length < 1000 := by show 3 < 1000; decide
theorem ij_WaitWay (v0 v1 v2 : V) (w0 w1 w2 : V) : (F_WaitWay v0 v1 v2 = F_WaitWay w0 w1 w2) = (v0 = w0 ∧ v1 = w1 ∧ v2 = w2) := by unfold F_WaitWay; simp only [List.cons.injEq, Prod.mk.injEq, true_and, and_true, eq_iff_iff, and_assoc]
theorem pm_WaitWay_1 (v0 v1 : V) : putF (Str.ofString "place") v1 [("digits", v0)] = ([("digits", v0), ("place", v1)] : List (Str × V)) := by rw [putF_miss _ _ _ (by decide +kernel)]; rw [putF_nil]
theorem pm_WaitWay_2 (v0 v1 v2 : V) : putF (Str.ofString "left") v2 [("digits", v0), ("place", v1)] = (F_WaitWay v0 v1 v2 : List (Str × V)) := by rw [putF_miss _ _ _ (by decide +kernel)]; rw [putF_miss _ _ _ (by decide +kernel)]; rw [putF_nil]; rfl
def F_TreeWay (v0 v1 v2 v3 v4 v5 : V) : List (Str × V) := [("skips", v0), ("joins", v1), ("digits", v2), ("level", v3), ("levels", v4), ("skipping", v5)]
theorem lk_TreeWay_skips (v0 v1 v2 v3 v4 v5 : V) : List.lookup (Str.ofString "skips") (F_TreeWay v0 v1 v2 v3 v4 v5) = some v0 := by unfold F_TreeWay; rw [lk_hit]
theorem pf_TreeWay_skips (v0 v1 v2 v3 v4 v5 : V) (x : V) : putF (Str.ofString "skips") x (F_TreeWay v0 v1 v2 v3 v4 v5) = F_TreeWay x v1 v2 v3 v4 v5 := by unfold F_TreeWay; rw [putF_hit]
theorem lk_TreeWay_joins (v0 v1 v2 v3 v4 v5 : V) : List.lookup (Str.ofString "joins") (F_TreeWay v0 v1 v2 v3 v4 v5) = some v1 := by unfold F_TreeWay; rw [lk_miss _ _ (by decide +kernel)]; rw [lk_hit]
theorem pf_TreeWay_joins (v0 v1 v2 v3 v4 v5 : V) (x : V) : putF (Str.ofString "joins") x (F_TreeWay v0 v1 v2 v3 v4 v5) = F_TreeWay v0 x v2 v3 v4 v5 := by unfold F_TreeWay; rw [putF_miss _ _ _ (by decide +kernel)]; rw [putF_hit]
theorem lk_TreeWay_digits (v0 v1 v2 v3 v4 v5 : V) : List.lookup (Str.ofString "digits") (F_TreeWay v0 v1 v2 v3 v4 v5) = some v2 := by unfold F_TreeWay; rw [lk_miss _ _ (by decide +kernel)]; rw [lk_miss _ _ (by decide +kernel)]; rw [lk_hit]
theorem pf_TreeWay_digits (v0 v1 v2 v3 v4 v5 : V) (x : V) : putF (Str.ofString "digits") x (F_TreeWay v0 v1 v2 v3 v4 v5) = F_TreeWay v0 v1 x v3 v4 v5 := by unfold F_TreeWay; rw [putF_miss _ _ _ (by decide +kernel)]; rw [putF_miss _ _ _ (by decide +kernel)]; rw [putF_hit]
theorem lk_TreeWay_level (v0 v1 v2 v3 v4 v5 : V) : List.lookup (Str.ofString "level") (F_TreeWay v0 v1 v2 v3 v4 v5) = some v3 := by unfold F_TreeWay; rw [lk_miss _ _ (by decide +kernel)]; rw [lk_miss _ _ (by decide +kernel)]; rw [lk_miss _ _ (by decide +kernel)]; rw [lk_hit]
theorem pf_TreeWay_level (v0 v1 v2 v3 v4 v5 : V) (x : V) : putF (Str.ofString "level") x (F_TreeWay v0 v1 v2 v3 v4 v5) = F_TreeWay v0 v1 v2 x v4 v5 := by unfold F_TreeWay; rw [putF_miss _ _ _ (by decide +kernel)]; rw [putF_miss _ _ _ (by decide +kernel)]; rw [putF_miss _ _ _ (by decide +kernel)]; rw [putF_hit]
theorem lk_TreeWay_levels (v0 v1 v2 v3 v4 v5 : V) : List.lookup (Str.ofString "levels") (F_TreeWay v0 v1 v2 v3 v4 v5) = some v4 := by unfold F_TreeWay; rw [lk_miss _ _ (by decide +kernel)]; rw [lk_miss _ _ (by decide +kernel)]; rw [lk_miss _ _ (by decide +kernel)]; rw [lk_miss _ _ (by decide +kernel)]; rw [lk_hit]
theorem pf_TreeWay_levels (v0 v1 v2 v3 v4 v5 : V) (x : V) : putF (Str.ofString "levels") x (F_TreeWay v0 v1 v2 v3 v4 v5) = F_TreeWay v0 v1 v2 v3 x v5 := by unfold F_TreeWay; rw [putF_miss _ _ _ (by decide +kernel)]; rw [putF_miss _ _ _ (by decide +kernel)]; rw [putF_miss _ _ _ (by decide +kernel)]; rw [putF_miss _ _ _ (by decide +kernel)]; rw [putF_hit]
theorem lk_TreeWay_skipping (v0 v1 v2 v3 v4 v5 : V) : List.lookup (Str.ofString "skipping") (F_TreeWay v0 v1 v2 v3 v4 v5) = some v5 := by unfold F_TreeWay; rw [lk_miss _ _ (by decide +kernel)]; rw [lk_miss _ _ (by decide +kernel)]; rw [lk_miss _ _ (by decide +kernel)]; rw [lk_miss _ _ (by decide +kernel)]; rw [lk_miss _ _ (by decide +kernel)]; rw [lk_hit]
theorem pf_TreeWay_skipping (v0 v1 v2 v3 v4 v5 : V) (x : V) : putF (Str.ofString "skipping") x (F_TreeWay v0 v1 v2 v3 v4 v5) = F_TreeWay v0 v1 v2 v3 v4 x := by unfold F_TreeWay; rw [putF_miss _ _ _ (by decide +kernel)]; rw [putF_miss _ _ _ (by decide +kernel)]; rw [putF_miss _ _ _ (by decide +kernel)]; rw [putF_miss _ _ _ (by decide +kernel)]; rw [putF_miss _ _ _ (by decide +kernel)]; rw [putF_hit]
theorem lm_TreeWay_wants (v0 v1 v2 v3 v4 v5 : V) : List.lookup (Str.ofString "wants") (F_TreeWay v0 v1 v2 v3 v4 v5) = none := by unfold F_TreeWay; rw [lk_miss _ _ (by decide +kernel)]; rw [lk_miss _ _ (by decide +kernel)]; rw [lk_miss _ _ (by decide +kernel)]; rw [lk_miss _ _ (by decide +kernel)]; rw [lk_miss _ _ (by decide +kernel)]; rw [lk_miss _ _ (by decide +kernel)]; rw [lk_nil]
theorem lm_TreeWay_goes_on (v0 v1 v2 v3 v4 v5 : V) : List.lookup (Str.ofString "goes_on") (F_TreeWay v0 v1 v2 v3 v4 v5) = none := by unfold F_TreeWay; rw [lk_miss _ _ (by decide +kernel)]; rw [lk_miss _ _ (by decide +kernel)]; rw [lk_miss _ _ (by decide +kernel)]; rw [lk_miss _ _ (by decide +kernel)]; rw [lk_miss _ _ (by decide +kernel)]; rw [lk_miss _ _ (by decide +kernel)]; rw [lk_nil]
theorem lm_TreeWay_split_level (v0 v1 v2 v3 v4 v5 : V) : List.lookup (Str.ofString "split_level") (F_TreeWay v0 v1 v2 v3 v4 v5) = none := by unfold F_TreeWay; rw [lk_miss _ _ (by decide +kernel)]; rw [lk_miss _ _ (by decide +kernel)]; rw [lk_miss _ _ (by decide +kernel)]; rw [lk_miss _ _ (by decide +kernel)]; rw [lk_miss _ _ (by decide +kernel)]; rw [lk_miss _ _ (by decide +kernel)]; rw [lk_nil]
theorem lm_TreeWay_drop_level (v0 v1 v2 v3 v4 v5 : V) : List.lookup (Str.ofString "drop_level") (F_TreeWay v0 v1 v2 v3 v4 v5) = none := by unfold F_TreeWay; rw [lk_miss _ _ (by decide +kernel)]; rw [lk_miss _ _ (by decide +kernel)]; rw [lk_miss _ _ (by decide +kernel)]; rw [lk_miss _ _ (by decide +kernel)]; rw [lk_miss _ _ (by decide +kernel)]; rw [lk_miss _ _ (by decide +kernel)]; rw [lk_nil]
theorem lm_TreeWay_standing (v0 v1 v2 v3 v4 v5 : V) : List.lookup (Str.ofString "standing") (F_TreeWay v0 v1 v2 v3 v4 v5) = none := by unfold F_TreeWay; rw [lk_miss _ _ (by decide +kernel)]; rw [lk_miss _ _ (by decide +kernel)]; rw [lk_miss _ _ (by decide +kernel)]; rw [lk_miss _ _ (by decide +kernel)]; rw [lk_miss _ _ (by decide +kernel)]; rw [lk_miss _ _ (by decide +kernel)]; rw [lk_nil]
theorem ln_TreeWay (v0 v1 v2 v3 v4 v5 : V) : (F_TreeWay v0 v1 v2 v3 v4 v5).length < 1000 := by show 6 < 1000; decide
theorem ij_TreeWay (v0 v1 v2 v3 v4 v5 : V) (w0 w1 w2 w3 w4 w5 : V) : (F_TreeWay v0 v1 v2 v3 v4 v5 = F_TreeWay w0 w1 w2 w3 w4 w5) = (v0 = w0 ∧ v1 = w1 ∧ v2 = w2 ∧ v3 = w3 ∧ v4 = w4 ∧ v5 = w5) := by unfold F_TreeWay; simp only [List.cons.injEq, Prod.mk.injEq, true_and, and_true, eq_iff_iff, and_assoc]
theorem pm_TreeWay_1 (v0 v1 : V) : putF (Str.ofString "joins") v1 [("skips", v0)] = ([("skips", v0), ("joins", v1)] : List (Str × V)) := by rw [putF_miss _ _ _ (by decide +kernel)]; rw [putF_nil]
theorem pm_TreeWay_2 (v0 v1 v2 : V) : putF (Str.ofString "digits") v2 [("skips", v0), ("joins", v1)] = ([("skips", v0), ("joins", v1), ("digits", v2)] : List (Str × V)) := by rw [putF_miss _ _ _ (by decide +kernel)]; rw [putF_miss _ _ _ (by decide +kernel)]; rw [putF_nil]
theorem pm_TreeWay_3 (v0 v1 v2 v3 : V) : putF (Str.ofString "level") v3 [("skips", v0), ("joins", v1), ("digits", v2)] = ([("skips", v0), ("joins", v1), ("digits", v2), ("level", v3)] : List (Str × V)) := by rw [putF_miss _ _ _ (by decide +kernel)]; rw [putF_miss _ _ _ (by decide +kernel)]; rw [putF_miss _ _ _ (by decide +kernel)]; rw [putF_nil]
theorem pm_TreeWay_4 (v0 v1 v2 v3 v4 : V) : putF (Str.ofString "levels") v4 [("skips", v0), ("joins", v1), ("digits", v2), ("level", v3)] = ([("skips", v0), ("joins", v1), ("digits", v2), ("level", v3), ("levels", v4)] : List (Str × V)) := by rw [putF_miss _ _ _ (by decide +kernel)]; rw [putF_miss _ _ _ (by decide +kernel)]; rw [putF_miss _ _ _ (by decide +kernel)]; rw [putF_miss _ _ _ (by decide +kernel)]; rw [putF_nil]
theorem pm_TreeWay_5 (v0 v1 v2 v3 v4 v5 : V) : putF (Str.ofString "skipping") v5 [("skips", v0), ("joins", v1), ("digits", v2), ("level", v3), ("levels", v4)] = (F_TreeWay v0 v1 v2 v3 v4 v5 : List (Str × V)) := by rw [putF_miss _ _ _ (by decide +kernel)]; rw [putF_miss _ _ _ (by decide +kernel)]; rw [putF_miss _ _ _ (by decide +kernel)]; rw [putF_miss _ _ _ (by decide +kernel)]; rw [putF_miss _ _ _ (by decide +kernel)]; rw [putF_nil]; rfl
def F_Station (v0 v1 v2 : V) : List (Str × V) := [("way", v0), ("spoke", v1), ("over", v2)]
theorem lk_Station_way (v0 v1 v2 : V) : List.lookup (Str.ofString "way") (F_Station v0 v1 v2) = some v0 := by unfold F_Station; rw [lk_hit]
theorem pf_Station_way (v0 v1 v2 : V) (x : V) : putF (Str.ofString "way") x (F_Station v0 v1 v2) = F_Station x v1 v2 := by unfold F_Station; rw [putF_hit]
theorem lk_Station_spoke (v0 v1 v2 : V) : List.lookup (Str.ofString "spoke") (F_Station v0 v1 v2) = some v1 := by unfold F_Station; rw [lk_miss _ _ (by decide +kernel)]; rw [lk_hit]
theorem pf_Station_spoke (v0 v1 v2 : V) (x : V) : putF (Str.ofString "spoke") x (F_Station v0 v1 v2) = F_Station v0 x v2 := by unfold F_Station; rw [putF_miss _ _ _ (by decide +kernel)]; rw [putF_hit]
theorem lk_Station_over (v0 v1 v2 : V) : List.lookup (Str.ofString "over") (F_Station v0 v1 v2) = some v2 := by unfold F_Station; rw [lk_miss _ _ (by decide +kernel)]; rw [lk_miss _ _ (by decide +kernel)]; rw [lk_hit]
theorem pf_Station_over (v0 v1 v2 : V) (x : V) : putF (Str.ofString "over") x (F_Station v0 v1 v2) = F_Station v0 v1 x := by unfold F_Station; rw [putF_miss _ _ _ (by decide +kernel)]; rw [putF_miss _ _ _ (by decide +kernel)]; rw [putF_hit]
theorem lm_Station_speaks (v0 v1 v2 : V) : List.lookup (Str.ofString "speaks") (F_Station v0 v1 v2) = none := by unfold F_Station; rw [lk_miss _ _ (by decide +kernel)]; rw [lk_miss _ _ (by decide +kernel)]; rw [lk_miss _ _ (by decide +kernel)]; rw [lk_nil]
theorem lm_Station_hears (v0 v1 v2 : V) : List.lookup (Str.ofString "hears") (F_Station v0 v1 v2) = none := by unfold F_Station; rw [lk_miss _ _ (by decide +kernel)]; rw [lk_miss _ _ (by decide +kernel)]; rw [lk_miss _ _ (by decide +kernel)]; rw [lk_nil]
theorem lm_Station_standing (v0 v1 v2 : V) : List.lookup (Str.ofString "standing") (F_Station v0 v1 v2) = none := by unfold F_Station; rw [lk_miss _ _ (by decide +kernel)]; rw [lk_miss _ _ (by decide +kernel)]; rw [lk_miss _ _ (by decide +kernel)]; rw [lk_nil]
theorem ln_Station (v0 v1 v2 : V) : (F_Station v0 v1 v2).length < 1000 := by show 3 < 1000; decide
theorem ij_Station (v0 v1 v2 : V) (w0 w1 w2 : V) : (F_Station v0 v1 v2 = F_Station w0 w1 w2) = (v0 = w0 ∧ v1 = w1 ∧ v2 = w2) := by unfold F_Station; simp only [List.cons.injEq, Prod.mk.injEq, true_and, and_true, eq_iff_iff, and_assoc]
theorem pm_Station_1 (v0 v1 : V) : putF (Str.ofString "spoke") v1 [("way", v0)] = ([("way", v0), ("spoke", v1)] : List (Str × V)) := by rw [putF_miss _ _ _ (by decide +kernel)]; rw [putF_nil]
theorem pm_Station_2 (v0 v1 v2 : V) : putF (Str.ofString "over") v2 [("way", v0), ("spoke", v1)] = (F_Station v0 v1 v2 : List (Str × V)) := by rw [putF_miss _ _ _ (by decide +kernel)]; rw [putF_miss _ _ _ (by decide +kernel)]; rw [putF_nil]; rfl
theorem one_eq (c : Nat) : decide ((⟨#[c]⟩ : Str) = Str.ofString "1") = (c == 49) := by
  have h : ((⟨#[c]⟩ : Str) = Str.ofString "1") ↔ c = 49 := by
    rw [show Str.ofString "1" = (⟨#[49]⟩ : Str) from by decide +kernel]
    constructor
    · intro e
      injection e with e
      have := congrArg Array.toList e
      simpa using this
    · rintro rfl
      rfl
  rw [Bool.eq_iff_iff]
  simp [h]
theorem wd_sn : (Str.ofString "silent" = Str.ofString "noise") = False := by simp only [eq_iff_iff, iff_false]; decide +kernel
theorem wd_hn : (Str.ofString "heard" = Str.ofString "noise") = False := by simp only [eq_iff_iff, iff_false]; decide +kernel
theorem wd_hs : (Str.ofString "heard" = Str.ofString "silent") = False := by simp only [eq_iff_iff, iff_false]; decide +kernel
theorem wd_sh : (Str.ofString "silent" = Str.ofString "heard") = False := by simp only [eq_iff_iff, iff_false]; decide +kernel
theorem wd_nh : (Str.ofString "noise" = Str.ofString "heard") = False := by simp only [eq_iff_iff, iff_false]; decide +kernel
theorem wd_ns : (Str.ofString "noise" = Str.ofString "silent") = False := by simp only [eq_iff_iff, iff_false]; decide +kernel
theorem get_getD {α : Type} {xs : List α} {k : Nat} (d : α) (h : k < xs.length) : xs[k]? = some (xs.getD k d) := by simp [h]
theorem atI_ints {ds : List Int} {p : Nat} (h : p < ds.length) : atI (ds.map V.int) (p : Int) = some (.int (ds.getD p 0)) := by
  refine atI_nat ?_
  rw [List.getElem?_map, get_getD 0 h]
  rfl
/-! rows -/
def spRow_init (A : Ad) : Sp := fun vs H Q _ => ∃ (q dx : Addr) (r : V), vs = [.ref q, r] ∧ H q = some (.ins A.c_RowWay dx []) ∧ Q .non (upd H q (.ins A.c_RowWay dx (F_RowWay r (.int 0))))
theorem sc_RowWay___init__ : FnScope ["self", "row"] ["self", "row"] (defScope s_RowWay___init__) := ⟨rfl, rfl, rfl, by decide +kernel, rfl, by decide +kernel, by decide +kernel⟩
theorem ok_RowWay___init__ (T : Txt K mg base A) : FnOk P w K mg base CX0 1 A.RowWay___init__ A.d_RowWay___init__ ["self", "row"] (spRow_init A) := by
  refine T.F_RowWay___init__.ok sc_RowWay___init__ (fun vs H Q E h => ?_) (fun cdv A' outer s H vs Q E hr h => ?_)
  · obtain ⟨q, dx, r, rfl, _⟩ := h
    rfl
  obtain ⟨q, dx, r, rfl, hq, kk⟩ := h
  have hu := hu_of hr
  refine ⟨_, (qs_cons (q_sfld (qv 0) (qv 1) rfl)
    (pss_one (q_sfld (qv 0) pe_int rfl))), ?_⟩
  dsimp! [T.n_RowWay_row, lk_RowWay_row, pf_RowWay_row, T.n_RowWay_place, lk_RowWay_place, pf_RowWay_place, T.cl_RowWay, ln_RowWay, pm_RowWay_1, lm_RowWay_wants, lm_RowWay_goes_on, lm_RowWay_standing, hq]
  exact kk
def spRow_goes (A : Ad) : Sp := fun vs H Q _ => ∃ (q dx : Addr) (r : Str) (k : Nat) (b u : V), vs = [.ref q, b, u] ∧ H q = some (.ins A.c_RowWay dx (F_RowWay (.str r) (nV k))) ∧ r.length ≤ 12 ∧ k < r.length ∧
  Q .non (upd H q (.ins A.c_RowWay dx (F_RowWay (.str r) (nV ((k + 1) % r.length)))))
theorem sc_RowWay_goes_on : FnScope ["self", "spoke", "word"] ["self", "spoke", "word"] (defScope s_RowWay_goes_on) := ⟨rfl, rfl, rfl, by decide +kernel, rfl, by decide +kernel, by decide +kernel⟩
theorem ok_RowWay_goes_on (T : Txt K mg base A) : FnOk P w K mg base CX0 1 A.RowWay_goes_on A.d_RowWay_goes_on ["self", "spoke", "word"] (spRow_goes A) := by
  refine T.F_RowWay_goes_on.ok sc_RowWay_goes_on (fun vs H Q E h => ?_) (fun cdv A' outer s H vs Q E hr h => ?_)
  · obtain ⟨q, dx, r, k, b, u, rfl, _⟩ := h
    rfl
  obtain ⟨q, dx, r, k, b, u, rfl, hq, h1, h0, kk⟩ := h
  have hu := hu_of hr
  refine ⟨_, (pss_one (q_sfld (qv 0) (pe_op o_mod (pe_op o_add (q_fld (qv 0) rfl) pe_int) (pe_callB c_len (by rfl) T.m_len (by decide +kernel) (pa_cons (q_fld (qv 0) rfl) pa_nil))) rfl)), ?_⟩
  dsimp! [T.n_RowWay_row, lk_RowWay_row, pf_RowWay_row, T.n_RowWay_place, lk_RowWay_place, pf_RowWay_place, T.cl_RowWay, ln_RowWay, pm_RowWay_1, lm_RowWay_wants, lm_RowWay_goes_on, lm_RowWay_standing, hq, nV]
  exact ⟨Nat.le_trans h1 (by decide), by omega, kk⟩
def spRow_wants (A : Ad) : Sp := fun vs H Q _ => ∃ (q dx : Addr) (r : Str) (k : Nat) (b : Bool), vs = [.ref q, .bl b] ∧ H q = some (.ins A.c_RowWay dx (F_RowWay (.str r) (nV k))) ∧ r.length ≤ 12 ∧ k < r.length ∧
  Q (.bl (b && r.cps.toList.getD k 0 == 49)) H
theorem sc_RowWay_wants : FnScope ["self", "present"] ["self", "present"] (defScope s_RowWay_wants) := ⟨rfl, rfl, rfl, by decide +kernel, rfl, by decide +kernel, by decide +kernel⟩
theorem ok_RowWay_wants (T : Txt K mg base A) : FnOk P w K mg base CX0 1 A.RowWay_wants A.d_RowWay_wants ["self", "present"] (spRow_wants A) := by
  refine T.F_RowWay_wants.ok sc_RowWay_wants (fun vs H Q E h => ?_) (fun cdv A' outer s H vs Q E hr h => ?_)
  · obtain ⟨q, dx, r, k, b, rfl, _⟩ := h
    rfl
  obtain ⟨q, dx, r, k, b, rfl, hq, h1, h0, kk⟩ := h
  have hu := hu_of hr
  refine ⟨_, (pss_one (ps_ret (q_and (qv 1) (pe_one (pe_cmpR op_eq (pe_ix ix_S (q_fld (qv 0) rfl) (q_fld (qv 0) rfl) (fun _ _ => rfl)) pe_str (nomark _)))))), ?_⟩
  have ha : atI r.cps.toList (k : Int) = some (r.cps.toList.getD k 0) := atI_nat (get_getD 0 (by simpa [Str.length] using h0))
  dsimp! [T.n_RowWay_row, lk_RowWay_row, pf_RowWay_row, T.n_RowWay_place, lk_RowWay_place, pf_RowWay_place, T.cl_RowWay, ln_RowWay, pm_RowWay_1, lm_RowWay_wants, lm_RowWay_goes_on, lm_RowWay_standing, hq, ha, one_eq, nV]
  cases b with
  | true => exact ⟨Nat.le_trans h1 (by decide), kk⟩
  | false => exact kk
def spRow_stand (A : Ad) : Sp := fun vs H Q _ => ∃ (q dx : Addr) (r k : V), vs = [.ref q] ∧ H q = some (.ins A.c_RowWay dx (F_RowWay r k)) ∧ ∀ t, H t = none → Q (.ref t) (upd H t (.tup [k]))
theorem sc_RowWay_standing : FnScope ["self"] ["self"] (defScope s_RowWay_standing) := ⟨rfl, rfl, rfl, by decide +kernel, rfl, by decide +kernel, by decide +kernel⟩
theorem ok_RowWay_standing (T : Txt K mg base A) : FnOk P w K mg base CX0 1 A.RowWay_standing A.d_RowWay_standing ["self"] (spRow_stand A) := by
  refine T.F_RowWay_standing.ok sc_RowWay_standing (fun vs H Q E h => ?_) (fun cdv A' outer s H vs Q E hr h => ?_)
  · obtain ⟨q, dx, r, k, rfl, _⟩ := h
    rfl
  obtain ⟨q, dx, r, k, rfl, hq, kk⟩ := h
  have hu := hu_of hr
  refine ⟨_, (pss_one (ps_ret (pe_tup (pa_cons (q_fld (qv 0) rfl) pa_nil)))), ?_⟩
  dsimp! [T.n_RowWay_row, lk_RowWay_row, pf_RowWay_row, T.n_RowWay_place, lk_RowWay_place, pf_RowWay_place, T.cl_RowWay, ln_RowWay, pm_RowWay_1, lm_RowWay_wants, lm_RowWay_goes_on, lm_RowWay_standing, hq]
  exact ⟨by decide, kk⟩
/-! waits -/
def spWait_init (A : Ad) : Sp := fun vs H Q _ => ∃ (q dx : Addr) (r : V), vs = [.ref q, r] ∧ H q = some (.ins A.c_WaitWay dx []) ∧ Q .non (upd H q (.ins A.c_WaitWay dx (F_WaitWay r (.int 0) (.int 0))))
theorem sc_WaitWay___init__ : FnScope ["self", "digits"] ["self", "digits"] (defScope s_WaitWay___init__) := ⟨rfl, rfl, rfl, by decide +kernel, rfl, by decide +kernel, by decide +kernel⟩
theorem ok_WaitWay___init__ (T : Txt K mg base A) : FnOk P w K mg base CX0 1 A.WaitWay___init__ A.d_WaitWay___init__ ["self", "digits"] (spWait_init A) := by
  refine T.F_WaitWay___init__.ok sc_WaitWay___init__ (fun vs H Q E h => ?_) (fun cdv A' outer s H vs Q E hr h => ?_)
  · obtain ⟨q, dx, r, rfl, _⟩ := h
    rfl
  obtain ⟨q, dx, r, rfl, hq, kk⟩ := h
  have hu := hu_of hr
  refine ⟨_, (qs_cons (q_sfld (qv 0) (qv 1) rfl)
    (qs_cons (q_sfld (qv 0) pe_int rfl)
    (pss_one (q_sfld (qv 0) pe_int rfl)))), ?_⟩
  dsimp! [T.n_WaitWay_digits, lk_WaitWay_digits, pf_WaitWay_digits, T.n_WaitWay_place, lk_WaitWay_place, pf_WaitWay_place, T.n_WaitWay_left, lk_WaitWay_left, pf_WaitWay_left, T.cl_WaitWay, ln_WaitWay, pm_WaitWay_1, pm_WaitWay_2, lm_WaitWay_wants, lm_WaitWay_goes_on, lm_WaitWay_standing, hq]
  exact kk
def spWait_wants (A : Ad) : Sp := fun vs H Q _ => ∃ (q dx : Addr) (d p : V) (l : Int) (b : Bool), vs = [.ref q, .bl b] ∧ H q = some (.ins A.c_WaitWay dx (F_WaitWay d p (.int l))) ∧ Q (.bl (b && l == 0)) H
theorem sc_WaitWay_wants : FnScope ["self", "present"] ["self", "present"] (defScope s_WaitWay_wants) := ⟨rfl, rfl, rfl, by decide +kernel, rfl, by decide +kernel, by decide +kernel⟩
theorem ok_WaitWay_wants (T : Txt K mg base A) : FnOk P w K mg base CX0 1 A.WaitWay_wants A.d_WaitWay_wants ["self", "present"] (spWait_wants A) := by
  refine T.F_WaitWay_wants.ok sc_WaitWay_wants (fun vs H Q E h => ?_) (fun cdv A' outer s H vs Q E hr h => ?_)
  · obtain ⟨q, dx, d, p, l, b, rfl, _⟩ := h
    rfl
  obtain ⟨q, dx, d, p, l, b, rfl, hq, kk⟩ := h
  have hu := hu_of hr
  refine ⟨_, (pss_one (ps_ret (q_and (qv 1) (pe_one (pe_cmpR op_eq (q_fld (qv 0) rfl) pe_int (nomark _)))))), ?_⟩
  dsimp! [T.n_WaitWay_digits, lk_WaitWay_digits, pf_WaitWay_digits, T.n_WaitWay_place, lk_WaitWay_place, pf_WaitWay_place, T.n_WaitWay_left, lk_WaitWay_left, pf_WaitWay_left, T.cl_WaitWay, ln_WaitWay, pm_WaitWay_1, pm_WaitWay_2, lm_WaitWay_wants, lm_WaitWay_goes_on, lm_WaitWay_standing, hq]
  have e : decide (l = 0) = (l == 0) := by rw [Bool.eq_iff_iff]; simp
  rw [e]
  cases b with
  | true => exact kk
  | false => exact kk
def spWait_goes (A : Ad) : Sp := fun vs H Q _ => ∃ (q dx d : Addr) (ds : List Int) (p : Nat) (l : Int) (b : Bool) (wd : Wd), vs = [.ref q, .bl b, .str wd.s] ∧ H q = some (.ins A.c_WaitWay dx (F_WaitWay (.ref d) (nV p) (.int l))) ∧ H d = some (.lst (ds.map V.int)) ∧ p < ds.length ∧
  (b = true ∧ wd = .noi → Q .non (upd H q (.ins A.c_WaitWay dx (F_WaitWay (.ref d) (nV ((p + 1) % ds.length)) (.int (ds.getD p 0)))))) ∧
  (¬ (b = true ∧ wd = .noi) → 0 < l → Q .non (upd H q (.ins A.c_WaitWay dx (F_WaitWay (.ref d) (nV p) (.int (l - 1)))))) ∧ (¬ (b = true ∧ wd = .noi) → ¬ 0 < l → Q .non H)
theorem sc_WaitWay_goes_on : FnScope ["self", "spoke", "word"] ["self", "spoke", "word"] (defScope s_WaitWay_goes_on) := ⟨rfl, rfl, rfl, by decide +kernel, rfl, by decide +kernel, by decide +kernel⟩
theorem ok_WaitWay_goes_on (T : Txt K mg base A) : FnOk P w K mg base CX0 1 A.WaitWay_goes_on A.d_WaitWay_goes_on ["self", "spoke", "word"] (spWait_goes A) := by
  refine T.F_WaitWay_goes_on.ok sc_WaitWay_goes_on (fun vs H Q E h => ?_) (fun cdv A' outer s H vs Q E hr h => ?_)
  · obtain ⟨q, dx, d, ds, p, l, b, wd, rfl, _⟩ := h
    rfl
  obtain ⟨q, dx, d, ds, p, l, b, wd, rfl, hq, hd, hp, k1, k2, k3⟩ := h
  have hu := hu_of hr
  refine ⟨_, (pss_one (q_if (PW.pt (pw_and (q_val (qv 1)) (pw_and1 (q_cmp op_eq (qv 2) pe_str (nomark _))))) (qs_cons (q_sfld (qv 0) (pe_ix ix_L (q_fld (qv 0) rfl) (q_fld (qv 0) rfl) (fun _ _ => rfl)) rfl)
    (pss_one (q_sfld (qv 0) (pe_op o_mod (pe_op o_add (q_fld (qv 0) rfl) pe_int) (pe_callB c_len (by rfl) T.m_len (by decide +kernel) (pa_cons (q_fld (qv 0) rfl) pa_nil))) rfl))) (pss_one (q_if (q_cmp o_gt (q_fld (qv 0) rfl) pe_int (nomark _)) (pss_one (q_augI (qv 0) pe_int i_sub)) pss_nil)))), ?_⟩
  have ha := atI_ints hp
  have ne : d ≠ q := ne_of hd hq (by simp)
  cases b with
  | true =>
    cases wd with
    | noi =>
      dsimp! [T.n_WaitWay_digits, lk_WaitWay_digits, pf_WaitWay_digits, T.n_WaitWay_place, lk_WaitWay_place, pf_WaitWay_place, T.n_WaitWay_left, lk_WaitWay_left, pf_WaitWay_left, T.cl_WaitWay, ln_WaitWay, pm_WaitWay_1, pm_WaitWay_2, lm_WaitWay_wants, lm_WaitWay_goes_on, lm_WaitWay_standing, hq, hd, nV, ha, Wd.s, upd_ne ne]
      rw [List.length_map]
      exact ⟨by omega, k1 ⟨rfl, rfl⟩⟩
    | sil =>
      dsimp! [T.n_WaitWay_digits, lk_WaitWay_digits, pf_WaitWay_digits, T.n_WaitWay_place, lk_WaitWay_place, pf_WaitWay_place, T.n_WaitWay_left, lk_WaitWay_left, pf_WaitWay_left, T.cl_WaitWay, ln_WaitWay, pm_WaitWay_1, pm_WaitWay_2, lm_WaitWay_wants, lm_WaitWay_goes_on, lm_WaitWay_standing, hq, hd, nV, ha, Wd.s, wd_sn]
      refine ite2 (fun h => ?_) (fun h => ?_) <;> dsimp! [T.n_WaitWay_digits, lk_WaitWay_digits, pf_WaitWay_digits, T.n_WaitWay_place, lk_WaitWay_place, pf_WaitWay_place, T.n_WaitWay_left, lk_WaitWay_left, pf_WaitWay_left, T.cl_WaitWay, ln_WaitWay, pm_WaitWay_1, pm_WaitWay_2, lm_WaitWay_wants, lm_WaitWay_goes_on, lm_WaitWay_standing, hq] <;> first | exact k2 (by simp) h | exact k3 (by simp) h
    | hrd =>
      dsimp! [T.n_WaitWay_digits, lk_WaitWay_digits, pf_WaitWay_digits, T.n_WaitWay_place, lk_WaitWay_place, pf_WaitWay_place, T.n_WaitWay_left, lk_WaitWay_left, pf_WaitWay_left, T.cl_WaitWay, ln_WaitWay, pm_WaitWay_1, pm_WaitWay_2, lm_WaitWay_wants, lm_WaitWay_goes_on, lm_WaitWay_standing, hq, hd, nV, ha, Wd.s, wd_hn]
      refine ite2 (fun h => ?_) (fun h => ?_) <;> dsimp! [T.n_WaitWay_digits, lk_WaitWay_digits, pf_WaitWay_digits, T.n_WaitWay_place, lk_WaitWay_place, pf_WaitWay_place, T.n_WaitWay_left, lk_WaitWay_left, pf_WaitWay_left, T.cl_WaitWay, ln_WaitWay, pm_WaitWay_1, pm_WaitWay_2, lm_WaitWay_wants, lm_WaitWay_goes_on, lm_WaitWay_standing, hq] <;> first | exact k2 (by simp) h | exact k3 (by simp) h
  | false =>
    dsimp! [T.n_WaitWay_digits, lk_WaitWay_digits, pf_WaitWay_digits, T.n_WaitWay_place, lk_WaitWay_place, pf_WaitWay_place, T.n_WaitWay_left, lk_WaitWay_left, pf_WaitWay_left, T.cl_WaitWay, ln_WaitWay, pm_WaitWay_1, pm_WaitWay_2, lm_WaitWay_wants, lm_WaitWay_goes_on, lm_WaitWay_standing, hq, hd, nV, ha, Wd.s]
    refine ite2 (fun h => ?_) (fun h => ?_) <;> dsimp! [T.n_WaitWay_digits, lk_WaitWay_digits, pf_WaitWay_digits, T.n_WaitWay_place, lk_WaitWay_place, pf_WaitWay_place, T.n_WaitWay_left, lk_WaitWay_left, pf_WaitWay_left, T.cl_WaitWay, ln_WaitWay, pm_WaitWay_1, pm_WaitWay_2, lm_WaitWay_wants, lm_WaitWay_goes_on, lm_WaitWay_standing, hq] <;> first | exact k2 (by simp) h | exact k3 (by simp) h
def spWait_stand (A : Ad) : Sp := fun vs H Q _ => ∃ (q dx : Addr) (d p l : V), vs = [.ref q] ∧ H q = some (.ins A.c_WaitWay dx (F_WaitWay d p l)) ∧ ∀ t, H t = none → Q (.ref t) (upd H t (.tup [l, p]))
theorem sc_WaitWay_standing : FnScope ["self"] ["self"] (defScope s_WaitWay_standing) := ⟨rfl, rfl, rfl, by decide +kernel, rfl, by decide +kernel, by decide +kernel⟩
theorem ok_WaitWay_standing (T : Txt K mg base A) : FnOk P w K mg base CX0 1 A.WaitWay_standing A.d_WaitWay_standing ["self"] (spWait_stand A) := by
  refine T.F_WaitWay_standing.ok sc_WaitWay_standing (fun vs H Q E h => ?_) (fun cdv A' outer s H vs Q E hr h => ?_)
  · obtain ⟨q, dx, d, p, l, rfl, _⟩ := h
    rfl
  obtain ⟨q, dx, d, p, l, rfl, hq, kk⟩ := h
  have hu := hu_of hr
  refine ⟨_, (pss_one (ps_ret (pe_tup (pa_cons (q_fld (qv 0) rfl) (pa_cons (q_fld (qv 0) rfl) pa_nil))))), ?_⟩
  dsimp! [T.n_WaitWay_digits, lk_WaitWay_digits, pf_WaitWay_digits, T.n_WaitWay_place, lk_WaitWay_place, pf_WaitWay_place, T.n_WaitWay_left, lk_WaitWay_left, pf_WaitWay_left, T.cl_WaitWay, ln_WaitWay, pm_WaitWay_1, pm_WaitWay_2, lm_WaitWay_wants, lm_WaitWay_goes_on, lm_WaitWay_standing, hq]
  exact ⟨by decide, kk⟩
end
end OA

namespace OA
open PySem PySem.Spec PyProof.Rows L2
theorem Same.new {H : Hp} {p : Addr} {o : HO} (h : H p = none) : Same H (upd H p o) := fun b u e => by
  rw [upd_ne (ne_of_none e h)]
  exact e
theorem atI_zero (x : V) (xs : List V) : atI (x :: xs) 0 = some x := by
  have := atI_nat (xs := x :: xs) (j := 0) (v := x) rfl
  exact this
theorem atI_one (x y : V) (xs : List V) : atI (x :: y :: xs) 1 = some y := atI_nat (xs := x :: y :: xs) (j := 1) (v := y) rfl
theorem atI_two (x y z : V) (xs : List V) : atI (x :: y :: z :: xs) 2 = some z := atI_nat (xs := x :: y :: z :: xs) (j := 2) (v := z) rfl
theorem Same.back {H H' : Hp} (e : Same H H') : ∀ b, H' b = none → H b = none := fun b h => by
  cases q : H b with
  | none => rfl
  | some o => rw [e b o q] at h; cases h
/-- wakes, by number and moment -/
abbrev WL := List (Nat × Nat)
def wkv (wl : WL) : List (Key × V) := wl.map fun x => (Sum.inl (x.1 : Int), V.int (x.2 : Nat))
theorem valV_wkv {wl : WL} {j : Nat} : valV (wkv wl) (Sum.inl (j : Int)) = (wl.lookup j).map fun t => V.int (t : Nat) := by
  unfold valV wkv
  induction wl with
  | nil => rfl
  | cons x wl ih =>
    rw [List.map_cons, List.find?_cons]
    by_cases h : x.1 = j
    · have h1 : (j == x.1) = true := by simp [h]
      simp [h, List.lookup]
    · have h1 : (j == x.1) = false := by simp; omega
      have h2 : ¬ ((x.1 : Int) = (j : Int)) := by omega
      simp only [List.lookup, h1, Sum.inl.injEq, h2, decide_false]
      exact ih
end OA

namespace OA
open PySem L2
local macro_rules
  | `(tactic| simp! [$a,*]) => `(tactic| simp -implicitDefEqProofs only [wNeD0, wRep, tDNewK, vDc, wSortDI, dkR_e, dkR_f, e_cut, wSetL, vLstRg, wLstD, e_lock, vVals, gSub, tCKw, frzO_e, viItems, viKeys, vRev, e_while, e_for, e_asgG, gName, vgTup, vgCons_e, vgNil_e, viList, viTup, viStr, viR1, viEnum, vLc, tYes, wipe, e_seq, e_next, e_drop, e_ret, e_retN, e_sfld, e_augI, e_aug, e_dput, vIf, vTest, wInT, vVar, vFld, tC, tOp, tUn, wI0, wIC, rEq, rNe, scal, wAddS, wMulS, wCat, wNeg, wIxL, wIxT, wIxS, vPart, tNoPart, tSl, wSlL, tCB, tCons, tNil, len_s, wTupL, wLstL, wAbs, wIntB, wMin2, wMax2, vAnd, vOr, vNot, vChain, vMeth, vCall, vMake, vLM0, vLM, isLst, wAppend, wPopAt, wInsert0, vStar, vDGet, vDIn, vDNotIn, tTup, tLst, tIf, tAnd, tOr, tNot, refR_e, intR_e, blR_e, strR_e, optR_e, keyR_i, keyR_s, insO_e, lstO_e, tupO_e, dkO_e, one1_e, two2_e, len_r, lenO_l, lenO_t, lenO_d, L2.start, List.map, List.replicate, List.length_cons, List.length_nil, List.cons_append, List.nil_append, List.append_nil, List.getElem?_cons_zero, List.getElem?_cons_succ, List.set_cons_zero, List.set_cons_succ, true_and, and_true, cx_K, cx_prog, cx_w, blkK, Int.toNat_natCast, upd_same, upd_upd, if_true, if_false, decide_eq_true_eq, reduceCtorEq, reduceIte, Bool.false_eq_true, decide_true, decide_false, Bool.true_and, Bool.false_and, Bool.and_true, Bool.and_false, Bool.not_true, Bool.not_false, V.int.injEq, V.str.injEq, V.bl.injEq, putF_nil, Nat.reduceAdd, Nat.reduceSub, Nat.reduceLT, Int.reduceEq, Int.reduceLT, Int.reduceLE, Int.reduceAdd, Int.reduceSub, Int.cast_ofNat_Int, wIsi, tyR_e, tyO_l, tyO_t, tyO_d, tyN_n, tyN_b, tyN_i, tyN_s, tyN_r, kit_NoneType_bool, kit_NoneType_int, kit_NoneType_str, kit_NoneType_list, kit_NoneType_tuple, kit_NoneType_dict, kit_bool_bool, kit_bool_int, kit_bool_str, kit_bool_list, kit_bool_tuple, kit_bool_dict, kit_int_bool, kit_int_int, kit_int_str, kit_int_list, kit_int_tuple, kit_int_dict, kit_str_bool, kit_str_int, kit_str_str, kit_str_list, kit_str_tuple, kit_str_dict, kit_list_bool, kit_list_int, kit_list_str, kit_list_list, kit_list_tuple, kit_list_dict, kit_tuple_bool, kit_tuple_int, kit_tuple_str, kit_tuple_list, kit_tuple_tuple, kit_tuple_dict, kit_dict_bool, kit_dict_int, kit_dict_str, kit_dict_list, kit_dict_tuple, kit_dict_dict, $a,*])
  | `(tactic| dsimp! [$a,*]) => `(tactic| ((try refine Later.mk ?_); simp! [$a,*]; repeat (refine Later.mk ?_; simp! [$a,*])))
section
variable {P : Program} {w : World} {K : PySem.W.Frag} {mg : Str → Option Value} {base : Heap} {A : Ad}
/-- a tree's way stands at q -/
structure TreeAt (A : Ad) (H : Hp) (q dx d l : Addr) (sk jn : Bool) (ds : List Int) (lv : Option Int) (ls : List Nat) (skp : Bool) : Prop where
  ob : H q = some (.ins A.c_TreeWay dx (F_TreeWay (.bl sk) (.bl jn) (.ref d) (lvV lv) (.ref l) (.bl skp)))
  dg : H d = some (.lst (ds.map V.int))
  lv : H l = some (.lst (ls.map nV))
theorem TreeAt.nd {H : Hp} {q dx d l : Addr} {sk jn : Bool} {ds : List Int} {lv : Option Int} {ls : List Nat} {skp : Bool} (h : TreeAt A H q dx d l sk jn ds lv ls skp) : d ≠ q := ne_of h.dg h.ob (by simp)
theorem TreeAt.nl {H : Hp} {q dx d l : Addr} {sk jn : Bool} {ds : List Int} {lv : Option Int} {ls : List Nat} {skp : Bool} (h : TreeAt A H q dx d l sk jn ds lv ls skp) : l ≠ q := ne_of h.lv h.ob (by simp)
/-- all but q is kept -/
def Kept (q : Addr) (H H' : Hp) : Prop := ∀ b o, H b = some o → b ≠ q → H' b = some o
theorem Kept.refl (q : Addr) (H : Hp) : Kept q H H := fun _ _ h _ => h
theorem Kept.trans {q : Addr} {H H1 H2 : Hp} (a : Kept q H H1) (b : Kept q H1 H2) : Kept q H H2 := fun x o h n => b x o (a x o h n) n
theorem Kept.put {q : Addr} {H H1 : Hp} {o : HO} (a : Kept q H H1) : Kept q H (upd H1 q o) := fun x u h n => by
  rw [upd_ne n]
  exact a x u h n
theorem Kept.new {q l : Addr} {H H1 : Hp} {o : HO} (a : Kept q H H1) (hn : H1 l = none) : Kept q H (upd H1 l o) := fun x u h n => by
  have e := a x u h n
  rw [upd_ne (ne_of_none e hn)]
  exact e
theorem cutV_one (x : V) (xs : List V) : cutV (x :: xs) (some 1) none = xs := by
  have h : HT.sIx (x :: xs).length 0 (some ((1 : Nat) : Int)) = min 1 (x :: xs).length := HT.sIx_nat _ _ _
  show ((x :: xs).drop (HT.sIx (x :: xs).length 0 (some ((1 : Nat) : Int)))).take (HT.sIx (x :: xs).length (x :: xs).length none - HT.sIx (x :: xs).length 0 (some ((1 : Nat) : Int))) = xs
  rw [h, HT.sIx_none]
  have e : min 1 (x :: xs).length = 1 := by simp only [List.length_cons]; omega
  rw [e]
  simp
theorem cutV_nil : cutV [] (some 1) none = [] := by simp [cutV]
theorem cutV_tail (xs : List V) : cutV xs (some 1) none = xs.tail := by
  cases xs with
  | nil => exact cutV_nil
  | cons x xs => exact cutV_one x xs
def spTree_init (A : Ad) : Sp := fun vs H Q _ => ∃ (q dx d : Addr) (how late : Str) (ds : List Int), vs = [.ref q, .str how, .str late, .ref d] ∧ H q = some (.ins A.c_TreeWay dx []) ∧ H d = some (.lst (ds.map V.int)) ∧
  ∀ l H', Kept q H H' → H l = none → TreeAt A H' q dx d l (decide (how = "skips")) (decide (late = "joins")) ds none [] false → Q .non H'
theorem sc_TreeWay___init__ : FnScope ["self", "how", "late", "digits"] ["self", "how", "late", "digits"] (defScope s_TreeWay___init__) := ⟨rfl, rfl, rfl, by decide +kernel, rfl, by decide +kernel, by decide +kernel⟩
theorem ok_TreeWay___init__ (T : Txt K mg base A) : FnOk P w K mg base CX0 1 A.TreeWay___init__ A.d_TreeWay___init__ ["self", "how", "late", "digits"] (spTree_init A) := by
  refine T.F_TreeWay___init__.ok sc_TreeWay___init__ (fun vs H Q E h => ?_) (fun cdv A' outer s H vs Q E hr h => ?_)
  · obtain ⟨q, dx, d, how, late, ds, rfl, _⟩ := h
    rfl
  obtain ⟨q, dx, d, how, late, ds, rfl, hq, hd, kk⟩ := h
  have hu := hu_of hr
  refine ⟨_, (qs_cons (q_sfld (qv 0) (pe_cmpR op_eq (qv 1) pe_str (nomark _)) rfl)
    (qs_cons (q_sfld (qv 0) (pe_cmpR op_eq (qv 2) pe_str (nomark _)) rfl)
    (qs_cons (q_sfld (qv 0) (qv 3) rfl)
    (qs_cons (q_sfld (qv 0) pe_non rfl)
    (qs_cons (q_sfld (qv 0) (pe_lst pa_nil) rfl)
    (pss_one (q_sfld (qv 0) pe_bl rfl))))))), ?_⟩
  have nd : d ≠ q := ne_of hd hq (by simp)
  dsimp! [T.n_TreeWay_skips, lk_TreeWay_skips, pf_TreeWay_skips, T.n_TreeWay_joins, lk_TreeWay_joins, pf_TreeWay_joins, T.n_TreeWay_digits, lk_TreeWay_digits, pf_TreeWay_digits, T.n_TreeWay_level, lk_TreeWay_level, pf_TreeWay_level, T.n_TreeWay_levels, lk_TreeWay_levels, pf_TreeWay_levels, T.n_TreeWay_skipping, lk_TreeWay_skipping, pf_TreeWay_skipping, T.cl_TreeWay, ln_TreeWay, pm_TreeWay_1, pm_TreeWay_2, pm_TreeWay_3, pm_TreeWay_4, pm_TreeWay_5, lm_TreeWay_wants, lm_TreeWay_goes_on, lm_TreeWay_split_level, lm_TreeWay_drop_level, lm_TreeWay_standing, hq]
  refine ⟨Nat.zero_le _, fun l hl => ?_⟩
  have nl : q ≠ l := ne_of_none upd_same hl
  dsimp! [T.n_TreeWay_skips, lk_TreeWay_skips, pf_TreeWay_skips, T.n_TreeWay_joins, lk_TreeWay_joins, pf_TreeWay_joins, T.n_TreeWay_digits, lk_TreeWay_digits, pf_TreeWay_digits, T.n_TreeWay_level, lk_TreeWay_level, pf_TreeWay_level, T.n_TreeWay_levels, lk_TreeWay_levels, pf_TreeWay_levels, T.n_TreeWay_skipping, lk_TreeWay_skipping, pf_TreeWay_skipping, T.cl_TreeWay, ln_TreeWay, pm_TreeWay_1, pm_TreeWay_2, pm_TreeWay_3, pm_TreeWay_4, pm_TreeWay_5, lm_TreeWay_wants, lm_TreeWay_goes_on, lm_TreeWay_split_level, lm_TreeWay_drop_level, lm_TreeWay_standing, upd_ne nl]
  have kp : ∀ o o' u, Kept q H (upd (upd (upd H q o) l u) q o') := fun o o' u => ((Kept.refl q H).put.new (by rw [upd_ne nl.symm]; rw [upd_ne nl.symm] at hl; exact hl)).put
  exact kk l _ (kp _ _ _) (by rw [upd_ne nl.symm] at hl; exact hl) ⟨upd_same, kp _ _ _ d _ hd nd, by rw [upd_ne nl.symm, upd_same]; rfl⟩
def spTree_drop (A : Ad) : Sp := fun vs H Q _ => ∃ (q dx d l : Addr) (sk jn : Bool) (ds : List Int) (lv : Option Int) (ls : List Nat) (skp : Bool), vs = [.ref q] ∧ TreeAt A H q dx d l sk jn ds lv ls skp ∧
  ∀ l' H', Kept q H H' → H l' = none → TreeAt A H' q dx d l' sk jn ds (dropLv lv) ls.tail skp → Q .non H'
theorem sc_TreeWay_drop_level : FnScope ["self"] ["self"] (defScope s_TreeWay_drop_level) := ⟨rfl, rfl, rfl, by decide +kernel, rfl, by decide +kernel, by decide +kernel⟩
theorem ok_TreeWay_drop_level (T : Txt K mg base A) : FnOk P w K mg base CX0 1 A.TreeWay_drop_level A.d_TreeWay_drop_level ["self"] (spTree_drop A) := by
  refine T.F_TreeWay_drop_level.ok sc_TreeWay_drop_level (fun vs H Q E h => ?_) (fun cdv A' outer s H vs Q E hr h => ?_)
  · obtain ⟨q, dx, d, l, sk, jn, ds, lv, ls, skp, rfl, _⟩ := h
    rfl
  obtain ⟨q, dx, d, l, sk, jn, ds, lv, ls, skp, rfl, S, kk⟩ := h
  have hu := hu_of hr
  refine ⟨_, (qs_cons (q_if (q_cmp op_notN (q_fld (qv 0) rfl) pe_non (nomark _)) (pss_one (q_augI (qv 0) pe_int i_sub)) pss_nil)
    (pss_one (q_sfld (qv 0) (pe_slice sl_L (q_fld (qv 0) rfl) (q_some pe_int) po_none) rfl))), ?_⟩
  have nd := S.nd
  have nlq := S.nl
  obtain ⟨hq, hd, hl⟩ := S
  cases lv with
  | none =>
    dsimp! [T.n_TreeWay_skips, lk_TreeWay_skips, pf_TreeWay_skips, T.n_TreeWay_joins, lk_TreeWay_joins, pf_TreeWay_joins, T.n_TreeWay_digits, lk_TreeWay_digits, pf_TreeWay_digits, T.n_TreeWay_level, lk_TreeWay_level, pf_TreeWay_level, T.n_TreeWay_levels, lk_TreeWay_levels, pf_TreeWay_levels, T.n_TreeWay_skipping, lk_TreeWay_skipping, pf_TreeWay_skipping, T.cl_TreeWay, ln_TreeWay, pm_TreeWay_1, pm_TreeWay_2, pm_TreeWay_3, pm_TreeWay_4, pm_TreeWay_5, lm_TreeWay_wants, lm_TreeWay_goes_on, lm_TreeWay_split_level, lm_TreeWay_drop_level, lm_TreeWay_standing, hq, hl, lvV, cutV_tail]
    intro p hp
    have np : q ≠ p := ne_of_none hq hp
    dsimp! [T.n_TreeWay_skips, lk_TreeWay_skips, pf_TreeWay_skips, T.n_TreeWay_joins, lk_TreeWay_joins, pf_TreeWay_joins, T.n_TreeWay_digits, lk_TreeWay_digits, pf_TreeWay_digits, T.n_TreeWay_level, lk_TreeWay_level, pf_TreeWay_level, T.n_TreeWay_levels, lk_TreeWay_levels, pf_TreeWay_levels, T.n_TreeWay_skipping, lk_TreeWay_skipping, pf_TreeWay_skipping, T.cl_TreeWay, ln_TreeWay, pm_TreeWay_1, pm_TreeWay_2, pm_TreeWay_3, pm_TreeWay_4, pm_TreeWay_5, lm_TreeWay_wants, lm_TreeWay_goes_on, lm_TreeWay_split_level, lm_TreeWay_drop_level, lm_TreeWay_standing, hq, upd_ne np]
    have kp : ∀ o' u, Kept q H (upd (upd H p u) q o') := fun o' u => ((Kept.refl q H).new hp).put
    exact kk p _ (kp _ _) hp ⟨upd_same, kp _ _ d _ hd nd, by rw [upd_ne np.symm, upd_same, List.map_tail]⟩
  | some i =>
    dsimp! [T.n_TreeWay_skips, lk_TreeWay_skips, pf_TreeWay_skips, T.n_TreeWay_joins, lk_TreeWay_joins, pf_TreeWay_joins, T.n_TreeWay_digits, lk_TreeWay_digits, pf_TreeWay_digits, T.n_TreeWay_level, lk_TreeWay_level, pf_TreeWay_level, T.n_TreeWay_levels, lk_TreeWay_levels, pf_TreeWay_levels, T.n_TreeWay_skipping, lk_TreeWay_skipping, pf_TreeWay_skipping, T.cl_TreeWay, ln_TreeWay, pm_TreeWay_1, pm_TreeWay_2, pm_TreeWay_3, pm_TreeWay_4, pm_TreeWay_5, lm_TreeWay_wants, lm_TreeWay_goes_on, lm_TreeWay_split_level, lm_TreeWay_drop_level, lm_TreeWay_standing, hq, hl, lvV, upd_ne nlq, cutV_tail]
    intro p hp
    have np : q ≠ p := ne_of_none upd_same hp
    dsimp! [T.n_TreeWay_skips, lk_TreeWay_skips, pf_TreeWay_skips, T.n_TreeWay_joins, lk_TreeWay_joins, pf_TreeWay_joins, T.n_TreeWay_digits, lk_TreeWay_digits, pf_TreeWay_digits, T.n_TreeWay_level, lk_TreeWay_level, pf_TreeWay_level, T.n_TreeWay_levels, lk_TreeWay_levels, pf_TreeWay_levels, T.n_TreeWay_skipping, lk_TreeWay_skipping, pf_TreeWay_skipping, T.cl_TreeWay, ln_TreeWay, pm_TreeWay_1, pm_TreeWay_2, pm_TreeWay_3, pm_TreeWay_4, pm_TreeWay_5, lm_TreeWay_wants, lm_TreeWay_goes_on, lm_TreeWay_split_level, lm_TreeWay_drop_level, lm_TreeWay_standing, upd_ne np]
    have kp : ∀ o o' u, Kept q H (upd (upd (upd H q o) p u) q o') := fun o o' u => ((Kept.refl q H).put.new (by rw [upd_ne np.symm]; rw [upd_ne np.symm] at hp; exact hp)).put
    exact kk p _ (kp _ _ _) (by rw [upd_ne np.symm] at hp; exact hp) ⟨upd_same, kp _ _ _ d _ hd nd, by rw [upd_ne np.symm, upd_same, List.map_tail]⟩
def spTree_split (A : Ad) : Sp := fun vs H Q _ => ∃ (q dx d l : Addr) (sk jn : Bool) (ds : List Int) (lv : Option Int) (ls : List Nat) (skp b : Bool), vs = [.ref q, .bl b] ∧ TreeAt A H q dx d l sk jn ds lv ls skp ∧
  0 < ds.length ∧ ls ≠ [] ∧ (∀ p ∈ ls, p < ds.length) ∧ ls.length ≤ 100000 ∧ ∀ l' H', Kept q H H' → H l' = none → TreeAt A H' q dx d l' sk jn ds (splitLv ds b lv ls) (splitLs ds ls) skp → Q .non H'
theorem sc_TreeWay_split_level : FnScope ["self", "inside", "place", "behind"] ["self", "inside"] (defScope s_TreeWay_split_level) := ⟨rfl, rfl, rfl, by decide +kernel, rfl, by decide +kernel, by decide +kernel⟩
theorem ok_TreeWay_split_level (T : Txt K mg base A) : FnOk P w K mg base CX0 1 A.TreeWay_split_level A.d_TreeWay_split_level ["self", "inside"] (spTree_split A) := by
  refine T.F_TreeWay_split_level.ok sc_TreeWay_split_level (fun vs H Q E h => ?_) (fun cdv A' outer s H vs Q E hr h => ?_)
  · obtain ⟨q, dx, d, l, sk, jn, ds, lv, ls, skp, b, rfl, _⟩ := h
    rfl
  obtain ⟨q, dx, d, l, sk, jn, ds, lv, ls, skp, b, rfl, S, h0, hne, hin, hln, kk⟩ := h
  have hu := hu_of hr
  refine ⟨_, (qs_cons (ps_set (i := 2) sc_TreeWay_split_level.nd rfl (Or.inl rfl) (pe_ix ix_L (q_fld (qv 0) rfl) pe_int (fun _ _ => rfl)))
    (qs_cons (q_if (q_val (qv 1)) (pss_one (q_sfld (qv 0) (pe_ix ix_L (q_fld (qv 0) rfl) (qv 2) (fun _ _ => rfl)) rfl)) (pss_one (q_if (q_cmp op_notN (q_fld (qv 0) rfl) pe_non (nomark _)) (pss_one (q_augI (qv 0) pe_int i_add)) pss_nil)))
    (qs_cons (ps_set (i := 3) sc_TreeWay_split_level.nd rfl (Or.inl rfl) (pe_op o_mod (pe_op o_add (qv 2) pe_int) (pe_callB c_len (by rfl) T.m_len (by decide +kernel) (pa_cons (q_fld (qv 0) rfl) pa_nil))))
    (pss_one (q_sfld (qv 0) (pe_lst (pa_cons (qv 3) (pa_cons (qv 3) (q_star (pe_slice sl_L (q_fld (qv 0) rfl) (q_some pe_int) po_none) pa_nil)))) rfl))))), ?_⟩
  have nd := S.nd
  have nlq := S.nl
  obtain ⟨hq, hd, hl⟩ := S
  cases ls with
  | nil => exact absurd rfl hne
  | cons p rest =>
  have hp : p < ds.length := hin p List.mem_cons_self
  have ha := atI_ints hp
  have hz : ((rest.map nV).length + 1 + 1 : Nat) ≤ sizeLine := by
    rw [List.length_map]
    simp only [List.length_cons] at hln
    rw [sizeLine_eq]
    omega
  have hdl : (0 : Int) < ((ds.map V.int).length : Int) := by rw [List.length_map]; omega
  have go : ∀ (H1 : Hp) (x : V), H1 q = some (.ins A.c_TreeWay dx (F_TreeWay (.bl sk) (.bl jn) (.ref d) x (.ref l) (.bl skp))) → Kept q H H1 → x = lvV (splitLv ds b lv (p :: rest)) → ∀ p1, H1 p1 = none → ∀ p2, (upd H1 p1 (.lst (rest.map nV))) p2 = none →
      Q .non (upd (upd (upd H1 p1 (.lst (rest.map nV))) p2 (.lst (.int (((p : Int) + 1) % (ds.length : Int)) :: .int (((p : Int) + 1) % (ds.length : Int)) :: rest.map nV))) q
        (.ins A.c_TreeWay dx (F_TreeWay (.bl sk) (.bl jn) (.ref d) x (.ref p2) (.bl skp)))) := by
    rintro H1 x o1 k1 rfl p1 e1 p2 e2
    have n1 : q ≠ p1 := ne_of_none o1 e1
    have n2 : q ≠ p2 := ne_of_none (by rw [upd_ne n1]; exact o1) e2
    have f2 : H p2 = none := by
      cases e : H p2 with
      | none => rfl
      | some o => have := (Kept.new k1 e1 (o := .lst (rest.map nV))) p2 o e n2.symm; rw [e2] at this; cases this
    exact kk p2 _ (Kept.put (Kept.new (Kept.new k1 e1) e2)) f2 ⟨upd_same, Kept.put (Kept.new (Kept.new k1 e1) e2) d _ hd nd, by rw [upd_ne n2.symm, upd_same]; rfl⟩
  have hll : (ds.map V.int).length = ds.length := List.length_map _
  cases b with
  | true =>
    dsimp! [T.n_TreeWay_skips, lk_TreeWay_skips, pf_TreeWay_skips, T.n_TreeWay_joins, lk_TreeWay_joins, pf_TreeWay_joins, T.n_TreeWay_digits, lk_TreeWay_digits, pf_TreeWay_digits, T.n_TreeWay_level, lk_TreeWay_level, pf_TreeWay_level, T.n_TreeWay_levels, lk_TreeWay_levels, pf_TreeWay_levels, T.n_TreeWay_skipping, lk_TreeWay_skipping, pf_TreeWay_skipping, T.cl_TreeWay, ln_TreeWay, pm_TreeWay_1, pm_TreeWay_2, pm_TreeWay_3, pm_TreeWay_4, pm_TreeWay_5, lm_TreeWay_wants, lm_TreeWay_goes_on, lm_TreeWay_split_level, lm_TreeWay_drop_level, lm_TreeWay_standing, hq, hl, hd, lvV, nV, atI_zero, ha, upd_ne nd, upd_ne nlq, cutV_one, hll]
    refine ⟨by omega, ?_⟩
    dsimp! [T.n_TreeWay_skips, lk_TreeWay_skips, pf_TreeWay_skips, T.n_TreeWay_joins, lk_TreeWay_joins, pf_TreeWay_joins, T.n_TreeWay_digits, lk_TreeWay_digits, pf_TreeWay_digits, T.n_TreeWay_level, lk_TreeWay_level, pf_TreeWay_level, T.n_TreeWay_levels, lk_TreeWay_levels, pf_TreeWay_levels, T.n_TreeWay_skipping, lk_TreeWay_skipping, pf_TreeWay_skipping, T.cl_TreeWay, ln_TreeWay, pm_TreeWay_1, pm_TreeWay_2, pm_TreeWay_3, pm_TreeWay_4, pm_TreeWay_5, lm_TreeWay_wants, lm_TreeWay_goes_on, lm_TreeWay_split_level, lm_TreeWay_drop_level, lm_TreeWay_standing, hq, hl, hd, lvV, nV, atI_zero, ha, upd_ne nd, upd_ne nlq, cutV_one, hll]
    refine fun p1 e1 => ⟨hz, fun p2 e2 => ?_⟩
    have n1 : q ≠ p1 := ne_of_none upd_same e1
    have n2 : q ≠ p2 := ne_of_none (by rw [upd_ne n1, upd_same]) e2
    dsimp! [T.n_TreeWay_skips, lk_TreeWay_skips, pf_TreeWay_skips, T.n_TreeWay_joins, lk_TreeWay_joins, pf_TreeWay_joins, T.n_TreeWay_digits, lk_TreeWay_digits, pf_TreeWay_digits, T.n_TreeWay_level, lk_TreeWay_level, pf_TreeWay_level, T.n_TreeWay_levels, lk_TreeWay_levels, pf_TreeWay_levels, T.n_TreeWay_skipping, lk_TreeWay_skipping, pf_TreeWay_skipping, T.cl_TreeWay, ln_TreeWay, pm_TreeWay_1, pm_TreeWay_2, pm_TreeWay_3, pm_TreeWay_4, pm_TreeWay_5, lm_TreeWay_wants, lm_TreeWay_goes_on, lm_TreeWay_split_level, lm_TreeWay_drop_level, lm_TreeWay_standing, upd_ne n1, upd_ne n2]
    exact go _ _ upd_same (Kept.refl q H).put rfl p1 e1 p2 e2
  | false =>
    cases lv with
    | none =>
      dsimp! [T.n_TreeWay_skips, lk_TreeWay_skips, pf_TreeWay_skips, T.n_TreeWay_joins, lk_TreeWay_joins, pf_TreeWay_joins, T.n_TreeWay_digits, lk_TreeWay_digits, pf_TreeWay_digits, T.n_TreeWay_level, lk_TreeWay_level, pf_TreeWay_level, T.n_TreeWay_levels, lk_TreeWay_levels, pf_TreeWay_levels, T.n_TreeWay_skipping, lk_TreeWay_skipping, pf_TreeWay_skipping, T.cl_TreeWay, ln_TreeWay, pm_TreeWay_1, pm_TreeWay_2, pm_TreeWay_3, pm_TreeWay_4, pm_TreeWay_5, lm_TreeWay_wants, lm_TreeWay_goes_on, lm_TreeWay_split_level, lm_TreeWay_drop_level, lm_TreeWay_standing, hq, hl, hd, lvV, nV, atI_zero, ha, upd_ne nd, upd_ne nlq, cutV_one, hll]
      refine ⟨by omega, ?_⟩
      dsimp! [T.n_TreeWay_skips, lk_TreeWay_skips, pf_TreeWay_skips, T.n_TreeWay_joins, lk_TreeWay_joins, pf_TreeWay_joins, T.n_TreeWay_digits, lk_TreeWay_digits, pf_TreeWay_digits, T.n_TreeWay_level, lk_TreeWay_level, pf_TreeWay_level, T.n_TreeWay_levels, lk_TreeWay_levels, pf_TreeWay_levels, T.n_TreeWay_skipping, lk_TreeWay_skipping, pf_TreeWay_skipping, T.cl_TreeWay, ln_TreeWay, pm_TreeWay_1, pm_TreeWay_2, pm_TreeWay_3, pm_TreeWay_4, pm_TreeWay_5, lm_TreeWay_wants, lm_TreeWay_goes_on, lm_TreeWay_split_level, lm_TreeWay_drop_level, lm_TreeWay_standing, hq, hl, hd, lvV, nV, atI_zero, ha, upd_ne nd, upd_ne nlq, cutV_one, hll]
      refine fun p1 e1 => ⟨hz, fun p2 e2 => ?_⟩
      have n1 : q ≠ p1 := ne_of_none hq e1
      have n2 : q ≠ p2 := ne_of_none (by rw [upd_ne n1]; exact hq) e2
      dsimp! [T.n_TreeWay_skips, lk_TreeWay_skips, pf_TreeWay_skips, T.n_TreeWay_joins, lk_TreeWay_joins, pf_TreeWay_joins, T.n_TreeWay_digits, lk_TreeWay_digits, pf_TreeWay_digits, T.n_TreeWay_level, lk_TreeWay_level, pf_TreeWay_level, T.n_TreeWay_levels, lk_TreeWay_levels, pf_TreeWay_levels, T.n_TreeWay_skipping, lk_TreeWay_skipping, pf_TreeWay_skipping, T.cl_TreeWay, ln_TreeWay, pm_TreeWay_1, pm_TreeWay_2, pm_TreeWay_3, pm_TreeWay_4, pm_TreeWay_5, lm_TreeWay_wants, lm_TreeWay_goes_on, lm_TreeWay_split_level, lm_TreeWay_drop_level, lm_TreeWay_standing, upd_ne n1, upd_ne n2, hq]
      exact go _ _ hq (Kept.refl q H) rfl p1 e1 p2 e2
    | some i =>
      dsimp! [T.n_TreeWay_skips, lk_TreeWay_skips, pf_TreeWay_skips, T.n_TreeWay_joins, lk_TreeWay_joins, pf_TreeWay_joins, T.n_TreeWay_digits, lk_TreeWay_digits, pf_TreeWay_digits, T.n_TreeWay_level, lk_TreeWay_level, pf_TreeWay_level, T.n_TreeWay_levels, lk_TreeWay_levels, pf_TreeWay_levels, T.n_TreeWay_skipping, lk_TreeWay_skipping, pf_TreeWay_skipping, T.cl_TreeWay, ln_TreeWay, pm_TreeWay_1, pm_TreeWay_2, pm_TreeWay_3, pm_TreeWay_4, pm_TreeWay_5, lm_TreeWay_wants, lm_TreeWay_goes_on, lm_TreeWay_split_level, lm_TreeWay_drop_level, lm_TreeWay_standing, hq, hl, hd, lvV, nV, atI_zero, ha, upd_ne nd, upd_ne nlq, cutV_one, hll]
      refine ⟨by omega, ?_⟩
      dsimp! [T.n_TreeWay_skips, lk_TreeWay_skips, pf_TreeWay_skips, T.n_TreeWay_joins, lk_TreeWay_joins, pf_TreeWay_joins, T.n_TreeWay_digits, lk_TreeWay_digits, pf_TreeWay_digits, T.n_TreeWay_level, lk_TreeWay_level, pf_TreeWay_level, T.n_TreeWay_levels, lk_TreeWay_levels, pf_TreeWay_levels, T.n_TreeWay_skipping, lk_TreeWay_skipping, pf_TreeWay_skipping, T.cl_TreeWay, ln_TreeWay, pm_TreeWay_1, pm_TreeWay_2, pm_TreeWay_3, pm_TreeWay_4, pm_TreeWay_5, lm_TreeWay_wants, lm_TreeWay_goes_on, lm_TreeWay_split_level, lm_TreeWay_drop_level, lm_TreeWay_standing, hq, hl, hd, lvV, nV, atI_zero, ha, upd_ne nd, upd_ne nlq, cutV_one, hll]
      refine fun p1 e1 => ⟨hz, fun p2 e2 => ?_⟩
      have n1 : q ≠ p1 := ne_of_none upd_same e1
      have n2 : q ≠ p2 := ne_of_none (by rw [upd_ne n1, upd_same]) e2
      dsimp! [T.n_TreeWay_skips, lk_TreeWay_skips, pf_TreeWay_skips, T.n_TreeWay_joins, lk_TreeWay_joins, pf_TreeWay_joins, T.n_TreeWay_digits, lk_TreeWay_digits, pf_TreeWay_digits, T.n_TreeWay_level, lk_TreeWay_level, pf_TreeWay_level, T.n_TreeWay_levels, lk_TreeWay_levels, pf_TreeWay_levels, T.n_TreeWay_skipping, lk_TreeWay_skipping, pf_TreeWay_skipping, T.cl_TreeWay, ln_TreeWay, pm_TreeWay_1, pm_TreeWay_2, pm_TreeWay_3, pm_TreeWay_4, pm_TreeWay_5, lm_TreeWay_wants, lm_TreeWay_goes_on, lm_TreeWay_split_level, lm_TreeWay_drop_level, lm_TreeWay_standing, upd_ne n1, upd_ne n2]
      exact go _ _ upd_same (Kept.refl q H).put rfl p1 e1 p2 e2
end
end OA

namespace OA
open PySem L2
local macro_rules
  | `(tactic| simp! [$a,*]) => `(tactic| simp -implicitDefEqProofs only [wNeD0, wRep, tDNewK, vDc, wSortDI, dkR_e, dkR_f, e_cut, wSetL, vLstRg, wLstD, e_lock, vVals, gSub, tCKw, frzO_e, viItems, viKeys, vRev, e_while, e_for, e_asgG, gName, vgTup, vgCons_e, vgNil_e, viList, viTup, viStr, viR1, viEnum, vLc, tYes, wipe, e_seq, e_next, e_drop, e_ret, e_retN, e_sfld, e_augI, e_aug, e_dput, vIf, vTest, wInT, vVar, vFld, tC, tOp, tUn, wI0, wIC, rEq, rNe, scal, wAddS, wMulS, wCat, wNeg, wIxL, wIxT, wIxS, vPart, tNoPart, tSl, wSlL, tCB, tCons, tNil, len_s, wTupL, wLstL, wAbs, wIntB, wMin2, wMax2, vAnd, vOr, vNot, vChain, vMeth, vCall, vMake, vLM0, vLM, isLst, wAppend, wPopAt, wInsert0, vStar, vDGet, vDIn, vDNotIn, tTup, tLst, tIf, tAnd, tOr, tNot, refR_e, intR_e, blR_e, strR_e, optR_e, keyR_i, keyR_s, insO_e, lstO_e, tupO_e, dkO_e, one1_e, two2_e, len_r, lenO_l, lenO_t, lenO_d, L2.start, List.map, List.replicate, List.length_cons, List.length_nil, List.cons_append, List.nil_append, List.append_nil, List.getElem?_cons_zero, List.getElem?_cons_succ, List.set_cons_zero, List.set_cons_succ, true_and, and_true, cx_K, cx_prog, cx_w, blkK, Int.toNat_natCast, upd_same, upd_upd, if_true, if_false, decide_eq_true_eq, reduceCtorEq, reduceIte, Bool.false_eq_true, decide_true, decide_false, Bool.true_and, Bool.false_and, Bool.and_true, Bool.and_false, Bool.not_true, Bool.not_false, V.int.injEq, V.str.injEq, V.bl.injEq, putF_nil, Nat.reduceAdd, Nat.reduceSub, Nat.reduceLT, Int.reduceEq, Int.reduceLT, Int.reduceLE, Int.reduceAdd, Int.reduceSub, Int.cast_ofNat_Int, wIsi, tyR_e, tyO_l, tyO_t, tyO_d, tyN_n, tyN_b, tyN_i, tyN_s, tyN_r, kit_NoneType_bool, kit_NoneType_int, kit_NoneType_str, kit_NoneType_list, kit_NoneType_tuple, kit_NoneType_dict, kit_bool_bool, kit_bool_int, kit_bool_str, kit_bool_list, kit_bool_tuple, kit_bool_dict, kit_int_bool, kit_int_int, kit_int_str, kit_int_list, kit_int_tuple, kit_int_dict, kit_str_bool, kit_str_int, kit_str_str, kit_str_list, kit_str_tuple, kit_str_dict, kit_list_bool, kit_list_int, kit_list_str, kit_list_list, kit_list_tuple, kit_list_dict, kit_tuple_bool, kit_tuple_int, kit_tuple_str, kit_tuple_list, kit_tuple_tuple, kit_tuple_dict, kit_dict_bool, kit_dict_int, kit_dict_str, kit_dict_list, kit_dict_tuple, kit_dict_dict, $a,*])
  | `(tactic| dsimp! [$a,*]) => `(tactic| ((try refine Later.mk ?_); simp! [$a,*]; repeat (refine Later.mk ?_; simp! [$a,*])))
section
variable {P : Program} {w : World} {K : PySem.W.Frag} {mg : Str → Option Value} {base : Heap} {A : Ad}
theorem succ_ne0 (n : Nat) : ((n + 1 : Nat) : Int) = 0 ↔ False := iff_of_false (by omega) id
def spTree_wants (A : Ad) : Sp := fun vs H Q _ => ∃ (q dx d l : Addr) (sk jn : Bool) (ds : List Int) (lv : Option Int) (ls : List Nat) (skp pr : Bool), vs = [.ref q, .bl pr] ∧ TreeAt A H q dx d l sk jn ds lv ls skp ∧
  ∀ l' H', Kept q H H' → (l' = l ∨ H l' = none) → TreeAt A H' q dx d l' sk jn ds (comes jn pr lv ls) (opened ls) skp → Q (.bl (pr && comes jn pr lv ls == some 0)) H'
theorem sc_TreeWay_wants : FnScope ["self", "present", "may_come"] ["self", "present"] (defScope s_TreeWay_wants) := ⟨rfl, rfl, rfl, by decide +kernel, rfl, by decide +kernel, by decide +kernel⟩
theorem ok_TreeWay_wants (T : Txt K mg base A) : FnOk P w K mg base CX0 1 A.TreeWay_wants A.d_TreeWay_wants ["self", "present"] (spTree_wants A) := by
  refine T.F_TreeWay_wants.ok sc_TreeWay_wants (fun vs H Q E h => ?_) (fun cdv A' outer s H vs Q E hr h => ?_)
  · obtain ⟨q, dx, d, l, sk, jn, ds, lv, ls, skp, pr, rfl, _⟩ := h
    rfl
  obtain ⟨q, dx, d, l, sk, jn, ds, lv, ls, skp, pr, rfl, S, kk⟩ := h
  have hu := hu_of hr
  refine ⟨_, (qs_cons (ps_set (i := 2) sc_TreeWay_wants.nd rfl (Or.inl rfl) (q_or (q_fld (qv 0) rfl) (pe_one (pe_cmpR op_eq (pe_callB c_len (by rfl) T.m_len (by decide +kernel) (pa_cons (q_fld (qv 0) rfl) pa_nil)) pe_int (nomark _)))))
    (qs_cons (q_if (q_cmp op_eq (pe_callB c_len (by rfl) T.m_len (by decide +kernel) (pa_cons (q_fld (qv 0) rfl) pa_nil)) pe_int (nomark _)) (pss_one (q_sfld (qv 0) (pe_lst (pa_cons pe_int pa_nil)) rfl)) pss_nil)
    (qs_cons (q_if (PW.pt (pw_and (q_val (qv 1)) (pw_and (q_cmp op_isN (q_fld (qv 0) rfl) pe_non (nomark _)) (pw_and1 (q_val (qv 2)))))) (pss_one (q_sfld (qv 0) pe_int rfl)) pss_nil)
    (pss_one (ps_ret (q_and (qv 1) (pe_one (pe_cmpR op_eq (q_fld (qv 0) rfl) pe_int (nomark _))))))))), ?_⟩
  have nd := S.nd
  have nlq := S.nl
  obtain ⟨hq, hd, hl⟩ := S
  have e0 : ∀ i : Int, decide (i = 0) = (some i == some 0) := fun i => by rw [Bool.eq_iff_iff]; simp
  cases ls with
  | nil =>
    have go : ∀ (H1 : Hp) (x : V) (b : Bool), Kept q H H1 → ∀ p1, p1 ≠ q → H p1 = none → H1 p1 = some (.lst [.int 0]) → x = lvV (comes jn pr lv []) → b = (pr && comes jn pr lv [] == some 0) →
        Q (.bl b) (upd H1 q (.ins A.c_TreeWay dx (F_TreeWay (.bl sk) (.bl jn) (.ref d) x (.ref p1) (.bl skp)))) := by
      rintro H1 x b k1 p1 n1 f1 e1 rfl rfl
      exact kk p1 _ k1.put (.inr f1) ⟨upd_same, k1.put d _ hd nd, by rw [upd_ne n1]; exact e1⟩
    cases pr <;> cases jn <;> cases lv <;>
      (dsimp! [T.n_TreeWay_skips, lk_TreeWay_skips, pf_TreeWay_skips, T.n_TreeWay_joins, lk_TreeWay_joins, pf_TreeWay_joins, T.n_TreeWay_digits, lk_TreeWay_digits, pf_TreeWay_digits, T.n_TreeWay_level, lk_TreeWay_level, pf_TreeWay_level, T.n_TreeWay_levels, lk_TreeWay_levels, pf_TreeWay_levels, T.n_TreeWay_skipping, lk_TreeWay_skipping, pf_TreeWay_skipping, T.cl_TreeWay, ln_TreeWay, pm_TreeWay_1, pm_TreeWay_2, pm_TreeWay_3, pm_TreeWay_4, pm_TreeWay_5, lm_TreeWay_wants, lm_TreeWay_goes_on, lm_TreeWay_split_level, lm_TreeWay_drop_level, lm_TreeWay_standing, hq, hl, hd, lvV, nV, upd_ne nd, upd_ne nlq]
       refine ⟨by decide, fun p1 e1 => ?_⟩
       have n1 : q ≠ p1 := ne_of_none hq e1
       dsimp! [T.n_TreeWay_skips, lk_TreeWay_skips, pf_TreeWay_skips, T.n_TreeWay_joins, lk_TreeWay_joins, pf_TreeWay_joins, T.n_TreeWay_digits, lk_TreeWay_digits, pf_TreeWay_digits, T.n_TreeWay_level, lk_TreeWay_level, pf_TreeWay_level, T.n_TreeWay_levels, lk_TreeWay_levels, pf_TreeWay_levels, T.n_TreeWay_skipping, lk_TreeWay_skipping, pf_TreeWay_skipping, T.cl_TreeWay, ln_TreeWay, pm_TreeWay_1, pm_TreeWay_2, pm_TreeWay_3, pm_TreeWay_4, pm_TreeWay_5, lm_TreeWay_wants, lm_TreeWay_goes_on, lm_TreeWay_split_level, lm_TreeWay_drop_level, lm_TreeWay_standing, upd_ne n1, hq, e0, lvV]
       exact go _ _ _ ((Kept.refl q H).new e1) p1 n1.symm e1 upd_same (by simp [lvV, comes]) (by simp [comes]))
  | cons p rest =>
    have op : opened (p :: rest) = p :: rest := by simp [opened]
    have g0 : ∀ b : Bool, comes jn pr lv (p :: rest) = lv → b = (pr && lv == some 0) → Q (.bl b) H := by
      rintro b hc rfl
      have := kk l H (Kept.refl q H) (.inl rfl) ⟨by rw [hc]; exact hq, hd, by rw [op]; exact hl⟩
      rw [hc] at this
      exact this
    have go : comes jn pr lv (p :: rest) = some 0 → pr = true → Q (.bl (decide ((0 : Int) = 0))) (upd H q (.ins A.c_TreeWay dx (F_TreeWay (.bl sk) (.bl jn) (.ref d) (.int 0) (.ref l) (.bl skp)))) := by
      intro hc hp
      have := kk l _ (Kept.refl q H).put (.inl rfl) ⟨by rw [hc]; exact upd_same, (Kept.refl q H).put d _ hd nd, by rw [op, upd_ne nlq]; exact hl⟩
      rw [hc, hp] at this
      exact this
    cases pr <;> cases jn <;> cases lv <;>
      (dsimp! [T.n_TreeWay_skips, lk_TreeWay_skips, pf_TreeWay_skips, T.n_TreeWay_joins, lk_TreeWay_joins, pf_TreeWay_joins, T.n_TreeWay_digits, lk_TreeWay_digits, pf_TreeWay_digits, T.n_TreeWay_level, lk_TreeWay_level, pf_TreeWay_level, T.n_TreeWay_levels, lk_TreeWay_levels, pf_TreeWay_levels, T.n_TreeWay_skipping, lk_TreeWay_skipping, pf_TreeWay_skipping, T.cl_TreeWay, ln_TreeWay, pm_TreeWay_1, pm_TreeWay_2, pm_TreeWay_3, pm_TreeWay_4, pm_TreeWay_5, lm_TreeWay_wants, lm_TreeWay_goes_on, lm_TreeWay_split_level, lm_TreeWay_drop_level, lm_TreeWay_standing, hq, hl, hd, lvV, nV, upd_ne nd, upd_ne nlq, succ_ne0]
       first
         | exact go (by simp [comes]) rfl
         | exact g0 _ (by simp [comes]) (by simp [e0])
         | trace_state)
def spTree_goes (A : Ad) : Sp := fun vs H Q _ => ∃ (q dx d l : Addr) (sk jn : Bool) (ds : List Int) (lv : Option Int) (ls : List Nat) (skp b : Bool) (wd : Wd), vs = [.ref q, .bl b, .str wd.s] ∧ TreeAt A H q dx d l sk jn ds lv ls skp ∧
  (WayM.tree sk jn ds lv ls skp).Ok ∧ ls ≠ [] ∧ ls.length ≤ 100000 ∧
  ∀ l' H' lv' ls' skp', WayM.goes b wd (.tree sk jn ds lv ls skp) = .tree sk jn ds lv' ls' skp' → Kept q H H' → H l' = none → TreeAt A H' q dx d l' sk jn ds lv' ls' skp' → Q .non H'
theorem sc_TreeWay_goes_on : FnScope ["self", "spoke", "word"] ["self", "spoke", "word"] (defScope s_TreeWay_goes_on) := ⟨rfl, rfl, rfl, by decide +kernel, rfl, by decide +kernel, by decide +kernel⟩
theorem ok_TreeWay_goes_on (T : Txt K mg base A) : FnOk P w K mg base CX0 2 A.TreeWay_goes_on A.d_TreeWay_goes_on ["self", "spoke", "word"] (spTree_goes A) := by
  refine T.F_TreeWay_goes_on.ok sc_TreeWay_goes_on (fun vs H Q E h => ?_) (fun cdv A' outer s H vs Q E hr h => ?_)
  · obtain ⟨q, dx, d, l, sk, jn, ds, lv, ls, skp, b, wd, rfl, _⟩ := h
    rfl
  obtain ⟨q, dx, d, l, sk, jn, ds, lv, ls, skp, b, wd, rfl, S, ok, hne, hln, kk⟩ := h
  have hu := hu_of hr
  refine ⟨_, (pss_one (q_if (q_cmp op_eq (qv 2) pe_str (nomark _)) (qs_cons (q_sfld (qv 0) (q_fld (qv 0) rfl) rfl)
    (pss_one (ps_expr (q_meth (qv 0) T.cl_TreeWay T.me_TreeWay_split_level (ok_TreeWay_split_level T) (hr.mono (by decide)) T.b_TreeWay_split_level pass0 (pa_cons (qv 1) pa_nil))))) (pss_one (q_if (PW.pt (pw_and (q_cmp op_eq (qv 2) pe_str (nomark _)) (pw_and1 (q_val (q_fld (qv 0) rfl))))) (qs_cons (ps_expr (q_meth0 (qv 0) T.cl_TreeWay T.me_TreeWay_drop_level (ok_TreeWay_drop_level T) (hr.mono (by decide)) T.b_TreeWay_drop_level pass0))
    (pss_one (ps_expr (q_meth (qv 0) T.cl_TreeWay T.me_TreeWay_split_level (ok_TreeWay_split_level T) (hr.mono (by decide)) T.b_TreeWay_split_level pass0 (pa_cons (pe_cmpR op_eq (q_fld (qv 0) rfl) pe_int (nomark _)) pa_nil))))) (qs_cons (q_sfld (qv 0) pe_bl rfl)
    (qs_cons (q_if (q_val (qv 1)) (pss_one (q_sfld (qv 0) pe_non rfl)) pss_nil)
    (pss_one (ps_expr (q_meth0 (qv 0) T.cl_TreeWay T.me_TreeWay_drop_level (ok_TreeWay_drop_level T) (hr.mono (by decide)) T.b_TreeWay_drop_level pass0))))))))), ?_⟩
  have nd := S.nd
  have nlq := S.nl
  obtain ⟨hq, hd, hl⟩ := id S
  obtain ⟨h0, h1, h2⟩ := ok
  have h1t : ∀ p ∈ ls.tail, p < ds.length := fun p hp => h1 p (List.mem_of_mem_tail hp)
  have fq : ∀ (o : HO) (b : Addr), (upd H q o) b = none → H b = none := fun o b e => by
    by_cases n : b = q
    · rw [n, upd_same] at e; cases e
    · rw [upd_ne n] at e; exact e
  cases wd with
  | noi =>
    dsimp! [T.n_TreeWay_skips, lk_TreeWay_skips, pf_TreeWay_skips, T.n_TreeWay_joins, lk_TreeWay_joins, pf_TreeWay_joins, T.n_TreeWay_digits, lk_TreeWay_digits, pf_TreeWay_digits, T.n_TreeWay_level, lk_TreeWay_level, pf_TreeWay_level, T.n_TreeWay_levels, lk_TreeWay_levels, pf_TreeWay_levels, T.n_TreeWay_skipping, lk_TreeWay_skipping, pf_TreeWay_skipping, T.cl_TreeWay, ln_TreeWay, pm_TreeWay_1, pm_TreeWay_2, pm_TreeWay_3, pm_TreeWay_4, pm_TreeWay_5, lm_TreeWay_wants, lm_TreeWay_goes_on, lm_TreeWay_split_level, lm_TreeWay_drop_level, lm_TreeWay_standing, hq, Wd.s]
    refine ⟨q, dx, d, l, sk, jn, ds, lv, ls, sk, b, rfl, ⟨upd_same, by rw [upd_ne nd]; exact hd, by rw [upd_ne nlq]; exact hl⟩, h0, hne, h1, hln, fun l' H' k' f' S' => ?_⟩
    exact kk l' H' _ _ _ (by simp [WayM.goes]) ((Kept.refl q H).put.trans k') (fq _ _ f') S'
  | sil =>
    cases skp with
    | true =>
      have e0 : ∀ i : Int, decide (i = 0) = (some i == some 0) := fun i => by rw [Bool.eq_iff_iff]; simp
      cases lv <;>
        (dsimp! [T.n_TreeWay_skips, lk_TreeWay_skips, pf_TreeWay_skips, T.n_TreeWay_joins, lk_TreeWay_joins, pf_TreeWay_joins, T.n_TreeWay_digits, lk_TreeWay_digits, pf_TreeWay_digits, T.n_TreeWay_level, lk_TreeWay_level, pf_TreeWay_level, T.n_TreeWay_levels, lk_TreeWay_levels, pf_TreeWay_levels, T.n_TreeWay_skipping, lk_TreeWay_skipping, pf_TreeWay_skipping, T.cl_TreeWay, ln_TreeWay, pm_TreeWay_1, pm_TreeWay_2, pm_TreeWay_3, pm_TreeWay_4, pm_TreeWay_5, lm_TreeWay_wants, lm_TreeWay_goes_on, lm_TreeWay_split_level, lm_TreeWay_drop_level, lm_TreeWay_standing, hq, Wd.s, wd_sn]
         refine ⟨q, dx, d, l, sk, jn, ds, _, ls, true, rfl, S, fun l' H' k' f' S' => ?_⟩
         have ob := S'.ob
         simp only [dropLv, Option.map_none, Option.map_some, lvV] at ob
         dsimp! [T.n_TreeWay_skips, lk_TreeWay_skips, pf_TreeWay_skips, T.n_TreeWay_joins, lk_TreeWay_joins, pf_TreeWay_joins, T.n_TreeWay_digits, lk_TreeWay_digits, pf_TreeWay_digits, T.n_TreeWay_level, lk_TreeWay_level, pf_TreeWay_level, T.n_TreeWay_levels, lk_TreeWay_levels, pf_TreeWay_levels, T.n_TreeWay_skipping, lk_TreeWay_skipping, pf_TreeWay_skipping, T.cl_TreeWay, ln_TreeWay, pm_TreeWay_1, pm_TreeWay_2, pm_TreeWay_3, pm_TreeWay_4, pm_TreeWay_5, lm_TreeWay_wants, lm_TreeWay_goes_on, lm_TreeWay_split_level, lm_TreeWay_drop_level, lm_TreeWay_standing, ob, e0]
         refine ⟨q, dx, d, l', sk, jn, ds, _, ls.tail, true, _, rfl, S', h0, ?_, h1t, ?_, fun l2 H2 k2 f2 S2 => ?_⟩
         · have := h2 rfl
           intro e
           have := congrArg List.length e
           simp at this
           omega
         · simp; omega
         · exact kk l2 H2 _ _ _ (by simp [WayM.goes, dropLv]) (k'.trans k2) (by
             cases e : H l2 with
             | none => rfl
             | some o =>
               by_cases n : l2 = q
               · rw [n, S'.ob] at f2; cases f2
               · rw [k' _ _ e n] at f2; cases f2) S2)
    | false =>
      cases b with
      | true =>
        dsimp! [T.n_TreeWay_skips, lk_TreeWay_skips, pf_TreeWay_skips, T.n_TreeWay_joins, lk_TreeWay_joins, pf_TreeWay_joins, T.n_TreeWay_digits, lk_TreeWay_digits, pf_TreeWay_digits, T.n_TreeWay_level, lk_TreeWay_level, pf_TreeWay_level, T.n_TreeWay_levels, lk_TreeWay_levels, pf_TreeWay_levels, T.n_TreeWay_skipping, lk_TreeWay_skipping, pf_TreeWay_skipping, T.cl_TreeWay, ln_TreeWay, pm_TreeWay_1, pm_TreeWay_2, pm_TreeWay_3, pm_TreeWay_4, pm_TreeWay_5, lm_TreeWay_wants, lm_TreeWay_goes_on, lm_TreeWay_split_level, lm_TreeWay_drop_level, lm_TreeWay_standing, hq, Wd.s, wd_sn]
        refine ⟨q, dx, d, l, sk, jn, ds, none, ls, false, rfl, ⟨upd_same, by rw [upd_ne nd]; exact hd, by rw [upd_ne nlq]; exact hl⟩, fun l' H' k' f' S' => ?_⟩
        exact kk l' H' _ _ _ (by simp [WayM.goes]) ((Kept.refl q H).put.trans k') (fq _ _ f') S'
      | false =>
        dsimp! [T.n_TreeWay_skips, lk_TreeWay_skips, pf_TreeWay_skips, T.n_TreeWay_joins, lk_TreeWay_joins, pf_TreeWay_joins, T.n_TreeWay_digits, lk_TreeWay_digits, pf_TreeWay_digits, T.n_TreeWay_level, lk_TreeWay_level, pf_TreeWay_level, T.n_TreeWay_levels, lk_TreeWay_levels, pf_TreeWay_levels, T.n_TreeWay_skipping, lk_TreeWay_skipping, pf_TreeWay_skipping, T.cl_TreeWay, ln_TreeWay, pm_TreeWay_1, pm_TreeWay_2, pm_TreeWay_3, pm_TreeWay_4, pm_TreeWay_5, lm_TreeWay_wants, lm_TreeWay_goes_on, lm_TreeWay_split_level, lm_TreeWay_drop_level, lm_TreeWay_standing, hq, Wd.s, wd_sn]
        refine ⟨q, dx, d, l, sk, jn, ds, lv, ls, false, rfl, ⟨upd_same, by rw [upd_ne nd]; exact hd, by rw [upd_ne nlq]; exact hl⟩, fun l' H' k' f' S' => ?_⟩
        exact kk l' H' _ _ _ (by simp [WayM.goes]) ((Kept.refl q H).put.trans k') (fq _ _ f') S'
  | hrd =>
    cases b with
    | true =>
      dsimp! [T.n_TreeWay_skips, lk_TreeWay_skips, pf_TreeWay_skips, T.n_TreeWay_joins, lk_TreeWay_joins, pf_TreeWay_joins, T.n_TreeWay_digits, lk_TreeWay_digits, pf_TreeWay_digits, T.n_TreeWay_level, lk_TreeWay_level, pf_TreeWay_level, T.n_TreeWay_levels, lk_TreeWay_levels, pf_TreeWay_levels, T.n_TreeWay_skipping, lk_TreeWay_skipping, pf_TreeWay_skipping, T.cl_TreeWay, ln_TreeWay, pm_TreeWay_1, pm_TreeWay_2, pm_TreeWay_3, pm_TreeWay_4, pm_TreeWay_5, lm_TreeWay_wants, lm_TreeWay_goes_on, lm_TreeWay_split_level, lm_TreeWay_drop_level, lm_TreeWay_standing, hq, Wd.s, wd_hn, wd_hs]
      refine ⟨q, dx, d, l, sk, jn, ds, none, ls, false, rfl, ⟨upd_same, by rw [upd_ne nd]; exact hd, by rw [upd_ne nlq]; exact hl⟩, fun l' H' k' f' S' => ?_⟩
      exact kk l' H' _ _ _ (by simp [WayM.goes]) ((Kept.refl q H).put.trans k') (fq _ _ f') S'
    | false =>
      dsimp! [T.n_TreeWay_skips, lk_TreeWay_skips, pf_TreeWay_skips, T.n_TreeWay_joins, lk_TreeWay_joins, pf_TreeWay_joins, T.n_TreeWay_digits, lk_TreeWay_digits, pf_TreeWay_digits, T.n_TreeWay_level, lk_TreeWay_level, pf_TreeWay_level, T.n_TreeWay_levels, lk_TreeWay_levels, pf_TreeWay_levels, T.n_TreeWay_skipping, lk_TreeWay_skipping, pf_TreeWay_skipping, T.cl_TreeWay, ln_TreeWay, pm_TreeWay_1, pm_TreeWay_2, pm_TreeWay_3, pm_TreeWay_4, pm_TreeWay_5, lm_TreeWay_wants, lm_TreeWay_goes_on, lm_TreeWay_split_level, lm_TreeWay_drop_level, lm_TreeWay_standing, hq, Wd.s, wd_hn, wd_hs]
      refine ⟨q, dx, d, l, sk, jn, ds, lv, ls, false, rfl, ⟨upd_same, by rw [upd_ne nd]; exact hd, by rw [upd_ne nlq]; exact hl⟩, fun l' H' k' f' S' => ?_⟩
      exact kk l' H' _ _ _ (by simp [WayM.goes]) ((Kept.refl q H).put.trans k') (fq _ _ f') S'
def spTree_stand (A : Ad) : Sp := fun vs H Q _ => ∃ (q dx d l : Addr) (sk jn : Bool) (ds : List Int) (lv : Option Int) (ls : List Nat) (skp : Bool), vs = [.ref q] ∧ TreeAt A H q dx d l sk jn ds lv ls skp ∧
  ∀ t, H t = none → ∀ u, (upd H t (.tup (ls.map nV))) u = none → Q (.ref u) (upd (upd H t (.tup (ls.map nV))) u (.tup [lvV lv, .ref t, .bl skp]))
theorem sc_TreeWay_standing : FnScope ["self"] ["self"] (defScope s_TreeWay_standing) := ⟨rfl, rfl, rfl, by decide +kernel, rfl, by decide +kernel, by decide +kernel⟩
theorem ok_TreeWay_standing (T : Txt K mg base A) : FnOk P w K mg base CX0 1 A.TreeWay_standing A.d_TreeWay_standing ["self"] (spTree_stand A) := by
  refine T.F_TreeWay_standing.ok sc_TreeWay_standing (fun vs H Q E h => ?_) (fun cdv A' outer s H vs Q E hr h => ?_)
  · obtain ⟨q, dx, d, l, sk, jn, ds, lv, ls, skp, rfl, _⟩ := h
    rfl
  obtain ⟨q, dx, d, l, sk, jn, ds, lv, ls, skp, rfl, S, kk⟩ := h
  have hu := hu_of hr
  refine ⟨_, (pss_one (ps_ret (pe_tup (pa_cons (q_fld (qv 0) rfl) (pa_cons (pe_callTy c_tupL (by rfl) T.m_tuple (by decide +kernel) (pa_cons (q_fld (qv 0) rfl) pa_nil)) (pa_cons (q_fld (qv 0) rfl) pa_nil)))))), ?_⟩
  obtain ⟨hq, hd, hl⟩ := S
  dsimp! [T.n_TreeWay_skips, lk_TreeWay_skips, pf_TreeWay_skips, T.n_TreeWay_joins, lk_TreeWay_joins, pf_TreeWay_joins, T.n_TreeWay_digits, lk_TreeWay_digits, pf_TreeWay_digits, T.n_TreeWay_level, lk_TreeWay_level, pf_TreeWay_level, T.n_TreeWay_levels, lk_TreeWay_levels, pf_TreeWay_levels, T.n_TreeWay_skipping, lk_TreeWay_skipping, pf_TreeWay_skipping, T.cl_TreeWay, ln_TreeWay, pm_TreeWay_1, pm_TreeWay_2, pm_TreeWay_3, pm_TreeWay_4, pm_TreeWay_5, lm_TreeWay_wants, lm_TreeWay_goes_on, lm_TreeWay_split_level, lm_TreeWay_drop_level, lm_TreeWay_standing, hq, hl]
  intro t ht
  have nt : q ≠ t := ne_of_none hq ht
  dsimp! [T.n_TreeWay_skips, lk_TreeWay_skips, pf_TreeWay_skips, T.n_TreeWay_joins, lk_TreeWay_joins, pf_TreeWay_joins, T.n_TreeWay_digits, lk_TreeWay_digits, pf_TreeWay_digits, T.n_TreeWay_level, lk_TreeWay_level, pf_TreeWay_level, T.n_TreeWay_levels, lk_TreeWay_levels, pf_TreeWay_levels, T.n_TreeWay_skipping, lk_TreeWay_skipping, pf_TreeWay_skipping, T.cl_TreeWay, ln_TreeWay, pm_TreeWay_1, pm_TreeWay_2, pm_TreeWay_3, pm_TreeWay_4, pm_TreeWay_5, lm_TreeWay_wants, lm_TreeWay_goes_on, lm_TreeWay_split_level, lm_TreeWay_drop_level, lm_TreeWay_standing, upd_ne nt, hq]
  exact ⟨by decide, kk t ht⟩
end
end OA

namespace OA
open PySem PySem.Spec PyProof.Rows L2
local macro_rules
  | `(tactic| simp! [$a,*]) => `(tactic| simp -implicitDefEqProofs only [wNeD0, wRep, tDNewK, vDc, wSortDI, dkR_e, dkR_f, e_cut, wSetL, vLstRg, wLstD, e_lock, vVals, gSub, tCKw, frzO_e, viItems, viKeys, vRev, e_while, e_for, e_asgG, gName, vgTup, vgCons_e, vgNil_e, viList, viTup, viStr, viR1, viEnum, vLc, tYes, wipe, e_seq, e_next, e_drop, e_ret, e_retN, e_sfld, e_augI, e_aug, e_dput, vIf, vTest, wInT, vVar, vFld, tC, tOp, tUn, wI0, wIC, rEq, rNe, scal, wAddS, wMulS, wCat, wNeg, wIxL, wIxT, wIxS, vPart, tNoPart, tSl, wSlL, tCB, tCons, tNil, len_s, wTupL, wLstL, wAbs, wIntB, wMin2, wMax2, vAnd, vOr, vNot, vChain, vMeth, vCall, vMake, vLM0, vLM, isLst, wAppend, wPopAt, wInsert0, vStar, vDGet, vDIn, vDNotIn, tTup, tLst, tIf, tAnd, tOr, tNot, refR_e, intR_e, blR_e, strR_e, optR_e, keyR_i, keyR_s, insO_e, lstO_e, tupO_e, dkO_e, one1_e, two2_e, len_r, lenO_l, lenO_t, lenO_d, L2.start, List.map, List.replicate, List.length_cons, List.length_nil, List.cons_append, List.nil_append, List.append_nil, List.getElem?_cons_zero, List.getElem?_cons_succ, List.set_cons_zero, List.set_cons_succ, true_and, and_true, cx_K, cx_prog, cx_w, blkK, Int.toNat_natCast, upd_same, upd_upd, if_true, if_false, decide_eq_true_eq, reduceCtorEq, reduceIte, Bool.false_eq_true, decide_true, decide_false, Bool.true_and, Bool.false_and, Bool.and_true, Bool.and_false, Bool.not_true, Bool.not_false, V.int.injEq, V.str.injEq, V.bl.injEq, putF_nil, Nat.reduceAdd, Nat.reduceSub, Nat.reduceLT, Int.reduceEq, Int.reduceLT, Int.reduceLE, Int.reduceAdd, Int.reduceSub, Int.cast_ofNat_Int, wIsi, tyR_e, tyO_l, tyO_t, tyO_d, tyN_n, tyN_b, tyN_i, tyN_s, tyN_r, kit_NoneType_bool, kit_NoneType_int, kit_NoneType_str, kit_NoneType_list, kit_NoneType_tuple, kit_NoneType_dict, kit_bool_bool, kit_bool_int, kit_bool_str, kit_bool_list, kit_bool_tuple, kit_bool_dict, kit_int_bool, kit_int_int, kit_int_str, kit_int_list, kit_int_tuple, kit_int_dict, kit_str_bool, kit_str_int, kit_str_str, kit_str_list, kit_str_tuple, kit_str_dict, kit_list_bool, kit_list_int, kit_list_str, kit_list_list, kit_list_tuple, kit_list_dict, kit_tuple_bool, kit_tuple_int, kit_tuple_str, kit_tuple_list, kit_tuple_tuple, kit_tuple_dict, kit_dict_bool, kit_dict_int, kit_dict_str, kit_dict_list, kit_dict_tuple, kit_dict_dict, $a,*])
  | `(tactic| dsimp! [$a,*]) => `(tactic| ((try refine Later.mk ?_); simp! [$a,*]; repeat (refine Later.mk ?_; simp! [$a,*])))
section
variable {P : Program} {w : World} {K : PySem.W.Frag} {mg : Str → Option Value} {base : Heap} {A : Ad}
theorem ifQ {c : Prop} [Decidable c] {p : Bool → Prop} (h : p (decide c)) : if c then p true else p false := by
  by_cases z : c
  · rw [if_pos z]
    rw [decide_eq_true z] at h
    exact h
  · rw [if_neg z]
    rw [decide_eq_false z] at h
    exact h
def spWhole (A : Ad) : Sp := fun vs H Q _ => ∃ i lo hi : Int, vs = [.int i, .int lo, .int hi] ∧ Q (.bl (decide (lo ≤ i) && decide (i ≤ hi))) H
theorem sc_is_whole : FnScope ["number", "least", "most"] ["number", "least", "most"] (defScope s_is_whole) := ⟨rfl, rfl, rfl, by decide +kernel, rfl, by decide +kernel, by decide +kernel⟩
theorem ok_is_whole (T : Txt K mg base A) : FnOk P w K mg base CX0 1 A.is_whole A.d_is_whole ["number", "least", "most"] (spWhole A) := by
  refine T.F_is_whole.ok sc_is_whole (fun vs H Q E h => ?_) (fun cdv A' outer s H vs Q E hr h => ?_)
  · obtain ⟨i, lo, hi, rfl, _⟩ := h
    rfl
  obtain ⟨i, lo, hi, rfl, kk⟩ := h
  have hu := hu_of hr
  refine ⟨_, (qs_cons (q_if (PW.pt (pw_or (q_val (pe_callB c_isi (by rfl) T.m_isinstance (by decide +kernel) (pa_cons (qv 0) (pa_cons (pe_bltn (v := .ty "bool") (by rfl) T.m_bool (by decide +kernel) rfl) pa_nil)))) (pw_or1 (pt_not (q_val (pe_callB c_isi (by rfl) T.m_isinstance (by decide +kernel) (pa_cons (qv 0) (pa_cons (pe_bltn (v := .ty "int") (by rfl) T.m_int (by decide +kernel) rfl) pa_nil)))))))) (pss_one (ps_ret pe_bl)) pss_nil)
    (pss_one (ps_ret (q_chain o_le o_le (qv 1) (qv 0) (qv 2))))), ?_⟩
  dsimp! []
  refine ite2 (fun h => ?_) (fun h => ?_)
  · rw [decide_eq_true h, Bool.true_and] at kk
    exact kk
  · rw [decide_eq_false h, Bool.false_and] at kk
    exact kk
def spMany (A : Ad) : Sp := fun vs H Q _ => ∃ n : Nat, vs = [.int n] ∧ 1 ≤ n ∧ n ≤ 8 ∧ Q .non H
theorem sc_check_many : FnScope ["many"] ["many"] (defScope s_check_many) := ⟨rfl, rfl, rfl, by decide +kernel, rfl, by decide +kernel, by decide +kernel⟩
theorem ok_check_many (T : Txt K mg base A) : FnOk P w K mg base CX0 2 A.check_many A.d_check_many ["many"] (spMany A) := by
  refine T.F_check_many.ok sc_check_many (fun vs H Q E h => ?_) (fun cdv A' outer s H vs Q E hr h => ?_)
  · obtain ⟨n, rfl, _⟩ := h
    rfl
  obtain ⟨n, rfl, h1, h8, kk⟩ := h
  have hu := hu_of hr
  refine ⟨_, (pss_one (q_if (pt_not (q_val (q_call (ok_is_whole T) (hr.mono (by decide)) rfl T.g_is_whole T.k_is_whole T.b_is_whole pass0 (pa_cons (qv 0) (pa_cons pe_int (pa_cons (q_gi rfl T.c_MOST_STATIONS) pa_nil)))))) (pss_one ps_never) pss_nil)), ?_⟩
  dsimp! []
  refine ⟨n, 1, 8, rfl, ?_⟩
  rw [decide_eq_true (by omega), decide_eq_true (by omega)]
  dsimp! []
  exact kk
def nWd (n : Nat) : Wd := if n = 0 then .sil else if n = 1 then .hrd else .noi
def spWord (A : Ad) : Sp := fun vs H Q _ => ∃ n : Nat, vs = [.int n] ∧ Q (.str (nWd n).s) H
theorem sc_heard_word : FnScope ["many_speak"] ["many_speak"] (defScope s_heard_word) := ⟨rfl, rfl, rfl, by decide +kernel, rfl, by decide +kernel, by decide +kernel⟩
theorem ok_heard_word (T : Txt K mg base A) : FnOk P w K mg base CX0 1 A.heard_word A.d_heard_word ["many_speak"] (spWord A) := by
  refine T.F_heard_word.ok sc_heard_word (fun vs H Q E h => ?_) (fun cdv A' outer s H vs Q E hr h => ?_)
  · obtain ⟨n, rfl, _⟩ := h
    rfl
  obtain ⟨n, rfl, kk⟩ := h
  have hu := hu_of hr
  refine ⟨_, (qs_cons (q_if (q_cmp op_eq (qv 0) pe_int (nomark _)) (pss_one (ps_ret pe_str)) pss_nil)
    (qs_cons (q_if (q_cmp op_eq (qv 0) pe_int (nomark _)) (pss_one (ps_ret pe_str)) pss_nil)
    (pss_one (ps_ret pe_str)))), ?_⟩
  dsimp! []
  refine ite2 (fun h => ?_) (fun h => ?_)
  · dsimp! []
    have : n = 0 := by omega
    subst this
    exact kk
  · dsimp! []
    have h0 : n ≠ 0 := by omega
    refine ite2 (fun h => ?_) (fun h => ?_)
    · dsimp! []
      have : n = 1 := by omega
      subst this
      exact kk
    · dsimp! []
      have : nWd n = .noi := by
        unfold nWd
        rw [if_neg h0, if_neg (by omega)]
      rw [this] at kk
      exact kk
theorem cast_div {a b : Nat} : ((a : Int) / (b : Int)) = ((a / b : Nat) : Int) := (Int.natCast_ediv a b).symm
theorem cast_mod {a b : Nat} : ((a : Int) % (b : Int)) = ((a % b : Nat) : Int) := (Int.natCast_emod a b).symm
def spDigits (A : Ad) : Sp := fun vs H Q _ => ∃ n b many : Nat, vs = [.int n, .int b, .int many] ∧ 2 ≤ b ∧ b ≤ 4 ∧ 1 ≤ many ∧ many ≤ 8 ∧ ∀ p H', Same H H' → H p = none → H' p = some (.lst ((digs b many n).map V.int)) → Q (.ref p) H'
theorem sc_digits_of : FnScope ["number", "base", "many", "digits", "greatest"] ["number", "base", "many"] (defScope s_digits_of) := ⟨rfl, rfl, rfl, by decide +kernel, rfl, by decide +kernel, by decide +kernel⟩
theorem ok_digits_of (T : Txt K mg base A) : FnOk P w K mg base CX0 1 A.digits_of A.d_digits_of ["number", "base", "many"] (spDigits A) := by
  refine T.F_digits_of.ok sc_digits_of (fun vs H Q E h => ?_) (fun cdv A' outer s H vs Q E hr h => ?_)
  · obtain ⟨n, b, many, rfl, _⟩ := h
    rfl
  obtain ⟨n, b, many, rfl, hb, hb4, hm, hm8, kk⟩ := h
  have hu := hu_of hr
  refine ⟨_, (qs_cons (ps_set (i := 3) sc_digits_of.nd rfl (Or.inl rfl) (pe_lst (pa_cons (pe_op o_mod (qv 0) (qv 1)) pa_nil)))
    (qs_cons (ps_set (i := 4) sc_digits_of.nd rfl (Or.inl rfl) (pe_op o_fdiv (pe_op o_sub (qv 2) pe_int) (qv 1)))
    (qs_cons (q_while PassesOwn.never (q_cmp o_gt (qv 4) pe_int (nomark _)) (qs_cons (ps_set (i := 0) sc_digits_of.nd rfl (Or.inl rfl) (pe_op o_fdiv (qv 0) (qv 1)))
    (qs_cons (ps_expr (lm1 PySem.F.slot_list_append PySem.F.type_list_append m_append (qv 3) (pa_cons (pe_op o_mod (qv 0) (qv 1)) pa_nil)))
    (pss_one (ps_set (i := 4) sc_digits_of.nd rfl (Or.inl rfl) (pe_op o_fdiv (qv 4) (qv 1)))))))
    (pss_one (ps_ret (q_rev (qv 3))))))), ?_⟩
  obtain ⟨m, rfl⟩ : ∃ m, many = m + 1 := ⟨many - 1, by omega⟩
  have em : ((m + 1 : Nat) : Int) - 1 = (m : Int) := by omega
  have cd : ∀ x : Int, CDiv x (b : Int) := fun x => ⟨by omega, by omega⟩
  dsimp! [cast_mod, em]
  refine ⟨by omega, by decide, fun d hd => ?_⟩
  dsimp! [cast_mod, cast_div, em]
  refine ⟨cd _, ?_⟩
  dsimp! [cast_mod, cast_div, em]
  refine ⟨fun k σ H1 => ∃ (n' g f : Nat) (acc : List Nat), k = g ∧ σ = [some (.int n'), some (.int b), some (.int (m + 1 : Nat)), some (.ref d), some (.int g)] ∧ H1 = upd H d (.lst (acc.map nV)) ∧ acc ++ moreD b f g n' = (digsN b (m + 1) n).reverse ∧ g < 2 ^ f ∧ f ≤ 3 ∧ acc.length + f ≤ 4,
    m / b, ⟨n, m / b, 3, [n % b], rfl, rfl, rfl, ?_, ?_, Nat.le_refl _, by simp⟩, ?_⟩
  · simp [digsN]
  · have : m / b ≤ m / 2 := Nat.div_le_div_left hb (by decide)
    omega
  · rintro g σ H1 ⟨n', _, f, acc, rfl, rfl, rfl, hacc, hg, hf, hl⟩
    dsimp! []
    refine ite2 (fun h0 => ?_) (fun h0 => ?_)
    · dsimp! [cast_div, cast_mod]
      have hlen : (acc.map nV).length < sizeLine := by rw [List.length_map, sizeLine_eq]; omega
      refine ⟨cd _, ?_⟩
      dsimp! [cast_div, cast_mod]
      refine ⟨by omega, hlen, ?_⟩
      dsimp! [cast_div, cast_mod]
      refine ⟨cd _, g / b, Nat.div_lt_self (by omega) (by omega), n' / b, g / b, f - 1, acc ++ [n' / b % b], rfl, rfl, ?_, ?_, ?_, by omega, ?_⟩
      · rw [List.map_append]
        rfl
      · cases f with
        | zero => simp at hg; omega
        | succ f =>
          unfold moreD at hacc
          rw [if_neg (by omega)] at hacc
          rw [← hacc]
          simp
      · cases f with
        | zero => simp at hg; omega
        | succ f =>
          have : g / b ≤ g / 2 := Nat.div_le_div_left hb (by decide)
          have e2 : 2 ^ (f + 1) = 2 * 2 ^ f := by rw [Nat.pow_succ]; omega
          rw [e2] at hg
          show g / b < 2 ^ f
          omega
      · have : 1 ≤ f := by
          cases f with
          | zero => simp at hg; omega
          | succ f => omega
        simp
        omega
    · have hg0 : g = 0 := by omega
      subst hg0
      dsimp! []
      intro p hp
      rw [moreD_zero, List.append_nil] at hacc
      subst hacc
      have npd : p ≠ d := fun e => by rw [e, upd_same] at hp; cases hp
      rw [upd_ne npd] at hp
      refine kk p _ (fun c o e => ?_) hp ?_
      · rw [upd_ne (ne_of_none e (by rw [← hp])), upd_ne (ne_of_none e hd)]
        exact e
      · rw [upd_same]
        simp [digs, List.map_reverse, nV]
end
end OA

namespace OA
open PySem PySem.Spec PyProof.Rows L2
/-! all(elt for x in iter): the element's own frame -/
theorem inv_regens {X : Cx} {pins : List (Addr × Obj)} {σ : L2.St} {H : Hp} {s s' : Shared} (I : Inv X pins σ H s) (h1 : s'.heap = s.heap) (h2 : s'.os = s.os) (h3 : AllBare s'.gens) : Inv X pins σ H s' :=
  ⟨I.ok, h2.trans I.os, h3, by rw [h1]; exact I.base, by rw [h1]; exact I.loc, by rw [h1]; exact I.cell, I.free, I.freeC, by rw [h1]; exact I.pin, by rw [h1]; exact I.hok, I.len⟩
def gxY (X : Cx) (N : List Str) (scope : Scope) (cl : List (Str × Addr)) (C : Addr) (code : Value) (fp : List Addr) (pn : List (Addr × Obj)) (A : Around) (s4 : Shared) (H4 : Hp) : Cx :=
  { prog := X.prog, w := X.w, K := X.K, mg := X.mg, base := X.base, A := A, N := N, s_0 := s4, H_0 := H4, env := genEnv scope cl C code builtinsNs X.env, outer := X.stack, stack := genEnv scope cl C code builtinsNs X.env :: X.stack, ex := fp, fn := fun _ => false, calm := true, pn := pn, xe := fun _ _ => False }
/-- the names that the generator takes from the def -/
def FreeOk (X : Cx) (σ : L2.St) (scope : Scope) (N : List Str) (σY : L2.St) : Prop := ∀ (i : Nat) (y : Str) (v : V), N[i]? = some y → σY[i]? = some (some v) → scope.names.lookup y = some .free ∧ ∃ j : Nat, X.N[j]? = some y ∧ σ[j]? = some (some v) ∧ (X.env.kindOf y = some .cell ∨ X.env.kindOf y = some .free)
theorem gx_start {X : Cx} {pins : List (Addr × Obj)} {σ σY : L2.St} {H4 : Hp} {s4 s5 : Shared} {N : List Str} {scope : Scope} {code : Value} {fp : List Addr} {A : Around} {x : Str} {a : Addr} {go : Obj} {m : Str → Option Value}
    (I : Inv X pins σ H4 s4) (S : GxR.GenS X.env scope x) (hfp : ∀ b ∈ fp, FpOk X pins H4 b ∧ b < s4.heap.objs.size) (hd : A.handled = none) (hfr : A.frames = some (genEnv scope (cloFrom X.env.cells scope.names []) s4.heap.objs.size code builtinsNs X.env :: X.stack))
    (hk : ∀ b o, s4.heap.get? b = some o → s5.heap.get? b = some o) (hos : s5.os = s4.os) (hg : AllBare s5.gens) (hm : s5.heap.Ns s4.heap.objs.size m) (ha : s5.heap.get? a = some go) (han : s4.heap.objs.size < a) (hgo : ∀ v, go.data ≠ .cell v)
    (hl : σY.length = N.length) (hf : FreeOk X σ scope N σY) :
    Inv (gxY X N scope (cloFrom X.env.cells scope.names []) s4.heap.objs.size code fp [(a, go)] A s4 H4) [] σY H4 s5 := by
  have cm : ∀ {y : Str} {c : Addr}, (cloFrom X.env.cells scope.names []).lookup y = some c → X.env.cells.lookup y = some c := fun e => NdefX.clo_cm S.free e
  have lt4 : ∀ b, b ∈ fp → b ≠ s4.heap.objs.size := fun b hb => Nat.ne_of_lt (hfp b hb).2
  refine ⟨⟨I.ok.mod, S.kind, I.ok.glob, rfl, Nat.le_refl _, fun y z c h1 h2 => I.ok.inj y z c (cm h1) (cm h2), fun y hy => ?_, fun _ _ h => (by cases h), fun _ => hd, hfr, .inr ⟨rfl, rfl⟩, fun b hb => ⟨lt4 b hb, fun y c h => (hfp b hb).1.2.2.2.2.1 y c (cm h)⟩,
    fun b o e => I.bs b o e, Nat.le_trans I.ok.bsz I.sz, fun b o e hb => ?_, fun b hb hs => ?_, I.stack, I.stkFree⟩, hos, hg, Un.kept hk, ⟨m, hm, fun i y v h1 h2 h3 => ?_⟩, fun y c h => ?_, I.hok.fresh (Nat.le_refl _), fun y c h => I.freeC y c (cm h), fun p hp => ?_, I.hok.kept hk, hl⟩
  · have hy : scope.names.lookup y = some .cell ∨ scope.names.lookup y = some .free := hy
    rcases hy with hy | hy
    · exact absurd rfl (S.cell _ (PySem.mem_of_lookup hy))
    · obtain ⟨c, hc⟩ := S.free _ (PySem.mem_of_lookup hy) rfl
      exact ⟨c, NdefX.clo_has S.free (PySem.mem_of_lookup hy) hc⟩
  · rcases (hfp b hb).1.2.2.2.1 with z | z
    · exact I.ok.noex b o e z
    · have h1 := Heap.lt_size e
      exact absurd (Nat.lt_of_lt_of_le h1 (Nat.le_trans I.ok.bsz z)) (Nat.lt_irrefl _)
  · rcases List.mem_cons.mp (I.stkSub b hs) with z | z
    · exact (hfp b hb).1.2.1 z
    · exact (hfp b hb).1.2.2.1 z
  · obtain ⟨k1, j, j1, j2, j3⟩ := hf i y v h1 h2
    obtain ⟨mX, _, hX⟩ := I.loc
    obtain ⟨u, ru, lu⟩ := hX j y v j1 j2 (by
      rcases j3 with j3 | j3
      · exact .inr (.inl j3)
      · exact .inr (.inr j3))
    obtain ⟨c, hc⟩ := S.free _ (PySem.mem_of_lookup k1) rfl
    refine ⟨u, ru, .inr ⟨.inr k1, c, NdefX.clo_has S.free (PySem.mem_of_lookup k1) hc, ?_⟩⟩
    rcases lu with ⟨l1, l2⟩ | ⟨l1, c', l2, l3⟩
    · rcases j3 with j3 | j3 <;> rw [j3] at l1 <;> cases l1
    · rw [hc] at l2
      cases l2
      exact l3.keeps hk
  · obtain ⟨v, hv⟩ := I.cell y c (cm h)
    exact ⟨v, hv.keeps hk⟩
  · have hp : p = (a, go) := by simpa [gxY] using hp
    rw [hp]
    refine ⟨ha, I.hok.fresh (Nat.le_of_lt han), Nat.ne_of_gt han, fun hm => ?_, hgo⟩
    obtain ⟨_, o, ho, _⟩ := I.stack.mem hm
    exact absurd (Heap.lt_size ho) (Nat.not_lt_of_gt (Nat.lt_of_lt_of_le han (Nat.le_refl _)))
/-! one turn after another -/
def slR (Y : Cx) (pins : List (Addr × Obj)) (fp : List Addr) (tn : Nat → Heap → Prop) (Sl : L2.St → Prop) (Pv : Nat → Hp → Prop) (i : Nat) (s : Shared) : Prop := ∃ σ H, Sl σ ∧ Pv i H ∧ Inv Y pins σ H s ∧ tn i s.heap ∧ ∀ b ∈ fp, H b = none
def gxR (Y : Cx) (pins : List (Addr × Obj)) (Pv : Nat → Hp → Prop) (n : Nat) : GenEnd := fun m _ r s1 => r = .ok .next ∧ m = 0 ∧ ∃ σ H, Pv n H ∧ Inv Y pins σ H s1
def gxP (Y : Cx) (pins : List (Addr × Obj)) (fp : List Addr) (tn : Nat → Heap → Prop) (Sl : L2.St → Prop) (Pv : Nat → Hp → Prop) (n : Nat) (tr : Nat → Bool) : Protocol := fun m _ v s kap =>
  ∃ i, i < n ∧ m = n - 1 - i ∧ v = .bool (tr i) ∧ slR Y pins fp tn Sl Pv (i + 1) s ∧ ∀ s'' : Shared, s''.heap = s.heap → s''.os = s.os → AllBare s''.gens → kap (.send .none) s''
section
variable {P : Program} {w : World} {K : PySem.W.Frag} {Y : Cx} {pins : List (Addr × Obj)} {S : Around} {elt iter : Expr} {x : Str} {px pos : Pos} {scope : Scope} {J : It} {it : Addr} {fp : List Addr} {tn : Nat → Heap → Prop} {g : TG} {te : TE} {Sl : L2.St → Prop} {Pv : Nat → Hp → Prop} {n : Nat} {tr : Nat → Bool} {env : Env}
theorem seg_gx (hP : Y.prog = P) (hw : Y.w = w) (hK : Y.K = K) (hcl : Y.calm = true) (hxe : Y.xe = fun _ _ => False) (henv : Y.env = env) (hA : Y.A = S.over (.compLoop (.GeneratorExp elt [⟨.Name x px, iter, [], 0⟩] scope pos) 0 (.ref it) .none env) [])
    (hco : env.scope.isCoroutine = false) (T : Turn P w K (.Name x px) J fp it tn) (hst : ∀ H, (∀ b ∈ fp, H b = none) → ∀ b ∈ fp, FpOk Y pins H b) (hg : PG Y (.Name x px) g) (he : PE Y elt te)
    (stop : ∀ H, Pv n H → J.stop n H) (go : ∀ i H, i < n → Pv i H → J.go i H) (turn : ∀ i σ H u H', i < n → Sl σ → Pv i H → J.yld i H u H' → g u σ H' fun σ2 H2 => Sl σ2 ∧ te σ2 H2 fun y H3 => y = .bl (tr i) ∧ Pv (i + 1) H3) :
    ∀ (k i : Nat) (s₀ s : Shared), n - i = k → i ≤ n → slR Y pins fp tn Sl Pv i s →
      Seg (model P w) S (gxR Y pins Pv n) (gxP Y pins fp tn Sl Pv n tr) (n - i) s₀ (.compLoop (.GeneratorExp elt [⟨.Name x px, iter, [], 0⟩] scope pos) 0 (.ref it) .none env)
        ((model P w).den (.compLoop (.GeneratorExp elt [⟨.Name x px, iter, [], 0⟩] scope pos) 0 (.ref it) .none env)) [] s := by
  subst hP hw hK henv
  intro k
  induction k with
  | zero =>
    intro i s₀ s hk hi ⟨σ, H, sl, pv, I, st, fr⟩
    have hin : i = n := by omega
    subst hin
    show Seg _ S _ _ _ s₀ _ ((compTurn (.GeneratorExp elt [⟨.Name x px, iter, [], 0⟩] scope pos) 0 (.ref it) .none Y.env).onRaise (leaving Y.env)) [] s
    rw [compTurn_gen, Sem.onRaise_eq_wrap]
    refine seg_bind_wrap (wpAny_standAt ?_)
    have d := T.done Y rfl rfl rfl hcl i pins s σ H
    rw [hA] at d
    refine seg_bind_wrap (wpAny_mono (d (fun x s' => Seg _ _ _ _ _ _ _ _ _ _) I (hst H fr) st (stop H pv)) (fun r s1 ⟨hr, I1⟩ => ?_) fun _ _ e => e)
    subst hr
    exact seg_end (.ok .next) ⟨rfl, by omega, σ, H, pv, I1⟩
  | succ k ih =>
    intro i s₀ s hk hi ⟨σ, H, sl, pv, I, st, fr⟩
    have hlt : i < n := by omega
    show Seg _ S _ _ _ s₀ _ ((compTurn (.GeneratorExp elt [⟨.Name x px, iter, [], 0⟩] scope pos) 0 (.ref it) .none Y.env).onRaise (leaving Y.env)) [] s
    rw [compTurn_gen, Sem.onRaise_eq_wrap]
    refine seg_bind_wrap (wpAny_standAt ?_)
    have d := T.item Y rfl rfl rfl hcl i pins s σ H
    rw [hA] at d
    refine seg_bind_wrap (wpAny_mono (d (fun x s' => Seg _ _ _ _ _ _ _ _ _ _) I (hst H fr) st (go i H hlt pv)) (fun r s1 ⟨u, hr, h4⟩ => ?_) fun _ _ e => e)
    subst hr
    refine seg_bind_wrap (wpAny_mono h4 (fun _ s2 ⟨y, H', I2, r2, y2, st2, fr2⟩ => ?_) fun _ _ e => e)
    have I2' := I2.pinned (hst H' fr2) (T.obj _ _ st2)
    have hgr := hg.run _ s2 σ H' y u _ I2' r2 (turn i σ H y H' hlt sl pv y2)
    rw [hA, hxe] at hgr
    refine seg_bind_wrap (wpAny_mono hgr (fun _ s3 ⟨σ3, H3, I3, sl3, q3⟩ => ?_) fun _ _ e => e.elim)
    simp only [List.forIn_nil]
    refine seg_bind_wrap (wpAny_pure ?_)
    simp only [if_true]
    have hy : ∀ v, yieldOut Y.env v = yieldValue v := fun v => by simp only [yieldOut, hco, Bool.false_eq_true, if_false]
    simp only [hy]
    rw [Sem.bind_eq_wrap', Sem.bind_eq_wrap', Sem.wrap_wrap, Sem.wrap_wrap]
    have her := he.run _ s3 σ3 H3 _ I3 q3
    rw [hA, hxe] at her
    refine seg_wrap (wpAny_mono her (fun z s4 ⟨v, H4, I4, rv, hv, pv4⟩ => ?_) fun _ _ e => e.elim)
    have hz : z = .bool (tr i) := by rw [hv] at rv; exact rv
    have en : n - i = (n - 1 - i) + 1 := by omega
    rw [en]
    have st4 : tn (i + 1) s4.heap := T.keep _ _ _ st2 fun b hb o e => (I4.pin (b, o) (List.mem_append_right _ (List.mem_append_right _ (mem_pinsAt hb e)))).1
    have fr4 : ∀ b ∈ fp, H4 b = none := fun b hb => by
      obtain ⟨o, e, d⟩ := T.obj _ _ st2 b hb
      exact (I4.pin (b, o) (List.mem_append_right _ (List.mem_append_right _ (mem_pinsAt hb e)))).2.1
    refine seg_at (seg_yield rfl rfl rfl ⟨i, hlt, rfl, hz, ⟨σ3, H4, sl3, pv4, I4.unpinned, st4, fr4⟩, fun s'' e1 e2 e3 => ?_⟩)
    have : n - 1 - i = n - (i + 1) := by omega
    rw [this]
    exact seg_again rfl (ih (i + 1) s'' s'' (by omega) hlt ⟨σ3, H4, sl3, pv4, inv_regens I4.unpinned e1 e2 e3, by rw [e1]; exact st4, fr4⟩)
/-- the generator, ready for its i-th turn -/
def gxSt (S : Around) (Y : Cx) (pins : List (Addr × Obj)) (fp : List Addr) (tn : Nat → Heap → Prop) (Sl : L2.St → Prop) (Pv : Nat → Hp → Prop) (n : Nat) (tr : Nat → Bool) (a : Addr) (gi : Nat) (i : Nat) (s : Shared) : Prop :=
  s.heap.IsGen a gi ∧ gi < s.gens.size ∧ (∃ σ H, Pv i H ∧ Inv Y pins σ H s) ∧ ∃ gs, s.gens[gi]? = some gs ∧ ∀ s'' : Shared, s''.heap = s.heap → s''.os = s.os → AllBare s''.gens → gs.Goes (model Y.prog Y.w) S (gxR Y pins Pv n) (gxP Y pins fp tn Sl Pv n tr) (n - i) (.send .none) s''
def gxFin (Y : Cx) (pins : List (Addr × Obj)) (Pv : Nat → Hp → Prop) (n : Nat) (s : Shared) : Prop := ∃ i σ H, ((0 < i ∨ i = n) ∧ i ≤ n) ∧ Pv i H ∧ Inv Y pins σ H s
section
variable {B : Around} {a : Addr} {gi i : Nat} {s : Shared} {Q : Option Value → Shared → Prop} {E : Value → Shared → Prop} {go : Obj}
theorem gx_item (hh : B.handled = none) (hroom : B.depth < recursionLimit) (hpn : (a, go) ∈ Y.pn) (hi : i < n) (st : gxSt B.in1 Y pins fp tn Sl Pv n tr a gi i s) (hQ : ∀ s', gxSt B.in1 Y pins fp tn Sl Pv n tr a gi (i + 1) s' → Q (some (.bool (tr i))) s') :
    wpAny (model Y.prog Y.w) B (pyNext (.ref a)) Q E s := by
  obtain ⟨hg, hlt, ⟨σ, H, pv, I⟩, gs, hgs, hgo⟩ := st
  have en : n - i = (n - 1 - i) + 1 := by omega
  rw [en] at hgo
  have hga := hg
  obtain ⟨o, nm, qn, ho, hoc, hod, hos⟩ := hga
  have hpin := (I.pin (a, go) (List.mem_append_left _ hpn)).1
  have hpin : s.heap.get? a = some go := hpin
  refine GenW.wpAny_gsz (n := s.gens.size) (Nat.le_refl _) ?_
  refine wpAny_pyNext_genexpQ (A := B) (n := n - 1 - i + 1) (P := fun m _ s1 => m = 0 ∧ ∃ σ H, Pv n H ∧ Inv Y pins σ H s1) hh I.nolimit hroom hg hgs (hgo _ rfl rfl (allBare_setGen I.bare rfl)) (fun v s1 gs' hb hv hsz => ?_) (fun s1 hp h' hk hsz => ?_)
  · obtain ⟨i', hi', em, rfl, ⟨σ2, H2, sl2, pv2, I2, st2, fr2⟩, kap⟩ := hv
    have : i' = i := by omega
    subst this
    have hsz' : s.gens.size ≤ s1.gens.size := by rw [GenW.setGen_size] at hsz; exact hsz
    have hpin2 : s1.heap.get? a = some go := (I2.pin (a, go) (List.mem_append_left _ hpn)).1
    have hog : o = go := by rw [ho] at hpin; exact Option.some.inj hpin
    have hb2 : AllBare (s1.setGen gi gs').gens := allBare_setGen I2.bare hb
    refine hQ _ ⟨⟨go, nm, qn, hpin2, by rw [← hog]; exact hoc, by rw [← hog]; exact hod, by rw [← hog]; exact hos⟩, by rw [GenW.setGen_size]; omega, ⟨σ2, H2, pv2, inv_regens I2 rfl rfl hb2⟩, gs', setGen_at (by omega), fun s'' e1 e2 e3 => ?_⟩
    have := kap s'' e1 e2 e3
    have e4 : n - 1 - i' = n - (i' + 1) := by omega
    rw [← e4]
    exact this
  · exact absurd hp.1 (Nat.succ_ne_zero _)
theorem gx_done (hh : B.handled = none) (hroom : B.depth < recursionLimit) (st : gxSt B.in1 Y pins fp tn Sl Pv n tr a gi n s) (hQ : ∀ s', gxFin Y pins Pv n s' → Q none s') : wpAny (model Y.prog Y.w) B (pyNext (.ref a)) Q E s := by
  obtain ⟨hg, hlt, ⟨σ, H, pv, I⟩, gs, hgs, hgo⟩ := st
  rw [Nat.sub_self] at hgo
  refine wpAny_pyNext_genexpQ (A := B) (n := 0) (P := fun m _ s1 => m = 0 ∧ ∃ σ H, Pv n H ∧ Inv Y pins σ H s1) hh I.nolimit hroom hg hgs (hgo _ rfl rfl (allBare_setGen I.bare rfl)) (fun v s1 gs' hb hv => ?_) (fun s1 hp h' hk => ?_)
  · obtain ⟨i', hi', em, _, _, kap⟩ := hv
    exact False.elim (kap s1 rfl rfl (by
      obtain ⟨_, _, _, _, I2, _⟩ := ‹slR Y pins fp tn Sl Pv (i' + 1) s1›
      exact I2.bare))
  · obtain ⟨_, σ2, H2, pv2, I2⟩ := hp
    refine hQ _ ⟨n, σ2, H2, ⟨.inr rfl, Nat.le_refl _⟩, pv2, ?_⟩
    have I3 := I2.kept (h' := h') (t' := s1.toks) hk
    exact inv_regens I3 rfl rfl (allBare_setGen I2.bare rfl)
end
theorem all_loop {prog : Program} {w : World} {A : Around} {I : Addr} {n : Nat} {tr : Nat → Bool} {R : Result → Shared → Prop} (St : Nat → Shared → Prop) (Fin : Shared → Prop)
    (item : ∀ i s (Q : Option Value → Shared → Prop) (E : Value → Shared → Prop), i < n → St i s → (∀ s', St (i + 1) s' → Q (some (.bool (tr i))) s') → wpAny (model prog w) A.in1 (pyNext (.ref I)) Q E s)
    (done : ∀ s (Q : Option Value → Shared → Prop) (E : Value → Shared → Prop), St n s → (∀ s', Fin s' → Q none s') → wpAny (model prog w) A.in1 (pyNext (.ref I)) Q E s) (fin : ∀ i s, 0 < i → i ≤ n → St i s → Fin s) :
    ∀ (k i : Nat) (s : Shared), n - i = k → i ≤ n → St i s → (∀ s', Fin s' → R (.ok (.ret (.bool (((List.range n).drop i).all tr)))) s') → codeAny (model prog w) A (.builtin "all.loop" ⟨[.ref I], []⟩) R s := by
  intro k
  induction k with
  | zero =>
    intro i s hk hi hst hR
    have hin : i = n := by omega
    subst hin
    refine codeAny_builtin F.entry_all_loop ?_
    rw [Around.under_plainId F.plain_all_loop _]
    show wpAny _ A.in1 (pyNext (.ref I) >>= _) _ _ s
    refine wpAny_bind (done s _ _ hst fun s' hm => ?_)
    refine wpAny_bind (wpAny_rule (wpAny_pure ?_))
    have := hR s' hm
    rw [List.drop_of_length_le (by simp)] at this
    exact this
  | succ k ih =>
    intro i s hk hi hst hR
    have hlt : i < n := by omega
    have hd : (List.range n).drop i = i :: (List.range n).drop (i + 1) := by
      rw [List.drop_eq_getElem_cons (by simpa using hlt)]; simp
    refine codeAny_builtin F.entry_all_loop ?_
    rw [Around.under_plainId F.plain_all_loop _]
    show wpAny _ A.in1 (pyNext (.ref I) >>= _) _ _ s
    refine wpAny_bind (item i s _ _ hlt hst fun s' hst' => ?_)
    refine wpAny_bind (wpAny_holding (wpAny_truthy_bool ?_))
    refine wpAny_bind (wpAny_letGo ?_)
    cases hb : tr i with
    | true =>
      simp only [if_true]
      refine wpAny_pure ⟨plainId_quiet F.plain_all_loop _, ih (i + 1) _ (by omega) hlt hst' fun s'' hm' => ?_⟩
      have := hR s'' hm'
      rw [hd, List.all_cons, hb, Bool.true_and] at this
      exact this
    | false =>
      simp only [Bool.false_eq_true, if_false]
      refine wpAny_bind (wpAny_rule (wpAny_pure ?_))
      have := hR s' (fin (i + 1) s' (Nat.succ_pos _) hlt hst')
      rw [hd, List.all_cons, hb, Bool.false_and] at this
      exact this
end
end OA

namespace OA
open PySem PySem.Spec PyProof.Rows L2
/-! all(elt for x in iter): the rule -/
section
variable {P : Program} {w : World} {K : PySem.W.Frag} {Y : Cx} {pins : List (Addr × Obj)} {S : Around} {elt iter : Expr} {x : Str} {px pos : Pos} {scope : Scope} {J : It} {it : Addr} {fp : List Addr} {tn : Nat → Heap → Prop} {g : TG} {te : TE} {Sl : L2.St → Prop} {Pv : Nat → Hp → Prop} {n : Nat} {tr : Nat → Bool} {env : Env}
theorem seg_gx0 (hP : Y.prog = P) (hw : Y.w = w) (hK : Y.K = K) (hcl : Y.calm = true) (hxe : Y.xe = fun _ _ => False) (henv : Y.env = env) (hA : Y.A = S.over (.compLoop (.GeneratorExp elt [⟨.Name x px, iter, [], 0⟩] scope pos) 0 (.ref it) .none env) [])
    (hco : env.scope.isCoroutine = false) (T : Turn P w K (.Name x px) J fp it tn) (hst : ∀ H, (∀ b ∈ fp, H b = none) → ∀ b ∈ fp, FpOk Y pins H b) (hg : PG Y (.Name x px) g) (he : PE Y elt te)
    (stop : ∀ H, Pv n H → J.stop n H) (go : ∀ i H, i < n → Pv i H → J.go i H) (turn : ∀ i σ H u H', i < n → Sl σ → Pv i H → J.yld i H u H' → g u σ H' fun σ2 H2 => Sl σ2 ∧ te σ2 H2 fun y H3 => y = .bl (tr i) ∧ Pv (i + 1) H3)
    (s₀ s : Shared) (h : slR Y pins fp tn Sl Pv 0 s) :
      Seg (model P w) S (gxR Y pins Pv n) (gxP Y pins fp tn Sl Pv n tr) n s₀ (.compStart (.GeneratorExp elt [⟨.Name x px, iter, [], 0⟩] scope pos) 0 (.ref it) .none env)
        ((model P w).den (.compStart (.GeneratorExp elt [⟨.Name x px, iter, [], 0⟩] scope pos) 0 (.ref it) .none env)) [] s := by
  have loop := seg_gx hP hw hK hcl hxe henv hA hco T hst hg he stop go turn n 0 s₀ s (Nat.sub_zero _) (Nat.zero_le _) h
  rw [Nat.sub_zero] at loop
  obtain ⟨_, _, _, _, _, st, _⟩ := h
  show Seg _ S _ _ _ s₀ _ ((compStart (.GeneratorExp elt [⟨.Name x px, iter, [], 0⟩] scope pos) 0 (.ref it) .none env).onRaise (leaving env)) [] s
  unfold compStart
  rw [Sem.onRaise_eq_wrap]
  show Seg _ S _ _ _ s₀ _ ((ask >>= _).wrap _ _ _ _) [] s
  refine seg_bind_wrap (wpAny_askSetting ?_)
  split
  · exact seg_again rfl loop
  · first
      | exact seg_bind_wrap (wpAny_rule (seg_bind_wrap (wpAny_standAt (seg_bind_wrap (T.self _ 0 s _ _ st (seg_again rfl loop))))))
      | (refine seg_bind_wrap (wpAny_rule ?_); show Seg _ S _ _ _ s₀ _ ((standAt iter.pos >>= _).wrap _ _ _ _) [] s; exact seg_bind_wrap (wpAny_standAt (seg_bind_wrap (T.self _ 0 s _ _ st (seg_again rfl loop)))))
end
theorem call_all_own {prog : Program} {w : World} {A : Around} {a : Addr} {gi n : Nat} {tr : Nat → Bool} {s : Shared} {Q : Value → Shared → Prop} {E : Value → Shared → Prop} (hg : s.heap.IsGen a gi) (St : Nat → Shared → Prop) (Fin : Shared → Prop)
    (item : ∀ i s (Q : Option Value → Shared → Prop) (E : Value → Shared → Prop), i < n → St i s → (∀ s', St (i + 1) s' → Q (some (.bool (tr i))) s') → wpAny (model prog w) A.in1 (pyNext (.ref a)) Q E s)
    (done : ∀ s (Q : Option Value → Shared → Prop) (E : Value → Shared → Prop), St n s → (∀ s', Fin s' → Q none s') → wpAny (model prog w) A.in1 (pyNext (.ref a)) Q E s) (fin : ∀ i s, 0 < i → i ≤ n → St i s → Fin s)
    (h0 : St 0 s) (hQ : ∀ s', Fin s' → Q (.bool ((List.range n).all tr)) s') : wpAny (model prog w) A (call (.builtin "all") [.ref a]) Q E s := by
  refine call_function_tree F.kind_all F.plain_all F.entry_all (F.args_all1 _) ?_
  unfold Builtin.«all»
  refine wpAny_bind (m := oneArg "all" _) (wpAny_pure ?_)
  refine wpAny_bind (wpAny_pyIter_gen hg ?_)
  exact wpAny_pure ⟨plainId_quiet F.plain_all_loop _, all_loop St Fin item done fin n 0 s rfl (Nat.zero_le _) h0 fun s' hm => by simpa using hQ s' hm⟩
/-- a generator that is ready: n answers tr, from the state it stands in -/
def ReadyG (X : Cx) (pins : List (Addr × Obj)) (σ : L2.St) (n : Nat) (tr : Nat → Bool) (Pv : Nat → Hp → Prop) (a : Addr) (s5 : Shared) : Prop :=
  ∃ (gi : Nat) (St : Nat → Shared → Prop) (Fin : Shared → Prop), s5.heap.IsGen a gi ∧ St 0 s5 ∧
    (∀ i s (Q : Option Value → Shared → Prop) (E : Value → Shared → Prop), i < n → St i s → (∀ s', St (i + 1) s' → Q (some (.bool (tr i))) s') → wpAny (model X.prog X.w) X.A.in1 (pyNext (.ref a)) Q E s) ∧
    (∀ s (Q : Option Value → Shared → Prop) (E : Value → Shared → Prop), St n s → (∀ s', Fin s' → Q none s') → wpAny (model X.prog X.w) X.A.in1 (pyNext (.ref a)) Q E s) ∧
    (∀ i s, 0 < i → i ≤ n → St i s → Fin s) ∧ ∀ s', Fin s' → ∃ i H2, ((0 < i ∨ i = n) ∧ i ≤ n) ∧ Pv i H2 ∧ Inv X pins σ H2 s'
/-- the names of the generator's frame: own ones, taken ones with their places in the def -/
def gxSl (σ : L2.St) (sl : List (Option Nat)) : L2.St := sl.map fun o => match o with
  | none => none
  | some j => (σ[j]?).join
structure GxN (X : Cx) (scope : Scope) (N : List Str) (sl : List (Option Nat)) : Prop where
  len : sl.length = N.length
  ok : ∀ i j : Nat, sl[i]? = some (some j) → ∃ y : Str, N[i]? = some y ∧ scope.names.lookup y = some .free ∧ X.N[j]? = some y ∧ (X.env.kindOf y = some .cell ∨ X.env.kindOf y = some .free)
theorem GxN.free {X : Cx} {scope : Scope} {N : List Str} {sl : List (Option Nat)} (h : GxN X scope N sl) (σ : L2.St) : FreeOk X σ scope N (gxSl σ sl) := by
  intro i y v h1 h2
  unfold gxSl at h2
  rw [List.getElem?_map] at h2
  cases q : sl[i]? with
  | none => rw [q] at h2; cases h2
  | some o =>
    rw [q] at h2
    cases o with
    | none => cases h2
    | some j =>
      obtain ⟨y', e1, e2, e3, e4⟩ := h.ok i j q
      rw [h1] at e1
      cases e1
      refine ⟨e2, j, e3, ?_, e4⟩
      have h3 : (σ[j]?).join = some v := Option.some.inj h2
      cases q2 : σ[j]? with
      | none => rw [q2] at h3; cases h3
      | some u => rw [q2] at h3; rw [show u = some v from h3]
theorem gxSl_len {σ : L2.St} {sl : List (Option Nat)} : (gxSl σ sl).length = sl.length := by simp [gxSl]
/-- the table at P has the code that belongs to gp -/
def WarmAt (H : Hp) (P : Addr) (gp : Pos) : Prop := ∃ ps : Array Value, H P = some (.tbl ps) ∧ TriplesOk ps.toList ∧ ∃ cv, codeAmong gp ps.toList = some cv
def TabbedW (P : Addr) (gp : Pos) (H H' : Hp) : Prop := WarmAt H' P gp ∧ (∀ b, b ≠ P → H' b = H b) ∧ (WarmAt H P gp → H' = H)
theorem upd_self {H : Hp} {P : Addr} {o : HO} (h : H P = some o) : upd H P o = H := by
  funext b
  by_cases hb : b = P
  · rw [hb, upd_same, h]
  · rw [upd_ne hb]
def tAllG (P0 : Addr) (gp : Pos) (sl : List (Option Nat)) (wi : TI) (g : TG) (te : TE) : TE := fun σ H Q => wi σ H fun J H1 => GxR.TabG H1 P0 ∧ ∃ (n : Nat) (Sl : L2.St → Prop) (Pv : Nat → Hp → Prop) (tr : Nat → Bool),
  Sl (gxSl σ sl) ∧ (∀ H2, TabbedW P0 gp H1 H2 → Pv 0 H2) ∧ (∀ H, Pv n H → J.stop n H) ∧ (∀ i H, i < n → Pv i H → J.go i H) ∧
  (∀ i σ H u H', i < n → Sl σ → Pv i H → J.yld i H u H' → g u σ H' fun σ2 H2 => Sl σ2 ∧ te σ2 H2 fun y H3 => y = .bl (tr i) ∧ Pv (i + 1) H3) ∧
  ∀ i H, ((0 < i ∨ i = n) ∧ i ≤ n) → Pv i H → Q (.bl ((List.range n).all tr)) H
structure GenS0 (env : Env) (scope : Scope) (x : Str) : Prop where
  kind : scope.kind = .function
  co : scope.isCoroutine = false
  cell : ∀ y ∈ scope.names, y.2 ≠ .cell
  dot : scope.names.lookup (".0" : Str) = some NameKind.local
  loc : scope.names.lookup x = some .local
  free : ∀ y ∈ scope.names, y.2 = .free → env.scope.names.lookup y.1 = some .cell ∨ env.scope.names.lookup y.1 = some .free
theorem GenS0.to {env : Env} {scope : Scope} {x : Str} (h : GenS0 env scope x) (has : ∀ y, (env.kindOf y = some .cell ∨ env.kindOf y = some .free) → ∃ c, env.cells.lookup y = some c) : GxR.GenS env scope x :=
  ⟨h.kind, h.co, h.cell, h.dot, h.loc, fun y hy e => has y.1 (h.free y hy e)⟩
def gsC (sc scope : Scope) (x : Str) : Bool := (match scope.kind with | .function => true | _ => false) && !scope.isCoroutine && (scope.names.all fun y => decide (y.2 ≠ .cell)) && decide (scope.names.lookup (".0" : Str) = some NameKind.local) && decide (scope.names.lookup x = some .local) &&
  (scope.names.all fun y => !decide (y.2 = .free) || decide (sc.names.lookup y.1 = some .cell) || decide (sc.names.lookup y.1 = some .free))
theorem gs_by {env : Env} {sc scope : Scope} {x : Str} (h : gsC sc scope x = true) (he : env.scope = sc := by rfl) : GenS0 env scope x := by
  subst he
  unfold gsC at h
  simp only [Bool.and_eq_true, List.all_eq_true, decide_eq_true_eq, Bool.or_eq_true, Bool.not_eq_true', decide_eq_false_iff_not] at h
  obtain ⟨⟨⟨⟨⟨h1, h2⟩, h3⟩, h4⟩, h5⟩, h6⟩ := h
  refine ⟨?_, h2, h3, h4, h5, fun y hy e => ?_⟩
  · split at h1
    · assumption
    · cases h1
  · rcases h6 y hy with (z | z) | z
    · exact absurd e z
    · exact .inl z
    · exact .inr z
def gnC (XN : List Str) (sc scope : Scope) (N : List Str) (sl : List (Option Nat)) : Bool := decide (sl.length = N.length) && (List.range sl.length).all fun i => match sl[i]? with
  | some (some j) => (match N[i]? with
    | some y => decide (scope.names.lookup y = some .free) && decide (XN[j]? = some y) && (decide (sc.names.lookup y = some .cell) || decide (sc.names.lookup y = some .free))
    | none => false)
  | _ => true
theorem gn_by {X : Cx} {scope : Scope} {N : List Str} {sl : List (Option Nat)} {XN : List Str} {sc : Scope} (h : gnC XN sc scope N sl = true) (hn : X.N = XN := by rfl) (he : X.env.scope = sc := by rfl) : GxN X scope N sl := by
  subst hn he
  unfold gnC at h
  simp only [Bool.and_eq_true, List.all_eq_true, decide_eq_true_eq] at h
  obtain ⟨h1, h2⟩ := h
  refine ⟨h1, fun i j e => ?_⟩
  have q := h2 i (List.mem_range.mpr (List.getElem?_eq_some_iff.mp e).1)
  simp only [e] at q
  cases hn : N[i]? with
  | none => rw [hn] at q; cases q
  | some y =>
    rw [hn] at q
    simp only [Bool.and_eq_true, Bool.or_eq_true, decide_eq_true_eq] at q
    exact ⟨y, rfl, q.1.1, q.1.2, q.2⟩
theorem frames_gx {A : Around} {c : Code} {env : Env} {st : List Env} (h : A.frames = some st) (hc : c.envs = [env]) : (A.over c []).frames = some (env :: st) := by
  show pushEnvs c.envs (pushEnvs (envsOf []) A.frames) = _
  rw [hc, h]
  rfl
section
variable {X : Cx} {pins : List (Addr × Obj)} {σ : L2.St} {H : Hp} {s : Shared}
theorem gen_gx {c P0 : Addr} {elt iter : Expr} {x : Str} {px gpos : Pos} {scope : Scope} {N : List Str} {sl : List (Option Nat)} {k : Nat} {wi : TI} {g : TG} {te : TE} {Q : VK} {Q' : Value → Shared → Prop}
    (hr : Room (k + 1) X.A) (TB : GxR.TabB X.base X.mg c P0) (hcode : X.env.code = .ref c) (S0 : GenS0 X.env scope x) (hN : GxN X scope N sl) (hi : PI X (.Name x px) iter wi)
    (hG : ∀ cl C code fp pn A s H, PG (gxY X N scope cl C code fp pn A s H) (.Name x px) g) (he : ∀ cl C code fp pn A s H, Room k A → PE (gxY X N scope cl C code fp pn A s H) elt te)
    (hs : ∀ v, genFold iter X.env v = pure v) (I : Inv X pins σ H s) (h : tAllG P0 gpos sl wi g te σ H Q)
    (hQ : ∀ n tr Pv a s5, (∀ i H, ((0 < i ∨ i = n) ∧ i ≤ n) → Pv i H → Q (.bl ((List.range n).all tr)) H) → ReadyG X pins σ n tr Pv a s5 → Q' (.ref a) s5) :
    wpAny (model X.prog X.w) X.A (eval (.GeneratorExp elt [⟨.Name x px, iter, [], 0⟩] scope gpos) X.env) Q' X.xe s := by
  have S : GxR.GenS X.env scope x := S0.to I.ok.has
  refine wpAny_GeneratorExp_make S.co (closure_ok S.free) S.cell S.dot S.kind (by have := hr.dp; omega) ?_ hs
  refine thn (hi.run pins s σ H _ I h) fun xv s1 h1 => ?_
  refine wpAny_mono h1 (fun itv s2 hp => ?_) fun _ _ e => e
  obtain ⟨it, fp, tn, J, H', rfl, I2, T, st0, hfp, ⟨ps, hP, ht⟩, n, Sl, Pv, tr, hSl, h0, hstop, hgo, hturn, hfin⟩ := hp
  have hPs : s2.heap.get? P0 = some { cls := .none, data := .fields ps } := I2.hok P0 _ hP
  have hPlt : P0 < s2.heap.objs.size := Heap.lt_size hPs
  have cd : PySem.W.CodeHd s2.heap c P0 := TB.code.keeps fun b u e => I2.bk b u e
  have fpP : ∀ b ∈ fp, b ≠ P0 := fun b hb z => by
    have := (hfp b hb).1
    rw [z, hP] at this
    cases this
  refine ⟨I2.nolimit, ?_⟩
  have cont : ∀ (code : Value) (h3 : Heap) (tk : Nat) (ps' : Array Value), Heap.ExtBut P0 s2.heap h3 → h3.get? P0 = some { cls := .none, data := .fields ps' } → (∃ more, ps' = ps ++ more ∧ ∀ cv, codeAmong gpos ps.toList = some cv → more = #[]) → TriplesOk ps'.toList → (∃ cv, codeAmong gpos ps'.toList = some cv) →
      wpAny (model X.prog X.w) X.A (builtinsFor X.env.globals X.env.builtins) (fun bi s₄ => ∀ h', h'.Ns s₄.heap.objs.size (fun y => if y = ".0" then some (.ref it) else none) → Heap.SameBut s₄.heap.objs.size (s₄.heap.push { cls := .type "frame", data := .dict #[] }) h' →
          Q' (.ref h'.objs.size) { s₄ with
            gens := s₄.gens.push (.fresh (.compStart (.GeneratorExp elt [⟨.Name x px, iter, [], 0⟩] scope gpos) 0 (.ref it) .none (genEnv scope (cloFrom X.env.cells scope.names []) s₄.heap.objs.size code bi X.env))),
            toks := s₄.toks + 1 + 1 + 1,
            heap := h'.push { cls := .type "generator", data := .fields #[.int s₄.gens.size 0, .str "<genexpr>" (s₄.toks + 1), .str (X.env.qual ++ "<genexpr>") (s₄.toks + 1 + 1)] } }) X.xe { s2 with heap := h3, toks := tk } := by
    intro code h3 tk ps' hx hP3 hmore ht3 hcv
    obtain ⟨bm, ob, e1, e2, e3, e4, e5, e6, e7, e8⟩ := TB.bm
    have keep3 : ∀ b u, b ≠ P0 → s2.heap.get? b = some u → h3.get? b = some u := fun b u hb e => hx b u hb e
    refine wpAny_builtinsFor (m := X.mg) (by rw [I2.ok.glob]; exact (I2.mod.glob.keeps I2.bk).extBut hx TB.gP) e1 e2 (keep3 _ _ e4 (I2.bk _ _ e5)) e6 e7 e8 ?_
    intro h' hn' hs'
    obtain ⟨more, rfl, hsame⟩ := hmore
    have hpv : Pv 0 (upd H' P0 (.tbl (ps ++ more))) := h0 _ ⟨⟨_, upd_same, ht3, hcv⟩, fun b hb => upd_ne hb, fun hw => by
      obtain ⟨ps1, w1, _, cv, w3⟩ := hw
      rw [hP] at w1
      cases w1
      rw [hsame cv w3, Array.append_empty]
      exact upd_self hP⟩
    -- behind the table
    have I4 : Inv X pins σ (upd H' P0 (.tbl (ps ++ more))) { s2 with heap := h3, toks := tk } := GxR.inv_tab (g' := s2.gens) (d' := s2.drawn) I2 hP keep3 hP3 I2.bare
    have hfp4 : ∀ b ∈ fp, FpOk X pins (upd H' P0 (.tbl (ps ++ more))) b ∧ b < h3.objs.size := fun b hb => by
      obtain ⟨f1, f2, f3, f4, f5, f6⟩ := hfp b hb
      obtain ⟨o, e, _⟩ := T.obj _ _ st0 b hb
      exact ⟨⟨by rw [upd_ne (fpP b hb)]; exact f1, f2, f3, f4, f5, f6⟩, Heap.lt_size (keep3 b o (fpP b hb) e)⟩
    have hsz : h'.objs.size = h3.objs.size + 1 := by rw [hs'.1, Heap.size_push]
    have keep' : ∀ b o, h3.get? b = some o → h'.get? b = some o := fun b o e => hs'.extBut b o (Nat.ne_of_lt (Heap.lt_size e)) (Heap.get?_push_of_some _ e)
    generalize hgo' : ({ cls := .type "generator", data := .fields #[.int s2.gens.size 0, .str "<genexpr>" (tk + 1), .str (X.env.qual ++ "<genexpr>") (tk + 1 + 1)] } : Obj) = go
    have hgoc : ∀ v, go.data ≠ .cell v := fun v z => by
      rw [← hgo'] at z
      cases z
    have hgf : go.isFreed = false := by rw [← hgo']; rfl
    have keep5 : ∀ b o, h3.get? b = some o → (h'.push go).get? b = some o := fun b o e => Heap.get?_push_of_some _ (keep' b o e)
    have hga : (h'.push go).get? h'.objs.size = some go := Heap.get?_push_size _ hgf
    let env : Env := genEnv scope (cloFrom X.env.cells scope.names []) h3.objs.size code builtinsNs X.env
    let AY : Around := X.A.in1.in1.over (.compLoop (.GeneratorExp elt [⟨.Name x px, iter, [], 0⟩] scope gpos) 0 (.ref it) .none env) []
    have hAd : AY.handled = none := hr.hd
    have hAf : AY.frames = some (env :: X.stack) := frames_gx (A := X.A.in1.in1) I2.ok.frames rfl
    have start : ∀ s'' : Shared, s''.heap = h'.push go → s''.os = s2.os → AllBare s''.gens → Inv (gxY X N scope (cloFrom X.env.cells scope.names []) h3.objs.size code fp [(h'.objs.size, go)] AY { s2 with heap := h3, toks := tk } (upd H' P0 (.tbl (ps ++ more)))) [] (gxSl σ sl) (upd H' P0 (.tbl (ps ++ more))) s'' := fun s'' q1 q2 q3 =>
      gx_start I4 S hfp4 hAd hAf (fun b o e => by rw [q1]; exact keep5 b o e) q2 q3 (by rw [q1]; exact hn'.push _) (by rw [q1]; exact hga) (by show h3.objs.size < h'.objs.size; omega) hgoc (gxSl_len.trans hN.len) (hN.free σ)
    have hst : ∀ H, (∀ b ∈ fp, H b = none) → ∀ b ∈ fp, FpOk (gxY X N scope (cloFrom X.env.cells scope.names []) h3.objs.size code fp [(h'.objs.size, go)] AY { s2 with heap := h3, toks := tk } (upd H' P0 (.tbl (ps ++ more)))) [] H b := fun H hH b hb => by
      have I5 := start { s2 with heap := h'.push go } rfl rfl I2.bare
      refine ⟨hH b hb, (I5.ok.exf b hb).1, I5.ok.exfs b hb, .inl hb, fun y c h z => (I5.ok.exf b hb).2 y c h z, fun p hp z => ?_⟩
      have hp : p = (h'.objs.size, go) := by simpa [gxY] using hp
      rw [hp] at z
      have := (hfp4 b hb).2
      have z : b = h'.objs.size := Eq.symm z
      have l1 : b < h3.objs.size := this
      rw [z, hsz] at l1
      exact absurd l1 (Nat.not_lt_of_ge (Nat.le_succ _))
    have hRoom : Room k AY := ⟨hAd, by have := hr.dp; show X.A.depth + 0 + 1 + 3 * k + 5 < recursionLimit; omega, by have := hr.un; show X.A.units + 1 + 1 + 0 + 3 + 16 * k + 200 < cLine; omega⟩
    refine hQ n tr Pv h'.objs.size _ hfin ⟨s2.gens.size, gxSt X.A.in1.in1 (gxY X N scope (cloFrom X.env.cells scope.names []) h3.objs.size code fp [(h'.objs.size, go)] AY { s2 with heap := h3, toks := tk } (upd H' P0 (.tbl (ps ++ more)))) [] fp tn Sl Pv n tr h'.objs.size s2.gens.size, gxFin (gxY X N scope (cloFrom X.env.cells scope.names []) h3.objs.size code fp [(h'.objs.size, go)] AY { s2 with heap := h3, toks := tk } (upd H' P0 (.tbl (ps ++ more)))) [] Pv n, ?_, ?_, ?_, ?_, ?_, ?_⟩
    · exact ⟨go, _, _, hga, by rw [← hgo'], by rw [← hgo'], by rw [← hgo']⟩
    · refine ⟨⟨go, _, _, hga, by rw [← hgo'], by rw [← hgo'], by rw [← hgo']⟩, by simp, ⟨_, _, hpv, start _ rfl rfl ?_⟩, _, Array.getElem?_push_size .., fun s'' q1 q2 q3 => ⟨rfl, ?_⟩⟩
      · exact I2.bare.push rfl
      · exact seg_gx0 (Y := (gxY X N scope (cloFrom X.env.cells scope.names []) h3.objs.size code fp [(h'.objs.size, go)] AY { s2 with heap := h3, toks := tk } (upd H' P0 (.tbl (ps ++ more))))) rfl rfl rfl rfl rfl rfl rfl S.co T hst (hG _ _ _ _ _ _ _ _) (he _ _ _ _ _ _ _ _ hRoom) hstop hgo hturn _ s'' ⟨gxSl σ sl, _, hSl, hpv, start s'' q1 q2 q3, T.keep _ _ _ st0 fun b hb o e => by rw [q1]; exact keep5 b o (keep3 b o (fpP b hb) e), fun b hb => (hfp4 b hb).1.1⟩
    · exact fun i s Q E hi st hQ => gx_item (Y := (gxY X N scope (cloFrom X.env.cells scope.names []) h3.objs.size code fp [(h'.objs.size, go)] AY { s2 with heap := h3, toks := tk } (upd H' P0 (.tbl (ps ++ more))))) hr.hd (by have := hr.dp; show X.A.depth < recursionLimit; omega) (List.mem_singleton.mpr rfl) hi st hQ
    · exact fun s Q E st hQ => gx_done (Y := (gxY X N scope (cloFrom X.env.cells scope.names []) h3.objs.size code fp [(h'.objs.size, go)] AY { s2 with heap := h3, toks := tk } (upd H' P0 (.tbl (ps ++ more))))) hr.hd (by have := hr.dp; show X.A.depth < recursionLimit; omega) st hQ
    · exact fun i s h0 hi ⟨_, _, ⟨σ, H, pv, I⟩, _⟩ => ⟨i, σ, H, ⟨.inl h0, hi⟩, pv, I⟩
    · rintro s' ⟨i, σ5, H5, hi, pv, I5⟩
      refine ⟨i, H5, hi, pv, I4.call' (ch := fp) I5.os I5.base I5.hok I5.bare fun b hb => ?_⟩
      obtain ⟨f1, f2, f3, f4, f5, f6⟩ := hfp b hb
      exact ⟨f4, f2, f5, f6⟩
  cases hf : codeAmong gpos ps.toList with
  | none =>
    refine wpAny_genexprCodeX hcode (cd.code hPs ht) (cd.tab hPs) hf fun c' h' tk hx hge hlt hco' _ htab' _ => ?_
    obtain ⟨o1, vs, f1, tf, fl, tg, inF, tx, tt, op, _, _, _, _, _, _, _, _, _, htr, _⟩ := hco'
    exact cont _ h' tk _ hx htab'.2 ⟨_, rfl, fun cv z => by rw [hf] at z; cases z⟩ htr ⟨_, by rw [Array.toList_append]; exact codeAmong_snoc _ ht hf⟩
  | some cv =>
    refine wpAny_genexprCode_hit hcode (cd.code hPs ht) hf ?_
    exact cont cv s2.heap s2.toks ps (Heap.ExtBut.refl _ _) hPs ⟨#[], by simp, fun _ _ => rfl⟩ ht ⟨cv, hf⟩
theorem pe_allG {c P0 : Addr} {elt iter : Expr} {x : Str} {px p pos gpos : Pos} {scope : Scope} {N : List Str} {sl : List (Option Nat)} {k : Nat} {wi : TI} {g : TG} {te : TE}
    (hr : Room (k + 1) X.A) (hg : Gl X "all") (hm : X.mg "all" = none) (hb : bootBuiltins "all" = some (.builtin "all")) (TB : GxR.TabB X.base X.mg c P0) (hcode : X.env.code = .ref c) (S0 : GenS0 X.env scope x) (hN : GxN X scope N sl) (hi : PI X (.Name x px) iter wi)
    (hG : ∀ cl C code fp pn A s H, PG (gxY X N scope cl C code fp pn A s H) (.Name x px) g) (he : ∀ cl C code fp pn A s H, Room k A → PE (gxY X N scope cl C code fp pn A s H) elt te)
    (hs : ∀ v, genFold iter X.env v = pure v)
    (hst : starEach [.GeneratorExp elt [⟨.Name x px, iter, [], 0⟩] scope gpos] X.env = (false, eval (.GeneratorExp elt [⟨.Name x px, iter, [], 0⟩] scope gpos) X.env) :: starEach [] X.env := by rfl) :
    PE X (.Call (.Name "all" p) [.GeneratorExp elt [⟨.Name x px, iter, [], 0⟩] scope gpos] [] pos) (tAllG P0 gpos sl wi g te) := by
  refine ⟨fun pins s σ H Q I h => ?_⟩
  refine wpAny_Call_Name_kw (ld_blt I hg hm hb ?_)
  refine PyProof.Rows.callWith_builtin1 ?_ hst (by rfl)
  rw [hst]
  show wpAny _ _ (spliced ((false, eval (.GeneratorExp elt [⟨.Name x px, iter, [], 0⟩] scope gpos) X.env) :: backTo pos (starEach [] X.env))) _ _ s
  refine Calls.spliced_cons (gen_gx hr TB hcode S0 hN hi hG he hs I h fun n tr Pv a s5 hfin hG5 => ?_)
  obtain ⟨gi, St, Fin, hgen, st0, item, done, fin, hF⟩ := hG5
  refine Calls.spliced_nil ?_
  refine call_all_own hgen St Fin item done fin st0 fun s' hf => ?_
  obtain ⟨i, H2, hi, pv, J⟩ := hF s' hf
  exact ⟨.bl _, H2, J, rfl, hfin i H2 hi pv⟩
end
end OA

namespace OA
open PySem PySem.Spec PyProof.Rows L2
/-! a def whose code object is known; where a generator stands in a def -/
theorem okC {P : Program} {w : World} {K : PySem.W.Frag} {mg : Str → Option Value} {base : Heap} {x qual : Str} {st : Stmt} {f c : Addr} {fd : FuncData} {N ps : List Str} {k : Nat} {sp : Sp} (F : Fun K x qual st f fd) (hc : fd.code = .ref c) (S : FnScope N ps (defScope st)) (len : ∀ vs H Q E, sp vs H Q E → vs.length = ps.length)
    (hbody : ∀ (cdv : Value) (A : Around) (outer : List Env) (s : Shared) (H : Hp) (vs : List V) (Q : VK) (E : XK), cdv = .ref c → Room k (A.deeper (envOfC qual (defScope st) s.heap.objs.size f cdv)) → sp vs H Q E →
      ∃ t, PSs (cxOf CX0 P w K mg base N qual (defScope st) f cdv A outer s H E).nox (defBody st) t ∧ t { nx := fun _ H' => Q .non H', rt := Q } (start N vs) H) : FnOk P w K mg base CX0 (k + 1) f fd ps sp := by
  obtain ⟨oc, od, kV, doc, pm, an, cdv, ct, osl, rfl, lk, hcd⟩ := F.ex
  refine fn_of lk hcd S len fun A outer s H vs Q E hr hsp => ?_
  obtain ⟨t, h, q⟩ := hbody cdv A outer s H vs Q E hc hr hsp
  exact ⟨t, h.nox, q⟩
def gpE : Expr → Option Pos
  | .Call _ [.GeneratorExp _ _ _ g] _ _ => some g
  | .UnaryOp _ e _ => gpE e
  | _ => none
def gpS : List Stmt → Option Pos
  | [] => none
  | .Return (some e) _ :: r => (match gpE e with
    | some g => some g
    | none => gpS r)
  | .If e _ _ _ :: r => (match gpE e with
    | some g => some g
    | none => gpS r)
  | _ :: r => gpS r
def gpOf (st : Stmt) : Pos := (gpS (defBody st)).getD ⟨0, 0, 0, 0⟩
end OA

namespace OA
open PySem PySem.Spec PyProof.Rows L2
local macro_rules
  | `(tactic| simp! [$a,*]) => `(tactic| simp -implicitDefEqProofs only [wNeD0, wRep, tDNewK, vDc, wSortDI, dkR_e, dkR_f, e_cut, wSetL, vLstRg, wLstD, e_lock, vVals, gSub, tCKw, frzO_e, viItems, viKeys, vRev, e_while, e_for, e_asgG, gName, vgTup, vgCons_e, vgNil_e, viList, viTup, viStr, viR1, viEnum, vLc, tYes, wipe, e_seq, e_next, e_drop, e_ret, e_retN, e_sfld, e_augI, e_aug, e_dput, vIf, vTest, wInT, vVar, vFld, tC, tOp, tUn, wI0, wIC, rEq, rNe, scal, wAddS, wMulS, wCat, wNeg, wIxL, wIxT, wIxS, vPart, tNoPart, tSl, wSlL, tCB, tCons, tNil, len_s, wTupL, wLstL, wAbs, wIntB, wMin2, wMax2, vAnd, vOr, vNot, vChain, vMeth, vCall, vMake, vLM0, vLM, isLst, wAppend, wPopAt, wInsert0, vStar, vDGet, vDIn, vDNotIn, tTup, tLst, tIf, tAnd, tOr, tNot, refR_e, intR_e, blR_e, strR_e, optR_e, keyR_i, keyR_s, insO_e, lstO_e, tupO_e, dkO_e, one1_e, two2_e, len_r, lenO_l, lenO_t, lenO_d, L2.start, List.map, List.replicate, List.length_cons, List.length_nil, List.cons_append, List.nil_append, List.append_nil, List.getElem?_cons_zero, List.getElem?_cons_succ, List.set_cons_zero, List.set_cons_succ, true_and, and_true, cx_K, cx_prog, cx_w, blkK, Int.toNat_natCast, upd_same, upd_upd, if_true, if_false, decide_eq_true_eq, reduceCtorEq, reduceIte, Bool.false_eq_true, decide_true, decide_false, Bool.true_and, Bool.false_and, Bool.and_true, Bool.and_false, Bool.not_true, Bool.not_false, V.int.injEq, V.str.injEq, V.bl.injEq, putF_nil, Nat.reduceAdd, Nat.reduceSub, Nat.reduceLT, Int.reduceEq, Int.reduceLT, Int.reduceLE, Int.reduceAdd, Int.reduceSub, Int.cast_ofNat_Int, wIsi, tyR_e, tyO_l, tyO_t, tyO_d, tyN_n, tyN_b, tyN_i, tyN_s, tyN_r, kit_NoneType_bool, kit_NoneType_int, kit_NoneType_str, kit_NoneType_list, kit_NoneType_tuple, kit_NoneType_dict, kit_bool_bool, kit_bool_int, kit_bool_str, kit_bool_list, kit_bool_tuple, kit_bool_dict, kit_int_bool, kit_int_int, kit_int_str, kit_int_list, kit_int_tuple, kit_int_dict, kit_str_bool, kit_str_int, kit_str_str, kit_str_list, kit_str_tuple, kit_str_dict, kit_list_bool, kit_list_int, kit_list_str, kit_list_list, kit_list_tuple, kit_list_dict, kit_tuple_bool, kit_tuple_int, kit_tuple_str, kit_tuple_list, kit_tuple_tuple, kit_tuple_dict, kit_dict_bool, kit_dict_int, kit_dict_str, kit_dict_list, kit_dict_tuple, kit_dict_dict, $a,*])
  | `(tactic| dsimp! [$a,*]) => `(tactic| ((try refine Later.mk ?_); simp! [$a,*]; repeat (refine Later.mk ?_; simp! [$a,*])))
/-! the tables of code objects; rows -/
def Tabs (A : Ad) (H : Hp) : Prop := GxR.TabG H A.p_are_rows ∧ GxR.TabG H A.p_is_row
def Warm (A : Ad) (H : Hp) : Prop := WarmAt H A.p_are_rows (gpOf s_are_rows) ∧ WarmAt H A.p_is_row (gpOf s_is_row)
theorem WarmAt.tab {H : Hp} {P : Addr} {g : Pos} (h : WarmAt H P g) : GxR.TabG H P := let ⟨ps, h1, h2, _⟩ := h; ⟨ps, h1, h2⟩
theorem Warm.tabs {A : Ad} {H : Hp} (h : Warm A H) : Tabs A H := ⟨h.1.tab, h.2.tab⟩
theorem WarmAt.same {H H' : Hp} {P : Addr} {g : Pos} (e : Same H H') (h : WarmAt H P g) : WarmAt H' P g := let ⟨ps, h1, h2⟩ := h; ⟨ps, e _ _ h1, h2⟩
theorem TabG.same {H H' : Hp} {P : Addr} (e : Same H H') (h : GxR.TabG H P) : GxR.TabG H' P := let ⟨ps, h1, h2⟩ := h; ⟨ps, e _ _ h1, h2⟩
theorem Warm.same {A : Ad} {H H' : Hp} (e : Same H H') (h : Warm A H) : Warm A H' := ⟨h.1.same e, h.2.same e⟩
theorem Tabs.same {A : Ad} {H H' : Hp} (e : Same H H') (h : Tabs A H) : Tabs A H' := ⟨TabG.same e h.1, TabG.same e h.2⟩
def RT (A : Ad) (R : RuleM) (H : Hp) : Prop := match R with
  | .rows _ => Tabs A H
  | _ => True
def RW (A : Ad) (R : RuleM) (H : Hp) : Prop := match R with
  | .rows _ => Warm A H
  | _ => True
theorem RW.rt {A : Ad} {R : RuleM} {H : Hp} (h : RW A R H) : RT A R H := by cases R <;> first | exact True.intro | exact Warm.tabs h
theorem RW.same {A : Ad} {R : RuleM} {H H' : Hp} (e : Same H H') (h : RW A R H) : RW A R H' := by cases R <;> first | exact True.intro | exact Warm.same e h
theorem RT.same {A : Ad} {R : RuleM} {H H' : Hp} (e : Same H H') (h : RT A R H) : RT A R H' := by cases R <;> first | exact True.intro | exact Tabs.same e h
/-- H1 is H, but for what the tables have got -/
structure Tbd (A : Ad) (R : RuleM) (H H1 : Hp) : Prop where
  off : ∀ b, b ≠ A.p_are_rows → b ≠ A.p_is_row → H1 b = H b
  warm : RW A R H1
  same : RW A R H → H1 = H
theorem Tbd.get {A : Ad} {R : RuleM} {H H1 : Hp} (t : Tbd A R H H1) (ht : RT A R H) {b : Addr} {o : HO} (h : H b = some o) (no : ∀ ps, o ≠ .tbl ps) : H1 b = some o := by
  have key : (Tabs A H ∨ H1 = H) → H1 b = some o := fun z => by
    rcases z with ⟨⟨ps, z1, _⟩, ⟨qs, z2, _⟩⟩ | z
    · rw [t.off b (fun e => by rw [e, z1] at h; cases h; exact no _ rfl) (fun e => by rw [e, z2] at h; cases h; exact no _ rfl)]
      exact h
    · rw [z]; exact h
  cases R <;> first | exact key (.inl ht) | exact key (.inr (t.same True.intro))
theorem Tbd.back {A : Ad} {R : RuleM} {H H1 : Hp} (t : Tbd A R H H1) {b : Addr} (h : H1 b = none) (ht : RT A R H) : H b = none := by
  cases e : H b with
  | none => rfl
  | some o =>
    by_cases z : ∃ ps, o = .tbl ps
    · obtain ⟨ps, rfl⟩ := z
      have key : (Warm A H1 ∨ H1 = H) → False := fun z => by
        rcases z with ⟨⟨qs, z1, _⟩, ⟨rs, z2, _⟩⟩ | z
        · have : H1 b = H b := t.off b (fun q => by rw [q, z1] at h; cases h) (fun q => by rw [q, z2] at h; cases h)
          rw [this, e] at h
          cases h
        · rw [z, e] at h
          cases h
      cases R <;> first | exact (key (.inl t.warm)).elim | exact (key (.inr (t.same True.intro))).elim
    · have := t.get ht e fun ps q => z ⟨ps, q⟩
      rw [h] at this
      cases this
theorem Tbd.fresh {A : Ad} {R : RuleM} {H H1 : Hp} (t : Tbd A R H H1) (ht : RT A R H) {b : Addr} (h : H b = none) : H1 b = none := by
  have key : (Tabs A H ∨ H1 = H) → H1 b = none := fun z => by
    rcases z with ⟨⟨ps, z1, _⟩, ⟨qs, z2, _⟩⟩ | z
    · rw [t.off b (fun e => by rw [e, z1] at h; cases h) (fun e => by rw [e, z2] at h; cases h)]
      exact h
    · rw [z]; exact h
  cases R <;> first | exact key (.inl ht) | exact key (.inr (t.same True.intro))
theorem Tbd.rule {A : Ad} {R R' : RuleM} {H H1 : Hp} (t : Tbd A R H H1) (ht : RT A R H) {a : Addr} (h : RuleAt H a R') : RuleAt H1 a R' := by
  cases R' with
  | turns => exact t.get ht h fun _ z => by cases z
  | rows rs =>
    obtain ⟨b, h1, h2⟩ := h
    exact ⟨b, t.get ht h1 (fun _ z => by cases z), t.get ht h2 (fun _ z => by cases z)⟩
  | tree sk jn => exact t.get ht h fun _ z => by cases z
  | waits b => exact t.get ht h fun _ z => by cases z
theorem Tbd.refl {A : Ad} {R : RuleM} {H : Hp} (h : RW A R H) : Tbd A R H H := ⟨fun _ _ _ => rfl, h, fun _ => rfl⟩
theorem Tbd.put2 {A : Ad} {H H1 H2 : Hp} (hT : Tabs A H) (s : Same H H1) (t : ∀ b, b ≠ A.p_are_rows → b ≠ A.p_is_row → H2 b = H1 b) : Same (fun b => if b = A.p_are_rows ∨ b = A.p_is_row then H2 b else H b) H2 := fun b o e => by
  have e : (if b = A.p_are_rows ∨ b = A.p_is_row then H2 b else H b) = some o := e
  by_cases z : b = A.p_are_rows ∨ b = A.p_is_row
  · rw [if_pos z] at e
    exact e
  · rw [if_neg z] at e
    rw [t b (fun q => z (.inl q)) (fun q => z (.inr q))]
    exact s b o e
/-- new things first, the tables then: the same the other way round -/
theorem Tbd.pull {A : Ad} {rs : List Str} {H H1 H2 : Hp} (hT : Tabs A H) (s : Same H H1) (t : Tbd A (.rows rs) H1 H2) : ∃ H3, Tbd A (.rows rs) H H3 ∧ Same H3 H2 := by
  refine ⟨_, ⟨fun b h1 h2 => ?_, ?_, fun hw => ?_⟩, Tbd.put2 hT s t.off⟩
  · exact if_neg fun z => z.elim h1 h2
  · obtain ⟨⟨ps, w1, w2⟩, ⟨qs, w3, w4⟩⟩ := t.warm
    exact ⟨⟨ps, (if_pos (.inl rfl)).trans w1, w2⟩, ⟨qs, (if_pos (.inr rfl)).trans w3, w4⟩⟩
  · have hw : Warm A H := hw
    have e := t.same (hw.same s)
    subst e
    funext b
    show (if b = A.p_are_rows ∨ b = A.p_is_row then H2 b else H b) = H b
    by_cases z : b = A.p_are_rows ∨ b = A.p_is_row
    · rw [if_pos z]
      rcases z with rfl | rfl
      · obtain ⟨⟨ps, w1, _⟩, _⟩ := hw
        rw [w1, s _ _ w1]
      · obtain ⟨_, ⟨ps, w1, _⟩⟩ := hw
        rw [w1, s _ _ w1]
    · rw [if_neg z]
theorem Tbd.pullR {A : Ad} {R : RuleM} {H H1 H2 : Hp} (hT : RT A R H) (s : Same H H1) (t : Tbd A R H1 H2) : ∃ H3, Tbd A R H H3 ∧ Same H3 H2 := by
  have key : H2 = H1 → RW A R H → ∃ H3, Tbd A R H H3 ∧ Same H3 H2 := fun e h => ⟨H, .refl h, by rw [e]; exact s⟩
  cases R <;> first | exact Tbd.pull hT s t | exact key (t.same True.intro) True.intro
section
variable {P : Program} {w : World} {K : PySem.W.Frag} {mg : Str → Option Value} {base : Heap} {A : Ad}
def spIsRow (A : Ad) : Sp := fun vs H Q _ => ∃ r : Str, vs = [.str r] ∧ 1 ≤ r.length ∧ r.length ≤ 12 ∧ (∀ c ∈ r.cps.toList, c = 48 ∨ c = 49) ∧ GxR.TabG H A.p_is_row ∧ ∀ H1 H', TabbedW A.p_is_row (gpOf s_is_row) H H1 → Same H1 H' → Q (.bl true) H'
theorem sc_is_row : FnScope ["row", "sign"] ["row"] (defScope s_is_row) := ⟨rfl, rfl, rfl, by decide +kernel, rfl, by decide +kernel, by decide +kernel⟩
theorem ok_is_row (T : Txt K mg base A) : FnOk P w K mg base CX0 3 A.is_row A.d_is_row ["row"] (spIsRow A) := by
  refine okC T.F_is_row T.h_is_row sc_is_row (fun vs H Q E h => ?_) (fun cdv A' outer s H vs Q E hcd hr h => ?_)
  · obtain ⟨r, rfl, _⟩ := h
    rfl
  obtain ⟨r, rfl, h1, h12, hc, hT, kk⟩ := h
  have hu := hu_of hr
  refine ⟨_, (qs_cons (q_if (PW.pt (pw_or (pt_not (q_val (pe_callB c_isi (by rfl) T.m_isinstance (by decide +kernel) (pa_cons (qv 0) (pa_cons (pe_bltn (v := .ty "str") (by rfl) T.m_str (by decide +kernel) rfl) pa_nil))))) (pw_or1 (pt_not (q_tchain o_le o_le pe_int (pe_callB c_len (by rfl) T.m_len (by decide +kernel) (pa_cons (qv 0) pa_nil)) (q_gi rfl T.c_MOST_SIGNS)))))) (pss_one (ps_ret pe_bl)) pss_nil)
    (pss_one (ps_ret (pe_allG (k := _) hr rfl T.m_all rfl T.q_is_row hcd (gs_by (sc := defScope s_is_row) (by decide +kernel)) (gn_by (XN := ["row", "sign"]) (sc := defScope s_is_row) (N := ["sign"]) (sl := [none]) (by decide +kernel)) (qi_str (qv 0)) (fun _ _ _ _ _ _ _ _ => (pg_name (i := 0) (show List.Nodup (α := Str) ["sign"] by decide +kernel) rfl (Or.inl rfl))) (fun _ _ _ _ _ _ _ _ hr => have hu := hu_of hr; (pe_cmpR o_inT (qv 0) (pe_tup (pa_cons pe_str (pa_cons pe_str pa_nil))) (by rfl))) (fun _ => rfl))))), ?_⟩
  dsimp! []
  refine ⟨by rw [sizeLine_eq]; omega, ?_⟩
  rw [if_pos (by omega)]
  dsimp! []
  rw [if_neg (by omega)]
  dsimp! []
  unfold tAllG
  dsimp! [gxSl]
  refine ⟨hT, r.cps.size, fun σ => ∃ u, σ = [u], fun i H' => ∃ H1, TabbedW A.p_is_row (gpOf s_is_row) H H1 ∧ Same H1 H', fun _ => true, ⟨none, rfl⟩, fun H2 t => ⟨H2, t, Same.refl _⟩, fun H _ => Nat.le_refl _, fun i H hi _ => hi, ?_, ?_⟩
  · rintro i σ H2 u H3 hi ⟨u0, rfl⟩ ⟨H1, t1, s1⟩ ⟨rfl, c, hc1, rfl⟩
    dsimp! []
    refine ⟨⟨_, rfl⟩, by decide, fun p hp => ⟨⟨rfl, rfl⟩, ?_, H1, t1, s1.trans (Same.new hp)⟩⟩
    rcases hc c (List.mem_of_getElem? (by rw [Array.getElem?_toList]; exact hc1)) with rfl | rfl
    · decide +kernel
    · decide +kernel
  · rintro i H2 hi ⟨H1, t1, s1⟩
    rw [show ((List.range r.cps.size).all fun _ => true) = true by simp]
    exact kk H1 H2 t1 s1
theorem Tbd.ofW {A : Ad} {rs : List Str} {H H1 H2 : Hp} (T1 : TabbedW A.p_are_rows (gpOf s_are_rows) H H1) (ne : A.p_are_rows ≠ A.p_is_row) (T2 : TabbedW A.p_is_row (gpOf s_is_row) H1 H2) : Tbd A (.rows rs) H H2 := by
  refine ⟨fun b h1 h2 => (T2.2.1 b h2).trans (T1.2.1 b h1), ⟨?_, T2.1⟩, fun hw => ?_⟩
  · obtain ⟨ps, e, r⟩ := T1.1
    exact ⟨ps, by rw [T2.2.1 _ ne]; exact e, r⟩
  · have hw : Warm A H := hw
    have e1 := T1.2.2 hw.1
    subst e1
    exact T2.2.2 hw.2
/-- behind the first rows: the tables at H1, then nothing but new ones -/
def spRows (A : Ad) : Sp := fun vs H Q _ => ∃ (b : Addr) (many : Nat) (rs : List Str), vs = [.ref b, .int many] ∧ H b = some (.tup (rs.map V.str)) ∧ (RuleM.rows rs).Ok many ∧ 1 ≤ many ∧ many ≤ 8 ∧ Tabs A H ∧ ∀ H1 H', Tbd A (.rows rs) H H1 → Same H1 H' → Q (.bl true) H'
theorem sc_are_rows : FnScope ["rows", "many", "row"] ["rows", "many"] (defScope s_are_rows) := ⟨rfl, rfl, rfl, by decide +kernel, rfl, by decide +kernel, by decide +kernel⟩
theorem ok_are_rows (T : Txt K mg base A) : FnOk P w K mg base CX0 5 A.are_rows A.d_are_rows ["rows", "many"] (spRows A) := by
  refine okC T.F_are_rows T.h_are_rows sc_are_rows (fun vs H Q E h => ?_) (fun cdv A' outer s H vs Q E hcd hr h => ?_)
  · obtain ⟨b, many, rs, rfl, _⟩ := h
    rfl
  obtain ⟨b, many, rs, rfl, hb, ⟨hl, n, n1, n12, hrs⟩, m1, m8, hT, kk⟩ := h
  have hu := hu_of hr
  refine ⟨_, (qs_cons (q_if (PW.pt (pw_or (pt_not (q_val (pe_callB c_isi (by rfl) T.m_isinstance (by decide +kernel) (pa_cons (qv 0) (pa_cons (pe_bltn (v := .ty "tuple") (by rfl) T.m_tuple (by decide +kernel) rfl) pa_nil))))) (pw_or1 (q_cmp op_ne (pe_callB c_len (by rfl) T.m_len (by decide +kernel) (pa_cons (qv 0) pa_nil)) (qv 1) (nomark _))))) (pss_one (ps_ret pe_bl)) pss_nil)
    (pss_one (ps_ret (pe_allG (k := _) hr rfl T.m_all rfl T.q_are_rows hcd (gs_by (sc := defScope s_are_rows) (by decide +kernel)) (gn_by (XN := ["rows", "many", "row"]) (sc := defScope s_are_rows) (N := ["row", "rows"]) (sl := [none, some 0]) (by decide +kernel)) (qi_tup (qv 0)) (fun _ _ _ _ _ _ _ _ => (pg_name (i := 0) (show List.Nodup (α := Str) ["row", "rows"] by decide +kernel) rfl (Or.inl rfl))) (fun _ _ _ _ _ _ _ _ hr => have hu := hu_of hr; (q_and (q_call (ok_is_row T) (hr.mono (by decide)) rfl T.g_is_row T.k_is_row T.b_is_row pass0 (pa_cons (qv 0) pa_nil)) (pe_one (pe_cmpR op_eq (pe_callB c_len (by rfl) T.m_len (by decide +kernel) (pa_cons (qv 0) pa_nil)) (pe_callB c_len (by rfl) T.m_len (by decide +kernel) (pa_cons (pe_ix ix_T (qv 1) pe_int (fun _ _ => rfl)) pa_nil)) (nomark _))))) (fun _ => rfl))))), ?_⟩
  dsimp! [hb]
  rw [if_neg (by simp [hl])]
  dsimp! []
  unfold tAllG
  dsimp! [gxSl, hb]
  have nb1 : b ≠ A.p_are_rows := fun e => by
    obtain ⟨ps, z, _⟩ := hT.1
    rw [← e, hb] at z
    cases z
  have hbI : ∀ {i : Nat} {H' : Hp}, ((i = 0 ∧ TabbedW A.p_are_rows (gpOf s_are_rows) H H') ∨ (0 < i ∧ ∃ H1, Tbd A (.rows rs) H H1 ∧ Same H1 H')) → H' b = some (.tup (rs.map V.str)) := fun h => by
    rcases h with ⟨_, h⟩ | ⟨_, H1, h, s⟩
    · rw [h.2.1 b nb1]; exact hb
    · exact s _ _ (h.get hT hb fun _ z => by cases z)
  refine ⟨hT.1, rs.length, fun σ => ∃ u, σ = [u, some (.ref b)], fun i H' => (i = 0 ∧ TabbedW A.p_are_rows (gpOf s_are_rows) H H') ∨ (0 < i ∧ ∃ H1, Tbd A (.rows rs) H H1 ∧ Same H1 H'), fun _ => true, ⟨none, rfl⟩, fun H2 t => .inl ⟨rfl, t⟩,
    fun H h => ⟨_, SqT.of (hbI h), by simp⟩, fun i H hi h => ⟨_, .str (rs[i]'hi), SqT.of (hbI h), by simp [hi]⟩, ?_, ?_⟩
  · rintro i σ H0 u H2 hi ⟨u0, rfl⟩ pv ⟨rfl, hy⟩
    have hb2 := hbI pv
    have hu1 := hy _ (SqT.of hb2)
    rw [List.getElem?_map, List.getElem?_eq_getElem hi] at hu1
    obtain rfl : V.str rs[i] = u := Option.some.inj hu1
    obtain ⟨q1, q2⟩ := hrs _ (List.getElem_mem hi)
    have hti : GxR.TabG H2 A.p_is_row := by
      rcases pv with ⟨_, h⟩ | ⟨_, H1, h, s⟩
      · obtain ⟨ps, z, r⟩ := hT.2
        exact ⟨ps, by rw [h.2.1 _ (Ne.symm T.np_are_rows_is_row)]; exact z, r⟩
      · exact TabG.same s (h.warm).2.tab
    dsimp! [hb2]
    refine ⟨⟨_, rfl⟩, rs[i], rfl, by omega, by omega, q2, hti, fun H3 H4 t3 s4 => ?_⟩
    have pv4 : (0 < i + 1 ∧ ∃ H1, Tbd A (.rows rs) H H1 ∧ Same H1 H4) := by
      refine ⟨Nat.succ_pos _, ?_⟩
      rcases pv with ⟨_, h⟩ | ⟨_, H1, h, s⟩
      · exact ⟨H3, Tbd.ofW h T.np_are_rows_is_row t3, s4⟩
      · have e := t3.2.2 (h.warm.2.same s)
        subst e
        exact ⟨H1, h, s.trans s4⟩
    have hb4 := hbI (.inr pv4)
    dsimp! [hb4]
    have e0 : atI (rs.map V.str) 0 = some (.str (rs[0]'(by omega))) := atI_nat (j := 0) (by rw [List.getElem?_map, List.getElem?_eq_getElem (show 0 < rs.length by omega)]; rfl)
    have l0 := (hrs _ (List.getElem_mem (show 0 < rs.length by omega))).1
    rw [e0]
    dsimp! []
    refine ⟨by rw [sizeLine_eq]; omega, by rw [sizeLine_eq]; omega, by rw [q1, l0], .inr pv4⟩
  · rintro i H2 ⟨hi, _⟩ h
    rw [show ((List.range rs.length).all fun _ => true) = true by simp]
    rcases h with ⟨z, _⟩ | ⟨_, H1, h, s⟩
    · omega
    · exact kk H1 H2 h s
end
end OA

namespace OA
open PySem L2
local macro_rules
  | `(tactic| simp! [$a,*]) => `(tactic| simp -implicitDefEqProofs only [wNeD0, wRep, tDNewK, vDc, wSortDI, dkR_e, dkR_f, e_cut, wSetL, vLstRg, wLstD, e_lock, vVals, gSub, tCKw, frzO_e, viItems, viKeys, vRev, e_while, e_for, e_asgG, gName, vgTup, vgCons_e, vgNil_e, viList, viTup, viStr, viR1, viEnum, vLc, tYes, wipe, e_seq, e_next, e_drop, e_ret, e_retN, e_sfld, e_augI, e_aug, e_dput, vIf, vTest, wInT, vVar, vFld, tC, tOp, tUn, wI0, wIC, rEq, rNe, scal, wAddS, wMulS, wCat, wNeg, wIxL, wIxT, wIxS, vPart, tNoPart, tSl, wSlL, tCB, tCons, tNil, len_s, wTupL, wLstL, wAbs, wIntB, wMin2, wMax2, vAnd, vOr, vNot, vChain, vMeth, vCall, vMake, vLM0, vLM, isLst, wAppend, wPopAt, wInsert0, vStar, vDGet, vDIn, vDNotIn, tTup, tLst, tIf, tAnd, tOr, tNot, refR_e, intR_e, blR_e, strR_e, optR_e, keyR_i, keyR_s, insO_e, lstO_e, tupO_e, dkO_e, one1_e, two2_e, len_r, lenO_l, lenO_t, lenO_d, L2.start, List.map, List.replicate, List.length_cons, List.length_nil, List.cons_append, List.nil_append, List.append_nil, List.getElem?_cons_zero, List.getElem?_cons_succ, List.set_cons_zero, List.set_cons_succ, true_and, and_true, cx_K, cx_prog, cx_w, blkK, Int.toNat_natCast, upd_same, upd_upd, if_true, if_false, decide_eq_true_eq, reduceCtorEq, reduceIte, Bool.false_eq_true, decide_true, decide_false, Bool.true_and, Bool.false_and, Bool.and_true, Bool.and_false, Bool.not_true, Bool.not_false, V.int.injEq, V.str.injEq, V.bl.injEq, putF_nil, Nat.reduceAdd, Nat.reduceSub, Nat.reduceLT, Int.reduceEq, Int.reduceLT, Int.reduceLE, Int.reduceAdd, Int.reduceSub, Int.cast_ofNat_Int, wIsi, tyR_e, tyO_l, tyO_t, tyO_d, tyN_n, tyN_b, tyN_i, tyN_s, tyN_r, kit_NoneType_bool, kit_NoneType_int, kit_NoneType_str, kit_NoneType_list, kit_NoneType_tuple, kit_NoneType_dict, kit_bool_bool, kit_bool_int, kit_bool_str, kit_bool_list, kit_bool_tuple, kit_bool_dict, kit_int_bool, kit_int_int, kit_int_str, kit_int_list, kit_int_tuple, kit_int_dict, kit_str_bool, kit_str_int, kit_str_str, kit_str_list, kit_str_tuple, kit_str_dict, kit_list_bool, kit_list_int, kit_list_str, kit_list_list, kit_list_tuple, kit_list_dict, kit_tuple_bool, kit_tuple_int, kit_tuple_str, kit_tuple_list, kit_tuple_tuple, kit_tuple_dict, kit_dict_bool, kit_dict_int, kit_dict_str, kit_dict_list, kit_dict_tuple, kit_dict_dict, $a,*])
  | `(tactic| dsimp! [$a,*]) => `(tactic| ((try refine Later.mk ?_); simp! [$a,*]; repeat (refine Later.mk ?_; simp! [$a,*])))
section
variable {P : Program} {w : World} {K : PySem.W.Frag} {mg : Str → Option Value} {base : Heap} {A : Ad}
def spShape (A : Ad) : Sp := fun vs H Q _ => ∃ (a : Addr) (R : RuleM), vs = [.ref a, .ref A.v_SHAPES] ∧ RuleAt H a R ∧ ∀ H', Same H H' → Q (.bl true) H'
theorem sc_has_shape : FnScope ["parts", "shapes"] ["parts", "shapes"] (defScope s_has_shape) := ⟨rfl, rfl, rfl, by decide +kernel, rfl, by decide +kernel, by decide +kernel⟩
theorem ok_has_shape (T : Txt K mg base A) : FnOk P w K mg base CX0 1 A.has_shape A.d_has_shape ["parts", "shapes"] (spShape A) := by
  refine T.F_has_shape.ok sc_has_shape (fun vs H Q E h => ?_) (fun cdv A' outer s H vs Q E hr h => ?_)
  · obtain ⟨a, R, rfl, _⟩ := h
    rfl
  obtain ⟨a, R, rfl, hR, kk⟩ := h
  have hu := hu_of hr
  refine ⟨_, (qs_cons (q_if (PW.pt (pw_or (pt_not (q_val (pe_callB c_isi (by rfl) T.m_isinstance (by decide +kernel) (pa_cons (qv 0) (pa_cons (pe_bltn (v := .ty "tuple") (by rfl) T.m_tuple (by decide +kernel) rfl) pa_nil))))) (pw_or1 (q_cmp op_eq (pe_callB c_len (by rfl) T.m_len (by decide +kernel) (pa_cons (qv 0) pa_nil)) pe_int (nomark _))))) (pss_one (ps_ret pe_bl)) pss_nil)
    (pss_one (ps_ret (pe_cmpR (op_inDT hr.units1) (pe_tup (pa_cons (pe_ix ix_T (qv 0) pe_int (fun _ _ => rfl)) (pa_cons (pe_callB c_len (by rfl) T.m_len (by decide +kernel) (pa_cons (qv 0) pa_nil)) pa_nil))) (qv 1) (by rfl))))), ?_⟩
  have fin : ∀ (p : Addr) (s : Str) (n : Int), H p = none → PyData.strOk s = true → ([PyData.tuple [.str "turns", .int 1], .tuple [.str "rows", .int 2], .tuple [.str "tree", .int 3], .tuple [.str "waits", .int 2]].any fun z => PyData.eqv z (.tuple [.str s, .int n])) = true →
      rInDT K (.ref p) (.ref A.v_SHAPES) (upd H p (.tup [.str s, .int n])) Q := fun p s n hp hs e => by
    refine ⟨.tuple [.str s, .int n], _, .tup (SqT.of upd_same) (.cons (.str _) (.cons (.int _) .nil)), T.x_SHAPES _, by simp [SeqAt.shaped, PyData.canLay0, PyData.canLayAll0, PyData.depth, PyData.depthAll, hs], by decide +kernel, ?_⟩
    rw [e]
    exact kk _ (Same.new hp)
  cases R with
  | turns =>
    have hR : H a = some (.tup [.str "turns"]) := hR
    dsimp! [hR, atI_zero]
    exact ⟨by decide, fun p hp => fin p _ _ hp (by decide +kernel) (by decide +kernel)⟩
  | rows rs =>
    obtain ⟨b, hR, hb⟩ := hR
    dsimp! [hR, atI_zero]
    exact ⟨by decide, fun p hp => fin p _ _ hp (by decide +kernel) (by decide +kernel)⟩
  | tree sk jn =>
    have hR : H a = some (.tup [.str "tree", .str (howS sk), .str (lateS jn)]) := hR
    dsimp! [hR, atI_zero]
    exact ⟨by decide, fun p hp => fin p _ _ hp (by decide +kernel) (by decide +kernel)⟩
  | waits b =>
    have hR : H a = some (.tup [.str "waits", .int b]) := hR
    dsimp! [hR, atI_zero]
    exact ⟨by decide, fun p hp => fin p _ _ hp (by decide +kernel) (by decide +kernel)⟩
theorem w_tr : (Str.ofString "tree" = Str.ofString "rows") = False := by simp only [eq_iff_iff, iff_false]; decide +kernel
theorem w_tu : (Str.ofString "turns" = Str.ofString "rows") = False := by simp only [eq_iff_iff, iff_false]; decide +kernel
theorem w_tt : (Str.ofString "turns" = Str.ofString "tree") = False := by simp only [eq_iff_iff, iff_false]; decide +kernel
theorem w_tw : (Str.ofString "turns" = Str.ofString "waits") = False := by simp only [eq_iff_iff, iff_false]; decide +kernel
theorem w_wr : (Str.ofString "waits" = Str.ofString "rows") = False := by simp only [eq_iff_iff, iff_false]; decide +kernel
theorem w_wt : (Str.ofString "waits" = Str.ofString "tree") = False := by simp only [eq_iff_iff, iff_false]; decide +kernel
theorem w_wu : (Str.ofString "waits" = Str.ofString "turns") = False := by simp only [eq_iff_iff, iff_false]; decide +kernel
theorem w_rt : (Str.ofString "rows" = Str.ofString "tree") = False := by simp only [eq_iff_iff, iff_false]; decide +kernel
theorem w_rw : (Str.ofString "rows" = Str.ofString "waits") = False := by simp only [eq_iff_iff, iff_false]; decide +kernel
theorem w_ru : (Str.ofString "rows" = Str.ofString "turns") = False := by simp only [eq_iff_iff, iff_false]; decide +kernel
theorem w_ttu : (Str.ofString "tree" = Str.ofString "turns") = False := by simp only [eq_iff_iff, iff_false]; decide +kernel
theorem w_ttw : (Str.ofString "tree" = Str.ofString "waits") = False := by simp only [eq_iff_iff, iff_false]; decide +kernel
theorem in_how (sk : Bool) : inV (.str (howS sk)) [.str "plain", .str "skips"] = true := by cases sk <;> decide +kernel
theorem in_late (jn : Bool) : inV (.str (lateS jn)) [.str "waits", .str "joins"] = true := by cases jn <;> decide +kernel
def spFault (A : Ad) : Sp := fun vs H Q _ => ∃ (a : Addr) (many : Nat) (R : RuleM), vs = [.ref a, .int many] ∧ RuleAt H a R ∧ R.OkN many ∧ (1 ≤ many ∧ many ≤ 8) ∧ RT A R H ∧ ∀ H1 H', Tbd A R H H1 → Same H1 H' → Q .non H'
theorem sc_fault_of : FnScope ["rule", "many"] ["rule", "many"] (defScope s_fault_of) := ⟨rfl, rfl, rfl, by decide +kernel, rfl, by decide +kernel, by decide +kernel⟩
theorem ok_fault_of (T : Txt K mg base A) : FnOk P w K mg base CX0 6 A.fault_of A.d_fault_of ["rule", "many"] (spFault A) := by
  refine T.F_fault_of.ok sc_fault_of (fun vs H Q E h => ?_) (fun cdv A' outer s H vs Q E hr h => ?_)
  · obtain ⟨a, many, R, rfl, _⟩ := h
    rfl
  obtain ⟨a, many, R, rfl, hR, hok, ⟨h1, h8⟩, hT, kk⟩ := h
  have hu := hu_of hr
  refine ⟨_, (qs_cons (q_if (pt_not (q_val (q_call (ok_has_shape T) (hr.mono (by decide)) rfl T.g_has_shape T.k_has_shape T.b_has_shape pass0 (pa_cons (qv 0) (pa_cons (q_gr rfl T.c_SHAPES) pa_nil))))) (pss_one (ps_ret pe_str)) pss_nil)
    (qs_cons (q_if (PW.pt (pw_and (q_cmp op_eq (pe_ix ix_T (qv 0) pe_int (fun _ _ => rfl)) pe_str (nomark _)) (pw_and1 (pt_not (q_val (q_call (ok_are_rows T) (hr.mono (by decide)) rfl T.g_are_rows T.k_are_rows T.b_are_rows pass0 (pa_cons (pe_ix ix_T (qv 0) pe_int (fun _ _ => rfl)) (pa_cons (qv 1) pa_nil)))))))) (pss_one (ps_ret pe_str)) pss_nil)
    (qs_cons (q_if (PW.pt (pw_and (q_cmp op_eq (pe_ix ix_T (qv 0) pe_int (fun _ _ => rfl)) pe_str (nomark _)) (pw_and1 (q_cmp o_notInT (pe_ix ix_T (qv 0) pe_int (fun _ _ => rfl)) (pe_tup (pa_cons pe_str (pa_cons pe_str pa_nil))) (by rfl))))) (pss_one (ps_ret pe_str)) pss_nil)
    (qs_cons (q_if (PW.pt (pw_and (q_cmp op_eq (pe_ix ix_T (qv 0) pe_int (fun _ _ => rfl)) pe_str (nomark _)) (pw_and1 (q_cmp o_notInT (pe_ix ix_T (qv 0) pe_int (fun _ _ => rfl)) (pe_tup (pa_cons pe_str (pa_cons pe_str pa_nil))) (by rfl))))) (pss_one (ps_ret pe_str)) pss_nil)
    (qs_cons (q_if (PW.pt (pw_and (q_cmp op_eq (pe_ix ix_T (qv 0) pe_int (fun _ _ => rfl)) pe_str (nomark _)) (pw_and1 (pt_not (q_val (q_call (ok_is_whole T) (hr.mono (by decide)) rfl T.g_is_whole T.k_is_whole T.b_is_whole pass0 (pa_cons (pe_ix ix_T (qv 0) pe_int (fun _ _ => rfl)) (pa_cons (q_gi rfl T.c_LEAST_BASE) (pa_cons (q_gi rfl T.c_MOST_BASE) pa_nil))))))))) (pss_one (ps_ret pe_str)) pss_nil)
    (pss_one (ps_ret pe_non))))))), ?_⟩
  dsimp! []
  refine ⟨a, R, rfl, hR, fun H1 s1 => ?_⟩
  have hR1 := hR.same s1
  dsimp! []
  cases R with
  | turns =>
    have hR : H1 a = some (.tup [.str "turns"]) := hR1
    dsimp! [hR, atI_zero, w_tu, w_tt, w_tw]
    exact kk _ _ (Tbd.refl True.intro) s1
  | rows rs =>
    obtain ⟨b, hR, hb⟩ := hR1
    have hT1 : Tabs A H1 := Tabs.same s1 hT
    dsimp! [hR, atI_zero, atI_one]
    refine ⟨b, many, rs, rfl, hb, hok, h1, h8, hT1, fun H2 H3 t2 s3 => ?_⟩
    have hR3 := s3 _ _ (t2.get hT1 hR fun _ z => by cases z)
    dsimp! [hR3, atI_zero, w_rt, w_rw]
    obtain ⟨H4, t4, s4⟩ := Tbd.pull hT s1 t2
    exact kk _ _ t4 (s4.trans s3)
  | tree sk jn =>
    have hR : H1 a = some (.tup [.str "tree", .str (howS sk), .str (lateS jn)]) := hR1
    dsimp! [hR, atI_zero, atI_one, w_tr, w_ttw]
    refine ⟨by decide, fun p hp => ⟨⟨rfl, rfl⟩, ?_⟩⟩
    rw [in_how]
    have hR2 : ∀ o, (upd H1 p o) a = some (.tup [.str "tree", .str (howS sk), .str (lateS jn)]) := fun o => by rw [upd_ne (ne_of_none hR hp)]; exact hR
    dsimp! [hR2, atI_zero, atI_two, w_tr, w_ttw]
    refine ⟨by decide, fun p2 hp2 => ⟨⟨rfl, rfl⟩, ?_⟩⟩
    rw [in_late]
    have hR3 : ∀ o o2, (upd (upd H1 p o) p2 o2) a = some (.tup [.str "tree", .str (howS sk), .str (lateS jn)]) := fun o o2 => by
      rw [upd_ne (ne_of_none (hR2 (.tup [.str "plain", .str "skips"])) hp2)]
      exact hR2 o
    dsimp! [hR3, atI_zero, w_tr, w_ttw]
    exact kk _ _ (Tbd.refl True.intro) ((s1.trans (Same.new hp)).trans (Same.new hp2))
  | waits b =>
    have hR : H1 a = some (.tup [.str "waits", .int b]) := hR1
    obtain ⟨hb2, hb4⟩ := hok
    dsimp! [hR, atI_zero, atI_one, w_wr, w_wt]
    refine ⟨b, 2, 4, rfl, ?_⟩
    rw [decide_eq_true (by omega), decide_eq_true (by omega)]
    dsimp! []
    exact kk _ _ (Tbd.refl True.intro) s1
theorem sc_check_rule : FnScope ["rule", "many", "why"] ["rule", "many"] (defScope s_check_rule) := ⟨rfl, rfl, rfl, by decide +kernel, rfl, by decide +kernel, by decide +kernel⟩
theorem ok_check_rule (T : Txt K mg base A) : FnOk P w K mg base CX0 7 A.check_rule A.d_check_rule ["rule", "many"] (spFault A) := by
  refine T.F_check_rule.ok sc_check_rule (fun vs H Q E h => ?_) (fun cdv A' outer s H vs Q E hr h => ?_)
  · obtain ⟨a, many, R, rfl, _⟩ := h
    rfl
  obtain ⟨a, many, R, rfl, hR, hok, ⟨h1, h8⟩, hT, kk⟩ := h
  have hu := hu_of hr
  refine ⟨_, (qs_cons (ps_set (i := 2) sc_check_rule.nd rfl (Or.inl rfl) (q_call (ok_fault_of T) (hr.mono (by decide)) rfl T.g_fault_of T.k_fault_of T.b_fault_of pass0 (pa_cons (qv 0) (pa_cons (qv 1) pa_nil))))
    (pss_one (q_if (q_cmp op_notN (qv 2) pe_non (nomark _)) (pss_one ps_never) pss_nil))), ?_⟩
  dsimp! []
  refine ⟨a, many, R, rfl, hR, hok, ⟨h1, h8⟩, hT, fun H1 H2 t1 s1 => ?_⟩
  dsimp! [op_notN]
  exact kk _ _ t1 s1
end
end OA

namespace OA
open PySem L2
local macro_rules
  | `(tactic| simp! [$a,*]) => `(tactic| simp -implicitDefEqProofs only [wNeD0, wRep, tDNewK, vDc, wSortDI, dkR_e, dkR_f, e_cut, wSetL, vLstRg, wLstD, e_lock, vVals, gSub, tCKw, frzO_e, viItems, viKeys, vRev, e_while, e_for, e_asgG, gName, vgTup, vgCons_e, vgNil_e, viList, viTup, viStr, viR1, viEnum, vLc, tYes, wipe, e_seq, e_next, e_drop, e_ret, e_retN, e_sfld, e_augI, e_aug, e_dput, vIf, vTest, wInT, vVar, vFld, tC, tOp, tUn, wI0, wIC, rEq, rNe, scal, wAddS, wMulS, wCat, wNeg, wIxL, wIxT, wIxS, vPart, tNoPart, tSl, wSlL, tCB, tCons, tNil, len_s, wTupL, wLstL, wAbs, wIntB, wMin2, wMax2, vAnd, vOr, vNot, vChain, vMeth, vCall, vMake, vLM0, vLM, isLst, wAppend, wPopAt, wInsert0, vStar, vDGet, vDIn, vDNotIn, tTup, tLst, tIf, tAnd, tOr, tNot, refR_e, intR_e, blR_e, strR_e, optR_e, keyR_i, keyR_s, insO_e, lstO_e, tupO_e, dkO_e, one1_e, two2_e, len_r, lenO_l, lenO_t, lenO_d, L2.start, List.map, List.replicate, List.length_cons, List.length_nil, List.cons_append, List.nil_append, List.append_nil, List.getElem?_cons_zero, List.getElem?_cons_succ, List.set_cons_zero, List.set_cons_succ, true_and, and_true, cx_K, cx_prog, cx_w, blkK, Int.toNat_natCast, upd_same, upd_upd, if_true, if_false, decide_eq_true_eq, reduceCtorEq, reduceIte, Bool.false_eq_true, decide_true, decide_false, Bool.true_and, Bool.false_and, Bool.and_true, Bool.and_false, Bool.not_true, Bool.not_false, V.int.injEq, V.str.injEq, V.bl.injEq, putF_nil, Nat.reduceAdd, Nat.reduceSub, Nat.reduceLT, Int.reduceEq, Int.reduceLT, Int.reduceLE, Int.reduceAdd, Int.reduceSub, Int.cast_ofNat_Int, wIsi, tyR_e, tyO_l, tyO_t, tyO_d, tyN_n, tyN_b, tyN_i, tyN_s, tyN_r, kit_NoneType_bool, kit_NoneType_int, kit_NoneType_str, kit_NoneType_list, kit_NoneType_tuple, kit_NoneType_dict, kit_bool_bool, kit_bool_int, kit_bool_str, kit_bool_list, kit_bool_tuple, kit_bool_dict, kit_int_bool, kit_int_int, kit_int_str, kit_int_list, kit_int_tuple, kit_int_dict, kit_str_bool, kit_str_int, kit_str_str, kit_str_list, kit_str_tuple, kit_str_dict, kit_list_bool, kit_list_int, kit_list_str, kit_list_list, kit_list_tuple, kit_list_dict, kit_tuple_bool, kit_tuple_int, kit_tuple_str, kit_tuple_list, kit_tuple_tuple, kit_tuple_dict, kit_dict_bool, kit_dict_int, kit_dict_str, kit_dict_list, kit_dict_tuple, kit_dict_dict, $a,*])
  | `(tactic| dsimp! [$a,*]) => `(tactic| ((try refine Later.mk ?_); simp! [$a,*]; repeat (refine Later.mk ?_; simp! [$a,*])))
def turnRow (many n : Nat) : Str := Txt.mul "0" (n : Int) ++ "1" ++ Txt.mul "0" (((many : Int) - n) - 1)
theorem turnRow_all : ∀ many, many < 9 → ∀ n, n < many → (turnRow many n).length = many ∧ (∀ k, k < many → ((turnRow many n).cps.toList.getD k 0 == 49) = decide (k = n)) := by decide +kernel
theorem str_len_app (x y : Str) : (x ++ y).length = x.length + y.length := by
  show (x.cps ++ y.cps).size = x.cps.size + y.cps.size
  exact Array.size_append
theorem mulOk_all : ∀ n : Nat, n < 9 → MulOk (Str.ofString "0") (n : Int) ∧ (Txt.mul (Str.ofString "0") (n : Int)).length = n := by
  intro n hn
  have : n = 0 ∨ n = 1 ∨ n = 2 ∨ n = 3 ∨ n = 4 ∨ n = 5 ∨ n = 6 ∨ n = 7 ∨ n = 8 := by omega
  unfold MulOk
  rcases this with rfl | rfl | rfl | rfl | rfl | rfl | rfl | rfl | rfl <;> decide +kernel
def wayM (R : RuleM) (many n : Nat) : WayM := match R with
  | .turns => .row (turnRow many n) 0
  | .rows rs => .row (rs.getD n "") 0
  | .tree sk jn => .tree sk jn (digs 2 many n) none [] false
  | .waits b => .wait (digs b many n).reverse 0 0
theorem wayM_ok {R : RuleM} {many n : Nat} (h : R.Ok many) (hn : n < many) (h8 : many ≤ 8) : (wayM R many n).Ok := by
  cases R with
  | turns =>
    have := (turnRow_all many (by omega) n hn).1
    exact ⟨by rw [this]; omega, by rw [this]; omega⟩
  | rows rs =>
    obtain ⟨hl, k, h1, h12, hr⟩ := h
    have hm : rs.getD n "" ∈ rs := by
      have : n < rs.length := by omega
      simp [this]
    have := (hr _ hm).1
    exact ⟨by omega, by omega⟩
  | tree sk jn => exact ⟨digs_pos _ _ _, fun p hp => by simp at hp, fun h => by cases h⟩
  | waits b =>
    have := digs_pos b many n
    show 0 < (digs b many n).reverse.length
    rw [List.length_reverse]
    exact this
section
variable {P : Program} {w : World} {K : PySem.W.Frag} {mg : Str → Option Value} {base : Heap} {A : Ad}
/-- a way stands at q -/
def WayAt (A : Ad) (H : Hp) (q : Addr) : WayM → Prop
  | .row r k => ∃ dx, H q = some (.ins A.c_RowWay dx (F_RowWay (.str r) (nV k)))
  | .wait ds p l => ∃ dx d, H q = some (.ins A.c_WaitWay dx (F_WaitWay (.ref d) (nV p) (.int l))) ∧ H d = some (.lst (ds.map V.int))
  | .tree sk jn ds lv ls skp => ∃ dx d l, TreeAt A H q dx d l sk jn ds lv ls skp
theorem WayAt.same {H H' : Hp} (e : Same H H') {q : Addr} {m : WayM} (h : WayAt A H q m) : WayAt A H' q m := by
  cases m with
  | row r k =>
    obtain ⟨dx, h⟩ := h
    exact ⟨dx, e _ _ h⟩
  | wait ds p l =>
    obtain ⟨dx, d, h1, h2⟩ := h
    exact ⟨dx, d, e _ _ h1, e _ _ h2⟩
  | tree sk jn ds lv ls skp =>
    obtain ⟨dx, d, l, h1, h2, h3⟩ := h
    exact ⟨dx, d, l, e _ _ h1, e _ _ h2, e _ _ h3⟩
/-- the object at q refers to b -/
def Leans (H : Hp) (q b : Addr) : Prop := ∃ C dx fs f, H q = some (.ins C dx fs) ∧ (f, V.ref b) ∈ fs
/-- what it refers to behind is what it referred to ahead, or new -/
def Fresh (q : Addr) (H H' : Hp) : Prop := ∀ b, Leans H' q b → Leans H q b ∨ H b = none
theorem Leans.put {H : Hp} {p q b : Addr} {o : HO} (ne : q ≠ p) : Leans (upd H p o) q b ↔ Leans H q b := by
  unfold Leans
  rw [upd_ne ne]
theorem Fresh.refl (q : Addr) (H : Hp) : Fresh q H H := fun _ h => .inl h
theorem Fresh.putP {q p : Addr} {H H' : Hp} {o : HO} (f : Fresh q H H') (ne : q ≠ p) : Fresh q H (upd H' p o) := fun b h => f b ((Leans.put ne).mp h)
theorem WayAt.leans {H : Hp} {q b : Addr} {m : WayM} (h : WayAt A H q m) (l : Leans H q b) : ∃ xs, H b = some (.lst xs) := by
  obtain ⟨C, dx, fs, f, e, hm⟩ := l
  cases m with
  | row r k =>
    obtain ⟨dq, h⟩ := h
    rw [h] at e
    cases e
    simp [F_RowWay, nV] at hm
  | wait ds k l =>
    obtain ⟨dq, d, h, h2⟩ := h
    rw [h] at e
    cases e
    simp [F_WaitWay, nV] at hm
    obtain ⟨_, rfl⟩ := hm
    exact ⟨_, h2⟩
  | tree sk jn ds lv ls skp =>
    obtain ⟨dq, d, l, h, h2, h3⟩ := h
    rw [h] at e
    cases e
    have hv : ∀ x, ¬ (V.ref b = lvV lv ∧ x) := fun x => by cases lv <;> simp [lvV]
    simp [F_TreeWay] at hm
    rcases hm with ⟨_, rfl⟩ | ⟨_, z⟩ | ⟨_, rfl⟩
    · exact ⟨_, h2⟩
    · cases lv <;> simp [lvV] at z
    · exact ⟨_, h3⟩
/-- a way's object with the same list -/
theorem fresh_of {H H' : Hp} {q C C' dx dx' : Addr} {fs fs' : List (Str × V)} (h : H q = some (.ins C dx fs)) (h' : H' q = some (.ins C' dx' fs')) (k : ∀ f b, (f, V.ref b) ∈ fs' → (∃ g, (g, V.ref b) ∈ fs) ∨ H b = none) : Fresh q H H' := by
  rintro b ⟨C1, d1, f1, f, e, hm⟩
  rw [h'] at e
  cases e
  rcases k f b hm with ⟨g, hg⟩ | hn
  · exact .inl ⟨C, dx, fs, g, h, hg⟩
  · exact .inr hn
theorem fresh_tree {H H' : Hp} {q dx dx' d l l' : Addr} {sk jn sk' jn' : Bool} {ds ds' : List Int} {lv lv' : Option Int} {ls ls' : List Nat} {skp skp' : Bool} (S : TreeAt A H q dx d l sk jn ds lv ls skp) (S' : TreeAt A H' q dx' d l' sk' jn' ds' lv' ls' skp') (hl : l' = l ∨ H l' = none) : Fresh q H H' := by
  refine fresh_of S.ob S'.ob fun f b hm => ?_
  simp [F_TreeWay] at hm
  rcases hm with ⟨_, rfl⟩ | ⟨_, z⟩ | ⟨_, rfl⟩
  · exact .inl ⟨"digits", by simp [F_TreeWay]⟩
  · cases lv' <;> simp [lvV] at z
  · rcases hl with rfl | hl
    · exact .inl ⟨"levels", by simp [F_TreeWay]⟩
    · exact .inr hl
def spWay (A : Ad) : Sp := fun vs H Q _ => ∃ (a : Addr) (many n : Nat) (R : RuleM), vs = [.ref a, .int many, .int n] ∧ RuleAt H a R ∧ R.Ok many ∧ n < many ∧ many ≤ 8 ∧ ∀ q H', Same H H' → H q = none → WayAt A H' q (wayM R many n) → (∀ b, Leans H' q b → H b = none) → Q (.ref q) H'
theorem leans_row {H : Hp} {q dx C : Addr} {r : Str} {k : V} {b : Addr} (hk : ∀ c, k ≠ .ref c) (h : H q = some (.ins C dx (F_RowWay (.str r) k))) (l : Leans H q b) : False := by
  obtain ⟨C1, d1, fs, f, e, hm⟩ := l
  rw [h] at e
  cases e
  simp [F_RowWay] at hm
  exact hk b hm.2.symm
/-- what is kept behind a new instance x and its dict dx -/
theorem same_make {H H' : Hp} {x dx C : Addr} (hx : H x = none) (hdx : H dx = none) (k : Kept x (upd (upd H dx (.own x)) x (.ins C dx [])) H') : Same H H' := fun b o e => by
  have n1 := ne_of_none e hx
  have n2 := ne_of_none e hdx
  exact k b o (by rw [upd_ne n1, upd_ne n2]; exact e) n1
theorem sc_way_of : FnScope ["rule", "many", "number"] ["rule", "many", "number"] (defScope s_way_of) := ⟨rfl, rfl, rfl, by decide +kernel, rfl, by decide +kernel, by decide +kernel⟩
theorem ok_way_of (T : Txt K mg base A) : FnOk P w K mg base CX0 3 A.way_of A.d_way_of ["rule", "many", "number"] (spWay A) := by
  refine T.F_way_of.ok sc_way_of (fun vs H Q E h => ?_) (fun cdv A' outer s H vs Q E hr h => ?_)
  · obtain ⟨a, many, n, R, rfl, _⟩ := h
    rfl
  obtain ⟨a, many, n, R, rfl, hR, hok, hn, h8, kk⟩ := h
  have hu := hu_of hr
  refine ⟨_, (qs_cons (q_if (q_cmp op_eq (pe_ix ix_T (qv 0) pe_int (fun _ _ => rfl)) pe_str (nomark _)) (pss_one (ps_ret (q_make T.mk_RowWay (ok_RowWay___init__ T) (hr.mono (by decide)) rfl T.g_RowWay T.b_RowWay___init__ pass0 (pa_cons (pe_op o_addS (pe_op o_addS (pe_op o_mulS pe_str (qv 2)) pe_str) (pe_op o_mulS pe_str (pe_op o_sub (pe_op o_sub (qv 1) (qv 2)) pe_int))) pa_nil)))) pss_nil)
    (qs_cons (q_if (q_cmp op_eq (pe_ix ix_T (qv 0) pe_int (fun _ _ => rfl)) pe_str (nomark _)) (pss_one (ps_ret (q_make T.mk_RowWay (ok_RowWay___init__ T) (hr.mono (by decide)) rfl T.g_RowWay T.b_RowWay___init__ pass0 (pa_cons (pe_ix ix_T (pe_ix ix_T (qv 0) pe_int (fun _ _ => rfl)) (qv 2) (fun _ _ => rfl)) pa_nil)))) pss_nil)
    (qs_cons (q_if (q_cmp op_eq (pe_ix ix_T (qv 0) pe_int (fun _ _ => rfl)) pe_str (nomark _)) (pss_one (ps_ret (q_make T.mk_WaitWay (ok_WaitWay___init__ T) (hr.mono (by decide)) rfl T.g_WaitWay T.b_WaitWay___init__ pass0 (pa_cons (q_rev (q_call (ok_digits_of T) (hr.mono (by decide)) rfl T.g_digits_of T.k_digits_of T.b_digits_of pass0 (pa_cons (qv 2) (pa_cons (pe_ix ix_T (qv 0) pe_int (fun _ _ => rfl)) (pa_cons (qv 1) pa_nil))))) pa_nil)))) pss_nil)
    (pss_one (ps_ret (q_make T.mk_TreeWay (ok_TreeWay___init__ T) (hr.mono (by decide)) rfl T.g_TreeWay T.b_TreeWay___init__ pass0 (pa_cons (pe_ix ix_T (qv 0) pe_int (fun _ _ => rfl)) (pa_cons (pe_ix ix_T (qv 0) pe_int (fun _ _ => rfl)) (pa_cons (q_call (ok_digits_of T) (hr.mono (by decide)) rfl T.g_digits_of T.k_digits_of T.b_digits_of pass0 (pa_cons (qv 2) (pa_cons pe_int (pa_cons (qv 1) pa_nil)))) pa_nil))))))))), ?_⟩
  cases R with
  | turns =>
    have hR : H a = some (.tup [.str "turns"]) := hR
    obtain ⟨m1, l1⟩ := mulOk_all n (by omega)
    obtain ⟨m2, l2⟩ := mulOk_all (many - n - 1) (by omega)
    have e2 : ((many : Int) - n) - 1 = ((many - n - 1 : Nat) : Int) := by omega
    have lo : (Str.ofString "1").length = 1 := by decide +kernel
    have la : (Txt.mul (Str.ofString "0") (n : Int) ++ Str.ofString "1").length = n + 1 := by
      rw [str_len_app, l1, lo]
    dsimp! [hR, atI_zero, e2]
    refine ⟨m1, by rw [l1, lo, sizeLine_eq]; omega, m2, by rw [la, l2, sizeLine_eq]; omega, fun x dx hx hdx ne => ?_⟩
    refine ⟨x, dx, _, rfl, upd_same, rfl, ?_⟩
    rw [upd_upd]
    refine kk x _ (same_make (C := A.c_RowWay) hx hdx ?_) hx ⟨dx, ?_⟩ fun b hl => (leans_row (fun c => by simp) upd_same hl).elim
    · exact fun b o e nb => by
        rw [upd_ne nb] at e
        rw [upd_ne nb]
        exact e
    · rw [upd_same]
      unfold turnRow
      rw [e2]
      rfl
  | rows rs =>
    obtain ⟨b, hR, hb⟩ := hR
    obtain ⟨hl, _⟩ := hok
    have hg : atI (rs.map V.str) (n : Int) = some (.str (rs.getD n "")) := by
      refine atI_nat ?_
      have hn' : n < rs.length := by omega
      rw [List.getElem?_map, get_getD (Str.ofString "") hn']
      rfl
    dsimp! [hR, atI_zero, atI_one, w_ru, hb, hg]
    intro x dx hx hdx ne
    refine ⟨x, dx, _, rfl, upd_same, rfl, ?_⟩
    rw [upd_upd]
    refine kk x _ (same_make (C := A.c_RowWay) hx hdx ?_) hx ⟨dx, ?_⟩ fun b hl => (leans_row (fun c => by simp) upd_same hl).elim
    · exact fun b o e nb => by
        rw [upd_ne nb] at e
        rw [upd_ne nb]
        exact e
    · rw [upd_same]
      rfl
  | tree sk jn =>
    have hR : H a = some (.tup [.str "tree", .str (howS sk), .str (lateS jn)]) := hR
    dsimp! [hR, atI_zero, w_ttu, w_tr, w_ttw, atI_one, atI_two]
    refine ⟨n, 2, many, rfl, by decide, by decide, by omega, h8, fun d H1 s1 hd0 hd => fun x dx hx hdx ne => ?_⟩
    have ndx : d ≠ dx := ne_of_none hd hdx
    have ndq : d ≠ x := ne_of_none hd hx
    refine ⟨x, dx, d, howS sk, lateS jn, digs 2 many n, rfl, upd_same, by rw [upd_ne ndq, upd_ne ndx]; exact hd, fun l H2 k2 fl S2 => ⟨rfl, ?_⟩⟩
    have hx0 : H x = none := by
      cases e : H x with
      | none => rfl
      | some o => rw [s1 _ _ e] at hx; cases hx
    have hl0 : H l = none := by
      cases e : H l with
      | none => rfl
      | some o =>
        have e1 := s1 _ _ e
        rw [upd_ne (ne_of_none e1 hx), upd_ne (ne_of_none e1 hdx), e1] at fl
        cases fl
    refine kk x H2 (s1.trans (same_make hx hdx k2)) hx0 ⟨dx, d, l, ?_⟩ fun b hb => ?_
    rotate_left
    · obtain ⟨C1, d1, fs, f, e, hm⟩ := hb
      rw [S2.ob] at e
      cases e
      simp [F_TreeWay, lvV] at hm
      rcases hm with ⟨_, rfl⟩ | ⟨_, rfl⟩
      · exact hd0
      · exact hl0
    have h1 : decide (howS sk = Str.ofString "skips") = sk := by cases sk <;> decide +kernel
    have h2 : decide (lateS jn = Str.ofString "joins") = jn := by cases jn <;> decide +kernel
    rw [h1, h2] at S2
    exact S2
  | waits b =>
    have hR : H a = some (.tup [.str "waits", .int b]) := hR
    obtain ⟨hb2, hb4⟩ := hok
    dsimp! [hR, atI_zero, atI_one, w_wu, w_wr]
    refine ⟨n, b, many, rfl, hb2, hb4, by omega, h8, fun d H1 s1 hd0 hd => ?_⟩
    dsimp! [hd]
    intro p hp x dx hx hdx ne
    have s2 : Same H1 (upd H1 p (.lst ((digs b many n).map V.int).reverse)) := Same.new hp
    refine ⟨x, dx, .ref p, rfl, upd_same, rfl, ?_⟩
    rw [upd_upd]
    have k2 : Kept x (upd (upd (upd H1 p (.lst ((digs b many n).map V.int).reverse)) dx (.own x)) x (.ins A.c_WaitWay dx [])) (upd (upd (upd H1 p (.lst ((digs b many n).map V.int).reverse)) dx (.own x)) x (.ins A.c_WaitWay dx (F_WaitWay (.ref p) (.int 0) (.int 0)))) := fun b o e nb => by
      rw [upd_ne nb] at e
      rw [upd_ne nb]
      exact e
    have s3 := same_make hx hdx k2
    have hx0 : H x = none := by
      cases e : H x with
      | none => rfl
      | some o => rw [s2 _ _ (s1 _ _ e)] at hx; cases hx
    have hp0 : H p = none := by
      cases e : H p with
      | none => rfl
      | some o => rw [s1 _ _ e] at hp; cases hp
    refine kk x _ ((s1.trans s2).trans s3) hx0 ⟨dx, p, upd_same, ?_⟩ fun b hb => ?_
    rotate_left
    · obtain ⟨C1, d1, fs, f, e, hm⟩ := hb
      rw [upd_same] at e
      cases e
      simp [F_WaitWay] at hm
      obtain ⟨_, rfl⟩ := hm
      exact hp0
    rw [s3 _ _ upd_same, List.map_reverse]
end
end OA

namespace OA
open PySem L2
local macro_rules
  | `(tactic| simp! [$a,*]) => `(tactic| simp -implicitDefEqProofs only [wNeD0, wRep, tDNewK, vDc, wSortDI, dkR_e, dkR_f, e_cut, wSetL, vLstRg, wLstD, e_lock, vVals, gSub, tCKw, frzO_e, viItems, viKeys, vRev, e_while, e_for, e_asgG, gName, vgTup, vgCons_e, vgNil_e, viList, viTup, viStr, viR1, viEnum, vLc, tYes, wipe, e_seq, e_next, e_drop, e_ret, e_retN, e_sfld, e_augI, e_aug, e_dput, vIf, vTest, wInT, vVar, vFld, tC, tOp, tUn, wI0, wIC, rEq, rNe, scal, wAddS, wMulS, wCat, wNeg, wIxL, wIxT, wIxS, vPart, tNoPart, tSl, wSlL, tCB, tCons, tNil, len_s, wTupL, wLstL, wAbs, wIntB, wMin2, wMax2, vAnd, vOr, vNot, vChain, vMeth, vCall, vMake, vLM0, vLM, isLst, wAppend, wPopAt, wInsert0, vStar, vDGet, vDIn, vDNotIn, tTup, tLst, tIf, tAnd, tOr, tNot, refR_e, intR_e, blR_e, strR_e, optR_e, keyR_i, keyR_s, insO_e, lstO_e, tupO_e, dkO_e, one1_e, two2_e, len_r, lenO_l, lenO_t, lenO_d, L2.start, List.map, List.replicate, List.length_cons, List.length_nil, List.cons_append, List.nil_append, List.append_nil, List.getElem?_cons_zero, List.getElem?_cons_succ, List.set_cons_zero, List.set_cons_succ, true_and, and_true, cx_K, cx_prog, cx_w, blkK, Int.toNat_natCast, upd_same, upd_upd, if_true, if_false, decide_eq_true_eq, reduceCtorEq, reduceIte, Bool.false_eq_true, decide_true, decide_false, Bool.true_and, Bool.false_and, Bool.and_true, Bool.and_false, Bool.not_true, Bool.not_false, V.int.injEq, V.str.injEq, V.bl.injEq, putF_nil, Nat.reduceAdd, Nat.reduceSub, Nat.reduceLT, Int.reduceEq, Int.reduceLT, Int.reduceLE, Int.reduceAdd, Int.reduceSub, Int.cast_ofNat_Int, wIsi, tyR_e, tyO_l, tyO_t, tyO_d, tyN_n, tyN_b, tyN_i, tyN_s, tyN_r, kit_NoneType_bool, kit_NoneType_int, kit_NoneType_str, kit_NoneType_list, kit_NoneType_tuple, kit_NoneType_dict, kit_bool_bool, kit_bool_int, kit_bool_str, kit_bool_list, kit_bool_tuple, kit_bool_dict, kit_int_bool, kit_int_int, kit_int_str, kit_int_list, kit_int_tuple, kit_int_dict, kit_str_bool, kit_str_int, kit_str_str, kit_str_list, kit_str_tuple, kit_str_dict, kit_list_bool, kit_list_int, kit_list_str, kit_list_list, kit_list_tuple, kit_list_dict, kit_tuple_bool, kit_tuple_int, kit_tuple_str, kit_tuple_list, kit_tuple_tuple, kit_tuple_dict, kit_dict_bool, kit_dict_int, kit_dict_str, kit_dict_list, kit_dict_tuple, kit_dict_dict, $a,*])
  | `(tactic| dsimp! [$a,*]) => `(tactic| ((try refine Later.mk ?_); simp! [$a,*]; repeat (refine Later.mk ?_; simp! [$a,*])))
structure StM where
  way : WayM
  spoke : Bool
  over : Bool
def StM.asked (aw : Bool) (m : StM) : StM := ⟨m.way.asked (aw && !m.over), m.way.wants (aw && !m.over), m.over⟩
def StM.hears (wd : Wd) (m : StM) : StM := ⟨m.way.goes m.spoke wd, m.spoke, m.over || (m.spoke && decide (wd = .hrd))⟩
section
variable {P : Program} {w : World} {K : PySem.W.Frag} {mg : Str → Option Value} {base : Heap} {A : Ad}
/-- all but p and q is kept -/
def Kept2 (p q : Addr) (H H' : Hp) : Prop := ∀ b o, H b = some o → b ≠ p → b ≠ q → H' b = some o
structure StAt (A : Ad) (H : Hp) (p q : Addr) (m : StM) : Prop where
  ne : q ≠ p
  ob : ∃ dx, H p = some (.ins A.c_Station dx (F_Station (.ref q) (.bl m.spoke) (.bl m.over)))
  wy : WayAt A H q m.way
/-- what a way leans on beside its own object is no instance -/
theorem WayAt.put {H : Hp} {p q C dx : Addr} {fs fs' : List (Str × V)} {m : WayM} (h : WayAt A H q m) (hp : H p = some (.ins C dx fs)) (ne : q ≠ p) : WayAt A (upd H p (.ins C dx fs')) q m := by
  have lst : ∀ d xs, H d = some (.lst xs) → d ≠ p := fun d xs e => ne_of e hp (by simp)
  cases m with
  | row r k =>
    obtain ⟨e, h⟩ := h
    exact ⟨e, by rw [upd_ne ne]; exact h⟩
  | wait ds k l =>
    obtain ⟨e, d, h1, h2⟩ := h
    exact ⟨e, d, by rw [upd_ne ne]; exact h1, by rw [upd_ne (lst _ _ h2)]; exact h2⟩
  | tree sk jn ds lv ls skp =>
    obtain ⟨e, d, l, h1, h2, h3⟩ := h
    exact ⟨e, d, l, by rw [upd_ne ne]; exact h1, by rw [upd_ne (lst _ _ h2)]; exact h2, by rw [upd_ne (lst _ _ h3)]; exact h3⟩
theorem Kept2.refl (p q : Addr) (H : Hp) : Kept2 p q H H := fun _ _ h _ _ => h
theorem Kept2.putP {p q : Addr} {H H1 : Hp} {o : HO} (a : Kept2 p q H H1) : Kept2 p q H (upd H1 p o) := fun b u h n1 n2 => by
  rw [upd_ne n1]
  exact a b u h n1 n2
theorem Kept2.putQ {p q : Addr} {H H1 : Hp} {o : HO} (a : Kept2 p q H H1) : Kept2 p q H (upd H1 q o) := fun b u h n1 n2 => by
  rw [upd_ne n2]
  exact a b u h n1 n2
theorem Kept2.way {p q : Addr} {H H1 H2 : Hp} (a : Kept2 p q H H1) (k : Kept q H1 H2) : Kept2 p q H H2 := fun b u h n1 n2 => k b u (a b u h n1 n2) n2
def spSpeaks (A : Ad) : Sp := fun vs H Q _ => ∃ (p q : Addr) (m : StM) (aw : Bool), vs = [.ref p, .bl aw] ∧ StAt A H p q m ∧ m.way.Ok ∧ ∀ H', Kept2 p q H H' → Fresh q H H' → StAt A H' p q (m.asked aw) → Q (.bl (m.asked aw).spoke) H'
theorem sc_Station_speaks : FnScope ["self", "awake"] ["self", "awake"] (defScope s_Station_speaks) := ⟨rfl, rfl, rfl, by decide +kernel, rfl, by decide +kernel, by decide +kernel⟩
theorem ok_Station_speaks (T : Txt K mg base A) : FnOk P w K mg base CX0 2 A.Station_speaks A.d_Station_speaks ["self", "awake"] (spSpeaks A) := by
  refine T.F_Station_speaks.ok sc_Station_speaks (fun vs H Q E h => ?_) (fun cdv A' outer s H vs Q E hr h => ?_)
  · obtain ⟨p, q, m, aw, rfl, _⟩ := h
    rfl
  obtain ⟨p, q, m, aw, rfl, S, ok, kk⟩ := h
  have hu := hu_of hr
  obtain ⟨ne, ⟨dx, ob⟩, wy⟩ := S
  obtain ⟨way, spoke, over⟩ := m
  have e1 : ∀ b : Bool, (if aw = true then b else false) = (aw && b) := fun b => by cases aw <;> rfl
  cases way with
  | row r k =>
    obtain ⟨dq, hq⟩ := id wy
    refine ⟨_, (qs_cons (q_sfld (qv 0) (q_meth (q_fld (qv 0) rfl) T.cl_RowWay T.me_RowWay_wants (ok_RowWay_wants T) (hr.mono (by decide)) T.b_RowWay_wants pass0 (pa_cons (q_and (qv 1) (pe_one (q_not (q_fld (qv 0) rfl)))) pa_nil)) rfl)
    (pss_one (ps_ret (q_fld (qv 0) rfl)))), ?_⟩
    have fin : ∀ v : Bool, v = (StM.asked aw ⟨.row r k, spoke, over⟩).spoke → Q (.bl v) (upd H p (.ins A.c_Station dx (F_Station (.ref q) (.bl v) (.bl over)))) := by
      rintro v rfl
      exact kk _ (Kept2.refl p q H).putP ((Fresh.refl q H).putP ne) ⟨ne, ⟨dx, upd_same⟩, wy.put ob ne⟩
    cases aw <;>
    · dsimp! [T.n_RowWay_row, lk_RowWay_row, pf_RowWay_row, T.n_RowWay_place, lk_RowWay_place, pf_RowWay_place, T.cl_RowWay, ln_RowWay, pm_RowWay_1, lm_RowWay_wants, lm_RowWay_goes_on, lm_RowWay_standing, T.n_Station_way, lk_Station_way, pf_Station_way, T.n_Station_spoke, lk_Station_spoke, pf_Station_spoke, T.n_Station_over, lk_Station_over, pf_Station_over, T.cl_Station, ln_Station, pm_Station_1, pm_Station_2, lm_Station_speaks, lm_Station_hears, lm_Station_standing, ob, hq]
      refine ⟨q, dq, r, k, _, rfl, hq, ok.1, ok.2, ?_⟩
      dsimp! [T.n_Station_way, lk_Station_way, pf_Station_way, T.n_Station_spoke, lk_Station_spoke, pf_Station_spoke, T.n_Station_over, lk_Station_over, pf_Station_over, T.cl_Station, ln_Station, pm_Station_1, pm_Station_2, lm_Station_speaks, lm_Station_hears, lm_Station_standing, ob]
      exact fin _ (by simp [StM.asked, WayM.wants])
  | wait ds k l =>
    obtain ⟨dq, d, hq, hd⟩ := id wy
    refine ⟨_, (qs_cons (q_sfld (qv 0) (q_meth (q_fld (qv 0) rfl) T.cl_WaitWay T.me_WaitWay_wants (ok_WaitWay_wants T) (hr.mono (by decide)) T.b_WaitWay_wants pass0 (pa_cons (q_and (qv 1) (pe_one (q_not (q_fld (qv 0) rfl)))) pa_nil)) rfl)
    (pss_one (ps_ret (q_fld (qv 0) rfl)))), ?_⟩
    have fin : ∀ v : Bool, v = (StM.asked aw ⟨.wait ds k l, spoke, over⟩).spoke → Q (.bl v) (upd H p (.ins A.c_Station dx (F_Station (.ref q) (.bl v) (.bl over)))) := by
      rintro v rfl
      exact kk _ (Kept2.refl p q H).putP ((Fresh.refl q H).putP ne) ⟨ne, ⟨dx, upd_same⟩, wy.put ob ne⟩
    cases aw <;>
    · dsimp! [T.n_WaitWay_digits, lk_WaitWay_digits, pf_WaitWay_digits, T.n_WaitWay_place, lk_WaitWay_place, pf_WaitWay_place, T.n_WaitWay_left, lk_WaitWay_left, pf_WaitWay_left, T.cl_WaitWay, ln_WaitWay, pm_WaitWay_1, pm_WaitWay_2, lm_WaitWay_wants, lm_WaitWay_goes_on, lm_WaitWay_standing, T.n_Station_way, lk_Station_way, pf_Station_way, T.n_Station_spoke, lk_Station_spoke, pf_Station_spoke, T.n_Station_over, lk_Station_over, pf_Station_over, T.cl_Station, ln_Station, pm_Station_1, pm_Station_2, lm_Station_speaks, lm_Station_hears, lm_Station_standing, ob, hq]
      refine ⟨q, dq, .ref d, nV k, l, _, rfl, hq, ?_⟩
      dsimp! [T.n_Station_way, lk_Station_way, pf_Station_way, T.n_Station_spoke, lk_Station_spoke, pf_Station_spoke, T.n_Station_over, lk_Station_over, pf_Station_over, T.cl_Station, ln_Station, pm_Station_1, pm_Station_2, lm_Station_speaks, lm_Station_hears, lm_Station_standing, ob]
      exact fin _ (by simp [StM.asked, WayM.wants])
  | tree sk jn ds lv ls skp =>
    obtain ⟨dq, d, l, S⟩ := id wy
    have hq := S.ob
    refine ⟨_, (qs_cons (q_sfld (qv 0) (q_meth (q_fld (qv 0) rfl) T.cl_TreeWay T.me_TreeWay_wants (ok_TreeWay_wants T) (hr.mono (by decide)) T.b_TreeWay_wants pass0 (pa_cons (q_and (qv 1) (pe_one (q_not (q_fld (qv 0) rfl)))) pa_nil)) rfl)
    (pss_one (ps_ret (q_fld (qv 0) rfl)))), ?_⟩
    have fin : ∀ (H1 : Hp) (v : Bool), Kept q H H1 → Fresh q H H1 → WayAt A H1 q (StM.asked aw ⟨.tree sk jn ds lv ls skp, spoke, over⟩).way → v = (StM.asked aw ⟨.tree sk jn ds lv ls skp, spoke, over⟩).spoke → Q (.bl v) (upd H1 p (.ins A.c_Station dx (F_Station (.ref q) (.bl v) (.bl over)))) := by
      rintro H1 v k1 f1 w1 rfl
      exact kk _ ((Kept2.refl p q H).way k1).putP (f1.putP ne) ⟨ne, ⟨dx, upd_same⟩, w1.put (k1 _ _ ob ne.symm) ne⟩
    cases aw <;>
    · dsimp! [T.n_TreeWay_skips, lk_TreeWay_skips, pf_TreeWay_skips, T.n_TreeWay_joins, lk_TreeWay_joins, pf_TreeWay_joins, T.n_TreeWay_digits, lk_TreeWay_digits, pf_TreeWay_digits, T.n_TreeWay_level, lk_TreeWay_level, pf_TreeWay_level, T.n_TreeWay_levels, lk_TreeWay_levels, pf_TreeWay_levels, T.n_TreeWay_skipping, lk_TreeWay_skipping, pf_TreeWay_skipping, T.cl_TreeWay, ln_TreeWay, pm_TreeWay_1, pm_TreeWay_2, pm_TreeWay_3, pm_TreeWay_4, pm_TreeWay_5, lm_TreeWay_wants, lm_TreeWay_goes_on, lm_TreeWay_split_level, lm_TreeWay_drop_level, lm_TreeWay_standing, T.n_Station_way, lk_Station_way, pf_Station_way, T.n_Station_spoke, lk_Station_spoke, pf_Station_spoke, T.n_Station_over, lk_Station_over, pf_Station_over, T.cl_Station, ln_Station, pm_Station_1, pm_Station_2, lm_Station_speaks, lm_Station_hears, lm_Station_standing, ob, hq]
      refine ⟨q, dq, d, l, sk, jn, ds, lv, ls, skp, _, rfl, S, fun l' H1 k1 f1 S1 => ?_⟩
      have ob1 := k1 _ _ ob ne.symm
      dsimp! [T.n_Station_way, lk_Station_way, pf_Station_way, T.n_Station_spoke, lk_Station_spoke, pf_Station_spoke, T.n_Station_over, lk_Station_over, pf_Station_over, T.cl_Station, ln_Station, pm_Station_1, pm_Station_2, lm_Station_speaks, lm_Station_hears, lm_Station_standing, ob1]
      exact fin _ _ k1 (fresh_tree S S1 f1) ⟨dq, d, l', S1⟩ (by simp [StM.asked, WayM.wants])
def spHears (A : Ad) : Sp := fun vs H Q _ => ∃ (p q : Addr) (m : StM) (wd : Wd), vs = [.ref p, .str wd.s] ∧ StAt A H p q m ∧ m.way.Ok ∧ m.way.Set ∧ m.way.deep ≤ 100000 ∧ ∀ H', Kept2 p q H H' → Fresh q H H' → StAt A H' p q (m.hears wd) → Q .non H'
theorem sc_Station_hears : FnScope ["self", "word"] ["self", "word"] (defScope s_Station_hears) := ⟨rfl, rfl, rfl, by decide +kernel, rfl, by decide +kernel, by decide +kernel⟩
theorem ok_Station_hears (T : Txt K mg base A) : FnOk P w K mg base CX0 3 A.Station_hears A.d_Station_hears ["self", "word"] (spHears A) := by
  refine T.F_Station_hears.ok sc_Station_hears (fun vs H Q E h => ?_) (fun cdv A' outer s H vs Q E hr h => ?_)
  · obtain ⟨p, q, m, wd, rfl, _⟩ := h
    rfl
  obtain ⟨p, q, m, wd, rfl, S, ok, set, deep, kk⟩ := h
  have hu := hu_of hr
  obtain ⟨ne, ⟨dx, ob⟩, wy⟩ := S
  obtain ⟨way, spoke, over⟩ := m
  -- behind the first statement
  have fin : ∀ (o' : Bool) (H1 H2 : Hp), H1 = upd H p (.ins A.c_Station dx (F_Station (.ref q) (.bl spoke) (.bl o'))) ∨ (H1 = H ∧ o' = over) → o' = (StM.hears wd ⟨way, spoke, over⟩).over → Kept q H1 H2 → Fresh q H1 H2 → WayAt A H2 q (way.goes spoke wd) → Q .non H2 := by
    intro o' H1 H2 h1 ho k2 f2 w2
    have ob1 : H1 p = some (.ins A.c_Station dx (F_Station (.ref q) (.bl spoke) (.bl o'))) := by
      rcases h1 with rfl | ⟨rfl, rfl⟩
      · exact upd_same
      · exact ob
    have k1 : Kept2 p q H H1 := by
      rcases h1 with rfl | ⟨rfl, rfl⟩
      · exact (Kept2.refl p q H).putP
      · exact Kept2.refl p q _
    have f1 : Fresh q H H2 := fun b hb => by
      rcases f2 b hb with hl | hn
      · rcases h1 with rfl | ⟨rfl, rfl⟩
        · exact .inl ((Leans.put ne).mp hl)
        · exact .inl hl
      · right
        rcases h1 with rfl | ⟨rfl, rfl⟩
        · have nb : b ≠ p := fun e => by rw [e, upd_same] at hn; cases hn
          rw [upd_ne nb] at hn
          exact hn
        · exact hn
    refine kk H2 (k1.way k2) f1 ⟨ne, ⟨dx, ?_⟩, w2⟩
    rw [← ho]
    exact k2 _ _ ob1 ne.symm
  have wy1 := wy.put (fs' := F_Station (.ref q) (.bl spoke) (.bl true)) ob ne
  cases way with
  | row r k =>
    have go : ∀ (o' : Bool) (H1 : Hp), WayAt A H1 q (.row r k) → (H1 = upd H p (.ins A.c_Station dx (F_Station (.ref q) (.bl spoke) (.bl o'))) ∨ (H1 = H ∧ o' = over)) → o' = (StM.hears wd ⟨.row r k, spoke, over⟩).over →
        spRow_goes A [.ref q, .bl spoke, .str wd.s] H1 (fun _ H' => Q .non H') E0 := by
      rintro o' H1 ⟨dq, hq⟩ h1 ho
      refine ⟨q, dq, r, k, _, _, rfl, hq, ok.1, ok.2, ?_⟩
      exact fin o' H1 _ h1 ho ((Kept.refl q H1).put) (fresh_of hq upd_same fun f b hm => by simp [F_RowWay, nV] at hm) ⟨dq, upd_same⟩
    obtain ⟨dq, hq⟩ := id wy
    have hq1 : ∀ o, (upd H p o) q = some (.ins A.c_RowWay dq (F_RowWay (.str r) (nV k))) := fun o => by rw [upd_ne ne]; exact hq
    refine ⟨_, (qs_cons (q_if (PW.pt (pw_and (q_val (q_fld (qv 0) rfl)) (pw_and1 (q_cmp op_eq (qv 1) pe_str (nomark _))))) (pss_one (q_sfld (qv 0) pe_bl rfl)) pss_nil)
    (pss_one (ps_expr (q_meth (q_fld (qv 0) rfl) T.cl_RowWay T.me_RowWay_goes_on (ok_RowWay_goes_on T) (hr.mono (by decide)) T.b_RowWay_goes_on pass0 (pa_cons (q_fld (qv 0) rfl) (pa_cons (qv 1) pa_nil)))))), ?_⟩
    cases spoke with
    | false =>
      dsimp! [T.n_RowWay_row, lk_RowWay_row, pf_RowWay_row, T.n_RowWay_place, lk_RowWay_place, pf_RowWay_place, T.cl_RowWay, ln_RowWay, pm_RowWay_1, lm_RowWay_wants, lm_RowWay_goes_on, lm_RowWay_standing, T.n_Station_way, lk_Station_way, pf_Station_way, T.n_Station_spoke, lk_Station_spoke, pf_Station_spoke, T.n_Station_over, lk_Station_over, pf_Station_over, T.cl_Station, ln_Station, pm_Station_1, pm_Station_2, lm_Station_speaks, lm_Station_hears, lm_Station_standing, ob, hq]
      exact go over H wy (.inr ⟨rfl, rfl⟩) (by simp [StM.hears])
    | true =>
      cases wd with
      | hrd =>
        dsimp! [T.n_RowWay_row, lk_RowWay_row, pf_RowWay_row, T.n_RowWay_place, lk_RowWay_place, pf_RowWay_place, T.cl_RowWay, ln_RowWay, pm_RowWay_1, lm_RowWay_wants, lm_RowWay_goes_on, lm_RowWay_standing, T.n_Station_way, lk_Station_way, pf_Station_way, T.n_Station_spoke, lk_Station_spoke, pf_Station_spoke, T.n_Station_over, lk_Station_over, pf_Station_over, T.cl_Station, ln_Station, pm_Station_1, pm_Station_2, lm_Station_speaks, lm_Station_hears, lm_Station_standing, ob, hq, hq1, Wd.s]
        exact go true _ wy1 (.inl rfl) (by simp [StM.hears])
      | sil =>
        dsimp! [T.n_RowWay_row, lk_RowWay_row, pf_RowWay_row, T.n_RowWay_place, lk_RowWay_place, pf_RowWay_place, T.cl_RowWay, ln_RowWay, pm_RowWay_1, lm_RowWay_wants, lm_RowWay_goes_on, lm_RowWay_standing, T.n_Station_way, lk_Station_way, pf_Station_way, T.n_Station_spoke, lk_Station_spoke, pf_Station_spoke, T.n_Station_over, lk_Station_over, pf_Station_over, T.cl_Station, ln_Station, pm_Station_1, pm_Station_2, lm_Station_speaks, lm_Station_hears, lm_Station_standing, ob, hq, Wd.s, wd_sh]
        exact go over H wy (.inr ⟨rfl, rfl⟩) (by simp [StM.hears])
      | noi =>
        dsimp! [T.n_RowWay_row, lk_RowWay_row, pf_RowWay_row, T.n_RowWay_place, lk_RowWay_place, pf_RowWay_place, T.cl_RowWay, ln_RowWay, pm_RowWay_1, lm_RowWay_wants, lm_RowWay_goes_on, lm_RowWay_standing, T.n_Station_way, lk_Station_way, pf_Station_way, T.n_Station_spoke, lk_Station_spoke, pf_Station_spoke, T.n_Station_over, lk_Station_over, pf_Station_over, T.cl_Station, ln_Station, pm_Station_1, pm_Station_2, lm_Station_speaks, lm_Station_hears, lm_Station_standing, ob, hq, Wd.s, wd_nh]
        exact go over H wy (.inr ⟨rfl, rfl⟩) (by simp [StM.hears])
  | wait ds k l =>
    have go : ∀ (o' : Bool) (H1 : Hp), WayAt A H1 q (.wait ds k l) → (H1 = upd H p (.ins A.c_Station dx (F_Station (.ref q) (.bl spoke) (.bl o'))) ∨ (H1 = H ∧ o' = over)) → o' = (StM.hears wd ⟨.wait ds k l, spoke, over⟩).over →
        spWait_goes A [.ref q, .bl spoke, .str wd.s] H1 (fun _ H' => Q .non H') E0 := by
      rintro o' H1 ⟨dq, d, hq, hd⟩ h1 ho
      have ndq : d ≠ q := ne_of hd hq (by simp)
      refine ⟨q, dq, d, ds, k, l, _, wd, rfl, hq, hd, ok, fun c => ?_, fun c c2 => ?_, fun c c2 => ?_⟩
      · exact fin o' H1 _ h1 ho ((Kept.refl q H1).put) (fresh_of hq upd_same fun f b hm => by simp [F_WaitWay, nV] at hm; obtain ⟨_, rfl⟩ := hm; exact .inl ⟨"digits", by simp [F_WaitWay]⟩) (by simp only [WayM.goes]; rw [if_pos c]; exact ⟨dq, d, upd_same, by rw [upd_ne ndq]; exact hd⟩)
      · exact fin o' H1 _ h1 ho ((Kept.refl q H1).put) (fresh_of hq upd_same fun f b hm => by simp [F_WaitWay, nV] at hm; obtain ⟨_, rfl⟩ := hm; exact .inl ⟨"digits", by simp [F_WaitWay]⟩) (by simp only [WayM.goes]; rw [if_neg c, if_pos c2]; exact ⟨dq, d, upd_same, by rw [upd_ne ndq]; exact hd⟩)
      · exact fin o' H1 _ h1 ho (Kept.refl q H1) (Fresh.refl q H1) (by simp only [WayM.goes]; rw [if_neg c, if_neg c2]; exact ⟨dq, d, hq, hd⟩)
    obtain ⟨dq, d, hq, hd⟩ := id wy
    have hq1 : ∀ o, (upd H p o) q = some (.ins A.c_WaitWay dq (F_WaitWay (.ref d) (nV k) (.int l))) := fun o => by rw [upd_ne ne]; exact hq
    refine ⟨_, (qs_cons (q_if (PW.pt (pw_and (q_val (q_fld (qv 0) rfl)) (pw_and1 (q_cmp op_eq (qv 1) pe_str (nomark _))))) (pss_one (q_sfld (qv 0) pe_bl rfl)) pss_nil)
    (pss_one (ps_expr (q_meth (q_fld (qv 0) rfl) T.cl_WaitWay T.me_WaitWay_goes_on (ok_WaitWay_goes_on T) (hr.mono (by decide)) T.b_WaitWay_goes_on pass0 (pa_cons (q_fld (qv 0) rfl) (pa_cons (qv 1) pa_nil)))))), ?_⟩
    cases spoke with
    | false =>
      dsimp! [T.n_WaitWay_digits, lk_WaitWay_digits, pf_WaitWay_digits, T.n_WaitWay_place, lk_WaitWay_place, pf_WaitWay_place, T.n_WaitWay_left, lk_WaitWay_left, pf_WaitWay_left, T.cl_WaitWay, ln_WaitWay, pm_WaitWay_1, pm_WaitWay_2, lm_WaitWay_wants, lm_WaitWay_goes_on, lm_WaitWay_standing, T.n_Station_way, lk_Station_way, pf_Station_way, T.n_Station_spoke, lk_Station_spoke, pf_Station_spoke, T.n_Station_over, lk_Station_over, pf_Station_over, T.cl_Station, ln_Station, pm_Station_1, pm_Station_2, lm_Station_speaks, lm_Station_hears, lm_Station_standing, ob, hq]
      exact go over H wy (.inr ⟨rfl, rfl⟩) (by simp [StM.hears])
    | true =>
      cases wd with
      | hrd =>
        dsimp! [T.n_WaitWay_digits, lk_WaitWay_digits, pf_WaitWay_digits, T.n_WaitWay_place, lk_WaitWay_place, pf_WaitWay_place, T.n_WaitWay_left, lk_WaitWay_left, pf_WaitWay_left, T.cl_WaitWay, ln_WaitWay, pm_WaitWay_1, pm_WaitWay_2, lm_WaitWay_wants, lm_WaitWay_goes_on, lm_WaitWay_standing, T.n_Station_way, lk_Station_way, pf_Station_way, T.n_Station_spoke, lk_Station_spoke, pf_Station_spoke, T.n_Station_over, lk_Station_over, pf_Station_over, T.cl_Station, ln_Station, pm_Station_1, pm_Station_2, lm_Station_speaks, lm_Station_hears, lm_Station_standing, ob, hq, hq1, Wd.s]
        exact go true _ wy1 (.inl rfl) (by simp [StM.hears])
      | sil =>
        dsimp! [T.n_WaitWay_digits, lk_WaitWay_digits, pf_WaitWay_digits, T.n_WaitWay_place, lk_WaitWay_place, pf_WaitWay_place, T.n_WaitWay_left, lk_WaitWay_left, pf_WaitWay_left, T.cl_WaitWay, ln_WaitWay, pm_WaitWay_1, pm_WaitWay_2, lm_WaitWay_wants, lm_WaitWay_goes_on, lm_WaitWay_standing, T.n_Station_way, lk_Station_way, pf_Station_way, T.n_Station_spoke, lk_Station_spoke, pf_Station_spoke, T.n_Station_over, lk_Station_over, pf_Station_over, T.cl_Station, ln_Station, pm_Station_1, pm_Station_2, lm_Station_speaks, lm_Station_hears, lm_Station_standing, ob, hq, Wd.s, wd_sh]
        exact go over H wy (.inr ⟨rfl, rfl⟩) (by simp [StM.hears])
      | noi =>
        dsimp! [T.n_WaitWay_digits, lk_WaitWay_digits, pf_WaitWay_digits, T.n_WaitWay_place, lk_WaitWay_place, pf_WaitWay_place, T.n_WaitWay_left, lk_WaitWay_left, pf_WaitWay_left, T.cl_WaitWay, ln_WaitWay, pm_WaitWay_1, pm_WaitWay_2, lm_WaitWay_wants, lm_WaitWay_goes_on, lm_WaitWay_standing, T.n_Station_way, lk_Station_way, pf_Station_way, T.n_Station_spoke, lk_Station_spoke, pf_Station_spoke, T.n_Station_over, lk_Station_over, pf_Station_over, T.cl_Station, ln_Station, pm_Station_1, pm_Station_2, lm_Station_speaks, lm_Station_hears, lm_Station_standing, ob, hq, Wd.s, wd_nh]
        exact go over H wy (.inr ⟨rfl, rfl⟩) (by simp [StM.hears])
  | tree sk jn ds lv ls skp =>
    have go : ∀ (o' : Bool) (H1 : Hp), WayAt A H1 q (.tree sk jn ds lv ls skp) → (H1 = upd H p (.ins A.c_Station dx (F_Station (.ref q) (.bl spoke) (.bl o'))) ∨ (H1 = H ∧ o' = over)) → o' = (StM.hears wd ⟨.tree sk jn ds lv ls skp, spoke, over⟩).over →
        spTree_goes A [.ref q, .bl spoke, .str wd.s] H1 (fun _ H' => Q .non H') E0 := by
      rintro o' H1 ⟨dq, d, l, S⟩ h1 ho
      refine ⟨q, dq, d, l, sk, jn, ds, lv, ls, skp, _, wd, rfl, S, ok, set, deep, fun l2 H2 lv' ls' skp' e k2 f2 S2 => ?_⟩
      exact fin o' H1 _ h1 ho k2 (fresh_tree S S2 (.inr f2)) (by rw [e]; exact ⟨dq, d, l2, S2⟩)
    obtain ⟨dq, d, l, S⟩ := id wy
    have hq := S.ob
    have hq1 : ∀ o, (upd H p o) q = some (.ins A.c_TreeWay dq (F_TreeWay (.bl sk) (.bl jn) (.ref d) (lvV lv) (.ref l) (.bl skp))) := fun o => by rw [upd_ne ne]; exact hq
    refine ⟨_, (qs_cons (q_if (PW.pt (pw_and (q_val (q_fld (qv 0) rfl)) (pw_and1 (q_cmp op_eq (qv 1) pe_str (nomark _))))) (pss_one (q_sfld (qv 0) pe_bl rfl)) pss_nil)
    (pss_one (ps_expr (q_meth (q_fld (qv 0) rfl) T.cl_TreeWay T.me_TreeWay_goes_on (ok_TreeWay_goes_on T) (hr.mono (by decide)) T.b_TreeWay_goes_on pass0 (pa_cons (q_fld (qv 0) rfl) (pa_cons (qv 1) pa_nil)))))), ?_⟩
    cases spoke with
    | false =>
      dsimp! [T.n_TreeWay_skips, lk_TreeWay_skips, pf_TreeWay_skips, T.n_TreeWay_joins, lk_TreeWay_joins, pf_TreeWay_joins, T.n_TreeWay_digits, lk_TreeWay_digits, pf_TreeWay_digits, T.n_TreeWay_level, lk_TreeWay_level, pf_TreeWay_level, T.n_TreeWay_levels, lk_TreeWay_levels, pf_TreeWay_levels, T.n_TreeWay_skipping, lk_TreeWay_skipping, pf_TreeWay_skipping, T.cl_TreeWay, ln_TreeWay, pm_TreeWay_1, pm_TreeWay_2, pm_TreeWay_3, pm_TreeWay_4, pm_TreeWay_5, lm_TreeWay_wants, lm_TreeWay_goes_on, lm_TreeWay_split_level, lm_TreeWay_drop_level, lm_TreeWay_standing, T.n_Station_way, lk_Station_way, pf_Station_way, T.n_Station_spoke, lk_Station_spoke, pf_Station_spoke, T.n_Station_over, lk_Station_over, pf_Station_over, T.cl_Station, ln_Station, pm_Station_1, pm_Station_2, lm_Station_speaks, lm_Station_hears, lm_Station_standing, ob, hq]
      exact go over H wy (.inr ⟨rfl, rfl⟩) (by simp [StM.hears])
    | true =>
      cases wd with
      | hrd =>
        dsimp! [T.n_TreeWay_skips, lk_TreeWay_skips, pf_TreeWay_skips, T.n_TreeWay_joins, lk_TreeWay_joins, pf_TreeWay_joins, T.n_TreeWay_digits, lk_TreeWay_digits, pf_TreeWay_digits, T.n_TreeWay_level, lk_TreeWay_level, pf_TreeWay_level, T.n_TreeWay_levels, lk_TreeWay_levels, pf_TreeWay_levels, T.n_TreeWay_skipping, lk_TreeWay_skipping, pf_TreeWay_skipping, T.cl_TreeWay, ln_TreeWay, pm_TreeWay_1, pm_TreeWay_2, pm_TreeWay_3, pm_TreeWay_4, pm_TreeWay_5, lm_TreeWay_wants, lm_TreeWay_goes_on, lm_TreeWay_split_level, lm_TreeWay_drop_level, lm_TreeWay_standing, T.n_Station_way, lk_Station_way, pf_Station_way, T.n_Station_spoke, lk_Station_spoke, pf_Station_spoke, T.n_Station_over, lk_Station_over, pf_Station_over, T.cl_Station, ln_Station, pm_Station_1, pm_Station_2, lm_Station_speaks, lm_Station_hears, lm_Station_standing, ob, hq, hq1, Wd.s]
        exact go true _ wy1 (.inl rfl) (by simp [StM.hears])
      | sil =>
        dsimp! [T.n_TreeWay_skips, lk_TreeWay_skips, pf_TreeWay_skips, T.n_TreeWay_joins, lk_TreeWay_joins, pf_TreeWay_joins, T.n_TreeWay_digits, lk_TreeWay_digits, pf_TreeWay_digits, T.n_TreeWay_level, lk_TreeWay_level, pf_TreeWay_level, T.n_TreeWay_levels, lk_TreeWay_levels, pf_TreeWay_levels, T.n_TreeWay_skipping, lk_TreeWay_skipping, pf_TreeWay_skipping, T.cl_TreeWay, ln_TreeWay, pm_TreeWay_1, pm_TreeWay_2, pm_TreeWay_3, pm_TreeWay_4, pm_TreeWay_5, lm_TreeWay_wants, lm_TreeWay_goes_on, lm_TreeWay_split_level, lm_TreeWay_drop_level, lm_TreeWay_standing, T.n_Station_way, lk_Station_way, pf_Station_way, T.n_Station_spoke, lk_Station_spoke, pf_Station_spoke, T.n_Station_over, lk_Station_over, pf_Station_over, T.cl_Station, ln_Station, pm_Station_1, pm_Station_2, lm_Station_speaks, lm_Station_hears, lm_Station_standing, ob, hq, Wd.s, wd_sh]
        exact go over H wy (.inr ⟨rfl, rfl⟩) (by simp [StM.hears])
      | noi =>
        dsimp! [T.n_TreeWay_skips, lk_TreeWay_skips, pf_TreeWay_skips, T.n_TreeWay_joins, lk_TreeWay_joins, pf_TreeWay_joins, T.n_TreeWay_digits, lk_TreeWay_digits, pf_TreeWay_digits, T.n_TreeWay_level, lk_TreeWay_level, pf_TreeWay_level, T.n_TreeWay_levels, lk_TreeWay_levels, pf_TreeWay_levels, T.n_TreeWay_skipping, lk_TreeWay_skipping, pf_TreeWay_skipping, T.cl_TreeWay, ln_TreeWay, pm_TreeWay_1, pm_TreeWay_2, pm_TreeWay_3, pm_TreeWay_4, pm_TreeWay_5, lm_TreeWay_wants, lm_TreeWay_goes_on, lm_TreeWay_split_level, lm_TreeWay_drop_level, lm_TreeWay_standing, T.n_Station_way, lk_Station_way, pf_Station_way, T.n_Station_spoke, lk_Station_spoke, pf_Station_spoke, T.n_Station_over, lk_Station_over, pf_Station_over, T.cl_Station, ln_Station, pm_Station_1, pm_Station_2, lm_Station_speaks, lm_Station_hears, lm_Station_standing, ob, hq, Wd.s, wd_nh]
        exact go over H wy (.inr ⟨rfl, rfl⟩) (by simp [StM.hears])
end
end OA

namespace OA
open PySem L2
local macro_rules
  | `(tactic| simp! [$a,*]) => `(tactic| simp -implicitDefEqProofs only [wNeD0, wRep, tDNewK, vDc, wSortDI, dkR_e, dkR_f, e_cut, wSetL, vLstRg, wLstD, e_lock, vVals, gSub, tCKw, frzO_e, viItems, viKeys, vRev, e_while, e_for, e_asgG, gName, vgTup, vgCons_e, vgNil_e, viList, viTup, viStr, viR1, viEnum, vLc, tYes, wipe, e_seq, e_next, e_drop, e_ret, e_retN, e_sfld, e_augI, e_aug, e_dput, vIf, vTest, wInT, vVar, vFld, tC, tOp, tUn, wI0, wIC, rEq, rNe, scal, wAddS, wMulS, wCat, wNeg, wIxL, wIxT, wIxS, vPart, tNoPart, tSl, wSlL, tCB, tCons, tNil, len_s, wTupL, wLstL, wAbs, wIntB, wMin2, wMax2, vAnd, vOr, vNot, vChain, vMeth, vCall, vMake, vLM0, vLM, isLst, wAppend, wPopAt, wInsert0, vStar, vDGet, vDIn, vDNotIn, tTup, tLst, tIf, tAnd, tOr, tNot, refR_e, intR_e, blR_e, strR_e, optR_e, keyR_i, keyR_s, insO_e, lstO_e, tupO_e, dkO_e, one1_e, two2_e, len_r, lenO_l, lenO_t, lenO_d, L2.start, List.map, List.replicate, List.length_cons, List.length_nil, List.cons_append, List.nil_append, List.append_nil, List.getElem?_cons_zero, List.getElem?_cons_succ, List.set_cons_zero, List.set_cons_succ, true_and, and_true, cx_K, cx_prog, cx_w, blkK, Int.toNat_natCast, upd_same, upd_upd, if_true, if_false, decide_eq_true_eq, reduceCtorEq, reduceIte, Bool.false_eq_true, decide_true, decide_false, Bool.true_and, Bool.false_and, Bool.and_true, Bool.and_false, Bool.not_true, Bool.not_false, V.int.injEq, V.str.injEq, V.bl.injEq, putF_nil, Nat.reduceAdd, Nat.reduceSub, Nat.reduceLT, Int.reduceEq, Int.reduceLT, Int.reduceLE, Int.reduceAdd, Int.reduceSub, Int.cast_ofNat_Int, wIsi, tyR_e, tyO_l, tyO_t, tyO_d, tyN_n, tyN_b, tyN_i, tyN_s, tyN_r, kit_NoneType_bool, kit_NoneType_int, kit_NoneType_str, kit_NoneType_list, kit_NoneType_tuple, kit_NoneType_dict, kit_bool_bool, kit_bool_int, kit_bool_str, kit_bool_list, kit_bool_tuple, kit_bool_dict, kit_int_bool, kit_int_int, kit_int_str, kit_int_list, kit_int_tuple, kit_int_dict, kit_str_bool, kit_str_int, kit_str_str, kit_str_list, kit_str_tuple, kit_str_dict, kit_list_bool, kit_list_int, kit_list_str, kit_list_list, kit_list_tuple, kit_list_dict, kit_tuple_bool, kit_tuple_int, kit_tuple_str, kit_tuple_list, kit_tuple_tuple, kit_tuple_dict, kit_dict_bool, kit_dict_int, kit_dict_str, kit_dict_list, kit_dict_tuple, kit_dict_dict, $a,*])
  | `(tactic| dsimp! [$a,*]) => `(tactic| ((try refine Later.mk ?_); simp! [$a,*]; repeat (refine Later.mk ?_; simp! [$a,*])))
def initM (R : RuleM) (many n : Nat) : StM := ⟨wayM R many n, false, false⟩
def bK (b : Bool) : NestedKey := .num (if b = true then 1 else 0)
def lvK : Option Int → NestedKey
  | none => .none
  | some i => .num i
def WayM.key : WayM → NestedKey
  | .row _ k => .tup [.num k]
  | .wait _ p l => .tup [.num l, .num p]
  | .tree _ _ _ lv ls skp => .tup [lvK lv, .tup (ls.map fun (k : Nat) => .num k), bK skp]
def StM.key (m : StM) : NestedKey := .tup [bK m.over, m.way.key]
section
variable {P : Program} {w : World} {K : PySem.W.Frag} {mg : Str → Option Value} {base : Heap} {A : Ad}
theorem keysN {H : Hp} : ∀ ls : List Nat, KeysAt H (ls.map nV) (ls.map fun (k : Nat) => NestedKey.num k)
  | [] => .nil
  | k :: ls => .cons (.int k) (keysN ls)
theorem key_lv {H : Hp} (lv : Option Int) : KeyAt H (lvV lv) (lvK lv) := by
  cases lv with
  | none => exact .non
  | some i => exact .int i
def spSInit (A : Ad) : Sp := fun vs H Q _ => ∃ (p dx a : Addr) (many n : Nat) (R : RuleM), vs = [.ref p, .ref a, .int many, .int n] ∧ H p = some (.ins A.c_Station dx []) ∧ RuleAt H a R ∧ R.OkN many ∧ n < many ∧ many ≤ 8 ∧ RW A R H ∧
  ∀ q H', Kept p H H' → H q = none → StAt A H' p q (initM R many n) → (∀ b, Leans H' q b → H b = none) → Q .non H'
theorem sc_Station___init__ : FnScope ["self", "rule", "many", "number"] ["self", "rule", "many", "number"] (defScope s_Station___init__) := ⟨rfl, rfl, rfl, by decide +kernel, rfl, by decide +kernel, by decide +kernel⟩
theorem ok_Station___init__ (T : Txt K mg base A) : FnOk P w K mg base CX0 8 A.Station___init__ A.d_Station___init__ ["self", "rule", "many", "number"] (spSInit A) := by
  refine T.F_Station___init__.ok sc_Station___init__ (fun vs H Q E h => ?_) (fun cdv A' outer s H vs Q E hr h => ?_)
  · obtain ⟨p, dx, a, many, n, R, rfl, _⟩ := h
    rfl
  obtain ⟨p, dx, a, many, n, R, rfl, hp, hR, hok, hn, h8, hW, kk⟩ := h
  have hu := hu_of hr
  refine ⟨_, (qs_cons (ps_expr (q_call (ok_check_many T) (hr.mono (by decide)) rfl T.g_check_many T.k_check_many T.b_check_many pass0 (pa_cons (qv 2) pa_nil)))
    (qs_cons (ps_expr (q_call (ok_check_rule T) (hr.mono (by decide)) rfl T.g_check_rule T.k_check_rule T.b_check_rule pass0 (pa_cons (qv 1) (pa_cons (qv 2) pa_nil))))
    (qs_cons (q_sfld (qv 0) (q_call (ok_way_of T) (hr.mono (by decide)) rfl T.g_way_of T.k_way_of T.b_way_of pass0 (pa_cons (qv 1) (pa_cons (qv 2) (pa_cons (qv 3) pa_nil)))) rfl)
    (qs_cons (q_sfld (qv 0) pe_bl rfl)
    (pss_one (q_sfld (qv 0) pe_bl rfl)))))), ?_⟩
  dsimp! [T.n_Station_way, lk_Station_way, pf_Station_way, T.n_Station_spoke, lk_Station_spoke, pf_Station_spoke, T.n_Station_over, lk_Station_over, pf_Station_over, T.cl_Station, ln_Station, pm_Station_1, pm_Station_2, lm_Station_speaks, lm_Station_hears, lm_Station_standing, hp]
  refine ⟨many, rfl, by omega, h8, ?_⟩
  dsimp! [T.n_Station_way, lk_Station_way, pf_Station_way, T.n_Station_spoke, lk_Station_spoke, pf_Station_spoke, T.n_Station_over, lk_Station_over, pf_Station_over, T.cl_Station, ln_Station, pm_Station_1, pm_Station_2, lm_Station_speaks, lm_Station_hears, lm_Station_standing, hp]
  refine ⟨a, many, R, rfl, hR, hok, ⟨by omega, h8⟩, hW.rt, fun H0 H1 t0 s1 => ?_⟩
  rw [t0.same hW] at s1
  dsimp! [T.n_Station_way, lk_Station_way, pf_Station_way, T.n_Station_spoke, lk_Station_spoke, pf_Station_spoke, T.n_Station_over, lk_Station_over, pf_Station_over, T.cl_Station, ln_Station, pm_Station_1, pm_Station_2, lm_Station_speaks, lm_Station_hears, lm_Station_standing, hp]
  refine ⟨a, many, n, R, rfl, hR.same s1, hok, hn, h8, fun q H2 s2 hq hw hlq => ?_⟩
  have hp2 := s2 _ _ (s1 _ _ hp)
  dsimp! [T.n_Station_way, lk_Station_way, pf_Station_way, T.n_Station_spoke, lk_Station_spoke, pf_Station_spoke, T.n_Station_over, lk_Station_over, pf_Station_over, T.cl_Station, ln_Station, pm_Station_1, pm_Station_2, lm_Station_speaks, lm_Station_hears, lm_Station_standing, hp2]
  have nq : q ≠ p := fun e => by
    rw [e, s1 _ _ hp] at hq
    cases hq
  have hq0 : H q = none := by
    cases e : H q with
    | none => rfl
    | some o => rw [s1 _ _ e] at hq; cases hq
  refine kk q _ (fun b o e nb => ?_) hq0 ⟨nq, ⟨dx, upd_same⟩, hw.put hp2 nq⟩ fun b hb => ?_
  rotate_left
  · rw [Leans.put nq] at hb
    have := hlq b hb
    cases e : H b with
    | none => rfl
    | some o => rw [s1 _ _ e] at this; cases this
  rw [upd_ne nb]
  exact s2 _ _ (s1 _ _ e)
def spSStand (A : Ad) : Sp := fun vs H Q _ => ∃ (p q : Addr) (m : StM), vs = [.ref p] ∧ StAt A H p q m ∧ ∀ t H', Same H H' → KeyAt H' (.ref t) m.key → Q (.ref t) H'
theorem sc_Station_standing : FnScope ["self"] ["self"] (defScope s_Station_standing) := ⟨rfl, rfl, rfl, by decide +kernel, rfl, by decide +kernel, by decide +kernel⟩
theorem ok_Station_standing (T : Txt K mg base A) : FnOk P w K mg base CX0 2 A.Station_standing A.d_Station_standing ["self"] (spSStand A) := by
  refine T.F_Station_standing.ok sc_Station_standing (fun vs H Q E h => ?_) (fun cdv A' outer s H vs Q E hr h => ?_)
  · obtain ⟨p, q, m, rfl, _⟩ := h
    rfl
  obtain ⟨p, q, m, rfl, S, kk⟩ := h
  have hu := hu_of hr
  obtain ⟨ne, ⟨dx, ob⟩, wy⟩ := S
  obtain ⟨way, spoke, over⟩ := m
  have fin : ∀ (u : Addr) (H1 : Hp), Same H H1 → KeyAt H1 (.ref u) way.key → ∀ t, H1 t = none → Q (.ref t) (upd H1 t (.tup [.bl over, .ref u])) := by
    intro u H1 s1 k1 t ht
    refine kk t _ (s1.trans (Same.new ht)) (.tup upd_same (.cons (.bl over) (.cons (KeyAt.mono (fun b xs e => ?_) _ _ k1) .nil)))
    rw [upd_ne (ne_of_none e ht)]
    exact e
  cases way with
  | row r k =>
    obtain ⟨dq, hq⟩ := id wy
    refine ⟨_, (pss_one (ps_ret (pe_tup (pa_cons (q_fld (qv 0) rfl) (pa_cons (q_meth0 (q_fld (qv 0) rfl) T.cl_RowWay T.me_RowWay_standing (ok_RowWay_standing T) (hr.mono (by decide)) T.b_RowWay_standing pass0) pa_nil))))), ?_⟩
    dsimp! [T.n_RowWay_row, lk_RowWay_row, pf_RowWay_row, T.n_RowWay_place, lk_RowWay_place, pf_RowWay_place, T.cl_RowWay, ln_RowWay, pm_RowWay_1, lm_RowWay_wants, lm_RowWay_goes_on, lm_RowWay_standing, T.n_Station_way, lk_Station_way, pf_Station_way, T.n_Station_spoke, lk_Station_spoke, pf_Station_spoke, T.n_Station_over, lk_Station_over, pf_Station_over, T.cl_Station, ln_Station, pm_Station_1, pm_Station_2, lm_Station_speaks, lm_Station_hears, lm_Station_standing, ob, hq]
    refine ⟨q, dq, _, _, rfl, hq, fun u hu1 => ?_⟩
    dsimp! []
    exact ⟨by decide, fun t ht => fin u _ (Same.new hu1) (.tup upd_same (.cons (.int _) .nil)) t ht⟩
  | wait ds k l =>
    obtain ⟨dq, d, hq, hd⟩ := id wy
    refine ⟨_, (pss_one (ps_ret (pe_tup (pa_cons (q_fld (qv 0) rfl) (pa_cons (q_meth0 (q_fld (qv 0) rfl) T.cl_WaitWay T.me_WaitWay_standing (ok_WaitWay_standing T) (hr.mono (by decide)) T.b_WaitWay_standing pass0) pa_nil))))), ?_⟩
    dsimp! [T.n_WaitWay_digits, lk_WaitWay_digits, pf_WaitWay_digits, T.n_WaitWay_place, lk_WaitWay_place, pf_WaitWay_place, T.n_WaitWay_left, lk_WaitWay_left, pf_WaitWay_left, T.cl_WaitWay, ln_WaitWay, pm_WaitWay_1, pm_WaitWay_2, lm_WaitWay_wants, lm_WaitWay_goes_on, lm_WaitWay_standing, T.n_Station_way, lk_Station_way, pf_Station_way, T.n_Station_spoke, lk_Station_spoke, pf_Station_spoke, T.n_Station_over, lk_Station_over, pf_Station_over, T.cl_Station, ln_Station, pm_Station_1, pm_Station_2, lm_Station_speaks, lm_Station_hears, lm_Station_standing, ob, hq]
    refine ⟨q, dq, _, _, _, rfl, hq, fun u hu1 => ?_⟩
    dsimp! []
    exact ⟨by decide, fun t ht => fin u _ (Same.new hu1) (.tup upd_same (.cons (.int _) (.cons (.int _) .nil))) t ht⟩
  | tree sk jn ds lv ls skp =>
    obtain ⟨dq, d, l, S⟩ := id wy
    have hq := S.ob
    refine ⟨_, (pss_one (ps_ret (pe_tup (pa_cons (q_fld (qv 0) rfl) (pa_cons (q_meth0 (q_fld (qv 0) rfl) T.cl_TreeWay T.me_TreeWay_standing (ok_TreeWay_standing T) (hr.mono (by decide)) T.b_TreeWay_standing pass0) pa_nil))))), ?_⟩
    dsimp! [T.n_TreeWay_skips, lk_TreeWay_skips, pf_TreeWay_skips, T.n_TreeWay_joins, lk_TreeWay_joins, pf_TreeWay_joins, T.n_TreeWay_digits, lk_TreeWay_digits, pf_TreeWay_digits, T.n_TreeWay_level, lk_TreeWay_level, pf_TreeWay_level, T.n_TreeWay_levels, lk_TreeWay_levels, pf_TreeWay_levels, T.n_TreeWay_skipping, lk_TreeWay_skipping, pf_TreeWay_skipping, T.cl_TreeWay, ln_TreeWay, pm_TreeWay_1, pm_TreeWay_2, pm_TreeWay_3, pm_TreeWay_4, pm_TreeWay_5, lm_TreeWay_wants, lm_TreeWay_goes_on, lm_TreeWay_split_level, lm_TreeWay_drop_level, lm_TreeWay_standing, T.n_Station_way, lk_Station_way, pf_Station_way, T.n_Station_spoke, lk_Station_spoke, pf_Station_spoke, T.n_Station_over, lk_Station_over, pf_Station_over, T.cl_Station, ln_Station, pm_Station_1, pm_Station_2, lm_Station_speaks, lm_Station_hears, lm_Station_standing, ob, hq]
    refine ⟨q, dq, d, l, sk, jn, ds, lv, ls, skp, rfl, S, fun v hv u hu1 => ?_⟩
    dsimp! []
    refine ⟨by decide, fun t ht => fin u _ ((Same.new hv).trans (Same.new hu1)) (.tup upd_same (.cons (key_lv lv) (.cons (.tup ?_ (keysN ls)) (.cons (.bl skp) .nil)))) t ht⟩
    rw [upd_ne (ne_of_none upd_same hu1), upd_same]
end
end OA

namespace OA
open PySem L2
local macro_rules
  | `(tactic| simp! [$a,*]) => `(tactic| simp -implicitDefEqProofs only [wNeD0, wRep, tDNewK, vDc, wSortDI, dkR_e, dkR_f, e_cut, wSetL, vLstRg, wLstD, e_lock, vVals, gSub, tCKw, frzO_e, viItems, viKeys, vRev, e_while, e_for, e_asgG, gName, vgTup, vgCons_e, vgNil_e, viList, viTup, viStr, viR1, viEnum, vLc, tYes, wipe, e_seq, e_next, e_drop, e_ret, e_retN, e_sfld, e_augI, e_aug, e_dput, vIf, vTest, wInT, vVar, vFld, tC, tOp, tUn, wI0, wIC, rEq, rNe, scal, wAddS, wMulS, wCat, wNeg, wIxL, wIxT, wIxS, vPart, tNoPart, tSl, wSlL, tCB, tCons, tNil, len_s, wTupL, wLstL, wAbs, wIntB, wMin2, wMax2, vAnd, vOr, vNot, vChain, vMeth, vCall, vMake, vLM0, vLM, isLst, wAppend, wPopAt, wInsert0, vStar, vDGet, vDIn, vDNotIn, tTup, tLst, tIf, tAnd, tOr, tNot, refR_e, intR_e, blR_e, strR_e, optR_e, keyR_i, keyR_s, insO_e, lstO_e, tupO_e, dkO_e, one1_e, two2_e, len_r, lenO_l, lenO_t, lenO_d, L2.start, List.map, List.replicate, List.length_cons, List.length_nil, List.cons_append, List.nil_append, List.append_nil, List.getElem?_cons_zero, List.getElem?_cons_succ, List.set_cons_zero, List.set_cons_succ, true_and, and_true, cx_K, cx_prog, cx_w, blkK, Int.toNat_natCast, upd_same, upd_upd, if_true, if_false, decide_eq_true_eq, reduceCtorEq, reduceIte, Bool.false_eq_true, decide_true, decide_false, Bool.true_and, Bool.false_and, Bool.and_true, Bool.and_false, Bool.not_true, Bool.not_false, V.int.injEq, V.str.injEq, V.bl.injEq, putF_nil, Nat.reduceAdd, Nat.reduceSub, Nat.reduceLT, Int.reduceEq, Int.reduceLT, Int.reduceLE, Int.reduceAdd, Int.reduceSub, Int.cast_ofNat_Int, wIsi, tyR_e, tyO_l, tyO_t, tyO_d, tyN_n, tyN_b, tyN_i, tyN_s, tyN_r, kit_NoneType_bool, kit_NoneType_int, kit_NoneType_str, kit_NoneType_list, kit_NoneType_tuple, kit_NoneType_dict, kit_bool_bool, kit_bool_int, kit_bool_str, kit_bool_list, kit_bool_tuple, kit_bool_dict, kit_int_bool, kit_int_int, kit_int_str, kit_int_list, kit_int_tuple, kit_int_dict, kit_str_bool, kit_str_int, kit_str_str, kit_str_list, kit_str_tuple, kit_str_dict, kit_list_bool, kit_list_int, kit_list_str, kit_list_list, kit_list_tuple, kit_list_dict, kit_tuple_bool, kit_tuple_int, kit_tuple_str, kit_tuple_list, kit_tuple_tuple, kit_tuple_dict, kit_dict_bool, kit_dict_int, kit_dict_str, kit_dict_list, kit_dict_tuple, kit_dict_dict, $a,*])
  | `(tactic| dsimp! [$a,*]) => `(tactic| ((try refine Later.mk ?_); simp! [$a,*]; repeat (refine Later.mk ?_; simp! [$a,*])))
/-! one moment of all stations, by their numbers -/
def asksF (aw : Nat → Bool) (f : Nat → StM) : Nat → StM := fun j => (f j).asked (aw j)
def spkF (f : Nat → StM) (n : Nat) : List Nat := (List.range n).filter fun j => (f j).spoke
def hearsF (wd : Wd) (f : Nat → StM) : Nat → StM := fun j => (f j).hears wd
def mixF (i : Nat) (g f : Nat → StM) : Nat → StM := fun j => if j < i then g j else f j
theorem asked_deep (b : Bool) (m : WayM) : (m.asked b).deep ≤ m.deep + 1 := by
  cases m with
  | row r k => exact Nat.zero_le _
  | wait ds k l => exact Nat.zero_le _
  | tree sk jn ds lv ls skp =>
    show (opened ls).length ≤ ls.length + 1
    unfold opened
    split
    · simp
    · omega
theorem mixF_zero (g f : Nat → StM) : mixF 0 g f = f := by funext j; simp [mixF]
section
variable {P : Program} {w : World} {K : PySem.W.Frag} {mg : Str → Option Value} {base : Heap} {A : Ad}
def AllAt (A : Ad) (H : Hp) (ps : List (Addr × Addr)) (f : Nat → StM) : Prop := ∀ j p, ps[j]? = some p → StAt A H p.1 p.2 (f j)
def Apart (ps : List (Addr × Addr)) : Prop := ∀ (i j : Nat) (p p' : Addr × Addr), ps[i]? = some p → ps[j]? = some p' → i ≠ j → p'.1 ≠ p.1 ∧ p'.1 ≠ p.2 ∧ p'.2 ≠ p.1 ∧ p'.2 ≠ p.2
def KeptL (ps : List (Addr × Addr)) (H H' : Hp) : Prop := ∀ b o, H b = some o → (∀ p ∈ ps, b ≠ p.1 ∧ b ≠ p.2) → H' b = some o
theorem KeptL.refl (ps : List (Addr × Addr)) (H : Hp) : KeptL ps H H := fun _ _ h _ => h
theorem KeptL.trans {ps : List (Addr × Addr)} {H H1 H2 : Hp} (a : KeptL ps H H1) (b : KeptL ps H1 H2) : KeptL ps H H2 := fun x o h n => b x o (a x o h n) n
theorem KeptL.same {ps : List (Addr × Addr)} {H H1 : Hp} (a : Same H H1) : KeptL ps H H1 := fun x o h _ => a x o h
theorem KeptL.one {ps : List (Addr × Addr)} {H H1 : Hp} {p : Addr × Addr} (hp : p ∈ ps) (a : Kept2 p.1 p.2 H H1) : KeptL ps H H1 := fun x o h n => a x o h (n p hp).1 (n p hp).2
theorem WayAt.ins {H : Hp} {q : Addr} {m : WayM} (h : WayAt A H q m) : ∃ C dx fs, H q = some (.ins C dx fs) := by
  cases m with
  | row r k =>
    obtain ⟨dx, h⟩ := h
    exact ⟨_, _, _, h⟩
  | wait ds k l =>
    obtain ⟨dx, d, h, _⟩ := h
    exact ⟨_, _, _, h⟩
  | tree sk jn ds lv ls skp =>
    obtain ⟨dx, d, l, h⟩ := h
    exact ⟨_, _, _, h.ob⟩
def isIns : HO → Bool
  | .ins _ _ _ => true
  | _ => false
/-- what is no instance is kept -/
theorem StAt.off {H : Hp} {p q b : Addr} {m : StM} {o : HO} (S : StAt A H p q m) (h : H b = some o) (n : isIns o = false) : b ≠ p ∧ b ≠ q := by
  obtain ⟨_, ⟨dx, ob⟩, wy⟩ := S
  obtain ⟨C, dq, fs, hq⟩ := wy.ins
  exact ⟨ne_of h ob (by rintro rfl; cases n), ne_of h hq (by rintro rfl; cases n)⟩
theorem AllAt.off {H H' : Hp} {ps : List (Addr × Addr)} {f : Nat → StM} (S : AllAt A H ps f) (k : KeptL ps H H') {b : Addr} {o : HO} (h : H b = some o) (n : isIns o = false) : H' b = some o := by
  refine k b o h fun p hp => ?_
  obtain ⟨j, hj⟩ := List.getElem?_of_mem hp
  exact (S j p hj).off h n
theorem StAt.same {H H' : Hp} {p q : Addr} {m : StM} (S : StAt A H p q m) (e : Same H H') : StAt A H' p q m := by
  obtain ⟨ne, ⟨dx, ob⟩, wy⟩ := S
  exact ⟨ne, ⟨dx, e _ _ ob⟩, wy.same e⟩
theorem AllAt.same {H H' : Hp} {ps : List (Addr × Addr)} {f : Nat → StM} (S : AllAt A H ps f) (e : Same H H') : AllAt A H' ps f := fun j p hj => (S j p hj).same e
theorem StAt.kept {H H' : Hp} {p q p' q' : Addr} {m m' : StM} (S' : StAt A H p' q' m') (S : StAt A H p q m) (k : Kept2 p q H H') (a : p' ≠ p ∧ p' ≠ q ∧ q' ≠ p ∧ q' ≠ q) : StAt A H' p' q' m' := by
  obtain ⟨a1, a2, a3, a4⟩ := a
  obtain ⟨ne, ⟨dx, ob⟩, wy⟩ := S'
  have lst : ∀ d xs, H d = some (.lst xs) → H' d = some (.lst xs) := fun d xs e => by
    have := S.off e rfl
    exact k d _ e this.1 this.2
  refine ⟨ne, ⟨dx, k _ _ ob a1 a2⟩, ?_⟩
  cases e : m'.way with
  | row r i =>
    rw [e] at wy
    obtain ⟨dq, h⟩ := wy
    exact ⟨dq, k _ _ h a3 a4⟩
  | wait ds i l =>
    rw [e] at wy
    obtain ⟨dq, d, h1, h2⟩ := wy
    exact ⟨dq, d, k _ _ h1 a3 a4, lst _ _ h2⟩
  | tree sk jn ds lv ls skp =>
    rw [e] at wy
    obtain ⟨dq, d, l, h1, h2, h3⟩ := wy
    exact ⟨dq, d, l, k _ _ h1 a3 a4, lst _ _ h2, lst _ _ h3⟩
/-- one station has gone on -/
theorem AllAt.step {H H' : Hp} {ps : List (Addr × Addr)} {f g : Nat → StM} {i : Nat} {p : Addr × Addr} (S : AllAt A H ps (mixF i g f)) (ap : Apart ps) (hp : ps[i]? = some p) (k : Kept2 p.1 p.2 H H') (new : StAt A H' p.1 p.2 (g i)) : AllAt A H' ps (mixF (i + 1) g f) := by
  intro j p' hj
  by_cases e : j = i
  · subst e
    rw [hp] at hj
    cases hj
    unfold mixF
    rw [if_pos (Nat.lt_succ_self _)]
    exact new
  · have e1 : mixF (i + 1) g f j = mixF i g f j := by
      unfold mixF
      by_cases h : j < i
      · rw [if_pos h, if_pos (by omega)]
      · rw [if_neg h, if_neg (by omega)]
    rw [e1]
    exact (S j p' hj).kept (S i p hp) k (ap i j p p' hp hj (Ne.symm e))
/-- what moves when stations go on -/
structure Mv (ps : List (Addr × Addr)) (H H' : Hp) : Prop where
  kept : KeptL ps H H'
  fresh : ∀ p ∈ ps, ∀ b, Leans H' p.2 b → Leans H p.2 b ∨ H b = none
  back : ∀ b, H' b = none → H b = none
theorem Mv.refl (ps : List (Addr × Addr)) (H : Hp) : Mv ps H H := ⟨KeptL.refl ps H, fun _ _ _ h => .inl h, fun _ h => h⟩
theorem Mv.trans {ps : List (Addr × Addr)} {H H1 H2 : Hp} (a : Mv ps H H1) (b : Mv ps H1 H2) : Mv ps H H2 := ⟨a.kept.trans b.kept, fun p hp c h => by
  rcases b.fresh p hp c h with h | h
  · exact a.fresh p hp c h
  · exact .inr (a.back c h), fun c h => a.back c (b.back c h)⟩
theorem Mv.same {H H' : Hp} {ps : List (Addr × Addr)} {f : Nat → StM} (S : AllAt A H ps f) (e : Same H H') : Mv ps H H' := ⟨KeptL.same e, fun p hp b h => by
  obtain ⟨j, hj⟩ := List.getElem?_of_mem hp
  obtain ⟨C, dx, fs, hq⟩ := (S j p hj).wy.ins
  obtain ⟨C1, d1, f1, g, h1, h2⟩ := h
  rw [e _ _ hq] at h1
  cases h1
  exact .inl ⟨_, _, _, g, hq, h2⟩, Same.back e⟩
theorem Mv.one {H H' : Hp} {ps : List (Addr × Addr)} {f g : Nat → StM} {i : Nat} {p : Addr × Addr} (S : AllAt A H ps f) (S' : AllAt A H' ps g) (ap : Apart ps) (hp : ps[i]? = some p) (k : Kept2 p.1 p.2 H H') (fr : Fresh p.2 H H') : Mv ps H H' := by
  refine ⟨KeptL.one (List.mem_of_getElem? hp) k, fun p' hp' b h => ?_, fun b h => ?_⟩
  · obtain ⟨j, hj⟩ := List.getElem?_of_mem hp'
    by_cases e : j = i
    · subst e
      rw [hp] at hj
      cases hj
      exact fr b h
    · obtain ⟨_, _, a3, a4⟩ := ap i j p p' hp hj (Ne.symm e)
      obtain ⟨C, dx, fs, hq⟩ := (S j p' hj).wy.ins
      obtain ⟨C1, d1, f1, g, h1, h2⟩ := h
      rw [k _ _ hq a3 a4] at h1
      cases h1
      exact .inl ⟨_, _, _, g, hq, h2⟩
  · cases q : H b with
    | none => rfl
    | some o =>
      have Sp := S' i p hp
      by_cases e1 : b = p.1
      · obtain ⟨dx, ob⟩ := Sp.ob
        rw [e1, ob] at h
        cases h
      · by_cases e2 : b = p.2
        · obtain ⟨C, dx, fs, hq⟩ := Sp.wy.ins
          rw [e2, hq] at h
          cases h
        · rw [k b o q e1 e2] at h
          cases h
/-- no way leans on D -/
def NoLean (ps : List (Addr × Addr)) (H : Hp) (D : Addr) : Prop := ∀ p ∈ ps, ¬ Leans H p.2 D
theorem NoLean.mv {H H' : Hp} {ps : List (Addr × Addr)} {D : Addr} {o : HO} (n : NoLean ps H D) (h : H D = some o) (m : Mv ps H H') : NoLean ps H' D := fun p hp hl => by
  rcases m.fresh p hp D hl with z | z
  · exact n p hp z
  · rw [h] at z
    cases z
theorem NoLean.new {H : Hp} {ps : List (Addr × Addr)} {f : Nat → StM} {D : Addr} {o : HO} (S : AllAt A H ps f) (hD : H D = none) : NoLean ps (upd H D o) D := fun p hp hl => by
  obtain ⟨j, hj⟩ := List.getElem?_of_mem hp
  have w := (S j p hj).wy
  obtain ⟨C, dx, fs, hq⟩ := w.ins
  rw [Leans.put (ne_of_none hq hD)] at hl
  obtain ⟨xs, e⟩ := w.leans hl
  rw [hD] at e
  cases e
theorem NoLean.put {H : Hp} {ps : List (Addr × Addr)} {f : Nat → StM} {D E : Addr} {o u : HO} (S : AllAt A H ps f) (n : NoLean ps H D) (h : H E = some u) (nu : isIns u = false) : NoLean ps (upd H E o) D := fun p hp hl => by
  obtain ⟨j, hj⟩ := List.getElem?_of_mem hp
  have off := (S j p hj).off h nu
  rw [Leans.put off.2.symm] at hl
  exact n p hp hl
/-- a list that no way leans on is changed -/
theorem AllAt.put {H : Hp} {ps : List (Addr × Addr)} {f : Nat → StM} {D : Addr} {o u : HO} (S : AllAt A H ps f) (h : H D = some u) (nu : isIns u = false) (n : NoLean ps H D) : AllAt A (upd H D o) ps f := fun j p hj => by
  have Sp := S j p hj
  have off := Sp.off h nu
  have nl := n p (List.mem_of_getElem? hj)
  obtain ⟨ne, ⟨dx, ob⟩, wy⟩ := Sp
  refine ⟨ne, ⟨dx, by rw [upd_ne off.1.symm]; exact ob⟩, ?_⟩
  cases e : (f j).way with
  | row r i =>
    rw [e] at wy
    obtain ⟨dq, h⟩ := wy
    exact ⟨dq, by rw [upd_ne off.2.symm]; exact h⟩
  | wait ds i l =>
    rw [e] at wy
    obtain ⟨dq, d, h1, h2⟩ := wy
    have nd : d ≠ D := fun z => nl (by rw [← z]; exact ⟨_, _, _, "digits", h1, by simp [F_WaitWay]⟩)
    exact ⟨dq, d, by rw [upd_ne off.2.symm]; exact h1, by rw [upd_ne nd]; exact h2⟩
  | tree sk jn ds lv ls skp =>
    rw [e] at wy
    obtain ⟨dq, d, l, h1, h2, h3⟩ := wy
    have nd : d ≠ D := fun z => nl (by rw [← z]; exact ⟨_, _, _, "digits", h1, by simp [F_TreeWay]⟩)
    have nl' : l ≠ D := fun z => nl (by rw [← z]; exact ⟨_, _, _, "levels", h1, by simp [F_TreeWay]⟩)
    exact ⟨dq, d, l, by rw [upd_ne off.2.symm]; exact h1, by rw [upd_ne nd]; exact h2, by rw [upd_ne nl']; exact h3⟩
/-- an object that H0 doesn't have has changed -/
theorem Mv.put {H0 H : Hp} {ps : List (Addr × Addr)} {f : Nat → StM} {D : Addr} {o u : HO} (m : Mv ps H0 H) (S : AllAt A H ps f) (hD : H0 D = none) (h : H D = some u) (nu : isIns u = false) : Mv ps H0 (upd H D o) := ⟨fun b x e n => by
    rw [upd_ne (ne_of_none e hD)]
    exact m.kept b x e n, fun p hp b hl => by
    obtain ⟨j, hj⟩ := List.getElem?_of_mem hp
    rw [Leans.put ((S j p hj).off h nu).2.symm] at hl
    exact m.fresh p hp b hl, fun b hb => by
    by_cases n : b = D
    · rw [n, upd_same] at hb
      cases hb
    · rw [upd_ne n] at hb
      exact m.back b hb⟩
def spMoment (A : Ad) : Sp := fun vs H Q _ => ∃ (L W : Addr) (ps : List (Addr × Addr)) (f : Nat → StM) (aw : Nat → Bool), vs = [.ref L, .ref W] ∧ H L = some (.lst (ps.map fun p => .ref p.1)) ∧ H W = some (.lst ((List.range ps.length).map fun j => .bl (aw j))) ∧
  AllAt A H ps f ∧ Apart ps ∧ ps.length ≤ 8 ∧ (∀ j, j < ps.length → (f j).way.Ok ∧ (f j).way.deep ≤ 1000) ∧
  ∀ T s H', Mv ps H H' → H' T = some (.tup [.ref s, .str (nWd (spkF (asksF aw f) ps.length).length).s]) → H' s = some (.tup ((spkF (asksF aw f) ps.length).map nV)) →
    AllAt A H' ps (hearsF (nWd (spkF (asksF aw f) ps.length).length) (asksF aw f)) → Q (.ref T) H'
theorem sc_one_moment : FnScope ["stations", "awake", "asked", "speakers", "word", "station", "number", "spoke"] ["stations", "awake"] (defScope s_one_moment) := ⟨rfl, rfl, rfl, by decide +kernel, rfl, by decide +kernel, by decide +kernel⟩
theorem ok_one_moment (T : Txt K mg base A) : FnOk P w K mg base CX0 4 A.one_moment A.d_one_moment ["stations", "awake"] (spMoment A) := by
  refine T.F_one_moment.ok sc_one_moment (fun vs H Q E h => ?_) (fun cdv A' outer s H vs Q E hr h => ?_)
  · obtain ⟨L, W, ps, f, aw, rfl, _⟩ := h
    rfl
  obtain ⟨L, W, ps, f, aw, rfl, hL, hW, hS, ap, h8, ok, kk⟩ := h
  have hu := hu_of hr
  refine ⟨_, (qs_cons (q_setLc (i := 2) (own := [("number", 6), ("station", 5)]) (g := vgTup 2 (vgCons (gName 6) (vgCons (gName 5) (vgNil)))) (tt := tYes) rfl sc_one_moment.nd rfl rfl (sw_true rfl rfl rfl (by decide +kernel)) (qi_enum (by rfl) T.m_enumerate (pa_cons (qv 0) pa_nil)) (blkOk_by (own := [("number", 6), ("station", 5)]) (N := ["stations", "awake", "asked", "speakers", "word", "station", "number", "spoke"]) (sc := defScope s_one_moment) (by decide +kernel)) (fun _ _ _ _ _ => (q_gtup rfl (q_gcons (pg_name (i := 6) sc_one_moment.nd rfl (Or.inl rfl)) (q_gcons (pg_name (i := 5) sc_one_moment.nd rfl (Or.inl rfl)) q_gnil)))) (fun _ _ _ _ _ => pts_nil) (fun _ _ _ _ _ => (q_meth (qv 5) T.cl_Station T.me_Station_speaks (ok_Station_speaks T) (hr.mono (by decide)) T.b_Station_speaks pass0 (pa_cons (pe_ix ix_L (qv 1) (qv 6) (fun _ _ => rfl)) pa_nil))))
    (qs_cons (ps_set (i := 3) sc_one_moment.nd rfl (Or.inl rfl) (pe_callTy c_tupL (by rfl) T.m_tuple (by decide +kernel) (pa_cons (q_lc (own := [("number", 6), ("spoke", 7)]) (g := vgTup 2 (vgCons (gName 6) (vgCons (gName 7) (vgNil)))) rfl sc_one_moment.nd (qi_enum (by rfl) T.m_enumerate (pa_cons (qv 2) pa_nil)) (blkOk_by (own := [("number", 6), ("spoke", 7)]) (N := ["stations", "awake", "asked", "speakers", "word", "station", "number", "spoke"]) (sc := defScope s_one_moment) (by decide +kernel)) (fun _ _ _ _ _ => (q_gtup rfl (q_gcons (pg_name (i := 6) sc_one_moment.nd rfl (Or.inl rfl)) (q_gcons (pg_name (i := 7) sc_one_moment.nd rfl (Or.inl rfl)) q_gnil)))) (fun _ _ _ _ _ => pts_one (q_val (qv 7))) (fun _ _ _ _ _ => (qv 6))) pa_nil)))
    (qs_cons (ps_set (i := 4) sc_one_moment.nd rfl (Or.inl rfl) (q_call (ok_heard_word T) (hr.mono (by decide)) rfl T.g_heard_word T.k_heard_word T.b_heard_word pass0 (pa_cons (pe_callB c_len (by rfl) T.m_len (by decide +kernel) (pa_cons (qv 3) pa_nil)) pa_nil)))
    (qs_cons (q_for PassesOwn.never rfl (qi_list (qv 0)) (pg_name (i := 5) sc_one_moment.nd rfl (Or.inl rfl)) (pss_one (ps_expr (q_meth (qv 5) T.cl_Station T.me_Station_hears (ok_Station_hears T) (hr.mono (by decide)) T.b_Station_hears pass0 (pa_cons (qv 4) pa_nil)))))
    (pss_one (ps_ret (pe_tup (pa_cons (qv 3) (pa_cons (qv 4) pa_nil))))))))), ?_⟩
  have hlen : (ps.map fun p => V.ref p.1).length = ps.length := List.length_map _
  have s8 : ∀ n, n ≤ 8 → n < sizeLine := fun n h => by rw [sizeLine_eq]; omega
  have mapS : ∀ {i : Nat} (g : Nat → V), (List.range (i + 1)).map g = (List.range i).map g ++ [g i] := fun g => by rw [List.range_succ, List.map_append]; rfl
  have getp : ∀ {i : Nat} {x : V}, (ps.map fun p => V.ref p.1)[i]? = some x → ∃ p, ps[i]? = some p ∧ x = V.ref p.1 := fun {i x} e => by
    rw [List.getElem?_map] at e
    cases q : ps[i]? with
    | none => rw [q] at e; cases e
    | some p => rw [q] at e; exact ⟨p, rfl, (Option.some.inj e).symm⟩
  dsimp! [hL]
  intro D hD
  refine ⟨_, _, _, fun i H1 => H1 D = some (.lst ((List.range i).map fun j => V.bl (asksF aw f j).spoke)) ∧ AllAt A H1 ps (mixF i (asksF aw f) f) ∧ Mv ps H H1 ∧ NoLean ps H1 D, walk_enum (K := K) (a := L) (xs := ps.map fun p => V.ref p.1), ?_, ?_, ?_, ?_⟩
  · refine ⟨upd_same, ?_, Mv.same hS (Same.new hD), NoLean.new hS hD⟩
    rw [mixF_zero]
    exact hS.same (Same.new hD)
  · intro i H1 hi ⟨_, S1, m1, _⟩
    exact SqL.of (hS.off m1.kept hL rfl)
  · rintro i x H1 H2 hi ⟨hD1, S1, m1, nl1⟩ ⟨T0, x1, x2, rfl, hT0, rfl, e1, e2⟩
    cases e1
    obtain ⟨p, hp, rfl⟩ := getp e2
    have hi' : i < ps.length := by omega
    have sm : Same H1 (upd H1 T0 (.tup [V.int (i : Nat), V.ref p.1])) := Same.new hT0
    have S2 := S1.same sm
    have m2 := Mv.same S1 sm
    have Sp := S2 i p hp
    have em : mixF i (asksF aw f) f i = f i := by simp [mixF]
    rw [em] at Sp
    obtain ⟨dx, ob⟩ := Sp.ob
    have hW2 := sm _ _ (hS.off m1.kept hW rfl)
    have ha : atI ((List.range ps.length).map fun j => V.bl (aw j)) (i : Int) = some (V.bl (aw i)) := by
      refine atI_nat ?_
      rw [List.getElem?_map, List.getElem?_range hi']
      rfl
    have hD2 := sm _ _ hD1
    dsimp! [T.n_Station_way, lk_Station_way, pf_Station_way, T.n_Station_spoke, lk_Station_spoke, pf_Station_spoke, T.n_Station_over, lk_Station_over, pf_Station_over, T.cl_Station, ln_Station, pm_Station_1, pm_Station_2, lm_Station_speaks, lm_Station_hears, lm_Station_standing, ob, hW2, ha]
    refine ⟨p.1, p.2, f i, aw i, rfl, Sp, (ok i hi').1, fun H4 k4 f4 S4 => ?_⟩
    have offD := Sp.off hD2 rfl
    have hD4 := k4 D _ hD2 offD.1 offD.2
    have hlr : ((List.range i).map fun j => V.bl (asksF aw f j).spoke).length = i := by rw [List.length_map, List.length_range]
    have S5 := S2.step ap hp k4 S4
    have m4 := Mv.one S2 S5 ap hp k4 f4
    have nl4 := (nl1.mv hD1 m2).mv hD2 m4
    dsimp! [hD4]
    refine ⟨by rw [hlr]; exact s8 i (by omega), ?_, S5.put hD4 rfl nl4, ((m1.trans m2).trans m4).put S5 hD hD4 rfl, NoLean.put S5 nl4 hD4 rfl⟩
    rw [mapS]
    rfl
  · rintro H1 ⟨hD1, S1, m1, nl1⟩
    rw [hlen] at hD1 S1
    have S1 : AllAt A H1 ps (asksF aw f) := fun j p hj => by
      have := S1 j p hj
      have hj' := (List.getElem?_eq_some_iff.mp hj).1
      unfold mixF at this
      rw [if_pos hj'] at this
      exact this
    dsimp! [hD1]
    intro D2 hD2
    refine ⟨_, _, _, fun i H2 => H2 D2 = some (.lst ((spkF (asksF aw f) i).map nV)) ∧ (∀ b o, H1 b = some o → H2 b = some o), walk_enum (K := K) (a := D) (xs := (List.range ps.length).map fun j => V.bl (asksF aw f j).spoke), ⟨upd_same, Same.new hD2⟩, fun i H2 _ h => SqL.of (h.2 _ _ hD1), ?_, ?_⟩
    · rintro i x H2 H3 hi ⟨hd, sm⟩ ⟨T0, x1, x2, rfl, hT0, rfl, e1, e2⟩
      cases e1
      have hi' : i < ps.length := by rw [List.length_map, List.length_range] at hi; exact hi
      have e2 : ((List.range ps.length).map fun j => V.bl (asksF aw f j).spoke)[i]? = some x2 := e2
      rw [List.getElem?_map, List.getElem?_range hi'] at e2
      cases e2
      have hd3 := (Same.new (o := .tup [V.int (i : Nat), V.bl (asksF aw f i).spoke]) hT0) _ _ hd
      have sm3 := (show Same H1 H2 from sm).trans (Same.new (o := .tup [V.int (i : Nat), V.bl (asksF aw f i).spoke]) hT0)
      have hlr : ((spkF (asksF aw f) i).map nV).length ≤ i := by
        rw [List.length_map]
        exact Nat.le_trans (List.length_filter_le _ _) (by rw [List.length_range]; exact Nat.le_refl _)
      have sp1 : spkF (asksF aw f) (i + 1) = spkF (asksF aw f) i ++ (if (asksF aw f i).spoke = true then [i] else []) := by
        unfold spkF
        rw [List.range_succ, List.filter_append]
        congr 1
        by_cases c : (asksF aw f i).spoke = true
        · simp [c]
        · simp [c]
      dsimp! [hd3]
      refine ite2 (fun c => ?_) (fun c => ?_)
      · refine ⟨s8 _ (by omega), ?_, fun b o e => ?_⟩
        · rw [sp1, if_pos c, List.map_append]
          rfl
        · rw [upd_ne (ne_of_none e hD2)]
          exact sm3 b o e
      · refine ⟨?_, sm3⟩
        rw [sp1, if_neg c, List.append_nil]
        first
          | done
          | exact hd3
    · rintro H2 ⟨hd, sm⟩
      rw [List.length_map, List.length_range] at hd
      dsimp! [hd]
      intro s hs
      have sm2 : Same H1 (upd H2 s (.tup ((spkF (asksF aw f) ps.length).map nV))) := (show Same H1 H2 from sm).trans (Same.new hs)
      dsimp! []
      refine ⟨((spkF (asksF aw f) ps.length).map nV).length, rfl, ?_⟩
      rw [List.length_map]
      have S3 := S1.same sm2
      have m3 := m1.trans (Mv.same S1 sm2)
      have hs3 : (upd H2 s (.tup ((spkF (asksF aw f) ps.length).map nV))) s = some (.tup ((spkF (asksF aw f) ps.length).map nV)) := upd_same
      generalize (upd H2 s (.tup ((spkF (asksF aw f) ps.length).map nV))) = H3 at *
      generalize nWd (spkF (asksF aw f) ps.length).length = wd at *
      have hL3 := hS.off m3.kept hL rfl
      dsimp! [hL3]
      refine ⟨_, _, _, fun i σ H4 => (∃ v, σ = [some (.ref L), some (.ref W), some (.ref D), some (.ref s), some (.str wd.s), v, none, none]) ∧ AllAt A H4 ps (mixF i (hearsF wd (asksF aw f)) (asksF aw f)) ∧ Mv ps H3 H4, walk_list (K := K) (a := L) (xs := ps.map fun p => V.ref p.1), ?_, ?_, ?_, ?_⟩
      · exact ⟨⟨none, rfl⟩, by rw [mixF_zero]; exact S3, Mv.refl ps H3⟩
      · intro i σ H4 _ ⟨_, _, m4⟩
        exact SqL.of (S3.off m4.kept hL3 rfl)
      · rintro i x σ H4 H5 hi ⟨⟨v, rfl⟩, S4, m4⟩ ⟨rfl, e2⟩
        obtain ⟨p, hp, rfl⟩ := getp e2
        have hi' : i < ps.length := by omega
        have Sp := S4 i p hp
        have em : mixF i (hearsF wd (asksF aw f)) (asksF aw f) i = asksF aw f i := by simp [mixF]
        rw [em] at Sp
        obtain ⟨dx, ob⟩ := Sp.ob
        dsimp! [T.n_Station_way, lk_Station_way, pf_Station_way, T.n_Station_spoke, lk_Station_spoke, pf_Station_spoke, T.n_Station_over, lk_Station_over, pf_Station_over, T.cl_Station, ln_Station, pm_Station_1, pm_Station_2, lm_Station_speaks, lm_Station_hears, lm_Station_standing, ob]
        refine ⟨p.1, p.2, asksF aw f i, wd, rfl, Sp, WayM.asked_ok _ (ok i hi').1, WayM.asked_set _ _, ?_, fun H6 k6 f6 S6 => ?_⟩
        · exact Nat.le_trans (asked_deep _ _) (by have := (ok i hi').2; omega)
        · have S7 := S4.step ap hp k6 S6
          exact ⟨⟨_, rfl⟩, S7, m4.trans (Mv.one S4 S7 ap hp k6 f6)⟩
      · rintro σ H4 ⟨⟨v, rfl⟩, S4, m4⟩
        rw [hlen] at S4
        have S4 : AllAt A H4 ps (hearsF wd (asksF aw f)) := fun j p hj => by
          have := S4 j p hj
          have hj' := (List.getElem?_eq_some_iff.mp hj).1
          unfold mixF at this
          rw [if_pos hj'] at this
          exact this
        dsimp! []
        refine ⟨by decide, fun T0 hT0 => ?_⟩
        have sm4 : Same H4 (upd H4 T0 (.tup [V.ref s, V.str wd.s])) := Same.new hT0
        exact kk T0 s _ ((m3.trans m4).trans (Mv.same S4 sm4)) upd_same (sm4 _ _ (S3.off m4.kept hs3 rfl)) (S4.same sm4)
end
end OA

namespace OA
open PySem L2
local macro_rules
  | `(tactic| simp! [$a,*]) => `(tactic| simp -implicitDefEqProofs only [wNeD0, wRep, tDNewK, vDc, wSortDI, dkR_e, dkR_f, e_cut, wSetL, vLstRg, wLstD, e_lock, vVals, gSub, tCKw, frzO_e, viItems, viKeys, vRev, e_while, e_for, e_asgG, gName, vgTup, vgCons_e, vgNil_e, viList, viTup, viStr, viR1, viEnum, vLc, tYes, wipe, e_seq, e_next, e_drop, e_ret, e_retN, e_sfld, e_augI, e_aug, e_dput, vIf, vTest, wInT, vVar, vFld, tC, tOp, tUn, wI0, wIC, rEq, rNe, scal, wAddS, wMulS, wCat, wNeg, wIxL, wIxT, wIxS, vPart, tNoPart, tSl, wSlL, tCB, tCons, tNil, len_s, wTupL, wLstL, wAbs, wIntB, wMin2, wMax2, vAnd, vOr, vNot, vChain, vMeth, vCall, vMake, vLM0, vLM, isLst, wAppend, wPopAt, wInsert0, vStar, vDGet, vDIn, vDNotIn, tTup, tLst, tIf, tAnd, tOr, tNot, refR_e, intR_e, blR_e, strR_e, optR_e, keyR_i, keyR_s, insO_e, lstO_e, tupO_e, dkO_e, one1_e, two2_e, len_r, lenO_l, lenO_t, lenO_d, L2.start, List.map, List.replicate, List.length_cons, List.length_nil, List.cons_append, List.nil_append, List.append_nil, List.getElem?_cons_zero, List.getElem?_cons_succ, List.set_cons_zero, List.set_cons_succ, true_and, and_true, cx_K, cx_prog, cx_w, blkK, Int.toNat_natCast, upd_same, upd_upd, if_true, if_false, decide_eq_true_eq, reduceCtorEq, reduceIte, Bool.false_eq_true, decide_true, decide_false, Bool.true_and, Bool.false_and, Bool.and_true, Bool.and_false, Bool.not_true, Bool.not_false, V.int.injEq, V.str.injEq, V.bl.injEq, putF_nil, Nat.reduceAdd, Nat.reduceSub, Nat.reduceLT, Int.reduceEq, Int.reduceLT, Int.reduceLE, Int.reduceAdd, Int.reduceSub, Int.cast_ofNat_Int, wIsi, tyR_e, tyO_l, tyO_t, tyO_d, tyN_n, tyN_b, tyN_i, tyN_s, tyN_r, kit_NoneType_bool, kit_NoneType_int, kit_NoneType_str, kit_NoneType_list, kit_NoneType_tuple, kit_NoneType_dict, kit_bool_bool, kit_bool_int, kit_bool_str, kit_bool_list, kit_bool_tuple, kit_bool_dict, kit_int_bool, kit_int_int, kit_int_str, kit_int_list, kit_int_tuple, kit_int_dict, kit_str_bool, kit_str_int, kit_str_str, kit_str_list, kit_str_tuple, kit_str_dict, kit_list_bool, kit_list_int, kit_list_str, kit_list_list, kit_list_tuple, kit_list_dict, kit_tuple_bool, kit_tuple_int, kit_tuple_str, kit_tuple_list, kit_tuple_tuple, kit_tuple_dict, kit_dict_bool, kit_dict_int, kit_dict_str, kit_dict_list, kit_dict_tuple, kit_dict_dict, $a,*])
  | `(tactic| dsimp! [$a,*]) => `(tactic| ((try refine Later.mk ?_); simp! [$a,*]; repeat (refine Later.mk ?_; simp! [$a,*])))
structure WOk (many : Nat) (wl : WL) : Prop where
  nd : (wl.map (·.1)).Nodup
  lt : ∀ x ∈ wl, x.1 < many ∧ x.2 ≤ 40
section
variable {P : Program} {w : World} {K : PySem.W.Frag} {mg : Str → Option Value} {base : Heap} {A : Ad}
def spCheckW (A : Ad) : Sp := fun vs H Q _ => ∃ (wk : Addr) (many : Nat) (wl : WL), vs = [.ref wk, .int many] ∧ H wk = some (.dK (wkv wl)) ∧ 1 ≤ many ∧ WOk many wl ∧ ∀ H', Same H H' → Q .non H'
theorem sc_check_wakes : FnScope ["wakes", "many", "wrong", "number", "moment"] ["wakes", "many"] (defScope s_check_wakes) := ⟨rfl, rfl, rfl, by decide +kernel, rfl, by decide +kernel, by decide +kernel⟩
theorem ok_check_wakes (T : Txt K mg base A) : FnOk P w K mg base CX0 2 A.check_wakes A.d_check_wakes ["wakes", "many"] (spCheckW A) := by
  refine T.F_check_wakes.ok sc_check_wakes (fun vs H Q E h => ?_) (fun cdv A' outer s H vs Q E hr h => ?_)
  · obtain ⟨wk, many, wl, rfl, _⟩ := h
    rfl
  obtain ⟨wk, many, wl, rfl, hw, h1, ok, kk⟩ := h
  have hu := hu_of hr
  refine ⟨_, (qs_cons (ps_lock (q_setLc (i := 2) (own := [("number", 3), ("moment", 4)]) (g := vgTup 2 (vgCons (gName 3) (vgCons (gName 4) (vgNil)))) rfl sc_check_wakes.nd rfl rfl (sw_true rfl rfl rfl (by decide +kernel)) (qi_items (qv 0)) (blkOk_by (own := [("number", 3), ("moment", 4)]) (N := ["wakes", "many", "wrong", "number", "moment"]) (sc := defScope s_check_wakes) (by decide +kernel)) (fun _ _ _ _ _ => (q_gtup rfl (q_gcons (pg_name (i := 3) sc_check_wakes.nd rfl (Or.inl rfl)) (q_gcons (pg_name (i := 4) sc_check_wakes.nd rfl (Or.inl rfl)) q_gnil)))) (fun _ _ _ _ _ => pts_one (PW.pt (pw_or (pt_not (q_val (q_call (ok_is_whole T) (hr.mono (by decide)) rfl T.g_is_whole T.k_is_whole T.b_is_whole pass0 (pa_cons (qv 3) (pa_cons pe_int (pa_cons (pe_op o_sub (qv 1) pe_int) pa_nil)))))) (pw_or1 (pt_not (q_val (q_call (ok_is_whole T) (hr.mono (by decide)) rfl T.g_is_whole T.k_is_whole T.b_is_whole pass0 (pa_cons (qv 4) (pa_cons pe_int (pa_cons (q_gi rfl T.c_LATEST_WAKE) pa_nil)))))))))) (fun _ _ _ _ _ => (qv 3))))
    (pss_one (q_if (q_cmp o_gt (pe_callB c_len (by rfl) T.m_len (by decide +kernel) (pa_cons (qv 2) pa_nil)) pe_int (nomark _)) (pss_one ps_never) pss_nil))), ?_⟩
  dsimp! []
  refine ⟨wk, _, hw, True.intro, fun od => ?_⟩
  dsimp! []
  intro D hD
  have nD : wk ≠ D := ne_of_none upd_same hD
  have hD0 : H D = none := by rw [upd_ne nD.symm] at hD; exact hD
  refine ⟨_, _, _, fun i H1 => H1 D = some (.lst []) ∧ Same (upd H wk (.frz od (.dK (wkv wl)))) H1, walk_items (d := wk) (o := od) (kvs := wkv wl), ⟨upd_same, Same.new hD⟩, fun i H1 _ h => h.2 _ _ upd_same, ?_, ?_⟩
  · rintro i x H1 H2 hi ⟨hd, sm⟩ ⟨T0, x1, x2, rfl, hT0, rfl, e1, e2⟩
    have e1 : ((wkv wl)[i]?).map (fun kv => kV kv.1) = some x1 := e1
    have e2 : ((wkv wl)[i]?).map Prod.snd = some x2 := e2
    have hg : ∃ x ∈ wl, x1 = .int (x.1 : Nat) ∧ x2 = .int (x.2 : Nat) := by
      unfold wkv at e1 e2
      rw [List.getElem?_map] at e1 e2
      cases q : wl[i]? with
      | none => rw [q] at e1; cases e1
      | some x =>
        rw [q] at e1 e2
        cases e1
        cases e2
        exact ⟨x, List.mem_of_getElem? q, rfl, rfl⟩
    obtain ⟨x, hx, rfl, rfl⟩ := hg
    obtain ⟨hx1, hx2⟩ := ok.lt x hx
    dsimp! []
    refine ⟨x.1, 0, (many : Int) - 1, rfl, ?_⟩
    rw [decide_eq_true (by omega), decide_eq_true (by omega)]
    dsimp! []
    refine ⟨x.2, 0, 40, rfl, ?_⟩
    rw [decide_eq_true (by omega), decide_eq_true (by omega)]
    dsimp! []
    exact ⟨(Same.new hT0) _ _ hd, (show Same _ H1 from sm).trans (Same.new hT0)⟩
  · rintro H1 ⟨hd, sm⟩
    refine ⟨sm _ _ upd_same, ?_⟩
    have hd2 : (upd H1 wk (.dK (wkv wl))) D = some (.lst []) := by rw [upd_ne nD.symm]; exact hd
    dsimp! [hd2]
    refine kk _ fun b o e => ?_
    by_cases n : b = wk
    · rw [n, upd_same, ← hw, ← n]
      exact e
    · rw [upd_ne n]
      exact sm _ _ (by rw [upd_ne n]; exact e)
end
end OA

namespace OA
open PySem L2
local macro_rules
  | `(tactic| simp! [$a,*]) => `(tactic| simp -implicitDefEqProofs only [wNeD0, wRep, tDNewK, vDc, wSortDI, dkR_e, dkR_f, e_cut, wSetL, vLstRg, wLstD, e_lock, vVals, gSub, tCKw, frzO_e, viItems, viKeys, vRev, e_while, e_for, e_asgG, gName, vgTup, vgCons_e, vgNil_e, viList, viTup, viStr, viR1, viEnum, vLc, tYes, wipe, e_seq, e_next, e_drop, e_ret, e_retN, e_sfld, e_augI, e_aug, e_dput, vIf, vTest, wInT, vVar, vFld, tC, tOp, tUn, wI0, wIC, rEq, rNe, scal, wAddS, wMulS, wCat, wNeg, wIxL, wIxT, wIxS, vPart, tNoPart, tSl, wSlL, tCB, tCons, tNil, len_s, wTupL, wLstL, wAbs, wIntB, wMin2, wMax2, vAnd, vOr, vNot, vChain, vMeth, vCall, vMake, vLM0, vLM, isLst, wAppend, wPopAt, wInsert0, vStar, vDGet, vDIn, vDNotIn, tTup, tLst, tIf, tAnd, tOr, tNot, refR_e, intR_e, blR_e, strR_e, optR_e, keyR_i, keyR_s, insO_e, lstO_e, tupO_e, dkO_e, one1_e, two2_e, len_r, lenO_l, lenO_t, lenO_d, L2.start, List.map, List.replicate, List.length_cons, List.length_nil, List.cons_append, List.nil_append, List.append_nil, List.getElem?_cons_zero, List.getElem?_cons_succ, List.set_cons_zero, List.set_cons_succ, true_and, and_true, cx_K, cx_prog, cx_w, blkK, Int.toNat_natCast, upd_same, upd_upd, if_true, if_false, decide_eq_true_eq, reduceCtorEq, reduceIte, Bool.false_eq_true, decide_true, decide_false, Bool.true_and, Bool.false_and, Bool.and_true, Bool.and_false, Bool.not_true, Bool.not_false, V.int.injEq, V.str.injEq, V.bl.injEq, putF_nil, Nat.reduceAdd, Nat.reduceSub, Nat.reduceLT, Int.reduceEq, Int.reduceLT, Int.reduceLE, Int.reduceAdd, Int.reduceSub, Int.cast_ofNat_Int, wIsi, tyR_e, tyO_l, tyO_t, tyO_d, tyN_n, tyN_b, tyN_i, tyN_s, tyN_r, kit_NoneType_bool, kit_NoneType_int, kit_NoneType_str, kit_NoneType_list, kit_NoneType_tuple, kit_NoneType_dict, kit_bool_bool, kit_bool_int, kit_bool_str, kit_bool_list, kit_bool_tuple, kit_bool_dict, kit_int_bool, kit_int_int, kit_int_str, kit_int_list, kit_int_tuple, kit_int_dict, kit_str_bool, kit_str_int, kit_str_str, kit_str_list, kit_str_tuple, kit_str_dict, kit_list_bool, kit_list_int, kit_list_str, kit_list_list, kit_list_tuple, kit_list_dict, kit_tuple_bool, kit_tuple_int, kit_tuple_str, kit_tuple_list, kit_tuple_tuple, kit_tuple_dict, kit_dict_bool, kit_dict_int, kit_dict_str, kit_dict_list, kit_dict_tuple, kit_dict_dict, $a,*])
  | `(tactic| dsimp! [$a,*]) => `(tactic| ((try refine Later.mk ?_); simp! [$a,*]; repeat (refine Later.mk ?_; simp! [$a,*])))
/-! a run, moment by moment -/
def awF (wl : WL) (k j : Nat) : Bool := match wl.lookup j with
  | some t => decide (t ≤ k)
  | none => false
def sysF (R : RuleM) (many : Nat) (wl : WL) : Nat → Nat → StM
  | 0 => initM R many
  | k + 1 => hearsF (nWd (spkF (asksF (awF wl k) (sysF R many wl k)) many).length) (asksF (awF wl k) (sysF R many wl k))
def spkAt (R : RuleM) (many : Nat) (wl : WL) (k : Nat) : List Nat := spkF (asksF (awF wl k) (sysF R many wl k)) many
def wdAt (R : RuleM) (many : Nat) (wl : WL) (k : Nat) : Wd := nWd (spkAt R many wl k).length
abbrev Row := List Nat × Wd
def rowAt (R : RuleM) (many : Nat) (wl : WL) (k : Nat) : Row := (spkAt R many wl k, wdAt R many wl k)
def rowsTo (R : RuleM) (many : Nat) (wl : WL) (n : Nat) : List Row := (List.range n).map (rowAt R many wl)
def heardN (R : RuleM) (many : Nat) (wl : WL) : Nat → Nat
  | 0 => 0
  | k + 1 => heardN R many wl k + (if wdAt R many wl k = .hrd then 1 else 0)
def keyAt (R : RuleM) (many : Nat) (wl : WL) (k : Nat) : NestedKey := .tup ((List.range many).map fun j => (sysF R many wl k j).key)
def lastW (wl : WL) : Nat := wl.foldl (fun m x => max m x.2) 0
/-- it stands as it has stood, last at m -/
def Again (R : RuleM) (many : Nat) (wl : WL) (k m : Nat) : Prop := lastW wl ≤ m ∧ m < k ∧ keyAt R many wl m = keyAt R many wl k
def Stop (R : RuleM) (many : Nat) (wl : WL) (k : Nat) : Prop := wl.length ≤ heardN R many wl k ∨ ∃ m, Again R many wl k m
/-- the run ends behind n moments -/
structure EndsAt (R : RuleM) (many : Nat) (wl : WL) (n : Nat) : Prop where
  stop : Stop R many wl n
  first : ∀ k, k < n → ¬ Stop R many wl k
  few : n ≤ 900
theorem lastW_fold (wl : WL) : ∀ m, (m ≤ wl.foldl (fun m x => max m x.2) m) ∧ (∀ x ∈ wl, x.2 ≤ wl.foldl (fun m x => max m x.2) m) ∧ (wl.foldl (fun m x => max m x.2) m = m ∨ ∃ x ∈ wl, x.2 = wl.foldl (fun m x => max m x.2) m) := by
  induction wl with
  | nil => exact fun m => ⟨Nat.le_refl _, fun x h => by simp at h, .inl rfl⟩
  | cons y wl ih =>
    intro m
    rw [List.foldl_cons]
    obtain ⟨h1, h2, h3⟩ := ih (max m y.2)
    refine ⟨by omega, fun x hx => ?_, ?_⟩
    · rcases List.mem_cons.mp hx with rfl | hx
      · omega
      · exact h2 x hx
    · rcases h3 with h3 | ⟨x, hx, h3⟩
      · rcases Nat.le_total m y.2 with h | h
        · exact .inr ⟨y, List.mem_cons_self, by rw [h3]; omega⟩
        · exact .inl (by rw [h3]; omega)
      · exact .inr ⟨x, List.mem_cons_of_mem _ hx, h3⟩
theorem lastW_eq {wl : WL} {m : Int} (g0 : (wl.map fun x => (x.2 : Int)) = [] → m = 0) (g1 : (wl.map fun x => (x.2 : Int)) ≠ [] → m ∈ (wl.map fun x => (x.2 : Int)) ∧ ∀ y ∈ (wl.map fun x => (x.2 : Int)), y ≤ m) : m = (lastW wl : Int) := by
  obtain ⟨_, h2, h3⟩ := lastW_fold wl 0
  have e : lastW wl = wl.foldl (fun m x => max m x.2) 0 := rfl
  rw [← e] at h2 h3
  cases wl with
  | nil => exact g0 rfl
  | cons y r =>
    obtain ⟨hm, hle⟩ := g1 (by simp)
    obtain ⟨x, hx, rfl⟩ := List.mem_map.mp hm
    have a1 := h2 x hx
    rcases h3 with h3 | ⟨z, hz, h3⟩
    · omega
    · have := hle (z.2 : Int) (List.mem_map.mpr ⟨z, hz, rfl⟩)
      omega
def stoodE (R : RuleM) (many : Nat) (wl : WL) (k : Nat) : List (NestedKey × V) := (List.range' (lastW wl) (k - lastW wl)).map fun m => (keyAt R many wl m, nV m)
theorem stoodE_low {R : RuleM} {many : Nat} {wl : WL} {k : Nat} (h : k ≤ lastW wl) : stoodE R many wl k = [] := by
  unfold stoodE
  rw [Nat.sub_eq_zero_of_le h]
  rfl
theorem stoodE_zero {R : RuleM} {many : Nat} {wl : WL} : stoodE R many wl 0 = [] := stoodE_low (Nat.zero_le _)
theorem stoodE_succ {R : RuleM} {many : Nat} {wl : WL} {k : Nat} (h : lastW wl ≤ k) : stoodE R many wl (k + 1) = stoodE R many wl k ++ [(keyAt R many wl k, nV k)] := by
  unfold stoodE
  rw [Nat.succ_sub h, List.range'_1_concat, List.map_append]
  congr 3
  · simp only [List.map_cons, List.map_nil]
    rw [Nat.add_sub_cancel' h]
theorem stoodE_len {R : RuleM} {many : Nat} {wl : WL} {k : Nat} : (stoodE R many wl k).length ≤ k := by
  unfold stoodE
  rw [List.length_map, List.length_range']
  omega
theorem stood_some {R : RuleM} {many : Nat} {wl : WL} {k : Nat} {x : V} (h : valV (stoodE R many wl k) (keyAt R many wl k) = some x) : ∃ m, Again R many wl k m ∧ x = nV m := by
  unfold valV at h
  cases e : (stoodE R many wl k).find? fun kv => decide (kv.1 = keyAt R many wl k) with
  | none => rw [e] at h; cases h
  | some y =>
    rw [e] at h
    cases h
    have h1 := List.mem_of_find?_eq_some e
    have h2 := List.find?_some e
    unfold stoodE at h1
    obtain ⟨m, hm, rfl⟩ := List.mem_map.mp h1
    rw [List.mem_range'_1] at hm
    exact ⟨m, ⟨hm.1, by omega, of_decide_eq_true h2⟩, rfl⟩
theorem stood_none {R : RuleM} {many : Nat} {wl : WL} {k : Nat} (h : valV (stoodE R many wl k) (keyAt R many wl k) = none) : ¬ ∃ m, Again R many wl k m := by
  rintro ⟨m, h1, h2, h3⟩
  unfold valV at h
  rw [Option.map_eq_none_iff, List.find?_eq_none] at h
  refine h (keyAt R many wl m, nV m) ?_ (decide_eq_true h3)
  unfold stoodE
  refine List.mem_map.mpr ⟨m, ?_, rfl⟩
  rw [List.mem_range'_1]
  omega
theorem KeysAt.snoc {H : Hp} {v : V} {k : NestedKey} (h : KeyAt H v k) : ∀ {ks : List NestedKey} {vs : List V}, KeysAt H vs ks → KeysAt H (vs ++ [v]) (ks ++ [k])
  | [], _, q => by cases q; exact .cons h .nil
  | k1 :: ks, _, q => by
    cases q with
    | cons a b => exact .cons a (KeysAt.snoc h b)
theorem key_depth (m : StM) : m.key.depth ≤ 3 := by
  have nums : ∀ ls : List Nat, NestedKey.depthAll (ls.map fun (k : Nat) => NestedKey.num k) = 0 := fun ls => by
    induction ls with
    | nil => rfl
    | cons x ls ih => simp only [List.map_cons, NestedKey.depthAll, NestedKey.depth, ih, Nat.max_self]
  have hb : ∀ b, (bK b).depth = 0 := fun b => rfl
  have hl : ∀ l, (lvK l).depth = 0 := fun l => by cases l <;> rfl
  unfold StM.key
  cases m.way with
  | row r k => simp only [WayM.key, NestedKey.depth, NestedKey.depthAll, hb]; omega
  | wait ds p l => simp only [WayM.key, NestedKey.depth, NestedKey.depthAll, hb]; omega
  | tree sk jn ds lv ls skp => simp only [WayM.key, NestedKey.depth, NestedKey.depthAll, hb, hl, nums]; omega
theorem keyAt_depth (R : RuleM) (many : Nat) (wl : WL) (k : Nat) : (keyAt R many wl k).depth ≤ 8 := by
  have all : ∀ ls : List Nat, NestedKey.depthAll (ls.map fun j => (sysF R many wl k j).key) ≤ 3 := fun ls => by
    induction ls with
    | nil => exact Nat.zero_le _
    | cons x ls ih =>
      have := key_depth (sysF R many wl k x)
      simp only [List.map_cons, NestedKey.depthAll]
      omega
  have := all (List.range many)
  unfold keyAt
  simp only [NestedKey.depth]
  omega
theorem goes_deep (sp : Bool) (wd : Wd) (m : WayM) (h : m.Set) : (m.goes sp wd).deep ≤ m.deep + 1 := by
  cases m with
  | row r k => exact Nat.zero_le _
  | wait ds p l =>
    simp only [WayM.goes]
    split
    · exact Nat.zero_le _
    · split <;> exact Nat.zero_le _
  | tree sk jn ds lv ls skp =>
    have hp : 0 < ls.length := List.length_pos_iff.mpr h
    simp only [WayM.goes]
    split
    · simp only [WayM.deep, splitLs, List.length_cons, List.length_tail]; omega
    · split
      · simp only [WayM.deep, splitLs, List.length_cons, List.length_tail]; omega
      · simp only [WayM.deep, List.length_tail]; omega
theorem asked_deep1 (b : Bool) (m : WayM) : (m.asked b).deep ≤ max m.deep 1 := by
  cases m with
  | row r k => exact Nat.zero_le _
  | wait ds k l => exact Nat.zero_le _
  | tree sk jn ds lv ls skp =>
    show (opened ls).length ≤ max ls.length 1
    unfold opened
    split
    · exact Nat.le_max_right _ _
    · omega
theorem sysF_ok {R : RuleM} {many : Nat} {wl : WL} (hok : R.Ok many) (h8 : many ≤ 8) : ∀ k j, j < many → (sysF R many wl k j).way.Ok ∧ (sysF R many wl k j).way.deep ≤ k + 1
  | 0, j, hj => by
    refine ⟨wayM_ok hok hj h8, ?_⟩
    show (wayM R many j).deep ≤ 1
    cases R <;> simp [wayM, WayM.deep]
  | k + 1, j, hj => by
    obtain ⟨h1, h2⟩ := sysF_ok (wl := wl) hok h8 k j hj
    refine ⟨WayM.goes_ok _ _ (WayM.asked_ok _ h1), ?_⟩
    have e1 := goes_deep ((asksF (awF wl k) (sysF R many wl k)) j).spoke (nWd (spkF (asksF (awF wl k) (sysF R many wl k)) many).length) _ (WayM.asked_set (sysF R many wl k j).way (awF wl k j && !(sysF R many wl k j).over))
    have e2 := asked_deep1 (awF wl k j && !(sysF R many wl k j).over) (sysF R many wl k j).way
    exact Nat.le_trans e1 (by omega)
section
variable {P : Program} {w : World} {K : PySem.W.Frag} {mg : Str → Option Value} {base : Heap} {A : Ad}
def RowAt (H : Hp) (a : Addr) (r : Row) : Prop := ∃ s, H a = some (.tup [.ref s, .str r.2.s]) ∧ H s = some (.tup (r.1.map nV))
def ToldAt (H : Hp) (t : Addr) (rows : List Row) : Prop := ∃ as : List Addr, H t = some (.lst (as.map V.ref)) ∧ as.length = rows.length ∧ ∀ (i : Nat) (a : Addr) (r : Row), as[i]? = some a → rows[i]? = some r → RowAt H a r
def spPlay (A : Ad) : Sp := fun vs H Q _ => ∃ (a wk : Addr) (many n : Nat) (R : RuleM) (wl : WL), vs = [.ref a, .int many, .ref wk] ∧ RuleAt H a R ∧ R.OkN many ∧ 1 ≤ many ∧ many ≤ 8 ∧ H wk = some (.dK (wkv wl)) ∧ WOk many wl ∧ EndsAt R many wl n ∧ RT A R H ∧
  ∀ H1 T t H', Tbd A R H H1 → Same H1 H' → H1 t = none → ToldAt H' t (rowsTo R many wl n) →
    (wl.length ≤ heardN R many wl n → H' T = some (.tup [.str "heard", .ref t, .int 0])) → (¬ wl.length ≤ heardN R many wl n → ∃ m, Again R many wl n m ∧ H' T = some (.tup [.str "forever", .ref t, .int ((n : Int) - m)])) → Q (.ref T) H'
theorem sc_play : FnScope ["rule", "many", "wakes", "stations", "last_wake", "left", "stood", "told", "moment", "standing", "awake", "speakers", "word", "number", "station"] ["rule", "many", "wakes"] (defScope s_play) := ⟨rfl, rfl, rfl, by decide +kernel, rfl, by decide +kernel, by decide +kernel⟩
theorem ok_play (T : Txt K mg base A) : FnOk P w K mg base CX0 10 A.play A.d_play ["rule", "many", "wakes"] (spPlay A) := by
  refine T.F_play.ok sc_play (fun vs H Q E h => ?_) (fun cdv A' outer s H vs Q E hr h => ?_)
  · obtain ⟨a, wk, many, n, R, wl, rfl, _⟩ := h
    rfl
  obtain ⟨a, wk, many, n, R, wl, rfl, hR, hok, h1, h8, hw, wok, ends, hT, kk⟩ := h
  have hu := hu_of hr
  refine ⟨_, (qs_cons (ps_expr (q_call (ok_check_many T) (hr.mono (by decide)) rfl T.g_check_many T.k_check_many T.b_check_many pass0 (pa_cons (qv 1) pa_nil)))
    (qs_cons (ps_expr (q_call (ok_check_rule T) (hr.mono (by decide)) rfl T.g_check_rule T.k_check_rule T.b_check_rule pass0 (pa_cons (qv 0) (pa_cons (qv 1) pa_nil))))
    (qs_cons (ps_expr (q_call (ok_check_wakes T) (hr.mono (by decide)) rfl T.g_check_wakes T.k_check_wakes T.b_check_wakes pass0 (pa_cons (qv 2) (pa_cons (qv 1) pa_nil))))
    (qs_cons (q_setLc (i := 3) (own := [("number", 13)]) (g := gName 13) (tt := tYes) rfl sc_play.nd rfl rfl (sw_true rfl rfl rfl (by decide +kernel)) (qi_r1 (by rfl) T.m_range (pa_cons (qv 1) pa_nil)) (blkOk_by (own := [("number", 13)]) (N := ["rule", "many", "wakes", "stations", "last_wake", "left", "stood", "told", "moment", "standing", "awake", "speakers", "word", "number", "station"]) (sc := defScope s_play) (by decide +kernel)) (fun _ _ _ _ _ => (pg_name (i := 13) sc_play.nd rfl (Or.inl rfl))) (fun _ _ _ _ _ => pts_nil) (fun _ _ _ _ _ => (q_make T.mk_Station (ok_Station___init__ T) (hr.mono (by decide)) rfl T.g_Station T.b_Station___init__ pass0 (pa_cons (qv 0) (pa_cons (qv 1) (pa_cons (qv 13) pa_nil))))))
    (qs_cons (ps_set (i := 4) sc_play.nd rfl (Or.inl rfl) (pe_callBK (c_maxV rfl) (by rfl) T.m_max (by decide +kernel) (pa_cons (q_vals (qv 2)) pa_nil) (pk_cons pe_int pk_nil)))
    (qs_cons (ps_set (i := 5) sc_play.nd rfl (Or.inl rfl) (pe_callB c_len (by rfl) T.m_len (by decide +kernel) (pa_cons (qv 2) pa_nil)))
    (qs_cons (ps_set (i := 6) sc_play.nd rfl (Or.inl rfl) q_newN)
    (qs_cons (ps_set (i := 7) sc_play.nd rfl (Or.inl rfl) (pe_lst pa_nil))
    (qs_cons (q_while PassesOwn.never (q_cmp o_gt (qv 5) pe_int (nomark _)) (qs_cons (ps_set (i := 8) sc_play.nd rfl (Or.inr rfl) (pe_callB c_len (by rfl) T.m_len (by decide +kernel) (pa_cons (qv 7) pa_nil)))
    (qs_cons (q_cut (q_if (q_cmp o_ge (qv 8) (qv 4) (nomark _)) (qs_cons (ps_set (i := 9) sc_play.nd rfl (Or.inl rfl) (pe_callTy c_tupL (by rfl) T.m_tuple (by decide +kernel) (pa_cons (q_lc (own := [("station", 14)]) (g := gName 14) (tt := tYes) rfl sc_play.nd (qi_list (qv 3)) (blkOk_by (own := [("station", 14)]) (N := ["rule", "many", "wakes", "stations", "last_wake", "left", "stood", "told", "moment", "standing", "awake", "speakers", "word", "number", "station"]) (sc := defScope s_play) (by decide +kernel)) (fun _ _ _ _ _ => (pg_name (i := 14) sc_play.nd rfl (Or.inl rfl))) (fun _ _ _ _ _ => pts_nil) (fun _ _ _ _ _ => (q_meth0 (qv 14) T.cl_Station T.me_Station_standing (ok_Station_standing T) (hr.mono (by decide)) T.b_Station_standing pass0))) pa_nil)))
    (qs_cons (q_if (q_cmp (o_inN hr.units) (qv 9) (qv 6) (by rfl)) (pss_one (ps_ret (pe_tup (pa_cons pe_str (pa_cons (qv 7) (pa_cons (pe_op o_sub (qv 8) (q_getN hr.units (qv 6) (qv 9) (fun _ _ => rfl))) pa_nil)))))) pss_nil)
    (pss_one (ps_asg (qv 8) (pg_sub (qv 6) (qv 9) (s_putN hr.units)))))) pss_nil))
    (qs_cons (q_setLc (i := 10) (own := [("number", 13)]) (g := gName 13) (tt := tYes) rfl sc_play.nd rfl rfl (sw_true rfl rfl rfl (by decide +kernel)) (qi_r1 (by rfl) T.m_range (pa_cons (qv 1) pa_nil)) (blkOk_by (own := [("number", 13)]) (N := ["rule", "many", "wakes", "stations", "last_wake", "left", "stood", "told", "moment", "standing", "awake", "speakers", "word", "number", "station"]) (sc := defScope s_play) (by decide +kernel)) (fun _ _ _ _ _ => (pg_name (i := 13) sc_play.nd rfl (Or.inl rfl))) (fun _ _ _ _ _ => pts_nil) (fun _ _ _ _ _ => (q_and (q_din hu (qv 13) (qv 2)) (pe_one (pe_cmpR o_le (q_dget hu (qv 2) (qv 13) (fun _ _ => rfl)) (qv 8) (nomark _))))))
    (qs_cons (ps_asg (q_call (ok_one_moment T) (hr.mono (by decide)) rfl T.g_one_moment T.k_one_moment T.b_one_moment pass0 (pa_cons (qv 3) (pa_cons (qv 10) pa_nil))) (q_gtup rfl (q_gcons (pg_name (i := 11) sc_play.nd rfl (Or.inl rfl)) (q_gcons (pg_name (i := 12) sc_play.nd rfl (Or.inl rfl)) q_gnil))))
    (qs_cons (ps_expr (lm1 PySem.F.slot_list_append PySem.F.type_list_append m_append (qv 7) (pa_cons (pe_tup (pa_cons (qv 11) (pa_cons (qv 12) pa_nil))) pa_nil)))
    (pss_one (q_if (q_cmp op_eq (qv 12) pe_str (nomark _)) (pss_one (q_aug (i := 5) sc_play.nd rfl (Or.inl rfl) pe_int ip_sub)) pss_nil))))))))
    (pss_one (ps_ret (pe_tup (pa_cons pe_str (pa_cons (qv 7) (pa_cons pe_int pa_nil))))))))))))))), ?_⟩
  dsimp! []
  refine ⟨many, rfl, h1, h8, ?_⟩
  dsimp! []
  refine ⟨a, many, R, rfl, hR, hok, ⟨h1, h8⟩, hT, fun H H1 t0 s1 => ?_⟩
  replace hR := t0.rule hT hR
  replace hw := t0.get hT hw (fun _ z => by cases z)
  have hW := t0.warm
  replace kk := fun T t H' => kk H T t H' t0
  dsimp! []
  refine ⟨wk, many, wl, rfl, s1 _ _ hw, h1, wok, fun H2 s2 => ?_⟩
  dsimp! []
  have s12 := s1.trans s2
  have n62 : (many : Int) < 2 ^ 62 := by omega
  refine ⟨⟨by omega, n62⟩, fun D hD => ⟨many, _, _, fun i H3 => ∃ ps : List (Addr × Addr), ps.length = i ∧ H3 D = some (.lst (ps.map fun p => V.ref p.1)) ∧ AllAt A H3 ps (initM R many) ∧ Apart ps ∧ Same H2 H3 ∧ NoLean ps H3 D ∧ ∀ p ∈ ps, H2 p.1 = none ∧ H2 p.2 = none, walk_range (lo := 0) (n := many), ?_, fun _ _ _ _ => True.intro, ?_, ?_⟩⟩
  · exact ⟨[], rfl, upd_same, fun j p h => by simp at h, fun i j p p' h => by simp at h, Same.new hD, fun p h => by simp at h, fun p h => by simp at h⟩
  · rintro i x H3 H4 hi ⟨ps, hl, hD3, S3, ap, s3, nl, new⟩ ⟨rfl, rfl⟩ x dx hx hdx nx
    have e0 : (0 : Int) + (i : Nat) = (i : Nat) := Int.zero_add _
    simp only [e0]
    have sm : Same H4 (upd (upd H4 dx (.own x)) x (.ins A.c_Station dx [])) := fun b o e => by
      rw [upd_ne (ne_of_none e hx), upd_ne (ne_of_none e hdx)]
      exact e
    refine ⟨x, dx, a, many, i, R, rfl, upd_same, hR.same ((s12.trans s3).trans sm), hok, hi, h8, hW.same ((s12.trans s3).trans sm), fun q H5 k5 hq S5 hl5 => ⟨rfl, ?_⟩⟩
    have s5 : Same H4 H5 := same_make hx hdx k5
    have hD5 := s5 _ _ hD3
    have hlen : (ps.map fun p => V.ref p.1).length = i := by rw [List.length_map, hl]
    dsimp! [hD5]
    have S5' : AllAt A H5 (ps ++ [(x, q)]) (initM R many) := fun j p hj => by
      rcases Nat.lt_or_ge j ps.length with h | h
      · rw [List.getElem?_append_left h] at hj
        exact (S3 j p hj).same s5
      · rw [List.getElem?_append_right h] at hj
        have hj0 : j - ps.length = 0 := by
          cases e : j - ps.length with
          | zero => rfl
          | succ m => rw [e] at hj; simp at hj
        rw [hj0] at hj
        cases hj
        have : j = i := by omega
        rw [this]
        exact S5
    have ap' : Apart (ps ++ [(x, q)]) := by
      have old : ∀ (j : Nat) (p : Addr × Addr), ps[j]? = some p → x ≠ p.1 ∧ x ≠ p.2 ∧ q ≠ p.1 ∧ q ≠ p.2 := fun j p hj => by
        have Sp := S3 j p hj
        obtain ⟨d1, o1⟩ := Sp.ob
        obtain ⟨C2, d2, f2, o2⟩ := Sp.wy.ins
        exact ⟨(ne_of_none o1 hx).symm, (ne_of_none o2 hx).symm, (ne_of_none (sm _ _ o1) hq).symm, (ne_of_none (sm _ _ o2) hq).symm⟩
      have last : ∀ (j : Nat) (p : Addr × Addr), (ps ++ [(x, q)])[j]? = some p → (j < ps.length ∧ ps[j]? = some p) ∨ (j = ps.length ∧ p = (x, q)) := fun j p hj => by
        rcases Nat.lt_or_ge j ps.length with h | h
        · rw [List.getElem?_append_left h] at hj
          exact .inl ⟨h, hj⟩
        · rw [List.getElem?_append_right h] at hj
          have hj0 : j - ps.length = 0 := by
            cases e : j - ps.length with
            | zero => rfl
            | succ m => rw [e] at hj; simp at hj
          rw [hj0] at hj
          cases hj
          exact .inr ⟨by omega, rfl⟩
      intro i1 j1 p p' h1 h2 ne
      rcases last i1 p h1 with ⟨_, g1⟩ | ⟨e1, rfl⟩
      · rcases last j1 p' h2 with ⟨_, g2⟩ | ⟨e2, rfl⟩
        · exact ap i1 j1 p p' g1 g2 ne
        · exact old i1 p g1
      · rcases last j1 p' h2 with ⟨_, g2⟩ | ⟨e2, rfl⟩
        · obtain ⟨a1, a2, a3, a4⟩ := old j1 p' g2
          exact ⟨a1.symm, a3.symm, a2.symm, a4.symm⟩
        · omega
    have nl5 : NoLean (ps ++ [(x, q)]) H5 D := fun p hp hle => by
      rcases List.mem_append.mp hp with hp | hp
      · exact nl.mv hD3 (Mv.same S3 s5) p hp hle
      · have : p = (x, q) := by simpa using hp
        subst this
        have := hl5 D hle
        rw [sm _ _ hD3] at this
        cases this
    refine ⟨by rw [hlen, sizeLine_eq]; omega, ps ++ [(x, q)], ?_, ?_, S5'.put hD5 rfl nl5, ap', ?_, NoLean.put S5' nl5 hD5 rfl, fun p hp => ?_⟩
    · rw [List.length_append, List.length_singleton, hl]
    · rw [List.map_append]
      rfl
    · intro b o e
      rw [upd_ne (ne_of_none e hD)]
      exact s5 _ _ (s3 _ _ e)
    · rcases List.mem_append.mp hp with hp | hp
      · exact new p hp
      · have : p = (x, q) := by simpa using hp
        subst this
        exact ⟨Same.back s3 _ hx, Same.back s3 _ (Same.back sm _ hq)⟩
  · rintro H3 ⟨ps, hl, hD3, S3, ap, s3, nl3, new⟩
    have hw3 := s3 _ _ (s12 _ _ hw)
    dsimp! [hw3]
    intro vp hvp
    have s4 : Same H3 (upd H3 vp (viewV vp wk)) := Same.new hvp
    refine ⟨vp, wk, wkv wl, wl.map fun x => (x.2 : Int), 0, rfl, rfl, upd_same, s4 _ _ hw3, by simp [wkv], fun m g0 g1 => ?_⟩
    have em : m = (lastW wl : Int) := lastW_eq g0 g1
    subst em
    have hw4 := s4 _ _ hw3
    have S4 := S3.same s4
    have hD4 := s4 _ _ hD3
    have sH4 := (s12.trans s3).trans s4
    have new4 : ∀ p ∈ ps, H p.1 = none ∧ H p.2 = none := fun p hp => ⟨Same.back s12 _ (new p hp).1, Same.back s12 _ (new p hp).2⟩
    generalize upd H3 vp (viewV vp wk) = H4 at *
    clear hvp
    dsimp! [hw4]
    intro SD oSD hSD nd0
    have s5 : Same H4 (upd H4 SD oSD) := Same.new hSD
    dsimp! []
    refine ⟨Nat.zero_le _, fun t ht => ?_⟩
    have s6 : Same (upd H4 SD oSD) (upd (upd H4 SD oSD) t (.lst [])) := Same.new ht
    have nSD : SD ≠ t := ne_of_none upd_same ht
    have nd1 := nd0.keep (fun o e => s6 _ _ e) fun b xs e => s6 _ _ e
    have nlt : NoLean ps (upd (upd H4 SD oSD) t (.lst [])) t := NoLean.new (S4.same s5) ht
    have S6 := (S4.same s5).same s6
    have ht0 : H t = none := Same.back sH4 _ (Same.back s5 _ ht)
    have hS0 : H SD = none := Same.back sH4 _ hSD
    have hD6 := s6 _ _ (s5 _ _ hD4)
    have nDt : D ≠ t := ne_of_none (s5 _ _ hD4) ht
    have sH6 := (sH4.trans s5).trans s6
    have hw6 := s6 _ _ (s5 _ _ hw4)
    have ht6 : (upd (upd H4 SD oSD) t (.lst [])) t = some (.lst []) := upd_same
    have hlen : (wkv wl).length = wl.length := by unfold wkv; rw [List.length_map]
    generalize upd (upd H4 SD oSD) t (.lst []) = H6 at *
    clear hSD ht nd0 s5 s6
    dsimp! []
    have ok_k : ∀ k, k ≤ n → ∀ j, j < ps.length → (sysF R many wl k j).way.Ok ∧ (sysF R many wl k j).way.deep ≤ 1000 := fun k hk j hj => by
      have := sysF_ok (wl := wl) hok h8 k j (by omega)
      exact ⟨this.1, by have := this.2; have := ends.few; omega⟩
    refine ⟨fun m σ H' => ∃ (k : Nat) (x8 x9 x10 x11 x12 x13 x14 : Option V), k ≤ n ∧ m = n - k ∧ σ = [some (.ref a), some (.int many), some (.ref wk), some (.ref D), some (.int (lastW wl)), some (.int ((wl.length : Int) - heardN R many wl k)), some (.ref SD), some (.ref t), x8, x9, x10, x11, x12, x13, x14] ∧
      Same H H' ∧ H' D = some (.lst (ps.map fun p => V.ref p.1)) ∧ AllAt A H' ps (sysF R many wl k) ∧ NDict P w H' SD (stoodE R many wl k) ∧ ToldAt H' t (rowsTo R many wl k) ∧ NoLean ps H' t, n, ?_, ?_⟩
    · refine ⟨0, none, none, none, none, none, none, none, Nat.zero_le _, rfl, ?_, sH6, hD6, S6, ?_, ?_, nlt⟩
      · rw [hlen]
        simp [heardN]
      · rw [stoodE_zero]
        exact nd1
      · exact ⟨[], ht6, rfl, fun i a r h => by simp at h⟩
    · rintro m σ H1 ⟨k, x8, x9, x10, x11, x12, x13, x14, hk, rfl, rfl, s1, hD1, S1, nd1, told1, nl1⟩
      dsimp! []
      refine ite2 (fun c => ?_) (fun c => ?_)
      · obtain ⟨as, ht1, hla, hrow⟩ := told1
        have hla' : as.length = k := by rw [hla]; simp [rowsTo]
        have hlm : (as.map V.ref).length = k := by rw [List.length_map, hla']
        dsimp! [ht1, hlm]
        refine ⟨fun σ' H2 => ∃ y9, σ' = [some (.ref a), some (.int many), some (.ref wk), some (.ref D), some (.int (lastW wl)), some (.int ((wl.length : Int) - heardN R many wl k)), some (.ref SD), some (.ref t), some (.int k), y9, x10, x11, x12, x13, x14] ∧ k < n ∧
          Same H H2 ∧ H2 D = some (.lst (ps.map fun p => V.ref p.1)) ∧ AllAt A H2 ps (sysF R many wl k) ∧ NDict P w H2 SD (stoodE R many wl (k + 1)) ∧ ToldAt H2 t (rowsTo R many wl k) ∧ NoLean ps H2 t, ?_, ?_⟩
        · rintro σ2 H2 ⟨y9, rfl, hkn, s2, hD2, S2, nd2, told2, nl2⟩
          have hw2 := s2 _ _ hw
          dsimp! [hw2]
          refine ⟨⟨by omega, n62⟩, fun W hW => ⟨_, _, _, fun i H3 => H3 W = some (.lst ((List.range i).map fun j => V.bl (awF wl k j))) ∧ Same H2 H3, walk_range (lo := 0) (n := many), ⟨upd_same, Same.new hW⟩, fun _ _ _ _ => True.intro, ?_, ?_⟩⟩
          · rintro i x H3 H4 hi ⟨hW3, s3⟩ ⟨rfl, rfl⟩
            have hw4 := s3 _ _ hw2
            have e0 : (0 : Int) + (i : Nat) = (i : Nat) := Int.zero_add _
            have hlr : ((List.range i).map fun j => V.bl (awF wl k j)).length = i := by rw [List.length_map, List.length_range]
            have small : i < sizeLine := by rw [sizeLine_eq]; omega
            have fin : ∀ b, b = awF wl k i → some (HO.lst (((List.range i).map fun j => V.bl (awF wl k j)) ++ [V.bl b])) = some (.lst ((List.range (i + 1)).map fun j => V.bl (awF wl k j))) ∧ Same H2 (upd H4 W (.lst (((List.range i).map fun j => V.bl (awF wl k j)) ++ [V.bl b]))) := by
              rintro b rfl
              refine ⟨by rw [List.range_succ, List.map_append]; rfl, fun b o e => ?_⟩
              rw [upd_ne (ne_of_none e hW)]
              exact s3 _ _ e
            simp only [e0]
            cases el : wl.lookup i with
            | none =>
              simp! [hw4, valV_wkv, el, Option.map_none, Option.isSome_none, hW3, hlr]
              exact ⟨small, fin _ (by unfold awF; rw [el])⟩
            | some tt =>
              simp! [hw4, valV_wkv, el, Option.map_some, Option.isSome_some, hW3, hlr]
              refine ⟨small, ?_⟩
              have := fin (decide (tt ≤ k)) (by unfold awF; rw [el])
              rw [show decide ((tt : Int) ≤ (k : Int)) = decide (tt ≤ k) from decide_eq_decide.mpr Int.ofNat_le]
              exact this
          · rintro H3 ⟨hW3, s3⟩
            have hD3 := s3 _ _ hD2
            dsimp! []
            have hW3' : H3 W = some (.lst ((List.range ps.length).map fun j => V.bl (awF wl k j))) := by rw [hl]; exact hW3
            refine ⟨D, W, ps, sysF R many wl k, awF wl k, rfl, hD3, hW3', S2.same s3, ap, by omega, ok_k k (by omega), fun T0 s0 H4 mv hT hs S4 => ?_⟩
            rw [hl] at hT hs S4
            have S3 := S2.same s3
            have nl3 := nl2.mv (told2.choose_spec.1) (Mv.same S2 s3)
            obtain ⟨as2, ht2, hla2, hrow2⟩ := told2
            have ht3 := s3 _ _ ht2
            have mv4 := (Mv.same S2 s3).trans mv
            have ht4 := S3.off mv.kept ht3 rfl
            have s4 : Same H H4 := fun b o e => mv4.kept b o (s2 _ _ e) fun p hp => ⟨ne_of_none e (new4 p hp).1, ne_of_none e (new4 p hp).2⟩
            have tup4 : ∀ b xs, H2 b = some (.tup xs) → H4 b = some (.tup xs) := fun b xs e => S2.off mv4.kept e rfl
            have nd4 : NDict P w H4 SD (stoodE R many wl (k + 1)) := nd2.keep (fun o e => by
              obtain ⟨es, _, h1, _⟩ := nd2
              rw [e] at h1
              cases h1
              exact S2.off mv4.kept e rfl) tup4
            have nl4 := nl3.mv ht3 mv
            have hD4 := S3.off mv.kept hD3 rfl
            have row4 : ∀ (i : Nat) (a : Addr) (r : Row), as2[i]? = some a → (rowsTo R many wl k)[i]? = some r → RowAt H4 a r := fun i a r h1 h2 => by
              obtain ⟨s, h3, h4⟩ := hrow2 i a r h1 h2
              exact ⟨s, tup4 _ _ h3, tup4 _ _ h4⟩
            have hT : H4 T0 = some (.tup [.ref s0, .str (wdAt R many wl k).s]) := hT
            have hs : H4 s0 = some (.tup ((spkAt R many wl k).map nV)) := hs
            have S4 : AllAt A H4 ps (sysF R many wl (k + 1)) := S4
            dsimp! [hT]
            refine ⟨rfl, ?_⟩
            dsimp! [ht4]
            have hlm2 : (as2.map V.ref).length < sizeLine := by
              rw [List.length_map, hla2, sizeLine_eq]
              simp [rowsTo]
              have := ends.few
              omega
            have len2 : (2 : Nat) ≤ sizeLine := by decide
            refine ⟨len2, fun T1 hT1 => ?_⟩
            have s5 : Same H4 (upd H4 T1 (.tup [.ref s0, .str (wdAt R many wl k).s])) := Same.new hT1
            have ht5 := s5 _ _ ht4
            have hT5 : (upd H4 T1 (.tup [.ref s0, .str (wdAt R many wl k).s])) T1 = some (.tup [.ref s0, .str (wdAt R many wl k).s]) := upd_same
            dsimp! [ht5]
            refine ⟨hlm2, ?_⟩
            have nl5 : NoLean ps (upd H4 T1 (.tup [.ref s0, .str (wdAt R many wl k).s])) t := nl4.mv ht4 (Mv.same S4 s5)
            have S5 := S4.same s5
            have nd5 := nd4.keep (H' := upd H4 T1 (.tup [.ref s0, .str (wdAt R many wl k).s])) (fun o e => s5 _ _ e) fun b xs e => s5 _ _ e
            have s05 := s4.trans s5
            have hD5 := s5 _ _ hD4
            have hs5 := s5 _ _ hs
            have row5 : ∀ (i : Nat) (a : Addr) (r : Row), as2[i]? = some a → (rowsTo R many wl k)[i]? = some r → RowAt (upd H4 T1 (.tup [.ref s0, .str (wdAt R many wl k).s])) a r := fun i a r h1 h2 => by
              obtain ⟨s, h3, h4⟩ := row4 i a r h1 h2
              exact ⟨s, s5 _ _ h3, s5 _ _ h4⟩
            generalize upd H4 T1 (.tup [.ref s0, .str (wdAt R many wl k).s]) = H5 at *
            have sm6 : ∀ b o, H5 b = some o → b ≠ t → (upd H5 t (.lst ((as2.map V.ref) ++ [V.ref T1]))) b = some o := fun b o e n => by
              rw [upd_ne n]
              exact e
            have tup6 : ∀ b xs, H5 b = some (.tup xs) → (upd H5 t (.lst ((as2.map V.ref) ++ [V.ref T1]))) b = some (.tup xs) := fun b xs e => sm6 _ _ e (ne_of e ht5 (by simp))
            have told6 : ToldAt (upd H5 t (.lst ((as2.map V.ref) ++ [V.ref T1]))) t (rowsTo R many wl (k + 1)) := by
              have er : rowsTo R many wl (k + 1) = rowsTo R many wl k ++ [rowAt R many wl k] := by
                unfold rowsTo
                rw [List.range_succ, List.map_append]
                rfl
              refine ⟨as2 ++ [T1], by rw [upd_same, List.map_append]; rfl, by rw [er, List.length_append, List.length_append, hla2]; rfl, fun i a r h1 h2 => ?_⟩
              rw [er] at h2
              rcases Nat.lt_or_ge i as2.length with h | h
              · rw [List.getElem?_append_left h] at h1
                rw [List.getElem?_append_left (by omega)] at h2
                obtain ⟨s, h3, h4⟩ := row5 i a r h1 h2
                exact ⟨s, tup6 _ _ h3, tup6 _ _ h4⟩
              · rw [List.getElem?_append_right h] at h1
                rw [List.getElem?_append_right (by omega), ← hla2] at h2
                cases ei : i - as2.length with
                | zero =>
                  rw [ei] at h1 h2
                  cases h1
                  cases h2
                  exact ⟨s0, tup6 _ _ hT5, tup6 _ _ hs5⟩
                | succ j => rw [ei] at h1; simp at h1
            have s6 : Same H (upd H5 t (.lst ((as2.map V.ref) ++ [V.ref T1]))) := fun b o e => sm6 _ _ (s05 _ _ e) (ne_of_none e ht0)
            have nd6 := nd5.keep (H' := upd H5 t (.lst ((as2.map V.ref) ++ [V.ref T1]))) (fun o e => sm6 _ _ e nSD) tup6
            have S6 := S5.put (o := .lst ((as2.map V.ref) ++ [V.ref T1])) ht5 rfl nl5
            have nl6 := NoLean.put (o := .lst ((as2.map V.ref) ++ [V.ref T1])) S5 nl5 ht5 rfl
            have hD6 := sm6 _ _ hD5 nDt
            generalize upd H5 t (.lst ((as2.map V.ref) ++ [V.ref T1])) = H6 at *
            have fin : ∀ z : Int, z = (wl.length : Int) - heardN R many wl (k + 1) → ∃ m', m' < n - k ∧ ∃ (k' : Nat) (x8 x9 x10' x11 x12 x13' x14' : Option V), k' ≤ n ∧ m' = n - k' ∧ [some (V.ref a), some (.int many), some (.ref wk), some (.ref D), some (.int (lastW wl)), some (.int z), some (.ref SD), some (.ref t), some (.int k), y9, some (.ref W), some (.ref s0), some (.str (wdAt R many wl k).s), x13, x14] = [some (V.ref a), some (.int many), some (.ref wk), some (.ref D), some (.int (lastW wl)), some (.int ((wl.length : Int) - heardN R many wl k')), some (.ref SD), some (.ref t), x8, x9, x10', x11, x12, x13', x14'] ∧
              Same H H6 ∧ H6 D = some (.lst (ps.map fun p => V.ref p.1)) ∧ AllAt A H6 ps (sysF R many wl k') ∧ NDict P w H6 SD (stoodE R many wl k') ∧ ToldAt H6 t (rowsTo R many wl k') ∧ NoLean ps H6 t := by
              rintro z rfl
              exact ⟨n - (k + 1), by omega, k + 1, _, _, _, _, _, _, _, hkn, rfl, rfl, s6, hD6, S6, nd6, told6, nl6⟩
            dsimp! []
            cases ew : wdAt R many wl k with
            | hrd =>
              rw [ew] at fin
              dsimp! [Wd.s]
              refine fin _ ?_
              simp only [heardN, ew, if_true]
              omega
            | sil =>
              rw [ew] at fin
              dsimp! [Wd.s, wd_sh]
              refine fin _ ?_
              simp only [heardN, ew, reduceCtorEq, if_false]
              omega
            | noi =>
              rw [ew] at fin
              dsimp! [Wd.s, wd_nh]
              refine fin _ ?_
              simp only [heardN, ew, reduceCtorEq, if_false]
              omega
        · have told1 : ToldAt H1 t (rowsTo R many wl k) := ⟨as, ht1, hla, hrow⟩
          refine ite2 (fun c2 => ?_) (fun c2 => ?_)
          · have lw : lastW wl ≤ k := by omega
            dsimp! [hD1]
            intro F hF
            refine ⟨_, _, _, fun i H2 => ∃ vs, vs.length = i ∧ H2 F = some (.lst vs) ∧ KeysAt H2 vs ((List.range i).map fun j => (sysF R many wl k j).key) ∧ Same H1 H2, walk_list (K := K) (a := D) (xs := ps.map fun p => V.ref p.1), ⟨[], rfl, upd_same, .nil, Same.new hF⟩, fun i H2 _ h => ?_, ?_, ?_⟩
            · obtain ⟨_, _, _, _, sm⟩ := h
              exact SqL.of (sm _ _ hD1)
            · rintro i x H2 H3 hi ⟨vs, hvl, hF2, ks, sm⟩ ⟨rfl, ex⟩
              rw [List.getElem?_map] at ex
              obtain ⟨p, hp, rfl⟩ : ∃ p, ps[i]? = some p ∧ x = V.ref p.1 := by
                cases e : ps[i]? with
                | none => rw [e] at ex; cases ex
                | some p => rw [e] at ex; exact ⟨p, rfl, (Option.some.inj ex).symm⟩
              have hi' : i < many := by rw [List.length_map] at hi; omega
              have Sp := (S1.same sm) i p hp
              obtain ⟨dx, ob⟩ := Sp.ob
              dsimp! [T.n_Station_way, lk_Station_way, pf_Station_way, T.n_Station_spoke, lk_Station_spoke, pf_Station_spoke, T.n_Station_over, lk_Station_over, pf_Station_over, T.cl_Station, ln_Station, pm_Station_1, pm_Station_2, lm_Station_speaks, lm_Station_hears, lm_Station_standing, ob]
              refine ⟨p.1, p.2, sysF R many wl k i, rfl, Sp, fun u H4 s4 hu4 => ?_⟩
              have hF4 := s4 _ _ hF2
              dsimp! [hF4]
              have tupF : ∀ b xs, H4 b = some (.tup xs) → (upd H4 F (.lst (vs ++ [V.ref u]))) b = some (.tup xs) := fun b xs e => by
                rw [upd_ne (ne_of e hF4 (by simp))]
                exact e
              refine ⟨by rw [hvl, sizeLine_eq]; omega, vs ++ [V.ref u], by rw [List.length_append, hvl]; rfl, ?_, ?_, fun b o e => ?_⟩
              · first
                  | rfl
                  | exact upd_same
              · rw [List.range_succ, List.map_append]
                exact KeysAt.snoc (KeyAt.mono tupF _ _ hu4) (KeysAt.mono (fun b xs e => tupF _ _ (s4 _ _ e)) _ _ ks)
              · rw [upd_ne (ne_of_none e hF)]
                exact s4 _ _ (sm _ _ e)
            · rintro H2 ⟨vs, hvl, hF2, ks, sm⟩
              rw [List.length_map, hl] at ks
              dsimp! [hF2]
              intro u hu1
              have s3 : Same H1 (upd H2 u (.tup vs)) := (show Same H1 H2 from sm).trans (Same.new hu1)
              have ku : KeyAt (upd H2 u (.tup vs)) (.ref u) (keyAt R many wl k) := .tup upd_same (KeysAt.mono (fun b xs e => by
                rw [upd_ne (ne_of_none e hu1)]
                exact e) _ _ ks)
              have nd2 := nd1.keep (H' := upd H2 u (.tup vs)) (fun o e => s3 _ _ e) fun b xs e => s3 _ _ e
              have s03 := s1.trans s3
              have hD3 := s3 _ _ hD1
              have S3 := S1.same s3
              have nl3 := nl1.mv ht1 (Mv.same S1 s3)
              have told3 : ToldAt (upd H2 u (.tup vs)) t (rowsTo R many wl k) := ⟨as, s3 _ _ ht1, hla, fun i a r h1 h2 => by
                obtain ⟨s, h3, h4⟩ := hrow i a r h1 h2
                exact ⟨s, s3 _ _ h3, s3 _ _ h4⟩⟩
              generalize upd H2 u (.tup vs) = H3 at *
              dsimp! []
              refine ⟨u, SD, keyAt R many wl k, _, rfl, rfl, ku, keyAt_depth _ _ _ _, nd2, ?_⟩
              cases ev : valV (stoodE R many wl k) (keyAt R many wl k) with
              | some x =>
                obtain ⟨m, ag, rfl⟩ := stood_some ev
                have hkn : k = n := by
                  rcases Nat.lt_or_ge k n with h | h
                  · exact (ends.first k h (.inr ⟨m, ag⟩)).elim
                  · omega
                subst hkn
                dsimp! [Option.isSome_some]
                refine ⟨u, SD, keyAt R many wl k, _, nV m, rfl, rfl, ku, keyAt_depth _ _ _ _, nd2, ev, by decide, fun T0 hT0 => ?_⟩
                have s4 : Same H3 (upd H3 T0 (.tup [.str "forever", .ref t, .int ((k : Int) - m)])) := Same.new hT0
                obtain ⟨as3, ht3, hla3, hrow3⟩ := told3
                exact kk T0 t _ (s03.trans s4) ht0 ⟨as3, s4 _ _ ht3, hla3, fun i a r h1 h2 => by
                  obtain ⟨s, h3, h4⟩ := hrow3 i a r h1 h2
                  exact ⟨s, s4 _ _ h3, s4 _ _ h4⟩⟩ (fun h => by omega) fun _ => ⟨m, ag, upd_same⟩
              | none =>
                dsimp! [Option.isSome_none]
                have hkn : k < n := by
                  rcases Nat.lt_or_ge k n with h | h
                  · exact h
                  · have : k = n := by omega
                    subst this
                    rcases ends.stop with h1 | h2
                    · omega
                    · exact (stood_none ev h2).elim
                have small : (stoodE R many wl k).length < sizeLine := by
                  have := stoodE_len (R := R) (many := many) (wl := wl) (k := k)
                  have := ends.few
                  rw [sizeLine_eq]
                  omega
                refine ⟨u, SD, keyAt R many wl k, _, rfl, rfl, ku, keyAt_depth _ _ _ _, nd2, ev, small, fun o nd3 => ?_⟩
                have nd2' := nd2
                obtain ⟨es, _, hSD3, _⟩ := nd2'
                have nls : NoLean ps H3 SD := fun p hp hle => by
                  obtain ⟨j, hj⟩ := List.getElem?_of_mem hp
                  obtain ⟨xs, e⟩ := (S3 j p hj).wy.leans hle
                  rw [hSD3] at e
                  cases e
                have sm : ∀ b x, H3 b = some x → b ≠ SD → (upd H3 SD o) b = some x := fun b x e n => by
                  rw [upd_ne n]
                  exact e
                obtain ⟨as3, ht3, hla3, hrow3⟩ := told3
                have tup3 : ∀ b xs, H3 b = some (.tup xs) → (upd H3 SD o) b = some (.tup xs) := fun b xs e => sm _ _ e (ne_of e hSD3 (by simp))
                refine ⟨_, rfl, hkn, fun b x e => sm _ _ (s03 _ _ e) (ne_of_none e hS0), sm _ _ hD3 (ne_of hD3 hSD3 (by simp)), S3.put hSD3 rfl nls, ?_, ⟨as3, sm _ _ ht3 nSD.symm, hla3, fun i a r h1 h2 => by
                  obtain ⟨s, h3, h4⟩ := hrow3 i a r h1 h2
                  exact ⟨s, tup3 _ _ h3, tup3 _ _ h4⟩⟩, NoLean.put S3 nl3 hSD3 rfl⟩
                rw [stoodE_succ lw]
                exact nd3
          · have hkn : k < n := by
              rcases Nat.lt_or_ge k n with h | h
              · exact h
              · have : k = n := by omega
                subst this
                rcases ends.stop with h1 | ⟨m, h1, h2, _⟩
                · omega
                · omega
            dsimp! []
            refine ⟨x9, rfl, hkn, s1, hD1, S1, ?_, told1, nl1⟩
            rw [stoodE_low (by omega)]
            rw [stoodE_low (by omega)] at nd1
            exact nd1
      · have hkn : k = n := by
          rcases Nat.lt_or_ge k n with h | h
          · exact (ends.first k h (.inl (by omega))).elim
          · omega
        subst hkn
        refine Later.mk ?_
        dsimp! []
        refine ⟨by decide, fun T0 hT0 => ?_⟩
        have s2 : Same H1 (upd H1 T0 (.tup [.str "heard", .ref t, .int 0])) := Same.new hT0
        refine kk T0 t _ (s1.trans s2) ht0 ?_ (fun _ => upd_same) fun h => (h (by omega)).elim
        obtain ⟨as, ht1, hla, hrow⟩ := told1
        exact ⟨as, s2 _ _ ht1, hla, fun i a r h1 h2 => by
          obtain ⟨s, h3, h4⟩ := hrow i a r h1 h2
          exact ⟨s, s2 _ _ h3, s2 _ _ h4⟩⟩
end
end OA

namespace OA
open PySem L2
/-- the last moment before n in which j alone speaks -/
def heardAt (R : RuleM) (many : Nat) (wl : WL) : Nat → Nat → Option Nat
  | 0, _ => none
  | k + 1, j => if spkAt R many wl k = [j] then some k else heardAt R many wl k j
def timesKV (R : RuleM) (many : Nat) (wl : WL) (n : Nat) : List (Key × V) := (List.range many).filterMap fun j => (heardAt R many wl n j).map fun k => (Sum.inl (j : Int), V.int (k : Nat))
theorem wd_hrd {R : RuleM} {many : Nat} {wl : WL} {k : Nat} : wdAt R many wl k = .hrd ↔ ∃ j, spkAt R many wl k = [j] := by
  unfold wdAt
  generalize spkAt R many wl k = l
  match l with
  | [] => simp [nWd]
  | [j] => simp [nWd]
  | a :: b :: r => simp [nWd]
theorem spk_lt {R : RuleM} {many : Nat} {wl : WL} {k j : Nat} (h : j ∈ spkAt R many wl k) : j < many := by
  unfold spkAt spkF at h
  exact List.mem_range.mp (List.mem_filter.mp h).1
theorem ext_sorted : ∀ l1 l2 : List Int, l1.Pairwise (· < ·) → l2.Pairwise (· < ·) → (∀ x, x ∈ l1 ↔ x ∈ l2) → l1 = l2
  | [], [], _, _, _ => rfl
  | [], y :: l2, _, _, h => absurd ((h y).mpr List.mem_cons_self) (by simp)
  | x :: l1, [], _, _, h => absurd ((h x).mp List.mem_cons_self) (by simp)
  | x :: l1, y :: l2, p1, p2, h => by
    have a1 := List.pairwise_cons.mp p1
    have a2 := List.pairwise_cons.mp p2
    have exy : x = y := by
      rcases List.mem_cons.mp ((h x).mp List.mem_cons_self) with e | m1
      · exact e
      · rcases List.mem_cons.mp ((h y).mpr List.mem_cons_self) with e | m2
        · exact e.symm
        · have := a1.1 y m2
          have := a2.1 x m1
          omega
    subst exy
    have e := ext_sorted l1 l2 a1.2 a2.2 fun z => by
      constructor
      · intro hz
        rcases List.mem_cons.mp ((h z).mp (List.mem_cons_of_mem _ hz)) with e | m
        · subst e
          have := a1.1 z hz
          omega
        · exact m
      · intro hz
        rcases List.mem_cons.mp ((h z).mpr (List.mem_cons_of_mem _ hz)) with e | m
        · subst e
          have := a2.1 z hz
          omega
        · exact m
    rw [e]
def heardBy (R : RuleM) (many : Nat) (wl : WL) (n : Nat) : List Nat := (List.range many).filter fun j => (heardAt R many wl n j).isSome
def tKV (R : RuleM) (many : Nat) (wl : WL) (n : Nat) (j : Nat) : Key × V := (Sum.inl (j : Int), V.int (((heardAt R many wl n j).getD 0 : Nat)))
theorem times_map (R : RuleM) (many : Nat) (wl : WL) (n : Nat) : timesKV R many wl n = (heardBy R many wl n).map (tKV R many wl n) := by
  unfold timesKV heardBy
  induction List.range many with
  | nil => rfl
  | cons j l ih =>
    rw [List.filterMap_cons, List.filter_cons]
    cases e : heardAt R many wl n j with
    | none => simpa using ih
    | some k => simp [ih, tKV, e]
theorem putK_keys {κ : Type} [DecidableEq κ] (kvs : List (κ × V)) (k : κ) (v : V) : (putK kvs k v).map (·.1) = if k ∈ kvs.map (·.1) then kvs.map (·.1) else kvs.map (·.1) ++ [k] := by
  unfold putK
  by_cases h : k ∈ kvs.map (·.1)
  · rw [if_pos h, if_pos]
    · rw [List.map_map]
      refine List.map_congr_left fun x _ => ?_
      show (if x.1 = k then (x.1, v) else x).1 = x.1
      split <;> rfl
    · obtain ⟨x, hx, e⟩ := List.mem_map.mp h
      exact List.any_eq_true.mpr ⟨x, hx, decide_eq_true e⟩
  · rw [if_neg h, if_neg]
    · rw [List.map_append]
      rfl
    · intro c
      obtain ⟨x, hx, e⟩ := List.any_eq_true.mp c
      exact h (List.mem_map.mpr ⟨x, hx, of_decide_eq_true e⟩)
section
variable {P : Program} {w : World} {K : PySem.W.Frag} {mg : Str → Option Value} {base : Heap} {A : Ad}
def spTimes (A : Ad) : Sp := fun vs H Q _ => ∃ (a wk : Addr) (many n : Nat) (R : RuleM) (wl : WL), vs = [.ref a, .int many, .ref wk] ∧ RuleAt H a R ∧ R.OkN many ∧ 1 ≤ many ∧ many ≤ 8 ∧ H wk = some (.dK (wkv wl)) ∧ WOk many wl ∧ EndsAt R many wl n ∧ RT A R H ∧
  ∀ H1 d H', Tbd A R H H1 → Same H1 H' → H1 d = none → H' d = some (.dK (timesKV R many wl n)) → Q (.ref d) H'
end
end OA

namespace OA
open PySem L2
local macro_rules
  | `(tactic| simp! [$a,*]) => `(tactic| simp -implicitDefEqProofs only [wNeD0, wRep, tDNewK, vDc, wSortDI, dkR_e, dkR_f, e_cut, wSetL, vLstRg, wLstD, e_lock, vVals, gSub, tCKw, frzO_e, viItems, viKeys, vRev, e_while, e_for, e_asgG, gName, vgTup, vgCons_e, vgNil_e, viList, viTup, viStr, viR1, viEnum, vLc, tYes, wipe, e_seq, e_next, e_drop, e_ret, e_retN, e_sfld, e_augI, e_aug, e_dput, vIf, vTest, wInT, vVar, vFld, tC, tOp, tUn, wI0, wIC, rEq, rNe, scal, wAddS, wMulS, wCat, wNeg, wIxL, wIxT, wIxS, vPart, tNoPart, tSl, wSlL, tCB, tCons, tNil, len_s, wTupL, wLstL, wAbs, wIntB, wMin2, wMax2, vAnd, vOr, vNot, vChain, vMeth, vCall, vMake, vLM0, vLM, isLst, wAppend, wPopAt, wInsert0, vStar, vDGet, vDIn, vDNotIn, tTup, tLst, tIf, tAnd, tOr, tNot, refR_e, intR_e, blR_e, strR_e, optR_e, keyR_i, keyR_s, insO_e, lstO_e, tupO_e, dkO_e, one1_e, two2_e, len_r, lenO_l, lenO_t, lenO_d, L2.start, List.map, List.replicate, List.length_cons, List.length_nil, List.cons_append, List.nil_append, List.append_nil, List.getElem?_cons_zero, List.getElem?_cons_succ, List.set_cons_zero, List.set_cons_succ, true_and, and_true, cx_K, cx_prog, cx_w, blkK, Int.toNat_natCast, upd_same, upd_upd, if_true, if_false, decide_eq_true_eq, reduceCtorEq, reduceIte, Bool.false_eq_true, decide_true, decide_false, Bool.true_and, Bool.false_and, Bool.and_true, Bool.and_false, Bool.not_true, Bool.not_false, V.int.injEq, V.str.injEq, V.bl.injEq, putF_nil, Nat.reduceAdd, Nat.reduceSub, Nat.reduceLT, Int.reduceEq, Int.reduceLT, Int.reduceLE, Int.reduceAdd, Int.reduceSub, Int.cast_ofNat_Int, wIsi, tyR_e, tyO_l, tyO_t, tyO_d, tyN_n, tyN_b, tyN_i, tyN_s, tyN_r, kit_NoneType_bool, kit_NoneType_int, kit_NoneType_str, kit_NoneType_list, kit_NoneType_tuple, kit_NoneType_dict, kit_bool_bool, kit_bool_int, kit_bool_str, kit_bool_list, kit_bool_tuple, kit_bool_dict, kit_int_bool, kit_int_int, kit_int_str, kit_int_list, kit_int_tuple, kit_int_dict, kit_str_bool, kit_str_int, kit_str_str, kit_str_list, kit_str_tuple, kit_str_dict, kit_list_bool, kit_list_int, kit_list_str, kit_list_list, kit_list_tuple, kit_list_dict, kit_tuple_bool, kit_tuple_int, kit_tuple_str, kit_tuple_list, kit_tuple_tuple, kit_tuple_dict, kit_dict_bool, kit_dict_int, kit_dict_str, kit_dict_list, kit_dict_tuple, kit_dict_dict, $a,*])
  | `(tactic| dsimp! [$a,*]) => `(tactic| ((try refine Later.mk ?_); simp! [$a,*]; repeat (refine Later.mk ?_; simp! [$a,*])))
section
variable {P : Program} {w : World} {K : PySem.W.Frag} {mg : Str → Option Value} {base : Heap} {A : Ad}
theorem aw_split {wl : WL} {i now : Nat} {X : Bool → Prop} (h : X (awF wl now i)) : if (valV (wkv wl) (Sum.inl (i : Int))).isSome = true then optR (valV (wkv wl) (Sum.inl (i : Int))) (fun v => intR v fun t => X (decide (t ≤ (now : Int)))) else X false := by
  rw [valV_wkv]
  unfold awF at h
  cases el : wl.lookup i with
  | none => rw [el] at h; exact h
  | some t =>
    rw [el] at h
    show X (decide ((t : Int) ≤ (now : Int)))
    rw [show decide ((t : Int) ≤ (now : Int)) = decide (t ≤ now) from decide_eq_decide.mpr Int.ofNat_le]
    exact h
/-! the law's own moment: stations asked and told by themselves -/
def spLMom (A : Ad) : Sp := fun vs H Q _ => ∃ (L wk : Addr) (ps : List (Addr × Addr)) (f : Nat → StM) (wl : WL) (now : Nat), vs = [.ref L, .ref wk, .int now] ∧ H L = some (.lst (ps.map fun p => .ref p.1)) ∧ H wk = some (.dK (wkv wl)) ∧
  AllAt A H ps f ∧ Apart ps ∧ ps.length ≤ 8 ∧ (∀ j, j < ps.length → (f j).way.Ok ∧ (f j).way.deep ≤ 10000) ∧
  ∀ T s H', Mv ps H H' → H' T = some (.tup [.ref s, .str (nWd (spkF (asksF (awF wl now) f) ps.length).length).s]) → H' s = some (.tup ((spkF (asksF (awF wl now) f) ps.length).map nV)) →
    AllAt A H' ps (hearsF (nWd (spkF (asksF (awF wl now) f) ps.length).length) (asksF (awF wl now) f)) → Q (.ref T) H'
theorem sc__law_moment : FnScope ["_law_stations", "_law_wakes_here", "_law_now", "_law_some", "_law_number", "_law_speaks", "_law_word", "_law_station"] ["_law_stations", "_law_wakes_here", "_law_now"] (defScope s__law_moment) := ⟨rfl, rfl, rfl, by decide +kernel, rfl, by decide +kernel, by decide +kernel⟩
theorem ok__law_moment (T : Txt K mg base A) : FnOk P w K mg base CX0 4 A._law_moment A.d__law_moment ["_law_stations", "_law_wakes_here", "_law_now"] (spLMom A) := by
  refine T.F__law_moment.ok sc__law_moment (fun vs H Q E h => ?_) (fun cdv A' outer s H vs Q E hr h => ?_)
  · obtain ⟨L, wk, ps, f, wl, now, rfl, _⟩ := h
    rfl
  obtain ⟨L, wk, ps, f, wl, now, rfl, hL, hW, hS, ap, h8, ok, kk⟩ := h
  have hu := hu_of hr
  refine ⟨_, (qs_cons (ps_set (i := 3) sc__law_moment.nd rfl (Or.inl rfl) (pe_lst pa_nil))
    (qs_cons (q_for PassesOwn.never rfl (qi_r1 (by rfl) T.m_range (pa_cons (pe_callB c_len (by rfl) T.m_len (by decide +kernel) (pa_cons (qv 0) pa_nil)) pa_nil)) (pg_name (i := 4) sc__law_moment.nd rfl (Or.inl rfl)) (qs_cons (ps_set (i := 5) sc__law_moment.nd rfl (Or.inl rfl) (q_meth (pe_ix ix_L (qv 0) (qv 4) (fun _ _ => rfl)) T.cl_Station T.me_Station_speaks (ok_Station_speaks T) (hr.mono (by decide)) T.b_Station_speaks pass0 (pa_cons (q_and (q_din hu (qv 4) (qv 1)) (pe_one (pe_cmpR o_le (q_dget hu (qv 1) (qv 4) (fun _ _ => rfl)) (qv 2) (nomark _)))) pa_nil)))
    (qs_cons (q_if (pt_not (q_val (pe_callB c_isi (by rfl) T.m_isinstance (by decide +kernel) (pa_cons (qv 5) (pa_cons (pe_bltn (v := .ty "bool") (by rfl) T.m_bool (by decide +kernel) rfl) pa_nil))))) (pss_one (ps_ret pe_non)) pss_nil)
    (pss_one (ps_set (i := 3) sc__law_moment.nd rfl (Or.inl rfl) (pe_op o_cat (qv 3) (pe_op o_rep (pe_lst (pa_cons (qv 4) pa_nil)) (pe_callTy c_intB (by rfl) T.m_int (by decide +kernel) (pa_cons (qv 5) pa_nil)))))))))
    (qs_cons (ps_set (i := 6) sc__law_moment.nd rfl (Or.inl rfl) (pe_ix ix_L (pe_lst (pa_cons pe_str (pa_cons pe_str (pa_cons pe_str pa_nil)))) (pe_callB (c_min2 rfl) (by rfl) T.m_min (by decide +kernel) (pa_cons pe_int (pa_cons (pe_callB c_len (by rfl) T.m_len (by decide +kernel) (pa_cons (qv 3) pa_nil)) pa_nil))) (fun _ _ => rfl)))
    (qs_cons (q_for PassesOwn.never rfl (qi_list (qv 0)) (pg_name (i := 7) sc__law_moment.nd rfl (Or.inl rfl)) (pss_one (ps_expr (q_meth (qv 7) T.cl_Station T.me_Station_hears (ok_Station_hears T) (hr.mono (by decide)) T.b_Station_hears pass0 (pa_cons (qv 6) pa_nil)))))
    (pss_one (ps_ret (pe_tup (pa_cons (pe_callTy c_tupL (by rfl) T.m_tuple (by decide +kernel) (pa_cons (qv 3) pa_nil)) (pa_cons (qv 6) pa_nil))))))))), ?_⟩
  have hlen : (ps.map fun p => V.ref p.1).length = ps.length := List.length_map _
  have s8 : ∀ n, n ≤ 8 → n ≤ sizeLine := fun n h => by rw [sizeLine_eq]; omega
  have getp : ∀ {i : Nat} {x : V}, (ps.map fun p => V.ref p.1)[i]? = some x → ∃ p, ps[i]? = some p ∧ x = V.ref p.1 := fun {i x} e => by
    rw [List.getElem?_map] at e
    cases q : ps[i]? with
    | none => rw [q] at e; cases e
    | some p => rw [q] at e; exact ⟨p, rfl, (Option.some.inj e).symm⟩
  generalize haw : awF wl now = aw at *
  dsimp! []
  refine ⟨Nat.zero_le _, fun p hp => ?_⟩
  have sm0 : Same H (upd H p (.lst [])) := Same.new hp
  have hL0 := sm0 _ _ hL
  have hW0 := sm0 _ _ hW
  have hp0 : (upd H p (.lst [])) p = some (.lst []) := upd_same
  have mv0 := Mv.same hS sm0
  have S0 := hS.same sm0
  generalize upd H p (.lst []) = H0 at *
  dsimp! [hL0]
  rw [hlen]
  refine ⟨⟨by omega, by omega⟩, _, _, _, fun i σ H1 => ∃ (q : Addr) (v4 v5 v6 v7 : Option V), σ = [some (.ref L), some (.ref wk), some (.int now), some (.ref q), v4, v5, v6, v7] ∧ H1 q = some (.lst ((spkF (asksF aw f) i).map nV)) ∧ AllAt A H1 ps (mixF i (asksF aw f) f) ∧ Mv ps H H1, walk_range (lo := 0) (n := ps.length), ?_, fun _ _ _ _ _ => True.intro, ?_, ?_⟩
  · exact ⟨p, none, none, none, none, rfl, hp0, by rw [mixF_zero]; exact S0, mv0⟩
  · rintro i x σ H1 H2 hi ⟨q, v4, v5, v6, v7, rfl, hq, S1, m1⟩ ⟨rfl, rfl⟩
    have e0 : (0 : Int) + (i : Nat) = (i : Nat) := Int.zero_add _
    obtain ⟨pp, hpp, _⟩ := getp (i := i) (x := (ps.map fun p => V.ref p.1)[i]'(by rw [hlen]; exact hi)) (List.getElem?_eq_getElem (by rw [hlen]; exact hi))
    have Sp := S1 i pp hpp
    have em : mixF i (asksF aw f) f i = f i := by simp [mixF]
    rw [em] at Sp
    obtain ⟨dx, ob⟩ := Sp.ob
    have hL1 := hS.off m1.kept hL rfl
    have hW1 := hS.off m1.kept hW rfl
    have ha : atI (ps.map fun p => V.ref p.1) (i : Int) = some (V.ref pp.1) := by
      refine atI_nat ?_
      rw [List.getElem?_map, hpp]
      rfl
    have lsp : (spkF (asksF aw f) i).length ≤ i := Nat.le_trans (List.length_filter_le _ _) (by rw [List.length_range]; exact Nat.le_refl _)
    have sp1 : spkF (asksF aw f) (i + 1) = spkF (asksF aw f) i ++ (if (asksF aw f i).spoke = true then [i] else []) := by
      unfold spkF
      rw [List.range_succ, List.filter_append]
      congr 1
      by_cases c : (asksF aw f i).spoke = true
      · simp [c]
      · simp [c]
    dsimp! [e0, hL1, hW1, ha]
    rw [ob]
    refine ⟨⟨rfl, by first | exact lm_Station_speaks _ _ _ | rfl⟩, ?_⟩
    refine aw_split (X := fun b => spSpeaks A [.ref pp.1, .bl b] H2 _ _) ?_
    rw [haw]
    refine ⟨pp.1, pp.2, f i, aw i, rfl, Sp, (ok i hi).1, fun H3 k3 f3 S3 => ?_⟩
    have offq := Sp.off hq rfl
    have hq3 := k3 q _ hq offq.1 offq.2
    have S3' := S1.step ap hpp k3 S3
    have m3 := m1.trans (Mv.one S1 S3' ap hpp k3 f3)
    have eb : (StM.asked (aw i) (f i)).spoke = (asksF aw f i).spoke := rfl
    rw [eb]
    have ex : ∀ b : Bool, (List.replicate (if b = true then (1 : Int) else 0).toNat [V.int (i : Nat)]).flatten = ((if b = true then [i] else []).map nV) := fun b => by cases b <;> rfl
    dsimp! []
    have b01 : ∀ b : Bool, 0 ≤ (if b = true then (1 : Int) else 0) ∧ (if b = true then (1 : Int) else 0) ≤ 1000 := fun b => by cases b <;> decide
    refine ⟨by decide, fun p1 hp1 => ⟨⟨(b01 _).1, (b01 _).2, by decide⟩, fun p2 hp2 => ?_⟩⟩
    have sm1 : Same H3 (upd H3 p1 (.lst [V.int (i : Nat)])) := Same.new hp1
    rw [ex]
    have sm2 : Same (upd H3 p1 (.lst [V.int (i : Nat)])) (upd (upd H3 p1 (.lst [V.int (i : Nat)])) p2 (.lst ((if (asksF aw f i).spoke = true then [i] else []).map nV))) := Same.new hp2
    have sm12 := sm1.trans sm2
    have hq5 := sm12 _ _ hq3
    have mv5 := m3.trans (Mv.same S3' sm12)
    have S5 := S3'.same sm12
    generalize upd (upd H3 p1 (.lst [V.int (i : Nat)])) p2 (.lst ((if (asksF aw f i).spoke = true then [i] else []).map nV)) = H5 at *
    show lstO (H5 q) _
    rw [hq5]
    have le1 : ((if (asksF aw f i).spoke = true then [i] else []).map nV).length ≤ 1 := by split <;> simp
    refine ⟨by rw [List.length_map]; exact s8 _ (by omega), fun p3 hp3 => ?_⟩
    have sm3 : Same H5 (upd H5 p3 (.lst ((spkF (asksF aw f) i).map nV ++ (if (asksF aw f i).spoke = true then [i] else []).map nV))) := Same.new hp3
    exact ⟨p3, _, _, _, _, rfl, by rw [upd_same, sp1, List.map_append], S5.same sm3, mv5.trans (Mv.same S5 sm3)⟩
  · rintro σ H1 ⟨q, v4, v5, v6, v7, rfl, hq, S1, m1⟩
    have S1 : AllAt A H1 ps (asksF aw f) := fun j p hj => by
      have := S1 j p hj
      have hj' := (List.getElem?_eq_some_iff.mp hj).1
      unfold mixF at this
      rw [if_pos hj'] at this
      exact this
    dsimp! [hq]
    refine ⟨by decide, fun p1 hp1 => ?_⟩
    have sm1 : Same H1 (upd H1 p1 (HO.lst [V.str (Str.ofString "silent"), V.str (Str.ofString "heard"), V.str (Str.ofString "noise")])) := Same.new hp1
    have hq2 := sm1 _ _ hq
    have S2 := S1.same sm1
    have m2 := m1.trans (Mv.same S1 sm1)
    generalize upd H1 p1 (HO.lst [V.str (Str.ofString "silent"), V.str (Str.ofString "heard"), V.str (Str.ofString "noise")]) = H2 at *
    rw [hq2]
    show optR (atI _ (if (((spkF (asksF aw f) ps.length).map nV).length : Int) < 2 then (((spkF (asksF aw f) ps.length).map nV).length : Int) else 2)) _
    rw [List.length_map]
    have ew : ∀ n : Nat, atI [V.str (Str.ofString "silent"), V.str (Str.ofString "heard"), V.str (Str.ofString "noise")] (if (n : Int) < 2 then (n : Int) else 2) = some (V.str (nWd n).s) := fun n => by
      match n with
      | 0 => rfl
      | 1 => rfl
      | n + 2 =>
        rw [if_neg (by omega)]
        rfl
    rw [ew]
    generalize hwd : nWd (spkF (asksF aw f) ps.length).length = wd at *
    have hL2 := hS.off m2.kept hL rfl
    dsimp! [hL2]
    refine ⟨_, _, _, fun i σ H4 => (∃ v, σ = [some (.ref L), some (.ref wk), some (.int now), some (.ref q), v4, v5, some (.str wd.s), v]) ∧ AllAt A H4 ps (mixF i (hearsF wd (asksF aw f)) (asksF aw f)) ∧ Mv ps H2 H4, walk_list (K := K) (a := L) (xs := ps.map fun p => V.ref p.1), ?_, ?_, ?_, ?_⟩
    · exact ⟨⟨_, rfl⟩, by rw [mixF_zero]; exact S2, Mv.refl ps H2⟩
    · intro i σ H4 _ ⟨_, _, m4⟩
      exact SqL.of (S2.off m4.kept hL2 rfl)
    · rintro i x σ H4 H5 hi ⟨⟨v, rfl⟩, S4, m4⟩ ⟨rfl, e2⟩
      obtain ⟨pp, hpp, rfl⟩ := getp e2
      have hi' : i < ps.length := by omega
      have Sp := S4 i pp hpp
      have em : mixF i (hearsF wd (asksF aw f)) (asksF aw f) i = asksF aw f i := by simp [mixF]
      rw [em] at Sp
      obtain ⟨dx, ob⟩ := Sp.ob
      dsimp! [T.n_Station_way, lk_Station_way, pf_Station_way, T.n_Station_spoke, lk_Station_spoke, pf_Station_spoke, T.n_Station_over, lk_Station_over, pf_Station_over, T.cl_Station, ln_Station, pm_Station_1, pm_Station_2, lm_Station_speaks, lm_Station_hears, lm_Station_standing, ob]
      refine ⟨pp.1, pp.2, asksF aw f i, wd, rfl, Sp, WayM.asked_ok _ (ok i hi').1, WayM.asked_set _ _, ?_, fun H6 k6 f6 S6 => ?_⟩
      · exact Nat.le_trans (asked_deep _ _) (by have := (ok i hi').2; omega)
      · have S7 := S4.step ap hpp k6 S6
        exact ⟨⟨_, rfl⟩, S7, m4.trans (Mv.one S4 S7 ap hpp k6 f6)⟩
    · rintro σ H4 ⟨⟨v, rfl⟩, S4, m4⟩
      rw [hlen] at S4
      have S4 : AllAt A H4 ps (hearsF wd (asksF aw f)) := fun j p hj => by
        have := S4 j p hj
        have hj' := (List.getElem?_eq_some_iff.mp hj).1
        unfold mixF at this
        rw [if_pos hj'] at this
        exact this
      have hq4 := S2.off m4.kept hq2 rfl
      dsimp! [hq4]
      intro s hs
      have sm4 : Same H4 (upd H4 s (.tup ((spkF (asksF aw f) ps.length).map nV))) := Same.new hs
      have S5 := S4.same sm4
      have m5 := (m2.trans m4).trans (Mv.same S4 sm4)
      have hs5 : (upd H4 s (.tup ((spkF (asksF aw f) ps.length).map nV))) s = some (.tup ((spkF (asksF aw f) ps.length).map nV)) := upd_same
      generalize upd H4 s (.tup ((spkF (asksF aw f) ps.length).map nV)) = H5 at *
      refine ⟨by decide, fun T0 hT0 => ?_⟩
      have sm6 : Same H5 (upd H5 T0 (.tup [V.ref s, V.str wd.s])) := Same.new hT0
      exact kk T0 s _ (m5.trans (Mv.same S5 sm6)) upd_same (sm6 _ _ hs5) (S5.same sm6)
end
end OA

namespace OA
open PySem L2
local macro_rules
  | `(tactic| simp! [$a,*]) => `(tactic| simp -implicitDefEqProofs only [wNeD0, wRep, tDNewK, vDc, wSortDI, dkR_e, dkR_f, e_cut, wSetL, vLstRg, wLstD, e_lock, vVals, gSub, tCKw, frzO_e, viItems, viKeys, vRev, e_while, e_for, e_asgG, gName, vgTup, vgCons_e, vgNil_e, viList, viTup, viStr, viR1, viEnum, vLc, tYes, wipe, e_seq, e_next, e_drop, e_ret, e_retN, e_sfld, e_augI, e_aug, e_dput, vIf, vTest, wInT, vVar, vFld, tC, tOp, tUn, wI0, wIC, rEq, rNe, scal, wAddS, wMulS, wCat, wNeg, wIxL, wIxT, wIxS, vPart, tNoPart, tSl, wSlL, tCB, tCons, tNil, len_s, wTupL, wLstL, wAbs, wIntB, wMin2, wMax2, vAnd, vOr, vNot, vChain, vMeth, vCall, vMake, vLM0, vLM, isLst, wAppend, wPopAt, wInsert0, vStar, vDGet, vDIn, vDNotIn, tTup, tLst, tIf, tAnd, tOr, tNot, refR_e, intR_e, blR_e, strR_e, optR_e, keyR_i, keyR_s, insO_e, lstO_e, tupO_e, dkO_e, one1_e, two2_e, len_r, lenO_l, lenO_t, lenO_d, L2.start, List.map, List.replicate, List.length_cons, List.length_nil, List.cons_append, List.nil_append, List.append_nil, List.getElem?_cons_zero, List.getElem?_cons_succ, List.set_cons_zero, List.set_cons_succ, true_and, and_true, cx_K, cx_prog, cx_w, blkK, Int.toNat_natCast, upd_same, upd_upd, if_true, if_false, decide_eq_true_eq, reduceCtorEq, reduceIte, Bool.false_eq_true, decide_true, decide_false, Bool.true_and, Bool.false_and, Bool.and_true, Bool.and_false, Bool.not_true, Bool.not_false, V.int.injEq, V.str.injEq, V.bl.injEq, putF_nil, Nat.reduceAdd, Nat.reduceSub, Nat.reduceLT, Int.reduceEq, Int.reduceLT, Int.reduceLE, Int.reduceAdd, Int.reduceSub, Int.cast_ofNat_Int, wIsi, tyR_e, tyO_l, tyO_t, tyO_d, tyN_n, tyN_b, tyN_i, tyN_s, tyN_r, kit_NoneType_bool, kit_NoneType_int, kit_NoneType_str, kit_NoneType_list, kit_NoneType_tuple, kit_NoneType_dict, kit_bool_bool, kit_bool_int, kit_bool_str, kit_bool_list, kit_bool_tuple, kit_bool_dict, kit_int_bool, kit_int_int, kit_int_str, kit_int_list, kit_int_tuple, kit_int_dict, kit_str_bool, kit_str_int, kit_str_str, kit_str_list, kit_str_tuple, kit_str_dict, kit_list_bool, kit_list_int, kit_list_str, kit_list_list, kit_list_tuple, kit_list_dict, kit_tuple_bool, kit_tuple_int, kit_tuple_str, kit_tuple_list, kit_tuple_tuple, kit_tuple_dict, kit_dict_bool, kit_dict_int, kit_dict_str, kit_dict_list, kit_dict_tuple, kit_dict_dict, $a,*])
  | `(tactic| dsimp! [$a,*]) => `(tactic| ((try refine Later.mk ?_); simp! [$a,*]; repeat (refine Later.mk ?_; simp! [$a,*])))
/-- more is there; but tables nothing has changed -/
structure Gr (A : Ad) (R : RuleM) (H H' : Hp) : Prop where
  keep : ∀ b o, H b = some o → (∀ ps, o ≠ .tbl ps) → H' b = some o
  rt : RT A R H'
  back : ∀ b, H' b = none → H b = none
theorem Gr.same {A : Ad} {R : RuleM} {H H' : Hp} (s : Same H H') (t : RT A R H) : Gr A R H H' := ⟨fun b o e _ => s b o e, t.same s, Same.back s⟩
theorem Gr.refl {A : Ad} {R : RuleM} {H : Hp} (t : RT A R H) : Gr A R H H := .same (Same.refl _) t
theorem Gr.tbd {A : Ad} {R : RuleM} {H H' : Hp} (t : Tbd A R H H') (h : RT A R H) : Gr A R H H' := ⟨fun _ _ e n => t.get h e n, t.warm.rt, fun _ e => t.back e h⟩
theorem Gr.trans {A : Ad} {R : RuleM} {H H1 H2 : Hp} (a : Gr A R H H1) (b : Gr A R H1 H2) : Gr A R H H2 := ⟨fun x o e n => b.keep x o (a.keep x o e n) n, b.rt, fun x e => a.back x (b.back x e)⟩
theorem Gr.rule {A : Ad} {R R' : RuleM} {H H1 : Hp} (t : Gr A R H H1) {a : Addr} (h : RuleAt H a R') : RuleAt H1 a R' := by
  cases R' with
  | turns => exact t.keep _ _ h fun _ z => by cases z
  | rows rs =>
    obtain ⟨b, h1, h2⟩ := h
    exact ⟨b, t.keep _ _ h1 (fun _ z => by cases z), t.keep _ _ h2 (fun _ z => by cases z)⟩
  | tree sk jn => exact t.keep _ _ h fun _ z => by cases z
  | waits b => exact t.keep _ _ h fun _ z => by cases z
section
variable {P : Program} {w : World} {K : PySem.W.Frag} {mg : Str → Option Value} {base : Heap} {A : Ad}
theorem WayAt.gr {R : RuleM} {H H' : Hp} (e : Gr A R H H') {q : Addr} {m : WayM} (h : WayAt A H q m) : WayAt A H' q m := by
  cases m with
  | row r k =>
    obtain ⟨dx, h⟩ := h
    exact ⟨dx, e.keep _ _ h fun _ z => by cases z⟩
  | wait ds k l =>
    obtain ⟨dx, d, h, h2⟩ := h
    exact ⟨dx, d, e.keep _ _ h (fun _ z => by cases z), e.keep _ _ h2 (fun _ z => by cases z)⟩
  | tree sk jn ds lv ls skp =>
    obtain ⟨dx, d, l, h1, h2, h3⟩ := h
    exact ⟨dx, d, l, e.keep _ _ h1 (fun _ z => by cases z), e.keep _ _ h2 (fun _ z => by cases z), e.keep _ _ h3 (fun _ z => by cases z)⟩
theorem StAt.gr {R : RuleM} {H H' : Hp} {p q : Addr} {m : StM} (S : StAt A H p q m) (e : Gr A R H H') : StAt A H' p q m := by
  obtain ⟨ne, ⟨dx, ob⟩, wy⟩ := S
  exact ⟨ne, ⟨dx, e.keep _ _ ob fun _ z => by cases z⟩, wy.gr e⟩
theorem AllAt.gr {R : RuleM} {H H' : Hp} {ps : List (Addr × Addr)} {f : Nat → StM} (S : AllAt A H ps f) (e : Gr A R H H') : AllAt A H' ps f := fun j p hj => (S j p hj).gr e
theorem Leans.gr {R : RuleM} {H H' : Hp} {q b : Addr} {m : WayM} (h : WayAt A H q m) (e : Gr A R H H') (l : Leans H' q b) : Leans H q b := by
  obtain ⟨C, dx, fs, hq⟩ := h.ins
  obtain ⟨C1, d1, f1, g, h1, h2⟩ := l
  rw [e.keep _ _ hq fun _ z => by cases z] at h1
  cases h1
  exact ⟨_, _, _, g, hq, h2⟩
theorem NoLean.gr {R : RuleM} {H H' : Hp} {ps : List (Addr × Addr)} {f : Nat → StM} {D : Addr} (S : AllAt A H ps f) (e : Gr A R H H') (n : NoLean ps H D) : NoLean ps H' D := fun p hp hl => by
  obtain ⟨j, hj⟩ := List.getElem?_of_mem hp
  exact n p hp (Leans.gr (S j p hj).wy e hl)
/-- other stations stay as they stand -/
def Far (ps qs : List (Addr × Addr)) : Prop := ∀ p ∈ ps, ∀ q ∈ qs, p.1 ≠ q.1 ∧ p.1 ≠ q.2 ∧ p.2 ≠ q.1 ∧ p.2 ≠ q.2
theorem AllAt.other {H H' : Hp} {ps qs : List (Addr × Addr)} {f g : Nat → StM} (S : AllAt A H ps f) (S' : AllAt A H qs g) (k : KeptL qs H H') (far : Far ps qs) : AllAt A H' ps f := fun j p hj => by
  obtain ⟨ne, ⟨dx, ob⟩, wy⟩ := S j p hj
  have pm := List.mem_of_getElem? hj
  have f1 : ∀ q ∈ qs, p.1 ≠ q.1 ∧ p.1 ≠ q.2 := fun q hq => ⟨(far p pm q hq).1, (far p pm q hq).2.1⟩
  have f2 : ∀ q ∈ qs, p.2 ≠ q.1 ∧ p.2 ≠ q.2 := fun q hq => (far p pm q hq).2.2
  have lst : ∀ d xs, H d = some (.lst xs) → H' d = some (.lst xs) := fun d xs e => S'.off k e rfl
  refine ⟨ne, ⟨dx, k _ _ ob f1⟩, ?_⟩
  cases e : (f j).way with
  | row r i =>
    rw [e] at wy
    obtain ⟨dq, h⟩ := wy
    exact ⟨dq, k _ _ h f2⟩
  | wait ds i l =>
    rw [e] at wy
    obtain ⟨dq, d, h1, h2⟩ := wy
    exact ⟨dq, d, k _ _ h1 f2, lst _ _ h2⟩
  | tree sk jn ds lv ls skp =>
    rw [e] at wy
    obtain ⟨dq, d, l, h1, h2, h3⟩ := wy
    exact ⟨dq, d, l, k _ _ h1 f2, lst _ _ h2, lst _ _ h3⟩
/-- a station is made, the tables may be cold -/
def spSInitC (A : Ad) : Sp := fun vs H Q _ => ∃ (p dx a : Addr) (many n : Nat) (R : RuleM), vs = [.ref p, .ref a, .int many, .int n] ∧ H p = some (.ins A.c_Station dx []) ∧ RuleAt H a R ∧ R.OkN many ∧ n < many ∧ many ≤ 8 ∧ RT A R H ∧
  ∀ q H1 H', Tbd A R H H1 → Kept p H1 H' → H q = none → StAt A H' p q (initM R many n) → (∀ b, Leans H' q b → H b = none) → Q .non H'
theorem ok_SInitC (T : Txt K mg base A) : FnOk P w K mg base CX0 8 A.Station___init__ A.d_Station___init__ ["self", "rule", "many", "number"] (spSInitC A) := by
  refine T.F_Station___init__.ok sc_Station___init__ (fun vs H Q E h => ?_) (fun cdv A' outer s H vs Q E hr h => ?_)
  · obtain ⟨p, dx, a, many, n, R, rfl, _⟩ := h
    rfl
  obtain ⟨p, dx, a, many, n, R, rfl, hp, hR, hok, hn, h8, hT, kk⟩ := h
  have hu := hu_of hr
  refine ⟨_, (qs_cons (ps_expr (q_call (ok_check_many T) (hr.mono (by decide)) rfl T.g_check_many T.k_check_many T.b_check_many pass0 (pa_cons (qv 2) pa_nil)))
    (qs_cons (ps_expr (q_call (ok_check_rule T) (hr.mono (by decide)) rfl T.g_check_rule T.k_check_rule T.b_check_rule pass0 (pa_cons (qv 1) (pa_cons (qv 2) pa_nil))))
    (qs_cons (q_sfld (qv 0) (q_call (ok_way_of T) (hr.mono (by decide)) rfl T.g_way_of T.k_way_of T.b_way_of pass0 (pa_cons (qv 1) (pa_cons (qv 2) (pa_cons (qv 3) pa_nil)))) rfl)
    (qs_cons (q_sfld (qv 0) pe_bl rfl)
    (pss_one (q_sfld (qv 0) pe_bl rfl)))))), ?_⟩
  dsimp! [T.n_Station_way, lk_Station_way, pf_Station_way, T.n_Station_spoke, lk_Station_spoke, pf_Station_spoke, T.n_Station_over, lk_Station_over, pf_Station_over, T.cl_Station, ln_Station, pm_Station_1, pm_Station_2, lm_Station_speaks, lm_Station_hears, lm_Station_standing, hp]
  refine ⟨many, rfl, by omega, h8, ?_⟩
  dsimp! [T.n_Station_way, lk_Station_way, pf_Station_way, T.n_Station_spoke, lk_Station_spoke, pf_Station_spoke, T.n_Station_over, lk_Station_over, pf_Station_over, T.cl_Station, ln_Station, pm_Station_1, pm_Station_2, lm_Station_speaks, lm_Station_hears, lm_Station_standing, hp]
  refine ⟨a, many, R, rfl, hR, hok, ⟨by omega, h8⟩, hT, fun H0 H1 t0 s1 => ?_⟩
  have hp := t0.get hT hp fun _ z => by cases z
  have hR := t0.rule hT hR
  have bk : ∀ b, H0 b = none → H b = none := fun b e => t0.back e hT
  dsimp! [T.n_Station_way, lk_Station_way, pf_Station_way, T.n_Station_spoke, lk_Station_spoke, pf_Station_spoke, T.n_Station_over, lk_Station_over, pf_Station_over, T.cl_Station, ln_Station, pm_Station_1, pm_Station_2, lm_Station_speaks, lm_Station_hears, lm_Station_standing, hp]
  refine ⟨a, many, n, R, rfl, hR.same s1, hok, hn, h8, fun q H2 s2 hq hw hlq => ?_⟩
  have hp2 := s2 _ _ (s1 _ _ hp)
  dsimp! [T.n_Station_way, lk_Station_way, pf_Station_way, T.n_Station_spoke, lk_Station_spoke, pf_Station_spoke, T.n_Station_over, lk_Station_over, pf_Station_over, T.cl_Station, ln_Station, pm_Station_1, pm_Station_2, lm_Station_speaks, lm_Station_hears, lm_Station_standing, hp2]
  have nq : q ≠ p := fun e => by
    rw [e, s1 _ _ hp] at hq
    cases hq
  have hq0 : H0 q = none := by
    cases e : H0 q with
    | none => rfl
    | some o => rw [s1 _ _ e] at hq; cases hq
  refine kk q H0 _ t0 (fun b o e nb => ?_) (bk _ hq0) ⟨nq, ⟨dx, upd_same⟩, hw.put hp2 nq⟩ fun b hb => ?_
  rotate_left
  · rw [Leans.put nq] at hb
    have := hlq b hb
    refine bk _ ?_
    cases e : H0 b with
    | none => rfl
    | some o => rw [s1 _ _ e] at this; cases this
  rw [upd_ne nb]
  exact s2 _ _ (s1 _ _ e)
end
end OA

namespace OA
open PySem L2
/-! a run that hears all ends -/
section
variable {R : RuleM} {many : Nat} {wl : WL}
/-- what never changes of a way -/
def WayM.fix : WayM → WayM
  | .row r _ => .row r 0
  | .wait ds _ _ => .wait ds 0 0
  | .tree sk jn ds _ _ _ => .tree sk jn ds none [] false
theorem fix_asked (b : Bool) (m : WayM) : (m.asked b).fix = m.fix := by cases m <;> rfl
theorem fix_goes (b : Bool) (wd : Wd) (m : WayM) : (m.goes b wd).fix = m.fix := by
  cases m with
  | row r k => rfl
  | wait ds p l =>
    simp only [WayM.goes]
    split
    · rfl
    · split <;> rfl
  | tree sk jn ds lv ls skp =>
    simp only [WayM.goes]
    split
    · rfl
    · split <;> rfl
theorem sys_fix (k j : Nat) : (sysF R many wl k j).way.fix = (wayM R many j).fix := by
  induction k with
  | zero => rfl
  | succ k ih =>
    show (WayM.goes _ _ (WayM.asked _ (sysF R many wl k j).way)).fix = _
    rw [fix_goes, fix_asked, ih]
theorem bK_inj {a b : Bool} (h : bK a = bK b) : a = b := by
  cases a <;> cases b <;> first | rfl | (simp [bK] at h)
theorem lvK_inj {a b : Option Int} (h : lvK a = lvK b) : a = b := by
  cases a <;> cases b <;> simp [lvK] at h ⊢ <;> exact h
theorem way_key {a b : WayM} (f : a.fix = b.fix) (h : a.key = b.key) : a = b := by
  cases a with
  | row r k =>
    cases b with
    | row r' k' =>
      simp only [WayM.fix, WayM.row.injEq, and_true] at f
      simp only [WayM.key, NestedKey.tup.injEq, List.cons.injEq, NestedKey.num.injEq, and_true] at h
      rw [f, show k = k' by omega]
    | wait => simp [WayM.fix] at f
    | tree => simp [WayM.fix] at f
  | wait ds p l =>
    cases b with
    | row => simp [WayM.fix] at f
    | wait ds' p' l' =>
      simp only [WayM.fix, WayM.wait.injEq, and_true] at f
      simp only [WayM.key, NestedKey.tup.injEq, List.cons.injEq, NestedKey.num.injEq, and_true] at h
      rw [f, h.1, show p = p' by omega]
    | tree => simp [WayM.fix] at f
  | tree sk jn ds lv ls skp =>
    cases b with
    | row => simp [WayM.fix] at f
    | wait => simp [WayM.fix] at f
    | tree sk' jn' ds' lv' ls' skp' =>
      simp only [WayM.fix, WayM.tree.injEq, and_true] at f
      simp only [WayM.key, NestedKey.tup.injEq, List.cons.injEq, and_true] at h
      obtain ⟨h1, h2, h3⟩ := h
      have e : ∀ l l' : List Nat, (l.map fun (k : Nat) => NestedKey.num k) = (l'.map fun (k : Nat) => NestedKey.num k) → l = l' := fun l => by
        induction l with
        | nil => intro l' h; cases l' <;> simp at h ⊢
        | cons x l ih =>
          intro l' h
          cases l' with
          | nil => simp at h
          | cons y l' =>
            simp only [List.map_cons, List.cons.injEq, NestedKey.num.injEq] at h
            rw [ih l' h.2, show x = y by omega]
      rw [f.1, f.2.1, f.2.2, lvK_inj h1, e _ _ h2, bK_inj h3]
theorem st_key {a b : StM} (f : a.way.fix = b.way.fix) (h : a.key = b.key) : a.way = b.way ∧ a.over = b.over := by
  unfold StM.key at h
  simp only [NestedKey.tup.injEq, List.cons.injEq, and_true] at h
  exact ⟨way_key f h.2, bK_inj h.1⟩
theorem key_at {k m : Nat} (h : keyAt R many wl m = keyAt R many wl k) (j : Nat) (hj : j < many) : (sysF R many wl m j).way = (sysF R many wl k j).way ∧ (sysF R many wl m j).over = (sysF R many wl k j).over := by
  unfold keyAt at h
  injection h with h
  have := congrArg (fun l => l[j]?) h
  simp only [List.getElem?_map, List.getElem?_range hj, Option.map_some, Option.some.injEq] at this
  exact st_key (by rw [sys_fix, sys_fix]) this
theorem aw_last {k : Nat} (h : lastW wl ≤ k) (j : Nat) : awF wl k j = (wl.lookup j).isSome := by
  unfold awF
  cases q : wl.lookup j with
  | none => rfl
  | some t =>
    have : ∀ l : WL, l.lookup j = some t → (j, t) ∈ l := fun l => by
      induction l with
      | nil => intro h; cases h
      | cons y l ih =>
        intro h
        simp only [List.lookup] at h
        split at h
        · rename_i e
          have e' : j = y.1 := by simpa using e
          cases h
          rw [e']
          exact List.mem_cons_self
        · exact List.mem_cons_of_mem _ (ih h)
    have := (lastW_fold wl 0).2.1 _ (this wl q)
    have e : lastW wl = wl.foldl (fun m x => max m x.2) 0 := rfl
    simp
    omega
/-- two moments that stand alike go on alike -/
def SameSt (R : RuleM) (many : Nat) (wl : WL) (m k : Nat) : Prop := ∀ j, j < many → (sysF R many wl m j).way = (sysF R many wl k j).way ∧ (sysF R many wl m j).over = (sysF R many wl k j).over
theorem same_spoke {m k : Nat} (h : SameSt R many wl m k) (hm : lastW wl ≤ m) (hk : lastW wl ≤ k) : ∀ j, j < many → asksF (awF wl m) (sysF R many wl m) j = asksF (awF wl k) (sysF R many wl k) j := fun j hj => by
  obtain ⟨e1, e2⟩ := h j hj
  unfold asksF StM.asked
  rw [e1, e2, aw_last hm, aw_last hk]
theorem same_spk {m k : Nat} (h : SameSt R many wl m k) (hm : lastW wl ≤ m) (hk : lastW wl ≤ k) : spkAt R many wl m = spkAt R many wl k := by
  unfold spkAt spkF
  exact List.filter_congr fun j hj => by rw [same_spoke h hm hk j (List.mem_range.mp hj)]
theorem same_next {m k : Nat} (h : SameSt R many wl m k) (hm : lastW wl ≤ m) (hk : lastW wl ≤ k) : SameSt R many wl (m + 1) (k + 1) := fun j hj => by
  have e1 := same_spoke h hm hk j hj
  have e2 := same_spk h hm hk
  unfold spkAt at e2
  show (StM.hears _ (asksF (awF wl m) (sysF R many wl m) j)).way = (StM.hears _ (asksF (awF wl k) (sysF R many wl k) j)).way ∧ (StM.hears _ (asksF (awF wl m) (sysF R many wl m) j)).over = (StM.hears _ (asksF (awF wl k) (sysF R many wl k) j)).over
  rw [e1, e2]
  exact ⟨rfl, rfl⟩
theorem same_run {m k : Nat} (h : SameSt R many wl m k) (hm : lastW wl ≤ m) (hk : lastW wl ≤ k) : ∀ i, SameSt R many wl (m + i) (k + i) ∧ heardN R many wl (m + i) + heardN R many wl k = heardN R many wl (k + i) + heardN R many wl m
  | 0 => ⟨h, by simp [Nat.add_comm]⟩
  | i + 1 => by
    obtain ⟨a, b⟩ := same_run h hm hk i
    refine ⟨same_next a (Nat.le_trans hm (Nat.le_add_right _ _)) (Nat.le_trans hk (Nat.le_add_right _ _)), ?_⟩
    have e : wdAt R many wl (m + i) = wdAt R many wl (k + i) := by
      unfold wdAt
      rw [same_spk a (Nat.le_trans hm (Nat.le_add_right _ _)) (Nat.le_trans hk (Nat.le_add_right _ _))]
    show heardN R many wl (m + i) + (if wdAt R many wl (m + i) = .hrd then 1 else 0) + _ = heardN R many wl (k + i) + (if wdAt R many wl (k + i) = .hrd then 1 else 0) + _
    rw [e]
    omega
theorem heard_mono {m k : Nat} (h : m ≤ k) : heardN R many wl m ≤ heardN R many wl k := by
  induction k with
  | zero => rw [show m = 0 by omega]; exact Nat.le_refl _
  | succ k ih =>
    rcases Nat.lt_or_ge m (k + 1) with z | z
    · have := ih (by omega)
      show _ ≤ heardN R many wl k + _
      omega
    · rw [show m = k + 1 by omega]
      exact Nat.le_refl _
/-- as many are over as were heard -/
theorem wants_pr {m : WayM} {b : Bool} (h : m.wants b = true) : b = true := by
  cases m <;> simp only [WayM.wants, Bool.and_eq_true] at h <;> exact h.1
theorem overs (k : Nat) : heardN R many wl k = ((List.range many).filter fun j => (sysF R many wl k j).over).length := by
  induction k with
  | zero =>
    show 0 = _
    have : (List.range many).filter (fun j => (sysF R many wl 0 j).over) = [] := List.filter_eq_nil_iff.mpr fun j _ => by
      show ¬ ((initM R many j).over = true)
      simp [initM]
    rw [this]
    rfl
  | succ k ih =>
    show heardN R many wl k + (if wdAt R many wl k = .hrd then 1 else 0) = _
    have ov : ∀ j, (sysF R many wl (k + 1) j).over = ((sysF R many wl k j).over || ((asksF (awF wl k) (sysF R many wl k) j).spoke && decide (wdAt R many wl k = .hrd))) := fun j => rfl
    by_cases z : wdAt R many wl k = .hrd
    · rw [if_pos z]
      obtain ⟨j0, e0⟩ := wd_hrd.mp z
      have hs : ∀ j, j < many → ((asksF (awF wl k) (sysF R many wl k) j).spoke = true ↔ j = j0) := fun j hj => by
        have : j ∈ spkAt R many wl k ↔ (asksF (awF wl k) (sysF R many wl k) j).spoke = true := by
          unfold spkAt spkF
          rw [List.mem_filter]
          exact ⟨fun h => h.2, fun h => ⟨List.mem_range.mpr hj, h⟩⟩
        rw [← this, e0]
        simp
      have h0 : j0 < many := spk_lt (R := R) (wl := wl) (k := k) (by rw [e0]; simp)
      have no : (sysF R many wl k j0).over = false := by
        have h := (hs j0 h0).mpr rfl
        have h' : WayM.wants (awF wl k j0 && !(sysF R many wl k j0).over) (sysF R many wl k j0).way = true := h
        have := wants_pr h'
        simp only [Bool.and_eq_true, Bool.not_eq_true'] at this
        exact this.2
      have gen : ∀ n, n ≤ many → ((List.range n).filter fun j => (sysF R many wl (k + 1) j).over).length = ((List.range n).filter fun j => (sysF R many wl k j).over).length + if j0 < n then 1 else 0 := fun n => by
        induction n with
        | zero => intro _; simp
        | succ n ihn =>
          intro hn
          have ihn := ihn (by omega)
          rw [List.range_succ, List.filter_append, List.filter_append, List.length_append, List.length_append, ihn]
          have o1 := ov n
          rw [z] at o1
          simp only [decide_true, Bool.and_true] at o1
          by_cases y : n = j0
          · subst y
            rw [(hs n h0).mpr rfl, Bool.or_true] at o1
            simp [o1, no]
          · have sp : (asksF (awF wl k) (sysF R many wl k) n).spoke = false := by
              rw [Bool.eq_false_iff]
              exact fun h => y ((hs n (by omega)).mp h)
            rw [sp, Bool.or_false] at o1
            have c : (j0 < n + 1) = (j0 < n) := by rw [eq_iff_iff]; omega
            simp only [o1, c]
            cases (sysF R many wl k n).over <;> simp [List.filter_cons, o1] <;> omega
      rw [gen many (Nat.le_refl _), if_pos h0, ih]
    · rw [if_neg z, ih]
      have : ∀ j, (sysF R many wl (k + 1) j).over = (sysF R many wl k j).over := fun j => by rw [ov, decide_eq_false z, Bool.and_false, Bool.or_false]
      simp only [this]
      rfl
theorem no_again {n : Nat} (hn : wl.length ≤ heardN R many wl n) (k : Nat) (hk : ¬ wl.length ≤ heardN R many wl k) (m : Nat) : ¬ Again R many wl k m := by
  rintro ⟨h1, h2, h3⟩
  have h : SameSt R many wl m k := fun j hj => key_at h3 j hj
  have e0 : heardN R many wl m = heardN R many wl k := by
    rw [overs, overs]
    congr 1
    exact List.filter_congr fun j hj => by rw [(h j (List.mem_range.mp hj)).2]
  have all : ∀ q, SameSt R many wl m (m + q * (k - m)) ∧ heardN R many wl (m + q * (k - m)) = heardN R many wl m := fun q => by
    induction q with
    | zero =>
      rw [Nat.zero_mul, Nat.add_zero]
      exact ⟨fun _ _ => ⟨rfl, rfl⟩, rfl⟩
    | succ q ih =>
      obtain ⟨a, b⟩ := ih
      have e : m + (q + 1) * (k - m) = k + q * (k - m) := by
        rw [Nat.succ_mul]
        omega
      obtain ⟨c, d⟩ := same_run h h1 (by omega) (q * (k - m))
      rw [e]
      refine ⟨fun j hj => ?_, by omega⟩
      have x1 := a j hj
      have x2 := c j hj
      exact ⟨x1.1.trans x2.1, x1.2.trans x2.2⟩
  have big : n ≤ m + n * (k - m) := by
    have : n * 1 ≤ n * (k - m) := Nat.mul_le_mul_left _ (by omega)
    omega
  have := heard_mono (R := R) (many := many) (wl := wl) big
  rw [(all n).2, e0] at this
  omega
theorem least_of {p : Nat → Prop} (dec : ∀ k, p k ∨ ¬ p k) : ∀ n, p n → ∃ m, m ≤ n ∧ p m ∧ ∀ k, k < m → ¬ p k := by
  intro n
  induction n using Nat.strongRecOn with
  | _ n ih =>
    intro h
    by_cases z : ∃ k, k < n ∧ p k
    · obtain ⟨k, hk, pk⟩ := z
      obtain ⟨m, h1, h2, h3⟩ := ih k hk pk
      exact ⟨m, by omega, h2, h3⟩
    · exact ⟨n, Nat.le_refl _, h, fun k hk pk => z ⟨k, hk, pk⟩⟩
theorem ends_of_heard {k : Nat} (hk : wl.length ≤ heardN R many wl k) (h9 : k ≤ 900) : ∃ n, n ≤ k ∧ EndsAt R many wl n ∧ wl.length ≤ heardN R many wl n ∧ ∀ i, i < n → ¬ wl.length ≤ heardN R many wl i := by
  obtain ⟨n, h1, h2, h3⟩ := least_of (p := fun k => wl.length ≤ heardN R many wl k) (fun k => Classical.em _) k hk
  refine ⟨n, h1, ⟨.inl h2, fun i hi s => ?_, by omega⟩, h2, h3⟩
  rcases s with s | ⟨m, s⟩
  · exact h3 i hi s
  · exact no_again h2 i (h3 i hi) m s
end
end OA

namespace OA
open PySem L2
section
variable {R : RuleM} {many : Nat} {wl : WL}
theorem SameSt.trans {a b c : Nat} (h : SameSt R many wl a b) (h' : SameSt R many wl b c) : SameSt R many wl a c := fun j hj => ⟨(h j hj).1.trans (h' j hj).1, (h j hj).2.trans (h' j hj).2⟩
theorem round_st {n m : Nat} (ag : Again R many wl n m) : ∀ i, SameSt R many wl (m + i % (n - m)) (m + i) := fun i => by
  obtain ⟨h1, h2, h3⟩ := ag
  have h : SameSt R many wl m n := fun j hj => key_at h3 j hj
  induction i using Nat.strongRecOn with
  | ind i ih =>
    rcases Nat.lt_or_ge i (n - m) with z | z
    · rw [Nat.mod_eq_of_lt z]
      exact fun _ _ => ⟨rfl, rfl⟩
    · have a := ih (i - (n - m)) (by omega)
      have b := (same_run h h1 (by omega) (i - (n - m))).1
      rw [show n + (i - (n - m)) = m + i by omega] at b
      rw [Nat.mod_eq_sub_mod z]
      exact a.trans b
theorem row_round {n m now : Nat} (ag : Again R many wl n m) (h : n ≤ now) : rowAt R many wl now = rowAt R many wl (m + (now - n) % (n - m)) := by
  have ag' := ag
  obtain ⟨h1, h2, _⟩ := ag'
  have a := round_st ag (now - m)
  rw [show m + (now - m) = now by omega, show now - m = (now - n) + (n - m) by omega, Nat.add_mod_right] at a
  have e := same_spk a (by omega) (by omega)
  unfold rowAt wdAt
  rw [e]
end
end OA

namespace OA
open PySem L2
local macro_rules
  | `(tactic| simp! [$a,*]) => `(tactic| simp -implicitDefEqProofs only [wNeD0, wRep, tDNewK, vDc, wSortDI, dkR_e, dkR_f, e_cut, wSetL, vLstRg, wLstD, e_lock, vVals, gSub, tCKw, frzO_e, viItems, viKeys, vRev, e_while, e_for, e_asgG, gName, vgTup, vgCons_e, vgNil_e, viList, viTup, viStr, viR1, viEnum, vLc, tYes, wipe, e_seq, e_next, e_drop, e_ret, e_retN, e_sfld, e_augI, e_aug, e_dput, vIf, vTest, wInT, vVar, vFld, tC, tOp, tUn, wI0, wIC, rEq, rNe, scal, wAddS, wMulS, wCat, wNeg, wIxL, wIxT, wIxS, vPart, tNoPart, tSl, wSlL, tCB, tCons, tNil, len_s, wTupL, wLstL, wAbs, wIntB, wMin2, wMax2, vAnd, vOr, vNot, vChain, vMeth, vCall, vMake, vLM0, vLM, isLst, wAppend, wPopAt, wInsert0, vStar, vDGet, vDIn, vDNotIn, tTup, tLst, tIf, tAnd, tOr, tNot, refR_e, intR_e, blR_e, strR_e, optR_e, keyR_i, keyR_s, insO_e, lstO_e, tupO_e, dkO_e, one1_e, two2_e, len_r, lenO_l, lenO_t, lenO_d, L2.start, List.map, List.replicate, List.length_cons, List.length_nil, List.cons_append, List.nil_append, List.append_nil, List.getElem?_cons_zero, List.getElem?_cons_succ, List.set_cons_zero, List.set_cons_succ, true_and, and_true, cx_K, cx_prog, cx_w, blkK, Int.toNat_natCast, upd_same, upd_upd, if_true, if_false, decide_eq_true_eq, reduceCtorEq, reduceIte, Bool.false_eq_true, decide_true, decide_false, Bool.true_and, Bool.false_and, Bool.and_true, Bool.and_false, Bool.not_true, Bool.not_false, V.int.injEq, V.str.injEq, V.bl.injEq, putF_nil, Nat.reduceAdd, Nat.reduceSub, Nat.reduceLT, Int.reduceEq, Int.reduceLT, Int.reduceLE, Int.reduceAdd, Int.reduceSub, Int.cast_ofNat_Int, wIsi, tyR_e, tyO_l, tyO_t, tyO_d, tyN_n, tyN_b, tyN_i, tyN_s, tyN_r, kit_NoneType_bool, kit_NoneType_int, kit_NoneType_str, kit_NoneType_list, kit_NoneType_tuple, kit_NoneType_dict, kit_bool_bool, kit_bool_int, kit_bool_str, kit_bool_list, kit_bool_tuple, kit_bool_dict, kit_int_bool, kit_int_int, kit_int_str, kit_int_list, kit_int_tuple, kit_int_dict, kit_str_bool, kit_str_int, kit_str_str, kit_str_list, kit_str_tuple, kit_str_dict, kit_list_bool, kit_list_int, kit_list_str, kit_list_list, kit_list_tuple, kit_list_dict, kit_tuple_bool, kit_tuple_int, kit_tuple_str, kit_tuple_list, kit_tuple_tuple, kit_tuple_dict, kit_dict_bool, kit_dict_int, kit_dict_str, kit_dict_list, kit_dict_tuple, kit_dict_dict, $a,*])
  | `(tactic| dsimp! [$a,*]) => `(tactic| ((try refine Later.mk ?_); simp! [$a,*]; repeat (refine Later.mk ?_; simp! [$a,*])))
def viListS (K : PySem.W.Frag) (tl : TE) : TI := fun σ H R => tl σ H fun x H1 => refR x fun a => (∃ xs, SqL K H1 a xs) ∧ R (Itl K a) H1
theorem qi_listS {X : Cx} {tg l : Expr} {tl : TE} (hl : PE X l tl) : PI X tg l (viListS X.K tl) := im_pi (pi_list (up_pe hl)) fun _ _ _ h => ⟨_, h, fun _ _ z => by
  obtain ⟨a, e1, z1, z2⟩ := refR_el z
  exact ⟨a, e1, z1, z2⟩⟩
/-- draws: numbers from 0 on, the first one below a line -/
structure DrawOk (ns : List Int) : Prop where
  l2 : 2 ≤ ns.length
  l100 : ns.length ≤ 100
  nn : ∀ z ∈ ns, 0 ≤ z
  hd : ns.headD 0 < 2147483647
section
variable {P : Program} {w : World} {K : PySem.W.Frag} {mg : Str → Option Value} {base : Heap} {A : Ad}
def DrawAt (H : Hp) (d : Addr) : Prop := ∃ ns : List Int, H d = some (.lst (ns.map V.int)) ∧ DrawOk ns
theorem abs_eq (z : Int) : (if z < 0 then -z else z) = (z.natAbs : Int) := by split <;> omega
theorem getInt {ns : List Int} {i : Nat} {x : V} (e : (ns.map V.int)[i]? = some x) : ∃ z, z ∈ ns ∧ x = .int z := by
  rw [List.getElem?_map] at e
  cases q : ns[i]? with
  | none => rw [q] at e; cases e
  | some z => rw [q] at e; exact ⟨z, List.mem_of_getElem? q, (Option.some.inj e).symm⟩
def spDice (K : PySem.W.Frag) : Sp := fun vs H Q _ => ∃ (a : Addr) (ns : List Int), vs = [.ref a, .int 0] ∧ SqL K H a (ns.map V.int) ∧ ns.length ≤ 63 ∧ ∀ d H', Same H H' → H d = none → DrawAt H' d → Q (.ref d) H'
theorem sc__law_dice : FnScope ["_law_script", "_law_k", "_law_found", "_law_cell"] ["_law_script", "_law_k"] (defScope s__law_dice) := ⟨rfl, rfl, rfl, by decide +kernel, rfl, by decide +kernel, by decide +kernel⟩
theorem ok__law_dice (T : Txt K mg base A) : FnOk P w K mg base CX0 2 A._law_dice A.d__law_dice ["_law_script", "_law_k"] (spDice K) := by
  refine T.F__law_dice.ok sc__law_dice (fun vs H Q E h => ?_) (fun cdv A' outer s H vs Q E hr h => ?_)
  · obtain ⟨a, ns, rfl, _⟩ := h
    rfl
  obtain ⟨a, ns, rfl, hS, hl, kk⟩ := h
  have hu := hu_of hr
  refine ⟨_, (qs_cons (ps_set (i := 2) sc__law_dice.nd rfl (Or.inl rfl) (qv 1))
    (qs_cons (q_for PassesOwn.never rfl (qi_listS (qv 0)) (pg_name (i := 3) sc__law_dice.nd rfl (Or.inl rfl)) (pss_one (ps_set (i := 2) sc__law_dice.nd rfl (Or.inl rfl) (pe_op o_mod (pe_op o_add (pe_op o_mul (qv 2) pe_int) (pe_callB c_abs (by rfl) T.m_abs (by decide +kernel) (pa_cons (qv 3) pa_nil))) pe_int))))
    (pss_one (ps_ret (pe_op o_cat (pe_lst (pa_cons (qv 2) (pa_cons pe_int pa_nil))) (q_lc (own := [("_law_cell", 3)]) (g := gName 3) rfl sc__law_dice.nd (qi_listS (qv 0)) (blkOk_by (own := [("_law_cell", 3)]) (N := ["_law_script", "_law_k", "_law_found", "_law_cell"]) (sc := defScope s__law_dice) (by decide +kernel)) (fun _ _ _ _ _ => (pg_name (i := 3) sc__law_dice.nd rfl (Or.inl rfl))) (fun _ _ _ _ _ => pts_one (q_cmp o_ge (qv 3) (pe_op op_pow pe_int pe_int) (nomark _))) (fun _ _ _ _ _ => (qv 3)))))))), ?_⟩
  dsimp! [viListS]
  refine ⟨⟨_, hS⟩, _, _, _, fun i σ H1 => H1 = H ∧ ∃ (z : Int) (v : Option V), σ = [some (.ref a), some (.int 0), some (.int z), v] ∧ 0 ≤ z ∧ z < 2147483647, walk_list (K := K) (a := a) (xs := ns.map V.int), ⟨rfl, 0, none, rfl, by decide, by decide⟩, ?_, ?_, ?_⟩
  · rintro i σ H1 _ ⟨rfl, _⟩
    exact hS
  · rintro i x σ H1 H2 hi ⟨rfl, z, v, rfl, h0, h1⟩ ⟨rfl, ex⟩
    obtain ⟨y, _, rfl⟩ := getInt ex
    dsimp! []
    refine ⟨.inr ⟨by decide, by decide⟩, _, _, rfl, ?_, ?_⟩
    · exact Int.emod_nonneg _ (by decide)
    · exact Int.emod_lt_of_pos _ (by decide)
  · rintro σ H1 ⟨rfl, z, v, rfl, h0, h1⟩
    dsimp! [viListS]
    refine ⟨by decide, fun p hp => ⟨⟨_, (Same.new hp).seq hS⟩, fun D hD => ?_⟩⟩
    have nD : p ≠ D := ne_of_none upd_same hD
    refine ⟨_, _, _, fun i H2 => Same (upd H1 p (.lst [V.int z, V.int 0])) H2 ∧ ∃ ms : List Int, H2 D = some (.lst (ms.map V.int)) ∧ ms.length ≤ i ∧ ∀ y ∈ ms, 0 ≤ y, walk_list (K := K) (a := a) (xs := ns.map V.int), ⟨Same.new hD, [], upd_same, Nat.le_refl _, fun y hy => by simp at hy⟩, fun i H2 _ h => ((Same.new hp).trans h.1).seq hS, ?_, ?_⟩
    · rintro i x H2 H3 hi ⟨sm, ms, hD2, hml, hms⟩ ⟨rfl, ex⟩
      obtain ⟨y, _, rfl⟩ := getInt ex
      refine ⟨10, 18, rfl, rfl, ⟨by decide, by decide, by decide⟩, ?_⟩
      rw [List.length_map] at hi
      dsimp! [hD2]
      refine ite2 (fun c => ?_) (fun c => ⟨sm, ms, by first | exact hD2 | rfl, by omega, hms⟩)
      have hy : 0 ≤ y := Int.le_trans (by decide) c
      refine ⟨by rw [List.length_map, sizeLine_eq]; omega, fun b o e => ?_, ms ++ [y], by rw [List.map_append]; rfl, by rw [List.length_append]; simp; omega, fun u hu => ?_⟩
      · have hnb : b ≠ D := ne_of_none e hD
        rw [upd_ne hnb]
        exact sm _ _ e
      · rcases List.mem_append.mp hu with h | h
        · exact hms u h
        · have : u = y := by simpa using h
          omega
    · rintro H2 ⟨sm, ms, hD2, hml, hms⟩
      have hp2 := sm _ _ upd_same
      rw [List.length_map] at hml
      dsimp! [hp2, hD2]
      refine ⟨by rw [List.length_map, sizeLine_eq]; omega, fun q hq => ?_⟩
      have s2 : Same H1 H2 := (Same.new hp).trans sm
      refine kk q _ (s2.trans (Same.new hq)) (Same.back s2 _ hq) ⟨z :: 0 :: ms, ?_, ⟨by simp, by simp; omega, fun y hy => ?_, h1⟩⟩
      · rw [upd_same]
        rfl
      · rcases List.mem_cons.mp hy with rfl | hy
        · exact h0
        · rcases List.mem_cons.mp hy with rfl | hy
          · exact Int.le_refl _
          · exact hms y hy
/-- all but d is kept -/
def KeptD (d : Addr) (H H' : Hp) : Prop := ∀ b o, H b = some o → b ≠ d → H' b = some o
def spOff (A : Ad) : Sp := fun vs H Q _ => ∃ (d : Addr) (most : Nat), vs = [.ref d, .int most] ∧ DrawAt H d ∧ 1 ≤ most ∧ most ≤ 1000 ∧ ∀ (x : Nat) H', x < most → KeptD d H H' → DrawAt H' d → Q (.int x) H'
theorem sc__law_off : FnScope ["_law_d", "_law_most", "_law_found"] ["_law_d", "_law_most"] (defScope s__law_off) := ⟨rfl, rfl, rfl, by decide +kernel, rfl, by decide +kernel, by decide +kernel⟩
theorem ok__law_off (T : Txt K mg base A) : FnOk P w K mg base CX0 1 A._law_off A.d__law_off ["_law_d", "_law_most"] (spOff A) := by
  refine T.F__law_off.ok sc__law_off (fun vs H Q E h => ?_) (fun cdv A' outer s H vs Q E hr h => ?_)
  · obtain ⟨d, most, rfl, _⟩ := h
    rfl
  obtain ⟨d, most, rfl, hD, h1, h2, kk⟩ := h
  have hu := hu_of hr
  refine ⟨_, (qs_cons (q_cut (q_if (PW.pt (pw_and (q_cmp op_eq (pe_ix ix_L (qv 0) pe_int (fun _ _ => rfl)) pe_int (nomark _)) (pw_and1 (q_cmp o_gt (pe_callB c_len (by rfl) T.m_len (by decide +kernel) (pa_cons (qv 0) pa_nil)) pe_int (nomark _))))) (pss_one (ps_asg (lm1 PySem.F.slot_list_pop PySem.F.type_list_pop m_popAt (qv 0) (pa_cons pe_int pa_nil)) (pg_sub (qv 0) pe_int s_setL))) pss_nil))
    (qs_cons (q_if (q_cmp o_gt (pe_ix ix_L (qv 0) pe_int (fun _ _ => rfl)) pe_int (nomark _)) (qs_cons (ps_set (i := 2) sc__law_off.nd rfl (Or.inl rfl) (pe_op o_mod (pe_ix ix_L (qv 0) pe_int (fun _ _ => rfl)) (qv 1)))
    (qs_cons (ps_asg (pe_op o_fdiv (pe_ix ix_L (qv 0) pe_int (fun _ _ => rfl)) (qv 1)) (pg_sub (qv 0) pe_int s_setL))
    (pss_one (ps_ret (qv 2))))) pss_nil)
    (qs_cons (ps_asg (pe_op o_mod (pe_op o_add (pe_op o_mul (pe_ix ix_L (qv 0) pe_int (fun _ _ => rfl)) pe_int) pe_int) pe_int) (pg_sub (qv 0) pe_int s_setL))
    (pss_one (ps_ret (pe_op o_mod (pe_op o_fdiv (pe_ix ix_L (qv 0) pe_int (fun _ _ => rfl)) pe_int) (qv 1))))))), ?_⟩
  have ixs : ∀ z0 z1 r, atI (V.int z0 :: V.int z1 :: r) 1 = some (V.int z1) := fun z0 z1 r => atI_one _ _ _
  dsimp! []
  refine ⟨fun σ H1 => σ = [some (.ref d), some (.int most), none] ∧ KeptD d H H1 ∧ DrawAt H1 d, ?_, ?_⟩
  · rintro σ H1 ⟨rfl, kd, ns, hd, ⟨l2, l100, nn, hh⟩⟩
    obtain ⟨z0, z1, r, rfl⟩ : ∃ z0 z1 r, ns = z0 :: z1 :: r := by
      match ns, l2 with
      | z0 :: z1 :: r, _ => exact ⟨z0, z1, r, rfl⟩
    have hz0 : 0 ≤ z0 := nn z0 (by simp)
    have hz1 : 0 ≤ z1 := nn z1 (by simp)
    have hz0' : z0 < 2147483647 := hh
    have nnr : ∀ z ∈ r, 0 ≤ z := fun z hz => nn z (by simp [hz])
    have hm : (0 : Int) < most := by omega
    have fin : ∀ (x : Int) (u0 u1 : Int), 0 ≤ x → x < most → 0 ≤ u0 → u0 < 2147483647 → 0 ≤ u1 → Q (.int x) (upd H1 d (.lst (V.int u0 :: V.int u1 :: List.map V.int r))) := fun x u0 u1 hx hxm a0 a1 b0 => by
      obtain ⟨n, rfl⟩ := Int.eq_ofNat_of_zero_le hx
      refine kk n _ (by omega) (fun b o e n => by rw [upd_ne n]; exact kd b o e n) ⟨u0 :: u1 :: r, upd_same, ⟨by simp, by simpa using l100, fun z hz => ?_, a1⟩⟩
      rcases List.mem_cons.mp hz with rfl | hz
      · exact a0
      · rcases List.mem_cons.mp hz with rfl | hz
        · exact b0
        · exact nnr z hz
    dsimp! [hd, atI_zero, ixs, ixN_one, ixN_zero]
    refine ite2 (fun c => ?_) (fun c => ?_)
    · dsimp! [hd, atI_zero, ixs, ixN_one, ixN_zero]
      refine ⟨hm, ?_⟩
      dsimp! [hd, atI_zero, ixs, ixN_one, ixN_zero]
      refine ⟨⟨hm, by omega⟩, ?_⟩
      dsimp! [hd, atI_zero, ixs, ixN_one, ixN_zero]
      exact fin _ z0 (z1 / most) (Int.emod_nonneg _ (by omega)) (Int.emod_lt_of_pos _ hm) hz0 hz0' (Int.ediv_nonneg hz1 (by omega))
    · (refine Later.mk ?_; simp! [])
      refine Later.mk ?_
      simp -implicitDefEqProofs only [e_seq, e_asgG, e_asg, tOp, vVar, tC, wIxL, gSub, optR_e, List.getElem?_cons_zero, refR_e, lstO_e, hd, intR_e, List.map, atI_zero]
      refine ⟨.inr ⟨by decide, by decide⟩, (by decide : (0 : Int) < 2147483647), ?_⟩
      show wSetL (.ref d) (.int 0) (.int ((z0 * 48271 + 11) % 2147483647)) H1 _
      generalize hu : (z0 * 48271 + 11) % 2147483647 = u
      have u0 : 0 ≤ u := by rw [← hu]; exact Int.emod_nonneg _ (by decide)
      have u1 : u < 2147483647 := by rw [← hu]; exact Int.emod_lt_of_pos _ (by decide)
      simp! [hd, atI_zero, ixs, ixN_one, ixN_zero]
      dsimp! [hd, atI_zero, ixs, ixN_one, ixN_zero]
      refine ⟨⟨by decide, by decide⟩, hm, ?_⟩
      exact fin _ _ z1 (Int.emod_nonneg _ (by omega)) (Int.emod_lt_of_pos _ hm) u0 u1 hz1
  · obtain ⟨ns, hd, ⟨l2, l100, nn, hh⟩⟩ := hD
    obtain ⟨z0, z1, r, rfl⟩ : ∃ z0 z1 r, ns = z0 :: z1 :: r := by
      match ns, l2 with
      | z0 :: z1 :: r, _ => exact ⟨z0, z1, r, rfl⟩
    have same : DrawAt H d := ⟨z0 :: z1 :: r, hd, ⟨l2, l100, nn, hh⟩⟩
    have kd : KeptD d H H := fun b o e _ => e
    dsimp! [hd, ixs]
    refine ite2 (fun c => ?_) (fun c => ?_)
    · refine ite2 (fun c2 => ?_) (fun c2 => ?_)
      · obtain ⟨z2, r, rfl⟩ : ∃ z2 r', r = z2 :: r' := by
          match r, c2 with
          | [], c2 => simp at c2
          | z2 :: r', _ => exact ⟨z2, r', rfl⟩
        have e2 : (2 : Int).toNat = 2 := rfl
        dsimp! [hd, ixs, e2, List.eraseIdx_cons_succ, List.eraseIdx_cons_zero, ixN_one]
        refine ⟨by decide, fun b o e n => by rw [upd_ne n]; exact e, z0 :: z2 :: r, upd_same, ⟨by simp, by simp at l100 ⊢; omega, fun z hz => nn z ?_, hh⟩⟩
        rcases List.mem_cons.mp hz with rfl | hz
        · simp
        · simp [hz]
      · dsimp! []
        exact ⟨kd, same⟩
    · dsimp! []
      exact ⟨kd, same⟩
end
end OA

namespace OA
open PySem L2
local macro_rules
  | `(tactic| simp! [$a,*]) => `(tactic| simp -implicitDefEqProofs only [wNeD0, wRep, tDNewK, vDc, wSortDI, dkR_e, dkR_f, e_cut, wSetL, vLstRg, wLstD, e_lock, vVals, gSub, tCKw, frzO_e, viItems, viKeys, vRev, e_while, e_for, e_asgG, gName, vgTup, vgCons_e, vgNil_e, viList, viTup, viStr, viR1, viEnum, vLc, tYes, wipe, e_seq, e_next, e_drop, e_ret, e_retN, e_sfld, e_augI, e_aug, e_dput, vIf, vTest, wInT, vVar, vFld, tC, tOp, tUn, wI0, wIC, rEq, rNe, scal, wAddS, wMulS, wCat, wNeg, wIxL, wIxT, wIxS, vPart, tNoPart, tSl, wSlL, tCB, tCons, tNil, len_s, wTupL, wLstL, wAbs, wIntB, wMin2, wMax2, vAnd, vOr, vNot, vChain, vMeth, vCall, vMake, vLM0, vLM, isLst, wAppend, wPopAt, wInsert0, vStar, vDGet, vDIn, vDNotIn, tTup, tLst, tIf, tAnd, tOr, tNot, refR_e, intR_e, blR_e, strR_e, optR_e, keyR_i, keyR_s, insO_e, lstO_e, tupO_e, dkO_e, one1_e, two2_e, len_r, lenO_l, lenO_t, lenO_d, L2.start, List.map, List.replicate, List.length_cons, List.length_nil, List.cons_append, List.nil_append, List.append_nil, List.getElem?_cons_zero, List.getElem?_cons_succ, List.set_cons_zero, List.set_cons_succ, true_and, and_true, cx_K, cx_prog, cx_w, blkK, Int.toNat_natCast, upd_same, upd_upd, if_true, if_false, decide_eq_true_eq, reduceCtorEq, reduceIte, Bool.false_eq_true, decide_true, decide_false, Bool.true_and, Bool.false_and, Bool.and_true, Bool.and_false, Bool.not_true, Bool.not_false, V.int.injEq, V.str.injEq, V.bl.injEq, putF_nil, Nat.reduceAdd, Nat.reduceSub, Nat.reduceLT, Int.reduceEq, Int.reduceLT, Int.reduceLE, Int.reduceAdd, Int.reduceSub, Int.cast_ofNat_Int, wIsi, tyR_e, tyO_l, tyO_t, tyO_d, tyN_n, tyN_b, tyN_i, tyN_s, tyN_r, kit_NoneType_bool, kit_NoneType_int, kit_NoneType_str, kit_NoneType_list, kit_NoneType_tuple, kit_NoneType_dict, kit_bool_bool, kit_bool_int, kit_bool_str, kit_bool_list, kit_bool_tuple, kit_bool_dict, kit_int_bool, kit_int_int, kit_int_str, kit_int_list, kit_int_tuple, kit_int_dict, kit_str_bool, kit_str_int, kit_str_str, kit_str_list, kit_str_tuple, kit_str_dict, kit_list_bool, kit_list_int, kit_list_str, kit_list_list, kit_list_tuple, kit_list_dict, kit_tuple_bool, kit_tuple_int, kit_tuple_str, kit_tuple_list, kit_tuple_tuple, kit_tuple_dict, kit_dict_bool, kit_dict_int, kit_dict_str, kit_dict_list, kit_dict_tuple, kit_dict_dict, $a,*])
  | `(tactic| dsimp! [$a,*]) => `(tactic| ((try refine Later.mk ?_); simp! [$a,*]; repeat (refine Later.mk ?_; simp! [$a,*])))
section
variable {P : Program} {w : World} {K : PySem.W.Frag} {mg : Str → Option Value} {base : Heap} {A : Ad}
theorem KeptD.refl (d : Addr) (H : Hp) : KeptD d H H := fun _ _ e _ => e
theorem KeptD.trans {d : Addr} {H H1 H2 : Hp} (a : KeptD d H H1) (b : KeptD d H1 H2) : KeptD d H H2 := fun x o e n => b x o (a x o e n) n
theorem KeptD.same {d : Addr} {H H1 : Hp} (a : Same H H1) : KeptD d H H1 := fun x o e _ => a x o e
theorem KeptD.back {d : Addr} {H H1 : Hp} (a : KeptD d H H1) {b : Addr} (n : b ≠ d) (h : H1 b = none) : H b = none := by
  cases e : H b with
  | none => rfl
  | some o => rw [a b o e n] at h; cases h
theorem DrawAt.same {H H1 : Hp} {d : Addr} (a : Same H H1) (h : DrawAt H d) : DrawAt H1 d := by
  obtain ⟨ns, e, ok⟩ := h
  exact ⟨ns, a _ _ e, ok⟩
theorem DrawAt.put {H : Hp} {d b : Addr} {o : HO} (h : DrawAt H d) (n : d ≠ b) : DrawAt (upd H b o) d := by
  obtain ⟨ns, e, ok⟩ := h
  exact ⟨ns, by rw [upd_ne n]; exact e, ok⟩
theorem DrawAt.some {H : Hp} {d : Addr} (h : DrawAt H d) : ∃ o, H d = some o := by
  obtain ⟨ns, e, ok⟩ := h
  exact ⟨_, e⟩
theorem erase_perm {α : Type} : ∀ (ws : List α) (j : Nat) (h : j < ws.length), ([ws[j]] ++ ws.eraseIdx j).Perm ws
  | a :: ws, 0, h => List.Perm.refl _
  | a :: ws, j + 1, h => by
    have ih := erase_perm ws j (by simpa using h)
    simp only [List.getElem_cons_succ, List.eraseIdx_cons_succ, List.singleton_append] at ih ⊢
    exact (List.Perm.swap _ _ _).trans (List.Perm.cons a ih)
def spLMany (A : Ad) : Sp := fun vs H Q _ => ∃ (d : Addr), vs = [.ref d] ∧ DrawAt H d ∧ ∀ (x : Nat) H', 1 ≤ x → x ≤ 8 → KeptD d H H' → DrawAt H' d → Q (.int x) H'
theorem sc__law_many : FnScope ["_law_d"] ["_law_d"] (defScope s__law_many) := ⟨rfl, rfl, rfl, by decide +kernel, rfl, by decide +kernel, by decide +kernel⟩
theorem ok__law_many (T : Txt K mg base A) : FnOk P w K mg base CX0 2 A._law_many A.d__law_many ["_law_d"] (spLMany A) := by
  refine T.F__law_many.ok sc__law_many (fun vs H Q E h => ?_) (fun cdv A' outer s H vs Q E hr h => ?_)
  · obtain ⟨d, rfl, _⟩ := h
    rfl
  obtain ⟨d, rfl, hD, kk⟩ := h
  have hu := hu_of hr
  refine ⟨_, (pss_one (ps_ret (pe_ix ix_L (pe_lst (pa_cons pe_int (pa_cons pe_int (pa_cons pe_int (pa_cons (pe_op o_add pe_int (q_call (ok__law_off T) (hr.mono (by decide)) rfl T.g__law_off T.k__law_off T.b__law_off pass0 (pa_cons (qv 0) (pa_cons pe_int pa_nil)))) pa_nil))))) (q_call (ok__law_off T) (hr.mono (by decide)) rfl T.g__law_off T.k__law_off T.b__law_off pass0 (pa_cons (qv 0) (pa_cons pe_int pa_nil))) (fun _ _ => rfl)))), ?_⟩
  dsimp! []
  refine ⟨d, 8, rfl, hD, by decide, by decide, fun x H1 hx k1 D1 => ?_⟩
  dsimp! []
  refine ⟨by decide, fun p hp => ?_⟩
  have nd : d ≠ p := by
    obtain ⟨o, e⟩ := D1.some
    exact ne_of_none e hp
  refine ⟨d, 4, rfl, D1.put nd, by decide, by decide, fun y H2 hy k2 D2 => ?_⟩
  have hp2 : H2 p = some (.lst [V.int 8, V.int 5, V.int 4, V.int (1 + x)]) := k2 _ _ upd_same nd.symm
  have k3 : KeptD d H H2 := fun b o e n => k2 b o (by rw [upd_ne (ne_of_none (k1 b o e n) hp)]; exact k1 b o e n) n
  have hy4 : y = 0 ∨ y = 1 ∨ y = 2 ∨ y = 3 := by omega
  have e1 : (1 : Int) + (x : Nat) = ((1 + x : Nat) : Int) := by omega
  rcases hy4 with rfl | rfl | rfl | rfl
  · simp! [hp2, atI_nat (xs := [V.int 8, V.int 5, V.int 4, V.int (1 + x)]) (j := 0) (v := V.int 8) rfl]
    exact kk 8 H2 (by decide) (by decide) k3 D2
  · simp! [hp2, atI_nat (xs := [V.int 8, V.int 5, V.int 4, V.int (1 + x)]) (j := 1) (v := V.int 5) rfl]
    exact kk 5 H2 (by decide) (by decide) k3 D2
  · simp! [hp2, atI_nat (xs := [V.int 8, V.int 5, V.int 4, V.int (1 + x)]) (j := 2) (v := V.int 4) rfl]
    exact kk 4 H2 (by decide) (by decide) k3 D2
  · simp! [hp2, atI_nat (xs := [V.int 8, V.int 5, V.int 4, V.int (1 + x)]) (j := 3) (v := V.int (1 + x)) rfl]
    rw [e1]
    exact kk (1 + x) H2 (by omega) (by omega) k3 D2
def spMixed (A : Ad) : Sp := fun vs H Q _ => ∃ (d r : Addr) (ns : List Int), vs = [.ref d, .ref r] ∧ DrawAt H d ∧ H r = some (.lst (ns.map V.int)) ∧ ns.length ≤ 100 ∧ ∀ (f : Addr) (ms : List Int) H', H f = none → KeptD d H H' → DrawAt H' d → H' f = some (.lst (ms.map V.int)) → ms.Perm ns → Q (.ref f) H'
theorem sc__law_mixed : FnScope ["_law_d", "_law_row", "_law_left", "_law_found"] ["_law_d", "_law_row"] (defScope s__law_mixed) := ⟨rfl, rfl, rfl, by decide +kernel, rfl, by decide +kernel, by decide +kernel⟩
theorem ok__law_mixed (T : Txt K mg base A) : FnOk P w K mg base CX0 2 A._law_mixed A.d__law_mixed ["_law_d", "_law_row"] (spMixed A) := by
  refine T.F__law_mixed.ok sc__law_mixed (fun vs H Q E h => ?_) (fun cdv A' outer s H vs Q E hr h => ?_)
  · obtain ⟨d, r, ns, rfl, _⟩ := h
    rfl
  obtain ⟨d, r, ns, rfl, hD, hr0, hl, kk⟩ := h
  have hu := hu_of hr
  refine ⟨_, (qs_cons (ps_set (i := 2) sc__law_mixed.nd rfl (Or.inl rfl) (pe_callTy c_lstL (by rfl) T.m_list (by decide +kernel) (pa_cons (qv 1) pa_nil)))
    (qs_cons (ps_set (i := 3) sc__law_mixed.nd rfl (Or.inl rfl) (pe_lst pa_nil))
    (qs_cons (q_while PassesOwn.never (q_cmp (o_neLI hr.units) (qv 2) (pe_lst pa_nil) (nomark _)) (pss_one (ps_expr (lm1 PySem.F.slot_list_append PySem.F.type_list_append m_append (qv 3) (pa_cons (lm1 PySem.F.slot_list_pop PySem.F.type_list_pop m_popAt (qv 2) (pa_cons (q_call (ok__law_off T) (hr.mono (by decide)) rfl T.g__law_off T.k__law_off T.b__law_off pass0 (pa_cons (qv 0) (pa_cons (pe_callB c_len (by rfl) T.m_len (by decide +kernel) (pa_cons (qv 2) pa_nil)) pa_nil))) pa_nil)) pa_nil)))))
    (pss_one (ps_ret (qv 3)))))), ?_⟩
  dsimp! [hr0]
  intro l hl0
  obtain ⟨od, hdo⟩ := hD.some
  have ndl : d ≠ l := ne_of_none hdo hl0
  have s1 : Same H (upd H l (.lst (ns.map V.int))) := Same.new hl0
  have hl1 : (upd H l (.lst (ns.map V.int))) l = some (.lst (ns.map V.int)) := upd_same
  have D1 := hD.same s1
  generalize upd H l (.lst (ns.map V.int)) = H1 at *
  dsimp! []
  refine ⟨by decide, fun f hf => ?_⟩
  have hf0 : H f = none := Same.back s1 _ hf
  have nlf : l ≠ f := ne_of_none hl1 hf
  have ndf : d ≠ f := ne_of_none hdo hf0
  dsimp! []
  refine ⟨fun m σ H2 => ∃ ls ms : List Int, m = ls.length ∧ σ = [some (.ref d), some (.ref r), some (.ref l), some (.ref f)] ∧ KeptD d H H2 ∧ DrawAt H2 d ∧ H2 l = some (.lst (ls.map V.int)) ∧ H2 f = some (.lst (ms.map V.int)) ∧ (ms ++ ls).Perm ns, ns.length, ?_, ?_⟩
  · exact ⟨ns, [], rfl, rfl, fun b o e n => by rw [upd_ne (ne_of_none e hf0)]; exact s1 _ _ e, D1.put ndf, by rw [upd_ne nlf]; exact hl1, upd_same, List.Perm.refl _⟩
  · rintro m σ H2 ⟨ls, ms, rfl, rfl, k2, D2, hl2, hf2, pm⟩
    have hlen := pm.length_eq
    rw [List.length_append] at hlen
    simp! []
    refine ⟨by decide, fun e he => ?_⟩
    have s3 : Same H2 (upd H2 e (.lst [])) := Same.new he
    have he0 : H e = none := k2.back (fun h => by
      obtain ⟨o, q⟩ := D2.some
      rw [← h, he] at q
      cases q) he
    refine ⟨l, e, ls, [], rfl, rfl, s3 _ _ hl2, upd_same, ?_⟩
    have k3 : KeptD d H (upd H2 e (.lst [])) := k2.trans (KeptD.same s3)
    have D3 := D2.same s3
    have hl3 := s3 _ _ hl2
    have hf3 := s3 _ _ hf2
    generalize upd H2 e (.lst []) = H3 at *
    cases ls with
    | nil =>
      dsimp! []
      exact kk f ms H3 hf0 k3 D3 hf3 (by simpa using pm)
    | cons z ls =>
      simp! []
      refine Later.mk ?_
      simp! [hf3, hl3]
      rw [List.length_map]
      refine ⟨d, ls.length + 1, rfl, D3, by omega, by simp at hlen; omega, fun x H4 hx k4 D4 => ?_⟩
      have hl4 := k4 _ _ hl3 ndl.symm
      have hf4 := k4 _ _ hf3 ndf.symm
      obtain ⟨v, hv⟩ : ∃ v, (z :: ls)[x]? = some v := ⟨_, List.getElem?_eq_getElem (by simpa using hx)⟩
      have hv' : ((z :: ls).map V.int)[x]? = some (.int v) := by rw [List.getElem?_map, hv]; rfl
      have fl : (upd H4 l (.lst (((z :: ls).map V.int).eraseIdx x))) f = some (.lst (ms.map V.int)) := by rw [upd_ne nlf.symm]; exact hf4
      have ex : ((z :: ls).map V.int).eraseIdx x = ((z :: ls).eraseIdx x).map V.int := by
        have gen : ∀ (ws : List Int) (j : Nat), (ws.map V.int).eraseIdx j = (ws.eraseIdx j).map V.int := fun ws => by
          induction ws with
          | nil => intro j; rfl
          | cons a ws ih =>
            intro j
            cases j with
            | zero => rfl
            | succ j => simp [ih j]
        exact gen _ _
      have hl4' : H4 l = some (.lst ((z :: ls).map V.int)) := hl4
      have xn : ((x : Int)).toNat = x := rfl
      generalize (z :: ls).map V.int = XS at hl4' hv' fl ex
      simp! [hl4', hv', xn, fl]
      have lp : ((z :: ls).eraseIdx x).length = ls.length := by
        rw [List.length_eraseIdx]
        simp at hx ⊢
        omega
      refine ⟨⟨by omega, by simp at hlen; omega⟩, by rw [List.length_map, sizeLine_eq]; simp at hlen; omega, ls.length, by omega, (z :: ls).eraseIdx x, ms ++ [v], lp.symm, fun b o e n => ?_, ?_, ?_, ?_, ?_⟩
      · have h4 := k4 _ _ (k3 b o e n) n
        rw [upd_ne (ne_of_none e hf0), upd_ne (ne_of_none e hl0)]
        exact h4
      · exact (D4.put ndl).put ndf
      · rw [upd_ne nlf, upd_same, ex]
      · rw [List.map_append]
        rfl
      · refine List.Perm.trans ?_ pm
        rw [List.append_assoc]
        refine List.Perm.append_left ms ?_
        have hx' : x < (z :: ls).length := by simpa using hx
        have e1 : v = (z :: ls)[x] := by
          rw [List.getElem?_eq_getElem hx'] at hv
          exact (Option.some.inj hv).symm
        rw [e1]
        exact erase_perm _ _ hx'
end
end OA

namespace OA
open PySem L2
section
variable {P : Program} {w : World} {K : PySem.W.Frag} {mg : Str → Option Value} {base : Heap} {A : Ad}
theorem RT.keep {R : RuleM} {H H' : Hp} (h : RT A R H) (k : ∀ b ps, H b = some (.tbl ps) → H' b = some (.tbl ps)) : RT A R H' := by
  cases R with
  | rows rs =>
    obtain ⟨⟨ps, h1, h2⟩, ⟨qs, h3, h4⟩⟩ := (show Tabs A H from h)
    exact ⟨⟨ps, k _ _ h1, h2⟩, ⟨qs, k _ _ h3, h4⟩⟩
  | turns => exact True.intro
  | tree sk jn => exact True.intro
  | waits b => exact True.intro
theorem RT.drawn {R : RuleM} {H H' : Hp} {d : Addr} (h : RT A R H) (D : DrawAt H d) (k : KeptD d H H') : RT A R H' := h.keep fun b ps e => k b _ e fun z => by
  obtain ⟨ns, e2, _⟩ := D
  rw [z, e2] at e
  cases e
theorem Gr.put {R : RuleM} {H0 H : Hp} {D : Addr} {o u : HO} (g : Gr A R H0 H) (hD : H0 D = none) (h : H D = some u) (nu : ∀ ps, u ≠ .tbl ps) : Gr A R H0 (upd H D o) := ⟨fun b x e n => by
    rw [upd_ne (ne_of_none e hD)]
    exact g.keep b x e n, g.rt.keep fun b ps e => by
    rw [upd_ne fun z => nu ps (by rw [z, h] at e; exact Option.some.inj e)]
    exact e, fun b hb => by
    by_cases n : b = D
    · rw [n, upd_same] at hb
      cases hb
    · rw [upd_ne n] at hb
      exact g.back b hb⟩
/-- what play has told -/
def TdAt (H : Hp) (R : RuleM) (many : Nat) (wl : WL) (n ar : Nat) (T : Addr) : Prop := ∃ (t : Addr) (wd : Str), H T = some (.tup [.str wd, .ref t, .int ar]) ∧ ToldAt H t (rowsTo R many wl n)
/-- how many go round -/
def ArOk (R : RuleM) (many : Nat) (wl : WL) (n ar : Nat) : Prop := ar = 0 ∨ ∃ m, Again R many wl n m ∧ ar = n - m
theorem ToldAt.keep {H H' : Hp} {t : Addr} {rows : List Row} (h : ToldAt H t rows) (k : ∀ b o, H b = some o → isIns o = false → (∀ ps, o ≠ .tbl ps) → H' b = some o) : ToldAt H' t rows := by
  obtain ⟨as, h1, h2, h3⟩ := h
  refine ⟨as, k _ _ h1 rfl (fun _ z => by cases z), h2, fun i a r e1 e2 => ?_⟩
  obtain ⟨s, g1, g2⟩ := h3 i a r e1 e2
  exact ⟨s, k _ _ g1 rfl (fun _ z => by cases z), k _ _ g2 rfl (fun _ z => by cases z)⟩
theorem TdAt.keep {H H' : Hp} {R : RuleM} {many n ar : Nat} {wl : WL} {T : Addr} (h : TdAt H R many wl n ar T) (k : ∀ b o, H b = some o → isIns o = false → (∀ ps, o ≠ .tbl ps) → H' b = some o) : TdAt H' R many wl n ar T := by
  obtain ⟨t, wd, h1, h2⟩ := h
  exact ⟨t, wd, k _ _ h1 rfl (fun _ z => by cases z), h2.keep k⟩
def pick2 {α : Type} (x y : α) (k : Nat) : α := match k with | 0 => x | _ => y
/-- all but stations that the law has -/
structure AirF (H : Hp) (R : RuleM) (many : Nat) (p e q : Addr) (W L T : Nat → Addr) (wl : Nat → WL) (ps : Nat → List (Addr × Addr)) (n ar : Nat → Nat) : Prop where
  some_ : H p = some (.lst [.ref (W 0), .ref (W 1)])
  airs : H e = some (.lst [.ref (L 0), .ref (L 1)])
  told : H q = some (.lst [.ref (T 0), .ref (T 1)])
  wk : ∀ k, k < 2 → H (W k) = some (.dK (wkv (wl k)))
  st : ∀ k, k < 2 → H (L k) = some (.lst ((ps k).map fun p => .ref p.1))
  td : ∀ k, k < 2 → TdAt H R many (wl k) (n k) (ar k) (T k)
theorem AirF.keep {H H' : Hp} {R : RuleM} {many : Nat} {p e q : Addr} {W L T : Nat → Addr} {wl : Nat → WL} {ps : Nat → List (Addr × Addr)} {n ar : Nat → Nat} (h : AirF H R many p e q W L T wl ps n ar) (k : ∀ b o, H b = some o → isIns o = false → (∀ ps, o ≠ .tbl ps) → H' b = some o) : AirF H' R many p e q W L T wl ps n ar :=
  ⟨k _ _ h.some_ rfl (fun _ z => by cases z), k _ _ h.airs rfl (fun _ z => by cases z), k _ _ h.told rfl (fun _ z => by cases z), fun i hi => k _ _ (h.wk i hi) rfl (fun _ z => by cases z), fun i hi => k _ _ (h.st i hi) rfl (fun _ z => by cases z), fun i hi => (h.td i hi).keep k⟩
end
end OA

namespace OA
open PySem L2
section
variable {P : Program} {w : World} {K : PySem.W.Frag} {mg : Str → Option Value} {base : Heap} {A : Ad}
theorem pick_off {H : Hp} {d p : Addr} {n : Nat} {xs : List V} {Q : V → Hp → Prop} (D : DrawAt H d) (hp : H p = none) (h1 : 1 ≤ n) (hn : n ≤ 1000) (hl : n ≤ xs.length) (k : ∀ (j : Nat) (H2 : Hp) (v : V), xs[j]? = some v → KeptD d H H2 → DrawAt H2 d → Q v H2) :
    spOff A [.ref d, .int n] (upd H p (.lst xs)) (fun y H2 => lstO (H2 p) fun xs => intR y fun i => optR (atI xs i) fun v => Q v H2) E0 := by
  have nd : d ≠ p := by
    obtain ⟨o, e⟩ := D.some
    exact ne_of_none e hp
  refine ⟨d, n, rfl, D.put nd, h1, hn, fun y H2 hy k2 D2 => ?_⟩
  have hp2 := k2 _ _ upd_same nd.symm
  obtain ⟨v, hv⟩ : ∃ v, xs[y]? = some v := ⟨_, List.getElem?_eq_getElem (by omega)⟩
  have ha : atI xs (y : Int) = some v := atI_nat hv
  simp only [hp2, lstO_e, intR_e, ha, optR_e]
  exact k y H2 v hv (fun b o e n => k2 b o (by rw [upd_ne (ne_of_none e hp)]; exact e) n) D2
end
end OA

namespace OA
open PySem L2
local macro_rules
  | `(tactic| simp! [$a,*]) => `(tactic| simp -implicitDefEqProofs only [wNeD0, wRep, tDNewK, vDc, wSortDI, dkR_e, dkR_f, e_cut, wSetL, vLstRg, wLstD, e_lock, vVals, gSub, tCKw, frzO_e, viItems, viKeys, vRev, e_while, e_for, e_asgG, gName, vgTup, vgCons_e, vgNil_e, viList, viTup, viStr, viR1, viEnum, vLc, tYes, wipe, e_seq, e_next, e_drop, e_ret, e_retN, e_sfld, e_augI, e_aug, e_dput, vIf, vTest, wInT, vVar, vFld, tC, tOp, tUn, wI0, wIC, rEq, rNe, scal, wAddS, wMulS, wCat, wNeg, wIxL, wIxT, wIxS, vPart, tNoPart, tSl, wSlL, tCB, tCons, tNil, len_s, wTupL, wLstL, wAbs, wIntB, wMin2, wMax2, vAnd, vOr, vNot, vChain, vMeth, vCall, vMake, vLM0, vLM, isLst, wAppend, wPopAt, wInsert0, vStar, vDGet, vDIn, vDNotIn, tTup, tLst, tIf, tAnd, tOr, tNot, refR_e, intR_e, blR_e, strR_e, optR_e, keyR_i, keyR_s, insO_e, lstO_e, tupO_e, dkO_e, one1_e, two2_e, len_r, lenO_l, lenO_t, lenO_d, L2.start, List.map, List.replicate, List.length_cons, List.length_nil, List.cons_append, List.nil_append, List.append_nil, List.getElem?_cons_zero, List.getElem?_cons_succ, List.set_cons_zero, List.set_cons_succ, true_and, and_true, cx_K, cx_prog, cx_w, blkK, Int.toNat_natCast, upd_same, upd_upd, if_true, if_false, decide_eq_true_eq, reduceCtorEq, reduceIte, Bool.false_eq_true, decide_true, decide_false, Bool.true_and, Bool.false_and, Bool.and_true, Bool.and_false, Bool.not_true, Bool.not_false, V.int.injEq, V.str.injEq, V.bl.injEq, putF_nil, Nat.reduceAdd, Nat.reduceSub, Nat.reduceLT, Int.reduceEq, Int.reduceLT, Int.reduceLE, Int.reduceAdd, Int.reduceSub, Int.cast_ofNat_Int, wIsi, tyR_e, tyO_l, tyO_t, tyO_d, tyN_n, tyN_b, tyN_i, tyN_s, tyN_r, kit_NoneType_bool, kit_NoneType_int, kit_NoneType_str, kit_NoneType_list, kit_NoneType_tuple, kit_NoneType_dict, kit_bool_bool, kit_bool_int, kit_bool_str, kit_bool_list, kit_bool_tuple, kit_bool_dict, kit_int_bool, kit_int_int, kit_int_str, kit_int_list, kit_int_tuple, kit_int_dict, kit_str_bool, kit_str_int, kit_str_str, kit_str_list, kit_str_tuple, kit_str_dict, kit_list_bool, kit_list_int, kit_list_str, kit_list_list, kit_list_tuple, kit_list_dict, kit_tuple_bool, kit_tuple_int, kit_tuple_str, kit_tuple_list, kit_tuple_tuple, kit_tuple_dict, kit_dict_bool, kit_dict_int, kit_dict_str, kit_dict_list, kit_dict_tuple, kit_dict_dict, $a,*])
  | `(tactic| dsimp! [$a,*]) => `(tactic| ((try refine Later.mk ?_); simp! [$a,*]; repeat (refine Later.mk ?_; simp! [$a,*])))
section
variable {P : Program} {w : World} {K : PySem.W.Frag} {mg : Str → Option Value} {base : Heap} {A : Ad}
def spLRows (A : Ad) : Sp := fun vs H Q _ => ∃ (d : Addr) (many : Nat), vs = [.ref d, .int many] ∧ DrawAt H d ∧ 1 ≤ many ∧ many ≤ 8 ∧ ∀ (b : Addr) (rs : List Str) H', H b = none → KeptD d H H' → DrawAt H' d → H' b = some (.tup (rs.map V.str)) → (RuleM.rows rs).Ok many → Q (.ref b) H'
theorem sc__law_rows : FnScope ["_law_d", "_law_many_here", "_law_size", "_law_often", "_law_found", "_law_number", "_law_row", "_law_at"] ["_law_d", "_law_many_here"] (defScope s__law_rows) := ⟨rfl, rfl, rfl, by decide +kernel, rfl, by decide +kernel, by decide +kernel⟩
theorem ok__law_rows (T : Txt K mg base A) : FnOk P w K mg base CX0 2 A._law_rows A.d__law_rows ["_law_d", "_law_many_here"] (spLRows A) := by
  refine T.F__law_rows.ok sc__law_rows (fun vs H Q E h => ?_) (fun cdv A' outer s H vs Q E hr h => ?_)
  · obtain ⟨d, many, rfl, _⟩ := h
    rfl
  obtain ⟨d, many, rfl, hD, h1, h8, kk⟩ := h
  have hu := hu_of hr
  refine ⟨_, (qs_cons (ps_set (i := 2) sc__law_rows.nd rfl (Or.inl rfl) (pe_op o_add pe_int (q_call (ok__law_off T) (hr.mono (by decide)) rfl T.g__law_off T.k__law_off T.b__law_off pass0 (pa_cons (qv 0) (pa_cons (pe_ix ix_L (pe_lst (pa_cons pe_int (pa_cons pe_int pa_nil))) (q_call (ok__law_off T) (hr.mono (by decide)) rfl T.g__law_off T.k__law_off T.b__law_off pass0 (pa_cons (qv 0) (pa_cons pe_int pa_nil))) (fun _ _ => rfl)) pa_nil)))))
    (qs_cons (ps_set (i := 3) sc__law_rows.nd rfl (Or.inl rfl) (pe_ix ix_L (pe_lst (pa_cons pe_int (pa_cons pe_int (pa_cons pe_int pa_nil)))) (q_call (ok__law_off T) (hr.mono (by decide)) rfl T.g__law_off T.k__law_off T.b__law_off pass0 (pa_cons (qv 0) (pa_cons pe_int pa_nil))) (fun _ _ => rfl)))
    (qs_cons (ps_set (i := 4) sc__law_rows.nd rfl (Or.inl rfl) (pe_lst pa_nil))
    (qs_cons (q_for PassesOwn.never rfl (qi_r1 (by rfl) T.m_range (pa_cons (qv 1) pa_nil)) (pg_name (i := 5) sc__law_rows.nd rfl (Or.inl rfl)) (qs_cons (ps_set (i := 6) sc__law_rows.nd rfl (Or.inl rfl) pe_str)
    (qs_cons (q_for PassesOwn.never rfl (qi_r1 (by rfl) T.m_range (pa_cons (qv 2) pa_nil)) (pg_name (i := 7) sc__law_rows.nd rfl (Or.inl rfl)) (pss_one (ps_set (i := 6) sc__law_rows.nd rfl (Or.inl rfl) (pe_op o_addS (qv 6) (pe_ix ix_S pe_str (pe_callTy c_intB (by rfl) T.m_int (by decide +kernel) (pa_cons (q_or (pe_cmpR op_eq (q_call (ok__law_off T) (hr.mono (by decide)) rfl T.g__law_off T.k__law_off T.b__law_off pass0 (pa_cons (qv 0) (pa_cons (qv 3) pa_nil))) pe_int (nomark _)) (pe_one (q_and (pe_cmpR op_eq (qv 7) (qv 5) (nomark _)) (pe_one (pe_cmpR op_eq (qv 3) pe_int (nomark _)))))) pa_nil)) (fun _ _ => rfl))))))
    (pss_one (ps_expr (lm1 PySem.F.slot_list_append PySem.F.type_list_append m_append (qv 4) (pa_cons (qv 6) pa_nil)))))))
    (pss_one (ps_ret (pe_callTy c_tupL (by rfl) T.m_tuple (by decide +kernel) (pa_cons (qv 4) pa_nil)))))))), ?_⟩
  dsimp! []
  refine ⟨by decide, fun p hp => pick_off hD hp (by decide) (by decide) (by decide) fun j H2 v hv k2 D2 => ?_⟩
  obtain ⟨n0, rfl, n1, n12⟩ : ∃ n : Nat, v = .int n ∧ 1 ≤ n ∧ n ≤ 12 := by
    match j, hv with
    | 0, hv => exact ⟨5, (Option.some.inj hv).symm, by decide, by decide⟩
    | 1, hv => exact ⟨12, (Option.some.inj hv).symm, by decide, by decide⟩
  refine ⟨d, n0, rfl, D2, n1, by omega, fun x H3 hx k3 D3 => ?_⟩
  have k03 := k2.trans k3
  have e1 : (1 : Int) + (x : Nat) = ((1 + x : Nat) : Int) := by omega
  simp! [e1]
  generalize hn : 1 + x = n
  have hn1 : 1 ≤ n := by omega
  have hn12 : n ≤ 12 := by omega
  dsimp! []
  refine ⟨by decide, fun p2 hp2 => pick_off D3 hp2 (by decide) (by decide) (by decide) fun j2 H4 v2 hv2 k4 D4 => ?_⟩
  obtain ⟨often, rfl, o2, o5⟩ : ∃ n : Nat, v2 = .int n ∧ 2 ≤ n ∧ n ≤ 5 := by
    match j2, hv2 with
    | 0, hv => exact ⟨2, (Option.some.inj hv).symm, by decide, by decide⟩
    | 1, hv => exact ⟨3, (Option.some.inj hv).symm, by decide, by decide⟩
    | 2, hv => exact ⟨5, (Option.some.inj hv).symm, by decide, by decide⟩
  have k04 := k03.trans k4
  dsimp! []
  refine ⟨by decide, fun f hf => ?_⟩
  obtain ⟨od, hdo⟩ := D4.some
  have ndf : d ≠ f := ne_of_none hdo hf
  have hf0 : H f = none := k04.back ndf.symm hf
  have k5 : KeptD d H (upd H4 f (.lst [])) := k04.trans (KeptD.same (Same.new hf))
  have D5 := D4.put (o := .lst []) ndf
  have hf5 : (upd H4 f (.lst [])) f = some (.lst ([].map V.str)) := upd_same
  generalize upd H4 f (.lst []) = H5 at *
  have small : ∀ m : Nat, m ≤ 100 → m < sizeLine := fun m h => by rw [sizeLine_eq]; omega
  dsimp! []
  refine ⟨⟨by omega, by omega⟩, _, _, _, fun i σ H' => ∃ (rs : List Str) (v5 v6 v7 : Option V), rs.length = i ∧ σ = [some (.ref d), some (.int many), some (.int n), some (.int often), some (.ref f), v5, v6, v7] ∧ KeptD d H H' ∧ DrawAt H' d ∧ H' f = some (.lst (rs.map V.str)) ∧ ∀ r ∈ rs, r.length = n ∧ ∀ c ∈ r.cps.toList, c = 48 ∨ c = 49, walk_range (lo := 0) (n := many), ⟨[], none, none, none, rfl, rfl, k5, D5, hf5, fun r hr => by simp at hr⟩, fun _ _ _ _ _ => True.intro, ?_, ?_⟩
  · rintro i y σ H6 H7 hi ⟨rs, v5, v6, v7, hrl, rfl, k6, D6, hf6, hrs⟩ ⟨rfl, rfl⟩
    have e0 : (0 : Int) + (i : Nat) = (i : Nat) := Int.zero_add _
    dsimp! [e0]
    refine ⟨⟨by omega, by omega⟩, _, _, _, fun k σ H' => ∃ (r : Str) (u7 : Option V), r.length = k ∧ σ = [some (.ref d), some (.int many), some (.int n), some (.int often), some (.ref f), some (.int i), some (.str r), u7] ∧ KeptD d H H' ∧ DrawAt H' d ∧ H' f = some (.lst (rs.map V.str)) ∧ ∀ c ∈ r.cps.toList, c = 48 ∨ c = 49, walk_range (lo := 0) (n := n), ⟨Str.ofString "", v7, by decide +kernel, rfl, k6, D6, hf6, fun c hc => ?_⟩, fun _ _ _ _ _ => True.intro, ?_, ?_⟩
    · exact absurd hc (by decide +kernel +revert)
    · rintro k z σ H8 H9 hk ⟨r, u7, hrk, rfl, k8, D8, hf8, hc8⟩ ⟨rfl, rfl⟩
      have e9 : (0 : Int) + (k : Nat) = (k : Nat) := Int.zero_add _
      dsimp! [e9]
      refine ⟨d, often, rfl, D8, by omega, by omega, fun g H10 hg k10 D10 => ?_⟩
      have fin : ∀ b : Bool, (Str.ofString "01").length ≤ sizeLine ∧ optR (atI (Str.ofString "01").cps.toList (if b = true then 1 else 0)) fun c => r.length + (Str.mk #[c]).length ≤ sizeLine ∧ ∃ (r' : Str) (u7 : Option V), r'.length = k + 1 ∧ [some (V.ref d), some (.int many), some (.int n), some (.int often), some (.ref f), some (.int i), some (.str (r ++ ⟨#[c]⟩)), some (.int k)] = [some (.ref d), some (.int many), some (.int n), some (.int often), some (.ref f), some (.int i), some (.str r'), u7] ∧ KeptD d H H10 ∧ DrawAt H10 d ∧ H10 f = some (.lst (rs.map V.str)) ∧ ∀ c ∈ r'.cps.toList, c = 48 ∨ c = 49 := by
        intro b
        have one : ∀ c : Nat, (c = 48 ∨ c = 49) → r.length + (Str.mk #[c]).length ≤ sizeLine ∧ ∃ (r' : Str) (u7 : Option V), r'.length = k + 1 ∧ [some (V.ref d), some (.int many), some (.int n), some (.int often), some (.ref f), some (.int i), some (.str (r ++ ⟨#[c]⟩)), some (.int k)] = [some (.ref d), some (.int many), some (.int n), some (.int often), some (.ref f), some (.int i), some (.str r'), u7] ∧ KeptD d H H10 ∧ DrawAt H10 d ∧ H10 f = some (.lst (rs.map V.str)) ∧ ∀ c ∈ r'.cps.toList, c = 48 ∨ c = 49 := fun c hc => by
          have l1 : (Str.mk #[c]).length = 1 := rfl
          refine ⟨by rw [l1, sizeLine_eq]; omega, r ++ ⟨#[c]⟩, _, by rw [str_len_app, l1, hrk], rfl, k8.trans k10, D10, k10 _ _ hf8 ndf.symm, fun c' hc' => ?_⟩
          have ha : (r ++ Str.mk #[c]).cps = r.cps ++ #[c] := rfl
          rw [ha, Array.toList_append] at hc'
          rcases List.mem_append.mp hc' with h | h
          · exact hc8 c' h
          · have : c' = c := by simpa using h
            omega
        have s01 : (Str.ofString "01").cps.toList = [48, 49] := by decide +kernel
        refine ⟨by decide +kernel, ?_⟩
        rw [s01]
        cases b with
        | true => exact one 49 (.inr rfl)
        | false => exact one 48 (.inl rfl)
      simp! []
      refine ite2 (fun _ => fin true) (fun _ => ite2 (fun _ => ?_) (fun _ => fin false))
      by_cases c5 : ((often : Nat) : Int) = 5
      · rw [if_pos c5]
        exact fin true
      · rw [if_neg c5]
        exact fin false
    · rintro σ H8 ⟨r, u7, hrk, rfl, k8, D8, hf8, hc8⟩
      dsimp! [hf8]
      refine ⟨by rw [List.length_map]; exact small _ (by omega), rs ++ [r], _, _, _, by rw [List.length_append, hrl]; rfl, rfl, fun b o e nn => ?_, D8.put ndf, ?_, fun r' hr' => ?_⟩
      · rw [upd_ne (ne_of_none e hf0)]
        exact k8 b o e nn
      · rw [List.map_append]
        rfl
      · rcases List.mem_append.mp hr' with h | h
        · exact hrs r' h
        · have : r' = r := by simpa using h
          subst this
          exact ⟨hrk, hc8⟩
  · rintro σ H6 ⟨rs, v5, v6, v7, hrl, rfl, k6, D6, hf6, hrs⟩
    dsimp! [hf6]
    intro b hb
    have ndb : d ≠ b := by
      obtain ⟨o, e⟩ := D6.some
      exact ne_of_none e hb
    exact kk b rs _ (k6.back ndb.symm hb) (k6.trans (KeptD.same (Same.new hb))) (D6.put ndb) upd_same ⟨hrl, n, hn1, hn12, hrs⟩
end
end OA

namespace OA
open PySem L2
local macro_rules
  | `(tactic| simp! [$a,*]) => `(tactic| simp -implicitDefEqProofs only [wNeD0, wRep, tDNewK, vDc, wSortDI, dkR_e, dkR_f, e_cut, wSetL, vLstRg, wLstD, e_lock, vVals, gSub, tCKw, frzO_e, viItems, viKeys, vRev, e_while, e_for, e_asgG, gName, vgTup, vgCons_e, vgNil_e, viList, viTup, viStr, viR1, viEnum, vLc, tYes, wipe, e_seq, e_next, e_drop, e_ret, e_retN, e_sfld, e_augI, e_aug, e_dput, vIf, vTest, wInT, vVar, vFld, tC, tOp, tUn, wI0, wIC, rEq, rNe, scal, wAddS, wMulS, wCat, wNeg, wIxL, wIxT, wIxS, vPart, tNoPart, tSl, wSlL, tCB, tCons, tNil, len_s, wTupL, wLstL, wAbs, wIntB, wMin2, wMax2, vAnd, vOr, vNot, vChain, vMeth, vCall, vMake, vLM0, vLM, isLst, wAppend, wPopAt, wInsert0, vStar, vDGet, vDIn, vDNotIn, tTup, tLst, tIf, tAnd, tOr, tNot, refR_e, intR_e, blR_e, strR_e, optR_e, keyR_i, keyR_s, insO_e, lstO_e, tupO_e, dkO_e, one1_e, two2_e, len_r, lenO_l, lenO_t, lenO_d, L2.start, List.map, List.replicate, List.length_cons, List.length_nil, List.cons_append, List.nil_append, List.append_nil, List.getElem?_cons_zero, List.getElem?_cons_succ, List.set_cons_zero, List.set_cons_succ, true_and, and_true, cx_K, cx_prog, cx_w, blkK, Int.toNat_natCast, upd_same, upd_upd, if_true, if_false, decide_eq_true_eq, reduceCtorEq, reduceIte, Bool.false_eq_true, decide_true, decide_false, Bool.true_and, Bool.false_and, Bool.and_true, Bool.and_false, Bool.not_true, Bool.not_false, V.int.injEq, V.str.injEq, V.bl.injEq, putF_nil, Nat.reduceAdd, Nat.reduceSub, Nat.reduceLT, Int.reduceEq, Int.reduceLT, Int.reduceLE, Int.reduceAdd, Int.reduceSub, Int.cast_ofNat_Int, wIsi, tyR_e, tyO_l, tyO_t, tyO_d, tyN_n, tyN_b, tyN_i, tyN_s, tyN_r, kit_NoneType_bool, kit_NoneType_int, kit_NoneType_str, kit_NoneType_list, kit_NoneType_tuple, kit_NoneType_dict, kit_bool_bool, kit_bool_int, kit_bool_str, kit_bool_list, kit_bool_tuple, kit_bool_dict, kit_int_bool, kit_int_int, kit_int_str, kit_int_list, kit_int_tuple, kit_int_dict, kit_str_bool, kit_str_int, kit_str_str, kit_str_list, kit_str_tuple, kit_str_dict, kit_list_bool, kit_list_int, kit_list_str, kit_list_list, kit_list_tuple, kit_list_dict, kit_tuple_bool, kit_tuple_int, kit_tuple_str, kit_tuple_list, kit_tuple_tuple, kit_tuple_dict, kit_dict_bool, kit_dict_int, kit_dict_str, kit_dict_list, kit_dict_tuple, kit_dict_dict, $a,*])
  | `(tactic| dsimp! [$a,*]) => `(tactic| ((try refine Later.mk ?_); simp! [$a,*]; repeat (refine Later.mk ?_; simp! [$a,*])))
section
variable {P : Program} {w : World} {K : PySem.W.Frag} {mg : Str → Option Value} {base : Heap} {A : Ad}
def spLRule (A : Ad) : Sp := fun vs H Q _ => ∃ (d : Addr) (many : Nat), vs = [.ref d, .int many] ∧ DrawAt H d ∧ 1 ≤ many ∧ many ≤ 8 ∧ ∀ (a : Addr) (R : RuleM) H', H a = none → KeptD d H H' → DrawAt H' d → RuleAt H' a R → R.Ok many → Q (.ref a) H'
theorem sc__law_rule : FnScope ["_law_d", "_law_many_here", "_law_kind"] ["_law_d", "_law_many_here"] (defScope s__law_rule) := ⟨rfl, rfl, rfl, by decide +kernel, rfl, by decide +kernel, by decide +kernel⟩
theorem ok__law_rule (T : Txt K mg base A) : FnOk P w K mg base CX0 3 A._law_rule A.d__law_rule ["_law_d", "_law_many_here"] (spLRule A) := by
  refine T.F__law_rule.ok sc__law_rule (fun vs H Q E h => ?_) (fun cdv A' outer s H vs Q E hr h => ?_)
  · obtain ⟨d, many, rfl, _⟩ := h
    rfl
  obtain ⟨d, many, rfl, hD, h1, h8, kk⟩ := h
  have hu := hu_of hr
  refine ⟨_, (qs_cons (ps_set (i := 2) sc__law_rule.nd rfl (Or.inl rfl) (q_call (ok__law_off T) (hr.mono (by decide)) rfl T.g__law_off T.k__law_off T.b__law_off pass0 (pa_cons (qv 0) (pa_cons pe_int pa_nil))))
    (qs_cons (q_if (q_cmp op_eq (qv 2) pe_int (nomark _)) (pss_one (ps_ret (pe_tup (pa_cons pe_str pa_nil)))) pss_nil)
    (qs_cons (q_if (q_cmp o_lt (qv 2) pe_int (nomark _)) (pss_one (ps_ret (pe_tup (pa_cons pe_str (pa_cons (q_call (ok__law_rows T) (hr.mono (by decide)) rfl T.g__law_rows T.k__law_rows T.b__law_rows pass0 (pa_cons (qv 0) (pa_cons (qv 1) pa_nil))) pa_nil))))) pss_nil)
    (qs_cons (q_if (q_cmp o_lt (qv 2) pe_int (nomark _)) (pss_one (ps_ret (pe_tup (pa_cons pe_str (pa_cons (pe_op o_add pe_int (q_call (ok__law_off T) (hr.mono (by decide)) rfl T.g__law_off T.k__law_off T.b__law_off pass0 (pa_cons (qv 0) (pa_cons pe_int pa_nil)))) pa_nil))))) pss_nil)
    (pss_one (ps_ret (pe_tup (pa_cons pe_str (pa_cons (pe_ix ix_L (pe_lst (pa_cons pe_str (pa_cons pe_str pa_nil))) (q_call (ok__law_off T) (hr.mono (by decide)) rfl T.g__law_off T.k__law_off T.b__law_off pass0 (pa_cons (qv 0) (pa_cons pe_int pa_nil))) (fun _ _ => rfl)) (pa_cons (pe_ix ix_L (pe_lst (pa_cons pe_str (pa_cons pe_str pa_nil))) (q_call (ok__law_off T) (hr.mono (by decide)) rfl T.g__law_off T.k__law_off T.b__law_off pass0 (pa_cons (qv 0) (pa_cons pe_int pa_nil))) (fun _ _ => rfl)) pa_nil)))))))))), ?_⟩
  dsimp! []
  refine ⟨d, 8, rfl, hD, by decide, by decide, fun x H1 hx k1 D1 => ?_⟩
  have two : ∀ (u v : Str) (H2 : Hp) (Q2 : V → Hp → Prop), DrawAt H2 d → KeptD d H H2 → (∀ (b : Bool) H3, DrawAt H3 d → KeptD d H H3 → Q2 (.str (if b = true then v else u)) H3) →
      ∀ p, H2 p = none → spOff A [.ref d, .int 2] (upd H2 p (.lst [V.str u, V.str v])) (fun y H2 => lstO (H2 p) fun xs => intR y fun i => optR (atI xs i) fun v => Q2 v H2) E0 := fun u v H2 Q2 D2 k2 q p hp => by
    refine pick_off (n := 2) D2 hp (by decide) (by decide) (Nat.le_refl _) fun j H3 z hz k3 D3 => ?_
    match j, hz with
    | 0, hz =>
      cases hz
      exact q false H3 D3 (k2.trans k3)
    | 1, hz =>
      cases hz
      exact q true H3 D3 (k2.trans k3)
  have fin : ∀ (a : Addr) (R : RuleM) (H2 : Hp) (o : HO), DrawAt H2 d → KeptD d H H2 → H2 a = none → RuleAt (upd H2 a o) a R → R.Ok many → Q (.ref a) (upd H2 a o) := fun a R H2 o D2 k2 ha hR hok => by
    have nda : d ≠ a := by
      obtain ⟨u, e⟩ := D2.some
      exact ne_of_none e ha
    exact kk a R _ (k2.back nda.symm ha) (k2.trans (KeptD.same (Same.new ha))) (D2.put nda) hR hok
  dsimp! []
  refine ite2 (fun c => ?_) (fun c => ?_)
  · dsimp! []
    exact ⟨by decide, fun a ha => fin a .turns H1 _ D1 k1 ha upd_same True.intro⟩
  · dsimp! []
    refine ite2 (fun c2 => ?_) (fun c2 => ?_)
    · dsimp! []
      refine ⟨d, many, rfl, D1, h1, h8, fun b rs H2 hb k2 D2 hb2 hok => ?_⟩
      dsimp! []
      refine ⟨by decide, fun a ha => fin a (.rows rs) H2 _ D2 (k1.trans k2) ha ⟨b, upd_same, ?_⟩ hok⟩
      rw [upd_ne (ne_of_none hb2 ha)]
      exact hb2
    · dsimp! []
      refine ite2 (fun c3 => ?_) (fun c3 => ?_)
      · dsimp! []
        refine ⟨d, 3, rfl, D1, by decide, by decide, fun y H2 hy k2 D2 => ?_⟩
        have e1 : (2 : Int) + (y : Nat) = ((2 + y : Nat) : Int) := by omega
        dsimp! [e1]
        exact ⟨by decide, fun a ha => fin a (.waits (2 + y)) H2 _ D2 (k1.trans k2) ha upd_same ⟨by omega, by omega⟩⟩
      · dsimp! []
        refine ⟨by decide, two _ _ H1 _ D1 k1 fun b1 H2 D2 k2 => ?_⟩
        refine ⟨by decide, two _ _ H2 _ D2 k2 fun b2 H3 D3 k3 => ?_⟩
        exact ⟨by decide, fun a ha => fin a (.tree b1 b2) H3 _ D3 k3 ha upd_same True.intro⟩
end
end OA

namespace OA
open PySem L2
local macro_rules
  | `(tactic| simp! [$a,*]) => `(tactic| simp -implicitDefEqProofs only [wNeD0, wRep, tDNewK, vDc, wSortDI, dkR_e, dkR_f, e_cut, wSetL, vLstRg, wLstD, e_lock, vVals, gSub, tCKw, frzO_e, viItems, viKeys, vRev, e_while, e_for, e_asgG, gName, vgTup, vgCons_e, vgNil_e, viList, viTup, viStr, viR1, viEnum, vLc, tYes, wipe, e_seq, e_next, e_drop, e_ret, e_retN, e_sfld, e_augI, e_aug, e_dput, vIf, vTest, wInT, vVar, vFld, tC, tOp, tUn, wI0, wIC, rEq, rNe, scal, wAddS, wMulS, wCat, wNeg, wIxL, wIxT, wIxS, vPart, tNoPart, tSl, wSlL, tCB, tCons, tNil, len_s, wTupL, wLstL, wAbs, wIntB, wMin2, wMax2, vAnd, vOr, vNot, vChain, vMeth, vCall, vMake, vLM0, vLM, isLst, wAppend, wPopAt, wInsert0, vStar, vDGet, vDIn, vDNotIn, tTup, tLst, tIf, tAnd, tOr, tNot, refR_e, intR_e, blR_e, strR_e, optR_e, keyR_i, keyR_s, insO_e, lstO_e, tupO_e, dkO_e, one1_e, two2_e, len_r, lenO_l, lenO_t, lenO_d, L2.start, List.map, List.replicate, List.length_cons, List.length_nil, List.cons_append, List.nil_append, List.append_nil, List.getElem?_cons_zero, List.getElem?_cons_succ, List.set_cons_zero, List.set_cons_succ, true_and, and_true, cx_K, cx_prog, cx_w, blkK, Int.toNat_natCast, upd_same, upd_upd, if_true, if_false, decide_eq_true_eq, reduceCtorEq, reduceIte, Bool.false_eq_true, decide_true, decide_false, Bool.true_and, Bool.false_and, Bool.and_true, Bool.and_false, Bool.not_true, Bool.not_false, V.int.injEq, V.str.injEq, V.bl.injEq, putF_nil, Nat.reduceAdd, Nat.reduceSub, Nat.reduceLT, Int.reduceEq, Int.reduceLT, Int.reduceLE, Int.reduceAdd, Int.reduceSub, Int.cast_ofNat_Int, wIsi, tyR_e, tyO_l, tyO_t, tyO_d, tyN_n, tyN_b, tyN_i, tyN_s, tyN_r, kit_NoneType_bool, kit_NoneType_int, kit_NoneType_str, kit_NoneType_list, kit_NoneType_tuple, kit_NoneType_dict, kit_bool_bool, kit_bool_int, kit_bool_str, kit_bool_list, kit_bool_tuple, kit_bool_dict, kit_int_bool, kit_int_int, kit_int_str, kit_int_list, kit_int_tuple, kit_int_dict, kit_str_bool, kit_str_int, kit_str_str, kit_str_list, kit_str_tuple, kit_str_dict, kit_list_bool, kit_list_int, kit_list_str, kit_list_list, kit_list_tuple, kit_list_dict, kit_tuple_bool, kit_tuple_int, kit_tuple_str, kit_tuple_list, kit_tuple_tuple, kit_tuple_dict, kit_dict_bool, kit_dict_int, kit_dict_str, kit_dict_list, kit_dict_tuple, kit_dict_dict, $a,*])
  | `(tactic| dsimp! [$a,*]) => `(tactic| ((try refine Later.mk ?_); simp! [$a,*]; repeat (refine Later.mk ?_; simp! [$a,*])))
section
variable {P : Program} {w : World} {K : PySem.W.Frag} {mg : Str → Option Value} {base : Heap} {A : Ad}
def spLWakes (A : Ad) : Sp := fun vs H Q _ => ∃ (d : Addr) (many : Nat), vs = [.ref d, .int many] ∧ DrawAt H d ∧ 1 ≤ many ∧ many ≤ 8 ∧ ∀ (f : Addr) (wl : WL) H', H f = none → KeptD d H H' → DrawAt H' d → H' f = some (.dK (wkv wl)) → WOk many wl → Q (.ref f) H'
theorem sc__law_wakes : FnScope ["_law_d", "_law_many_here", "_law_most", "_law_late", "_law_often", "_law_found", "_law_number"] ["_law_d", "_law_many_here"] (defScope s__law_wakes) := ⟨rfl, rfl, rfl, by decide +kernel, rfl, by decide +kernel, by decide +kernel⟩
theorem ok__law_wakes (T : Txt K mg base A) : FnOk P w K mg base CX0 3 A._law_wakes A.d__law_wakes ["_law_d", "_law_many_here"] (spLWakes A) := by
  refine T.F__law_wakes.ok sc__law_wakes (fun vs H Q E h => ?_) (fun cdv A' outer s H vs Q E hr h => ?_)
  · obtain ⟨d, many, rfl, _⟩ := h
    rfl
  obtain ⟨d, many, rfl, hD, h1, h8, kk⟩ := h
  have hu := hu_of hr
  refine ⟨_, (qs_cons (ps_set (i := 2) sc__law_wakes.nd rfl (Or.inl rfl) (pe_ix ix_L (pe_lst (pa_cons pe_int (pa_cons pe_int (pa_cons pe_int pa_nil)))) (q_call (ok__law_off T) (hr.mono (by decide)) rfl T.g__law_off T.k__law_off T.b__law_off pass0 (pa_cons (qv 0) (pa_cons pe_int pa_nil))) (fun _ _ => rfl)))
    (qs_cons (ps_set (i := 3) sc__law_wakes.nd rfl (Or.inl rfl) pe_int)
    (qs_cons (q_cut (q_if (q_cmp o_lt (qv 2) pe_int (nomark _)) (pss_one (ps_set (i := 3) sc__law_wakes.nd rfl (Or.inl rfl) (pe_ix ix_L (pe_lst (pa_cons pe_int (pa_cons pe_int (pa_cons (q_call (ok__law_off T) (hr.mono (by decide)) rfl T.g__law_off T.k__law_off T.b__law_off pass0 (pa_cons (qv 0) (pa_cons pe_int pa_nil))) pa_nil)))) (q_call (ok__law_off T) (hr.mono (by decide)) rfl T.g__law_off T.k__law_off T.b__law_off pass0 (pa_cons (qv 0) (pa_cons pe_int pa_nil))) (fun _ _ => rfl)))) pss_nil))
    (qs_cons (ps_set (i := 4) sc__law_wakes.nd rfl (Or.inl rfl) (pe_op o_add pe_int (q_call (ok__law_off T) (hr.mono (by decide)) rfl T.g__law_off T.k__law_off T.b__law_off pass0 (pa_cons (qv 0) (pa_cons pe_int pa_nil)))))
    (qs_cons (ps_set (i := 5) sc__law_wakes.nd rfl (Or.inl rfl) pe_dnewK)
    (qs_cons (q_for PassesOwn.never rfl (qi_list (q_call (ok__law_mixed T) (hr.mono (by decide)) rfl T.g__law_mixed T.k__law_mixed T.b__law_mixed pass0 (pa_cons (qv 0) (pa_cons (q_listRg rfl rfl T.m_list rfl T.m_range (qv 1)) pa_nil)))) (pg_name (i := 6) sc__law_wakes.nd rfl (Or.inl rfl)) (pss_one (q_if (q_cmp o_lt (q_call (ok__law_off T) (hr.mono (by decide)) rfl T.g__law_off T.k__law_off T.b__law_off pass0 (pa_cons (qv 0) (pa_cons pe_int pa_nil))) (qv 4) (nomark _)) (pss_one (q_dput hu (qv 5) (qv 6) (pe_op o_add (qv 3) (q_call (ok__law_off T) (hr.mono (by decide)) rfl T.g__law_off T.k__law_off T.b__law_off pass0 (pa_cons (qv 0) (pa_cons (qv 2) pa_nil)))) rfl)) pss_nil)))
    (pss_one (ps_ret (qv 5))))))))), ?_⟩
  dsimp! []
  refine ⟨by decide, fun p hp => pick_off hD hp (by decide) (by decide) (by decide) fun j H1 v hv k1 D1 => ?_⟩
  obtain ⟨most, rfl, m1, m2⟩ : ∃ n : Nat, v = .int n ∧ 1 ≤ n ∧ (n = 41 ∨ n ≤ 6) := by
    match j, hv with
    | 0, hv => exact ⟨1, (Option.some.inj hv).symm, by decide, by decide⟩
    | 1, hv => exact ⟨6, (Option.some.inj hv).symm, by decide, by decide⟩
    | 2, hv => exact ⟨41, (Option.some.inj hv).symm, by decide, by decide⟩
  dsimp! []
  refine ⟨fun σ H2 => ∃ late : Nat, (most < 41 → late ≤ 34) ∧ (¬ most < 41 → late = 0) ∧ σ = [some (.ref d), some (.int many), some (.int most), some (.int late), none, none, none] ∧ KeptD d H H2 ∧ DrawAt H2 d, ?_, ?_⟩
  · rintro σ H2 ⟨late, la1, la2, rfl, k2, D2⟩
    dsimp! []
    refine ⟨d, 3, rfl, D2, by decide, by decide, fun x H3 hx k3 D3 => ?_⟩
    dsimp! []
    intro f hf
    obtain ⟨od, hdo⟩ := D3.some
    have ndf : d ≠ f := ne_of_none hdo hf
    have k03 := k2.trans k3
    have hf0 : H f = none := k03.back ndf.symm hf
    have k4 : KeptD d H (upd H3 f (.dK [])) := k03.trans (KeptD.same (Same.new hf))
    have D4 := D3.put (o := .dK []) ndf
    have hf4 : (upd H3 f (.dK [])) f = some (.dK (wkv [])) := upd_same
    generalize upd H3 f (.dK []) = H4 at *
    dsimp! []
    refine ⟨⟨by omega, by omega⟩, fun r hr => ?_⟩
    have ndr : d ≠ r := by
      obtain ⟨o, e⟩ := D4.some
      exact ne_of_none e hr
    have nfr : f ≠ r := ne_of_none hf4 hr
    refine ⟨d, r, (List.range many).map fun (i : Nat) => (i : Int), rfl, D4.put ndr, ?_, by rw [List.length_map, List.length_range]; omega, fun mx ms H5 hmx k5 D5 hmx5 pm => ?_⟩
    · rw [upd_same, List.map_map]
      rfl
    have hmx0 : H mx = none := by
      have h1 : H4 mx = none := Same.back (Same.new hr) _ hmx
      exact k4.back (fun e => by
        obtain ⟨o, q⟩ := D4.some
        rw [← e, h1] at q
        cases q) h1
    have k05 : KeptD d H H5 := fun b o e n => k5 b o (by rw [upd_ne (ne_of_none (k4 b o e n) hr)]; exact k4 b o e n) n
    have hf5 : H5 f = some (.dK (wkv [])) := k5 f _ (by rw [upd_ne nfr]; exact hf4) ndf.symm
    have hlen := pm.length_eq
    rw [List.length_map, List.length_range] at hlen
    have small : ∀ m : Nat, m ≤ 100 → m < sizeLine := fun m h => by rw [sizeLine_eq]; omega
    have hin : ∀ z ∈ ms, ∃ i : Nat, i < many ∧ z = (i : Int) := fun z hz => by
      obtain ⟨i, hi, rfl⟩ := List.mem_map.mp (pm.mem_iff.mp hz)
      exact ⟨i, List.mem_range.mp hi, rfl⟩
    have hnd : ms.Nodup := pm.nodup_iff.mpr (List.Pairwise.map _ (fun a b n e => n (by omega)) List.nodup_range)
    simp! [hmx5]
    refine ⟨_, _, _, fun i σ H' => ∃ (wl : WL) (v6 : Option V), σ = [some (.ref d), some (.int many), some (.int most), some (.int late), some (.int (1 + x)), some (.ref f), v6] ∧ KeptD d H H' ∧ DrawAt H' d ∧ H' mx = some (.lst (ms.map V.int)) ∧ H' f = some (.dK (wkv wl)) ∧ WOk many wl ∧ wl.length ≤ i ∧ ∀ y ∈ wl, ((y.1 : Nat) : Int) ∈ ms.take i, walk_list (K := K) (a := mx) (xs := ms.map V.int), ?_, ?_, ?_, ?_⟩
    · exact ⟨[], none, rfl, k05, D5, hmx5, hf5, ⟨List.nodup_nil, fun y hy => by simp at hy⟩, Nat.le_refl _, fun y hy => by simp at hy⟩
    · rintro i σ H' _ ⟨_, _, _, _, _, h, _⟩
      exact SqL.of h
    · rintro i y σ H6 H7 hi ⟨wl, v6, rfl, k6, D6, hmx6, hf6, wok, hwl, hsub⟩ ⟨rfl, ey⟩
      rw [List.length_map] at hi
      rw [List.getElem?_map, List.getElem?_eq_getElem hi] at ey
      cases ey
      obtain ⟨num, hnum, enum⟩ := hin _ (List.getElem_mem hi)
      have htake : ms.take (i + 1) = ms.take i ++ [ms[i]] := by rw [List.take_succ, List.getElem?_eq_getElem hi]; rfl
      have fresh : ((num : Nat) : Int) ∉ ms.take i := by
        rw [← enum]
        have h2 : (ms.take (i + 1)).Nodup := List.Nodup.sublist (List.take_sublist _ _) hnd
        rw [htake, List.nodup_append] at h2
        intro hmem
        exact h2.2.2 _ hmem _ (by simp) rfl
      rw [enum]
      have up : ∀ y ∈ wl, ((y.1 : Nat) : Int) ∈ ms.take (i + 1) := fun y hy => by
        rw [htake]
        exact List.mem_append_left _ (hsub y hy)
      dsimp! []
      refine ⟨d, 4, rfl, D6, by decide, by decide, fun u H8 hu8 k8 D8 => ?_⟩
      simp! []
      refine ite2 (fun c => ?_) (fun c => ?_)
      · dsimp! []
        refine ⟨d, most, rfl, D8, m1, by omega, fun q H9 hq k9 D9 => ?_⟩
        have k89 := k8.trans k9
        have hf9 := k89 _ _ hf6 ndf.symm
        have hmx9 := k89 _ _ hmx6 (fun e => by
          obtain ⟨o, z⟩ := hD.some
          rw [← e, hmx0] at z
          cases z)
        have nmf : mx ≠ f := ne_of hmx9 hf9 (by simp)
        have ep : putK (wkv wl) (Sum.inl (num : Int)) (V.int ((late : Int) + q)) = wkv (wl ++ [(num, late + q)]) := by
          unfold putK
          rw [if_neg]
          · unfold wkv
            rw [List.map_append]
            simp
          · intro h
            rw [List.any_eq_true] at h
            obtain ⟨kv, hkv, e⟩ := h
            unfold wkv at hkv
            obtain ⟨y, hy, rfl⟩ := List.mem_map.mp hkv
            have e1 : (y.1 : Int) = (num : Int) := by simpa using e
            exact fresh (by rw [← e1]; exact hsub y hy)
        simp! [hf9, ep]
        refine ⟨by unfold wkv; rw [List.length_map]; exact small _ (by omega), wl ++ [(num, late + q)], _, rfl, fun b o e n => ?_, D9.put ndf, by rw [upd_ne nmf]; exact hmx9, rfl, ⟨?_, fun y hy => ?_⟩, by rw [List.length_append]; simp; omega, fun y hy => ?_⟩
        · rw [upd_ne (ne_of_none e hf0)]
          exact k89 b o (k6 b o e n) n
        · rw [List.map_append, List.nodup_append]
          refine ⟨wok.nd, by simp, fun y hy z hz => ?_⟩
          rintro rfl
          obtain ⟨u, hu, rfl⟩ := List.mem_map.mp hy
          have : u.1 = num := by simpa using hz
          exact fresh (by rw [← this]; exact hsub u hu)
        · rcases List.mem_append.mp hy with h | h
          · exact wok.lt y h
          · have : y = (num, late + q) := by simpa using h
            subst this
            refine ⟨hnum, ?_⟩
            show late + q ≤ 40
            by_cases c41 : most < 41
            · have := la1 c41
              omega
            · have := la2 c41
              omega
        · rcases List.mem_append.mp hy with h | h
          · exact up y h
          · have : y = (num, late + q) := by simpa using h
            subst this
            show ((num : Nat) : Int) ∈ ms.take (i + 1)
            rw [htake, ← enum]
            exact List.mem_append_right _ (List.mem_singleton.mpr rfl)
      · dsimp! []
        have hmx8 := k8 _ _ hmx6 (fun e => by
          obtain ⟨o, z⟩ := hD.some
          rw [← e, hmx0] at z
          cases z)
        exact ⟨wl, _, rfl, k6.trans k8, D8, hmx8, k8 _ _ hf6 ndf.symm, wok, by omega, up⟩
    · rintro σ H6 ⟨wl, v6, rfl, k6, D6, hmx6, hf6, wok, hwl, hsub⟩
      dsimp! []
      exact kk f wl H6 hf0 k6 D6 hf6 wok
  · refine ite2 (fun c => ?_) (fun c => ?_)
    · dsimp! []
      refine ⟨d, 35, rfl, D1, by decide, by decide, fun z H2 hz k2 D2 => ⟨by decide, fun p2 hp2 => pick_off (n := 3) D2 hp2 (by decide) (by decide) (Nat.le_refl _) fun j H3 v hv k3 D3 => ?_⟩⟩
      have lt : ∃ late : Nat, late ≤ 34 ∧ v = .int late := by
        match j, hv with
        | 0, hv => exact ⟨0, by decide, (Option.some.inj hv).symm⟩
        | 1, hv => exact ⟨0, by decide, (Option.some.inj hv).symm⟩
        | 2, hv => exact ⟨z, by omega, (Option.some.inj hv).symm⟩
      obtain ⟨late, h34, rfl⟩ := lt
      exact ⟨late, fun _ => h34, fun n => (n (by omega)).elim, rfl, (k1.trans k2).trans k3, D3⟩
    · dsimp! []
      exact ⟨0, fun _ => Nat.zero_le _, fun _ => rfl, rfl, k1, D1⟩
end
end OA

namespace OA
open PySem L2
local macro_rules
  | `(tactic| simp! [$a,*]) => `(tactic| simp -implicitDefEqProofs only [wNeD0, wRep, tDNewK, vDc, wSortDI, dkR_e, dkR_f, e_cut, wSetL, vLstRg, wLstD, e_lock, vVals, gSub, tCKw, frzO_e, viItems, viKeys, vRev, e_while, e_for, e_asgG, gName, vgTup, vgCons_e, vgNil_e, viList, viTup, viStr, viR1, viEnum, vLc, tYes, wipe, e_seq, e_next, e_drop, e_ret, e_retN, e_sfld, e_augI, e_aug, e_dput, vIf, vTest, wInT, vVar, vFld, tC, tOp, tUn, wI0, wIC, rEq, rNe, scal, wAddS, wMulS, wCat, wNeg, wIxL, wIxT, wIxS, vPart, tNoPart, tSl, wSlL, tCB, tCons, tNil, len_s, wTupL, wLstL, wAbs, wIntB, wMin2, wMax2, vAnd, vOr, vNot, vChain, vMeth, vCall, vMake, vLM0, vLM, isLst, wAppend, wPopAt, wInsert0, vStar, vDGet, vDIn, vDNotIn, tTup, tLst, tIf, tAnd, tOr, tNot, refR_e, intR_e, blR_e, strR_e, optR_e, keyR_i, keyR_s, insO_e, lstO_e, tupO_e, dkO_e, one1_e, two2_e, len_r, lenO_l, lenO_t, lenO_d, L2.start, List.map, List.replicate, List.length_cons, List.length_nil, List.cons_append, List.nil_append, List.append_nil, List.getElem?_cons_zero, List.getElem?_cons_succ, List.set_cons_zero, List.set_cons_succ, true_and, and_true, cx_K, cx_prog, cx_w, blkK, Int.toNat_natCast, upd_same, upd_upd, if_true, if_false, decide_eq_true_eq, reduceCtorEq, reduceIte, Bool.false_eq_true, decide_true, decide_false, Bool.true_and, Bool.false_and, Bool.and_true, Bool.and_false, Bool.not_true, Bool.not_false, V.int.injEq, V.str.injEq, V.bl.injEq, putF_nil, Nat.reduceAdd, Nat.reduceSub, Nat.reduceLT, Int.reduceEq, Int.reduceLT, Int.reduceLE, Int.reduceAdd, Int.reduceSub, Int.cast_ofNat_Int, wIsi, tyR_e, tyO_l, tyO_t, tyO_d, tyN_n, tyN_b, tyN_i, tyN_s, tyN_r, kit_NoneType_bool, kit_NoneType_int, kit_NoneType_str, kit_NoneType_list, kit_NoneType_tuple, kit_NoneType_dict, kit_bool_bool, kit_bool_int, kit_bool_str, kit_bool_list, kit_bool_tuple, kit_bool_dict, kit_int_bool, kit_int_int, kit_int_str, kit_int_list, kit_int_tuple, kit_int_dict, kit_str_bool, kit_str_int, kit_str_str, kit_str_list, kit_str_tuple, kit_str_dict, kit_list_bool, kit_list_int, kit_list_str, kit_list_list, kit_list_tuple, kit_list_dict, kit_tuple_bool, kit_tuple_int, kit_tuple_str, kit_tuple_list, kit_tuple_tuple, kit_tuple_dict, kit_dict_bool, kit_dict_int, kit_dict_str, kit_dict_list, kit_dict_tuple, kit_dict_dict, $a,*])
  | `(tactic| dsimp! [$a,*]) => `(tactic| ((try refine Later.mk ?_); simp! [$a,*]; repeat (refine Later.mk ?_; simp! [$a,*])))
def flatE : V → Bool
  | .non => true
  | .bl _ => true
  | .int _ => true
  | .str _ => true
  | _ => false
def Alike (H : Hp) : Nat → V → V → Prop
  | 0, x, y => x = y ∧ flatE x = true
  | n + 1, x, y => (x = y ∧ flatE x = true) ∨ (∃ a b xs ys, x = .ref a ∧ y = .ref b ∧ H a = some (.tup xs) ∧ H b = some (.tup ys) ∧ xs.length = ys.length ∧ ys.length ≤ 10000 ∧ ∀ (k : Nat) (u v : V), xs[k]? = some u → ys[k]? = some v → Alike H n u v) ∨
    (∃ a b xs ys, x = .ref a ∧ y = .ref b ∧ H a = some (.lst xs) ∧ H b = some (.lst ys) ∧ xs.length = ys.length ∧ ys.length ≤ 10000 ∧ ∀ (k : Nat) (u v : V), xs[k]? = some u → ys[k]? = some v → Alike H n u v) ∨
    ∃ a b kvs kws, x = .ref a ∧ y = .ref b ∧ H a = some (.dK kvs) ∧ H b = some (.dK kws) ∧ kvs.length = kws.length ∧ kws.length ≤ 10000 ∧ a ≠ b ∧ ∀ kw ∈ kws, valV kvs kw.1 = some kw.2 ∧ valV kws kw.1 = some kw.2 ∧ flatE kw.2 = true
theorem Alike.same {H H' : Hp} (s : Same H H') : ∀ (n : Nat) (x y : V), Alike H n x y → Alike H' n x y
  | 0, x, y, h => h
  | n + 1, x, y, h => by
    rcases h with h | ⟨a, b, xs, ys, e1, e2, h1, h2, h3, h4, h5⟩ | ⟨a, b, xs, ys, e1, e2, h1, h2, h3, h4, h5⟩ | ⟨a, b, xs, ys, e1, e2, h1, h2, h3, h4, h6, h5⟩
    · exact .inl h
    · exact .inr (.inl ⟨a, b, xs, ys, e1, e2, s _ _ h1, s _ _ h2, h3, h4, fun k u v q1 q2 => Alike.same s n u v (h5 k u v q1 q2)⟩)
    · exact .inr (.inr (.inl ⟨a, b, xs, ys, e1, e2, s _ _ h1, s _ _ h2, h3, h4, fun k u v q1 q2 => Alike.same s n u v (h5 k u v q1 q2)⟩))
    · refine .inr (.inr (.inr ⟨a, b, xs, ys, e1, e2, s _ _ h1, s _ _ h2, h3, h4, h6, h5⟩))
theorem Alike.flat {H : Hp} {x : V} (h : flatE x = true) : ∀ n, Alike H n x x
  | 0 => ⟨rfl, h⟩
  | n + 1 => .inl ⟨rfl, h⟩
def trues (i : Nat) : List V := (List.replicate i true).map V.bl
theorem trues_succ (i : Nat) : trues i ++ [V.bl true] = trues (i + 1) := by
  unfold trues
  rw [List.replicate_succ', List.map_append]
  rfl
theorem trues_len (i : Nat) : (trues i).length = i := by
  unfold trues
  rw [List.length_map, List.length_replicate]
section
variable {P : Program} {w : World} {K : PySem.W.Frag} {mg : Str → Option Value} {base : Heap} {A : Ad}
def spAlike (n : Nat) : Sp := fun vs H Q _ => ∃ (x y : V), vs = [x, y] ∧ Alike H n x y ∧ ∀ H', Same H H' → Q (.bl true) H'
theorem sc__law_alike : FnScope ["_law_found", "_law_due", "_law_name", "_law_k"] ["_law_found", "_law_due"] (defScope s__law_alike) := ⟨rfl, rfl, rfl, by decide +kernel, rfl, by decide +kernel, by decide +kernel⟩
theorem alike_0 (T : Txt K mg base A) : FnOk P w K mg base CX0 1 A._law_alike A.d__law_alike ["_law_found", "_law_due"] (spAlike 0) := by
  refine T.F__law_alike.ok sc__law_alike (fun vs H Q E h => ?_) (fun cdv A' outer s H vs Q E hr h => ?_)
  · obtain ⟨x, y, rfl, _⟩ := h
    rfl
  obtain ⟨x, y, rfl, ⟨rfl, fl⟩, kk⟩ := h
  have hu := hu_of hr
  refine ⟨_, (qs_cons (q_if (q_cmp op_isN (qv 1) pe_non (nomark _)) (pss_one (ps_ret (pe_cmpR op_isN (qv 0) pe_non (nomark _)))) pss_nil)
    (qs_cons (q_if (q_val (pe_callB c_isi (by rfl) T.m_isinstance (by decide +kernel) (pa_cons (qv 1) (pa_cons (pe_bltn (v := .ty "bool") (by rfl) T.m_bool (by decide +kernel) rfl) pa_nil)))) (pss_one (ps_ret (q_and (pe_callB c_isi (by rfl) T.m_isinstance (by decide +kernel) (pa_cons (qv 0) (pa_cons (pe_bltn (v := .ty "bool") (by rfl) T.m_bool (by decide +kernel) rfl) pa_nil))) (pe_one (pe_cmpR op_eq (qv 0) (qv 1) (nomark _)))))) pss_nil)
    (qs_cons (q_if (q_val (pe_callB c_isi (by rfl) T.m_isinstance (by decide +kernel) (pa_cons (qv 1) (pa_cons (pe_bltn (v := .ty "int") (by rfl) T.m_int (by decide +kernel) rfl) pa_nil)))) (pss_one (ps_ret (q_and (pe_callB c_isi (by rfl) T.m_isinstance (by decide +kernel) (pa_cons (qv 0) (pa_cons (pe_bltn (v := .ty "int") (by rfl) T.m_int (by decide +kernel) rfl) pa_nil))) (q_and (q_not (pe_callB c_isi (by rfl) T.m_isinstance (by decide +kernel) (pa_cons (qv 0) (pa_cons (pe_bltn (v := .ty "bool") (by rfl) T.m_bool (by decide +kernel) rfl) pa_nil)))) (pe_one (pe_cmpR op_eq (qv 0) (qv 1) (nomark _))))))) pss_nil)
    (qs_cons (q_if (q_val (pe_callB c_isi (by rfl) T.m_isinstance (by decide +kernel) (pa_cons (qv 1) (pa_cons (pe_bltn (v := .ty "str") (by rfl) T.m_str (by decide +kernel) rfl) pa_nil)))) (pss_one (ps_ret (q_and (pe_callB c_isi (by rfl) T.m_isinstance (by decide +kernel) (pa_cons (qv 0) (pa_cons (pe_bltn (v := .ty "str") (by rfl) T.m_str (by decide +kernel) rfl) pa_nil))) (pe_one (pe_cmpR op_eq (qv 0) (qv 1) (nomark _)))))) pss_nil)
    (qs_cons ps_never
    (qs_cons (q_if (PW.pt (pw_or (q_cmp op_ne (pe_callB c_isi (by rfl) T.m_isinstance (by decide +kernel) (pa_cons (qv 1) (pa_cons (pe_bltn (v := .ty "tuple") (by rfl) T.m_tuple (by decide +kernel) rfl) pa_nil))) (pe_callB c_isi (by rfl) T.m_isinstance (by decide +kernel) (pa_cons (qv 0) (pa_cons (pe_bltn (v := .ty "tuple") (by rfl) T.m_tuple (by decide +kernel) rfl) pa_nil))) (nomark _)) (pw_or1 (q_cmp op_ne (pe_callB c_isi (by rfl) T.m_isinstance (by decide +kernel) (pa_cons (qv 1) (pa_cons (pe_bltn (v := .ty "list") (by rfl) T.m_list (by decide +kernel) rfl) pa_nil))) (pe_callB c_isi (by rfl) T.m_isinstance (by decide +kernel) (pa_cons (qv 0) (pa_cons (pe_bltn (v := .ty "list") (by rfl) T.m_list (by decide +kernel) rfl) pa_nil))) (nomark _))))) (pss_one (ps_ret pe_bl)) pss_nil)
    (qs_cons (q_if (q_cmp op_ne (pe_callB c_len (by rfl) T.m_len (by decide +kernel) (pa_cons (qv 0) pa_nil)) (pe_callB c_len (by rfl) T.m_len (by decide +kernel) (pa_cons (qv 1) pa_nil)) (nomark _)) (pss_one (ps_ret pe_bl)) pss_nil)
    (pss_one ps_never)))))))), ?_⟩
  cases x with
  | non =>
    dsimp! []
    exact kk _ (fun _ _ e => e)
  | bl b =>
    dsimp! []
    exact kk _ (fun _ _ e => e)
  | int b =>
    dsimp! []
    exact kk _ (fun _ _ e => e)
  | str b =>
    dsimp! []
    exact kk _ (fun _ _ e => e)
  | _ => cases fl
theorem alike_s (T : Txt K mg base A) (n : Nat) (G : FnOk P w K mg base CX0 (n + 1) A._law_alike A.d__law_alike ["_law_found", "_law_due"] (spAlike n)) : FnOk P w K mg base CX0 (n + 2) A._law_alike A.d__law_alike ["_law_found", "_law_due"] (spAlike (n + 1)) := by
  refine T.F__law_alike.ok sc__law_alike (fun vs H Q E h => ?_) (fun cdv A' outer s H vs Q E hr h => ?_)
  · obtain ⟨x, y, rfl, _⟩ := h
    rfl
  obtain ⟨x, y, rfl, al, kk⟩ := h
  have hu := hu_of hr
  have allT : ∀ i : Nat, (List.replicate i true).all id = true := fun i => by
    induction i with
    | zero => rfl
    | succ i ih => rw [List.replicate_succ, List.all_cons, ih]; rfl
  have small : ∀ m : Nat, m ≤ 10000 → m < sizeLine := fun m h => by rw [sizeLine_eq]; omega
  rcases al with ⟨rfl, fl⟩ | ⟨a, b, xs, ys, rfl, rfl, ha, hb, hl, h1, hk⟩ | ⟨a, b, xs, ys, rfl, rfl, ha, hb, hl, h1, hk⟩ | ⟨a, b, kvs, kws, rfl, rfl, ha, hb, hl, h1, nab, hk⟩
  · refine ⟨_, (qs_cons (q_if (q_cmp op_isN (qv 1) pe_non (nomark _)) (pss_one (ps_ret (pe_cmpR op_isN (qv 0) pe_non (nomark _)))) pss_nil)
    (qs_cons (q_if (q_val (pe_callB c_isi (by rfl) T.m_isinstance (by decide +kernel) (pa_cons (qv 1) (pa_cons (pe_bltn (v := .ty "bool") (by rfl) T.m_bool (by decide +kernel) rfl) pa_nil)))) (pss_one (ps_ret (q_and (pe_callB c_isi (by rfl) T.m_isinstance (by decide +kernel) (pa_cons (qv 0) (pa_cons (pe_bltn (v := .ty "bool") (by rfl) T.m_bool (by decide +kernel) rfl) pa_nil))) (pe_one (pe_cmpR op_eq (qv 0) (qv 1) (nomark _)))))) pss_nil)
    (qs_cons (q_if (q_val (pe_callB c_isi (by rfl) T.m_isinstance (by decide +kernel) (pa_cons (qv 1) (pa_cons (pe_bltn (v := .ty "int") (by rfl) T.m_int (by decide +kernel) rfl) pa_nil)))) (pss_one (ps_ret (q_and (pe_callB c_isi (by rfl) T.m_isinstance (by decide +kernel) (pa_cons (qv 0) (pa_cons (pe_bltn (v := .ty "int") (by rfl) T.m_int (by decide +kernel) rfl) pa_nil))) (q_and (q_not (pe_callB c_isi (by rfl) T.m_isinstance (by decide +kernel) (pa_cons (qv 0) (pa_cons (pe_bltn (v := .ty "bool") (by rfl) T.m_bool (by decide +kernel) rfl) pa_nil)))) (pe_one (pe_cmpR op_eq (qv 0) (qv 1) (nomark _))))))) pss_nil)
    (qs_cons (q_if (q_val (pe_callB c_isi (by rfl) T.m_isinstance (by decide +kernel) (pa_cons (qv 1) (pa_cons (pe_bltn (v := .ty "str") (by rfl) T.m_str (by decide +kernel) rfl) pa_nil)))) (pss_one (ps_ret (q_and (pe_callB c_isi (by rfl) T.m_isinstance (by decide +kernel) (pa_cons (qv 0) (pa_cons (pe_bltn (v := .ty "str") (by rfl) T.m_str (by decide +kernel) rfl) pa_nil))) (pe_one (pe_cmpR op_eq (qv 0) (qv 1) (nomark _)))))) pss_nil)
    (qs_cons (q_if (q_val (pe_callB c_isi (by rfl) T.m_isinstance (by decide +kernel) (pa_cons (qv 1) (pa_cons (pe_bltn (v := .ty "dict") (by rfl) T.m_dict (by decide +kernel) rfl) pa_nil)))) (qs_cons (q_if (PW.pt (pw_or (pt_not (q_val (pe_callB c_isi (by rfl) T.m_isinstance (by decide +kernel) (pa_cons (qv 0) (pa_cons (pe_bltn (v := .ty "dict") (by rfl) T.m_dict (by decide +kernel) rfl) pa_nil))))) (pw_or1 (q_cmp op_ne (pe_callB c_len (by rfl) T.m_len (by decide +kernel) (pa_cons (qv 0) pa_nil)) (pe_callB c_len (by rfl) T.m_len (by decide +kernel) (pa_cons (qv 1) pa_nil)) (nomark _))))) (pss_one (ps_ret pe_bl)) pss_nil)
    (pss_one (ps_ret (pe_callB (cr_all rfl) (by rfl) T.m_all (by decide +kernel) (pa_cons (pe_lock (q_lc (own := [("_law_name", 2)]) (g := gName 2) (tt := tYes) rfl sc__law_alike.nd (qi_keys (qv 1)) (blkOk_by (own := [("_law_name", 2)]) (N := ["_law_found", "_law_due", "_law_name", "_law_k"]) (sc := defScope s__law_alike) (by decide +kernel)) (fun _ _ _ _ _ => (pg_name (i := 2) sc__law_alike.nd rfl (Or.inl rfl))) (fun _ _ _ _ _ => pts_nil) (fun _ _ _ _ _ => (q_and (q_din hu (qv 2) (qv 0)) (pe_one (q_call G hr rfl T.g__law_alike T.k__law_alike T.b__law_alike pass0 (pa_cons (q_dget hu (qv 0) (qv 2) (fun _ _ => rfl)) (pa_cons (q_dget hu (qv 1) (qv 2) (fun _ _ => rfl)) pa_nil)))))))) pa_nil))))) pss_nil)
    (qs_cons (q_if (PW.pt (pw_or (q_cmp op_ne (pe_callB c_isi (by rfl) T.m_isinstance (by decide +kernel) (pa_cons (qv 1) (pa_cons (pe_bltn (v := .ty "tuple") (by rfl) T.m_tuple (by decide +kernel) rfl) pa_nil))) (pe_callB c_isi (by rfl) T.m_isinstance (by decide +kernel) (pa_cons (qv 0) (pa_cons (pe_bltn (v := .ty "tuple") (by rfl) T.m_tuple (by decide +kernel) rfl) pa_nil))) (nomark _)) (pw_or1 (q_cmp op_ne (pe_callB c_isi (by rfl) T.m_isinstance (by decide +kernel) (pa_cons (qv 1) (pa_cons (pe_bltn (v := .ty "list") (by rfl) T.m_list (by decide +kernel) rfl) pa_nil))) (pe_callB c_isi (by rfl) T.m_isinstance (by decide +kernel) (pa_cons (qv 0) (pa_cons (pe_bltn (v := .ty "list") (by rfl) T.m_list (by decide +kernel) rfl) pa_nil))) (nomark _))))) (pss_one (ps_ret pe_bl)) pss_nil)
    (qs_cons (q_if (q_cmp op_ne (pe_callB c_len (by rfl) T.m_len (by decide +kernel) (pa_cons (qv 0) pa_nil)) (pe_callB c_len (by rfl) T.m_len (by decide +kernel) (pa_cons (qv 1) pa_nil)) (nomark _)) (pss_one (ps_ret pe_bl)) pss_nil)
    (pss_one (ps_ret (pe_callB (cr_all rfl) (by rfl) T.m_all (by decide +kernel) (pa_cons (q_lc (own := [("_law_k", 3)]) (g := gName 3) (tt := tYes) rfl sc__law_alike.nd (qi_r1 (by rfl) T.m_range (pa_cons (pe_callB c_len (by rfl) T.m_len (by decide +kernel) (pa_cons (qv 1) pa_nil)) pa_nil)) (blkOk_by (own := [("_law_k", 3)]) (N := ["_law_found", "_law_due", "_law_name", "_law_k"]) (sc := defScope s__law_alike) (by decide +kernel)) (fun _ _ _ _ _ => (pg_name (i := 3) sc__law_alike.nd rfl (Or.inl rfl))) (fun _ _ _ _ _ => pts_nil) (fun _ _ _ _ _ => (q_call G hr rfl T.g__law_alike T.k__law_alike T.b__law_alike pass0 (pa_cons (pe_ix ix_L (qv 0) (qv 3) (fun _ _ => rfl)) (pa_cons (pe_ix ix_L (qv 1) (qv 3) (fun _ _ => rfl)) pa_nil))))) pa_nil))))))))))), ?_⟩
    cases x with
    | non =>
      dsimp! []
      exact kk _ (fun _ _ e => e)
    | bl b =>
      dsimp! []
      exact kk _ (fun _ _ e => e)
    | int b =>
      dsimp! []
      exact kk _ (fun _ _ e => e)
    | str b =>
      dsimp! []
      exact kk _ (fun _ _ e => e)
    | _ => cases fl
  · refine ⟨_, (qs_cons (q_if (q_cmp op_isN (qv 1) pe_non (nomark _)) (pss_one (ps_ret (pe_cmpR op_isN (qv 0) pe_non (nomark _)))) pss_nil)
    (qs_cons (q_if (q_val (pe_callB c_isi (by rfl) T.m_isinstance (by decide +kernel) (pa_cons (qv 1) (pa_cons (pe_bltn (v := .ty "bool") (by rfl) T.m_bool (by decide +kernel) rfl) pa_nil)))) (pss_one (ps_ret (q_and (pe_callB c_isi (by rfl) T.m_isinstance (by decide +kernel) (pa_cons (qv 0) (pa_cons (pe_bltn (v := .ty "bool") (by rfl) T.m_bool (by decide +kernel) rfl) pa_nil))) (pe_one (pe_cmpR op_eq (qv 0) (qv 1) (nomark _)))))) pss_nil)
    (qs_cons (q_if (q_val (pe_callB c_isi (by rfl) T.m_isinstance (by decide +kernel) (pa_cons (qv 1) (pa_cons (pe_bltn (v := .ty "int") (by rfl) T.m_int (by decide +kernel) rfl) pa_nil)))) (pss_one (ps_ret (q_and (pe_callB c_isi (by rfl) T.m_isinstance (by decide +kernel) (pa_cons (qv 0) (pa_cons (pe_bltn (v := .ty "int") (by rfl) T.m_int (by decide +kernel) rfl) pa_nil))) (q_and (q_not (pe_callB c_isi (by rfl) T.m_isinstance (by decide +kernel) (pa_cons (qv 0) (pa_cons (pe_bltn (v := .ty "bool") (by rfl) T.m_bool (by decide +kernel) rfl) pa_nil)))) (pe_one (pe_cmpR op_eq (qv 0) (qv 1) (nomark _))))))) pss_nil)
    (qs_cons (q_if (q_val (pe_callB c_isi (by rfl) T.m_isinstance (by decide +kernel) (pa_cons (qv 1) (pa_cons (pe_bltn (v := .ty "str") (by rfl) T.m_str (by decide +kernel) rfl) pa_nil)))) (pss_one (ps_ret (q_and (pe_callB c_isi (by rfl) T.m_isinstance (by decide +kernel) (pa_cons (qv 0) (pa_cons (pe_bltn (v := .ty "str") (by rfl) T.m_str (by decide +kernel) rfl) pa_nil))) (pe_one (pe_cmpR op_eq (qv 0) (qv 1) (nomark _)))))) pss_nil)
    (qs_cons (q_if (q_val (pe_callB c_isi (by rfl) T.m_isinstance (by decide +kernel) (pa_cons (qv 1) (pa_cons (pe_bltn (v := .ty "dict") (by rfl) T.m_dict (by decide +kernel) rfl) pa_nil)))) (qs_cons (q_if (PW.pt (pw_or (pt_not (q_val (pe_callB c_isi (by rfl) T.m_isinstance (by decide +kernel) (pa_cons (qv 0) (pa_cons (pe_bltn (v := .ty "dict") (by rfl) T.m_dict (by decide +kernel) rfl) pa_nil))))) (pw_or1 (q_cmp op_ne (pe_callB c_len (by rfl) T.m_len (by decide +kernel) (pa_cons (qv 0) pa_nil)) (pe_callB c_len (by rfl) T.m_len (by decide +kernel) (pa_cons (qv 1) pa_nil)) (nomark _))))) (pss_one (ps_ret pe_bl)) pss_nil)
    (pss_one (ps_ret (pe_callB (cr_all rfl) (by rfl) T.m_all (by decide +kernel) (pa_cons (pe_lock (q_lc (own := [("_law_name", 2)]) (g := gName 2) (tt := tYes) rfl sc__law_alike.nd (qi_keys (qv 1)) (blkOk_by (own := [("_law_name", 2)]) (N := ["_law_found", "_law_due", "_law_name", "_law_k"]) (sc := defScope s__law_alike) (by decide +kernel)) (fun _ _ _ _ _ => (pg_name (i := 2) sc__law_alike.nd rfl (Or.inl rfl))) (fun _ _ _ _ _ => pts_nil) (fun _ _ _ _ _ => (q_and (q_din hu (qv 2) (qv 0)) (pe_one (q_call G hr rfl T.g__law_alike T.k__law_alike T.b__law_alike pass0 (pa_cons (q_dget hu (qv 0) (qv 2) (fun _ _ => rfl)) (pa_cons (q_dget hu (qv 1) (qv 2) (fun _ _ => rfl)) pa_nil)))))))) pa_nil))))) pss_nil)
    (qs_cons (q_if (PW.pt (pw_or (q_cmp op_ne (pe_callB c_isi (by rfl) T.m_isinstance (by decide +kernel) (pa_cons (qv 1) (pa_cons (pe_bltn (v := .ty "tuple") (by rfl) T.m_tuple (by decide +kernel) rfl) pa_nil))) (pe_callB c_isi (by rfl) T.m_isinstance (by decide +kernel) (pa_cons (qv 0) (pa_cons (pe_bltn (v := .ty "tuple") (by rfl) T.m_tuple (by decide +kernel) rfl) pa_nil))) (nomark _)) (pw_or1 (q_cmp op_ne (pe_callB c_isi (by rfl) T.m_isinstance (by decide +kernel) (pa_cons (qv 1) (pa_cons (pe_bltn (v := .ty "list") (by rfl) T.m_list (by decide +kernel) rfl) pa_nil))) (pe_callB c_isi (by rfl) T.m_isinstance (by decide +kernel) (pa_cons (qv 0) (pa_cons (pe_bltn (v := .ty "list") (by rfl) T.m_list (by decide +kernel) rfl) pa_nil))) (nomark _))))) (pss_one (ps_ret pe_bl)) pss_nil)
    (qs_cons (q_if (q_cmp op_ne (pe_callB c_len (by rfl) T.m_len (by decide +kernel) (pa_cons (qv 0) pa_nil)) (pe_callB c_len (by rfl) T.m_len (by decide +kernel) (pa_cons (qv 1) pa_nil)) (nomark _)) (pss_one (ps_ret pe_bl)) pss_nil)
    (pss_one (ps_ret (pe_callB (cr_all rfl) (by rfl) T.m_all (by decide +kernel) (pa_cons (q_lc (own := [("_law_k", 3)]) (g := gName 3) (tt := tYes) rfl sc__law_alike.nd (qi_r1 (by rfl) T.m_range (pa_cons (pe_callB c_len (by rfl) T.m_len (by decide +kernel) (pa_cons (qv 1) pa_nil)) pa_nil)) (blkOk_by (own := [("_law_k", 3)]) (N := ["_law_found", "_law_due", "_law_name", "_law_k"]) (sc := defScope s__law_alike) (by decide +kernel)) (fun _ _ _ _ _ => (pg_name (i := 3) sc__law_alike.nd rfl (Or.inl rfl))) (fun _ _ _ _ _ => pts_nil) (fun _ _ _ _ _ => (q_call G hr rfl T.g__law_alike T.k__law_alike T.b__law_alike pass0 (pa_cons (pe_ix ix_T (qv 0) (qv 3) (fun _ _ => rfl)) (pa_cons (pe_ix ix_T (qv 1) (qv 3) (fun _ _ => rfl)) pa_nil))))) pa_nil))))))))))), ?_⟩
    dsimp! [ha, hb, hl, eq_self]
    refine ⟨⟨by omega, by omega⟩, fun D hD => ⟨_, _, _, fun i H1 => H1 D = some (.lst (trues i)) ∧ Same H H1, walk_range (lo := 0) (n := ys.length), ⟨upd_same, Same.new hD⟩, fun _ _ _ _ => True.intro, ?_, ?_⟩⟩
    · rintro i z H1 H2 hi ⟨hD1, s1⟩ ⟨rfl, rfl⟩
      have e0 : (0 : Int) + (i : Nat) = (i : Nat) := Int.zero_add _
      obtain ⟨v, hv⟩ : ∃ v, ys[i]? = some v := ⟨_, List.getElem?_eq_getElem hi⟩
      obtain ⟨u, hu1⟩ : ∃ u, xs[i]? = some u := ⟨_, List.getElem?_eq_getElem (by omega)⟩
      have ha1 := s1 _ _ ha
      have hb1 := s1 _ _ hb
      simp! [e0, ha1, hb1, atI_nat hv, atI_nat hu1]
      refine ⟨u, v, rfl, Alike.same s1 n u v (hk i u v hu1 hv), fun H3 s3 => ?_⟩
      have hD3 := s3 _ _ hD1
      simp! [hD3]
      refine ⟨by rw [trues_len]; exact small _ (by omega), by rw [trues_succ], fun b' o e => ?_⟩
      rw [upd_ne (ne_of_none e hD)]
      exact s3 _ _ (s1 _ _ e)
    · rintro H1 ⟨hD1, s1⟩
      refine ⟨D, List.replicate ys.length true, rfl, SqL.of hD1, ?_⟩
      rw [allT]
      exact kk _ s1
  · refine ⟨_, (qs_cons (q_if (q_cmp op_isN (qv 1) pe_non (nomark _)) (pss_one (ps_ret (pe_cmpR op_isN (qv 0) pe_non (nomark _)))) pss_nil)
    (qs_cons (q_if (q_val (pe_callB c_isi (by rfl) T.m_isinstance (by decide +kernel) (pa_cons (qv 1) (pa_cons (pe_bltn (v := .ty "bool") (by rfl) T.m_bool (by decide +kernel) rfl) pa_nil)))) (pss_one (ps_ret (q_and (pe_callB c_isi (by rfl) T.m_isinstance (by decide +kernel) (pa_cons (qv 0) (pa_cons (pe_bltn (v := .ty "bool") (by rfl) T.m_bool (by decide +kernel) rfl) pa_nil))) (pe_one (pe_cmpR op_eq (qv 0) (qv 1) (nomark _)))))) pss_nil)
    (qs_cons (q_if (q_val (pe_callB c_isi (by rfl) T.m_isinstance (by decide +kernel) (pa_cons (qv 1) (pa_cons (pe_bltn (v := .ty "int") (by rfl) T.m_int (by decide +kernel) rfl) pa_nil)))) (pss_one (ps_ret (q_and (pe_callB c_isi (by rfl) T.m_isinstance (by decide +kernel) (pa_cons (qv 0) (pa_cons (pe_bltn (v := .ty "int") (by rfl) T.m_int (by decide +kernel) rfl) pa_nil))) (q_and (q_not (pe_callB c_isi (by rfl) T.m_isinstance (by decide +kernel) (pa_cons (qv 0) (pa_cons (pe_bltn (v := .ty "bool") (by rfl) T.m_bool (by decide +kernel) rfl) pa_nil)))) (pe_one (pe_cmpR op_eq (qv 0) (qv 1) (nomark _))))))) pss_nil)
    (qs_cons (q_if (q_val (pe_callB c_isi (by rfl) T.m_isinstance (by decide +kernel) (pa_cons (qv 1) (pa_cons (pe_bltn (v := .ty "str") (by rfl) T.m_str (by decide +kernel) rfl) pa_nil)))) (pss_one (ps_ret (q_and (pe_callB c_isi (by rfl) T.m_isinstance (by decide +kernel) (pa_cons (qv 0) (pa_cons (pe_bltn (v := .ty "str") (by rfl) T.m_str (by decide +kernel) rfl) pa_nil))) (pe_one (pe_cmpR op_eq (qv 0) (qv 1) (nomark _)))))) pss_nil)
    (qs_cons (q_if (q_val (pe_callB c_isi (by rfl) T.m_isinstance (by decide +kernel) (pa_cons (qv 1) (pa_cons (pe_bltn (v := .ty "dict") (by rfl) T.m_dict (by decide +kernel) rfl) pa_nil)))) (qs_cons (q_if (PW.pt (pw_or (pt_not (q_val (pe_callB c_isi (by rfl) T.m_isinstance (by decide +kernel) (pa_cons (qv 0) (pa_cons (pe_bltn (v := .ty "dict") (by rfl) T.m_dict (by decide +kernel) rfl) pa_nil))))) (pw_or1 (q_cmp op_ne (pe_callB c_len (by rfl) T.m_len (by decide +kernel) (pa_cons (qv 0) pa_nil)) (pe_callB c_len (by rfl) T.m_len (by decide +kernel) (pa_cons (qv 1) pa_nil)) (nomark _))))) (pss_one (ps_ret pe_bl)) pss_nil)
    (pss_one (ps_ret (pe_callB (cr_all rfl) (by rfl) T.m_all (by decide +kernel) (pa_cons (pe_lock (q_lc (own := [("_law_name", 2)]) (g := gName 2) (tt := tYes) rfl sc__law_alike.nd (qi_keys (qv 1)) (blkOk_by (own := [("_law_name", 2)]) (N := ["_law_found", "_law_due", "_law_name", "_law_k"]) (sc := defScope s__law_alike) (by decide +kernel)) (fun _ _ _ _ _ => (pg_name (i := 2) sc__law_alike.nd rfl (Or.inl rfl))) (fun _ _ _ _ _ => pts_nil) (fun _ _ _ _ _ => (q_and (q_din hu (qv 2) (qv 0)) (pe_one (q_call G hr rfl T.g__law_alike T.k__law_alike T.b__law_alike pass0 (pa_cons (q_dget hu (qv 0) (qv 2) (fun _ _ => rfl)) (pa_cons (q_dget hu (qv 1) (qv 2) (fun _ _ => rfl)) pa_nil)))))))) pa_nil))))) pss_nil)
    (qs_cons (q_if (PW.pt (pw_or (q_cmp op_ne (pe_callB c_isi (by rfl) T.m_isinstance (by decide +kernel) (pa_cons (qv 1) (pa_cons (pe_bltn (v := .ty "tuple") (by rfl) T.m_tuple (by decide +kernel) rfl) pa_nil))) (pe_callB c_isi (by rfl) T.m_isinstance (by decide +kernel) (pa_cons (qv 0) (pa_cons (pe_bltn (v := .ty "tuple") (by rfl) T.m_tuple (by decide +kernel) rfl) pa_nil))) (nomark _)) (pw_or1 (q_cmp op_ne (pe_callB c_isi (by rfl) T.m_isinstance (by decide +kernel) (pa_cons (qv 1) (pa_cons (pe_bltn (v := .ty "list") (by rfl) T.m_list (by decide +kernel) rfl) pa_nil))) (pe_callB c_isi (by rfl) T.m_isinstance (by decide +kernel) (pa_cons (qv 0) (pa_cons (pe_bltn (v := .ty "list") (by rfl) T.m_list (by decide +kernel) rfl) pa_nil))) (nomark _))))) (pss_one (ps_ret pe_bl)) pss_nil)
    (qs_cons (q_if (q_cmp op_ne (pe_callB c_len (by rfl) T.m_len (by decide +kernel) (pa_cons (qv 0) pa_nil)) (pe_callB c_len (by rfl) T.m_len (by decide +kernel) (pa_cons (qv 1) pa_nil)) (nomark _)) (pss_one (ps_ret pe_bl)) pss_nil)
    (pss_one (ps_ret (pe_callB (cr_all rfl) (by rfl) T.m_all (by decide +kernel) (pa_cons (q_lc (own := [("_law_k", 3)]) (g := gName 3) (tt := tYes) rfl sc__law_alike.nd (qi_r1 (by rfl) T.m_range (pa_cons (pe_callB c_len (by rfl) T.m_len (by decide +kernel) (pa_cons (qv 1) pa_nil)) pa_nil)) (blkOk_by (own := [("_law_k", 3)]) (N := ["_law_found", "_law_due", "_law_name", "_law_k"]) (sc := defScope s__law_alike) (by decide +kernel)) (fun _ _ _ _ _ => (pg_name (i := 3) sc__law_alike.nd rfl (Or.inl rfl))) (fun _ _ _ _ _ => pts_nil) (fun _ _ _ _ _ => (q_call G hr rfl T.g__law_alike T.k__law_alike T.b__law_alike pass0 (pa_cons (pe_ix ix_L (qv 0) (qv 3) (fun _ _ => rfl)) (pa_cons (pe_ix ix_L (qv 1) (qv 3) (fun _ _ => rfl)) pa_nil))))) pa_nil))))))))))), ?_⟩
    dsimp! [ha, hb, hl, eq_self]
    refine ⟨⟨by omega, by omega⟩, fun D hD => ⟨_, _, _, fun i H1 => H1 D = some (.lst (trues i)) ∧ Same H H1, walk_range (lo := 0) (n := ys.length), ⟨upd_same, Same.new hD⟩, fun _ _ _ _ => True.intro, ?_, ?_⟩⟩
    · rintro i z H1 H2 hi ⟨hD1, s1⟩ ⟨rfl, rfl⟩
      have e0 : (0 : Int) + (i : Nat) = (i : Nat) := Int.zero_add _
      obtain ⟨v, hv⟩ : ∃ v, ys[i]? = some v := ⟨_, List.getElem?_eq_getElem hi⟩
      obtain ⟨u, hu1⟩ : ∃ u, xs[i]? = some u := ⟨_, List.getElem?_eq_getElem (by omega)⟩
      have ha1 := s1 _ _ ha
      have hb1 := s1 _ _ hb
      simp! [e0, ha1, hb1, atI_nat hv, atI_nat hu1]
      refine ⟨u, v, rfl, Alike.same s1 n u v (hk i u v hu1 hv), fun H3 s3 => ?_⟩
      have hD3 := s3 _ _ hD1
      simp! [hD3]
      refine ⟨by rw [trues_len]; exact small _ (by omega), by rw [trues_succ], fun b' o e => ?_⟩
      rw [upd_ne (ne_of_none e hD)]
      exact s3 _ _ (s1 _ _ e)
    · rintro H1 ⟨hD1, s1⟩
      refine ⟨D, List.replicate ys.length true, rfl, SqL.of hD1, ?_⟩
      rw [allT]
      exact kk _ s1
  · refine ⟨_, (qs_cons (q_if (q_cmp op_isN (qv 1) pe_non (nomark _)) (pss_one (ps_ret (pe_cmpR op_isN (qv 0) pe_non (nomark _)))) pss_nil)
    (qs_cons (q_if (q_val (pe_callB c_isi (by rfl) T.m_isinstance (by decide +kernel) (pa_cons (qv 1) (pa_cons (pe_bltn (v := .ty "bool") (by rfl) T.m_bool (by decide +kernel) rfl) pa_nil)))) (pss_one (ps_ret (q_and (pe_callB c_isi (by rfl) T.m_isinstance (by decide +kernel) (pa_cons (qv 0) (pa_cons (pe_bltn (v := .ty "bool") (by rfl) T.m_bool (by decide +kernel) rfl) pa_nil))) (pe_one (pe_cmpR op_eq (qv 0) (qv 1) (nomark _)))))) pss_nil)
    (qs_cons (q_if (q_val (pe_callB c_isi (by rfl) T.m_isinstance (by decide +kernel) (pa_cons (qv 1) (pa_cons (pe_bltn (v := .ty "int") (by rfl) T.m_int (by decide +kernel) rfl) pa_nil)))) (pss_one (ps_ret (q_and (pe_callB c_isi (by rfl) T.m_isinstance (by decide +kernel) (pa_cons (qv 0) (pa_cons (pe_bltn (v := .ty "int") (by rfl) T.m_int (by decide +kernel) rfl) pa_nil))) (q_and (q_not (pe_callB c_isi (by rfl) T.m_isinstance (by decide +kernel) (pa_cons (qv 0) (pa_cons (pe_bltn (v := .ty "bool") (by rfl) T.m_bool (by decide +kernel) rfl) pa_nil)))) (pe_one (pe_cmpR op_eq (qv 0) (qv 1) (nomark _))))))) pss_nil)
    (qs_cons (q_if (q_val (pe_callB c_isi (by rfl) T.m_isinstance (by decide +kernel) (pa_cons (qv 1) (pa_cons (pe_bltn (v := .ty "str") (by rfl) T.m_str (by decide +kernel) rfl) pa_nil)))) (pss_one (ps_ret (q_and (pe_callB c_isi (by rfl) T.m_isinstance (by decide +kernel) (pa_cons (qv 0) (pa_cons (pe_bltn (v := .ty "str") (by rfl) T.m_str (by decide +kernel) rfl) pa_nil))) (pe_one (pe_cmpR op_eq (qv 0) (qv 1) (nomark _)))))) pss_nil)
    (qs_cons (q_if (q_val (pe_callB c_isi (by rfl) T.m_isinstance (by decide +kernel) (pa_cons (qv 1) (pa_cons (pe_bltn (v := .ty "dict") (by rfl) T.m_dict (by decide +kernel) rfl) pa_nil)))) (qs_cons (q_if (PW.pt (pw_or (pt_not (q_val (pe_callB c_isi (by rfl) T.m_isinstance (by decide +kernel) (pa_cons (qv 0) (pa_cons (pe_bltn (v := .ty "dict") (by rfl) T.m_dict (by decide +kernel) rfl) pa_nil))))) (pw_or1 (q_cmp op_ne (pe_callB c_len (by rfl) T.m_len (by decide +kernel) (pa_cons (qv 0) pa_nil)) (pe_callB c_len (by rfl) T.m_len (by decide +kernel) (pa_cons (qv 1) pa_nil)) (nomark _))))) (pss_one (ps_ret pe_bl)) pss_nil)
    (pss_one (ps_ret (pe_callB (cr_all rfl) (by rfl) T.m_all (by decide +kernel) (pa_cons (pe_lock (q_lc (own := [("_law_name", 2)]) (g := gName 2) (tt := tYes) rfl sc__law_alike.nd (qi_keys (qv 1)) (blkOk_by (own := [("_law_name", 2)]) (N := ["_law_found", "_law_due", "_law_name", "_law_k"]) (sc := defScope s__law_alike) (by decide +kernel)) (fun _ _ _ _ _ => (pg_name (i := 2) sc__law_alike.nd rfl (Or.inl rfl))) (fun _ _ _ _ _ => pts_nil) (fun _ _ _ _ _ => (q_and (q_din hu (qv 2) (qv 0)) (pe_one (q_call G hr rfl T.g__law_alike T.k__law_alike T.b__law_alike pass0 (pa_cons (q_dget hu (qv 0) (qv 2) (fun _ _ => rfl)) (pa_cons (q_dget hu (qv 1) (qv 2) (fun _ _ => rfl)) pa_nil)))))))) pa_nil))))) pss_nil)
    (qs_cons (q_if (PW.pt (pw_or (q_cmp op_ne (pe_callB c_isi (by rfl) T.m_isinstance (by decide +kernel) (pa_cons (qv 1) (pa_cons (pe_bltn (v := .ty "tuple") (by rfl) T.m_tuple (by decide +kernel) rfl) pa_nil))) (pe_callB c_isi (by rfl) T.m_isinstance (by decide +kernel) (pa_cons (qv 0) (pa_cons (pe_bltn (v := .ty "tuple") (by rfl) T.m_tuple (by decide +kernel) rfl) pa_nil))) (nomark _)) (pw_or1 (q_cmp op_ne (pe_callB c_isi (by rfl) T.m_isinstance (by decide +kernel) (pa_cons (qv 1) (pa_cons (pe_bltn (v := .ty "list") (by rfl) T.m_list (by decide +kernel) rfl) pa_nil))) (pe_callB c_isi (by rfl) T.m_isinstance (by decide +kernel) (pa_cons (qv 0) (pa_cons (pe_bltn (v := .ty "list") (by rfl) T.m_list (by decide +kernel) rfl) pa_nil))) (nomark _))))) (pss_one (ps_ret pe_bl)) pss_nil)
    (qs_cons (q_if (q_cmp op_ne (pe_callB c_len (by rfl) T.m_len (by decide +kernel) (pa_cons (qv 0) pa_nil)) (pe_callB c_len (by rfl) T.m_len (by decide +kernel) (pa_cons (qv 1) pa_nil)) (nomark _)) (pss_one (ps_ret pe_bl)) pss_nil)
    (pss_one (ps_ret (pe_callB (cr_all rfl) (by rfl) T.m_all (by decide +kernel) (pa_cons (q_lc (own := [("_law_k", 3)]) (g := gName 3) (tt := tYes) rfl sc__law_alike.nd (qi_r1 (by rfl) T.m_range (pa_cons (pe_callB c_len (by rfl) T.m_len (by decide +kernel) (pa_cons (qv 1) pa_nil)) pa_nil)) (blkOk_by (own := [("_law_k", 3)]) (N := ["_law_found", "_law_due", "_law_name", "_law_k"]) (sc := defScope s__law_alike) (by decide +kernel)) (fun _ _ _ _ _ => (pg_name (i := 3) sc__law_alike.nd rfl (Or.inl rfl))) (fun _ _ _ _ _ => pts_nil) (fun _ _ _ _ _ => (q_call G hr rfl T.g__law_alike T.k__law_alike T.b__law_alike pass0 (pa_cons (pe_ix ix_L (qv 0) (qv 3) (fun _ _ => rfl)) (pa_cons (pe_ix ix_L (qv 1) (qv 3) (fun _ _ => rfl)) pa_nil))))) pa_nil))))))))))), ?_⟩
    dsimp! [ha, hb, hl, eq_self, tLockE]
    refine ⟨b, _, hb, True.intro, fun od => ?_⟩
    simp! []
    intro D hD
    have nbD : b ≠ D := ne_of_none upd_same hD
    have hD0 : H D = none := by rw [upd_ne nbD.symm] at hD; exact hD
    refine ⟨_, _, _, fun i H1 => H1 D = some (.lst (trues i)) ∧ Same (upd H b (.frz od (.dK kws))) H1, walk_keys (d := b) (o := od) (kvs := kws), ⟨upd_same, Same.new hD⟩, fun i H1 _ h => h.2 _ _ upd_same, ?_, ?_⟩
    · rintro i z H1 H2 hi ⟨hD1, s1⟩ ⟨rfl, key, v, hkv, rfl⟩
      obtain ⟨q1, q2, q3⟩ := hk _ (List.mem_of_getElem? hkv)
      have ha1 := s1 _ _ (show (upd H b (.frz od (.dK kws))) a = some (.dK kvs) by rw [upd_ne nab]; exact ha)
      have hb1 := s1 _ _ (show (upd H b (.frz od (.dK kws))) b = some (.frz od (.dK kws)) from upd_same)
      have ek : ∀ R : Key → Prop, keyR (kV key) R = R key := fun R => by cases key <;> rfl
      simp! [ek, ha1, hb1, q1, q2, Option.isSome_some]
      refine ⟨v, v, rfl, Alike.flat q3 n, fun H3 s3 => ?_⟩
      have hD3 := s3 _ _ hD1
      simp! [hD3]
      refine ⟨by rw [trues_len]; exact small _ (by omega), by rw [trues_succ], fun b' o e => ?_⟩
      rw [upd_ne (ne_of_none e hD)]
      exact s3 _ _ (s1 _ _ e)
    · rintro H1 ⟨hD1, s1⟩
      refine ⟨s1 _ _ upd_same, ?_⟩
      refine ⟨D, List.replicate kws.length true, rfl, SqL.of (by rw [upd_ne nbD.symm]; exact hD1), ?_⟩
      rw [allT]
      refine kk _ fun b' o e => ?_
      by_cases n : b' = b
      · rw [n] at e
        rw [hb] at e
        rw [n, upd_same]
        exact e
      · rw [upd_ne n]
        exact s1 _ _ (by rw [upd_ne n]; exact e)
theorem ok_alike (T : Txt K mg base A) : ∀ n, FnOk P w K mg base CX0 (n + 1) A._law_alike A.d__law_alike ["_law_found", "_law_due"] (spAlike n)
  | 0 => alike_0 T
  | n + 1 => alike_s T n (ok_alike T n)
end
end OA

namespace OA
open PySem PySem.Spec PyProof.Rows L2
/-! data; what stands at own addresses; the state of a run as data -/
inductive D where
  | non | bl (b : Bool) | int (i : Int) | str (s : Str) | tup (xs : List D) | lst (xs : List D) | dic (ks : List Key) (xs : List D) | py (d : PyData)
inductive W where
  | sh (x : D) | pt (p : Addr) | ty (n : String)
inductive OD where
  | lst (ws : List W) | dic (ks : List Key) (ws : List W) | lk (o : Obj) (kvs : List (Key × V)) (ks : List Key) (ws : List W)
abbrev Om := List (Addr × OD)
abbrev Gm := List (Option W)
section
variable (K : PySem.W.Frag) (H : Hp) (E : Addr → Prop)
mutual
def Lay : D → V → Prop
  | .non, v => v = .non
  | .bl b, v => v = .bl b
  | .int i, v => v = .int i
  | .str s, v => v = .str s
  | .tup xs, v => ∃ a vs, v = .ref a ∧ ¬ E a ∧ H a = some (.tup vs) ∧ LayL xs vs
  | .lst xs, v => ∃ a vs, v = .ref a ∧ ¬ E a ∧ H a = some (.lst vs) ∧ LayL xs vs
  | .dic ks xs, v => ∃ a vs, v = .ref a ∧ ¬ E a ∧ H a = some (.dK (ks.zip vs)) ∧ ks.length = xs.length ∧ LayL xs vs
  | .py d, v => ∀ H', Dp K H' v d
def LayL : List D → List V → Prop
  | [], vs => vs = []
  | x :: xs, vs => ∃ v r, vs = v :: r ∧ Lay x v ∧ LayL xs r
end
def VOk : W → V → Prop
  | .sh x, v => Lay K H E x v
  | .pt p, v => v = .ref p
  | .ty n, v => v = .ty n
def VOks : List W → List V → Prop
  | [], vs => vs = []
  | x :: xs, vs => ∃ v r, vs = v :: r ∧ VOk K H E x v ∧ VOks xs r
def ObOk (p : Addr) : OD → Prop
  | .lst ws => ∃ vs, H p = some (.lst vs) ∧ VOks K H E ws vs
  | .dic ks ws => ∃ vs, H p = some (.dK (ks.zip vs)) ∧ ks.length = ws.length ∧ VOks K H E ws vs
  | .lk o kvs ks ws => ∃ vs, H p = some (.frz o (.dK kvs)) ∧ kvs = ks.zip vs ∧ ks.length = ws.length ∧ VOks K H E ws vs
end
section
variable {K : PySem.W.Frag} {H H' : Hp} {E E' : Addr → Prop}
mutual
theorem Lay.mono (k : ∀ b o, ¬ E b → H b = some o → ¬ E' b ∧ H' b = some o) : ∀ (x : D) (v : V), Lay K H E x v → Lay K H' E' x v
  | .non, _, h => h
  | .bl _, _, h => h
  | .int _, _, h => h
  | .str _, _, h => h
  | .tup xs, _, ⟨a, vs, e, n, ha, hl⟩ => ⟨a, vs, e, (k _ _ n ha).1, (k _ _ n ha).2, LayL.mono k xs vs hl⟩
  | .lst xs, _, ⟨a, vs, e, n, ha, hl⟩ => ⟨a, vs, e, (k _ _ n ha).1, (k _ _ n ha).2, LayL.mono k xs vs hl⟩
  | .dic ks xs, _, ⟨a, vs, e, n, ha, hn, hl⟩ => ⟨a, vs, e, (k _ _ n ha).1, (k _ _ n ha).2, hn, LayL.mono k xs vs hl⟩
  | .py _, _, h => h
theorem LayL.mono (k : ∀ b o, ¬ E b → H b = some o → ¬ E' b ∧ H' b = some o) : ∀ (xs : List D) (vs : List V), LayL K H E xs vs → LayL K H' E' xs vs
  | [], _, h => h
  | x :: xs, _, ⟨v, r, e, h1, h2⟩ => ⟨v, r, e, Lay.mono k x v h1, LayL.mono k xs r h2⟩
end
theorem VOk.mono (k : ∀ b o, ¬ E b → H b = some o → ¬ E' b ∧ H' b = some o) {w : W} {v : V} (h : VOk K H E w v) : VOk K H' E' w v := by
  cases w with
  | sh x => exact Lay.mono k x v h
  | pt p => exact h
  | ty n => exact h
theorem VOks.mono (k : ∀ b o, ¬ E b → H b = some o → ¬ E' b ∧ H' b = some o) : ∀ {ws : List W} {vs : List V}, VOks K H E ws vs → VOks K H' E' ws vs
  | [], _, h => h
  | _ :: _, _, ⟨v, r, e, h1, h2⟩ => ⟨v, r, e, h1.mono k, VOks.mono k h2⟩
theorem VOks.len : ∀ {ws : List W} {vs : List V}, VOks K H E ws vs → ws.length = vs.length
  | [], _, h => by rw [show _ = [] from h]; rfl
  | _ :: _, _, ⟨v, r, e, h1, h2⟩ => by rw [e, List.length_cons, List.length_cons, h2.len]
theorem VOks.app : ∀ {ws us : List W} {vs ts : List V}, VOks K H E ws vs → VOks K H E us ts → VOks K H E (ws ++ us) (vs ++ ts)
  | [], _, _, _, h, g => by rw [show _ = [] from h]; exact g
  | _ :: _, _, _, _, ⟨v, r, e, h1, h2⟩, g => ⟨v, r ++ _, by rw [e]; rfl, h1, h2.app g⟩
theorem VOks.one {w : W} {v : V} (h : VOk K H E w v) : VOks K H E [w] [v] := ⟨v, [], rfl, h, rfl⟩
theorem VOks.at : ∀ {ws : List W} {vs : List V} (i : Nat), VOks K H E ws vs → ∀ {v : V}, vs[i]? = some v → ∃ w, ws[i]? = some w ∧ VOk K H E w v
  | [], _, _, h, _, e => by rw [show _ = [] from h] at e; simp at e
  | w :: ws, _, 0, ⟨v, r, e, h1, h2⟩, u, q => by
    rw [e] at q
    cases q
    exact ⟨w, rfl, h1⟩
  | w :: ws, _, i + 1, ⟨v, r, e, h1, h2⟩, u, q => by
    rw [e] at q
    exact h2.at i (v := u) q
theorem VOks.to : ∀ {ws : List W} {vs : List V} (i : Nat), VOks K H E ws vs → ∀ {w : W}, ws[i]? = some w → ∃ v, vs[i]? = some v ∧ VOk K H E w v
  | [], _, _, h, _, e => by simp at e
  | w :: ws, _, 0, ⟨v, r, e, h1, h2⟩, u, q => by
    cases q
    exact ⟨v, by rw [e]; rfl, h1⟩
  | w :: ws, _, i + 1, ⟨v, r, e, h1, h2⟩, u, q => by
    obtain ⟨v', q1, q2⟩ := h2.to i (w := u) q
    exact ⟨v', by rw [e]; exact q1, q2⟩
theorem VOks.sh_of : ∀ {xs : List D} {vs : List V}, LayL K H E xs vs → VOks K H E (xs.map .sh) vs
  | [], _, h => h
  | _ :: _, _, ⟨v, r, e, h1, h2⟩ => ⟨v, r, e, h1, VOks.sh_of h2⟩
theorem VOks.lay : ∀ {xs : List D} {vs : List V}, VOks K H E (xs.map .sh) vs → LayL K H E xs vs
  | [], _, h => h
  | _ :: _, _, ⟨v, r, e, h1, h2⟩ => ⟨v, r, e, h1, VOks.lay h2⟩
theorem LayL.len {xs : List D} {vs : List V} (h : LayL K H E xs vs) : xs.length = vs.length := by
  have := (VOks.sh_of h).len
  rwa [List.length_map] at this
theorem VOks.set : ∀ {ws : List W} {vs : List V} (i : Nat) {w : W} {v : V}, VOks K H E ws vs → VOk K H E w v → VOks K H E (ws.set i w) (vs.set i v)
  | [], _, _, _, _, h, _ => by rw [show _ = [] from h]; exact rfl
  | _ :: _, _, 0, _, _, ⟨v, r, e, h1, h2⟩, g => by rw [e]; exact ⟨_, _, rfl, g, h2⟩
  | _ :: _, _, i + 1, _, _, ⟨v, r, e, h1, h2⟩, g => by rw [e]; exact ⟨_, _, rfl, h1, h2.set i g⟩
theorem VOks.erase : ∀ {ws : List W} {vs : List V} (i : Nat), VOks K H E ws vs → VOks K H E (ws.eraseIdx i) (vs.eraseIdx i)
  | [], _, _, h => by rw [show _ = [] from h]; exact rfl
  | _ :: _, _, 0, ⟨v, r, e, h1, h2⟩ => by rw [e]; exact h2
  | _ :: _, _, i + 1, ⟨v, r, e, h1, h2⟩ => by rw [e]; exact ⟨_, _, rfl, h1, h2.erase i⟩
theorem VOks.take : ∀ {ws : List W} {vs : List V} (i : Nat), VOks K H E ws vs → VOks K H E (ws.take i) (vs.take i)
  | [], _, _, h => by rw [show _ = [] from h]; simp [VOks]
  | _ :: _, _, 0, h => by simp [VOks]
  | _ :: _, _, i + 1, ⟨v, r, e, h1, h2⟩ => by rw [e]; exact ⟨_, _, rfl, h1, h2.take i⟩
theorem VOks.drop : ∀ {ws : List W} {vs : List V} (i : Nat), VOks K H E ws vs → VOks K H E (ws.drop i) (vs.drop i)
  | [], _, _, h => by rw [show _ = [] from h]; simp [VOks]
  | _ :: _, _, 0, h => by simpa using h
  | _ :: _, _, i + 1, ⟨v, r, e, h1, h2⟩ => by rw [e]; exact h2.drop i
theorem VOks.rev : ∀ {ws : List W} {vs : List V}, VOks K H E ws vs → VOks K H E ws.reverse vs.reverse
  | [], _, h => by rw [show _ = [] from h]; exact rfl
  | _ :: _, _, ⟨v, r, e, h1, h2⟩ => by rw [e, List.reverse_cons, List.reverse_cons]; exact h2.rev.app (.one h1)
theorem ObOk.mono {p : Addr} (k : ∀ b o, ¬ E b → H b = some o → ¬ E' b ∧ H' b = some o) (hp : ∀ o, H p = some o → H' p = some o) {od : OD} (h : ObOk K H E p od) : ObOk K H' E' p od := by
  cases od with
  | lst ws =>
    obtain ⟨vs, e, z⟩ := h
    exact ⟨vs, hp _ e, z.mono k⟩
  | dic ks ws =>
    obtain ⟨vs, e, n, z⟩ := h
    exact ⟨vs, hp _ e, n, z.mono k⟩
  | lk o kvs ks ws =>
    obtain ⟨vs, e, n, m, z⟩ := h
    exact ⟨vs, hp _ e, n, m, z.mono k⟩
/-- no tuple -/
def EOk (H : Hp) (b : Addr) : Prop := ∃ o, H b = some o ∧ ∀ vs, o ≠ .tup vs
theorem EOk.some {b : Addr} (h : EOk H b) : H b ≠ none := by
  obtain ⟨o, e, _⟩ := h
  rw [e]
  simp
theorem ObOk.eok {p : Addr} {od : OD} (h : ObOk K H E p od) : EOk H p := by
  cases od with
  | lst ws =>
    obtain ⟨vs, e, z⟩ := h
    exact ⟨_, e, fun _ z => by cases z⟩
  | dic ks ws =>
    obtain ⟨vs, e, n, z⟩ := h
    exact ⟨_, e, fun _ z => by cases z⟩
  | lk o kvs ks ws =>
    obtain ⟨vs, e, n, z⟩ := h
    exact ⟨_, e, fun _ z => by cases z⟩
theorem ObOk.some {p : Addr} {od : OD} (h : ObOk K H E p od) : H p ≠ none := by
  cases od with
  | lst ws =>
    obtain ⟨vs, e, z⟩ := h
    rw [e]
    simp
  | dic ks ws =>
    obtain ⟨vs, e, n, z⟩ := h
    rw [e]
    simp
  | lk o kvs ks ws =>
    obtain ⟨vs, e, n, z⟩ := h
    rw [e]
    simp
end
class Fact' (p : Prop) : Prop where
  out : p
/-- what a run may change beside its own, and what stays true of that -/
structure Am where
  M : Addr → Prop
  I : Hp → Prop
  loc : ∀ H H', (∀ b, M b → H' b = H b) → I H → I H'
  ex : ∀ H b, I H → M b → EOk H b
/-- a run: what may be changed, what is not to be met, the heap at its begin -/
structure Cq (am : Am) where
  E : Addr → Prop
  ME : ∀ b, am.M b → E b
  H0 : Hp
def Ex {am : Am} (c : Cq am) (Ω : Om) : Addr → Prop := fun b => c.E b ∨ b ∈ Ω.map (·.1)
inductive Tp where
  | v (w : W) (v : V)
  | pin (a : Addr) (o : HO)
def TpOk (K : PySem.W.Frag) (H : Hp) (E : Addr → Prop) : Tp → Prop
  | .v w v => VOk K H E w v
  | .pin a o => (∀ u, o ≠ .dK u) ∧ ¬ E a ∧ H a = some o
structure DEnv (K : PySem.W.Frag) {am : Am} (c : Cq am) (T : List Tp) (σ : L2.St) (Γ : Gm) (Ω : Om) (H : Hp) : Prop where
  len : Γ.length = σ.length
  sl : ∀ (i : Nat) (w : W), Γ[i]? = some (some w) → ∃ v, σ[i]? = some (some v) ∧ VOk K H (Ex c Ω) w v
  tm : ∀ t ∈ T, TpOk K H (Ex c Ω) t
  ob : ∀ q ∈ Ω, ObOk K H (Ex c Ω) q.1 q.2
  nd : (Ω.map (·.1)).Nodup
  fr : ∀ p ∈ Ω.map (·.1), c.H0 p = none ∧ ¬ c.E p
  el : ∀ b, c.E b → EOk H b
  frm : ∀ b o, ¬ am.M b → c.H0 b = some o → H b = some o
  inv : am.I H
section
variable {K : PySem.W.Frag} {am : Am} {c : Cq am} {T : List Tp} {σ : L2.St} {Γ : Gm} {Ω : Om} {H H' : Hp}
theorem TpOk.mono {E E' : Addr → Prop} (k : ∀ b o, ¬ E b → H b = some o → ¬ E' b ∧ H' b = some o) {t : Tp} (h : TpOk K H E t) : TpOk K H' E' t := by
  cases t with
  | v w v => exact VOk.mono k h
  | pin a o =>
    obtain ⟨h1, h2, h3⟩ := h
    exact ⟨h1, (k _ _ h2 h3).1, (k _ _ h2 h3).2⟩
/-- all but what may be changed is kept -/
theorem DEnv.step (e : DEnv K c T σ Γ Ω H) (k : ∀ b o, ¬ am.M b → H b = some o → H' b = some o) (i : am.I H') : DEnv K c T σ Γ Ω H' := by
  have nM : ∀ b, ¬ Ex c Ω b → ¬ am.M b := fun b n m => n (.inl (c.ME b m))
  have kx : ∀ b o, ¬ Ex c Ω b → H b = some o → ¬ Ex c Ω b ∧ H' b = some o := fun b o n h => ⟨n, k b o (nM b n) h⟩
  refine ⟨e.len, fun j w h => ?_, fun t ht => (e.tm t ht).mono kx, fun q hq => (e.ob q hq).mono kx fun o h => k _ _ (fun m => ?_) h, e.nd, e.fr, fun b hb => ?_, fun b o n h => k b o n (e.frm b o n h), i⟩
  · obtain ⟨v, h1, h2⟩ := e.sl j w h
    exact ⟨v, h1, h2.mono kx⟩
  · exact (e.fr q.1 (List.mem_map.mpr ⟨q, hq, rfl⟩)).2 (c.ME _ m)
  · by_cases m : am.M b
    · exact am.ex H' b i m
    · obtain ⟨o, h, n⟩ := e.el b hb
      exact ⟨o, k b o m h, n⟩
theorem DEnv.noEx (e : DEnv K c T σ Γ Ω H) {p : Addr} (hp : H p = none) : ¬ Ex c Ω p := fun h => by
  rcases h with h | h
  · exact (e.el p h).some hp
  · obtain ⟨q, hq, rfl⟩ := List.mem_map.mp h
    exact (e.ob q hq).some hp
/-- a new object -/
theorem DEnv.alloc (e : DEnv K c T σ Γ Ω H) {p : Addr} {o : HO} (hp : H p = none) : DEnv K c T σ Γ Ω (upd H p o) := by
  refine e.step (fun b u _ h => by rw [upd_ne (ne_of_none h hp)]; exact h) (am.loc H _ (fun b m => upd_ne fun z => ?_) e.inv)
  exact (am.ex H b e.inv m).some (by rw [z]; exact hp)
theorem DEnv.drop {t : Tp} (e : DEnv K c (t :: T) σ Γ Ω H) : DEnv K c T σ Γ Ω H := ⟨e.len, e.sl, fun u hu => e.tm u (List.mem_cons_of_mem _ hu), e.ob, e.nd, e.fr, e.el, e.frm, e.inv⟩
theorem DEnv.drops : ∀ {S : List Tp}, DEnv K c (S ++ T) σ Γ Ω H → DEnv K c T σ Γ Ω H
  | [], e => e
  | _ :: S, e => DEnv.drops (S := S) e.drop
theorem DEnv.add {t : Tp} (e : DEnv K c T σ Γ Ω H) (h : TpOk K H (Ex c Ω) t) : DEnv K c (t :: T) σ Γ Ω H := ⟨e.len, e.sl, fun u hu => by
  rcases List.mem_cons.mp hu with rfl | hu
  · exact h
  · exact e.tm u hu, e.ob, e.nd, e.fr, e.el, e.frm, e.inv⟩
theorem DEnv.addv {w : W} {v : V} (e : DEnv K c T σ Γ Ω H) (h : VOk K H (Ex c Ω) w v) : DEnv K c (.v w v :: T) σ Γ Ω H := e.add h
theorem DEnv.hd {w : W} {v : V} (e : DEnv K c (.v w v :: T) σ Γ Ω H) : VOk K H (Ex c Ω) w v := e.tm (.v w v) List.mem_cons_self
/-- a new tuple -/
theorem DEnv.tup (e : DEnv K c T σ Γ Ω H) {p : Addr} {xs : List D} {vs : List V} (hp : H p = none) (h : LayL K H (Ex c Ω) xs vs) : DEnv K c (.v (.sh (.tup xs)) (.ref p) :: T) σ Γ Ω (upd H p (.tup vs)) :=
  e.alloc hp |>.addv ⟨p, vs, rfl, e.noEx hp, upd_same, LayL.mono (fun b o n h => ⟨n, by rw [upd_ne (ne_of_none h hp)]; exact h⟩) xs vs h⟩
theorem DEnv.lst (e : DEnv K c T σ Γ Ω H) {p : Addr} {xs : List D} {vs : List V} (hp : H p = none) (h : LayL K H (Ex c Ω) xs vs) : DEnv K c (.v (.sh (.lst xs)) (.ref p) :: T) σ Γ Ω (upd H p (.lst vs)) :=
  e.alloc hp |>.addv ⟨p, vs, rfl, e.noEx hp, upd_same, LayL.mono (fun b o n h => ⟨n, by rw [upd_ne (ne_of_none h hp)]; exact h⟩) xs vs h⟩
/-- an own object -/
theorem DEnv.own (e : DEnv K c T σ Γ Ω H) {p : Addr} {o : HO} {od : OD} (hp : H p = none) (h0 : c.H0 p = none) (h : (∃ ws vs, od = .lst ws ∧ o = .lst vs ∧ VOks K H (Ex c Ω) ws vs) ∨ (∃ ks ws vs, od = .dic ks ws ∧ o = .dK (ks.zip vs) ∧ ks.length = ws.length ∧ VOks K H (Ex c Ω) ws vs)) :
    DEnv K c (.v (.pt p) (.ref p) :: T) σ Γ ((p, od) :: Ω) (upd H p o) := by
  have nE : ¬ Ex c Ω p := e.noEx hp
  have kx : ∀ b o, ¬ Ex c Ω b → H b = some o → ¬ Ex c ((p, od) :: Ω) b := fun b o n h z => by
    rcases z with z | z
    · exact n (.inl z)
    · rcases List.mem_cons.mp z with z | z
      · rw [show b = p from z, hp] at h
        cases h
      · exact n (.inr z)
  have kx' : ∀ b o', ¬ Ex c Ω b → H b = some o' → ¬ Ex c ((p, od) :: Ω) b ∧ upd H p o b = some o' := fun b o' n h => ⟨kx b o' n h, by rw [upd_ne (ne_of_none h hp)]; exact h⟩
  have e1 := e.alloc (o := o) hp
  refine ⟨e.len, fun j w h => ?_, fun t ht => ?_, fun q hq => ?_, List.nodup_cons.mpr ⟨fun z => nE (.inr z), e.nd⟩, fun q hq => ?_, e1.el, e1.frm, e1.inv⟩
  · obtain ⟨v, h1, h2⟩ := e.sl j w h
    exact ⟨v, h1, h2.mono kx'⟩
  · rcases List.mem_cons.mp ht with rfl | ht
    · exact rfl
    · exact (e.tm t ht).mono kx'
  · rcases List.mem_cons.mp hq with rfl | hq
    · rcases h with ⟨ws, vs, rfl, rfl, h⟩ | ⟨ks, ws, vs, rfl, rfl, hn, h⟩
      · exact ⟨vs, upd_same, h.mono kx'⟩
      · exact ⟨vs, upd_same, hn, h.mono kx'⟩
    · refine (e.ob q hq).mono kx' fun o' h => ?_
      rw [upd_ne (ne_of_none h hp)]
      exact h
  · rcases List.mem_cons.mp hq with rfl | hq
    · exact ⟨h0, fun z => nE (.inl z)⟩
    · exact e.fr q hq
theorem DEnv.eok (e : DEnv K c T σ Γ Ω H) {b : Addr} (h : Ex c Ω b) : EOk H b := by
  rcases h with h | h
  · exact e.el b h
  · obtain ⟨q, hq, rfl⟩ := List.mem_map.mp h
    exact (e.ob q hq).eok
/-- a tuple is no own thing -/
theorem DEnv.noTup (e : DEnv K c T σ Γ Ω H) {p : Addr} {vs : List V} (hp : H p = some (.tup vs)) : ¬ Ex c Ω p := fun h => by
  obtain ⟨o, h1, h2⟩ := e.eok h
  rw [hp] at h1
  cases h1
  exact h2 _ rfl
/-- nothing new was there at the begin -/
theorem DEnv.new (e : DEnv K c T σ Γ Ω H) {p : Addr} (hp : H p = none) : c.H0 p = none := by
  cases h : c.H0 p with
  | none => rfl
  | some o =>
    by_cases m : am.M p
    · exact absurd hp (am.ex H p e.inv m).some
    · rw [e.frm p o m h] at hp
      cases hp
/-! the own heap as data -/
def look (Ω : Om) (p : Addr) : Option OD := (Ω.find? fun q => decide (q.1 = p)).map (·.2)
def put (Ω : Om) (p : Addr) (od : OD) : Om := Ω.map fun q => if q.1 = p then (q.1, od) else q
theorem look_mem {p : Addr} {od : OD} (h : look Ω p = some od) : (p, od) ∈ Ω := by
  unfold look at h
  cases e : Ω.find? fun q => decide (q.1 = p) with
  | none => rw [e] at h; cases h
  | some q =>
    rw [e] at h
    cases h
    have h1 := List.mem_of_find?_eq_some e
    have h2 := List.find?_some e
    have h3 : q.1 = p := of_decide_eq_true h2
    rw [← h3]
    exact h1
theorem put_keys {p : Addr} {od : OD} : (OA.put Ω p od).map (·.1) = Ω.map (·.1) := by
  unfold put
  rw [List.map_map]
  refine List.map_congr_left fun q _ => ?_
  show (if q.1 = p then (q.1, od) else q).1 = q.1
  split <;> rfl
theorem Ex_put {p : Addr} {od : OD} : Ex c (OA.put Ω p od) = Ex c Ω := by
  funext b
  unfold Ex
  rw [put_keys]
/-- what stands at an own address is changed -/
theorem DEnv.put (e : DEnv K c T σ Γ Ω H) {p : Addr} {o : HO} {od od' : OD} (hl : look Ω p = some od) (h : ObOk K (upd H p o) (Ex c Ω) p od') : DEnv K c T σ Γ (OA.put Ω p od') (upd H p o) := by
  have hin : p ∈ Ω.map (·.1) := List.mem_map.mpr ⟨_, look_mem hl, rfl⟩
  have kx : ∀ b o', ¬ Ex c Ω b → H b = some o' → ¬ Ex c Ω b ∧ upd H p o b = some o' := fun b o' n h => ⟨n, by rw [upd_ne fun z => n (.inr (by rw [z]; exact hin))]; exact h⟩
  obtain ⟨f0, fE⟩ := e.fr p hin
  refine ⟨e.len, fun j w h => ?_, fun t ht => ?_, fun q hq => ?_, by rw [put_keys]; exact e.nd, by rw [put_keys]; exact e.fr, fun b hb => ?_, fun b o' n h => ?_, am.loc H _ (fun b m => upd_ne fun z => fE (by rw [← z]; exact c.ME b m)) e.inv⟩
  · rw [Ex_put]
    obtain ⟨v, h1, h2⟩ := e.sl j w h
    exact ⟨v, h1, h2.mono kx⟩
  · rw [Ex_put]
    exact (e.tm t ht).mono kx
  · rw [Ex_put]
    obtain ⟨r, hr, rfl⟩ := List.mem_map.mp hq
    by_cases z : r.1 = p
    · simp only [z, if_true]
      exact h
    · simp only [z, if_false]
      refine (e.ob r hr).mono kx fun o' h => ?_
      rw [upd_ne z]
      exact h
  · by_cases z : b = p
    · exact absurd (by rw [← z]; exact hb) fE
    · obtain ⟨o', h, n⟩ := e.el b hb
      exact ⟨o', by rw [upd_ne z]; exact h, n⟩
  · rw [upd_ne fun z => ?_]
    · exact e.frm b o' n h
    · rw [z, f0] at h
      cases h
theorem DEnv.putL (e : DEnv K c T σ Γ Ω H) {p : Addr} {ws ws' : List W} {vs' : List V} (hl : look Ω p = some (.lst ws)) (h : VOks K H (Ex c Ω) ws' vs') : DEnv K c T σ Γ (OA.put Ω p (.lst ws')) (upd H p (.lst vs')) :=
  e.put hl ⟨vs', upd_same, h.mono fun b o n h => ⟨n, by rw [upd_ne fun z => n (.inr (by rw [z]; exact List.mem_map.mpr ⟨_, look_mem hl, rfl⟩))]; exact h⟩⟩
theorem DEnv.putD (e : DEnv K c T σ Γ Ω H) {p : Addr} {od : OD} {ks : List Key} {ws' : List W} {vs' : List V} {kvs : List (Key × V)} (hl : look Ω p = some od) (hk : kvs = ks.zip vs') (hn : ks.length = ws'.length) (h : VOks K H (Ex c Ω) ws' vs') : DEnv K c T σ Γ (OA.put Ω p (.dic ks ws')) (upd H p (.dK kvs)) :=
  e.put hl ⟨vs', by rw [hk]; exact upd_same, hn, h.mono fun b o n h => ⟨n, by rw [upd_ne fun z => n (.inr (by rw [z]; exact List.mem_map.mpr ⟨_, look_mem hl, rfl⟩))]; exact h⟩⟩
/-- a slot is stored to -/
theorem DEnv.set {i : Nat} {w : W} {v : V} (e : DEnv K c T σ Γ Ω H) (h : VOk K H (Ex c Ω) w v) : DEnv K c T (σ.set i (some v)) (Γ.set i (some w)) Ω H := by
  refine ⟨by rw [List.length_set, List.length_set]; exact e.len, fun j u h' => ?_, e.tm, e.ob, e.nd, e.fr, e.el, e.frm, e.inv⟩
  rw [List.getElem?_set] at h'
  by_cases z : i = j
  · subst z
    rw [if_pos rfl] at h'
    split at h'
    · rename_i hl
      cases h'
      exact ⟨v, by rw [List.getElem?_set, if_pos rfl, if_pos (by rw [← e.len]; exact hl)], h⟩
    · cases h'
  · rw [if_neg z] at h'
    obtain ⟨v', h1, h2⟩ := e.sl j u h'
    exact ⟨v', by rw [List.getElem?_set, if_neg z]; exact h1, h2⟩
end
/-- what a callee may change within what the caller may -/
class AmLe (a b : Am) : Prop where
  I : ∀ H, b.I H → a.I H
  M : ∀ x, a.M x → b.M x
  back : ∀ H H', b.I H → (∀ x o, ¬ a.M x → H x = some o → H' x = some o) → a.I H' → b.I H'
def am0 : Am := ⟨fun _ => False, fun _ => True, fun _ _ _ _ => True.intro, fun _ _ _ h => h.elim⟩
theorem Am.keep (b : Am) {H H' : Hp} (i : b.I H) (k : ∀ x o, b.M x → H x = some o → H' x = some o) : b.I H' := b.loc H H' (fun x m => by
  cases h : H x with
  | none => exact absurd h (b.ex H x i m).some
  | some o => rw [k x o m h]) i
instance amLe_refl (a : Am) : AmLe a a := ⟨fun _ h => h, fun _ h => h, fun _ _ _ _ h => h⟩
instance amLe_0 (a : Am) : AmLe am0 a := ⟨fun _ _ => True.intro, fun _ h => h.elim, fun _ _ i k _ => a.keep i fun x o _ h => k x o (fun z => z) h⟩
def amAnd (a b : Am) : Am := ⟨fun x => a.M x ∨ b.M x, fun H => a.I H ∧ b.I H ∧ ∀ x, a.M x → b.M x → False, fun H H' k i => ⟨a.loc H H' (fun x m => k x (.inl m)) i.1, b.loc H H' (fun x m => k x (.inr m)) i.2.1, i.2.2⟩, fun H x i m => m.elim (a.ex H x i.1) (b.ex H x i.2.1)⟩
instance amLe_l (a b : Am) : AmLe a (amAnd a b) := ⟨fun _ h => h.1, fun _ h => .inl h, fun _ _ i k h => ⟨h, b.keep i.2.1 fun x o m e => k x o (fun z => i.2.2 x z m) e, i.2.2⟩⟩
instance amLe_r (a b : Am) : AmLe b (amAnd a b) := ⟨fun _ h => h.2.1, fun _ h => .inr h, fun _ _ i k h => ⟨a.keep i.1 fun x o m e => k x o (fun z => i.2.2 x m z) e, h, i.2.2⟩⟩
end OA

namespace OA
open PySem PySem.Spec PyProof.Rows L2
abbrev DQ := W → Om → Prop
abbrev DT := Gm → Om → DQ → Prop
abbrev DB := Gm → Om → (Bool → Om → Prop) → Prop
abbrev DA := Gm → Om → (List W → Om → Prop) → Prop
abbrev DR2 := W → W → Om → DQ → Prop
abbrev DR1 := W → Om → DQ → Prop
abbrev DRC := List W → Om → DQ → Prop
abbrev DRM := W → List W → Om → DQ → Prop
class SE (K : PySem.W.Frag) (am : Am) (te : TE) (t : outParam DT) : Prop where
  run : ∀ {c : Cq am} {T : List Tp} {σ : L2.St} {Γ : Gm} {Ω : Om} {H : Hp} {Q : DQ} {R : VK}, DEnv K c T σ Γ Ω H → t Γ Ω Q → (∀ v w Ω' H', Q w Ω' → DEnv K c (.v w v :: T) σ Γ Ω' H' → R v H') → te σ H R
class ST (K : PySem.W.Frag) (am : Am) (tt : TT) (t : outParam DB) : Prop where
  run : ∀ {c : Cq am} {T : List Tp} {σ : L2.St} {Γ : Gm} {Ω : Om} {H : Hp} {Q : Bool → Om → Prop} {R : Bool → Hp → Prop}, DEnv K c T σ Γ Ω H → t Γ Ω Q → (∀ b Ω' H', Q b Ω' → DEnv K c T σ Γ Ω' H' → R b H') → tt σ H R
class SA (K : PySem.W.Frag) (am : Am) (ta : TA) (t : outParam DA) : Prop where
  run : ∀ {c : Cq am} {T : List Tp} {σ : L2.St} {Γ : Gm} {Ω : Om} {H : Hp} {Q : List W → Om → Prop} {R : List V → Hp → Prop}, DEnv K c T σ Γ Ω H → t Γ Ω Q → (∀ vs ws Ω' H', Q ws Ω' → DEnv K c T σ Γ Ω' H' → VOks K H' (Ex c Ω') ws vs → R vs H') → ta σ H R
class SR2 (K : PySem.W.Frag) (am : Am) (r : R2) (d : outParam DR2) : Prop where
  run : ∀ {c : Cq am} {T : List Tp} {σ : L2.St} {Γ : Gm} {Ω : Om} {H : Hp} {x y : V} {wx wy : W} {Q : DQ} {R : VK}, DEnv K c T σ Γ Ω H → VOk K H (Ex c Ω) wx x → VOk K H (Ex c Ω) wy y → d wx wy Ω Q → (∀ v w Ω' H', Q w Ω' → DEnv K c (.v w v :: T) σ Γ Ω' H' → R v H') → r x y H R
class SR1 (K : PySem.W.Frag) (am : Am) (r : V → Hp → VK → Prop) (d : outParam DR1) : Prop where
  run : ∀ {c : Cq am} {T : List Tp} {σ : L2.St} {Γ : Gm} {Ω : Om} {H : Hp} {x : V} {wx : W} {Q : DQ} {R : VK}, DEnv K c T σ Γ Ω H → VOk K H (Ex c Ω) wx x → d wx Ω Q → (∀ v w Ω' H', Q w Ω' → DEnv K c (.v w v :: T) σ Γ Ω' H' → R v H') → r x H R
class SRC (K : PySem.W.Frag) (am : Am) (r : List V → Hp → VK → Prop) (d : outParam DRC) : Prop where
  run : ∀ {c : Cq am} {T : List Tp} {σ : L2.St} {Γ : Gm} {Ω : Om} {H : Hp} {xs : List V} {ws : List W} {Q : DQ} {R : VK}, DEnv K c T σ Γ Ω H → VOks K H (Ex c Ω) ws xs → d ws Ω Q → (∀ v w Ω' H', Q w Ω' → DEnv K c (.v w v :: T) σ Γ Ω' H' → R v H') → r xs H R
class SRM (K : PySem.W.Frag) (am : Am) (r : V → List V → Hp → VK → Prop) (d : outParam DRM) : Prop where
  run : ∀ {c : Cq am} {T : List Tp} {σ : L2.St} {Γ : Gm} {Ω : Om} {H : Hp} {x : V} {w : W} {xs : List V} {ws : List W} {Q : DQ} {R : VK}, DEnv K c T σ Γ Ω H → VOk K H (Ex c Ω) w x → VOks K H (Ex c Ω) ws xs → d w ws Ω Q → (∀ v w Ω' H', Q w Ω' → DEnv K c (.v w v :: T) σ Γ Ω' H' → R v H') → r x xs H R
/-! views of values -/
def varR (o : Option (Option W)) (k : W → Prop) : Prop := match o with | some (some w) => k w | _ => False
def intW (w : W) (k : Int → Prop) : Prop := match w with | .sh (.int i) => k i | _ => False
def blW (w : W) (k : Bool → Prop) : Prop := match w with | .sh (.bl b) => k b | _ => False
def strW (w : W) (k : Str → Prop) : Prop := match w with | .sh (.str s) => k s | _ => False
def shW (w : W) (k : D → Prop) : Prop := match w with | .sh x => k x | _ => False
def tyW (w : W) (k : String → Prop) : Prop := match w with | .ty n => k n | _ => False
def tupW (w : W) (k : List D → Prop) : Prop := match w with | .sh (.tup xs) => k xs | _ => False
def seqW (Ω : Om) (w : W) (k : List W → Prop) : Prop := match w with
  | .sh (.lst xs) => k (xs.map .sh)
  | .pt p => match look Ω p with
    | some (.lst ws) => k ws
    | _ => False
  | _ => False
def dicW (Ω : Om) (w : W) (k : List Key → List W → Prop) : Prop := match w with
  | .sh (.dic ks xs) => k ks (xs.map .sh)
  | .pt p => match look Ω p with
    | some (.dic ks ws) => k ks ws
    | some (.lk _ _ ks ws) => k ks ws
    | _ => False
  | _ => False
def ownL (Ω : Om) (w : W) (k : Addr → List W → Prop) : Prop := match w with
  | .pt p => match look Ω p with
    | some (.lst ws) => k p ws
    | _ => False
  | _ => False
def ownD (Ω : Om) (w : W) (k : Addr → List Key → List W → Prop) : Prop := match w with
  | .pt p => match look Ω p with
    | some (.dic ks ws) => k p ks ws
    | _ => False
  | _ => False
def keyW (w : W) (k : Key → Prop) : Prop := match w with | .sh (.int i) => k (.inl i) | .sh (.str s) => k (.inr s) | _ => False
def shsW : List W → (List D → Prop) → Prop
  | [], k => k []
  | .sh x :: r, k => shsW r fun ds => k (x :: ds)
  | _ :: _, _ => False
def one1W (l : List W) (k : W → Prop) : Prop := match l with | [x] => k x | _ => False
def two2W (l : List W) (k : W → W → Prop) : Prop := match l with | [x, y] => k x y | _ => False
theorem shsW_map (ds : List D) (k : List D → Prop) : shsW (ds.map .sh) k = k ds := by
  induction ds generalizing k with
  | nil => rfl
  | cons d ds ih => exact ih _
section
variable {K : PySem.W.Frag} {am : Am} {c : Cq am} {T : List Tp} {σ : L2.St} {Γ : Gm} {Ω : Om} {H : Hp} {w : W} {v : V}
theorem varR_el {o : Option (Option W)} {k : W → Prop} (h : varR o k) : ∃ w, o = some (some w) ∧ k w := by
  unfold varR at h
  split at h
  · exact ⟨_, rfl, h⟩
  · exact h.elim
theorem intW_el {k : Int → Prop} (h : intW w k) : ∃ i, w = .sh (.int i) ∧ k i := by
  unfold intW at h
  split at h
  · exact ⟨_, rfl, h⟩
  · exact h.elim
theorem blW_el {k : Bool → Prop} (h : blW w k) : ∃ i, w = .sh (.bl i) ∧ k i := by
  unfold blW at h
  split at h
  · exact ⟨_, rfl, h⟩
  · exact h.elim
theorem strW_el {k : Str → Prop} (h : strW w k) : ∃ i, w = .sh (.str i) ∧ k i := by
  unfold strW at h
  split at h
  · exact ⟨_, rfl, h⟩
  · exact h.elim
theorem shW_el {k : D → Prop} (h : shW w k) : ∃ i, w = .sh i ∧ k i := by
  unfold shW at h
  split at h
  · exact ⟨_, rfl, h⟩
  · exact h.elim
theorem tyW_el {k : String → Prop} (h : tyW w k) : ∃ i, w = .ty i ∧ k i := by
  unfold tyW at h
  split at h
  · exact ⟨_, rfl, h⟩
  · exact h.elim
theorem tupW_el {k : List D → Prop} (h : tupW w k) : ∃ i, w = .sh (.tup i) ∧ k i := by
  unfold tupW at h
  split at h
  · exact ⟨_, rfl, h⟩
  · exact h.elim
theorem keyW_el {k : Key → Prop} (h : keyW w k) (hv : VOk K H (Ex c Ω) w v) : ∃ i, v = kV i ∧ k i := by
  unfold keyW at h
  split at h
  · exact ⟨.inl _, hv, h⟩
  · exact ⟨.inr _, hv, h⟩
  · exact h.elim
theorem one1W_el {l : List W} {vs : List V} {k : W → Prop} (h : one1W l k) (hv : VOks K H (Ex c Ω) l vs) : ∃ w v, vs = [v] ∧ VOk K H (Ex c Ω) w v ∧ k w := by
  unfold one1W at h
  split at h
  · obtain ⟨v, r, rfl, h1, rfl⟩ := hv
    exact ⟨_, v, rfl, h1, h⟩
  · exact h.elim
theorem two2W_el {l : List W} {vs : List V} {k : W → W → Prop} (h : two2W l k) (hv : VOks K H (Ex c Ω) l vs) : ∃ w v w2 v2, vs = [v, v2] ∧ VOk K H (Ex c Ω) w v ∧ VOk K H (Ex c Ω) w2 v2 ∧ k w w2 := by
  unfold two2W at h
  split at h
  · obtain ⟨v, r, rfl, h1, v2, r2, rfl, h2, rfl⟩ := hv
    exact ⟨_, v, _, v2, rfl, h1, h2, h⟩
  · exact h.elim
theorem shsW_el : ∀ {ws : List W} {k : List D → Prop}, shsW ws k → ∃ ds, ws = ds.map .sh ∧ k ds
  | [], k, h => ⟨[], rfl, h⟩
  | .sh x :: r, k, h => by
    obtain ⟨ds, e, z⟩ := shsW_el (ws := r) h
    exact ⟨x :: ds, by rw [e]; rfl, z⟩
  | .pt _ :: _, _, h => (show False from h).elim
  | .ty _ :: _, _, h => (show False from h).elim
theorem seqW_el {k : List W → Prop} (e : DEnv K c T σ Γ Ω H) (hv : VOk K H (Ex c Ω) w v) (h : seqW Ω w k) : ∃ a vs ws, v = .ref a ∧ H a = some (.lst vs) ∧ VOks K H (Ex c Ω) ws vs ∧ k ws := by
  unfold seqW at h
  split at h
  · obtain ⟨a, vs, rfl, n, ha, hl⟩ := hv
    exact ⟨a, vs, _, rfl, ha, VOks.sh_of hl, h⟩
  · split at h
    · rename_i ws hl
      obtain ⟨vs, h1, h2⟩ := e.ob _ (look_mem hl)
      exact ⟨_, vs, _, hv, h1, h2, h⟩
    · exact h.elim
  · exact h.elim
theorem tupW_at {k : List D → Prop} (hv : VOk K H (Ex c Ω) w v) (h : tupW w k) : ∃ a vs xs, v = .ref a ∧ H a = some (.tup vs) ∧ LayL K H (Ex c Ω) xs vs ∧ k xs := by
  obtain ⟨xs, rfl, z⟩ := tupW_el h
  obtain ⟨a, vs, rfl, n, ha, hl⟩ := hv
  exact ⟨a, vs, xs, rfl, ha, hl, z⟩
theorem dicW_el {k : List Key → List W → Prop} (e : DEnv K c T σ Γ Ω H) (hv : VOk K H (Ex c Ω) w v) (h : dicW Ω w k) : ∃ a ks vs ws, v = .ref a ∧ Rd H a (.dK (ks.zip vs)) ∧ ks.length = ws.length ∧ VOks K H (Ex c Ω) ws vs ∧ k ks ws := by
  unfold dicW at h
  split at h
  · obtain ⟨a, vs, rfl, n, ha, hn, hl⟩ := hv
    exact ⟨a, _, vs, _, rfl, .inl ha, by rw [List.length_map]; exact hn, VOks.sh_of hl, h⟩
  · split at h
    · rename_i ks ws hl
      obtain ⟨vs, h1, hn, h2⟩ := e.ob _ (look_mem hl)
      exact ⟨_, ks, vs, _, hv, .inl h1, hn, h2, h⟩
    · rename_i ks ws hl
      obtain ⟨vs, h1, rfl, hn, h2⟩ := e.ob _ (look_mem hl)
      exact ⟨_, ks, vs, _, hv, .inr ⟨_, h1⟩, hn, h2, h⟩
    · exact h.elim
  · exact h.elim
theorem ownL_el {k : Addr → List W → Prop} (e : DEnv K c T σ Γ Ω H) (hv : VOk K H (Ex c Ω) w v) (h : ownL Ω w k) : ∃ a vs ws, v = .ref a ∧ look Ω a = some (.lst ws) ∧ H a = some (.lst vs) ∧ VOks K H (Ex c Ω) ws vs ∧ k a ws := by
  unfold ownL at h
  split at h
  · split at h
    · rename_i ws hl
      obtain ⟨vs, h1, h2⟩ := e.ob _ (look_mem hl)
      exact ⟨_, vs, _, hv, hl, h1, h2, h⟩
    · exact h.elim
  · exact h.elim
theorem ownD_el {k : Addr → List Key → List W → Prop} (e : DEnv K c T σ Γ Ω H) (hv : VOk K H (Ex c Ω) w v) (h : ownD Ω w k) : ∃ a ks vs ws, v = .ref a ∧ look Ω a = some (.dic ks ws) ∧ H a = some (.dK (ks.zip vs)) ∧ ks.length = ws.length ∧ VOks K H (Ex c Ω) ws vs ∧ k a ks ws := by
  unfold ownD at h
  split at h
  · split at h
    · rename_i ks ws hl
      obtain ⟨vs, h1, hn, h2⟩ := e.ob _ (look_mem hl)
      exact ⟨_, ks, vs, _, hv, hl, h1, hn, h2, h⟩
    · exact h.elim
  · exact h.elim
theorem VOks.atI {E : Addr → Prop} {ws : List W} {vs : List V} (h : VOks K H E ws vs) {i : Int} {w : W} (e : L2.atI ws i = some w) : ∃ v, L2.atI vs i = some v ∧ VOk K H E w v := by
  unfold L2.atI at e ⊢
  rw [← h.len]
  cases q : ixN ws.length i with
  | none => rw [q] at e; cases e
  | some j =>
    rw [q] at e
    exact h.to j e
/-- pairs of a dict by their place -/
theorem valV_zip : ∀ {ks : List Key} {vs : List V} {ws : List W} {E : Addr → Prop} {k : Key} {w : W}, VOks K H E ws vs → ((ks.zip ws).find? fun q => decide (q.1 = k)).map (·.2) = some w → ∃ v, valV (ks.zip vs) k = some v ∧ VOk K H E w v
  | [], _, _, _, _, _, _, e => by simp at e
  | _ :: _, _, [], _, _, _, _, e => by simp at e
  | k0 :: ks, _, w0 :: ws, E, k, w, ⟨v, r, rfl, h1, h2⟩, e => by
    unfold valV
    rw [List.zip_cons_cons, List.find?_cons] at e ⊢
    by_cases z : k0 = k
    · simp only [z, decide_true] at e ⊢
      cases e
      exact ⟨v, rfl, h1⟩
    · simp only [z, decide_false] at e ⊢
      exact valV_zip h2 e
theorem valV_zipN : ∀ {ks : List Key} {vs : List V} {ws : List W} {k : Key}, ks.length = ws.length → VOks K H (Ex c Ω) ws vs → (valV (ks.zip vs) k).isSome = ks.any fun q => decide (q = k)
  | [], _, _, _, _, _ => rfl
  | k0 :: ks, _, [], k, hn, _ => by simp at hn
  | k0 :: ks, _, w0 :: ws, k, hn, ⟨v, r, rfl, h1, h2⟩ => by
    have ih := valV_zipN (k := k) (by simpa using hn) h2
    unfold valV at ih ⊢
    rw [List.zip_cons_cons, List.find?_cons]
    by_cases z : k0 = k
    · simp [z]
    · simp only [z, decide_false, ih]
      simp [z]
end
def dval (ks : List Key) (ws : List W) (k : Key) : Option W := ((ks.zip ws).find? fun q => decide (q.1 = k)).map (·.2)
/-! expressions -/
section
variable {K : PySem.W.Frag} {am : Am} {ta tb tc : TE} {da db dc : DT} {tq : TT} {dq : DB} {tas : TA} {das : DA}
def dVar (i : Nat) (Γ : Gm) (Ω : Om) (Q : DQ) : Prop := varR (Γ[i]?) fun w => Q w Ω
instance s_var (i : Nat) : SE K am (vVar i) (dVar i) := ⟨fun {c T σ Γ Ω H Q R} e h k => by
  obtain ⟨w, h1, h2⟩ := varR_el h
  obtain ⟨v, h3, h4⟩ := e.sl i w h1
  show optR _ _
  rw [h3]
  exact k v w Ω H h2 (e.addv h4)⟩
def cW : V → Option W
  | .non => some (.sh .non)
  | .bl b => some (.sh (.bl b))
  | .int i => some (.sh (.int i))
  | .str s => some (.sh (.str s))
  | .ty n => some (.ty n)
  | _ => none
def dC (v : V) (_Γ0 : Gm) (Ω : Om) (Q : DQ) : Prop := match cW v with | some w => Q w Ω | none => False
instance s_c (v : V) : SE K am (tC v) (dC v) := ⟨fun {c T σ Γ Ω H Q R} e h k => by
  unfold dC at h
  split at h
  · rename_i w hw
    refine k v w Ω H h (e.addv ?_)
    cases v <;> first | (cases hw; exact rfl) | cases hw
  · exact h.elim⟩
def dOp (r : DR2) (da db : DT) (Γ : Gm) (Ω : Om) (Q : DQ) : Prop := da Γ Ω fun x Ω1 => db Γ Ω1 fun y Ω2 => r x y Ω2 Q
instance s_op {r : R2} {d : DR2} [s1 : SE K am ta da] [s2 : SE K am tb db] [s3 : SR2 K am r d] : SE K am (tOp r ta tb) (dOp d da db) := ⟨fun {c T σ Γ Ω H Q R} e h k =>
  s1.run e h fun x wx Ω1 H1 h1 e1 => s2.run e1 h1 fun y wy Ω2 H2 h2 e2 => s3.run e2.drop.drop e2.drop.hd e2.hd h2 fun v w Ω' H' q e' => k v w Ω' H' q e'⟩
def dUn (r : DR1) (da : DT) (Γ : Gm) (Ω : Om) (Q : DQ) : Prop := da Γ Ω fun x Ω1 => r x Ω1 Q
instance s_un {r : V → Hp → VK → Prop} {d : DR1} [s1 : SE K am ta da] [s3 : SR1 K am r d] : SE K am (tUn r ta) (dUn d da) := ⟨fun {c T σ Γ Ω H Q R} e h k =>
  s1.run e h fun x wx Ω1 H1 h1 e1 => s3.run e1.drop e1.hd h1 fun v w Ω' H' q e' => k v w Ω' H' q e'⟩
def dNil (_Γ0 : Gm) (Ω : Om) (Q : List W → Om → Prop) : Prop := Q [] Ω
instance s_nil : SA K am tNil dNil := ⟨fun {c T σ Γ Ω H Q R} e h k => k [] [] Ω H h e rfl⟩
def dCons (da : DT) (das : DA) (Γ : Gm) (Ω : Om) (Q : List W → Om → Prop) : Prop := da Γ Ω fun w Ω1 => das Γ Ω1 fun ws Ω2 => Q (w :: ws) Ω2
instance s_cons [s1 : SE K am ta da] [s2 : SA K am tas das] : SA K am (tCons ta tas) (dCons da das) := ⟨fun {c T σ Γ Ω H Q R} e h k =>
  s1.run e h fun x wx Ω1 H1 h1 e1 => s2.run e1 h1 fun vs ws Ω2 H2 h2 e2 h3 => k (x :: vs) (wx :: ws) Ω2 H2 h2 e2.drop ⟨x, vs, rfl, e2.hd, h3⟩⟩
def dStar (da : DT) (das : DA) (Γ : Gm) (Ω : Om) (Q : List W → Om → Prop) : Prop := da Γ Ω fun w Ω1 => seqW Ω1 w fun us => shsW us fun ds => das Γ Ω1 fun ws Ω2 => Q (ds.map .sh ++ ws) Ω2
/-- what a shared thing is, however the heap goes on -/
theorem star_run {c : Cq am} {T : List Tp} {σ : L2.St} {Γ : Gm} {Ω : Om} {H : Hp} {vs : List V} {ds : List D} (e : DEnv K c T σ Γ Ω H) (h : VOks K H (Ex c Ω) (ds.map .sh) vs) : ∃ S : List Tp, DEnv K c (S ++ T) σ Γ Ω H ∧ ∀ {Ω' : Om} {H' : Hp}, DEnv K c (S ++ T) σ Γ Ω' H' → VOks K H' (Ex c Ω') (ds.map .sh) vs := by
  induction ds generalizing vs with
  | nil => exact ⟨[], e, fun _ => h⟩
  | cons d ds ih =>
    obtain ⟨v, r, rfl, h1, h2⟩ := h
    obtain ⟨S, e1, h3⟩ := ih h2
    exact ⟨.v (.sh d) v :: S, e1.addv h1, fun e' => ⟨v, r, rfl, e'.hd, h3 e'.drop⟩⟩
instance s_star [s1 : SE K am ta da] [s2 : SA K am tas das] : SA K am (vStar ta tas) (dStar da das) := ⟨fun {c T σ Γ Ω H Q R} e h k =>
  s1.run e h fun x wx Ω1 H1 h1 e1 => by
    obtain ⟨a, vs, us, rfl, ha, hu, h2⟩ := seqW_el e1.drop e1.hd h1
    obtain ⟨ds, rfl, h3⟩ := shsW_el h2
    obtain ⟨S, e2, h4⟩ := star_run e1.drop hu
    show lstO (H1 a) _
    rw [ha]
    exact s2.run e2 h3 fun ts ws Ω2 H2 h5 e3 h6 => k (vs ++ ts) _ Ω2 H2 h5 e3.drops ((h4 e3).app h6)⟩
/-- star of a tuple -/
def vStarT (te : TE) (t : TA) : TA := fun σ H Q => te σ H fun y H1 => refR y fun a => tupO (H1 a) fun xs => t σ H1 fun vs H2 => Q (xs ++ vs) H2
def dStarT (da : DT) (das : DA) (Γ : Gm) (Ω : Om) (Q : List W → Om → Prop) : Prop := da Γ Ω fun w Ω1 => tupW w fun ds => das Γ Ω1 fun ws Ω2 => Q (ds.map .sh ++ ws) Ω2
instance s_starT [s1 : SE K am ta da] [s2 : SA K am tas das] : SA K am (vStarT ta tas) (dStarT da das) := ⟨fun {c T σ Γ Ω H Q R} e h k =>
  s1.run e h fun x wx Ω1 H1 h1 e1 => by
    obtain ⟨a, vs, ds, rfl, ha, hu, h3⟩ := tupW_at e1.hd h1
    obtain ⟨S, e2, h4⟩ := star_run e1.drop (VOks.sh_of hu)
    show tupO (H1 a) _
    rw [ha]
    exact s2.run e2 h3 fun ts ws Ω2 H2 h5 e3 h6 => k (vs ++ ts) _ Ω2 H2 h5 e3.drops ((h4 e3).app h6)⟩
def lenOk {α : Type} (l : List α) : Prop := l.length ≤ sizeLine
theorem lenOk_of {α : Type} {l : List α} (h : l.length ≤ 16777216) : lenOk l := by unfold lenOk; rw [sizeLine_eq]; exact h
def dTup (das : DA) (Γ : Gm) (Ω : Om) (Q : DQ) : Prop := das Γ Ω fun ws Ω1 => shsW ws fun ds => lenOk ds ∧ Q (.sh (.tup ds)) Ω1
instance s_tup [s1 : SA K am tas das] : SE K am (tTup tas) (dTup das) := ⟨fun {c T σ Γ Ω H Q R} e h k =>
  s1.run e h fun vs ws Ω1 H1 h1 e1 hv => by
    obtain ⟨ds, rfl, hl, h2⟩ := shsW_el h1
    have n := hv.len
    rw [List.length_map] at n
    exact ⟨by rw [← n]; exact hl, fun p hp => k _ _ _ _ h2 (e1.tup hp hv.lay)⟩⟩
def dLst (das : DA) (Γ : Gm) (Ω : Om) (Q : DQ) : Prop := das Γ Ω fun ws Ω1 => shsW ws fun ds => lenOk ds ∧ Q (.sh (.lst ds)) Ω1
instance s_lst [s1 : SA K am tas das] : SE K am (tLst tas) (dLst das) := ⟨fun {c T σ Γ Ω H Q R} e h k =>
  s1.run e h fun vs ws Ω1 H1 h1 e1 hv => by
    obtain ⟨ds, rfl, hl, h2⟩ := shsW_el h1
    have n := hv.len
    rw [List.length_map] at n
    exact ⟨by rw [← n]; exact hl, fun p hp => k _ _ _ _ h2 (e1.lst hp hv.lay)⟩⟩
/-- the same things, to be changed by this run -/
def ownE (te : TE) : TE := te
theorem q_own {X : Cx} {e : Expr} (h : PE X e ta) : PE X e (ownE ta) := h
def notin (p : Addr) (Ω : Om) : Prop := p ∉ Ω.map (·.1)
def dLstO (das : DA) (Γ : Gm) (Ω : Om) (Q : DQ) : Prop := das Γ Ω fun ws Ω1 => lenOk ws ∧ ∀ p, notin p Ω1 → Q (.pt p) ((p, .lst ws) :: Ω1)
instance s_lstO [s1 : SA K am tas das] : SE K am (ownE (tLst tas)) (dLstO das) := ⟨fun {c T σ Γ Ω H Q R} e h k =>
  s1.run e h fun vs ws Ω1 H1 h1 e1 hv => by
    have n := hv.len
    exact ⟨by rw [← n]; exact h1.1, fun p hp => k _ _ _ _ (h1.2 p fun z => e1.noEx hp (.inr z)) (e1.own hp (e1.new hp) (.inl ⟨ws, vs, rfl, rfl, hv⟩))⟩⟩
def dAnd (da db : DT) (Γ : Gm) (Ω : Om) (Q : DQ) : Prop := da Γ Ω fun x Ω1 => blW x fun b => if b = true then db Γ Ω1 Q else Q (.sh (.bl false)) Ω1
instance s_and [s1 : SE K am ta da] [s2 : SE K am tb db] : SE K am (vAnd ta tb) (dAnd da db) := ⟨fun {c T σ Γ Ω H Q R} e h k =>
  s1.run e h fun x wx Ω1 H1 h1 e1 => by
    obtain ⟨b, rfl, h2⟩ := blW_el h1
    obtain rfl : x = .bl b := e1.hd
    show if b = true then _ else _
    cases b with
    | true => exact s2.run e1.drop h2 k
    | false => exact k _ _ _ _ h2 (e1.drop.addv rfl)⟩
def dOr (da db : DT) (Γ : Gm) (Ω : Om) (Q : DQ) : Prop := da Γ Ω fun x Ω1 => blW x fun b => if b = true then Q (.sh (.bl true)) Ω1 else db Γ Ω1 Q
instance s_or [s1 : SE K am ta da] [s2 : SE K am tb db] : SE K am (vOr ta tb) (dOr da db) := ⟨fun {c T σ Γ Ω H Q R} e h k =>
  s1.run e h fun x wx Ω1 H1 h1 e1 => by
    obtain ⟨b, rfl, h2⟩ := blW_el h1
    obtain rfl : x = .bl b := e1.hd
    show if b = true then _ else _
    cases b with
    | false => exact s2.run e1.drop h2 k
    | true => exact k _ _ _ _ h2 (e1.drop.addv rfl)⟩
def dNot (da : DT) (Γ : Gm) (Ω : Om) (Q : DQ) : Prop := da Γ Ω fun x Ω1 => blW x fun b => Q (.sh (.bl (!b))) Ω1
instance s_not [s1 : SE K am ta da] : SE K am (vNot ta) (dNot da) := ⟨fun {c T σ Γ Ω H Q R} e h k =>
  s1.run e h fun x wx Ω1 H1 h1 e1 => by
    obtain ⟨b, rfl, h2⟩ := blW_el h1
    obtain rfl : x = .bl b := e1.hd
    exact k _ _ _ _ h2 (e1.drop.addv rfl)⟩
def dIf (dq : DB) (da db : DT) (Γ : Gm) (Ω : Om) (Q : DQ) : Prop := dq Γ Ω fun b Ω1 => if b = true then da Γ Ω1 Q else db Γ Ω1 Q
instance s_if [s0 : ST K am tq dq] [s1 : SE K am ta da] [s2 : SE K am tb db] : SE K am (tIf tq ta tb) (dIf dq da db) := ⟨fun {c T σ Γ Ω H Q R} e h k =>
  s0.run e h fun b Ω1 H1 h1 e1 => by
    show if b = true then _ else _
    cases b with
    | true => exact s1.run e1 h1 k
    | false => exact s2.run e1 h1 k⟩
def dTest (da : DT) (Γ : Gm) (Ω : Om) (Q : Bool → Om → Prop) : Prop := da Γ Ω fun x Ω1 => blW x fun b => Q b Ω1
instance s_test [s1 : SE K am ta da] : ST K am (vTest ta) (dTest da) := ⟨fun {c T σ Γ Ω H Q R} e h k =>
  s1.run e h fun x wx Ω1 H1 h1 e1 => by
    obtain ⟨b, rfl, h2⟩ := blW_el h1
    obtain rfl : x = .bl b := e1.hd
    exact k _ _ _ h2 e1.drop⟩
def dYes (_Γ0 : Gm) (Ω : Om) (Q : Bool → Om → Prop) : Prop := Q true Ω
instance s_yes : ST K am tYes dYes := ⟨fun {c T σ Γ Ω H Q R} e h k => k _ _ _ h e⟩
def dChain (r r' : DR2) (da db dc : DT) (Γ : Gm) (Ω : Om) (Q : DQ) : Prop := da Γ Ω fun x Ω1 => db Γ Ω1 fun y Ω2 => r x y Ω2 fun z Ω3 => blW z fun b => if b = true then dc Γ Ω3 fun u Ω4 => r' y u Ω4 Q else Q (.sh (.bl false)) Ω3
instance s_chain {r r' : R2} {d d' : DR2} [s1 : SE K am ta da] [s2 : SE K am tb db] [s3 : SE K am tc dc] [s4 : SR2 K am r d] [s5 : SR2 K am r' d'] : SE K am (vChain r r' ta tb tc) (dChain d d' da db dc) := ⟨fun {c T σ Γ Ω H Q R} e h k =>
  s1.run e h fun x wx Ω1 H1 h1 e1 => s2.run e1 h1 fun y wy Ω2 H2 h2 e2 => s4.run e2 e2.drop.hd e2.hd h2 fun z wz Ω3 H3 h3 e3 => by
    obtain ⟨b, rfl, h4⟩ := blW_el h3
    obtain rfl : z = .bl b := e3.hd
    show if b = true then _ else _
    cases b with
    | true => exact s3.run e3.drop h4 fun u wu Ω4 H4 h5 e4 => s5.run e4.drop.drop.drop e4.drop.hd e4.hd h5 k
    | false => exact k _ _ _ _ h4 (e3.drop.drop.drop.addv rfl)⟩
def dCall (r : DRC) (das : DA) (Γ : Gm) (Ω : Om) (Q : DQ) : Prop := das Γ Ω fun ws Ω1 => r ws Ω1 Q
instance s_cb {r : List V → Hp → VK → Prop} {d : DRC} [s1 : SA K am tas das] [s2 : SRC K am r d] : SE K am (tCB r tas) (dCall d das) := ⟨fun {c T σ Γ Ω H Q R} e h k =>
  s1.run e h fun vs ws Ω1 H1 h1 e1 hv => s2.run e1 hv h1 k⟩
end
end OA

namespace OA
open PySem PySem.Spec PyProof.Rows L2
structure DN where
  nx : Gm → Om → Prop
  rt : W → Om → Prop
  bk : Gm → Om → Prop
  ct : Gm → Om → Prop
abbrev DS := DN → Gm → Om → Prop
abbrev DG := W → Gm → Om → (Gm → Om → Prop) → Prop
abbrev DGs := List W → Gm → Om → (Gm → Om → Prop) → Prop
abbrev DI := Gm → Om → (List W → Om → Prop) → Prop
structure EndsOk (K : PySem.W.Frag) {am : Am} (c : Cq am) (T : List Tp) (D : Ends) (N : DN) : Prop where
  nx : ∀ σ Γ Ω H, N.nx Γ Ω → DEnv K c T σ Γ Ω H → D.nx σ H
  rt : ∀ v w σ Γ Ω H, N.rt w Ω → DEnv K c (.v w v :: T) σ Γ Ω H → D.rt v H
  bk : ∀ σ Γ Ω H, N.bk Γ Ω → DEnv K c T σ Γ Ω H → D.bk σ H
  ct : ∀ σ Γ Ω H, N.ct Γ Ω → DEnv K c T σ Γ Ω H → D.ct σ H
class SS (K : PySem.W.Frag) (am : Am) (ts : TS) (t : outParam DS) : Prop where
  run : ∀ {c : Cq am} {T : List Tp} {σ : L2.St} {Γ : Gm} {Ω : Om} {H : Hp} {D : Ends} {N : DN}, DEnv K c T σ Γ Ω H → t N Γ Ω → EndsOk K c T D N → ts D σ H
class SG (K : PySem.W.Frag) (am : Am) (g : TG) (d : outParam DG) (ix : outParam (List Nat)) : Prop where
  run : ∀ {c : Cq am} {T : List Tp} {σ : L2.St} {Γ : Gm} {Ω : Om} {H : Hp} {v : V} {w : W} {Q : Gm → Om → Prop} {R : L2.St → Hp → Prop}, DEnv K c T σ Γ Ω H → VOk K H (Ex c Ω) w v → d w Γ Ω Q →
    (∀ σ' Γ' Ω' H', Q Γ' Ω' → DEnv K c T σ' Γ' Ω' H' → (∀ vs, (∀ i ∈ ix, i ∈ vs) → wipe σ' vs = wipe σ vs) → R σ' H') → g v σ H R
class SGs (K : PySem.W.Frag) (am : Am) (g : TGs) (d : outParam DGs) (ix : outParam (List Nat)) : Prop where
  run : ∀ {c : Cq am} {T : List Tp} {σ : L2.St} {Γ : Gm} {Ω : Om} {H : Hp} {vs : List V} {ws : List W} {Q : Gm → Om → Prop} {R : L2.St → Hp → Prop}, DEnv K c T σ Γ Ω H → VOks K H (Ex c Ω) ws vs → d ws Γ Ω Q →
    (∀ σ' Γ' Ω' H', Q Γ' Ω' → DEnv K c T σ' Γ' Ω' H' → (∀ vs, (∀ i ∈ ix, i ∈ vs) → wipe σ' vs = wipe σ vs) → R σ' H') → g vs σ H R
class SI (K : PySem.W.Frag) (am : Am) (wi : TI) (d : outParam DI) : Prop where
  run : ∀ {c : Cq am} {T : List Tp} {σ : L2.St} {Γ : Gm} {Ω : Om} {H : Hp} {Q : List W → Om → Prop} {R : It → Hp → Prop}, DEnv K c T σ Γ Ω H → d Γ Ω Q →
    (∀ J H' ws Ω' T' G Y, Q ws Ω' → DEnv K c (T' ++ T) σ Γ Ω' H' → Walk J ws.length G Y → (∀ σ Γ Ω H, DEnv K c (T' ++ T) σ Γ Ω H → G H) →
      (∀ (S : List Tp) i x σ Γ Ω H H', i < ws.length → DEnv K c (S ++ (T' ++ T)) σ Γ Ω H → Y i H x H' → ∃ w, ws[i]? = some w ∧ DEnv K c (.v w x :: (S ++ (T' ++ T))) σ Γ Ω H') → R J H') → wi σ H R
/-! own things given away -/
def subW (p : Addr) (d : D) : W → W
  | .pt q => if q = p then .sh d else .pt q
  | w => w
def subO (p : Addr) (d : D) : OD → OD
  | .lst ws => .lst (ws.map (subW p d))
  | .dic ks ws => .dic ks (ws.map (subW p d))
  | .lk o kvs ks ws => .lk o kvs ks (ws.map (subW p d))
def subG (p : Addr) (d : D) (Γ : Gm) : Gm := Γ.map (·.map (subW p d))
def subΩ (p : Addr) (d : D) (Ω : Om) : Om := (Ω.filter fun q => decide (q.1 ≠ p)).map fun q => (q.1, subO p d q.2)
inductive Fz1 (Ω : Om) (p : Addr) : D → Prop
  | lst {ds : List D} : look Ω p = some (.lst (ds.map .sh)) → Fz1 Ω p (.lst ds)
  | dic {ks : List Key} {ds : List D} : look Ω p = some (.dic ks (ds.map .sh)) → Fz1 Ω p (.dic ks ds)
section
variable {K : PySem.W.Frag} {am : Am} {c : Cq am} {T : List Tp} {σ : L2.St} {Γ : Gm} {Ω : Om} {H : Hp}
theorem subW_ok {E : Addr → Prop} {p : Addr} {d : D} (h : Lay K H E d (.ref p)) {w : W} {v : V} (hv : VOk K H E w v) : VOk K H E (subW p d w) v := by
  cases w with
  | sh x => exact hv
  | ty n => exact hv
  | pt q =>
    unfold subW
    by_cases z : q = p
    · simp only [z, if_true]
      rw [show v = .ref q from hv, z]
      exact h
    · simp only [z, if_false]
      exact hv
theorem subW_oks {E : Addr → Prop} {p : Addr} {d : D} (h : Lay K H E d (.ref p)) : ∀ {ws : List W} {vs : List V}, VOks K H E ws vs → VOks K H E (ws.map (subW p d)) vs
  | [], _, hv => hv
  | _ :: _, _, ⟨v, r, e, h1, h2⟩ => ⟨v, r, e, subW_ok h h1, subW_oks h h2⟩
theorem subΩ_keys {p : Addr} {d : D} (b : Addr) : b ∈ (subΩ p d Ω).map (·.1) ↔ b ∈ Ω.map (·.1) ∧ b ≠ p := by
  unfold subΩ
  rw [List.map_map, List.mem_map, List.mem_map]
  constructor
  · rintro ⟨q, hq, rfl⟩
    obtain ⟨h1, h2⟩ := List.mem_filter.mp hq
    exact ⟨⟨q, h1, rfl⟩, of_decide_eq_true h2⟩
  · rintro ⟨⟨q, hq, rfl⟩, n⟩
    exact ⟨q, List.mem_filter.mpr ⟨hq, decide_eq_true n⟩, rfl⟩
theorem DEnv.frz {p : Addr} {d : D} (e : DEnv K c T σ Γ Ω H) (f : Fz1 Ω p d) : DEnv K c T σ (subG p d Γ) (subΩ p d Ω) H := by
  have hin : p ∈ Ω.map (·.1) := by cases f with
    | lst h => exact List.mem_map.mpr ⟨_, look_mem h, rfl⟩
    | dic h => exact List.mem_map.mpr ⟨_, look_mem h, rfl⟩
  have le : ∀ b, ¬ Ex c Ω b → ¬ Ex c (subΩ p d Ω) b := fun b n z => by
    rcases z with z | z
    · exact n (.inl z)
    · exact n (.inr ((subΩ_keys b).mp z).1)
  have kx : ∀ b o, ¬ Ex c Ω b → H b = some o → ¬ Ex c (subΩ p d Ω) b ∧ H b = some o := fun b o n h => ⟨le b n, h⟩
  have np : ¬ Ex c (subΩ p d Ω) p := fun z => by
    rcases z with z | z
    · exact (e.fr p hin).2 z
    · exact ((subΩ_keys p).mp z).2 rfl
  have lay : Lay K H (Ex c (subΩ p d Ω)) d (.ref p) := by
    cases f with
    | lst h =>
      obtain ⟨vs, h1, h2⟩ := e.ob _ (look_mem h)
      exact ⟨p, vs, rfl, np, h1, (h2.mono kx).lay⟩
    | dic h =>
      obtain ⟨vs, h1, hn, h2⟩ := e.ob _ (look_mem h)
      exact ⟨p, vs, rfl, np, h1, by rw [List.length_map] at hn; exact hn, (h2.mono kx).lay⟩
  refine ⟨by unfold subG; rw [List.length_map]; exact e.len, fun j w h => ?_, fun t ht => (e.tm t ht).mono kx, fun q hq => ?_, ?_, fun q hq => e.fr q ((subΩ_keys q).mp hq).1, e.el, e.frm, e.inv⟩
  · unfold subG at h
    rw [List.getElem?_map] at h
    cases q : Γ[j]? with
    | none => rw [q] at h; cases h
    | some o =>
      rw [q] at h
      cases o with
      | none => cases h
      | some w0 =>
        cases h
        obtain ⟨v, h1, h2⟩ := e.sl j w0 q
        exact ⟨v, h1, subW_ok lay (h2.mono kx)⟩
  · obtain ⟨r, hr, rfl⟩ := List.mem_map.mp hq
    have ho := (e.ob r (List.mem_filter.mp hr).1).mono kx fun _ h => h
    obtain ⟨r1, r2⟩ := r
    cases r2 with
    | lst ws =>
      obtain ⟨vs, h1, h2⟩ := ho
      exact ⟨vs, h1, subW_oks lay h2⟩
    | dic ks ws =>
      obtain ⟨vs, h1, hn, h2⟩ := ho
      exact ⟨vs, h1, by rw [List.length_map]; exact hn, subW_oks lay h2⟩
    | lk o kvs ks ws =>
      obtain ⟨vs, h1, hz, hn, h2⟩ := ho
      exact ⟨vs, h1, hz, by rw [List.length_map]; exact hn, subW_oks lay h2⟩
  · unfold subΩ
    rw [List.map_map]
    have : ((Ω.filter fun q => decide (q.1 ≠ p)).map (·.1)).Nodup := List.Nodup.sublist (List.Sublist.map _ List.filter_sublist) e.nd
    exact this
end
/-- what was built is no longer changed -/
theorem DEnv.unown {K : PySem.W.Frag} {am : Am} {c : Cq am} {T : List Tp} {σ : L2.St} {Γ : Gm} {Ω : Om} {H : Hp} {p : Addr} {ds : List D} (e : DEnv K c T σ Γ ((p, .lst (ds.map .sh)) :: Ω) H) (n : notin p Ω) : DEnv K c (.v (.sh (.lst ds)) (.ref p) :: T) σ Γ Ω H := by
  have kx : ∀ b o, ¬ Ex c ((p, .lst (ds.map .sh)) :: Ω) b → H b = some o → ¬ Ex c Ω b ∧ H b = some o := fun b o n h => ⟨fun z => n (z.elim .inl fun z => .inr (List.mem_cons_of_mem _ z)), h⟩
  obtain ⟨vs, a1, a2⟩ := e.ob _ List.mem_cons_self
  have np : ¬ Ex c Ω p := fun z => z.elim (e.fr p List.mem_cons_self).2 n
  refine ⟨e.len, fun j w h => ?_, fun t ht => ?_, fun q hq => (e.ob q (List.mem_cons_of_mem _ hq)).mono kx fun _ h => h, (List.nodup_cons.mp e.nd).2, fun q hq => e.fr q (List.mem_cons_of_mem _ hq), e.el, e.frm, e.inv⟩
  · obtain ⟨v, h1, h2⟩ := e.sl j w h
    exact ⟨v, h1, h2.mono kx⟩
  · rcases List.mem_cons.mp ht with rfl | ht
    · exact ⟨p, vs, rfl, np, a1, (a2.mono kx).lay⟩
    · exact (e.tm t ht).mono kx
/-- what comes later; own things may be given away first -/
inductive LaterD (P : Gm → Om → Prop) : Gm → Om → Prop
  | mk {Γ : Gm} {Ω : Om} : P Γ Ω → LaterD P Γ Ω
  | frz {Γ : Gm} {Ω : Om} (p : Addr) (d : D) : Fz1 Ω p d → LaterD P (subG p d Γ) (subΩ p d Ω) → LaterD P Γ Ω
theorem LaterD.run {K : PySem.W.Frag} {am : Am} {c : Cq am} {T : List Tp} {σ : L2.St} {H : Hp} {P : Gm → Om → Prop} : ∀ {Γ : Gm} {Ω : Om}, LaterD P Γ Ω → DEnv K c T σ Γ Ω H → ∃ Γ' Ω', P Γ' Ω' ∧ DEnv K c T σ Γ' Ω' H := fun h => by
  induction h with
  | mk h => exact fun e => ⟨_, _, h, e⟩
  | frz p d f _ ih => exact fun e => ih (e.frz f)
section
variable {K : PySem.W.Frag} {am : Am} {ts us : TS} {dt du : DS} {te : TE} {de : DT} {tq : TT} {dq : DB}
def dNext (N : DN) (Γ : Gm) (Ω : Om) : Prop := N.nx Γ Ω
instance s_next : SS K am tNext dNext := ⟨fun {c T σ Γ Ω H D N} e h o => o.nx _ _ _ _ h e⟩
def dNever (_N0 : DN) (_Γ0 : Gm) (_Ω0 : Om) : Prop := False
instance s_never : SS K am tNever dNever := ⟨fun {c T σ Γ Ω H D N} e h o => h.elim⟩
def dSeq (dt du : DS) (N : DN) (Γ : Gm) (Ω : Om) : Prop := dt ⟨LaterD (du N), N.rt, N.bk, N.ct⟩ Γ Ω
instance s_seq [s1 : SS K am ts dt] [s2 : SS K am us du] : SS K am (vSeq ts us) (dSeq dt du) := ⟨fun {c T σ Γ Ω H D N} e h o =>
  s1.run e h ⟨fun σ' Γ' Ω' H' h' e' => by
    obtain ⟨Γ2, Ω2, h2, e2⟩ := h'.run e'
    exact s2.run e2 h2 o, o.rt, o.bk, o.ct⟩⟩
def dDrop (de : DT) (N : DN) (Γ : Gm) (Ω : Om) : Prop := de Γ Ω fun _ Ω1 => N.nx Γ Ω1
instance s_drop [s1 : SE K am te de] : SS K am (tDrop te) (dDrop de) := ⟨fun {c T σ Γ Ω H D N} e h o => s1.run e h fun v w Ω' H' q e' => o.nx _ _ _ _ q e'.drop⟩
def dRet (de : DT) (N : DN) (Γ : Gm) (Ω : Om) : Prop := de Γ Ω N.rt
instance s_ret [s1 : SE K am te de] : SS K am (tRet te) (dRet de) := ⟨fun {c T σ Γ Ω H D N} e h o => s1.run e h fun v w Ω' H' q e' => o.rt _ _ _ _ _ _ q e'⟩
def dRetN (N : DN) (_Γ0 : Gm) (Ω : Om) : Prop := N.rt (.sh .non) Ω
instance s_retN : SS K am tRetN dRetN := ⟨fun {c T σ Γ Ω H D N} e h o => o.rt _ _ _ _ _ _ h (e.addv rfl)⟩
def dIfS (dq : DB) (dt du : DS) (N : DN) (Γ : Gm) (Ω : Om) : Prop := dq Γ Ω fun b Ω1 => if b = true then LaterD (dt N) Γ Ω1 else LaterD (du N) Γ Ω1
instance s_ifS [s0 : ST K am tq dq] [s1 : SS K am ts dt] [s2 : SS K am us du] : SS K am (vIf tq ts us) (dIfS dq dt du) := ⟨fun {c T σ Γ Ω H D N} e h o =>
  s0.run e h fun b Ω1 H1 h1 e1 => by
    show if b = true then _ else _
    cases b with
    | true =>
      obtain ⟨Γ2, Ω2, h2, e2⟩ := LaterD.run h1 e1
      exact s1.run e2 h2 o
    | false =>
      obtain ⟨Γ2, Ω2, h2, e2⟩ := LaterD.run h1 e1
      exact s2.run e2 h2 o⟩
/-- own midway -/
def dCut (dt : DS) (N : DN) (Γ : Gm) (Ω : Om) : Prop := ∃ P : Gm → Om → Prop, (∀ Γ' Ω', P Γ' Ω' → N.nx Γ' Ω') ∧ dt ⟨P, N.rt, N.bk, N.ct⟩ Γ Ω
instance s_cut [s1 : SS K am ts dt] : SS K am (vCut ts) (dCut dt) := ⟨fun {c T σ Γ Ω H D N} e h o => by
  obtain ⟨P, h1, h2⟩ := h
  exact ⟨D.nx, fun _ _ z => z, s1.run e h2 ⟨fun σ' Γ' Ω' H' q e' => o.nx _ _ _ _ (h1 _ _ q) e', o.rt, o.bk, o.ct⟩⟩⟩
/-! stores -/
def dName (i : Nat) (w : W) (Γ : Gm) (Ω : Om) (Q : Gm → Om → Prop) : Prop := Q (Γ.set i (some w)) Ω
theorem wipe_at (σ : L2.St) : ∀ (vs : List Nat) (j : Nat), (wipe σ vs)[j]? = if j ∈ vs then (σ[j]?).map fun _ => none else σ[j]?
  | [], j => by simp [wipe]
  | v :: vs, j => by
    unfold wipe
    rw [List.getElem?_set, wipe_length, wipe_at σ vs j]
    by_cases z : v = j
    · subst z
      rw [if_pos rfl, if_pos List.mem_cons_self]
      by_cases hl : v < σ.length
      · rw [if_pos hl, List.getElem?_eq_getElem hl]; rfl
      · rw [if_neg hl, List.getElem?_eq_none (by omega)]; rfl
    · rw [if_neg z]
      have : (j ∈ v :: vs) = (j ∈ vs) := by
        rw [List.mem_cons]
        exact propext ⟨fun h => h.elim (fun h => absurd h.symm z) id, .inr⟩
      simp only [this]
theorem wipe_set {σ : L2.St} {i : Nat} {x : Option V} {vs : List Nat} (h : i ∈ vs) : wipe (σ.set i x) vs = wipe σ vs := by
  refine List.ext_getElem? fun j => ?_
  rw [wipe_at, wipe_at, List.getElem?_set]
  by_cases z : i = j
  · subst z
    rw [if_pos rfl, if_pos h, if_pos h]
    by_cases hl : i < σ.length
    · rw [if_pos hl, List.getElem?_eq_getElem hl]; rfl
    · rw [if_neg hl, List.getElem?_eq_none (by omega)]
  · rw [if_neg z]
theorem wipe_wipe {σ : L2.St} {vs : List Nat} : wipe (wipe σ vs) vs = wipe σ vs := by
  refine List.ext_getElem? fun j => ?_
  rw [wipe_at, wipe_at]
  split
  · cases σ[j]? <;> rfl
  · rfl
instance s_name (i : Nat) : SG K am (gName i) (dName i) [i] := ⟨fun {c T σ Γ Ω H v w Q R} e hv h k => k _ _ _ _ h (e.set hv) fun vs hi => wipe_set (hi i (List.mem_singleton.mpr rfl))⟩
def dGnil (ws : List W) (Γ : Gm) (Ω : Om) (Q : Gm → Om → Prop) : Prop := ws = [] ∧ Q Γ Ω
instance s_gnil : SGs K am vgNil dGnil [] := ⟨fun {c T σ Γ Ω H vs ws Q R} e hv h k => by
  obtain ⟨rfl, h⟩ := h
  obtain rfl : vs = [] := hv
  exact ⟨rfl, k _ _ _ _ h e fun _ _ => rfl⟩⟩
def dGcons (g : DG) (gs : DGs) (ws : List W) (Γ : Gm) (Ω : Om) (Q : Gm → Om → Prop) : Prop := match ws with | w :: r => g w Γ Ω fun Γ1 Ω1 => gs r Γ1 Ω1 Q | [] => False
theorem oks_keep {c : Cq am} {T : List Tp} {σ : L2.St} {Γ : Gm} {Ω : Om} {H : Hp} {ws : List W} {vs : List V} (e : DEnv K c T σ Γ Ω H) (h : VOks K H (Ex c Ω) ws vs) : ∃ S : List Tp, DEnv K c (S ++ T) σ Γ Ω H ∧ ∀ {σ' : L2.St} {Γ' : Gm} {Ω' : Om} {H' : Hp}, DEnv K c (S ++ T) σ' Γ' Ω' H' → VOks K H' (Ex c Ω') ws vs := by
  induction ws generalizing vs with
  | nil => exact ⟨[], e, fun _ => h⟩
  | cons d ds ih =>
    obtain ⟨v, r, rfl, h1, h2⟩ := h
    obtain ⟨S, e1, h3⟩ := ih h2
    exact ⟨.v d v :: S, e1.addv h1, fun e' => ⟨v, r, rfl, e'.hd, h3 e'.drop⟩⟩
instance s_gcons {g : TG} {gs : TGs} {d : DG} {ds : DGs} {i1 i2 : List Nat} [s1 : SG K am g d i1] [s2 : SGs K am gs ds i2] : SGs K am (vgCons g gs) (dGcons d ds) (i1 ++ i2) := ⟨fun {c T σ Γ Ω H vs ws Q R} e hv h k => by
  cases ws with
  | nil => exact (show False from h).elim
  | cons w r =>
    obtain ⟨v, rs, rfl, h1, h2⟩ := hv
    obtain ⟨S, e1, h3⟩ := oks_keep e h2
    exact s1.run (T := S ++ T) e1 ((e1.add (t := .v w v) (by exact h1)).hd) h fun σ' Γ' Ω' H' q e' hw => s2.run e'.drops (h3 e') q fun σ2 Γ2 Ω2 H2 q2 e2 hw2 => k _ _ _ _ q2 e2 fun vs hi => by
      rw [hw2 vs fun i h => hi i (List.mem_append_right _ h), hw vs fun i h => hi i (List.mem_append_left _ h)]⟩
def dGtup (n : Nat) (gs : DGs) (w : W) (Γ : Gm) (Ω : Om) (Q : Gm → Om → Prop) : Prop := tupW w fun ds => ds.length = n ∧ gs (ds.map .sh) Γ Ω Q
instance s_gtup {n : Nat} {gs : TGs} {ds : DGs} {ix : List Nat} [s1 : SGs K am gs ds ix] : SG K am (vgTup n gs) (dGtup n ds) ix := ⟨fun {c T σ Γ Ω H v w Q R} e hv h k => by
  obtain ⟨a, vs, xs, rfl, ha, hl, hn, h2⟩ := tupW_at hv h
  show tupO (H a) _
  rw [ha]
  exact ⟨by rw [← hl.len]; exact hn, s1.run e (VOks.sh_of hl) h2 k⟩⟩
def dAsg (de : DT) (g : DG) (N : DN) (Γ : Gm) (Ω : Om) : Prop := de Γ Ω fun w Ω1 => g w Γ Ω1 N.nx
instance s_asg {g : TG} {d : DG} {ix : List Nat} [s1 : SE K am te de] [s2 : SG K am g d ix] : SS K am (tAsg te g) (dAsg de d) := ⟨fun {c T σ Γ Ω H D N} e h o =>
  s1.run e h fun v w Ω' H' q e' => s2.run e'.drop e'.hd q fun σ2 Γ2 Ω2 H2 q2 e2 _ => o.nx _ _ _ _ q2 e2⟩
def dAug (i : Nat) (de : DT) (g : Int → Int → Int) (N : DN) (Γ : Gm) (Ω : Om) : Prop := varR (Γ[i]?) fun x => de Γ Ω fun y Ω1 => intW x fun m => intW y fun n => N.nx (Γ.set i (some (.sh (.int (g m n))))) Ω1
instance s_aug {i : Nat} {g : Int → Int → Int} [s1 : SE K am te de] : SS K am (vAug i te g) (dAug i de g) := ⟨fun {c T σ Γ Ω H D N} e h o => by
  obtain ⟨w, h1, h2⟩ := varR_el h
  obtain ⟨v, h3, h4⟩ := e.sl i w h1
  show optR _ _
  rw [h3]
  refine s1.run (T := .v w v :: T) (e.addv h4) h2 fun y wy Ω' H' q e' => ?_
  have hx := e'.drop.hd
  obtain ⟨m, rfl, q1⟩ := intW_el q
  obtain ⟨n, rfl, q2⟩ := intW_el q1
  obtain rfl : v = .int m := hx
  obtain rfl : y = .int n := e'.hd
  exact o.nx _ _ _ _ q2 (e'.drop.drop.set rfl)⟩
/-! loops -/
def dWhile (dq : DB) (dt : DS) (N : DN) (Γ : Gm) (Ω : Om) : Prop := ∃ (Pv : Nat → Gm → Om → Prop) (m0 : Nat), Pv m0 Γ Ω ∧ ∀ m Γ Ω, Pv m Γ Ω → dq Γ Ω fun b Ω1 => if b = true then LaterD (dt ⟨fun Γ' Ω' => ∃ m', m' < m ∧ Pv m' Γ' Ω', N.rt, N.nx, fun Γ' Ω' => ∃ m', m' < m ∧ Pv m' Γ' Ω'⟩) Γ Ω1 else LaterD N.nx Γ Ω1
instance s_while [s0 : ST K am tq dq] [s1 : SS K am ts dt] : SS K am (vWhile tq ts) (dWhile dq dt) := ⟨fun {c T σ Γ Ω H D N} e h o => by
  obtain ⟨Pv, m0, h0, hs⟩ := h
  refine ⟨fun m σ H => ∃ Γ Ω, Pv m Γ Ω ∧ DEnv K c T σ Γ Ω H, m0, ⟨Γ, Ω, h0, e⟩, fun m σ H ⟨Γ, Ω, p, e⟩ => s0.run e (hs m Γ Ω p) fun b Ω1 H1 h1 e1 => ?_⟩
  cases b with
  | true =>
    obtain ⟨Γ2, Ω2, h2, e2⟩ := LaterD.run h1 e1
    exact s1.run e2 h2 ⟨fun σ' Γ' Ω' H' ⟨m', hm, p'⟩ e' => ⟨m', hm, Γ', Ω', p', e'⟩, o.rt, o.nx, fun σ' Γ' Ω' H' ⟨m', hm, p'⟩ e' => ⟨m', hm, Γ', Ω', p', e'⟩⟩
  | false =>
    obtain ⟨Γ2, Ω2, h2, e2⟩ := LaterD.run h1 e1
    exact o.nx _ _ _ _ h2 e2⟩
def dFor (di : DI) (g : DG) (dt : DS) (N : DN) (Γ : Gm) (Ω : Om) : Prop := di Γ Ω fun ws Ω1 => ∃ Pv : Nat → Gm → Om → Prop, Pv 0 Γ Ω1 ∧ (∀ i w Γ Ω, ws[i]? = some w → Pv i Γ Ω → g w Γ Ω fun Γ2 Ω2 => LaterD (dt ⟨Pv (i + 1), N.rt, N.nx, Pv (i + 1)⟩) Γ2 Ω2) ∧ ∀ Γ Ω, Pv ws.length Γ Ω → LaterD N.nx Γ Ω
theorem EndsOk.more {c : Cq am} {S T : List Tp} {D : Ends} {N : DN} (o : EndsOk K c T D N) : EndsOk K c (S ++ T) D N := ⟨fun _ _ _ _ h e => o.nx _ _ _ _ h e.drops, fun v w σ Γ Ω H h e => o.rt v w _ _ _ _ h (e.drop.drops.addv e.hd), fun _ _ _ _ h e => o.bk _ _ _ _ h e.drops, fun _ _ _ _ h e => o.ct _ _ _ _ h e.drops⟩
instance s_for {wi : TI} {di : DI} {g : TG} {d : DG} {ix : List Nat} [s0 : SI K am wi di] [s1 : SG K am g d ix] [s2 : SS K am ts dt] : SS K am (vFor wi g ts) (dFor di d dt) := ⟨fun {c T σ Γ Ω H D N} e h o =>
  s0.run e h fun J H1 ws Ω1 T' G Y q e1 hw hG hY => by
    obtain ⟨Pv, p0, ps, pe⟩ := q
    have om : EndsOk K c (T' ++ T) D N := o.more
    refine ⟨ws.length, G, Y, fun i σ H => ∃ Γ Ω, Pv i Γ Ω ∧ DEnv K c (T' ++ T) σ Γ Ω H, hw, ⟨Γ, Ω1, p0, e1⟩, fun i σ H _ ⟨Γ, Ω, _, e⟩ => hG σ Γ Ω H e, fun i x σ H H' hi ⟨Γ, Ω, p, e⟩ y => ?_, fun σ H ⟨Γ, Ω, p, e⟩ => ?_⟩
    · obtain ⟨w, hw, e2⟩ := hY [] i x σ Γ Ω H H' hi e y
      refine s1.run e2.drop e2.hd (ps i w Γ Ω hw p) fun σ2 Γ2 Ω2 H2 q2 e3 _ => ?_
      obtain ⟨Γ3, Ω3, h3, e4⟩ := LaterD.run q2 e3
      exact s2.run e4 h3 ⟨fun σ' Γ' Ω' H' p' e' => ⟨Γ', Ω', p', e'⟩, om.rt, om.nx, fun σ' Γ' Ω' H' p' e' => ⟨Γ', Ω', p', e'⟩⟩
    · obtain ⟨Γ3, Ω3, h3, e4⟩ := LaterD.run (pe Γ Ω p) e
      exact om.nx _ _ _ _ h3 e4⟩
/-! comprehensions -/
def wipeG (Γ : Gm) : List Nat → Gm
  | [] => Γ
  | v :: vs => (wipeG Γ vs).set v none
theorem wipeG_len (Γ : Gm) : ∀ vs, (wipeG Γ vs).length = Γ.length
  | [] => rfl
  | v :: vs => by unfold wipeG; rw [List.length_set, wipeG_len Γ vs]
theorem wipeG_some {Γ : Gm} {i : Nat} {w : W} : ∀ {vs : List Nat}, (wipeG Γ vs)[i]? = some (some w) → Γ[i]? = some (some w) ∧ i ∉ vs
  | [], h => ⟨h, by simp⟩
  | v :: vs, h => by
    unfold wipeG at h
    rw [List.getElem?_set] at h
    by_cases z : v = i
    · subst z
      rw [if_pos rfl] at h
      split at h <;> cases h
    · rw [if_neg z] at h
      obtain ⟨h1, h2⟩ := wipeG_some h
      exact ⟨h1, by simp only [List.mem_cons, not_or]; exact ⟨fun e => z e.symm, h2⟩⟩
theorem DEnv.wipe {c : Cq am} {T : List Tp} {σ : L2.St} {Γ : Gm} {Ω : Om} {H : Hp} (e : DEnv K c T σ Γ Ω H) (vs : List Nat) : DEnv K c T (L2.wipe σ vs) (wipeG Γ vs) Ω H := ⟨by rw [wipeG_len, wipe_length]; exact e.len, fun i w h => by
  obtain ⟨h1, h2⟩ := wipeG_some h
  obtain ⟨v, h3, h4⟩ := e.sl i w h1
  exact ⟨v, by rw [wipe_at, if_neg h2]; exact h3, h4⟩, e.tm, e.ob, e.nd, e.fr, e.el, e.frm, e.inv⟩
/-- the slots' things kept beside, while other slots are about -/
theorem DEnv.save {c : Cq am} {T : List Tp} {σ : L2.St} {Γ : Gm} {Ω : Om} {H : Hp} (e : DEnv K c T σ Γ Ω H) : ∃ S : List Tp, DEnv K c (S ++ T) σ Γ Ω H ∧ ∀ {σ' : L2.St} {Γ' : Gm} {Ω' : Om} {H' : Hp}, DEnv K c (S ++ T) σ' Γ' Ω' H' → DEnv K c T σ Γ Ω' H' := by
  have key : ∀ n, ∃ S : List Tp, DEnv K c (S ++ T) σ Γ Ω H ∧ ∀ {σ' : L2.St} {Γ' : Gm} {Ω' : Om} {H' : Hp}, DEnv K c (S ++ T) σ' Γ' Ω' H' → ∀ (i : Nat) (w : W), i < n → Γ[i]? = some (some w) → ∃ v, σ[i]? = some (some v) ∧ VOk K H' (Ex c Ω') w v := by
    intro n
    induction n with
    | zero => exact ⟨[], e, fun _ i w h => absurd h (Nat.not_lt_zero _)⟩
    | succ n ih =>
      obtain ⟨S, e1, h1⟩ := ih
      cases q : Γ[n]? with
      | none => exact ⟨S, e1, fun e' i w hi h => by
          rcases Nat.lt_succ_iff_lt_or_eq.mp hi with z | z
          · exact h1 e' i w z h
          · rw [z, q] at h; cases h⟩
      | some o =>
        cases o with
        | none => exact ⟨S, e1, fun e' i w hi h => by
            rcases Nat.lt_succ_iff_lt_or_eq.mp hi with z | z
            · exact h1 e' i w z h
            · rw [z, q] at h; cases h⟩
        | some w0 =>
          obtain ⟨v, h3, h4⟩ := e1.sl n w0 q
          refine ⟨.v w0 v :: S, e1.addv h4, fun e' i w hi h => ?_⟩
          rcases Nat.lt_succ_iff_lt_or_eq.mp hi with z | z
          · exact h1 e'.drop i w z h
          · rw [z, q] at h
            cases h
            rw [z]
            exact ⟨v, h3, e'.hd⟩
  obtain ⟨S, e1, h1⟩ := key Γ.length
  refine ⟨S, e1, fun e' => ⟨e.len, fun i w h => ?_, e'.drops.tm, e'.ob, e'.nd, e'.fr, e'.el, e'.frm, e'.inv⟩⟩
  exact h1 e' i w (by
    rcases Nat.lt_or_ge i Γ.length with z | z
    · exact z
    · rw [List.getElem?_eq_none z] at h; cases h) h
def lenLt {α : Type} (l : List α) : Prop := l.length < sizeLine
def dLcP (n : Nat) (ws : List W) (g : DG) (dq : DB) (de : DT) (vs : List Nat) (Γ : Gm) (Ω1 : Om) (Pv : Nat → List W → Prop) : Prop :=
  Pv 0 [] ∧ ∀ i w acc p, ws[i]? = some w → Pv i acc → notin p Ω1 → g w (wipeG Γ vs) ((p, .lst acc) :: Ω1) fun Γ2 Ω2 => Ω2 = (p, .lst acc) :: Ω1 ∧ dq Γ2 ((p, .lst acc) :: Ω1) fun b Ω3 => Ω3 = (p, .lst acc) :: Ω1 ∧
    if b = true then de Γ2 ((p, .lst acc) :: Ω1) fun y Ω4 => Ω4 = (p, .lst acc) :: Ω1 ∧ lenLt acc ∧ Pv (i + 1) (acc ++ [y]) else Pv (i + 1) acc
def dLc (ix : List Nat) (di : DI) (g : DG) (dq : DB) (de : DT) (vs : List Nat) (Γ : Gm) (Ω : Om) (Q : DQ) : Prop := (∀ i ∈ ix, i ∈ vs) ∧ di Γ Ω fun ws Ω1 => ∃ Pv : Nat → List W → Prop, dLcP ws.length ws g dq de vs Γ Ω1 Pv ∧ ∀ acc, Pv ws.length acc → shsW acc fun ds => Q (.sh (.lst ds)) Ω1
def dLcO (ix : List Nat) (di : DI) (g : DG) (dq : DB) (de : DT) (vs : List Nat) (Γ : Gm) (Ω : Om) (Q : DQ) : Prop := (∀ i ∈ ix, i ∈ vs) ∧ di Γ Ω fun ws Ω1 => ∃ Pv : Nat → List W → Prop, dLcP ws.length ws g dq de vs Γ Ω1 Pv ∧ ∀ acc p, Pv ws.length acc → notin p Ω1 → Q (.pt p) ((p, .lst acc) :: Ω1)
theorem look_hd {p : Addr} {od : OD} {Ω : Om} : look ((p, od) :: Ω) p = some od := by simp [look, List.find?_cons]
theorem put_hd {p : Addr} {od od' : OD} {Ω : Om} (h : notin p Ω) : OA.put ((p, od) :: Ω) p od' = (p, od') :: Ω := by
  unfold OA.put
  rw [List.map_cons]
  simp only [if_true]
  congr 1
  have : ∀ q ∈ Ω, (if q.1 = p then (q.1, od') else q) = q := fun q hq => if_neg fun z => h (List.mem_map.mpr ⟨q, hq, z⟩)
  rw [List.map_congr_left this, List.map_id']
theorem lc_run {wi : TI} {di : DI} {g : TG} {d : DG} {ix vs : List Nat} (hix : ∀ i ∈ ix, i ∈ vs) [s0 : SI K am wi di] [s1 : SG K am g d ix] [s2 : ST K am tq dq] [s3 : SE K am te de]
    {c : Cq am} {T : List Tp} {σ : L2.St} {Γ : Gm} {Ω : Om} {H : Hp} {Z : List W → Om → (Nat → List W → Prop) → Prop} {R : VK} (e : DEnv K c T σ Γ Ω H)
    (h : di Γ Ω fun ws Ω1 => ∃ Pv : Nat → List W → Prop, dLcP ws.length ws d dq de vs Γ Ω1 Pv ∧ Z ws Ω1 Pv)
    (k : ∀ ws Ω1 Pv acc D H', Z ws Ω1 Pv → Pv ws.length acc → notin D Ω1 → DEnv K c (.v (.pt D) (.ref D) :: T) σ Γ ((D, .lst acc) :: Ω1) H' → R (.ref D) H') : vLc wi g tq te vs σ H R :=
  s0.run e h fun J H1 ws Ω1 T' G Y ⟨Pv, ⟨p0, ps⟩, hz⟩ e1 hw hG hY => fun D hD => by
    obtain ⟨S, e2, back⟩ := e1.save
    have nD : notin D Ω1 := fun z => e1.noEx hD (.inr z)
    have e3 : DEnv K c (.v (.pt D) (.ref D) :: (S ++ (T' ++ T))) σ Γ ((D, .lst []) :: Ω1) (upd H1 D (.lst [])) := e2.own hD (e2.new hD) (.inl ⟨[], [], rfl, rfl, rfl⟩)
    have to' : ∀ {σ : L2.St} {Γ : Gm} {Ω : Om} {H : Hp}, DEnv K c (.v (.pt D) (.ref D) :: (S ++ (T' ++ T))) σ Γ Ω H → DEnv K c (T' ++ T) σ Γ Ω H := fun e => e.drop.drops
    refine ⟨ws.length, G, Y, fun i H => ∃ acc σ2 Γ2, Pv i acc ∧ DEnv K c (.v (.pt D) (.ref D) :: (S ++ (T' ++ T))) σ2 Γ2 ((D, .lst acc) :: Ω1) H, hw, ⟨[], σ, Γ, p0, e3⟩, fun i H _ ⟨acc, σ2, Γ2, _, e⟩ => hG _ _ _ _ (to' e), fun i x H H' hi ⟨acc, σ2, Γ2, p, e⟩ y => ?_, fun H ⟨acc, σ2, Γ2, p, e⟩ => ?_⟩
    · have eW : DEnv K c (.v (.pt D) (.ref D) :: (S ++ (T' ++ T))) (L2.wipe σ vs) (wipeG Γ vs) ((D, .lst acc) :: Ω1) H := by
        have b1 := (back e.drop).wipe vs
        exact ⟨b1.len, b1.sl, e.tm, e.ob, e.nd, e.fr, e.el, e.frm, e.inv⟩
      obtain ⟨w, hw', e5⟩ := hY (.v (.pt D) (.ref D) :: S) i x _ _ _ H H' hi eW y
      refine s1.run e5.drop e5.hd (ps i w acc D hw' p nD) fun σ3 Γ3 Ω3 H3 ⟨z3, q3⟩ e6 hwp => ⟨by rw [hwp vs hix, wipe_wipe], ?_⟩
      subst z3
      refine s2.run e6 q3 fun b Ω4 H4 ⟨z4, q4⟩ e7 => ?_
      subst z4
      cases b with
      | false => exact ⟨acc, _, _, q4, e7⟩
      | true =>
        refine s3.run e7 q4 fun y wy Ω5 H5 ⟨z5, hl, p'⟩ e8 => ?_
        subst z5
        obtain ⟨vs', a1, a2⟩ := e8.ob (D, .lst acc) List.mem_cons_self
        show lstO (H5 D) _
        rw [a1]
        have e9 := e8.drop.putL (vs' := vs' ++ [y]) (ws' := acc ++ [wy]) look_hd (a2.app (.one e8.hd))
        rw [put_hd nD] at e9
        exact ⟨by rw [← a2.len]; exact hl, acc ++ [wy], _, _, p', e9⟩
    · have b1 := back e.drop
      exact k ws Ω1 Pv acc D H hz p nD ⟨b1.len, b1.sl, fun t ht => by
        rcases List.mem_cons.mp ht with rfl | ht
        · exact rfl
        · exact b1.drops.tm t ht, b1.ob, b1.nd, b1.fr, b1.el, b1.frm, b1.inv⟩
instance s_lc {wi : TI} {di : DI} {g : TG} {d : DG} {ix vs : List Nat} [s0 : SI K am wi di] [s1 : SG K am g d ix] [s2 : ST K am tq dq] [s3 : SE K am te de] : SE K am (vLc wi g tq te vs) (dLc ix di d dq de vs) := ⟨fun {c T σ Γ Ω H Q R} e ⟨hx, h⟩ k =>
  lc_run hx e (Z := fun ws Ω1 Pv => ∀ acc, Pv ws.length acc → shsW acc fun ds => Q (.sh (.lst ds)) Ω1) h fun ws Ω1 Pv acc D H' hz p nD e' => by
    obtain ⟨ds, rfl, h2⟩ := shsW_el (hz acc p)
    exact k _ _ _ _ h2 (e'.drop.unown nD)⟩
instance s_lcO {wi : TI} {di : DI} {g : TG} {d : DG} {ix vs : List Nat} [s0 : SI K am wi di] [s1 : SG K am g d ix] [s2 : ST K am tq dq] [s3 : SE K am te de] : SE K am (ownE (vLc wi g tq te vs)) (dLcO ix di d dq de vs) := ⟨fun {c T σ Γ Ω H Q R} e ⟨hx, h⟩ k =>
  lc_run hx e (Z := fun ws Ω1 Pv => ∀ acc p, Pv ws.length acc → notin p Ω1 → Q (.pt p) ((p, .lst acc) :: Ω1)) h fun ws Ω1 Pv acc D H' hz p nD e' => k _ _ _ _ (hz acc D p nD) e'⟩
end
end OA

namespace OA
open PySem PySem.Spec PyProof.Rows L2
/-! operators over data -/
def flV : D → Option V
  | .non => some .non
  | .bl b => some (.bl b)
  | .int i => some (.int i)
  | .str s => some (.str s)
  | _ => none
def cWR (v : V) (k : W → Prop) : Prop := match cW v with | some w => k w | none => False
def flW (w : W) (k : V → Prop) : Prop := match w with | .sh x => (match flV x with | some v => k v | none => False) | _ => False
def intsD : List D → (List Int → Prop) → Prop
  | [], k => k []
  | .int x :: r, k => intsD r fun ds => k (x :: ds)
  | _ :: _, _ => False
def strsD : List D → (List Str → Prop) → Prop
  | [], k => k []
  | .str x :: r, k => strsD r fun ds => k (x :: ds)
  | _ :: _, _ => False
theorem intsD_el : ∀ {ds : List D} {k : List Int → Prop}, intsD ds k → ∃ ns, ds = ns.map .int ∧ k ns
  | [], k, h => ⟨[], rfl, h⟩
  | .int x :: r, k, h => by
    obtain ⟨ds, e, z⟩ := intsD_el (ds := r) h
    exact ⟨x :: ds, by rw [e]; rfl, z⟩
  | .non :: _, _, h => (show False from h).elim
  | .bl _ :: _, _, h => (show False from h).elim
  | .str _ :: _, _, h => (show False from h).elim
  | .tup _ :: _, _, h => (show False from h).elim
  | .lst _ :: _, _, h => (show False from h).elim
  | .dic _ _ :: _, _, h => (show False from h).elim
  | .py _ :: _, _, h => (show False from h).elim
theorem strsD_el : ∀ {ds : List D} {k : List Str → Prop}, strsD ds k → ∃ ns, ds = ns.map .str ∧ k ns
  | [], k, h => ⟨[], rfl, h⟩
  | .str x :: r, k, h => by
    obtain ⟨ds, e, z⟩ := strsD_el (ds := r) h
    exact ⟨x :: ds, by rw [e]; rfl, z⟩
  | .non :: _, _, h => (show False from h).elim
  | .bl _ :: _, _, h => (show False from h).elim
  | .int _ :: _, _, h => (show False from h).elim
  | .tup _ :: _, _, h => (show False from h).elim
  | .lst _ :: _, _, h => (show False from h).elim
  | .dic _ _ :: _, _, h => (show False from h).elim
  | .py _ :: _, _, h => (show False from h).elim
theorem intsD_map (ns : List Int) (k : List Int → Prop) : intsD (ns.map .int) k = k ns := by
  induction ns generalizing k with
  | nil => rfl
  | cons d ds ih => exact ih _
theorem strsD_map (ns : List Str) (k : List Str → Prop) : strsD (ns.map .str) k = k ns := by
  induction ns generalizing k with
  | nil => rfl
  | cons d ds ih => exact ih _
section
variable {K : PySem.W.Frag} {am : Am} {H : Hp} {E : Addr → Prop}
theorem lay_ints : ∀ {ns : List Int} {vs : List V}, LayL K H E (ns.map .int) vs → vs = ns.map V.int
  | [], _, h => h
  | n :: ns, _, ⟨v, r, e, h1, h2⟩ => by rw [e, show v = .int n from h1, lay_ints h2]; rfl
theorem lay_strs : ∀ {ns : List Str} {vs : List V}, LayL K H E (ns.map .str) vs → vs = ns.map V.str
  | [], _, h => h
  | n :: ns, _, ⟨v, r, e, h1, h2⟩ => by rw [e, show v = .str n from h1, lay_strs h2]; rfl
theorem ints_lay (ns : List Int) : LayL K H E (ns.map .int) (ns.map V.int) := by
  induction ns with
  | nil => exact rfl
  | cons n ns ih => exact ⟨_, _, rfl, rfl, ih⟩
theorem strs_lay (ns : List Str) : LayL K H E (ns.map .str) (ns.map V.str) := by
  induction ns with
  | nil => exact rfl
  | cons n ns ih => exact ⟨_, _, rfl, rfl, ih⟩
theorem flW_el {w : W} {v : V} {k : V → Prop} (h : flW w k) (hv : VOk K H E w v) : k v ∧ flatV v = true := by
  unfold flW at h
  split at h
  · rename_i x
    split at h
    · rename_i u hu
      cases x <;> first | (cases hu; obtain rfl : v = _ := hv; exact ⟨h, rfl⟩) | cases hu
    · exact h.elim
  · exact h.elim
theorem cWR_el {v : V} {k : W → Prop} (h : cWR v k) : ∃ w, VOk K H E w v ∧ k w := by
  unfold cWR at h
  split at h
  · rename_i w hw
    refine ⟨w, ?_, h⟩
    cases v <;> first | (cases hw; exact rfl) | cases hw
  · exact h.elim
def dI0 (g : Int → Int → V) (x : W) (y : W) (Ω : Om) (Q : DQ) : Prop := intW x fun i => intW y fun j => cWR (g i j) fun w => Q w Ω
instance r_I0 {g : Int → Int → V} : SR2 K am (wI0 g) (dI0 g) := ⟨fun {c T σ Γ Ω H x y wx wy Q R} e hx hy h k => by
  obtain ⟨i, rfl, h_1⟩ := intW_el h
  obtain ⟨j, rfl, h_2⟩ := intW_el h_1
  obtain ⟨w, hw, q⟩ := cWR_el (K := K) (H := H) (E := Ex c Ω) h_2
  obtain rfl : x = .int i := hx
  obtain rfl : y = .int j := hy
  exact k _ _ _ _ q (e.addv hw)⟩
def dIC (C : Int → Int → Prop) (g : Int → Int → V) (x : W) (y : W) (Ω : Om) (Q : DQ) : Prop := intW x fun i => intW y fun j => C i j ∧ cWR (g i j) fun w => Q w Ω
instance r_IC {C : Int → Int → Prop} {g : Int → Int → V} : SR2 K am (wIC C g) (dIC C g) := ⟨fun {c T σ Γ Ω H x y wx wy Q R} e hx hy h k => by
  obtain ⟨i, rfl, h_1⟩ := intW_el h
  obtain ⟨j, rfl, h0, h_2⟩ := intW_el h_1
  obtain ⟨w, hw, q⟩ := cWR_el (K := K) (H := H) (E := Ex c Ω) h_2
  obtain rfl : x = .int i := hx
  obtain rfl : y = .int j := hy
  exact ⟨h0, k _ _ _ _ q (e.addv hw)⟩⟩
def dEq (neg : Bool) (x : W) (y : W) (Ω : Om) (Q : DQ) : Prop := flW x fun u => flW y fun v => scal u v = true ∧ Q (.sh (.bl (if neg then !decide (u = v) else decide (u = v)))) Ω
instance r_eq : SR2 K am rEq (dEq false) := ⟨fun {c T σ Γ Ω H x y wx wy Q R} e hx hy h k => by
  obtain ⟨h, _⟩ := flW_el h hx
  obtain ⟨h, _⟩ := flW_el h hy
  exact ⟨h.1, k _ _ _ _ h.2 (e.addv rfl)⟩⟩
instance r_ne : SR2 K am rNe (dEq true) := ⟨fun {c T σ Γ Ω H x y wx wy Q R} e hx hy h k => by
  obtain ⟨h, _⟩ := flW_el h hx
  obtain ⟨h, _⟩ := flW_el h hy
  exact ⟨h.1, k _ _ _ _ h.2 (e.addv rfl)⟩⟩
def wIsN (neg : Bool) : R2 := fun x y H Q => y = .non ∧ Q (.bl (if neg then !decide (x = .non) else decide (x = .non))) H
theorem o_isN {X : Cx} : OpR X (compareOp .Is) (wIsN false) := op_isN
theorem o_notN {X : Cx} : OpR X (compareOp .IsNot) (wIsN true) := op_notN
def isNonW : W → Bool
  | .sh .non => true
  | _ => false
theorem isNon_iff {w : W} {v : V} (h : VOk K H E w v) (hp : ∀ d, w ≠ .sh (.py d)) : decide (v = .non) = isNonW w := by
  cases w with
  | pt p => rw [show v = .ref p from h]; rfl
  | ty n => rw [show v = .ty n from h]; rfl
  | sh x =>
    cases x with
    | non => rw [show v = .non from h]; rfl
    | bl b => rw [show v = .bl b from h]; rfl
    | int b => rw [show v = .int b from h]; rfl
    | str b => rw [show v = .str b from h]; rfl
    | tup xs => obtain ⟨a, vs, rfl, _⟩ := h; rfl
    | lst xs => obtain ⟨a, vs, rfl, _⟩ := h; rfl
    | dic ks xs => obtain ⟨a, vs, rfl, _⟩ := h; rfl
    | py d => exact absurd rfl (hp d)
def noPy (w : W) : Prop := match w with | .sh (.py _) => False | _ => True
def dIsN (neg : Bool) (x : W) (y : W) (Ω : Om) (Q : DQ) : Prop := (isNonW y = true ∧ noPy x) ∧ Q (.sh (.bl (if neg then !isNonW x else isNonW x))) Ω
instance r_isN {neg : Bool} : SR2 K am (wIsN neg) (dIsN neg) := ⟨fun {c T σ Γ Ω H x y wx wy Q R} e hx hy h k => by
  obtain ⟨⟨h1, hp⟩, h_1⟩ := h
  have hp' : ∀ d, wx ≠ .sh (.py d) := fun d z => by rw [z] at hp; exact hp
  have hy' : wy = .sh .non := by
    cases wy with
    | sh y' => cases y' <;> first | rfl | cases h1
    | pt p => cases h1
    | ty n => cases h1
  rw [hy'] at hy
  refine ⟨hy, ?_⟩
  rw [isNon_iff hx hp']
  exact k _ _ _ _ h_1 (e.addv rfl)⟩
def dAddS (x : W) (y : W) (Ω : Om) (Q : DQ) : Prop := strW x fun i => strW y fun j => i.length + j.length ≤ sizeLine ∧ Q (.sh (.str (i ++ j))) Ω
instance r_addS : SR2 K am wAddS dAddS := ⟨fun {c T σ Γ Ω H x y wx wy Q R} e hx hy h k => by
  obtain ⟨i, rfl, h_1⟩ := strW_el h
  obtain ⟨j, rfl, h0, h_2⟩ := strW_el h_1
  obtain rfl : x = .str i := hx
  obtain rfl : y = .str j := hy
  exact ⟨h0, k _ _ _ _ h_2 (e.addv rfl)⟩⟩
def dMulS (x : W) (y : W) (Ω : Om) (Q : DQ) : Prop := strW x fun i => intW y fun j => MulOk i j ∧ Q (.sh (.str (Txt.mul i j))) Ω
instance r_mulS : SR2 K am wMulS dMulS := ⟨fun {c T σ Γ Ω H x y wx wy Q R} e hx hy h k => by
  obtain ⟨i, rfl, h_1⟩ := strW_el h
  obtain ⟨j, rfl, h0, h_2⟩ := intW_el h_1
  obtain rfl : x = .str i := hx
  obtain rfl : y = .int j := hy
  exact ⟨h0, k _ _ _ _ h_2 (e.addv rfl)⟩⟩
def dCat (x : W) (y : W) (Ω : Om) (Q : DQ) : Prop := seqW Ω x fun ws => seqW Ω y fun us => shsW ws fun ds => shsW us fun es => lenOk (ds ++ es) ∧ Q (.sh (.lst (ds ++ es))) Ω
instance r_cat : SR2 K am wCat dCat := ⟨fun {c T σ Γ Ω H x y wx wy Q R} e hx hy h k => by
  obtain ⟨a, vs, ws, rfl, ha, hv, h_1⟩ := seqW_el e hx h
  obtain ⟨b, ts, us, rfl, hb, ht, h_2⟩ := seqW_el e hy h_1
  obtain ⟨ds, rfl, h_3⟩ := shsW_el h_2
  obtain ⟨es, rfl, hl, h_4⟩ := shsW_el h_3
  have n1 := hv.lay.len
  have n2 := ht.lay.len
  show lstO (H a) _
  rw [ha]
  show lstO (H b) _
  rw [hb]
  refine ⟨by rw [← n1, ← n2, ← List.length_append]; exact hl, fun p hp => k _ _ _ _ h_4 (e.lst hp ?_)⟩
  have := hv.app ht
  rw [← List.map_append] at this
  exact this.lay⟩
def dCatT (x : W) (y : W) (Ω : Om) (Q : DQ) : Prop := tupW x fun ds => tupW y fun es => lenOk (ds ++ es) ∧ Q (.sh (.tup (ds ++ es))) Ω
instance r_catA : SR2 K am (rCatA K) dCatT := ⟨fun {c T σ Γ Ω H x y wx wy Q R} e hx hy h k => by
  obtain ⟨ds, rfl, h_1⟩ := tupW_el h
  obtain ⟨es, rfl, hl, h_2⟩ := tupW_el h_1
  obtain ⟨a, vs, rfl, na, ha, hv⟩ := hx
  obtain ⟨b, ts, rfl, nb, hb, ht⟩ := hy
  have n1 := hv.len
  have n2 := ht.len
  refine ⟨a, b, vs, ts, rfl, rfl, SqT.of ha, SqT.of hb, by rw [← n1, ← n2, ← List.length_append]; exact hl, fun z => ?_, fun _ z => ?_, fun _ _ p hp => k _ _ _ _ h_2 (e.tup hp ?_)⟩
  · subst z
    have : ds = [] := List.eq_nil_of_length_eq_zero n1
    subst this
    exact k _ _ _ _ h_2 (e.addv ⟨b, ts, rfl, nb, hb, ht⟩)
  · subst z
    have : es = [] := List.eq_nil_of_length_eq_zero n2
    subst this
    rw [List.append_nil] at h_2
    exact k _ _ _ _ h_2 (e.addv ⟨a, vs, rfl, na, ha, hv⟩)
  · have := (VOks.sh_of hv).app (VOks.sh_of ht)
    rw [← List.map_append] at this
    exact this.lay⟩
/-- x in a tuple of flat things -/
def dInT (neg : Bool) (x : W) (y : W) (Ω : Om) (Q : DQ) : Prop := flW x fun u => tupW y fun ds => flsD ds fun vs => Q (.sh (.bl (if neg then !inV u vs else inV u vs))) Ω
where flsD : List D → (List V → Prop) → Prop
  | [], k => k []
  | x :: r, k => match flV x with
    | some v => flsD r fun vs => k (v :: vs)
    | none => False
theorem flsD_el : ∀ {ds : List D} {vs : List V} {k : List V → Prop}, dInT.flsD ds k → LayL K H E ds vs → k vs ∧ vs.all flatV = true
  | [], _, k, h, hv => by rw [show _ = [] from hv]; exact ⟨h, rfl⟩
  | x :: r, _, k, h, ⟨v, rs, e, h1, h2⟩ => by
    unfold dInT.flsD at h
    cases q : flV x with
    | none => rw [q] at h; exact h.elim
    | some u =>
      rw [q] at h
      obtain ⟨a, b⟩ := flsD_el h h2
      have eu : u = v ∧ flatV v = true := by cases x <;> first | (cases q; exact ⟨Eq.symm h1, by rw [show v = _ from h1]; rfl⟩) | cases q
      rw [e, ← eu.1]
      refine ⟨a, ?_⟩
      rw [List.all_cons, b, eu.1, eu.2]
      rfl
instance r_inT {neg : Bool} : SR2 K am (wInT neg) (dInT neg) := ⟨fun {c T σ Γ Ω H x y wx wy Q R} e hx hy h k => by
  obtain ⟨g1, f1⟩ := flW_el h hx
  obtain ⟨a, vs, ds, rfl, ha, hl, g2⟩ := tupW_at hy g1
  obtain ⟨g3, f2⟩ := flsD_el g2 hl
  show tupO (H a) _
  rw [ha]
  exact ⟨⟨f1, f2⟩, k _ _ _ _ g3 (e.addv rfl)⟩⟩
/-- x in a list of ints -/
def wInLI : R2 := fun x y H Q => intR x fun i => refR y fun p => lstO (H p) fun xs => ∃ ns : List Int, xs = ns.map V.int ∧ Q (.bl (decide (i ∈ ns))) H
theorem inV_ints (i : Int) (ns : List Int) : inV (.int i) (ns.map V.int) = decide (i ∈ ns) := by
  unfold inV
  induction ns with
  | nil => rfl
  | cons n ns ih =>
    rw [List.map_cons, List.any_cons, ih]
    have : eqV (.int n) (.int i) = decide (n = i) := by
      rw [Bool.eq_iff_iff]
      simp [eqV]
    rw [this]
    by_cases z : n = i
    · simp [z]
    · have : ¬ i = n := fun h => z h.symm
      simp [z, this]
theorem flat_ints (ns : List Int) : (ns.map V.int).all flatV = true := by
  induction ns with
  | nil => rfl
  | cons n ns ih => rw [List.map_cons, List.all_cons, ih]; rfl
theorem o_inLI {X : Cx} : OpR X (compareOp .In) wInLI := im_op op_in_seq fun x y H Q z => by
  obtain ⟨i, rfl, z⟩ := intR_el z
  obtain ⟨p, rfl, z⟩ := refR_el z
  obtain ⟨xs, e, ns, rfl, z⟩ := lstO_el z
  refine ⟨p, _, rfl, .inl (SqL.of e), rfl, flat_ints ns, ?_⟩
  simp only [Bool.false_eq_true, if_false, inV_ints]
  exact z
def dInLI (x : W) (y : W) (Ω : Om) (Q : DQ) : Prop := intW x fun i => seqW Ω y fun ws => shsW ws fun ds => intsD ds fun ns => Q (.sh (.bl (decide (i ∈ ns)))) Ω
instance r_inLI : SR2 K am wInLI dInLI := ⟨fun {c T σ Γ Ω H x y wx wy Q R} e hx hy h k => by
  obtain ⟨i, rfl, h_1⟩ := intW_el h
  obtain ⟨a, vs, ws, rfl, ha, hv, h_2⟩ := seqW_el e hy h_1
  obtain ⟨ds, rfl, h_3⟩ := shsW_el h_2
  obtain ⟨ns, rfl, h_4⟩ := intsD_el h_3
  obtain rfl : x = .int i := hx
  show lstO (H a) _
  rw [ha]
  exact ⟨ns, lay_ints hv.lay, k _ _ _ _ h_4 (e.addv rfl)⟩⟩
/-- x in a tuple of ints -/
def wInTI : R2 := fun x y H Q => intR x fun i => refR y fun p => tupO (H p) fun xs => ∃ ns : List Int, xs = ns.map V.int ∧ Q (.bl (decide (i ∈ ns))) H
theorem o_inTI {X : Cx} : OpR X (compareOp .In) wInTI := im_op op_in_seq fun x y H Q z => by
  obtain ⟨i, rfl, z⟩ := intR_el z
  obtain ⟨p, rfl, z⟩ := refR_el z
  obtain ⟨xs, e, ns, rfl, z⟩ := tupO_el z
  refine ⟨p, _, rfl, .inr (SqT.of e), rfl, flat_ints ns, ?_⟩
  simp only [Bool.false_eq_true, if_false, inV_ints]
  exact z
def dInTI (x : W) (y : W) (Ω : Om) (Q : DQ) : Prop := intW x fun i => tupW y fun ds => intsD ds fun ns => Q (.sh (.bl (decide (i ∈ ns)))) Ω
instance r_inTI : SR2 K am wInTI dInTI := ⟨fun {c T σ Γ Ω H x y wx wy Q R} e hx hy h k => by
  obtain ⟨i, rfl, h_1⟩ := intW_el h
  obtain ⟨a, vs, ds, rfl, ha, hv, h_2⟩ := tupW_at hy h_1
  obtain ⟨ns, rfl, h_3⟩ := intsD_el h_2
  obtain rfl : x = .int i := hx
  show tupO (H a) _
  rw [ha]
  exact ⟨ns, lay_ints hv, k _ _ _ _ h_3 (e.addv rfl)⟩⟩
def wInS : R2 := fun x y H Q => ∃ i j, x = .str i ∧ y = .str j ∧ Q (.bl (!(Builtin.Str.occurrences j i 0 j.length 1).isEmpty)) H
theorem o_inS {X : Cx} : OpR X (compareOp .In) wInS := op_in_str
def dInS (x : W) (y : W) (Ω : Om) (Q : DQ) : Prop := strW x fun i => strW y fun j => Q (.sh (.bl (!(Builtin.Str.occurrences j i 0 j.length 1).isEmpty))) Ω
instance r_inS : SR2 K am wInS dInS := ⟨fun {c T σ Γ Ω H x y wx wy Q R} e hx hy h k => by
  obtain ⟨i, rfl, h_1⟩ := strW_el h
  obtain ⟨j, rfl, h_2⟩ := strW_el h_1
  exact ⟨i, j, hx, hy, k _ _ _ _ h_2 (e.addv rfl)⟩⟩
/-! subscripts -/
def atR {α : Type} (xs : List α) (i : Int) (k : α → Prop) : Prop := match L2.atI xs i with | some v => k v | none => False
theorem atR_el {α : Type} {xs : List α} {i : Int} {k : α → Prop} (h : atR xs i k) : ∃ v, L2.atI xs i = some v ∧ k v := by
  unfold atR at h
  split at h
  · exact ⟨_, ‹_›, h⟩
  · exact h.elim
def dIxL (x : W) (y : W) (Ω : Om) (Q : DQ) : Prop := seqW Ω x fun ws => intW y fun i => atR ws i fun w => Q w Ω
instance r_ixL : SR2 K am wIxL dIxL := ⟨fun {c T σ Γ Ω H x y wx wy Q R} e hx hy h k => by
  obtain ⟨a, vs, ws, rfl, ha, hv, h_1⟩ := seqW_el e hx h
  obtain ⟨i, rfl, h_2⟩ := intW_el h_1
  obtain ⟨w, hw, h_3⟩ := atR_el h_2
  obtain rfl : y = .int i := hy
  obtain ⟨v, h1, h2⟩ := hv.atI hw
  show lstO (H a) _
  rw [ha]
  show optR _ _
  rw [h1]
  exact k _ _ _ _ h_3 (e.addv h2)⟩
def dIxT (x : W) (y : W) (Ω : Om) (Q : DQ) : Prop := tupW x fun ds => intW y fun i => atR ds i fun d => Q (.sh d) Ω
theorem atI_map {α β : Type} (f : α → β) (xs : List α) (i : Int) : L2.atI (xs.map f) i = (L2.atI xs i).map f := by
  unfold L2.atI
  rw [List.length_map]
  cases ixN xs.length i with
  | none => rfl
  | some j => simp
instance r_ixT : SR2 K am wIxT dIxT := ⟨fun {c T σ Γ Ω H x y wx wy Q R} e hx hy h k => by
  obtain ⟨a, vs, ds, rfl, ha, hv, h_1⟩ := tupW_at hx h
  obtain ⟨i, rfl, h_2⟩ := intW_el h_1
  obtain ⟨d, hw, h_3⟩ := atR_el h_2
  obtain rfl : y = .int i := hy
  obtain ⟨v, h1, h2⟩ := (VOks.sh_of hv).atI (w := .sh d) (i := i) (by rw [atI_map, hw]; rfl)
  show tupO (H a) _
  rw [ha]
  show optR _ _
  rw [h1]
  exact k _ _ _ _ h_3 (e.addv h2)⟩
def dIxS (x : W) (y : W) (Ω : Om) (Q : DQ) : Prop := strW x fun z => intW y fun i => z.length ≤ sizeLine ∧ atR z.cps.toList i fun c => Q (.sh (.str ⟨#[c]⟩)) Ω
instance r_ixS : SR2 K am wIxS dIxS := ⟨fun {c T σ Γ Ω H x y wx wy Q R} e hx hy h k => by
  obtain ⟨z, rfl, h_1⟩ := strW_el h
  obtain ⟨i, rfl, h0, h_2⟩ := intW_el h_1
  obtain ⟨d, hw, h_3⟩ := atR_el h_2
  obtain rfl : x = .str z := hx
  obtain rfl : y = .int i := hy
  refine ⟨h0, ?_⟩
  show optR _ _
  rw [hw]
  exact k _ _ _ _ h_3 (e.addv rfl)⟩
def dNeg (x : W) (Ω : Om) (Q : DQ) : Prop := intW x fun i => Q (.sh (.int (-i))) Ω
instance r_neg : SR1 K am wNeg dNeg := ⟨fun {c T σ Γ Ω H x wx Q R} e hx h k => by
  obtain ⟨i, rfl, h_1⟩ := intW_el h
  obtain rfl : x = .int i := hx
  exact k _ _ _ _ h_1 (e.addv rfl)⟩
theorem q_setOwn {X : Cx} {st : Stmt} {te : TE} {g : TG} (h : PS X st (tAsg te g)) : PS X st (tAsg (ownE te) g) := h
theorem q_starT {X : Cx} {e : Expr} {es : List Expr} {te : TE} {t : TA} {p : Pos} (he : PE X e te) (hr : PA X es t) (hs : starEach (.Starred e p :: es) X.env = (true, eval e X.env) :: starEach es X.env := by rfl) : PA X (.Starred e p :: es) (vStarT te t) := by
  refine ⟨fun pos pins s σ H Q I h => PySem.W.items_star (thn (he.run pins s σ H _ I h) fun v s1 z => ?_) hs⟩
  obtain ⟨y, H1, I1, ry, z1⟩ := z
  obtain ⟨a, ey, z2⟩ := refR_el z1
  obtain ⟨xs, hx, q⟩ := tupO_el z2
  subst ey
  obtain rfl : v = Value.ref a := ry
  refine StX.star_any I1 (.inl (SqT.of hx)) fun us s2 I2 rv => thn (hr.run pos pins s2 σ H1 _ I2 q) fun ws s3 z => ?_
  obtain ⟨vs, H3, I3, r3, q3⟩ := z
  exact ⟨xs ++ vs, H3, I3, rv.append r3, q3⟩
/-! slices -/
class SO (K : PySem.W.Frag) (am : Am) (to : TO) (d : outParam (Gm → Om → (Option Int → Om → Prop) → Prop)) : Prop where
  run : ∀ {c : Cq am} {T : List Tp} {σ : L2.St} {Γ : Gm} {Ω : Om} {H : Hp} {Q : Option Int → Om → Prop} {R : Option Int → Hp → Prop}, DEnv K c T σ Γ Ω H → d Γ Ω Q → (∀ o Ω' H', Q o Ω' → DEnv K c T σ Γ Ω' H' → R o H') → to σ H R
def dNoPart (_Γ0 : Gm) (Ω : Om) (Q : Option Int → Om → Prop) : Prop := Q none Ω
instance s_nopart : SO K am tNoPart dNoPart := ⟨fun {c T σ Γ Ω H Q R} e h k => k _ _ _ h e⟩
def dPart (da : DT) (Γ : Gm) (Ω : Om) (Q : Option Int → Om → Prop) : Prop := da Γ Ω fun x Ω1 => intW x fun i => Q (some i) Ω1
instance s_part {ta : TE} {da : DT} [s1 : SE K am ta da] : SO K am (vPart ta) (dPart da) := ⟨fun {c T σ Γ Ω H Q R} e h k =>
  s1.run e h fun x wx Ω1 H1 h1 e1 => by
    obtain ⟨i, rfl, h2⟩ := intW_el h1
    obtain rfl : x = .int i := e1.hd
    exact k _ _ _ h2 e1.drop⟩
class SRS (K : PySem.W.Frag) (am : Am) (r : V → Option Int → Option Int → Hp → VK → Prop) (d : outParam (W → Option Int → Option Int → Om → DQ → Prop)) : Prop where
  run : ∀ {c : Cq am} {T : List Tp} {σ : L2.St} {Γ : Gm} {Ω : Om} {H : Hp} {x : V} {wx : W} {lo hi : Option Int} {Q : DQ} {R : VK}, DEnv K c T σ Γ Ω H → VOk K H (Ex c Ω) wx x → d wx lo hi Ω Q → (∀ v w Ω' H', Q w Ω' → DEnv K c (.v w v :: T) σ Γ Ω' H' → R v H') → r x lo hi H R
def dSl (r : W → Option Int → Option Int → Om → DQ → Prop) (da : DT) (dl dh : Gm → Om → (Option Int → Om → Prop) → Prop) (Γ : Gm) (Ω : Om) (Q : DQ) : Prop := da Γ Ω fun x Ω1 => dl Γ Ω1 fun l Ω2 => dh Γ Ω2 fun u Ω3 => r x l u Ω3 Q
instance s_sl {r : V → Option Int → Option Int → Hp → VK → Prop} {d : W → Option Int → Option Int → Om → DQ → Prop} {ta : TE} {da : DT} {tl th : TO} {dl dh : Gm → Om → (Option Int → Om → Prop) → Prop} [s1 : SE K am ta da] [s2 : SO K am tl dl] [s3 : SO K am th dh] [s4 : SRS K am r d] : SE K am (tSl r ta tl th) (dSl d da dl dh) := ⟨fun {c T σ Γ Ω H Q R} e h k =>
  s1.run e h fun x wx Ω1 H1 h1 e1 => s2.run e1 h1 fun l Ω2 H2 h2 e2 => s3.run e2 h2 fun u Ω3 H3 h3 e3 => s4.run e3.drop e3.hd h3 k⟩
def cutA {α : Type} (xs : List α) (lo hi : Option Int) : List α := (xs.drop (HT.sIx xs.length 0 lo)).take (HT.sIx xs.length xs.length hi - HT.sIx xs.length 0 lo)
theorem cut_oks {ws : List W} {vs : List V} (h : VOks K H E ws vs) (lo hi : Option Int) : VOks K H E (cutA ws lo hi) (cutV vs lo hi) := by
  unfold cutA cutV
  rw [h.len]
  exact (h.drop _).take _
theorem cutA_map {α β : Type} (f : α → β) (xs : List α) (lo hi : Option Int) : cutA (xs.map f) lo hi = (cutA xs lo hi).map f := by
  unfold cutA
  rw [List.length_map, List.map_take, List.map_drop]
def dSlL (x : W) (lo : Option Int) (hi : Option Int) (Ω : Om) (Q : DQ) : Prop := seqW Ω x fun ws => shsW ws fun ds => Q (.sh (.lst (cutA ds lo hi))) Ω
instance r_slL : SRS K am wSlL dSlL := ⟨fun {c T σ Γ Ω H x wx lo hi Q R} e hx h k => by
  obtain ⟨a, vs, ws, rfl, ha, hv, h_1⟩ := seqW_el e hx h
  obtain ⟨ds, rfl, h_2⟩ := shsW_el h_1
  show lstO (H a) _
  rw [ha]
  intro p hp
  have := cut_oks hv lo hi
  rw [cutA_map] at this
  exact k _ _ _ _ h_2 (e.lst hp this.lay)⟩
def dSlT (x : W) (lo : Option Int) (hi : Option Int) (Ω : Om) (Q : DQ) : Prop := tupW x fun ds => Q (.sh (.tup (cutA ds lo hi))) Ω
instance r_slA : SRS K am (rSlA K) dSlT := ⟨fun {c T σ Γ Ω H x wx lo hi Q R} e hx h k => by
  obtain ⟨ds, rfl, h_1⟩ := tupW_el h
  obtain ⟨a, vs, rfl, na, ha, hv⟩ := hx
  have n1 := hv.len
  refine ⟨a, vs, rfl, SqT.of ha, fun z => ?_, fun z p hp => ?_⟩
  · have e1 : cutA ds lo hi = ds := by
      unfold cutA
      rw [n1, z.1, z.2, List.drop_zero, Nat.sub_zero, ← n1, List.take_length]
    rw [e1] at h_1
    exact k _ _ _ _ h_1 (e.addv ⟨a, vs, rfl, na, ha, hv⟩)
  · have := cut_oks (VOks.sh_of hv) lo hi
    rw [cutA_map] at this
    exact k _ _ _ _ h_1 (e.tup hp this.lay)⟩
def dSlS (x : W) (lo : Option Int) (hi : Option Int) (Ω : Om) (Q : DQ) : Prop := strW x fun z => z.length ≤ sizeLine ∧ Q (.sh (.str (cutS z lo hi))) Ω
instance r_slS : SRS K am rSlS dSlS := ⟨fun {c T σ Γ Ω H x wx lo hi Q R} e hx h k => by
  obtain ⟨z, rfl, h0, h_1⟩ := strW_el h
  exact ⟨z, hx, h0, k _ _ _ _ h_1 (e.addv rfl)⟩⟩
def dRev (da : DT) (Γ : Gm) (Ω : Om) (Q : DQ) : Prop := da Γ Ω fun x Ω1 => seqW Ω1 x fun ws => shsW ws fun ds => Q (.sh (.lst ds.reverse)) Ω1
instance s_rev {ta : TE} {da : DT} [s1 : SE K am ta da] : SE K am (vRev ta) (dRev da) := ⟨fun {c T σ Γ Ω H Q R} e h k =>
  s1.run e h fun x wx Ω1 H1 h1 e1 => by
    obtain ⟨a, vs, ws, rfl, ha, hv, h⟩ := seqW_el e1.drop e1.hd h1
    obtain ⟨ds, rfl, h_1⟩ := shsW_el h
    show lstO (H1 a) _
    rw [ha]
    intro p hp
    have := hv.rev
    rw [← List.map_reverse] at this
    exact k _ _ _ _ h_1 (e1.drop.lst hp this.lay)⟩
/-! dicts -/
def dvalR (ks : List Key) (ws : List W) (x : Key) (k : W → Prop) : Prop := match dval ks ws x with | some w => k w | none => False
def dDGet (da db : DT) (Γ : Gm) (Ω : Om) (Q : DQ) : Prop := da Γ Ω fun x Ω1 => db Γ Ω1 fun y Ω2 => dicW Ω2 x fun ks ws => keyW y fun q => dvalR ks ws q fun w => Q w Ω2
theorem rd_dkR {a : Addr} {kvs : List (Key × V)} {k : List (Key × V) → Prop} (h : Rd H a (.dK kvs)) (z : k kvs) : dkR (H a) k := by
  rcases h with h | ⟨o, h⟩
  · rw [h]; exact z
  · rw [h]; exact z
theorem keyR_k {k : Key → Prop} (q : Key) (h : k q) : keyR (kV q) k := by cases q <;> exact h
instance s_dget {ta tb : TE} {da db : DT} [s1 : SE K am ta da] [s2 : SE K am tb db] : SE K am (vDGet ta tb) (dDGet da db) := ⟨fun {c T σ Γ Ω H Q R} e h k =>
  s1.run e h fun x wx Ω1 H1 h1 e1 => s2.run e1 h1 fun y wy Ω2 H2 h2 e2 => by
    obtain ⟨a, ks, vs, ws, rfl, ha, hn, hv, h⟩ := dicW_el e2.drop.drop e2.drop.hd h2
    obtain ⟨q, rfl, h_1⟩ := keyW_el h e2.hd
    unfold dvalR at h_1
    split at h_1
    · rename_i w hw
      obtain ⟨v, g1, g2⟩ := valV_zip hv hw
      refine rd_dkR ha (keyR_k q ?_)
      show optR _ _
      rw [g1]
      exact k _ _ _ _ h_1 (e2.drop.drop.addv g2)
    · exact h_1.elim⟩
def hasK (ks : List Key) (q : Key) : Bool := ks.any fun x => decide (x = q)
def dDIn (neg : Bool) (da db : DT) (Γ : Gm) (Ω : Om) (Q : DQ) : Prop := da Γ Ω fun y Ω1 => db Γ Ω1 fun x Ω2 => dicW Ω2 x fun ks ws => keyW y fun q => Q (.sh (.bl (if neg then !hasK ks q else hasK ks q))) Ω2
instance s_din {ta tb : TE} {da db : DT} [s1 : SE K am ta da] [s2 : SE K am tb db] : SE K am (vDIn ta tb) (dDIn false da db) := ⟨fun {c T σ Γ Ω H Q R} e h k =>
  s1.run e h fun y wy Ω1 H1 h1 e1 => s2.run e1 h1 fun x wx Ω2 H2 h2 e2 => by
    obtain ⟨a, ks, vs, ws, rfl, ha, hn, hv, h⟩ := dicW_el e2.drop.drop e2.hd h2
    obtain ⟨q, rfl, h_1⟩ := keyW_el h e2.drop.hd
    refine rd_dkR ha (keyR_k q ?_)
    rw [valV_zipN hn hv]
    exact k _ _ _ _ h_1 (e2.drop.drop.addv rfl)⟩
instance s_dnotin {ta tb : TE} {da db : DT} [s1 : SE K am ta da] [s2 : SE K am tb db] : SE K am (vDNotIn ta tb) (dDIn true da db) := ⟨fun {c T σ Γ Ω H Q R} e h k =>
  s1.run e h fun y wy Ω1 H1 h1 e1 => s2.run e1 h1 fun x wx Ω2 H2 h2 e2 => by
    obtain ⟨a, ks, vs, ws, rfl, ha, hn, hv, h⟩ := dicW_el e2.drop.drop e2.hd h2
    obtain ⟨q, rfl, h_1⟩ := keyW_el h e2.drop.hd
    refine rd_dkR ha (keyR_k q ?_)
    rw [valV_zipN hn hv]
    exact k _ _ _ _ h_1 (e2.drop.drop.addv rfl)⟩
def dDNew (_Γ0 : Gm) (Ω : Om) (Q : DQ) : Prop := ∀ p, notin p Ω → Q (.pt p) ((p, .dic [] []) :: Ω)
instance s_dnew : SE K am (ownE tDNewK) dDNew := ⟨fun {c T σ Γ Ω H Q R} e h k => fun p hp =>
  k _ _ _ _ (h p fun z => e.noEx hp (.inr z)) (e.own hp (e.new hp) (.inr ⟨[], [], [], rfl, rfl, rfl, rfl⟩))⟩
def dDNewS (_Γ0 : Gm) (Ω : Om) (Q : DQ) : Prop := Q (.sh (.dic [] [])) Ω
instance s_dnewS : SE K am tDNewK dDNewS := ⟨fun {c T σ Γ Ω H Q R} e h k => fun p hp =>
  k _ _ _ _ h (e.alloc hp |>.addv ⟨p, [], rfl, e.noEx hp, upd_same, rfl, rfl⟩)⟩
/-- a dict's pairs, one put -/
def putA (ks : List Key) (ws : List W) (q : Key) (w : W) : List Key × List W := if hasK ks q = true then (ks, (ks.zip ws).map fun p => if p.1 = q then w else p.2) else (ks ++ [q], ws ++ [w])
theorem putA_ok : ∀ {ks : List Key} {ws : List W} {vs : List V} (q : Key) {w : W} {v : V}, ks.length = ws.length → VOks K H E ws vs → VOk K H E w v →
    ∃ vs', putK (ks.zip vs) q v = (putA ks ws q w).1.zip vs' ∧ (putA ks ws q w).1.length = (putA ks ws q w).2.length ∧ VOks K H E (putA ks ws q w).2 vs' := by
  intro ks ws vs q w v hn hv hw
  have any_eq : ∀ {ks : List Key} {vs : List V}, ks.length = vs.length → ((ks.zip vs).any fun kv => decide (kv.1 = q)) = hasK ks q := by
    intro ks
    induction ks with
    | nil => intro vs _; rfl
    | cons k ks ih =>
      intro vs h
      cases vs with
      | nil => simp at h
      | cons v vs =>
        unfold hasK at ih ⊢
        rw [List.zip_cons_cons, List.any_cons, List.any_cons, ih (by simpa using h)]
  have n2 : ks.length = vs.length := by rw [hn, hv.len]
  unfold putK putA
  rw [any_eq n2]
  by_cases hb : hasK ks q = true
  · rw [if_pos hb, if_pos hb]
    refine ⟨(ks.zip vs).map fun kv => if kv.1 = q then v else kv.2, ?_, ?_, ?_⟩
    · clear hb hv hw any_eq hn
      induction ks generalizing vs with
      | nil => rfl
      | cons k ks ih =>
        cases vs with
        | nil => simp at n2
        | cons u us =>
          rw [List.zip_cons_cons, List.map_cons, List.map_cons, List.zip_cons_cons, ← ih (by simpa using n2)]
          congr 1
          by_cases z : k = q <;> simp [z]
    · simp [List.length_zip, hn]
    · clear hb any_eq n2
      induction ks generalizing ws vs with
      | nil => exact rfl
      | cons k ks ih =>
        cases ws with
        | nil => simp at hn
        | cons w0 ws =>
          obtain ⟨u, us, rfl, h1, h2⟩ := hv
          rw [List.zip_cons_cons, List.map_cons, List.zip_cons_cons, List.map_cons]
          refine ⟨_, _, rfl, ?_, ih (by simpa using hn) h2⟩
          by_cases z : k = q
          · simp only [z, if_true]; exact hw
          · simp only [z, if_false]; exact h1
  · rw [if_neg hb, if_neg hb]
    exact ⟨vs ++ [v], by rw [List.zip_append n2]; rfl, by simp [hn], hv.app (.one hw)⟩
def dsDPut (dd dk dv : DT) (N : DN) (Γ : Gm) (Ω : Om) : Prop := dv Γ Ω fun v Ω1 => dd Γ Ω1 fun x Ω2 => dk Γ Ω2 fun y Ω3 => ownD Ω3 x fun p ks ws => keyW y fun q => lenLt ks ∧ N.nx Γ (OA.put Ω3 p (.dic (putA ks ws q v).1 (putA ks ws q v).2))
instance s_dput {td ty tv : TE} {dd dk dv : DT} [s1 : SE K am tv dv] [s2 : SE K am td dd] [s3 : SE K am ty dk] : SS K am (vsDPut td ty tv) (dsDPut dd dk dv) := ⟨fun {c T σ Γ Ω H D N} e h o =>
  s1.run e h fun v wv Ω1 H1 h1 e1 => s2.run e1 h1 fun x wx Ω2 H2 h2 e2 => s3.run e2 h2 fun y wy Ω3 H3 h3 e3 => by
    obtain ⟨a, ks, vs, ws, rfl, hl, ha, hn, hv, h⟩ := ownD_el e3 e3.drop.hd h3
    obtain ⟨q, rfl, h0, h_1⟩ := keyW_el h e3.hd
    obtain ⟨vs', g1, g2, g3⟩ := putA_ok q hn hv e3.drop.drop.hd
    show dkO (H3 a) _
    rw [ha]
    refine keyR_k (k := fun q => (ks.zip vs).length < sizeLine ∧ D.nx σ (upd H3 a (.dK (putK (ks.zip vs) q v)))) q ⟨?_, o.nx _ _ _ _ h_1 (e3.drop.drop.drop.putD hl g1 g2 g3)⟩
    rw [List.length_zip, ← hv.len, hn, Nat.min_self, ← hn]
    exact h0⟩
/-! stores into lists -/
def dgSub (r : W → W → W → Om → (Om → Prop) → Prop) (do_ di : DT) (w : W) (Γ : Gm) (Ω : Om) (Q : Gm → Om → Prop) : Prop := do_ Γ Ω fun x Ω1 => di Γ Ω1 fun y Ω2 => r x y w Ω2 fun Ω3 => Q Γ Ω3
def dSetL (x : W) (y : W) (w : W) (Ω : Om) (Q : Om → Prop) : Prop := ownL Ω x fun p ws => intW y fun i => match ixN ws.length i with | some j => Q (OA.put Ω p (.lst (ws.set j w))) | none => False
instance s_gsub {to ti : TE} {do_ di : DT} [s1 : SE K am to do_] [s2 : SE K am ti di] : SG K am (gSub to ti wSetL) (dgSub dSetL do_ di) [] := ⟨fun {c T σ Γ Ω H v w Q R} e hv h k =>
  s1.run (T := .v w v :: T) (e.addv hv) h fun x wx Ω1 H1 h1 e1 => s2.run e1 h1 fun y wy Ω2 H2 h2 e2 => by
    obtain ⟨a, vs, ws, rfl, hl, ha, hs, h⟩ := ownL_el e2 e2.drop.hd h2
    obtain ⟨i, rfl, h_1⟩ := intW_el h
    obtain rfl : y = .int i := e2.hd
    show lstO (H2 a) _
    rw [ha]
    show optR _ _
    rw [← hs.len]
    split at h_1
    · rename_i j hj
      rw [hj]
      exact k _ _ _ _ h_1 (e2.drop.drop.drop.putL hl (hs.set j e2.drop.drop.hd)) (fun _ _ => rfl)
    · exact h_1.elim⟩
/-! methods of lists -/
def isLW (Ω : Om) (w : W) : Prop := seqW Ω w fun _ => True
theorem isL_of {c : Cq am} {T : List Tp} {σ : L2.St} {Γ : Gm} {Ω : Om} {w : W} {v : V} (e : DEnv K c T σ Γ Ω H) (hv : VOk K H (Ex c Ω) w v) (h : isLW Ω w) : isLst H v := by
  obtain ⟨a, vs, ws, rfl, ha, _, _⟩ := seqW_el e hv h
  show lstO (H a) _
  rw [ha]
  exact True.intro
def dLM (r : DRM) (do_ : DT) (das : DA) (Γ : Gm) (Ω : Om) (Q : DQ) : Prop := do_ Γ Ω fun w Ω1 => isLW Ω1 w ∧ das Γ Ω1 fun ws Ω2 => r w ws Ω2 Q
instance s_lm {r : V → List V → Hp → VK → Prop} {d : DRM} {to : TE} {do_ : DT} {t : TA} {das : DA} [s1 : SE K am to do_] [s2 : SA K am t das] [s3 : SRM K am r d] : SE K am (vLM r to t) (dLM d do_ das) := ⟨fun {c T σ Γ Ω H Q R} e h k =>
  s1.run e h fun x wx Ω1 H1 h1 e1 => ⟨isL_of e1 e1.hd h1.1, s2.run e1 h1.2 fun vs ws Ω2 H2 h2 e2 hv => s3.run e2.drop e2.hd hv h2 k⟩⟩
def dLM0 (r : DRM) (do_ : DT) (Γ : Gm) (Ω : Om) (Q : DQ) : Prop := do_ Γ Ω fun w Ω1 => isLW Ω1 w ∧ r w [] Ω1 Q
instance s_lm0 {r : V → List V → Hp → VK → Prop} {d : DRM} {to : TE} {do_ : DT} [s1 : SE K am to do_] [s3 : SRM K am r d] : SE K am (vLM0 r to) (dLM0 d do_) := ⟨fun {c T σ Γ Ω H Q R} e h k =>
  s1.run e h fun x wx Ω1 H1 h1 e1 => ⟨isL_of e1 e1.hd h1.1, s3.run (ws := []) e1.drop e1.hd rfl h1.2 k⟩⟩
def dAppend (w : W) (ws : List W) (Ω : Om) (Q : DQ) : Prop := ownL Ω w fun p xs => one1W ws fun y => lenLt xs ∧ Q (.sh .non) (OA.put Ω p (.lst (xs ++ [y])))
instance r_append : SRM K am wAppend dAppend := ⟨fun {c T σ Γ Ω H x w xs ws Q R} e hx hs h k => by
  obtain ⟨a, vs, us, rfl, hl, ha, hv, h_1⟩ := ownL_el e hx h
  obtain ⟨y, v, rfl, hy, h0, h_2⟩ := one1W_el h_1 hs
  show lstO (H a) _
  rw [ha]
  exact ⟨by rw [← hv.len]; exact h0, k _ _ _ _ h_2 ((e.putL hl (hv.app (.one hy))).addv rfl)⟩⟩
def dPopAt (w : W) (ws : List W) (Ω : Om) (Q : DQ) : Prop := ownL Ω w fun p xs => one1W ws fun y => intW y fun i => (0 ≤ i ∧ i < 2 ^ 63) ∧ match xs[i.toNat]? with | some u => Q u (OA.put Ω p (.lst (xs.eraseIdx i.toNat))) | none => False
instance r_popAt : SRM K am wPopAt dPopAt := ⟨fun {c T σ Γ Ω H x w xs ws Q R} e hx hs h k => by
  obtain ⟨a, vs, us, rfl, hl, ha, hv, h_1⟩ := ownL_el e hx h
  obtain ⟨y, v, rfl, hy, h_2⟩ := one1W_el h_1 hs
  obtain ⟨i, rfl, h0, h_3⟩ := intW_el h_2
  obtain rfl : v = .int i := hy
  show lstO (H a) _
  rw [ha]
  refine ⟨h0, ?_⟩
  split at h_3
  · rename_i u hu
    obtain ⟨z, g1, g2⟩ := hv.to _ hu
    show optR _ _
    rw [g1]
    have e2 := (e.addv (w := u) (v := z) g2).putL (ws' := us.eraseIdx i.toNat) (vs' := vs.eraseIdx i.toNat) hl (hv.erase _)
    exact k _ _ _ _ h_3 e2
  · exact h_3.elim⟩
/-! calls of built-ins -/
def lenW (Ω : Om) (w : W) (k : Nat → Prop) : Prop := match w with
  | .sh (.lst xs) => k xs.length
  | .sh (.tup xs) => k xs.length
  | .sh (.str s) => s.length ≤ sizeLine ∧ k s.length
  | .sh (.dic ks _) => k ks.length
  | .pt p => match look Ω p with
    | some (.lst ws) => k ws.length
    | some (.dic ks _) => k ks.length
    | _ => False
  | _ => False
def dLen (ws : List W) (Ω : Om) (Q : DQ) : Prop := one1W ws fun w => lenW Ω w fun n => Q (.sh (.int n)) Ω
instance r_len : SRC K am lenR dLen := ⟨fun {c T σ Γ Ω H xs ws Q R} e hs h k => by
  obtain ⟨w, v, rfl, hw, h_1⟩ := one1W_el h hs
  unfold lenW at h_1
  split at h_1
  · obtain ⟨a, vs, rfl, n, ha, hl⟩ := hw
    rw [len_r, ha]
    show R (.int vs.length) H
    rw [← hl.len]
    exact k _ _ _ _ h_1 (e.addv rfl)
  · obtain ⟨a, vs, rfl, n, ha, hl⟩ := hw
    rw [len_r, ha]
    show R (.int vs.length) H
    rw [← hl.len]
    exact k _ _ _ _ h_1 (e.addv rfl)
  · obtain rfl : v = .str _ := hw
    exact ⟨h_1.1, k _ _ _ _ h_1.2 (e.addv rfl)⟩
  · rename_i ks xs
    obtain ⟨a, vs, rfl, n, ha, hn, hl⟩ := hw
    rw [len_r, ha]
    show R (.int (ks.zip vs).length) H
    have : (ks.zip vs).length = ks.length := by rw [List.length_zip, ← hl.len, hn, Nat.min_self]
    rw [this]
    exact k _ _ _ _ h_1 (e.addv rfl)
  · split at h_1
    · rename_i us hl
      obtain ⟨vs, h1, h2⟩ := e.ob _ (look_mem hl)
      obtain rfl : v = .ref _ := hw
      rw [len_r, h1]
      show R (.int vs.length) H
      rw [← h2.len]
      exact k _ _ _ _ h_1 (e.addv rfl)
    · rename_i ks us hl
      obtain ⟨vs, h1, hn, h2⟩ := e.ob _ (look_mem hl)
      obtain rfl : v = .ref _ := hw
      rw [len_r, h1]
      show R (.int (ks.zip vs).length) H
      have : (ks.zip vs).length = ks.length := by rw [List.length_zip, ← h2.len, hn, Nat.min_self]
      rw [this]
      exact k _ _ _ _ h_1 (e.addv rfl)
    · exact h_1.elim
  · exact h_1.elim⟩
def dTupL (ws : List W) (Ω : Om) (Q : DQ) : Prop := one1W ws fun w => seqW Ω w fun us => shsW us fun ds => Q (.sh (.tup ds)) Ω
instance r_tupL : SRC K am wTupL dTupL := ⟨fun {c T σ Γ Ω H xs ws Q R} e hs h k => by
  obtain ⟨w, v, rfl, hw, h_1⟩ := one1W_el h hs
  obtain ⟨a, vs, us, rfl, ha, hv, h_2⟩ := seqW_el e hw h_1
  obtain ⟨ds, rfl, h_3⟩ := shsW_el h_2
  show lstO (H a) _
  rw [ha]
  exact fun l hl => k _ _ _ _ h_3 (e.tup hl hv.lay)⟩
def dLstL (ws : List W) (Ω : Om) (Q : DQ) : Prop := one1W ws fun w => seqW Ω w fun us => shsW us fun ds => Q (.sh (.lst ds)) Ω
instance r_lstL : SRC K am wLstL dLstL := ⟨fun {c T σ Γ Ω H xs ws Q R} e hs h k => by
  obtain ⟨w, v, rfl, hw, h_1⟩ := one1W_el h hs
  obtain ⟨a, vs, us, rfl, ha, hv, h_2⟩ := seqW_el e hw h_1
  obtain ⟨ds, rfl, h_3⟩ := shsW_el h_2
  show lstO (H a) _
  rw [ha]
  exact fun l hl => k _ _ _ _ h_3 (e.lst hl hv.lay)⟩
def dAbs (ws : List W) (Ω : Om) (Q : DQ) : Prop := one1W ws fun w => intW w fun i => Q (.sh (.int (if i < 0 then -i else i))) Ω
instance r_abs : SRC K am wAbs dAbs := ⟨fun {c T σ Γ Ω H xs ws Q R} e hs h k => by
  obtain ⟨w, v, rfl, hw, h_1⟩ := one1W_el h hs
  obtain ⟨i, rfl, h_2⟩ := intW_el h_1
  obtain rfl : v = .int i := hw
  exact k _ _ _ _ h_2 (e.addv rfl)⟩
def dIntB (ws : List W) (Ω : Om) (Q : DQ) : Prop := one1W ws fun w => blW w fun i => Q (.sh (.int (if i then 1 else 0))) Ω
instance r_intB : SRC K am wIntB dIntB := ⟨fun {c T σ Γ Ω H xs ws Q R} e hs h k => by
  obtain ⟨w, v, rfl, hw, h_1⟩ := one1W_el h hs
  obtain ⟨i, rfl, h_2⟩ := blW_el h_1
  obtain rfl : v = .bl i := hw
  exact k _ _ _ _ h_2 (e.addv rfl)⟩
def dMin2 (ws : List W) (Ω : Om) (Q : DQ) : Prop := two2W ws fun x y => intW x fun i => intW y fun j => Q (.sh (.int (if j < i then j else i))) Ω
instance r_min2 : SRC K am wMin2 dMin2 := ⟨fun {c T σ Γ Ω H xs ws Q R} e hs h k => by
  obtain ⟨w, v, w2, v2, rfl, hw, hw2, h_1⟩ := two2W_el h hs
  obtain ⟨i, rfl, h_2⟩ := intW_el h_1
  obtain ⟨j, rfl, h_3⟩ := intW_el h_2
  obtain rfl : v = .int i := hw
  obtain rfl : v2 = .int j := hw2
  exact k _ _ _ _ h_3 (e.addv rfl)⟩
def dMax2 (ws : List W) (Ω : Om) (Q : DQ) : Prop := two2W ws fun x y => intW x fun i => intW y fun j => Q (.sh (.int (if j > i then j else i))) Ω
instance r_max2 : SRC K am wMax2 dMax2 := ⟨fun {c T σ Γ Ω H xs ws Q R} e hs h k => by
  obtain ⟨w, v, w2, v2, rfl, hw, hw2, h_1⟩ := two2W_el h hs
  obtain ⟨i, rfl, h_2⟩ := intW_el h_1
  obtain ⟨j, rfl, h_3⟩ := intW_el h_2
  obtain rfl : v = .int i := hw
  obtain rfl : v2 = .int j := hw2
  exact k _ _ _ _ h_3 (e.addv rfl)⟩
def maxI (d0 : Int) : List Int → Int
  | [] => d0
  | x :: r => r.foldl max x
theorem foldl_max (r : List Int) : ∀ x : Int, r.foldl max x ∈ x :: r ∧ ∀ y ∈ x :: r, y ≤ r.foldl max x := by
  induction r with
  | nil => intro x; simp
  | cons a r ih =>
    intro x
    rw [List.foldl_cons]
    obtain ⟨h1, h2⟩ := ih (max x a)
    have h3 := h2 (max x a) List.mem_cons_self
    refine ⟨?_, fun y hy => ?_⟩
    · rcases List.mem_cons.mp h1 with h | h
      · rw [h]
        rcases Int.le_total x a with z | z
        · rw [Int.max_eq_right z]; simp
        · rw [Int.max_eq_left z]; simp
      · simp [h]
    · rcases List.mem_cons.mp hy with rfl | hy
      · omega
      · rcases List.mem_cons.mp hy with rfl | hy
        · omega
        · exact h2 y (List.mem_cons_of_mem _ hy)
theorem maxI_eq {ns : List Int} {m d0 : Int} (h0 : ns = [] → m = d0) (h1 : ns ≠ [] → m ∈ ns ∧ ∀ y ∈ ns, y ≤ m) : m = maxI d0 ns := by
  cases ns with
  | nil => exact h0 rfl
  | cons x r =>
    obtain ⟨a, b⟩ := h1 (by simp)
    obtain ⟨c, d⟩ := foldl_max r x
    have := b _ c
    have := d _ a
    show m = r.foldl max x
    omega
def dMaxL (ws : List W) (Ω : Om) (Q : DQ) : Prop := one1W ws fun w => seqW Ω w fun us => shsW us fun ds => intsD ds fun ns => ns ≠ [] ∧ Q (.sh (.int (maxI 0 ns))) Ω
instance r_maxL : SRC K am (rMax K) dMaxL := ⟨fun {c T σ Γ Ω H xs ws Q R} e hs h k => by
  obtain ⟨w, v, rfl, hw, h_1⟩ := one1W_el h hs
  obtain ⟨a, vs, us, rfl, ha, hv, h_2⟩ := seqW_el e hw h_1
  obtain ⟨ds, rfl, h_3⟩ := shsW_el h_2
  obtain ⟨ns, rfl, h0, h_4⟩ := intsD_el h_3
  rw [lay_ints hv.lay] at ha
  refine ⟨a, ns, rfl, SqL.of ha, List.length_pos_iff.mpr h0, fun m h1 h2 => ?_⟩
  rw [maxI_eq (d0 := 0) (fun z => absurd z h0) fun _ => ⟨h1, h2⟩]
  exact k _ _ _ _ h_4 (e.addv rfl)⟩
/-- max(tuple of ints, default=n) -/
def wMaxT : List V → List V → Hp → VK → Prop := fun vs zs H Q => one1 vs fun x => one1 zs fun z => refR x fun p => intR z fun d0 => tupO (H p) fun xs => ∃ ns : List Int, xs = ns.map V.int ∧ ∀ m, (ns = [] → m = d0) → (ns ≠ [] → m ∈ ns ∧ ∀ y ∈ ns, y ≤ m) → Q (.int m) H
theorem c_maxT {X : Cx} (hc : X.calm = true) : CallRK X (.builtin "max") [Str.ofString "default"] wMaxT := by
  intro pins s σ H xs zs us ws Q I rx rz h
  obtain ⟨x, rfl, h_1⟩ := one1_el h
  obtain ⟨z, rfl, h_2⟩ := one1_el h_1
  obtain ⟨p, rfl, h_3⟩ := refR_el h_2
  obtain ⟨d0, rfl, h_4⟩ := intR_el h_3
  obtain ⟨vs, hp, ns, rfl, q⟩ := tupO_el h_4
  obtain ⟨u, rfl, ru⟩ := rx.one
  obtain ⟨w1, rfl, t0, rfl⟩ := rz.one
  cases ru
  obtain ⟨its, rv, ht, _⟩ := I.tuple (SqT.of (K := X.K) hp)
  have hl := rv.length
  rw [List.length_map] at hl
  have hplt : p < s.heap.objs.size := by obtain ⟨_, e, _⟩ := ht; exact Heap.lt_size e
  have val : ∀ (i : Nat) (v : Value), its.toArray[i]? = some v → ∃ t, v = .int (ns.getD i 0) t := by
    intro i v hv
    have hv' : its[i]? = some v := by simpa using hv
    have hi : i < its.length := (List.getElem?_eq_some_iff.mp hv').1
    have gen : ∀ {as : List Int} {bs : List Value} (j : Nat), Vals (as.map V.int) bs → ∀ {v : Value}, bs[j]? = some v → ∃ t, v = .int (as.getD j 0) t := by
      intro as
      induction as with
      | nil => intro bs j r v hv; cases r; simp at hv
      | cons a as ih =>
        intro bs j r v hv
        cases r with
        | cons r1 r2 =>
          cases j with
          | zero => cases hv; exact r1
          | succ j => simpa using ih j r2 (v := v) (by simpa using hv)
    exact gen i rv hv'
  have ne : p ≠ s.heap.objs.size := Nat.ne_of_lt hplt
  show wpAny _ _ (call (.builtin "max") [.ref p] [(Str.ofString "default", .int d0 t0)]) _ _ _
  refine call_max_walkD (wpAny_pyIter_tuple (show s.heap.IsTuple p its.toArray from ht) ⟨s.heap.objs.size, [s.heap.objs.size, p], [s.heap.objs.size], _, its.toArray.size, _, _, s.heap, (fun i j => decide (ns.getD i 0 > ns.getD j 0)), rfl, (Walks.tuple (A := X.A.in1) (I.ok.hd hc) s.heap.objs.size p ne its.toArray).toS, ⟨⟨_, Heap.get?_push_size _ rfl, rfl, rfl⟩, ?_⟩, fun b hb => ?_, fun b o e hb => ?_, fun b o e => Heap.get?_push_of_some _ e, fun hz s' m => ?_, fun hp0 => ⟨fun i j vi vj s' Q' E' _ hi hj hq => CmpOf.ints_gt (fun i => ns.getD i 0) val i j vi vj s' Q' E' hi hj hq, fun v s' hP m => ?_⟩⟩)
  · obtain ⟨o, e, r⟩ := ht
    exact ⟨o, Heap.get?_push_of_some _ e, r⟩
  · show b < (s.heap.push _).objs.size
    rw [Heap.size_push]
    rcases List.mem_cons.mp hb with rfl | hb
    · exact Nat.lt_succ_self _
    · rcases List.mem_cons.mp hb with rfl | hb
      · exact Nat.lt_succ_of_lt hplt
      · cases hb
  · exact absurd (Heap.lt_size e) ((List.mem_singleton.mp hb) ▸ Nat.lt_irrefl _)
  · obtain ⟨h', tk, rfl, hk'⟩ := PySem.W.moved_old rfl rfl m
    have hn0 : ns = [] := List.eq_nil_of_length_eq_zero (by simp at hz; rw [hz] at hl; simpa using hl)
    exact ⟨.int d0, H, I.kept hk', ⟨t0, rfl⟩, q d0 (fun _ => rfl) fun h => absurd hn0 h⟩
  · obtain ⟨h', tk, rfl, hk'⟩ := PySem.W.moved_old rfl rfl m
    obtain ⟨t, rfl⟩ := val _ v hP
    obtain ⟨h1, h2⟩ := argBest_gt (fun i => ns.getD i 0) (its.toArray.size - 1)
    have es : its.toArray.size = ns.length := by rw [List.size_toArray, hl]
    rw [es] at h1 h2 hp0 ⊢
    refine ⟨.int _, H, I.kept hk', ⟨t, rfl⟩, q _ (fun h => by rw [h] at hp0; simp at hp0) fun _ => ⟨?_, fun y hy => ?_⟩⟩
    · have hb : argBest (fun i j => decide (ns.getD i 0 > ns.getD j 0)) (ns.length - 1) < ns.length := by
        have h1' : argBest (fun i j => decide (ns.getD i 0 > ns.getD j 0)) (ns.length - 1) ≤ ns.length - 1 := h1
        omega
      generalize argBest (fun i j => decide (ns.getD i 0 > ns.getD j 0)) (ns.length - 1) = b at hb ⊢
      simp [hb]
    · obtain ⟨j, hj, rfl⟩ := List.getElem_of_mem hy
      have := h2 j (by omega)
      rw [show ns.getD j 0 = ns[j] by simp [hj]] at this
      exact this
class SRK (K : PySem.W.Frag) (am : Am) (r : List V → List V → Hp → VK → Prop) (d : outParam (List W → List W → Om → DQ → Prop)) : Prop where
  run : ∀ {c : Cq am} {T : List Tp} {σ : L2.St} {Γ : Gm} {Ω : Om} {H : Hp} {xs zs : List V} {ws us : List W} {Q : DQ} {R : VK}, DEnv K c T σ Γ Ω H → VOks K H (Ex c Ω) ws xs → VOks K H (Ex c Ω) us zs → d ws us Ω Q → (∀ v w Ω' H', Q w Ω' → DEnv K c (.v w v :: T) σ Γ Ω' H' → R v H') → r xs zs H R
def dCKw (r : List W → List W → Om → DQ → Prop) (da dk : DA) (Γ : Gm) (Ω : Om) (Q : DQ) : Prop := da Γ Ω fun ws Ω1 => dk Γ Ω1 fun us Ω2 => r ws us Ω2 Q
instance s_ckw {r : List V → List V → Hp → VK → Prop} {d : List W → List W → Om → DQ → Prop} {t tk : TA} {da dk : DA} [s1 : SA K am t da] [s2 : SA K am tk dk] [s3 : SRK K am r d] : SE K am (tCKw r t tk) (dCKw d da dk) := ⟨fun {c T σ Γ Ω H Q R} e h k =>
  s1.run e h fun vs ws Ω1 H1 h1 e1 hv => by
    obtain ⟨S, e2, h3⟩ := oks_keep e1 hv
    exact s2.run e2 h1 fun zs us Ω2 H2 h4 e3 hz => s3.run e3.drops (h3 e3) hz h4 k⟩
def dMaxT (ws : List W) (us : List W) (Ω : Om) (Q : DQ) : Prop := one1W ws fun w => one1W us fun u => intW u fun d0 => tupW w fun ds => intsD ds fun ns => Q (.sh (.int (maxI d0 ns))) Ω
instance r_maxT : SRK K am wMaxT dMaxT := ⟨fun {c T σ Γ Ω H xs zs ws us Q R} e hs hz h k => by
  obtain ⟨w, v, rfl, hw, h_1⟩ := one1W_el h hs
  obtain ⟨u, z, rfl, hu, h_2⟩ := one1W_el h_1 hz
  obtain ⟨d0, rfl, h_3⟩ := intW_el h_2
  obtain ⟨a, vs, ds, rfl, ha, hl, h_4⟩ := tupW_at hw h_3
  obtain ⟨ns, rfl, h_5⟩ := intsD_el h_4
  obtain rfl : z = .int d0 := hu
  show tupO (H a) _
  rw [ha]
  refine ⟨ns, lay_ints hl, fun m h0 h1 => ?_⟩
  rw [maxI_eq h0 h1]
  exact k _ _ _ _ h_5 (e.addv rfl)⟩
/-! isinstance -/
def tnW (Ω : Om) (w : W) (k : String → Prop) : Prop := match w with
  | .sh .non => k "NoneType"
  | .sh (.bl _) => k "bool"
  | .sh (.int _) => k "int"
  | .sh (.str _) => k "str"
  | .sh (.tup _) => k "tuple"
  | .sh (.lst _) => k "list"
  | .pt p => match look Ω p with
    | some (.lst _) => k "list"
    | some (.dic _ _) => k "dict"
    | _ => False
  | _ => False
def kitR (a b : String) (k : Bool → Prop) : Prop := match kitB a b with | some r => k r | none => False
end
end OA

namespace OA
open PySem PySem.Spec PyProof.Rows L2
/-! defs by data -/
def ExN (E : Addr → Prop) (Ωn : Om) : Addr → Prop := fun b => E b ∨ b ∈ Ωn.map (·.1)
abbrev DSp := List W → DQ → Prop
def spD (K : PySem.W.Frag) (am : Am) (sp : DSp) : Sp := fun vs H Q _ => ∃ (E : Addr → Prop) (ws : List W) (Qd : DQ), (∀ b, E b → EOk H b) ∧ (∀ b, am.M b → E b) ∧ am.I H ∧ VOks K H E ws vs ∧ sp ws Qd ∧
  ∀ v H' w Ωn, Qd w Ωn → VOk K H' (ExN E Ωn) w v → (∀ q ∈ Ωn, ObOk K H' (ExN E Ωn) q.1 q.2) → (∀ p ∈ Ωn.map (·.1), H p = none) → (Ωn.map (·.1)).Nodup → (∀ b o, ¬ am.M b → H b = some o → H' b = some o) → am.I H' → Q v H'
/-- what is told: a shared thing, or an own one given away -/
inductive RtD (Q : DQ) : W → Om → Prop
  | sh {d : D} {Ω : Om} : Q (.sh d) [] → RtD Q (.sh d) Ω
  | own {p : Addr} {Ω : Om} {od : OD} : look Ω p = some od → Q (.pt p) [(p, od)] → RtD Q (.pt p) Ω
  | frz {p : Addr} {d : D} {Ω : Om} : Fz1 Ω p d → Q (.sh d) [] → RtD Q (.pt p) Ω
def startG (n : Nat) (ws : List W) : Gm := ws.map some ++ List.replicate (n - ws.length) none
section
variable {K : PySem.W.Frag} {am : Am}
theorem spD_run {X : Cx} {body : List Stmt} {ts : TS} {td : DS} {sp : DSp} {vs : List V} {H : Hp} {Q : VK} {E0 : XK} {N : List Str} (h : spD K am sp vs H Q E0) (hP : PSs X body ts) (hs : SS K am ts td)
    (hD : ∀ ws Qd, sp ws Qd → td ⟨fun _ _ => Qd (.sh .non) [], RtD Qd, fun _ _ => False, fun _ _ => False⟩ (startG N.length ws) []) :
    ∃ t, PSs X body t ∧ t { nx := fun _ H' => Q .non H', rt := Q } (start N vs) H := by
  obtain ⟨E, ws, Qd, hE, hM, hI, hv, hsp, k⟩ := h
  let c : Cq am := ⟨E, hM, H⟩
  have ex : Ex c [] = E := by
    funext b
    unfold Ex
    simp [c]
  have e0 : DEnv K c [] (start N vs) (startG N.length ws) [] H := by
    refine ⟨?_, fun i w hw => ?_, fun t ht => by simp at ht, fun q hq => by simp at hq, List.nodup_nil, fun p hp => by simp at hp, hE, fun b o _ hb => hb, hI⟩
    · unfold L2.start startG
      simp [hv.len]
    · rw [ex]
      unfold startG at hw
      rcases Nat.lt_or_ge i ws.length with z | z
      · rw [List.getElem?_append_left (by simpa using z), List.getElem?_map] at hw
        cases q : ws[i]? with
        | none => rw [q] at hw; cases hw
        | some w0 =>
          rw [q] at hw
          cases hw
          obtain ⟨v, h1, h2⟩ := hv.to i q
          refine ⟨v, ?_, h2⟩
          unfold L2.start
          rw [List.getElem?_append_left (by rw [List.length_map, ← hv.len]; exact z), List.getElem?_map, h1]
          rfl
      · rw [List.getElem?_append_right (by simpa using z)] at hw
        rw [List.getElem?_replicate] at hw
        split at hw <;> cases hw
  have fin : ∀ v w H' (Ωn : Om), Qd w Ωn → VOk K H' (ExN E Ωn) w v → (∀ q ∈ Ωn, ObOk K H' (ExN E Ωn) q.1 q.2) → (∀ p ∈ Ωn.map (·.1), H p = none) → (Ωn.map (·.1)).Nodup → (∀ b o, ¬ am.M b → H b = some o → H' b = some o) → am.I H' → Q v H' := fun v w H' Ωn => k v H' w Ωn
  have sub : ∀ {Ω : Om} {H' : Hp} {p : Addr} {od : OD}, look Ω p = some od → ∀ b o, ¬ Ex c Ω b → H' b = some o → ¬ ExN E [(p, od)] b ∧ H' b = some o := fun hl b o n h => ⟨fun z => n (z.elim .inl fun z => .inr (by
    have zz : b = _ := List.mem_singleton.mp z
    rw [zz]
    exact List.mem_map.mpr ⟨_, look_mem hl, rfl⟩)), h⟩
  have sub0 : ∀ {Ω : Om} {H' : Hp}, ∀ b o, ¬ Ex c Ω b → H' b = some o → ¬ ExN E [] b ∧ H' b = some o := fun b o n h => ⟨fun z => n (z.elim .inl fun z => by simp at z), h⟩
  refine ⟨ts, hP, hs.run (c := c) (T := []) e0 (hD ws Qd hsp) ⟨fun σ Γ Ω H' q e => fin .non _ H' [] q rfl (fun q hq => by simp at hq) (fun p hp => by simp at hp) List.nodup_nil e.frm e.inv, fun v w σ Γ Ω H' q e => ?_, fun _ _ _ _ q _ => q, fun _ _ _ _ q _ => q⟩⟩
  cases q with
  | sh q => exact fin v _ H' [] q (e.hd.mono sub0) (fun q hq => by simp at hq) (fun p hp => by simp at hp) List.nodup_nil e.frm e.inv
  | own hl q =>
    rename_i p od
    have hob := e.ob _ (look_mem hl)
    refine fin v _ H' [(p, od)] q e.hd (fun q hq => ?_) (fun p' hp => ?_) (by simp) e.frm e.inv
    · have : q = (p, od) := by simpa using hq
      rw [this]
      exact ObOk.mono (sub hl) (fun _ h => h) hob
    · have : p' = p := by simpa using hp
      rw [this]
      exact (e.fr p (List.mem_map.mpr ⟨_, look_mem hl, rfl⟩)).1
  | frz f q =>
    rename_i p d
    obtain rfl : v = .ref p := e.hd
    have e2 := e.frz f
    have hin : p ∈ Ω.map (·.1) := by cases f with
      | lst h => exact List.mem_map.mpr ⟨_, look_mem h, rfl⟩
      | dic h => exact List.mem_map.mpr ⟨_, look_mem h, rfl⟩
    have lay : Lay K H' (ExN E []) d (.ref p) := by
      have np : ¬ ExN E [] p := fun z => z.elim (e.fr p hin).2 fun z => by simp at z
      cases f with
      | lst h =>
        obtain ⟨vs, h1, h2⟩ := e.ob _ (look_mem h)
        exact ⟨p, vs, rfl, np, h1, (h2.mono sub0).lay⟩
      | dic h =>
        obtain ⟨vs, h1, hn, h2⟩ := e.ob _ (look_mem h)
        exact ⟨p, vs, rfl, np, h1, by rw [List.length_map] at hn; exact hn, (h2.mono sub0).lay⟩
    exact fin _ _ H' [] q lay (fun q hq => by simp at hq) (fun p hp => by simp at hp) List.nodup_nil e.frm e.inv
def notins (Ωn Ω : Om) : Prop := ∀ p ∈ Ωn.map (·.1), p ∉ Ω.map (·.1)
theorem DEnv.call {a : Am} [le : AmLe a am] {c : Cq am} {T : List Tp} {σ : L2.St} {Γ : Gm} {Ω Ωn : Om} {H H' : Hp} {w : W} {v : V} (e : DEnv K c T σ Γ Ω H) (hv : VOk K H' (ExN (Ex c Ω) Ωn) w v) (ho : ∀ q ∈ Ωn, ObOk K H' (ExN (Ex c Ω) Ωn) q.1 q.2)
    (hn : ∀ p ∈ Ωn.map (·.1), H p = none) (nd : (Ωn.map (·.1)).Nodup) (k : ∀ b o, ¬ a.M b → H b = some o → H' b = some o) (i : a.I H') : notins Ωn Ω ∧ DEnv K c (.v w v :: T) σ Γ (Ωn ++ Ω) H' := by
  have hi := le.back H H' e.inv k i
  have kam : ∀ b o, ¬ am.M b → H b = some o → H' b = some o := fun b o n h => k b o (fun m => n (le.M b m)) h
  have e1 := e.step kam hi
  have exe : Ex c (Ωn ++ Ω) = ExN (Ex c Ω) Ωn := by
    funext b
    unfold Ex ExN
    rw [List.map_append]
    simp only [List.mem_append, eq_iff_iff]
    constructor
    · rintro (h | h | h)
      · exact .inl (.inl h)
      · exact .inr h
      · exact .inl (.inr h)
    · rintro ((h | h) | h)
      · exact .inl h
      · exact .inr (.inr h)
      · exact .inr (.inl h)
  have ni : notins Ωn Ω := fun p hp z => e.noEx (hn p hp) (.inr z)
  have kx : ∀ b o, ¬ Ex c Ω b → H b = some o → ¬ Ex c (Ωn ++ Ω) b ∧ H' b = some o := fun b o n h => by
    refine ⟨fun z => ?_, kam b o (fun m => n (.inl (c.ME b m))) h⟩
    rw [exe] at z
    rcases z with z | z
    · exact n z
    · rw [hn b z] at h
      cases h
  refine ⟨ni, ⟨e.len, fun j w h => ?_, fun t ht => ?_, fun q hq => ?_, ?_, fun p hp => ?_, e1.el, e1.frm, e1.inv⟩⟩
  · obtain ⟨v, h1, h2⟩ := e.sl j w h
    exact ⟨v, h1, h2.mono kx⟩
  · rcases List.mem_cons.mp ht with rfl | ht
    · show VOk K H' _ w v
      rw [exe]
      exact hv
    · exact (e.tm t ht).mono kx
  · rcases List.mem_append.mp hq with hq | hq
    · rw [exe]
      exact ho q hq
    · refine (e.ob q hq).mono kx fun o h => kam _ _ (fun m => ?_) h
      exact (e.fr q.1 (List.mem_map.mpr ⟨q, hq, rfl⟩)).2 (c.ME _ m)
  · rw [List.map_append, List.nodup_append]
    exact ⟨nd, e.nd, fun a ha b hb z => ni a ha (by rw [z]; exact hb)⟩
  · rw [List.map_append] at hp
    rcases List.mem_append.mp hp with hp | hp
    · exact ⟨e.new (hn p hp), fun z => (e.el p z).some (hn p hp)⟩
    · exact e.fr p hp
def dFn (sp : DSp) (das : DA) (Γ : Gm) (Ω : Om) (Q : DQ) : Prop := das Γ Ω fun ws Ω1 => sp ws fun w Ωn => notins Ωn Ω1 → Q w (Ωn ++ Ω1)
theorem call_run {a : Am} [le : AmLe a am] {sp : DSp} {E0 : XK} {c : Cq am} {T : List Tp} {σ : L2.St} {Γ : Gm} {Ω : Om} {H : Hp} {vs : List V} {ws : List W} {Q : DQ} {R : VK} (e1 : DEnv K c T σ Γ Ω H) (hv : VOks K H (Ex c Ω) ws vs)
    (h : sp ws fun w Ωn => notins Ωn Ω → Q w (Ωn ++ Ω)) (k : ∀ v w Ω' H', Q w Ω' → DEnv K c (.v w v :: T) σ Γ Ω' H' → R v H') : spD K a sp vs H R E0 := by
  refine ⟨Ex c Ω, ws, _, fun b hb => e1.eok hb, fun b m => .inl (c.ME b (le.M b m)), le.I _ e1.inv, hv, h, fun v H' w Ωn q hw ho hn nd kk i => ?_⟩
  obtain ⟨ni, e2⟩ := e1.call (a := a) hw ho hn nd kk i
  exact k v w _ H' (q ni) e2
instance s_call {a : Am} {sp : DSp} {E0 : XK} {tas : TA} {das : DA} [le : AmLe a am] [s1 : SA K am tas das] : SE K am (vCall (spD K a sp) E0 tas) (dFn sp das) := ⟨fun {c T σ Γ Ω H Q R} e h k =>
  s1.run e h fun vs ws Ω1 H1 h1 e1 hv => call_run e1 hv h1 k⟩
/-! what is walked -/
def dList (da : DT) (Γ : Gm) (Ω : Om) (Q : List W → Om → Prop) : Prop := da Γ Ω fun w Ω1 => shW w fun x => match x with | .lst ds => Q (ds.map .sh) Ω1 | _ => False
def dTupI (da : DT) (Γ : Gm) (Ω : Om) (Q : List W → Om → Prop) : Prop := da Γ Ω fun w Ω1 => tupW w fun ds => Q (ds.map .sh) Ω1
instance i_list {tl : TE} {da : DT} [s1 : SE K am tl da] : SI K am (viList K tl) (dList da) := ⟨fun {c T σ Γ Ω H Q R} e h k =>
  s1.run e h fun x wx Ω1 H1 h1 e1 => by
    obtain ⟨d, rfl, h2⟩ := shW_el h1
    cases d with
    | lst ds =>
      obtain ⟨a, vs, rfl, n, ha, hl⟩ := e1.hd
      show lstO (H1 a) _
      rw [ha]
      have hx : VOk K H1 (Ex c Ω1) (.sh (.lst ds)) (.ref a) := ⟨a, vs, rfl, n, ha, hl⟩
      have hlen : (ds.map W.sh).length = vs.length := by rw [List.length_map]; exact hl.len
      refine k (Itl K a) H1 (ds.map .sh) Ω1 [.pin a (.lst vs), .v (.sh (.lst ds)) (.ref a)] _ _ h2 (e1.add (t := .pin a (.lst vs)) ⟨(fun u z => by cases z), n, ha⟩) (by rw [hlen]; exact walk_list) (fun σ Γ Ω H e => SqL.of (e.tm (.pin a (.lst vs)) (by simp)).2.2) fun S i x σ Γ Ω H H' hi e y => ?_
      obtain ⟨rfl, hx⟩ := y
      have hp := (e.tm (.pin a (.lst vs)) (by simp)).2.2
      obtain ⟨a', vs', e1, _, ha', hl'⟩ := (e.tm (.v (.sh (.lst ds)) (.ref a)) (by simp))
      cases e1
      rw [hp] at ha'
      cases ha'
      obtain ⟨w, h1, h2⟩ := (VOks.sh_of hl').at i hx
      exact ⟨w, h1, e.addv h2⟩
    | _ => exact (show False from h2).elim⟩
instance i_tup {tl : TE} {da : DT} [s1 : SE K am tl da] : SI K am (viTup K tl) (dTupI da) := ⟨fun {c T σ Γ Ω H Q R} e h k =>
  s1.run e h fun x wx Ω1 H1 h1 e1 => by
    obtain ⟨ds, rfl, h2⟩ := tupW_el h1
    obtain ⟨a, vs, rfl, n, ha, hl⟩ := e1.hd
    show tupO (H1 a) _
    rw [ha]
    have hx : VOk K H1 (Ex c Ω1) (.sh (.tup ds)) (.ref a) := ⟨a, vs, rfl, n, ha, hl⟩
    have hlen : (ds.map W.sh).length = vs.length := by rw [List.length_map]; exact hl.len
    refine k (Itt K a) H1 (ds.map .sh) Ω1 [.pin a (.tup vs), .v (.sh (.tup ds)) (.ref a)] _ _ h2 (e1.add (t := .pin a (.tup vs)) ⟨(fun u z => by cases z), n, ha⟩) (by rw [hlen]; exact walk_tup) (fun σ Γ Ω H e => SqT.of (e.tm (.pin a (.tup vs)) (by simp)).2.2) fun S i x σ Γ Ω H H' hi e y => ?_
    obtain ⟨rfl, hx⟩ := y
    have hp := (e.tm (.pin a (.tup vs)) (by simp)).2.2
    obtain ⟨a', vs', e1, _, ha', hl'⟩ := (e.tm (.v (.sh (.tup ds)) (.ref a)) (by simp))
    cases e1
    rw [hp] at ha'
    cases ha'
    obtain ⟨w, h1, h2⟩ := (VOks.sh_of hl').at i hx
    exact ⟨w, h1, e.addv h2⟩⟩
def dStrI (da : DT) (Γ : Gm) (Ω : Om) (Q : List W → Om → Prop) : Prop := da Γ Ω fun w Ω1 => strW w fun z => Q (z.cps.toList.map fun c => .sh (.str ⟨#[c]⟩)) Ω1
instance i_str {tl : TE} {da : DT} [s1 : SE K am tl da] : SI K am (viStr tl) (dStrI da) := ⟨fun {c T σ Γ Ω H Q R} e h k =>
  s1.run e h fun x wx Ω1 H1 h1 e1 => by
    obtain ⟨z, rfl, h2⟩ := strW_el h1
    obtain rfl : x = .str z := e1.hd
    have hlen : (z.cps.toList.map fun c => W.sh (.str ⟨#[c]⟩)).length = z.cps.size := by rw [List.length_map, Array.length_toList]
    refine k (Its z) H1 _ Ω1 [] _ _ h2 e1.drop (by rw [hlen]; exact walk_str) (fun _ _ _ _ _ => True.intro) fun S i x σ Γ Ω H H' hi e y => ?_
    obtain ⟨rfl, ch, hc, rfl⟩ := y
    have hc' : z.cps.toList[i]? = some ch := by rw [Array.getElem?_toList]; exact hc
    exact ⟨.sh (.str ⟨#[ch]⟩), by rw [List.getElem?_map, hc']; rfl, e.addv rfl⟩⟩
def natsW (n : Nat) : List W := (List.range n).map fun i => W.sh (.int (i : Nat))
def dR1 (das : DA) (Γ : Gm) (Ω : Om) (Q : List W → Om → Prop) : Prop := das Γ Ω fun ws Ω1 => one1W ws fun w => intW w fun j => (-(2 ^ 62) ≤ j ∧ j < 2 ^ 62) ∧ Q (natsW j.toNat) Ω1
instance i_r1 {ta : TA} {das : DA} [s1 : SA K am ta das] : SI K am (viR1 ta) (dR1 das) := ⟨fun {c T σ Γ Ω H Q R} e h k =>
  s1.run e h fun vs ws Ω1 H1 h1 e1 hv => by
    obtain ⟨w, v, rfl, hw, h2⟩ := one1W_el h1 hv
    obtain ⟨j, rfl, hj, h3⟩ := intW_el h2
    obtain rfl : v = .int j := hw
    have hlen : (natsW j.toNat).length = j.toNat := by unfold natsW; rw [List.length_map, List.length_range]
    refine ⟨hj, k (Itr 0 j.toNat) H1 _ Ω1 [] _ _ h3 e1 (by rw [hlen]; exact walk_range) (fun _ _ _ _ _ => True.intro) fun S i x σ Γ Ω H H' hi e y => ?_⟩
    obtain ⟨rfl, rfl⟩ := y
    rw [hlen] at hi
    refine ⟨.sh (.int (i : Nat)), by unfold natsW; rw [List.getElem?_map, List.getElem?_range hi]; rfl, e.addv ?_⟩
    show V.int (0 + (i : Nat)) = _
    rw [Int.zero_add]⟩
def dEnum (das : DA) (Γ : Gm) (Ω : Om) (Q : List W → Om → Prop) : Prop := das Γ Ω fun ws Ω1 => one1W ws fun w => shW w fun x => match x with | .lst ds => Q (ds.mapIdx fun i d => .sh (.tup [.int (i : Nat), d])) Ω1 | _ => False
instance i_enum {ta : TA} {das : DA} [s1 : SA K am ta das] : SI K am (viEnum K ta) (dEnum das) := ⟨fun {c T σ Γ Ω H Q R} e h k =>
  s1.run e h fun vs ws Ω1 H1 h1 e1 hv => by
    obtain ⟨w, v, rfl, hw, h2⟩ := one1W_el h1 hv
    obtain ⟨d, rfl, h3⟩ := shW_el h2
    cases d with
    | lst ds =>
      obtain ⟨a, vs, rfl, n, ha, hl⟩ := hw
      show lstO (H1 a) _
      rw [ha]
      have hx : VOk K H1 (Ex c Ω1) (.sh (.lst ds)) (.ref a) := ⟨a, vs, rfl, n, ha, hl⟩
      have hlen : (ds.mapIdx fun i d => W.sh (.tup [.int (i : Nat), d])).length = vs.length := by rw [List.length_mapIdx]; exact hl.len
      refine k (Ite K a) H1 _ Ω1 [.pin a (.lst vs), .v (.sh (.lst ds)) (.ref a)] _ _ h3 ((e1.addv hx).add (t := .pin a (.lst vs)) ⟨(fun u z => by cases z), n, ha⟩) (by rw [hlen]; exact walk_enum) (fun σ Γ Ω H e => SqL.of (e.tm (.pin a (.lst vs)) (by simp)).2.2) fun S i x σ Γ Ω H H' hi e y => ?_
      obtain ⟨T0, x1, x2, rfl, hT, rfl, e1, e2⟩ := y
      cases e1
      have e2 : vs[i]? = some x2 := e2
      have hp := (e.tm (.pin a (.lst vs)) (by simp)).2.2
      obtain ⟨a', vs', e3, _, ha', hl'⟩ := (e.tm (.v (.sh (.lst ds)) (.ref a)) (by simp))
      cases e3
      rw [hp] at ha'
      cases ha'
      obtain ⟨w, g1, g2⟩ := (VOks.sh_of hl').at i e2
      rw [List.getElem?_map] at g1
      cases q : ds[i]? with
      | none => rw [q] at g1; cases g1
      | some d =>
        rw [q] at g1
        cases g1
        refine ⟨.sh (.tup [.int (i : Nat), d]), by rw [List.getElem?_mapIdx, q]; rfl, e.tup hT ⟨_, _, rfl, rfl, _, _, rfl, g2, rfl⟩⟩
    | _ => exact (show False from h3).elim⟩
end
end OA

namespace OA
open PySem PySem.Spec PyProof.Rows L2
section
variable {K : PySem.W.Frag} {am : Am}
/-! two clauses -/
def dLc2P (ws : List W) (g : DG) (dq : DB) (di1 : DI) (g1 : DG) (dq1 : DB) (de : DT) (vs vs1 : List Nat) (Γ : Gm) (Ω1 : Om) (Pv : Nat → List W → Prop) : Prop :=
  Pv 0 [] ∧ ∀ i w acc p, ws[i]? = some w → Pv i acc → notin p Ω1 → g w (wipeG Γ vs) ((p, .lst acc) :: Ω1) fun Γ2 Ω2 => Ω2 = (p, .lst acc) :: Ω1 ∧ dq Γ2 ((p, .lst acc) :: Ω1) fun b Ω3 => Ω3 = (p, .lst acc) :: Ω1 ∧
    if b = true then di1 Γ2 ((p, .lst acc) :: Ω1) fun us Ω4 => Ω4 = (p, .lst acc) :: Ω1 ∧ ∃ Pw : Nat → List W → Prop, Pw 0 acc ∧
      (∀ j u acc', us[j]? = some u → Pw j acc' → g1 u (wipeG Γ2 vs1) ((p, .lst acc') :: Ω1) fun Γ3 Ω5 => Ω5 = (p, .lst acc') :: Ω1 ∧ dq1 Γ3 ((p, .lst acc') :: Ω1) fun b Ω6 => Ω6 = (p, .lst acc') :: Ω1 ∧
        if b = true then de Γ3 ((p, .lst acc') :: Ω1) fun y Ω7 => Ω7 = (p, .lst acc') :: Ω1 ∧ lenLt acc' ∧ Pw (j + 1) (acc' ++ [y]) else Pw (j + 1) acc') ∧ ∀ acc', Pw us.length acc' → Pv (i + 1) acc'
    else Pv (i + 1) acc
def dLc2 (ix ix1 : List Nat) (di : DI) (g : DG) (dq : DB) (di1 : DI) (g1 : DG) (dq1 : DB) (de : DT) (vs vs1 : List Nat) (Γ : Gm) (Ω : Om) (Q : DQ) : Prop := (∀ i ∈ ix, i ∈ vs) ∧ (∀ i ∈ ix1, i ∈ vs1) ∧ di Γ Ω fun ws Ω1 => ∃ Pv : Nat → List W → Prop, dLc2P ws g dq di1 g1 dq1 de vs vs1 Γ Ω1 Pv ∧ ∀ acc, Pv ws.length acc → shsW acc fun ds => Q (.sh (.lst ds)) Ω1
theorem DEnv.reslot {c : Cq am} {T T' : List Tp} {σ σ' : L2.St} {Γ Γ' : Gm} {Ω Ω' : Om} {H H' : Hp} (a : DEnv K c T σ Γ Ω H) (b : DEnv K c T' σ' Γ' Ω H) : DEnv K c T' σ Γ Ω H := ⟨a.len, a.sl, b.tm, b.ob, b.nd, b.fr, b.el, b.frm, b.inv⟩
instance s_lc2 {wi wi1 : TI} {di di1 : DI} {g g1 : TG} {d d1 : DG} {ix ix1 vs vs1 : List Nat} {tq tq1 : TT} {dq dq1 : DB} {te : TE} {de : DT} [s0 : SI K am wi di] [s1 : SG K am g d ix] [s2 : ST K am tq dq] [s3 : SE K am te de] [s4 : SI K am wi1 di1] [s5 : SG K am g1 d1 ix1] [s6 : ST K am tq1 dq1]
    : SE K am (tLc2 wi g tq wi1 g1 tq1 te vs vs1) (dLc2 ix ix1 di d dq di1 d1 dq1 de vs vs1) := ⟨fun {c T σ Γ Ω H Q R} e ⟨hx, hx1, h⟩ k =>
  s0.run e h fun J H1 ws Ω1 T' G Y ⟨Pv, ⟨p0, ps⟩, hz⟩ e1 hw hG hY => fun D hD => by
    obtain ⟨S, e2, back⟩ := e1.save
    have nD : notin D Ω1 := fun z => e1.noEx hD (.inr z)
    have e3 : DEnv K c (.v (.pt D) (.ref D) :: (S ++ (T' ++ T))) σ Γ ((D, .lst []) :: Ω1) (upd H1 D (.lst [])) := e2.own hD (e2.new hD) (.inl ⟨[], [], rfl, rfl, rfl⟩)
    have to' : ∀ {σ : L2.St} {Γ : Gm} {Ω : Om} {H : Hp}, DEnv K c (.v (.pt D) (.ref D) :: (S ++ (T' ++ T))) σ Γ Ω H → DEnv K c (T' ++ T) σ Γ Ω H := fun e => e.drop.drops
    refine ⟨fun i m H => m = ws.length - i ∧ i ≤ ws.length ∧ ∃ acc σ2 Γ2, Pv i acc ∧ DEnv K c (.v (.pt D) (.ref D) :: (S ++ (T' ++ T))) σ2 Γ2 ((D, .lst acc) :: Ω1) H, ⟨_, rfl, Nat.zero_le _, [], σ, Γ, p0, e3⟩, ?_⟩
    rintro i m H ⟨rfl, hi, acc, σ2, Γ2, p, e⟩
    by_cases hlt : i < ws.length
    · refine .inr ⟨hw.goes i H hlt (hG _ _ _ _ (to' e)), fun H' => ∃ acc σ2 Γ2, Pv (i + 1) acc ∧ DEnv K c (.v (.pt D) (.ref D) :: (S ++ (T' ++ T))) σ2 Γ2 ((D, .lst acc) :: Ω1) H', fun H' ⟨acc, σ2, Γ2, p', e'⟩ => ⟨_, by omega, rfl, hlt, acc, σ2, Γ2, p', e'⟩, fun x H' y => ?_⟩
      have eW : DEnv K c (.v (.pt D) (.ref D) :: (S ++ (T' ++ T))) (L2.wipe σ vs) (wipeG Γ vs) ((D, .lst acc) :: Ω1) H := by
        have b1 := (back e.drop).wipe vs
        exact ⟨b1.len, b1.sl, e.tm, e.ob, e.nd, e.fr, e.el, e.frm, e.inv⟩
      obtain ⟨w, hw', e5⟩ := hY (.v (.pt D) (.ref D) :: S) i x _ _ _ H H' hlt eW (hw.yields i H x H' hlt (hG _ _ _ _ (to' e)) y)
      refine s1.run e5.drop e5.hd (ps i w acc D hw' p nD) fun σ3 Γ3 Ω3 H3 ⟨z3, q3⟩ e6 hwp => ⟨by rw [hwp vs hx, wipe_wipe], ?_⟩
      subst z3
      refine s2.run e6 q3 fun b Ω4 H4 ⟨z4, q4⟩ e7 => ?_
      subst z4
      cases b with
      | false => exact ⟨acc, _, _, q4, e7⟩
      | true =>
        refine s4.run e7 q4 fun J1 H5 us Ω5 T1 G1 Y1 ⟨z5, Pw, pw0, pws, pwe⟩ e8 hw1 hG1 hY1 => ?_
        subst z5
        obtain ⟨S1, e9, back1⟩ := e8.save
        have to1 : ∀ {σ : L2.St} {Γ : Gm} {Ω : Om} {H : Hp}, DEnv K c (S1 ++ (T1 ++ (.v (.pt D) (.ref D) :: (S ++ (T' ++ T))))) σ Γ Ω H → DEnv K c (.v (.pt D) (.ref D) :: (S ++ (T' ++ T))) σ Γ Ω H := fun e => e.drops.drops
        refine ⟨fun j m H => m = us.length - j ∧ j ≤ us.length ∧ ∃ acc' σ2 Γ2, Pw j acc' ∧ DEnv K c (S1 ++ (T1 ++ (.v (.pt D) (.ref D) :: (S ++ (T' ++ T))))) σ2 Γ2 ((D, .lst acc') :: Ω1) H, ⟨_, rfl, Nat.zero_le _, acc, _, _, pw0, e9⟩, ?_⟩
        rintro j m H ⟨rfl, hj, acc', σ4, Γ4, p', e10⟩
        by_cases hjl : j < us.length
        · refine .inr ⟨hw1.goes j H hjl (hG1 _ _ _ _ e10.drops), fun H' => ∃ acc' σ2 Γ2, Pw (j + 1) acc' ∧ DEnv K c (S1 ++ (T1 ++ (.v (.pt D) (.ref D) :: (S ++ (T' ++ T))))) σ2 Γ2 ((D, .lst acc') :: Ω1) H', fun H' ⟨acc, σ2, Γ2, p', e'⟩ => ⟨_, by omega, rfl, hjl, acc, σ2, Γ2, p', e'⟩, fun x1 H6 y1 => ?_⟩
          have eW1 : DEnv K c (S1 ++ (T1 ++ (.v (.pt D) (.ref D) :: (S ++ (T' ++ T))))) (L2.wipe σ3 vs1) (wipeG Γ3 vs1) ((D, .lst acc') :: Ω1) H := by
            have b1 := (back1 e10).wipe vs1
            exact ⟨b1.len, b1.sl, e10.tm, e10.ob, e10.nd, e10.fr, e10.el, e10.frm, e10.inv⟩
          obtain ⟨u, hu', e11⟩ := hY1 S1 j x1 _ _ _ H H6 hjl eW1 (hw1.yields j H x1 H6 hjl (hG1 _ _ _ _ e10.drops) y1)
          refine s5.run e11.drop e11.hd (pws j u acc' hu' p') fun σ5 Γ5 Ω6 H7 ⟨z6, q6⟩ e12 hwp1 => ⟨by rw [hwp1 vs1 hx1, wipe_wipe], ?_⟩
          subst z6
          refine s6.run e12 q6 fun b Ω7 H8 ⟨z7, q7⟩ e13 => ?_
          subst z7
          cases b with
          | false => exact ⟨acc', _, _, q7, e13⟩
          | true =>
            refine s3.run e13 q7 fun y wy Ω8 H9 ⟨z8, hl, p''⟩ e14 => ?_
            subst z8
            obtain ⟨vs', a1, a2⟩ := e14.ob (D, .lst acc') List.mem_cons_self
            have e15 := e14.drop.putL (vs' := vs' ++ [y]) (ws' := acc' ++ [wy]) look_hd (a2.app (.one e14.hd))
            rw [put_hd nD] at e15
            exact ⟨vs', a1, by rw [← a2.len]; exact hl, acc' ++ [wy], _, _, p'', e15⟩
        · have ej : j = us.length := by omega
          subst ej
          exact .inl ⟨hw1.stops H (hG1 _ _ _ _ e10.drops), acc', _, _, pwe acc' p', to1 e10⟩
    · have ei : i = ws.length := by omega
      subst ei
      have b1 := back e.drop
      obtain ⟨ds, rfl, h2⟩ := shsW_el (hz acc p)
      have e' : DEnv K c T σ Γ ((D, .lst (ds.map .sh)) :: Ω1) H := ⟨b1.len, b1.sl, b1.drops.tm, b1.ob, b1.nd, b1.fr, b1.el, b1.frm, b1.inv⟩
      exact .inl ⟨hw.stops H (hG _ _ _ _ (to' e)), k _ _ _ _ h2 (e'.unown nD)⟩⟩
def dTAnd (dt du : DB) (Γ : Gm) (Ω : Om) (Q : Bool → Om → Prop) : Prop := dt Γ Ω fun c Ω1 => if c = true then du Γ Ω1 Q else Q false Ω1
instance s_tand {t u : TT} {dt du : DB} [s1 : ST K am t dt] [s2 : ST K am u du] : ST K am (tAnd t u) (dTAnd dt du) := ⟨fun {c T σ Γ Ω H Q R} e h k =>
  s1.run e h fun b Ω1 H1 h1 e1 => by
    show if b = true then _ else _
    cases b with
    | true => exact s2.run e1 h1 k
    | false => exact k _ _ _ h1 e1⟩
def dTOr (dt du : DB) (Γ : Gm) (Ω : Om) (Q : Bool → Om → Prop) : Prop := dt Γ Ω fun c Ω1 => if c = true then Q true Ω1 else du Γ Ω1 Q
instance s_tor {t u : TT} {dt du : DB} [s1 : ST K am t dt] [s2 : ST K am u du] : ST K am (tOr t u) (dTOr dt du) := ⟨fun {c T σ Γ Ω H Q R} e h k =>
  s1.run e h fun b Ω1 H1 h1 e1 => by
    show if b = true then _ else _
    cases b with
    | false => exact s2.run e1 h1 k
    | true => exact k _ _ _ h1 e1⟩
def dTNot (dt : DB) (Γ : Gm) (Ω : Om) (Q : Bool → Om → Prop) : Prop := dt Γ Ω fun c Ω1 => Q (!c) Ω1
instance s_tnot {t : TT} {dt : DB} [s1 : ST K am t dt] : ST K am (tNot t) (dTNot dt) := ⟨fun {c T σ Γ Ω H Q R} e h k =>
  s1.run e h fun b Ω1 H1 h1 e1 => k _ _ _ h1 e1⟩
/-! list.extend -/
def wExtend : V → List V → Hp → VK → Prop := fun x vs H Q => refR x fun l => lstO (H l) fun xs => one1 vs fun y => refR y fun b => lstO (H b) fun zs => xs.length + zs.length ≤ sizeLine ∧ Q .non (upd H l (.lst (xs ++ zs)))
theorem m_extend {X : Cx} : MtR X "list.extend" wExtend := im_mt (r := rExtend) mt_extend fun x vs H Q z => by
  obtain ⟨l, e1, z1⟩ := refR_el z
  obtain ⟨xs, e2, z2⟩ := lstO_el z1
  obtain ⟨y, e3, z3⟩ := one1_el z2
  obtain ⟨b, e4, z4⟩ := refR_el z3
  obtain ⟨zs, e5, z5, z6⟩ := lstO_el z4
  exact ⟨l, b, xs, zs, e1, by rw [e3, e4], e2, e5, z5, z6⟩
def dExtend (w : W) (ws : List W) (Ω : Om) (Q : DQ) : Prop := ownL Ω w fun p xs => one1W ws fun y => seqW Ω y fun us => lenOk (xs ++ us) ∧ Q (.sh .non) (OA.put Ω p (.lst (xs ++ us)))
instance r_extend : SRM K am wExtend dExtend := ⟨fun {c T σ Γ Ω H x w xs ws Q R} e hx hs h k => by
  obtain ⟨a, vs, us, rfl, hl, ha, hv, h1⟩ := ownL_el e hx h
  obtain ⟨y, v, rfl, hy, h2⟩ := one1W_el h1 hs
  obtain ⟨b, ts, us', rfl, hb, ht, h3⟩ := seqW_el e hy h2
  show lstO (H a) _
  rw [ha]
  show lstO (H b) _
  rw [hb]
  refine ⟨?_, k _ _ _ _ h3.2 ((e.putL hl (hv.app ht)).addv rfl)⟩
  rw [← hv.len, ← ht.len, ← List.length_append]
  exact h3.1⟩
def dPop (w : W) (ws : List W) (Ω : Om) (Q : DQ) : Prop := ownL Ω w fun p xs => ws = [] ∧ match xs[xs.length - 1]? with | some u => Q u (OA.put Ω p (.lst xs.dropLast)) | none => False
/-! range(a, b) -/
def viR2 (ta : TA) : TI := fun σ H R => ta σ H fun vs H1 => two2 vs fun x y => intR x fun i => intR y fun j => (-(2 ^ 62) ≤ i ∧ i < 2 ^ 62 ∧ -(2 ^ 62) ≤ j ∧ j < 2 ^ 62) ∧ R (Itr i (j - i).toNat) H1
theorem up_rng2 {tg a b : Expr} {ta : TA} {p pos : Pos} {X : Cx} (hg : Gl X "range") (hm : X.mg "range" = none) (ha : PA X [a, b] ta) (hs : starEach [a, b] X.env = [(false, eval a X.env), (false, eval b X.env)] := by rfl) (hs2 : starEach [b] X.env = [(false, eval b X.env)] := by rfl) :
    PI X tg (.Call (.Name "range" p) [a, b] [] pos) (viR2 ta) := im_pi (pi_range2 hg hm (up_pa ha) hs hs2) fun σ H R h => ⟨_, h, fun vs H1 z => by
  obtain ⟨x, y, e, z1⟩ := two2_el z
  obtain ⟨i, e1, z2⟩ := intR_el z1
  obtain ⟨j, e2, z3⟩ := intR_el z2
  exact ⟨i, j, by rw [e, e1, e2], z3.1, z3.2⟩⟩
def intsFrom (i : Int) (n : Nat) : List W := (List.range n).map fun (k : Nat) => W.sh (.int (i + k))
def dR2 (das : DA) (Γ : Gm) (Ω : Om) (Q : List W → Om → Prop) : Prop := das Γ Ω fun ws Ω1 => two2W ws fun x y => intW x fun i => intW y fun j => (-(2 ^ 62) ≤ i ∧ i < 2 ^ 62 ∧ -(2 ^ 62) ≤ j ∧ j < 2 ^ 62) ∧ Q (intsFrom i (j - i).toNat) Ω1
instance i_r2 {ta : TA} {das : DA} [s1 : SA K am ta das] : SI K am (viR2 ta) (dR2 das) := ⟨fun {c T σ Γ Ω H Q R} e h k =>
  s1.run e h fun vs ws Ω1 H1 h1 e1 hv => by
    obtain ⟨w, v, w2, v2, rfl, hw, hw2, h2⟩ := two2W_el h1 hv
    obtain ⟨i, rfl, h3⟩ := intW_el h2
    obtain ⟨j, rfl, hj, h4⟩ := intW_el h3
    obtain rfl : v = .int i := hw
    obtain rfl : v2 = .int j := hw2
    have hlen : (intsFrom i (j - i).toNat).length = (j - i).toNat := by unfold intsFrom; rw [List.length_map, List.length_range]
    refine ⟨hj, k (Itr i (j - i).toNat) H1 _ Ω1 [] _ _ h4 e1 (by rw [hlen]; exact walk_range) (fun _ _ _ _ _ => True.intro) fun S n x σ Γ Ω H H' hi e y => ?_⟩
    obtain ⟨rfl, rfl⟩ := y
    rw [hlen] at hi
    exact ⟨.sh (.int (i + n)), by unfold intsFrom; rw [List.getElem?_map, List.getElem?_range hi]; rfl, e.addv rfl⟩⟩
/-! dict comprehensions -/
def dDcP (ws : List W) (g : DG) (dq : DB) (dk dv : DT) (vs : List Nat) (Γ : Gm) (Ω1 : Om) (Pv : Nat → List Key → List W → Prop) : Prop :=
  Pv 0 [] [] ∧ ∀ i w ks us p, ws[i]? = some w → Pv i ks us → notin p Ω1 → g w (wipeG Γ vs) ((p, .dic ks us) :: Ω1) fun Γ2 Ω2 => Ω2 = (p, .dic ks us) :: Ω1 ∧ dq Γ2 ((p, .dic ks us) :: Ω1) fun b Ω3 => Ω3 = (p, .dic ks us) :: Ω1 ∧
    if b = true then dk Γ2 ((p, .dic ks us) :: Ω1) fun y Ω4 => Ω4 = (p, .dic ks us) :: Ω1 ∧ dv Γ2 ((p, .dic ks us) :: Ω1) fun z Ω5 => Ω5 = (p, .dic ks us) :: Ω1 ∧ lenLt ks ∧ keyW y fun q => Pv (i + 1) (putA ks us q z).1 (putA ks us q z).2 else Pv (i + 1) ks us
def dDc (ix : List Nat) (di : DI) (g : DG) (dq : DB) (dk dv : DT) (vs : List Nat) (Γ : Gm) (Ω : Om) (Q : DQ) : Prop := (∀ i ∈ ix, i ∈ vs) ∧ di Γ Ω fun ws Ω1 => ∃ Pv : Nat → List Key → List W → Prop, dDcP ws g dq dk dv vs Γ Ω1 Pv ∧ ∀ ks us, Pv ws.length ks us → shsW us fun ds => Q (.sh (.dic ks ds)) Ω1
theorem DEnv.unownD {c : Cq am} {T : List Tp} {σ : L2.St} {Γ : Gm} {Ω : Om} {H : Hp} {p : Addr} {ks : List Key} {ds : List D} (e : DEnv K c T σ Γ ((p, .dic ks (ds.map .sh)) :: Ω) H) (n : notin p Ω) : DEnv K c (.v (.sh (.dic ks ds)) (.ref p) :: T) σ Γ Ω H := by
  have kx : ∀ b o, ¬ Ex c ((p, .dic ks (ds.map .sh)) :: Ω) b → H b = some o → ¬ Ex c Ω b ∧ H b = some o := fun b o n h => ⟨fun z => n (z.elim .inl fun z => .inr (List.mem_cons_of_mem _ z)), h⟩
  obtain ⟨vs, a1, an, a2⟩ := e.ob _ List.mem_cons_self
  have np : ¬ Ex c Ω p := fun z => z.elim (e.fr p List.mem_cons_self).2 n
  refine ⟨e.len, fun j w h => ?_, fun t ht => ?_, fun q hq => (e.ob q (List.mem_cons_of_mem _ hq)).mono kx fun _ h => h, (List.nodup_cons.mp e.nd).2, fun q hq => e.fr q (List.mem_cons_of_mem _ hq), e.el, e.frm, e.inv⟩
  · obtain ⟨v, h1, h2⟩ := e.sl j w h
    exact ⟨v, h1, h2.mono kx⟩
  · rcases List.mem_cons.mp ht with rfl | ht
    · exact ⟨p, vs, rfl, np, a1, by rw [List.length_map] at an; exact an, (a2.mono kx).lay⟩
    · exact (e.tm t ht).mono kx
instance s_dc {wi : TI} {di : DI} {g : TG} {d : DG} {ix vs : List Nat} {tq : TT} {dq : DB} {tk tv : TE} {dk dv : DT} [s0 : SI K am wi di] [s1 : SG K am g d ix] [s2 : ST K am tq dq] [s3 : SE K am tk dk] [s4 : SE K am tv dv] : SE K am (vDc wi g tq tk tv vs) (dDc ix di d dq dk dv vs) := ⟨fun {c T σ Γ Ω H Q R} e ⟨hx, h⟩ k =>
  s0.run e h fun J H1 ws Ω1 T' G Y ⟨Pv, ⟨p0, ps⟩, hz⟩ e1 hw hG hY => fun D hD => by
    obtain ⟨S, e2, back⟩ := e1.save
    have nD : notin D Ω1 := fun z => e1.noEx hD (.inr z)
    have e3 : DEnv K c (.v (.pt D) (.ref D) :: (S ++ (T' ++ T))) σ Γ ((D, .dic [] []) :: Ω1) (upd H1 D (.dK [])) := e2.own hD (e2.new hD) (.inr ⟨[], [], [], rfl, rfl, rfl, rfl⟩)
    have to' : ∀ {σ : L2.St} {Γ : Gm} {Ω : Om} {H : Hp}, DEnv K c (.v (.pt D) (.ref D) :: (S ++ (T' ++ T))) σ Γ Ω H → DEnv K c (T' ++ T) σ Γ Ω H := fun e => e.drop.drops
    refine ⟨ws.length, G, Y, fun i H => ∃ ks us σ2 Γ2, Pv i ks us ∧ DEnv K c (.v (.pt D) (.ref D) :: (S ++ (T' ++ T))) σ2 Γ2 ((D, .dic ks us) :: Ω1) H, hw, ⟨[], [], σ, Γ, p0, e3⟩, fun i H _ ⟨ks, us, σ2, Γ2, _, e⟩ => hG _ _ _ _ (to' e), fun i x H H' hi ⟨ks, us, σ2, Γ2, p, e⟩ y => ?_, fun H ⟨ks, us, σ2, Γ2, p, e⟩ => ?_⟩
    · have eW : DEnv K c (.v (.pt D) (.ref D) :: (S ++ (T' ++ T))) (L2.wipe σ vs) (wipeG Γ vs) ((D, .dic ks us) :: Ω1) H := by
        have b1 := (back e.drop).wipe vs
        exact ⟨b1.len, b1.sl, e.tm, e.ob, e.nd, e.fr, e.el, e.frm, e.inv⟩
      obtain ⟨w, hw', e5⟩ := hY (.v (.pt D) (.ref D) :: S) i x _ _ _ H H' hi eW y
      refine s1.run e5.drop e5.hd (ps i w ks us D hw' p nD) fun σ3 Γ3 Ω3 H3 ⟨z3, q3⟩ e6 hwp => ⟨by rw [hwp vs hx, wipe_wipe], ?_⟩
      subst z3
      refine s2.run e6 q3 fun b Ω4 H4 ⟨z4, q4⟩ e7 => ?_
      subst z4
      cases b with
      | false => exact ⟨ks, us, _, _, q4, e7⟩
      | true =>
        refine s3.run e7 q4 fun y wy Ω5 H5 ⟨z5, q5⟩ e8 => ?_
        subst z5
        refine s4.run e8 q5 fun z wz Ω6 H6 ⟨z6, hl, q6⟩ e9 => ?_
        subst z6
        obtain ⟨q, rfl, p'⟩ := keyW_el q6 e9.drop.hd
        obtain ⟨vs', a1, an, a2⟩ := e9.ob (D, .dic ks us) List.mem_cons_self
        obtain ⟨vs2, g1, g2, g3⟩ := putA_ok q an a2 e9.hd
        refine keyR_k (k := fun k => dkO (H6 D) fun kvs => kvs.length < sizeLine ∧ ∃ ks us σ2 Γ2, Pv (i + 1) ks us ∧ DEnv K c (.v (.pt D) (.ref D) :: (S ++ (T' ++ T))) σ2 Γ2 ((D, .dic ks us) :: Ω1) (upd H6 D (.dK (putK kvs k z)))) q ?_
        rw [a1]
        have e10 := e9.drop.drop.putD (look_hd (od := .dic ks us)) g1 g2 g3
        rw [put_hd nD] at e10
        refine ⟨?_, _, _, _, _, p', e10⟩
        rw [List.length_zip, ← a2.len, an, Nat.min_self, ← an]
        exact hl
    · have b1 := back e.drop
      obtain ⟨ds, rfl, h2⟩ := shsW_el (hz ks us p)
      have e' : DEnv K c T σ Γ ((D, .dic ks (ds.map .sh)) :: Ω1) H := ⟨b1.len, b1.sl, b1.drops.tm, b1.ob, b1.nd, b1.fr, b1.el, b1.frm, b1.inv⟩
      exact k _ _ _ _ h2 (e'.unownD nD)⟩
end
/-! what evaluates -/
section
variable {Ω : Om} {k : W → Prop}
theorem varR_e {w : W} : varR (some (some w)) k = k w := rfl
theorem intW_e {i : Int} {k : Int → Prop} : intW (.sh (.int i)) k = k i := rfl
theorem blW_e {i : Bool} {k : Bool → Prop} : blW (.sh (.bl i)) k = k i := rfl
theorem strW_e {i : Str} {k : Str → Prop} : strW (.sh (.str i)) k = k i := rfl
theorem shW_e {i : D} {k : D → Prop} : shW (.sh i) k = k i := rfl
theorem tyW_e {i : String} {k : String → Prop} : tyW (.ty i) k = k i := rfl
theorem tupW_e {i : List D} {k : List D → Prop} : tupW (.sh (.tup i)) k = k i := rfl
def lookL (o : Option OD) (k : List W → Prop) : Prop := match o with | some (.lst ws) => k ws | _ => False
def lookD (o : Option OD) (k : List Key → List W → Prop) : Prop := match o with | some (.dic ks ws) => k ks ws | _ => False
def lookR (o : Option OD) (k : List Key → List W → Prop) : Prop := match o with | some (.dic ks ws) => k ks ws | some (.lk _ _ ks ws) => k ks ws | _ => False
theorem lookR_e {ks : List Key} {ws : List W} {k : List Key → List W → Prop} : lookR (some (.dic ks ws)) k = k ks ws := rfl
theorem lookR_l {o : Obj} {kvs : List (Key × V)} {ks : List Key} {ws : List W} {k : List Key → List W → Prop} : lookR (some (.lk o kvs ks ws)) k = k ks ws := rfl
theorem lookL_e {ws : List W} {k : List W → Prop} : lookL (some (.lst ws)) k = k ws := rfl
theorem lookD_e {ks : List Key} {ws : List W} {k : List Key → List W → Prop} : lookD (some (.dic ks ws)) k = k ks ws := rfl
theorem seqW_e {xs : List D} {k : List W → Prop} : seqW Ω (.sh (.lst xs)) k = k (xs.map .sh) := rfl
theorem seqW_p {p : Addr} {k : List W → Prop} : seqW Ω (.pt p) k = lookL (look Ω p) k := rfl
theorem dicW_e {ks : List Key} {xs : List D} {k : List Key → List W → Prop} : dicW Ω (.sh (.dic ks xs)) k = k ks (xs.map .sh) := rfl
theorem dicW_p {p : Addr} {k : List Key → List W → Prop} : dicW Ω (.pt p) k = lookR (look Ω p) k := rfl
theorem ownL_p {p : Addr} {k : Addr → List W → Prop} : ownL Ω (.pt p) k = lookL (look Ω p) (k p) := rfl
theorem ownD_p {p : Addr} {k : Addr → List Key → List W → Prop} : ownD Ω (.pt p) k = lookD (look Ω p) (k p) := rfl
theorem keyW_i {i : Int} {k : Key → Prop} : keyW (.sh (.int i)) k = k (.inl i) := rfl
theorem keyW_s {i : Str} {k : Key → Prop} : keyW (.sh (.str i)) k = k (.inr i) := rfl
theorem one1W_e {w : W} {k : W → Prop} : one1W [w] k = k w := rfl
theorem two2W_e {w v : W} {k : W → W → Prop} : two2W [w, v] k = k w v := rfl
theorem shsW_nil {k : List D → Prop} : shsW [] k = k [] := rfl
theorem shsW_cons {x : D} {r : List W} {k : List D → Prop} : shsW (.sh x :: r) k = shsW r fun ds => k (x :: ds) := rfl
theorem shsW_app {xs : List D} {r : List W} {k : List D → Prop} : shsW (xs.map .sh ++ r) k = shsW r fun ds => k (xs ++ ds) := by
  induction xs generalizing k with
  | nil => rfl
  | cons x xs ih => exact ih
theorem intsD_nil {k : List Int → Prop} : intsD [] k = k [] := rfl
theorem intsD_cons {i : Int} {r : List D} {k : List Int → Prop} : intsD (.int i :: r) k = intsD r fun ds => k (i :: ds) := rfl
theorem cWR_n {k : W → Prop} : cWR .non k = k (.sh .non) := rfl
theorem cWR_b {b : Bool} {k : W → Prop} : cWR (.bl b) k = k (.sh (.bl b)) := rfl
theorem cWR_i {b : Int} {k : W → Prop} : cWR (.int b) k = k (.sh (.int b)) := rfl
theorem cWR_s {b : Str} {k : W → Prop} : cWR (.str b) k = k (.sh (.str b)) := rfl
theorem dC_n {Γ : Gm} {Q : DQ} : dC .non Γ Ω Q = Q (.sh .non) Ω := rfl
theorem dC_b {b : Bool} {Γ : Gm} {Q : DQ} : dC (.bl b) Γ Ω Q = Q (.sh (.bl b)) Ω := rfl
theorem dC_i {b : Int} {Γ : Gm} {Q : DQ} : dC (.int b) Γ Ω Q = Q (.sh (.int b)) Ω := rfl
theorem dC_s {b : Str} {Γ : Gm} {Q : DQ} : dC (.str b) Γ Ω Q = Q (.sh (.str b)) Ω := rfl
theorem dC_t {b : String} {Γ : Gm} {Q : DQ} : dC (.ty b) Γ Ω Q = Q (.ty b) Ω := rfl
theorem flW_n {k : V → Prop} : flW (.sh .non) k = k .non := rfl
theorem flW_b {b : Bool} {k : V → Prop} : flW (.sh (.bl b)) k = k (.bl b) := rfl
theorem flW_i {b : Int} {k : V → Prop} : flW (.sh (.int b)) k = k (.int b) := rfl
theorem flW_s {b : Str} {k : V → Prop} : flW (.sh (.str b)) k = k (.str b) := rfl
theorem fls_nil {k : List V → Prop} : dInT.flsD [] k = k [] := rfl
theorem fls_n {r : List D} {k : List V → Prop} : dInT.flsD (.non :: r) k = dInT.flsD r fun vs => k (.non :: vs) := rfl
theorem fls_b {b : Bool} {r : List D} {k : List V → Prop} : dInT.flsD (.bl b :: r) k = dInT.flsD r fun vs => k (.bl b :: vs) := rfl
theorem fls_i {b : Int} {r : List D} {k : List V → Prop} : dInT.flsD (.int b :: r) k = dInT.flsD r fun vs => k (.int b :: vs) := rfl
theorem fls_s {b : Str} {r : List D} {k : List V → Prop} : dInT.flsD (.str b :: r) k = dInT.flsD r fun vs => k (.str b :: vs) := rfl
theorem lenW_l {xs : List D} {k : Nat → Prop} : lenW Ω (.sh (.lst xs)) k = k xs.length := rfl
theorem lenW_d {ks : List Key} {xs : List D} {k : Nat → Prop} : lenW Ω (.sh (.dic ks xs)) k = k ks.length := rfl
theorem lenW_t {xs : List D} {k : Nat → Prop} : lenW Ω (.sh (.tup xs)) k = k xs.length := rfl
theorem lenW_s {x : Str} {k : Nat → Prop} : lenW Ω (.sh (.str x)) k = (x.length ≤ sizeLine ∧ k x.length) := rfl
def lenO' (o : Option OD) (k : Nat → Prop) : Prop := match o with | some (.lst ws) => k ws.length | some (.dic ks _) => k ks.length | _ => False
theorem lenW_p {p : Addr} {k : Nat → Prop} : lenW Ω (.pt p) k = lenO' (look Ω p) k := by
  show (match look Ω p with
    | some (.lst ws) => k ws.length
    | some (.dic ks _) => k ks.length
    | _ => False) = _
  cases look Ω p with
  | none => rfl
  | some o => cases o <;> rfl
theorem lenO'_l {ws : List W} {k : Nat → Prop} : lenO' (some (.lst ws)) k = k ws.length := rfl
theorem lenO'_d {ks : List Key} {ws : List W} {k : Nat → Prop} : lenO' (some (.dic ks ws)) k = k ks.length := rfl
theorem atR_some {α : Type} {xs : List α} {i : Int} {v : α} {k : α → Prop} (h : L2.atI xs i = some v) : atR xs i k = k v := by unfold atR; rw [h]
theorem atR_0 {α : Type} {x : α} {xs : List α} {k : α → Prop} : atR (x :: xs) 0 k = k x := atR_some (atI_nat (j := 0) rfl)
theorem atR_1 {α : Type} {x y : α} {xs : List α} {k : α → Prop} : atR (x :: y :: xs) 1 k = k y := atR_some (atI_nat (j := 1) rfl)
theorem atR_2 {α : Type} {x y z : α} {xs : List α} {k : α → Prop} : atR (x :: y :: z :: xs) 2 k = k z := atR_some (atI_nat (j := 2) rfl)
theorem atR_3 {α : Type} {x y z u : α} {xs : List α} {k : α → Prop} : atR (x :: y :: z :: u :: xs) 3 k = k u := atR_some (atI_nat (j := 3) rfl)
theorem atR_4 {α : Type} {x y z u v : α} {xs : List α} {k : α → Prop} : atR (x :: y :: z :: u :: v :: xs) 4 k = k v := atR_some (atI_nat (j := 4) rfl)
theorem lenOk_0 {α : Type} : lenOk ([] : List α) = True := eq_true (lenOk_of (by show 0 ≤ _; decide))
theorem lenOk_1 {α : Type} {a : α} : lenOk [a] = True := eq_true (lenOk_of (by show 1 ≤ _; decide))
theorem lenOk_2 {α : Type} {a b : α} : lenOk [a, b] = True := eq_true (lenOk_of (by show 2 ≤ _; decide))
theorem lenOk_3 {α : Type} {a b c : α} : lenOk [a, b, c] = True := eq_true (lenOk_of (by show 3 ≤ _; decide))
theorem lenOk_4 {α : Type} {a b c d : α} : lenOk [a, b, c, d] = True := eq_true (lenOk_of (by show 4 ≤ _; decide))
theorem lenOk_5 {α : Type} {a b c d e : α} : lenOk [a, b, c, d, e] = True := eq_true (lenOk_of (by show 5 ≤ _; decide))
theorem look_tl {p q : Addr} {od : OD} (h : p ≠ q) : look ((q, od) :: Ω) p = look Ω p := by
  unfold look
  rw [List.find?_cons]
  have : decide (q = p) = false := decide_eq_false fun z => h z.symm
  rw [this]
theorem put_c {p : Addr} {od od' : OD} : OA.put ((p, od) :: Ω) p od' = (p, od') :: OA.put Ω p od' := by
  unfold OA.put
  rw [List.map_cons]
  simp only [if_true]
theorem put_n {p : Addr} {od' : OD} : OA.put [] p od' = [] := rfl
theorem put_t {p q : Addr} {od od' : OD} (h : q ≠ p) : OA.put ((q, od) :: Ω) p od' = (q, od) :: OA.put Ω p od' := by
  unfold OA.put
  rw [List.map_cons, if_neg h]
theorem notins_nil {Ω : Om} : notins [] Ω = True := eq_true fun p hp => by simp at hp
theorem sgnil_e {Γ : Gm} {Q : Gm → Om → Prop} : dGnil [] Γ Ω Q = Q Γ Ω := by unfold dGnil; simp
theorem sgcons_e {g : DG} {gs : DGs} {w : W} {r : List W} {Γ : Gm} {Q : Gm → Om → Prop} : dGcons g gs (w :: r) Γ Ω Q = g w Γ Ω fun Γ1 Ω1 => gs r Γ1 Ω1 Q := rfl
theorem dList_l {ds : List D} {k : List W → Prop} : (shW (.sh (.lst ds)) fun x => match x with | .lst ds => k (ds.map .sh) | _ => False) = k (ds.map .sh) := rfl
end
/-- a comprehension whose element is a function of the thing walked -/
theorem dLcP_of {ws : List W} {g : DG} {dq : DB} {de : DT} {vs : List Nat} {Γ : Gm} {Ω1 : Om} (F : W → Option W)
    (h : ∀ w ∈ ws, ∀ acc p (Pn : List W → Prop), notin p Ω1 → acc.length < ws.length → (∀ y, F w = some y → Pn (acc ++ [y])) → (F w = none → Pn acc) → g w (wipeG Γ vs) ((p, .lst acc) :: Ω1) fun Γ2 Ω2 => Ω2 = (p, .lst acc) :: Ω1 ∧ dq Γ2 ((p, .lst acc) :: Ω1) fun b Ω3 => Ω3 = (p, .lst acc) :: Ω1 ∧
      if b = true then de Γ2 ((p, .lst acc) :: Ω1) fun y Ω4 => Ω4 = (p, .lst acc) :: Ω1 ∧ lenLt acc ∧ Pn (acc ++ [y]) else Pn acc) :
    dLcP ws.length ws g dq de vs Γ Ω1 fun i acc => acc = (ws.take i).filterMap F := by
  refine ⟨rfl, fun i w acc p hw ha hn => ?_⟩
  have hi : i < ws.length := (List.getElem?_eq_some_iff.mp hw).1
  have ht : ws.take (i + 1) = ws.take i ++ [w] := by rw [List.take_succ, hw]; rfl
  refine h w (List.mem_of_getElem? hw) acc p (fun a => a = (ws.take (i + 1)).filterMap F) hn ?_ (fun y hy => ?_) fun hy => ?_
  · rw [ha]
    exact Nat.lt_of_le_of_lt (List.length_filterMap_le _ _) (Nat.lt_of_le_of_lt (List.length_take_le _ _) hi)
  · rw [ht, List.filterMap_append, ← ha]
    simp [hy]
  · rw [ht, List.filterMap_append, ← ha]
    simp [hy]
end OA

namespace OA
open PySem PySem.Spec PyProof.Rows L2
section
variable {K : PySem.W.Frag} {am : Am}
def dIsi (ws : List W) (Ω : Om) (Q : DQ) : Prop := two2W ws fun x c => tyW c fun n => tnW Ω x fun t => kitR t n fun r => Q (.sh (.bl r)) Ω
instance r_isi : SRC K am wIsi dIsi := ⟨fun {c T σ Γ Ω H xs ws Q R} e hs h k => by
  obtain ⟨x, v, w2, v2, rfl, hx, hc, h1⟩ := two2W_el h hs
  obtain ⟨n, rfl, h2⟩ := tyW_el h1
  obtain rfl : v2 = .ty n := hc
  have fin : ∀ t, kitR t n (fun r => Q (.sh (.bl r)) Ω) → optR (kitB t n) fun r => R (.bl r) H := fun t h => by
    unfold kitR at h
    split at h
    · rename_i r hr
      rw [hr]
      exact k _ _ _ _ h (e.addv rfl)
    · exact h.elim
  show optR (tyN v H) _
  unfold tnW at h2
  split at h2
  · obtain rfl : v = .non := hx
    exact fin _ h2
  · obtain rfl : v = .bl _ := hx
    exact fin _ h2
  · obtain rfl : v = .int _ := hx
    exact fin _ h2
  · obtain rfl : v = .str _ := hx
    exact fin _ h2
  · obtain ⟨a, vs, rfl, _, ha, _⟩ := hx
    rw [tyN_r, ha]
    exact fin _ h2
  · obtain ⟨a, vs, rfl, _, ha, _⟩ := hx
    rw [tyN_r, ha]
    exact fin _ h2
  · obtain rfl : v = .ref _ := hx
    split at h2
    · rename_i ws hl
      obtain ⟨vs, h3, h4⟩ := e.ob _ (look_mem hl)
      rw [tyN_r, h3]
      exact fin _ h2
    · rename_i ks ws hl
      obtain ⟨vs, h3, h4⟩ := e.ob _ (look_mem hl)
      rw [tyN_r, h3]
      exact fin _ h2
    · exact h2.elim
  · exact h2.elim⟩
theorem tn_n {Ω : Om} {k : String → Prop} : tnW Ω (.sh .non) k = k "NoneType" := rfl
theorem tn_b {Ω : Om} {b : Bool} {k : String → Prop} : tnW Ω (.sh (.bl b)) k = k "bool" := rfl
theorem tn_i {Ω : Om} {b : Int} {k : String → Prop} : tnW Ω (.sh (.int b)) k = k "int" := rfl
theorem tn_s {Ω : Om} {b : Str} {k : String → Prop} : tnW Ω (.sh (.str b)) k = k "str" := rfl
theorem tn_t {Ω : Om} {b : List D} {k : String → Prop} : tnW Ω (.sh (.tup b)) k = k "tuple" := rfl
theorem tn_l {Ω : Om} {b : List D} {k : String → Prop} : tnW Ω (.sh (.lst b)) k = k "list" := rfl
theorem kr_NoneType_bool {k : Bool → Prop} : kitR "NoneType" "bool" k = k false := by unfold kitR; rw [kit_NoneType_bool]
theorem kr_NoneType_int {k : Bool → Prop} : kitR "NoneType" "int" k = k false := by unfold kitR; rw [kit_NoneType_int]
theorem kr_NoneType_str {k : Bool → Prop} : kitR "NoneType" "str" k = k false := by unfold kitR; rw [kit_NoneType_str]
theorem kr_NoneType_list {k : Bool → Prop} : kitR "NoneType" "list" k = k false := by unfold kitR; rw [kit_NoneType_list]
theorem kr_NoneType_tuple {k : Bool → Prop} : kitR "NoneType" "tuple" k = k false := by unfold kitR; rw [kit_NoneType_tuple]
theorem kr_NoneType_dict {k : Bool → Prop} : kitR "NoneType" "dict" k = k false := by unfold kitR; rw [kit_NoneType_dict]
theorem kr_bool_bool {k : Bool → Prop} : kitR "bool" "bool" k = k true := by unfold kitR; rw [kit_bool_bool]
theorem kr_bool_int {k : Bool → Prop} : kitR "bool" "int" k = k true := by unfold kitR; rw [kit_bool_int]
theorem kr_bool_str {k : Bool → Prop} : kitR "bool" "str" k = k false := by unfold kitR; rw [kit_bool_str]
theorem kr_bool_list {k : Bool → Prop} : kitR "bool" "list" k = k false := by unfold kitR; rw [kit_bool_list]
theorem kr_bool_tuple {k : Bool → Prop} : kitR "bool" "tuple" k = k false := by unfold kitR; rw [kit_bool_tuple]
theorem kr_bool_dict {k : Bool → Prop} : kitR "bool" "dict" k = k false := by unfold kitR; rw [kit_bool_dict]
theorem kr_int_bool {k : Bool → Prop} : kitR "int" "bool" k = k false := by unfold kitR; rw [kit_int_bool]
theorem kr_int_int {k : Bool → Prop} : kitR "int" "int" k = k true := by unfold kitR; rw [kit_int_int]
theorem kr_int_str {k : Bool → Prop} : kitR "int" "str" k = k false := by unfold kitR; rw [kit_int_str]
theorem kr_int_list {k : Bool → Prop} : kitR "int" "list" k = k false := by unfold kitR; rw [kit_int_list]
theorem kr_int_tuple {k : Bool → Prop} : kitR "int" "tuple" k = k false := by unfold kitR; rw [kit_int_tuple]
theorem kr_int_dict {k : Bool → Prop} : kitR "int" "dict" k = k false := by unfold kitR; rw [kit_int_dict]
theorem kr_str_bool {k : Bool → Prop} : kitR "str" "bool" k = k false := by unfold kitR; rw [kit_str_bool]
theorem kr_str_int {k : Bool → Prop} : kitR "str" "int" k = k false := by unfold kitR; rw [kit_str_int]
theorem kr_str_str {k : Bool → Prop} : kitR "str" "str" k = k true := by unfold kitR; rw [kit_str_str]
theorem kr_str_list {k : Bool → Prop} : kitR "str" "list" k = k false := by unfold kitR; rw [kit_str_list]
theorem kr_str_tuple {k : Bool → Prop} : kitR "str" "tuple" k = k false := by unfold kitR; rw [kit_str_tuple]
theorem kr_str_dict {k : Bool → Prop} : kitR "str" "dict" k = k false := by unfold kitR; rw [kit_str_dict]
theorem kr_list_bool {k : Bool → Prop} : kitR "list" "bool" k = k false := by unfold kitR; rw [kit_list_bool]
theorem kr_list_int {k : Bool → Prop} : kitR "list" "int" k = k false := by unfold kitR; rw [kit_list_int]
theorem kr_list_str {k : Bool → Prop} : kitR "list" "str" k = k false := by unfold kitR; rw [kit_list_str]
theorem kr_list_list {k : Bool → Prop} : kitR "list" "list" k = k true := by unfold kitR; rw [kit_list_list]
theorem kr_list_tuple {k : Bool → Prop} : kitR "list" "tuple" k = k false := by unfold kitR; rw [kit_list_tuple]
theorem kr_list_dict {k : Bool → Prop} : kitR "list" "dict" k = k false := by unfold kitR; rw [kit_list_dict]
theorem kr_tuple_bool {k : Bool → Prop} : kitR "tuple" "bool" k = k false := by unfold kitR; rw [kit_tuple_bool]
theorem kr_tuple_int {k : Bool → Prop} : kitR "tuple" "int" k = k false := by unfold kitR; rw [kit_tuple_int]
theorem kr_tuple_str {k : Bool → Prop} : kitR "tuple" "str" k = k false := by unfold kitR; rw [kit_tuple_str]
theorem kr_tuple_list {k : Bool → Prop} : kitR "tuple" "list" k = k false := by unfold kitR; rw [kit_tuple_list]
theorem kr_tuple_tuple {k : Bool → Prop} : kitR "tuple" "tuple" k = k true := by unfold kitR; rw [kit_tuple_tuple]
theorem kr_tuple_dict {k : Bool → Prop} : kitR "tuple" "dict" k = k false := by unfold kitR; rw [kit_tuple_dict]
theorem kr_dict_bool {k : Bool → Prop} : kitR "dict" "bool" k = k false := by unfold kitR; rw [kit_dict_bool]
theorem kr_dict_int {k : Bool → Prop} : kitR "dict" "int" k = k false := by unfold kitR; rw [kit_dict_int]
theorem kr_dict_str {k : Bool → Prop} : kitR "dict" "str" k = k false := by unfold kitR; rw [kit_dict_str]
theorem kr_dict_list {k : Bool → Prop} : kitR "dict" "list" k = k false := by unfold kitR; rw [kit_dict_list]
theorem kr_dict_tuple {k : Bool → Prop} : kitR "dict" "tuple" k = k false := by unfold kitR; rw [kit_dict_tuple]
theorem kr_dict_dict {k : Bool → Prop} : kitR "dict" "dict" k = k true := by unfold kitR; rw [kit_dict_dict]
/-! list.pop(), list.remove(k) -/
def wPop : V → List V → Hp → VK → Prop := fun x vs H Q => refR x fun l => lstO (H l) fun xs => vs = [] ∧ optR (xs[xs.length - 1]?) fun v => Q v (upd H l (.lst xs.dropLast))
end
end OA

namespace OA
open PySem PySem.Spec PyProof.Rows L2
section
variable {K : PySem.W.Frag} {am : Am}
/-! a dict walked by its keys while it is locked -/
def keyD : Key → D
  | .inl i => .int i
  | .inr s => .str s
def dForK (i : Nat) (g : DG) (dt : DS) (N : DN) (Γ : Gm) (Ω : Om) : Prop := varR (Γ[i]?) fun w => ownD Ω w fun p ks ws => ∀ o kvs, ∃ Pv : Nat → Gm → Om → Prop, Pv 0 Γ (OA.put Ω p (.lk o kvs ks ws)) ∧
  (∀ j q Γ Ω', ks[j]? = some q → Pv j Γ Ω' → look Ω' p = some (.lk o kvs ks ws) ∧ g (.sh (keyD q)) Γ Ω' fun Γ2 Ω2 => LaterD (dt ⟨Pv (j + 1), fun w Ω' => look Ω' p = some (.lk o kvs ks ws) ∧ N.rt w (OA.put Ω' p (.dic ks ws)), fun _ _ => False, Pv (j + 1)⟩) Γ2 Ω2) ∧
  ∀ Γ Ω', Pv ks.length Γ Ω' → look Ω' p = some (.lk o kvs ks ws) ∧ LaterD N.nx Γ (OA.put Ω' p (.dic ks ws))
theorem look_put {Ω : Om} {p : Addr} {od od' : OD} (h : look Ω p = some od) : look (OA.put Ω p od') p = some od' := by
  induction Ω with
  | nil => simp [look] at h
  | cons q Ω ih =>
    obtain ⟨b, o⟩ := q
    by_cases z : b = p
    · subst z
      rw [put_c, look_hd]
    · rw [put_t z, look_tl (fun y => z y.symm)]
      rw [look_tl (fun y => z y.symm)] at h
      exact ih h
theorem DEnv.unlock {c : Cq am} {T : List Tp} {σ : L2.St} {Γ : Gm} {Ω : Om} {H : Hp} {p : Addr} {o : Obj} {kvs : List (Key × V)} {ks : List Key} {ws : List W} (e : DEnv K c T σ Γ Ω H) (hl : look Ω p = some (.lk o kvs ks ws)) : H p = some (.frz o (.dK kvs)) ∧ DEnv K c T σ Γ (OA.put Ω p (.dic ks ws)) (upd H p (.dK kvs)) := by
  obtain ⟨vs, h1, h2, h3, h4⟩ := e.ob _ (look_mem hl)
  exact ⟨h1, e.putD hl h2 h3 h4⟩
instance s_forK {i : Nat} {g : TG} {d : DG} {ix : List Nat} {ts : TS} {dt : DS} [s1 : SG K am g d ix] [s2 : SS K am ts dt] : SS K am (tLock (vFor (viKeys (vVar i)) g ts)) (dForK i d dt) := ⟨fun {c T σ Γ Ω H D N} e h o => by
  obtain ⟨w, h1, h2⟩ := varR_el h
  obtain ⟨v, h3, h4⟩ := e.sl i w h1
  obtain ⟨a, ks, vs, ws, rfl, hl, ha, hn, hv, h5⟩ := ownD_el e h4 h2
  refine ⟨a, _, ha, True.intro, fun od => ?_⟩
  obtain ⟨Pv, p0, ps, pe⟩ := h5 od (ks.zip vs)
  have hlk : look (OA.put Ω a (.lk od (ks.zip vs) ks ws)) a = some (.lk od (ks.zip vs) ks ws) := look_put hl
  have e1 : DEnv K c T σ Γ (OA.put Ω a (.lk od (ks.zip vs) ks ws)) (upd H a (.frz od (.dK (ks.zip vs)))) :=
    e.put hl ⟨vs, upd_same, rfl, hn, hv.mono fun b o n h => ⟨n, by rw [upd_ne fun z => n (.inr (by rw [z]; exact List.mem_map.mpr ⟨_, look_mem hl, rfl⟩))]; exact h⟩⟩
  show optR _ _
  rw [h3]
  show frzO (upd H a _ a) _
  rw [upd_same, frzO_e]
  have gets : ∀ j σ Γ Ω H, j ≤ ks.length → Pv j Γ Ω → DEnv K c T σ Γ Ω H → look Ω a = some (.lk od (ks.zip vs) ks ws) := fun j σ Γ Ω H hj p e => by
    rcases Nat.lt_or_eq_of_le hj with z | z
    · exact (ps j _ Γ Ω (List.getElem?_eq_getElem z) p).1
    · rw [z] at p
      exact (pe Γ Ω p).1
  have hz : (ks.zip vs).length = ks.length := by rw [List.length_zip, ← hv.len, hn, Nat.min_self]
  have wk : Walk (Itk a od (ks.zip vs)) ks.length (fun H => H a = some (.frz od (.dK (ks.zip vs)))) (fun i H x H' => H' = H ∧ ∃ k v, (ks.zip vs)[i]? = some (k, v) ∧ x = kV k) := by
    have z := walk_keys (d := a) (o := od) (kvs := ks.zip vs)
    rw [hz] at z
    exact z
  refine ⟨ks.length, _, _, fun j σ H => ∃ Γ Ω, Pv j Γ Ω ∧ DEnv K c T σ Γ Ω H, wk, ⟨Γ, _, p0, e1⟩, fun j σ H hj ⟨Γ, Ω, p, e⟩ => (e.unlock (gets j σ Γ Ω H hj p e)).1, fun j x σ H H' hj ⟨Γ, Ω, p, e⟩ y => ?_, fun σ H ⟨Γ, Ω, p, e⟩ => ?_⟩
  · obtain ⟨rfl, q, u, hq, rfl⟩ := y
    have hk : ks[j]? = some q := by
      have := congrArg (Option.map Prod.fst) hq
      rw [← List.getElem?_map, List.map_fst_zip (by rw [← hv.len, hn]; exact Nat.le_refl _)] at this
      exact this
    obtain ⟨g1, g2⟩ := ps j q Γ Ω hk p
    have hkv : VOk K H' (Ex c Ω) (.sh (keyD q)) (kV q) := by cases q <;> exact rfl
    refine s1.run e hkv g2 fun σ2 Γ2 Ω2 H2 q2 e2 _ => ?_
    obtain ⟨Γ3, Ω3, h3, e4⟩ := LaterD.run q2 e2
    refine s2.run e4 h3 ⟨fun σ' Γ' Ω' H' p' e' => ⟨Γ', Ω', p', e'⟩, fun v w σ' Γ' Ω' H' ⟨hl', q'⟩ e' => ?_, fun _ _ _ _ z _ => z.elim, fun σ' Γ' Ω' H' p' e' => ⟨Γ', Ω', p', e'⟩⟩
    obtain ⟨b1, b2⟩ := e'.unlock hl'
    exact ⟨b1, o.rt _ _ _ _ _ _ q' b2⟩
  · obtain ⟨hl', q'⟩ := pe Γ Ω p
    obtain ⟨b1, b2⟩ := e.unlock hl'
    obtain ⟨Γ3, Ω3, h3, e4⟩ := LaterD.run q' b2
    exact ⟨b1, o.nx _ _ _ _ h3 e4⟩⟩
end
end OA

namespace OA
open PySem PySem.Spec PyProof.Rows L2
/-! draws: what may be changed -/
def amD (d : Addr) : Am := ⟨fun b => b = d, fun H => DrawAt H d, fun H H' k h => by
  obtain ⟨ns, e, ok⟩ := h
  exact ⟨ns, by rw [k d rfl]; exact e, ok⟩, fun H b h hb => by
  obtain ⟨ns, e, _⟩ := h
  exact ⟨_, by rw [hb]; exact e, fun _ z => by cases z⟩⟩
section
variable {K : PySem.W.Frag} {A : Ad} {E0 : XK} {am : Am} {d : Addr} {tas : TA} {das : DA}
/-- the draws are of what may be changed -/
class DrawsIn (d : outParam Addr) (am : Am) : Prop where
  mem : am.M d
  get : ∀ H, am.I H → DrawAt H d
  put : ∀ H H', am.I H → KeptD d H H' → DrawAt H' d → am.I H'
instance drawsIn_1 (d : Addr) : DrawsIn d (amD d) := ⟨rfl, fun _ h => h, fun _ _ _ _ h => h⟩
instance drawsIn_2 (d : Addr) (b : Am) : DrawsIn d (amAnd (amD d) b) := ⟨.inl rfl, fun _ h => h.1, fun H H' i k h => ⟨h, b.keep i.2.1 fun x o m e => k x o e fun z => i.2.2 x z m, i.2.2⟩⟩
theorem keptD_am [s : DrawsIn d am] {H H' : Hp} (k : KeptD d H H') : ∀ b o, ¬ am.M b → H b = some o → H' b = some o := fun b o n h => k b o h fun z => n (by rw [z]; exact s.mem)
theorem DEnv.drawn [s : DrawsIn d am] {c : Cq am} {T : List Tp} {σ : L2.St} {Γ : Gm} {Ω : Om} {H H' : Hp} (e : DEnv K c T σ Γ Ω H) (k : KeptD d H H') (h : DrawAt H' d) : DEnv K c T σ Γ Ω H' := e.step (keptD_am k) (s.put _ _ e.inv k h)
def dOff (d : Addr) (das : DA) (Γ : Gm) (Ω : Om) (Q : DQ) : Prop := das Γ Ω fun ws Ω1 => two2W ws fun x y => x = .pt d ∧ intW y fun i => (1 ≤ i ∧ i ≤ 1000) ∧ ∀ n : Nat, (n : Int) < i → Q (.sh (.int n)) Ω1
instance c_off [sd : DrawsIn d am] [s1 : SA K am tas das] : SE K am (vCall (spOff A) E0 tas) (dOff d das) := ⟨fun {c T σ Γ Ω H Q R} e h k =>
  s1.run e h fun vs ws Ω1 H1 h1 e1 hv => by
    obtain ⟨w, v, w2, v2, rfl, hw, hw2, rfl, h2⟩ := two2W_el h1 hv
    obtain ⟨i, rfl, ⟨i1, i2⟩, h3⟩ := intW_el h2
    obtain rfl : v = .ref d := hw
    obtain rfl : v2 = .int i := hw2
    obtain ⟨m, rfl⟩ := Int.eq_ofNat_of_zero_le (show 0 ≤ i by omega)
    refine ⟨d, m, rfl, sd.get _ e1.inv, by omega, by omega, fun x H' hx kd hd => k _ _ _ _ (h3 x (by omega)) ((e1.drawn kd hd).addv rfl)⟩⟩
def dMany (d : Addr) (das : DA) (Γ : Gm) (Ω : Om) (Q : DQ) : Prop := das Γ Ω fun ws Ω1 => one1W ws fun x => x = .pt d ∧ ∀ n : Nat, 1 ≤ n → n ≤ 8 → Q (.sh (.int n)) Ω1
instance c_many [sd : DrawsIn d am] [s1 : SA K am tas das] : SE K am (vCall (spLMany A) E0 tas) (dMany d das) := ⟨fun {c T σ Γ Ω H Q R} e h k =>
  s1.run e h fun vs ws Ω1 H1 h1 e1 hv => by
    obtain ⟨w, v, rfl, hw, rfl, h2⟩ := one1W_el h1 hv
    obtain rfl : v = .ref d := hw
    exact ⟨d, rfl, sd.get _ e1.inv, fun x H' h1 h8 kd hd => k _ _ _ _ (h2 x h1 h8) ((e1.drawn kd hd).addv rfl)⟩⟩
theorem lay_nums {H : Hp} {E : Addr → Prop} (ns : List Int) : LayL K H E (ns.map .int) (ns.map V.int) := ints_lay ns
def dMixed (d : Addr) (das : DA) (Γ : Gm) (Ω : Om) (Q : DQ) : Prop := das Γ Ω fun ws Ω1 => two2W ws fun x y => x = .pt d ∧ seqW Ω1 y fun us => shsW us fun ds => intsD ds fun ns => ns.length ≤ 100 ∧ ∀ ms : List Int, ms.Perm ns → Q (.sh (.lst (ms.map .int))) Ω1
instance c_mixed [sd : DrawsIn d am] [s1 : SA K am tas das] : SE K am (vCall (spMixed A) E0 tas) (dMixed d das) := ⟨fun {c T σ Γ Ω H Q R} e h k =>
  s1.run e h fun vs ws Ω1 H1 h1 e1 hv => by
    obtain ⟨w, v, w2, v2, rfl, hw, hw2, rfl, h2⟩ := two2W_el h1 hv
    obtain rfl : v = .ref d := hw
    obtain ⟨a, vs, us, rfl, ha, hu, h3⟩ := seqW_el e1 hw2 h2
    obtain ⟨ds, rfl, h4⟩ := shsW_el h3
    obtain ⟨ns, rfl, hl, h5⟩ := intsD_el h4
    have := lay_ints hu.lay
    subst this
    refine ⟨d, a, ns, rfl, sd.get _ e1.inv, ha, hl, fun f ms H' hf kd hd hm pm => ?_⟩
    have e2 := e1.drawn kd hd
    have nf : ¬ Ex c Ω1 f := e1.noEx hf
    exact k _ _ _ _ (h5 ms pm) (e2.addv ⟨f, _, rfl, nf, hm, ints_lay ms⟩)⟩
def wlK (wl : WL) : List Key := wl.map fun x => Sum.inl (x.1 : Int)
def wlD (wl : WL) : List D := wl.map fun x => .int (x.2 : Nat)
def wlW (wl : WL) : List W := (wlD wl).map .sh
theorem wkv_zip (wl : WL) : wkv wl = (wlK wl).zip (wl.map fun x => V.int (x.2 : Nat)) := by
  unfold wkv wlK
  rw [List.zip_map']
theorem wl_oks {H : Hp} {E : Addr → Prop} (wl : WL) : VOks K H E (wlW wl) (wl.map fun x => V.int (x.2 : Nat)) := by
  refine VOks.sh_of ?_
  unfold wlD
  induction wl with
  | nil => exact rfl
  | cons x wl ih => exact ⟨_, _, rfl, rfl, ih⟩
theorem wl_lay_eq {H : Hp} {E : Addr → Prop} {wl : WL} {vs : List V} (h : LayL K H E (wlD wl) vs) : vs = wl.map fun x => V.int (x.2 : Nat) := by
  unfold wlD at h
  induction wl generalizing vs with
  | nil => exact h
  | cons x wl ih =>
    obtain ⟨v, r, rfl, h1, h2⟩ := h
    rw [show v = .int _ from h1, ih h2]
    rfl
theorem wl_oks_eq {H : Hp} {E : Addr → Prop} {wl : WL} {vs : List V} (h : VOks K H E (wlW wl) vs) : vs = wl.map fun x => V.int (x.2 : Nat) := wl_lay_eq h.lay
theorem same_am {am : Am} {H H' : Hp} (k : Same H H') : ∀ b o, ¬ am.M b → H b = some o → H' b = some o := fun b o _ h => k b o h
theorem same_inv {am : Am} {H H' : Hp} (k : Same H H') (i : am.I H) : am.I H' := am.loc H H' (fun b m => by
  obtain ⟨o, e, _⟩ := am.ex H b i m
  rw [e, k _ _ e]) i
theorem DEnv.same {am : Am} {c : Cq am} {T : List Tp} {σ : L2.St} {Γ : Gm} {Ω : Om} {H H' : Hp} (e : DEnv K c T σ Γ Ω H) (k : Same H H') : DEnv K c T σ Γ Ω H' := e.step (same_am k) (same_inv k e.inv)
theorem lookup_mem {wl : WL} (nd : (wl.map (·.1)).Nodup) {x : Nat × Nat} (h : x ∈ wl) : wl.lookup x.1 = some x.2 := by
  induction wl with
  | nil => simp at h
  | cons y wl ih =>
    rw [List.map_cons, List.nodup_cons] at nd
    rcases List.mem_cons.mp h with rfl | h
    · simp [List.lookup]
    · have : ¬ x.1 = y.1 := fun z => nd.1 (by rw [← z]; exact List.mem_map.mpr ⟨x, h, rfl⟩)
      have e : (x.1 == y.1) = false := by simp [this]
      simp only [List.lookup, e]
      exact ih nd.2 h
end
end OA

namespace OA
open PySem PySem.Spec PyProof.Rows L2
section
variable {K : PySem.W.Frag} {A : Ad} {E0 : XK} {am : Am} {d : Addr} {tas : TA} {das : DA}
/-- the tables of code objects are of what may be changed -/
def amT (A : Ad) : Am := ⟨fun b => b = A.p_are_rows ∨ b = A.p_is_row, fun H => Tabs A H, fun H H' k h => by
  obtain ⟨⟨ps, h1, h2⟩, ⟨qs, h3, h4⟩⟩ := h
  exact ⟨⟨ps, by rw [k _ (.inl rfl)]; exact h1, h2⟩, ⟨qs, by rw [k _ (.inr rfl)]; exact h3, h4⟩⟩, fun H b h hb => by
  obtain ⟨⟨ps, h1, h2⟩, ⟨qs, h3, h4⟩⟩ := h
  rcases hb with rfl | rfl
  · exact ⟨_, h1, fun _ z => by cases z⟩
  · exact ⟨_, h3, fun _ z => by cases z⟩⟩
class TabsIn (A : outParam Ad) (am : Am) : Prop where
  m1 : am.M A.p_are_rows
  m2 : am.M A.p_is_row
  get : ∀ H, am.I H → Tabs A H
  put : ∀ H H', am.I H → (∀ b, b ≠ A.p_are_rows → b ≠ A.p_is_row → H' b = H b) → Tabs A H' → am.I H'
instance tabsIn_1 (A : Ad) : TabsIn A (amT A) := ⟨.inl rfl, .inr rfl, fun _ h => h, fun _ _ _ _ h => h⟩
instance tabsIn_2 (A : Ad) (a : Am) : TabsIn A (amAnd a (amT A)) := ⟨.inr (.inl rfl), .inr (.inr rfl), fun _ h => h.2.1, fun H H' i k h => ⟨a.loc H H' (fun x m => k x (fun z => i.2.2 x m (.inl z)) (fun z => i.2.2 x m (.inr z))) i.1, h, i.2.2⟩⟩
theorem Tabs.rt {H : Hp} (h : Tabs A H) {R : RuleM} : RT A R H := by cases R <;> first | exact True.intro | exact h
theorem DEnv.tbd [s : TabsIn A am] {c : Cq am} {T : List Tp} {σ : L2.St} {Γ : Gm} {Ω : Om} {H H' : Hp} {R : RuleM} (e : DEnv K c T σ Γ Ω H) (t : Tbd A R H H') : DEnv K c T σ Γ Ω H' := by
  have ht := s.get _ e.inv
  have key : (Tabs A H' ∨ H' = H) → DEnv K c T σ Γ Ω H' := fun z => by
    rcases z with z | z
    · exact e.step (fun b o n h => by rw [t.off b (fun q => n (by rw [q]; exact s.m1)) (fun q => n (by rw [q]; exact s.m2))]; exact h) (s.put _ _ e.inv t.off z)
    · rw [z]; exact e
  cases R <;> first | exact key (.inl (Warm.tabs t.warm)) | exact key (.inr (t.same True.intro))
/-! play, times -/
def ruleD : RuleM → D
  | .turns => .tup [.str "turns"]
  | .rows rs => .tup [.str "rows", .tup (rs.map .str)]
  | .tree sk jn => .tup [.str "tree", .str (howS sk), .str (lateS jn)]
  | .waits b => .tup [.str "waits", .int (b : Nat)]
theorem ruleAt_of {H : Hp} {E : Addr → Prop} {R : RuleM} {v : V} (h : Lay K H E (ruleD R) v) : ∃ a, v = .ref a ∧ RuleAt H a R := by
  cases R with
  | turns =>
    obtain ⟨a, vs, rfl, _, ha, v1, r1, rfl, h1, rfl⟩ := h
    obtain rfl : v1 = .str _ := h1
    exact ⟨a, rfl, ha⟩
  | rows rs =>
    obtain ⟨a, vs, rfl, _, ha, v1, r1, rfl, h1, v2, r2, rfl, ⟨b, us, rfl, _, hb, hl⟩, rfl⟩ := h
    obtain rfl : v1 = .str _ := h1
    have := lay_strs hl
    subst this
    exact ⟨a, rfl, b, ha, hb⟩
  | tree sk jn =>
    obtain ⟨a, vs, rfl, _, ha, v1, r1, rfl, h1, v2, r2, rfl, h2, v3, r3, rfl, h3, rfl⟩ := h
    obtain rfl : v1 = .str _ := h1
    obtain rfl : v2 = .str _ := h2
    obtain rfl : v3 = .str _ := h3
    exact ⟨a, rfl, ha⟩
  | waits b =>
    obtain ⟨a, vs, rfl, _, ha, v1, r1, rfl, h1, v2, r2, rfl, h2, rfl⟩ := h
    obtain rfl : v1 = .str _ := h1
    obtain rfl : v2 = .int _ := h2
    exact ⟨a, rfl, ha⟩
abbrev natsD (ns : List Nat) : List D := ns.map fun (n : Nat) => .int (n : Nat)
def rowD (r : Row) : D := .tup [.tup (natsD r.1), .str r.2.s]
theorem nats_lay {H : Hp} {E : Addr → Prop} (ns : List Nat) : LayL K H E (natsD ns) (ns.map nV) := by
  induction ns with
  | nil => exact rfl
  | cons n ns ih => exact ⟨_, _, rfl, rfl, ih⟩
theorem told_lay {am : Am} {c : Cq am} {T : List Tp} {σ : L2.St} {Γ : Gm} {Ω : Om} {H : Hp} (e : DEnv K c T σ Γ Ω H) : ∀ (rows : List Row) (as : List Addr), as.length = rows.length → (∀ (i : Nat) (a : Addr) (r : Row), as[i]? = some a → rows[i]? = some r → RowAt H a r) → LayL K H (Ex c Ω) (rows.map rowD) (as.map V.ref)
  | [], as, hl, _ => by
    have : as = [] := List.eq_nil_of_length_eq_zero hl
    rw [this]
    exact rfl
  | r :: rows, [], hl, _ => by simp at hl
  | r :: rows, a :: as, hl, hr => by
    obtain ⟨s, h1, h2⟩ := hr 0 a r rfl rfl
    exact ⟨_, _, rfl, ⟨a, _, rfl, e.noTup h1, h1, _, _, rfl, ⟨s, _, rfl, e.noTup h2, h2, nats_lay r.1⟩, _, _, rfl, rfl, rfl⟩, told_lay e rows as (by simpa using hl) fun i b r' h h' => hr (i + 1) b r' h h'⟩
def dicIs (Ω : Om) (x : W) (wl : WL) : Prop := ∃ p, x = .pt p ∧ look Ω p = some (.dic (wlK wl) (wlW wl))
theorem dicIs_el {c : Cq am} {T : List Tp} {σ : L2.St} {Γ : Gm} {Ω : Om} {H : Hp} {x : W} {v : V} {wl : WL} (e : DEnv K c T σ Γ Ω H) (hv : VOk K H (Ex c Ω) x v) (h : dicIs Ω x wl) : ∃ p, v = .ref p ∧ H p = some (.dK (wkv wl)) := by
  obtain ⟨p, rfl, hl⟩ := h
  obtain ⟨vs, h1, h2, h3⟩ := e.ob _ (look_mem hl)
  rw [wl_oks_eq h3, ← wkv_zip] at h1
  exact ⟨p, hv, h1⟩
def rowsD (R : RuleM) (many : Nat) (wl : WL) (n : Nat) : D := .lst ((rowsTo R many wl n).map rowD)
def PlayR (R : RuleM) (many : Nat) (wl : WL) (n : Nat) (x : D) : Prop :=
  (wl.length ≤ heardN R many wl n → x = .tup [.str "heard", rowsD R many wl n, .int 0]) ∧ (¬ wl.length ≤ heardN R many wl n → ∃ m, Again R many wl n m ∧ x = .tup [.str "forever", rowsD R many wl n, .int ((n : Int) - (m : Int))])
def dPlay (das : DA) (Γ : Gm) (Ω : Om) (Q : DQ) : Prop := das Γ Ω fun ws Ω1 => ∃ R wl many n x, ws = [.sh (ruleD R), .sh (.int (many : Nat)), x] ∧ dicIs Ω1 x wl ∧ (R.OkN many ∧ 1 ≤ many ∧ many ≤ 8) ∧ WOk many wl ∧ EndsAt R many wl n ∧ ∀ y, PlayR R many wl n y → Q (.sh y) Ω1
instance c_play [sT : TabsIn A am] [s1 : SA K am tas das] : SE K am (vCall (spPlay A) E0 tas) (dPlay das) := ⟨fun {c T σ Γ Ω H Q R} e h k =>
  s1.run e h fun vs ws Ω1 H1 h1 e1 hv => by
    obtain ⟨R, wl, many, n, x, rfl, hx, ⟨okn, a1, a8⟩, wok, ends, kk⟩ := h1
    obtain ⟨v1, r1, rfl, g1, v2, r2, rfl, g2, v3, r3, rfl, g3, rfl⟩ := hv
    obtain ⟨a, rfl, hR⟩ := ruleAt_of g1
    obtain rfl : v2 = .int _ := g2
    obtain ⟨p, rfl, hw⟩ := dicIs_el e1 g3 hx
    refine ⟨a, p, many, n, R, wl, rfl, hR, okn, a1, a8, hw, wok, ends, (sT.get _ e1.inv).rt, fun H1b T0 t H2 t1 s2 ht0 told hh hf => ?_⟩
    obtain ⟨as, ht, hla, hrow⟩ := told
    replace e1 := e1.tbd t1
    have e2 := e1.same s2
    have nt : ¬ Ex c Ω1 t := e1.noEx ht0
    have lt : Lay K H2 (Ex c Ω1) (rowsD R many wl n) (.ref t) := ⟨t, _, rfl, nt, ht, told_lay e2 _ as hla hrow⟩
    by_cases z : wl.length ≤ heardN R many wl n
    · have hT := hh z
      exact k _ _ _ _ (kk _ ⟨fun _ => rfl, fun y => absurd z y⟩) (e2.addv ⟨T0, _, rfl, e2.noTup hT, hT, _, _, rfl, rfl, _, _, rfl, lt, _, _, rfl, rfl, rfl⟩)
    · obtain ⟨m, ha, hT⟩ := hf z
      exact k _ _ _ _ (kk _ ⟨fun y => absurd y z, fun _ => ⟨m, ha, rfl⟩⟩) (e2.addv ⟨T0, _, rfl, e2.noTup hT, hT, _, _, rfl, rfl, _, _, rfl, lt, _, _, rfl, rfl, rfl⟩)⟩
def dCheckR (das : DA) (Γ : Gm) (Ω : Om) (Q : DQ) : Prop := das Γ Ω fun ws Ω1 => ∃ (R : RuleM) (many : Nat), ws = [.sh (ruleD R), .sh (.int (many : Nat))] ∧ (R.OkN many ∧ 1 ≤ many ∧ many ≤ 8) ∧ Q (.sh .non) Ω1
instance c_checkR [sT : TabsIn A am] [s1 : SA K am tas das] : SE K am (vCall (spFault A) E0 tas) (dCheckR das) := ⟨fun {c T σ Γ Ω H Q R} e h k =>
  s1.run e h fun vs ws Ω1 H1 h1 e1 hv => by
    obtain ⟨R, many, rfl, ⟨okn, a1, a8⟩, kk⟩ := h1
    obtain ⟨v1, r1, rfl, g1, v2, r2, rfl, g2, rfl⟩ := hv
    obtain ⟨a, rfl, hR⟩ := ruleAt_of g1
    obtain rfl : v2 = .int _ := g2
    exact ⟨a, many, R, rfl, hR, okn, ⟨a1, a8⟩, (sT.get _ e1.inv).rt, fun H1b H2 t1 s2 => k _ _ _ _ kk (((e1.tbd t1).same s2).addv rfl)⟩⟩
/-- who is heard when -/
def timesL (R : RuleM) (many : Nat) (wl : WL) (n : Nat) : WL := (List.range many).filterMap fun j => (heardAt R many wl n j).map fun k => (j, k)
theorem timesL_eq {R : RuleM} {many : Nat} {wl : WL} {n : Nat} : wkv (timesL R many wl n) = timesKV R many wl n := by
  unfold wkv timesL timesKV
  rw [List.map_filterMap]
  congr 1
  funext j
  cases heardAt R many wl n j <;> rfl
def dTimes (das : DA) (Γ : Gm) (Ω : Om) (Q : DQ) : Prop := das Γ Ω fun ws Ω1 => ∃ R wl many n x, ws = [.sh (ruleD R), .sh (.int (many : Nat)), x] ∧ dicIs Ω1 x wl ∧ (R.OkN many ∧ 1 ≤ many ∧ many ≤ 8) ∧ WOk many wl ∧ EndsAt R many wl n ∧ ∀ f, notin f Ω1 → Q (.pt f) ((f, .dic (wlK (timesL R many wl n)) (wlW (timesL R many wl n))) :: Ω1)
instance c_times [sT : TabsIn A am] [s1 : SA K am tas das] : SE K am (vCall (spTimes A) E0 tas) (dTimes das) := ⟨fun {c T σ Γ Ω H Q R} e h k =>
  s1.run e h fun vs ws Ω1 H1 h1 e1 hv => by
    obtain ⟨R, wl, many, n, x, rfl, hx, ⟨okn, a1, a8⟩, wok, ends, kk⟩ := h1
    obtain ⟨v1, r1, rfl, g1, v2, r2, rfl, g2, v3, r3, rfl, g3, rfl⟩ := hv
    obtain ⟨a, rfl, hR⟩ := ruleAt_of g1
    obtain rfl : v2 = .int _ := g2
    obtain ⟨p, rfl, hw⟩ := dicIs_el e1 g3 hx
    refine ⟨a, p, many, n, R, wl, rfl, hR, okn, a1, a8, hw, wok, ends, (sT.get _ e1.inv).rt, fun H1b f H2 t1 s2 hf hd => ?_⟩
    replace e1 := e1.tbd t1
    have ob : ObOk K H2 (ExN (Ex c Ω1) [(f, .dic (wlK (timesL R many wl n)) (wlW (timesL R many wl n)))]) f (.dic (wlK (timesL R many wl n)) (wlW (timesL R many wl n))) := ⟨_, by rw [hd, ← timesL_eq, wkv_zip], by simp [wlK, wlW, wlD], wl_oks _⟩
    obtain ⟨ni, e2⟩ := e1.call (a := am) (w := .pt f) (v := .ref f) (Ωn := [(f, .dic (wlK (timesL R many wl n)) (wlW (timesL R many wl n)))]) rfl (fun q hq => by
      rw [show q = _ from List.mem_singleton.mp hq]
      exact ob) (fun p hp => by
      rw [show p = f from by simpa using hp]
      exact hf) (by simp) (same_am s2) (same_inv s2 e1.inv)
    exact k _ _ _ _ (kk f (ni f (by simp))) e2⟩
theorem rule_lay {am : Am} {c : Cq am} {T : List Tp} {σ : L2.St} {Γ : Gm} {Ω : Om} {H : Hp} (e : DEnv K c T σ Γ Ω H) {a : Addr} {R : RuleM} (h : RuleAt H a R) : Lay K H (Ex c Ω) (ruleD R) (.ref a) := by
  cases R with
  | turns => exact ⟨a, _, rfl, e.noTup h, h, _, _, rfl, rfl, rfl⟩
  | rows rs =>
    obtain ⟨b, h1, h2⟩ := h
    exact ⟨a, _, rfl, e.noTup h1, h1, _, _, rfl, rfl, _, _, rfl, ⟨b, _, rfl, e.noTup h2, h2, strs_lay rs⟩, rfl⟩
  | tree sk jn => exact ⟨a, _, rfl, e.noTup h, h, _, _, rfl, rfl, _, _, rfl, rfl, _, _, rfl, rfl, rfl⟩
  | waits b => exact ⟨a, _, rfl, e.noTup h, h, _, _, rfl, rfl, _, _, rfl, rfl, rfl⟩
end
end OA

namespace OA
open PySem PySem.Spec PyProof.Rows L2
/-! a law: its draws, then the rest by data -/
def dN (n : Nat) (k : Nat → Prop) : Prop := k n
theorem put_no {p : Addr} {od : OD} {Ω : Om} (h : notin p Ω) : OA.put Ω p od = Ω := by
  unfold OA.put
  have : ∀ q ∈ Ω, (if q.1 = p then (q.1, od) else q) = q := fun q hq => if_neg fun z => h (List.mem_map.mpr ⟨q, hq, z⟩)
  rw [List.map_congr_left this, List.map_id']
theorem notin_cons {p q : Addr} {od : OD} {Ω : Om} : notin p ((q, od) :: Ω) ↔ p ≠ q ∧ notin p Ω := by
  unfold notin
  simp
theorem notin_put {p q : Addr} {od : OD} {Ω : Om} : notin p (OA.put Ω q od) ↔ notin p Ω := by
  unfold notin
  rw [put_keys]
section
variable {K : PySem.W.Frag} {A : Ad}
def spLaw (K : PySem.W.Frag) : Sp := fun vs H Q _ => ∃ (a : Addr) (ns : List Int), vs = [.ref a] ∧ SqL K H a (ns.map V.int) ∧ ns.length ≤ 63 ∧ ∀ H', Q (.bl true) H'
def lawG (N : List Str) (d : Addr) : Gm := (List.replicate N.length none).set 1 (some (.pt d))
def lawN : DN := ⟨fun _ _ => False, fun w _ => w = .sh (.bl true), fun _ _ => False, fun _ _ => False⟩
theorem law_go {X : Cx} {body : List Stmt} {ts : TS} {E0 E1 : XK} {N : List Str} {vs : List V} {H : Hp} {Q : VK} (h : spLaw K vs H Q E1) (hP : PSs X body (vSeq (tAsg (vCall (spDice K) E0 (tCons (vVar 0) (tCons (tC (.int 0)) tNil))) (gName 1)) ts))
    (hN : 2 ≤ N.length) (hD : ∀ d, ∃ td : DS, SS K (amD d) ts td ∧ td lawN (lawG N d) []) :
    ∃ t, PSs X body t ∧ t { nx := fun _ H' => Q .non H', rt := Q } (start N vs) H := by
  obtain ⟨a, ns, rfl, hS, hl, kk⟩ := h
  refine ⟨_, hP, ?_⟩
  refine (show spDice K [.ref a, .int 0] H (fun v H1 => Later (ts { nx := fun _ H' => Q .non H', rt := Q }) ((start N [.ref a]).set 1 (some v)) H1) E0 from ⟨a, ns, rfl, hS, hl, fun d H' sm hd dr => Later.mk ?_⟩)
  let c : Cq (amD d) := ⟨fun b => b = d, fun b m => m, H'⟩
  have e0 : DEnv K c [] ((start N [.ref a]).set 1 (some (.ref d))) (lawG N d) [] H' := by
    refine ⟨?_, fun i w hw => ?_, fun t ht => by simp at ht, fun q hq => by simp at hq, List.nodup_nil, fun p hp => by simp at hp, fun b hb => ?_, fun b o _ hb => hb, dr⟩
    · rw [List.length_set]
      unfold lawG L2.start
      simp
      omega
    · unfold lawG at hw
      rw [List.getElem?_set] at hw
      split at hw
      · rename_i z
        subst z
        split at hw
        · rename_i hl
          cases hw
          refine ⟨.ref d, ?_, rfl⟩
          rw [List.getElem?_set, if_pos rfl, if_pos]
          unfold L2.start
          simp
          omega
        · cases hw
      · rw [List.getElem?_replicate] at hw
        split at hw <;> cases hw
    · obtain ⟨ns, e, _⟩ := dr
      exact ⟨_, by rw [show b = d from hb]; exact e, fun _ z => by cases z⟩
  obtain ⟨td, hs, hD⟩ := hD d
  refine hs.run (c := c) (T := []) e0 hD ⟨fun _ _ _ _ z _ => z.elim, fun v w σ Γ Ω H2 q e => ?_, fun _ _ _ _ z _ => z.elim, fun _ _ _ _ z _ => z.elim⟩
  have q : w = .sh (.bl true) := q
  subst q
  rw [show v = .bl true from e.hd]
  exact kk H2
end
end OA

namespace OA
open PySem PySem.Spec PyProof.Rows L2
section
variable {K : PySem.W.Frag} {A : Ad}
def spLawT (K : PySem.W.Frag) (A : Ad) : Sp := fun vs H Q _ => ∃ (a : Addr) (ns : List Int), vs = [.ref a] ∧ SqL K H a (ns.map V.int) ∧ ns.length ≤ 63 ∧ Tabs A H ∧ ∀ H', Q (.bl true) H'
theorem law_goT {X : Cx} {body : List Stmt} {ts : TS} {E0 E1 : XK} {N : List Str} {vs : List V} {H : Hp} {Q : VK} (h : spLawT K A vs H Q E1) (hP : PSs X body (vSeq (tAsg (vCall (spDice K) E0 (tCons (vVar 0) (tCons (tC (.int 0)) tNil))) (gName 1)) ts))
    (hN : 2 ≤ N.length) (hD : ∀ d, ∃ td : DS, SS K (amAnd (amD d) (amT A)) ts td ∧ td lawN (lawG N d) []) :
    ∃ t, PSs X body t ∧ t { nx := fun _ H' => Q .non H', rt := Q } (start N vs) H := by
  obtain ⟨a, ns, rfl, hS, hl, hT, kk⟩ := h
  refine ⟨_, hP, ?_⟩
  refine (show spDice K [.ref a, .int 0] H (fun v H1 => Later (ts { nx := fun _ H' => Q .non H', rt := Q }) ((start N [.ref a]).set 1 (some v)) H1) E0 from ⟨a, ns, rfl, hS, hl, fun d H' sm hd dr => Later.mk ?_⟩)
  let c : Cq (amAnd (amD d) (amT A)) := ⟨(amAnd (amD d) (amT A)).M, fun b m => m, H'⟩
  have hT' : Tabs A H' := hT.same sm
  have inv : (amAnd (amD d) (amT A)).I H' := ⟨dr, hT', fun x z y => by
    have z : x = d := z
    obtain ⟨⟨ps, h1, _⟩, ⟨qs, h3, _⟩⟩ := hT
    rcases y with y | y
    · rw [← y, z, hd] at h1
      cases h1
    · rw [← y, z, hd] at h3
      cases h3⟩
  have e0 : DEnv K c [] ((start N [.ref a]).set 1 (some (.ref d))) (lawG N d) [] H' := by
    refine ⟨?_, fun i w hw => ?_, fun t ht => by simp at ht, fun q hq => by simp at hq, List.nodup_nil, fun p hp => by simp at hp, fun b hb => (amAnd (amD d) (amT A)).ex H' b inv hb, fun b o _ hb => hb, inv⟩
    · rw [List.length_set]
      unfold lawG L2.start
      simp
      omega
    · unfold lawG at hw
      rw [List.getElem?_set] at hw
      split at hw
      · rename_i z
        subst z
        split at hw
        · rename_i hl
          cases hw
          refine ⟨.ref d, ?_, rfl⟩
          rw [List.getElem?_set, if_pos rfl, if_pos]
          unfold L2.start
          simp
          omega
        · cases hw
      · rw [List.getElem?_replicate] at hw
        split at hw <;> cases hw
  obtain ⟨td, hs, hD⟩ := hD d
  refine hs.run (c := c) (T := []) e0 hD ⟨fun _ _ _ _ z _ => z.elim, fun v w σ Γ Ω H2 q e => ?_, fun _ _ _ _ z _ => z.elim, fun _ _ _ _ z _ => z.elim⟩
  have q : w = .sh (.bl true) := q
  subst q
  rw [show v = .bl true from e.hd]
  exact kk H2
end
end OA

namespace OA
open PySem L2
/-! the same run, later -/
def laterW (wl : WL) (s : Nat) : WL := wl.map fun x => (x.1, x.2 + s)
def byOf (R : RuleM) (many : Nat) : Nat := match R with
  | .turns => many
  | .rows rs => (rs.headD "").length
  | _ => 1
section
variable {R : RuleM} {many : Nat} {wl : WL} {s : Nat}
theorem lookup_later (j : Nat) : ∀ wl : WL, (laterW wl s).lookup j = (wl.lookup j).map (· + s) := fun wl => by
  induction wl with
  | nil => rfl
  | cons x wl ih =>
    show List.lookup j ((x.1, x.2 + s) :: laterW wl s) = (List.lookup j ((x.1, x.2) :: wl)).map (· + s)
    simp only [List.lookup]
    split
    · rfl
    · exact ih
theorem aw_later (k j : Nat) : awF (laterW wl s) (s + k) j = awF wl k j := by
  unfold awF
  rw [lookup_later]
  cases wl.lookup j with
  | none => rfl
  | some t =>
    show decide (t + s ≤ s + k) = decide (t ≤ k)
    exact decide_eq_decide.mpr (by omega)
theorem aw_early {k : Nat} (h : k < s) (j : Nat) : awF (laterW wl s) k j = false := by
  unfold awF
  rw [lookup_later]
  cases wl.lookup j with
  | none => rfl
  | some t =>
    show decide (t + s ≤ k) = false
    exact decide_eq_false (by omega)
/-- a station that nobody wakes while all is silent -/
def idleM (R : RuleM) (many j k : Nat) : StM := match wayM R many j with
  | .row r _ => ⟨.row r (k % r.length), false, false⟩
  | w => ⟨w, false, false⟩
theorem idle_zero (j : Nat) : idleM R many j 0 = initM R many j := by
  unfold idleM initM
  cases R <;> simp [wayM]
theorem idle_asked (j k : Nat) : ((idleM R many j k).asked false).spoke = false ∧ ((idleM R many j k).asked false).hears .sil = idleM R many j (k + 1) := by
  unfold idleM
  cases R <;> simp [wayM, StM.asked, StM.hears, WayM.asked, WayM.wants, WayM.goes, comes, opened, dropLv, Nat.add_mod]
theorem early (k : Nat) (hk : k ≤ s) : sysF R many (laterW wl s) k = fun j => idleM R many j k := by
  induction k with
  | zero =>
    funext j
    exact (idle_zero j).symm
  | succ k ih =>
    have e := ih (by omega)
    have ea : asksF (awF (laterW wl s) k) (sysF R many (laterW wl s) k) = fun j => (idleM R many j k).asked false := by
      funext j
      unfold asksF
      rw [e, aw_early (s := s) (k := k) (by omega)]
    have es : spkF (asksF (awF (laterW wl s) k) (sysF R many (laterW wl s) k)) many = [] := by
      unfold spkF
      rw [List.filter_eq_nil_iff]
      intro j _
      rw [ea, (idle_asked j k).1]
      simp
    funext j
    show hearsF (nWd (spkF _ many).length) _ j = _
    rw [es, ea]
    exact (idle_asked j k).2
theorem spk_early {k : Nat} (hk : k < s) : spkAt R many (laterW wl s) k = [] := by
  unfold spkAt spkF
  rw [List.filter_eq_nil_iff]
  intro j _
  unfold asksF
  rw [early k (Nat.le_of_lt hk), aw_early hk, (idle_asked j k).1]
  simp
/-- so many moments bring a row back to its begin -/
def Rounds (R : RuleM) (many s : Nat) : Prop := ∀ j, j < many → idleM R many j s = initM R many j
theorem rounds_of (hok : R.Ok many) (h8 : many ≤ 8) (x : Nat) : Rounds R many (byOf R many * x) := by
  intro j hj
  unfold idleM initM
  cases R with
  | turns =>
    have := (turnRow_all many (by omega) j hj).1
    simp [wayM, byOf, this]
  | rows rs =>
    obtain ⟨hl, n, h1, h12, hr⟩ := hok
    have e : ∀ r ∈ rs, r.length = n := fun r hm => (hr r hm).1
    have hj' : j < rs.length := by omega
    have e1 : (rs.getD j "").length = n := by
      refine e _ ?_
      simp [hj']
    have e2 : (rs.headD "").length = n := by
      refine e _ ?_
      cases rs with
      | nil => simp at hj'
      | cons a b => simp
    simp only [wayM, byOf, e1, e2, Nat.mul_mod_right]
  | tree sk jn => rfl
  | waits b => rfl
theorem later_sys (hr : Rounds R many s) : ∀ k j, j < many → sysF R many (laterW wl s) (s + k) j = sysF R many wl k j := by
  intro k
  induction k with
  | zero =>
    intro j hj
    show sysF R many (laterW wl s) s j = _
    rw [early s (Nat.le_refl _)]
    exact hr j hj
  | succ k ih =>
    intro j hj
    have ea : ∀ i, i < many → asksF (awF (laterW wl s) (s + k)) (sysF R many (laterW wl s) (s + k)) i = asksF (awF wl k) (sysF R many wl k) i := fun i hi => by
      unfold asksF
      rw [ih i hi, aw_later]
    have es : spkF (asksF (awF (laterW wl s) (s + k)) (sysF R many (laterW wl s) (s + k))) many = spkF (asksF (awF wl k) (sysF R many wl k)) many := by
      unfold spkF
      exact List.filter_congr fun i hi => by rw [ea i (List.mem_range.mp hi)]
    show hearsF (nWd (spkF (asksF (awF (laterW wl s) (s + k)) (sysF R many (laterW wl s) (s + k))) many).length) _ j = hearsF (nWd (spkF (asksF (awF wl k) (sysF R many wl k)) many).length) _ j
    rw [es]
    exact congrArg (StM.hears _) (ea j hj)
theorem later_spk (hr : Rounds R many s) (k : Nat) : spkAt R many (laterW wl s) (s + k) = spkAt R many wl k := by
  unfold spkAt spkF
  refine List.filter_congr fun i hi => ?_
  unfold asksF
  rw [later_sys hr k i (List.mem_range.mp hi), aw_later]
theorem later_wd (hr : Rounds R many s) (k : Nat) : wdAt R many (laterW wl s) (s + k) = wdAt R many wl k := by
  unfold wdAt
  rw [later_spk hr]
theorem early_wd {k : Nat} (hk : k < s) : wdAt R many (laterW wl s) k = .sil := by
  unfold wdAt
  rw [spk_early hk]
  rfl
theorem early_heard : ∀ k, k ≤ s → heardN R many (laterW wl s) k = 0
  | 0, _ => rfl
  | k + 1, h => by
    simp only [heardN]
    rw [early_heard k (by omega), early_wd (by omega)]
    rfl
theorem later_heard (hr : Rounds R many s) : ∀ k, heardN R many (laterW wl s) (s + k) = heardN R many wl k
  | 0 => early_heard s (Nat.le_refl _)
  | k + 1 => by
    show heardN R many (laterW wl s) (s + k) + (if wdAt R many (laterW wl s) (s + k) = .hrd then 1 else 0) = heardN R many wl k + (if wdAt R many wl k = .hrd then 1 else 0)
    rw [later_heard hr k, later_wd hr k]
theorem later_key (hr : Rounds R many s) (k : Nat) : keyAt R many (laterW wl s) (s + k) = keyAt R many wl k := by
  unfold keyAt
  congr 1
  refine List.map_congr_left fun j hj => ?_
  rw [later_sys hr k j (List.mem_range.mp hj)]
theorem lastW_of {m : Nat} (h1 : ∀ x ∈ wl, x.2 ≤ m) (h2 : ∃ x ∈ wl, x.2 = m) : lastW wl = m := by
  obtain ⟨_, a2, a3⟩ := lastW_fold wl 0
  have e : lastW wl = wl.foldl (fun m x => max m x.2) 0 := rfl
  rw [← e] at a2 a3
  obtain ⟨x, hx, ex⟩ := h2
  have b1 := a2 x hx
  rcases a3 with a3 | ⟨y, hy, ey⟩
  · omega
  · have := h1 y hy
    omega
theorem later_last (ne : wl ≠ []) : lastW (laterW wl s) = s + lastW wl := by
  obtain ⟨_, a2, a3⟩ := lastW_fold wl 0
  have e : lastW wl = wl.foldl (fun m x => max m x.2) 0 := rfl
  rw [← e] at a2 a3
  have hex : ∃ x ∈ wl, x.2 = lastW wl := by
    rcases a3 with a3 | h
    · cases wl with
      | nil => exact (ne rfl).elim
      | cons x wl =>
        have := a2 x List.mem_cons_self
        exact ⟨x, List.mem_cons_self, by omega⟩
    · exact h
  refine lastW_of (fun x hx => ?_) ?_
  · obtain ⟨y, hy, rfl⟩ := List.mem_map.mp hx
    have := a2 y hy
    show y.2 + s ≤ _
    omega
  · obtain ⟨y, hy, ey⟩ := hex
    exact ⟨(y.1, y.2 + s), List.mem_map.mpr ⟨y, hy, rfl⟩, by show y.2 + s = _; omega⟩
theorem later_again (hr : Rounds R many s) (ne : wl ≠ []) {k m : Nat} : Again R many (laterW wl s) (s + k) (s + m) ↔ Again R many wl k m := by
  unfold Again
  rw [later_last ne, later_key hr, later_key hr]
  constructor
  · rintro ⟨h1, h2, h3⟩
    exact ⟨by omega, by omega, h3⟩
  · rintro ⟨h1, h2, h3⟩
    exact ⟨by omega, by omega, h3⟩
theorem again_early (ne : wl ≠ []) {k m : Nat} (h : Again R many (laterW wl s) k m) : ∃ m', m = s + m' := by
  obtain ⟨h1, _, _⟩ := h
  rw [later_last ne] at h1
  exact ⟨m - s, by omega⟩
theorem later_stop (hr : Rounds R many s) (ne : wl ≠ []) {k : Nat} : Stop R many (laterW wl s) (s + k) ↔ Stop R many wl k := by
  unfold Stop
  have el : (laterW wl s).length = wl.length := List.length_map _
  rw [el, later_heard hr]
  constructor
  · rintro (h | ⟨m, h⟩)
    · exact .inl h
    · obtain ⟨m', rfl⟩ := again_early ne h
      exact .inr ⟨m', (later_again hr ne).mp h⟩
  · rintro (h | ⟨m, h⟩)
    · exact .inl h
    · exact .inr ⟨s + m, (later_again hr ne).mpr h⟩
theorem early_stop (ne : wl ≠ []) {k : Nat} (hk : k < s) : ¬ Stop R many (laterW wl s) k := by
  rintro (h | ⟨m, h⟩)
  · have el : (laterW wl s).length = wl.length := List.length_map _
    rw [el, early_heard k (by omega)] at h
    exact ne (List.eq_nil_of_length_eq_zero (by omega))
  · obtain ⟨m', rfl⟩ := again_early ne h
    have := h.2.1
    omega
theorem ends_later {n n' : Nat} (hr : Rounds R many s) (ne : wl ≠ []) (e : EndsAt R many wl n) (e' : EndsAt R many (laterW wl s) n') : n' = s + n := by
  have hs : s ≤ n' := by
    rcases Nat.lt_or_ge n' s with h | h
    · exact (early_stop ne h e'.stop).elim
    · exact h
  obtain ⟨k, rfl⟩ : ∃ k, n' = s + k := ⟨n' - s, by omega⟩
  have h1 := (later_stop hr ne).mp e'.stop
  have a1 : ¬ k < n := fun h => e.first k h h1
  have a2 : ¬ n < k := fun h => e'.first (s + n) (by omega) ((later_stop hr ne).mpr e.stop)
  omega
theorem again_one {n m m' : Nat} (e : EndsAt R many wl n) (h : Again R many wl n m) (h' : Again R many wl n m') : m = m' := by
  obtain ⟨a1, a2, a3⟩ := h
  obtain ⟨b1, b2, b3⟩ := h'
  rcases Nat.lt_trichotomy m m' with c | c | c
  · exact (e.first m' b2 (.inr ⟨m, a1, c, a3.trans b3.symm⟩)).elim
  · exact c
  · exact (e.first m a2 (.inr ⟨m', b1, c, b3.trans a3.symm⟩)).elim
theorem rows_later (hr : Rounds R many s) (n : Nat) : rowsTo R many (laterW wl s) (s + n) = List.replicate s ([], Wd.sil) ++ rowsTo R many wl n := by
  unfold rowsTo
  rw [List.range_add, List.map_append, List.map_map]
  congr 1
  · rw [List.eq_replicate_iff]
    refine ⟨by simp, fun x hx => ?_⟩
    obtain ⟨k, hk, rfl⟩ := List.mem_map.mp hx
    have hk := List.mem_range.mp hk
    unfold rowAt
    rw [spk_early hk, early_wd hk]
  · refine List.map_congr_left fun k _ => ?_
    show rowAt R many (laterW wl s) (s + k) = rowAt R many wl k
    unfold rowAt
    rw [later_spk hr, later_wd hr]
theorem heardAt_early (j : Nat) : ∀ k, k ≤ s → heardAt R many (laterW wl s) k j = none
  | 0, _ => rfl
  | k + 1, h => by
    simp only [heardAt]
    rw [spk_early (by omega), if_neg (by simp)]
    exact heardAt_early j k (by omega)
theorem heardAt_later (hr : Rounds R many s) (j : Nat) : ∀ k, heardAt R many (laterW wl s) (s + k) j = (heardAt R many wl k j).map (s + ·)
  | 0 => heardAt_early j s (Nat.le_refl _)
  | k + 1 => by
    show (if spkAt R many (laterW wl s) (s + k) = [j] then some (s + k) else heardAt R many (laterW wl s) (s + k) j) = _
    rw [later_spk hr, heardAt_later hr j k]
    show _ = (if spkAt R many wl k = [j] then some k else heardAt R many wl k j).map (s + ·)
    split <;> rfl
end
theorem ends_nil {R : RuleM} {many n : Nat} (e : EndsAt R many [] n) : n = 0 := by
  rcases Nat.eq_zero_or_pos n with h | h
  · exact h
  · exact (e.first 0 h (.inl (Nat.zero_le _))).elim
end OA

namespace OA
open PySem L2
/-! by turns -/
def dueT (many t j : Nat) : Nat := t + (j + many - t % many) % many
theorem dueT_ge (many t j : Nat) : t ≤ dueT many t j := Nat.le_add_right _ _
theorem dueT_lt {many : Nat} (t j : Nat) (h : 1 ≤ many) : dueT many t j < t + many := by
  have := Nat.mod_lt (j + many - t % many) (show many > 0 by omega)
  unfold dueT
  omega
theorem dueT_mod {many : Nat} (t : Nat) {j : Nat} (h : 1 ≤ many) (hj : j < many) : dueT many t j % many = j := by
  have h1 : t % many < many := Nat.mod_lt _ (by omega)
  have h2 := Nat.div_add_mod t many
  unfold dueT
  have : t + (j + many - t % many) % many = t + (j + many - t % many) % many := rfl
  rw [Nat.add_mod, Nat.mod_mod, ← Nat.add_mod]
  have e : t + (j + many - t % many) = j + many * (t / many + 1) := by
    rw [Nat.mul_add]
    omega
  rw [e, Nat.add_mul_mod_self_left, Nat.mod_eq_of_lt hj]
theorem dueT_first {many t j k : Nat} (h : 1 ≤ many) (hj : j < many) (hk : t ≤ k) (hm : k % many = j) : dueT many t j ≤ k := by
  rcases Nat.lt_or_ge k (dueT many t j) with z | z
  · have h1 := dueT_mod t h hj
    have h2 := dueT_lt t j h
    have h3 : (dueT many t j - k) % many = 0 := by
      have : dueT many t j % many = k % many := by rw [h1, hm]
      exact Nat.sub_mod_eq_zero_of_mod_eq this
    have h4 : dueT many t j - k < many := by omega
    rw [Nat.mod_eq_of_lt h4] at h3
    omega
  · exact z
def dueW (many : Nat) (wl : WL) (j : Nat) : Option Nat := (wl.lookup j).map fun t => dueT many t j
section
variable {many : Nat} {wl : WL} (h1 : 1 ≤ many) (h8 : many ≤ 8)
include h1 h8
/-- how station j stands ahead of moment k -/
theorem turns_at (k : Nat) : ∀ j, j < many → (sysF .turns many wl k j).way = .row (turnRow many j) (k % many) ∧ (sysF .turns many wl k j).over = (match dueW many wl j with | some d => decide (d < k) | none => false) := by
  induction k with
  | zero =>
    intro j hj
    refine ⟨by rw [Nat.zero_mod]; rfl, ?_⟩
    show false = _
    cases dueW many wl j <;> simp
  | succ k ih =>
    have spk : ∀ j, j < many → (asksF (awF wl k) (sysF .turns many wl k) j).spoke = decide (dueW many wl j = some k) := fun j hj => by
      obtain ⟨e1, e2⟩ := ih j hj
      show WayM.wants _ (sysF .turns many wl k j).way = _
      rw [e1, e2]
      show ((awF wl k j && !_) && ((turnRow many j).cps.toList.getD (k % many) 0 == 49)) = _
      rw [(turnRow_all many (by omega) j hj).2 _ (Nat.mod_lt _ (by omega))]
      unfold awF dueW
      cases q : wl.lookup j with
      | none => simp
      | some t =>
        simp only [Option.map_some, Option.some.injEq]
        rw [Bool.eq_iff_iff]
        simp only [Bool.and_eq_true, decide_eq_true_eq, Bool.not_eq_true', decide_eq_false_iff_not]
        constructor
        · rintro ⟨⟨a, b⟩, c⟩
          have := dueT_first h1 hj a c
          omega
        · rintro rfl
          exact ⟨⟨dueT_ge _ _ _, by omega⟩, dueT_mod t h1 hj⟩
    have spks : spkF (asksF (awF wl k) (sysF .turns many wl k)) many = if dueW many wl (k % many) = some k then [k % many] else [] := by
      unfold spkF
      have hm : k % many < many := Nat.mod_lt _ (by omega)
      have : (List.range many).filter (fun j => (asksF (awF wl k) (sysF .turns many wl k) j).spoke) = (List.range many).filter fun j => decide (j = k % many ∧ dueW many wl (k % many) = some k) := by
        refine List.filter_congr fun j hj => ?_
        have hj := List.mem_range.mp hj
        rw [spk j hj]
        refine decide_eq_decide.mpr ⟨fun h => ?_, fun ⟨a, b⟩ => by rw [a]; exact b⟩
        have : j = k % many := by
          unfold dueW at h
          cases q : wl.lookup j with
          | none => rw [q] at h; cases h
          | some t =>
            rw [q] at h
            cases h
            exact (dueT_mod t h1 hj).symm
        exact ⟨this, by rw [← this]; exact h⟩
      rw [this]
      by_cases z : dueW many wl (k % many) = some k
      · rw [if_pos z]
        simp only [z, and_true]
        have gen : ∀ n i, i < n → (List.range n).filter (fun j => decide (j = i)) = [i] := fun n i hi => by
          induction n with
          | zero => omega
          | succ n ihn =>
            rw [List.range_succ, List.filter_append]
            by_cases y : i = n
            · subst y
              have : (List.range i).filter (fun j => decide (j = i)) = [] := List.filter_eq_nil_iff.mpr fun a ha => by
                have := List.mem_range.mp ha
                simp; omega
              rw [this]; simp
            · rw [ihn (by omega)]
              simp; omega
        exact gen many _ hm
      · rw [if_neg z]
        simp [z]
    intro j hj
    obtain ⟨e1, e2⟩ := ih j hj
    constructor
    · show WayM.goes _ _ (WayM.asked _ (sysF .turns many wl k j).way) = _
      rw [e1]
      show WayM.row _ ((k % many + 1) % (turnRow many j).length) = _
      rw [(turnRow_all many (by omega) j hj).1, Nat.mod_add_mod]
    · show ((sysF .turns many wl k j).over || ((asksF (awF wl k) (sysF .turns many wl k) j).spoke && decide (nWd (spkF (asksF (awF wl k) (sysF .turns many wl k)) many).length = .hrd))) = _
      rw [e2, spk j hj, spks]
      cases q : dueW many wl j with
      | none => simp
      | some d =>
        have hd : d % many = j := by
          unfold dueW at q
          cases q' : wl.lookup j with
          | none => rw [q'] at q; cases q
          | some t =>
            rw [q'] at q
            cases q
            exact dueT_mod t h1 hj
        simp only [Option.some.injEq]
        by_cases z : d = k
        · subst z
          rw [hd, q]
          simp [nWd]
        · simp only [z, decide_false, Bool.false_and, Bool.or_false]
          refine decide_eq_decide.mpr ?_
          omega
theorem turns_spk (k : Nat) : spkAt .turns many wl k = if dueW many wl (k % many) = some k then [k % many] else [] := by
  have hm : k % many < many := Nat.mod_lt _ (by omega)
  unfold spkAt spkF
  have spk : ∀ j, j < many → (asksF (awF wl k) (sysF .turns many wl k) j).spoke = decide (dueW many wl j = some k) := fun j hj => by
    obtain ⟨e1, e2⟩ := turns_at (wl := wl) h1 h8 k j hj
    show WayM.wants _ (sysF .turns many wl k j).way = _
    rw [e1, e2]
    show ((awF wl k j && !_) && ((turnRow many j).cps.toList.getD (k % many) 0 == 49)) = _
    rw [(turnRow_all many (by omega) j hj).2 _ hm]
    unfold awF dueW
    cases q : wl.lookup j with
    | none => simp
    | some t =>
      simp only [Option.map_some, Option.some.injEq]
      rw [Bool.eq_iff_iff]
      simp only [Bool.and_eq_true, decide_eq_true_eq, Bool.not_eq_true', decide_eq_false_iff_not]
      constructor
      · rintro ⟨⟨a, b⟩, c⟩
        have := dueT_first h1 hj a c
        omega
      · rintro rfl
        exact ⟨⟨dueT_ge _ _ _, by omega⟩, dueT_mod t h1 hj⟩
  have : (List.range many).filter (fun j => (asksF (awF wl k) (sysF .turns many wl k) j).spoke) = (List.range many).filter fun j => decide (j = k % many ∧ dueW many wl (k % many) = some k) := by
    refine List.filter_congr fun j hj => ?_
    have hj := List.mem_range.mp hj
    rw [spk j hj]
    refine decide_eq_decide.mpr ⟨fun h => ?_, fun ⟨a, b⟩ => by rw [a]; exact b⟩
    have : j = k % many := by
      unfold dueW at h
      cases q : wl.lookup j with
      | none => rw [q] at h; cases h
      | some t =>
        rw [q] at h
        cases h
        exact (dueT_mod t h1 hj).symm
    exact ⟨this, by rw [← this]; exact h⟩
  rw [this]
  by_cases z : dueW many wl (k % many) = some k
  · rw [if_pos z]
    simp only [z, and_true]
    have gen : ∀ n i, i < n → (List.range n).filter (fun j => decide (j = i)) = [i] := fun n i hi => by
      induction n with
      | zero => omega
      | succ n ihn =>
        rw [List.range_succ, List.filter_append]
        by_cases y : i = n
        · subst y
          have : (List.range i).filter (fun j => decide (j = i)) = [] := List.filter_eq_nil_iff.mpr fun a ha => by
            have := List.mem_range.mp ha
            simp; omega
          rw [this]; simp
        · rw [ihn (by omega)]
          simp; omega
    exact gen many _ hm
  · rw [if_neg z]
    simp [z]
end
/-- when each is heard -/
def duesL (many : Nat) (wl : WL) : WL := wl.map fun x => (x.1, dueT many x.2 x.1)
def duesN (many : Nat) (wl : WL) : List Nat := wl.map fun x => dueT many x.2 x.1
theorem look_nd {wl : WL} (nd : (wl.map (·.1)).Nodup) {x : Nat × Nat} (h : x ∈ wl) : wl.lookup x.1 = some x.2 := by
  induction wl with
  | nil => simp at h
  | cons y wl ih =>
    rw [List.map_cons, List.nodup_cons] at nd
    rcases List.mem_cons.mp h with rfl | h
    · simp [List.lookup]
    · have : ¬ x.1 = y.1 := fun z => nd.1 (by rw [← z]; exact List.mem_map.mpr ⟨x, h, rfl⟩)
      have e : (x.1 == y.1) = false := by simp [this]
      simp only [List.lookup, e]
      exact ih nd.2 h
theorem look_some {wl : WL} {j t : Nat} (h : wl.lookup j = some t) : (j, t) ∈ wl := by
  induction wl with
  | nil => cases h
  | cons y wl ih =>
    simp only [List.lookup] at h
    split at h
    · rename_i e
      have : j = y.1 := by simpa using e
      cases h
      rw [this]
      exact List.mem_cons_self
    · exact List.mem_cons_of_mem _ (ih h)
section
variable {many : Nat} {wl : WL} (h1 : 1 ≤ many) (h8 : many ≤ 8) (ok : WOk many wl)
include h1 h8 ok
theorem due_iff (k : Nat) : dueW many wl (k % many) = some k ↔ k ∈ duesN many wl := by
  unfold dueW duesN
  constructor
  · intro h
    cases q : wl.lookup (k % many) with
    | none => rw [q] at h; cases h
    | some t =>
      rw [q] at h
      exact List.mem_map.mpr ⟨_, look_some q, Option.some.inj h⟩
  · intro h
    obtain ⟨x, hx, rfl⟩ := List.mem_map.mp h
    rw [dueT_mod x.2 h1 (ok.lt x hx).1, look_nd ok.nd hx]
    rfl
theorem dues_nd : (duesN many wl).Nodup := by
  have h : ((duesN many wl).map (· % many)).Nodup := by
    have e : (duesN many wl).map (· % many) = wl.map (·.1) := by
      unfold duesN
      rw [List.map_map]
      exact List.map_congr_left fun x hx => dueT_mod x.2 h1 (ok.lt x hx).1
    rw [e]
    exact ok.nd
  have gen : ∀ l : List Nat, (l.map (· % many)).Nodup → l.Nodup := fun l => by
    induction l with
    | nil => intro _; exact List.nodup_nil
    | cons a l ih =>
      intro h
      rw [List.map_cons, List.nodup_cons] at h
      exact List.nodup_cons.mpr ⟨fun z => h.1 (List.mem_map.mpr ⟨a, z, rfl⟩), ih h.2⟩
  exact gen _ h
theorem turns_wd (k : Nat) : wdAt .turns many wl k = if k ∈ duesN many wl then .hrd else .sil := by
  unfold wdAt
  rw [turns_spk h1 h8]
  by_cases z : k ∈ duesN many wl
  · rw [if_pos ((due_iff h1 h8 ok k).mpr z), if_pos z]
    rfl
  · rw [if_neg fun y => z ((due_iff h1 h8 ok k).mp y), if_neg z]
    rfl
theorem turns_heard (k : Nat) : heardN .turns many wl k = (duesN many wl).countP fun d => decide (d < k) := by
  induction k with
  | zero => simp [heardN]
  | succ k ih =>
    have split : ∀ ds : List Nat, ds.Nodup → ds.countP (fun d => decide (d < k + 1)) = ds.countP (fun d => decide (d < k)) + if k ∈ ds then 1 else 0 := fun ds => by
      induction ds with
      | nil => intro _; simp
      | cons d ds ihd =>
        intro nd
        obtain ⟨n1, n2⟩ := List.nodup_cons.mp nd
        rw [List.countP_cons, List.countP_cons, ihd n2]
        by_cases a : d = k
        · subst a
          simp [n1]
        · have b : ¬ k = d := fun z => a z.symm
          have c : (d < k + 1) = (d < k) := by
            rw [eq_iff_iff]; omega
          simp only [c, List.mem_cons, b, false_or]
          omega
    rw [split _ (dues_nd h1 h8 ok), ← ih]
    show heardN .turns many wl k + _ = _
    rw [turns_wd h1 h8 ok]
    by_cases z : k ∈ duesN many wl
    · rw [if_pos z, if_pos z]; simp
    · rw [if_neg z, if_neg z]; simp
/-- how long it takes -/
def turnsN (many : Nat) (wl : WL) : Nat := (duesN many wl).foldl (fun m d => max m (d + 1)) 0
omit h1 h8 ok in
theorem turnsN_spec : (∀ d ∈ duesN many wl, d < turnsN many wl) ∧ (turnsN many wl = 0 ∨ ∃ d ∈ duesN many wl, turnsN many wl = d + 1) := by
  unfold turnsN
  have gen : ∀ (ds : List Nat) (m : Nat), (∀ d ∈ ds, d < ds.foldl (fun m d => max m (d + 1)) m) ∧ m ≤ ds.foldl (fun m d => max m (d + 1)) m ∧ (ds.foldl (fun m d => max m (d + 1)) m = m ∨ ∃ d ∈ ds, ds.foldl (fun m d => max m (d + 1)) m = d + 1) := fun ds => by
    induction ds with
    | nil => intro m; simp
    | cons d ds ih =>
      intro m
      rw [List.foldl_cons]
      obtain ⟨a, b, c⟩ := ih (max m (d + 1))
      refine ⟨fun x hx => ?_, by omega, ?_⟩
      · rcases List.mem_cons.mp hx with rfl | hx
        · omega
        · exact a x hx
      · rcases c with c | ⟨x, hx, c⟩
        · rcases Nat.le_total m (d + 1) with z | z
          · exact .inr ⟨d, List.mem_cons_self, by rw [c]; omega⟩
          · exact .inl (by rw [c]; omega)
        · exact .inr ⟨x, List.mem_cons_of_mem _ hx, c⟩
  obtain ⟨a, b, c⟩ := gen (duesN many wl) 0
  exact ⟨a, c⟩
theorem turns_all (k : Nat) : wl.length ≤ heardN .turns many wl k ↔ turnsN many wl ≤ k := by
  have e : wl.length = (duesN many wl).length := by simp [duesN]
  rw [turns_heard h1 h8 ok, e]
  have hle := List.countP_le_length (p := fun d => decide (d < k)) (l := duesN many wl)
  obtain ⟨a, b⟩ := turnsN_spec (many := many) (wl := wl)
  constructor
  · intro h
    have : (duesN many wl).countP (fun d => decide (d < k)) = (duesN many wl).length := by omega
    rw [List.countP_eq_length] at this
    rcases b with b | ⟨d, hd, b⟩
    · omega
    · have := this d hd
      simp at this
      omega
  · intro h
    have : (duesN many wl).countP (fun d => decide (d < k)) = (duesN many wl).length := by
      rw [List.countP_eq_length]
      intro d hd
      have := a d hd
      simp; omega
    omega
theorem turns_ends : EndsAt .turns many wl (turnsN many wl) := by
  obtain ⟨a, b⟩ := turnsN_spec (many := many) (wl := wl)
  obtain ⟨_, lw, _⟩ := lastW_fold wl 0
  have lw : ∀ x ∈ wl, x.2 ≤ lastW wl := lw
  refine ⟨.inl ((turns_all h1 h8 ok _).mpr (Nat.le_refl _)), fun k hk s => ?_, ?_⟩
  · rcases s with s | ⟨m, h2, h3, h4⟩
    · have := (turns_all h1 h8 ok k).mp s
      omega
    · rcases b with b | ⟨d, hd, b⟩
      · omega
      · obtain ⟨x, hx, rfl⟩ := List.mem_map.mp hd
        have := dueT_lt x.2 x.1 h1
        have := lw x hx
        have hkm : k - m < many := by omega
        have e0 : (sysF .turns many wl m 0).key = (sysF .turns many wl k 0).key := by
          unfold keyAt at h4
          injection h4 with h4
          have := congrArg (fun l => l[0]?) h4
          simp only [List.getElem?_map, List.getElem?_range (show 0 < many by omega), Option.map_some, Option.some.injEq] at this
          exact this
        unfold StM.key at e0
        rw [(turns_at (wl := wl) h1 h8 m 0 (by omega)).1, (turns_at (wl := wl) h1 h8 k 0 (by omega)).1] at e0
        simp only [WayM.key, NestedKey.tup.injEq, List.cons.injEq, NestedKey.num.injEq] at e0
        have e1 : m % many = k % many := by omega
        have h5 : (k - m) % many = 0 := Nat.sub_mod_eq_zero_of_mod_eq e1.symm
        rw [Nat.mod_eq_of_lt hkm] at h5
        omega
  · rcases b with b | ⟨d, hd, b⟩
    · omega
    · obtain ⟨x, hx, rfl⟩ := List.mem_map.mp hd
      have := dueT_lt x.2 x.1 h1
      have := (ok.lt x hx).2
      omega
theorem turns_heardAt (n j : Nat) (hj : j < many) : heardAt .turns many wl n j = (match dueW many wl j with | some d => if d < n then some d else none | none => none) := by
  induction n with
  | zero => 
    show none = _
    cases dueW many wl j <;> simp
  | succ n ih =>
    show (if spkAt .turns many wl n = [j] then some n else heardAt .turns many wl n j) = _
    rw [turns_spk h1 h8, ih]
    have hd : ∀ d, dueW many wl j = some d → d % many = j := fun d q => by
      unfold dueW at q
      cases q' : wl.lookup j with
      | none => rw [q'] at q; cases q
      | some t =>
        rw [q'] at q
        cases q
        exact dueT_mod t h1 hj
    by_cases z : dueW many wl (n % many) = some n
    · rw [if_pos z]
      by_cases y : n % many = j
      · rw [y] at z
        rw [if_pos (by rw [y]), z]
        simp
      · rw [if_neg (by simpa using y)]
        cases q : dueW many wl j with
        | none => rfl
        | some d =>
          have : d ≠ n := fun w => y (by rw [← w]; exact hd d q)
          have : (d < n + 1) = (d < n) := by rw [eq_iff_iff]; omega
          simp only [this]
    · rw [if_neg z, if_neg (by simp)]
      cases q : dueW many wl j with
      | none => rfl
      | some d =>
        have : d ≠ n := fun w => z (by rw [← w, hd d q]; exact q)
        have : (d < n + 1) = (d < n) := by rw [eq_iff_iff]; omega
        simp only [this]
end
theorem look_F (F : Nat → Option Nat) : ∀ n j, ((List.range n).filterMap fun j => (F j).map fun k => (j, k)).lookup j = if j < n then F j else none
  | 0, j => by simp
  | n + 1, j => by
    rw [List.range_succ, List.filterMap_append, List.lookup_append, look_F F n j]
    by_cases z : j = n
    · subst z
      cases q : F j with
      | none => simp [q]
      | some k => simp [q, List.lookup]
    · have zb : (j == n) = false := by simp [z]
      have e : (j < n + 1) = (j < n) := by rw [eq_iff_iff]; omega
      cases q : F n with
      | none => simp [q, e]
      | some k => simp [q, e, List.lookup, zb]
theorem keys_F (F : Nat → Option Nat) : ∀ l : List Nat, (l.filterMap fun j => (F j).map fun k => (j, k)).map (·.1) = l.filter fun j => (F j).isSome
  | [] => rfl
  | j :: l => by
    rw [List.filterMap_cons, List.filter_cons]
    cases q : F j with
    | none => simpa [q] using keys_F F l
    | some k => simp [q, keys_F F l]
section
variable {many : Nat} {wl : WL} (h1 : 1 ≤ many) (h8 : many ≤ 8) (ok : WOk many wl)
include h1 h8 ok
theorem turns_dueW (j : Nat) (hj : j < many) : heardAt .turns many wl (turnsN many wl) j = dueW many wl j := by
  rw [turns_heardAt h1 h8 ok _ j hj]
  cases q : dueW many wl j with
  | none => rfl
  | some d =>
    have : d ∈ duesN many wl := by
      unfold dueW at q
      cases q' : wl.lookup j with
      | none => rw [q'] at q; cases q
      | some t =>
        rw [q'] at q
        cases q
        exact List.mem_map.mpr ⟨_, look_some q', rfl⟩
    simp only
    rw [if_pos ((turnsN_spec (many := many) (wl := wl)).1 d this)]
end
end OA

namespace OA
open PySem L2
/-! a tree, as groups from the top -/
abbrev Grp := List Nat × Nat
def lenD (many : Nat) : Nat := (digsN 2 many 0).length
def dgt (many j p : Nat) : Int := (digs 2 many j).getD p 0
theorem moreD_ln (b : Nat) : ∀ f g n m, (moreD b f g n).length = (moreD b f g m).length
  | 0, _, _, _ => rfl
  | f + 1, g, n, m => by
    unfold moreD
    by_cases z : g = 0
    · rw [if_pos z, if_pos z]
    · rw [if_neg z, if_neg z, List.length_cons, List.length_cons, moreD_ln b f _ (n / b) (m / b)]
theorem lenD_eq (many n : Nat) : (digs 2 many n).length = lenD many := by
  unfold digs lenD digsN
  rw [List.length_map, List.length_reverse, List.length_reverse, List.length_cons, List.length_cons, moreD_ln 2 3 _ n 0]
theorem moreD_lt : ∀ f g n, ∀ x ∈ moreD 2 f g n, x < 2
  | 0, _, _, x, h => by simp [moreD] at h
  | f + 1, g, n, x, h => by
    unfold moreD at h
    split at h
    · simp at h
    · rcases List.mem_cons.mp h with rfl | h
      · exact Nat.mod_lt _ (by decide)
      · exact moreD_lt f _ _ x h
theorem dgt_01 (many j p : Nat) : dgt many j p = 0 ∨ dgt many j p = 1 := by
  unfold dgt
  rw [List.getD_eq_getElem?_getD]
  cases q : (digs 2 many j)[p]? with
  | none => exact .inl rfl
  | some x =>
    have := List.mem_of_getElem? q
    unfold digs digsN at this
    obtain ⟨n, hn, rfl⟩ := List.mem_map.mp this
    rw [List.mem_reverse] at hn
    have h2 : n < 2 := by
      rcases List.mem_cons.mp hn with rfl | hn
      · exact Nat.mod_lt _ (by decide)
      · exact moreD_lt _ _ _ n hn
    show ((n : Int) = 0) ∨ ((n : Int) = 1)
    omega
def lvIx : List Grp → Nat → Option Int
  | [], _ => none
  | g :: r, j => if j ∈ g.1 then some 0 else (lvIx r j).map (· + 1)
theorem lvIx_nn : ∀ (gs : List Grp) (j : Nat) (i : Int), lvIx gs j = some i → 0 ≤ i
  | [], _, _, h => by cases h
  | g :: r, j, i, h => by
    unfold lvIx at h
    split at h
    · cases h; exact Int.le_refl _
    · cases q : lvIx r j with
      | none => rw [q] at h; cases h
      | some x =>
        rw [q] at h
        have := lvIx_nn r j x q
        have h' : x + 1 = i := Option.some.inj h
        omega
theorem lvIx_zero {g : Grp} {r : List Grp} {j : Nat} : (lvIx (g :: r) j == some 0) = decide (j ∈ g.1) := by
  unfold lvIx
  by_cases z : j ∈ g.1
  · rw [if_pos z, decide_eq_true z]; rfl
  · rw [if_neg z, decide_eq_false z]
    cases q : lvIx r j with
    | none => rfl
    | some x =>
      have := lvIx_nn r j x q
      show ((some (x + 1) : Option Int) == some 0) = false
      rw [beq_eq_false_iff_ne]
      intro h
      have := Option.some.inj h
      omega
theorem lvIx_none {gs : List Grp} {j : Nat} (h : ∀ g ∈ gs, j ∉ g.1) : lvIx gs j = none := by
  induction gs with
  | nil => rfl
  | cons g r ih =>
    unfold lvIx
    rw [if_neg (h g List.mem_cons_self), ih fun g' hg => h g' (List.mem_cons_of_mem _ hg)]
    rfl
def halves (many : Nat) (g : Grp) : List Grp := [(g.1.filter fun j => decide (dgt many j g.2 = 0), (g.2 + 1) % lenD many), (g.1.filter fun j => !decide (dgt many j g.2 = 0), (g.2 + 1) % lenD many)]
theorem lvIx_halves {many : Nat} {g : Grp} {r : List Grp} {j : Nat} : lvIx (halves many g ++ r) j = if j ∈ g.1 then some (dgt many j g.2) else (lvIx (g :: r) j).map (· + 1) := by
  show lvIx (_ :: _ :: r) j = _
  by_cases z : j ∈ g.1
  · rw [if_pos z]
    unfold lvIx
    rcases dgt_01 many j g.2 with d | d
    · rw [if_pos (List.mem_filter.mpr ⟨z, decide_eq_true d⟩), d]
    · rw [if_neg (fun h => by have := (List.mem_filter.mp h).2; simp [d] at this)]
      unfold lvIx
      rw [if_pos (List.mem_filter.mpr ⟨z, by simp [d]⟩), d]
      rfl
  · rw [if_neg z]
    unfold lvIx
    rw [if_neg (fun h => z (List.mem_filter.mp h).1), if_neg z]
    conv => lhs; unfold lvIx
    rw [if_neg (fun h => z (List.mem_filter.mp h).1)]
def stepG (many : Nat) (sk : Bool) (gs : List Grp) (skp : Bool) : List Grp × Bool := match gs with
  | [] => ([], false)
  | g :: r => if 2 ≤ g.1.length then (halves many g ++ r, sk) else if g.1.length = 0 ∧ skp = true then (match r with
    | g' :: r' => (halves many g' ++ r', true)
    | [] => ([], false)) else (r, false)
structure WfG (many : Nat) (gs : List Grp) (skp : Bool) : Prop where
  srt : ∀ g ∈ gs, g.1 = (List.range many).filter fun j => decide (j ∈ g.1)
  dis : gs.Pairwise fun g h => ∀ j ∈ g.1, j ∉ h.1
  deep : skp = true → 2 ≤ gs.length
theorem srt_filter {many : Nat} {S : List Nat} (h : S = (List.range many).filter fun j => decide (j ∈ S)) (q : Nat → Bool) : S.filter q = (List.range many).filter fun j => decide (j ∈ S.filter q) := by
  conv => lhs; rw [h]
  rw [List.filter_filter]
  refine List.filter_congr fun j _ => ?_
  rw [Bool.eq_iff_iff]
  simp only [Bool.and_eq_true, decide_eq_true_eq, List.mem_filter]
  exact ⟨fun ⟨a, b⟩ => ⟨b, a⟩, fun ⟨a, b⟩ => ⟨b, a⟩⟩
theorem wf_halves {many : Nat} {g : Grp} {r : List Grp} {skp b : Bool} (w : WfG many (g :: r) skp) : WfG many (halves many g ++ r) b := by
  have hd := List.pairwise_cons.mp w.dis
  refine ⟨fun x hx => ?_, ?_, fun _ => by simp [halves]⟩
  · rcases List.mem_cons.mp hx with rfl | hx
    · exact srt_filter (w.srt g List.mem_cons_self) _
    · rcases List.mem_cons.mp hx with rfl | hx
      · exact srt_filter (w.srt g List.mem_cons_self) _
      · exact w.srt x (List.mem_cons_of_mem _ hx)
  · refine List.pairwise_cons.mpr ⟨fun x hx j hj hx2 => ?_, List.pairwise_cons.mpr ⟨fun x hx j hj hx2 => hd.1 x hx j (List.mem_filter.mp hj).1 hx2, hd.2⟩⟩
    rcases List.mem_cons.mp hx with rfl | hx
    · have a := (List.mem_filter.mp hj).2
      have c := (List.mem_filter.mp hx2).2
      simp only [decide_eq_true_eq] at a
      simp [a] at c
    · exact hd.1 x hx j (List.mem_filter.mp hj).1 hx2
theorem wf_tail {many : Nat} {g : Grp} {r : List Grp} {skp : Bool} (w : WfG many (g :: r) skp) : WfG many r false := ⟨fun x hx => w.srt x (List.mem_cons_of_mem _ hx), (List.pairwise_cons.mp w.dis).2, fun h => by cases h⟩
theorem wf_step {many : Nat} {sk skp : Bool} {gs : List Grp} (w : WfG many gs skp) : WfG many (stepG many sk gs skp).1 (stepG many sk gs skp).2 := by
  unfold stepG
  cases gs with
  | nil => exact ⟨fun _ h => by simp at h, List.Pairwise.nil, fun h => by cases h⟩
  | cons g r =>
    simp only
    split
    · exact wf_halves w
    · split
      · cases r with
        | nil => exact ⟨fun _ h => by simp at h, List.Pairwise.nil, fun h => by cases h⟩
        | cons g' r' => exact wf_halves (wf_tail w)
      · exact wf_tail w
def Mem (gs : List Grp) (j : Nat) : Prop := ∃ g ∈ gs, j ∈ g.1
theorem mem_halves {many : Nat} {g : Grp} {r : List Grp} {j : Nat} (h : Mem (halves many g ++ r) j) : Mem (g :: r) j := by
  obtain ⟨x, hx, hj⟩ := h
  rcases List.mem_cons.mp hx with rfl | hx
  · exact ⟨g, List.mem_cons_self, (List.mem_filter.mp hj).1⟩
  · rcases List.mem_cons.mp hx with rfl | hx
    · exact ⟨g, List.mem_cons_self, (List.mem_filter.mp hj).1⟩
    · exact ⟨x, List.mem_cons_of_mem _ hx, hj⟩
theorem mem_step {many : Nat} {sk skp : Bool} {g : Grp} {r : List Grp} {j : Nat} (w : WfG many (g :: r) skp) (h : Mem (stepG many sk (g :: r) skp).1 j) : Mem (g :: r) j ∧ g.1 ≠ [j] := by
  unfold stepG at h
  simp only at h
  split at h
  · rename_i h2
    exact ⟨mem_halves h, fun z => by rw [z] at h2; simp at h2⟩
  · split at h
    · rename_i h2
      refine ⟨?_, fun z => by rw [z] at h2; simp at h2⟩
      cases r with
      | nil =>
        obtain ⟨x, hx, _⟩ := h
        simp at hx
      | cons g' r' =>
        obtain ⟨x, hx, hj⟩ := mem_halves h
        exact ⟨x, List.mem_cons_of_mem _ hx, hj⟩
    · obtain ⟨x, hx, hj⟩ := h
      refine ⟨⟨x, List.mem_cons_of_mem _ hx, hj⟩, fun z => ?_⟩
      exact (List.pairwise_cons.mp w.dis).1 x hx j (by rw [z]; simp) hj
section
variable {sk jn : Bool} {many : Nat} {wl : WL}
/-- how all stand ahead of a moment -/
def AbsAt (sk jn : Bool) (many : Nat) (wl : WL) (k : Nat) (gs : List Grp) (skp : Bool) (ov : Nat → Bool) : Prop :=
  ∀ j, j < many → (sysF (.tree sk jn) many wl k j).way = .tree sk jn (digs 2 many j) (lvIx gs j) (gs.map (·.2)) skp ∧ (sysF (.tree sk jn) many wl k j).over = ov j
/-- the same, once all are asked -/
def OpAt (sk jn : Bool) (many : Nat) (wl : WL) (k : Nat) (gs : List Grp) (skp : Bool) (ov : Nat → Bool) : Prop :=
  ∀ j, j < many → (asksF (awF wl k) (sysF (.tree sk jn) many wl k) j).way = .tree sk jn (digs 2 many j) (lvIx gs j) (gs.map (·.2)) skp ∧ (asksF (awF wl k) (sysF (.tree sk jn) many wl k) j).over = ov j ∧
    (asksF (awF wl k) (sysF (.tree sk jn) many wl k) j).spoke = ((awF wl k j && !ov j) && (lvIx gs j == some 0))
theorem abs_zero : AbsAt sk jn many wl 0 [] false (fun _ => false) := fun j hj => ⟨rfl, rfl⟩
theorem op_open {k : Nat} {ov : Nat → Bool} (a : AbsAt sk jn many wl k [] false ov) : OpAt sk jn many wl k [((List.range many).filter fun j => awF wl k j && !ov j, 0)] false ov := fun j hj => by
  obtain ⟨e1, e2⟩ := a j hj
  have c : comes jn (awF wl k j && !ov j) none [] = lvIx [((List.range many).filter fun j => awF wl k j && !ov j, 0)] j := by
    unfold comes lvIx
    have m : (j ∈ (List.range many).filter fun j => awF wl k j && !ov j) = ((awF wl k j && !ov j) = true) := by
      rw [eq_iff_iff, List.mem_filter, List.mem_range]
      exact ⟨fun h => h.2, fun h => ⟨hj, h⟩⟩
    simp only [m]
    cases (awF wl k j && !ov j) <;> simp [lvIx]
  refine ⟨?_, e2, ?_⟩
  · show WayM.asked (awF wl k j && !(sysF (.tree sk jn) many wl k j).over) (sysF (.tree sk jn) many wl k j).way = _
    rw [e1, e2]
    show WayM.tree _ _ _ (comes jn (awF wl k j && !ov j) none []) _ _ = _
    rw [c]
    rfl
  · show WayM.wants (awF wl k j && !(sysF (.tree sk jn) many wl k j).over) (sysF (.tree sk jn) many wl k j).way = _
    rw [e1, e2]
    show ((awF wl k j && !ov j) && comes jn (awF wl k j && !ov j) none [] == some 0) = _
    rw [c]
theorem op_go {k : Nat} {gs : List Grp} {skp : Bool} {ov : Nat → Bool} (a : AbsAt sk jn many wl k gs skp ov) (ne : gs ≠ []) (hn : ∀ j, j < many → (awF wl k j && !ov j) = true → lvIx gs j = none → jn = false) : OpAt sk jn many wl k gs skp ov := fun j hj => by
  obtain ⟨e1, e2⟩ := a j hj
  have c : comes jn (awF wl k j && !ov j) (lvIx gs j) (gs.map (·.2)) = lvIx gs j := by
    unfold comes
    rw [if_neg]
    rintro ⟨h1, h2, h3⟩
    rcases h3 with h3 | h3
    · have := hn j hj h1 h2
      rw [this] at h3
      cases h3
    · exact ne (List.map_eq_nil_iff.mp h3)
  have o : opened (gs.map (·.2)) = gs.map (·.2) := by
    unfold opened
    rw [if_neg fun h => ne (List.map_eq_nil_iff.mp h)]
  refine ⟨?_, e2, ?_⟩
  · show WayM.asked (awF wl k j && !(sysF (.tree sk jn) many wl k j).over) (sysF (.tree sk jn) many wl k j).way = _
    rw [e1, e2]
    show WayM.tree _ _ _ (comes jn (awF wl k j && !ov j) (lvIx gs j) (gs.map (·.2))) (opened (gs.map (·.2))) _ = _
    rw [c, o]
  · show WayM.wants (awF wl k j && !(sysF (.tree sk jn) many wl k j).over) (sysF (.tree sk jn) many wl k j).way = _
    rw [e1, e2]
    show ((awF wl k j && !ov j) && comes jn (awF wl k j && !ov j) (lvIx gs j) (gs.map (·.2)) == some 0) = _
    rw [c]
theorem map_pm (o : Option Int) : (o.map (· + 1)).map (· - 1) = o := by
  cases o with
  | none => rfl
  | some i => show some (i + 1 - 1) = some i; rw [Int.add_sub_cancel]
theorem op_spk {k : Nat} {g : Grp} {r : List Grp} {skp : Bool} {ov : Nat → Bool} (a : OpAt sk jn many wl k (g :: r) skp ov) (w : WfG many (g :: r) skp) (mem : ∀ j ∈ g.1, (awF wl k j && !ov j) = true) : spkAt (.tree sk jn) many wl k = g.1 := by
  unfold spkAt spkF
  conv => rhs; rw [w.srt g List.mem_cons_self]
  refine List.filter_congr fun j hj => ?_
  rw [(a j (List.mem_range.mp hj)).2.2, lvIx_zero]
  by_cases z : j ∈ g.1
  · rw [mem j z, decide_eq_true z]; rfl
  · rw [decide_eq_false z, Bool.and_false]
theorem abs_step {k : Nat} {g : Grp} {r : List Grp} {skp : Bool} {ov : Nat → Bool} (a : OpAt sk jn many wl k (g :: r) skp ov) (w : WfG many (g :: r) skp) (mem : ∀ j ∈ g.1, (awF wl k j && !ov j) = true) :
    AbsAt sk jn many wl (k + 1) (stepG many sk (g :: r) skp).1 (stepG many sk (g :: r) skp).2 (fun j => ov j || decide (g.1 = [j])) := fun j hj => by
  have hs := op_spk a w mem
  obtain ⟨e1, e2, e3⟩ := a j hj
  have sp : (asksF (awF wl k) (sysF (.tree sk jn) many wl k) j).spoke = decide (j ∈ g.1) := by
    rw [e3, lvIx_zero]
    by_cases z : j ∈ g.1
    · rw [mem j z, decide_eq_true z]; rfl
    · rw [decide_eq_false z, Bool.and_false]
  have hw : nWd (spkF (asksF (awF wl k) (sysF (.tree sk jn) many wl k)) many).length = nWd g.1.length := by
    unfold spkAt at hs
    rw [hs]
  have hwd : nWd g.1.length = .hrd ↔ g.1.length = 1 := by
    cases g.1.length with
    | zero => simp [nWd]
    | succ n => cases n <;> simp [nWd]
  constructor
  · show WayM.goes (asksF (awF wl k) (sysF (.tree sk jn) many wl k) j).spoke (nWd (spkF (asksF (awF wl k) (sysF (.tree sk jn) many wl k)) many).length) (asksF (awF wl k) (sysF (.tree sk jn) many wl k) j).way = _
    rw [hw, e1, sp]
    unfold stepG
    simp only
    by_cases h2 : 2 ≤ g.1.length
    · have hn : nWd g.1.length = .noi := by
        cases q : g.1.length with
        | zero => omega
        | succ n => cases n with
          | zero => omega
          | succ n => rfl
      rw [if_pos h2]
      simp only [WayM.goes, hn, if_true, lvIx_halves]
      unfold splitLv splitLs
      rw [lenD_eq]
      simp only [List.map_cons, List.headD_cons, List.tail_cons, halves, List.map_append, List.map_nil, List.cons_append, List.nil_append, decide_eq_true_eq]
      rfl
    · rw [if_neg h2]
      by_cases h0 : g.1.length = 0 ∧ skp = true
      · rw [if_pos h0]
        obtain ⟨h0, rfl⟩ := h0
        have g0 : g.1 = [] := List.eq_nil_of_length_eq_zero h0
        have hd := w.deep rfl
        cases r with
        | nil => simp at hd
        | cons g' r' =>
          have hl : dropLv (lvIx (g :: g' :: r') j) = lvIx (g' :: r') j := by
            conv => lhs; unfold lvIx
            rw [if_neg (by rw [g0]; simp)]
            exact map_pm _
          have hn : nWd g.1.length = .sil := by rw [h0]; rfl
          simp only [WayM.goes, hn, reduceCtorEq, if_false, and_self, if_true, hl, lvIx_halves, lvIx_zero]
          unfold splitLv splitLs
          rw [lenD_eq]
          simp only [List.map_cons, List.headD_cons, List.tail_cons, halves, List.map_append, List.map_nil, List.cons_append, List.nil_append, decide_eq_true_eq]
          rfl
      · rw [if_neg h0]
        have hn : nWd g.1.length ≠ .noi := by
          cases q : g.1.length with
          | zero => simp [nWd]
          | succ n => cases n with
            | zero => simp [nWd]
            | succ n => omega
        have hsil : ¬ (nWd g.1.length = .sil ∧ skp = true) := by
          rintro ⟨x, y⟩
          refine h0 ⟨?_, y⟩
          cases q : g.1.length with
          | zero => rfl
          | succ n => rw [q] at x; cases n <;> simp [nWd] at x
        simp only [WayM.goes, if_neg hn, if_neg hsil, List.map_cons, List.tail_cons, decide_eq_true_eq]
        congr 1
        by_cases z : j ∈ g.1
        · rw [if_pos z, lvIx_none fun g' hg => (List.pairwise_cons.mp w.dis).1 g' hg j z]
          rfl
        · rw [if_neg z]
          conv => lhs; unfold lvIx
          rw [if_neg z]
          exact map_pm _
  · show ((asksF (awF wl k) (sysF (.tree sk jn) many wl k) j).over || ((asksF (awF wl k) (sysF (.tree sk jn) many wl k) j).spoke && decide (nWd (spkF (asksF (awF wl k) (sysF (.tree sk jn) many wl k)) many).length = .hrd))) = _
    rw [hw, e2, sp]
    congr 1
    rw [Bool.eq_iff_iff]
    simp only [Bool.and_eq_true, decide_eq_true_eq, hwd]
    constructor
    · rintro ⟨x, y⟩
      obtain ⟨b, hb⟩ := List.length_eq_one_iff.mp y
      rw [hb] at x ⊢
      rw [List.mem_singleton.mp x]
    · intro h
      rw [h]
      simp
end
end OA

namespace OA
open PySem L2
/-! a tree's run, from its opening to its end -/
def oneD (g : Grp) (t : Nat) (due : WL) : WL := match g.1 with
  | [a] => due ++ [(a, t)]
  | _ => due
def runL (many : Nat) (sk : Bool) : Nat → List Grp → Bool → Nat → WL → Option (Nat × WL)
  | 0, _, _, _, _ => none
  | _ + 1, [], _, t, due => some (t, due)
  | f + 1, g :: r, skp, t, due => runL many sk f (stepG many sk (g :: r) skp).1 (stepG many sk (g :: r) skp).2 (t + 1) (oneD g t due)
def treeL (many : Nat) (sk : Bool) (S : List Nat) : Nat × WL := (runL many sk 40 [(S, 0)] false 0 []).getD (0, [])
theorem mem_lv {gs : List Grp} {j : Nat} (h : Mem gs j) : lvIx gs j ≠ none := by
  induction gs with
  | nil => obtain ⟨g, hg, _⟩ := h; simp at hg
  | cons g r ih =>
    unfold lvIx
    by_cases z : j ∈ g.1
    · rw [if_pos z]; simp
    · rw [if_neg z]
      obtain ⟨x, hx, hj⟩ := h
      rcases List.mem_cons.mp hx with rfl | hx
      · exact absurd hj z
      · cases q : lvIx r j with
        | none => exact absurd q (ih ⟨x, hx, hj⟩)
        | some i => simp
theorem halves_mem {many : Nat} {g : Grp} {r : List Grp} {j : Nat} (h : Mem (g :: r) j) : Mem (halves many g ++ r) j := by
  obtain ⟨x, hx, hj⟩ := h
  rcases List.mem_cons.mp hx with rfl | hx
  · by_cases d : dgt many j x.2 = 0
    · exact ⟨_, List.mem_cons_self, List.mem_filter.mpr ⟨hj, decide_eq_true d⟩⟩
    · exact ⟨_, List.mem_cons_of_mem _ List.mem_cons_self, List.mem_filter.mpr ⟨hj, by simp [d]⟩⟩
  · exact ⟨x, List.mem_cons_of_mem _ (List.mem_cons_of_mem _ hx), hj⟩
theorem step_mem {many : Nat} {sk skp : Bool} {g : Grp} {r : List Grp} {j : Nat} (w : WfG many (g :: r) skp) (h : Mem (g :: r) j) : Mem (stepG many sk (g :: r) skp).1 j ∨ g.1 = [j] := by
  unfold stepG
  simp only
  by_cases h2 : 2 ≤ g.1.length
  · rw [if_pos h2]
    exact .inl (halves_mem h)
  · rw [if_neg h2]
    obtain ⟨x, hx, hj⟩ := h
    by_cases h0 : g.1.length = 0 ∧ skp = true
    · rw [if_pos h0]
      have g0 : g.1 = [] := List.eq_nil_of_length_eq_zero h0.1
      rcases List.mem_cons.mp hx with rfl | hx
      · rw [g0] at hj; simp at hj
      · cases r with
        | nil => simp at hx
        | cons g' r' => exact .inl (halves_mem ⟨x, hx, hj⟩)
    · rw [if_neg h0]
      rcases List.mem_cons.mp hx with rfl | hx
      · right
        cases q : x.1 with
        | nil => rw [q] at hj; simp at hj
        | cons a l =>
          rw [q] at hj h2
          have : l = [] := by
            cases l with
            | nil => rfl
            | cons b l => simp at h2
          rw [this] at hj ⊢
          rw [List.mem_singleton.mp hj]
      · exact .inl ⟨x, hx, hj⟩
theorem step_end {many : Nat} {sk skp : Bool} {gs : List Grp} (h : (stepG many sk gs skp).1 = []) : (stepG many sk gs skp).2 = false := by
  unfold stepG at h ⊢
  cases gs with
  | nil => rfl
  | cons g r =>
    simp only at h ⊢
    split
    · rename_i h2
      rw [if_pos h2] at h
      simp [halves] at h
    · rename_i h2
      rw [if_neg h2] at h
      split
      · rename_i h0
        rw [if_pos h0] at h
        cases r with
        | nil => rfl
        | cons g' r' => simp [halves] at h
      · rfl
theorem lk_app {l : WL} {a t j : Nat} : (l ++ [(a, t)]).lookup j = (l.lookup j).or (if j = a then some t else none) := by
  rw [List.lookup_append]
  congr 1
  unfold List.lookup
  by_cases z : j = a
  · simp [z]
  · have : (j == a) = false := by simp [z]
    rw [this, if_neg z]
    rfl
theorem oneD_lk {g : Grp} {t : Nat} {due : WL} {j : Nat} : (oneD g t due).lookup j = (due.lookup j).or (if g.1 = [j] then some t else none) := by
  unfold oneD
  split
  · rename_i a e
    rw [lk_app, e]
    congr 1
    by_cases z : j = a
    · simp [z]
    · rw [if_neg z, if_neg]
      intro h
      exact z (List.cons.inj h).1.symm
  · rename_i ne
    rw [if_neg (ne j)]
    cases due.lookup j <;> rfl
theorem aw_mono {wl : WL} {k j : Nat} (h : awF wl k j = true) : awF wl (k + 1) j = true := by
  unfold awF at h ⊢
  cases q : wl.lookup j with
  | none => rw [q] at h; cases h
  | some t =>
    rw [q] at h
    simp only [decide_eq_true_eq] at h ⊢
    omega
section
variable {sk jn : Bool} {many : Nat} {wl : WL} {k0 N : Nat} {D : WL} {ov0 : Nat → Bool} {h0 : Nat → Option Nat}
theorem run_tree : ∀ (f t : Nat) (gs : List Grp) (skp : Bool) (due : WL) (ov : Nat → Bool), runL many sk f gs skp t due = some (N, D) → WfG many gs skp → (∀ j, Mem gs j → j < many ∧ awF wl (k0 + t) j = true ∧ ov j = false) →
    (gs ≠ [] → OpAt sk jn many wl (k0 + t) gs skp ov) → (gs = [] → AbsAt sk jn many wl (k0 + t) [] false ov) →
    (jn = false ∨ ∀ k j, k0 + t ≤ k → j < many → awF wl k j = true → Mem gs j ∨ ov j = true) →
    (∀ j, j < many → heardAt (.tree sk jn) many wl (k0 + t) j = ((due.lookup j).map (k0 + ·)).or (h0 j)) → (∀ j, j < many → ov j = (ov0 j || (due.lookup j).isSome)) →
    AbsAt sk jn many wl (k0 + N) [] false (fun j => ov0 j || (D.lookup j).isSome) ∧ (∀ j, j < many → heardAt (.tree sk jn) many wl (k0 + N) j = ((D.lookup j).map (k0 + ·)).or (h0 j))
  | 0, _, _, _, _, _, e, _, _, _, _, _, _, _ => by cases e
  | f + 1, t, [], skp, due, ov, e, w, mem, op, ab, hj, hh, ho => by
    unfold runL at e
    obtain ⟨rfl, rfl⟩ : t = N ∧ due = D := by
      have := Option.some.inj e
      exact ⟨congrArg Prod.fst this, congrArg Prod.snd this⟩
    refine ⟨fun j hj' => ?_, hh⟩
    have := ab rfl j hj'
    rw [ho j hj'] at this
    exact this
  | f + 1, t, g :: r, skp, due, ov, e, w, mem, op, ab, hj, hh, ho => by
    unfold runL at e
    have o := op (by simp)
    have mg : ∀ j ∈ g.1, (awF wl (k0 + t) j && !ov j) = true := fun j hjg => by
      obtain ⟨_, a, b⟩ := mem j ⟨g, List.mem_cons_self, hjg⟩
      rw [a, b]
      rfl
    have st := abs_step o w mg
    have sp := op_spk o w mg
    have wf := wf_step (sk := sk) w
    have e1 : k0 + t + 1 = k0 + (t + 1) := by omega
    rw [e1] at st
    have mem' : ∀ j, Mem (stepG many sk (g :: r) skp).1 j → j < many ∧ awF wl (k0 + (t + 1)) j = true ∧ (ov j || decide (g.1 = [j])) = false := fun j hm => by
      obtain ⟨a, b⟩ := mem_step w hm
      obtain ⟨c1, c2, c3⟩ := mem j a
      refine ⟨c1, by rw [← e1]; exact aw_mono c2, ?_⟩
      rw [c3, decide_eq_false b]
      rfl
    have hj' : jn = false ∨ ∀ k j, k0 + (t + 1) ≤ k → j < many → awF wl k j = true → Mem (stepG many sk (g :: r) skp).1 j ∨ (ov j || decide (g.1 = [j])) = true := by
      rcases hj with h | h
      · exact .inl h
      · refine .inr fun k j hk hjm ha => ?_
        rcases h k j (by omega) hjm ha with h | h
        · rcases step_mem (sk := sk) w h with h | h
          · exact .inl h
          · right
            rw [decide_eq_true h, Bool.or_true]
        · right
          rw [h, Bool.true_or]
    have ov_g : ∀ j, j < many → g.1 = [j] → due.lookup j = none := fun j hjm hg => by
      have := (mem j ⟨g, List.mem_cons_self, by rw [hg]; simp⟩).2.2
      rw [ho j hjm, Bool.or_eq_false_iff] at this
      cases q : due.lookup j with
      | none => rfl
      | some x => rw [q] at this; simp at this
    refine run_tree f (t + 1) _ _ _ (fun j => ov j || decide (g.1 = [j])) e wf mem' (fun ne => op_go st ne fun j hjm ha hl => ?_) (fun hz => ?_) hj' (fun j hjm => ?_) fun j hjm => ?_
    · rcases hj' with h | h
      · exact h
      · simp only [Bool.and_eq_true, Bool.not_eq_true'] at ha
        rcases h _ j (Nat.le_refl _) hjm ha.1 with h | h
        · exact absurd hl (mem_lv h)
        · rw [h] at ha
          cases ha.2
    · have := st
      rw [hz, step_end hz] at this
      exact this
    · rw [← e1]
      show (if spkAt (.tree sk jn) many wl (k0 + t) = [j] then some (k0 + t) else heardAt (.tree sk jn) many wl (k0 + t) j) = _
      rw [sp, hh j hjm, oneD_lk]
      by_cases z : g.1 = [j]
      · rw [if_pos z, if_pos z, ov_g j hjm z]
        rfl
      · rw [if_neg z, if_neg z]
        cases due.lookup j <;> rfl
    · show (ov j || decide (g.1 = [j])) = _
      rw [ho j hjm, oneD_lk]
      by_cases z : g.1 = [j]
      · rw [if_pos z, decide_eq_true z]
        cases due.lookup j <;> simp
      · rw [if_neg z, decide_eq_false z]
        cases due.lookup j <;> simp
end
/-! a law's own tree -/
abbrev LG := List Nat × Nat × Bool
def putWL (fo : WL) (a t : Nat) : WL := if fo.any (fun x => decide (x.1 = a)) = true then fo.map fun x => if x.1 = a then (a, t) else x else fo ++ [(a, t)]
def oneP (S : List Nat) (t : Nat) (fo : WL) : WL := match S with
  | [a] => putWL fo a t
  | _ => fo
def lawS (many : Nat) (sk : Bool) (st : List LG × Nat × WL) : List LG × Nat × WL := match st with
  | ([], m, fo) => ([], m, fo)
  | ((S, b, q) :: r, m, fo) =>
    let m' := if q = true then m else m + 1
    (if 2 ≤ S.length then (S.filter fun j => decide (dgt many j (b % lenD many) = 0), b + 1, false) :: (S.filter fun j => !decide (dgt many j (b % lenD many) = 0), b + 1, sk && decide ((S.filter fun j => decide (dgt many j (b % lenD many) = 0)) = [])) :: r else r, m', oneP S (m' - 1) fo)
def lawI (many : Nat) (sk : Bool) : Nat → List LG × Nat × WL → List LG × Nat × WL
  | 0, st => st
  | t + 1, st => lawI many sk t (lawS many sk st)
def subs : Nat → List (List Nat)
  | 0 => [[]]
  | n + 1 => subs n ++ (subs n).map (· ++ [n])
theorem mem_subs (q : Nat → Bool) : ∀ n, (List.range n).filter q ∈ subs n
  | 0 => by simp [subs]
  | n + 1 => by
    unfold subs
    rw [List.range_succ, List.filter_append]
    have ih := mem_subs q n
    cases z : q n with
    | true =>
      refine List.mem_append_right _ (List.mem_map.mpr ⟨_, ih, ?_⟩)
      simp [z]
    | false =>
      refine List.mem_append_left _ ?_
      simpa [z] using ih
def risesB : List Nat → Bool
  | [] => true
  | [_] => true
  | a :: b :: r => decide (a < b) && risesB (b :: r)
def chkT (many : Nat) (sk : Bool) (S : List Nat) : Bool :=
  let x := treeL many sk S
  (runL many sk 40 [(S, 0)] false 0 []).isSome && decide (lawI many sk 40 ([(S, 0, false)], 0, []) = ([], x.1, x.2)) && decide (x.2.map (·.1) = S) && risesB (x.2.map (·.2)) && decide (x.1 ≤ 20) && decide (1 ≤ x.1) && x.2.all fun y => decide (y.2 < x.1)
def lastD (l : WL) : Nat := l.foldl (fun _ x => x.2) 0
theorem chk_all : (List.range 9).all (fun many => (subs many).all fun S => chkT many true S && chkT many false S && decide (lastD (treeL many true S).2 ≤ lastD (treeL many false S).2)) = true := by decide +kernel
structure TreeOk (many : Nat) (sk : Bool) (S : List Nat) : Prop where
  run : runL many sk 40 [(S, 0)] false 0 [] = some (treeL many sk S)
  law : lawI many sk 40 ([(S, 0, false)], 0, []) = ([], (treeL many sk S).1, (treeL many sk S).2)
  keys : (treeL many sk S).2.map (·.1) = S
  rise : risesB ((treeL many sk S).2.map (·.2)) = true
  le : (treeL many sk S).1 ≤ 20
  ge : 1 ≤ (treeL many sk S).1
  lt : ∀ y ∈ (treeL many sk S).2, y.2 < (treeL many sk S).1
theorem tree_ok {many : Nat} (h : many ≤ 8) (sk : Bool) {S : List Nat} (hS : S ∈ subs many) : TreeOk many sk S := by
  have a := List.all_eq_true.mp chk_all many (List.mem_range.mpr (by omega))
  have b := List.all_eq_true.mp a S hS
  simp only [Bool.and_eq_true] at b
  have c : chkT many sk S = true := by cases sk; exact b.1.2; exact b.1.1
  unfold chkT at c
  simp only [Bool.and_eq_true, decide_eq_true_eq, List.all_eq_true] at c
  obtain ⟨⟨⟨⟨⟨⟨c1, c2⟩, c3⟩, c4⟩, c5⟩, c6⟩, c7⟩ := c
  refine ⟨?_, c2, c3, c4, c5, c6, c7⟩
  unfold treeL
  cases q : runL many sk 40 [(S, 0)] false 0 [] with
  | none => rw [q] at c1; cases c1
  | some x => rfl
theorem tree_skips {many : Nat} (h : many ≤ 8) {S : List Nat} (hS : S ∈ subs many) : lastD (treeL many true S).2 ≤ lastD (treeL many false S).2 := by
  have a := List.all_eq_true.mp chk_all many (List.mem_range.mpr (by omega))
  have b := List.all_eq_true.mp a S hS
  simp only [Bool.and_eq_true, decide_eq_true_eq] at b
  exact b.2
/-- one tree of those that are awake and unheard when it opens -/
theorem one_tree {sk jn : Bool} {many : Nat} {wl : WL} {k0 : Nat} {ov : Nat → Bool} (h8 : many ≤ 8) (ab : AbsAt sk jn many wl k0 [] false ov) (hj : jn = false ∨ ∀ k j, k0 ≤ k → j < many → awF wl k j = true → awF wl k0 j = true) :
    let S := (List.range many).filter fun j => awF wl k0 j && !ov j
    AbsAt sk jn many wl (k0 + (treeL many sk S).1) [] false (fun j => ov j || ((treeL many sk S).2.lookup j).isSome) ∧
      (∀ j, j < many → heardAt (.tree sk jn) many wl (k0 + (treeL many sk S).1) j = (((treeL many sk S).2.lookup j).map (k0 + ·)).or (heardAt (.tree sk jn) many wl k0 j)) := by
  intro S
  have hS : S ∈ subs many := mem_subs _ _
  have ok := tree_ok h8 sk hS
  have mS : ∀ j, j ∈ S ↔ j < many ∧ awF wl k0 j = true ∧ ov j = false := fun j => by
    show j ∈ (List.range many).filter _ ↔ _
    rw [List.mem_filter, List.mem_range]
    simp
  have mm : ∀ j, Mem [(S, 0)] j ↔ j ∈ S := fun j => ⟨fun ⟨g, hg, hj⟩ => by
    rw [List.mem_singleton.mp hg] at hj
    exact hj, fun h => ⟨(S, 0), by simp, h⟩⟩
  refine run_tree (ov0 := ov) (h0 := heardAt (.tree sk jn) many wl k0) 40 0 [(S, 0)] false [] ov ok.run ⟨fun g hg => ?_, by simp, fun h => by cases h⟩ (fun j hm => (mS j).mp ((mm j).mp hm)) (fun _ => op_open ab) (fun h => by cases h) ?_ (fun j _ => rfl) fun j _ => by simp
  · rw [List.mem_singleton.mp hg]
    exact List.filter_congr fun j hj => by
      rw [Bool.eq_iff_iff]
      simp only [decide_eq_true_eq, mS, Bool.and_eq_true, Bool.not_eq_true']
      exact ⟨fun h => ⟨List.mem_range.mp hj, h.1, h.2⟩, fun h => ⟨h.2.1, h.2.2⟩⟩
  · rcases hj with h | h
    · exact .inl h
    · refine .inr fun k j hk hjm ha => ?_
      have := h k j (by omega) hjm ha
      cases q : ov j with
      | true => exact .inr rfl
      | false => exact .inl ((mm j).mpr ((mS j).mpr ⟨hjm, this, q⟩))
end OA

namespace OA
open PySem L2
/-! runs by rows and by waiting end -/
section
variable {R : RuleM} {many : Nat} {wl : WL}
/-- with no one heard in T moments all stand as they stood -/
def Per (R : RuleM) (many : Nat) (wl : WL) (T : Nat) : Prop := ∀ m, lastW wl ≤ m → heardN R many wl m = heardN R many wl (m + T) → keyAt R many wl m = keyAt R many wl (m + T)
theorem wl_few {many : Nat} (nd : (wl.map (·.1)).Nodup) (lt : ∀ x ∈ wl, x.1 < many) : wl.length ≤ many := by
  have : (wl.map (·.1)).length ≤ (List.range many).length := nd.length_le_of_subset fun z hz => by
    obtain ⟨x, hx, rfl⟩ := List.mem_map.mp hz
    exact List.mem_range.mpr (lt x hx)
  rwa [List.length_range, List.length_map] at this
theorem per_stop {T : Nat} (hT : 1 ≤ T) (p : Per R many wl T) : ∀ i, (∃ k, k ≤ lastW wl + i * T ∧ Stop R many wl k) ∨ i ≤ heardN R many wl (lastW wl + i * T)
  | 0 => .inr (Nat.zero_le _)
  | i + 1 => by
    rcases per_stop hT p i with ⟨k, h1, h2⟩ | h
    · exact .inl ⟨k, by rw [Nat.succ_mul]; omega, h2⟩
    · have e : lastW wl + (i + 1) * T = lastW wl + i * T + T := by rw [Nat.succ_mul]; omega
      by_cases z : heardN R many wl (lastW wl + i * T) = heardN R many wl (lastW wl + i * T + T)
      · exact .inl ⟨lastW wl + i * T + T, by omega, .inr ⟨lastW wl + i * T, by omega, by omega, p _ (by omega) z⟩⟩
      · have := heard_mono (R := R) (many := many) (wl := wl) (m := lastW wl + i * T) (k := lastW wl + i * T + T) (by omega)
        rw [e]
        exact .inr (by omega)
theorem ends_of_stop {k : Nat} (h : Stop R many wl k) (h9 : k ≤ 900) : ∃ n, EndsAt R many wl n := by
  obtain ⟨n, h1, h2, h3⟩ := least_of (p := fun k => Stop R many wl k) (fun k => Classical.em _) k h
  exact ⟨n, h2, h3, by omega⟩
theorem lastW_le {m : Nat} (h : ∀ x ∈ wl, x.2 ≤ m) : lastW wl ≤ m := by
  obtain ⟨_, h2, h3⟩ := lastW_fold wl 0
  have e : lastW wl = wl.foldl (fun m x => max m x.2) 0 := rfl
  rw [← e] at h3
  rcases h3 with h3 | ⟨x, hx, h3⟩
  · omega
  · have := h x hx
    omega
theorem per_ends {T : Nat} (hT : 1 ≤ T) (h60 : T ≤ 60) (p : Per R many wl T) (h8 : many ≤ 8) (ok : WOk many wl) : ∃ n, EndsAt R many wl n := by
  have l40 := lastW_le (wl := wl) (m := 40) fun x hx => (ok.lt x hx).2
  have few := wl_few ok.nd fun x hx => (ok.lt x hx).1
  rcases per_stop hT p 8 with ⟨k, h1, h2⟩ | h
  · exact ends_of_stop h2 (by omega)
  · exact ends_of_stop (k := lastW wl + 8 * T) (.inl (by omega)) (by omega)
/-! rows, turns -/
theorem row_way {r : Str} {j : Nat} (h : wayM R many j = .row r 0) : ∀ k, (sysF R many wl k j).way = .row r (k % r.length)
  | 0 => by
    show wayM R many j = _
    rw [h, Nat.zero_mod]
  | k + 1 => by
    show WayM.goes _ _ (WayM.asked _ (sysF R many wl k j).way) = _
    rw [row_way h k]
    show WayM.row r ((k % r.length + 1) % r.length) = _
    rw [Nat.mod_add_mod]
/-- the same are over -/
theorem over_mono {j : Nat} : ∀ {m k : Nat}, m ≤ k → (sysF R many wl m j).over = true → (sysF R many wl k j).over = true := fun {m k} h => by
  induction k with
  | zero => intro h2; rw [show m = 0 by omega] at h2; exact h2
  | succ k ih =>
    intro h2
    rcases Nat.lt_or_ge m (k + 1) with z | z
    · show ((sysF R many wl k j).over || _) = true
      rw [ih (by omega) h2]
      rfl
    · rw [show k + 1 = m by omega]
      exact h2
theorem over_same {m k : Nat} (h : m ≤ k) (e : heardN R many wl m = heardN R many wl k) : ∀ j, j < many → (sysF R many wl m j).over = (sysF R many wl k j).over := by
  rw [overs, overs] at e
  have gen : ∀ l : List Nat, (l.filter fun j => (sysF R many wl m j).over).length ≤ (l.filter fun j => (sysF R many wl k j).over).length ∧ ((l.filter fun j => (sysF R many wl m j).over).length = (l.filter fun j => (sysF R many wl k j).over).length → ∀ j ∈ l, (sysF R many wl m j).over = (sysF R many wl k j).over) := fun l => by
    induction l with
    | nil => exact ⟨Nat.le_refl _, fun _ j hj => by simp at hj⟩
    | cons x l ih =>
      have mo := over_mono (R := R) (many := many) (wl := wl) (j := x) h
      rw [List.filter_cons, List.filter_cons]
      cases a : (sysF R many wl m x).over with
      | true =>
        rw [mo a]
        simp only [if_true, List.length_cons]
        refine ⟨by omega, fun e j hj => ?_⟩
        rcases List.mem_cons.mp hj with rfl | hj
        · rw [a, mo a]
        · exact ih.2 (by omega) j hj
      | false =>
        cases b : (sysF R many wl k x).over with
        | true =>
          simp only [Bool.false_eq_true, if_false, if_true, List.length_cons]
          refine ⟨by omega, fun e => by omega⟩
        | false =>
          simp only [Bool.false_eq_true, if_false]
          refine ⟨ih.1, fun e j hj => ?_⟩
          rcases List.mem_cons.mp hj with rfl | hj
          · rw [a, b]
          · exact ih.2 e j hj
  exact fun j hj => (gen (List.range many)).2 e j (List.mem_range.mpr hj)
theorem key_of {m k : Nat} (h : ∀ j, j < many → (sysF R many wl m j).way = (sysF R many wl k j).way ∧ (sysF R many wl m j).over = (sysF R many wl k j).over) : keyAt R many wl m = keyAt R many wl k := by
  unfold keyAt
  congr 1
  refine List.map_congr_left fun j hj => ?_
  obtain ⟨a, b⟩ := h j (List.mem_range.mp hj)
  unfold StM.key
  rw [a, b]
theorem per_rows {n : Nat} (h : ∀ j, j < many → ∃ r : Str, wayM R many j = .row r 0 ∧ r.length = n) : Per R many wl n := fun m _ he =>
  key_of fun j hj => by
    obtain ⟨r, hr, hn⟩ := h j hj
    refine ⟨?_, over_same (Nat.le_add_right _ _) he j hj⟩
    rw [row_way hr, row_way hr, hn, Nat.add_mod_right]
/-! waits -/
def wStep (ds : List Int) (x : Nat × Int) : Nat × Int := if x.2 = 0 then ((x.1 + 1) % ds.length, ds.getD x.1 0) else (x.1, x.2 - 1)
def wIter (ds : List Int) : Nat → Nat × Int → Nat × Int
  | 0, x => x
  | n + 1, x => wStep ds (wIter ds n x)
theorem wIter_add (ds : List Int) (m : Nat) (x : Nat × Int) : ∀ n, wIter ds (m + n) x = wIter ds n (wIter ds m x)
  | 0 => rfl
  | n + 1 => by
    show wStep ds (wIter ds (m + n) x) = _
    rw [wIter_add ds m x n]
    rfl
def wChk (b many n : Nat) : Bool := decide (wIter (digs b many n).reverse 60 (0, 0) = (0, 0)) && (digs b many n).all fun d => decide (0 ≤ d)
theorem wChk_all : ([2, 3, 4].all fun b => (List.range 9).all fun many => (List.range many).all fun n => wChk b many n) = true := by decide +kernel
theorem wChk_at {b many n : Nat} (h2 : 2 ≤ b) (h4 : b ≤ 4) (h8 : many ≤ 8) (hn : n < many) : wIter (digs b many n).reverse 60 (0, 0) = (0, 0) ∧ ∀ d ∈ digs b many n, 0 ≤ d := by
  have h := wChk_all
  rw [List.all_eq_true] at h
  have h := h b (by simp; omega)
  rw [List.all_eq_true] at h
  have h := h many (List.mem_range.mpr (by omega))
  rw [List.all_eq_true] at h
  have h := h n (List.mem_range.mpr hn)
  unfold wChk at h
  simp only [Bool.and_eq_true, decide_eq_true_eq, List.all_eq_true] at h
  exact h
/-- how a station waits, by when it woke -/
def WaitI (b many : Nat) (wl : WL) (k j : Nat) : Prop := ∃ p l, (sysF (.waits b) many wl k j).way = .wait (digs b many j).reverse p l ∧ 0 ≤ l ∧ ((sysF (.waits b) many wl k j).over = true → l = 0) ∧
  ((sysF (.waits b) many wl k j).over = false → (p, l) = wIter (digs b many j).reverse (k - (wl.lookup j).getD k) (0, 0))
theorem getD_nn {ds : List Int} (h : ∀ d ∈ ds, 0 ≤ d) (i : Nat) : 0 ≤ ds.getD i 0 := by
  rw [List.getD_eq_getElem?_getD]
  cases q : ds[i]? with
  | none => exact Int.le_refl _
  | some x => exact h x (List.mem_of_getElem? q)
theorem wait_inv {b j : Nat} (hj : j < many) (hd : ∀ d ∈ digs b many j, 0 ≤ d) : ∀ k, WaitI b many wl k j
  | 0 => ⟨0, 0, rfl, Int.le_refl _, fun _ => rfl, fun _ => by rw [Nat.zero_sub]; rfl⟩
  | k + 1 => by
    obtain ⟨p, l, e1, l0, e2, e3⟩ := wait_inv hj hd k
    have hd' : ∀ d ∈ (digs b many j).reverse, 0 ≤ d := fun d h => hd d (List.mem_reverse.mp h)
    have way : (sysF (.waits b) many wl (k + 1) j).way = WayM.goes (WayM.wants (awF wl k j && !(sysF (.waits b) many wl k j).over) (sysF (.waits b) many wl k j).way) (wdAt (.waits b) many wl k) (WayM.asked (awF wl k j && !(sysF (.waits b) many wl k j).over) (sysF (.waits b) many wl k j).way) := rfl
    have ov : (sysF (.waits b) many wl (k + 1) j).over = ((sysF (.waits b) many wl k j).over || (WayM.wants (awF wl k j && !(sysF (.waits b) many wl k j).over) (sysF (.waits b) many wl k j).way && decide (wdAt (.waits b) many wl k = .hrd))) := rfl
    have spk : ∀ {c : Bool}, WayM.wants c (.wait (digs b many j).reverse p l) = (c && l == 0) := rfl
    have goes : ∀ {c : Bool} {wd : Wd}, WayM.goes c wd (.wait (digs b many j).reverse p l) = if c = true ∧ wd = .noi then .wait (digs b many j).reverse ((p + 1) % (digs b many j).reverse.length) ((digs b many j).reverse.getD p 0) else if 0 < l then .wait (digs b many j).reverse p (l - 1) else .wait (digs b many j).reverse p l := rfl
    have asked : ∀ {c : Bool}, WayM.asked c (.wait (digs b many j).reverse p l) = .wait (digs b many j).reverse p l := rfl
    rw [e1, spk, asked, goes] at way
    rw [e1, spk] at ov
    cases o : (sysF (.waits b) many wl k j).over with
    | true =>
      have lz := e2 o
      rw [o] at way ov
      subst lz
      simp at way ov
      exact ⟨p, 0, way, Int.le_refl _, fun _ => rfl, fun z => by rw [ov] at z; cases z⟩
    | false =>
      have st := e3 o
      rw [o] at way ov
      simp only [Bool.not_false, Bool.and_true, Bool.false_or] at way ov
      cases a : awF wl k j with
      | false =>
        rw [a] at way ov
        have kz : k - (wl.lookup j).getD k = 0 ∧ (k + 1) - (wl.lookup j).getD (k + 1) = 0 := by
          unfold awF at a
          cases q : wl.lookup j with
          | none => simp
          | some t =>
            rw [q] at a
            have := of_decide_eq_false a
            simp
            omega
        rw [kz.1] at st
        obtain ⟨rfl, rfl⟩ := Prod.mk.inj st
        simp at way ov
        exact ⟨0, 0, way, Int.le_refl _, fun _ => rfl, fun _ => by rw [kz.2]; rfl⟩
      | true =>
        rw [a] at way ov
        obtain ⟨t, q, ht⟩ : ∃ t, wl.lookup j = some t ∧ t ≤ k := by
          unfold awF at a
          cases q : wl.lookup j with
          | none => rw [q] at a; cases a
          | some t =>
            rw [q] at a
            exact ⟨t, rfl, of_decide_eq_true a⟩
        have kn : (k + 1) - (wl.lookup j).getD (k + 1) = (k - (wl.lookup j).getD k) + 1 := by
          rw [q]
          simp
          omega
        simp only [Bool.true_and] at way ov
        by_cases lz : l = 0
        · subst lz
          simp only [beq_self_eq_true, true_and, Bool.true_and] at way ov
          cases wd : wdAt (.waits b) many wl k with
          | noi =>
            rw [wd] at way ov
            simp only [if_true] at way
            refine ⟨_, _, way, getD_nn hd' p, fun z => ?_, fun _ => ?_⟩
            · rw [z] at ov
              simp at ov
            · rw [kn]
              show _ = wStep _ (wIter _ _ _)
              rw [← st]
              rfl
          | hrd =>
            rw [wd] at way ov
            simp at way ov
            exact ⟨p, 0, way, Int.le_refl _, fun _ => rfl, fun z => by rw [ov] at z; cases z⟩
          | sil =>
            exfalso
            have hs : j ∈ spkAt (.waits b) many wl k := by
              unfold spkAt spkF
              refine List.mem_filter.mpr ⟨List.mem_range.mpr hj, ?_⟩
              show WayM.wants (awF wl k j && !(sysF (.waits b) many wl k j).over) (sysF (.waits b) many wl k j).way = true
              rw [e1, o, a]
              rfl
            have := List.length_pos_of_mem hs
            unfold wdAt nWd at wd
            rw [if_neg (by omega)] at wd
            split at wd <;> cases wd
        · have lb : (l == 0) = false := by simp [lz]
          have lp : 0 < l := by omega
          rw [lb] at way ov
          simp only [Bool.false_eq_true, false_and, if_false, if_pos lp, Bool.false_and] at way ov
          refine ⟨_, _, way, by omega, fun z => (by rw [ov] at z; cases z), fun _ => ?_⟩
          rw [kn]
          show _ = wStep _ (wIter _ _ _)
          rw [← st]
          unfold wStep
          rw [if_neg lz]
theorem per_waits {b : Nat} (h2 : 2 ≤ b) (h4 : b ≤ 4) (h8 : many ≤ 8) : Per (.waits b) many wl 60 := fun m hm he =>
  key_of fun j hj => by
    obtain ⟨c1, c2⟩ := wChk_at h2 h4 h8 hj
    have os := over_same (Nat.le_add_right _ _) he j hj
    refine ⟨?_, os⟩
    obtain ⟨p, l, a1, _, a2, a3⟩ := wait_inv (wl := wl) hj c2 m
    obtain ⟨p', l', b1, _, b2, b3⟩ := wait_inv (wl := wl) hj c2 (m + 60)
    rw [a1, b1]
    cases o : (sysF (.waits b) many wl m j).over with
    | true =>
      have frz : ∀ i, (sysF (.waits b) many wl (m + i) j).way = .wait (digs b many j).reverse p l := fun i => by
        induction i with
        | zero => exact a1
        | succ i ih =>
          have way : (sysF (.waits b) many wl (m + i + 1) j).way = WayM.goes (WayM.wants (awF wl (m + i) j && !(sysF (.waits b) many wl (m + i) j).over) (sysF (.waits b) many wl (m + i) j).way) (wdAt (.waits b) many wl (m + i)) (WayM.asked (awF wl (m + i) j && !(sysF (.waits b) many wl (m + i) j).over) (sysF (.waits b) many wl (m + i) j).way) := rfl
          have ov := over_mono (R := .waits b) (many := many) (wl := wl) (j := j) (Nat.le_add_right m i) o
          rw [show m + (i + 1) = m + i + 1 from rfl, way, ih, ov, a2 o]
          simp [WayM.goes, WayM.wants, WayM.asked]
      have := frz 60
      rw [b1] at this
      exact this.symm
    | false =>
      have o' := os.symm.trans o
      have x1 := a3 o
      have x2 := b3 o'
      have e : (p', l') = (p, l) := by
        rw [x1, x2]
        cases q : wl.lookup j with
        | none => simp
        | some t =>
          have ht : t ≤ m := by
            have := aw_last (wl := wl) hm j
            unfold awF at this
            rw [q] at this
            exact of_decide_eq_true this
          show wIter _ (m + 60 - t) _ = wIter _ (m - t) _
          rw [show m + 60 - t = 60 + (m - t) by omega, wIter_add, c1]
      obtain ⟨rfl, rfl⟩ := Prod.mk.inj e
      rfl
end
end OA

namespace OA
open PySem L2
/-! runs by a tree end -/
/-- how many moments a group takes at most -/
def costF (many : Nat) : Nat → Grp → Nat
  | 0, _ => 1
  | f + 1, g => if g.1.length ≤ 1 then 1 else 1 + ((halves many g).map (costF many f)).sum
def cost (many : Nat) (g : Grp) : Nat := costF many 4 g
def costChk (many : Nat) (S : List Nat) : Bool := (List.range (lenD many)).all fun p => decide (cost many (S, p) ≤ 15) && (decide (S.length ≤ 1) || decide (((halves many (S, p)).map (cost many)).sum < cost many (S, p)))
theorem cost_all : ((List.range 9).all fun many => (subs many).all fun S => costChk many S) = true := by decide +kernel
theorem lenD_pos (many : Nat) : 0 < lenD many := by simp [lenD, digsN]
theorem cost_at {many : Nat} (h8 : many ≤ 8) {g : Grp} (hg : g.1 = (List.range many).filter fun j => decide (j ∈ g.1)) (hp : g.2 < lenD many) : cost many g ≤ 15 ∧ (2 ≤ g.1.length → ((halves many g).map (cost many)).sum < cost many g) := by
  have h := cost_all
  rw [List.all_eq_true] at h
  have h := h many (List.mem_range.mpr (by omega))
  rw [List.all_eq_true] at h
  have h := h g.1 (by rw [hg]; exact mem_subs _ _)
  unfold costChk at h
  rw [List.all_eq_true] at h
  have h := h g.2 (List.mem_range.mpr hp)
  simp only [Bool.and_eq_true, Bool.or_eq_true, decide_eq_true_eq] at h
  exact ⟨h.1, fun z => h.2.resolve_left (by omega)⟩
theorem cost_pos {many : Nat} (g : Grp) : 1 ≤ cost many g := by
  unfold cost costF
  split <;> omega
def mu (many : Nat) (gs : List Grp) : Nat := (gs.map (cost many)).sum
section
variable {sk jn : Bool} {many : Nat} {wl : WL}
/-- who comes in at a moment -/
def come (jn : Bool) (many : Nat) (wl : WL) (k : Nat) (gs : List Grp) (ov : Nat → Bool) : List Grp := match gs with
  | [] => [((List.range many).filter fun j => awF wl k j && !ov j, 0)]
  | g :: r => if jn = true then ((List.range many).filter fun j => decide (j ∈ g.1) || (awF wl k j && !ov j && (lvIx (g :: r) j).isNone), g.2) :: r else g :: r
def SkO (gs : List Grp) (skp : Bool) : Prop := skp = true → ∃ g0 g1 r, gs = g0 :: g1 :: r ∧ 2 ≤ g0.1.length + g1.1.length
structure TrI (sk jn : Bool) (many : Nat) (wl : WL) (k : Nat) (gs : List Grp) (skp : Bool) (ov : Nat → Bool) : Prop where
  abs : AbsAt sk jn many wl k gs skp ov
  wf : WfG many gs skp
  so : SkO gs skp
  mem : ∀ j, Mem gs j → j < many ∧ (awF wl k j && !ov j) = true
  pl : ∀ g ∈ gs, g.2 < lenD many
  len : gs.length ≤ k + 1
structure CmI (sk jn : Bool) (many : Nat) (wl : WL) (k : Nat) (gs : List Grp) (skp : Bool) (ov : Nat → Bool) : Prop where
  op : OpAt sk jn many wl k gs skp ov
  wf : WfG many gs skp
  so : SkO gs skp
  mem : ∀ j, Mem gs j → j < many ∧ (awF wl k j && !ov j) = true
  pl : ∀ g ∈ gs, g.2 < lenD many
  len : gs.length ≤ k + 1
  ne : gs ≠ []
theorem come_t {k : Nat} {g : Grp} {r : List Grp} {ov : Nat → Bool} : come true many wl k (g :: r) ov = ((List.range many).filter fun j => decide (j ∈ g.1) || (awF wl k j && !ov j && (lvIx (g :: r) j).isNone), g.2) :: r := rfl
theorem come_f {k : Nat} {g : Grp} {r : List Grp} {ov : Nat → Bool} : come false many wl k (g :: r) ov = g :: r := rfl
theorem lvIx_cons {g : Grp} {r : List Grp} {j : Nat} : lvIx (g :: r) j = if j ∈ g.1 then some 0 else (lvIx r j).map (· + 1) := rfl
theorem srt_range {many : Nat} (q : Nat → Bool) : (List.range many).filter q = (List.range many).filter fun j => decide (j ∈ (List.range many).filter q) := by
  refine List.filter_congr fun j hj => ?_
  rw [Bool.eq_iff_iff]
  simp only [decide_eq_true_eq, List.mem_filter]
  exact ⟨fun h => ⟨hj, h⟩, fun h => h.2⟩
theorem lv_mem {gs : List Grp} {j : Nat} (h : lvIx gs j ≠ none) : Mem gs j := by
  induction gs with
  | nil => exact (h rfl).elim
  | cons g r ih =>
    rw [lvIx_cons] at h
    by_cases z : j ∈ g.1
    · exact ⟨g, List.mem_cons_self, z⟩
    · rw [if_neg z] at h
      obtain ⟨x, hx, hj⟩ := ih fun q => h (by rw [q]; rfl)
      exact ⟨x, List.mem_cons_of_mem _ hx, hj⟩
theorem op_join {k : Nat} {g : Grp} {r : List Grp} {skp : Bool} {ov : Nat → Bool} (a : AbsAt sk true many wl k (g :: r) skp ov) : OpAt sk true many wl k (come true many wl k (g :: r) ov) skp ov := fun j hj => by
  obtain ⟨e1, e2⟩ := a j hj
  have ec : come true many wl k (g :: r) ov = ((List.range many).filter fun j => decide (j ∈ g.1) || (awF wl k j && !ov j && (lvIx (g :: r) j).isNone), g.2) :: r := come_t
  have c : comes true (awF wl k j && !ov j) (lvIx (g :: r) j) ((g :: r).map (·.2)) = lvIx (come true many wl k (g :: r) ov) j := by
    have r1 : lvIx (((List.range many).filter fun j => decide (j ∈ g.1) || (awF wl k j && !ov j && (lvIx (g :: r) j).isNone), g.2) :: r) j = if j ∈ ((List.range many).filter fun j => decide (j ∈ g.1) || (awF wl k j && !ov j && (lvIx (g :: r) j).isNone)) then some 0 else (lvIx r j).map (· + 1) := rfl
    rw [ec, r1]
    have m : (j ∈ (List.range many).filter fun j => decide (j ∈ g.1) || (awF wl k j && !ov j && (lvIx (g :: r) j).isNone)) ↔ (j ∈ g.1 ∨ ((awF wl k j && !ov j) = true ∧ lvIx (g :: r) j = none)) := by
      rw [List.mem_filter]
      simp only [List.mem_range, hj, true_and, Bool.or_eq_true, decide_eq_true_eq, Bool.and_eq_true, Option.isNone_iff_eq_none]
    unfold comes
    by_cases z : j ∈ g.1
    · rw [if_pos (m.mpr (.inl z)), lvIx_cons, if_pos z, if_neg]
      rintro ⟨_, h, _⟩
      cases h
    · by_cases y : (awF wl k j && !ov j) = true ∧ lvIx (g :: r) j = none
      · rw [if_pos ⟨y.1, y.2, .inl rfl⟩]
        rw [if_pos (m.mpr (.inr y))]
      · rw [if_neg (fun h => y ⟨h.1, h.2.1⟩)]
        have : ¬ (j ∈ (List.range many).filter fun j => decide (j ∈ g.1) || (awF wl k j && !ov j && (lvIx (g :: r) j).isNone)) := fun h => (m.mp h).elim z y
        rw [if_neg this, lvIx_cons, if_neg z]
  have o : opened ((g :: r).map (·.2)) = (come true many wl k (g :: r) ov).map (·.2) := by
    rw [ec]
    unfold opened
    rw [if_neg (by simp)]
    rfl
  refine ⟨?_, e2, ?_⟩
  · show WayM.asked (awF wl k j && !(sysF (.tree sk true) many wl k j).over) (sysF (.tree sk true) many wl k j).way = _
    rw [e1, e2]
    show WayM.tree _ _ _ (comes true (awF wl k j && !ov j) (lvIx (g :: r) j) ((g :: r).map (·.2))) (opened ((g :: r).map (·.2))) _ = _
    rw [c, o]
  · show WayM.wants (awF wl k j && !(sysF (.tree sk true) many wl k j).over) (sysF (.tree sk true) many wl k j).way = _
    rw [e1, e2]
    show ((awF wl k j && !ov j) && comes true (awF wl k j && !ov j) (lvIx (g :: r) j) ((g :: r).map (·.2)) == some 0) = _
    rw [c]
theorem come_ok {k : Nat} {gs : List Grp} {skp : Bool} {ov : Nat → Bool} (a : TrI sk jn many wl k gs skp ov) : CmI sk jn many wl k (come jn many wl k gs ov) skp ov := by
  cases gs with
  | nil =>
    have hs : skp = false := by
      cases skp with
      | false => rfl
      | true => obtain ⟨_, _, _, h, _⟩ := a.so rfl; cases h
    subst hs
    refine ⟨op_open a.abs, ⟨fun g hg => ?_, List.pairwise_cons.mpr ⟨fun _ h => by simp at h, List.Pairwise.nil⟩, fun z => by cases z⟩, (fun z => by cases z), fun j hm => ?_, fun g hg => ?_, by simp [come], by simp [come]⟩
    · rw [List.mem_singleton.mp hg]
      exact srt_range _
    · obtain ⟨g, hg, hj⟩ := hm
      rw [List.mem_singleton.mp hg] at hj
      obtain ⟨h1, h2⟩ := List.mem_filter.mp hj
      exact ⟨List.mem_range.mp h1, h2⟩
    · rw [List.mem_singleton.mp hg]
      exact lenD_pos many
  | cons g r =>
    cases jn with
    | false =>
      have ec : come false many wl k (g :: r) ov = g :: r := come_f
      rw [ec]
      exact ⟨op_go a.abs (by simp) fun _ _ _ _ => rfl, a.wf, a.so, a.mem, a.pl, a.len, by simp⟩
    | true =>
      have op := op_join a.abs
      have ec : come true many wl k (g :: r) ov = ((List.range many).filter fun j => decide (j ∈ g.1) || (awF wl k j && !ov j && (lvIx (g :: r) j).isNone), g.2) :: r := come_t
      have sub : ∀ j, j ∈ g.1 → j ∈ (List.range many).filter fun j => decide (j ∈ g.1) || (awF wl k j && !ov j && (lvIx (g :: r) j).isNone) := fun j hj => by
        refine List.mem_filter.mpr ⟨List.mem_range.mpr (a.mem j ⟨g, List.mem_cons_self, hj⟩).1, ?_⟩
        rw [decide_eq_true hj]
        rfl
      have pw := List.pairwise_cons.mp a.wf.dis
      have sub_len : g.1.length ≤ ((List.range many).filter fun j => decide (j ∈ g.1) || (awF wl k j && !ov j && (lvIx (g :: r) j).isNone)).length := by
        have nd : g.1.Nodup := by
          rw [a.wf.srt g List.mem_cons_self]
          exact List.nodup_range.filter _
        exact nd.length_le_of_subset sub
      rw [ec] at op ⊢
      refine ⟨op, ⟨fun x hx => ?_, List.pairwise_cons.mpr ⟨fun x hx j hj hx2 => ?_, pw.2⟩, fun z => by have := a.wf.deep z; simpa using this⟩, fun z => ?_, fun j hm => ?_, fun x hx => ?_, by have := a.len; simpa using this, by simp⟩
      · rcases List.mem_cons.mp hx with rfl | hx
        · exact srt_range _
        · exact a.wf.srt x (List.mem_cons_of_mem _ hx)
      · obtain ⟨h1, h2⟩ := List.mem_filter.mp hj
        simp only [Bool.or_eq_true, decide_eq_true_eq, Bool.and_eq_true, Option.isNone_iff_eq_none] at h2
        rcases h2 with h2 | h2
        · exact pw.1 x hx j h2 hx2
        · exact mem_lv ⟨x, List.mem_cons_of_mem _ hx, hx2⟩ h2.2
      · obtain ⟨g0, g1, r1, e, h⟩ := a.so z
        cases e
        exact ⟨_, g1, r1, rfl, Nat.le_trans h (Nat.add_le_add_right sub_len _)⟩
      · obtain ⟨x, hx, hj⟩ := hm
        rcases List.mem_cons.mp hx with rfl | hx
        · obtain ⟨h1, h2⟩ := List.mem_filter.mp hj
          simp only [Bool.or_eq_true, decide_eq_true_eq, Bool.and_eq_true, Option.isNone_iff_eq_none] at h2
          rcases h2 with h2 | h2
          · exact a.mem j ⟨g, List.mem_cons_self, h2⟩
          · exact ⟨List.mem_range.mp h1, by simp [h2.1.1, h2.1.2]⟩
        · exact a.mem j ⟨x, List.mem_cons_of_mem _ hx, hj⟩
      · rcases List.mem_cons.mp hx with rfl | hx
        · exact a.pl g List.mem_cons_self
        · exact a.pl x (List.mem_cons_of_mem _ hx)
theorem halves_len {many : Nat} {g : Grp} : (g.1.filter fun j => decide (dgt many j g.2 = 0)).length + (g.1.filter fun j => !decide (dgt many j g.2 = 0)).length = g.1.length := by
  induction g.1 with
  | nil => rfl
  | cons x l ih =>
    rw [List.filter_cons, List.filter_cons]
    cases decide (dgt many x g.2 = 0) <;> simp <;> omega
theorem so_halves {many : Nat} {g : Grp} {r : List Grp} {b : Bool} (h : 2 ≤ g.1.length) : SkO (halves many g ++ r) b := fun _ => ⟨_, _, r, rfl, by show 2 ≤ List.length _ + List.length _; rw [halves_len]; exact h⟩
theorem pl_halves {many : Nat} {g : Grp} {r : List Grp} (h : ∀ x ∈ r, x.2 < lenD many) : ∀ x ∈ halves many g ++ r, x.2 < lenD many := fun x hx => by
  have := Nat.mod_lt (g.2 + 1) (lenD_pos many)
  rcases List.mem_cons.mp hx with rfl | hx
  · exact this
  · rcases List.mem_cons.mp hx with rfl | hx
    · exact this
    · exact h x hx
theorem mu_cons {many : Nat} {g : Grp} {r : List Grp} : mu many (g :: r) = cost many g + mu many r := by simp [mu]
theorem mu_halves {many : Nat} {g : Grp} {r : List Grp} : mu many (halves many g ++ r) = ((halves many g).map (cost many)).sum + mu many r := by simp [mu]
theorem step_ok {k : Nat} {g : Grp} {r : List Grp} {skp : Bool} {ov : Nat → Bool} (h8 : many ≤ 8) (c : CmI sk jn many wl k (g :: r) skp ov) :
    TrI sk jn many wl (k + 1) (stepG many sk (g :: r) skp).1 (stepG many sk (g :: r) skp).2 (fun j => ov j || decide (g.1 = [j])) ∧ mu many (stepG many sk (g :: r) skp).1 < mu many (g :: r) := by
  have ab := abs_step c.op c.wf fun j hj => (c.mem j ⟨g, List.mem_cons_self, hj⟩).2
  have wf := wf_step (sk := sk) c.wf
  have mem : ∀ j, Mem (stepG many sk (g :: r) skp).1 j → j < many ∧ (awF wl (k + 1) j && !(ov j || decide (g.1 = [j]))) = true := fun j hm => by
    obtain ⟨m1, m2⟩ := mem_step c.wf hm
    obtain ⟨h1, h2⟩ := c.mem j m1
    simp only [Bool.and_eq_true, Bool.not_eq_true'] at h2
    exact ⟨h1, by rw [aw_mono h2.1, h2.2, decide_eq_false m2]; rfl⟩
  have plr : ∀ x ∈ r, x.2 < lenD many := fun x hx => c.pl x (List.mem_cons_of_mem _ hx)
  have lr := c.len
  rw [List.length_cons] at lr
  have key : SkO (stepG many sk (g :: r) skp).1 (stepG many sk (g :: r) skp).2 ∧ (∀ x ∈ (stepG many sk (g :: r) skp).1, x.2 < lenD many) ∧ (stepG many sk (g :: r) skp).1.length ≤ k + 1 + 1 ∧ mu many (stepG many sk (g :: r) skp).1 < mu many (g :: r) := by
    unfold stepG
    simp only
    by_cases h2 : 2 ≤ g.1.length
    · rw [if_pos h2]
      refine ⟨so_halves h2, pl_halves plr, by simp [halves]; omega, ?_⟩
      simp only
      rw [mu_halves, mu_cons]
      have := (cost_at h8 (c.wf.srt g List.mem_cons_self) (c.pl g List.mem_cons_self)).2 h2
      omega
    · rw [if_neg h2]
      by_cases h0 : g.1.length = 0 ∧ skp = true
      · rw [if_pos h0]
        obtain ⟨g0, g1, r1, e, hl⟩ := c.so h0.2
        cases e
        have h2' : 2 ≤ g1.1.length := by omega
        refine ⟨so_halves h2', pl_halves fun x hx => plr x (List.mem_cons_of_mem _ hx), by simp [halves] at lr ⊢; omega, ?_⟩
        simp only
        rw [mu_halves, mu_cons, mu_cons]
        have := (cost_at h8 (c.wf.srt g1 (List.mem_cons_of_mem _ List.mem_cons_self)) (c.pl g1 (List.mem_cons_of_mem _ List.mem_cons_self))).2 h2'
        omega
      · rw [if_neg h0]
        refine ⟨(fun z => by cases z), plr, (by show r.length ≤ k + 1 + 1; omega), ?_⟩
        simp only
        rw [mu_cons]
        have := cost_pos (many := many) g
        omega
  exact ⟨⟨ab, wf, key.1, mem, key.2.1, key.2.2.1⟩, key.2.2.2⟩
theorem tr_zero : TrI sk jn many wl 0 [] false (fun _ => false) := ⟨abs_zero, ⟨fun _ h => by simp at h, List.Pairwise.nil, fun z => by cases z⟩, (fun z => by cases z), fun j ⟨g, hg, _⟩ => by simp at hg, fun g hg => by simp at hg, Nat.zero_le _⟩
theorem tr_at (h8 : many ≤ 8) : ∀ k, ∃ gs skp ov, TrI sk jn many wl k gs skp ov
  | 0 => ⟨_, _, _, tr_zero⟩
  | k + 1 => by
    obtain ⟨gs, skp, ov, h⟩ := tr_at h8 k
    have c := come_ok h
    cases q : come jn many wl k gs ov with
    | nil => exact (c.ne q).elim
    | cons g r =>
      rw [q] at c
      exact ⟨_, _, _, (step_ok h8 c).1⟩
/-- all that are awake are over, or of the tree -/
def Cov (many : Nat) (wl : WL) (k : Nat) (gs : List Grp) (ov : Nat → Bool) : Prop := ∀ j, j < many → awF wl k j = true → ov j = true ∨ Mem gs j
theorem come_cov {k : Nat} {gs : List Grp} {skp : Bool} {ov : Nat → Bool} (a : TrI sk jn many wl k gs skp ov) (h : jn = true ∨ gs = []) : Cov many wl k (come jn many wl k gs ov) ov := fun j hj haw => by
  cases o : ov j with
  | true => exact .inl rfl
  | false =>
    right
    cases gs with
    | nil => exact ⟨_, List.mem_singleton.mpr rfl, List.mem_filter.mpr ⟨List.mem_range.mpr hj, by rw [haw, o]; rfl⟩⟩
    | cons g r =>
      rcases h with rfl | h
      · have ec : come true many wl k (g :: r) ov = ((List.range many).filter fun j => decide (j ∈ g.1) || (awF wl k j && !ov j && (lvIx (g :: r) j).isNone), g.2) :: r := come_t
        rw [ec]
        by_cases z : lvIx (g :: r) j = none
        · refine ⟨_, List.mem_cons_self, List.mem_filter.mpr ⟨List.mem_range.mpr hj, ?_⟩⟩
          rw [haw, o, z]
          simp
        · obtain ⟨x, hx, hm⟩ := lv_mem z
          rcases List.mem_cons.mp hx with rfl | hx
          · refine ⟨_, List.mem_cons_self, List.mem_filter.mpr ⟨List.mem_range.mpr hj, ?_⟩⟩
            rw [decide_eq_true hm]
            rfl
          · exact ⟨x, List.mem_cons_of_mem _ hx, hm⟩
      · cases h
theorem come_same {k : Nat} {g : Grp} {r : List Grp} {skp : Bool} {ov : Nat → Bool} (a : TrI sk jn many wl k (g :: r) skp ov) (h : jn = false ∨ Cov many wl k (g :: r) ov) : come jn many wl k (g :: r) ov = g :: r := by
  cases jn with
  | false => exact come_f
  | true =>
    rcases h with h | h
    · cases h
    · rw [come_t]
      have : ((List.range many).filter fun j => decide (j ∈ g.1) || (awF wl k j && !ov j && (lvIx (g :: r) j).isNone)) = g.1 := by
        conv => rhs; rw [a.wf.srt g List.mem_cons_self]
        refine List.filter_congr fun j hj => ?_
        by_cases z : (awF wl k j && !ov j && (lvIx (g :: r) j).isNone) = true
        · exfalso
          simp only [Bool.and_eq_true, Bool.not_eq_true', Option.isNone_iff_eq_none] at z
          rcases h j (List.mem_range.mp hj) z.1.1 with y | y
          · rw [y] at z
            cases z.1.2
          · exact mem_lv y z.2
        · rw [Bool.not_eq_true] at z
          rw [z, Bool.or_false]
      rw [this]
theorem tree_run (h8 : many ≤ 8) : ∀ (m k : Nat) (gs : List Grp) (skp : Bool) (ov : Nat → Bool), CmI sk jn many wl k gs skp ov → lastW wl ≤ k → mu many gs ≤ m → (jn = false ∨ Cov many wl k gs ov) →
    ∃ t ov', t ≤ m ∧ TrI sk jn many wl (k + t) [] false ov' ∧ (Cov many wl k gs ov → ∀ j, j < many → awF wl (k + t) j = true → ov' j = true)
  | m, k, gs, skp, ov, c, hk, hm, nn => by
    cases gs with
    | nil => exact (c.ne rfl).elim
    | cons g r =>
      obtain ⟨s1, s2⟩ := step_ok h8 c
      have cov : Cov many wl k (g :: r) ov → Cov many wl (k + 1) (stepG many sk (g :: r) skp).1 (fun j => ov j || decide (g.1 = [j])) := fun h j hj haw => by
        rw [aw_last (by omega), ← aw_last hk] at haw
        rcases h j hj haw with y | y
        · left
          show (ov j || _) = true
          rw [y]
          rfl
        · rcases step_mem (sk := sk) c.wf y with z | z
          · exact .inr z
          · left
            show (ov j || decide _) = true
            rw [decide_eq_true z, Bool.or_true]
      cases q : (stepG many sk (g :: r) skp).1 with
      | nil =>
        have e := step_end q
        rw [q, e] at s1
        rw [q] at cov
        refine ⟨1, _, by omega, s1, fun h j hj haw => ?_⟩
        rcases cov h j hj haw with y | ⟨_, y, _⟩
        · exact y
        · simp at y
      | cons g' r' =>
        rw [q] at s1 s2 cov
        have nn' : jn = false ∨ Cov many wl (k + 1) (g' :: r') (fun j => ov j || decide (g.1 = [j])) := nn.imp id cov
        have c' := come_ok s1
        rw [come_same s1 nn'] at c'
        obtain ⟨t, ov', h1, h2, h3⟩ := tree_run h8 (m - 1) (k + 1) (g' :: r') _ _ c' (by omega) (by omega) nn'
        have e : k + 1 + t = k + (t + 1) := by omega
        rw [e] at h2 h3
        exact ⟨t + 1, ov', by omega, h2, fun h => h3 (cov h)⟩
  termination_by m => m
  decreasing_by omega
theorem mu_le (h8 : many ≤ 8) {k : Nat} {gs : List Grp} {skp : Bool} {ov : Nat → Bool} (c : CmI sk jn many wl k gs skp ov) : mu many gs ≤ 15 * (k + 1) := by
  have gen : ∀ l : List Grp, (∀ g ∈ l, cost many g ≤ 15) → mu many l ≤ 15 * l.length := fun l => by
    induction l with
    | nil => intro _; exact Nat.le_refl _
    | cons g l ih =>
      intro h
      have := ih fun x hx => h x (List.mem_cons_of_mem _ hx)
      have := h g List.mem_cons_self
      rw [mu_cons, List.length_cons]
      omega
  have := gen gs fun g hg => (cost_at h8 (c.wf.srt g hg) (c.pl g hg)).1
  have := c.len
  omega
theorem tree_ends (h8 : many ≤ 8) (ok : WOk many wl) : ∃ n, EndsAt (.tree sk jn) many wl n := by
  have l40 := lastW_le (wl := wl) (m := 40) fun x hx => (ok.lt x hx).2
  have fin : ∀ k ov', lastW wl ≤ k → k ≤ 900 → TrI sk jn many wl k [] false ov' → (∀ j, j < many → awF wl k j = true → ov' j = true) → ∃ n, EndsAt (.tree sk jn) many wl n := fun k ov' hk h9 tr all => by
    refine ends_of_stop (k := k) (.inl ?_) h9
    rw [overs]
    have : (wl.map (·.1)).length ≤ ((List.range many).filter fun j => (sysF (.tree sk jn) many wl k j).over).length := ok.nd.length_le_of_subset fun j hj => by
      obtain ⟨x, hx, rfl⟩ := List.mem_map.mp hj
      have lt := (ok.lt x hx).1
      refine List.mem_filter.mpr ⟨List.mem_range.mpr lt, ?_⟩
      rw [(tr.abs x.1 lt).2]
      refine all x.1 lt ?_
      rw [aw_last hk]
      cases q : wl.lookup x.1 with
      | some _ => rfl
      | none => have := List.lookup_eq_none_iff.mp q x hx; simp at this
    rwa [List.length_map] at this
  obtain ⟨gs, skp, ov, tr⟩ := tr_at (sk := sk) (jn := jn) (wl := wl) h8 (lastW wl)
  have c := come_ok tr
  have hmu := mu_le h8 c
  cases jn with
  | true =>
    have cv := come_cov tr (.inl rfl)
    obtain ⟨t, ov', h1, h2, h3⟩ := tree_run h8 _ _ _ _ _ c (Nat.le_refl _) hmu (.inr cv)
    exact fin _ ov' (by omega) (by omega) h2 (h3 cv)
  | false =>
    obtain ⟨t, ov', h1, h2, _⟩ := tree_run h8 _ _ _ _ _ c (Nat.le_refl _) hmu (.inl rfl)
    have c2 := come_ok h2
    have cv := come_cov h2 (.inr rfl)
    have hc : mu many (come false many wl (lastW wl + t) [] ov') ≤ 15 := by
      show mu many [_] ≤ 15
      rw [mu_cons]
      have := (cost_at h8 (c2.wf.srt _ List.mem_cons_self) (c2.pl _ List.mem_cons_self)).1
      simpa [mu] using this
    obtain ⟨t2, ov2, g1, g2, g3⟩ := tree_run h8 _ _ _ _ _ c2 (by omega) hc (.inl rfl)
    exact fin _ ov2 (by omega) (by omega) g2 (g3 cv)
end
end OA

namespace OA
open PySem L2
/-! every run ends -/
theorem row_of {R : RuleM} {many : Nat} (hok : R.Ok many) (h1 : 1 ≤ many) (h8 : many ≤ 8) (hR : ∀ j, j < many → ∃ r : Str, wayM R many j = .row r 0) : 1 ≤ byOf R many ∧ byOf R many ≤ 12 ∧ ∀ j, j < many → ∃ r : Str, wayM R many j = .row r 0 ∧ r.length = byOf R many := by
  cases R with
  | turns => exact ⟨h1, by show many ≤ 12; omega, fun j hj => ⟨_, rfl, (turnRow_all many (by omega) j hj).1⟩⟩
  | rows rs =>
    obtain ⟨hl, n, n1, n12, hr⟩ := hok
    have e2 : (rs.headD "").length = n := by
      cases rs with
      | nil => simp at hl; omega
      | cons a b => exact (hr a List.mem_cons_self).1
    refine ⟨by show 1 ≤ (rs.headD "").length; omega, by show (rs.headD "").length ≤ 12; omega, fun j hj => ⟨_, rfl, ?_⟩⟩
    show (rs.getD j "").length = (rs.headD "").length
    rw [e2]
    refine (hr _ ?_).1
    simp [show j < rs.length by omega]
  | tree sk jn => obtain ⟨r, h⟩ := hR 0 (by omega); cases h
  | waits b => obtain ⟨r, h⟩ := hR 0 (by omega); cases h
theorem ends_all (R : RuleM) (many : Nat) (wl : WL) (hok : R.Ok many) (h1 : 1 ≤ many) (h8 : many ≤ 8) (ok : WOk many wl) : ∃ n, EndsAt R many wl n := by
  cases R with
  | turns =>
    obtain ⟨a, b, c⟩ := row_of (R := .turns) hok h1 h8 fun j _ => ⟨_, rfl⟩
    exact per_ends a (by omega) (per_rows c) h8 ok
  | rows rs =>
    obtain ⟨a, b, c⟩ := row_of (R := .rows rs) hok h1 h8 fun j _ => ⟨_, rfl⟩
    exact per_ends a (by omega) (per_rows c) h8 ok
  | tree sk jn => exact tree_ends h8 ok
  | waits b => exact per_ends (by decide) (by decide) (per_waits hok.1 hok.2 h8) h8 ok
end OA

namespace OA
namespace P
open PySem L2
local macro_rules
  | `(tactic| simp! [$a,*]) => `(tactic| simp -implicitDefEqProofs only [wNeD0, wRep, tDNewK, vDc, wSortDI, dkR_e, dkR_f, e_cut, wSetL, vLstRg, wLstD, e_lock, vVals, gSub, tCKw, frzO_e, viItems, viKeys, vRev, e_while, e_for, e_asgG, gName, vgTup, vgCons_e, vgNil_e, viList, viTup, viStr, viR1, viEnum, vLc, tYes, wipe, e_seq, e_next, e_drop, e_ret, e_retN, e_sfld, e_augI, e_aug, e_dput, vIf, vTest, wInT, vVar, vFld, tC, tOp, tUn, wI0, wIC, rEq, rNe, scal, wAddS, wMulS, wCat, wNeg, wIxL, wIxT, wIxS, vPart, tNoPart, tSl, wSlL, tCB, tCons, tNil, len_s, wTupL, wLstL, wAbs, wIntB, wMin2, wMax2, vAnd, vOr, vNot, vChain, vMeth, vCall, vMake, vLM0, vLM, isLst, wAppend, wPopAt, wInsert0, vStar, vDGet, vDIn, vDNotIn, tTup, tLst, tIf, tAnd, tOr, tNot, refR_e, intR_e, blR_e, strR_e, optR_e, keyR_i, keyR_s, insO_e, lstO_e, tupO_e, dkO_e, one1_e, two2_e, len_r, lenO_l, lenO_t, lenO_d, L2.start, List.map, List.replicate, List.length_cons, List.length_nil, List.cons_append, List.nil_append, List.append_nil, List.getElem?_cons_zero, List.getElem?_cons_succ, List.set_cons_zero, List.set_cons_succ, true_and, and_true, cx_K, cx_prog, cx_w, blkK, Int.toNat_natCast, upd_same, upd_upd, if_true, if_false, decide_eq_true_eq, reduceCtorEq, reduceIte, Bool.false_eq_true, decide_true, decide_false, Bool.true_and, Bool.false_and, Bool.and_true, Bool.and_false, Bool.not_true, Bool.not_false, V.int.injEq, V.str.injEq, V.bl.injEq, putF_nil, Nat.reduceAdd, Nat.reduceSub, Nat.reduceLT, Int.reduceEq, Int.reduceLT, Int.reduceLE, Int.reduceAdd, Int.reduceSub, Int.cast_ofNat_Int, wIsi, tyR_e, tyO_l, tyO_t, tyO_d, tyN_n, tyN_b, tyN_i, tyN_s, tyN_r, kit_NoneType_bool, kit_NoneType_int, kit_NoneType_str, kit_NoneType_list, kit_NoneType_tuple, kit_NoneType_dict, kit_bool_bool, kit_bool_int, kit_bool_str, kit_bool_list, kit_bool_tuple, kit_bool_dict, kit_int_bool, kit_int_int, kit_int_str, kit_int_list, kit_int_tuple, kit_int_dict, kit_str_bool, kit_str_int, kit_str_str, kit_str_list, kit_str_tuple, kit_str_dict, kit_list_bool, kit_list_int, kit_list_str, kit_list_list, kit_list_tuple, kit_list_dict, kit_tuple_bool, kit_tuple_int, kit_tuple_str, kit_tuple_list, kit_tuple_tuple, kit_tuple_dict, kit_dict_bool, kit_dict_int, kit_dict_str, kit_dict_list, kit_dict_tuple, kit_dict_dict, $a,*])
  | `(tactic| dsimp! [$a,*]) => `(tactic| ((try refine Later.mk ?_); simp! [$a,*]; repeat (refine Later.mk ?_; simp! [$a,*])))
/-- the row to look at -/
def atN (n ar now : Nat) : Nat := if n ≤ now ∧ 0 < ar then n - ar + (now - n) % ar else now
section
variable {P : Program} {w : World} {K : PySem.W.Frag} {mg : Str → Option Value} {base : Heap} {A : Ad}
theorem sc_law : FnScope ["_law_script", "_law_d", "_law_many_here", "_law_rule_here", "_law_some", "_law_airs", "_law_k", "_law_told", "_law_now", "_law_word", "_law_rows_here", "_law_around", "_law_at", "_law_number", "_law_wakes_here", "_law_one"] ["_law_script"] (defScope s_law) := ⟨rfl, rfl, rfl, by decide +kernel, rfl, by decide +kernel, by decide +kernel⟩
theorem ok_law (T : Txt K mg base A) : FnOk P w K mg base CX0 14 A.law A.d_law ["_law_script"] (spLawT K A) := by
  refine T.F_law.ok sc_law (fun vs H Q E h => ?_) (fun cdv A' outer s H vs Q E hr h => ?_)
  · obtain ⟨a, ns, rfl, _⟩ := h
    rfl
  obtain ⟨a0, ns, rfl, hS, hl, hT, kk⟩ := h
  have hu := hu_of hr
  refine ⟨_, (qs_cons (ps_set (i := 1) sc_law.nd rfl (Or.inl rfl) (q_call (ok__law_dice T) (hr.mono (by decide)) rfl T.g__law_dice T.k__law_dice T.b__law_dice pass0 (pa_cons (qv 0) (pa_cons pe_int pa_nil))))
    (qs_cons (ps_set (i := 2) sc_law.nd rfl (Or.inr rfl) (q_call (ok__law_many T) (hr.mono (by decide)) rfl T.g__law_many T.k__law_many T.b__law_many pass0 (pa_cons (qv 1) pa_nil)))
    (qs_cons (ps_set (i := 3) sc_law.nd rfl (Or.inr rfl) (q_call (ok__law_rule T) (hr.mono (by decide)) rfl T.g__law_rule T.k__law_rule T.b__law_rule pass0 (pa_cons (qv 1) (pa_cons (qv 2) pa_nil))))
    (qs_cons (ps_set (i := 4) sc_law.nd rfl (Or.inl rfl) (pe_lst (pa_cons (q_call (ok__law_wakes T) (hr.mono (by decide)) rfl T.g__law_wakes T.k__law_wakes T.b__law_wakes pass0 (pa_cons (qv 1) (pa_cons (qv 2) pa_nil))) (pa_cons (q_call (ok__law_wakes T) (hr.mono (by decide)) rfl T.g__law_wakes T.k__law_wakes T.b__law_wakes pass0 (pa_cons (qv 1) (pa_cons (qv 2) pa_nil))) pa_nil))))
    (qs_cons (ps_set (i := 5) sc_law.nd rfl (Or.inl rfl) (pe_lst pa_nil))
    (qs_cons (q_for PassesOwn.never rfl (qi_r1 (by rfl) T.m_range (pa_cons pe_int pa_nil)) (pg_name (i := 6) sc_law.nd rfl (Or.inl rfl)) (pss_one (ps_expr (lm1 PySem.F.slot_list_append PySem.F.type_list_append m_append (qv 5) (pa_cons (q_lc (own := [("_law_number", 13)]) (g := gName 13) (tt := tYes) rfl sc_law.nd (qi_r1 (by rfl) T.m_range (pa_cons (qv 2) pa_nil)) (blkOk_by (own := [("_law_number", 13)]) (N := ["_law_script", "_law_d", "_law_many_here", "_law_rule_here", "_law_some", "_law_airs", "_law_k", "_law_told", "_law_now", "_law_word", "_law_rows_here", "_law_around", "_law_at", "_law_number", "_law_wakes_here", "_law_one"]) (sc := defScope s_law) (by decide +kernel)) (fun _ _ _ _ _ => (pg_name (i := 13) sc_law.nd rfl (Or.inl rfl))) (fun _ _ _ _ _ => pts_nil) (fun _ _ _ _ _ => (q_make T.mk_Station (ok_SInitC T) (hr.mono (by decide)) rfl T.g_Station T.b_Station___init__ pass0 (pa_cons (qv 3) (pa_cons (qv 2) (pa_cons (qv 13) pa_nil)))))) pa_nil)))))
    (qs_cons (q_setLc (i := 7) (own := [("_law_wakes_here", 14)]) (g := gName 14) (tt := tYes) rfl sc_law.nd rfl rfl (sw_true rfl rfl rfl (by decide +kernel)) (qi_list (qv 4)) (blkOk_by (own := [("_law_wakes_here", 14)]) (N := ["_law_script", "_law_d", "_law_many_here", "_law_rule_here", "_law_some", "_law_airs", "_law_k", "_law_told", "_law_now", "_law_word", "_law_rows_here", "_law_around", "_law_at", "_law_number", "_law_wakes_here", "_law_one"]) (sc := defScope s_law) (by decide +kernel)) (fun _ _ _ _ _ => (pg_name (i := 14) sc_law.nd rfl (Or.inl rfl))) (fun _ _ _ _ _ => pts_nil) (fun _ _ _ _ _ => (q_call (ok_play T) (hr.mono (by decide)) rfl T.g_play T.k_play T.b_play pass0 (pa_cons (qv 3) (pa_cons (qv 2) (pa_cons (qv 14) pa_nil))))))
    (qs_cons (q_for PassesOwn.never rfl (qi_r1 (by rfl) T.m_range (pa_cons (pe_callB (cr_max rfl) (by rfl) T.m_max (by decide +kernel) (pa_cons (q_lc (own := [("_law_one", 15)]) (g := gName 15) (tt := tYes) rfl sc_law.nd (qi_list (qv 7)) (blkOk_by (own := [("_law_one", 15)]) (N := ["_law_script", "_law_d", "_law_many_here", "_law_rule_here", "_law_some", "_law_airs", "_law_k", "_law_told", "_law_now", "_law_word", "_law_rows_here", "_law_around", "_law_at", "_law_number", "_law_wakes_here", "_law_one"]) (sc := defScope s_law) (by decide +kernel)) (fun _ _ _ _ _ => (pg_name (i := 15) sc_law.nd rfl (Or.inl rfl))) (fun _ _ _ _ _ => pts_nil) (fun _ _ _ _ _ => (pe_op o_add (pe_callB c_len (by rfl) T.m_len (by decide +kernel) (pa_cons (pe_ix ix_T (qv 15) pe_int (fun _ _ => rfl)) pa_nil)) (pe_op o_mul pe_int (pe_ix ix_T (qv 15) pe_int (fun _ _ => rfl)))))) pa_nil)) pa_nil)) (pg_name (i := 8) sc_law.nd rfl (Or.inl rfl)) (pss_one (q_for PassesOwn.never rfl (qi_r1 (by rfl) T.m_range (pa_cons pe_int pa_nil)) (pg_name (i := 6) sc_law.nd rfl (Or.inl rfl)) (qs_cons (ps_asg (pe_ix ix_L (qv 7) (qv 6) (fun _ _ => rfl)) (q_gtup (n := 3) rfl (q_gcons (pg_name (i := 9) sc_law.nd rfl (Or.inl rfl)) (q_gcons (pg_name (i := 10) sc_law.nd rfl (Or.inl rfl)) (q_gcons (pg_name (i := 11) sc_law.nd rfl (Or.inl rfl)) q_gnil)))))
    (qs_cons (ps_set (i := 12) sc_law.nd rfl (Or.inl rfl) (qv 8))
    (qs_cons (q_cut (q_if (PW.pt (pw_and (q_cmp o_ge (qv 8) (pe_callB c_len (by rfl) T.m_len (by decide +kernel) (pa_cons (qv 10) pa_nil)) (nomark _)) (pw_and1 (q_cmp o_gt (qv 11) pe_int (nomark _))))) (pss_one (ps_set (i := 12) sc_law.nd rfl (Or.inl rfl) (pe_op o_add (pe_op o_sub (pe_callB c_len (by rfl) T.m_len (by decide +kernel) (pa_cons (qv 10) pa_nil)) (qv 11)) (pe_op o_mod (pe_op o_sub (qv 8) (pe_callB c_len (by rfl) T.m_len (by decide +kernel) (pa_cons (qv 10) pa_nil))) (qv 11))))) pss_nil))
    (pss_one (q_if (q_cmp o_lt (qv 8) (pe_op o_add (pe_callB c_len (by rfl) T.m_len (by decide +kernel) (pa_cons (qv 10) pa_nil)) (pe_op o_mul pe_int (qv 11))) (nomark _)) (pss_one (q_if (pt_not (q_val (q_call (ok_alike T 4) (hr.mono (by decide)) rfl T.g__law_alike T.k__law_alike T.b__law_alike pass0 (pa_cons (q_call (ok__law_moment T) (hr.mono (by decide)) rfl T.g__law_moment T.k__law_moment T.b__law_moment pass0 (pa_cons (pe_ix ix_L (qv 5) (qv 6) (fun _ _ => rfl)) (pa_cons (pe_ix ix_L (qv 4) (qv 6) (fun _ _ => rfl)) (pa_cons (qv 8) pa_nil)))) (pa_cons (pe_ix ix_L (qv 10) (qv 12) (fun _ _ => rfl)) pa_nil))))) (pss_one (ps_ret pe_bl)) pss_nil)) pss_nil))))))))
    (pss_one (ps_ret pe_bl)))))))))), ?_⟩
  dsimp! []
  refine ⟨a0, ns, rfl, hS, hl, fun d H1 sm1 hd D1 => ?_⟩
  dsimp! []
  refine ⟨d, rfl, D1, fun many H2 m1 m8 k2 D2 => ?_⟩
  dsimp! []
  refine ⟨d, many, rfl, D2, m1, m8, fun a R H3 ha k3 D3 hR okR => ?_⟩
  dsimp! []
  refine ⟨d, many, rfl, D3, m1, m8, fun w0 wl0 H4 hw0 k4 D4 hW0 wok0 => ?_⟩
  dsimp! []
  refine ⟨d, many, rfl, D4, m1, m8, fun w1 wl1 H5 hw1 k5 D5 hW1 wok1 => ?_⟩
  dsimp! []
  have dw0 : d ≠ w0 := by
    obtain ⟨o, e⟩ := D3.some
    exact ne_of_none e hw0
  have dw1 : d ≠ w1 := by
    obtain ⟨o, e⟩ := D4.some
    exact ne_of_none e hw1
  have rt5 : RT A R H5 := (((((show RT A R H from hT.rt).same sm1).drawn D1 k2).drawn D2 k3).drawn D3 k4).drawn D4 k5
  have hR5 : RuleAt H5 a R := by
    have key : ∀ {H H' : Hp} {a : Addr}, DrawAt H d → RuleAt H a R → KeptD d H H' → RuleAt H' a R := fun {H H' a} D h k => by
      obtain ⟨ms, eD, _⟩ := D
      cases R with
      | turns => exact k _ _ h (ne_of h eD (by simp))
      | rows rs =>
        obtain ⟨b, h1, h2⟩ := h
        exact ⟨b, k _ _ h1 (ne_of h1 eD (by simp)), k _ _ h2 (ne_of h2 eD (by simp))⟩
      | tree sk jn => exact k _ _ h (ne_of h eD (by simp))
      | waits b => exact k _ _ h (ne_of h eD (by simp))
    exact key D4 (key D3 hR k4) k5
  have hW05 := k5 _ _ hW0 dw0.symm
  clear sm1 hd D1 k2 D2 ha k3 D3 hR hw0 k4 D4 hW0 hw1 k5 D5 hT
  refine ⟨by decide, fun p hp => ?_⟩
  have sm6 : Same H5 (upd H5 p (.lst [.ref w0, .ref w1])) := Same.new hp
  have hp6 : (upd H5 p (.lst [.ref w0, .ref w1])) p = some (.lst [.ref w0, .ref w1]) := upd_same
  have g6 := Gr.same sm6 rt5
  generalize upd H5 p (.lst [.ref w0, .ref w1]) = H6 at *
  have hR6 := g6.rule hR5
  have hW06 := sm6 _ _ hW05
  have hW16 := sm6 _ _ hW1
  clear hp hR5 hW05 hW1 sm6
  have rt6 := g6.rt
  clear g6 rt5
  dsimp! []
  refine ⟨Nat.zero_le _, fun e he => ?_⟩
  dsimp! []
  refine ⟨⟨by decide, by decide⟩, _, _, _, fun i σ H' => ∃ (airs : List (Addr × List (Addr × Addr))) (v6 v13 : Option V), airs.length = i ∧ σ = [some (.ref a0), some (.ref d), some (.int many), some (.ref a), some (.ref p), some (.ref e), v6, none, none, none, none, none, none, v13, none, none] ∧ Gr A R H6 H' ∧
    H' e = some (.lst (airs.map fun x => .ref x.1)) ∧ (∀ x ∈ airs, x.1 ≠ e ∧ H' x.1 = some (.lst (x.2.map fun p => .ref p.1)) ∧ AllAt A H' x.2 (initM R many) ∧ Apart x.2 ∧ x.2.length = many ∧ NoLean x.2 H' e) ∧ (airs.Pairwise fun x y => Far x.2 y.2), walk_range (lo := 0) (n := 2), ?_, fun _ _ _ _ _ => True.intro, ?_, ?_⟩
  · exact ⟨[], none, none, rfl, rfl, (Gr.refl rt6).trans (Gr.same (Same.new he) rt6), upd_same, fun x hx => by simp at hx, List.Pairwise.nil⟩
  · rintro i x σ H2 H3 hi ⟨airs, v6, v13, hai, rfl, g2, he2, okA, far⟩ ⟨rfl, rfl⟩
    have n62 : (many : Int) < 2 ^ 62 := by omega
    have rt3 := g2.rt
    have hR3 := g2.rule hR6
    generalize hHs : H3 = Hs at *
    dsimp! [he2]
    refine ⟨⟨by omega, n62⟩, fun L hL => ⟨many, _, _, fun j H4 => ∃ ps : List (Addr × Addr), ps.length = j ∧ H4 L = some (.lst (ps.map fun p => .ref p.1)) ∧ AllAt A H4 ps (initM R many) ∧ Apart ps ∧ Gr A R Hs H4 ∧ NoLean ps H4 L ∧ (∀ p ∈ ps, Hs p.1 = none ∧ Hs p.2 = none) ∧ ∀ p ∈ ps, ∀ b, Leans H4 p.2 b → Hs b = none, walk_range (lo := 0) (n := many), ?_, fun _ _ _ _ => True.intro, ?_, ?_⟩⟩
    · exact ⟨[], rfl, upd_same, fun j p h => by simp at h, fun i j p p' h => by simp at h, Gr.same (Same.new hL) rt3, fun p h => by simp at h, fun p h => by simp at h, fun p h => by simp at h⟩
    · rintro j y H4_ H4 hj ⟨ps, hl, hL4, S4, ap, g4, nl, new, ln⟩ ⟨rfl, rfl⟩ x dx hx hdx nx
      have e0 : (0 : Int) + (j : Nat) = (j : Nat) := Int.zero_add _
      simp only [e0]
      have sm : Same H4 (upd (upd H4 dx (.own x)) x (.ins A.c_Station dx [])) := fun b o e => by
        rw [upd_ne (ne_of_none e hx), upd_ne (ne_of_none e hdx)]
        exact e
      have gm := Gr.same sm g4.rt
      refine ⟨x, dx, a, many, j, R, rfl, upd_same, (gm.rule (g4.rule hR3)), okR, hj, m8, gm.rt, fun q Ht H5 t5 k5 hq S5 hl5 => ⟨rfl, ?_⟩⟩
      have gt := gm.trans (Gr.tbd t5 gm.rt)
      have obx : Ht x = some (.ins A.c_Station dx []) := t5.get gm.rt upd_same fun _ z => by cases z
      have g5 : Gr A R H4 H5 := ⟨fun b o e n => k5 b o (gt.keep b o e n) (ne_of_none e hx), gt.rt.keep (fun b ps e => k5 _ _ e fun z => (by rw [z, obx] at e; cases e)), fun b e => by
        refine gt.back b ?_
        by_cases z : b = x
        · obtain ⟨dy, oy⟩ := S5.ob
          rw [z, oy] at e
          cases e
        · cases q2 : Ht b with
          | none => rfl
          | some o => rw [k5 _ _ q2 z] at e; cases e⟩
      have hL5 := g5.keep _ _ hL4 fun _ z => by cases z
      have hlen : (ps.map fun p => V.ref p.1).length = j := by rw [List.length_map, hl]
      have S5' : AllAt A H5 (ps ++ [(x, q)]) (initM R many) := fun i p hi => by
        rcases Nat.lt_or_ge i ps.length with h | h
        · rw [List.getElem?_append_left h] at hi
          exact (S4 i p hi).gr g5
        · rw [List.getElem?_append_right h] at hi
          have hi0 : i - ps.length = 0 := by
            cases e : i - ps.length with
            | zero => rfl
            | succ m => rw [e] at hi; simp at hi
          rw [hi0] at hi
          cases hi
          have : i = j := by omega
          rw [this]
          exact S5
      have hq4 : H4 q = none := by
        cases z : H4 q with
        | none => rfl
        | some o => rw [sm _ _ z] at hq; cases hq
      have old : ∀ (i : Nat) (p : Addr × Addr), ps[i]? = some p → x ≠ p.1 ∧ x ≠ p.2 ∧ q ≠ p.1 ∧ q ≠ p.2 := fun i p hi => by
        have Sp := S4 i p hi
        obtain ⟨d1, o1⟩ := Sp.ob
        obtain ⟨C2, d2, f2, o2⟩ := Sp.wy.ins
        exact ⟨(ne_of_none o1 hx).symm, (ne_of_none o2 hx).symm, (ne_of_none o1 hq4).symm, (ne_of_none o2 hq4).symm⟩
      have ap' : Apart (ps ++ [(x, q)]) := by
        have last : ∀ (j : Nat) (p : Addr × Addr), (ps ++ [(x, q)])[j]? = some p → (j < ps.length ∧ ps[j]? = some p) ∨ (j = ps.length ∧ p = (x, q)) := fun j p hj => by
          rcases Nat.lt_or_ge j ps.length with h | h
          · rw [List.getElem?_append_left h] at hj
            exact .inl ⟨h, hj⟩
          · rw [List.getElem?_append_right h] at hj
            have hj0 : j - ps.length = 0 := by
              cases e : j - ps.length with
              | zero => rfl
              | succ m => rw [e] at hj; simp at hj
            rw [hj0] at hj
            cases hj
            exact .inr ⟨by omega, rfl⟩
        intro i1 j1 p p' h1 h2 ne
        rcases last i1 p h1 with ⟨_, g1⟩ | ⟨e1, rfl⟩
        · rcases last j1 p' h2 with ⟨_, g2⟩ | ⟨e2, rfl⟩
          · exact ap i1 j1 p p' g1 g2 ne
          · exact old i1 p g1
        · rcases last j1 p' h2 with ⟨_, g2⟩ | ⟨e2, rfl⟩
          · obtain ⟨a1, a2, a3, a4⟩ := old j1 p' g2
            exact ⟨a1.symm, a3.symm, a2.symm, a4.symm⟩
          · omega
      have nl5 : NoLean (ps ++ [(x, q)]) H5 L := fun p hp hle => by
        rcases List.mem_append.mp hp with hp | hp
        · exact NoLean.gr S4 g5 nl p hp hle
        · have : p = (x, q) := by simpa using hp
          subst this
          have := hl5 L hle
          rw [sm _ _ hL4] at this
          cases this
      dsimp! [hL5]
      refine ⟨by rw [hlen, sizeLine_eq]; omega, ps ++ [(x, q)], ?_, ?_, S5'.put hL5 rfl nl5, ap', ((g4.trans g5).put hL hL5 (fun _ z => by cases z)), NoLean.put S5' nl5 hL5 rfl, fun p hp => ?_, fun p hp b hle => ?_⟩
      · rw [List.length_append, List.length_singleton, hl]
      · rw [List.map_append]
        rfl
      · rcases List.mem_append.mp hp with hp | hp
        · exact new p hp
        · have : p = (x, q) := by simpa using hp
          subst this
          exact ⟨g4.back _ hx, g4.back _ hq4⟩
      · obtain ⟨ip, hip⟩ := List.getElem?_of_mem hp
        have Sp := S5' ip p hip
        rw [Leans.put (Sp.off hL5 rfl).2.symm] at hle
        rcases List.mem_append.mp hp with hp | hp
        · obtain ⟨k2, hk2⟩ := List.getElem?_of_mem hp
          exact ln p hp b (Leans.gr (S4 k2 p hk2).wy g5 hle)
        · have : p = (x, q) := by simpa using hp
          subst this
          have hb := hl5 b hle
          refine g4.back b ?_
          cases z : H4 b with
          | none => rfl
          | some o => rw [sm _ _ z] at hb; cases hb
    · rintro H4 ⟨ps, hl, hL4, S4, ap, g4, nl, new, ln⟩
      have he4 := g4.keep _ _ he2 fun _ z => by cases z
      have nle : NoLean ps H4 e := fun p hp hle => by
        have := ln p hp e hle
        rw [he2] at this
        cases this
      dsimp! [he4]
      have e0 : (0 : Int) + (i : Nat) = (i : Nat) := Int.zero_add _
      have neL : L ≠ e := ne_of_none he2 hL |>.symm
      refine ⟨by rw [List.length_map, hai, sizeLine_eq]; omega, airs ++ [(L, ps)], _, _, by rw [List.length_append, hai]; rfl, rfl, ((g2.trans g4).put he he4 (fun _ z => by cases z)), by rw [List.map_append]; rfl, fun x hx => ?_, ?_⟩
      · rcases List.mem_append.mp hx with hx | hx
        · obtain ⟨a1, a2, a3, a4, a5, a6⟩ := okA x hx
          have n4 := NoLean.gr a3 g4 a6
          have S4x := a3.gr g4
          exact ⟨a1, by rw [upd_ne a1]; exact g4.keep _ _ a2 (fun _ z => by cases z), S4x.put he4 rfl n4, a4, a5, NoLean.put S4x n4 he4 rfl⟩
        · have : x = (L, ps) := by simpa using hx
          subst this
          exact ⟨neL, by rw [upd_ne neL]; exact hL4, S4.put he4 rfl nle, ap, hl, NoLean.put S4 nle he4 rfl⟩
      · rw [List.pairwise_append]
        refine ⟨far, List.pairwise_singleton _ _, fun x hx y hy => ?_⟩
        have : y = (L, ps) := by simpa using hy
        subst this
        obtain ⟨_, _, a3, _⟩ := okA x hx
        intro p hp p' hp'
        obtain ⟨ip, hip⟩ := List.getElem?_of_mem hp
        have Sp := a3 ip p hip
        obtain ⟨d1, o1⟩ := Sp.ob
        obtain ⟨C2, d2, f2, o2⟩ := Sp.wy.ins
        obtain ⟨n1, n2⟩ := new p' hp'
        exact ⟨ne_of_none o1 n1, ne_of_none o1 n2, ne_of_none o2 n1, ne_of_none o2 n2⟩
  · rintro σ H2 ⟨airs, v6, v13, hai, rfl, g2, he2, okA, far⟩
    obtain ⟨x0, x1, rfl⟩ : ∃ x0 x1, airs = [x0, x1] := by
      match airs, hai with
      | [x0, x1], _ => exact ⟨x0, x1, rfl⟩
    obtain ⟨_, hL0, S0, ap0, l0, _⟩ := okA x0 (by simp)
    obtain ⟨_, hL1, S1, ap1, l1, _⟩ := okA x1 (by simp)
    have far01 : Far x0.2 x1.2 := by simpa using far
    have hp2 := g2.keep _ _ hp6 fun _ z => by cases z
    have hW02 := g2.keep _ _ hW06 fun _ z => by cases z
    have hW12 := g2.keep _ _ hW16 fun _ z => by cases z
    have hR2 := g2.rule hR6
    have rt2 := g2.rt
    clear okA far g2 hp6 hW06 hW16 hR6 rt6 he hai
    obtain ⟨n0, hn0⟩ := ends_all R many wl0 okR m1 m8 wok0
    obtain ⟨n1, hn1⟩ := ends_all R many wl1 okR m1 m8 wok1
    have two : ∀ {P : Nat → Prop}, P 0 → P 1 → ∀ k, k < 2 → P k := fun {P} h0 h1 k hk => by
      match k, hk with
      | 0, _ => exact h0
      | 1, _ => exact h1
    have hWk : ∀ k, k < 2 → H2 (pick2 w0 w1 k) = some (.dK (wkv (pick2 wl0 wl1 k))) := two hW02 hW12
    have wokk : ∀ k, k < 2 → WOk many (pick2 wl0 wl1 k) := two wok0 wok1
    have endk : ∀ k, k < 2 → EndsAt R many (pick2 wl0 wl1 k) (pick2 n0 n1 k) := two hn0 hn1
    dsimp! [hp2]
    intro q hq
    refine ⟨_, _, _, fun i H' => ∃ Ts : List (Addr × Nat), Ts.length = i ∧ H' q = some (.lst (Ts.map fun x => .ref x.1)) ∧ Gr A R H2 H' ∧ ∀ j x, Ts[j]? = some x → (∃ (t : Addr) (wd : Str), t ≠ q ∧ H' x.1 = some (.tup [.str wd, .ref t, .int x.2]) ∧ ToldAt H' t (rowsTo R many (pick2 wl0 wl1 j) (pick2 n0 n1 j))) ∧ ArOk R many (pick2 wl0 wl1 j) (pick2 n0 n1 j) x.2, walk_list (K := K) (a := p) (xs := [.ref w0, .ref w1]), ⟨[], rfl, upd_same, Gr.same (Same.new hq) rt2, fun j x h => by simp at h⟩, fun i H' _ ⟨_, _, _, g, _⟩ => SqL.of (g.keep _ _ hp2 fun _ z => by cases z), ?_, ?_⟩
    · rintro i x H3 H4 hi ⟨Ts, hTl, hq3, g3, okT⟩ ⟨rfl, hx⟩
      have hx' : x = .ref (pick2 w0 w1 i) := by
        match i, hi, hx with
        | 0, _, hx => exact (Option.some.inj hx).symm
        | 1, _, hx => exact (Option.some.inj hx).symm
      subst hx'
      have hi2 : i < 2 := hi
      refine ⟨a, pick2 w0 w1 i, many, pick2 n0 n1 i, R, pick2 wl0 wl1 i, rfl, g3.rule hR2, okR, m1, m8, g3.keep _ _ (hWk i hi2) fun _ z => (by cases z), wokk i hi2, endk i hi2, g3.rt, fun H5 T0 t H6 t5 s6 ht told hh hf => ?_⟩
      have g5 := Gr.tbd t5 g3.rt
      have g6 := (g5.trans (Gr.same s6 g5.rt))
      have hq6 := g6.keep _ _ hq3 fun _ z => by cases z
      obtain ⟨ar, wd, hT6, hAr⟩ : ∃ (ar : Nat) (wd : Str), H6 T0 = some (.tup [.str wd, .ref t, .int ar]) ∧ ArOk R many (pick2 wl0 wl1 i) (pick2 n0 n1 i) ar := by
        by_cases z : (pick2 wl0 wl1 i).length ≤ heardN R many (pick2 wl0 wl1 i) (pick2 n0 n1 i)
        · exact ⟨0, _, hh z, .inl rfl⟩
        · obtain ⟨m, ag, hT⟩ := hf z
          have hm := ag.2.1
          exact ⟨pick2 n0 n1 i - m, _, by rw [hT, Int.ofNat_sub (Nat.le_of_lt hm)], .inr ⟨m, ag, rfl⟩⟩
      have hlen : (Ts.map fun x => V.ref x.1).length = i := by rw [List.length_map, hTl]
      dsimp! [hq6]
      have kp : ∀ b o, H6 b = some o → isIns o = false → b ≠ q → (upd H6 q (.lst ((Ts.map fun x => V.ref x.1) ++ [V.ref T0]))) b = some o := fun b o e _ n => by rw [upd_ne n]; exact e
      have ToldAt.mv : ∀ {t : Addr} {rows : List Row}, t ≠ q → ToldAt H6 t rows → ToldAt (upd H6 q (.lst ((Ts.map fun x => V.ref x.1) ++ [V.ref T0]))) t rows := fun {t rows} ne h => by
        obtain ⟨as, h1, h2, h3⟩ := h
        refine ⟨as, kp _ _ h1 rfl ne, h2, fun i a r e1 e2 => ?_⟩
        obtain ⟨s, q1, q2⟩ := h3 i a r e1 e2
        exact ⟨s, kp _ _ q1 rfl (ne_of q1 hq6 (by simp)), kp _ _ q2 rfl (ne_of q2 hq6 (by simp))⟩
      have neT : ∀ b xs, H6 b = some (.tup xs) → b ≠ q := fun b xs e => ne_of e hq6 (by simp)
      have htq : t ≠ q := fun z => by
        have := g5.keep _ _ hq3 fun _ z => by cases z
        rw [z, this] at ht
        cases ht
      refine ⟨by rw [hlen, sizeLine_eq]; omega, Ts ++ [(T0, ar)], by rw [List.length_append, hTl]; rfl, by rw [List.map_append]; rfl, (g3.trans g6).put hq hq6 (fun _ z => by cases z), fun j x hj => ?_⟩
      rcases Nat.lt_or_ge j Ts.length with h | h
      · rw [List.getElem?_append_left h] at hj
        obtain ⟨⟨t', wd', ne', h1, h2⟩, h3⟩ := okT j x hj
        have h1' := g6.keep _ _ h1 fun _ z => by cases z
        exact ⟨⟨t', wd', ne', kp _ _ h1' rfl (neT _ _ h1'), ToldAt.mv ne' (h2.keep fun b o e _ n => g6.keep _ _ e n)⟩, h3⟩
      · rw [List.getElem?_append_right h] at hj
        have hj0 : j - Ts.length = 0 := by
          cases e : j - Ts.length with
          | zero => rfl
          | succ m => rw [e] at hj; simp at hj
        rw [hj0] at hj
        cases hj
        have : j = i := by omega
        subst this
        exact ⟨⟨t, wd, htq, kp _ _ hT6 rfl (neT _ _ hT6), ToldAt.mv htq told⟩, hAr⟩
    · rintro H3 ⟨Ts, hTl, hq3, g3, okT⟩
      obtain ⟨y0, y1, rfl⟩ : ∃ x0 x1, Ts = [x0, x1] := by
        match Ts, hTl with
        | [x0, x1], _ => exact ⟨x0, x1, rfl⟩
      have tk := two (P := fun k => (∃ (t : Addr) (wd : Str), H3 (pick2 y0.1 y1.1 k) = some (.tup [.str wd, .ref t, .int (pick2 y0.2 y1.2 k : Nat)]) ∧ ToldAt H3 t (rowsTo R many (pick2 wl0 wl1 k) (pick2 n0 n1 k))) ∧ ArOk R many (pick2 wl0 wl1 k) (pick2 n0 n1 k) (pick2 y0.2 y1.2 k))
        (by obtain ⟨⟨t, wd, _, h1, h2⟩, h3⟩ := okT 0 y0 rfl; exact ⟨⟨t, wd, h1, h2⟩, h3⟩) (by obtain ⟨⟨t, wd, _, h1, h2⟩, h3⟩ := okT 1 y1 rfl; exact ⟨⟨t, wd, h1, h2⟩, h3⟩)
      have F3 : AirF H3 R many p e q (pick2 w0 w1) (pick2 x0.1 x1.1) (pick2 y0.1 y1.1) (pick2 wl0 wl1) (pick2 x0.2 x1.2) (pick2 n0 n1) (pick2 y0.2 y1.2) := by
        refine ⟨g3.keep _ _ hp2 fun _ z => (by cases z), g3.keep _ _ he2 fun _ z => (by cases z), hq3, fun k hk => g3.keep _ _ (hWk k hk) fun _ z => (by cases z), two ?_ ?_, fun k hk => (tk k hk).1⟩
        · exact g3.keep _ _ hL0 fun _ z => by cases z
        · exact g3.keep _ _ hL1 fun _ z => by cases z
      have arok : ∀ k, k < 2 → ArOk R many (pick2 wl0 wl1 k) (pick2 n0 n1 k) (pick2 y0.2 y1.2 k) := fun k hk => (tk k hk).2
      have Sk3 : ∀ k, k < 2 → AllAt A H3 (pick2 x0.2 x1.2 k) (initM R many) := two (S0.gr g3) (S1.gr g3)
      have apk : ∀ k, k < 2 → Apart (pick2 x0.2 x1.2 k) := two ap0 ap1
      have lenk : ∀ k, k < 2 → (pick2 x0.2 x1.2 k).length = many := two l0 l1
      have far10 : Far x1.2 x0.2 := fun p hp q hq => by
        obtain ⟨a1, a2, a3, a4⟩ := far01 q hq p hp
        exact ⟨a1.symm, a3.symm, a2.symm, a4.symm⟩
      clear hW02 hW12 hWk hL0 hL1 S0 S1 ap0 ap1 l0 l1 he2 hp2 g3 tk okT hq hTl hn0 hn1
      have hq3 := F3.told
      have nk : ∀ k, k < 2 → pick2 n0 n1 k ≤ 900 := fun k hk => (endk k hk).few
      have ark : ∀ k, k < 2 → pick2 y0.2 y1.2 k ≤ pick2 n0 n1 k := fun k hk => by
        rcases arok k hk with h | ⟨m, _, h⟩ <;> omega
      generalize hW : pick2 w0 w1 = W at *
      generalize hLs : pick2 x0.1 x1.1 = Ls at *
      generalize hTT : pick2 y0.1 y1.1 = TT at *
      generalize hWL : pick2 wl0 wl1 = WLk at *
      generalize hPS : pick2 x0.2 x1.2 = PS at *
      generalize hN : pick2 n0 n1 = N at *
      generalize hAR : pick2 y0.2 y1.2 = AR at *
      have hTT0 : y0.1 = TT 0 := by rw [← hTT]; rfl
      have hTT1 : y1.1 = TT 1 := by rw [← hTT]; rfl
      have farP : ∀ k k', k < 2 → k' < 2 → k ≠ k' → Far (PS k) (PS k') := fun k k' hk hk' ne => by
        rw [← hPS]
        match k, k', hk, hk', ne with
        | 0, 0, _, _, ne => exact absurd rfl ne
        | 0, 1, _, _, _ => exact far01
        | 1, 0, _, _, _ => exact far10
        | 1, 1, _, _, ne => exact absurd rfl ne
      dsimp! [hq3]
      intro D hD
      refine ⟨_, _, _, fun i H' => ∃ Es : List Int, Es.length = i ∧ H' D = some (.lst (Es.map V.int)) ∧ Same H3 H' ∧ ∀ y ∈ Es, 0 ≤ y ∧ y ≤ 4000, walk_list (K := K) (a := q) (xs := [.ref (TT 0), .ref (TT 1)]), ⟨[], rfl, upd_same, Same.new hD, fun y h => by simp at h⟩, fun i H' _ ⟨_, _, _, g, _⟩ => SqL.of (g _ _ F3.told), ?_, ?_⟩
      · rintro i x H4_ H4 hi ⟨Es, hEl, hD4, g4, okE⟩ ⟨rfl, hx⟩
        have hi2 : i < 2 := hi
        have hx' : x = .ref (TT i) := by
          match i, hi, hx with
          | 0, _, hx => exact (Option.some.inj hx).symm
          | 1, _, hx => exact (Option.some.inj hx).symm
        subst hx'
        obtain ⟨t, wd, hT, as, ht, hla, _⟩ := F3.td i hi2
        have hT4 := g4 _ _ hT
        have ht4 := g4 _ _ ht
        have e1 : atI [V.str wd, V.ref t, V.int (AR i : Nat)] 1 = some (V.ref t) := rfl
        have e2 : atI [V.str wd, V.ref t, V.int (AR i : Nat)] 2 = some (V.int (AR i : Nat)) := rfl
        have hl : (as.map V.ref).length = N i := by rw [List.length_map, hla]; simp [rowsTo]
        have := nk i hi2
        have := ark i hi2
        dsimp! [hT4, e1, e2, ht4, hl, hD4]
        refine ⟨by unfold CMul; omega, by rw [List.length_map, hEl, sizeLine_eq]; omega, Es ++ [(N i : Int) + 3 * (AR i : Int)], by rw [List.length_append, hEl]; rfl, by rw [List.map_append]; rfl, fun b o e => ?_, fun y hy => ?_⟩
        · rw [upd_ne (ne_of_none e hD)]
          exact g4 _ _ e
        · rcases List.mem_append.mp hy with hy | hy
          · exact okE y hy
          · have : y = (N i : Int) + 3 * (AR i : Int) := by simpa using hy
            omega
      · rintro H4 ⟨Es, hEl, hD4, g4, okE⟩
        refine ⟨D, Es, rfl, SqL.of hD4, by rw [hEl]; exact Nat.zero_lt_two, fun M hM _ => ?_⟩
        obtain ⟨M0, M4⟩ := okE M hM
        have F4 := F3.keep fun b o e _ _ => g4 b o e
        have S4 : ∀ k, k < 2 → AllAt A H4 (PS k) (initM R many) := fun k hk => (Sk3 k hk).same g4
        clear F3 Sk3 hD4 okE hEl g4 hD hq3
        dsimp! []
        refine ⟨⟨by omega, by omega⟩, _, _, _, fun now σ H => ∃ (v6 v8 v9 v10 v11 v12 v13 : Option V), σ = [some (.ref a0), some (.ref d), some (.int many), some (.ref a), some (.ref p), some (.ref e), v6, some (.ref q), v8, v9, v10, v11, v12, v13, none, none] ∧
          AirF H R many p e q W Ls TT WLk PS N AR ∧ ∀ k, k < 2 → AllAt A H (PS k) (sysF R many (WLk k) (min now (N k + 3 * AR k))), walk_range (lo := 0) (n := M.toNat), ?_, fun _ _ _ _ _ => True.intro, ?_, ?_⟩
        · refine ⟨_, _, _, _, _, _, _, rfl, F4, fun k hk => ?_⟩
          rw [Nat.zero_min]
          exact S4 k hk
        · rintro now x σ H5_ H5 hnow ⟨v6, v8, v9, v10, v11, v12, v13, rfl, F5, S5⟩ ⟨rfl, rfl⟩
          have e0 : (0 : Int) + (now : Nat) = (now : Nat) := Int.zero_add _
          dsimp! [e0]
          refine ⟨⟨by decide, by decide⟩, _, _, _, fun i σ H => ∃ (v6 v9 v10 v11 v12 v13 : Option V), σ = [some (.ref a0), some (.ref d), some (.int many), some (.ref a), some (.ref p), some (.ref e), v6, some (.ref q), some (.int now), v9, v10, v11, v12, v13, none, none] ∧
            AirF H R many p e q W Ls TT WLk PS N AR ∧ ∀ k, k < 2 → AllAt A H (PS k) (sysF R many (WLk k) (min (now + if k < i then 1 else 0) (N k + 3 * AR k))), walk_range (lo := 0) (n := 2), ?_, fun _ _ _ _ _ => True.intro, ?_, ?_⟩
          · exact ⟨_, _, _, _, _, _, rfl, F5, fun k hk => by rw [if_neg (by omega)]; exact S5 k hk⟩
          · rintro i x σ H6_ H6 hi ⟨u6, u9, u10, u11, u12, u13, rfl, F6, S6⟩ ⟨rfl, rfl⟩
            have e1 : (0 : Int) + (i : Nat) = (i : Nat) := Int.zero_add _
            have aT : atI [V.ref (TT 0), V.ref (TT 1)] (i : Int) = some (V.ref (TT i)) := two (P := fun i => atI [V.ref (TT 0), V.ref (TT 1)] (i : Int) = some (V.ref (TT i))) rfl rfl i hi
            have aL : atI [V.ref (Ls 0), V.ref (Ls 1)] (i : Int) = some (V.ref (Ls i)) := two (P := fun i => atI [V.ref (Ls 0), V.ref (Ls 1)] (i : Int) = some (V.ref (Ls i))) rfl rfl i hi
            have aW : atI [V.ref (W 0), V.ref (W 1)] (i : Int) = some (V.ref (W i)) := two (P := fun i => atI [V.ref (W 0), V.ref (W 1)] (i : Int) = some (V.ref (W i))) rfl rfl i hi
            obtain ⟨t, wd, hT, as, ht, hla, hrow⟩ := F6.td i hi
            have hq6 := F6.told
            have hl : (as.map V.ref).length = N i := by rw [List.length_map, hla]; simp [rowsTo]
            dsimp! [e1, hq6, aT, hT, ht, hl]
            have nki := nk i hi
            have arki := ark i hi
            refine ⟨fun σ H' => σ = [some (.ref a0), some (.ref d), some (.int many), some (.ref a), some (.ref p), some (.ref e), some (.int i), some (.ref q), some (.int now), some (.str wd), some (.ref t), some (.int (AR i)), some (.int (atN (N i) (AR i) now : Nat)), u13, none, none] ∧ H' = H6, ?_, ?_⟩
            · rintro σ H' ⟨rfl, rfl⟩
              dsimp! [hq6, aT, hT, ht, hl]
              have ifk : ∀ k, k ≠ i → (if k < i + 1 then 1 else 0) = (if k < i then 1 else 0) := fun k ne => by
                by_cases z : k < i
                · rw [if_pos z, if_pos (by omega)]
                · rw [if_neg z, if_neg (by omega)]
              refine ⟨by unfold CMul; omega, ite2 (fun c => ?_) (fun c => ?_)⟩
              · have hlt : now < N i + 3 * AR i := by omega
                have Si : AllAt A H' (PS i) (sysF R many (WLk i) now) := by
                  have := S6 i hi
                  rw [if_neg (by omega), Nat.min_eq_left (by omega)] at this
                  exact this
                have ha6 := F6.airs
                have hs6 := F6.some_
                dsimp! [ha6, hs6, aL, aW]
                refine ⟨Ls i, W i, PS i, sysF R many (WLk i) now, WLk i, now, rfl, F6.st i hi, F6.wk i hi, Si, apk i hi, by rw [lenk i hi]; exact m8, fun j hj => ?_, fun T1 s1 H7 mv hT1 hs1 S7 => ?_⟩
                · have := sysF_ok (wl := WLk i) okR m8 now j (by rw [← lenk i hi]; exact hj)
                  exact ⟨this.1, by have := this.2; omega⟩
                have F7 := F6.keep fun b o e n _ => Si.off mv.kept e n
                rw [lenk i hi] at hT1 hs1 S7
                have hat : atN (N i) (AR i) now < N i := by
                  unfold atN
                  split
                  · rename_i z
                    have := Nat.mod_lt (now - N i) z.2
                    omega
                  · omega
                have hrr : rowAt R many (WLk i) now = rowAt R many (WLk i) (atN (N i) (AR i) now) := by
                  unfold atN
                  split
                  · rename_i z
                    rcases arok i hi with h | ⟨m, ag, h⟩
                    · omega
                    · rw [row_round ag z.1, h, show N i - (N i - m) = m by have := ag.2.1; omega]
                  · rfl
                have has : as.length = N i := by rw [← hl, List.length_map]
                obtain ⟨a8, ha8⟩ : ∃ a8, as[atN (N i) (AR i) now]? = some a8 := ⟨_, List.getElem?_eq_getElem (by rw [has]; exact hat)⟩
                obtain ⟨s8, h8, h8s⟩ := hrow _ a8 (rowAt R many (WLk i) (atN (N i) (AR i) now)) ha8 (by unfold rowsTo; rw [List.getElem?_map, List.getElem?_range hat]; rfl)
                rw [← hrr] at h8 h8s
                have h8 := Si.off mv.kept h8 rfl
                have h8s := Si.off mv.kept h8s rfl
                have ht7 := Si.off mv.kept ht rfl
                have aA : atI (as.map V.ref) (atN (N i) (AR i) now : Int) = some (V.ref a8) := atI_nat (by rw [List.getElem?_map, ha8]; rfl)
                dsimp! [ht7, aA]
                have sl : (spkAt R many (WLk i) now).length ≤ 10000 := by
                  have : (spkAt R many (WLk i) now).length ≤ many := by
                    unfold spkAt spkF
                    exact Nat.le_trans (List.length_filter_le _ _) (by rw [List.length_range]; exact Nat.le_refl _)
                  omega
                have alk : Alike H7 4 (.ref T1) (.ref a8) := by
                  refine .inr (.inl ⟨T1, a8, _, _, rfl, rfl, hT1, h8, rfl, (by show 2 ≤ 10000; decide), fun k u v e1 e2 => ?_⟩)
                  match k, e1, e2 with
                  | 0, e1, e2 =>
                    cases e1
                    cases e2
                    refine .inr (.inl ⟨s1, s8, _, _, rfl, rfl, hs1, h8s, rfl, by rw [List.length_map]; exact sl, fun k u v e1 e2 => .inl ?_⟩)
                    have e1 : ((spkAt R many (WLk i) now).map nV)[k]? = some u := e1
                    have e2 : ((spkAt R many (WLk i) now).map nV)[k]? = some v := e2
                    rw [e1] at e2
                    cases e2
                    rw [List.getElem?_map] at e1
                    cases z : (spkAt R many (WLk i) now)[k]? with
                    | none => rw [z] at e1; cases e1
                    | some n => rw [z] at e1; cases e1; exact ⟨rfl, rfl⟩
                  | 1, e1, e2 =>
                    cases e1
                    cases e2
                    exact .inl ⟨rfl, rfl⟩
                  | k + 2, e1, e2 => cases e1
                refine ⟨_, _, rfl, alk, fun H8 sm8 => ?_⟩
                dsimp! []
                refine ⟨_, _, _, _, _, _, rfl, F7.keep fun b o e _ _ => sm8 _ _ e, fun k hk => ?_⟩
                by_cases z : k = i
                · subst z
                  rw [if_pos (by omega), Nat.min_eq_left (by omega)]
                  exact AllAt.same S7 sm8
                · rw [ifk k z]
                  exact ((S6 k hk).other Si mv.kept (farP k i hk hi z)).same sm8
              · dsimp! []
                refine ⟨_, _, _, _, _, _, rfl, F6, fun k hk => ?_⟩
                by_cases z : k = i
                · subst z
                  have := S6 k hk
                  rw [if_neg (by omega), Nat.min_eq_right (by omega)] at this
                  rw [if_pos (by omega), Nat.min_eq_right (by omega)]
                  exact this
                · rw [ifk k z]
                  exact S6 k hk
            · dsimp! [hq6, aT, hT, ht, hl]
              refine ite2 (fun c1 => ?_) (fun c1 => ?_)
              · refine ite2 (fun c2 => ?_) (fun c2 => ?_)
                · dsimp! [ht, hl]
                  have ea : (N i : Int) - (AR i : Int) + ((now : Int) - (N i : Int)) % (AR i : Int) = (atN (N i) (AR i) now : Int) := by
                    unfold atN
                    rw [if_pos ⟨by omega, by omega⟩, Int.natCast_add, Int.natCast_emod, Int.ofNat_sub arki, Int.ofNat_sub (by omega)]
                  rw [ea]
                  exact ⟨by omega, rfl⟩
                · dsimp! []
                  have ea : atN (N i) (AR i) now = now := by
                    unfold atN
                    rw [if_neg (by omega)]
                  rw [ea]
              · dsimp! []
                have ea : atN (N i) (AR i) now = now := by
                  unfold atN
                  rw [if_neg (by omega)]
                rw [ea]
          · rintro σ H6 ⟨u6, u9, u10, u11, u12, u13, rfl, F6, S6⟩
            refine ⟨_, _, _, _, _, _, _, rfl, F6, fun k hk => ?_⟩
            have := S6 k hk
            rw [if_pos hk] at this
            exact this
        · rintro σ H5 ⟨v6, v8, v9, v10, v11, v12, v13, rfl, F5, S5⟩
          dsimp! []
          exact kk H5
end
end P
end OA

namespace OA
namespace P
open PySem L2
set_option maxHeartbeats 0
theorem all_mk {l : PySem.W.OpenLaw} {w : World} {K : PySem.W.Frag} {h : Heap} {mg : Str → Option Value} {fa : Addr} (X : K.In h) (G : h.Ns mainGlobals mg) (hfa : mg "law" = some (.ref fa))
  {c_RowWay : Addr}
  {c_WaitWay : Addr}
  {c_TreeWay : Addr}
  {c_Station : Addr}
  {f_is_whole : Addr} {od_is_whole an_is_whole : Option Addr} {sl_is_whole : Array (Option Value)} {oc_is_whole kV_is_whole dc_is_whole pm_is_whole cd_is_whole ct_is_whole : Value}
  {f_check_many : Addr} {od_check_many an_check_many : Option Addr} {sl_check_many : Array (Option Value)} {oc_check_many kV_check_many dc_check_many pm_check_many cd_check_many ct_check_many : Value}
  {f_check_rule : Addr} {od_check_rule an_check_rule : Option Addr} {sl_check_rule : Array (Option Value)} {oc_check_rule kV_check_rule dc_check_rule pm_check_rule cd_check_rule ct_check_rule : Value}
  {f_fault_of : Addr} {od_fault_of an_fault_of : Option Addr} {sl_fault_of : Array (Option Value)} {oc_fault_of kV_fault_of dc_fault_of pm_fault_of cd_fault_of ct_fault_of : Value}
  {f_has_shape : Addr} {od_has_shape an_has_shape : Option Addr} {sl_has_shape : Array (Option Value)} {oc_has_shape kV_has_shape dc_has_shape pm_has_shape cd_has_shape ct_has_shape : Value}
  {f_are_rows : Addr} {od_are_rows an_are_rows : Option Addr} {sl_are_rows : Array (Option Value)} {oc_are_rows kV_are_rows dc_are_rows pm_are_rows cd_are_rows ct_are_rows : Value}
  {f_is_row : Addr} {od_is_row an_is_row : Option Addr} {sl_is_row : Array (Option Value)} {oc_is_row kV_is_row dc_is_row pm_is_row cd_is_row ct_is_row : Value}
  {f_digits_of : Addr} {od_digits_of an_digits_of : Option Addr} {sl_digits_of : Array (Option Value)} {oc_digits_of kV_digits_of dc_digits_of pm_digits_of cd_digits_of ct_digits_of : Value}
  {f_RowWay___init__ : Addr} {od_RowWay___init__ an_RowWay___init__ : Option Addr} {sl_RowWay___init__ : Array (Option Value)} {oc_RowWay___init__ kV_RowWay___init__ dc_RowWay___init__ pm_RowWay___init__ cd_RowWay___init__ ct_RowWay___init__ : Value}
  {f_RowWay_wants : Addr} {od_RowWay_wants an_RowWay_wants : Option Addr} {sl_RowWay_wants : Array (Option Value)} {oc_RowWay_wants kV_RowWay_wants dc_RowWay_wants pm_RowWay_wants cd_RowWay_wants ct_RowWay_wants : Value}
  {f_RowWay_goes_on : Addr} {od_RowWay_goes_on an_RowWay_goes_on : Option Addr} {sl_RowWay_goes_on : Array (Option Value)} {oc_RowWay_goes_on kV_RowWay_goes_on dc_RowWay_goes_on pm_RowWay_goes_on cd_RowWay_goes_on ct_RowWay_goes_on : Value}
  {f_RowWay_standing : Addr} {od_RowWay_standing an_RowWay_standing : Option Addr} {sl_RowWay_standing : Array (Option Value)} {oc_RowWay_standing kV_RowWay_standing dc_RowWay_standing pm_RowWay_standing cd_RowWay_standing ct_RowWay_standing : Value}
  {f_WaitWay___init__ : Addr} {od_WaitWay___init__ an_WaitWay___init__ : Option Addr} {sl_WaitWay___init__ : Array (Option Value)} {oc_WaitWay___init__ kV_WaitWay___init__ dc_WaitWay___init__ pm_WaitWay___init__ cd_WaitWay___init__ ct_WaitWay___init__ : Value}
  {f_WaitWay_wants : Addr} {od_WaitWay_wants an_WaitWay_wants : Option Addr} {sl_WaitWay_wants : Array (Option Value)} {oc_WaitWay_wants kV_WaitWay_wants dc_WaitWay_wants pm_WaitWay_wants cd_WaitWay_wants ct_WaitWay_wants : Value}
  {f_WaitWay_goes_on : Addr} {od_WaitWay_goes_on an_WaitWay_goes_on : Option Addr} {sl_WaitWay_goes_on : Array (Option Value)} {oc_WaitWay_goes_on kV_WaitWay_goes_on dc_WaitWay_goes_on pm_WaitWay_goes_on cd_WaitWay_goes_on ct_WaitWay_goes_on : Value}
  {f_WaitWay_standing : Addr} {od_WaitWay_standing an_WaitWay_standing : Option Addr} {sl_WaitWay_standing : Array (Option Value)} {oc_WaitWay_standing kV_WaitWay_standing dc_WaitWay_standing pm_WaitWay_standing cd_WaitWay_standing ct_WaitWay_standing : Value}
  {f_TreeWay___init__ : Addr} {od_TreeWay___init__ an_TreeWay___init__ : Option Addr} {sl_TreeWay___init__ : Array (Option Value)} {oc_TreeWay___init__ kV_TreeWay___init__ dc_TreeWay___init__ pm_TreeWay___init__ cd_TreeWay___init__ ct_TreeWay___init__ : Value}
  {f_TreeWay_wants : Addr} {od_TreeWay_wants an_TreeWay_wants : Option Addr} {sl_TreeWay_wants : Array (Option Value)} {oc_TreeWay_wants kV_TreeWay_wants dc_TreeWay_wants pm_TreeWay_wants cd_TreeWay_wants ct_TreeWay_wants : Value}
  {f_TreeWay_goes_on : Addr} {od_TreeWay_goes_on an_TreeWay_goes_on : Option Addr} {sl_TreeWay_goes_on : Array (Option Value)} {oc_TreeWay_goes_on kV_TreeWay_goes_on dc_TreeWay_goes_on pm_TreeWay_goes_on cd_TreeWay_goes_on ct_TreeWay_goes_on : Value}
  {f_TreeWay_split_level : Addr} {od_TreeWay_split_level an_TreeWay_split_level : Option Addr} {sl_TreeWay_split_level : Array (Option Value)} {oc_TreeWay_split_level kV_TreeWay_split_level dc_TreeWay_split_level pm_TreeWay_split_level cd_TreeWay_split_level ct_TreeWay_split_level : Value}
  {f_TreeWay_drop_level : Addr} {od_TreeWay_drop_level an_TreeWay_drop_level : Option Addr} {sl_TreeWay_drop_level : Array (Option Value)} {oc_TreeWay_drop_level kV_TreeWay_drop_level dc_TreeWay_drop_level pm_TreeWay_drop_level cd_TreeWay_drop_level ct_TreeWay_drop_level : Value}
  {f_TreeWay_standing : Addr} {od_TreeWay_standing an_TreeWay_standing : Option Addr} {sl_TreeWay_standing : Array (Option Value)} {oc_TreeWay_standing kV_TreeWay_standing dc_TreeWay_standing pm_TreeWay_standing cd_TreeWay_standing ct_TreeWay_standing : Value}
  {f_way_of : Addr} {od_way_of an_way_of : Option Addr} {sl_way_of : Array (Option Value)} {oc_way_of kV_way_of dc_way_of pm_way_of cd_way_of ct_way_of : Value}
  {f_Station___init__ : Addr} {od_Station___init__ an_Station___init__ : Option Addr} {sl_Station___init__ : Array (Option Value)} {oc_Station___init__ kV_Station___init__ dc_Station___init__ pm_Station___init__ cd_Station___init__ ct_Station___init__ : Value}
  {f_Station_speaks : Addr} {od_Station_speaks an_Station_speaks : Option Addr} {sl_Station_speaks : Array (Option Value)} {oc_Station_speaks kV_Station_speaks dc_Station_speaks pm_Station_speaks cd_Station_speaks ct_Station_speaks : Value}
  {f_Station_hears : Addr} {od_Station_hears an_Station_hears : Option Addr} {sl_Station_hears : Array (Option Value)} {oc_Station_hears kV_Station_hears dc_Station_hears pm_Station_hears cd_Station_hears ct_Station_hears : Value}
  {f_Station_standing : Addr} {od_Station_standing an_Station_standing : Option Addr} {sl_Station_standing : Array (Option Value)} {oc_Station_standing kV_Station_standing dc_Station_standing pm_Station_standing cd_Station_standing ct_Station_standing : Value}
  {f_play : Addr} {od_play an_play : Option Addr} {sl_play : Array (Option Value)} {oc_play kV_play dc_play pm_play cd_play ct_play : Value}
  {f_check_wakes : Addr} {od_check_wakes an_check_wakes : Option Addr} {sl_check_wakes : Array (Option Value)} {oc_check_wakes kV_check_wakes dc_check_wakes pm_check_wakes cd_check_wakes ct_check_wakes : Value}
  {f_one_moment : Addr} {od_one_moment an_one_moment : Option Addr} {sl_one_moment : Array (Option Value)} {oc_one_moment kV_one_moment dc_one_moment pm_one_moment cd_one_moment ct_one_moment : Value}
  {f_heard_word : Addr} {od_heard_word an_heard_word : Option Addr} {sl_heard_word : Array (Option Value)} {oc_heard_word kV_heard_word dc_heard_word pm_heard_word cd_heard_word ct_heard_word : Value}
  {f__law_dice : Addr} {od__law_dice an__law_dice : Option Addr} {sl__law_dice : Array (Option Value)} {oc__law_dice kV__law_dice dc__law_dice pm__law_dice cd__law_dice ct__law_dice : Value}
  {f__law_off : Addr} {od__law_off an__law_off : Option Addr} {sl__law_off : Array (Option Value)} {oc__law_off kV__law_off dc__law_off pm__law_off cd__law_off ct__law_off : Value}
  {f__law_alike : Addr} {od__law_alike an__law_alike : Option Addr} {sl__law_alike : Array (Option Value)} {oc__law_alike kV__law_alike dc__law_alike pm__law_alike cd__law_alike ct__law_alike : Value}
  {f__law_mixed : Addr} {od__law_mixed an__law_mixed : Option Addr} {sl__law_mixed : Array (Option Value)} {oc__law_mixed kV__law_mixed dc__law_mixed pm__law_mixed cd__law_mixed ct__law_mixed : Value}
  {f__law_rows : Addr} {od__law_rows an__law_rows : Option Addr} {sl__law_rows : Array (Option Value)} {oc__law_rows kV__law_rows dc__law_rows pm__law_rows cd__law_rows ct__law_rows : Value}
  {f__law_rule : Addr} {od__law_rule an__law_rule : Option Addr} {sl__law_rule : Array (Option Value)} {oc__law_rule kV__law_rule dc__law_rule pm__law_rule cd__law_rule ct__law_rule : Value}
  {f__law_many : Addr} {od__law_many an__law_many : Option Addr} {sl__law_many : Array (Option Value)} {oc__law_many kV__law_many dc__law_many pm__law_many cd__law_many ct__law_many : Value}
  {f__law_wakes : Addr} {od__law_wakes an__law_wakes : Option Addr} {sl__law_wakes : Array (Option Value)} {oc__law_wakes kV__law_wakes dc__law_wakes pm__law_wakes cd__law_wakes ct__law_wakes : Value}
  {f__law_moment : Addr} {od__law_moment an__law_moment : Option Addr} {sl__law_moment : Array (Option Value)} {oc__law_moment kV__law_moment dc__law_moment pm__law_moment cd__law_moment ct__law_moment : Value}
  {f_law : Addr} {od_law an_law : Option Addr} {sl_law : Array (Option Value)} {oc_law kV_law dc_law pm_law cd_law ct_law : Value}
  {t_MOST_STATIONS : Tok}
  {t_MOST_SIGNS : Tok}
  {t_LEAST_BASE : Tok}
  {t_MOST_BASE : Tok}
  {v_SHAPES : Addr}
  {p_SHAPES_0_0 : Addr}
  {p_SHAPES_0_1 : Addr}
  {p_SHAPES_0_2 : Addr}
  {p_SHAPES_0_3 : Addr}
  {od_SHAPES_0 : Option Addr} {n_SHAPES_0 : Nat} {sl_SHAPES_0 : Array (Option Value)}
  {t_SHAPES_1_0 : Tok}
  {t_SHAPES_1_1 : Tok}
  {od_SHAPES_1 : Option Addr} {n_SHAPES_1 : Nat} {sl_SHAPES_1 : Array (Option Value)}
  {t_SHAPES_2_0 : Tok}
  {t_SHAPES_2_1 : Tok}
  {od_SHAPES_2 : Option Addr} {n_SHAPES_2 : Nat} {sl_SHAPES_2 : Array (Option Value)}
  {t_SHAPES_3_0 : Tok}
  {t_SHAPES_3_1 : Tok}
  {od_SHAPES_3 : Option Addr} {n_SHAPES_3 : Nat} {sl_SHAPES_3 : Array (Option Value)}
  {t_SHAPES_4_0 : Tok}
  {t_SHAPES_4_1 : Tok}
  {od_SHAPES_4 : Option Addr} {n_SHAPES_4 : Nat} {sl_SHAPES_4 : Array (Option Value)}
  {t_LATEST_WAKE : Tok}
  (aC_RowWay : PySem.W.nsIn K mainGlobals "RowWay" = some (some (.ref c_RowWay)))
  (aC_WaitWay : PySem.W.nsIn K mainGlobals "WaitWay" = some (some (.ref c_WaitWay)))
  (aC_TreeWay : PySem.W.nsIn K mainGlobals "TreeWay" = some (some (.ref c_TreeWay)))
  (aC_Station : PySem.W.nsIn K mainGlobals "Station" = some (some (.ref c_Station)))
  (a_is_whole : PySem.W.nsIn K mainGlobals "is_whole" = some (some (.ref f_is_whole)))
  (l_is_whole : K.lookup f_is_whole = some ⟨oc_is_whole, od_is_whole, .func (PySem.W.fnOf "is_whole" "is_whole" (defArgs s_is_whole) (defBody s_is_whole) (defScope s_is_whole) .none kV_is_whole dc_is_whole pm_is_whole an_is_whole cd_is_whole ct_is_whole), sl_is_whole⟩)
  (c_is_whole : PySem.W.codeIn K cd_is_whole "is_whole" = true)
  (k_is_whole : PySem.W.keepIn K (.ref f_is_whole) = true)
  (a_check_many : PySem.W.nsIn K mainGlobals "check_many" = some (some (.ref f_check_many)))
  (l_check_many : K.lookup f_check_many = some ⟨oc_check_many, od_check_many, .func (PySem.W.fnOf "check_many" "check_many" (defArgs s_check_many) (defBody s_check_many) (defScope s_check_many) .none kV_check_many dc_check_many pm_check_many an_check_many cd_check_many ct_check_many), sl_check_many⟩)
  (c_check_many : PySem.W.codeIn K cd_check_many "check_many" = true)
  (k_check_many : PySem.W.keepIn K (.ref f_check_many) = true)
  (a_check_rule : PySem.W.nsIn K mainGlobals "check_rule" = some (some (.ref f_check_rule)))
  (l_check_rule : K.lookup f_check_rule = some ⟨oc_check_rule, od_check_rule, .func (PySem.W.fnOf "check_rule" "check_rule" (defArgs s_check_rule) (defBody s_check_rule) (defScope s_check_rule) .none kV_check_rule dc_check_rule pm_check_rule an_check_rule cd_check_rule ct_check_rule), sl_check_rule⟩)
  (c_check_rule : PySem.W.codeIn K cd_check_rule "check_rule" = true)
  (k_check_rule : PySem.W.keepIn K (.ref f_check_rule) = true)
  (a_fault_of : PySem.W.nsIn K mainGlobals "fault_of" = some (some (.ref f_fault_of)))
  (l_fault_of : K.lookup f_fault_of = some ⟨oc_fault_of, od_fault_of, .func (PySem.W.fnOf "fault_of" "fault_of" (defArgs s_fault_of) (defBody s_fault_of) (defScope s_fault_of) .none kV_fault_of dc_fault_of pm_fault_of an_fault_of cd_fault_of ct_fault_of), sl_fault_of⟩)
  (c_fault_of : PySem.W.codeIn K cd_fault_of "fault_of" = true)
  (k_fault_of : PySem.W.keepIn K (.ref f_fault_of) = true)
  (a_has_shape : PySem.W.nsIn K mainGlobals "has_shape" = some (some (.ref f_has_shape)))
  (l_has_shape : K.lookup f_has_shape = some ⟨oc_has_shape, od_has_shape, .func (PySem.W.fnOf "has_shape" "has_shape" (defArgs s_has_shape) (defBody s_has_shape) (defScope s_has_shape) .none kV_has_shape dc_has_shape pm_has_shape an_has_shape cd_has_shape ct_has_shape), sl_has_shape⟩)
  (c_has_shape : PySem.W.codeIn K cd_has_shape "has_shape" = true)
  (k_has_shape : PySem.W.keepIn K (.ref f_has_shape) = true)
  (a_are_rows : PySem.W.nsIn K mainGlobals "are_rows" = some (some (.ref f_are_rows)))
  (l_are_rows : K.lookup f_are_rows = some ⟨oc_are_rows, od_are_rows, .func (PySem.W.fnOf "are_rows" "are_rows" (defArgs s_are_rows) (defBody s_are_rows) (defScope s_are_rows) .none kV_are_rows dc_are_rows pm_are_rows an_are_rows cd_are_rows ct_are_rows), sl_are_rows⟩)
  (c_are_rows : PySem.W.codeIn K cd_are_rows "are_rows" = true)
  (k_are_rows : PySem.W.keepIn K (.ref f_are_rows) = true)
  (a_is_row : PySem.W.nsIn K mainGlobals "is_row" = some (some (.ref f_is_row)))
  (l_is_row : K.lookup f_is_row = some ⟨oc_is_row, od_is_row, .func (PySem.W.fnOf "is_row" "is_row" (defArgs s_is_row) (defBody s_is_row) (defScope s_is_row) .none kV_is_row dc_is_row pm_is_row an_is_row cd_is_row ct_is_row), sl_is_row⟩)
  (c_is_row : PySem.W.codeIn K cd_is_row "is_row" = true)
  (k_is_row : PySem.W.keepIn K (.ref f_is_row) = true)
  (a_digits_of : PySem.W.nsIn K mainGlobals "digits_of" = some (some (.ref f_digits_of)))
  (l_digits_of : K.lookup f_digits_of = some ⟨oc_digits_of, od_digits_of, .func (PySem.W.fnOf "digits_of" "digits_of" (defArgs s_digits_of) (defBody s_digits_of) (defScope s_digits_of) .none kV_digits_of dc_digits_of pm_digits_of an_digits_of cd_digits_of ct_digits_of), sl_digits_of⟩)
  (c_digits_of : PySem.W.codeIn K cd_digits_of "digits_of" = true)
  (k_digits_of : PySem.W.keepIn K (.ref f_digits_of) = true)
  (a_RowWay___init__ : PySem.W.findIn K (.ref c_RowWay) "__init__" = some (some (.ref f_RowWay___init__)))
  (i_RowWay___init__ : PySem.W.isFn K (.ref f_RowWay___init__) = true)
  (l_RowWay___init__ : K.lookup f_RowWay___init__ = some ⟨oc_RowWay___init__, od_RowWay___init__, .func (PySem.W.fnOf "__init__" "RowWay.__init__" (defArgs s_RowWay___init__) (defBody s_RowWay___init__) (defScope s_RowWay___init__) .none kV_RowWay___init__ dc_RowWay___init__ pm_RowWay___init__ an_RowWay___init__ cd_RowWay___init__ ct_RowWay___init__), sl_RowWay___init__⟩)
  (c_RowWay___init__ : PySem.W.codeIn K cd_RowWay___init__ "RowWay.__init__" = true)
  (k_RowWay___init__ : PySem.W.keepIn K (.ref f_RowWay___init__) = true)
  (a_RowWay_wants : PySem.W.findIn K (.ref c_RowWay) "wants" = some (some (.ref f_RowWay_wants)))
  (i_RowWay_wants : PySem.W.isFn K (.ref f_RowWay_wants) = true)
  (l_RowWay_wants : K.lookup f_RowWay_wants = some ⟨oc_RowWay_wants, od_RowWay_wants, .func (PySem.W.fnOf "wants" "RowWay.wants" (defArgs s_RowWay_wants) (defBody s_RowWay_wants) (defScope s_RowWay_wants) .none kV_RowWay_wants dc_RowWay_wants pm_RowWay_wants an_RowWay_wants cd_RowWay_wants ct_RowWay_wants), sl_RowWay_wants⟩)
  (c_RowWay_wants : PySem.W.codeIn K cd_RowWay_wants "RowWay.wants" = true)
  (k_RowWay_wants : PySem.W.keepIn K (.ref f_RowWay_wants) = true)
  (a_RowWay_goes_on : PySem.W.findIn K (.ref c_RowWay) "goes_on" = some (some (.ref f_RowWay_goes_on)))
  (i_RowWay_goes_on : PySem.W.isFn K (.ref f_RowWay_goes_on) = true)
  (l_RowWay_goes_on : K.lookup f_RowWay_goes_on = some ⟨oc_RowWay_goes_on, od_RowWay_goes_on, .func (PySem.W.fnOf "goes_on" "RowWay.goes_on" (defArgs s_RowWay_goes_on) (defBody s_RowWay_goes_on) (defScope s_RowWay_goes_on) .none kV_RowWay_goes_on dc_RowWay_goes_on pm_RowWay_goes_on an_RowWay_goes_on cd_RowWay_goes_on ct_RowWay_goes_on), sl_RowWay_goes_on⟩)
  (c_RowWay_goes_on : PySem.W.codeIn K cd_RowWay_goes_on "RowWay.goes_on" = true)
  (k_RowWay_goes_on : PySem.W.keepIn K (.ref f_RowWay_goes_on) = true)
  (a_RowWay_standing : PySem.W.findIn K (.ref c_RowWay) "standing" = some (some (.ref f_RowWay_standing)))
  (i_RowWay_standing : PySem.W.isFn K (.ref f_RowWay_standing) = true)
  (l_RowWay_standing : K.lookup f_RowWay_standing = some ⟨oc_RowWay_standing, od_RowWay_standing, .func (PySem.W.fnOf "standing" "RowWay.standing" (defArgs s_RowWay_standing) (defBody s_RowWay_standing) (defScope s_RowWay_standing) .none kV_RowWay_standing dc_RowWay_standing pm_RowWay_standing an_RowWay_standing cd_RowWay_standing ct_RowWay_standing), sl_RowWay_standing⟩)
  (c_RowWay_standing : PySem.W.codeIn K cd_RowWay_standing "RowWay.standing" = true)
  (k_RowWay_standing : PySem.W.keepIn K (.ref f_RowWay_standing) = true)
  (a_WaitWay___init__ : PySem.W.findIn K (.ref c_WaitWay) "__init__" = some (some (.ref f_WaitWay___init__)))
  (i_WaitWay___init__ : PySem.W.isFn K (.ref f_WaitWay___init__) = true)
  (l_WaitWay___init__ : K.lookup f_WaitWay___init__ = some ⟨oc_WaitWay___init__, od_WaitWay___init__, .func (PySem.W.fnOf "__init__" "WaitWay.__init__" (defArgs s_WaitWay___init__) (defBody s_WaitWay___init__) (defScope s_WaitWay___init__) .none kV_WaitWay___init__ dc_WaitWay___init__ pm_WaitWay___init__ an_WaitWay___init__ cd_WaitWay___init__ ct_WaitWay___init__), sl_WaitWay___init__⟩)
  (c_WaitWay___init__ : PySem.W.codeIn K cd_WaitWay___init__ "WaitWay.__init__" = true)
  (k_WaitWay___init__ : PySem.W.keepIn K (.ref f_WaitWay___init__) = true)
  (a_WaitWay_wants : PySem.W.findIn K (.ref c_WaitWay) "wants" = some (some (.ref f_WaitWay_wants)))
  (i_WaitWay_wants : PySem.W.isFn K (.ref f_WaitWay_wants) = true)
  (l_WaitWay_wants : K.lookup f_WaitWay_wants = some ⟨oc_WaitWay_wants, od_WaitWay_wants, .func (PySem.W.fnOf "wants" "WaitWay.wants" (defArgs s_WaitWay_wants) (defBody s_WaitWay_wants) (defScope s_WaitWay_wants) .none kV_WaitWay_wants dc_WaitWay_wants pm_WaitWay_wants an_WaitWay_wants cd_WaitWay_wants ct_WaitWay_wants), sl_WaitWay_wants⟩)
  (c_WaitWay_wants : PySem.W.codeIn K cd_WaitWay_wants "WaitWay.wants" = true)
  (k_WaitWay_wants : PySem.W.keepIn K (.ref f_WaitWay_wants) = true)
  (a_WaitWay_goes_on : PySem.W.findIn K (.ref c_WaitWay) "goes_on" = some (some (.ref f_WaitWay_goes_on)))
  (i_WaitWay_goes_on : PySem.W.isFn K (.ref f_WaitWay_goes_on) = true)
  (l_WaitWay_goes_on : K.lookup f_WaitWay_goes_on = some ⟨oc_WaitWay_goes_on, od_WaitWay_goes_on, .func (PySem.W.fnOf "goes_on" "WaitWay.goes_on" (defArgs s_WaitWay_goes_on) (defBody s_WaitWay_goes_on) (defScope s_WaitWay_goes_on) .none kV_WaitWay_goes_on dc_WaitWay_goes_on pm_WaitWay_goes_on an_WaitWay_goes_on cd_WaitWay_goes_on ct_WaitWay_goes_on), sl_WaitWay_goes_on⟩)
  (c_WaitWay_goes_on : PySem.W.codeIn K cd_WaitWay_goes_on "WaitWay.goes_on" = true)
  (k_WaitWay_goes_on : PySem.W.keepIn K (.ref f_WaitWay_goes_on) = true)
  (a_WaitWay_standing : PySem.W.findIn K (.ref c_WaitWay) "standing" = some (some (.ref f_WaitWay_standing)))
  (i_WaitWay_standing : PySem.W.isFn K (.ref f_WaitWay_standing) = true)
  (l_WaitWay_standing : K.lookup f_WaitWay_standing = some ⟨oc_WaitWay_standing, od_WaitWay_standing, .func (PySem.W.fnOf "standing" "WaitWay.standing" (defArgs s_WaitWay_standing) (defBody s_WaitWay_standing) (defScope s_WaitWay_standing) .none kV_WaitWay_standing dc_WaitWay_standing pm_WaitWay_standing an_WaitWay_standing cd_WaitWay_standing ct_WaitWay_standing), sl_WaitWay_standing⟩)
  (c_WaitWay_standing : PySem.W.codeIn K cd_WaitWay_standing "WaitWay.standing" = true)
  (k_WaitWay_standing : PySem.W.keepIn K (.ref f_WaitWay_standing) = true)
  (a_TreeWay___init__ : PySem.W.findIn K (.ref c_TreeWay) "__init__" = some (some (.ref f_TreeWay___init__)))
  (i_TreeWay___init__ : PySem.W.isFn K (.ref f_TreeWay___init__) = true)
  (l_TreeWay___init__ : K.lookup f_TreeWay___init__ = some ⟨oc_TreeWay___init__, od_TreeWay___init__, .func (PySem.W.fnOf "__init__" "TreeWay.__init__" (defArgs s_TreeWay___init__) (defBody s_TreeWay___init__) (defScope s_TreeWay___init__) .none kV_TreeWay___init__ dc_TreeWay___init__ pm_TreeWay___init__ an_TreeWay___init__ cd_TreeWay___init__ ct_TreeWay___init__), sl_TreeWay___init__⟩)
  (c_TreeWay___init__ : PySem.W.codeIn K cd_TreeWay___init__ "TreeWay.__init__" = true)
  (k_TreeWay___init__ : PySem.W.keepIn K (.ref f_TreeWay___init__) = true)
  (a_TreeWay_wants : PySem.W.findIn K (.ref c_TreeWay) "wants" = some (some (.ref f_TreeWay_wants)))
  (i_TreeWay_wants : PySem.W.isFn K (.ref f_TreeWay_wants) = true)
  (l_TreeWay_wants : K.lookup f_TreeWay_wants = some ⟨oc_TreeWay_wants, od_TreeWay_wants, .func (PySem.W.fnOf "wants" "TreeWay.wants" (defArgs s_TreeWay_wants) (defBody s_TreeWay_wants) (defScope s_TreeWay_wants) .none kV_TreeWay_wants dc_TreeWay_wants pm_TreeWay_wants an_TreeWay_wants cd_TreeWay_wants ct_TreeWay_wants), sl_TreeWay_wants⟩)
  (c_TreeWay_wants : PySem.W.codeIn K cd_TreeWay_wants "TreeWay.wants" = true)
  (k_TreeWay_wants : PySem.W.keepIn K (.ref f_TreeWay_wants) = true)
  (a_TreeWay_goes_on : PySem.W.findIn K (.ref c_TreeWay) "goes_on" = some (some (.ref f_TreeWay_goes_on)))
  (i_TreeWay_goes_on : PySem.W.isFn K (.ref f_TreeWay_goes_on) = true)
  (l_TreeWay_goes_on : K.lookup f_TreeWay_goes_on = some ⟨oc_TreeWay_goes_on, od_TreeWay_goes_on, .func (PySem.W.fnOf "goes_on" "TreeWay.goes_on" (defArgs s_TreeWay_goes_on) (defBody s_TreeWay_goes_on) (defScope s_TreeWay_goes_on) .none kV_TreeWay_goes_on dc_TreeWay_goes_on pm_TreeWay_goes_on an_TreeWay_goes_on cd_TreeWay_goes_on ct_TreeWay_goes_on), sl_TreeWay_goes_on⟩)
  (c_TreeWay_goes_on : PySem.W.codeIn K cd_TreeWay_goes_on "TreeWay.goes_on" = true)
  (k_TreeWay_goes_on : PySem.W.keepIn K (.ref f_TreeWay_goes_on) = true)
  (a_TreeWay_split_level : PySem.W.findIn K (.ref c_TreeWay) "split_level" = some (some (.ref f_TreeWay_split_level)))
  (i_TreeWay_split_level : PySem.W.isFn K (.ref f_TreeWay_split_level) = true)
  (l_TreeWay_split_level : K.lookup f_TreeWay_split_level = some ⟨oc_TreeWay_split_level, od_TreeWay_split_level, .func (PySem.W.fnOf "split_level" "TreeWay.split_level" (defArgs s_TreeWay_split_level) (defBody s_TreeWay_split_level) (defScope s_TreeWay_split_level) .none kV_TreeWay_split_level dc_TreeWay_split_level pm_TreeWay_split_level an_TreeWay_split_level cd_TreeWay_split_level ct_TreeWay_split_level), sl_TreeWay_split_level⟩)
  (c_TreeWay_split_level : PySem.W.codeIn K cd_TreeWay_split_level "TreeWay.split_level" = true)
  (k_TreeWay_split_level : PySem.W.keepIn K (.ref f_TreeWay_split_level) = true)
  (a_TreeWay_drop_level : PySem.W.findIn K (.ref c_TreeWay) "drop_level" = some (some (.ref f_TreeWay_drop_level)))
  (i_TreeWay_drop_level : PySem.W.isFn K (.ref f_TreeWay_drop_level) = true)
  (l_TreeWay_drop_level : K.lookup f_TreeWay_drop_level = some ⟨oc_TreeWay_drop_level, od_TreeWay_drop_level, .func (PySem.W.fnOf "drop_level" "TreeWay.drop_level" (defArgs s_TreeWay_drop_level) (defBody s_TreeWay_drop_level) (defScope s_TreeWay_drop_level) .none kV_TreeWay_drop_level dc_TreeWay_drop_level pm_TreeWay_drop_level an_TreeWay_drop_level cd_TreeWay_drop_level ct_TreeWay_drop_level), sl_TreeWay_drop_level⟩)
  (c_TreeWay_drop_level : PySem.W.codeIn K cd_TreeWay_drop_level "TreeWay.drop_level" = true)
  (k_TreeWay_drop_level : PySem.W.keepIn K (.ref f_TreeWay_drop_level) = true)
  (a_TreeWay_standing : PySem.W.findIn K (.ref c_TreeWay) "standing" = some (some (.ref f_TreeWay_standing)))
  (i_TreeWay_standing : PySem.W.isFn K (.ref f_TreeWay_standing) = true)
  (l_TreeWay_standing : K.lookup f_TreeWay_standing = some ⟨oc_TreeWay_standing, od_TreeWay_standing, .func (PySem.W.fnOf "standing" "TreeWay.standing" (defArgs s_TreeWay_standing) (defBody s_TreeWay_standing) (defScope s_TreeWay_standing) .none kV_TreeWay_standing dc_TreeWay_standing pm_TreeWay_standing an_TreeWay_standing cd_TreeWay_standing ct_TreeWay_standing), sl_TreeWay_standing⟩)
  (c_TreeWay_standing : PySem.W.codeIn K cd_TreeWay_standing "TreeWay.standing" = true)
  (k_TreeWay_standing : PySem.W.keepIn K (.ref f_TreeWay_standing) = true)
  (a_way_of : PySem.W.nsIn K mainGlobals "way_of" = some (some (.ref f_way_of)))
  (l_way_of : K.lookup f_way_of = some ⟨oc_way_of, od_way_of, .func (PySem.W.fnOf "way_of" "way_of" (defArgs s_way_of) (defBody s_way_of) (defScope s_way_of) .none kV_way_of dc_way_of pm_way_of an_way_of cd_way_of ct_way_of), sl_way_of⟩)
  (c_way_of : PySem.W.codeIn K cd_way_of "way_of" = true)
  (k_way_of : PySem.W.keepIn K (.ref f_way_of) = true)
  (a_Station___init__ : PySem.W.findIn K (.ref c_Station) "__init__" = some (some (.ref f_Station___init__)))
  (i_Station___init__ : PySem.W.isFn K (.ref f_Station___init__) = true)
  (l_Station___init__ : K.lookup f_Station___init__ = some ⟨oc_Station___init__, od_Station___init__, .func (PySem.W.fnOf "__init__" "Station.__init__" (defArgs s_Station___init__) (defBody s_Station___init__) (defScope s_Station___init__) .none kV_Station___init__ dc_Station___init__ pm_Station___init__ an_Station___init__ cd_Station___init__ ct_Station___init__), sl_Station___init__⟩)
  (c_Station___init__ : PySem.W.codeIn K cd_Station___init__ "Station.__init__" = true)
  (k_Station___init__ : PySem.W.keepIn K (.ref f_Station___init__) = true)
  (a_Station_speaks : PySem.W.findIn K (.ref c_Station) "speaks" = some (some (.ref f_Station_speaks)))
  (i_Station_speaks : PySem.W.isFn K (.ref f_Station_speaks) = true)
  (l_Station_speaks : K.lookup f_Station_speaks = some ⟨oc_Station_speaks, od_Station_speaks, .func (PySem.W.fnOf "speaks" "Station.speaks" (defArgs s_Station_speaks) (defBody s_Station_speaks) (defScope s_Station_speaks) .none kV_Station_speaks dc_Station_speaks pm_Station_speaks an_Station_speaks cd_Station_speaks ct_Station_speaks), sl_Station_speaks⟩)
  (c_Station_speaks : PySem.W.codeIn K cd_Station_speaks "Station.speaks" = true)
  (k_Station_speaks : PySem.W.keepIn K (.ref f_Station_speaks) = true)
  (a_Station_hears : PySem.W.findIn K (.ref c_Station) "hears" = some (some (.ref f_Station_hears)))
  (i_Station_hears : PySem.W.isFn K (.ref f_Station_hears) = true)
  (l_Station_hears : K.lookup f_Station_hears = some ⟨oc_Station_hears, od_Station_hears, .func (PySem.W.fnOf "hears" "Station.hears" (defArgs s_Station_hears) (defBody s_Station_hears) (defScope s_Station_hears) .none kV_Station_hears dc_Station_hears pm_Station_hears an_Station_hears cd_Station_hears ct_Station_hears), sl_Station_hears⟩)
  (c_Station_hears : PySem.W.codeIn K cd_Station_hears "Station.hears" = true)
  (k_Station_hears : PySem.W.keepIn K (.ref f_Station_hears) = true)
  (a_Station_standing : PySem.W.findIn K (.ref c_Station) "standing" = some (some (.ref f_Station_standing)))
  (i_Station_standing : PySem.W.isFn K (.ref f_Station_standing) = true)
  (l_Station_standing : K.lookup f_Station_standing = some ⟨oc_Station_standing, od_Station_standing, .func (PySem.W.fnOf "standing" "Station.standing" (defArgs s_Station_standing) (defBody s_Station_standing) (defScope s_Station_standing) .none kV_Station_standing dc_Station_standing pm_Station_standing an_Station_standing cd_Station_standing ct_Station_standing), sl_Station_standing⟩)
  (c_Station_standing : PySem.W.codeIn K cd_Station_standing "Station.standing" = true)
  (k_Station_standing : PySem.W.keepIn K (.ref f_Station_standing) = true)
  (a_play : PySem.W.nsIn K mainGlobals "play" = some (some (.ref f_play)))
  (l_play : K.lookup f_play = some ⟨oc_play, od_play, .func (PySem.W.fnOf "play" "play" (defArgs s_play) (defBody s_play) (defScope s_play) .none kV_play dc_play pm_play an_play cd_play ct_play), sl_play⟩)
  (c_play : PySem.W.codeIn K cd_play "play" = true)
  (k_play : PySem.W.keepIn K (.ref f_play) = true)
  (a_check_wakes : PySem.W.nsIn K mainGlobals "check_wakes" = some (some (.ref f_check_wakes)))
  (l_check_wakes : K.lookup f_check_wakes = some ⟨oc_check_wakes, od_check_wakes, .func (PySem.W.fnOf "check_wakes" "check_wakes" (defArgs s_check_wakes) (defBody s_check_wakes) (defScope s_check_wakes) .none kV_check_wakes dc_check_wakes pm_check_wakes an_check_wakes cd_check_wakes ct_check_wakes), sl_check_wakes⟩)
  (c_check_wakes : PySem.W.codeIn K cd_check_wakes "check_wakes" = true)
  (k_check_wakes : PySem.W.keepIn K (.ref f_check_wakes) = true)
  (a_one_moment : PySem.W.nsIn K mainGlobals "one_moment" = some (some (.ref f_one_moment)))
  (l_one_moment : K.lookup f_one_moment = some ⟨oc_one_moment, od_one_moment, .func (PySem.W.fnOf "one_moment" "one_moment" (defArgs s_one_moment) (defBody s_one_moment) (defScope s_one_moment) .none kV_one_moment dc_one_moment pm_one_moment an_one_moment cd_one_moment ct_one_moment), sl_one_moment⟩)
  (c_one_moment : PySem.W.codeIn K cd_one_moment "one_moment" = true)
  (k_one_moment : PySem.W.keepIn K (.ref f_one_moment) = true)
  (a_heard_word : PySem.W.nsIn K mainGlobals "heard_word" = some (some (.ref f_heard_word)))
  (l_heard_word : K.lookup f_heard_word = some ⟨oc_heard_word, od_heard_word, .func (PySem.W.fnOf "heard_word" "heard_word" (defArgs s_heard_word) (defBody s_heard_word) (defScope s_heard_word) .none kV_heard_word dc_heard_word pm_heard_word an_heard_word cd_heard_word ct_heard_word), sl_heard_word⟩)
  (c_heard_word : PySem.W.codeIn K cd_heard_word "heard_word" = true)
  (k_heard_word : PySem.W.keepIn K (.ref f_heard_word) = true)
  (a__law_dice : PySem.W.nsIn K mainGlobals "_law_dice" = some (some (.ref f__law_dice)))
  (l__law_dice : K.lookup f__law_dice = some ⟨oc__law_dice, od__law_dice, .func (PySem.W.fnOf "_law_dice" "_law_dice" (defArgs s__law_dice) (defBody s__law_dice) (defScope s__law_dice) .none kV__law_dice dc__law_dice pm__law_dice an__law_dice cd__law_dice ct__law_dice), sl__law_dice⟩)
  (c__law_dice : PySem.W.codeIn K cd__law_dice "_law_dice" = true)
  (k__law_dice : PySem.W.keepIn K (.ref f__law_dice) = true)
  (a__law_off : PySem.W.nsIn K mainGlobals "_law_off" = some (some (.ref f__law_off)))
  (l__law_off : K.lookup f__law_off = some ⟨oc__law_off, od__law_off, .func (PySem.W.fnOf "_law_off" "_law_off" (defArgs s__law_off) (defBody s__law_off) (defScope s__law_off) .none kV__law_off dc__law_off pm__law_off an__law_off cd__law_off ct__law_off), sl__law_off⟩)
  (c__law_off : PySem.W.codeIn K cd__law_off "_law_off" = true)
  (k__law_off : PySem.W.keepIn K (.ref f__law_off) = true)
  (a__law_alike : PySem.W.nsIn K mainGlobals "_law_alike" = some (some (.ref f__law_alike)))
  (l__law_alike : K.lookup f__law_alike = some ⟨oc__law_alike, od__law_alike, .func (PySem.W.fnOf "_law_alike" "_law_alike" (defArgs s__law_alike) (defBody s__law_alike) (defScope s__law_alike) .none kV__law_alike dc__law_alike pm__law_alike an__law_alike cd__law_alike ct__law_alike), sl__law_alike⟩)
  (c__law_alike : PySem.W.codeIn K cd__law_alike "_law_alike" = true)
  (k__law_alike : PySem.W.keepIn K (.ref f__law_alike) = true)
  (a__law_mixed : PySem.W.nsIn K mainGlobals "_law_mixed" = some (some (.ref f__law_mixed)))
  (l__law_mixed : K.lookup f__law_mixed = some ⟨oc__law_mixed, od__law_mixed, .func (PySem.W.fnOf "_law_mixed" "_law_mixed" (defArgs s__law_mixed) (defBody s__law_mixed) (defScope s__law_mixed) .none kV__law_mixed dc__law_mixed pm__law_mixed an__law_mixed cd__law_mixed ct__law_mixed), sl__law_mixed⟩)
  (c__law_mixed : PySem.W.codeIn K cd__law_mixed "_law_mixed" = true)
  (k__law_mixed : PySem.W.keepIn K (.ref f__law_mixed) = true)
  (a__law_rows : PySem.W.nsIn K mainGlobals "_law_rows" = some (some (.ref f__law_rows)))
  (l__law_rows : K.lookup f__law_rows = some ⟨oc__law_rows, od__law_rows, .func (PySem.W.fnOf "_law_rows" "_law_rows" (defArgs s__law_rows) (defBody s__law_rows) (defScope s__law_rows) .none kV__law_rows dc__law_rows pm__law_rows an__law_rows cd__law_rows ct__law_rows), sl__law_rows⟩)
  (c__law_rows : PySem.W.codeIn K cd__law_rows "_law_rows" = true)
  (k__law_rows : PySem.W.keepIn K (.ref f__law_rows) = true)
  (a__law_rule : PySem.W.nsIn K mainGlobals "_law_rule" = some (some (.ref f__law_rule)))
  (l__law_rule : K.lookup f__law_rule = some ⟨oc__law_rule, od__law_rule, .func (PySem.W.fnOf "_law_rule" "_law_rule" (defArgs s__law_rule) (defBody s__law_rule) (defScope s__law_rule) .none kV__law_rule dc__law_rule pm__law_rule an__law_rule cd__law_rule ct__law_rule), sl__law_rule⟩)
  (c__law_rule : PySem.W.codeIn K cd__law_rule "_law_rule" = true)
  (k__law_rule : PySem.W.keepIn K (.ref f__law_rule) = true)
  (a__law_many : PySem.W.nsIn K mainGlobals "_law_many" = some (some (.ref f__law_many)))
  (l__law_many : K.lookup f__law_many = some ⟨oc__law_many, od__law_many, .func (PySem.W.fnOf "_law_many" "_law_many" (defArgs s__law_many) (defBody s__law_many) (defScope s__law_many) .none kV__law_many dc__law_many pm__law_many an__law_many cd__law_many ct__law_many), sl__law_many⟩)
  (c__law_many : PySem.W.codeIn K cd__law_many "_law_many" = true)
  (k__law_many : PySem.W.keepIn K (.ref f__law_many) = true)
  (a__law_wakes : PySem.W.nsIn K mainGlobals "_law_wakes" = some (some (.ref f__law_wakes)))
  (l__law_wakes : K.lookup f__law_wakes = some ⟨oc__law_wakes, od__law_wakes, .func (PySem.W.fnOf "_law_wakes" "_law_wakes" (defArgs s__law_wakes) (defBody s__law_wakes) (defScope s__law_wakes) .none kV__law_wakes dc__law_wakes pm__law_wakes an__law_wakes cd__law_wakes ct__law_wakes), sl__law_wakes⟩)
  (c__law_wakes : PySem.W.codeIn K cd__law_wakes "_law_wakes" = true)
  (k__law_wakes : PySem.W.keepIn K (.ref f__law_wakes) = true)
  (a__law_moment : PySem.W.nsIn K mainGlobals "_law_moment" = some (some (.ref f__law_moment)))
  (l__law_moment : K.lookup f__law_moment = some ⟨oc__law_moment, od__law_moment, .func (PySem.W.fnOf "_law_moment" "_law_moment" (defArgs s__law_moment) (defBody s__law_moment) (defScope s__law_moment) .none kV__law_moment dc__law_moment pm__law_moment an__law_moment cd__law_moment ct__law_moment), sl__law_moment⟩)
  (c__law_moment : PySem.W.codeIn K cd__law_moment "_law_moment" = true)
  (k__law_moment : PySem.W.keepIn K (.ref f__law_moment) = true)
  (a_law : PySem.W.nsIn K mainGlobals "law" = some (some (.ref f_law)))
  (l_law : K.lookup f_law = some ⟨oc_law, od_law, .func (PySem.W.fnOf "law" "law" (defArgs s_law) (defBody s_law) (defScope s_law) .none kV_law dc_law pm_law an_law cd_law ct_law), sl_law⟩)
  (c_law : PySem.W.codeIn K cd_law "law" = true)
  (k_law : PySem.W.keepIn K (.ref f_law) = true)
  (pg_RowWay : PySem.W.plainGet K c_RowWay Str.empty = true)
  (hd_RowWay : PySem.W.hasDictIn K c_RowWay = true)
  (po_RowWay : PySem.W.plainOver K c_RowWay = true)
  (sa_RowWay : PySem.W.findIn K (.ref c_RowWay) "__setattr__" = some (some (.builtin "object.__setattr__")))
  (mk_RowWay : PySem.W.makesIn K c_RowWay = true)
  (kc_RowWay : PySem.W.keepIn K (.ref c_RowWay) = true)
  (n_RowWay_row : PySem.W.findIn K (.ref c_RowWay) "row" = some none)
  (n_RowWay_place : PySem.W.findIn K (.ref c_RowWay) "place" = some none)
  (pg_WaitWay : PySem.W.plainGet K c_WaitWay Str.empty = true)
  (hd_WaitWay : PySem.W.hasDictIn K c_WaitWay = true)
  (po_WaitWay : PySem.W.plainOver K c_WaitWay = true)
  (sa_WaitWay : PySem.W.findIn K (.ref c_WaitWay) "__setattr__" = some (some (.builtin "object.__setattr__")))
  (mk_WaitWay : PySem.W.makesIn K c_WaitWay = true)
  (kc_WaitWay : PySem.W.keepIn K (.ref c_WaitWay) = true)
  (n_WaitWay_digits : PySem.W.findIn K (.ref c_WaitWay) "digits" = some none)
  (n_WaitWay_place : PySem.W.findIn K (.ref c_WaitWay) "place" = some none)
  (n_WaitWay_left : PySem.W.findIn K (.ref c_WaitWay) "left" = some none)
  (pg_TreeWay : PySem.W.plainGet K c_TreeWay Str.empty = true)
  (hd_TreeWay : PySem.W.hasDictIn K c_TreeWay = true)
  (po_TreeWay : PySem.W.plainOver K c_TreeWay = true)
  (sa_TreeWay : PySem.W.findIn K (.ref c_TreeWay) "__setattr__" = some (some (.builtin "object.__setattr__")))
  (mk_TreeWay : PySem.W.makesIn K c_TreeWay = true)
  (kc_TreeWay : PySem.W.keepIn K (.ref c_TreeWay) = true)
  (n_TreeWay_skips : PySem.W.findIn K (.ref c_TreeWay) "skips" = some none)
  (n_TreeWay_joins : PySem.W.findIn K (.ref c_TreeWay) "joins" = some none)
  (n_TreeWay_digits : PySem.W.findIn K (.ref c_TreeWay) "digits" = some none)
  (n_TreeWay_level : PySem.W.findIn K (.ref c_TreeWay) "level" = some none)
  (n_TreeWay_levels : PySem.W.findIn K (.ref c_TreeWay) "levels" = some none)
  (n_TreeWay_skipping : PySem.W.findIn K (.ref c_TreeWay) "skipping" = some none)
  (pg_Station : PySem.W.plainGet K c_Station Str.empty = true)
  (hd_Station : PySem.W.hasDictIn K c_Station = true)
  (po_Station : PySem.W.plainOver K c_Station = true)
  (sa_Station : PySem.W.findIn K (.ref c_Station) "__setattr__" = some (some (.builtin "object.__setattr__")))
  (mk_Station : PySem.W.makesIn K c_Station = true)
  (kc_Station : PySem.W.keepIn K (.ref c_Station) = true)
  (n_Station_way : PySem.W.findIn K (.ref c_Station) "way" = some none)
  (n_Station_spoke : PySem.W.findIn K (.ref c_Station) "spoke" = some none)
  (n_Station_over : PySem.W.findIn K (.ref c_Station) "over" = some none)
  (z_abs : PySem.W.nsIn K mainGlobals "abs" = some none)
  (z_all : PySem.W.nsIn K mainGlobals "all" = some none)
  (z_bool : PySem.W.nsIn K mainGlobals "bool" = some none)
  (z_dict : PySem.W.nsIn K mainGlobals "dict" = some none)
  (z_enumerate : PySem.W.nsIn K mainGlobals "enumerate" = some none)
  (z_int : PySem.W.nsIn K mainGlobals "int" = some none)
  (z_isinstance : PySem.W.nsIn K mainGlobals "isinstance" = some none)
  (z_len : PySem.W.nsIn K mainGlobals "len" = some none)
  (z_list : PySem.W.nsIn K mainGlobals "list" = some none)
  (z_max : PySem.W.nsIn K mainGlobals "max" = some none)
  (z_min : PySem.W.nsIn K mainGlobals "min" = some none)
  (z_range : PySem.W.nsIn K mainGlobals "range" = some none)
  (z_str : PySem.W.nsIn K mainGlobals "str" = some none)
  (z_tuple : PySem.W.nsIn K mainGlobals "tuple" = some none)
  (q_MOST_STATIONS : PySem.W.nsIn K mainGlobals "MOST_STATIONS" = some (some (.int 8 t_MOST_STATIONS)))
  (q_MOST_SIGNS : PySem.W.nsIn K mainGlobals "MOST_SIGNS" = some (some (.int 12 t_MOST_SIGNS)))
  (q_LEAST_BASE : PySem.W.nsIn K mainGlobals "LEAST_BASE" = some (some (.int 2 t_LEAST_BASE)))
  (q_MOST_BASE : PySem.W.nsIn K mainGlobals "MOST_BASE" = some (some (.int 4 t_MOST_BASE)))
  (q_SHAPES : PySem.W.nsIn K mainGlobals "SHAPES" = some (some (.ref v_SHAPES)))
  (l_SHAPES_0 : K.lookup v_SHAPES = some ⟨.type "tuple", od_SHAPES_0, .seq #[.ref p_SHAPES_0_0, .ref p_SHAPES_0_1, .ref p_SHAPES_0_2, .ref p_SHAPES_0_3] n_SHAPES_0, sl_SHAPES_0⟩)
  (l_SHAPES_1 : K.lookup p_SHAPES_0_0 = some ⟨.type "tuple", od_SHAPES_1, .seq #[.str "turns" t_SHAPES_1_0, .int 1 t_SHAPES_1_1] n_SHAPES_1, sl_SHAPES_1⟩)
  (l_SHAPES_2 : K.lookup p_SHAPES_0_1 = some ⟨.type "tuple", od_SHAPES_2, .seq #[.str "rows" t_SHAPES_2_0, .int 2 t_SHAPES_2_1] n_SHAPES_2, sl_SHAPES_2⟩)
  (l_SHAPES_3 : K.lookup p_SHAPES_0_2 = some ⟨.type "tuple", od_SHAPES_3, .seq #[.str "tree" t_SHAPES_3_0, .int 3 t_SHAPES_3_1] n_SHAPES_3, sl_SHAPES_3⟩)
  (l_SHAPES_4 : K.lookup p_SHAPES_0_3 = some ⟨.type "tuple", od_SHAPES_4, .seq #[.str "waits" t_SHAPES_4_0, .int 2 t_SHAPES_4_1] n_SHAPES_4, sl_SHAPES_4⟩)
  (q_LATEST_WAKE : PySem.W.nsIn K mainGlobals "LATEST_WAKE" = some (some (.int 40 t_LATEST_WAKE)))
  (e_are_rows : cd_are_rows = .ref 127)
  (nT_are_rows : K.lookup 123 = none)
  (T_are_rows : h.get? 123 = some { cls := .none, data := .fields #[] })
  (C_are_rows : PySem.W.CodeHd h 127 123)
  (e_is_row : cd_is_row = .ref 134)
  (nT_is_row : K.lookup 130 = none)
  (T_is_row : h.get? 130 = some { cls := .none, data := .fields #[] })
  (C_is_row : PySem.W.CodeHd h 134 130) :
  LamX.LawAtS l w K CX0 14 63 "_law_script" mg fa h := by
  have e : f_law = fa := by
    have z := (PySem.W.mg_of X G a_law).symm.trans hfa
    cases z
    rfl
  subst e
  let A : Ad := { is_whole := f_is_whole, d_is_whole := PySem.W.fnOf "is_whole" "is_whole" (defArgs s_is_whole) (defBody s_is_whole) (defScope s_is_whole) .none kV_is_whole dc_is_whole pm_is_whole an_is_whole cd_is_whole ct_is_whole, check_many := f_check_many, d_check_many := PySem.W.fnOf "check_many" "check_many" (defArgs s_check_many) (defBody s_check_many) (defScope s_check_many) .none kV_check_many dc_check_many pm_check_many an_check_many cd_check_many ct_check_many, check_rule := f_check_rule, d_check_rule := PySem.W.fnOf "check_rule" "check_rule" (defArgs s_check_rule) (defBody s_check_rule) (defScope s_check_rule) .none kV_check_rule dc_check_rule pm_check_rule an_check_rule cd_check_rule ct_check_rule, fault_of := f_fault_of, d_fault_of := PySem.W.fnOf "fault_of" "fault_of" (defArgs s_fault_of) (defBody s_fault_of) (defScope s_fault_of) .none kV_fault_of dc_fault_of pm_fault_of an_fault_of cd_fault_of ct_fault_of, has_shape := f_has_shape, d_has_shape := PySem.W.fnOf "has_shape" "has_shape" (defArgs s_has_shape) (defBody s_has_shape) (defScope s_has_shape) .none kV_has_shape dc_has_shape pm_has_shape an_has_shape cd_has_shape ct_has_shape, are_rows := f_are_rows, d_are_rows := PySem.W.fnOf "are_rows" "are_rows" (defArgs s_are_rows) (defBody s_are_rows) (defScope s_are_rows) .none kV_are_rows dc_are_rows pm_are_rows an_are_rows cd_are_rows ct_are_rows, is_row := f_is_row, d_is_row := PySem.W.fnOf "is_row" "is_row" (defArgs s_is_row) (defBody s_is_row) (defScope s_is_row) .none kV_is_row dc_is_row pm_is_row an_is_row cd_is_row ct_is_row, digits_of := f_digits_of, d_digits_of := PySem.W.fnOf "digits_of" "digits_of" (defArgs s_digits_of) (defBody s_digits_of) (defScope s_digits_of) .none kV_digits_of dc_digits_of pm_digits_of an_digits_of cd_digits_of ct_digits_of, RowWay___init__ := f_RowWay___init__, d_RowWay___init__ := PySem.W.fnOf "__init__" "RowWay.__init__" (defArgs s_RowWay___init__) (defBody s_RowWay___init__) (defScope s_RowWay___init__) .none kV_RowWay___init__ dc_RowWay___init__ pm_RowWay___init__ an_RowWay___init__ cd_RowWay___init__ ct_RowWay___init__, RowWay_wants := f_RowWay_wants, d_RowWay_wants := PySem.W.fnOf "wants" "RowWay.wants" (defArgs s_RowWay_wants) (defBody s_RowWay_wants) (defScope s_RowWay_wants) .none kV_RowWay_wants dc_RowWay_wants pm_RowWay_wants an_RowWay_wants cd_RowWay_wants ct_RowWay_wants, RowWay_goes_on := f_RowWay_goes_on, d_RowWay_goes_on := PySem.W.fnOf "goes_on" "RowWay.goes_on" (defArgs s_RowWay_goes_on) (defBody s_RowWay_goes_on) (defScope s_RowWay_goes_on) .none kV_RowWay_goes_on dc_RowWay_goes_on pm_RowWay_goes_on an_RowWay_goes_on cd_RowWay_goes_on ct_RowWay_goes_on, RowWay_standing := f_RowWay_standing, d_RowWay_standing := PySem.W.fnOf "standing" "RowWay.standing" (defArgs s_RowWay_standing) (defBody s_RowWay_standing) (defScope s_RowWay_standing) .none kV_RowWay_standing dc_RowWay_standing pm_RowWay_standing an_RowWay_standing cd_RowWay_standing ct_RowWay_standing, WaitWay___init__ := f_WaitWay___init__, d_WaitWay___init__ := PySem.W.fnOf "__init__" "WaitWay.__init__" (defArgs s_WaitWay___init__) (defBody s_WaitWay___init__) (defScope s_WaitWay___init__) .none kV_WaitWay___init__ dc_WaitWay___init__ pm_WaitWay___init__ an_WaitWay___init__ cd_WaitWay___init__ ct_WaitWay___init__, WaitWay_wants := f_WaitWay_wants, d_WaitWay_wants := PySem.W.fnOf "wants" "WaitWay.wants" (defArgs s_WaitWay_wants) (defBody s_WaitWay_wants) (defScope s_WaitWay_wants) .none kV_WaitWay_wants dc_WaitWay_wants pm_WaitWay_wants an_WaitWay_wants cd_WaitWay_wants ct_WaitWay_wants, WaitWay_goes_on := f_WaitWay_goes_on, d_WaitWay_goes_on := PySem.W.fnOf "goes_on" "WaitWay.goes_on" (defArgs s_WaitWay_goes_on) (defBody s_WaitWay_goes_on) (defScope s_WaitWay_goes_on) .none kV_WaitWay_goes_on dc_WaitWay_goes_on pm_WaitWay_goes_on an_WaitWay_goes_on cd_WaitWay_goes_on ct_WaitWay_goes_on, WaitWay_standing := f_WaitWay_standing, d_WaitWay_standing := PySem.W.fnOf "standing" "WaitWay.standing" (defArgs s_WaitWay_standing) (defBody s_WaitWay_standing) (defScope s_WaitWay_standing) .none kV_WaitWay_standing dc_WaitWay_standing pm_WaitWay_standing an_WaitWay_standing cd_WaitWay_standing ct_WaitWay_standing, TreeWay___init__ := f_TreeWay___init__, d_TreeWay___init__ := PySem.W.fnOf "__init__" "TreeWay.__init__" (defArgs s_TreeWay___init__) (defBody s_TreeWay___init__) (defScope s_TreeWay___init__) .none kV_TreeWay___init__ dc_TreeWay___init__ pm_TreeWay___init__ an_TreeWay___init__ cd_TreeWay___init__ ct_TreeWay___init__, TreeWay_wants := f_TreeWay_wants, d_TreeWay_wants := PySem.W.fnOf "wants" "TreeWay.wants" (defArgs s_TreeWay_wants) (defBody s_TreeWay_wants) (defScope s_TreeWay_wants) .none kV_TreeWay_wants dc_TreeWay_wants pm_TreeWay_wants an_TreeWay_wants cd_TreeWay_wants ct_TreeWay_wants, TreeWay_goes_on := f_TreeWay_goes_on, d_TreeWay_goes_on := PySem.W.fnOf "goes_on" "TreeWay.goes_on" (defArgs s_TreeWay_goes_on) (defBody s_TreeWay_goes_on) (defScope s_TreeWay_goes_on) .none kV_TreeWay_goes_on dc_TreeWay_goes_on pm_TreeWay_goes_on an_TreeWay_goes_on cd_TreeWay_goes_on ct_TreeWay_goes_on, TreeWay_split_level := f_TreeWay_split_level, d_TreeWay_split_level := PySem.W.fnOf "split_level" "TreeWay.split_level" (defArgs s_TreeWay_split_level) (defBody s_TreeWay_split_level) (defScope s_TreeWay_split_level) .none kV_TreeWay_split_level dc_TreeWay_split_level pm_TreeWay_split_level an_TreeWay_split_level cd_TreeWay_split_level ct_TreeWay_split_level, TreeWay_drop_level := f_TreeWay_drop_level, d_TreeWay_drop_level := PySem.W.fnOf "drop_level" "TreeWay.drop_level" (defArgs s_TreeWay_drop_level) (defBody s_TreeWay_drop_level) (defScope s_TreeWay_drop_level) .none kV_TreeWay_drop_level dc_TreeWay_drop_level pm_TreeWay_drop_level an_TreeWay_drop_level cd_TreeWay_drop_level ct_TreeWay_drop_level, TreeWay_standing := f_TreeWay_standing, d_TreeWay_standing := PySem.W.fnOf "standing" "TreeWay.standing" (defArgs s_TreeWay_standing) (defBody s_TreeWay_standing) (defScope s_TreeWay_standing) .none kV_TreeWay_standing dc_TreeWay_standing pm_TreeWay_standing an_TreeWay_standing cd_TreeWay_standing ct_TreeWay_standing, way_of := f_way_of, d_way_of := PySem.W.fnOf "way_of" "way_of" (defArgs s_way_of) (defBody s_way_of) (defScope s_way_of) .none kV_way_of dc_way_of pm_way_of an_way_of cd_way_of ct_way_of, Station___init__ := f_Station___init__, d_Station___init__ := PySem.W.fnOf "__init__" "Station.__init__" (defArgs s_Station___init__) (defBody s_Station___init__) (defScope s_Station___init__) .none kV_Station___init__ dc_Station___init__ pm_Station___init__ an_Station___init__ cd_Station___init__ ct_Station___init__, Station_speaks := f_Station_speaks, d_Station_speaks := PySem.W.fnOf "speaks" "Station.speaks" (defArgs s_Station_speaks) (defBody s_Station_speaks) (defScope s_Station_speaks) .none kV_Station_speaks dc_Station_speaks pm_Station_speaks an_Station_speaks cd_Station_speaks ct_Station_speaks, Station_hears := f_Station_hears, d_Station_hears := PySem.W.fnOf "hears" "Station.hears" (defArgs s_Station_hears) (defBody s_Station_hears) (defScope s_Station_hears) .none kV_Station_hears dc_Station_hears pm_Station_hears an_Station_hears cd_Station_hears ct_Station_hears, Station_standing := f_Station_standing, d_Station_standing := PySem.W.fnOf "standing" "Station.standing" (defArgs s_Station_standing) (defBody s_Station_standing) (defScope s_Station_standing) .none kV_Station_standing dc_Station_standing pm_Station_standing an_Station_standing cd_Station_standing ct_Station_standing, play := f_play, d_play := PySem.W.fnOf "play" "play" (defArgs s_play) (defBody s_play) (defScope s_play) .none kV_play dc_play pm_play an_play cd_play ct_play, check_wakes := f_check_wakes, d_check_wakes := PySem.W.fnOf "check_wakes" "check_wakes" (defArgs s_check_wakes) (defBody s_check_wakes) (defScope s_check_wakes) .none kV_check_wakes dc_check_wakes pm_check_wakes an_check_wakes cd_check_wakes ct_check_wakes, one_moment := f_one_moment, d_one_moment := PySem.W.fnOf "one_moment" "one_moment" (defArgs s_one_moment) (defBody s_one_moment) (defScope s_one_moment) .none kV_one_moment dc_one_moment pm_one_moment an_one_moment cd_one_moment ct_one_moment, heard_word := f_heard_word, d_heard_word := PySem.W.fnOf "heard_word" "heard_word" (defArgs s_heard_word) (defBody s_heard_word) (defScope s_heard_word) .none kV_heard_word dc_heard_word pm_heard_word an_heard_word cd_heard_word ct_heard_word, _law_dice := f__law_dice, d__law_dice := PySem.W.fnOf "_law_dice" "_law_dice" (defArgs s__law_dice) (defBody s__law_dice) (defScope s__law_dice) .none kV__law_dice dc__law_dice pm__law_dice an__law_dice cd__law_dice ct__law_dice, _law_off := f__law_off, d__law_off := PySem.W.fnOf "_law_off" "_law_off" (defArgs s__law_off) (defBody s__law_off) (defScope s__law_off) .none kV__law_off dc__law_off pm__law_off an__law_off cd__law_off ct__law_off, _law_alike := f__law_alike, d__law_alike := PySem.W.fnOf "_law_alike" "_law_alike" (defArgs s__law_alike) (defBody s__law_alike) (defScope s__law_alike) .none kV__law_alike dc__law_alike pm__law_alike an__law_alike cd__law_alike ct__law_alike, _law_mixed := f__law_mixed, d__law_mixed := PySem.W.fnOf "_law_mixed" "_law_mixed" (defArgs s__law_mixed) (defBody s__law_mixed) (defScope s__law_mixed) .none kV__law_mixed dc__law_mixed pm__law_mixed an__law_mixed cd__law_mixed ct__law_mixed, _law_rows := f__law_rows, d__law_rows := PySem.W.fnOf "_law_rows" "_law_rows" (defArgs s__law_rows) (defBody s__law_rows) (defScope s__law_rows) .none kV__law_rows dc__law_rows pm__law_rows an__law_rows cd__law_rows ct__law_rows, _law_rule := f__law_rule, d__law_rule := PySem.W.fnOf "_law_rule" "_law_rule" (defArgs s__law_rule) (defBody s__law_rule) (defScope s__law_rule) .none kV__law_rule dc__law_rule pm__law_rule an__law_rule cd__law_rule ct__law_rule, _law_many := f__law_many, d__law_many := PySem.W.fnOf "_law_many" "_law_many" (defArgs s__law_many) (defBody s__law_many) (defScope s__law_many) .none kV__law_many dc__law_many pm__law_many an__law_many cd__law_many ct__law_many, _law_wakes := f__law_wakes, d__law_wakes := PySem.W.fnOf "_law_wakes" "_law_wakes" (defArgs s__law_wakes) (defBody s__law_wakes) (defScope s__law_wakes) .none kV__law_wakes dc__law_wakes pm__law_wakes an__law_wakes cd__law_wakes ct__law_wakes, _law_moment := f__law_moment, d__law_moment := PySem.W.fnOf "_law_moment" "_law_moment" (defArgs s__law_moment) (defBody s__law_moment) (defScope s__law_moment) .none kV__law_moment dc__law_moment pm__law_moment an__law_moment cd__law_moment ct__law_moment, law := f_law, d_law := PySem.W.fnOf "law" "law" (defArgs s_law) (defBody s_law) (defScope s_law) .none kV_law dc_law pm_law an_law cd_law ct_law, c_RowWay := c_RowWay, c_WaitWay := c_WaitWay, c_TreeWay := c_TreeWay, c_Station := c_Station, v_SHAPES := v_SHAPES, t_are_rows := 127, p_are_rows := 123, t_is_row := 134, p_is_row := 130 }
  have F_is_whole : Fun K "is_whole" "is_whole" s_is_whole A.is_whole A.d_is_whole := fun_mk (st := s_is_whole) l_is_whole c_is_whole k_is_whole
  have F_check_many : Fun K "check_many" "check_many" s_check_many A.check_many A.d_check_many := fun_mk (st := s_check_many) l_check_many c_check_many k_check_many
  have F_check_rule : Fun K "check_rule" "check_rule" s_check_rule A.check_rule A.d_check_rule := fun_mk (st := s_check_rule) l_check_rule c_check_rule k_check_rule
  have F_fault_of : Fun K "fault_of" "fault_of" s_fault_of A.fault_of A.d_fault_of := fun_mk (st := s_fault_of) l_fault_of c_fault_of k_fault_of
  have F_has_shape : Fun K "has_shape" "has_shape" s_has_shape A.has_shape A.d_has_shape := fun_mk (st := s_has_shape) l_has_shape c_has_shape k_has_shape
  have F_are_rows : Fun K "are_rows" "are_rows" s_are_rows A.are_rows A.d_are_rows := fun_mk (st := s_are_rows) l_are_rows c_are_rows k_are_rows
  have F_is_row : Fun K "is_row" "is_row" s_is_row A.is_row A.d_is_row := fun_mk (st := s_is_row) l_is_row c_is_row k_is_row
  have F_digits_of : Fun K "digits_of" "digits_of" s_digits_of A.digits_of A.d_digits_of := fun_mk (st := s_digits_of) l_digits_of c_digits_of k_digits_of
  have F_RowWay___init__ : Fun K "__init__" "RowWay.__init__" s_RowWay___init__ A.RowWay___init__ A.d_RowWay___init__ := fun_mk (st := s_RowWay___init__) l_RowWay___init__ c_RowWay___init__ k_RowWay___init__
  have F_RowWay_wants : Fun K "wants" "RowWay.wants" s_RowWay_wants A.RowWay_wants A.d_RowWay_wants := fun_mk (st := s_RowWay_wants) l_RowWay_wants c_RowWay_wants k_RowWay_wants
  have F_RowWay_goes_on : Fun K "goes_on" "RowWay.goes_on" s_RowWay_goes_on A.RowWay_goes_on A.d_RowWay_goes_on := fun_mk (st := s_RowWay_goes_on) l_RowWay_goes_on c_RowWay_goes_on k_RowWay_goes_on
  have F_RowWay_standing : Fun K "standing" "RowWay.standing" s_RowWay_standing A.RowWay_standing A.d_RowWay_standing := fun_mk (st := s_RowWay_standing) l_RowWay_standing c_RowWay_standing k_RowWay_standing
  have F_WaitWay___init__ : Fun K "__init__" "WaitWay.__init__" s_WaitWay___init__ A.WaitWay___init__ A.d_WaitWay___init__ := fun_mk (st := s_WaitWay___init__) l_WaitWay___init__ c_WaitWay___init__ k_WaitWay___init__
  have F_WaitWay_wants : Fun K "wants" "WaitWay.wants" s_WaitWay_wants A.WaitWay_wants A.d_WaitWay_wants := fun_mk (st := s_WaitWay_wants) l_WaitWay_wants c_WaitWay_wants k_WaitWay_wants
  have F_WaitWay_goes_on : Fun K "goes_on" "WaitWay.goes_on" s_WaitWay_goes_on A.WaitWay_goes_on A.d_WaitWay_goes_on := fun_mk (st := s_WaitWay_goes_on) l_WaitWay_goes_on c_WaitWay_goes_on k_WaitWay_goes_on
  have F_WaitWay_standing : Fun K "standing" "WaitWay.standing" s_WaitWay_standing A.WaitWay_standing A.d_WaitWay_standing := fun_mk (st := s_WaitWay_standing) l_WaitWay_standing c_WaitWay_standing k_WaitWay_standing
  have F_TreeWay___init__ : Fun K "__init__" "TreeWay.__init__" s_TreeWay___init__ A.TreeWay___init__ A.d_TreeWay___init__ := fun_mk (st := s_TreeWay___init__) l_TreeWay___init__ c_TreeWay___init__ k_TreeWay___init__
  have F_TreeWay_wants : Fun K "wants" "TreeWay.wants" s_TreeWay_wants A.TreeWay_wants A.d_TreeWay_wants := fun_mk (st := s_TreeWay_wants) l_TreeWay_wants c_TreeWay_wants k_TreeWay_wants
  have F_TreeWay_goes_on : Fun K "goes_on" "TreeWay.goes_on" s_TreeWay_goes_on A.TreeWay_goes_on A.d_TreeWay_goes_on := fun_mk (st := s_TreeWay_goes_on) l_TreeWay_goes_on c_TreeWay_goes_on k_TreeWay_goes_on
  have F_TreeWay_split_level : Fun K "split_level" "TreeWay.split_level" s_TreeWay_split_level A.TreeWay_split_level A.d_TreeWay_split_level := fun_mk (st := s_TreeWay_split_level) l_TreeWay_split_level c_TreeWay_split_level k_TreeWay_split_level
  have F_TreeWay_drop_level : Fun K "drop_level" "TreeWay.drop_level" s_TreeWay_drop_level A.TreeWay_drop_level A.d_TreeWay_drop_level := fun_mk (st := s_TreeWay_drop_level) l_TreeWay_drop_level c_TreeWay_drop_level k_TreeWay_drop_level
  have F_TreeWay_standing : Fun K "standing" "TreeWay.standing" s_TreeWay_standing A.TreeWay_standing A.d_TreeWay_standing := fun_mk (st := s_TreeWay_standing) l_TreeWay_standing c_TreeWay_standing k_TreeWay_standing
  have F_way_of : Fun K "way_of" "way_of" s_way_of A.way_of A.d_way_of := fun_mk (st := s_way_of) l_way_of c_way_of k_way_of
  have F_Station___init__ : Fun K "__init__" "Station.__init__" s_Station___init__ A.Station___init__ A.d_Station___init__ := fun_mk (st := s_Station___init__) l_Station___init__ c_Station___init__ k_Station___init__
  have F_Station_speaks : Fun K "speaks" "Station.speaks" s_Station_speaks A.Station_speaks A.d_Station_speaks := fun_mk (st := s_Station_speaks) l_Station_speaks c_Station_speaks k_Station_speaks
  have F_Station_hears : Fun K "hears" "Station.hears" s_Station_hears A.Station_hears A.d_Station_hears := fun_mk (st := s_Station_hears) l_Station_hears c_Station_hears k_Station_hears
  have F_Station_standing : Fun K "standing" "Station.standing" s_Station_standing A.Station_standing A.d_Station_standing := fun_mk (st := s_Station_standing) l_Station_standing c_Station_standing k_Station_standing
  have F_play : Fun K "play" "play" s_play A.play A.d_play := fun_mk (st := s_play) l_play c_play k_play
  have F_check_wakes : Fun K "check_wakes" "check_wakes" s_check_wakes A.check_wakes A.d_check_wakes := fun_mk (st := s_check_wakes) l_check_wakes c_check_wakes k_check_wakes
  have F_one_moment : Fun K "one_moment" "one_moment" s_one_moment A.one_moment A.d_one_moment := fun_mk (st := s_one_moment) l_one_moment c_one_moment k_one_moment
  have F_heard_word : Fun K "heard_word" "heard_word" s_heard_word A.heard_word A.d_heard_word := fun_mk (st := s_heard_word) l_heard_word c_heard_word k_heard_word
  have F__law_dice : Fun K "_law_dice" "_law_dice" s__law_dice A._law_dice A.d__law_dice := fun_mk (st := s__law_dice) l__law_dice c__law_dice k__law_dice
  have F__law_off : Fun K "_law_off" "_law_off" s__law_off A._law_off A.d__law_off := fun_mk (st := s__law_off) l__law_off c__law_off k__law_off
  have F__law_alike : Fun K "_law_alike" "_law_alike" s__law_alike A._law_alike A.d__law_alike := fun_mk (st := s__law_alike) l__law_alike c__law_alike k__law_alike
  have F__law_mixed : Fun K "_law_mixed" "_law_mixed" s__law_mixed A._law_mixed A.d__law_mixed := fun_mk (st := s__law_mixed) l__law_mixed c__law_mixed k__law_mixed
  have F__law_rows : Fun K "_law_rows" "_law_rows" s__law_rows A._law_rows A.d__law_rows := fun_mk (st := s__law_rows) l__law_rows c__law_rows k__law_rows
  have F__law_rule : Fun K "_law_rule" "_law_rule" s__law_rule A._law_rule A.d__law_rule := fun_mk (st := s__law_rule) l__law_rule c__law_rule k__law_rule
  have F__law_many : Fun K "_law_many" "_law_many" s__law_many A._law_many A.d__law_many := fun_mk (st := s__law_many) l__law_many c__law_many k__law_many
  have F__law_wakes : Fun K "_law_wakes" "_law_wakes" s__law_wakes A._law_wakes A.d__law_wakes := fun_mk (st := s__law_wakes) l__law_wakes c__law_wakes k__law_wakes
  have F__law_moment : Fun K "_law_moment" "_law_moment" s__law_moment A._law_moment A.d__law_moment := fun_mk (st := s__law_moment) l__law_moment c__law_moment k__law_moment
  have F_law : Fun K "law" "law" s_law A.law A.d_law := fun_mk (st := s_law) l_law c_law k_law
  refine ⟨A.d_law, [(127, 123), (134, 130)], spLawT K A, (List.forall_mem_cons.mpr ⟨T_are_rows, (List.forall_mem_cons.mpr ⟨T_is_row, (fun _ hp => nomatch hp)⟩)⟩), (List.forall_mem_cons.mpr ⟨nT_are_rows, (List.forall_mem_cons.mpr ⟨nT_is_row, (fun _ hp => nomatch hp)⟩)⟩), (List.forall_mem_cons.mpr ⟨C_are_rows, (List.forall_mem_cons.mpr ⟨C_is_row, (fun _ hp => nomatch hp)⟩)⟩), fun s v => .of_eq rfl, fun H a ns hl _ hH hS => ⟨a, ns, rfl, hS, hl, ⟨⟨#[], hH (127, 123) (by simp), True.intro⟩, ⟨#[], hH (134, 130) (by simp), True.intro⟩⟩, fun _ => rfl⟩, fun base _ _ hTB => ?_⟩
  have T : Txt K mg base A := { F_is_whole := F_is_whole, b_is_whole := F_is_whole.binds (ps := ["number", "least", "most"]) fun _ _ _ _ _ _ us hl => match us, hl with | [_, _, _], _ => rfl, g_is_whole := PySem.W.mg_of X G a_is_whole, k_is_whole := k_is_whole, F_check_many := F_check_many, b_check_many := F_check_many.binds (ps := ["many"]) fun _ _ _ _ _ _ us hl => match us, hl with | [_], _ => rfl, g_check_many := PySem.W.mg_of X G a_check_many, k_check_many := k_check_many, F_check_rule := F_check_rule, b_check_rule := F_check_rule.binds (ps := ["rule", "many"]) fun _ _ _ _ _ _ us hl => match us, hl with | [_, _], _ => rfl, g_check_rule := PySem.W.mg_of X G a_check_rule, k_check_rule := k_check_rule, F_fault_of := F_fault_of, b_fault_of := F_fault_of.binds (ps := ["rule", "many"]) fun _ _ _ _ _ _ us hl => match us, hl with | [_, _], _ => rfl, g_fault_of := PySem.W.mg_of X G a_fault_of, k_fault_of := k_fault_of, F_has_shape := F_has_shape, b_has_shape := F_has_shape.binds (ps := ["parts", "shapes"]) fun _ _ _ _ _ _ us hl => match us, hl with | [_, _], _ => rfl, g_has_shape := PySem.W.mg_of X G a_has_shape, k_has_shape := k_has_shape, F_are_rows := F_are_rows, b_are_rows := F_are_rows.binds (ps := ["rows", "many"]) fun _ _ _ _ _ _ us hl => match us, hl with | [_, _], _ => rfl, g_are_rows := PySem.W.mg_of X G a_are_rows, k_are_rows := k_are_rows, F_is_row := F_is_row, b_is_row := F_is_row.binds (ps := ["row"]) fun _ _ _ _ _ _ us hl => match us, hl with | [_], _ => rfl, g_is_row := PySem.W.mg_of X G a_is_row, k_is_row := k_is_row, F_digits_of := F_digits_of, b_digits_of := F_digits_of.binds (ps := ["number", "base", "many"]) fun _ _ _ _ _ _ us hl => match us, hl with | [_, _, _], _ => rfl, g_digits_of := PySem.W.mg_of X G a_digits_of, k_digits_of := k_digits_of, F_RowWay___init__ := F_RowWay___init__, b_RowWay___init__ := F_RowWay___init__.binds (ps := ["self", "row"]) fun _ _ _ _ _ _ us hl => match us, hl with | [_, _], _ => rfl, mk_RowWay := ⟨mk_RowWay, a_RowWay___init__, i_RowWay___init__, kc_RowWay⟩, F_RowWay_wants := F_RowWay_wants, b_RowWay_wants := F_RowWay_wants.binds (ps := ["self", "present"]) fun _ _ _ _ _ _ us hl => match us, hl with | [_, _], _ => rfl, me_RowWay_wants := ⟨a_RowWay_wants, i_RowWay_wants, k_RowWay_wants⟩, F_RowWay_goes_on := F_RowWay_goes_on, b_RowWay_goes_on := F_RowWay_goes_on.binds (ps := ["self", "spoke", "word"]) fun _ _ _ _ _ _ us hl => match us, hl with | [_, _, _], _ => rfl, me_RowWay_goes_on := ⟨a_RowWay_goes_on, i_RowWay_goes_on, k_RowWay_goes_on⟩, F_RowWay_standing := F_RowWay_standing, b_RowWay_standing := F_RowWay_standing.binds (ps := ["self"]) fun _ _ _ _ _ _ us hl => match us, hl with | [_], _ => rfl, me_RowWay_standing := ⟨a_RowWay_standing, i_RowWay_standing, k_RowWay_standing⟩, F_WaitWay___init__ := F_WaitWay___init__, b_WaitWay___init__ := F_WaitWay___init__.binds (ps := ["self", "digits"]) fun _ _ _ _ _ _ us hl => match us, hl with | [_, _], _ => rfl, mk_WaitWay := ⟨mk_WaitWay, a_WaitWay___init__, i_WaitWay___init__, kc_WaitWay⟩, F_WaitWay_wants := F_WaitWay_wants, b_WaitWay_wants := F_WaitWay_wants.binds (ps := ["self", "present"]) fun _ _ _ _ _ _ us hl => match us, hl with | [_, _], _ => rfl, me_WaitWay_wants := ⟨a_WaitWay_wants, i_WaitWay_wants, k_WaitWay_wants⟩, F_WaitWay_goes_on := F_WaitWay_goes_on, b_WaitWay_goes_on := F_WaitWay_goes_on.binds (ps := ["self", "spoke", "word"]) fun _ _ _ _ _ _ us hl => match us, hl with | [_, _, _], _ => rfl, me_WaitWay_goes_on := ⟨a_WaitWay_goes_on, i_WaitWay_goes_on, k_WaitWay_goes_on⟩, F_WaitWay_standing := F_WaitWay_standing, b_WaitWay_standing := F_WaitWay_standing.binds (ps := ["self"]) fun _ _ _ _ _ _ us hl => match us, hl with | [_], _ => rfl, me_WaitWay_standing := ⟨a_WaitWay_standing, i_WaitWay_standing, k_WaitWay_standing⟩, F_TreeWay___init__ := F_TreeWay___init__, b_TreeWay___init__ := F_TreeWay___init__.binds (ps := ["self", "how", "late", "digits"]) fun _ _ _ _ _ _ us hl => match us, hl with | [_, _, _, _], _ => rfl, mk_TreeWay := ⟨mk_TreeWay, a_TreeWay___init__, i_TreeWay___init__, kc_TreeWay⟩, F_TreeWay_wants := F_TreeWay_wants, b_TreeWay_wants := F_TreeWay_wants.binds (ps := ["self", "present"]) fun _ _ _ _ _ _ us hl => match us, hl with | [_, _], _ => rfl, me_TreeWay_wants := ⟨a_TreeWay_wants, i_TreeWay_wants, k_TreeWay_wants⟩, F_TreeWay_goes_on := F_TreeWay_goes_on, b_TreeWay_goes_on := F_TreeWay_goes_on.binds (ps := ["self", "spoke", "word"]) fun _ _ _ _ _ _ us hl => match us, hl with | [_, _, _], _ => rfl, me_TreeWay_goes_on := ⟨a_TreeWay_goes_on, i_TreeWay_goes_on, k_TreeWay_goes_on⟩, F_TreeWay_split_level := F_TreeWay_split_level, b_TreeWay_split_level := F_TreeWay_split_level.binds (ps := ["self", "inside"]) fun _ _ _ _ _ _ us hl => match us, hl with | [_, _], _ => rfl, me_TreeWay_split_level := ⟨a_TreeWay_split_level, i_TreeWay_split_level, k_TreeWay_split_level⟩, F_TreeWay_drop_level := F_TreeWay_drop_level, b_TreeWay_drop_level := F_TreeWay_drop_level.binds (ps := ["self"]) fun _ _ _ _ _ _ us hl => match us, hl with | [_], _ => rfl, me_TreeWay_drop_level := ⟨a_TreeWay_drop_level, i_TreeWay_drop_level, k_TreeWay_drop_level⟩, F_TreeWay_standing := F_TreeWay_standing, b_TreeWay_standing := F_TreeWay_standing.binds (ps := ["self"]) fun _ _ _ _ _ _ us hl => match us, hl with | [_], _ => rfl, me_TreeWay_standing := ⟨a_TreeWay_standing, i_TreeWay_standing, k_TreeWay_standing⟩, F_way_of := F_way_of, b_way_of := F_way_of.binds (ps := ["rule", "many", "number"]) fun _ _ _ _ _ _ us hl => match us, hl with | [_, _, _], _ => rfl, g_way_of := PySem.W.mg_of X G a_way_of, k_way_of := k_way_of, F_Station___init__ := F_Station___init__, b_Station___init__ := F_Station___init__.binds (ps := ["self", "rule", "many", "number"]) fun _ _ _ _ _ _ us hl => match us, hl with | [_, _, _, _], _ => rfl, mk_Station := ⟨mk_Station, a_Station___init__, i_Station___init__, kc_Station⟩, F_Station_speaks := F_Station_speaks, b_Station_speaks := F_Station_speaks.binds (ps := ["self", "awake"]) fun _ _ _ _ _ _ us hl => match us, hl with | [_, _], _ => rfl, me_Station_speaks := ⟨a_Station_speaks, i_Station_speaks, k_Station_speaks⟩, F_Station_hears := F_Station_hears, b_Station_hears := F_Station_hears.binds (ps := ["self", "word"]) fun _ _ _ _ _ _ us hl => match us, hl with | [_, _], _ => rfl, me_Station_hears := ⟨a_Station_hears, i_Station_hears, k_Station_hears⟩, F_Station_standing := F_Station_standing, b_Station_standing := F_Station_standing.binds (ps := ["self"]) fun _ _ _ _ _ _ us hl => match us, hl with | [_], _ => rfl, me_Station_standing := ⟨a_Station_standing, i_Station_standing, k_Station_standing⟩, F_play := F_play, b_play := F_play.binds (ps := ["rule", "many", "wakes"]) fun _ _ _ _ _ _ us hl => match us, hl with | [_, _, _], _ => rfl, g_play := PySem.W.mg_of X G a_play, k_play := k_play, F_check_wakes := F_check_wakes, b_check_wakes := F_check_wakes.binds (ps := ["wakes", "many"]) fun _ _ _ _ _ _ us hl => match us, hl with | [_, _], _ => rfl, g_check_wakes := PySem.W.mg_of X G a_check_wakes, k_check_wakes := k_check_wakes, F_one_moment := F_one_moment, b_one_moment := F_one_moment.binds (ps := ["stations", "awake"]) fun _ _ _ _ _ _ us hl => match us, hl with | [_, _], _ => rfl, g_one_moment := PySem.W.mg_of X G a_one_moment, k_one_moment := k_one_moment, F_heard_word := F_heard_word, b_heard_word := F_heard_word.binds (ps := ["many_speak"]) fun _ _ _ _ _ _ us hl => match us, hl with | [_], _ => rfl, g_heard_word := PySem.W.mg_of X G a_heard_word, k_heard_word := k_heard_word, F__law_dice := F__law_dice, b__law_dice := F__law_dice.binds (ps := ["_law_script", "_law_k"]) fun _ _ _ _ _ _ us hl => match us, hl with | [_, _], _ => rfl, g__law_dice := PySem.W.mg_of X G a__law_dice, k__law_dice := k__law_dice, F__law_off := F__law_off, b__law_off := F__law_off.binds (ps := ["_law_d", "_law_most"]) fun _ _ _ _ _ _ us hl => match us, hl with | [_, _], _ => rfl, g__law_off := PySem.W.mg_of X G a__law_off, k__law_off := k__law_off, F__law_alike := F__law_alike, b__law_alike := F__law_alike.binds (ps := ["_law_found", "_law_due"]) fun _ _ _ _ _ _ us hl => match us, hl with | [_, _], _ => rfl, g__law_alike := PySem.W.mg_of X G a__law_alike, k__law_alike := k__law_alike, F__law_mixed := F__law_mixed, b__law_mixed := F__law_mixed.binds (ps := ["_law_d", "_law_row"]) fun _ _ _ _ _ _ us hl => match us, hl with | [_, _], _ => rfl, g__law_mixed := PySem.W.mg_of X G a__law_mixed, k__law_mixed := k__law_mixed, F__law_rows := F__law_rows, b__law_rows := F__law_rows.binds (ps := ["_law_d", "_law_many_here"]) fun _ _ _ _ _ _ us hl => match us, hl with | [_, _], _ => rfl, g__law_rows := PySem.W.mg_of X G a__law_rows, k__law_rows := k__law_rows, F__law_rule := F__law_rule, b__law_rule := F__law_rule.binds (ps := ["_law_d", "_law_many_here"]) fun _ _ _ _ _ _ us hl => match us, hl with | [_, _], _ => rfl, g__law_rule := PySem.W.mg_of X G a__law_rule, k__law_rule := k__law_rule, F__law_many := F__law_many, b__law_many := F__law_many.binds (ps := ["_law_d"]) fun _ _ _ _ _ _ us hl => match us, hl with | [_], _ => rfl, g__law_many := PySem.W.mg_of X G a__law_many, k__law_many := k__law_many, F__law_wakes := F__law_wakes, b__law_wakes := F__law_wakes.binds (ps := ["_law_d", "_law_many_here"]) fun _ _ _ _ _ _ us hl => match us, hl with | [_, _], _ => rfl, g__law_wakes := PySem.W.mg_of X G a__law_wakes, k__law_wakes := k__law_wakes, F__law_moment := F__law_moment, b__law_moment := F__law_moment.binds (ps := ["_law_stations", "_law_wakes_here", "_law_now"]) fun _ _ _ _ _ _ us hl => match us, hl with | [_, _, _], _ => rfl, g__law_moment := PySem.W.mg_of X G a__law_moment, k__law_moment := k__law_moment, F_law := F_law, b_law := F_law.binds (ps := ["_law_script"]) fun _ _ _ _ _ _ us hl => match us, hl with | [_], _ => rfl, g_law := PySem.W.mg_of X G a_law, k_law := k_law, cl_RowWay := ⟨pg_RowWay, hd_RowWay, po_RowWay, sa_RowWay⟩, g_RowWay := PySem.W.mg_of X G aC_RowWay, n_RowWay_row := n_RowWay_row, n_RowWay_place := n_RowWay_place, cl_WaitWay := ⟨pg_WaitWay, hd_WaitWay, po_WaitWay, sa_WaitWay⟩, g_WaitWay := PySem.W.mg_of X G aC_WaitWay, n_WaitWay_digits := n_WaitWay_digits, n_WaitWay_place := n_WaitWay_place, n_WaitWay_left := n_WaitWay_left, cl_TreeWay := ⟨pg_TreeWay, hd_TreeWay, po_TreeWay, sa_TreeWay⟩, g_TreeWay := PySem.W.mg_of X G aC_TreeWay, n_TreeWay_skips := n_TreeWay_skips, n_TreeWay_joins := n_TreeWay_joins, n_TreeWay_digits := n_TreeWay_digits, n_TreeWay_level := n_TreeWay_level, n_TreeWay_levels := n_TreeWay_levels, n_TreeWay_skipping := n_TreeWay_skipping, cl_Station := ⟨pg_Station, hd_Station, po_Station, sa_Station⟩, g_Station := PySem.W.mg_of X G aC_Station, n_Station_way := n_Station_way, n_Station_spoke := n_Station_spoke, n_Station_over := n_Station_over, m_abs := PySem.W.mg_none_of X G z_abs, m_all := PySem.W.mg_none_of X G z_all, m_bool := PySem.W.mg_none_of X G z_bool, m_dict := PySem.W.mg_none_of X G z_dict, m_enumerate := PySem.W.mg_none_of X G z_enumerate, m_int := PySem.W.mg_none_of X G z_int, m_isinstance := PySem.W.mg_none_of X G z_isinstance, m_len := PySem.W.mg_none_of X G z_len, m_list := PySem.W.mg_none_of X G z_list, m_max := PySem.W.mg_none_of X G z_max, m_min := PySem.W.mg_none_of X G z_min, m_range := PySem.W.mg_none_of X G z_range, m_str := PySem.W.mg_none_of X G z_str, m_tuple := PySem.W.mg_none_of X G z_tuple, c_MOST_STATIONS := ⟨_, PySem.W.mg_of X G q_MOST_STATIONS⟩, c_MOST_SIGNS := ⟨_, PySem.W.mg_of X G q_MOST_SIGNS⟩, c_LEAST_BASE := ⟨_, PySem.W.mg_of X G q_LEAST_BASE⟩, c_MOST_BASE := ⟨_, PySem.W.mg_of X G q_MOST_BASE⟩, c_SHAPES := PySem.W.mg_of X G q_SHAPES, x_SHAPES := fun H => (.tup (xs := [V.ref p_SHAPES_0_0, V.ref p_SHAPES_0_1, V.ref p_SHAPES_0_2, V.ref p_SHAPES_0_3]) (.inr ⟨_, _, _, l_SHAPES_0, rfl, rfl, (by rw [sizeLine_eq]; show 4 ≤ _; decide), (.cons rfl (.cons rfl (.cons rfl (.cons rfl .nil))))⟩) (.cons (.tup (xs := [V.str "turns", V.int 1]) (.inr ⟨_, _, _, l_SHAPES_1, rfl, rfl, (by rw [sizeLine_eq]; show 2 ≤ _; decide), (.cons ⟨_, rfl⟩ (.cons ⟨_, rfl⟩ .nil))⟩) (.cons (.str _) (.cons (.int _) .nil))) (.cons (.tup (xs := [V.str "rows", V.int 2]) (.inr ⟨_, _, _, l_SHAPES_2, rfl, rfl, (by rw [sizeLine_eq]; show 2 ≤ _; decide), (.cons ⟨_, rfl⟩ (.cons ⟨_, rfl⟩ .nil))⟩) (.cons (.str _) (.cons (.int _) .nil))) (.cons (.tup (xs := [V.str "tree", V.int 3]) (.inr ⟨_, _, _, l_SHAPES_3, rfl, rfl, (by rw [sizeLine_eq]; show 2 ≤ _; decide), (.cons ⟨_, rfl⟩ (.cons ⟨_, rfl⟩ .nil))⟩) (.cons (.str _) (.cons (.int _) .nil))) (.cons (.tup (xs := [V.str "waits", V.int 2]) (.inr ⟨_, _, _, l_SHAPES_4, rfl, rfl, (by rw [sizeLine_eq]; show 2 ≤ _; decide), (.cons ⟨_, rfl⟩ (.cons ⟨_, rfl⟩ .nil))⟩) (.cons (.str _) (.cons (.int _) .nil))) .nil))))), c_LATEST_WAKE := ⟨_, PySem.W.mg_of X G q_LATEST_WAKE⟩, h_are_rows := e_are_rows, q_are_rows := ⟨(hTB (127, 123) (by simp)).code, (hTB (127, 123) (by simp)).bm, (hTB (127, 123) (by simp)).gP⟩, h_is_row := e_is_row, q_is_row := ⟨(hTB (134, 130) (by simp)).code, (hTB (134, 130) (by simp)).bm, (hTB (134, 130) (by simp)).gP⟩, np_are_rows_is_row := (by decide : (123 : Nat) ≠ 130) }
  exact ok_law T
theorem walk {l : PySem.W.OpenLaw} {q : Program} {loose : List Str} {XP : (Str → Option Value) → Heap → Prop} {YP : World → Heap → Prop} {d : DefRec} {K : Params → PySem.W.Frag} (hn : l.most = some 63) (hdf : d.params.defaults = [])
    (hY : ∀ (w : World) (h : Heap), YP w h → (K w.params).In h)
    (F : ∀ (w : World) (mg : Str → Option Value) (fa : Addr) (h : Heap), YP w h → (K w.params).In h → h.Ns mainGlobals mg → mg d.name = some (.ref fa) → LamX.LawAtS l w (K w.params) CX0 14 63 "_law_script" mg fa h) :
    PySem.W.WalkO q loose XP YP l.row.toRowW d [] (fun f vs => PySem.call f vs) :=
  LamX.walk_ofTs (n := 63) (k := 14) (x := "_law_script") (CX := fun _ => CX0) hn (by decide) hdf ⟨rfl, by decide, by decide⟩ hY F fun _ _ _ _ _ z => z
end P
end OA
open PySem PySem.W PyProof.Rows
local macro_rules
  | `(tactic| o_head ($f:ident $k $a $p)) => `(tactic| o_head ((PySem.W.kmHook $k $a $p [123, 130])))
set_option maxRecDepth 100000 in
set_option maxHeartbeats 0 in
theorem PySem.Challenge.cw_oneair_k12_whole_stations_by_themselves_holds : PySem.Challenge.rw_oneair_k12_whole_stations_by_themselves.Holds := by
  w_on; o_law; k_head; (case hw => w_witness2)
  k_fill
  refine OA.P.walk (l := PySem.Challenge.rw_oneair_k12_whole_stations_by_themselves) rfl rfl (fun w h Y => PySem.W.km_in_of Y) ?F
  case F =>
    intro w mg fa h Y KX G hmg
    have hT8 := PySem.W.km_tabs_of Y
    refine' OA.P.all_mk KX G hmg ?aC_RowWay ?aC_WaitWay ?aC_TreeWay ?aC_Station ?a_is_whole ?l_is_whole ?c_is_whole ?k_is_whole ?a_check_many ?l_check_many ?c_check_many ?k_check_many ?a_check_rule ?l_check_rule ?c_check_rule ?k_check_rule ?a_fault_of ?l_fault_of ?c_fault_of ?k_fault_of ?a_has_shape ?l_has_shape ?c_has_shape ?k_has_shape ?a_are_rows ?l_are_rows ?c_are_rows ?k_are_rows ?a_is_row ?l_is_row ?c_is_row ?k_is_row ?a_digits_of ?l_digits_of ?c_digits_of ?k_digits_of ?a_RowWay___init__ ?i_RowWay___init__ ?l_RowWay___init__ ?c_RowWay___init__ ?k_RowWay___init__ ?a_RowWay_wants ?i_RowWay_wants ?l_RowWay_wants ?c_RowWay_wants ?k_RowWay_wants ?a_RowWay_goes_on ?i_RowWay_goes_on ?l_RowWay_goes_on ?c_RowWay_goes_on ?k_RowWay_goes_on ?a_RowWay_standing ?i_RowWay_standing ?l_RowWay_standing ?c_RowWay_standing ?k_RowWay_standing ?a_WaitWay___init__ ?i_WaitWay___init__ ?l_WaitWay___init__ ?c_WaitWay___init__ ?k_WaitWay___init__ ?a_WaitWay_wants ?i_WaitWay_wants ?l_WaitWay_wants ?c_WaitWay_wants ?k_WaitWay_wants ?a_WaitWay_goes_on ?i_WaitWay_goes_on ?l_WaitWay_goes_on ?c_WaitWay_goes_on ?k_WaitWay_goes_on ?a_WaitWay_standing ?i_WaitWay_standing ?l_WaitWay_standing ?c_WaitWay_standing ?k_WaitWay_standing ?a_TreeWay___init__ ?i_TreeWay___init__ ?l_TreeWay___init__ ?c_TreeWay___init__ ?k_TreeWay___init__ ?a_TreeWay_wants ?i_TreeWay_wants ?l_TreeWay_wants ?c_TreeWay_wants ?k_TreeWay_wants ?a_TreeWay_goes_on ?i_TreeWay_goes_on ?l_TreeWay_goes_on ?c_TreeWay_goes_on ?k_TreeWay_goes_on ?a_TreeWay_split_level ?i_TreeWay_split_level ?l_TreeWay_split_level ?c_TreeWay_split_level ?k_TreeWay_split_level ?a_TreeWay_drop_level ?i_TreeWay_drop_level ?l_TreeWay_drop_level ?c_TreeWay_drop_level ?k_TreeWay_drop_level ?a_TreeWay_standing ?i_TreeWay_standing ?l_TreeWay_standing ?c_TreeWay_standing ?k_TreeWay_standing ?a_way_of ?l_way_of ?c_way_of ?k_way_of ?a_Station___init__ ?i_Station___init__ ?l_Station___init__ ?c_Station___init__ ?k_Station___init__ ?a_Station_speaks ?i_Station_speaks ?l_Station_speaks ?c_Station_speaks ?k_Station_speaks ?a_Station_hears ?i_Station_hears ?l_Station_hears ?c_Station_hears ?k_Station_hears ?a_Station_standing ?i_Station_standing ?l_Station_standing ?c_Station_standing ?k_Station_standing ?a_play ?l_play ?c_play ?k_play ?a_check_wakes ?l_check_wakes ?c_check_wakes ?k_check_wakes ?a_one_moment ?l_one_moment ?c_one_moment ?k_one_moment ?a_heard_word ?l_heard_word ?c_heard_word ?k_heard_word ?a__law_dice ?l__law_dice ?c__law_dice ?k__law_dice ?a__law_off ?l__law_off ?c__law_off ?k__law_off ?a__law_alike ?l__law_alike ?c__law_alike ?k__law_alike ?a__law_mixed ?l__law_mixed ?c__law_mixed ?k__law_mixed ?a__law_rows ?l__law_rows ?c__law_rows ?k__law_rows ?a__law_rule ?l__law_rule ?c__law_rule ?k__law_rule ?a__law_many ?l__law_many ?c__law_many ?k__law_many ?a__law_wakes ?l__law_wakes ?c__law_wakes ?k__law_wakes ?a__law_moment ?l__law_moment ?c__law_moment ?k__law_moment ?a_law ?l_law ?c_law ?k_law ?pg_RowWay ?hd_RowWay ?po_RowWay ?sa_RowWay ?mk_RowWay ?kc_RowWay ?n_RowWay_row ?n_RowWay_place ?pg_WaitWay ?hd_WaitWay ?po_WaitWay ?sa_WaitWay ?mk_WaitWay ?kc_WaitWay ?n_WaitWay_digits ?n_WaitWay_place ?n_WaitWay_left ?pg_TreeWay ?hd_TreeWay ?po_TreeWay ?sa_TreeWay ?mk_TreeWay ?kc_TreeWay ?n_TreeWay_skips ?n_TreeWay_joins ?n_TreeWay_digits ?n_TreeWay_level ?n_TreeWay_levels ?n_TreeWay_skipping ?pg_Station ?hd_Station ?po_Station ?sa_Station ?mk_Station ?kc_Station ?n_Station_way ?n_Station_spoke ?n_Station_over ?z_abs ?z_all ?z_bool ?z_dict ?z_enumerate ?z_int ?z_isinstance ?z_len ?z_list ?z_max ?z_min ?z_range ?z_str ?z_tuple ?q_MOST_STATIONS ?q_MOST_SIGNS ?q_LEAST_BASE ?q_MOST_BASE ?q_SHAPES ?l_SHAPES_0 ?l_SHAPES_1 ?l_SHAPES_2 ?l_SHAPES_3 ?l_SHAPES_4 ?q_LATEST_WAKE ?e_are_rows ?nT_are_rows (hT8 123 (by simp)) (PySem.W.codeHd_of_K KX (by kernel_rfl)) ?e_is_row ?nT_is_row (hT8 130 (by simp)) (PySem.W.codeHd_of_K KX (by kernel_rfl))
    (case aC_RowWay => k_is); (case aC_WaitWay => k_is); (case aC_TreeWay => k_is); (case aC_Station => k_is); (case a_is_whole => k_is); (case l_is_whole => k_is)
    (case c_is_whole => k_is); (case k_is_whole => k_is); (case a_check_many => k_is); (case l_check_many => k_is); (case c_check_many => k_is); (case k_check_many => k_is)
    (case a_check_rule => k_is); (case l_check_rule => k_is); (case c_check_rule => k_is); (case k_check_rule => k_is); (case a_fault_of => k_is); (case l_fault_of => k_is)
    (case c_fault_of => k_is); (case k_fault_of => k_is); (case a_has_shape => k_is); (case l_has_shape => k_is); (case c_has_shape => k_is); (case k_has_shape => k_is)
    (case a_are_rows => k_is); (case l_are_rows => k_is); (case c_are_rows => k_is); (case k_are_rows => k_is); (case a_is_row => k_is); (case l_is_row => k_is)
    (case c_is_row => k_is); (case k_is_row => k_is); (case a_digits_of => k_is); (case l_digits_of => k_is); (case c_digits_of => k_is); (case k_digits_of => k_is)
    (case a_RowWay___init__ => k_is); (case i_RowWay___init__ => k_is); (case l_RowWay___init__ => k_is); (case c_RowWay___init__ => k_is); (case k_RowWay___init__ => k_is); (case a_RowWay_wants => k_is)
    (case i_RowWay_wants => k_is); (case l_RowWay_wants => k_is); (case c_RowWay_wants => k_is); (case k_RowWay_wants => k_is); (case a_RowWay_goes_on => k_is); (case i_RowWay_goes_on => k_is)
    (case l_RowWay_goes_on => k_is); (case c_RowWay_goes_on => k_is); (case k_RowWay_goes_on => k_is); (case a_RowWay_standing => k_is); (case i_RowWay_standing => k_is); (case l_RowWay_standing => k_is)
    (case c_RowWay_standing => k_is); (case k_RowWay_standing => k_is); (case a_WaitWay___init__ => k_is); (case i_WaitWay___init__ => k_is); (case l_WaitWay___init__ => k_is); (case c_WaitWay___init__ => k_is)
    (case k_WaitWay___init__ => k_is); (case a_WaitWay_wants => k_is); (case i_WaitWay_wants => k_is); (case l_WaitWay_wants => k_is); (case c_WaitWay_wants => k_is); (case k_WaitWay_wants => k_is)
    (case a_WaitWay_goes_on => k_is); (case i_WaitWay_goes_on => k_is); (case l_WaitWay_goes_on => k_is); (case c_WaitWay_goes_on => k_is); (case k_WaitWay_goes_on => k_is); (case a_WaitWay_standing => k_is)
    (case i_WaitWay_standing => k_is); (case l_WaitWay_standing => k_is); (case c_WaitWay_standing => k_is); (case k_WaitWay_standing => k_is); (case a_TreeWay___init__ => k_is); (case i_TreeWay___init__ => k_is)
    (case l_TreeWay___init__ => k_is); (case c_TreeWay___init__ => k_is); (case k_TreeWay___init__ => k_is); (case a_TreeWay_wants => k_is); (case i_TreeWay_wants => k_is); (case l_TreeWay_wants => k_is)
    (case c_TreeWay_wants => k_is); (case k_TreeWay_wants => k_is); (case a_TreeWay_goes_on => k_is); (case i_TreeWay_goes_on => k_is); (case l_TreeWay_goes_on => k_is); (case c_TreeWay_goes_on => k_is)
    (case k_TreeWay_goes_on => k_is); (case a_TreeWay_split_level => k_is); (case i_TreeWay_split_level => k_is); (case l_TreeWay_split_level => k_is); (case c_TreeWay_split_level => k_is); (case k_TreeWay_split_level => k_is)
    (case a_TreeWay_drop_level => k_is); (case i_TreeWay_drop_level => k_is); (case l_TreeWay_drop_level => k_is); (case c_TreeWay_drop_level => k_is); (case k_TreeWay_drop_level => k_is); (case a_TreeWay_standing => k_is)
    (case i_TreeWay_standing => k_is); (case l_TreeWay_standing => k_is); (case c_TreeWay_standing => k_is); (case k_TreeWay_standing => k_is); (case a_way_of => k_is); (case l_way_of => k_is)
    (case c_way_of => k_is); (case k_way_of => k_is); (case a_Station___init__ => k_is); (case i_Station___init__ => k_is); (case l_Station___init__ => k_is); (case c_Station___init__ => k_is)
    (case k_Station___init__ => k_is); (case a_Station_speaks => k_is); (case i_Station_speaks => k_is); (case l_Station_speaks => k_is); (case c_Station_speaks => k_is); (case k_Station_speaks => k_is)
    (case a_Station_hears => k_is); (case i_Station_hears => k_is); (case l_Station_hears => k_is); (case c_Station_hears => k_is); (case k_Station_hears => k_is); (case a_Station_standing => k_is)
    (case i_Station_standing => k_is); (case l_Station_standing => k_is); (case c_Station_standing => k_is); (case k_Station_standing => k_is); (case a_play => k_is); (case l_play => k_is)
    (case c_play => k_is); (case k_play => k_is); (case a_check_wakes => k_is); (case l_check_wakes => k_is); (case c_check_wakes => k_is); (case k_check_wakes => k_is)
    (case a_one_moment => k_is); (case l_one_moment => k_is); (case c_one_moment => k_is); (case k_one_moment => k_is); (case a_heard_word => k_is); (case l_heard_word => k_is)
    (case c_heard_word => k_is); (case k_heard_word => k_is); (case a__law_dice => k_is); (case l__law_dice => k_is); (case c__law_dice => k_is); (case k__law_dice => k_is)
    (case a__law_off => k_is); (case l__law_off => k_is); (case c__law_off => k_is); (case k__law_off => k_is); (case a__law_alike => k_is); (case l__law_alike => k_is)
    (case c__law_alike => k_is); (case k__law_alike => k_is); (case a__law_mixed => k_is); (case l__law_mixed => k_is); (case c__law_mixed => k_is); (case k__law_mixed => k_is)
    (case a__law_rows => k_is); (case l__law_rows => k_is); (case c__law_rows => k_is); (case k__law_rows => k_is); (case a__law_rule => k_is); (case l__law_rule => k_is)
    (case c__law_rule => k_is); (case k__law_rule => k_is); (case a__law_many => k_is); (case l__law_many => k_is); (case c__law_many => k_is); (case k__law_many => k_is)
    (case a__law_wakes => k_is); (case l__law_wakes => k_is); (case c__law_wakes => k_is); (case k__law_wakes => k_is); (case a__law_moment => k_is); (case l__law_moment => k_is)
    (case c__law_moment => k_is); (case k__law_moment => k_is); (case a_law => k_is); (case l_law => k_is); (case c_law => k_is); (case k_law => k_is)
    (case pg_RowWay => k_is); (case hd_RowWay => k_is); (case po_RowWay => k_is); (case sa_RowWay => k_is); (case mk_RowWay => k_is); (case kc_RowWay => k_is)
    (case n_RowWay_row => k_is); (case n_RowWay_place => k_is); (case pg_WaitWay => k_is); (case hd_WaitWay => k_is); (case po_WaitWay => k_is); (case sa_WaitWay => k_is)
    (case mk_WaitWay => k_is); (case kc_WaitWay => k_is); (case n_WaitWay_digits => k_is); (case n_WaitWay_place => k_is); (case n_WaitWay_left => k_is); (case pg_TreeWay => k_is)
    (case hd_TreeWay => k_is); (case po_TreeWay => k_is); (case sa_TreeWay => k_is); (case mk_TreeWay => k_is); (case kc_TreeWay => k_is); (case n_TreeWay_skips => k_is)
    (case n_TreeWay_joins => k_is); (case n_TreeWay_digits => k_is); (case n_TreeWay_level => k_is); (case n_TreeWay_levels => k_is); (case n_TreeWay_skipping => k_is); (case pg_Station => k_is)
    (case hd_Station => k_is); (case po_Station => k_is); (case sa_Station => k_is); (case mk_Station => k_is); (case kc_Station => k_is); (case n_Station_way => k_is)
    (case n_Station_spoke => k_is); (case n_Station_over => k_is); (case z_abs => k_is); (case z_all => k_is); (case z_bool => k_is); (case z_dict => k_is)
    (case z_enumerate => k_is); (case z_int => k_is); (case z_isinstance => k_is); (case z_len => k_is); (case z_list => k_is); (case z_max => k_is)
    (case z_min => k_is); (case z_range => k_is); (case z_str => k_is); (case z_tuple => k_is); (case q_MOST_STATIONS => k_is); (case q_MOST_SIGNS => k_is)
    (case q_LEAST_BASE => k_is); (case q_MOST_BASE => k_is); (case q_SHAPES => k_is); (case l_SHAPES_0 => k_is); (case l_SHAPES_1 => k_is); (case l_SHAPES_2 => k_is)
    (case l_SHAPES_3 => k_is); (case l_SHAPES_4 => k_is); (case q_LATEST_WAKE => k_is); (case e_are_rows => rfl); (case nT_are_rows => kernel_rfl); (case e_is_row => rfl)
    (case nT_is_row => kernel_rfl)
