import PyProof.Rows.All
import Wide.All
import OpenK.AllK
import Wide.FinOn
import HandS.ExcInit
import HandS.ExcField
import HandS.ExcIs
import HandS.Words
import HandS.Head0
import HandS.Head1
import HandS.Head2
import HandS.HeadHook4
import PySem.Challenge.RW_codewalk_k31_handlers_of_rows
import HandS.ForMost
import HandS.Wide
import HandS.Defaults
import HandS.IsInst
import HandS.Style
import HandS.ForExc
import HandS.Zip
import HandS.WrittenGet
import HandS.Star
import HandS.WideBits
import HandS.SortInts
import HandS.Small
import KE.GoesMore
import PyProof.EnumMake
import PyProof.Draws
import HandS.MapJoin
import HandS.Codes
import HandS.Deep
import HandS.CallLocal
import HandS.Flow
import HandS.Iter
import HandS.Dict
import HandS.More
import HandS.DictComp
import PyProof.ReprLen
import PyProof.ReprBulk
import PyProof.Rows.SeqMore
import PyProof.ReprRoads
import HandS.EndTab
import HandS.HeadWalk
set_option Elab.async false
set_option linter.all false
set_option maxRecDepth 100000
set_option maxHeartbeats 4000000
namespace C31
open PySem PySem.Spec PyProof.Rows L2
def ztop (i : Nat) : Stmt := PySem.Challenge.pw_codewalk_k31_handlers_of_rows.main.body.getD i (.Pass ⟨0, 0, 0, 0⟩)
def zinClass (s : Stmt) (j : Nat) : Stmt := match s with
  | .ClassDef _ _ _ body _ _ _ _ _ _ _ => body.getD j (.Pass ⟨0, 0, 0, 0⟩)
  | _ => .Pass ⟨0, 0, 0, 0⟩
/-! ### the program's tables -/
def tupIn (K : PySem.W.Frag) (a : Addr) : Option (List Value) := match K.lookup a with
  | some ⟨.type t, _, .seq its _, _⟩ => if t = "tuple" then some its.toList else none
  | _ => none
def inB (K : PySem.W.Frag) (x : Str) (p : Str × Bool) : Bool := match PySem.W.nsIn K (He.ga K x) p.1 with
  | some r => r.isSome == p.2
  | none => false
def strB (K : PySem.W.Frag) (x : Str) (p : Str × Str) : Bool := match PySem.W.nsIn K (He.ga K x) p.1 with
  | some (some (.str z _)) => decide (z = p.2)
  | _ => false
def dirB (K : PySem.W.Frag) (p : Str × Str × Str) : Bool := match PySem.W.nsIn K (He.ga K "DIRECTIONS") p.1 with
  | some (some (.ref a)) => (match tupIn K a with
    | some [.str u _, .str v _] => decide (u = p.2.1) && decide (v = p.2.2)
    | _ => false)
  | _ => false
def intB (K : PySem.W.Frag) (x : Str) (p : Str × Int) : Bool := match PySem.W.nsIn K (He.ga K x) p.1 with
  | some (some (.int i _)) => decide (i = p.2)
  | _ => false
def setB (K : PySem.W.Frag) (p : Str × Int × Bool) : Bool := match PySem.W.nsIn K (He.ga K "SETUPS") p.1 with
  | some (some (.ref a)) => (match tupIn K a with
    | some [.int i _, .bool b] => decide (i = p.2.1) && (b == p.2.2)
    | _ => false)
  | _ => false
def nothB (K : PySem.W.Frag) : Bool := match tupIn K (He.ga K "NOTHING_handlers") with
  | some [.none, .none, .int i _] => decide (i = 0)
  | _ => false
def ZE : List (Str × Int) := [("LOAD_NAME", 1), ("POP_TOP", -1), ("YIELD_VALUE", 0), ("RESUME", 0), ("JUMP", 0), ("RETURN_VALUE", -1), ("NOP", 0)]
def ZS : List (Str × Int × Bool) := [("SETUP_FINALLY", 0, false), ("SETUP_CLEANUP", 0, true), ("SETUP_WITH", 1, true)]
def ZL : List (Str × Bool) := ([("LOAD_NAME", false), ("POP_TOP", false), ("POP_JUMP_IF_FALSE", true), ("POP_JUMP_IF_TRUE", true), ("POP_JUMP_IF_NONE", true), ("POP_JUMP_IF_NOT_NONE", true), ("JUMP", true), ("JUMP_NO_INTERRUPT", true), ("LABEL", false), ("NOP", false), ("TO_BOOL", false)] : List (Str × Bool)) ++ ([("RETURN_VALUE", false), ("LOAD_FAST", false), ("STORE_FAST", false), ("DELETE_FAST", false), ("LOAD_CONST", false), ("SETUP_FINALLY", false), ("SETUP_CLEANUP", false), ("SETUP_WITH", false), ("POP_BLOCK", false), ("YIELD_VALUE", false), ("RESUME", false)] : List (Str × Bool)) ++ ([("RERAISE", false), ("LOAD_FAST_CHECK", false), ("RETURN_CONST", false), ("COMPARE_OP", false), ("IS_OP", false), ("CONTAINS_OP", false), ("UNARY_NOT", false), ("LOAD_GLOBAL", false), ("PUSH_NULL", false), ("CALL", false)] : List (Str × Bool))
def ZV : List (Str × Bool) := ([("LOAD_NAME", false), ("POP_TOP", false), ("POP_JUMP_IF_FALSE", false), ("POP_JUMP_IF_TRUE", false), ("POP_JUMP_IF_NONE", false), ("POP_JUMP_IF_NOT_NONE", false), ("JUMP", true), ("JUMP_NO_INTERRUPT", true), ("LABEL", false), ("NOP", false), ("TO_BOOL", false)] : List (Str × Bool)) ++ ([("RETURN_VALUE", true), ("LOAD_FAST", false), ("STORE_FAST", false), ("DELETE_FAST", false), ("LOAD_CONST", false), ("SETUP_FINALLY", false), ("SETUP_CLEANUP", false), ("SETUP_WITH", false), ("POP_BLOCK", false), ("YIELD_VALUE", false), ("RESUME", false)] : List (Str × Bool)) ++ ([("RERAISE", true), ("LOAD_FAST_CHECK", false), ("RETURN_CONST", true), ("COMPARE_OP", false), ("IS_OP", false), ("CONTAINS_OP", false), ("UNARY_NOT", false), ("LOAD_GLOBAL", false), ("PUSH_NULL", false), ("CALL", false)] : List (Str × Bool))
def ZT : List (Str × Bool) := ([("LOAD_NAME", false), ("POP_TOP", false), ("POP_JUMP_IF_FALSE", true), ("POP_JUMP_IF_TRUE", true), ("POP_JUMP_IF_NONE", true), ("POP_JUMP_IF_NOT_NONE", true), ("JUMP", true), ("JUMP_NO_INTERRUPT", true), ("LABEL", true), ("NOP", false), ("TO_BOOL", false)] : List (Str × Bool)) ++ ([("RETURN_VALUE", true), ("LOAD_FAST", false), ("STORE_FAST", false), ("DELETE_FAST", false), ("LOAD_CONST", false), ("SETUP_FINALLY", false), ("SETUP_CLEANUP", false), ("SETUP_WITH", false), ("POP_BLOCK", false), ("YIELD_VALUE", false), ("RESUME", false)] : List (Str × Bool)) ++ ([("RERAISE", true), ("LOAD_FAST_CHECK", false), ("RETURN_CONST", true), ("COMPARE_OP", false), ("IS_OP", false), ("CONTAINS_OP", false), ("UNARY_NOT", false), ("LOAD_GLOBAL", false), ("PUSH_NULL", false), ("CALL", false)] : List (Str × Bool))
def ZD : List (Str × Bool) := ([("LOAD_NAME", false), ("POP_TOP", false), ("POP_JUMP_IF_FALSE", false), ("POP_JUMP_IF_TRUE", false), ("POP_JUMP_IF_NONE", false), ("POP_JUMP_IF_NOT_NONE", false), ("JUMP", true), ("JUMP_NO_INTERRUPT", true), ("LABEL", false), ("NOP", false), ("TO_BOOL", false)] : List (Str × Bool)) ++ ([("RETURN_VALUE", false), ("LOAD_FAST", false), ("STORE_FAST", false), ("DELETE_FAST", false), ("LOAD_CONST", false), ("SETUP_FINALLY", false), ("SETUP_CLEANUP", false), ("SETUP_WITH", false), ("POP_BLOCK", false), ("YIELD_VALUE", false), ("RESUME", false)] : List (Str × Bool)) ++ ([("RERAISE", false), ("LOAD_FAST_CHECK", false), ("RETURN_CONST", false), ("COMPARE_OP", false), ("IS_OP", false), ("CONTAINS_OP", false), ("UNARY_NOT", false), ("LOAD_GLOBAL", false), ("PUSH_NULL", false), ("CALL", false)] : List (Str × Bool))
def ZO : List (Str × Bool) := ([("LOAD_NAME", false), ("POP_TOP", false), ("POP_JUMP_IF_FALSE", true), ("POP_JUMP_IF_TRUE", true), ("POP_JUMP_IF_NONE", true), ("POP_JUMP_IF_NOT_NONE", true), ("JUMP", false), ("JUMP_NO_INTERRUPT", false), ("LABEL", false), ("NOP", false), ("TO_BOOL", false)] : List (Str × Bool)) ++ ([("RETURN_VALUE", false), ("LOAD_FAST", false), ("STORE_FAST", false), ("DELETE_FAST", false), ("LOAD_CONST", false), ("SETUP_FINALLY", false), ("SETUP_CLEANUP", false), ("SETUP_WITH", false), ("POP_BLOCK", false), ("YIELD_VALUE", false), ("RESUME", false)] : List (Str × Bool)) ++ ([("RERAISE", false), ("LOAD_FAST_CHECK", false), ("RETURN_CONST", false), ("COMPARE_OP", false), ("IS_OP", false), ("CONTAINS_OP", false), ("UNARY_NOT", false), ("LOAD_GLOBAL", false), ("PUSH_NULL", false), ("CALL", false)] : List (Str × Bool))
def ZP : List (Str × Bool) := ([("LOAD_NAME", false), ("POP_TOP", false), ("POP_JUMP_IF_FALSE", false), ("POP_JUMP_IF_TRUE", false), ("POP_JUMP_IF_NONE", false), ("POP_JUMP_IF_NOT_NONE", false), ("JUMP", false), ("JUMP_NO_INTERRUPT", false), ("LABEL", false), ("NOP", false), ("TO_BOOL", false)] : List (Str × Bool)) ++ ([("RETURN_VALUE", false), ("LOAD_FAST", false), ("STORE_FAST", false), ("DELETE_FAST", false), ("LOAD_CONST", false), ("SETUP_FINALLY", true), ("SETUP_CLEANUP", true), ("SETUP_WITH", true), ("POP_BLOCK", true), ("YIELD_VALUE", false), ("RESUME", false)] : List (Str × Bool)) ++ ([("RERAISE", false), ("LOAD_FAST_CHECK", false), ("RETURN_CONST", false), ("COMPARE_OP", false), ("IS_OP", false), ("CONTAINS_OP", false), ("UNARY_NOT", false), ("LOAD_GLOBAL", false), ("PUSH_NULL", false), ("CALL", false)] : List (Str × Bool))
def ZDw : List (Str × Str × Str) := [("JUMP", "JUMP_FORWARD", "JUMP_BACKWARD"), ("JUMP_NO_INTERRUPT", "JUMP_FORWARD", "JUMP_BACKWARD_NO_INTERRUPT")]
def ZOw : List (Str × Str) := [("POP_JUMP_IF_FALSE", "POP_JUMP_IF_TRUE"), ("POP_JUMP_IF_TRUE", "POP_JUMP_IF_FALSE"), ("POP_JUMP_IF_NONE", "POP_JUMP_IF_NOT_NONE"), ("POP_JUMP_IF_NOT_NONE", "POP_JUMP_IF_NONE")]
def exA (K : PySem.W.Frag) : Bool := ZL.all (inB K "LEADING") && ZV.all (inB K "LEAVING")
def exF (K : PySem.W.Frag) : Bool := ZT.all (inB K "TURNING") && (ZD.all (inB K "DIRECTIONS") && ZO.all (inB K "OPPOSITES"))
def exG (K : PySem.W.Frag) : Bool := ZDw.all (dirB K) && (ZOw.all (strB K "OPPOSITES") && (ZP.all (inB K "OPENING") && (ZE.all (intB K "EFFECTS") && (ZS.all (setB K) && nothB K))))
def exB (K : PySem.W.Frag) : Bool := exA K && (exF K && exG K)
abbrev zwords_in : Stmt := ztop 32
abbrev ztell_handler : Stmt := ztop 30
abbrev zopened : Stmt := ztop 29
abbrev zreached_with : Stmt := ztop 28
abbrev zreached_rows : Stmt := ztop 26
abbrev zwith_handlers : Stmt := ztop 24
abbrev zwith_lines : Stmt := ztop 67
abbrev zwith_lines_on_ways : Stmt := ztop 68
abbrev zsources_of : Stmt := ztop 70
abbrev zlines_along : Stmt := ztop 69
abbrev zwith_checks : Stmt := ztop 15
abbrev zwith_directions : Stmt := ztop 83
abbrev zflowed : Stmt := ztop 80
abbrev zl_source_of : Stmt := ztop 85
abbrev zl_next : Stmt := ztop 86
abbrev zl_one : Stmt := ztop 87
abbrev zl_head : Stmt := ztop 88
abbrev zl_line : Stmt := ztop 89
abbrev zl_new : Stmt := ztop 90
abbrev zl_handler : Stmt := ztop 91
abbrev zl_put : Stmt := ztop 92
abbrev zl_label : Stmt := ztop 93
abbrev zl_pops : Stmt := ztop 94
abbrev zl_plain : Stmt := ztop 95
abbrev zl_edge : Stmt := ztop 96
abbrev zl_guarded : Stmt := ztop 97
abbrev zl_dead : Stmt := ztop 98
abbrev zl_body : Stmt := ztop 99
abbrev zlaw : Stmt := ztop 100
def d_words_in : He.DefD := ⟨("words_in", none), "words_in", "words_in", defArgs zwords_in, defBody zwords_in, defScope zwords_in, [], []⟩
def d_tell_handler : He.DefD := ⟨("tell_handler", none), "tell_handler", "tell_handler", defArgs ztell_handler, defBody ztell_handler, defScope ztell_handler, [], []⟩
def d_opened : He.DefD := ⟨("opened", none), "opened", "opened", defArgs zopened, defBody zopened, defScope zopened, [], []⟩
def d_reached_with : He.DefD := ⟨("reached_with", none), "reached_with", "reached_with", defArgs zreached_with, defBody zreached_with, defScope zreached_with, [], []⟩
def d_reached_rows : He.DefD := ⟨("reached_rows", none), "reached_rows", "reached_rows", defArgs zreached_rows, defBody zreached_rows, defScope zreached_rows, [], []⟩
def d_with_handlers : He.DefD := ⟨("with_handlers", none), "with_handlers", "with_handlers", defArgs zwith_handlers, defBody zwith_handlers, defScope zwith_handlers, [], []⟩
def d_with_lines : He.DefD := ⟨("with_lines", none), "with_lines", "with_lines", defArgs zwith_lines, defBody zwith_lines, defScope zwith_lines, [], []⟩
def d_with_lines_on_ways : He.DefD := ⟨("with_lines_on_ways", none), "with_lines_on_ways", "with_lines_on_ways", defArgs zwith_lines_on_ways, defBody zwith_lines_on_ways, defScope zwith_lines_on_ways, [], []⟩
def d_sources_of : He.DefD := ⟨("sources_of", none), "sources_of", "sources_of", defArgs zsources_of, defBody zsources_of, defScope zsources_of, [], []⟩
def d_lines_along : He.DefD := ⟨("lines_along", none), "lines_along", "lines_along", defArgs zlines_along, defBody zlines_along, defScope zlines_along, [], []⟩
def d_with_checks : He.DefD := ⟨("with_checks", none), "with_checks", "with_checks", defArgs zwith_checks, defBody zwith_checks, defScope zwith_checks, [], []⟩
def d_with_directions : He.DefD := ⟨("with_directions", none), "with_directions", "with_directions", defArgs zwith_directions, defBody zwith_directions, defScope zwith_directions, [], []⟩
def d_flowed : He.DefD := ⟨("flowed", none), "flowed", "flowed", defArgs zflowed, defBody zflowed, defScope zflowed, [.bl true], []⟩
def d_l_source_of : He.DefD := ⟨("_law_source_of", none), "_law_source_of", "_law_source_of", defArgs zl_source_of, defBody zl_source_of, defScope zl_source_of, [], []⟩
def d_l_next : He.DefD := ⟨("_law_next", none), "_law_next", "_law_next", defArgs zl_next, defBody zl_next, defScope zl_next, [], []⟩
def d_l_one : He.DefD := ⟨("_law_one", none), "_law_one", "_law_one", defArgs zl_one, defBody zl_one, defScope zl_one, [], []⟩
def d_l_head : He.DefD := ⟨("_law_head", none), "_law_head", "_law_head", defArgs zl_head, defBody zl_head, defScope zl_head, [], []⟩
def d_l_line : He.DefD := ⟨("_law_line", none), "_law_line", "_law_line", defArgs zl_line, defBody zl_line, defScope zl_line, [], []⟩
def d_l_new : He.DefD := ⟨("_law_new", none), "_law_new", "_law_new", defArgs zl_new, defBody zl_new, defScope zl_new, [], []⟩
def d_l_handler : He.DefD := ⟨("_law_handler", none), "_law_handler", "_law_handler", defArgs zl_handler, defBody zl_handler, defScope zl_handler, [], []⟩
def d_l_put : He.DefD := ⟨("_law_put", none), "_law_put", "_law_put", defArgs zl_put, defBody zl_put, defScope zl_put, [], []⟩
def d_l_label : He.DefD := ⟨("_law_label", none), "_law_label", "_law_label", defArgs zl_label, defBody zl_label, defScope zl_label, [], []⟩
def d_l_pops : He.DefD := ⟨("_law_pops", none), "_law_pops", "_law_pops", defArgs zl_pops, defBody zl_pops, defScope zl_pops, [], []⟩
def d_l_plain : He.DefD := ⟨("_law_plain", none), "_law_plain", "_law_plain", defArgs zl_plain, defBody zl_plain, defScope zl_plain, [], []⟩
def d_l_edge : He.DefD := ⟨("_law_edge", none), "_law_edge", "_law_edge", defArgs zl_edge, defBody zl_edge, defScope zl_edge, [], []⟩
def d_l_guarded : He.DefD := ⟨("_law_guarded", none), "_law_guarded", "_law_guarded", defArgs zl_guarded, defBody zl_guarded, defScope zl_guarded, [], []⟩
def d_l_dead : He.DefD := ⟨("_law_dead", none), "_law_dead", "_law_dead", defArgs zl_dead, defBody zl_dead, defScope zl_dead, [], []⟩
def d_l_body : He.DefD := ⟨("_law_body", none), "_law_body", "_law_body", defArgs zl_body, defBody zl_body, defScope zl_body, [], []⟩
def d_law : He.DefD := ⟨("law", none), "law", "law", defArgs zlaw, defBody zlaw, defScope zlaw, [], []⟩
def fns : List He.DefD := [d_words_in, d_tell_handler, d_opened, d_reached_with, d_reached_rows, d_with_handlers, d_with_lines, d_with_lines_on_ways, d_sources_of, d_lines_along, d_with_checks, d_with_directions, d_flowed, d_l_source_of, d_l_next, d_l_one, d_l_head, d_l_line, d_l_new, d_l_handler, d_l_put, d_l_label, d_l_pops, d_l_plain, d_l_edge, d_l_guarded, d_l_dead, d_l_body, d_law]
def fas : List He.Fa := [.glo "words_in", .glo "tell_handler", .glo "opened", .glo "reached_with", .glo "reached_rows", .glo "with_handlers", .glo "with_lines", .glo "with_lines_on_ways", .glo "sources_of", .glo "lines_along", .glo "with_checks", .glo "with_directions", .glo "flowed", .glo "_law_source_of", .glo "_law_next", .glo "_law_one", .glo "_law_head", .glo "_law_line", .glo "_law_new", .glo "_law_handler", .glo "_law_put", .glo "_law_label", .glo "_law_pops", .glo "_law_plain", .glo "_law_edge", .glo "_law_guarded", .glo "_law_dead", .glo "_law_body", .glo "law", .glo "LEADING", .glo "LEAVING", .glo "TURNING", .glo "DIRECTIONS", .glo "OPPOSITES", .glo "OPENING", .glo "EFFECTS", .glo "SETUPS", .glo "NOTHING_handlers", .free "len", .free "int", .free "range", .free "tuple", .free "list", .free "isinstance", .free "bool", .free "str", .free "max", .free "min", .free "enumerate", .free "any", .free "all", .free "zip", .free "sum", .free "sorted", .free "repr", .free "dict"]
def tabs : List He.Tab := [(fun K => He.ga K "LEADING", (["FOR_ITER", "JUMP", "JUMP_BACKWARD", "JUMP_BACKWARD_NO_INTERRUPT", "JUMP_FORWARD", "JUMP_NO_INTERRUPT", "POP_JUMP_IF_FALSE", "POP_JUMP_IF_NONE", "POP_JUMP_IF_NOT_NONE", "POP_JUMP_IF_TRUE", "SEND"] : List Str)), (fun K => He.ga K "LEAVING", (["JUMP", "JUMP_BACKWARD", "JUMP_BACKWARD_NO_INTERRUPT", "JUMP_FORWARD", "JUMP_NO_INTERRUPT", "RAISE_VARARGS", "RERAISE", "RETURN_CONST", "RETURN_VALUE"] : List Str)), (fun K => He.ga K "TURNING", (["FOR_ITER", "JUMP", "JUMP_BACKWARD", "JUMP_BACKWARD_NO_INTERRUPT", "JUMP_FORWARD", "JUMP_NO_INTERRUPT", "LABEL", "POP_JUMP_IF_FALSE", "POP_JUMP_IF_NONE", "POP_JUMP_IF_NOT_NONE", "POP_JUMP_IF_TRUE", "RAISE_VARARGS", "RERAISE", "RETURN_CONST", "RETURN_VALUE", "SEND"] : List Str)), (fun K => He.ga K "DIRECTIONS", (["JUMP", "JUMP_NO_INTERRUPT"] : List Str)), (fun K => He.ga K "OPPOSITES", (["POP_JUMP_IF_FALSE", "POP_JUMP_IF_TRUE", "POP_JUMP_IF_NONE", "POP_JUMP_IF_NOT_NONE"] : List Str)), (fun K => He.ga K "OPENING", (["POP_BLOCK", "SETUP_CLEANUP", "SETUP_FINALLY", "SETUP_WITH"] : List Str)), (fun K => He.ga K "EFFECTS", (["BEFORE_WITH", "BINARY_OP", "BINARY_SLICE", "BINARY_SUBSCR", "CALL_INTRINSIC_1", "CHECK_EXC_MATCH", "CLEANUP_THROW", "COMPARE_OP", "CONTAINS_OP", "COPY", "COPY_FREE_VARS", "DELETE_ATTR", "DELETE_DEREF", "DELETE_FAST", "DELETE_GLOBAL", "DELETE_NAME", "DELETE_SUBSCR", "DICT_MERGE", "END_FOR", "END_SEND"] : List Str) ++ (["FOR_ITER", "GET_ITER", "GET_YIELD_FROM_ITER", "IS_OP", "JUMP", "JUMP_BACKWARD", "JUMP_BACKWARD_NO_INTERRUPT", "JUMP_FORWARD", "JUMP_NO_INTERRUPT", "LABEL", "LIST_APPEND", "LIST_EXTEND", "LOAD_ASSERTION_ERROR", "LOAD_BUILD_CLASS", "LOAD_CLOSURE", "LOAD_CODE", "LOAD_CONST", "LOAD_DEREF", "LOAD_FAST", "LOAD_FAST_CHECK"] : List Str) ++ (["LOAD_FAST_LOAD_FAST", "LOAD_FROM_DICT_OR_DEREF", "LOAD_LOCALS", "LOAD_NAME", "MAKE_CELL", "MAKE_FUNCTION", "MAP_ADD", "NOP", "POP_BLOCK", "POP_EXCEPT", "POP_JUMP_IF_FALSE", "POP_JUMP_IF_NONE", "POP_JUMP_IF_NOT_NONE", "POP_JUMP_IF_TRUE", "POP_TOP", "PUSH_EXC_INFO", "PUSH_NULL", "RERAISE", "RESUME", "RETURN_CONST"] : List Str) ++ (["RETURN_GENERATOR", "RETURN_VALUE", "SEND", "SETUP_CLEANUP", "SETUP_FINALLY", "SETUP_WITH", "SET_FUNCTION_ATTRIBUTE", "STORE_ATTR", "STORE_DEREF", "STORE_FAST", "STORE_FAST_LOAD_FAST", "STORE_FAST_STORE_FAST", "STORE_GLOBAL", "STORE_NAME", "STORE_SLICE", "STORE_SUBSCR", "SWAP", "TO_BOOL", "UNARY_INVERT", "UNARY_NEGATIVE"] : List Str) ++ (["UNARY_NOT", "WITH_EXCEPT_START", "YIELD_VALUE"] : List Str)), (fun K => He.ga K "SETUPS", (["SETUP_FINALLY", "SETUP_CLEANUP", "SETUP_WITH"] : List Str))]
abbrev Rk : PySem.W.OpenRow := PySem.W.OpenLaw.row PySem.Challenge.rw_codewalk_k31_handlers_of_rows
def tfs : List He.Defn := []
/-! ### a head's hook that looks at the objects of the top in their order, one by one -/
def asY (n : Nat) : List Addr := mainGlobals :: List.range' 11 (n - 11)
def obsY (fa : List He.Fa) (fn : List He.DefD) (ts : List He.Tab) (tf : List He.Defn) (ex : PySem.W.Frag → Bool) (g : Addr → Option Obj) (n : Nat) : He.AlX := (He.obsT fa fn ts (He.frT g (asY n)), ex (He.frT g (asY n)) && He.tabsB g tf (He.frT g (asY n)))
theorem saysY_of {as : List Addr} {fa : List He.Fa} {fn : List He.DefD} {ts : List He.Tab} {tf : List He.Defn} {ex : PySem.W.Frag → Bool} {w : World} {h : Heap} (e1 : He.obsT fa fn ts (He.frT h.get? as) = He.valT fn ts w) (e2 : (ex (He.frT h.get? as) && He.tabsB h.get? tf (He.frT h.get? as)) = true) :
    He.SaysX fa fn ts tf ex w h (He.frT h.get? as) := by
  obtain ⟨h1, h2⟩ := He.ba e2
  have key : ∀ p ∈ tf, PySem.W.codeHdIn (He.frT h.get? as) (He.cT (He.frT h.get? as) p).1 (He.cT (He.frT h.get? as) p).2 = true ∧ ∃ o, h.get? (He.cT (He.frT h.get? as) p).2 = some o ∧ He.emptyTab o = true := fun p hp => by
    obtain ⟨h3, h4⟩ := He.ba (List.all_eq_true.mp h2 p hp)
    refine ⟨h3, ?_⟩
    cases q : h.get? (He.cT (He.frT h.get? as) p).2 with
    | none =>
      rw [q] at h4
      cases h4
    | some o =>
      rw [q] at h4
      exact ⟨o, rfl, h4⟩
  exact ⟨e1, h1, fun p hp => (key p hp).1, fun p hp => by
    obtain ⟨_, o, q, z⟩ := key p hp
    exact He.frT_none q z, fun p hp => by
    obtain ⟨_, o, q, z⟩ := key p hp
    rw [q, He.emptyTab_eq z]⟩
def hookY (fa : List He.Fa) (fn : List He.DefD) (ts : List He.Tab) (tf : List He.Defn) (ex : PySem.W.Frag → Bool) : PySem.W.Hook where
  α := He.AlX
  obs := fun s => obsY fa fn ts tf ex s.heap.get? s.heap.objs.size
  val := fun w => He.valX fn ts w
  says := fun w h => ∃ K : PySem.W.Frag, K.In h ∧ He.SaysX fa fn ts tf ex w h K
  of := fun _ _ e => ⟨_, He.frT_in, saysY_of (congrArg (fun z : He.AlX => z.1) e) (congrArg (fun z : He.AlX => z.2) e)⟩
  keeps := fun _ _ _ ⟨K, hK, c⟩ k => ⟨K, PySem.W.Frag.In.keeps hK k, ⟨c.t, c.more, c.hd, c.out, fun p hp => k _ _ (c.empty p hp)⟩⟩
theorem obsY_eq {fa : List He.Fa} {fn : List He.DefD} {ts : List He.Tab} {tf : List He.Defn} {ex : PySem.W.Frag → Bool} {s : PySem.W.SharedT} : obsY fa fn ts tf ex (HandSHeadRun.getT s) s.n = (hookY fa fn ts tf ex).obs s.abs := by
  have e : HandSHeadRun.getT s = s.abs.heap.get? := funext (HandSHeadRun.getT_eq s)
  have z : s.abs.heap.objs.size = s.n := PySem.W.absHeap_size _ _ _
  show obsY fa fn ts tf ex (HandSHeadRun.getT s) s.n = obsY fa fn ts tf ex s.abs.heap.get? s.abs.heap.objs.size
  rw [z, e]

abbrev hkk : PySem.W.Hook := hookY fas fns tabs tfs exB
def obk (s : PySem.W.SharedT) : He.AlX := obsY fas fns tabs tfs exB (HandSHeadRun.getT s) s.n
theorem obk_eq (s : PySem.W.SharedT) : obk s = hkk.obs s.abs := obsY_eq
def loose : List Str := (["EFFECTS", "COUNTED_EFFECTS", "LEADING", "LEAVING", "TURNING", "QUIET", "LOCAL", "effect_of", "parameters_of", "numbers_of", "locals_in", "CHANGING", "with_checks", "lacking_in_order", "lacking_on_ways", "bits_of", "Bound", "NOTHING_handlers", "SETUPS", "OPENING"] : List Str) ++ (["with_handlers", "first_rows", "reached_rows", "reached_without", "reached_with", "opened", "tell_handler", "words_in", "places_of", "reached", "without_unreached", "NOTHING_rounds", "ROWS", "WAYS", "JUMPS", "THREADED", "rounds", "rounds_with_labels", "cleared", "only_telling"] : List Str) ++ (["combine", "blank", "combine_truth", "combine_jump", "combine_none", "combine_null", "combine_return", "RULES", "MEETING", "BOOLS", "turn_jumps", "jumps_in", "thread", "onward_labels", "last_labels", "drop_jumps", "leads_on", "without_nops", "tells_line_ahead", "may_meet"] : List Str) ++ (["with_lines", "with_lines_on_ways", "lines_along", "sources_of", "sources_at_labels", "leads_of", "with_cold_last", "moved_back", "warm_rows", "MOST_IN_PAIRS", "DIRECTIONS", "OPPOSITES", "flowed", "with_pairs", "are_alike", "with_directions", "_law_source_of", "_law_next", "_law_one", "_law_head"] : List Str) ++ (["_law_line", "_law_new", "_law_handler", "_law_put", "_law_label", "_law_pops", "_law_plain", "_law_edge", "_law_guarded", "_law_dead", "_law_body"] : List Str)
/-- a dict display asks the world about one row: both answers are the same run -/
def fixW (w : World) (b : Bool) : World := { w with params := { w.params with followText := fun s => if s = "special-get-raises" then b else w.params.followText s } }
theorem fixW_eq (w : World) : fixW w (w.params.followText "special-get-raises") = w := by
  have e : (fun s => if s = "special-get-raises" then w.params.followText "special-get-raises" else w.params.followText s) = w.params.followText := by
    funext s
    split
    · rename_i h
      rw [h]
    · rfl
  unfold fixW
  rw [e]
abbrev K_ (s : PySem.W.SharedT) : PySem.W.Frag := He.frT (HandSHeadRun.getT s) (asY s.n)
noncomputable abbrev endW (w : World) (os : OsState) : Option PySem.W.SharedT := HandSHeadRun.endF (HandSHeadRun.stepQ (HandSHeadRun.denQ HandSHeadRun.tabQ) Rk.prog w) 16000 Rk.prog w os
/-! ### the state in the midst of the top, and behind it -/
section
open PySem
def ob0 (P : Params) : Obj := Obj.mk (Value.type "dict") Option.none (Data.dict #[DictEntry.mk (PySem.PyData.keyHash P (Str.ofString "__name__")) (Value.str (Str.ofString "__name__") 1) (Value.str (Str.ofString "builtins") 160), DictEntry.mk (PySem.PyData.keyHash P (Str.ofString "__doc__")) (Value.str (Str.ofString "__doc__") 2) (Value.builtin "builtins.__doc__:str#opaque"), DictEntry.mk (PySem.PyData.keyHash P (Str.ofString "__package__")) (Value.str (Str.ofString "__package__") 3) (Value.builtin "builtins.__package__:str#opaque"), DictEntry.mk (PySem.PyData.keyHash P (Str.ofString "__loader__")) (Value.str (Str.ofString "__loader__") 4) (Value.builtin "builtins.__loader__:shared#opaque"), DictEntry.mk (PySem.PyData.keyHash P (Str.ofString "__spec__")) (Value.str (Str.ofString "__spec__") 5) (Value.builtin "builtins.__spec__#opaque"), DictEntry.mk (PySem.PyData.keyHash P (Str.ofString "__build_class__")) (Value.str (Str.ofString "__build_class__") 6) (Value.builtin "__build_class__"), DictEntry.mk (PySem.PyData.keyHash P (Str.ofString "__import__")) (Value.str (Str.ofString "__import__") 7) (Value.builtin "__import__"), DictEntry.mk (PySem.PyData.keyHash P (Str.ofString "abs")) (Value.str (Str.ofString "abs") 8) (Value.builtin "abs"), DictEntry.mk (PySem.PyData.keyHash P (Str.ofString "all")) (Value.str (Str.ofString "all") 9) (Value.builtin "all"), DictEntry.mk (PySem.PyData.keyHash P (Str.ofString "any")) (Value.str (Str.ofString "any") 10) (Value.builtin "any"), DictEntry.mk (PySem.PyData.keyHash P (Str.ofString "ascii")) (Value.str (Str.ofString "ascii") 11) (Value.builtin "ascii"), DictEntry.mk (PySem.PyData.keyHash P (Str.ofString "bin")) (Value.str (Str.ofString "bin") 12) (Value.builtin "bin"), DictEntry.mk (PySem.PyData.keyHash P (Str.ofString "breakpoint")) (Value.str (Str.ofString "breakpoint") 13) (Value.builtin "breakpoint"), DictEntry.mk (PySem.PyData.keyHash P (Str.ofString "callable")) (Value.str (Str.ofString "callable") 14) (Value.builtin "callable"), DictEntry.mk (PySem.PyData.keyHash P (Str.ofString "chr")) (Value.str (Str.ofString "chr") 15) (Value.builtin "chr"), DictEntry.mk (PySem.PyData.keyHash P (Str.ofString "compile")) (Value.str (Str.ofString "compile") 16) (Value.builtin "compile"), DictEntry.mk (PySem.PyData.keyHash P (Str.ofString "delattr")) (Value.str (Str.ofString "delattr") 17) (Value.builtin "delattr"), DictEntry.mk (PySem.PyData.keyHash P (Str.ofString "dir")) (Value.str (Str.ofString "dir") 18) (Value.builtin "dir"), DictEntry.mk (PySem.PyData.keyHash P (Str.ofString "divmod")) (Value.str (Str.ofString "divmod") 19) (Value.builtin "divmod"), DictEntry.mk (PySem.PyData.keyHash P (Str.ofString "eval")) (Value.str (Str.ofString "eval") 20) (Value.builtin "eval"), DictEntry.mk (PySem.PyData.keyHash P (Str.ofString "exec")) (Value.str (Str.ofString "exec") 21) (Value.builtin "exec"), DictEntry.mk (PySem.PyData.keyHash P (Str.ofString "format")) (Value.str (Str.ofString "format") 22) (Value.builtin "format"), DictEntry.mk (PySem.PyData.keyHash P (Str.ofString "getattr")) (Value.str (Str.ofString "getattr") 23) (Value.builtin "getattr"), DictEntry.mk (PySem.PyData.keyHash P (Str.ofString "globals")) (Value.str (Str.ofString "globals") 24) (Value.builtin "globals"), DictEntry.mk (PySem.PyData.keyHash P (Str.ofString "hasattr")) (Value.str (Str.ofString "hasattr") 25) (Value.builtin "hasattr"), DictEntry.mk (PySem.PyData.keyHash P (Str.ofString "hash")) (Value.str (Str.ofString "hash") 26) (Value.builtin "hash"), DictEntry.mk (PySem.PyData.keyHash P (Str.ofString "hex")) (Value.str (Str.ofString "hex") 27) (Value.builtin "hex"), DictEntry.mk (PySem.PyData.keyHash P (Str.ofString "id")) (Value.str (Str.ofString "id") 28) (Value.builtin "id"), DictEntry.mk (PySem.PyData.keyHash P (Str.ofString "input")) (Value.str (Str.ofString "input") 29) (Value.builtin "input"), DictEntry.mk (PySem.PyData.keyHash P (Str.ofString "isinstance")) (Value.str (Str.ofString "isinstance") 30) (Value.builtin "isinstance"), DictEntry.mk (PySem.PyData.keyHash P (Str.ofString "issubclass")) (Value.str (Str.ofString "issubclass") 31) (Value.builtin "issubclass"), DictEntry.mk (PySem.PyData.keyHash P (Str.ofString "iter")) (Value.str (Str.ofString "iter") 32) (Value.builtin "iter"), DictEntry.mk (PySem.PyData.keyHash P (Str.ofString "aiter")) (Value.str (Str.ofString "aiter") 33) (Value.builtin "aiter"), DictEntry.mk (PySem.PyData.keyHash P (Str.ofString "len")) (Value.str (Str.ofString "len") 34) (Value.builtin "len"), DictEntry.mk (PySem.PyData.keyHash P (Str.ofString "locals")) (Value.str (Str.ofString "locals") 35) (Value.builtin "locals"), DictEntry.mk (PySem.PyData.keyHash P (Str.ofString "max")) (Value.str (Str.ofString "max") 36) (Value.builtin "max"), DictEntry.mk (PySem.PyData.keyHash P (Str.ofString "min")) (Value.str (Str.ofString "min") 37) (Value.builtin "min"), DictEntry.mk (PySem.PyData.keyHash P (Str.ofString "next")) (Value.str (Str.ofString "next") 38) (Value.builtin "next"), DictEntry.mk (PySem.PyData.keyHash P (Str.ofString "anext")) (Value.str (Str.ofString "anext") 39) (Value.builtin "anext"), DictEntry.mk (PySem.PyData.keyHash P (Str.ofString "oct")) (Value.str (Str.ofString "oct") 40) (Value.builtin "oct"), DictEntry.mk (PySem.PyData.keyHash P (Str.ofString "ord")) (Value.str (Str.ofString "ord") 41) (Value.builtin "ord"), DictEntry.mk (PySem.PyData.keyHash P (Str.ofString "pow")) (Value.str (Str.ofString "pow") 42) (Value.builtin "pow"), DictEntry.mk (PySem.PyData.keyHash P (Str.ofString "print")) (Value.str (Str.ofString "print") 43) (Value.builtin "print"), DictEntry.mk (PySem.PyData.keyHash P (Str.ofString "repr")) (Value.str (Str.ofString "repr") 44) (Value.builtin "repr"), DictEntry.mk (PySem.PyData.keyHash P (Str.ofString "round")) (Value.str (Str.ofString "round") 45) (Value.builtin "round"), DictEntry.mk (PySem.PyData.keyHash P (Str.ofString "setattr")) (Value.str (Str.ofString "setattr") 46) (Value.builtin "setattr"), DictEntry.mk (PySem.PyData.keyHash P (Str.ofString "sorted")) (Value.str (Str.ofString "sorted") 47) (Value.builtin "sorted"), DictEntry.mk (PySem.PyData.keyHash P (Str.ofString "sum")) (Value.str (Str.ofString "sum") 48) (Value.builtin "sum"), DictEntry.mk (PySem.PyData.keyHash P (Str.ofString "vars")) (Value.str (Str.ofString "vars") 49) (Value.builtin "vars"), DictEntry.mk (PySem.PyData.keyHash P (Str.ofString "None")) (Value.str (Str.ofString "None") 50) Value.none, DictEntry.mk (PySem.PyData.keyHash P (Str.ofString "Ellipsis")) (Value.str (Str.ofString "Ellipsis") 51) Value.ellipsis, DictEntry.mk (PySem.PyData.keyHash P (Str.ofString "NotImplemented")) (Value.str (Str.ofString "NotImplemented") 52) Value.notImplemented, DictEntry.mk (PySem.PyData.keyHash P (Str.ofString "False")) (Value.str (Str.ofString "False") 53) (Value.bool Bool.false), DictEntry.mk (PySem.PyData.keyHash P (Str.ofString "True")) (Value.str (Str.ofString "True") 54) (Value.bool Bool.true), DictEntry.mk (PySem.PyData.keyHash P (Str.ofString "bool")) (Value.str (Str.ofString "bool") 55) (Value.type "bool"), DictEntry.mk (PySem.PyData.keyHash P (Str.ofString "memoryview")) (Value.str (Str.ofString "memoryview") 56) (Value.type "memoryview"), DictEntry.mk (PySem.PyData.keyHash P (Str.ofString "bytearray")) (Value.str (Str.ofString "bytearray") 57) (Value.type "bytearray"), DictEntry.mk (PySem.PyData.keyHash P (Str.ofString "bytes")) (Value.str (Str.ofString "bytes") 58) (Value.type "bytes"), DictEntry.mk (PySem.PyData.keyHash P (Str.ofString "classmethod")) (Value.str (Str.ofString "classmethod") 59) (Value.type "classmethod"), DictEntry.mk (PySem.PyData.keyHash P (Str.ofString "complex")) (Value.str (Str.ofString "complex") 60) (Value.type "complex"), DictEntry.mk (PySem.PyData.keyHash P (Str.ofString "dict")) (Value.str (Str.ofString "dict") 61) (Value.type "dict"), DictEntry.mk (PySem.PyData.keyHash P (Str.ofString "enumerate")) (Value.str (Str.ofString "enumerate") 62) (Value.type "enumerate"), DictEntry.mk (PySem.PyData.keyHash P (Str.ofString "filter")) (Value.str (Str.ofString "filter") 63) (Value.type "filter"), DictEntry.mk (PySem.PyData.keyHash P (Str.ofString "float")) (Value.str (Str.ofString "float") 64) (Value.type "float"), DictEntry.mk (PySem.PyData.keyHash P (Str.ofString "frozenset")) (Value.str (Str.ofString "frozenset") 65) (Value.type "frozenset"), DictEntry.mk (PySem.PyData.keyHash P (Str.ofString "property")) (Value.str (Str.ofString "property") 66) (Value.type "property"), DictEntry.mk (PySem.PyData.keyHash P (Str.ofString "int")) (Value.str (Str.ofString "int") 67) (Value.type "int"), DictEntry.mk (PySem.PyData.keyHash P (Str.ofString "list")) (Value.str (Str.ofString "list") 68) (Value.type "list"), DictEntry.mk (PySem.PyData.keyHash P (Str.ofString "map")) (Value.str (Str.ofString "map") 69) (Value.type "map"), DictEntry.mk (PySem.PyData.keyHash P (Str.ofString "object")) (Value.str (Str.ofString "object") 70) (Value.type "object"), DictEntry.mk (PySem.PyData.keyHash P (Str.ofString "range")) (Value.str (Str.ofString "range") 71) (Value.type "range"), DictEntry.mk (PySem.PyData.keyHash P (Str.ofString "reversed")) (Value.str (Str.ofString "reversed") 72) (Value.type "reversed"), DictEntry.mk (PySem.PyData.keyHash P (Str.ofString "set")) (Value.str (Str.ofString "set") 73) (Value.type "set"), DictEntry.mk (PySem.PyData.keyHash P (Str.ofString "slice")) (Value.str (Str.ofString "slice") 74) (Value.type "slice"), DictEntry.mk (PySem.PyData.keyHash P (Str.ofString "staticmethod")) (Value.str (Str.ofString "staticmethod") 75) (Value.type "staticmethod"), DictEntry.mk (PySem.PyData.keyHash P (Str.ofString "str")) (Value.str (Str.ofString "str") 76) (Value.type "str"), DictEntry.mk (PySem.PyData.keyHash P (Str.ofString "super")) (Value.str (Str.ofString "super") 77) (Value.type "super"), DictEntry.mk (PySem.PyData.keyHash P (Str.ofString "tuple")) (Value.str (Str.ofString "tuple") 78) (Value.type "tuple"), DictEntry.mk (PySem.PyData.keyHash P (Str.ofString "type")) (Value.str (Str.ofString "type") 79) (Value.type "type"), DictEntry.mk (PySem.PyData.keyHash P (Str.ofString "zip")) (Value.str (Str.ofString "zip") 80) (Value.type "zip"), DictEntry.mk (PySem.PyData.keyHash P (Str.ofString "__debug__")) (Value.str (Str.ofString "__debug__") 81) (Value.bool Bool.true), DictEntry.mk (PySem.PyData.keyHash P (Str.ofString "BaseException")) (Value.str (Str.ofString "BaseException") 82) (Value.type "BaseException"), DictEntry.mk (PySem.PyData.keyHash P (Str.ofString "BaseExceptionGroup")) (Value.str (Str.ofString "BaseExceptionGroup") 83) (Value.type "BaseExceptionGroup"), DictEntry.mk (PySem.PyData.keyHash P (Str.ofString "Exception")) (Value.str (Str.ofString "Exception") 84) (Value.type "Exception"), DictEntry.mk (PySem.PyData.keyHash P (Str.ofString "GeneratorExit")) (Value.str (Str.ofString "GeneratorExit") 85) (Value.type "GeneratorExit"), DictEntry.mk (PySem.PyData.keyHash P (Str.ofString "KeyboardInterrupt")) (Value.str (Str.ofString "KeyboardInterrupt") 86) (Value.type "KeyboardInterrupt"), DictEntry.mk (PySem.PyData.keyHash P (Str.ofString "SystemExit")) (Value.str (Str.ofString "SystemExit") 87) (Value.type "SystemExit"), DictEntry.mk (PySem.PyData.keyHash P (Str.ofString "ArithmeticError")) (Value.str (Str.ofString "ArithmeticError") 88) (Value.type "ArithmeticError"), DictEntry.mk (PySem.PyData.keyHash P (Str.ofString "AssertionError")) (Value.str (Str.ofString "AssertionError") 89) (Value.type "AssertionError"), DictEntry.mk (PySem.PyData.keyHash P (Str.ofString "AttributeError")) (Value.str (Str.ofString "AttributeError") 90) (Value.type "AttributeError"), DictEntry.mk (PySem.PyData.keyHash P (Str.ofString "BufferError")) (Value.str (Str.ofString "BufferError") 91) (Value.type "BufferError"), DictEntry.mk (PySem.PyData.keyHash P (Str.ofString "EOFError")) (Value.str (Str.ofString "EOFError") 92) (Value.type "EOFError"), DictEntry.mk (PySem.PyData.keyHash P (Str.ofString "ImportError")) (Value.str (Str.ofString "ImportError") 93) (Value.type "ImportError"), DictEntry.mk (PySem.PyData.keyHash P (Str.ofString "LookupError")) (Value.str (Str.ofString "LookupError") 94) (Value.type "LookupError"), DictEntry.mk (PySem.PyData.keyHash P (Str.ofString "MemoryError")) (Value.str (Str.ofString "MemoryError") 95) (Value.type "MemoryError"), DictEntry.mk (PySem.PyData.keyHash P (Str.ofString "NameError")) (Value.str (Str.ofString "NameError") 96) (Value.type "NameError"), DictEntry.mk (PySem.PyData.keyHash P (Str.ofString "OSError")) (Value.str (Str.ofString "OSError") 97) (Value.type "OSError"), DictEntry.mk (PySem.PyData.keyHash P (Str.ofString "ReferenceError")) (Value.str (Str.ofString "ReferenceError") 98) (Value.type "ReferenceError"), DictEntry.mk (PySem.PyData.keyHash P (Str.ofString "RuntimeError")) (Value.str (Str.ofString "RuntimeError") 99) (Value.type "RuntimeError"), DictEntry.mk (PySem.PyData.keyHash P (Str.ofString "StopAsyncIteration")) (Value.str (Str.ofString "StopAsyncIteration") 100) (Value.type "StopAsyncIteration"), DictEntry.mk (PySem.PyData.keyHash P (Str.ofString "StopIteration")) (Value.str (Str.ofString "StopIteration") 101) (Value.type "StopIteration"), DictEntry.mk (PySem.PyData.keyHash P (Str.ofString "SyntaxError")) (Value.str (Str.ofString "SyntaxError") 102) (Value.type "SyntaxError"), DictEntry.mk (PySem.PyData.keyHash P (Str.ofString "SystemError")) (Value.str (Str.ofString "SystemError") 103) (Value.type "SystemError"), DictEntry.mk (PySem.PyData.keyHash P (Str.ofString "TypeError")) (Value.str (Str.ofString "TypeError") 104) (Value.type "TypeError"), DictEntry.mk (PySem.PyData.keyHash P (Str.ofString "ValueError")) (Value.str (Str.ofString "ValueError") 105) (Value.type "ValueError"), DictEntry.mk (PySem.PyData.keyHash P (Str.ofString "Warning")) (Value.str (Str.ofString "Warning") 106) (Value.type "Warning"), DictEntry.mk (PySem.PyData.keyHash P (Str.ofString "FloatingPointError")) (Value.str (Str.ofString "FloatingPointError") 107) (Value.type "FloatingPointError"), DictEntry.mk (PySem.PyData.keyHash P (Str.ofString "OverflowError")) (Value.str (Str.ofString "OverflowError") 108) (Value.type "OverflowError"), DictEntry.mk (PySem.PyData.keyHash P (Str.ofString "ZeroDivisionError")) (Value.str (Str.ofString "ZeroDivisionError") 109) (Value.type "ZeroDivisionError"), DictEntry.mk (PySem.PyData.keyHash P (Str.ofString "BytesWarning")) (Value.str (Str.ofString "BytesWarning") 110) (Value.type "BytesWarning"), DictEntry.mk (PySem.PyData.keyHash P (Str.ofString "DeprecationWarning")) (Value.str (Str.ofString "DeprecationWarning") 111) (Value.type "DeprecationWarning"), DictEntry.mk (PySem.PyData.keyHash P (Str.ofString "EncodingWarning")) (Value.str (Str.ofString "EncodingWarning") 112) (Value.type "EncodingWarning"), DictEntry.mk (PySem.PyData.keyHash P (Str.ofString "FutureWarning")) (Value.str (Str.ofString "FutureWarning") 113) (Value.type "FutureWarning"), DictEntry.mk (PySem.PyData.keyHash P (Str.ofString "ImportWarning")) (Value.str (Str.ofString "ImportWarning") 114) (Value.type "ImportWarning"), DictEntry.mk (PySem.PyData.keyHash P (Str.ofString "PendingDeprecationWarning")) (Value.str (Str.ofString "PendingDeprecationWarning") 115) (Value.type "PendingDeprecationWarning"), DictEntry.mk (PySem.PyData.keyHash P (Str.ofString "ResourceWarning")) (Value.str (Str.ofString "ResourceWarning") 116) (Value.type "ResourceWarning"), DictEntry.mk (PySem.PyData.keyHash P (Str.ofString "RuntimeWarning")) (Value.str (Str.ofString "RuntimeWarning") 117) (Value.type "RuntimeWarning"), DictEntry.mk (PySem.PyData.keyHash P (Str.ofString "SyntaxWarning")) (Value.str (Str.ofString "SyntaxWarning") 118) (Value.type "SyntaxWarning"), DictEntry.mk (PySem.PyData.keyHash P (Str.ofString "UnicodeWarning")) (Value.str (Str.ofString "UnicodeWarning") 119) (Value.type "UnicodeWarning"), DictEntry.mk (PySem.PyData.keyHash P (Str.ofString "UserWarning")) (Value.str (Str.ofString "UserWarning") 120) (Value.type "UserWarning"), DictEntry.mk (PySem.PyData.keyHash P (Str.ofString "BlockingIOError")) (Value.str (Str.ofString "BlockingIOError") 121) (Value.type "BlockingIOError"), DictEntry.mk (PySem.PyData.keyHash P (Str.ofString "ChildProcessError")) (Value.str (Str.ofString "ChildProcessError") 122) (Value.type "ChildProcessError"), DictEntry.mk (PySem.PyData.keyHash P (Str.ofString "ConnectionError")) (Value.str (Str.ofString "ConnectionError") 123) (Value.type "ConnectionError"), DictEntry.mk (PySem.PyData.keyHash P (Str.ofString "FileExistsError")) (Value.str (Str.ofString "FileExistsError") 124) (Value.type "FileExistsError"), DictEntry.mk (PySem.PyData.keyHash P (Str.ofString "FileNotFoundError")) (Value.str (Str.ofString "FileNotFoundError") 125) (Value.type "FileNotFoundError"), DictEntry.mk (PySem.PyData.keyHash P (Str.ofString "InterruptedError")) (Value.str (Str.ofString "InterruptedError") 126) (Value.type "InterruptedError"), DictEntry.mk (PySem.PyData.keyHash P (Str.ofString "IsADirectoryError")) (Value.str (Str.ofString "IsADirectoryError") 127) (Value.type "IsADirectoryError"), DictEntry.mk (PySem.PyData.keyHash P (Str.ofString "NotADirectoryError")) (Value.str (Str.ofString "NotADirectoryError") 128) (Value.type "NotADirectoryError"), DictEntry.mk (PySem.PyData.keyHash P (Str.ofString "PermissionError")) (Value.str (Str.ofString "PermissionError") 129) (Value.type "PermissionError"), DictEntry.mk (PySem.PyData.keyHash P (Str.ofString "ProcessLookupError")) (Value.str (Str.ofString "ProcessLookupError") 130) (Value.type "ProcessLookupError"), DictEntry.mk (PySem.PyData.keyHash P (Str.ofString "TimeoutError")) (Value.str (Str.ofString "TimeoutError") 131) (Value.type "TimeoutError"), DictEntry.mk (PySem.PyData.keyHash P (Str.ofString "IndentationError")) (Value.str (Str.ofString "IndentationError") 132) (Value.type "IndentationError"), DictEntry.mk (PySem.PyData.keyHash P (Str.ofString "_IncompleteInputError")) (Value.str (Str.ofString "_IncompleteInputError") 133) (Value.type "_IncompleteInputError"), DictEntry.mk (PySem.PyData.keyHash P (Str.ofString "IndexError")) (Value.str (Str.ofString "IndexError") 134) (Value.type "IndexError"), DictEntry.mk (PySem.PyData.keyHash P (Str.ofString "KeyError")) (Value.str (Str.ofString "KeyError") 135) (Value.type "KeyError"), DictEntry.mk (PySem.PyData.keyHash P (Str.ofString "ModuleNotFoundError")) (Value.str (Str.ofString "ModuleNotFoundError") 136) (Value.type "ModuleNotFoundError"), DictEntry.mk (PySem.PyData.keyHash P (Str.ofString "NotImplementedError")) (Value.str (Str.ofString "NotImplementedError") 137) (Value.type "NotImplementedError"), DictEntry.mk (PySem.PyData.keyHash P (Str.ofString "PythonFinalizationError")) (Value.str (Str.ofString "PythonFinalizationError") 138) (Value.type "PythonFinalizationError"), DictEntry.mk (PySem.PyData.keyHash P (Str.ofString "RecursionError")) (Value.str (Str.ofString "RecursionError") 139) (Value.type "RecursionError"), DictEntry.mk (PySem.PyData.keyHash P (Str.ofString "UnboundLocalError")) (Value.str (Str.ofString "UnboundLocalError") 140) (Value.type "UnboundLocalError"), DictEntry.mk (PySem.PyData.keyHash P (Str.ofString "UnicodeError")) (Value.str (Str.ofString "UnicodeError") 141) (Value.type "UnicodeError"), DictEntry.mk (PySem.PyData.keyHash P (Str.ofString "BrokenPipeError")) (Value.str (Str.ofString "BrokenPipeError") 142) (Value.type "BrokenPipeError"), DictEntry.mk (PySem.PyData.keyHash P (Str.ofString "ConnectionAbortedError")) (Value.str (Str.ofString "ConnectionAbortedError") 143) (Value.type "ConnectionAbortedError"), DictEntry.mk (PySem.PyData.keyHash P (Str.ofString "ConnectionRefusedError")) (Value.str (Str.ofString "ConnectionRefusedError") 144) (Value.type "ConnectionRefusedError"), DictEntry.mk (PySem.PyData.keyHash P (Str.ofString "ConnectionResetError")) (Value.str (Str.ofString "ConnectionResetError") 145) (Value.type "ConnectionResetError"), DictEntry.mk (PySem.PyData.keyHash P (Str.ofString "TabError")) (Value.str (Str.ofString "TabError") 146) (Value.type "TabError"), DictEntry.mk (PySem.PyData.keyHash P (Str.ofString "UnicodeDecodeError")) (Value.str (Str.ofString "UnicodeDecodeError") 147) (Value.type "UnicodeDecodeError"), DictEntry.mk (PySem.PyData.keyHash P (Str.ofString "UnicodeEncodeError")) (Value.str (Str.ofString "UnicodeEncodeError") 148) (Value.type "UnicodeEncodeError"), DictEntry.mk (PySem.PyData.keyHash P (Str.ofString "UnicodeTranslateError")) (Value.str (Str.ofString "UnicodeTranslateError") 149) (Value.type "UnicodeTranslateError"), DictEntry.mk (PySem.PyData.keyHash P (Str.ofString "ExceptionGroup")) (Value.str (Str.ofString "ExceptionGroup") 150) (Value.type "ExceptionGroup"), DictEntry.mk (PySem.PyData.keyHash P (Str.ofString "EnvironmentError")) (Value.str (Str.ofString "EnvironmentError") 151) (Value.type "OSError"), DictEntry.mk (PySem.PyData.keyHash P (Str.ofString "IOError")) (Value.str (Str.ofString "IOError") 152) (Value.type "OSError"), DictEntry.mk (PySem.PyData.keyHash P (Str.ofString "open")) (Value.str (Str.ofString "open") 153) (Value.builtin "open"), DictEntry.mk (PySem.PyData.keyHash P (Str.ofString "quit")) (Value.str (Str.ofString "quit") 154) (Value.builtin "builtins.quit#opaque"), DictEntry.mk (PySem.PyData.keyHash P (Str.ofString "exit")) (Value.str (Str.ofString "exit") 155) (Value.builtin "builtins.exit#opaque"), DictEntry.mk (PySem.PyData.keyHash P (Str.ofString "copyright")) (Value.str (Str.ofString "copyright") 156) (Value.builtin "builtins.copyright#opaque"), DictEntry.mk (PySem.PyData.keyHash P (Str.ofString "credits")) (Value.str (Str.ofString "credits") 157) (Value.builtin "builtins.credits#opaque"), DictEntry.mk (PySem.PyData.keyHash P (Str.ofString "license")) (Value.str (Str.ofString "license") 158) (Value.builtin "builtins.license#opaque"), DictEntry.mk (PySem.PyData.keyHash P (Str.ofString "help")) (Value.str (Str.ofString "help") 159) (Value.builtin "builtins.help#opaque")] 159) #[]
def ob1 (P : Params) : Obj := Obj.mk (Value.type "dict") Option.none (Data.dict #[DictEntry.mk (PySem.PyData.keyHash P (Str.ofString "builtins")) (Value.str (Str.ofString "builtins") 162) (Value.ref 4), DictEntry.mk (PySem.PyData.keyHash P (Str.ofString "__main__")) (Value.str (Str.ofString "__main__") 163) (Value.ref 5)] 2) #[]
def ob2 : Obj := Obj.mk Value.none Option.none (Data.dict #[]) #[]
def ob3 (P : Params) : Obj := Obj.mk (Value.type "dict") Option.none (Data.dict #[DictEntry.mk (PySem.PyData.keyHash P (Str.ofString "__name__")) (Value.str (Str.ofString "__name__") 165) (Value.str (Str.ofString "codewalk.rounds") 1006), DictEntry.mk (PySem.PyData.keyHash P (Str.ofString "__doc__")) (Value.str (Str.ofString "__doc__") 166) Value.none, DictEntry.mk (PySem.PyData.keyHash P (Str.ofString "__package__")) (Value.str (Str.ofString "__package__") 167) Value.none, DictEntry.mk (PySem.PyData.keyHash P (Str.ofString "__loader__")) (Value.str (Str.ofString "__loader__") 168) (Value.builtin "__main__.__loader__#opaque"), DictEntry.mk (PySem.PyData.keyHash P (Str.ofString "__spec__")) (Value.str (Str.ofString "__spec__") 169) Value.none, DictEntry.mk (PySem.PyData.keyHash P (Str.ofString "__annotations__")) (Value.str (Str.ofString "__annotations__") 170) (Value.ref 6), DictEntry.mk (PySem.PyData.keyHash P (Str.ofString "__builtins__")) (Value.str (Str.ofString "__builtins__") 171) (Value.ref 4), DictEntry.mk (PySem.PyData.keyHash P (Str.ofString "__file__")) (Value.str (Str.ofString "__file__") 173) (Value.str (Str.ofString "/claim/cut.py") 172), DictEntry.mk (PySem.PyData.keyHash P (Str.ofString "__cached__")) (Value.str (Str.ofString "__cached__") 174) Value.none, DictEntry.mk (PySem.PyData.keyHash P (Str.ofString "EFFECTS")) (Value.str (Str.ofString "EFFECTS") 470) (Value.ref 15), DictEntry.mk (PySem.PyData.keyHash P (Str.ofString "COUNTED_EFFECTS")) (Value.str (Str.ofString "COUNTED_EFFECTS") 519) (Value.ref 20), DictEntry.mk (PySem.PyData.keyHash P (Str.ofString "LEADING")) (Value.str (Str.ofString "LEADING") 542) (Value.ref 30), DictEntry.mk (PySem.PyData.keyHash P (Str.ofString "LEAVING")) (Value.str (Str.ofString "LEAVING") 561) (Value.ref 31), DictEntry.mk (PySem.PyData.keyHash P (Str.ofString "TURNING")) (Value.str (Str.ofString "TURNING") 594) (Value.ref 32), DictEntry.mk (PySem.PyData.keyHash P (Str.ofString "QUIET")) (Value.str (Str.ofString "QUIET") 689) (Value.ref 33), DictEntry.mk (PySem.PyData.keyHash P (Str.ofString "LOCAL")) (Value.str (Str.ofString "LOCAL") 716) (Value.ref 36), DictEntry.mk (PySem.PyData.keyHash P (Str.ofString "effect_of")) (Value.str (Str.ofString "effect_of") 726) (Value.ref 43), DictEntry.mk (PySem.PyData.keyHash P (Str.ofString "parameters_of")) (Value.str (Str.ofString "parameters_of") 740) (Value.ref 50), DictEntry.mk (PySem.PyData.keyHash P (Str.ofString "numbers_of")) (Value.str (Str.ofString "numbers_of") 746) (Value.ref 55), DictEntry.mk (PySem.PyData.keyHash P (Str.ofString "locals_in")) (Value.str (Str.ofString "locals_in") 752) (Value.ref 60), DictEntry.mk (PySem.PyData.keyHash P (Str.ofString "CHANGING")) (Value.str (Str.ofString "CHANGING") 763) (Value.ref 61), DictEntry.mk (PySem.PyData.keyHash P (Str.ofString "with_checks")) (Value.str (Str.ofString "with_checks") 779) (Value.ref 68), DictEntry.mk (PySem.PyData.keyHash P (Str.ofString "lacking_in_order")) (Value.str (Str.ofString "lacking_in_order") 785) (Value.ref 73), DictEntry.mk (PySem.PyData.keyHash P (Str.ofString "lacking_on_ways")) (Value.str (Str.ofString "lacking_on_ways") 791) (Value.ref 78), DictEntry.mk (PySem.PyData.keyHash P (Str.ofString "bits_of")) (Value.str (Str.ofString "bits_of") 797) (Value.ref 83), DictEntry.mk (PySem.PyData.keyHash P (Str.ofString "Bound")) (Value.str (Str.ofString "Bound") 870) (Value.ref 126), DictEntry.mk (PySem.PyData.keyHash P (Str.ofString "NOTHING_handlers")) (Value.str (Str.ofString "NOTHING_handlers") 874) (Value.ref 131), DictEntry.mk (PySem.PyData.keyHash P (Str.ofString "SETUPS")) (Value.str (Str.ofString "SETUPS") 884) (Value.ref 132), DictEntry.mk (PySem.PyData.keyHash P (Str.ofString "OPENING")) (Value.str (Str.ofString "OPENING") 893) (Value.ref 136), DictEntry.mk (PySem.PyData.keyHash P (Str.ofString "with_handlers")) (Value.str (Str.ofString "with_handlers") 901) (Value.ref 143), DictEntry.mk (PySem.PyData.keyHash P (Str.ofString "first_rows")) (Value.str (Str.ofString "first_rows") 912) (Value.ref 150), DictEntry.mk (PySem.PyData.keyHash P (Str.ofString "reached_rows")) (Value.str (Str.ofString "reached_rows") 918) (Value.ref 155), DictEntry.mk (PySem.PyData.keyHash P (Str.ofString "reached_without")) (Value.str (Str.ofString "reached_without") 932) (Value.ref 162), DictEntry.mk (PySem.PyData.keyHash P (Str.ofString "reached_with")) (Value.str (Str.ofString "reached_with") 951) (Value.ref 169), DictEntry.mk (PySem.PyData.keyHash P (Str.ofString "opened")) (Value.str (Str.ofString "opened") 968) (Value.ref 176), DictEntry.mk (PySem.PyData.keyHash P (Str.ofString "tell_handler")) (Value.str (Str.ofString "tell_handler") 979) (Value.ref 183), DictEntry.mk (PySem.PyData.keyHash P (Str.ofString "words_in")) (Value.str (Str.ofString "words_in") 987) (Value.ref 188), DictEntry.mk (PySem.PyData.keyHash P (Str.ofString "places_of")) (Value.str (Str.ofString "places_of") 993) (Value.ref 193), DictEntry.mk (PySem.PyData.keyHash P (Str.ofString "reached")) (Value.str (Str.ofString "reached") 999) (Value.ref 198), DictEntry.mk (PySem.PyData.keyHash P (Str.ofString "without_unreached")) (Value.str (Str.ofString "without_unreached") 1005) (Value.ref 203), DictEntry.mk (PySem.PyData.keyHash P (Str.ofString "NOTHING_rounds")) (Value.str (Str.ofString "NOTHING_rounds") 1009) (Value.int 0 1008), DictEntry.mk (PySem.PyData.keyHash P (Str.ofString "ROWS")) (Value.str (Str.ofString "ROWS") 1011) (Value.int 1 1010), DictEntry.mk (PySem.PyData.keyHash P (Str.ofString "WAYS")) (Value.str (Str.ofString "WAYS") 1013) (Value.int 2 1012), DictEntry.mk (PySem.PyData.keyHash P (Str.ofString "JUMPS")) (Value.str (Str.ofString "JUMPS") 1018) (Value.ref 204), DictEntry.mk (PySem.PyData.keyHash P (Str.ofString "THREADED")) (Value.str (Str.ofString "THREADED") 1031) (Value.ref 205), DictEntry.mk (PySem.PyData.keyHash P (Str.ofString "rounds")) (Value.str (Str.ofString "rounds") 1042) (Value.ref 212), DictEntry.mk (PySem.PyData.keyHash P (Str.ofString "rounds_with_labels")) (Value.str (Str.ofString "rounds_with_labels") 1057) (Value.ref 219)] 47) #[]
def ob4 : Obj := Obj.mk (Value.type "module") (Option.some 0) Data.plain #[]
def ob5 : Obj := Obj.mk (Value.type "module") (Option.some 3) Data.plain #[]
def ob6 : Obj := Obj.mk (Value.type "dict") Option.none (Data.dict #[]) #[]
def ob7 : Obj := Obj.mk (Value.type "tuple") Option.none (Data.seq #[]) #[]
def ob8 : Obj := Obj.mk Value.none Option.none (Data.fields #[]) #[]
def ob9 : Obj := Obj.mk (Value.type "code") Option.none (Data.fields #[Value.str (Str.ofString "<module>") 176, Value.str (Str.ofString "<module>") 177, Value.str (Str.ofString "/claim/cut.py") 178, Value.int 1 0, Value.int 0 0, Value.int 0 0, Value.int 0 0, Value.int 0 0, Value.ref 7, Value.bool Bool.false, Value.int 175 0, Value.ref 8, Value.none, Value.none, Value.none, Value.none, Value.int 179 0, Value.int 1 0, Value.str (Str.ofString "/claim/cut.py") 180]) #[]
def ob10 : Obj := Obj.mk (Value.type "frame") Option.none Data.plain #[Option.some (Value.ref 9), Option.some (Value.ref 3), Option.some (Value.ref 3), Option.none, Option.some (Value.str (Str.ofString "__main__") 164), Option.none, Option.some (Value.ref 0)]
def ob11 : Obj := Obj.mk Value.none Option.none (Data.fields #[Value.int 9 0, Value.int 0 0, Value.ref 42, Value.int 17 0, Value.int 0 0, Value.ref 49, Value.int 25 0, Value.int 0 0, Value.ref 54, Value.int 33 0, Value.int 0 0, Value.ref 59, Value.int 43 0, Value.int 0 0, Value.ref 67, Value.int 54 0, Value.int 0 0, Value.ref 72, Value.int 69 0, Value.int 0 0, Value.ref 77, Value.int 79 0, Value.int 0 0, Value.ref 82, Value.int 90 0, Value.int 0 0, Value.ref 89, Value.int 136 0, Value.int 0 0, Value.ref 142, Value.int 142 0, Value.int 0 0, Value.ref 149, Value.int 149 0, Value.int 0 0, Value.ref 154, Value.int 157 0, Value.int 0 0, Value.ref 161, Value.int 175 0, Value.int 0 0, Value.ref 168, Value.int 204 0, Value.int 0 0, Value.ref 175, Value.int 215 0, Value.int 0 0, Value.ref 182, Value.int 220 0, Value.int 0 0, Value.ref 187, Value.int 222 0, Value.int 0 0, Value.ref 192, Value.int 224 0, Value.int 0 0, Value.ref 197, Value.int 246 0, Value.int 0 0, Value.ref 202, Value.int 256 0, Value.int 0 0, Value.ref 211, Value.int 264 0, Value.int 0 0, Value.ref 218]) #[]
def ob12 : Obj := Obj.mk (Value.type "code") Option.none (Data.fields #[Value.str (Str.ofString "<module>") 182, Value.str (Str.ofString "<module>") 183, Value.str (Str.ofString "/claim/cut.py") 184, Value.int 1 0, Value.int 0 0, Value.int 0 0, Value.int 0 0, Value.int 0 0, Value.ref 11, Value.bool Bool.false, Value.int 181 0, Value.ref 12, Value.none, Value.none, Value.none, Value.none, Value.int 185 0, Value.int 1 0, Value.str (Str.ofString "/claim/cut.py") 186]) #[]
def ob13 : Obj := Obj.mk (Value.type "frame") Option.none Data.plain #[Option.some (Value.ref 13), Option.some (Value.ref 3), Option.some (Value.ref 3), Option.none, Option.some (Value.str (Str.ofString "__main__") 164), Option.none, Option.some (Value.ref 0)]
def ob14 (P : Params) : Obj := Obj.mk (Value.type "dict") Option.none (Data.dict #[DictEntry.mk (PySem.PyData.keyHash P (Str.ofString "BEFORE_WITH")) (Value.str (Str.ofString "BEFORE_WITH") 189) (Value.int 1 190), DictEntry.mk (PySem.PyData.keyHash P (Str.ofString "BINARY_OP")) (Value.str (Str.ofString "BINARY_OP") 192) (Value.int (-1) 194), DictEntry.mk (PySem.PyData.keyHash P (Str.ofString "BINARY_SLICE")) (Value.str (Str.ofString "BINARY_SLICE") 196) (Value.int (-2) 198), DictEntry.mk (PySem.PyData.keyHash P (Str.ofString "BINARY_SUBSCR")) (Value.str (Str.ofString "BINARY_SUBSCR") 200) (Value.int (-1) 202), DictEntry.mk (PySem.PyData.keyHash P (Str.ofString "CALL_INTRINSIC_1")) (Value.str (Str.ofString "CALL_INTRINSIC_1") 204) (Value.int 0 205), DictEntry.mk (PySem.PyData.keyHash P (Str.ofString "CHECK_EXC_MATCH")) (Value.str (Str.ofString "CHECK_EXC_MATCH") 207) (Value.int 0 208), DictEntry.mk (PySem.PyData.keyHash P (Str.ofString "CLEANUP_THROW")) (Value.str (Str.ofString "CLEANUP_THROW") 210) (Value.int (-1) 212), DictEntry.mk (PySem.PyData.keyHash P (Str.ofString "COMPARE_OP")) (Value.str (Str.ofString "COMPARE_OP") 214) (Value.int (-1) 216), DictEntry.mk (PySem.PyData.keyHash P (Str.ofString "CONTAINS_OP")) (Value.str (Str.ofString "CONTAINS_OP") 218) (Value.int (-1) 220), DictEntry.mk (PySem.PyData.keyHash P (Str.ofString "COPY")) (Value.str (Str.ofString "COPY") 222) (Value.int 1 223), DictEntry.mk (PySem.PyData.keyHash P (Str.ofString "COPY_FREE_VARS")) (Value.str (Str.ofString "COPY_FREE_VARS") 225) (Value.int 0 226), DictEntry.mk (PySem.PyData.keyHash P (Str.ofString "DELETE_ATTR")) (Value.str (Str.ofString "DELETE_ATTR") 228) (Value.int (-1) 230), DictEntry.mk (PySem.PyData.keyHash P (Str.ofString "DELETE_DEREF")) (Value.str (Str.ofString "DELETE_DEREF") 232) (Value.int 0 233), DictEntry.mk (PySem.PyData.keyHash P (Str.ofString "DELETE_FAST")) (Value.str (Str.ofString "DELETE_FAST") 235) (Value.int 0 236), DictEntry.mk (PySem.PyData.keyHash P (Str.ofString "DELETE_GLOBAL")) (Value.str (Str.ofString "DELETE_GLOBAL") 238) (Value.int 0 239), DictEntry.mk (PySem.PyData.keyHash P (Str.ofString "DELETE_NAME")) (Value.str (Str.ofString "DELETE_NAME") 241) (Value.int 0 242), DictEntry.mk (PySem.PyData.keyHash P (Str.ofString "DELETE_SUBSCR")) (Value.str (Str.ofString "DELETE_SUBSCR") 244) (Value.int (-2) 246), DictEntry.mk (PySem.PyData.keyHash P (Str.ofString "DICT_MERGE")) (Value.str (Str.ofString "DICT_MERGE") 248) (Value.int (-1) 250), DictEntry.mk (PySem.PyData.keyHash P (Str.ofString "END_FOR")) (Value.str (Str.ofString "END_FOR") 252) (Value.int (-1) 254), DictEntry.mk (PySem.PyData.keyHash P (Str.ofString "END_SEND")) (Value.str (Str.ofString "END_SEND") 256) (Value.int (-1) 258), DictEntry.mk (PySem.PyData.keyHash P (Str.ofString "FOR_ITER")) (Value.str (Str.ofString "FOR_ITER") 260) (Value.int 1 261), DictEntry.mk (PySem.PyData.keyHash P (Str.ofString "GET_ITER")) (Value.str (Str.ofString "GET_ITER") 263) (Value.int 0 264), DictEntry.mk (PySem.PyData.keyHash P (Str.ofString "GET_YIELD_FROM_ITER")) (Value.str (Str.ofString "GET_YIELD_FROM_ITER") 266) (Value.int 0 267), DictEntry.mk (PySem.PyData.keyHash P (Str.ofString "IS_OP")) (Value.str (Str.ofString "IS_OP") 269) (Value.int (-1) 271), DictEntry.mk (PySem.PyData.keyHash P (Str.ofString "JUMP")) (Value.str (Str.ofString "JUMP") 273) (Value.int 0 274), DictEntry.mk (PySem.PyData.keyHash P (Str.ofString "JUMP_BACKWARD")) (Value.str (Str.ofString "JUMP_BACKWARD") 276) (Value.int 0 277), DictEntry.mk (PySem.PyData.keyHash P (Str.ofString "JUMP_BACKWARD_NO_INTERRUPT")) (Value.str (Str.ofString "JUMP_BACKWARD_NO_INTERRUPT") 279) (Value.int 0 280), DictEntry.mk (PySem.PyData.keyHash P (Str.ofString "JUMP_FORWARD")) (Value.str (Str.ofString "JUMP_FORWARD") 282) (Value.int 0 283), DictEntry.mk (PySem.PyData.keyHash P (Str.ofString "JUMP_NO_INTERRUPT")) (Value.str (Str.ofString "JUMP_NO_INTERRUPT") 285) (Value.int 0 286), DictEntry.mk (PySem.PyData.keyHash P (Str.ofString "LABEL")) (Value.str (Str.ofString "LABEL") 288) (Value.int 0 289), DictEntry.mk (PySem.PyData.keyHash P (Str.ofString "LIST_APPEND")) (Value.str (Str.ofString "LIST_APPEND") 291) (Value.int (-1) 293), DictEntry.mk (PySem.PyData.keyHash P (Str.ofString "LIST_EXTEND")) (Value.str (Str.ofString "LIST_EXTEND") 295) (Value.int (-1) 297), DictEntry.mk (PySem.PyData.keyHash P (Str.ofString "LOAD_ASSERTION_ERROR")) (Value.str (Str.ofString "LOAD_ASSERTION_ERROR") 299) (Value.int 1 300), DictEntry.mk (PySem.PyData.keyHash P (Str.ofString "LOAD_BUILD_CLASS")) (Value.str (Str.ofString "LOAD_BUILD_CLASS") 302) (Value.int 1 303), DictEntry.mk (PySem.PyData.keyHash P (Str.ofString "LOAD_CLOSURE")) (Value.str (Str.ofString "LOAD_CLOSURE") 305) (Value.int 1 306), DictEntry.mk (PySem.PyData.keyHash P (Str.ofString "LOAD_CODE")) (Value.str (Str.ofString "LOAD_CODE") 308) (Value.int 1 309), DictEntry.mk (PySem.PyData.keyHash P (Str.ofString "LOAD_CONST")) (Value.str (Str.ofString "LOAD_CONST") 311) (Value.int 1 312), DictEntry.mk (PySem.PyData.keyHash P (Str.ofString "LOAD_DEREF")) (Value.str (Str.ofString "LOAD_DEREF") 314) (Value.int 1 315), DictEntry.mk (PySem.PyData.keyHash P (Str.ofString "LOAD_FAST")) (Value.str (Str.ofString "LOAD_FAST") 317) (Value.int 1 318), DictEntry.mk (PySem.PyData.keyHash P (Str.ofString "LOAD_FAST_CHECK")) (Value.str (Str.ofString "LOAD_FAST_CHECK") 320) (Value.int 1 321), DictEntry.mk (PySem.PyData.keyHash P (Str.ofString "LOAD_FAST_LOAD_FAST")) (Value.str (Str.ofString "LOAD_FAST_LOAD_FAST") 323) (Value.int 2 324), DictEntry.mk (PySem.PyData.keyHash P (Str.ofString "LOAD_FROM_DICT_OR_DEREF")) (Value.str (Str.ofString "LOAD_FROM_DICT_OR_DEREF") 326) (Value.int 0 327), DictEntry.mk (PySem.PyData.keyHash P (Str.ofString "LOAD_LOCALS")) (Value.str (Str.ofString "LOAD_LOCALS") 329) (Value.int 1 330), DictEntry.mk (PySem.PyData.keyHash P (Str.ofString "LOAD_NAME")) (Value.str (Str.ofString "LOAD_NAME") 332) (Value.int 1 333), DictEntry.mk (PySem.PyData.keyHash P (Str.ofString "MAKE_CELL")) (Value.str (Str.ofString "MAKE_CELL") 335) (Value.int 0 336), DictEntry.mk (PySem.PyData.keyHash P (Str.ofString "MAKE_FUNCTION")) (Value.str (Str.ofString "MAKE_FUNCTION") 338) (Value.int 0 339), DictEntry.mk (PySem.PyData.keyHash P (Str.ofString "MAP_ADD")) (Value.str (Str.ofString "MAP_ADD") 341) (Value.int (-2) 343), DictEntry.mk (PySem.PyData.keyHash P (Str.ofString "NOP")) (Value.str (Str.ofString "NOP") 345) (Value.int 0 346), DictEntry.mk (PySem.PyData.keyHash P (Str.ofString "POP_BLOCK")) (Value.str (Str.ofString "POP_BLOCK") 348) (Value.int 0 349), DictEntry.mk (PySem.PyData.keyHash P (Str.ofString "POP_EXCEPT")) (Value.str (Str.ofString "POP_EXCEPT") 351) (Value.int (-1) 353), DictEntry.mk (PySem.PyData.keyHash P (Str.ofString "POP_JUMP_IF_FALSE")) (Value.str (Str.ofString "POP_JUMP_IF_FALSE") 355) (Value.int (-1) 357), DictEntry.mk (PySem.PyData.keyHash P (Str.ofString "POP_JUMP_IF_NONE")) (Value.str (Str.ofString "POP_JUMP_IF_NONE") 359) (Value.int (-1) 361), DictEntry.mk (PySem.PyData.keyHash P (Str.ofString "POP_JUMP_IF_NOT_NONE")) (Value.str (Str.ofString "POP_JUMP_IF_NOT_NONE") 363) (Value.int (-1) 365), DictEntry.mk (PySem.PyData.keyHash P (Str.ofString "POP_JUMP_IF_TRUE")) (Value.str (Str.ofString "POP_JUMP_IF_TRUE") 367) (Value.int (-1) 369), DictEntry.mk (PySem.PyData.keyHash P (Str.ofString "POP_TOP")) (Value.str (Str.ofString "POP_TOP") 371) (Value.int (-1) 373), DictEntry.mk (PySem.PyData.keyHash P (Str.ofString "PUSH_EXC_INFO")) (Value.str (Str.ofString "PUSH_EXC_INFO") 375) (Value.int 1 376), DictEntry.mk (PySem.PyData.keyHash P (Str.ofString "PUSH_NULL")) (Value.str (Str.ofString "PUSH_NULL") 378) (Value.int 1 379), DictEntry.mk (PySem.PyData.keyHash P (Str.ofString "RERAISE")) (Value.str (Str.ofString "RERAISE") 381) (Value.int (-1) 383), DictEntry.mk (PySem.PyData.keyHash P (Str.ofString "RESUME")) (Value.str (Str.ofString "RESUME") 385) (Value.int 0 386), DictEntry.mk (PySem.PyData.keyHash P (Str.ofString "RETURN_CONST")) (Value.str (Str.ofString "RETURN_CONST") 388) (Value.int 0 389), DictEntry.mk (PySem.PyData.keyHash P (Str.ofString "RETURN_GENERATOR")) (Value.str (Str.ofString "RETURN_GENERATOR") 391) (Value.int 1 392), DictEntry.mk (PySem.PyData.keyHash P (Str.ofString "RETURN_VALUE")) (Value.str (Str.ofString "RETURN_VALUE") 394) (Value.int (-1) 396), DictEntry.mk (PySem.PyData.keyHash P (Str.ofString "SEND")) (Value.str (Str.ofString "SEND") 398) (Value.int 0 399), DictEntry.mk (PySem.PyData.keyHash P (Str.ofString "SETUP_CLEANUP")) (Value.str (Str.ofString "SETUP_CLEANUP") 401) (Value.int 0 402), DictEntry.mk (PySem.PyData.keyHash P (Str.ofString "SETUP_FINALLY")) (Value.str (Str.ofString "SETUP_FINALLY") 404) (Value.int 0 405), DictEntry.mk (PySem.PyData.keyHash P (Str.ofString "SETUP_WITH")) (Value.str (Str.ofString "SETUP_WITH") 407) (Value.int 0 408), DictEntry.mk (PySem.PyData.keyHash P (Str.ofString "SET_FUNCTION_ATTRIBUTE")) (Value.str (Str.ofString "SET_FUNCTION_ATTRIBUTE") 410) (Value.int (-1) 412), DictEntry.mk (PySem.PyData.keyHash P (Str.ofString "STORE_ATTR")) (Value.str (Str.ofString "STORE_ATTR") 414) (Value.int (-2) 416), DictEntry.mk (PySem.PyData.keyHash P (Str.ofString "STORE_DEREF")) (Value.str (Str.ofString "STORE_DEREF") 418) (Value.int (-1) 420), DictEntry.mk (PySem.PyData.keyHash P (Str.ofString "STORE_FAST")) (Value.str (Str.ofString "STORE_FAST") 421) (Value.int (-1) 423), DictEntry.mk (PySem.PyData.keyHash P (Str.ofString "STORE_FAST_LOAD_FAST")) (Value.str (Str.ofString "STORE_FAST_LOAD_FAST") 424) (Value.int 0 425), DictEntry.mk (PySem.PyData.keyHash P (Str.ofString "STORE_FAST_STORE_FAST")) (Value.str (Str.ofString "STORE_FAST_STORE_FAST") 426) (Value.int (-2) 428), DictEntry.mk (PySem.PyData.keyHash P (Str.ofString "STORE_GLOBAL")) (Value.str (Str.ofString "STORE_GLOBAL") 429) (Value.int (-1) 431), DictEntry.mk (PySem.PyData.keyHash P (Str.ofString "STORE_NAME")) (Value.str (Str.ofString "STORE_NAME") 432) (Value.int (-1) 434), DictEntry.mk (PySem.PyData.keyHash P (Str.ofString "STORE_SLICE")) (Value.str (Str.ofString "STORE_SLICE") 435) (Value.int (-4) 437), DictEntry.mk (PySem.PyData.keyHash P (Str.ofString "STORE_SUBSCR")) (Value.str (Str.ofString "STORE_SUBSCR") 438) (Value.int (-3) 440), DictEntry.mk (PySem.PyData.keyHash P (Str.ofString "SWAP")) (Value.str (Str.ofString "SWAP") 441) (Value.int 0 442), DictEntry.mk (PySem.PyData.keyHash P (Str.ofString "TO_BOOL")) (Value.str (Str.ofString "TO_BOOL") 443) (Value.int 0 444), DictEntry.mk (PySem.PyData.keyHash P (Str.ofString "UNARY_INVERT")) (Value.str (Str.ofString "UNARY_INVERT") 445) (Value.int 0 446), DictEntry.mk (PySem.PyData.keyHash P (Str.ofString "UNARY_NEGATIVE")) (Value.str (Str.ofString "UNARY_NEGATIVE") 447) (Value.int 0 448), DictEntry.mk (PySem.PyData.keyHash P (Str.ofString "UNARY_NOT")) (Value.str (Str.ofString "UNARY_NOT") 449) (Value.int 0 450), DictEntry.mk (PySem.PyData.keyHash P (Str.ofString "WITH_EXCEPT_START")) (Value.str (Str.ofString "WITH_EXCEPT_START") 451) (Value.int 1 452), DictEntry.mk (PySem.PyData.keyHash P (Str.ofString "YIELD_VALUE")) (Value.str (Str.ofString "YIELD_VALUE") 453) (Value.int 0 454)] 83) #[]
def ob15 (P : Params) : Obj := Obj.mk (Value.type "dict") Option.none (Data.dict #[DictEntry.mk (PySem.PyData.keyHash P (Str.ofString "DICT_MERGE")) (Value.str (Str.ofString "DICT_MERGE") 248) (Value.int (-1) 250), DictEntry.mk (PySem.PyData.keyHash P (Str.ofString "END_FOR")) (Value.str (Str.ofString "END_FOR") 252) (Value.int (-1) 254), DictEntry.mk (PySem.PyData.keyHash P (Str.ofString "END_SEND")) (Value.str (Str.ofString "END_SEND") 256) (Value.int (-1) 258), DictEntry.mk (PySem.PyData.keyHash P (Str.ofString "FOR_ITER")) (Value.str (Str.ofString "FOR_ITER") 260) (Value.int 1 261), DictEntry.mk (PySem.PyData.keyHash P (Str.ofString "GET_ITER")) (Value.str (Str.ofString "GET_ITER") 263) (Value.int 0 264), DictEntry.mk (PySem.PyData.keyHash P (Str.ofString "GET_YIELD_FROM_ITER")) (Value.str (Str.ofString "GET_YIELD_FROM_ITER") 266) (Value.int 0 267), DictEntry.mk (PySem.PyData.keyHash P (Str.ofString "IS_OP")) (Value.str (Str.ofString "IS_OP") 269) (Value.int (-1) 271), DictEntry.mk (PySem.PyData.keyHash P (Str.ofString "JUMP")) (Value.str (Str.ofString "JUMP") 273) (Value.int 0 274), DictEntry.mk (PySem.PyData.keyHash P (Str.ofString "JUMP_BACKWARD")) (Value.str (Str.ofString "JUMP_BACKWARD") 276) (Value.int 0 277), DictEntry.mk (PySem.PyData.keyHash P (Str.ofString "JUMP_BACKWARD_NO_INTERRUPT")) (Value.str (Str.ofString "JUMP_BACKWARD_NO_INTERRUPT") 279) (Value.int 0 280), DictEntry.mk (PySem.PyData.keyHash P (Str.ofString "JUMP_FORWARD")) (Value.str (Str.ofString "JUMP_FORWARD") 282) (Value.int 0 283), DictEntry.mk (PySem.PyData.keyHash P (Str.ofString "JUMP_NO_INTERRUPT")) (Value.str (Str.ofString "JUMP_NO_INTERRUPT") 285) (Value.int 0 286), DictEntry.mk (PySem.PyData.keyHash P (Str.ofString "LABEL")) (Value.str (Str.ofString "LABEL") 288) (Value.int 0 289), DictEntry.mk (PySem.PyData.keyHash P (Str.ofString "LIST_APPEND")) (Value.str (Str.ofString "LIST_APPEND") 291) (Value.int (-1) 293), DictEntry.mk (PySem.PyData.keyHash P (Str.ofString "LIST_EXTEND")) (Value.str (Str.ofString "LIST_EXTEND") 295) (Value.int (-1) 297), DictEntry.mk (PySem.PyData.keyHash P (Str.ofString "LOAD_ASSERTION_ERROR")) (Value.str (Str.ofString "LOAD_ASSERTION_ERROR") 299) (Value.int 1 300), DictEntry.mk (PySem.PyData.keyHash P (Str.ofString "LOAD_BUILD_CLASS")) (Value.str (Str.ofString "LOAD_BUILD_CLASS") 302) (Value.int 1 303)] 17) #[]
def ob16 (P : Params) : Obj := Obj.mk (Value.type "dict") Option.none (Data.dict #[DictEntry.mk (PySem.PyData.keyHash P (Str.ofString "LOAD_CLOSURE")) (Value.str (Str.ofString "LOAD_CLOSURE") 305) (Value.int 1 306), DictEntry.mk (PySem.PyData.keyHash P (Str.ofString "LOAD_CODE")) (Value.str (Str.ofString "LOAD_CODE") 308) (Value.int 1 309), DictEntry.mk (PySem.PyData.keyHash P (Str.ofString "LOAD_CONST")) (Value.str (Str.ofString "LOAD_CONST") 311) (Value.int 1 312), DictEntry.mk (PySem.PyData.keyHash P (Str.ofString "LOAD_DEREF")) (Value.str (Str.ofString "LOAD_DEREF") 314) (Value.int 1 315), DictEntry.mk (PySem.PyData.keyHash P (Str.ofString "LOAD_FAST")) (Value.str (Str.ofString "LOAD_FAST") 317) (Value.int 1 318), DictEntry.mk (PySem.PyData.keyHash P (Str.ofString "LOAD_FAST_CHECK")) (Value.str (Str.ofString "LOAD_FAST_CHECK") 320) (Value.int 1 321), DictEntry.mk (PySem.PyData.keyHash P (Str.ofString "LOAD_FAST_LOAD_FAST")) (Value.str (Str.ofString "LOAD_FAST_LOAD_FAST") 323) (Value.int 2 324), DictEntry.mk (PySem.PyData.keyHash P (Str.ofString "LOAD_FROM_DICT_OR_DEREF")) (Value.str (Str.ofString "LOAD_FROM_DICT_OR_DEREF") 326) (Value.int 0 327), DictEntry.mk (PySem.PyData.keyHash P (Str.ofString "LOAD_LOCALS")) (Value.str (Str.ofString "LOAD_LOCALS") 329) (Value.int 1 330), DictEntry.mk (PySem.PyData.keyHash P (Str.ofString "LOAD_NAME")) (Value.str (Str.ofString "LOAD_NAME") 332) (Value.int 1 333), DictEntry.mk (PySem.PyData.keyHash P (Str.ofString "MAKE_CELL")) (Value.str (Str.ofString "MAKE_CELL") 335) (Value.int 0 336), DictEntry.mk (PySem.PyData.keyHash P (Str.ofString "MAKE_FUNCTION")) (Value.str (Str.ofString "MAKE_FUNCTION") 338) (Value.int 0 339), DictEntry.mk (PySem.PyData.keyHash P (Str.ofString "MAP_ADD")) (Value.str (Str.ofString "MAP_ADD") 341) (Value.int (-2) 343), DictEntry.mk (PySem.PyData.keyHash P (Str.ofString "NOP")) (Value.str (Str.ofString "NOP") 345) (Value.int 0 346), DictEntry.mk (PySem.PyData.keyHash P (Str.ofString "POP_BLOCK")) (Value.str (Str.ofString "POP_BLOCK") 348) (Value.int 0 349), DictEntry.mk (PySem.PyData.keyHash P (Str.ofString "POP_EXCEPT")) (Value.str (Str.ofString "POP_EXCEPT") 351) (Value.int (-1) 353), DictEntry.mk (PySem.PyData.keyHash P (Str.ofString "POP_JUMP_IF_FALSE")) (Value.str (Str.ofString "POP_JUMP_IF_FALSE") 355) (Value.int (-1) 357)] 17) #[]
def ob17 (P : Params) : Obj := Obj.mk (Value.type "dict") Option.none (Data.dict #[DictEntry.mk (PySem.PyData.keyHash P (Str.ofString "POP_JUMP_IF_NONE")) (Value.str (Str.ofString "POP_JUMP_IF_NONE") 359) (Value.int (-1) 361), DictEntry.mk (PySem.PyData.keyHash P (Str.ofString "POP_JUMP_IF_NOT_NONE")) (Value.str (Str.ofString "POP_JUMP_IF_NOT_NONE") 363) (Value.int (-1) 365), DictEntry.mk (PySem.PyData.keyHash P (Str.ofString "POP_JUMP_IF_TRUE")) (Value.str (Str.ofString "POP_JUMP_IF_TRUE") 367) (Value.int (-1) 369), DictEntry.mk (PySem.PyData.keyHash P (Str.ofString "POP_TOP")) (Value.str (Str.ofString "POP_TOP") 371) (Value.int (-1) 373), DictEntry.mk (PySem.PyData.keyHash P (Str.ofString "PUSH_EXC_INFO")) (Value.str (Str.ofString "PUSH_EXC_INFO") 375) (Value.int 1 376), DictEntry.mk (PySem.PyData.keyHash P (Str.ofString "PUSH_NULL")) (Value.str (Str.ofString "PUSH_NULL") 378) (Value.int 1 379), DictEntry.mk (PySem.PyData.keyHash P (Str.ofString "RERAISE")) (Value.str (Str.ofString "RERAISE") 381) (Value.int (-1) 383), DictEntry.mk (PySem.PyData.keyHash P (Str.ofString "RESUME")) (Value.str (Str.ofString "RESUME") 385) (Value.int 0 386), DictEntry.mk (PySem.PyData.keyHash P (Str.ofString "RETURN_CONST")) (Value.str (Str.ofString "RETURN_CONST") 388) (Value.int 0 389), DictEntry.mk (PySem.PyData.keyHash P (Str.ofString "RETURN_GENERATOR")) (Value.str (Str.ofString "RETURN_GENERATOR") 391) (Value.int 1 392), DictEntry.mk (PySem.PyData.keyHash P (Str.ofString "RETURN_VALUE")) (Value.str (Str.ofString "RETURN_VALUE") 394) (Value.int (-1) 396), DictEntry.mk (PySem.PyData.keyHash P (Str.ofString "SEND")) (Value.str (Str.ofString "SEND") 398) (Value.int 0 399), DictEntry.mk (PySem.PyData.keyHash P (Str.ofString "SETUP_CLEANUP")) (Value.str (Str.ofString "SETUP_CLEANUP") 401) (Value.int 0 402), DictEntry.mk (PySem.PyData.keyHash P (Str.ofString "SETUP_FINALLY")) (Value.str (Str.ofString "SETUP_FINALLY") 404) (Value.int 0 405), DictEntry.mk (PySem.PyData.keyHash P (Str.ofString "SETUP_WITH")) (Value.str (Str.ofString "SETUP_WITH") 407) (Value.int 0 408), DictEntry.mk (PySem.PyData.keyHash P (Str.ofString "SET_FUNCTION_ATTRIBUTE")) (Value.str (Str.ofString "SET_FUNCTION_ATTRIBUTE") 410) (Value.int (-1) 412), DictEntry.mk (PySem.PyData.keyHash P (Str.ofString "STORE_ATTR")) (Value.str (Str.ofString "STORE_ATTR") 414) (Value.int (-2) 416)] 17) #[]
def ob18 (P : Params) : Obj := Obj.mk (Value.type "dict") Option.none (Data.dict #[DictEntry.mk (PySem.PyData.keyHash P (Str.ofString "STORE_DEREF")) (Value.str (Str.ofString "STORE_DEREF") 418) (Value.int (-1) 420), DictEntry.mk (PySem.PyData.keyHash P (Str.ofString "STORE_FAST")) (Value.str (Str.ofString "STORE_FAST") 421) (Value.int (-1) 423), DictEntry.mk (PySem.PyData.keyHash P (Str.ofString "STORE_FAST_LOAD_FAST")) (Value.str (Str.ofString "STORE_FAST_LOAD_FAST") 424) (Value.int 0 425), DictEntry.mk (PySem.PyData.keyHash P (Str.ofString "STORE_FAST_STORE_FAST")) (Value.str (Str.ofString "STORE_FAST_STORE_FAST") 426) (Value.int (-2) 428), DictEntry.mk (PySem.PyData.keyHash P (Str.ofString "STORE_GLOBAL")) (Value.str (Str.ofString "STORE_GLOBAL") 429) (Value.int (-1) 431), DictEntry.mk (PySem.PyData.keyHash P (Str.ofString "STORE_NAME")) (Value.str (Str.ofString "STORE_NAME") 432) (Value.int (-1) 434), DictEntry.mk (PySem.PyData.keyHash P (Str.ofString "STORE_SLICE")) (Value.str (Str.ofString "STORE_SLICE") 435) (Value.int (-4) 437), DictEntry.mk (PySem.PyData.keyHash P (Str.ofString "STORE_SUBSCR")) (Value.str (Str.ofString "STORE_SUBSCR") 438) (Value.int (-3) 440), DictEntry.mk (PySem.PyData.keyHash P (Str.ofString "SWAP")) (Value.str (Str.ofString "SWAP") 441) (Value.int 0 442), DictEntry.mk (PySem.PyData.keyHash P (Str.ofString "TO_BOOL")) (Value.str (Str.ofString "TO_BOOL") 443) (Value.int 0 444), DictEntry.mk (PySem.PyData.keyHash P (Str.ofString "UNARY_INVERT")) (Value.str (Str.ofString "UNARY_INVERT") 445) (Value.int 0 446), DictEntry.mk (PySem.PyData.keyHash P (Str.ofString "UNARY_NEGATIVE")) (Value.str (Str.ofString "UNARY_NEGATIVE") 447) (Value.int 0 448), DictEntry.mk (PySem.PyData.keyHash P (Str.ofString "UNARY_NOT")) (Value.str (Str.ofString "UNARY_NOT") 449) (Value.int 0 450), DictEntry.mk (PySem.PyData.keyHash P (Str.ofString "WITH_EXCEPT_START")) (Value.str (Str.ofString "WITH_EXCEPT_START") 451) (Value.int 1 452), DictEntry.mk (PySem.PyData.keyHash P (Str.ofString "YIELD_VALUE")) (Value.str (Str.ofString "YIELD_VALUE") 453) (Value.int 0 454)] 15) #[]
def ob19 (P : Params) : Obj := Obj.mk (Value.type "dict") Option.none (Data.dict #[DictEntry.mk (PySem.PyData.keyHash P (Str.ofString "BUILD_CONST_KEY_MAP")) (Value.str (Str.ofString "BUILD_CONST_KEY_MAP") 471) (Value.ref 21), DictEntry.mk (PySem.PyData.keyHash P (Str.ofString "BUILD_LIST")) (Value.str (Str.ofString "BUILD_LIST") 475) (Value.ref 22), DictEntry.mk (PySem.PyData.keyHash P (Str.ofString "BUILD_MAP")) (Value.str (Str.ofString "BUILD_MAP") 479) (Value.ref 23), DictEntry.mk (PySem.PyData.keyHash P (Str.ofString "BUILD_TUPLE")) (Value.str (Str.ofString "BUILD_TUPLE") 483) (Value.ref 24), DictEntry.mk (PySem.PyData.keyHash P (Str.ofString "CALL")) (Value.str (Str.ofString "CALL") 487) (Value.ref 25), DictEntry.mk (PySem.PyData.keyHash P (Str.ofString "CALL_FUNCTION_EX")) (Value.str (Str.ofString "CALL_FUNCTION_EX") 492) (Value.ref 26), DictEntry.mk (PySem.PyData.keyHash P (Str.ofString "CALL_KW")) (Value.str (Str.ofString "CALL_KW") 497) (Value.ref 27), DictEntry.mk (PySem.PyData.keyHash P (Str.ofString "RAISE_VARARGS")) (Value.str (Str.ofString "RAISE_VARARGS") 502) (Value.ref 28), DictEntry.mk (PySem.PyData.keyHash P (Str.ofString "UNPACK_SEQUENCE")) (Value.str (Str.ofString "UNPACK_SEQUENCE") 506) (Value.ref 29)] 9) #[]
def ob20 : Obj := Obj.mk (Value.type "tuple") Option.none (Data.seq #[Value.int 0 472, Value.int (-1) 474]) #[]
def ob21 : Obj := Obj.mk (Value.type "tuple") Option.none (Data.seq #[Value.int 1 476, Value.int (-1) 478]) #[]
def ob22 : Obj := Obj.mk (Value.type "tuple") Option.none (Data.seq #[Value.int 1 480, Value.int (-2) 482]) #[]
def ob23 : Obj := Obj.mk (Value.type "tuple") Option.none (Data.seq #[Value.int 1 484, Value.int (-1) 486]) #[]
def ob24 : Obj := Obj.mk (Value.type "tuple") Option.none (Data.seq #[Value.int (-1) 489, Value.int (-1) 491]) #[]
def ob25 : Obj := Obj.mk (Value.type "tuple") Option.none (Data.seq #[Value.int (-2) 494, Value.int (-1) 496]) #[]
def ob26 : Obj := Obj.mk (Value.type "tuple") Option.none (Data.seq #[Value.int (-2) 499, Value.int (-1) 501]) #[]
def ob27 : Obj := Obj.mk (Value.type "tuple") Option.none (Data.seq #[Value.int 0 503, Value.int (-1) 505]) #[]
def ob28 : Obj := Obj.mk (Value.type "tuple") Option.none (Data.seq #[Value.int (-1) 508, Value.int 1 509]) #[]
def ob29 (P : Params) : Obj := Obj.mk (Value.type "dict") Option.none (Data.dict #[DictEntry.mk (PySem.PyData.keyHash P (Str.ofString "FOR_ITER")) (Value.str (Str.ofString "FOR_ITER") 520) (Value.bool Bool.true), DictEntry.mk (PySem.PyData.keyHash P (Str.ofString "JUMP")) (Value.str (Str.ofString "JUMP") 521) (Value.bool Bool.true), DictEntry.mk (PySem.PyData.keyHash P (Str.ofString "JUMP_BACKWARD")) (Value.str (Str.ofString "JUMP_BACKWARD") 522) (Value.bool Bool.true), DictEntry.mk (PySem.PyData.keyHash P (Str.ofString "JUMP_BACKWARD_NO_INTERRUPT")) (Value.str (Str.ofString "JUMP_BACKWARD_NO_INTERRUPT") 523) (Value.bool Bool.true), DictEntry.mk (PySem.PyData.keyHash P (Str.ofString "JUMP_FORWARD")) (Value.str (Str.ofString "JUMP_FORWARD") 524) (Value.bool Bool.true), DictEntry.mk (PySem.PyData.keyHash P (Str.ofString "JUMP_NO_INTERRUPT")) (Value.str (Str.ofString "JUMP_NO_INTERRUPT") 525) (Value.bool Bool.true), DictEntry.mk (PySem.PyData.keyHash P (Str.ofString "POP_JUMP_IF_FALSE")) (Value.str (Str.ofString "POP_JUMP_IF_FALSE") 526) (Value.bool Bool.true), DictEntry.mk (PySem.PyData.keyHash P (Str.ofString "POP_JUMP_IF_NONE")) (Value.str (Str.ofString "POP_JUMP_IF_NONE") 527) (Value.bool Bool.true), DictEntry.mk (PySem.PyData.keyHash P (Str.ofString "POP_JUMP_IF_NOT_NONE")) (Value.str (Str.ofString "POP_JUMP_IF_NOT_NONE") 528) (Value.bool Bool.true), DictEntry.mk (PySem.PyData.keyHash P (Str.ofString "POP_JUMP_IF_TRUE")) (Value.str (Str.ofString "POP_JUMP_IF_TRUE") 529) (Value.bool Bool.true), DictEntry.mk (PySem.PyData.keyHash P (Str.ofString "SEND")) (Value.str (Str.ofString "SEND") 530) (Value.bool Bool.true)] 11) #[]
def ob30 (P : Params) : Obj := Obj.mk (Value.type "dict") Option.none (Data.dict #[DictEntry.mk (PySem.PyData.keyHash P (Str.ofString "JUMP")) (Value.str (Str.ofString "JUMP") 543) (Value.bool Bool.true), DictEntry.mk (PySem.PyData.keyHash P (Str.ofString "JUMP_BACKWARD")) (Value.str (Str.ofString "JUMP_BACKWARD") 544) (Value.bool Bool.true), DictEntry.mk (PySem.PyData.keyHash P (Str.ofString "JUMP_BACKWARD_NO_INTERRUPT")) (Value.str (Str.ofString "JUMP_BACKWARD_NO_INTERRUPT") 545) (Value.bool Bool.true), DictEntry.mk (PySem.PyData.keyHash P (Str.ofString "JUMP_FORWARD")) (Value.str (Str.ofString "JUMP_FORWARD") 546) (Value.bool Bool.true), DictEntry.mk (PySem.PyData.keyHash P (Str.ofString "JUMP_NO_INTERRUPT")) (Value.str (Str.ofString "JUMP_NO_INTERRUPT") 547) (Value.bool Bool.true), DictEntry.mk (PySem.PyData.keyHash P (Str.ofString "RAISE_VARARGS")) (Value.str (Str.ofString "RAISE_VARARGS") 548) (Value.bool Bool.true), DictEntry.mk (PySem.PyData.keyHash P (Str.ofString "RERAISE")) (Value.str (Str.ofString "RERAISE") 549) (Value.bool Bool.true), DictEntry.mk (PySem.PyData.keyHash P (Str.ofString "RETURN_CONST")) (Value.str (Str.ofString "RETURN_CONST") 550) (Value.bool Bool.true), DictEntry.mk (PySem.PyData.keyHash P (Str.ofString "RETURN_VALUE")) (Value.str (Str.ofString "RETURN_VALUE") 551) (Value.bool Bool.true)] 9) #[]
def ob31 (P : Params) : Obj := Obj.mk (Value.type "dict") Option.none (Data.dict #[DictEntry.mk (PySem.PyData.keyHash P (Str.ofString "FOR_ITER")) (Value.str (Str.ofString "FOR_ITER") 562) (Value.bool Bool.true), DictEntry.mk (PySem.PyData.keyHash P (Str.ofString "JUMP")) (Value.str (Str.ofString "JUMP") 564) (Value.bool Bool.true), DictEntry.mk (PySem.PyData.keyHash P (Str.ofString "JUMP_BACKWARD")) (Value.str (Str.ofString "JUMP_BACKWARD") 566) (Value.bool Bool.true), DictEntry.mk (PySem.PyData.keyHash P (Str.ofString "JUMP_BACKWARD_NO_INTERRUPT")) (Value.str (Str.ofString "JUMP_BACKWARD_NO_INTERRUPT") 568) (Value.bool Bool.true), DictEntry.mk (PySem.PyData.keyHash P (Str.ofString "JUMP_FORWARD")) (Value.str (Str.ofString "JUMP_FORWARD") 570) (Value.bool Bool.true), DictEntry.mk (PySem.PyData.keyHash P (Str.ofString "JUMP_NO_INTERRUPT")) (Value.str (Str.ofString "JUMP_NO_INTERRUPT") 572) (Value.bool Bool.true), DictEntry.mk (PySem.PyData.keyHash P (Str.ofString "LABEL")) (Value.str (Str.ofString "LABEL") 574) (Value.bool Bool.true), DictEntry.mk (PySem.PyData.keyHash P (Str.ofString "POP_JUMP_IF_FALSE")) (Value.str (Str.ofString "POP_JUMP_IF_FALSE") 576) (Value.bool Bool.true), DictEntry.mk (PySem.PyData.keyHash P (Str.ofString "POP_JUMP_IF_NONE")) (Value.str (Str.ofString "POP_JUMP_IF_NONE") 578) (Value.bool Bool.true), DictEntry.mk (PySem.PyData.keyHash P (Str.ofString "POP_JUMP_IF_NOT_NONE")) (Value.str (Str.ofString "POP_JUMP_IF_NOT_NONE") 580) (Value.bool Bool.true), DictEntry.mk (PySem.PyData.keyHash P (Str.ofString "POP_JUMP_IF_TRUE")) (Value.str (Str.ofString "POP_JUMP_IF_TRUE") 582) (Value.bool Bool.true), DictEntry.mk (PySem.PyData.keyHash P (Str.ofString "RAISE_VARARGS")) (Value.str (Str.ofString "RAISE_VARARGS") 584) (Value.bool Bool.true), DictEntry.mk (PySem.PyData.keyHash P (Str.ofString "RERAISE")) (Value.str (Str.ofString "RERAISE") 586) (Value.bool Bool.true), DictEntry.mk (PySem.PyData.keyHash P (Str.ofString "RETURN_CONST")) (Value.str (Str.ofString "RETURN_CONST") 588) (Value.bool Bool.true), DictEntry.mk (PySem.PyData.keyHash P (Str.ofString "RETURN_VALUE")) (Value.str (Str.ofString "RETURN_VALUE") 590) (Value.bool Bool.true), DictEntry.mk (PySem.PyData.keyHash P (Str.ofString "SEND")) (Value.str (Str.ofString "SEND") 592) (Value.bool Bool.true)] 16) #[]
def ob32 (P : Params) : Obj := Obj.mk (Value.type "dict") Option.none (Data.dict #[DictEntry.mk (PySem.PyData.keyHash P (Str.ofString "BUILD_LIST")) (Value.str (Str.ofString "BUILD_LIST") 595) (Value.bool Bool.true), DictEntry.mk (PySem.PyData.keyHash P (Str.ofString "BUILD_TUPLE")) (Value.str (Str.ofString "BUILD_TUPLE") 597) (Value.bool Bool.true), DictEntry.mk (PySem.PyData.keyHash P (Str.ofString "CALL_INTRINSIC_1")) (Value.str (Str.ofString "CALL_INTRINSIC_1") 599) (Value.bool Bool.true), DictEntry.mk (PySem.PyData.keyHash P (Str.ofString "COPY")) (Value.str (Str.ofString "COPY") 601) (Value.bool Bool.true), DictEntry.mk (PySem.PyData.keyHash P (Str.ofString "COPY_FREE_VARS")) (Value.str (Str.ofString "COPY_FREE_VARS") 603) (Value.bool Bool.true), DictEntry.mk (PySem.PyData.keyHash P (Str.ofString "END_FOR")) (Value.str (Str.ofString "END_FOR") 605) (Value.bool Bool.true), DictEntry.mk (PySem.PyData.keyHash P (Str.ofString "END_SEND")) (Value.str (Str.ofString "END_SEND") 607) (Value.bool Bool.true), DictEntry.mk (PySem.PyData.keyHash P (Str.ofString "IS_OP")) (Value.str (Str.ofString "IS_OP") 609) (Value.bool Bool.true), DictEntry.mk (PySem.PyData.keyHash P (Str.ofString "JUMP")) (Value.str (Str.ofString "JUMP") 611) (Value.bool Bool.true), DictEntry.mk (PySem.PyData.keyHash P (Str.ofString "JUMP_BACKWARD")) (Value.str (Str.ofString "JUMP_BACKWARD") 613) (Value.bool Bool.true), DictEntry.mk (PySem.PyData.keyHash P (Str.ofString "JUMP_BACKWARD_NO_INTERRUPT")) (Value.str (Str.ofString "JUMP_BACKWARD_NO_INTERRUPT") 615) (Value.bool Bool.true), DictEntry.mk (PySem.PyData.keyHash P (Str.ofString "JUMP_FORWARD")) (Value.str (Str.ofString "JUMP_FORWARD") 617) (Value.bool Bool.true), DictEntry.mk (PySem.PyData.keyHash P (Str.ofString "JUMP_NO_INTERRUPT")) (Value.str (Str.ofString "JUMP_NO_INTERRUPT") 619) (Value.bool Bool.true), DictEntry.mk (PySem.PyData.keyHash P (Str.ofString "LABEL")) (Value.str (Str.ofString "LABEL") 621) (Value.bool Bool.true), DictEntry.mk (PySem.PyData.keyHash P (Str.ofString "LIST_APPEND")) (Value.str (Str.ofString "LIST_APPEND") 623) (Value.bool Bool.true), DictEntry.mk (PySem.PyData.keyHash P (Str.ofString "LOAD_ASSERTION_ERROR")) (Value.str (Str.ofString "LOAD_ASSERTION_ERROR") 625) (Value.bool Bool.true), DictEntry.mk (PySem.PyData.keyHash P (Str.ofString "LOAD_BUILD_CLASS")) (Value.str (Str.ofString "LOAD_BUILD_CLASS") 627) (Value.bool Bool.true), DictEntry.mk (PySem.PyData.keyHash P (Str.ofString "LOAD_CLOSURE")) (Value.str (Str.ofString "LOAD_CLOSURE") 629) (Value.bool Bool.true), DictEntry.mk (PySem.PyData.keyHash P (Str.ofString "LOAD_CODE")) (Value.str (Str.ofString "LOAD_CODE") 631) (Value.bool Bool.true), DictEntry.mk (PySem.PyData.keyHash P (Str.ofString "LOAD_CONST")) (Value.str (Str.ofString "LOAD_CONST") 633) (Value.bool Bool.true), DictEntry.mk (PySem.PyData.keyHash P (Str.ofString "LOAD_FAST")) (Value.str (Str.ofString "LOAD_FAST") 635) (Value.bool Bool.true), DictEntry.mk (PySem.PyData.keyHash P (Str.ofString "LOAD_FAST_LOAD_FAST")) (Value.str (Str.ofString "LOAD_FAST_LOAD_FAST") 637) (Value.bool Bool.true), DictEntry.mk (PySem.PyData.keyHash P (Str.ofString "LOAD_LOCALS")) (Value.str (Str.ofString "LOAD_LOCALS") 639) (Value.bool Bool.true), DictEntry.mk (PySem.PyData.keyHash P (Str.ofString "MAKE_CELL")) (Value.str (Str.ofString "MAKE_CELL") 641) (Value.bool Bool.true), DictEntry.mk (PySem.PyData.keyHash P (Str.ofString "MAKE_FUNCTION")) (Value.str (Str.ofString "MAKE_FUNCTION") 643) (Value.bool Bool.true), DictEntry.mk (PySem.PyData.keyHash P (Str.ofString "NOP")) (Value.str (Str.ofString "NOP") 645) (Value.bool Bool.true), DictEntry.mk (PySem.PyData.keyHash P (Str.ofString "POP_EXCEPT")) (Value.str (Str.ofString "POP_EXCEPT") 647) (Value.bool Bool.true), DictEntry.mk (PySem.PyData.keyHash P (Str.ofString "POP_JUMP_IF_FALSE")) (Value.str (Str.ofString "POP_JUMP_IF_FALSE") 649) (Value.bool Bool.true), DictEntry.mk (PySem.PyData.keyHash P (Str.ofString "POP_JUMP_IF_NONE")) (Value.str (Str.ofString "POP_JUMP_IF_NONE") 651) (Value.bool Bool.true), DictEntry.mk (PySem.PyData.keyHash P (Str.ofString "POP_JUMP_IF_NOT_NONE")) (Value.str (Str.ofString "POP_JUMP_IF_NOT_NONE") 653) (Value.bool Bool.true), DictEntry.mk (PySem.PyData.keyHash P (Str.ofString "POP_JUMP_IF_TRUE")) (Value.str (Str.ofString "POP_JUMP_IF_TRUE") 655) (Value.bool Bool.true), DictEntry.mk (PySem.PyData.keyHash P (Str.ofString "POP_TOP")) (Value.str (Str.ofString "POP_TOP") 657) (Value.bool Bool.true), DictEntry.mk (PySem.PyData.keyHash P (Str.ofString "PUSH_EXC_INFO")) (Value.str (Str.ofString "PUSH_EXC_INFO") 659) (Value.bool Bool.true), DictEntry.mk (PySem.PyData.keyHash P (Str.ofString "PUSH_NULL")) (Value.str (Str.ofString "PUSH_NULL") 661) (Value.bool Bool.true), DictEntry.mk (PySem.PyData.keyHash P (Str.ofString "RESUME")) (Value.str (Str.ofString "RESUME") 663) (Value.bool Bool.true), DictEntry.mk (PySem.PyData.keyHash P (Str.ofString "RETURN_CONST")) (Value.str (Str.ofString "RETURN_CONST") 664) (Value.bool Bool.true), DictEntry.mk (PySem.PyData.keyHash P (Str.ofString "RETURN_GENERATOR")) (Value.str (Str.ofString "RETURN_GENERATOR") 665) (Value.bool Bool.true), DictEntry.mk (PySem.PyData.keyHash P (Str.ofString "RETURN_VALUE")) (Value.str (Str.ofString "RETURN_VALUE") 666) (Value.bool Bool.true), DictEntry.mk (PySem.PyData.keyHash P (Str.ofString "SET_FUNCTION_ATTRIBUTE")) (Value.str (Str.ofString "SET_FUNCTION_ATTRIBUTE") 667) (Value.bool Bool.true), DictEntry.mk (PySem.PyData.keyHash P (Str.ofString "STORE_DEREF")) (Value.str (Str.ofString "STORE_DEREF") 668) (Value.bool Bool.true), DictEntry.mk (PySem.PyData.keyHash P (Str.ofString "STORE_FAST")) (Value.str (Str.ofString "STORE_FAST") 669) (Value.bool Bool.true), DictEntry.mk (PySem.PyData.keyHash P (Str.ofString "STORE_FAST_LOAD_FAST")) (Value.str (Str.ofString "STORE_FAST_LOAD_FAST") 670) (Value.bool Bool.true), DictEntry.mk (PySem.PyData.keyHash P (Str.ofString "STORE_FAST_STORE_FAST")) (Value.str (Str.ofString "STORE_FAST_STORE_FAST") 671) (Value.bool Bool.true), DictEntry.mk (PySem.PyData.keyHash P (Str.ofString "STORE_GLOBAL")) (Value.str (Str.ofString "STORE_GLOBAL") 672) (Value.bool Bool.true), DictEntry.mk (PySem.PyData.keyHash P (Str.ofString "STORE_NAME")) (Value.str (Str.ofString "STORE_NAME") 673) (Value.bool Bool.true), DictEntry.mk (PySem.PyData.keyHash P (Str.ofString "SWAP")) (Value.str (Str.ofString "SWAP") 674) (Value.bool Bool.true), DictEntry.mk (PySem.PyData.keyHash P (Str.ofString "UNARY_NOT")) (Value.str (Str.ofString "UNARY_NOT") 675) (Value.bool Bool.true)] 47) #[]
def ob33 (P : Params) : Obj := Obj.mk (Value.type "dict") Option.none (Data.dict #[DictEntry.mk (PySem.PyData.keyHash P (Str.ofString "LOAD_CLOSURE")) (Value.str (Str.ofString "LOAD_CLOSURE") 629) (Value.bool Bool.true), DictEntry.mk (PySem.PyData.keyHash P (Str.ofString "LOAD_CODE")) (Value.str (Str.ofString "LOAD_CODE") 631) (Value.bool Bool.true), DictEntry.mk (PySem.PyData.keyHash P (Str.ofString "LOAD_CONST")) (Value.str (Str.ofString "LOAD_CONST") 633) (Value.bool Bool.true), DictEntry.mk (PySem.PyData.keyHash P (Str.ofString "LOAD_FAST")) (Value.str (Str.ofString "LOAD_FAST") 635) (Value.bool Bool.true), DictEntry.mk (PySem.PyData.keyHash P (Str.ofString "LOAD_FAST_LOAD_FAST")) (Value.str (Str.ofString "LOAD_FAST_LOAD_FAST") 637) (Value.bool Bool.true), DictEntry.mk (PySem.PyData.keyHash P (Str.ofString "LOAD_LOCALS")) (Value.str (Str.ofString "LOAD_LOCALS") 639) (Value.bool Bool.true), DictEntry.mk (PySem.PyData.keyHash P (Str.ofString "MAKE_CELL")) (Value.str (Str.ofString "MAKE_CELL") 641) (Value.bool Bool.true), DictEntry.mk (PySem.PyData.keyHash P (Str.ofString "MAKE_FUNCTION")) (Value.str (Str.ofString "MAKE_FUNCTION") 643) (Value.bool Bool.true), DictEntry.mk (PySem.PyData.keyHash P (Str.ofString "NOP")) (Value.str (Str.ofString "NOP") 645) (Value.bool Bool.true), DictEntry.mk (PySem.PyData.keyHash P (Str.ofString "POP_EXCEPT")) (Value.str (Str.ofString "POP_EXCEPT") 647) (Value.bool Bool.true), DictEntry.mk (PySem.PyData.keyHash P (Str.ofString "POP_JUMP_IF_FALSE")) (Value.str (Str.ofString "POP_JUMP_IF_FALSE") 649) (Value.bool Bool.true), DictEntry.mk (PySem.PyData.keyHash P (Str.ofString "POP_JUMP_IF_NONE")) (Value.str (Str.ofString "POP_JUMP_IF_NONE") 651) (Value.bool Bool.true), DictEntry.mk (PySem.PyData.keyHash P (Str.ofString "POP_JUMP_IF_NOT_NONE")) (Value.str (Str.ofString "POP_JUMP_IF_NOT_NONE") 653) (Value.bool Bool.true), DictEntry.mk (PySem.PyData.keyHash P (Str.ofString "POP_JUMP_IF_TRUE")) (Value.str (Str.ofString "POP_JUMP_IF_TRUE") 655) (Value.bool Bool.true), DictEntry.mk (PySem.PyData.keyHash P (Str.ofString "POP_TOP")) (Value.str (Str.ofString "POP_TOP") 657) (Value.bool Bool.true), DictEntry.mk (PySem.PyData.keyHash P (Str.ofString "PUSH_EXC_INFO")) (Value.str (Str.ofString "PUSH_EXC_INFO") 659) (Value.bool Bool.true), DictEntry.mk (PySem.PyData.keyHash P (Str.ofString "PUSH_NULL")) (Value.str (Str.ofString "PUSH_NULL") 661) (Value.bool Bool.true)] 17) #[]
def ob34 (P : Params) : Obj := Obj.mk (Value.type "dict") Option.none (Data.dict #[DictEntry.mk (PySem.PyData.keyHash P (Str.ofString "RESUME")) (Value.str (Str.ofString "RESUME") 663) (Value.bool Bool.true), DictEntry.mk (PySem.PyData.keyHash P (Str.ofString "RETURN_CONST")) (Value.str (Str.ofString "RETURN_CONST") 664) (Value.bool Bool.true), DictEntry.mk (PySem.PyData.keyHash P (Str.ofString "RETURN_GENERATOR")) (Value.str (Str.ofString "RETURN_GENERATOR") 665) (Value.bool Bool.true), DictEntry.mk (PySem.PyData.keyHash P (Str.ofString "RETURN_VALUE")) (Value.str (Str.ofString "RETURN_VALUE") 666) (Value.bool Bool.true), DictEntry.mk (PySem.PyData.keyHash P (Str.ofString "SET_FUNCTION_ATTRIBUTE")) (Value.str (Str.ofString "SET_FUNCTION_ATTRIBUTE") 667) (Value.bool Bool.true), DictEntry.mk (PySem.PyData.keyHash P (Str.ofString "STORE_DEREF")) (Value.str (Str.ofString "STORE_DEREF") 668) (Value.bool Bool.true), DictEntry.mk (PySem.PyData.keyHash P (Str.ofString "STORE_FAST")) (Value.str (Str.ofString "STORE_FAST") 669) (Value.bool Bool.true), DictEntry.mk (PySem.PyData.keyHash P (Str.ofString "STORE_FAST_LOAD_FAST")) (Value.str (Str.ofString "STORE_FAST_LOAD_FAST") 670) (Value.bool Bool.true), DictEntry.mk (PySem.PyData.keyHash P (Str.ofString "STORE_FAST_STORE_FAST")) (Value.str (Str.ofString "STORE_FAST_STORE_FAST") 671) (Value.bool Bool.true), DictEntry.mk (PySem.PyData.keyHash P (Str.ofString "STORE_GLOBAL")) (Value.str (Str.ofString "STORE_GLOBAL") 672) (Value.bool Bool.true), DictEntry.mk (PySem.PyData.keyHash P (Str.ofString "STORE_NAME")) (Value.str (Str.ofString "STORE_NAME") 673) (Value.bool Bool.true), DictEntry.mk (PySem.PyData.keyHash P (Str.ofString "SWAP")) (Value.str (Str.ofString "SWAP") 674) (Value.bool Bool.true), DictEntry.mk (PySem.PyData.keyHash P (Str.ofString "UNARY_NOT")) (Value.str (Str.ofString "UNARY_NOT") 675) (Value.bool Bool.true)] 13) #[]
def ob35 (P : Params) : Obj := Obj.mk (Value.type "dict") Option.none (Data.dict #[DictEntry.mk (PySem.PyData.keyHash P (Str.ofString "DELETE_DEREF")) (Value.str (Str.ofString "DELETE_DEREF") 690) (Value.bool Bool.true), DictEntry.mk (PySem.PyData.keyHash P (Str.ofString "DELETE_FAST")) (Value.str (Str.ofString "DELETE_FAST") 691) (Value.bool Bool.true), DictEntry.mk (PySem.PyData.keyHash P (Str.ofString "LOAD_CLOSURE")) (Value.str (Str.ofString "LOAD_CLOSURE") 692) (Value.bool Bool.true), DictEntry.mk (PySem.PyData.keyHash P (Str.ofString "LOAD_DEREF")) (Value.str (Str.ofString "LOAD_DEREF") 693) (Value.bool Bool.true), DictEntry.mk (PySem.PyData.keyHash P (Str.ofString "LOAD_FAST")) (Value.str (Str.ofString "LOAD_FAST") 694) (Value.bool Bool.true), DictEntry.mk (PySem.PyData.keyHash P (Str.ofString "LOAD_FAST_CHECK")) (Value.str (Str.ofString "LOAD_FAST_CHECK") 695) (Value.bool Bool.true), DictEntry.mk (PySem.PyData.keyHash P (Str.ofString "LOAD_FROM_DICT_OR_DEREF")) (Value.str (Str.ofString "LOAD_FROM_DICT_OR_DEREF") 696) (Value.bool Bool.true), DictEntry.mk (PySem.PyData.keyHash P (Str.ofString "MAKE_CELL")) (Value.str (Str.ofString "MAKE_CELL") 697) (Value.bool Bool.true), DictEntry.mk (PySem.PyData.keyHash P (Str.ofString "STORE_DEREF")) (Value.str (Str.ofString "STORE_DEREF") 698) (Value.bool Bool.true), DictEntry.mk (PySem.PyData.keyHash P (Str.ofString "STORE_FAST")) (Value.str (Str.ofString "STORE_FAST") 699) (Value.bool Bool.true), DictEntry.mk (PySem.PyData.keyHash P (Str.ofString "LOAD_FAST_LOAD_FAST")) (Value.str (Str.ofString "LOAD_FAST_LOAD_FAST") 700) (Value.bool Bool.true), DictEntry.mk (PySem.PyData.keyHash P (Str.ofString "STORE_FAST_LOAD_FAST")) (Value.str (Str.ofString "STORE_FAST_LOAD_FAST") 701) (Value.bool Bool.true), DictEntry.mk (PySem.PyData.keyHash P (Str.ofString "STORE_FAST_STORE_FAST")) (Value.str (Str.ofString "STORE_FAST_STORE_FAST") 702) (Value.bool Bool.true)] 13) #[]
def ob36 : Obj := Obj.mk (Value.type "tuple") Option.none (Data.seq #[Value.str (Str.ofString "word") 720, Value.str (Str.ofString "argument") 721, Value.str (Str.ofString "plain") 722, Value.str (Str.ofString "each") 723]) #[]
def ob37 : Obj := Obj.mk Value.none Option.none (Data.func (FuncData.mk (Str.ofString "effect_of") (Str.ofString "effect_of") (L2.defArgs (C31.ztop 8)) (FuncBody.stmts (L2.defBody (C31.ztop 8))) (L2.defScope (C31.ztop 8)) 0 [] Value.none Value.none Value.none Value.none Option.none Value.none Value.none 0)) #[]
def ob38 : Obj := Obj.mk (Value.type "code") Option.none (Data.fields #[Value.str (Str.ofString "effect_of") 717, Value.str (Str.ofString "effect_of") 718, Value.str (Str.ofString "/claim/cut.py") 719, Value.int 9 0, Value.int 2 0, Value.int 0 0, Value.int 0 0, Value.int 3 0, Value.ref 37, Value.bool Bool.true, Value.int 181 0, Value.ref 38, Value.none, Value.ref 39, Value.ref 40, Value.ref 41, Value.int 724 0, Value.int 9 0, Value.str (Str.ofString "/claim/cut.py") 725]) #[]
def ob39 : Obj := Obj.mk (Value.type "function") Option.none (Data.func (FuncData.mk (Str.ofString "effect_of") (Str.ofString "effect_of") (L2.defArgs (C31.ztop 8)) (FuncBody.stmts (L2.defBody (C31.ztop 8))) (L2.defScope (C31.ztop 8)) 3 [] Value.none Value.none Value.none (Value.str (Str.ofString "codewalk.words") 187) Option.none (Value.ref 42) Value.none 0)) #[]
def ob40 : Obj := Obj.mk (Value.type "tuple") Option.none (Data.seq #[Value.str (Str.ofString "head") 732, Value.str (Str.ofString "names") 733, Value.str (Str.ofString "only") 734, Value.str (Str.ofString "rest") 735, Value.str (Str.ofString "more") 736, Value.str (Str.ofString "found") 737]) #[]
def ob41 : Obj := Obj.mk Value.none Option.none (Data.func (FuncData.mk (Str.ofString "parameters_of") (Str.ofString "parameters_of") (L2.defArgs (C31.ztop 10)) (FuncBody.stmts (L2.defBody (C31.ztop 10))) (L2.defScope (C31.ztop 10)) 0 [] Value.none Value.none Value.none Value.none Option.none Value.none Value.none 0)) #[]
def ob42 : Obj := Obj.mk (Value.type "code") Option.none (Data.fields #[Value.str (Str.ofString "parameters_of") 729, Value.str (Str.ofString "parameters_of") 730, Value.str (Str.ofString "/claim/cut.py") 731, Value.int 17 0, Value.int 1 0, Value.int 0 0, Value.int 0 0, Value.int 3 0, Value.ref 44, Value.bool Bool.true, Value.int 181 0, Value.ref 45, Value.none, Value.ref 46, Value.ref 47, Value.ref 48, Value.int 738 0, Value.int 17 0, Value.str (Str.ofString "/claim/cut.py") 739]) #[]
def ob43 : Obj := Obj.mk (Value.type "function") Option.none (Data.func (FuncData.mk (Str.ofString "parameters_of") (Str.ofString "parameters_of") (L2.defArgs (C31.ztop 10)) (FuncBody.stmts (L2.defBody (C31.ztop 10))) (L2.defScope (C31.ztop 10)) 3 [] Value.none Value.none Value.none (Value.str (Str.ofString "codewalk.slots") 727) Option.none (Value.ref 49) Value.none 0)) #[]
def ob44 : Obj := Obj.mk Value.none Option.none (Data.func (FuncData.mk (Str.ofString "numbers_of") (Str.ofString "numbers_of") (L2.defArgs (C31.ztop 11)) (FuncBody.stmts (L2.defBody (C31.ztop 11))) (L2.defScope (C31.ztop 11)) 0 [] Value.none Value.none Value.none Value.none Option.none Value.none Value.none 0)) #[]
def ob45 : Obj := Obj.mk (Value.type "code") Option.none (Data.fields #[Value.str (Str.ofString "numbers_of") 741, Value.str (Str.ofString "numbers_of") 742, Value.str (Str.ofString "/claim/cut.py") 743, Value.int 25 0, Value.int 2 0, Value.int 0 0, Value.int 0 0, Value.int 3 0, Value.ref 51, Value.bool Bool.true, Value.int 181 0, Value.ref 52, Value.none, Value.none, Value.none, Value.ref 53, Value.int 744 0, Value.int 25 0, Value.str (Str.ofString "/claim/cut.py") 745]) #[]
def ob46 : Obj := Obj.mk (Value.type "function") Option.none (Data.func (FuncData.mk (Str.ofString "numbers_of") (Str.ofString "numbers_of") (L2.defArgs (C31.ztop 11)) (FuncBody.stmts (L2.defBody (C31.ztop 11))) (L2.defScope (C31.ztop 11)) 3 [] Value.none Value.none Value.none (Value.str (Str.ofString "codewalk.slots") 727) Option.none (Value.ref 54) Value.none 0)) #[]
def ob47 : Obj := Obj.mk Value.none Option.none (Data.func (FuncData.mk (Str.ofString "locals_in") (Str.ofString "locals_in") (L2.defArgs (C31.ztop 12)) (FuncBody.stmts (L2.defBody (C31.ztop 12))) (L2.defScope (C31.ztop 12)) 0 [] Value.none Value.none Value.none Value.none Option.none Value.none Value.none 0)) #[]
def ob48 : Obj := Obj.mk (Value.type "code") Option.none (Data.fields #[Value.str (Str.ofString "locals_in") 747, Value.str (Str.ofString "locals_in") 748, Value.str (Str.ofString "/claim/cut.py") 749, Value.int 33 0, Value.int 1 0, Value.int 0 0, Value.int 0 0, Value.int 3 0, Value.ref 56, Value.bool Bool.true, Value.int 181 0, Value.ref 57, Value.none, Value.none, Value.none, Value.ref 58, Value.int 750 0, Value.int 33 0, Value.str (Str.ofString "/claim/cut.py") 751]) #[]
def ob49 : Obj := Obj.mk (Value.type "function") Option.none (Data.func (FuncData.mk (Str.ofString "locals_in") (Str.ofString "locals_in") (L2.defArgs (C31.ztop 12)) (FuncBody.stmts (L2.defBody (C31.ztop 12))) (L2.defScope (C31.ztop 12)) 3 [] Value.none Value.none Value.none (Value.str (Str.ofString "codewalk.slots") 727) Option.none (Value.ref 59) Value.none 0)) #[]
def ob50 (P : Params) : Obj := Obj.mk (Value.type "dict") Option.none (Data.dict #[DictEntry.mk (PySem.PyData.keyHash P (Str.ofString "DELETE_FAST")) (Value.str (Str.ofString "DELETE_FAST") 755) (Value.bool Bool.true), DictEntry.mk (PySem.PyData.keyHash P (Str.ofString "LOAD_FAST")) (Value.str (Str.ofString "LOAD_FAST") 756) (Value.bool Bool.true), DictEntry.mk (PySem.PyData.keyHash P (Str.ofString "LOAD_FAST_CHECK")) (Value.str (Str.ofString "LOAD_FAST_CHECK") 757) (Value.bool Bool.true), DictEntry.mk (PySem.PyData.keyHash P (Str.ofString "STORE_FAST")) (Value.str (Str.ofString "STORE_FAST") 758) (Value.bool Bool.true)] 4) #[]
def ob51 : Obj := Obj.mk (Value.type "tuple") Option.none (Data.seq #[Value.str (Str.ofString "rows") 767, Value.str (Str.ofString "head") 768, Value.str (Str.ofString "words") 769, Value.str (Str.ofString "lacking") 770, Value.str (Str.ofString "found") 771, Value.str (Str.ofString "at") 772, Value.str (Str.ofString "_") 773, Value.str (Str.ofString "name") 774, Value.str (Str.ofString "line") 775, Value.str (Str.ofString "handler") 776]) #[]
def ob52 : Obj := Obj.mk Value.none Option.none (Data.func (FuncData.mk (Str.ofString "with_checks") (Str.ofString "with_checks") (L2.defArgs (C31.ztop 15)) (FuncBody.stmts (L2.defBody (C31.ztop 15))) (L2.defScope (C31.ztop 15)) 0 [] Value.none Value.none Value.none Value.none Option.none Value.none Value.none 0)) #[]
def ob53 : Obj := Obj.mk (Value.type "code") Option.none (Data.fields #[Value.str (Str.ofString "with_checks") 764, Value.str (Str.ofString "with_checks") 765, Value.str (Str.ofString "/claim/cut.py") 766, Value.int 43 0, Value.int 3 0, Value.int 0 0, Value.int 0 0, Value.int 3 0, Value.ref 62, Value.bool Bool.true, Value.int 181 0, Value.ref 63, Value.none, Value.ref 64, Value.ref 65, Value.ref 66, Value.int 777 0, Value.int 43 0, Value.str (Str.ofString "/claim/cut.py") 778]) #[]
def ob54 : Obj := Obj.mk (Value.type "function") Option.none (Data.func (FuncData.mk (Str.ofString "with_checks") (Str.ofString "with_checks") (L2.defArgs (C31.ztop 15)) (FuncBody.stmts (L2.defBody (C31.ztop 15))) (L2.defScope (C31.ztop 15)) 3 [] Value.none Value.none Value.none (Value.str (Str.ofString "codewalk.bound") 753) Option.none (Value.ref 67) Value.none 0)) #[]
def ob55 : Obj := Obj.mk Value.none Option.none (Data.func (FuncData.mk (Str.ofString "lacking_in_order") (Str.ofString "lacking_in_order") (L2.defArgs (C31.ztop 16)) (FuncBody.stmts (L2.defBody (C31.ztop 16))) (L2.defScope (C31.ztop 16)) 0 [] Value.none Value.none Value.none Value.none Option.none Value.none Value.none 0)) #[]
def ob56 : Obj := Obj.mk (Value.type "code") Option.none (Data.fields #[Value.str (Str.ofString "lacking_in_order") 780, Value.str (Str.ofString "lacking_in_order") 781, Value.str (Str.ofString "/claim/cut.py") 782, Value.int 54 0, Value.int 2 0, Value.int 0 0, Value.int 0 0, Value.int 3 0, Value.ref 69, Value.bool Bool.true, Value.int 181 0, Value.ref 70, Value.none, Value.none, Value.none, Value.ref 71, Value.int 783 0, Value.int 54 0, Value.str (Str.ofString "/claim/cut.py") 784]) #[]
def ob57 : Obj := Obj.mk (Value.type "function") Option.none (Data.func (FuncData.mk (Str.ofString "lacking_in_order") (Str.ofString "lacking_in_order") (L2.defArgs (C31.ztop 16)) (FuncBody.stmts (L2.defBody (C31.ztop 16))) (L2.defScope (C31.ztop 16)) 3 [] Value.none Value.none Value.none (Value.str (Str.ofString "codewalk.bound") 753) Option.none (Value.ref 72) Value.none 0)) #[]
def ob58 : Obj := Obj.mk Value.none Option.none (Data.func (FuncData.mk (Str.ofString "lacking_on_ways") (Str.ofString "lacking_on_ways") (L2.defArgs (C31.ztop 17)) (FuncBody.stmts (L2.defBody (C31.ztop 17))) (L2.defScope (C31.ztop 17)) 0 [] Value.none Value.none Value.none Value.none Option.none Value.none Value.none 0)) #[]
def ob59 : Obj := Obj.mk (Value.type "code") Option.none (Data.fields #[Value.str (Str.ofString "lacking_on_ways") 786, Value.str (Str.ofString "lacking_on_ways") 787, Value.str (Str.ofString "/claim/cut.py") 788, Value.int 69 0, Value.int 3 0, Value.int 0 0, Value.int 0 0, Value.int 3 0, Value.ref 74, Value.bool Bool.true, Value.int 181 0, Value.ref 75, Value.none, Value.none, Value.none, Value.ref 76, Value.int 789 0, Value.int 69 0, Value.str (Str.ofString "/claim/cut.py") 790]) #[]
def ob60 : Obj := Obj.mk (Value.type "function") Option.none (Data.func (FuncData.mk (Str.ofString "lacking_on_ways") (Str.ofString "lacking_on_ways") (L2.defArgs (C31.ztop 17)) (FuncBody.stmts (L2.defBody (C31.ztop 17))) (L2.defScope (C31.ztop 17)) 3 [] Value.none Value.none Value.none (Value.str (Str.ofString "codewalk.bound") 753) Option.none (Value.ref 77) Value.none 0)) #[]
def ob61 : Obj := Obj.mk Value.none Option.none (Data.func (FuncData.mk (Str.ofString "bits_of") (Str.ofString "bits_of") (L2.defArgs (C31.ztop 18)) (FuncBody.stmts (L2.defBody (C31.ztop 18))) (L2.defScope (C31.ztop 18)) 0 [] Value.none Value.none Value.none Value.none Option.none Value.none Value.none 0)) #[]
def ob62 : Obj := Obj.mk (Value.type "code") Option.none (Data.fields #[Value.str (Str.ofString "bits_of") 792, Value.str (Str.ofString "bits_of") 793, Value.str (Str.ofString "/claim/cut.py") 794, Value.int 79 0, Value.int 3 0, Value.int 0 0, Value.int 0 0, Value.int 3 0, Value.ref 79, Value.bool Bool.true, Value.int 181 0, Value.ref 80, Value.none, Value.none, Value.none, Value.ref 81, Value.int 795 0, Value.int 79 0, Value.str (Str.ofString "/claim/cut.py") 796]) #[]
def ob63 : Obj := Obj.mk (Value.type "function") Option.none (Data.func (FuncData.mk (Str.ofString "bits_of") (Str.ofString "bits_of") (L2.defArgs (C31.ztop 18)) (FuncBody.stmts (L2.defBody (C31.ztop 18))) (L2.defScope (C31.ztop 18)) 3 [] Value.none Value.none Value.none (Value.str (Str.ofString "codewalk.bound") 753) Option.none (Value.ref 82) Value.none 0)) #[]
def ob64 : Obj := Obj.mk (Value.type "builtin_function_or_method") Option.none (Data.fields #[Value.builtin "type.__prepare__", Value.type "type"]) #[]
def ob65 (P : Params) : Obj := Obj.mk (Value.type "dict") Option.none (Data.dict #[DictEntry.mk (PySem.PyData.keyHash P (Str.ofString "__module__")) (Value.str (Str.ofString "__module__") 805) (Value.str (Str.ofString "codewalk.bound") 753), DictEntry.mk (PySem.PyData.keyHash P (Str.ofString "__qualname__")) (Value.str (Str.ofString "__qualname__") 807) (Value.str (Str.ofString "Bound") 806), DictEntry.mk (PySem.PyData.keyHash P (Str.ofString "__firstlineno__")) (Value.str (Str.ofString "__firstlineno__") 809) (Value.int 90 808), DictEntry.mk (PySem.PyData.keyHash P (Str.ofString "__init__")) (Value.str (Str.ofString "__init__") 817) (Value.ref 97), DictEntry.mk (PySem.PyData.keyHash P (Str.ofString "is_stale")) (Value.str (Str.ofString "is_stale") 823) (Value.ref 102), DictEntry.mk (PySem.PyData.keyHash P (Str.ofString "sweep")) (Value.str (Str.ofString "sweep") 840) (Value.ref 109), DictEntry.mk (PySem.PyData.keyHash P (Str.ofString "pass_label")) (Value.str (Str.ofString "pass_label") 849) (Value.ref 116), DictEntry.mk (PySem.PyData.keyHash P (Str.ofString "lead_to")) (Value.str (Str.ofString "lead_to") 858) (Value.ref 123), DictEntry.mk (PySem.PyData.keyHash P (Str.ofString "__static_attributes__")) (Value.str (Str.ofString "__static_attributes__") 863) (Value.ref 124)] 9) #[]
def ob66 : Obj := Obj.mk Value.none Option.none (Data.fields #[Value.int 92 0, Value.int 4 0, Value.ref 96, Value.int 98 0, Value.int 4 0, Value.ref 101, Value.int 101 0, Value.int 4 0, Value.ref 108, Value.int 124 0, Value.int 4 0, Value.ref 115, Value.int 130 0, Value.int 4 0, Value.ref 122]) #[]
def ob67 : Obj := Obj.mk (Value.type "code") Option.none (Data.fields #[Value.str (Str.ofString "Bound") 800, Value.str (Str.ofString "Bound") 801, Value.str (Str.ofString "/claim/cut.py") 802, Value.int 90 0, Value.int 0 0, Value.int 0 0, Value.int 0 0, Value.int 0 0, Value.ref 87, Value.bool Bool.false, Value.int 181 0, Value.ref 88, Value.none, Value.none, Value.none, Value.none, Value.int 803 0, Value.int 90 0, Value.str (Str.ofString "/claim/cut.py") 804]) #[]
def ob68 : Obj := Obj.mk (Value.type "frame") Option.none Data.plain #[Option.some (Value.ref 89), Option.some (Value.ref 3), Option.some (Value.ref 86), Option.none, Option.some (Value.str (Str.ofString "codewalk.bound") 753), Option.none, Option.some (Value.ref 0)]
def ob69 : Obj := Obj.mk (Value.type "tuple") Option.none (Data.seq #[Value.str (Str.ofString "self") 813, Value.str (Str.ofString "bits") 814]) #[]
def ob70 : Obj := Obj.mk Value.none Option.none (Data.func (FuncData.mk (Str.ofString "__init__") (Str.ofString "Bound.__init__") (L2.defArgs (C31.zinClass (C31.ztop 19) 0)) (FuncBody.stmts (L2.defBody (C31.zinClass (C31.ztop 19) 0))) (L2.defScope (C31.zinClass (C31.ztop 19) 0)) 0 [] Value.none Value.none Value.none Value.none Option.none Value.none Value.none 0)) #[]
def ob71 : Obj := Obj.mk (Value.type "code") Option.none (Data.fields #[Value.str (Str.ofString "__init__") 810, Value.str (Str.ofString "Bound.__init__") 811, Value.str (Str.ofString "/claim/cut.py") 812, Value.int 92 0, Value.int 2 0, Value.int 0 0, Value.int 0 0, Value.int 3 0, Value.ref 91, Value.bool Bool.true, Value.int 181 0, Value.ref 92, Value.none, Value.ref 93, Value.ref 94, Value.ref 95, Value.int 815 0, Value.int 92 0, Value.str (Str.ofString "/claim/cut.py") 816]) #[]
def ob72 : Obj := Obj.mk (Value.type "function") Option.none (Data.func (FuncData.mk (Str.ofString "__init__") (Str.ofString "Bound.__init__") (L2.defArgs (C31.zinClass (C31.ztop 19) 0)) (FuncBody.stmts (L2.defBody (C31.zinClass (C31.ztop 19) 0))) (L2.defScope (C31.zinClass (C31.ztop 19) 0)) 3 [] Value.none Value.none Value.none (Value.str (Str.ofString "codewalk.bound") 753) Option.none (Value.ref 96) Value.none 0)) #[]
def ob73 : Obj := Obj.mk Value.none Option.none (Data.func (FuncData.mk (Str.ofString "is_stale") (Str.ofString "Bound.is_stale") (L2.defArgs (C31.zinClass (C31.ztop 19) 1)) (FuncBody.stmts (L2.defBody (C31.zinClass (C31.ztop 19) 1))) (L2.defScope (C31.zinClass (C31.ztop 19) 1)) 0 [] Value.none Value.none Value.none Value.none Option.none Value.none Value.none 0)) #[]
def ob74 : Obj := Obj.mk (Value.type "code") Option.none (Data.fields #[Value.str (Str.ofString "is_stale") 818, Value.str (Str.ofString "Bound.is_stale") 819, Value.str (Str.ofString "/claim/cut.py") 820, Value.int 98 0, Value.int 1 0, Value.int 0 0, Value.int 0 0, Value.int 3 0, Value.ref 98, Value.bool Bool.true, Value.int 181 0, Value.ref 99, Value.none, Value.none, Value.none, Value.ref 100, Value.int 821 0, Value.int 98 0, Value.str (Str.ofString "/claim/cut.py") 822]) #[]
def ob75 : Obj := Obj.mk (Value.type "function") Option.none (Data.func (FuncData.mk (Str.ofString "is_stale") (Str.ofString "Bound.is_stale") (L2.defArgs (C31.zinClass (C31.ztop 19) 1)) (FuncBody.stmts (L2.defBody (C31.zinClass (C31.ztop 19) 1))) (L2.defScope (C31.zinClass (C31.ztop 19) 1)) 3 [] Value.none Value.none Value.none (Value.str (Str.ofString "codewalk.bound") 753) Option.none (Value.ref 101) Value.none 0)) #[]
def ob76 : Obj := Obj.mk (Value.type "tuple") Option.none (Data.seq #[Value.str (Str.ofString "self") 827, Value.str (Str.ofString "rows") 828, Value.str (Str.ofString "names") 829, Value.str (Str.ofString "at") 830, Value.str (Str.ofString "row") 831, Value.str (Str.ofString "word") 832, Value.str (Str.ofString "argument") 833, Value.str (Str.ofString "_") 834, Value.str (Str.ofString "handler") 835, Value.str (Str.ofString "ahead") 836, Value.str (Str.ofString "bit") 837]) #[]
def ob77 : Obj := Obj.mk Value.none Option.none (Data.func (FuncData.mk (Str.ofString "sweep") (Str.ofString "Bound.sweep") (L2.defArgs (C31.zinClass (C31.ztop 19) 2)) (FuncBody.stmts (L2.defBody (C31.zinClass (C31.ztop 19) 2))) (L2.defScope (C31.zinClass (C31.ztop 19) 2)) 0 [] Value.none Value.none Value.none Value.none Option.none Value.none Value.none 0)) #[]
def ob78 : Obj := Obj.mk (Value.type "code") Option.none (Data.fields #[Value.str (Str.ofString "sweep") 824, Value.str (Str.ofString "Bound.sweep") 825, Value.str (Str.ofString "/claim/cut.py") 826, Value.int 101 0, Value.int 3 0, Value.int 0 0, Value.int 0 0, Value.int 3 0, Value.ref 103, Value.bool Bool.true, Value.int 181 0, Value.ref 104, Value.none, Value.ref 105, Value.ref 106, Value.ref 107, Value.int 838 0, Value.int 101 0, Value.str (Str.ofString "/claim/cut.py") 839]) #[]
def ob79 : Obj := Obj.mk (Value.type "function") Option.none (Data.func (FuncData.mk (Str.ofString "sweep") (Str.ofString "Bound.sweep") (L2.defArgs (C31.zinClass (C31.ztop 19) 2)) (FuncBody.stmts (L2.defBody (C31.zinClass (C31.ztop 19) 2))) (L2.defScope (C31.zinClass (C31.ztop 19) 2)) 3 [] Value.none Value.none Value.none (Value.str (Str.ofString "codewalk.bound") 753) Option.none (Value.ref 108) Value.none 0)) #[]
def ob80 : Obj := Obj.mk (Value.type "tuple") Option.none (Data.seq #[Value.str (Str.ofString "self") 844, Value.str (Str.ofString "label") 845, Value.str (Str.ofString "names") 846]) #[]
def ob81 : Obj := Obj.mk Value.none Option.none (Data.func (FuncData.mk (Str.ofString "pass_label") (Str.ofString "Bound.pass_label") (L2.defArgs (C31.zinClass (C31.ztop 19) 3)) (FuncBody.stmts (L2.defBody (C31.zinClass (C31.ztop 19) 3))) (L2.defScope (C31.zinClass (C31.ztop 19) 4)) 0 [] Value.none Value.none Value.none Value.none Option.none Value.none Value.none 0)) #[]
def ob82 : Obj := Obj.mk (Value.type "code") Option.none (Data.fields #[Value.str (Str.ofString "pass_label") 841, Value.str (Str.ofString "Bound.pass_label") 842, Value.str (Str.ofString "/claim/cut.py") 843, Value.int 124 0, Value.int 3 0, Value.int 0 0, Value.int 0 0, Value.int 3 0, Value.ref 110, Value.bool Bool.true, Value.int 181 0, Value.ref 111, Value.none, Value.ref 112, Value.ref 113, Value.ref 114, Value.int 847 0, Value.int 124 0, Value.str (Str.ofString "/claim/cut.py") 848]) #[]
def ob83 : Obj := Obj.mk (Value.type "function") Option.none (Data.func (FuncData.mk (Str.ofString "pass_label") (Str.ofString "Bound.pass_label") (L2.defArgs (C31.zinClass (C31.ztop 19) 3)) (FuncBody.stmts (L2.defBody (C31.zinClass (C31.ztop 19) 3))) (L2.defScope (C31.zinClass (C31.ztop 19) 4)) 3 [] Value.none Value.none Value.none (Value.str (Str.ofString "codewalk.bound") 753) Option.none (Value.ref 115) Value.none 0)) #[]
def ob84 : Obj := Obj.mk (Value.type "tuple") Option.none (Data.seq #[Value.str (Str.ofString "self") 853, Value.str (Str.ofString "label") 854, Value.str (Str.ofString "names") 855]) #[]
def ob85 : Obj := Obj.mk Value.none Option.none (Data.func (FuncData.mk (Str.ofString "lead_to") (Str.ofString "Bound.lead_to") (L2.defArgs (C31.zinClass (C31.ztop 19) 4)) (FuncBody.stmts (L2.defBody (C31.zinClass (C31.ztop 19) 4))) (L2.defScope (C31.zinClass (C31.ztop 19) 4)) 0 [] Value.none Value.none Value.none Value.none Option.none Value.none Value.none 0)) #[]
def ob86 : Obj := Obj.mk (Value.type "code") Option.none (Data.fields #[Value.str (Str.ofString "lead_to") 850, Value.str (Str.ofString "Bound.lead_to") 851, Value.str (Str.ofString "/claim/cut.py") 852, Value.int 130 0, Value.int 3 0, Value.int 0 0, Value.int 0 0, Value.int 3 0, Value.ref 117, Value.bool Bool.true, Value.int 181 0, Value.ref 118, Value.none, Value.ref 119, Value.ref 120, Value.ref 121, Value.int 856 0, Value.int 130 0, Value.str (Str.ofString "/claim/cut.py") 857]) #[]
def ob87 : Obj := Obj.mk (Value.type "function") Option.none (Data.func (FuncData.mk (Str.ofString "lead_to") (Str.ofString "Bound.lead_to") (L2.defArgs (C31.zinClass (C31.ztop 19) 4)) (FuncBody.stmts (L2.defBody (C31.zinClass (C31.ztop 19) 4))) (L2.defScope (C31.zinClass (C31.ztop 19) 4)) 3 [] Value.none Value.none Value.none (Value.str (Str.ofString "codewalk.bound") 753) Option.none (Value.ref 122) Value.none 0)) #[]
def ob88 : Obj := Obj.mk (Value.type "tuple") Option.none (Data.seq #[Value.str (Str.ofString "bits") 859, Value.str (Str.ofString "lacking") 860, Value.str (Str.ofString "names") 861, Value.str (Str.ofString "passed") 862]) #[]
def ob89 (P : Params) : Obj := Obj.mk (Value.type "dict") Option.none (Data.dict #[DictEntry.mk (PySem.PyData.keyHash P (Str.ofString "__module__")) (Value.str (Str.ofString "__module__") 805) (Value.str (Str.ofString "codewalk.bound") 753), DictEntry.mk (PySem.PyData.keyHash P (Str.ofString "__firstlineno__")) (Value.str (Str.ofString "__firstlineno__") 809) (Value.int 90 808), DictEntry.mk (PySem.PyData.keyHash P (Str.ofString "__init__")) (Value.str (Str.ofString "__init__") 817) (Value.ref 97), DictEntry.mk (PySem.PyData.keyHash P (Str.ofString "is_stale")) (Value.str (Str.ofString "is_stale") 823) (Value.ref 102), DictEntry.mk (PySem.PyData.keyHash P (Str.ofString "sweep")) (Value.str (Str.ofString "sweep") 840) (Value.ref 109), DictEntry.mk (PySem.PyData.keyHash P (Str.ofString "pass_label")) (Value.str (Str.ofString "pass_label") 849) (Value.ref 116), DictEntry.mk (PySem.PyData.keyHash P (Str.ofString "lead_to")) (Value.str (Str.ofString "lead_to") 858) (Value.ref 123), DictEntry.mk (PySem.PyData.keyHash P (Str.ofString "__static_attributes__")) (Value.str (Str.ofString "__static_attributes__") 863) (Value.ref 124), DictEntry.mk (PySem.PyData.keyHash P (Str.ofString "__dict__")) (Value.str (Str.ofString "__dict__") 865) (Value.ref 127), DictEntry.mk (PySem.PyData.keyHash P (Str.ofString "__weakref__")) (Value.str (Str.ofString "__weakref__") 867) (Value.ref 128), DictEntry.mk (PySem.PyData.keyHash P (Str.ofString "__doc__")) (Value.str (Str.ofString "__doc__") 868) Value.none] 4) #[]
def ob90 : Obj := Obj.mk (Value.type "type") Option.none (Data.cls (ClassData.mk (Str.ofString "Bound") [Value.type "object"] [Value.ref 126, Value.type "object"] 125 (Str.ofString "Bound") Bool.true [] [] Bool.false Option.none Bool.false)) #[Option.none, Option.none, Option.some (Value.str (Str.ofString "Bound") 798), Option.some (Value.str (Str.ofString "Bound") 806), Option.some (Value.builtin "object.__new__"), Option.some (Value.bool Bool.true)]
def ob91 : Obj := Obj.mk (Value.type "getset_descriptor") Option.none (Data.fields #[Value.str (Str.ofString "__dict__") 864, Value.ref 126, Value.builtin "function.__dict__", Value.builtin "function.__dict__#set"]) #[]
def ob92 : Obj := Obj.mk (Value.type "getset_descriptor") Option.none (Data.fields #[Value.str (Str.ofString "__weakref__") 866, Value.ref 126, Value.builtin "ExceptionGroup.__weakref__", Value.none]) #[]
def ob93 : Obj := Obj.mk (Value.type "super") Option.none (Data.fields #[Value.ref 126, Value.ref 126, Value.ref 126]) #[]
def ob94 : Obj := Obj.mk (Value.type "builtin_function_or_method") Option.none (Data.fields #[Value.builtin "object.__init_subclass__", Value.ref 126]) #[]
def ob95 : Obj := Obj.mk (Value.type "tuple") Option.none (Data.seq #[Value.none, Value.none, Value.int 0 873]) #[]
def ob96 (P : Params) : Obj := Obj.mk (Value.type "dict") Option.none (Data.dict #[DictEntry.mk (PySem.PyData.keyHash P (Str.ofString "SETUP_FINALLY")) (Value.str (Str.ofString "SETUP_FINALLY") 875) (Value.ref 133), DictEntry.mk (PySem.PyData.keyHash P (Str.ofString "SETUP_CLEANUP")) (Value.str (Str.ofString "SETUP_CLEANUP") 877) (Value.ref 134), DictEntry.mk (PySem.PyData.keyHash P (Str.ofString "SETUP_WITH")) (Value.str (Str.ofString "SETUP_WITH") 879) (Value.ref 135)] 3) #[]
def ob97 : Obj := Obj.mk (Value.type "tuple") Option.none (Data.seq #[Value.int 0 876, Value.bool Bool.false]) #[]
def ob98 : Obj := Obj.mk (Value.type "tuple") Option.none (Data.seq #[Value.int 0 878, Value.bool Bool.true]) #[]
def ob99 : Obj := Obj.mk (Value.type "tuple") Option.none (Data.seq #[Value.int 1 880, Value.bool Bool.true]) #[]
def ob100 (P : Params) : Obj := Obj.mk (Value.type "dict") Option.none (Data.dict #[DictEntry.mk (PySem.PyData.keyHash P (Str.ofString "POP_BLOCK")) (Value.str (Str.ofString "POP_BLOCK") 885) (Value.bool Bool.true), DictEntry.mk (PySem.PyData.keyHash P (Str.ofString "SETUP_CLEANUP")) (Value.str (Str.ofString "SETUP_CLEANUP") 886) (Value.bool Bool.true), DictEntry.mk (PySem.PyData.keyHash P (Str.ofString "SETUP_FINALLY")) (Value.str (Str.ofString "SETUP_FINALLY") 887) (Value.bool Bool.true), DictEntry.mk (PySem.PyData.keyHash P (Str.ofString "SETUP_WITH")) (Value.str (Str.ofString "SETUP_WITH") 888) (Value.bool Bool.true)] 4) #[]
def ob101 : Obj := Obj.mk (Value.type "tuple") Option.none (Data.seq #[Value.str (Str.ofString "rows") 897, Value.str (Str.ofString "words") 898]) #[]
def ob102 : Obj := Obj.mk Value.none Option.none (Data.func (FuncData.mk (Str.ofString "with_handlers") (Str.ofString "with_handlers") (L2.defArgs (C31.ztop 24)) (FuncBody.stmts (L2.defBody (C31.ztop 24))) (L2.defScope (C31.ztop 24)) 0 [] Value.none Value.none Value.none Value.none Option.none Value.none Value.none 0)) #[]
def ob103 : Obj := Obj.mk (Value.type "code") Option.none (Data.fields #[Value.str (Str.ofString "with_handlers") 894, Value.str (Str.ofString "with_handlers") 895, Value.str (Str.ofString "/claim/cut.py") 896, Value.int 136 0, Value.int 2 0, Value.int 0 0, Value.int 0 0, Value.int 3 0, Value.ref 137, Value.bool Bool.true, Value.int 181 0, Value.ref 138, Value.none, Value.ref 139, Value.ref 140, Value.ref 141, Value.int 899 0, Value.int 136 0, Value.str (Str.ofString "/claim/cut.py") 900]) #[]
def ob104 : Obj := Obj.mk (Value.type "function") Option.none (Data.func (FuncData.mk (Str.ofString "with_handlers") (Str.ofString "with_handlers") (L2.defArgs (C31.ztop 24)) (FuncBody.stmts (L2.defBody (C31.ztop 24))) (L2.defScope (C31.ztop 24)) 3 [] Value.none Value.none Value.none (Value.str (Str.ofString "codewalk.handlers") 871) Option.none (Value.ref 142) Value.none 0)) #[]
def ob105 : Obj := Obj.mk (Value.type "tuple") Option.none (Data.seq #[Value.str (Str.ofString "rows") 905, Value.str (Str.ofString "found") 906, Value.str (Str.ofString "word") 907, Value.str (Str.ofString "argument") 908, Value.str (Str.ofString "line") 909]) #[]
def ob106 : Obj := Obj.mk Value.none Option.none (Data.func (FuncData.mk (Str.ofString "first_rows") (Str.ofString "first_rows") (L2.defArgs (C31.ztop 25)) (FuncBody.stmts (L2.defBody (C31.ztop 25))) (L2.defScope (C31.ztop 25)) 0 [] Value.none Value.none Value.none Value.none Option.none Value.none Value.none 0)) #[]
def ob107 : Obj := Obj.mk (Value.type "code") Option.none (Data.fields #[Value.str (Str.ofString "first_rows") 902, Value.str (Str.ofString "first_rows") 903, Value.str (Str.ofString "/claim/cut.py") 904, Value.int 142 0, Value.int 1 0, Value.int 0 0, Value.int 0 0, Value.int 3 0, Value.ref 144, Value.bool Bool.true, Value.int 181 0, Value.ref 145, Value.none, Value.ref 146, Value.ref 147, Value.ref 148, Value.int 910 0, Value.int 142 0, Value.str (Str.ofString "/claim/cut.py") 911]) #[]
def ob108 : Obj := Obj.mk (Value.type "function") Option.none (Data.func (FuncData.mk (Str.ofString "first_rows") (Str.ofString "first_rows") (L2.defArgs (C31.ztop 25)) (FuncBody.stmts (L2.defBody (C31.ztop 25))) (L2.defScope (C31.ztop 25)) 3 [] Value.none Value.none Value.none (Value.str (Str.ofString "codewalk.handlers") 871) Option.none (Value.ref 149) Value.none 0)) #[]
def ob109 : Obj := Obj.mk Value.none Option.none (Data.func (FuncData.mk (Str.ofString "reached_rows") (Str.ofString "reached_rows") (L2.defArgs (C31.ztop 26)) (FuncBody.stmts (L2.defBody (C31.ztop 26))) (L2.defScope (C31.ztop 26)) 0 [] Value.none Value.none Value.none Value.none Option.none Value.none Value.none 0)) #[]
def ob110 : Obj := Obj.mk (Value.type "code") Option.none (Data.fields #[Value.str (Str.ofString "reached_rows") 913, Value.str (Str.ofString "reached_rows") 914, Value.str (Str.ofString "/claim/cut.py") 915, Value.int 149 0, Value.int 2 0, Value.int 0 0, Value.int 0 0, Value.int 3 0, Value.ref 151, Value.bool Bool.true, Value.int 181 0, Value.ref 152, Value.none, Value.none, Value.none, Value.ref 153, Value.int 916 0, Value.int 149 0, Value.str (Str.ofString "/claim/cut.py") 917]) #[]
def ob111 : Obj := Obj.mk (Value.type "function") Option.none (Data.func (FuncData.mk (Str.ofString "reached_rows") (Str.ofString "reached_rows") (L2.defArgs (C31.ztop 26)) (FuncBody.stmts (L2.defBody (C31.ztop 26))) (L2.defScope (C31.ztop 26)) 3 [] Value.none Value.none Value.none (Value.str (Str.ofString "codewalk.handlers") 871) Option.none (Value.ref 154) Value.none 0)) #[]
def ob112 : Obj := Obj.mk (Value.type "tuple") Option.none (Data.seq #[Value.str (Str.ofString "rows") 922, Value.str (Str.ofString "told") 923, Value.str (Str.ofString "found") 924, Value.str (Str.ofString "unknown") 925, Value.str (Str.ofString "live") 926, Value.str (Str.ofString "word") 927, Value.str (Str.ofString "argument") 928, Value.str (Str.ofString "line") 929]) #[]
def ob113 : Obj := Obj.mk Value.none Option.none (Data.func (FuncData.mk (Str.ofString "reached_without") (Str.ofString "reached_without") (L2.defArgs (C31.ztop 27)) (FuncBody.stmts (L2.defBody (C31.ztop 27))) (L2.defScope (C31.ztop 27)) 0 [] Value.none Value.none Value.none Value.none Option.none Value.none Value.none 0)) #[]
def ob114 : Obj := Obj.mk (Value.type "code") Option.none (Data.fields #[Value.str (Str.ofString "reached_without") 919, Value.str (Str.ofString "reached_without") 920, Value.str (Str.ofString "/claim/cut.py") 921, Value.int 157 0, Value.int 2 0, Value.int 0 0, Value.int 0 0, Value.int 3 0, Value.ref 156, Value.bool Bool.true, Value.int 181 0, Value.ref 157, Value.none, Value.ref 158, Value.ref 159, Value.ref 160, Value.int 930 0, Value.int 157 0, Value.str (Str.ofString "/claim/cut.py") 931]) #[]
def ob115 : Obj := Obj.mk (Value.type "function") Option.none (Data.func (FuncData.mk (Str.ofString "reached_without") (Str.ofString "reached_without") (L2.defArgs (C31.ztop 27)) (FuncBody.stmts (L2.defBody (C31.ztop 27))) (L2.defScope (C31.ztop 27)) 3 [] Value.none Value.none Value.none (Value.str (Str.ofString "codewalk.handlers") 871) Option.none (Value.ref 161) Value.none 0)) #[]
def ob116 : Obj := Obj.mk (Value.type "tuple") Option.none (Data.seq #[Value.str (Str.ofString "rows") 936, Value.str (Str.ofString "told") 937, Value.str (Str.ofString "found") 938, Value.str (Str.ofString "unknown") 939, Value.str (Str.ofString "ahead") 940, Value.str (Str.ofString "live") 941, Value.str (Str.ofString "depth") 942, Value.str (Str.ofString "guards") 943, Value.str (Str.ofString "word") 944, Value.str (Str.ofString "argument") 945, Value.str (Str.ofString "line") 946, Value.str (Str.ofString "row") 947, Value.str (Str.ofString "handler") 948]) #[]
def ob117 : Obj := Obj.mk Value.none Option.none (Data.func (FuncData.mk (Str.ofString "reached_with") (Str.ofString "reached_with") (L2.defArgs (C31.ztop 28)) (FuncBody.stmts (L2.defBody (C31.ztop 28))) (L2.defScope (C31.ztop 28)) 0 [] Value.none Value.none Value.none Value.none Option.none Value.none Value.none 0)) #[]
def ob118 : Obj := Obj.mk (Value.type "code") Option.none (Data.fields #[Value.str (Str.ofString "reached_with") 933, Value.str (Str.ofString "reached_with") 934, Value.str (Str.ofString "/claim/cut.py") 935, Value.int 175 0, Value.int 2 0, Value.int 0 0, Value.int 0 0, Value.int 3 0, Value.ref 163, Value.bool Bool.true, Value.int 181 0, Value.ref 164, Value.none, Value.ref 165, Value.ref 166, Value.ref 167, Value.int 949 0, Value.int 175 0, Value.str (Str.ofString "/claim/cut.py") 950]) #[]
def ob119 : Obj := Obj.mk (Value.type "function") Option.none (Data.func (FuncData.mk (Str.ofString "reached_with") (Str.ofString "reached_with") (L2.defArgs (C31.ztop 28)) (FuncBody.stmts (L2.defBody (C31.ztop 28))) (L2.defScope (C31.ztop 28)) 3 [] Value.none Value.none Value.none (Value.str (Str.ofString "codewalk.handlers") 871) Option.none (Value.ref 168) Value.none 0)) #[]
def ob120 : Obj := Obj.mk (Value.type "tuple") Option.none (Data.seq #[Value.str (Str.ofString "row") 955, Value.str (Str.ofString "told") 956, Value.str (Str.ofString "depth") 957, Value.str (Str.ofString "guards") 958, Value.str (Str.ofString "word") 959, Value.str (Str.ofString "argument") 960, Value.str (Str.ofString "line") 961, Value.str (Str.ofString "around") 962, Value.str (Str.ofString "behind") 963, Value.str (Str.ofString "fewer") 964, Value.str (Str.ofString "wanted") 965]) #[]
def ob121 : Obj := Obj.mk Value.none Option.none (Data.func (FuncData.mk (Str.ofString "opened") (Str.ofString "opened") (L2.defArgs (C31.ztop 29)) (FuncBody.stmts (L2.defBody (C31.ztop 29))) (L2.defScope (C31.ztop 29)) 0 [] Value.none Value.none Value.none Value.none Option.none Value.none Value.none 0)) #[]
def ob122 : Obj := Obj.mk (Value.type "code") Option.none (Data.fields #[Value.str (Str.ofString "opened") 952, Value.str (Str.ofString "opened") 953, Value.str (Str.ofString "/claim/cut.py") 954, Value.int 204 0, Value.int 4 0, Value.int 0 0, Value.int 0 0, Value.int 3 0, Value.ref 170, Value.bool Bool.true, Value.int 181 0, Value.ref 171, Value.none, Value.ref 172, Value.ref 173, Value.ref 174, Value.int 966 0, Value.int 204 0, Value.str (Str.ofString "/claim/cut.py") 967]) #[]
def ob123 : Obj := Obj.mk (Value.type "function") Option.none (Data.func (FuncData.mk (Str.ofString "opened") (Str.ofString "opened") (L2.defArgs (C31.ztop 29)) (FuncBody.stmts (L2.defBody (C31.ztop 29))) (L2.defScope (C31.ztop 29)) 3 [] Value.none Value.none Value.none (Value.str (Str.ofString "codewalk.handlers") 871) Option.none (Value.ref 175) Value.none 0)) #[]
def ob124 : Obj := Obj.mk (Value.type "tuple") Option.none (Data.seq #[Value.str (Str.ofString "told") 972, Value.str (Str.ofString "guards") 973, Value.str (Str.ofString "handler") 974, Value.str (Str.ofString "outer") 975, Value.str (Str.ofString "_") 976]) #[]
def ob125 : Obj := Obj.mk Value.none Option.none (Data.func (FuncData.mk (Str.ofString "tell_handler") (Str.ofString "tell_handler") (L2.defArgs (C31.ztop 30)) (FuncBody.stmts (L2.defBody (C31.ztop 30))) (L2.defScope (C31.ztop 30)) 0 [] Value.none Value.none Value.none Value.none Option.none Value.none Value.none 0)) #[]
def ob126 : Obj := Obj.mk (Value.type "code") Option.none (Data.fields #[Value.str (Str.ofString "tell_handler") 969, Value.str (Str.ofString "tell_handler") 970, Value.str (Str.ofString "/claim/cut.py") 971, Value.int 215 0, Value.int 2 0, Value.int 0 0, Value.int 0 0, Value.int 3 0, Value.ref 177, Value.bool Bool.true, Value.int 181 0, Value.ref 178, Value.none, Value.ref 179, Value.ref 180, Value.ref 181, Value.int 977 0, Value.int 215 0, Value.str (Str.ofString "/claim/cut.py") 978]) #[]
def ob127 : Obj := Obj.mk (Value.type "function") Option.none (Data.func (FuncData.mk (Str.ofString "tell_handler") (Str.ofString "tell_handler") (L2.defArgs (C31.ztop 30)) (FuncBody.stmts (L2.defBody (C31.ztop 30))) (L2.defScope (C31.ztop 30)) 3 [] Value.none Value.none Value.none (Value.str (Str.ofString "codewalk.handlers") 871) Option.none (Value.ref 182) Value.none 0)) #[]
def ob128 : Obj := Obj.mk Value.none Option.none (Data.func (FuncData.mk (Str.ofString "words_in") (Str.ofString "words_in") (L2.defArgs (C31.ztop 32)) (FuncBody.stmts (L2.defBody (C31.ztop 32))) (L2.defScope (C31.ztop 32)) 0 [] Value.none Value.none Value.none Value.none Option.none Value.none Value.none 0)) #[]
def ob129 : Obj := Obj.mk (Value.type "code") Option.none (Data.fields #[Value.str (Str.ofString "words_in") 982, Value.str (Str.ofString "words_in") 983, Value.str (Str.ofString "/claim/cut.py") 984, Value.int 220 0, Value.int 1 0, Value.int 0 0, Value.int 0 0, Value.int 3 0, Value.ref 184, Value.bool Bool.true, Value.int 181 0, Value.ref 185, Value.none, Value.none, Value.none, Value.ref 186, Value.int 985 0, Value.int 220 0, Value.str (Str.ofString "/claim/cut.py") 986]) #[]
def ob130 : Obj := Obj.mk (Value.type "function") Option.none (Data.func (FuncData.mk (Str.ofString "words_in") (Str.ofString "words_in") (L2.defArgs (C31.ztop 32)) (FuncBody.stmts (L2.defBody (C31.ztop 32))) (L2.defScope (C31.ztop 32)) 3 [] Value.none Value.none Value.none (Value.str (Str.ofString "codewalk.ways") 980) Option.none (Value.ref 187) Value.none 0)) #[]
def ob131 : Obj := Obj.mk Value.none Option.none (Data.func (FuncData.mk (Str.ofString "places_of") (Str.ofString "places_of") (L2.defArgs (C31.ztop 33)) (FuncBody.stmts (L2.defBody (C31.ztop 33))) (L2.defScope (C31.ztop 57)) 0 [] Value.none Value.none Value.none Value.none Option.none Value.none Value.none 0)) #[]
def ob132 : Obj := Obj.mk (Value.type "code") Option.none (Data.fields #[Value.str (Str.ofString "places_of") 988, Value.str (Str.ofString "places_of") 989, Value.str (Str.ofString "/claim/cut.py") 990, Value.int 222 0, Value.int 1 0, Value.int 0 0, Value.int 0 0, Value.int 3 0, Value.ref 189, Value.bool Bool.true, Value.int 181 0, Value.ref 190, Value.none, Value.none, Value.none, Value.ref 191, Value.int 991 0, Value.int 222 0, Value.str (Str.ofString "/claim/cut.py") 992]) #[]
def ob133 : Obj := Obj.mk (Value.type "function") Option.none (Data.func (FuncData.mk (Str.ofString "places_of") (Str.ofString "places_of") (L2.defArgs (C31.ztop 33)) (FuncBody.stmts (L2.defBody (C31.ztop 33))) (L2.defScope (C31.ztop 57)) 3 [] Value.none Value.none Value.none (Value.str (Str.ofString "codewalk.ways") 980) Option.none (Value.ref 192) Value.none 0)) #[]
def ob134 : Obj := Obj.mk Value.none Option.none (Data.func (FuncData.mk (Str.ofString "reached") (Str.ofString "reached") (L2.defArgs (C31.ztop 34)) (FuncBody.stmts (L2.defBody (C31.ztop 34))) (L2.defScope (C31.ztop 34)) 0 [] Value.none Value.none Value.none Value.none Option.none Value.none Value.none 0)) #[]
def ob135 : Obj := Obj.mk (Value.type "code") Option.none (Data.fields #[Value.str (Str.ofString "reached") 994, Value.str (Str.ofString "reached") 995, Value.str (Str.ofString "/claim/cut.py") 996, Value.int 224 0, Value.int 3 0, Value.int 0 0, Value.int 0 0, Value.int 3 0, Value.ref 194, Value.bool Bool.true, Value.int 181 0, Value.ref 195, Value.none, Value.none, Value.none, Value.ref 196, Value.int 997 0, Value.int 224 0, Value.str (Str.ofString "/claim/cut.py") 998]) #[]
def ob136 : Obj := Obj.mk (Value.type "function") Option.none (Data.func (FuncData.mk (Str.ofString "reached") (Str.ofString "reached") (L2.defArgs (C31.ztop 34)) (FuncBody.stmts (L2.defBody (C31.ztop 34))) (L2.defScope (C31.ztop 34)) 3 [] Value.none Value.none Value.none (Value.str (Str.ofString "codewalk.ways") 980) Option.none (Value.ref 197) Value.none 0)) #[]
def ob137 : Obj := Obj.mk Value.none Option.none (Data.func (FuncData.mk (Str.ofString "without_unreached") (Str.ofString "without_unreached") (L2.defArgs (C31.ztop 35)) (FuncBody.stmts (L2.defBody (C31.ztop 35))) (L2.defScope (C31.ztop 35)) 0 [] Value.none Value.none Value.none Value.none Option.none Value.none Value.none 0)) #[]
def ob138 : Obj := Obj.mk (Value.type "code") Option.none (Data.fields #[Value.str (Str.ofString "without_unreached") 1000, Value.str (Str.ofString "without_unreached") 1001, Value.str (Str.ofString "/claim/cut.py") 1002, Value.int 246 0, Value.int 1 0, Value.int 0 0, Value.int 0 0, Value.int 3 0, Value.ref 199, Value.bool Bool.true, Value.int 181 0, Value.ref 200, Value.none, Value.none, Value.none, Value.ref 201, Value.int 1003 0, Value.int 246 0, Value.str (Str.ofString "/claim/cut.py") 1004]) #[]
def ob139 : Obj := Obj.mk (Value.type "function") Option.none (Data.func (FuncData.mk (Str.ofString "without_unreached") (Str.ofString "without_unreached") (L2.defArgs (C31.ztop 35)) (FuncBody.stmts (L2.defBody (C31.ztop 35))) (L2.defScope (C31.ztop 35)) 3 [] Value.none Value.none Value.none (Value.str (Str.ofString "codewalk.ways") 980) Option.none (Value.ref 202) Value.none 0)) #[]
def ob140 (P : Params) : Obj := Obj.mk (Value.type "dict") Option.none (Data.dict #[DictEntry.mk (PySem.PyData.keyHash P (Str.ofString "JUMP")) (Value.str (Str.ofString "JUMP") 1014) (Value.bool Bool.true), DictEntry.mk (PySem.PyData.keyHash P (Str.ofString "JUMP_NO_INTERRUPT")) (Value.str (Str.ofString "JUMP_NO_INTERRUPT") 1015) (Value.bool Bool.true)] 2) #[]
def ob141 (P : Params) : Obj := Obj.mk (Value.type "dict") Option.none (Data.dict #[DictEntry.mk (PySem.PyData.keyHash P (Str.ofString "JUMP")) (Value.str (Str.ofString "JUMP") 1019) (Value.bool Bool.true), DictEntry.mk (PySem.PyData.keyHash P (Str.ofString "JUMP_NO_INTERRUPT")) (Value.str (Str.ofString "JUMP_NO_INTERRUPT") 1020) (Value.bool Bool.true), DictEntry.mk (PySem.PyData.keyHash P (Str.ofString "POP_JUMP_IF_FALSE")) (Value.str (Str.ofString "POP_JUMP_IF_FALSE") 1021) (Value.bool Bool.true), DictEntry.mk (PySem.PyData.keyHash P (Str.ofString "POP_JUMP_IF_NONE")) (Value.str (Str.ofString "POP_JUMP_IF_NONE") 1022) (Value.bool Bool.true), DictEntry.mk (PySem.PyData.keyHash P (Str.ofString "POP_JUMP_IF_NOT_NONE")) (Value.str (Str.ofString "POP_JUMP_IF_NOT_NONE") 1023) (Value.bool Bool.true), DictEntry.mk (PySem.PyData.keyHash P (Str.ofString "POP_JUMP_IF_TRUE")) (Value.str (Str.ofString "POP_JUMP_IF_TRUE") 1024) (Value.bool Bool.true)] 6) #[]
def ob142 : Obj := Obj.mk (Value.type "tuple") Option.none (Data.seq #[Value.str (Str.ofString "rows") 1035, Value.str (Str.ofString "words") 1036, Value.str (Str.ofString "stale") 1037, Value.str (Str.ofString "_") 1038, Value.str (Str.ofString "met") 1039]) #[]
def ob143 : Obj := Obj.mk Value.none Option.none (Data.func (FuncData.mk (Str.ofString "rounds") (Str.ofString "rounds") (L2.defArgs (C31.ztop 42)) (FuncBody.stmts (L2.defBody (C31.ztop 42))) (L2.defScope (C31.ztop 42)) 0 [] Value.none Value.none Value.none Value.none Option.none Value.none Value.none 0)) #[]
def ob144 : Obj := Obj.mk (Value.type "code") Option.none (Data.fields #[Value.str (Str.ofString "rounds") 1032, Value.str (Str.ofString "rounds") 1033, Value.str (Str.ofString "/claim/cut.py") 1034, Value.int 256 0, Value.int 2 0, Value.int 0 0, Value.int 0 0, Value.int 3 0, Value.ref 206, Value.bool Bool.true, Value.int 181 0, Value.ref 207, Value.none, Value.ref 208, Value.ref 209, Value.ref 210, Value.int 1040 0, Value.int 256 0, Value.str (Str.ofString "/claim/cut.py") 1041]) #[]
def ob145 : Obj := Obj.mk (Value.type "function") Option.none (Data.func (FuncData.mk (Str.ofString "rounds") (Str.ofString "rounds") (L2.defArgs (C31.ztop 42)) (FuncBody.stmts (L2.defBody (C31.ztop 42))) (L2.defScope (C31.ztop 42)) 3 [] Value.none Value.none Value.none (Value.str (Str.ofString "codewalk.rounds") 1006) Option.none (Value.ref 211) Value.none 0)) #[]
def ob146 : Obj := Obj.mk (Value.type "tuple") Option.none (Data.seq #[Value.str (Str.ofString "rows") 1046, Value.str (Str.ofString "words") 1047, Value.str (Str.ofString "jumps") 1048, Value.str (Str.ofString "loose") 1049, Value.str (Str.ofString "met") 1050, Value.str (Str.ofString "changed") 1051, Value.str (Str.ofString "before") 1052, Value.str (Str.ofString "changes") 1053, Value.str (Str.ofString "unlike") 1054]) #[]
def ob147 : Obj := Obj.mk Value.none Option.none (Data.func (FuncData.mk (Str.ofString "rounds_with_labels") (Str.ofString "rounds_with_labels") (L2.defArgs (C31.ztop 43)) (FuncBody.stmts (L2.defBody (C31.ztop 43))) (L2.defScope (C31.ztop 43)) 0 [] Value.none Value.none Value.none Value.none Option.none Value.none Value.none 0)) #[]
def ob148 : Obj := Obj.mk (Value.type "code") Option.none (Data.fields #[Value.str (Str.ofString "rounds_with_labels") 1043, Value.str (Str.ofString "rounds_with_labels") 1044, Value.str (Str.ofString "/claim/cut.py") 1045, Value.int 264 0, Value.int 2 0, Value.int 0 0, Value.int 0 0, Value.int 3 0, Value.ref 213, Value.bool Bool.true, Value.int 181 0, Value.ref 214, Value.none, Value.ref 215, Value.ref 216, Value.ref 217, Value.int 1055 0, Value.int 264 0, Value.str (Str.ofString "/claim/cut.py") 1056]) #[]
def ob149 : Obj := Obj.mk (Value.type "function") Option.none (Data.func (FuncData.mk (Str.ofString "rounds_with_labels") (Str.ofString "rounds_with_labels") (L2.defArgs (C31.ztop 43)) (FuncBody.stmts (L2.defBody (C31.ztop 43))) (L2.defScope (C31.ztop 43)) 3 [] Value.none Value.none Value.none (Value.str (Str.ofString "codewalk.rounds") 1006) Option.none (Value.ref 218) Value.none 0)) #[]
def ob150 (P : Params) : Obj := Obj.mk (Value.type "dict") Option.none (Data.dict #[DictEntry.mk (PySem.PyData.keyHash P (Str.ofString "__name__")) (Value.str (Str.ofString "__name__") 165) (Value.str (Str.ofString "law_codewalk_k31_handlers_of_rows") 1498), DictEntry.mk (PySem.PyData.keyHash P (Str.ofString "__doc__")) (Value.str (Str.ofString "__doc__") 166) Value.none, DictEntry.mk (PySem.PyData.keyHash P (Str.ofString "__package__")) (Value.str (Str.ofString "__package__") 167) Value.none, DictEntry.mk (PySem.PyData.keyHash P (Str.ofString "__loader__")) (Value.str (Str.ofString "__loader__") 168) (Value.builtin "__main__.__loader__#opaque"), DictEntry.mk (PySem.PyData.keyHash P (Str.ofString "__spec__")) (Value.str (Str.ofString "__spec__") 169) Value.none, DictEntry.mk (PySem.PyData.keyHash P (Str.ofString "__annotations__")) (Value.str (Str.ofString "__annotations__") 170) (Value.ref 6), DictEntry.mk (PySem.PyData.keyHash P (Str.ofString "__builtins__")) (Value.str (Str.ofString "__builtins__") 171) (Value.ref 4), DictEntry.mk (PySem.PyData.keyHash P (Str.ofString "__file__")) (Value.str (Str.ofString "__file__") 173) (Value.str (Str.ofString "/claim/cut.py") 172), DictEntry.mk (PySem.PyData.keyHash P (Str.ofString "__cached__")) (Value.str (Str.ofString "__cached__") 174) Value.none, DictEntry.mk (PySem.PyData.keyHash P (Str.ofString "EFFECTS")) (Value.str (Str.ofString "EFFECTS") 470) (Value.ref 15), DictEntry.mk (PySem.PyData.keyHash P (Str.ofString "COUNTED_EFFECTS")) (Value.str (Str.ofString "COUNTED_EFFECTS") 519) (Value.ref 20), DictEntry.mk (PySem.PyData.keyHash P (Str.ofString "LEADING")) (Value.str (Str.ofString "LEADING") 542) (Value.ref 30), DictEntry.mk (PySem.PyData.keyHash P (Str.ofString "LEAVING")) (Value.str (Str.ofString "LEAVING") 561) (Value.ref 31), DictEntry.mk (PySem.PyData.keyHash P (Str.ofString "TURNING")) (Value.str (Str.ofString "TURNING") 594) (Value.ref 32), DictEntry.mk (PySem.PyData.keyHash P (Str.ofString "QUIET")) (Value.str (Str.ofString "QUIET") 689) (Value.ref 33), DictEntry.mk (PySem.PyData.keyHash P (Str.ofString "LOCAL")) (Value.str (Str.ofString "LOCAL") 716) (Value.ref 36), DictEntry.mk (PySem.PyData.keyHash P (Str.ofString "effect_of")) (Value.str (Str.ofString "effect_of") 726) (Value.ref 43), DictEntry.mk (PySem.PyData.keyHash P (Str.ofString "parameters_of")) (Value.str (Str.ofString "parameters_of") 740) (Value.ref 50), DictEntry.mk (PySem.PyData.keyHash P (Str.ofString "numbers_of")) (Value.str (Str.ofString "numbers_of") 746) (Value.ref 55), DictEntry.mk (PySem.PyData.keyHash P (Str.ofString "locals_in")) (Value.str (Str.ofString "locals_in") 752) (Value.ref 60), DictEntry.mk (PySem.PyData.keyHash P (Str.ofString "CHANGING")) (Value.str (Str.ofString "CHANGING") 763) (Value.ref 61), DictEntry.mk (PySem.PyData.keyHash P (Str.ofString "with_checks")) (Value.str (Str.ofString "with_checks") 779) (Value.ref 68), DictEntry.mk (PySem.PyData.keyHash P (Str.ofString "lacking_in_order")) (Value.str (Str.ofString "lacking_in_order") 785) (Value.ref 73), DictEntry.mk (PySem.PyData.keyHash P (Str.ofString "lacking_on_ways")) (Value.str (Str.ofString "lacking_on_ways") 791) (Value.ref 78), DictEntry.mk (PySem.PyData.keyHash P (Str.ofString "bits_of")) (Value.str (Str.ofString "bits_of") 797) (Value.ref 83), DictEntry.mk (PySem.PyData.keyHash P (Str.ofString "Bound")) (Value.str (Str.ofString "Bound") 870) (Value.ref 126), DictEntry.mk (PySem.PyData.keyHash P (Str.ofString "NOTHING_handlers")) (Value.str (Str.ofString "NOTHING_handlers") 874) (Value.ref 131), DictEntry.mk (PySem.PyData.keyHash P (Str.ofString "SETUPS")) (Value.str (Str.ofString "SETUPS") 884) (Value.ref 132), DictEntry.mk (PySem.PyData.keyHash P (Str.ofString "OPENING")) (Value.str (Str.ofString "OPENING") 893) (Value.ref 136), DictEntry.mk (PySem.PyData.keyHash P (Str.ofString "with_handlers")) (Value.str (Str.ofString "with_handlers") 901) (Value.ref 143), DictEntry.mk (PySem.PyData.keyHash P (Str.ofString "first_rows")) (Value.str (Str.ofString "first_rows") 912) (Value.ref 150), DictEntry.mk (PySem.PyData.keyHash P (Str.ofString "reached_rows")) (Value.str (Str.ofString "reached_rows") 918) (Value.ref 155), DictEntry.mk (PySem.PyData.keyHash P (Str.ofString "reached_without")) (Value.str (Str.ofString "reached_without") 932) (Value.ref 162), DictEntry.mk (PySem.PyData.keyHash P (Str.ofString "reached_with")) (Value.str (Str.ofString "reached_with") 951) (Value.ref 169), DictEntry.mk (PySem.PyData.keyHash P (Str.ofString "opened")) (Value.str (Str.ofString "opened") 968) (Value.ref 176), DictEntry.mk (PySem.PyData.keyHash P (Str.ofString "tell_handler")) (Value.str (Str.ofString "tell_handler") 979) (Value.ref 183), DictEntry.mk (PySem.PyData.keyHash P (Str.ofString "words_in")) (Value.str (Str.ofString "words_in") 987) (Value.ref 188), DictEntry.mk (PySem.PyData.keyHash P (Str.ofString "places_of")) (Value.str (Str.ofString "places_of") 993) (Value.ref 193), DictEntry.mk (PySem.PyData.keyHash P (Str.ofString "reached")) (Value.str (Str.ofString "reached") 999) (Value.ref 198), DictEntry.mk (PySem.PyData.keyHash P (Str.ofString "without_unreached")) (Value.str (Str.ofString "without_unreached") 1005) (Value.ref 203), DictEntry.mk (PySem.PyData.keyHash P (Str.ofString "NOTHING_rounds")) (Value.str (Str.ofString "NOTHING_rounds") 1009) (Value.int 0 1008), DictEntry.mk (PySem.PyData.keyHash P (Str.ofString "ROWS")) (Value.str (Str.ofString "ROWS") 1011) (Value.int 1 1010), DictEntry.mk (PySem.PyData.keyHash P (Str.ofString "WAYS")) (Value.str (Str.ofString "WAYS") 1013) (Value.int 2 1012), DictEntry.mk (PySem.PyData.keyHash P (Str.ofString "JUMPS")) (Value.str (Str.ofString "JUMPS") 1018) (Value.ref 204), DictEntry.mk (PySem.PyData.keyHash P (Str.ofString "THREADED")) (Value.str (Str.ofString "THREADED") 1031) (Value.ref 205), DictEntry.mk (PySem.PyData.keyHash P (Str.ofString "rounds")) (Value.str (Str.ofString "rounds") 1042) (Value.ref 212), DictEntry.mk (PySem.PyData.keyHash P (Str.ofString "rounds_with_labels")) (Value.str (Str.ofString "rounds_with_labels") 1057) (Value.ref 219), DictEntry.mk (PySem.PyData.keyHash P (Str.ofString "cleared")) (Value.str (Str.ofString "cleared") 1064) (Value.ref 226), DictEntry.mk (PySem.PyData.keyHash P (Str.ofString "only_telling")) (Value.str (Str.ofString "only_telling") 1073) (Value.ref 233), DictEntry.mk (PySem.PyData.keyHash P (Str.ofString "combine")) (Value.str (Str.ofString "combine") 1079) (Value.ref 238), DictEntry.mk (PySem.PyData.keyHash P (Str.ofString "blank")) (Value.str (Str.ofString "blank") 1090) (Value.ref 245), DictEntry.mk (PySem.PyData.keyHash P (Str.ofString "combine_truth")) (Value.str (Str.ofString "combine_truth") 1105) (Value.ref 252), DictEntry.mk (PySem.PyData.keyHash P (Str.ofString "combine_jump")) (Value.str (Str.ofString "combine_jump") 1118) (Value.ref 259), DictEntry.mk (PySem.PyData.keyHash P (Str.ofString "combine_none")) (Value.str (Str.ofString "combine_none") 1131) (Value.ref 266), DictEntry.mk (PySem.PyData.keyHash P (Str.ofString "combine_null")) (Value.str (Str.ofString "combine_null") 1143) (Value.ref 273), DictEntry.mk (PySem.PyData.keyHash P (Str.ofString "combine_return")) (Value.str (Str.ofString "combine_return") 1157) (Value.ref 280), DictEntry.mk (PySem.PyData.keyHash P (Str.ofString "RULES")) (Value.str (Str.ofString "RULES") 1170) (Value.ref 281), DictEntry.mk (PySem.PyData.keyHash P (Str.ofString "MEETING")) (Value.str (Str.ofString "MEETING") 1197) (Value.ref 282), DictEntry.mk (PySem.PyData.keyHash P (Str.ofString "BOOLS")) (Value.str (Str.ofString "BOOLS") 1208) (Value.ref 289), DictEntry.mk (PySem.PyData.keyHash P (Str.ofString "turn_jumps")) (Value.str (Str.ofString "turn_jumps") 1216) (Value.ref 296), DictEntry.mk (PySem.PyData.keyHash P (Str.ofString "jumps_in")) (Value.str (Str.ofString "jumps_in") 1222) (Value.ref 301), DictEntry.mk (PySem.PyData.keyHash P (Str.ofString "thread")) (Value.str (Str.ofString "thread") 1238) (Value.ref 308), DictEntry.mk (PySem.PyData.keyHash P (Str.ofString "onward_labels")) (Value.str (Str.ofString "onward_labels") 1252) (Value.ref 315), DictEntry.mk (PySem.PyData.keyHash P (Str.ofString "last_labels")) (Value.str (Str.ofString "last_labels") 1265) (Value.ref 322), DictEntry.mk (PySem.PyData.keyHash P (Str.ofString "drop_jumps")) (Value.str (Str.ofString "drop_jumps") 1275) (Value.ref 329), DictEntry.mk (PySem.PyData.keyHash P (Str.ofString "leads_on")) (Value.str (Str.ofString "leads_on") 1284) (Value.ref 336), DictEntry.mk (PySem.PyData.keyHash P (Str.ofString "without_nops")) (Value.str (Str.ofString "without_nops") 1299) (Value.ref 343), DictEntry.mk (PySem.PyData.keyHash P (Str.ofString "tells_line_ahead")) (Value.str (Str.ofString "tells_line_ahead") 1307) (Value.ref 350), DictEntry.mk (PySem.PyData.keyHash P (Str.ofString "may_meet")) (Value.str (Str.ofString "may_meet") 1315) (Value.ref 357), DictEntry.mk (PySem.PyData.keyHash P (Str.ofString "with_lines")) (Value.str (Str.ofString "with_lines") 1323) (Value.ref 362), DictEntry.mk (PySem.PyData.keyHash P (Str.ofString "with_lines_on_ways")) (Value.str (Str.ofString "with_lines_on_ways") 1338) (Value.ref 369), DictEntry.mk (PySem.PyData.keyHash P (Str.ofString "lines_along")) (Value.str (Str.ofString "lines_along") 1352) (Value.ref 376), DictEntry.mk (PySem.PyData.keyHash P (Str.ofString "sources_of")) (Value.str (Str.ofString "sources_of") 1366) (Value.ref 383), DictEntry.mk (PySem.PyData.keyHash P (Str.ofString "sources_at_labels")) (Value.str (Str.ofString "sources_at_labels") 1372) (Value.ref 388), DictEntry.mk (PySem.PyData.keyHash P (Str.ofString "leads_of")) (Value.str (Str.ofString "leads_of") 1382) (Value.ref 395), DictEntry.mk (PySem.PyData.keyHash P (Str.ofString "with_cold_last")) (Value.str (Str.ofString "with_cold_last") 1388) (Value.ref 400), DictEntry.mk (PySem.PyData.keyHash P (Str.ofString "moved_back")) (Value.str (Str.ofString "moved_back") 1405) (Value.ref 407), DictEntry.mk (PySem.PyData.keyHash P (Str.ofString "warm_rows")) (Value.str (Str.ofString "warm_rows") 1414) (Value.ref 414), DictEntry.mk (PySem.PyData.keyHash P (Str.ofString "MOST_IN_PAIRS")) (Value.str (Str.ofString "MOST_IN_PAIRS") 1418) (Value.int 16 1417), DictEntry.mk (PySem.PyData.keyHash P (Str.ofString "DIRECTIONS")) (Value.str (Str.ofString "DIRECTIONS") 1427) (Value.ref 415), DictEntry.mk (PySem.PyData.keyHash P (Str.ofString "OPPOSITES")) (Value.str (Str.ofString "OPPOSITES") 1440) (Value.ref 418), DictEntry.mk (PySem.PyData.keyHash P (Str.ofString "flowed")) (Value.str (Str.ofString "flowed") 1451) (Value.ref 426), DictEntry.mk (PySem.PyData.keyHash P (Str.ofString "with_pairs")) (Value.str (Str.ofString "with_pairs") 1468) (Value.ref 433), DictEntry.mk (PySem.PyData.keyHash P (Str.ofString "are_alike")) (Value.str (Str.ofString "are_alike") 1477) (Value.ref 440), DictEntry.mk (PySem.PyData.keyHash P (Str.ofString "with_directions")) (Value.str (Str.ofString "with_directions") 1497) (Value.ref 447), DictEntry.mk (PySem.PyData.keyHash P (Str.ofString "_law_source_of")) (Value.str (Str.ofString "_law_source_of") 1506) (Value.ref 454), DictEntry.mk (PySem.PyData.keyHash P (Str.ofString "_law_next")) (Value.str (Str.ofString "_law_next") 1517) (Value.ref 461), DictEntry.mk (PySem.PyData.keyHash P (Str.ofString "_law_one")) (Value.str (Str.ofString "_law_one") 1525) (Value.ref 468), DictEntry.mk (PySem.PyData.keyHash P (Str.ofString "_law_head")) (Value.str (Str.ofString "_law_head") 1532) (Value.ref 475), DictEntry.mk (PySem.PyData.keyHash P (Str.ofString "_law_line")) (Value.str (Str.ofString "_law_line") 1539) (Value.ref 482), DictEntry.mk (PySem.PyData.keyHash P (Str.ofString "_law_new")) (Value.str (Str.ofString "_law_new") 1546) (Value.ref 489), DictEntry.mk (PySem.PyData.keyHash P (Str.ofString "_law_handler")) (Value.str (Str.ofString "_law_handler") 1553) (Value.ref 496), DictEntry.mk (PySem.PyData.keyHash P (Str.ofString "_law_put")) (Value.str (Str.ofString "_law_put") 1564) (Value.ref 503), DictEntry.mk (PySem.PyData.keyHash P (Str.ofString "_law_label")) (Value.str (Str.ofString "_law_label") 1572) (Value.ref 510), DictEntry.mk (PySem.PyData.keyHash P (Str.ofString "_law_pops")) (Value.str (Str.ofString "_law_pops") 1581) (Value.ref 517), DictEntry.mk (PySem.PyData.keyHash P (Str.ofString "_law_plain")) (Value.str (Str.ofString "_law_plain") 1589) (Value.ref 524), DictEntry.mk (PySem.PyData.keyHash P (Str.ofString "_law_edge")) (Value.str (Str.ofString "_law_edge") 1599) (Value.ref 531), DictEntry.mk (PySem.PyData.keyHash P (Str.ofString "_law_guarded")) (Value.str (Str.ofString "_law_guarded") 1614) (Value.ref 538), DictEntry.mk (PySem.PyData.keyHash P (Str.ofString "_law_dead")) (Value.str (Str.ofString "_law_dead") 1623) (Value.ref 545), DictEntry.mk (PySem.PyData.keyHash P (Str.ofString "_law_body")) (Value.str (Str.ofString "_law_body") 1633) (Value.ref 552), DictEntry.mk (PySem.PyData.keyHash P (Str.ofString "law")) (Value.str (Str.ofString "law") 1643) (Value.ref 559)] 101) #[]
def ob151 : Obj := Obj.mk Value.none Option.none (Data.fields #[Value.int 9 0, Value.int 0 0, Value.ref 42, Value.int 17 0, Value.int 0 0, Value.ref 49, Value.int 25 0, Value.int 0 0, Value.ref 54, Value.int 33 0, Value.int 0 0, Value.ref 59, Value.int 43 0, Value.int 0 0, Value.ref 67, Value.int 54 0, Value.int 0 0, Value.ref 72, Value.int 69 0, Value.int 0 0, Value.ref 77, Value.int 79 0, Value.int 0 0, Value.ref 82, Value.int 90 0, Value.int 0 0, Value.ref 89, Value.int 136 0, Value.int 0 0, Value.ref 142, Value.int 142 0, Value.int 0 0, Value.ref 149, Value.int 149 0, Value.int 0 0, Value.ref 154, Value.int 157 0, Value.int 0 0, Value.ref 161, Value.int 175 0, Value.int 0 0, Value.ref 168, Value.int 204 0, Value.int 0 0, Value.ref 175, Value.int 215 0, Value.int 0 0, Value.ref 182, Value.int 220 0, Value.int 0 0, Value.ref 187, Value.int 222 0, Value.int 0 0, Value.ref 192, Value.int 224 0, Value.int 0 0, Value.ref 197, Value.int 246 0, Value.int 0 0, Value.ref 202, Value.int 256 0, Value.int 0 0, Value.ref 211, Value.int 264 0, Value.int 0 0, Value.ref 218, Value.int 282 0, Value.int 0 0, Value.ref 225, Value.int 285 0, Value.int 0 0, Value.ref 232, Value.int 288 0, Value.int 0 0, Value.ref 237, Value.int 295 0, Value.int 0 0, Value.ref 244, Value.int 298 0, Value.int 0 0, Value.ref 251, Value.int 312 0, Value.int 0 0, Value.ref 258, Value.int 320 0, Value.int 0 0, Value.ref 265, Value.int 331 0, Value.int 0 0, Value.ref 272, Value.int 338 0, Value.int 0 0, Value.ref 279, Value.int 349 0, Value.int 0 0, Value.ref 295, Value.int 352 0, Value.int 0 0, Value.ref 300, Value.int 354 0, Value.int 0 0, Value.ref 307, Value.int 365 0, Value.int 0 0, Value.ref 314, Value.int 374 0, Value.int 0 0, Value.ref 321, Value.int 386 0, Value.int 0 0, Value.ref 328, Value.int 393 0, Value.int 0 0, Value.ref 335, Value.int 401 0, Value.int 0 0, Value.ref 342, Value.int 424 0, Value.int 0 0, Value.ref 349, Value.int 426 0, Value.int 0 0, Value.ref 356, Value.int 429 0, Value.int 0 0, Value.ref 361, Value.int 438 0, Value.int 0 0, Value.ref 368, Value.int 444 0, Value.int 0 0, Value.ref 375, Value.int 456 0, Value.int 0 0, Value.ref 382, Value.int 471 0, Value.int 0 0, Value.ref 387, Value.int 482 0, Value.int 0 0, Value.ref 394, Value.int 488 0, Value.int 0 0, Value.ref 399, Value.int 494 0, Value.int 0 0, Value.ref 406, Value.int 509 0, Value.int 0 0, Value.ref 413, Value.int 519 0, Value.int 0 0, Value.ref 425, Value.int 532 0, Value.int 0 0, Value.ref 432, Value.int 547 0, Value.int 0 0, Value.ref 439, Value.int 552 0, Value.int 0 0, Value.ref 446, Value.int 583 0, Value.int 0 0, Value.ref 453, Value.int 586 0, Value.int 0 0, Value.ref 460, Value.int 598 0, Value.int 0 0, Value.ref 467, Value.int 600 0, Value.int 0 0, Value.ref 474, Value.int 602 0, Value.int 0 0, Value.ref 481, Value.int 605 0, Value.int 0 0, Value.ref 488, Value.int 608 0, Value.int 0 0, Value.ref 495, Value.int 610 0, Value.int 0 0, Value.ref 502, Value.int 614 0, Value.int 0 0, Value.ref 509, Value.int 617 0, Value.int 0 0, Value.ref 516, Value.int 620 0, Value.int 0 0, Value.ref 523, Value.int 628 0, Value.int 0 0, Value.ref 530, Value.int 633 0, Value.int 0 0, Value.ref 537, Value.int 656 0, Value.int 0 0, Value.ref 544, Value.int 662 0, Value.int 0 0, Value.ref 551, Value.int 677 0, Value.int 0 0, Value.ref 558]) #[]
def ob152 : Obj := Obj.mk (Value.type "tuple") Option.none (Data.seq #[Value.str (Str.ofString "rows") 1061]) #[]
def ob153 : Obj := Obj.mk Value.none Option.none (Data.func (FuncData.mk (Str.ofString "cleared") (Str.ofString "cleared") (L2.defArgs (C31.ztop 44)) (FuncBody.stmts (L2.defBody (C31.ztop 44))) (L2.defScope (C31.ztop 44)) 0 [] Value.none Value.none Value.none Value.none Option.none Value.none Value.none 0)) #[]
def ob154 : Obj := Obj.mk (Value.type "code") Option.none (Data.fields #[Value.str (Str.ofString "cleared") 1058, Value.str (Str.ofString "cleared") 1059, Value.str (Str.ofString "/claim/cut.py") 1060, Value.int 282 0, Value.int 1 0, Value.int 0 0, Value.int 0 0, Value.int 3 0, Value.ref 220, Value.bool Bool.true, Value.int 181 0, Value.ref 221, Value.none, Value.ref 222, Value.ref 223, Value.ref 224, Value.int 1062 0, Value.int 282 0, Value.str (Str.ofString "/claim/cut.py") 1063]) #[]
def ob155 : Obj := Obj.mk (Value.type "function") Option.none (Data.func (FuncData.mk (Str.ofString "cleared") (Str.ofString "cleared") (L2.defArgs (C31.ztop 44)) (FuncBody.stmts (L2.defBody (C31.ztop 44))) (L2.defScope (C31.ztop 44)) 3 [] Value.none Value.none Value.none (Value.str (Str.ofString "codewalk.rounds") 1006) Option.none (Value.ref 225) Value.none 0)) #[]
def ob156 : Obj := Obj.mk (Value.type "tuple") Option.none (Data.seq #[Value.str (Str.ofString "rows") 1068, Value.str (Str.ofString "found") 1069, Value.str (Str.ofString "_") 1070]) #[]
def ob157 : Obj := Obj.mk Value.none Option.none (Data.func (FuncData.mk (Str.ofString "only_telling") (Str.ofString "only_telling") (L2.defArgs (C31.ztop 45)) (FuncBody.stmts (L2.defBody (C31.ztop 45))) (L2.defScope (C31.ztop 45)) 0 [] Value.none Value.none Value.none Value.none Option.none Value.none Value.none 0)) #[]
def ob158 : Obj := Obj.mk (Value.type "code") Option.none (Data.fields #[Value.str (Str.ofString "only_telling") 1065, Value.str (Str.ofString "only_telling") 1066, Value.str (Str.ofString "/claim/cut.py") 1067, Value.int 285 0, Value.int 1 0, Value.int 0 0, Value.int 0 0, Value.int 3 0, Value.ref 227, Value.bool Bool.true, Value.int 181 0, Value.ref 228, Value.none, Value.ref 229, Value.ref 230, Value.ref 231, Value.int 1071 0, Value.int 285 0, Value.str (Str.ofString "/claim/cut.py") 1072]) #[]
def ob159 : Obj := Obj.mk (Value.type "function") Option.none (Data.func (FuncData.mk (Str.ofString "only_telling") (Str.ofString "only_telling") (L2.defArgs (C31.ztop 45)) (FuncBody.stmts (L2.defBody (C31.ztop 45))) (L2.defScope (C31.ztop 45)) 3 [] Value.none Value.none Value.none (Value.str (Str.ofString "codewalk.rounds") 1006) Option.none (Value.ref 232) Value.none 0)) #[]
def ob160 : Obj := Obj.mk Value.none Option.none (Data.func (FuncData.mk (Str.ofString "combine") (Str.ofString "combine") (L2.defArgs (C31.ztop 46)) (FuncBody.stmts (L2.defBody (C31.ztop 46))) (L2.defScope (C31.ztop 46)) 0 [] Value.none Value.none Value.none Value.none Option.none Value.none Value.none 0)) #[]
def ob161 : Obj := Obj.mk (Value.type "code") Option.none (Data.fields #[Value.str (Str.ofString "combine") 1074, Value.str (Str.ofString "combine") 1075, Value.str (Str.ofString "/claim/cut.py") 1076, Value.int 288 0, Value.int 1 0, Value.int 0 0, Value.int 0 0, Value.int 3 0, Value.ref 234, Value.bool Bool.true, Value.int 181 0, Value.ref 235, Value.none, Value.none, Value.none, Value.ref 236, Value.int 1077 0, Value.int 288 0, Value.str (Str.ofString "/claim/cut.py") 1078]) #[]
def ob162 : Obj := Obj.mk (Value.type "function") Option.none (Data.func (FuncData.mk (Str.ofString "combine") (Str.ofString "combine") (L2.defArgs (C31.ztop 46)) (FuncBody.stmts (L2.defBody (C31.ztop 46))) (L2.defScope (C31.ztop 46)) 3 [] Value.none Value.none Value.none (Value.str (Str.ofString "codewalk.rounds") 1006) Option.none (Value.ref 237) Value.none 0)) #[]
def ob163 : Obj := Obj.mk (Value.type "tuple") Option.none (Data.seq #[Value.str (Str.ofString "rows") 1083, Value.str (Str.ofString "at") 1084, Value.str (Str.ofString "_") 1085, Value.str (Str.ofString "line") 1086, Value.str (Str.ofString "handler") 1087]) #[]
def ob164 : Obj := Obj.mk Value.none Option.none (Data.func (FuncData.mk (Str.ofString "blank") (Str.ofString "blank") (L2.defArgs (C31.ztop 47)) (FuncBody.stmts (L2.defBody (C31.ztop 47))) (L2.defScope (C31.ztop 47)) 0 [] Value.none Value.none Value.none Value.none Option.none Value.none Value.none 0)) #[]
def ob165 : Obj := Obj.mk (Value.type "code") Option.none (Data.fields #[Value.str (Str.ofString "blank") 1080, Value.str (Str.ofString "blank") 1081, Value.str (Str.ofString "/claim/cut.py") 1082, Value.int 295 0, Value.int 2 0, Value.int 0 0, Value.int 0 0, Value.int 3 0, Value.ref 239, Value.bool Bool.true, Value.int 181 0, Value.ref 240, Value.none, Value.ref 241, Value.ref 242, Value.ref 243, Value.int 1088 0, Value.int 295 0, Value.str (Str.ofString "/claim/cut.py") 1089]) #[]
def ob166 : Obj := Obj.mk (Value.type "function") Option.none (Data.func (FuncData.mk (Str.ofString "blank") (Str.ofString "blank") (L2.defArgs (C31.ztop 47)) (FuncBody.stmts (L2.defBody (C31.ztop 47))) (L2.defScope (C31.ztop 47)) 3 [] Value.none Value.none Value.none (Value.str (Str.ofString "codewalk.rounds") 1006) Option.none (Value.ref 244) Value.none 0)) #[]
def ob167 : Obj := Obj.mk (Value.type "tuple") Option.none (Data.seq #[Value.str (Str.ofString "rows") 1094, Value.str (Str.ofString "at") 1095, Value.str (Str.ofString "word") 1096, Value.str (Str.ofString "argument") 1097, Value.str (Str.ofString "line") 1098, Value.str (Str.ofString "handler") 1099, Value.str (Str.ofString "_") 1100, Value.str (Str.ofString "told") 1101, Value.str (Str.ofString "guard") 1102]) #[]
def ob168 : Obj := Obj.mk Value.none Option.none (Data.func (FuncData.mk (Str.ofString "combine_truth") (Str.ofString "combine_truth") (L2.defArgs (C31.ztop 48)) (FuncBody.stmts (L2.defBody (C31.ztop 48))) (L2.defScope (C31.ztop 48)) 0 [] Value.none Value.none Value.none Value.none Option.none Value.none Value.none 0)) #[]
def ob169 : Obj := Obj.mk (Value.type "code") Option.none (Data.fields #[Value.str (Str.ofString "combine_truth") 1091, Value.str (Str.ofString "combine_truth") 1092, Value.str (Str.ofString "/claim/cut.py") 1093, Value.int 298 0, Value.int 2 0, Value.int 0 0, Value.int 0 0, Value.int 3 0, Value.ref 246, Value.bool Bool.true, Value.int 181 0, Value.ref 247, Value.none, Value.ref 248, Value.ref 249, Value.ref 250, Value.int 1103 0, Value.int 298 0, Value.str (Str.ofString "/claim/cut.py") 1104]) #[]
def ob170 : Obj := Obj.mk (Value.type "function") Option.none (Data.func (FuncData.mk (Str.ofString "combine_truth") (Str.ofString "combine_truth") (L2.defArgs (C31.ztop 48)) (FuncBody.stmts (L2.defBody (C31.ztop 48))) (L2.defScope (C31.ztop 48)) 3 [] Value.none Value.none Value.none (Value.str (Str.ofString "codewalk.rounds") 1006) Option.none (Value.ref 251) Value.none 0)) #[]
def ob171 : Obj := Obj.mk (Value.type "tuple") Option.none (Data.seq #[Value.str (Str.ofString "rows") 1109, Value.str (Str.ofString "at") 1110, Value.str (Str.ofString "word") 1111, Value.str (Str.ofString "argument") 1112, Value.str (Str.ofString "line") 1113, Value.str (Str.ofString "handler") 1114, Value.str (Str.ofString "jumps") 1115]) #[]
def ob172 : Obj := Obj.mk Value.none Option.none (Data.func (FuncData.mk (Str.ofString "combine_jump") (Str.ofString "combine_jump") (L2.defArgs (C31.ztop 49)) (FuncBody.stmts (L2.defBody (C31.ztop 49))) (L2.defScope (C31.ztop 49)) 0 [] Value.none Value.none Value.none Value.none Option.none Value.none Value.none 0)) #[]
def ob173 : Obj := Obj.mk (Value.type "code") Option.none (Data.fields #[Value.str (Str.ofString "combine_jump") 1106, Value.str (Str.ofString "combine_jump") 1107, Value.str (Str.ofString "/claim/cut.py") 1108, Value.int 312 0, Value.int 2 0, Value.int 0 0, Value.int 0 0, Value.int 3 0, Value.ref 253, Value.bool Bool.true, Value.int 181 0, Value.ref 254, Value.none, Value.ref 255, Value.ref 256, Value.ref 257, Value.int 1116 0, Value.int 312 0, Value.str (Str.ofString "/claim/cut.py") 1117]) #[]
def ob174 : Obj := Obj.mk (Value.type "function") Option.none (Data.func (FuncData.mk (Str.ofString "combine_jump") (Str.ofString "combine_jump") (L2.defArgs (C31.ztop 49)) (FuncBody.stmts (L2.defBody (C31.ztop 49))) (L2.defScope (C31.ztop 49)) 3 [] Value.none Value.none Value.none (Value.str (Str.ofString "codewalk.rounds") 1006) Option.none (Value.ref 258) Value.none 0)) #[]
def ob175 : Obj := Obj.mk (Value.type "tuple") Option.none (Data.seq #[Value.str (Str.ofString "rows") 1122, Value.str (Str.ofString "at") 1123, Value.str (Str.ofString "word") 1124, Value.str (Str.ofString "label") 1125, Value.str (Str.ofString "line") 1126, Value.str (Str.ofString "handler") 1127, Value.str (Str.ofString "jumps") 1128]) #[]
def ob176 : Obj := Obj.mk Value.none Option.none (Data.func (FuncData.mk (Str.ofString "combine_none") (Str.ofString "combine_none") (L2.defArgs (C31.ztop 50)) (FuncBody.stmts (L2.defBody (C31.ztop 50))) (L2.defScope (C31.ztop 50)) 0 [] Value.none Value.none Value.none Value.none Option.none Value.none Value.none 0)) #[]
def ob177 : Obj := Obj.mk (Value.type "code") Option.none (Data.fields #[Value.str (Str.ofString "combine_none") 1119, Value.str (Str.ofString "combine_none") 1120, Value.str (Str.ofString "/claim/cut.py") 1121, Value.int 320 0, Value.int 2 0, Value.int 0 0, Value.int 0 0, Value.int 3 0, Value.ref 260, Value.bool Bool.true, Value.int 181 0, Value.ref 261, Value.none, Value.ref 262, Value.ref 263, Value.ref 264, Value.int 1129 0, Value.int 320 0, Value.str (Str.ofString "/claim/cut.py") 1130]) #[]
def ob178 : Obj := Obj.mk (Value.type "function") Option.none (Data.func (FuncData.mk (Str.ofString "combine_none") (Str.ofString "combine_none") (L2.defArgs (C31.ztop 50)) (FuncBody.stmts (L2.defBody (C31.ztop 50))) (L2.defScope (C31.ztop 50)) 3 [] Value.none Value.none Value.none (Value.str (Str.ofString "codewalk.rounds") 1006) Option.none (Value.ref 265) Value.none 0)) #[]
def ob179 : Obj := Obj.mk (Value.type "tuple") Option.none (Data.seq #[Value.str (Str.ofString "rows") 1135, Value.str (Str.ofString "at") 1136, Value.str (Str.ofString "word") 1137, Value.str (Str.ofString "argument") 1138, Value.str (Str.ofString "line") 1139, Value.str (Str.ofString "handler") 1140]) #[]
def ob180 : Obj := Obj.mk Value.none Option.none (Data.func (FuncData.mk (Str.ofString "combine_null") (Str.ofString "combine_null") (L2.defArgs (C31.ztop 51)) (FuncBody.stmts (L2.defBody (C31.ztop 51))) (L2.defScope (C31.ztop 51)) 0 [] Value.none Value.none Value.none Value.none Option.none Value.none Value.none 0)) #[]
def ob181 : Obj := Obj.mk (Value.type "code") Option.none (Data.fields #[Value.str (Str.ofString "combine_null") 1132, Value.str (Str.ofString "combine_null") 1133, Value.str (Str.ofString "/claim/cut.py") 1134, Value.int 331 0, Value.int 2 0, Value.int 0 0, Value.int 0 0, Value.int 3 0, Value.ref 267, Value.bool Bool.true, Value.int 181 0, Value.ref 268, Value.none, Value.ref 269, Value.ref 270, Value.ref 271, Value.int 1141 0, Value.int 331 0, Value.str (Str.ofString "/claim/cut.py") 1142]) #[]
def ob182 : Obj := Obj.mk (Value.type "function") Option.none (Data.func (FuncData.mk (Str.ofString "combine_null") (Str.ofString "combine_null") (L2.defArgs (C31.ztop 51)) (FuncBody.stmts (L2.defBody (C31.ztop 51))) (L2.defScope (C31.ztop 51)) 3 [] Value.none Value.none Value.none (Value.str (Str.ofString "codewalk.rounds") 1006) Option.none (Value.ref 272) Value.none 0)) #[]
def ob183 : Obj := Obj.mk (Value.type "tuple") Option.none (Data.seq #[Value.str (Str.ofString "rows") 1147, Value.str (Str.ofString "at") 1148, Value.str (Str.ofString "word") 1149, Value.str (Str.ofString "constant") 1150, Value.str (Str.ofString "first") 1151, Value.str (Str.ofString "_") 1152, Value.str (Str.ofString "line") 1153, Value.str (Str.ofString "handler") 1154]) #[]
def ob184 : Obj := Obj.mk Value.none Option.none (Data.func (FuncData.mk (Str.ofString "combine_return") (Str.ofString "combine_return") (L2.defArgs (C31.ztop 52)) (FuncBody.stmts (L2.defBody (C31.ztop 52))) (L2.defScope (C31.ztop 52)) 0 [] Value.none Value.none Value.none Value.none Option.none Value.none Value.none 0)) #[]
def ob185 : Obj := Obj.mk (Value.type "code") Option.none (Data.fields #[Value.str (Str.ofString "combine_return") 1144, Value.str (Str.ofString "combine_return") 1145, Value.str (Str.ofString "/claim/cut.py") 1146, Value.int 338 0, Value.int 2 0, Value.int 0 0, Value.int 0 0, Value.int 3 0, Value.ref 274, Value.bool Bool.true, Value.int 181 0, Value.ref 275, Value.none, Value.ref 276, Value.ref 277, Value.ref 278, Value.int 1155 0, Value.int 338 0, Value.str (Str.ofString "/claim/cut.py") 1156]) #[]
def ob186 : Obj := Obj.mk (Value.type "function") Option.none (Data.func (FuncData.mk (Str.ofString "combine_return") (Str.ofString "combine_return") (L2.defArgs (C31.ztop 52)) (FuncBody.stmts (L2.defBody (C31.ztop 52))) (L2.defScope (C31.ztop 52)) 3 [] Value.none Value.none Value.none (Value.str (Str.ofString "codewalk.rounds") 1006) Option.none (Value.ref 279) Value.none 0)) #[]
def ob187 (P : Params) : Obj := Obj.mk (Value.type "dict") Option.none (Data.dict #[DictEntry.mk (PySem.PyData.keyHash P (Str.ofString "TO_BOOL")) (Value.str (Str.ofString "TO_BOOL") 1158) (Value.ref 252), DictEntry.mk (PySem.PyData.keyHash P (Str.ofString "POP_JUMP_IF_FALSE")) (Value.str (Str.ofString "POP_JUMP_IF_FALSE") 1159) (Value.ref 259), DictEntry.mk (PySem.PyData.keyHash P (Str.ofString "POP_JUMP_IF_TRUE")) (Value.str (Str.ofString "POP_JUMP_IF_TRUE") 1160) (Value.ref 259), DictEntry.mk (PySem.PyData.keyHash P (Str.ofString "IS_OP")) (Value.str (Str.ofString "IS_OP") 1161) (Value.ref 266), DictEntry.mk (PySem.PyData.keyHash P (Str.ofString "PUSH_NULL")) (Value.str (Str.ofString "PUSH_NULL") 1162) (Value.ref 273), DictEntry.mk (PySem.PyData.keyHash P (Str.ofString "RETURN_VALUE")) (Value.str (Str.ofString "RETURN_VALUE") 1163) (Value.ref 280)] 6) #[]
def ob188 (P : Params) : Obj := Obj.mk (Value.type "dict") Option.none (Data.dict #[DictEntry.mk (PySem.PyData.keyHash P (Str.ofString "TO_BOOL")) (Value.str (Str.ofString "TO_BOOL") 1171) (Value.ref 283), DictEntry.mk (PySem.PyData.keyHash P (Str.ofString "POP_JUMP_IF_FALSE")) (Value.str (Str.ofString "POP_JUMP_IF_FALSE") 1179) (Value.ref 284), DictEntry.mk (PySem.PyData.keyHash P (Str.ofString "POP_JUMP_IF_TRUE")) (Value.str (Str.ofString "POP_JUMP_IF_TRUE") 1182) (Value.ref 285), DictEntry.mk (PySem.PyData.keyHash P (Str.ofString "IS_OP")) (Value.str (Str.ofString "IS_OP") 1185) (Value.ref 286), DictEntry.mk (PySem.PyData.keyHash P (Str.ofString "PUSH_NULL")) (Value.str (Str.ofString "PUSH_NULL") 1187) (Value.ref 287), DictEntry.mk (PySem.PyData.keyHash P (Str.ofString "RETURN_VALUE")) (Value.str (Str.ofString "RETURN_VALUE") 1189) (Value.ref 288)] 6) #[]
def ob189 : Obj := Obj.mk (Value.type "tuple") Option.none (Data.seq #[Value.str (Str.ofString "LOAD_CONST") 1172, Value.str (Str.ofString "COMPARE_OP") 1173, Value.str (Str.ofString "CHECK_EXC_MATCH") 1174, Value.str (Str.ofString "CONTAINS_OP") 1175, Value.str (Str.ofString "IS_OP") 1176, Value.str (Str.ofString "TO_BOOL") 1177, Value.str (Str.ofString "UNARY_NOT") 1178]) #[]
def ob190 : Obj := Obj.mk (Value.type "tuple") Option.none (Data.seq #[Value.str (Str.ofString "LOAD_CONST") 1180, Value.str (Str.ofString "IS_OP") 1181]) #[]
def ob191 : Obj := Obj.mk (Value.type "tuple") Option.none (Data.seq #[Value.str (Str.ofString "LOAD_CONST") 1183, Value.str (Str.ofString "IS_OP") 1184]) #[]
def ob192 : Obj := Obj.mk (Value.type "tuple") Option.none (Data.seq #[Value.str (Str.ofString "LOAD_CONST") 1186]) #[]
def ob193 : Obj := Obj.mk (Value.type "tuple") Option.none (Data.seq #[Value.str (Str.ofString "LOAD_GLOBAL") 1188]) #[]
def ob194 : Obj := Obj.mk (Value.type "tuple") Option.none (Data.seq #[Value.str (Str.ofString "LOAD_CONST") 1190]) #[]
def ob195 (P : Params) : Obj := Obj.mk (Value.type "dict") Option.none (Data.dict #[DictEntry.mk (PySem.PyData.keyHash P (Str.ofString "CHECK_EXC_MATCH")) (Value.str (Str.ofString "CHECK_EXC_MATCH") 1198) (Value.bool Bool.true), DictEntry.mk (PySem.PyData.keyHash P (Str.ofString "CONTAINS_OP")) (Value.str (Str.ofString "CONTAINS_OP") 1199) (Value.bool Bool.true), DictEntry.mk (PySem.PyData.keyHash P (Str.ofString "IS_OP")) (Value.str (Str.ofString "IS_OP") 1200) (Value.bool Bool.true), DictEntry.mk (PySem.PyData.keyHash P (Str.ofString "TO_BOOL")) (Value.str (Str.ofString "TO_BOOL") 1201) (Value.bool Bool.true), DictEntry.mk (PySem.PyData.keyHash P (Str.ofString "UNARY_NOT")) (Value.str (Str.ofString "UNARY_NOT") 1202) (Value.bool Bool.true)] 5) #[]
def ob196 : Obj := Obj.mk (Value.type "tuple") Option.none (Data.seq #[Value.str (Str.ofString "rows") 1212, Value.str (Str.ofString "jumps") 1213]) #[]
def ob197 : Obj := Obj.mk Value.none Option.none (Data.func (FuncData.mk (Str.ofString "turn_jumps") (Str.ofString "turn_jumps") (L2.defArgs (C31.ztop 56)) (FuncBody.stmts (L2.defBody (C31.ztop 56))) (L2.defScope (C31.ztop 56)) 0 [] Value.none Value.none Value.none Value.none Option.none Value.none Value.none 0)) #[]
def ob198 : Obj := Obj.mk (Value.type "code") Option.none (Data.fields #[Value.str (Str.ofString "turn_jumps") 1209, Value.str (Str.ofString "turn_jumps") 1210, Value.str (Str.ofString "/claim/cut.py") 1211, Value.int 349 0, Value.int 1 0, Value.int 0 0, Value.int 0 0, Value.int 3 0, Value.ref 290, Value.bool Bool.true, Value.int 181 0, Value.ref 291, Value.none, Value.ref 292, Value.ref 293, Value.ref 294, Value.int 1214 0, Value.int 349 0, Value.str (Str.ofString "/claim/cut.py") 1215]) #[]
def ob199 : Obj := Obj.mk (Value.type "function") Option.none (Data.func (FuncData.mk (Str.ofString "turn_jumps") (Str.ofString "turn_jumps") (L2.defArgs (C31.ztop 56)) (FuncBody.stmts (L2.defBody (C31.ztop 56))) (L2.defScope (C31.ztop 56)) 3 [] Value.none Value.none Value.none (Value.str (Str.ofString "codewalk.rounds") 1006) Option.none (Value.ref 295) Value.none 0)) #[]
def ob200 : Obj := Obj.mk Value.none Option.none (Data.func (FuncData.mk (Str.ofString "jumps_in") (Str.ofString "jumps_in") (L2.defArgs (C31.ztop 57)) (FuncBody.stmts (L2.defBody (C31.ztop 57))) (L2.defScope (C31.ztop 57)) 0 [] Value.none Value.none Value.none Value.none Option.none Value.none Value.none 0)) #[]
def ob201 : Obj := Obj.mk (Value.type "code") Option.none (Data.fields #[Value.str (Str.ofString "jumps_in") 1217, Value.str (Str.ofString "jumps_in") 1218, Value.str (Str.ofString "/claim/cut.py") 1219, Value.int 352 0, Value.int 1 0, Value.int 0 0, Value.int 0 0, Value.int 3 0, Value.ref 297, Value.bool Bool.true, Value.int 181 0, Value.ref 298, Value.none, Value.none, Value.none, Value.ref 299, Value.int 1220 0, Value.int 352 0, Value.str (Str.ofString "/claim/cut.py") 1221]) #[]
def ob202 : Obj := Obj.mk (Value.type "function") Option.none (Data.func (FuncData.mk (Str.ofString "jumps_in") (Str.ofString "jumps_in") (L2.defArgs (C31.ztop 57)) (FuncBody.stmts (L2.defBody (C31.ztop 57))) (L2.defScope (C31.ztop 57)) 3 [] Value.none Value.none Value.none (Value.str (Str.ofString "codewalk.rounds") 1006) Option.none (Value.ref 300) Value.none 0)) #[]
def ob203 : Obj := Obj.mk (Value.type "tuple") Option.none (Data.seq #[Value.str (Str.ofString "rows") 1226, Value.str (Str.ofString "jumps") 1227, Value.str (Str.ofString "onward") 1228, Value.str (Str.ofString "changes") 1229, Value.str (Str.ofString "at") 1230, Value.str (Str.ofString "row") 1231, Value.str (Str.ofString "word") 1232, Value.str (Str.ofString "label") 1233, Value.str (Str.ofString "line") 1234, Value.str (Str.ofString "handler") 1235]) #[]
def ob204 : Obj := Obj.mk Value.none Option.none (Data.func (FuncData.mk (Str.ofString "thread") (Str.ofString "thread") (L2.defArgs (C31.ztop 58)) (FuncBody.stmts (L2.defBody (C31.ztop 58))) (L2.defScope (C31.ztop 58)) 0 [] Value.none Value.none Value.none Value.none Option.none Value.none Value.none 0)) #[]
def ob205 : Obj := Obj.mk (Value.type "code") Option.none (Data.fields #[Value.str (Str.ofString "thread") 1223, Value.str (Str.ofString "thread") 1224, Value.str (Str.ofString "/claim/cut.py") 1225, Value.int 354 0, Value.int 2 0, Value.int 0 0, Value.int 0 0, Value.int 3 0, Value.ref 302, Value.bool Bool.true, Value.int 181 0, Value.ref 303, Value.none, Value.ref 304, Value.ref 305, Value.ref 306, Value.int 1236 0, Value.int 354 0, Value.str (Str.ofString "/claim/cut.py") 1237]) #[]
def ob206 : Obj := Obj.mk (Value.type "function") Option.none (Data.func (FuncData.mk (Str.ofString "thread") (Str.ofString "thread") (L2.defArgs (C31.ztop 58)) (FuncBody.stmts (L2.defBody (C31.ztop 58))) (L2.defScope (C31.ztop 58)) 3 [] Value.none Value.none Value.none (Value.str (Str.ofString "codewalk.rounds") 1006) Option.none (Value.ref 307) Value.none 0)) #[]
def ob207 : Obj := Obj.mk (Value.type "tuple") Option.none (Data.seq #[Value.str (Str.ofString "rows") 1242, Value.str (Str.ofString "jumps") 1243, Value.str (Str.ofString "onward") 1244, Value.str (Str.ofString "at") 1245, Value.str (Str.ofString "word") 1246, Value.str (Str.ofString "leads") 1247, Value.str (Str.ofString "line") 1248, Value.str (Str.ofString "_") 1249]) #[]
def ob208 : Obj := Obj.mk Value.none Option.none (Data.func (FuncData.mk (Str.ofString "onward_labels") (Str.ofString "onward_labels") (L2.defArgs (C31.ztop 59)) (FuncBody.stmts (L2.defBody (C31.ztop 59))) (L2.defScope (C31.ztop 59)) 0 [] Value.none Value.none Value.none Value.none Option.none Value.none Value.none 0)) #[]
def ob209 : Obj := Obj.mk (Value.type "code") Option.none (Data.fields #[Value.str (Str.ofString "onward_labels") 1239, Value.str (Str.ofString "onward_labels") 1240, Value.str (Str.ofString "/claim/cut.py") 1241, Value.int 365 0, Value.int 2 0, Value.int 0 0, Value.int 0 0, Value.int 3 0, Value.ref 309, Value.bool Bool.true, Value.int 181 0, Value.ref 310, Value.none, Value.ref 311, Value.ref 312, Value.ref 313, Value.int 1250 0, Value.int 365 0, Value.str (Str.ofString "/claim/cut.py") 1251]) #[]
def ob210 : Obj := Obj.mk (Value.type "function") Option.none (Data.func (FuncData.mk (Str.ofString "onward_labels") (Str.ofString "onward_labels") (L2.defArgs (C31.ztop 59)) (FuncBody.stmts (L2.defBody (C31.ztop 59))) (L2.defScope (C31.ztop 59)) 3 [] Value.none Value.none Value.none (Value.str (Str.ofString "codewalk.rounds") 1006) Option.none (Value.ref 314) Value.none 0)) #[]
def ob211 : Obj := Obj.mk (Value.type "tuple") Option.none (Data.seq #[Value.str (Str.ofString "onward") 1256, Value.str (Str.ofString "last") 1257, Value.str (Str.ofString "label") 1258, Value.str (Str.ofString "path") 1259, Value.str (Str.ofString "at") 1260, Value.str (Str.ofString "end") 1261, Value.str (Str.ofString "passed") 1262]) #[]
def ob212 : Obj := Obj.mk Value.none Option.none (Data.func (FuncData.mk (Str.ofString "last_labels") (Str.ofString "last_labels") (L2.defArgs (C31.ztop 60)) (FuncBody.stmts (L2.defBody (C31.ztop 60))) (L2.defScope (C31.ztop 60)) 0 [] Value.none Value.none Value.none Value.none Option.none Value.none Value.none 0)) #[]
def ob213 : Obj := Obj.mk (Value.type "code") Option.none (Data.fields #[Value.str (Str.ofString "last_labels") 1253, Value.str (Str.ofString "last_labels") 1254, Value.str (Str.ofString "/claim/cut.py") 1255, Value.int 374 0, Value.int 1 0, Value.int 0 0, Value.int 0 0, Value.int 3 0, Value.ref 316, Value.bool Bool.true, Value.int 181 0, Value.ref 317, Value.none, Value.ref 318, Value.ref 319, Value.ref 320, Value.int 1263 0, Value.int 374 0, Value.str (Str.ofString "/claim/cut.py") 1264]) #[]
def ob214 : Obj := Obj.mk (Value.type "function") Option.none (Data.func (FuncData.mk (Str.ofString "last_labels") (Str.ofString "last_labels") (L2.defArgs (C31.ztop 60)) (FuncBody.stmts (L2.defBody (C31.ztop 60))) (L2.defScope (C31.ztop 60)) 3 [] Value.none Value.none Value.none (Value.str (Str.ofString "codewalk.rounds") 1006) Option.none (Value.ref 321) Value.none 0)) #[]
def ob215 : Obj := Obj.mk (Value.type "tuple") Option.none (Data.seq #[Value.str (Str.ofString "rows") 1269, Value.str (Str.ofString "jumps") 1270, Value.str (Str.ofString "changes") 1271, Value.str (Str.ofString "at") 1272]) #[]
def ob216 : Obj := Obj.mk Value.none Option.none (Data.func (FuncData.mk (Str.ofString "drop_jumps") (Str.ofString "drop_jumps") (L2.defArgs (C31.ztop 61)) (FuncBody.stmts (L2.defBody (C31.ztop 61))) (L2.defScope (C31.ztop 61)) 0 [] Value.none Value.none Value.none Value.none Option.none Value.none Value.none 0)) #[]
def ob217 : Obj := Obj.mk (Value.type "code") Option.none (Data.fields #[Value.str (Str.ofString "drop_jumps") 1266, Value.str (Str.ofString "drop_jumps") 1267, Value.str (Str.ofString "/claim/cut.py") 1268, Value.int 386 0, Value.int 2 0, Value.int 0 0, Value.int 0 0, Value.int 3 0, Value.ref 323, Value.bool Bool.true, Value.int 181 0, Value.ref 324, Value.none, Value.ref 325, Value.ref 326, Value.ref 327, Value.int 1273 0, Value.int 386 0, Value.str (Str.ofString "/claim/cut.py") 1274]) #[]
def ob218 : Obj := Obj.mk (Value.type "function") Option.none (Data.func (FuncData.mk (Str.ofString "drop_jumps") (Str.ofString "drop_jumps") (L2.defArgs (C31.ztop 61)) (FuncBody.stmts (L2.defBody (C31.ztop 61))) (L2.defScope (C31.ztop 61)) 3 [] Value.none Value.none Value.none (Value.str (Str.ofString "codewalk.rounds") 1006) Option.none (Value.ref 328) Value.none 0)) #[]
def ob219 : Obj := Obj.mk (Value.type "tuple") Option.none (Data.seq #[Value.str (Str.ofString "rows") 1279, Value.str (Str.ofString "at") 1280, Value.str (Str.ofString "label") 1281]) #[]
def ob220 : Obj := Obj.mk Value.none Option.none (Data.func (FuncData.mk (Str.ofString "leads_on") (Str.ofString "leads_on") (L2.defArgs (C31.ztop 62)) (FuncBody.stmts (L2.defBody (C31.ztop 62))) (L2.defScope (C31.ztop 62)) 0 [] Value.none Value.none Value.none Value.none Option.none Value.none Value.none 0)) #[]
def ob221 : Obj := Obj.mk (Value.type "code") Option.none (Data.fields #[Value.str (Str.ofString "leads_on") 1276, Value.str (Str.ofString "leads_on") 1277, Value.str (Str.ofString "/claim/cut.py") 1278, Value.int 393 0, Value.int 2 0, Value.int 0 0, Value.int 0 0, Value.int 3 0, Value.ref 330, Value.bool Bool.true, Value.int 181 0, Value.ref 331, Value.none, Value.ref 332, Value.ref 333, Value.ref 334, Value.int 1282 0, Value.int 393 0, Value.str (Str.ofString "/claim/cut.py") 1283]) #[]
def ob222 : Obj := Obj.mk (Value.type "function") Option.none (Data.func (FuncData.mk (Str.ofString "leads_on") (Str.ofString "leads_on") (L2.defArgs (C31.ztop 62)) (FuncBody.stmts (L2.defBody (C31.ztop 62))) (L2.defScope (C31.ztop 62)) 3 [] Value.none Value.none Value.none (Value.str (Str.ofString "codewalk.rounds") 1006) Option.none (Value.ref 335) Value.none 0)) #[]
def ob223 : Obj := Obj.mk (Value.type "tuple") Option.none (Data.seq #[Value.str (Str.ofString "rows") 1288, Value.str (Str.ofString "found") 1289, Value.str (Str.ofString "loose") 1290, Value.str (Str.ofString "met") 1291, Value.str (Str.ofString "kept") 1292, Value.str (Str.ofString "at") 1293, Value.str (Str.ofString "row") 1294, Value.str (Str.ofString "line") 1295, Value.str (Str.ofString "behind") 1296]) #[]
def ob224 : Obj := Obj.mk Value.none Option.none (Data.func (FuncData.mk (Str.ofString "without_nops") (Str.ofString "without_nops") (L2.defArgs (C31.ztop 63)) (FuncBody.stmts (L2.defBody (C31.ztop 63))) (L2.defScope (C31.ztop 63)) 0 [] Value.none Value.none Value.none Value.none Option.none Value.none Value.none 0)) #[]
def ob225 : Obj := Obj.mk (Value.type "code") Option.none (Data.fields #[Value.str (Str.ofString "without_nops") 1285, Value.str (Str.ofString "without_nops") 1286, Value.str (Str.ofString "/claim/cut.py") 1287, Value.int 401 0, Value.int 1 0, Value.int 0 0, Value.int 0 0, Value.int 3 0, Value.ref 337, Value.bool Bool.true, Value.int 181 0, Value.ref 338, Value.none, Value.ref 339, Value.ref 340, Value.ref 341, Value.int 1297 0, Value.int 401 0, Value.str (Str.ofString "/claim/cut.py") 1298]) #[]
def ob226 : Obj := Obj.mk (Value.type "function") Option.none (Data.func (FuncData.mk (Str.ofString "without_nops") (Str.ofString "without_nops") (L2.defArgs (C31.ztop 63)) (FuncBody.stmts (L2.defBody (C31.ztop 63))) (L2.defScope (C31.ztop 63)) 3 [] Value.none Value.none Value.none (Value.str (Str.ofString "codewalk.rounds") 1006) Option.none (Value.ref 342) Value.none 0)) #[]
def ob227 : Obj := Obj.mk (Value.type "tuple") Option.none (Data.seq #[Value.str (Str.ofString "found") 1303, Value.str (Str.ofString "line") 1304]) #[]
def ob228 : Obj := Obj.mk Value.none Option.none (Data.func (FuncData.mk (Str.ofString "tells_line_ahead") (Str.ofString "tells_line_ahead") (L2.defArgs (C31.ztop 64)) (FuncBody.stmts (L2.defBody (C31.ztop 64))) (L2.defScope (C31.ztop 64)) 0 [] Value.none Value.none Value.none Value.none Option.none Value.none Value.none 0)) #[]
def ob229 : Obj := Obj.mk (Value.type "code") Option.none (Data.fields #[Value.str (Str.ofString "tells_line_ahead") 1300, Value.str (Str.ofString "tells_line_ahead") 1301, Value.str (Str.ofString "/claim/cut.py") 1302, Value.int 424 0, Value.int 2 0, Value.int 0 0, Value.int 0 0, Value.int 3 0, Value.ref 344, Value.bool Bool.true, Value.int 181 0, Value.ref 345, Value.none, Value.ref 346, Value.ref 347, Value.ref 348, Value.int 1305 0, Value.int 424 0, Value.str (Str.ofString "/claim/cut.py") 1306]) #[]
def ob230 : Obj := Obj.mk (Value.type "function") Option.none (Data.func (FuncData.mk (Str.ofString "tells_line_ahead") (Str.ofString "tells_line_ahead") (L2.defArgs (C31.ztop 64)) (FuncBody.stmts (L2.defBody (C31.ztop 64))) (L2.defScope (C31.ztop 64)) 3 [] Value.none Value.none Value.none (Value.str (Str.ofString "codewalk.rounds") 1006) Option.none (Value.ref 349) Value.none 0)) #[]
def ob231 : Obj := Obj.mk (Value.type "tuple") Option.none (Data.seq #[Value.str (Str.ofString "found") 1311, Value.str (Str.ofString "word") 1312]) #[]
def ob232 : Obj := Obj.mk Value.none Option.none (Data.func (FuncData.mk (Str.ofString "may_meet") (Str.ofString "may_meet") (L2.defArgs (C31.ztop 65)) (FuncBody.stmts (L2.defBody (C31.ztop 65))) (L2.defScope (C31.ztop 65)) 0 [] Value.none Value.none Value.none Value.none Option.none Value.none Value.none 0)) #[]
def ob233 : Obj := Obj.mk (Value.type "code") Option.none (Data.fields #[Value.str (Str.ofString "may_meet") 1308, Value.str (Str.ofString "may_meet") 1309, Value.str (Str.ofString "/claim/cut.py") 1310, Value.int 426 0, Value.int 2 0, Value.int 0 0, Value.int 0 0, Value.int 3 0, Value.ref 351, Value.bool Bool.true, Value.int 181 0, Value.ref 352, Value.none, Value.ref 353, Value.ref 354, Value.ref 355, Value.int 1313 0, Value.int 426 0, Value.str (Str.ofString "/claim/cut.py") 1314]) #[]
def ob234 : Obj := Obj.mk (Value.type "function") Option.none (Data.func (FuncData.mk (Str.ofString "may_meet") (Str.ofString "may_meet") (L2.defArgs (C31.ztop 65)) (FuncBody.stmts (L2.defBody (C31.ztop 65))) (L2.defScope (C31.ztop 65)) 3 [] Value.none Value.none Value.none (Value.str (Str.ofString "codewalk.rounds") 1006) Option.none (Value.ref 356) Value.none 0)) #[]
def ob235 : Obj := Obj.mk Value.none Option.none (Data.func (FuncData.mk (Str.ofString "with_lines") (Str.ofString "with_lines") (L2.defArgs (C31.ztop 67)) (FuncBody.stmts (L2.defBody (C31.ztop 67))) (L2.defScope (C31.ztop 67)) 0 [] Value.none Value.none Value.none Value.none Option.none Value.none Value.none 0)) #[]
def ob236 : Obj := Obj.mk (Value.type "code") Option.none (Data.fields #[Value.str (Str.ofString "with_lines") 1318, Value.str (Str.ofString "with_lines") 1319, Value.str (Str.ofString "/claim/cut.py") 1320, Value.int 429 0, Value.int 2 0, Value.int 0 0, Value.int 0 0, Value.int 3 0, Value.ref 358, Value.bool Bool.true, Value.int 181 0, Value.ref 359, Value.none, Value.none, Value.none, Value.ref 360, Value.int 1321 0, Value.int 429 0, Value.str (Str.ofString "/claim/cut.py") 1322]) #[]
def ob237 : Obj := Obj.mk (Value.type "function") Option.none (Data.func (FuncData.mk (Str.ofString "with_lines") (Str.ofString "with_lines") (L2.defArgs (C31.ztop 67)) (FuncBody.stmts (L2.defBody (C31.ztop 67))) (L2.defScope (C31.ztop 67)) 3 [] Value.none Value.none Value.none (Value.str (Str.ofString "codewalk.placing") 1316) Option.none (Value.ref 361) Value.none 0)) #[]
def ob238 : Obj := Obj.mk (Value.type "tuple") Option.none (Data.seq #[Value.str (Str.ofString "rows") 1327, Value.str (Str.ofString "bare") 1328, Value.str (Str.ofString "found") 1329, Value.str (Str.ofString "at") 1330, Value.str (Str.ofString "line") 1331, Value.str (Str.ofString "word") 1332, Value.str (Str.ofString "argument") 1333, Value.str (Str.ofString "_") 1334, Value.str (Str.ofString "handler") 1335]) #[]
def ob239 : Obj := Obj.mk Value.none Option.none (Data.func (FuncData.mk (Str.ofString "with_lines_on_ways") (Str.ofString "with_lines_on_ways") (L2.defArgs (C31.ztop 68)) (FuncBody.stmts (L2.defBody (C31.ztop 68))) (L2.defScope (C31.ztop 68)) 0 [] Value.none Value.none Value.none Value.none Option.none Value.none Value.none 0)) #[]
def ob240 : Obj := Obj.mk (Value.type "code") Option.none (Data.fields #[Value.str (Str.ofString "with_lines_on_ways") 1324, Value.str (Str.ofString "with_lines_on_ways") 1325, Value.str (Str.ofString "/claim/cut.py") 1326, Value.int 438 0, Value.int 2 0, Value.int 0 0, Value.int 0 0, Value.int 3 0, Value.ref 363, Value.bool Bool.true, Value.int 181 0, Value.ref 364, Value.none, Value.ref 365, Value.ref 366, Value.ref 367, Value.int 1336 0, Value.int 438 0, Value.str (Str.ofString "/claim/cut.py") 1337]) #[]
def ob241 : Obj := Obj.mk (Value.type "function") Option.none (Data.func (FuncData.mk (Str.ofString "with_lines_on_ways") (Str.ofString "with_lines_on_ways") (L2.defArgs (C31.ztop 68)) (FuncBody.stmts (L2.defBody (C31.ztop 68))) (L2.defScope (C31.ztop 68)) 3 [] Value.none Value.none Value.none (Value.str (Str.ofString "codewalk.placing") 1316) Option.none (Value.ref 368) Value.none 0)) #[]
def ob242 : Obj := Obj.mk (Value.type "tuple") Option.none (Data.seq #[Value.str (Str.ofString "sources") 1342, Value.str (Str.ofString "rows") 1343, Value.str (Str.ofString "lines") 1344, Value.str (Str.ofString "at") 1345, Value.str (Str.ofString "path") 1346, Value.str (Str.ofString "source") 1347, Value.str (Str.ofString "line") 1348, Value.str (Str.ofString "passed") 1349]) #[]
def ob243 : Obj := Obj.mk Value.none Option.none (Data.func (FuncData.mk (Str.ofString "lines_along") (Str.ofString "lines_along") (L2.defArgs (C31.ztop 69)) (FuncBody.stmts (L2.defBody (C31.ztop 69))) (L2.defScope (C31.ztop 69)) 0 [] Value.none Value.none Value.none Value.none Option.none Value.none Value.none 0)) #[]
def ob244 : Obj := Obj.mk (Value.type "code") Option.none (Data.fields #[Value.str (Str.ofString "lines_along") 1339, Value.str (Str.ofString "lines_along") 1340, Value.str (Str.ofString "/claim/cut.py") 1341, Value.int 444 0, Value.int 2 0, Value.int 0 0, Value.int 0 0, Value.int 3 0, Value.ref 370, Value.bool Bool.true, Value.int 181 0, Value.ref 371, Value.none, Value.ref 372, Value.ref 373, Value.ref 374, Value.int 1350 0, Value.int 444 0, Value.str (Str.ofString "/claim/cut.py") 1351]) #[]
def ob245 : Obj := Obj.mk (Value.type "function") Option.none (Data.func (FuncData.mk (Str.ofString "lines_along") (Str.ofString "lines_along") (L2.defArgs (C31.ztop 69)) (FuncBody.stmts (L2.defBody (C31.ztop 69))) (L2.defScope (C31.ztop 69)) 3 [] Value.none Value.none Value.none (Value.str (Str.ofString "codewalk.placing") 1316) Option.none (Value.ref 375) Value.none 0)) #[]
def ob246 : Obj := Obj.mk (Value.type "tuple") Option.none (Data.seq #[Value.str (Str.ofString "rows") 1356, Value.str (Str.ofString "bare") 1357, Value.str (Str.ofString "sources") 1358, Value.str (Str.ofString "behind") 1359, Value.str (Str.ofString "at") 1360, Value.str (Str.ofString "labels") 1361, Value.str (Str.ofString "ahead") 1362, Value.str (Str.ofString "goes_on") 1363]) #[]
def ob247 : Obj := Obj.mk Value.none Option.none (Data.func (FuncData.mk (Str.ofString "sources_of") (Str.ofString "sources_of") (L2.defArgs (C31.ztop 70)) (FuncBody.stmts (L2.defBody (C31.ztop 70))) (L2.defScope (C31.ztop 70)) 0 [] Value.none Value.none Value.none Value.none Option.none Value.none Value.none 0)) #[]
def ob248 : Obj := Obj.mk (Value.type "code") Option.none (Data.fields #[Value.str (Str.ofString "sources_of") 1353, Value.str (Str.ofString "sources_of") 1354, Value.str (Str.ofString "/claim/cut.py") 1355, Value.int 456 0, Value.int 2 0, Value.int 0 0, Value.int 0 0, Value.int 3 0, Value.ref 377, Value.bool Bool.true, Value.int 181 0, Value.ref 378, Value.none, Value.ref 379, Value.ref 380, Value.ref 381, Value.int 1364 0, Value.int 456 0, Value.str (Str.ofString "/claim/cut.py") 1365]) #[]
def ob249 : Obj := Obj.mk (Value.type "function") Option.none (Data.func (FuncData.mk (Str.ofString "sources_of") (Str.ofString "sources_of") (L2.defArgs (C31.ztop 70)) (FuncBody.stmts (L2.defBody (C31.ztop 70))) (L2.defScope (C31.ztop 70)) 3 [] Value.none Value.none Value.none (Value.str (Str.ofString "codewalk.placing") 1316) Option.none (Value.ref 382) Value.none 0)) #[]
def ob250 : Obj := Obj.mk Value.none Option.none (Data.func (FuncData.mk (Str.ofString "sources_at_labels") (Str.ofString "sources_at_labels") (L2.defArgs (C31.ztop 71)) (FuncBody.stmts (L2.defBody (C31.ztop 71))) (L2.defScope (C31.ztop 71)) 0 [] Value.none Value.none Value.none Value.none Option.none Value.none Value.none 0)) #[]
def ob251 : Obj := Obj.mk (Value.type "code") Option.none (Data.fields #[Value.str (Str.ofString "sources_at_labels") 1367, Value.str (Str.ofString "sources_at_labels") 1368, Value.str (Str.ofString "/claim/cut.py") 1369, Value.int 471 0, Value.int 2 0, Value.int 0 0, Value.int 0 0, Value.int 3 0, Value.ref 384, Value.bool Bool.true, Value.int 181 0, Value.ref 385, Value.none, Value.none, Value.none, Value.ref 386, Value.int 1370 0, Value.int 471 0, Value.str (Str.ofString "/claim/cut.py") 1371]) #[]
def ob252 : Obj := Obj.mk (Value.type "function") Option.none (Data.func (FuncData.mk (Str.ofString "sources_at_labels") (Str.ofString "sources_at_labels") (L2.defArgs (C31.ztop 71)) (FuncBody.stmts (L2.defBody (C31.ztop 71))) (L2.defScope (C31.ztop 71)) 3 [] Value.none Value.none Value.none (Value.str (Str.ofString "codewalk.placing") 1316) Option.none (Value.ref 387) Value.none 0)) #[]
def ob253 : Obj := Obj.mk (Value.type "tuple") Option.none (Data.seq #[Value.str (Str.ofString "rows") 1376, Value.str (Str.ofString "leads") 1377, Value.str (Str.ofString "at") 1378, Value.str (Str.ofString "row") 1379]) #[]
def ob254 : Obj := Obj.mk Value.none Option.none (Data.func (FuncData.mk (Str.ofString "leads_of") (Str.ofString "leads_of") (L2.defArgs (C31.ztop 72)) (FuncBody.stmts (L2.defBody (C31.ztop 72))) (L2.defScope (C31.ztop 72)) 0 [] Value.none Value.none Value.none Value.none Option.none Value.none Value.none 0)) #[]
def ob255 : Obj := Obj.mk (Value.type "code") Option.none (Data.fields #[Value.str (Str.ofString "leads_of") 1373, Value.str (Str.ofString "leads_of") 1374, Value.str (Str.ofString "/claim/cut.py") 1375, Value.int 482 0, Value.int 1 0, Value.int 0 0, Value.int 0 0, Value.int 3 0, Value.ref 389, Value.bool Bool.true, Value.int 181 0, Value.ref 390, Value.none, Value.ref 391, Value.ref 392, Value.ref 393, Value.int 1380 0, Value.int 482 0, Value.str (Str.ofString "/claim/cut.py") 1381]) #[]
def ob256 : Obj := Obj.mk (Value.type "function") Option.none (Data.func (FuncData.mk (Str.ofString "leads_of") (Str.ofString "leads_of") (L2.defArgs (C31.ztop 72)) (FuncBody.stmts (L2.defBody (C31.ztop 72))) (L2.defScope (C31.ztop 72)) 3 [] Value.none Value.none Value.none (Value.str (Str.ofString "codewalk.placing") 1316) Option.none (Value.ref 394) Value.none 0)) #[]
def ob257 : Obj := Obj.mk Value.none Option.none (Data.func (FuncData.mk (Str.ofString "with_cold_last") (Str.ofString "with_cold_last") (L2.defArgs (C31.ztop 73)) (FuncBody.stmts (L2.defBody (C31.ztop 73))) (L2.defScope (C31.ztop 73)) 0 [] Value.none Value.none Value.none Value.none Option.none Value.none Value.none 0)) #[]
def ob258 : Obj := Obj.mk (Value.type "code") Option.none (Data.fields #[Value.str (Str.ofString "with_cold_last") 1383, Value.str (Str.ofString "with_cold_last") 1384, Value.str (Str.ofString "/claim/cut.py") 1385, Value.int 488 0, Value.int 2 0, Value.int 0 0, Value.int 0 0, Value.int 3 0, Value.ref 396, Value.bool Bool.true, Value.int 181 0, Value.ref 397, Value.none, Value.none, Value.none, Value.ref 398, Value.int 1386 0, Value.int 488 0, Value.str (Str.ofString "/claim/cut.py") 1387]) #[]
def ob259 : Obj := Obj.mk (Value.type "function") Option.none (Data.func (FuncData.mk (Str.ofString "with_cold_last") (Str.ofString "with_cold_last") (L2.defArgs (C31.ztop 73)) (FuncBody.stmts (L2.defBody (C31.ztop 73))) (L2.defScope (C31.ztop 73)) 3 [] Value.none Value.none Value.none (Value.str (Str.ofString "codewalk.placing") 1316) Option.none (Value.ref 399) Value.none 0)) #[]
def ob260 : Obj := Obj.mk (Value.type "tuple") Option.none (Data.seq #[Value.str (Str.ofString "rows") 1392, Value.str (Str.ofString "warm") 1393, Value.str (Str.ofString "places") 1394, Value.str (Str.ofString "kept") 1395, Value.str (Str.ofString "cold") 1396, Value.str (Str.ofString "at") 1397, Value.str (Str.ofString "row") 1398, Value.str (Str.ofString "word") 1399, Value.str (Str.ofString "argument") 1400, Value.str (Str.ofString "line") 1401, Value.str (Str.ofString "handler") 1402]) #[]
def ob261 : Obj := Obj.mk Value.none Option.none (Data.func (FuncData.mk (Str.ofString "moved_back") (Str.ofString "moved_back") (L2.defArgs (C31.ztop 74)) (FuncBody.stmts (L2.defBody (C31.ztop 74))) (L2.defScope (C31.ztop 74)) 0 [] Value.none Value.none Value.none Value.none Option.none Value.none Value.none 0)) #[]
def ob262 : Obj := Obj.mk (Value.type "code") Option.none (Data.fields #[Value.str (Str.ofString "moved_back") 1389, Value.str (Str.ofString "moved_back") 1390, Value.str (Str.ofString "/claim/cut.py") 1391, Value.int 494 0, Value.int 2 0, Value.int 0 0, Value.int 0 0, Value.int 3 0, Value.ref 401, Value.bool Bool.true, Value.int 181 0, Value.ref 402, Value.none, Value.ref 403, Value.ref 404, Value.ref 405, Value.int 1403 0, Value.int 494 0, Value.str (Str.ofString "/claim/cut.py") 1404]) #[]
def ob263 : Obj := Obj.mk (Value.type "function") Option.none (Data.func (FuncData.mk (Str.ofString "moved_back") (Str.ofString "moved_back") (L2.defArgs (C31.ztop 74)) (FuncBody.stmts (L2.defBody (C31.ztop 74))) (L2.defScope (C31.ztop 74)) 3 [] Value.none Value.none Value.none (Value.str (Str.ofString "codewalk.placing") 1316) Option.none (Value.ref 406) Value.none 0)) #[]
def ob264 : Obj := Obj.mk (Value.type "tuple") Option.none (Data.seq #[Value.str (Str.ofString "rows") 1409, Value.str (Str.ofString "warm") 1410, Value.str (Str.ofString "at") 1411]) #[]
def ob265 : Obj := Obj.mk Value.none Option.none (Data.func (FuncData.mk (Str.ofString "warm_rows") (Str.ofString "warm_rows") (L2.defArgs (C31.ztop 75)) (FuncBody.stmts (L2.defBody (C31.ztop 75))) (L2.defScope (C31.ztop 75)) 0 [] Value.none Value.none Value.none Value.none Option.none Value.none Value.none 0)) #[]
def ob266 : Obj := Obj.mk (Value.type "code") Option.none (Data.fields #[Value.str (Str.ofString "warm_rows") 1406, Value.str (Str.ofString "warm_rows") 1407, Value.str (Str.ofString "/claim/cut.py") 1408, Value.int 509 0, Value.int 1 0, Value.int 0 0, Value.int 0 0, Value.int 3 0, Value.ref 408, Value.bool Bool.true, Value.int 181 0, Value.ref 409, Value.none, Value.ref 410, Value.ref 411, Value.ref 412, Value.int 1412 0, Value.int 509 0, Value.str (Str.ofString "/claim/cut.py") 1413]) #[]
def ob267 : Obj := Obj.mk (Value.type "function") Option.none (Data.func (FuncData.mk (Str.ofString "warm_rows") (Str.ofString "warm_rows") (L2.defArgs (C31.ztop 75)) (FuncBody.stmts (L2.defBody (C31.ztop 75))) (L2.defScope (C31.ztop 75)) 3 [] Value.none Value.none Value.none (Value.str (Str.ofString "codewalk.placing") 1316) Option.none (Value.ref 413) Value.none 0)) #[]
def ob268 (P : Params) : Obj := Obj.mk (Value.type "dict") Option.none (Data.dict #[DictEntry.mk (PySem.PyData.keyHash P (Str.ofString "JUMP")) (Value.str (Str.ofString "JUMP") 1419) (Value.ref 416), DictEntry.mk (PySem.PyData.keyHash P (Str.ofString "JUMP_NO_INTERRUPT")) (Value.str (Str.ofString "JUMP_NO_INTERRUPT") 1422) (Value.ref 417)] 2) #[]
def ob269 : Obj := Obj.mk (Value.type "tuple") Option.none (Data.seq #[Value.str (Str.ofString "JUMP_FORWARD") 1420, Value.str (Str.ofString "JUMP_BACKWARD") 1421]) #[]
def ob270 : Obj := Obj.mk (Value.type "tuple") Option.none (Data.seq #[Value.str (Str.ofString "JUMP_FORWARD") 1423, Value.str (Str.ofString "JUMP_BACKWARD_NO_INTERRUPT") 1424]) #[]
def ob271 (P : Params) : Obj := Obj.mk (Value.type "dict") Option.none (Data.dict #[DictEntry.mk (PySem.PyData.keyHash P (Str.ofString "POP_JUMP_IF_FALSE")) (Value.str (Str.ofString "POP_JUMP_IF_FALSE") 1428) (Value.str (Str.ofString "POP_JUMP_IF_TRUE") 1429), DictEntry.mk (PySem.PyData.keyHash P (Str.ofString "POP_JUMP_IF_TRUE")) (Value.str (Str.ofString "POP_JUMP_IF_TRUE") 1430) (Value.str (Str.ofString "POP_JUMP_IF_FALSE") 1431), DictEntry.mk (PySem.PyData.keyHash P (Str.ofString "POP_JUMP_IF_NONE")) (Value.str (Str.ofString "POP_JUMP_IF_NONE") 1432) (Value.str (Str.ofString "POP_JUMP_IF_NOT_NONE") 1433), DictEntry.mk (PySem.PyData.keyHash P (Str.ofString "POP_JUMP_IF_NOT_NONE")) (Value.str (Str.ofString "POP_JUMP_IF_NOT_NONE") 1434) (Value.str (Str.ofString "POP_JUMP_IF_NONE") 1435)] 4) #[]
def ob272 : Obj := Obj.mk (Value.type "tuple") Option.none (Data.seq #[Value.bool Bool.true]) #[]
def ob273 : Obj := Obj.mk (Value.type "tuple") Option.none (Data.seq #[Value.str (Str.ofString "rows") 1444, Value.str (Str.ofString "head") 1445, Value.str (Str.ofString "passes") 1446, Value.str (Str.ofString "words") 1447, Value.str (Str.ofString "found") 1448]) #[]
def ob274 : Obj := Obj.mk Value.none Option.none (Data.func (FuncData.mk (Str.ofString "flowed") (Str.ofString "flowed") (L2.defArgs (C31.ztop 80)) (FuncBody.stmts (L2.defBody (C31.ztop 80))) (L2.defScope (C31.ztop 80)) 0 [] Value.none Value.none Value.none Value.none Option.none Value.none Value.none 0)) #[]
def ob275 : Obj := Obj.mk (Value.type "code") Option.none (Data.fields #[Value.str (Str.ofString "flowed") 1441, Value.str (Str.ofString "flowed") 1442, Value.str (Str.ofString "/claim/cut.py") 1443, Value.int 519 0, Value.int 3 0, Value.int 0 0, Value.int 0 0, Value.int 3 0, Value.ref 420, Value.bool Bool.true, Value.int 181 0, Value.ref 421, Value.none, Value.ref 422, Value.ref 423, Value.ref 424, Value.int 1449 0, Value.int 519 0, Value.str (Str.ofString "/claim/cut.py") 1450]) #[]
def ob276 : Obj := Obj.mk (Value.type "function") Option.none (Data.func (FuncData.mk (Str.ofString "flowed") (Str.ofString "flowed") (L2.defArgs (C31.ztop 80)) (FuncBody.stmts (L2.defBody (C31.ztop 80))) (L2.defScope (C31.ztop 80)) 3 [] (Value.ref 419) Value.none Value.none (Value.str (Str.ofString "codewalk.flow") 1415) Option.none (Value.ref 425) Value.none 0)) #[]
def ob277 : Obj := Obj.mk (Value.type "tuple") Option.none (Data.seq #[Value.str (Str.ofString "rows") 1455, Value.str (Str.ofString "head") 1456, Value.str (Str.ofString "words") 1457, Value.str (Str.ofString "numbers") 1458, Value.str (Str.ofString "found") 1459, Value.str (Str.ofString "row") 1460, Value.str (Str.ofString "word") 1461, Value.str (Str.ofString "first") 1462, Value.str (Str.ofString "name") 1463, Value.str (Str.ofString "line") 1464, Value.str (Str.ofString "handler") 1465]) #[]
def ob278 : Obj := Obj.mk Value.none Option.none (Data.func (FuncData.mk (Str.ofString "with_pairs") (Str.ofString "with_pairs") (L2.defArgs (C31.ztop 81)) (FuncBody.stmts (L2.defBody (C31.ztop 81))) (L2.defScope (C31.ztop 81)) 0 [] Value.none Value.none Value.none Value.none Option.none Value.none Value.none 0)) #[]
def ob279 : Obj := Obj.mk (Value.type "code") Option.none (Data.fields #[Value.str (Str.ofString "with_pairs") 1452, Value.str (Str.ofString "with_pairs") 1453, Value.str (Str.ofString "/claim/cut.py") 1454, Value.int 532 0, Value.int 3 0, Value.int 0 0, Value.int 0 0, Value.int 3 0, Value.ref 427, Value.bool Bool.true, Value.int 181 0, Value.ref 428, Value.none, Value.ref 429, Value.ref 430, Value.ref 431, Value.int 1466 0, Value.int 532 0, Value.str (Str.ofString "/claim/cut.py") 1467]) #[]
def ob280 : Obj := Obj.mk (Value.type "function") Option.none (Data.func (FuncData.mk (Str.ofString "with_pairs") (Str.ofString "with_pairs") (L2.defArgs (C31.ztop 81)) (FuncBody.stmts (L2.defBody (C31.ztop 81))) (L2.defScope (C31.ztop 81)) 3 [] Value.none Value.none Value.none (Value.str (Str.ofString "codewalk.flow") 1415) Option.none (Value.ref 432) Value.none 0)) #[]
def ob281 : Obj := Obj.mk (Value.type "tuple") Option.none (Data.seq #[Value.str (Str.ofString "ahead") 1472, Value.str (Str.ofString "row") 1473, Value.str (Str.ofString "word") 1474]) #[]
def ob282 : Obj := Obj.mk Value.none Option.none (Data.func (FuncData.mk (Str.ofString "are_alike") (Str.ofString "are_alike") (L2.defArgs (C31.ztop 82)) (FuncBody.stmts (L2.defBody (C31.ztop 82))) (L2.defScope (C31.ztop 82)) 0 [] Value.none Value.none Value.none Value.none Option.none Value.none Value.none 0)) #[]
def ob283 : Obj := Obj.mk (Value.type "code") Option.none (Data.fields #[Value.str (Str.ofString "are_alike") 1469, Value.str (Str.ofString "are_alike") 1470, Value.str (Str.ofString "/claim/cut.py") 1471, Value.int 547 0, Value.int 2 0, Value.int 0 0, Value.int 0 0, Value.int 3 0, Value.ref 434, Value.bool Bool.true, Value.int 181 0, Value.ref 435, Value.none, Value.ref 436, Value.ref 437, Value.ref 438, Value.int 1475 0, Value.int 547 0, Value.str (Str.ofString "/claim/cut.py") 1476]) #[]
def ob284 : Obj := Obj.mk (Value.type "function") Option.none (Data.func (FuncData.mk (Str.ofString "are_alike") (Str.ofString "are_alike") (L2.defArgs (C31.ztop 82)) (FuncBody.stmts (L2.defBody (C31.ztop 82))) (L2.defScope (C31.ztop 82)) 3 [] Value.none Value.none Value.none (Value.str (Str.ofString "codewalk.flow") 1415) Option.none (Value.ref 439) Value.none 0)) #[]
def ob285 : Obj := Obj.mk (Value.type "tuple") Option.none (Data.seq #[Value.str (Str.ofString "rows") 1481, Value.str (Str.ofString "places") 1482, Value.str (Str.ofString "jumps") 1483, Value.str (Str.ofString "at") 1484, Value.str (Str.ofString "row") 1485, Value.str (Str.ofString "word") 1486, Value.str (Str.ofString "found") 1487, Value.str (Str.ofString "done") 1488, Value.str (Str.ofString "free") 1489, Value.str (Str.ofString "label") 1490, Value.str (Str.ofString "line") 1491, Value.str (Str.ofString "handler") 1492, Value.str (Str.ofString "forward") 1493, Value.str (Str.ofString "backward") 1494]) #[]
def ob286 : Obj := Obj.mk Value.none Option.none (Data.func (FuncData.mk (Str.ofString "with_directions") (Str.ofString "with_directions") (L2.defArgs (C31.ztop 83)) (FuncBody.stmts (L2.defBody (C31.ztop 83))) (L2.defScope (C31.ztop 83)) 0 [] Value.none Value.none Value.none Value.none Option.none Value.none Value.none 0)) #[]
def ob287 : Obj := Obj.mk (Value.type "code") Option.none (Data.fields #[Value.str (Str.ofString "with_directions") 1478, Value.str (Str.ofString "with_directions") 1479, Value.str (Str.ofString "/claim/cut.py") 1480, Value.int 552 0, Value.int 1 0, Value.int 0 0, Value.int 0 0, Value.int 3 0, Value.ref 441, Value.bool Bool.true, Value.int 181 0, Value.ref 442, Value.none, Value.ref 443, Value.ref 444, Value.ref 445, Value.int 1495 0, Value.int 552 0, Value.str (Str.ofString "/claim/cut.py") 1496]) #[]
def ob288 : Obj := Obj.mk (Value.type "function") Option.none (Data.func (FuncData.mk (Str.ofString "with_directions") (Str.ofString "with_directions") (L2.defArgs (C31.ztop 83)) (FuncBody.stmts (L2.defBody (C31.ztop 83))) (L2.defScope (C31.ztop 83)) 3 [] Value.none Value.none Value.none (Value.str (Str.ofString "codewalk.flow") 1415) Option.none (Value.ref 446) Value.none 0)) #[]
def ob289 : Obj := Obj.mk (Value.type "tuple") Option.none (Data.seq #[Value.str (Str.ofString "_law_cell") 1503]) #[]
def ob290 : Obj := Obj.mk Value.none Option.none (Data.func (FuncData.mk (Str.ofString "_law_source_of") (Str.ofString "_law_source_of") (L2.defArgs (C31.ztop 85)) (FuncBody.stmts (L2.defBody (C31.ztop 85))) (L2.defScope (C31.ztop 85)) 0 [] Value.none Value.none Value.none Value.none Option.none Value.none Value.none 0)) #[]
def ob291 : Obj := Obj.mk (Value.type "code") Option.none (Data.fields #[Value.str (Str.ofString "_law_source_of") 1500, Value.str (Str.ofString "_law_source_of") 1501, Value.str (Str.ofString "/claim/cut.py") 1502, Value.int 583 0, Value.int 1 0, Value.int 0 0, Value.int 0 0, Value.int 3 0, Value.ref 448, Value.bool Bool.true, Value.int 181 0, Value.ref 449, Value.none, Value.ref 450, Value.ref 451, Value.ref 452, Value.int 1504 0, Value.int 583 0, Value.str (Str.ofString "/claim/cut.py") 1505]) #[]
def ob292 : Obj := Obj.mk (Value.type "function") Option.none (Data.func (FuncData.mk (Str.ofString "_law_source_of") (Str.ofString "_law_source_of") (L2.defArgs (C31.ztop 85)) (FuncBody.stmts (L2.defBody (C31.ztop 85))) (L2.defScope (C31.ztop 85)) 3 [] Value.none Value.none Value.none (Value.str (Str.ofString "law_codewalk_k31_handlers_of_rows") 1498) Option.none (Value.ref 453) Value.none 0)) #[]
def ob293 : Obj := Obj.mk (Value.type "tuple") Option.none (Data.seq #[Value.str (Str.ofString "_law_source") 1510, Value.str (Str.ofString "_law_many") 1511, Value.str (Str.ofString "_law_found") 1512, Value.str (Str.ofString "_law_prime") 1513, Value.str (Str.ofString "_law_number") 1514]) #[]
def ob294 : Obj := Obj.mk Value.none Option.none (Data.func (FuncData.mk (Str.ofString "_law_next") (Str.ofString "_law_next") (L2.defArgs (C31.ztop 86)) (FuncBody.stmts (L2.defBody (C31.ztop 86))) (L2.defScope (C31.ztop 86)) 0 [] Value.none Value.none Value.none Value.none Option.none Value.none Value.none 0)) #[]
def ob295 : Obj := Obj.mk (Value.type "code") Option.none (Data.fields #[Value.str (Str.ofString "_law_next") 1507, Value.str (Str.ofString "_law_next") 1508, Value.str (Str.ofString "/claim/cut.py") 1509, Value.int 586 0, Value.int 2 0, Value.int 0 0, Value.int 0 0, Value.int 3 0, Value.ref 455, Value.bool Bool.true, Value.int 181 0, Value.ref 456, Value.none, Value.ref 457, Value.ref 458, Value.ref 459, Value.int 1515 0, Value.int 586 0, Value.str (Str.ofString "/claim/cut.py") 1516]) #[]
def ob296 : Obj := Obj.mk (Value.type "function") Option.none (Data.func (FuncData.mk (Str.ofString "_law_next") (Str.ofString "_law_next") (L2.defArgs (C31.ztop 86)) (FuncBody.stmts (L2.defBody (C31.ztop 86))) (L2.defScope (C31.ztop 86)) 3 [] Value.none Value.none Value.none (Value.str (Str.ofString "law_codewalk_k31_handlers_of_rows") 1498) Option.none (Value.ref 460) Value.none 0)) #[]
def ob297 : Obj := Obj.mk (Value.type "tuple") Option.none (Data.seq #[Value.str (Str.ofString "_law_source") 1521, Value.str (Str.ofString "_law_some") 1522]) #[]
def ob298 : Obj := Obj.mk Value.none Option.none (Data.func (FuncData.mk (Str.ofString "_law_one") (Str.ofString "_law_one") (L2.defArgs (C31.ztop 87)) (FuncBody.stmts (L2.defBody (C31.ztop 87))) (L2.defScope (C31.ztop 87)) 0 [] Value.none Value.none Value.none Value.none Option.none Value.none Value.none 0)) #[]
def ob299 : Obj := Obj.mk (Value.type "code") Option.none (Data.fields #[Value.str (Str.ofString "_law_one") 1518, Value.str (Str.ofString "_law_one") 1519, Value.str (Str.ofString "/claim/cut.py") 1520, Value.int 598 0, Value.int 2 0, Value.int 0 0, Value.int 0 0, Value.int 3 0, Value.ref 462, Value.bool Bool.true, Value.int 181 0, Value.ref 463, Value.none, Value.ref 464, Value.ref 465, Value.ref 466, Value.int 1523 0, Value.int 598 0, Value.str (Str.ofString "/claim/cut.py") 1524]) #[]
def ob300 : Obj := Obj.mk (Value.type "function") Option.none (Data.func (FuncData.mk (Str.ofString "_law_one") (Str.ofString "_law_one") (L2.defArgs (C31.ztop 87)) (FuncBody.stmts (L2.defBody (C31.ztop 87))) (L2.defScope (C31.ztop 87)) 3 [] Value.none Value.none Value.none (Value.str (Str.ofString "law_codewalk_k31_handlers_of_rows") 1498) Option.none (Value.ref 467) Value.none 0)) #[]
def ob301 : Obj := Obj.mk (Value.type "tuple") Option.none (Data.seq #[Value.str (Str.ofString "_law_names") 1529]) #[]
def ob302 : Obj := Obj.mk Value.none Option.none (Data.func (FuncData.mk (Str.ofString "_law_head") (Str.ofString "_law_head") (L2.defArgs (C31.ztop 88)) (FuncBody.stmts (L2.defBody (C31.ztop 88))) (L2.defScope (C31.ztop 88)) 0 [] Value.none Value.none Value.none Value.none Option.none Value.none Value.none 0)) #[]
def ob303 : Obj := Obj.mk (Value.type "code") Option.none (Data.fields #[Value.str (Str.ofString "_law_head") 1526, Value.str (Str.ofString "_law_head") 1527, Value.str (Str.ofString "/claim/cut.py") 1528, Value.int 600 0, Value.int 1 0, Value.int 0 0, Value.int 0 0, Value.int 3 0, Value.ref 469, Value.bool Bool.true, Value.int 181 0, Value.ref 470, Value.none, Value.ref 471, Value.ref 472, Value.ref 473, Value.int 1530 0, Value.int 600 0, Value.str (Str.ofString "/claim/cut.py") 1531]) #[]
def ob304 : Obj := Obj.mk (Value.type "function") Option.none (Data.func (FuncData.mk (Str.ofString "_law_head") (Str.ofString "_law_head") (L2.defArgs (C31.ztop 88)) (FuncBody.stmts (L2.defBody (C31.ztop 88))) (L2.defScope (C31.ztop 88)) 3 [] Value.none Value.none Value.none (Value.str (Str.ofString "law_codewalk_k31_handlers_of_rows") 1498) Option.none (Value.ref 474) Value.none 0)) #[]
def ob305 : Obj := Obj.mk (Value.type "tuple") Option.none (Data.seq #[Value.str (Str.ofString "_law_env") 1536]) #[]
def ob306 : Obj := Obj.mk Value.none Option.none (Data.func (FuncData.mk (Str.ofString "_law_line") (Str.ofString "_law_line") (L2.defArgs (C31.ztop 89)) (FuncBody.stmts (L2.defBody (C31.ztop 89))) (L2.defScope (C31.ztop 91)) 0 [] Value.none Value.none Value.none Value.none Option.none Value.none Value.none 0)) #[]
def ob307 : Obj := Obj.mk (Value.type "code") Option.none (Data.fields #[Value.str (Str.ofString "_law_line") 1533, Value.str (Str.ofString "_law_line") 1534, Value.str (Str.ofString "/claim/cut.py") 1535, Value.int 602 0, Value.int 1 0, Value.int 0 0, Value.int 0 0, Value.int 3 0, Value.ref 476, Value.bool Bool.true, Value.int 181 0, Value.ref 477, Value.none, Value.ref 478, Value.ref 479, Value.ref 480, Value.int 1537 0, Value.int 602 0, Value.str (Str.ofString "/claim/cut.py") 1538]) #[]
def ob308 : Obj := Obj.mk (Value.type "function") Option.none (Data.func (FuncData.mk (Str.ofString "_law_line") (Str.ofString "_law_line") (L2.defArgs (C31.ztop 89)) (FuncBody.stmts (L2.defBody (C31.ztop 89))) (L2.defScope (C31.ztop 91)) 3 [] Value.none Value.none Value.none (Value.str (Str.ofString "law_codewalk_k31_handlers_of_rows") 1498) Option.none (Value.ref 481) Value.none 0)) #[]
def ob309 : Obj := Obj.mk (Value.type "tuple") Option.none (Data.seq #[Value.str (Str.ofString "_law_env") 1543]) #[]
def ob310 : Obj := Obj.mk Value.none Option.none (Data.func (FuncData.mk (Str.ofString "_law_new") (Str.ofString "_law_new") (L2.defArgs (C31.ztop 90)) (FuncBody.stmts (L2.defBody (C31.ztop 90))) (L2.defScope (C31.ztop 91)) 0 [] Value.none Value.none Value.none Value.none Option.none Value.none Value.none 0)) #[]
def ob311 : Obj := Obj.mk (Value.type "code") Option.none (Data.fields #[Value.str (Str.ofString "_law_new") 1540, Value.str (Str.ofString "_law_new") 1541, Value.str (Str.ofString "/claim/cut.py") 1542, Value.int 605 0, Value.int 1 0, Value.int 0 0, Value.int 0 0, Value.int 3 0, Value.ref 483, Value.bool Bool.true, Value.int 181 0, Value.ref 484, Value.none, Value.ref 485, Value.ref 486, Value.ref 487, Value.int 1544 0, Value.int 605 0, Value.str (Str.ofString "/claim/cut.py") 1545]) #[]
def ob312 : Obj := Obj.mk (Value.type "function") Option.none (Data.func (FuncData.mk (Str.ofString "_law_new") (Str.ofString "_law_new") (L2.defArgs (C31.ztop 90)) (FuncBody.stmts (L2.defBody (C31.ztop 90))) (L2.defScope (C31.ztop 91)) 3 [] Value.none Value.none Value.none (Value.str (Str.ofString "law_codewalk_k31_handlers_of_rows") 1498) Option.none (Value.ref 488) Value.none 0)) #[]
def ob313 : Obj := Obj.mk (Value.type "tuple") Option.none (Data.seq #[Value.str (Str.ofString "_law_env") 1550]) #[]
def ob314 : Obj := Obj.mk Value.none Option.none (Data.func (FuncData.mk (Str.ofString "_law_handler") (Str.ofString "_law_handler") (L2.defArgs (C31.ztop 91)) (FuncBody.stmts (L2.defBody (C31.ztop 91))) (L2.defScope (C31.ztop 91)) 0 [] Value.none Value.none Value.none Value.none Option.none Value.none Value.none 0)) #[]
def ob315 : Obj := Obj.mk (Value.type "code") Option.none (Data.fields #[Value.str (Str.ofString "_law_handler") 1547, Value.str (Str.ofString "_law_handler") 1548, Value.str (Str.ofString "/claim/cut.py") 1549, Value.int 608 0, Value.int 1 0, Value.int 0 0, Value.int 0 0, Value.int 3 0, Value.ref 490, Value.bool Bool.true, Value.int 181 0, Value.ref 491, Value.none, Value.ref 492, Value.ref 493, Value.ref 494, Value.int 1551 0, Value.int 608 0, Value.str (Str.ofString "/claim/cut.py") 1552]) #[]
def ob316 : Obj := Obj.mk (Value.type "function") Option.none (Data.func (FuncData.mk (Str.ofString "_law_handler") (Str.ofString "_law_handler") (L2.defArgs (C31.ztop 91)) (FuncBody.stmts (L2.defBody (C31.ztop 91))) (L2.defScope (C31.ztop 91)) 3 [] Value.none Value.none Value.none (Value.str (Str.ofString "law_codewalk_k31_handlers_of_rows") 1498) Option.none (Value.ref 495) Value.none 0)) #[]
def ob317 : Obj := Obj.mk (Value.type "tuple") Option.none (Data.seq #[Value.str (Str.ofString "_law_env") 1557, Value.str (Str.ofString "_law_word") 1558, Value.str (Str.ofString "_law_argument") 1559, Value.str (Str.ofString "_law_due") 1560, Value.str (Str.ofString "_law_line_here") 1561]) #[]
def ob318 : Obj := Obj.mk Value.none Option.none (Data.func (FuncData.mk (Str.ofString "_law_put") (Str.ofString "_law_put") (L2.defArgs (C31.ztop 92)) (FuncBody.stmts (L2.defBody (C31.ztop 92))) (L2.defScope (C31.ztop 92)) 0 [] Value.none Value.none Value.none Value.none Option.none Value.none Value.none 0)) #[]
def ob319 : Obj := Obj.mk (Value.type "code") Option.none (Data.fields #[Value.str (Str.ofString "_law_put") 1554, Value.str (Str.ofString "_law_put") 1555, Value.str (Str.ofString "/claim/cut.py") 1556, Value.int 610 0, Value.int 4 0, Value.int 0 0, Value.int 0 0, Value.int 3 0, Value.ref 497, Value.bool Bool.true, Value.int 181 0, Value.ref 498, Value.none, Value.ref 499, Value.ref 500, Value.ref 501, Value.int 1562 0, Value.int 610 0, Value.str (Str.ofString "/claim/cut.py") 1563]) #[]
def ob320 : Obj := Obj.mk (Value.type "function") Option.none (Data.func (FuncData.mk (Str.ofString "_law_put") (Str.ofString "_law_put") (L2.defArgs (C31.ztop 92)) (FuncBody.stmts (L2.defBody (C31.ztop 92))) (L2.defScope (C31.ztop 92)) 3 [] Value.none Value.none Value.none (Value.str (Str.ofString "law_codewalk_k31_handlers_of_rows") 1498) Option.none (Value.ref 502) Value.none 0)) #[]
def ob321 : Obj := Obj.mk (Value.type "tuple") Option.none (Data.seq #[Value.str (Str.ofString "_law_env") 1568, Value.str (Str.ofString "_law_label_here") 1569]) #[]
def ob322 : Obj := Obj.mk Value.none Option.none (Data.func (FuncData.mk (Str.ofString "_law_label") (Str.ofString "_law_label") (L2.defArgs (C31.ztop 93)) (FuncBody.stmts (L2.defBody (C31.ztop 93))) (L2.defScope (C31.ztop 93)) 0 [] Value.none Value.none Value.none Value.none Option.none Value.none Value.none 0)) #[]
def ob323 : Obj := Obj.mk (Value.type "code") Option.none (Data.fields #[Value.str (Str.ofString "_law_label") 1565, Value.str (Str.ofString "_law_label") 1566, Value.str (Str.ofString "/claim/cut.py") 1567, Value.int 614 0, Value.int 2 0, Value.int 0 0, Value.int 0 0, Value.int 3 0, Value.ref 504, Value.bool Bool.true, Value.int 181 0, Value.ref 505, Value.none, Value.ref 506, Value.ref 507, Value.ref 508, Value.int 1570 0, Value.int 614 0, Value.str (Str.ofString "/claim/cut.py") 1571]) #[]
def ob324 : Obj := Obj.mk (Value.type "function") Option.none (Data.func (FuncData.mk (Str.ofString "_law_label") (Str.ofString "_law_label") (L2.defArgs (C31.ztop 93)) (FuncBody.stmts (L2.defBody (C31.ztop 93))) (L2.defScope (C31.ztop 93)) 3 [] Value.none Value.none Value.none (Value.str (Str.ofString "law_codewalk_k31_handlers_of_rows") 1498) Option.none (Value.ref 509) Value.none 0)) #[]
def ob325 : Obj := Obj.mk (Value.type "tuple") Option.none (Data.seq #[Value.str (Str.ofString "_law_env") 1576, Value.str (Str.ofString "_law_many") 1577, Value.str (Str.ofString "_law_k") 1578]) #[]
def ob326 : Obj := Obj.mk Value.none Option.none (Data.func (FuncData.mk (Str.ofString "_law_pops") (Str.ofString "_law_pops") (L2.defArgs (C31.ztop 94)) (FuncBody.stmts (L2.defBody (C31.ztop 94))) (L2.defScope (C31.ztop 94)) 0 [] Value.none Value.none Value.none Value.none Option.none Value.none Value.none 0)) #[]
def ob327 : Obj := Obj.mk (Value.type "code") Option.none (Data.fields #[Value.str (Str.ofString "_law_pops") 1573, Value.str (Str.ofString "_law_pops") 1574, Value.str (Str.ofString "/claim/cut.py") 1575, Value.int 617 0, Value.int 2 0, Value.int 0 0, Value.int 0 0, Value.int 3 0, Value.ref 511, Value.bool Bool.true, Value.int 181 0, Value.ref 512, Value.none, Value.ref 513, Value.ref 514, Value.ref 515, Value.int 1579 0, Value.int 617 0, Value.str (Str.ofString "/claim/cut.py") 1580]) #[]
def ob328 : Obj := Obj.mk (Value.type "function") Option.none (Data.func (FuncData.mk (Str.ofString "_law_pops") (Str.ofString "_law_pops") (L2.defArgs (C31.ztop 94)) (FuncBody.stmts (L2.defBody (C31.ztop 94))) (L2.defScope (C31.ztop 94)) 3 [] Value.none Value.none Value.none (Value.str (Str.ofString "law_codewalk_k31_handlers_of_rows") 1498) Option.none (Value.ref 516) Value.none 0)) #[]
def ob329 : Obj := Obj.mk (Value.type "tuple") Option.none (Data.seq #[Value.str (Str.ofString "_law_env") 1585, Value.str (Str.ofString "_law_line_here") 1586]) #[]
def ob330 : Obj := Obj.mk Value.none Option.none (Data.func (FuncData.mk (Str.ofString "_law_plain") (Str.ofString "_law_plain") (L2.defArgs (C31.ztop 95)) (FuncBody.stmts (L2.defBody (C31.ztop 95))) (L2.defScope (C31.ztop 95)) 0 [] Value.none Value.none Value.none Value.none Option.none Value.none Value.none 0)) #[]
def ob331 : Obj := Obj.mk (Value.type "code") Option.none (Data.fields #[Value.str (Str.ofString "_law_plain") 1582, Value.str (Str.ofString "_law_plain") 1583, Value.str (Str.ofString "/claim/cut.py") 1584, Value.int 620 0, Value.int 1 0, Value.int 0 0, Value.int 0 0, Value.int 3 0, Value.ref 518, Value.bool Bool.true, Value.int 181 0, Value.ref 519, Value.none, Value.ref 520, Value.ref 521, Value.ref 522, Value.int 1587 0, Value.int 620 0, Value.str (Str.ofString "/claim/cut.py") 1588]) #[]
def ob332 : Obj := Obj.mk (Value.type "function") Option.none (Data.func (FuncData.mk (Str.ofString "_law_plain") (Str.ofString "_law_plain") (L2.defArgs (C31.ztop 95)) (FuncBody.stmts (L2.defBody (C31.ztop 95))) (L2.defScope (C31.ztop 95)) 3 [] Value.none Value.none Value.none (Value.str (Str.ofString "law_codewalk_k31_handlers_of_rows") 1498) Option.none (Value.ref 523) Value.none 0)) #[]
def ob333 : Obj := Obj.mk (Value.type "tuple") Option.none (Data.seq #[Value.str (Str.ofString "_law_env") 1593, Value.str (Str.ofString "_law_word") 1594, Value.str (Str.ofString "_law_argument") 1595, Value.str (Str.ofString "_law_line_here") 1596]) #[]
def ob334 : Obj := Obj.mk Value.none Option.none (Data.func (FuncData.mk (Str.ofString "_law_edge") (Str.ofString "_law_edge") (L2.defArgs (C31.ztop 96)) (FuncBody.stmts (L2.defBody (C31.ztop 96))) (L2.defScope (C31.ztop 96)) 0 [] Value.none Value.none Value.none Value.none Option.none Value.none Value.none 0)) #[]
def ob335 : Obj := Obj.mk (Value.type "code") Option.none (Data.fields #[Value.str (Str.ofString "_law_edge") 1590, Value.str (Str.ofString "_law_edge") 1591, Value.str (Str.ofString "/claim/cut.py") 1592, Value.int 628 0, Value.int 3 0, Value.int 0 0, Value.int 0 0, Value.int 3 0, Value.ref 525, Value.bool Bool.true, Value.int 181 0, Value.ref 526, Value.none, Value.ref 527, Value.ref 528, Value.ref 529, Value.int 1597 0, Value.int 628 0, Value.str (Str.ofString "/claim/cut.py") 1598]) #[]
def ob336 : Obj := Obj.mk (Value.type "function") Option.none (Data.func (FuncData.mk (Str.ofString "_law_edge") (Str.ofString "_law_edge") (L2.defArgs (C31.ztop 96)) (FuncBody.stmts (L2.defBody (C31.ztop 96))) (L2.defScope (C31.ztop 96)) 3 [] Value.none Value.none Value.none (Value.str (Str.ofString "law_codewalk_k31_handlers_of_rows") 1498) Option.none (Value.ref 530) Value.none 0)) #[]
def ob337 : Obj := Obj.mk (Value.type "tuple") Option.none (Data.seq #[Value.str (Str.ofString "_law_env") 1603, Value.str (Str.ofString "_law_deep") 1604, Value.str (Str.ofString "_law_word") 1605, Value.str (Str.ofString "_law_more") 1606, Value.str (Str.ofString "_law_k") 1607, Value.str (Str.ofString "_law_label_here") 1608, Value.str (Str.ofString "_law_behind") 1609, Value.str (Str.ofString "_law_is_wanted") 1610, Value.str (Str.ofString "_law_above") 1611]) #[]
def ob338 : Obj := Obj.mk Value.none Option.none (Data.func (FuncData.mk (Str.ofString "_law_guarded") (Str.ofString "_law_guarded") (L2.defArgs (C31.ztop 97)) (FuncBody.stmts (L2.defBody (C31.ztop 97))) (L2.defScope (C31.ztop 97)) 0 [] Value.none Value.none Value.none Value.none Option.none Value.none Value.none 0)) #[]
def ob339 : Obj := Obj.mk (Value.type "code") Option.none (Data.fields #[Value.str (Str.ofString "_law_guarded") 1600, Value.str (Str.ofString "_law_guarded") 1601, Value.str (Str.ofString "/claim/cut.py") 1602, Value.int 633 0, Value.int 2 0, Value.int 0 0, Value.int 0 0, Value.int 3 0, Value.ref 532, Value.bool Bool.true, Value.int 181 0, Value.ref 533, Value.none, Value.ref 534, Value.ref 535, Value.ref 536, Value.int 1612 0, Value.int 633 0, Value.str (Str.ofString "/claim/cut.py") 1613]) #[]
def ob340 : Obj := Obj.mk (Value.type "function") Option.none (Data.func (FuncData.mk (Str.ofString "_law_guarded") (Str.ofString "_law_guarded") (L2.defArgs (C31.ztop 97)) (FuncBody.stmts (L2.defBody (C31.ztop 97))) (L2.defScope (C31.ztop 97)) 3 [] Value.none Value.none Value.none (Value.str (Str.ofString "law_codewalk_k31_handlers_of_rows") 1498) Option.none (Value.ref 537) Value.none 0)) #[]
def ob341 : Obj := Obj.mk (Value.type "tuple") Option.none (Data.seq #[Value.str (Str.ofString "_law_env") 1618, Value.str (Str.ofString "_law_behind") 1619, Value.str (Str.ofString "_law_line_here") 1620]) #[]
def ob342 : Obj := Obj.mk Value.none Option.none (Data.func (FuncData.mk (Str.ofString "_law_dead") (Str.ofString "_law_dead") (L2.defArgs (C31.ztop 98)) (FuncBody.stmts (L2.defBody (C31.ztop 98))) (L2.defScope (C31.ztop 98)) 0 [] Value.none Value.none Value.none Value.none Option.none Value.none Value.none 0)) #[]
def ob343 : Obj := Obj.mk (Value.type "code") Option.none (Data.fields #[Value.str (Str.ofString "_law_dead") 1615, Value.str (Str.ofString "_law_dead") 1616, Value.str (Str.ofString "/claim/cut.py") 1617, Value.int 656 0, Value.int 1 0, Value.int 0 0, Value.int 0 0, Value.int 3 0, Value.ref 539, Value.bool Bool.true, Value.int 181 0, Value.ref 540, Value.none, Value.ref 541, Value.ref 542, Value.ref 543, Value.int 1621 0, Value.int 656 0, Value.str (Str.ofString "/claim/cut.py") 1622]) #[]
def ob344 : Obj := Obj.mk (Value.type "function") Option.none (Data.func (FuncData.mk (Str.ofString "_law_dead") (Str.ofString "_law_dead") (L2.defArgs (C31.ztop 98)) (FuncBody.stmts (L2.defBody (C31.ztop 98))) (L2.defScope (C31.ztop 98)) 3 [] Value.none Value.none Value.none (Value.str (Str.ofString "law_codewalk_k31_handlers_of_rows") 1498) Option.none (Value.ref 544) Value.none 0)) #[]
def ob345 : Obj := Obj.mk (Value.type "tuple") Option.none (Data.seq #[Value.str (Str.ofString "_law_env") 1627, Value.str (Str.ofString "_law_deep") 1628, Value.str (Str.ofString "_law_k") 1629, Value.str (Str.ofString "_law_kind") 1630]) #[]
def ob346 : Obj := Obj.mk Value.none Option.none (Data.func (FuncData.mk (Str.ofString "_law_body") (Str.ofString "_law_body") (L2.defArgs (C31.ztop 99)) (FuncBody.stmts (L2.defBody (C31.ztop 99))) (L2.defScope (C31.ztop 99)) 0 [] Value.none Value.none Value.none Value.none Option.none Value.none Value.none 0)) #[]
def ob347 : Obj := Obj.mk (Value.type "code") Option.none (Data.fields #[Value.str (Str.ofString "_law_body") 1624, Value.str (Str.ofString "_law_body") 1625, Value.str (Str.ofString "/claim/cut.py") 1626, Value.int 662 0, Value.int 2 0, Value.int 0 0, Value.int 0 0, Value.int 3 0, Value.ref 546, Value.bool Bool.true, Value.int 181 0, Value.ref 547, Value.none, Value.ref 548, Value.ref 549, Value.ref 550, Value.int 1631 0, Value.int 662 0, Value.str (Str.ofString "/claim/cut.py") 1632]) #[]
def ob348 : Obj := Obj.mk (Value.type "function") Option.none (Data.func (FuncData.mk (Str.ofString "_law_body") (Str.ofString "_law_body") (L2.defArgs (C31.ztop 99)) (FuncBody.stmts (L2.defBody (C31.ztop 99))) (L2.defScope (C31.ztop 99)) 3 [] Value.none Value.none Value.none (Value.str (Str.ofString "law_codewalk_k31_handlers_of_rows") 1498) Option.none (Value.ref 551) Value.none 0)) #[]
def ob349 : Obj := Obj.mk (Value.type "tuple") Option.none (Data.seq #[Value.str (Str.ofString "_law_script") 1637, Value.str (Str.ofString "_law_cell") 1638, Value.str (Str.ofString "_law_env") 1639, Value.str (Str.ofString "_law_kept") 1640]) #[]
def ob350 : Obj := Obj.mk Value.none Option.none (Data.func (FuncData.mk (Str.ofString "law") (Str.ofString "law") (L2.defArgs (C31.ztop 100)) (FuncBody.stmts (L2.defBody (C31.ztop 100))) (L2.defScope (C31.ztop 100)) 0 [] Value.none Value.none Value.none Value.none Option.none Value.none Value.none 0)) #[]
def ob351 : Obj := Obj.mk (Value.type "code") Option.none (Data.fields #[Value.str (Str.ofString "law") 1634, Value.str (Str.ofString "law") 1635, Value.str (Str.ofString "/claim/cut.py") 1636, Value.int 677 0, Value.int 1 0, Value.int 0 0, Value.int 0 0, Value.int 3 0, Value.ref 553, Value.bool Bool.true, Value.int 181 0, Value.ref 554, Value.none, Value.ref 555, Value.ref 556, Value.ref 557, Value.int 1641 0, Value.int 677 0, Value.str (Str.ofString "/claim/cut.py") 1642]) #[]
def ob352 : Obj := Obj.mk (Value.type "function") Option.none (Data.func (FuncData.mk (Str.ofString "law") (Str.ofString "law") (L2.defArgs (C31.ztop 100)) (FuncBody.stmts (L2.defBody (C31.ztop 100))) (L2.defScope (C31.ztop 100)) 3 [] Value.none Value.none Value.none (Value.str (Str.ofString "law_codewalk_k31_handlers_of_rows") 1498) Option.none (Value.ref 558) Value.none 0)) #[]
def midT (P : Params) : PySem.W.BT := (.node (ob0 P) (.node (ob1 P) (.node (ob3 P) (.node ob7 (.node (ob14 P) (.node (ob30 P) (.node ob8 (.node ob91 .nil .nil) (.node ob131 .nil .nil)) (.node ob70 (.node ob7 .nil .nil) .nil)) (.node ob7 (.node ob7 (.node ob104 .nil .nil) (.node ob8 .nil .nil)) (.node ob8 (.node ob122 .nil .nil) .nil))) (.node ob22 (.node ob36 (.node ob55 (.node ob99 .nil .nil) (.node ob7 .nil .nil)) (.node ob7 (.node ob117 .nil .nil) .nil)) (.node ob46 (.node ob7 (.node ob7 .nil .nil) (.node ob146 .nil .nil)) (.node ob84 (.node ob127 .nil .nil) .nil)))) (.node ob7 (.node (ob18 P) (.node (ob34 P) (.node ob53 (.node ob95 .nil .nil) (.node ob8 .nil .nil)) (.node ob8 (.node ob7 .nil .nil) .nil)) (.node ob7 (.node ob63 (.node ob7 .nil .nil) (.node ob144 .nil .nil)) (.node ob82 (.node ob124 .nil .nil) .nil))) (.node ob26 (.node ob39 (.node ob8 (.node ob101 .nil .nil) (.node ob139 .nil .nil)) (.node ob77 (.node ob8 .nil .nil) .nil)) (.node ob48 (.node ob7 (.node ob111 .nil .nil) (.node ob149 .nil .nil)) (.node ob87 (.node ob129 .nil .nil) .nil))))) (.node ob5 (.node ob9 (.node (ob16 P) (.node (ob32 P) (.node ob7 (.node ob93 .nil .nil) (.node ob133 .nil .nil)) (.node ob72 (.node ob114 .nil .nil) .nil)) (.node ob42 (.node ob61 (.node ob8 .nil .nil) (.node ob7 .nil .nil)) (.node ob7 (.node ob7 .nil .nil) .nil))) (.node ob24 (.node ob37 (.node ob57 (.node ob7 .nil .nil) (.node ob137 .nil .nil)) (.node ob76 (.node ob119 .nil .nil) .nil)) (.node ob8 (.node ob67 (.node ob109 .nil .nil) (.node ob147 .nil .nil)) (.node ob85 (.node ob8 .nil .nil) .nil)))) (.node ob12 (.node ob20 (.node ob7 (.node ob7 (.node ob97 .nil .nil) (.node ob135 .nil .nil)) (.node ob74 (.node ob116 .nil .nil) .nil)) (.node ob44 (.node ob64 (.node ob107 .nil .nil) (.node ob7 .nil .nil)) (.node ob7 (.node ob125 .nil .nil) .nil))) (.node ob28 (.node ob8 (.node ob59 (.node ob102 .nil .nil) (.node (ob141 P) .nil .nil)) (.node ob79 (.node ob7 .nil .nil) .nil)) (.node (ob50 P) (.node ob69 (.node ob8 .nil .nil) .nil) (.node (ob89 P) (.node ob7 .nil .nil) .nil)))))) (.node ob2 (.node ob4 (.node ob8 (.node (ob15 P) (.node (ob31 P) (.node ob51 (.node ob92 .nil .nil) (.node ob132 .nil .nil)) (.node ob71 (.node ob113 .nil .nil) .nil)) (.node ob41 (.node ob8 (.node ob7 .nil .nil) (.node ob142 .nil .nil)) (.node ob80 (.node ob123 .nil .nil) .nil))) (.node ob23 (.node ob7 (.node ob56 (.node (ob100 P) .nil .nil) (.node ob8 .nil .nil)) (.node ob8 (.node ob118 .nil .nil) .nil)) (.node ob7 (.node ob66 (.node ob8 .nil .nil) (.node ob7 .nil .nil)) (.node ob7 (.node ob7 .nil .nil) .nil)))) (.node ob11 (.node (ob19 P) (.node (ob35 P) (.node ob54 (.node (ob96 P) .nil .nil) (.node ob134 .nil .nil)) (.node ob73 (.node ob8 .nil .nil) .nil)) (.node ob8 (.node ob7 (.node ob106 .nil .nil) (.node ob145 .nil .nil)) (.node ob83 (.node ob7 .nil .nil) .nil))) (.node ob27 (.node ob7 (.node ob58 (.node ob7 .nil .nil) (.node (ob140 P) .nil .nil)) (.node ob78 (.node ob120 .nil .nil) .nil)) (.node ob49 (.node ob8 (.node ob7 .nil .nil) .nil) (.node ob88 (.node ob130 .nil .nil) .nil))))) (.node ob6 (.node ob10 (.node (ob17 P) (.node (ob33 P) (.node ob52 (.node ob94 .nil .nil) (.node ob7 .nil .nil)) (.node ob7 (.node ob115 .nil .nil) .nil)) (.node ob43 (.node ob62 (.node ob105 .nil .nil) (.node ob143 .nil .nil)) (.node ob81 (.node ob8 .nil .nil) .nil))) (.node ob25 (.node ob38 (.node ob7 (.node ob8 .nil .nil) (.node ob138 .nil .nil)) (.node ob7 (.node ob7 .nil .nil) .nil)) (.node ob47 (.node ob68 (.node ob110 .nil .nil) (.node ob148 .nil .nil)) (.node ob86 (.node ob128 .nil .nil) .nil)))) (.node ob13 (.node ob21 (.node ob8 (.node ob8 (.node ob98 .nil .nil) (.node ob136 .nil .nil)) (.node ob75 (.node ob7 .nil .nil) .nil)) (.node ob45 (.node (ob65 P) (.node ob108 .nil .nil) (.node ob8 .nil .nil)) (.node ob8 (.node ob126 .nil .nil) .nil))) (.node (ob29 P) (.node ob40 (.node ob60 (.node ob103 .nil .nil) (.node ob7 .nil .nil)) (.node ob7 (.node ob121 .nil .nil) .nil)) (.node ob7 (.node ob7 (.node ob112 .nil .nil) .nil) (.node ob90 (.node ob8 .nil .nil) .nil)))))))
def midS (P : Params) (os : OsState) : PySem.W.SharedT := ⟨midT P, 220, Life.mk [] [] [] 0 [] [] Bool.false #[] [] 0 Bool.false Bool.false Bool.false 0 [2000, 10, 10] Bool.false 0 Bool.true [] [] 0 Bool.false, #[], Drawn.mk 0 0 0 0, 1058, os⟩
def finT (P : Params) : PySem.W.BT := (.node (ob0 P) (.node (ob1 P) (.node (ob150 P) (.node ob7 (.node (ob14 P) (.node (ob30 P) (.node ob8 (.node ob91 (.node ob171 (.node ob7 .nil .nil) .nil) (.node ob249 .nil .nil)) (.node ob131 (.node ob7 .nil .nil) (.node ob288 .nil .nil))) (.node ob70 (.node ob7 (.node ob193 (.node ob342 .nil .nil) .nil) (.node (ob268 P) .nil .nil)) (.node ob7 (.node ob7 .nil .nil) (.node ob7 .nil .nil)))) (.node ob7 (.node ob7 (.node ob104 (.node ob180 (.node ob333 .nil .nil) .nil) (.node ob258 .nil .nil)) (.node ob8 (.node ob221 .nil .nil) (.node ob8 .nil .nil))) (.node ob8 (.node ob122 (.node ob8 (.node ob352 .nil .nil) .nil) (.node ob278 .nil .nil)) (.node ob7 (.node ob239 .nil .nil) (.node ob315 .nil .nil))))) (.node ob22 (.node ob36 (.node ob55 (.node ob99 (.node ob7 (.node ob8 .nil .nil) .nil) (.node ob253 .nil .nil)) (.node ob7 (.node ob216 .nil .nil) (.node ob7 .nil .nil))) (.node ob7 (.node ob117 (.node ob198 (.node ob347 .nil .nil) .nil) (.node ob7 .nil .nil)) (.node ob157 (.node ob8 .nil .nil) (.node ob310 .nil .nil)))) (.node ob46 (.node ob7 (.node ob7 (.node ob185 (.node ob7 .nil .nil) .nil) (.node ob263 .nil .nil)) (.node ob146 (.node ob226 .nil .nil) (.node ob301 .nil .nil))) (.node ob84 (.node ob127 (.node ob207 .nil .nil) (.node ob283 .nil .nil)) (.node ob8 (.node ob244 .nil .nil) (.node ob320 .nil .nil)))))) (.node ob7 (.node (ob18 P) (.node (ob34 P) (.node ob53 (.node ob95 (.node ob174 (.node ob326 .nil .nil) .nil) (.node ob251 .nil .nil)) (.node ob8 (.node ob7 .nil .nil) (.node ob7 .nil .nil))) (.node ob8 (.node ob7 (.node ob8 (.node ob8 .nil .nil) .nil) (.node ob272 .nil .nil)) (.node ob7 (.node ob232 .nil .nil) (.node ob7 .nil .nil)))) (.node ob7 (.node ob63 (.node ob7 (.node ob8 (.node ob336 .nil .nil) .nil) (.node ob260 .nil .nil)) (.node ob144 (.node ob223 .nil .nil) (.node ob299 .nil .nil))) (.node ob82 (.node ob124 (.node ob205 .nil .nil) (.node ob8 .nil .nil)) (.node ob164 (.node ob8 .nil .nil) (.node ob317 .nil .nil))))) (.node ob26 (.node ob39 (.node ob8 (.node ob101 (.node ob7 (.node ob331 .nil .nil) .nil) (.node ob256 .nil .nil)) (.node ob139 (.node ob8 .nil .nil) (.node ob294 .nil .nil))) (.node ob77 (.node ob8 (.node ob200 (.node ob349 .nil .nil) .nil) (.node ob7 .nil .nil)) (.node ob8 (.node ob7 .nil .nil) (.node ob8 .nil .nil)))) (.node ob48 (.node ob7 (.node ob111 (.node ob189 (.node ob7 .nil .nil) .nil) (.node ob7 .nil .nil)) (.node ob149 (.node ob7 .nil .nil) (.node ob304 .nil .nil))) (.node ob87 (.node ob129 (.node ob210 .nil .nil) (.node ob285 .nil .nil)) (.node ob169 (.node ob246 .nil .nil) (.node ob7 .nil .nil))))))) (.node ob5 (.node ob9 (.node (ob16 P) (.node (ob32 P) (.node ob7 (.node ob93 (.node ob172 (.node ob325 .nil .nil) .nil) (.node ob8 .nil .nil)) (.node ob133 (.node ob213 .nil .nil) (.node ob8 .nil .nil))) (.node ob72 (.node ob114 (.node (ob195 P) (.node ob344 .nil .nil) .nil) (.node ob270 .nil .nil)) (.node ob154 (.node ob231 .nil .nil) (.node ob307 .nil .nil)))) (.node ob42 (.node ob61 (.node ob8 (.node ob182 (.node ob334 .nil .nil) .nil) (.node ob7 .nil .nil)) (.node ob7 (.node ob7 .nil .nil) (.node ob7 .nil .nil))) (.node ob7 (.node ob7 (.node ob7 .nil .nil) (.node ob280 .nil .nil)) (.node ob163 (.node ob241 .nil .nil) (.node ob7 .nil .nil))))) (.node ob24 (.node ob37 (.node ob57 (.node ob7 (.node ob177 (.node ob7 .nil .nil) .nil) (.node ob254 .nil .nil)) (.node ob137 (.node ob218 .nil .nil) (.node ob293 .nil .nil))) (.node ob76 (.node ob119 (.node ob7 (.node ob7 .nil .nil) .nil) (.node ob275 .nil .nil)) (.node ob159 (.node ob236 .nil .nil) (.node ob312 .nil .nil)))) (.node ob8 (.node ob67 (.node ob109 (.node (ob187 P) (.node ob339 .nil .nil) .nil) (.node ob8 .nil .nil)) (.node ob147 (.node ob8 .nil .nil) (.node ob302 .nil .nil))) (.node ob85 (.node ob8 (.node ob208 .nil .nil) (.node ob7 .nil .nil)) (.node ob7 (.node ob7 .nil .nil) (.node ob8 .nil .nil)))))) (.node ob12 (.node ob20 (.node ob7 (.node ob7 (.node ob97 (.node ob8 (.node ob328 .nil .nil) .nil) (.node ob7 .nil .nil)) (.node ob135 (.node ob215 .nil .nil) (.node ob291 .nil .nil))) (.node ob74 (.node ob116 (.node ob7 (.node ob7 .nil .nil) .nil) (.node ob8 .nil .nil)) (.node ob156 (.node ob234 .nil .nil) (.node ob309 .nil .nil)))) (.node ob44 (.node ob64 (.node ob107 (.node ob7 (.node ob8 .nil .nil) .nil) (.node ob261 .nil .nil)) (.node ob7 (.node ob224 .nil .nil) (.node ob7 .nil .nil))) (.node ob7 (.node ob125 (.node ob7 .nil .nil) (.node ob7 .nil .nil)) (.node ob166 (.node ob7 .nil .nil) (.node ob318 .nil .nil))))) (.node ob28 (.node ob8 (.node ob59 (.node ob102 (.node ob179 (.node ob7 .nil .nil) .nil) (.node ob8 .nil .nil)) (.node (ob141 P) (.node ob7 .nil .nil) (.node ob296 .nil .nil))) (.node ob79 (.node ob7 (.node ob202 (.node ob350 .nil .nil) .nil) (.node ob277 .nil .nil)) (.node ob161 (.node ob238 .nil .nil) (.node ob7 .nil .nil)))) (.node (ob50 P) (.node ob69 (.node ob8 (.node ob191 (.node ob341 .nil .nil) .nil) (.node ob266 .nil .nil)) (.node ob8 (.node ob229 .nil .nil) (.node ob8 .nil .nil))) (.node (ob89 P) (.node ob7 (.node ob8 .nil .nil) (.node ob286 .nil .nil)) (.node ob7 (.node ob247 .nil .nil) (.node ob323 .nil .nil)))))))) (.node ob2 (.node ob4 (.node ob8 (.node (ob15 P) (.node (ob31 P) (.node ob51 (.node ob92 (.node ob7 (.node ob8 .nil .nil) .nil) (.node ob7 .nil .nil)) (.node ob132 (.node ob212 .nil .nil) (.node ob7 .nil .nil))) (.node ob71 (.node ob113 (.node ob194 (.node ob343 .nil .nil) .nil) (.node ob269 .nil .nil)) (.node ob153 (.node ob8 .nil .nil) (.node ob306 .nil .nil)))) (.node ob41 (.node ob8 (.node ob7 (.node ob181 (.node ob7 .nil .nil) .nil) (.node ob259 .nil .nil)) (.node ob142 (.node ob222 .nil .nil) (.node ob297 .nil .nil))) (.node ob80 (.node ob123 (.node ob203 .nil .nil) (.node ob279 .nil .nil)) (.node ob8 (.node ob240 .nil .nil) (.node ob316 .nil .nil))))) (.node ob23 (.node ob7 (.node ob56 (.node (ob100 P) (.node ob176 (.node ob329 .nil .nil) .nil) (.node ob7 .nil .nil)) (.node ob8 (.node ob217 .nil .nil) (.node ob8 .nil .nil))) (.node ob8 (.node ob118 (.node ob199 (.node ob348 .nil .nil) .nil) (.node ob274 .nil .nil)) (.node ob158 (.node ob235 .nil .nil) (.node ob311 .nil .nil)))) (.node ob7 (.node ob66 (.node ob8 (.node ob186 (.node ob338 .nil .nil) .nil) (.node ob7 .nil .nil)) (.node ob7 (.node ob7 .nil .nil) (.node ob7 .nil .nil))) (.node ob7 (.node ob7 (.node ob7 .nil .nil) (.node ob284 .nil .nil)) (.node ob167 (.node ob245 .nil .nil) (.node ob7 .nil .nil)))))) (.node ob151 (.node (ob19 P) (.node (ob35 P) (.node ob54 (.node (ob96 P) (.node ob7 (.node ob327 .nil .nil) .nil) (.node ob252 .nil .nil)) (.node ob134 (.node ob8 .nil .nil) (.node ob290 .nil .nil))) (.node ob73 (.node ob8 (.node ob196 (.node ob345 .nil .nil) .nil) (.node ob7 .nil .nil)) (.node ob8 (.node ob233 .nil .nil) (.node ob8 .nil .nil)))) (.node ob8 (.node ob7 (.node ob106 (.node ob183 (.node ob7 .nil .nil) .nil) (.node ob7 .nil .nil)) (.node ob145 (.node ob7 .nil .nil) (.node ob300 .nil .nil))) (.node ob83 (.node ob7 (.node ob206 .nil .nil) (.node ob281 .nil .nil)) (.node ob165 (.node ob242 .nil .nil) (.node ob7 .nil .nil))))) (.node ob27 (.node ob7 (.node ob58 (.node ob7 (.node ob8 (.node ob332 .nil .nil) .nil) (.node ob7 .nil .nil)) (.node (ob140 P) (.node ob219 .nil .nil) (.node ob295 .nil .nil))) (.node ob78 (.node ob120 (.node ob201 (.node ob7 .nil .nil) .nil) (.node ob8 .nil .nil)) (.node ob160 (.node ob8 .nil .nil) (.node ob313 .nil .nil)))) (.node ob49 (.node ob8 (.node ob7 (.node ob190 (.node ob8 .nil .nil) .nil) (.node ob265 .nil .nil)) (.node ob7 (.node ob228 .nil .nil) (.node ob7 .nil .nil))) (.node ob88 (.node ob130 (.node ob7 .nil .nil) (.node ob7 .nil .nil)) (.node ob170 (.node ob7 .nil .nil) (.node ob322 .nil .nil))))))) (.node ob6 (.node ob10 (.node (ob17 P) (.node (ob33 P) (.node ob52 (.node ob94 (.node ob173 (.node ob7 .nil .nil) .nil) (.node ob250 .nil .nil)) (.node ob7 (.node ob214 .nil .nil) (.node ob289 .nil .nil))) (.node ob7 (.node ob115 (.node ob7 (.node ob7 .nil .nil) .nil) (.node (ob271 P) .nil .nil)) (.node ob155 (.node ob7 .nil .nil) (.node ob308 .nil .nil)))) (.node ob43 (.node ob62 (.node ob105 (.node ob7 (.node ob335 .nil .nil) .nil) (.node ob8 .nil .nil)) (.node ob143 (.node ob8 .nil .nil) (.node ob298 .nil .nil))) (.node ob81 (.node ob8 (.node ob204 .nil .nil) (.node ob7 .nil .nil)) (.node ob7 (.node ob7 .nil .nil) (.node ob8 .nil .nil))))) (.node ob25 (.node ob38 (.node ob7 (.node ob8 (.node ob178 (.node ob330 .nil .nil) .nil) (.node ob255 .nil .nil)) (.node ob138 (.node ob7 .nil .nil) (.node ob7 .nil .nil))) (.node ob7 (.node ob7 (.node ob8 (.node ob8 .nil .nil) .nil) (.node ob276 .nil .nil)) (.node ob7 (.node ob237 .nil .nil) (.node ob7 .nil .nil)))) (.node ob47 (.node ob68 (.node ob110 (.node (ob188 P) (.node ob340 .nil .nil) .nil) (.node ob264 .nil .nil)) (.node ob148 (.node ob227 .nil .nil) (.node ob303 .nil .nil))) (.node ob86 (.node ob128 (.node ob209 .nil .nil) (.node ob8 .nil .nil)) (.node ob168 (.node ob8 .nil .nil) (.node ob321 .nil .nil)))))) (.node ob13 (.node ob21 (.node ob8 (.node ob8 (.node ob98 (.node ob175 (.node ob7 .nil .nil) .nil) (.node ob8 .nil .nil)) (.node ob136 (.node ob7 .nil .nil) (.node ob292 .nil .nil))) (.node ob75 (.node ob7 (.node ob197 (.node ob346 .nil .nil) .nil) (.node ob273 .nil .nil)) (.node ob7 (.node ob7 .nil .nil) (.node ob7 .nil .nil)))) (.node ob45 (.node (ob65 P) (.node ob108 (.node ob184 (.node ob337 .nil .nil) .nil) (.node ob262 .nil .nil)) (.node ob8 (.node ob225 .nil .nil) (.node ob8 .nil .nil))) (.node ob8 (.node ob126 (.node ob8 .nil .nil) (.node ob282 .nil .nil)) (.node ob7 (.node ob243 .nil .nil) (.node ob319 .nil .nil))))) (.node (ob29 P) (.node ob40 (.node ob60 (.node ob103 (.node ob7 (.node ob8 .nil .nil) .nil) (.node ob257 .nil .nil)) (.node ob7 (.node ob220 .nil .nil) (.node ob7 .nil .nil))) (.node ob7 (.node ob121 (.node ob7 (.node ob351 .nil .nil) .nil) (.node ob7 .nil .nil)) (.node ob162 (.node ob7 .nil .nil) (.node ob314 .nil .nil)))) (.node ob7 (.node ob7 (.node ob112 (.node ob192 (.node ob7 .nil .nil) .nil) (.node ob267 .nil .nil)) (.node ob152 (.node ob230 .nil .nil) (.node ob305 .nil .nil))) (.node ob90 (.node ob8 (.node ob211 .nil .nil) (.node ob287 .nil .nil)) (.node ob8 (.node ob248 .nil .nil) (.node ob324 .nil .nil)))))))))
def finS (P : Params) (os : OsState) : PySem.W.SharedT := ⟨finT P, 560, Life.mk [] [] [] 0 [] [] Bool.false #[] [] 0 Bool.false Bool.false Bool.false 0 [2000, 10, 10] Bool.false 0 Bool.true [] [] 0 Bool.false, #[], Drawn.mk 0 0 0 0, 1644, os⟩
end
open PySem.W PySem.Calls HandSHeadRun
section
variable (st : SharedT → Thread → Option (SharedT × Thread)) (n0 : Nat) (ann : Option Value)
/-- so many steps -/
def runK : Nat → SharedT → Thread → Option (SharedT × Thread)
  | 0, s, t => some (s, t)
  | m + 1, s, t => match through t with
    | true => none
    | false => match stepOk n0 ann t with
      | false => none
      | true => match st s t with
        | some (s', t') => frS s' fun s' => runK m s' t'
        | none => none
theorem goF_run : ∀ {k : Nat} {M : Nat} {s s' : SharedT} {t t' : Thread}, runK st n0 ann k s t = some (s', t') → goF st n0 ann (k + M) s t = goF st n0 ann M s' t'
  | 0, M, s, s', t, t', h => by
    cases h
    rw [Nat.zero_add]
  | k + 1, M, s, s', t, t', h => by
    rw [show k + 1 + M = (k + M) + 1 by omega]
    unfold runK at h
    conv => lhs; unfold goF
    cases e1 : through t with
    | true => rw [e1] at h; cases h
    | false =>
      rw [e1] at h
      cases e2 : stepOk n0 ann t with
      | false => rw [e2] at h; cases h
      | true =>
        rw [e2] at h
        cases e3 : st s t with
        | none => rw [e3] at h; cases h
        | some r =>
          obtain ⟨s1, t1⟩ := r
          rw [e3] at h
          have h : (frS s1 fun s' => runK st n0 ann k s' t1) = some (s', t') := h
          show (frS s1 fun s' => goF st n0 ann (k + M) s' t1) = _
          rw [frS_eq] at h ⊢
          exact goF_run h
end
/-- the first half, from the boot -/
noncomputable def half1 (st : SharedT → Thread → Option (SharedT × Thread)) (k : Nat) (w : World) (os : OsState) (th : Thread) : Option (Nat × SharedT × Thread) := match putAll (boot_heap w.params).objs.toList .nil 0 with
  | some (t, n) => frNat n fun n0 => (match runK st n0 (bootAnn w) k (bootT w os (t, n0)) th with
    | some (s, t) => some (n0, s, t)
    | none => none)
  | none => none
theorem end_two {st : SharedT → Thread → Option (SharedT × Thread)} {k M n0 : Nat} {p : Program} {w : World} {os : OsState} {m f : SharedT} {th : Thread} (A : half1 st k w os (topStub p) = some (n0, m, th)) (B : goF st n0 (bootAnn w) M m th = some f) : endF st (k + M) p w os = some f := by
  unfold half1 at A
  unfold endF
  cases e : putAll (boot_heap w.params).objs.toList .nil 0 with
  | none => rw [e] at A; cases A
  | some r =>
    obtain ⟨t, n⟩ := r
    rw [e] at A
    have A : (frNat n fun n0 => (match runK st n0 (bootAnn w) k (bootT w os (t, n0)) (topStub p) with
      | some (s, t) => some (n0, s, t)
      | none => none)) = some (n0, m, th) := A
    show (frNat n fun n0 => goF st n0 (bootAnn w) (k + M) (bootT w os (t, n0)) (topStub p)) = some f
    rw [frNat_eq] at A ⊢
    cases e2 : runK st n (bootAnn w) k (bootT w os (t, n)) (topStub p) with
    | none => rw [e2] at A; cases A
    | some r =>
      obtain ⟨s1, t1⟩ := r
      rw [e2] at A
      have A : some (n, s1, t1) = some (n0, m, th) := A
      cases A
      rw [goF_run st _ (bootAnn w) e2]
      exact B
abbrev envM : Env := { scope := Rk.prog.main.scope, locals := mainNs, globals := mainNs, cells := [], code := Value.ref 13, frame := some 14 }
noncomputable def thM : Thread := ⟨denQ tabQ (.body ((behindTheImports Rk.prog).drop 44) envM), .body (behindTheImports Rk.prog) envM, Pos.mk 264 0 281 15, [topFrame (Pos.mk 0 0 0 0)]⟩
noncomputable abbrev stW (w : World) : SharedT → Thread → Option (SharedT × Thread) := stepQ (denQ tabQ) Rk.prog w
theorem segAT (w : World) (os : OsState) : half1 (stW (fixW w true)) 5095 (fixW w true) os (topStub Rk.prog) = some (11, midS (fixW w true).params os, thM) := by
  kernel_rfl
theorem segBT (w : World) (os : OsState) : goF (stW (fixW w true)) 11 (bootAnn (fixW w true)) 10905 (midS (fixW w true).params os) thM = some (finS (fixW w true).params os) := by
  kernel_rfl
theorem endT (w : World) (os : OsState) : endW (fixW w true) os = some (finS (fixW w true).params os) := end_two (k := 5095) (M := 10905) (segAT w os) (segBT w os)
theorem segAF (w : World) (os : OsState) : half1 (stW (fixW w false)) 5095 (fixW w false) os (topStub Rk.prog) = some (11, midS (fixW w false).params os, thM) := by
  kernel_rfl
theorem segBF (w : World) (os : OsState) : goF (stW (fixW w false)) 11 (bootAnn (fixW w false)) 10905 (midS (fixW w false).params os) thM = some (finS (fixW w false).params os) := by
  kernel_rfl
theorem endF (w : World) (os : OsState) : endW (fixW w false) os = some (finS (fixW w false).params os) := end_two (k := 5095) (M := 10905) (segAF w os) (segBF w os)

theorem run1T (w : World) (os : OsState) : (endW (fixW w true) os).map (fun s => (HandSHeadRun.looksF Rk.prog (boot_heap (fixW w true).params) s.abs, HandSHeadRun.seenQ (PySem.W.view Rk.prog [100]) loose (importedModules Rk.prog.main.body) (fun s => xlAt (PySem.W.view Rk.prog [100]) [] s && recOk Rk.toRowW.records s) s.abs)) = some (true, openGood (PySem.W.view Rk.prog [100]) loose) := by
  rw [endT]
  kernel_rfl
theorem run2T (w : World) (os : OsState) : (endW (fixW w true) os).map (fun s => He.obsT fas fns tabs (K_ s)) = some (He.valT fns tabs (fixW w true)) := by
  rw [endT]
  kernel_rfl
theorem run3T (w : World) (os : OsState) : (endW (fixW w true) os).map (fun s => (exA (K_ s) && He.tabsB (HandSHeadRun.getT s) tfs (K_ s))) = some true := by
  rw [endT]
  kernel_rfl
theorem run4T (w : World) (os : OsState) : (endW (fixW w true) os).map (fun s => (exF (K_ s) && exG (K_ s))) = some true := by
  rw [endT]
  kernel_rfl
theorem run1F (w : World) (os : OsState) : (endW (fixW w false) os).map (fun s => (HandSHeadRun.looksF Rk.prog (boot_heap (fixW w false).params) s.abs, HandSHeadRun.seenQ (PySem.W.view Rk.prog [100]) loose (importedModules Rk.prog.main.body) (fun s => xlAt (PySem.W.view Rk.prog [100]) [] s && recOk Rk.toRowW.records s) s.abs)) = some (true, openGood (PySem.W.view Rk.prog [100]) loose) := by
  rw [endF]
  kernel_rfl
theorem run2F (w : World) (os : OsState) : (endW (fixW w false) os).map (fun s => He.obsT fas fns tabs (K_ s)) = some (He.valT fns tabs (fixW w false)) := by
  rw [endF]
  kernel_rfl
theorem run3F (w : World) (os : OsState) : (endW (fixW w false) os).map (fun s => (exA (K_ s) && He.tabsB (HandSHeadRun.getT s) tfs (K_ s))) = some true := by
  rw [endF]
  kernel_rfl
theorem run4F (w : World) (os : OsState) : (endW (fixW w false) os).map (fun s => (exF (K_ s) && exG (K_ s))) = some true := by
  rw [endF]
  kernel_rfl
theorem comb {α β γ δ : Type} {o : Option α} {f : α → β} {g : α → γ} {x y1 y2 z : α → Bool} {b : β} {c : γ} {d : α → δ} {dv : δ} (h1 : o.map (fun s => (f s, g s)) = some (b, c)) (h2 : o.map (fun s => d s) = some dv) (h3 : o.map (fun s => (x s && z s)) = some true) (h4 : o.map (fun s => (y1 s && y2 s)) = some true) :
    o.map (fun s => (f s, g s, (d s, (x s && (y1 s && y2 s)) && z s))) = some (b, c, (dv, true)) := by
  cases o with
  | none => cases h3
  | some s =>
    have e1 : (f s, g s) = (b, c) := Option.some.inj h1
    have e2 : d s = dv := Option.some.inj h2
    have e3 : (x s && z s) = true := Option.some.inj h3
    have e4 : (y1 s && y2 s) = true := Option.some.inj h4
    rw [Bool.and_eq_true] at e3 e4
    obtain ⟨e5, e6⟩ := e3
    obtain ⟨e7, e8⟩ := e4
    cases e1
    subst e2
    show some (f s, g s, (d s, (x s && (y1 s && y2 s)) && z s)) = _
    rw [e5, e6, e7, e8]
    rfl
theorem runk (w : World) : HandSHeadRun.RunEq Rk (PySem.W.view Rk.prog [100]) hkk obk 16000 loose w := by
  have h : ∀ b, HandSHeadRun.RunEq Rk (PySem.W.view Rk.prog [100]) hkk obk 16000 loose (fixW w b) := fun b => by
    cases b
    · exact fun os => comb (run1F w os) (run2F w os) (run3F w os) (run4F w os)
    · exact fun os => comb (run1T w os) (run2T w os) (run3T w os) (run4T w os)
  have h2 := h (w.params.followText "special-get-raises")
  rw [fixW_eq] at h2
  exact h2
end C31

set_option maxHeartbeats 1000000
namespace C31
open PySem PySem.Spec PyProof.Rows L2
def top (i : Nat) : Stmt := PySem.Challenge.pw_codewalk_k31_handlers_of_rows.main.body.getD i (.Pass ⟨0, 0, 0, 0⟩)
abbrev FnP (K : PySem.W.Frag) (x q : Str) (st : Stmt) (f : Addr) (fd : FuncData) : Prop := FunD K x q (defArgs st) (defBody st) (defScope st) [] [] f fd
/-- a def of the program as its callers see it -/
structure Cal (P : Program) (w : World) (K : PySem.W.Frag) (mg : Str → Option Value) (base : Heap) (k : Nat) (x : Str) (ps : List Str) (sp : Sp) : Prop where
  ex : ∃ f fd, FnOk P w K mg base CX0 k f fd ps sp ∧ mg x = some (.ref f) ∧ PySem.W.keepIn K (.ref f) = true ∧ Binds K fd ps []
theorem pe_cal {X : Cx} {k : Nat} {x : Str} {ps : List Str} {sp : Sp} {e : Expr} {es : List Expr} {t : TA} {p pos : Pos} (C : Cal X.prog X.w X.K X.mg X.base k x ps sp) (hr : Room k X.A) (hg : Gl X x) (ha : PA X (e :: es) t)
    (hdb : (x == ("__debug__" : Str)) = false := by decide) (he : starEach (e :: es) X.env = (false, eval e X.env) :: starEach es X.env := by rfl) (hpl : (backTo pos (starEach es X.env)).any (·.1) = false := by rfl) :
    PE X (.Call (.Name x p) (e :: es) [] pos) (tCall sp [] E0 t) := by
  obtain ⟨f, fd, F, m, kp, b⟩ := C.ex
  exact pe_call F hr hg m kp b .nil pass0 ha hdb he hpl
theorem pe_gi {X : Cx} {x : Str} {n : Int} {pos : Pos} (h : ∃ t, X.mg x = some (.int n t)) (hg : Gl X x := by rfl) (hdb : (x == ("__debug__" : Str)) = false := by decide) : PE X (.Name x pos) (tC (.int n)) := by
  obtain ⟨t, h⟩ := h
  exact pe_glob hg h ⟨t, rfl⟩ hdb
/-! ### own rules in a form that simp can reckon: each reading names what it finds in the heap by an equation -/
section
variable {X : Cx}
theorem OpR.imp' {g : Value → Value → Sem Value} {r r' : R2} (h : OpR X g r) (i : ∀ x y H Q, r' x y H Q → r x y H Q) : OpR X g r' := fun pins s σ H x y v u Q I rx ry q => h pins s σ H x y v u Q I rx ry (i _ _ _ _ q)
theorem IxR.imp' {r r' : R2} (h : IxR X r) (i : ∀ x y H Q, r' x y H Q → r x y H Q) : IxR X r' := fun e1 e2 pins s σ H x y v u Q I rx ry q => h e1 e2 pins s σ H x y v u Q I rx ry (i _ _ _ _ q)
theorem CallR.imp' {g : Value} {r r' : List V → Hp → VK → Prop} (h : CallR X g r) (i : ∀ xs H Q, r' xs H Q → r xs H Q) : CallR X g r' := fun pins s σ H xs us Q I rx q => h pins s σ H xs us Q I rx (i _ _ _ q)
theorem SlR.imp' {r r' : V → Option Int → Option Int → Hp → VK → Prop} (h : L2.SlR X r) (i : ∀ x a b H Q, r' x a b H Q → r x a b H Q) : L2.SlR X r' := fun pins s σ H x v vl vu lo hi sl Q I rx hs pl pu q => h pins s σ H x v vl vu lo hi sl Q I rx hs pl pu (i _ _ _ _ _ q)
theorem PE.weak {e : Expr} {t t' : TE} (h : PE X e t) (i : ∀ σ H Q, t' σ H Q → t σ H Q) : PE X e t' := ⟨fun pins s σ H Q I q => h.run pins s σ H Q I (i _ _ _ q)⟩
/-- the monotone closure of a reading -/
def mcl (te : TE) : TE := fun σ H Q => ∃ Q0 : VK, te σ H Q0 ∧ ∀ v H', Q0 v H' → Q v H'
theorem PE.mcl {e : Expr} {te : TE} (h : PE X e te) : PE X e (mcl te) := ⟨fun pins s σ H Q I q => by
  obtain ⟨Q0, q0, m⟩ := q
  exact thn (h.run pins s σ H Q0 I q0) fun u s1 ⟨v, H1, I1, r1, q1⟩ => ⟨v, H1, I1, r1, m _ _ q1⟩⟩
theorem pip_of {op : Operator} {r : R2} (h : OpR X (inplaceOp op) r) : PIp X op r := fun pins s σ H x y v u Q I rx ry q => h pins s σ H x y v u Q I rx ry q
/-- what a list or a tuple holds -/
def sq : Option HO → Option (List V)
  | some (.lst xs) => some xs
  | some (.tup xs) => some xs
  | _ => none
@[simp] theorem sq_lst {xs : List V} : sq (some (.lst xs)) = some xs := rfl
@[simp] theorem sq_tup {xs : List V} : sq (some (.tup xs)) = some xs := rfl
theorem sq_cases {o : Option HO} {xs : List V} (h : sq o = some xs) : o = some (.lst xs) ∨ o = some (.tup xs) := by
  unfold sq at h
  split at h
  · exact .inl (by rw [Option.some.inj h])
  · exact .inr (by rw [Option.some.inj h])
  · cases h
def rIxd : R2 := fun x y H Q => ∃ p i xs v, x = .ref p ∧ y = .int i ∧ sq (H p) = some xs ∧ atI xs i = some v ∧ Q v H
theorem ix_d : IxR X rIxd := IxR.imp' (IxR.or (ix_list (X := X)) (ix_tup (X := X))) fun x y H Q ⟨p, i, xs, v, e1, e2, h, ha, q⟩ => by
  rcases sq_cases h with h | h
  · exact .inl ⟨p, xs, i, v, e1, e2, SqL.of h, ha, q⟩
  · exact .inr ⟨p, xs, i, v, e1, e2, SqT.of h, ha, q⟩
def rLend : List V → Hp → VK → Prop := fun vs H Q => ∃ p xs, vs = [.ref p] ∧ sq (H p) = some xs ∧ Q (.int xs.length) H
theorem call_len_d : CallR X (.builtin "len") rLend := CallR.imp' (call_len_seq (X := X)) fun vs H Q ⟨p, xs, e, h, q⟩ => by
  rcases sq_cases h with h | h
  · exact ⟨p, xs, e, .inl (SqL.of h), q⟩
  · exact ⟨p, xs, e, .inr (SqT.of h), q⟩
/-- tuple(list), list(list), list(tuple) -/
def rTupd : List V → Hp → VK → Prop := fun vs H Q => ∃ p xs, vs = [.ref p] ∧ H p = some (.lst xs) ∧ ∀ l, H l = none → Q (.ref l) (upd H l (.tup xs))
theorem call_tuple_d : CallR X (.type "tuple") rTupd := CallR.imp' (call_tuple_of (X := X)) fun vs H Q ⟨p, xs, e, h, q⟩ => ⟨p, xs, e, .inl ⟨SqL.of h, q⟩⟩
def rListd : List V → Hp → VK → Prop := fun vs H Q => ∃ p xs, vs = [.ref p] ∧ sq (H p) = some xs ∧ ∀ l, H l = none → Q (.ref l) (upd H l (.lst xs))
theorem call_list_d : CallR X (.type "list") rListd := CallR.imp' (call_list_of (X := X)) fun vs H Q ⟨p, xs, e, h, q⟩ => by
  rcases sq_cases h with h | h
  · exact ⟨p, xs, e, .inl (SqL.of h), q⟩
  · exact ⟨p, xs, e, .inr (SqT.of h), q⟩
def rSld : V → Option Int → Option Int → Hp → VK → Prop := fun x lo hi H Q => ∃ a xs, x = .ref a ∧ H a = some (.lst xs) ∧ ∀ p, H p = none → Q (.ref p) (upd H p (.lst (cutV xs lo hi)))
theorem sl_d : L2.SlR X rSld := SlR.imp' (sl_list (X := X)) fun x lo hi H Q ⟨a, xs, e, h, q⟩ => ⟨a, xs, e, SqL.of h, q⟩
def tRevD (te : TE) : TE := fun σ H Q => te σ H fun x H1 => ∃ a xs, x = .ref a ∧ H1 a = some (.lst xs) ∧ ∀ p, H1 p = none → Q (.ref p) (upd H1 p (.lst xs.reverse))
theorem pe_revD {e : Expr} {te : TE} {k : Nat} {p1 p2 p3 pos : Pos} (he : PE X e te) : PE X (.Subscript e (.Slice none none (some (.UnaryOp .USub (.Constant (.int 1) k p1) p2)) p3) pos) (tRevD te) :=
  PE.weak (pe_revL (PE.mcl he)) fun σ H Q q => ⟨_, q, fun v H' ⟨a, xs, e, h, k⟩ => ⟨a, xs, e, SqL.of h, k⟩⟩
theorem PG.weak {tg : Expr} {t t' : TG} (h : PG X tg t) (i : ∀ v σ H Q, t' v σ H Q → t v σ H Q) : PG X tg t' := ⟨fun pins s σ H v u Q I r q => h.run pins s σ H v u Q I r (i _ _ _ _ q)⟩
/-- a, b, .. = a tuple that stands in the heap -/
def gTupD (n : Nat) (t : TGs) : TG := fun v σ H Q => ∃ a xs, v = .ref a ∧ H a = some (.tup xs) ∧ xs.length = n ∧ t xs σ H Q
theorem pg_tupD {es : List Expr} {k : Nat} {t : TGs} {n : Nat} {pos : Pos} (hc : X.calm = true) (h : PGs X es t)
    (hn : (assignEach es X.env).length = n := by rfl) (hst : (assignEach es X.env).findIdx? (·.1) = none := by rfl) : PG X (.Tuple es k pos) (gTupD n t) :=
  PG.weak (pg_tup hc h hn hst) fun v σ H Q ⟨a, xs, e, h, l, q⟩ => ⟨a, xs, e, SqT.of h, l, q⟩
def isLst : Option HO → Bool
  | some (.lst _) => true
  | _ => false
@[simp] theorem isLst_lst {xs : List V} : isLst (some (.lst xs)) = true := rfl
theorem tyV_lst {K : PySem.W.Frag} {H : Hp} {a : Addr} (h : isLst (H a) = true) : tyV K "list" (.ref a) H = True := by
  refine eq_true ?_
  cases e : H a with
  | none =>
    rw [e] at h
    cases h
  | some o =>
    rw [e] at h
    cases o with
    | lst xs => exact .inl ⟨rfl, xs, SqL.of e⟩
    | _ => cases h
end
/-! ### statements and expressions, one step each -/
section
variable {X : Cx} {σ : L2.St} {H : Hp} {Q : VK} {D : Ends} {QT : Bool → Hp → Prop} {QA : List V → Hp → Prop} {QO : Option Int → Hp → Prop}
theorem r_seq {t u : TS} : tSeq t u D σ H = t { D with nx := u D } σ H := rfl
theorem r_next : tNext D σ H = D.nx σ H := rfl
theorem r_brk : tBreak D σ H = D.bk σ H := rfl
theorem r_cont : tCont D σ H = D.ct σ H := rfl
theorem r_asg {te : TE} {g : TG} : tAsg te g D σ H = te σ H (fun x H1 => g x σ H1 D.nx) := rfl
theorem r_name {i : Nat} {v : V} {Q : L2.St → Hp → Prop} : gName i v σ H Q = Q (σ.set i (some v)) H := rfl
theorem r_ret {te : TE} : tRet te D σ H = te σ H D.rt := rfl
theorem r_retN : tRetN D σ H = D.rt .non H := rfl
theorem r_drop {te : TE} : tDrop te D σ H = te σ H (fun _ H1 => D.nx σ H1) := rfl
theorem r_ifs {c : TT} {t u : TS} : tIfS c t u D σ H = c σ H (fun b H1 => if b = true then t D σ H1 else u D σ H1) := rfl
theorem r_never : tNever D σ H = False := rfl
theorem r_var {i : Nat} : tVar i σ H Q = ∃ v, σ[i]? = some (some v) ∧ Q v H := rfl
theorem r_c {v : V} : tC v σ H Q = Q v H := rfl
theorem r_op {r : R2} {ta tb : TE} : tOp r ta tb σ H Q = ta σ H (fun x H1 => tb σ H1 fun y H2 => r x y H2 Q) := rfl
theorem r_un {r : V → Hp → VK → Prop} {ta : TE} : tUn r ta σ H Q = ta σ H (fun x H1 => r x H1 Q) := rfl
theorem r_if {c : TT} {ta tb : TE} : tIf c ta tb σ H Q = c σ H (fun b H1 => if b = true then ta σ H1 Q else tb σ H1 Q) := rfl
theorem r_tst {t : TE} : tTest t σ H QT = t σ H (fun x H' => ∃ k, x = .bl k ∧ QT k H') := rfl
theorem r_b {t : TE} : tB t σ H QT = t σ H (fun x H' => ∃ k, x = .bl k ∧ QT k H') := rfl
theorem r_not {t : TT} : tNot t σ H QT = t σ H (fun c H1 => QT (!c) H1) := rfl
theorem r_and {t u : TT} : tAnd t u σ H QT = t σ H (fun c H1 => if c = true then u σ H1 QT else QT false H1) := rfl
theorem r_or {t u : TT} : tOr t u σ H QT = t σ H (fun c H1 => if c = true then QT true H1 else u σ H1 QT) := rfl
theorem r_andV {ta tb : TE} : tAndV ta tb σ H Q = ta σ H (fun x H1 => ∃ c, x = .bl c ∧ if c = true then tb σ H1 Q else Q (.bl false) H1) := rfl
theorem r_orV {ta tb : TE} : tOrV ta tb σ H Q = ta σ H (fun x H1 => ∃ c, x = .bl c ∧ if c = true then Q (.bl true) H1 else tb σ H1 Q) := rfl
theorem r_notV {ta : TE} : tNotV ta σ H Q = ta σ H (fun x H1 => ∃ c, x = .bl c ∧ Q (.bl (!c)) H1) := rfl
theorem r_nil : tNil σ H QA = QA [] H := rfl
theorem r_cons {ta : TE} {tr : TA} : tCons ta tr σ H QA = ta σ H (fun x H1 => tr σ H1 fun xs H2 => QA (x :: xs) H2) := rfl
theorem r_tup {t : TA} : tTup t σ H Q = t σ H (fun xs H1 => xs.length ≤ sizeLine ∧ ∀ p, H1 p = none → Q (.ref p) (upd H1 p (.tup xs))) := (rfl)
theorem r_lst {t : TA} : tLst t σ H Q = t σ H (fun xs H1 => xs.length ≤ sizeLine ∧ ∀ p, H1 p = none → Q (.ref p) (upd H1 p (.lst xs))) := (rfl)
theorem r_cb {r : List V → Hp → VK → Prop} {t : TA} : tCB r t σ H Q = t σ H (fun vs H1 => r vs H1 Q) := rfl
theorem r_call {sp : Sp} {dvs : List V} {E : XK} {t : TA} : tCall sp dvs E t σ H Q = t σ H (fun vs H1 => sp (vs ++ dvs) H1 Q E) := rfl
theorem r_bm {K : PySem.W.Frag} {T : String} {r : V → List V → Hp → VK → Prop} {to : TE} {t : TA} : tBM K T r to t σ H Q = to σ H (fun x H1 => tyV K T x H1 ∧ t σ H1 fun xs H2 => r x xs H2 Q) := rfl
theorem r_bm0 {K : PySem.W.Frag} {T : String} {r : V → List V → Hp → VK → Prop} {to : TE} : tBM0 K T r to σ H Q = to σ H (fun x H1 => tyV K T x H1 ∧ r x [] H1 Q) := rfl
theorem r_sl {r : V → Option Int → Option Int → Hp → VK → Prop} {te : TE} {tl th : TO} : L2.tSl r te tl th σ H Q = te σ H (fun x H1 => tl σ H1 fun l H2 => th σ H2 fun u H3 => r x l u H3 Q) := rfl
theorem r_nopart : tNoPart σ H QO = QO none H := rfl
theorem r_part {te : TE} : tPart te σ H QO = te σ H (fun x H1 => ∃ i, x = .int i ∧ QO (some i) H1) := rfl
theorem r_rev {te : TE} : tRevD te σ H Q = te σ H (fun x H1 => ∃ a xs, x = .ref a ∧ H1 a = some (.lst xs) ∧ ∀ p, H1 p = none → Q (.ref p) (upd H1 p (.lst xs.reverse))) := rfl
theorem r_gtup {K : PySem.W.Frag} {n : Nat} {t : TGs} {v : V} {Q : L2.St → Hp → Prop} : gTup K n t v σ H Q = ∃ a xs, v = .ref a ∧ SqT K H a xs ∧ xs.length = n ∧ t xs σ H Q := rfl
theorem r_gtupD {n : Nat} {t : TGs} {v : V} {Q : L2.St → Hp → Prop} : gTupD n t v σ H Q = ∃ a xs, v = .ref a ∧ H a = some (.tup xs) ∧ xs.length = n ∧ t xs σ H Q := rfl
theorem r_gnil {vs : List V} {Q : L2.St → Hp → Prop} : gNil vs σ H Q = (vs = [] ∧ Q σ H) := rfl
theorem r_gcons {t : TG} {u : TGs} {vs : List V} {Q : L2.St → Hp → Prop} : gCons t u vs σ H Q = ∃ v r, vs = v :: r ∧ t v σ H (fun σ' H' => u r σ' H' Q) := rfl
theorem r_gsub {to ti : TE} {t : TSet} {v : V} {Q : L2.St → Hp → Prop} : gSub to ti t v σ H Q = to σ H (fun o H1 => ti σ H1 fun i H2 => t o i v H2 fun H3 => Q σ H3) := rfl
theorem r_par {i j : Nat} {ta : TA} : tPar i j ta D σ H = ta σ H (fun vs H1 => ∃ v w, vs = [v, w] ∧ D.nx ((σ.set i (some v)).set j (some w)) H1) := rfl
theorem r_aug {i : Nat} {te : TE} {ti : TIp} : tAug i te ti D σ H = ∃ x, σ[i]? = some (some x) ∧ te σ H (fun y H1 => ti x y H1 fun z H2 => D.nx (σ.set i (some z)) H2) := rfl
theorem r_chain {r r' : R2} {ta tb tc : TE} : tChain r r' ta tb tc σ H Q = ta σ H (fun x H1 => tb σ H1 fun y H2 => r x y H2 fun z H3 => ∃ k, z = .bl k ∧ (if k = true then tc σ H3 fun w' H4 => r' y w' H4 Q else Q (.bl false) H3)) := rfl
theorem r_I0 {g : Int → Int → V} {x y : V} : rI0 g x y H Q = ∃ i j, x = .int i ∧ y = .int j ∧ Q (g i j) H := rfl
theorem r_I {C : Int → Int → Prop} {g : Int → Int → V} {x y : V} : rI C g x y H Q = ∃ i j, x = .int i ∧ y = .int j ∧ C i j ∧ Q (g i j) H := rfl
theorem r_ipI {f : Int → Int → Int} {x y : V} : ipI f x y H Q = ∃ i j, x = .int i ∧ y = .int j ∧ Q (.int (f i j)) H := rfl
theorem r_U {g : Int → V} {x : V} : rU g x H Q = ∃ i, x = .int i ∧ Q (g i) H := rfl
theorem r_ixd {x y : V} : rIxd x y H Q = ∃ p i xs v, x = .ref p ∧ y = .int i ∧ sq (H p) = some xs ∧ atI xs i = some v ∧ Q v H := rfl
theorem r_lend {vs : List V} : rLend vs H Q = ∃ p xs, vs = [.ref p] ∧ sq (H p) = some xs ∧ Q (.int xs.length) H := rfl
theorem r_tupd {vs : List V} : rTupd vs H Q = ∃ p xs, vs = [.ref p] ∧ H p = some (.lst xs) ∧ ∀ l, H l = none → Q (.ref l) (upd H l (.tup xs)) := rfl
theorem r_listd {vs : List V} : rListd vs H Q = ∃ p xs, vs = [.ref p] ∧ sq (H p) = some xs ∧ ∀ l, H l = none → Q (.ref l) (upd H l (.lst xs)) := rfl
theorem r_sld {x : V} {lo hi : Option Int} : rSld x lo hi H Q = ∃ a xs, x = .ref a ∧ H a = some (.lst xs) ∧ ∀ p, H p = none → Q (.ref p) (upd H p (.lst (cutV xs lo hi))) := rfl
theorem r_app {x : V} {vs : List V} : rAppend x vs H Q = ∃ l xs y, x = .ref l ∧ vs = [y] ∧ H l = some (.lst xs) ∧ xs.length < sizeLine ∧ Q .non (upd H l (.lst (xs ++ [y]))) := rfl
theorem r_ext {x : V} {vs : List V} : rExtend x vs H Q = ∃ l b xs zs, x = .ref l ∧ vs = [.ref b] ∧ H l = some (.lst xs) ∧ H b = some (.lst zs) ∧ xs.length + zs.length ≤ sizeLine ∧ Q .non (upd H l (.lst (xs ++ zs))) := rfl
theorem r_reverse {x : V} {vs : List V} : rReverse x vs H Q = ∃ l xs, x = .ref l ∧ vs = [] ∧ H l = some (.lst xs) ∧ Q .non (upd H l (.lst xs.reverse)) := rfl
theorem r_setl {o i v : V} {Q : Hp → Prop} : rSetL o i v H Q = ∃ p xs k j, o = .ref p ∧ i = .int k ∧ H p = some (.lst xs) ∧ ixN xs.length k = some j ∧ Q (upd H p (.lst (xs.set j v))) := rfl
theorem r_cat {x y : V} : rCat x y H Q = ∃ l b xs zs, x = .ref l ∧ y = .ref b ∧ H l = some (.lst xs) ∧ H b = some (.lst zs) ∧ xs.length + zs.length ≤ sizeLine ∧ ∀ p, H p = none → Q (.ref p) (upd H p (.lst (xs ++ zs))) := rfl
theorem r_int1 {xs : List V} : (fun xs H Q => (∃ i, xs = [V.int i] ∧ Q (V.int i) H) ∨ ∃ k, xs = [V.bl k] ∧ Q (V.int (if k = true then 1 else 0)) H : List V → Hp → VK → Prop) xs H Q = ((∃ i, xs = [V.int i] ∧ Q (V.int i) H) ∨ ∃ k, xs = [V.bl k] ∧ Q (V.int (if k = true then 1 else 0)) H) := rfl
theorem r_eqS {x y : V} : rEq x y H Q = (scal x y = true ∧ Q (.bl (decide (x = y))) H) := rfl
theorem r_neS {x y : V} : rNe x y H Q = (scal x y = true ∧ Q (.bl (!decide (x = y))) H) := rfl
theorem scal_ii {i j : Int} : scal (.int i) (.int j) = true := rfl
theorem scal_bb {i j : Bool} : scal (.bl i) (.bl j) = true := rfl
theorem scal_ss {i j : Str} : scal (.str i) (.str j) = true := rfl
theorem at0 {x : V} {xs : List V} : atI (x :: xs) 0 = some x := by
  unfold atI ixN
  rw [if_pos (by decide), if_pos (by simp)]
  rfl
theorem at1 {x y : V} {xs : List V} : atI (x :: y :: xs) 1 = some y := by
  unfold atI ixN
  rw [if_pos (by decide), if_pos (by rw [List.length_cons, List.length_cons]; omega)]
  rfl
theorem at2 {x y z : V} {xs : List V} : atI (x :: y :: z :: xs) 2 = some z := by
  unfold atI ixN
  rw [if_pos (by decide), if_pos (by rw [List.length_cons, List.length_cons, List.length_cons]; omega)]
  rfl
theorem atn {xs : List V} {i : Nat} {v : V} (h : xs[i]? = some v) : atI xs (i : Int) = some v := by
  have hi : i < xs.length := (List.getElem?_eq_some_iff.mp h).1
  unfold atI ixN
  rw [if_pos (Int.natCast_nonneg i), if_pos (by omega)]
  simpa using h
theorem ixn {n i : Nat} (h : i < n) : ixN n (i : Int) = some i := by
  unfold ixN
  rw [if_pos (Int.natCast_nonneg i), if_pos (by omega)]
  simp
theorem ix0 {n : Nat} : ixN (n + 1) 0 = some 0 := by
  unfold ixN
  rw [if_pos (by decide), if_pos (by omega)]
  rfl
theorem ix1 {n : Nat} : ixN (n + 1 + 1) 1 = some 1 := by
  unfold ixN
  rw [if_pos (by decide), if_pos (by omega)]
  rfl
theorem ix2 {n : Nat} : ixN (n + 1 + 1 + 1) 2 = some 2 := by
  unfold ixN
  rw [if_pos (by decide), if_pos (by omega)]
  rfl
theorem cm_l {i j : Int} (h : -(2 ^ 64) < i ∧ i < 2 ^ 64) : CMul i j = True := eq_true (.inl h)
theorem cm_r {i j : Int} (h : -(2 ^ 64) < j ∧ j < 2 ^ 64) : CMul i j = True := eq_true (.inr h)
theorem cm_mod {t j : Int} : CMul (t % 2147483647) j = True := eq_true (.inl ⟨by omega, by omega⟩)
theorem cdw {i j : Int} (h : 0 < j ∧ j < 2 ^ 200) : CDivW i j = True := eq_true (wide_div (b := 200) h.1 (by omega) (by decide) (by decide))
theorem cdw1009 {i : Int} : CDivW i 1009 = True := cdw (by decide)
theorem cdw2003 {i : Int} : CDivW i 2003 = True := cdw (by decide)
theorem cdw7 {i : Int} : CDivW i 7 = True := cdw (by decide)
theorem cdw64 {i : Int} : CDivW i 64 = True := cdw (by decide)
theorem cdw2 {i : Int} : CDivW i 2 = True := cdw (by decide)
theorem cm104729 {i : Int} : CMul 104729 i = True := cm_l (by decide)
theorem cm2 {i : Int} : CMul 2 i = True := cm_l (by decide)
theorem cm3 {i : Int} : CMul 3 i = True := cm_l (by decide)
theorem sz_lit {xs : List V} (h : xs.length ≤ 1000) : (xs.length ≤ sizeLine) = True := eq_true (Nat.le_trans h (by decide))
/-- while by a word of the slots and the heap, a test whose answer is known -/
theorem while_d {c : TT} {tb : TS} (Pv : L2.St → Hp → Prop) (m : L2.St → Hp → Nat) (h0 : Pv σ H)
    (hs : ∀ σ H, Pv σ H → ∃ b, (∀ Q : Bool → Hp → Prop, Q b H → c σ H Q) ∧ (b = true → tb { D with nx := fun σ' H' => Pv σ' H' ∧ m σ' H' < m σ H, ct := fun σ' H' => Pv σ' H' ∧ m σ' H' < m σ H, bk := D.nx } σ H) ∧ (b = false → D.nx σ H)) : tWhile c tb D σ H := by
  refine ⟨fun k σ H => k = m σ H ∧ Pv σ H, ⟨_, rfl, h0⟩, ?_⟩
  rintro k σ H ⟨rfl, p⟩
  obtain ⟨b, hc, h1, h2⟩ := hs σ H p
  refine hc _ ?_
  cases b with
  | true => exact ⟨_, fun σ' H' ⟨p', l⟩ => ⟨_, l, rfl, p'⟩, h1 rfl⟩
  | false => exact h2 rfl
end
/-! ### heaps -/
theorem upd_at {H : Hp} {a b : Addr} {o : HO} : L2.upd H a o b = if b = a then some o else H b := rfl
theorem une {a b : Addr} (h : b ≠ a) : ∀ (H : Hp) (o : HO), L2.upd H a o b = H b := fun H o => upd_ne h
theorem ne_new {H : Hp} {a p : Addr} {o : HO} (h : H a = some o) (hp : H p = none) : a ≠ p := ne_of_none h hp
theorem new_ne {H : Hp} {a p : Addr} {o : HO} (h : H a = some o) (hp : H p = none) : p ≠ a := (ne_of_none h hp).symm
theorem Same.new' {H H1 : Hp} {p : Addr} {o : HO} (h : Same H H1) (hp : H1 p = none) : Same H (L2.upd H1 p o) := fun b u e => by
  have e1 := h b u e
  rw [upd_ne (ne_of_none e1 hp)]
  exact e1
/-! ### loops -/
/-- what a loop over J asks -/
def LoopR (J : It) (g : TG) (tb : TS) (D : Ends) (σ : L2.St) (H1 : Hp) : Prop := ∃ W : Nat → Nat → L2.St → Hp → Prop, (∃ m, W 0 m σ H1) ∧ ∀ i m σ H, W i m σ H →
  (J.stop i H ∧ D.nx σ H) ∨ (J.go i H ∧ ∃ N : L2.St → Hp → Prop, (∀ σ' H', N σ' H' → ∃ m', m' < m ∧ W (i + 1) m' σ' H') ∧ ∀ x H', J.yld i H x H' → g x σ H' fun σ2 H2 => tb { D with nx := N, ct := N, bk := D.nx } σ2 H2)
section
variable {K : PySem.W.Frag} {σ : L2.St} {H : Hp} {D : Ends} {g : TG} {tb : TS}
theorem r_for1 {ta : TA} : tFor (iRng1 ta) g tb D σ H = ta σ H (fun vs H1 => ∃ j : Int, vs = [.int j] ∧ -(2 ^ 62) ≤ j ∧ j < 2 ^ 62 ∧ LoopR (Itr 0 j.toNat) g tb D σ H1) := rfl
theorem r_forL {tl : TE} : tFor (iList K tl) g tb D σ H = tl σ H (fun x H1 => ∃ a, x = .ref a ∧ (∃ xs, SqL K H1 a xs) ∧ LoopR (Itl K a) g tb D σ H1) := rfl
theorem r_forT {tl : TE} : tFor (iTup K tl) g tb D σ H = tl σ H (fun x H1 => ∃ a, x = .ref a ∧ (∃ xs, SqT K H1 a xs) ∧ LoopR (Itt K a) g tb D σ H1) := rfl
theorem lp_rng {n : Nat} (Pv : Nat → L2.St → Hp → Prop) (h0 : Pv 0 σ H)
    (hs : ∀ (i : Nat) σ H, i < n → Pv i σ H → g (.int (i : Int)) σ H fun σ2 H2 => tb { D with nx := Pv (i + 1), ct := Pv (i + 1), bk := D.nx } σ2 H2) (hd : ∀ σ H, Pv n σ H → D.nx σ H) : LoopR (Itr 0 n) g tb D σ H :=
  for_range Pv h0 (fun i σ H hi p => by
    have q := hs i σ H hi p
    rw [Int.zero_add]
    exact q) hd
theorem lp_list {a : Addr} {xs : List V} (Pv : Nat → L2.St → Hp → Prop) (h0 : Pv 0 σ H) (hl : ∀ i σ H, i ≤ xs.length → Pv i σ H → SqL K H a xs)
    (hs : ∀ i x σ H, xs[i]? = some x → Pv i σ H → g x σ H fun σ2 H2 => tb { D with nx := Pv (i + 1), ct := Pv (i + 1), bk := D.nx } σ2 H2) (hd : ∀ σ H, Pv xs.length σ H → D.nx σ H) : LoopR (Itl K a) g tb D σ H := for_list Pv h0 hl hs hd
theorem lp_tup {a : Addr} {xs : List V} (Pv : Nat → L2.St → Hp → Prop) (h0 : Pv 0 σ H) (hl : ∀ i σ H, i ≤ xs.length → Pv i σ H → SqT K H a xs)
    (hs : ∀ i x σ H, xs[i]? = some x → Pv i σ H → g x σ H fun σ2 H2 => tb { D with nx := Pv (i + 1), ct := Pv (i + 1), bk := D.nx } σ2 H2) (hd : ∀ σ H, Pv xs.length σ H → D.nx σ H) : LoopR (Itt K a) g tb D σ H := for_tup Pv h0 hl hs hd
/-- an empty list, an empty tuple -/
theorem lp_nil {a : Addr} (hl : SqL K H a []) (hd : D.nx σ H) : LoopR (Itl K a) g tb D σ H := for_list (xs := []) (fun i s h => s = σ ∧ h = H) ⟨rfl, rfl⟩ (fun i s h _ ⟨_, e⟩ => by rw [e]; exact hl) (fun i x s h e => by cases e) fun s h ⟨e1, e2⟩ => by rw [e1, e2]; exact hd
theorem lp_nilT {a : Addr} (hl : SqT K H a []) (hd : D.nx σ H) : LoopR (Itt K a) g tb D σ H := for_tup (xs := []) (fun i s h => s = σ ∧ h = H) ⟨rfl, rfl⟩ (fun i s h _ ⟨_, e⟩ => by rw [e]; exact hl) (fun i x s h e => by cases e) fun s h ⟨e1, e2⟩ => by rw [e1, e2]; exact hd
/-- a list comprehension over J: what is kept from turn to turn -/
def CompR (J : It) (g : TG) (tt : TT) (te : TE) (vs : List Nat) (σ : L2.St) (Q : VK) (D : Addr) (H0 : Hp) : Prop := ∃ W : Nat → Nat → Hp → Prop, (∃ m, W 0 m H0) ∧ ∀ i m H, W i m H →
  (J.stop i H ∧ Q (.ref D) H) ∨ (J.go i H ∧ ∃ Nx : Hp → Prop, (∀ H', Nx H' → ∃ m', m' < m ∧ W (i + 1) m' H') ∧ ∀ x H', J.yld i H x H' → g x (wipe σ vs) H' fun σ2 H2 => wipe σ2 vs = wipe σ vs ∧ tt σ2 H2 fun b H3 =>
    if b = true then te σ2 H3 fun y H4 => ∃ acc, H4 D = some (.lst acc) ∧ acc.length < sizeLine ∧ Nx (upd H4 D (.lst (acc ++ [y]))) else Nx H3)
theorem r_lcL {tl : TE} {tt : TT} {te : TE} {vs : List Nat} {Q : VK} : tLc (iList K tl) g tt te vs σ H Q = tl σ H (fun x H1 => ∃ a, x = .ref a ∧ (∃ xs, SqL K H1 a xs) ∧ ∀ D, H1 D = none → CompR (Itl K a) g tt te vs σ Q D (upd H1 D (.lst []))) := rfl
theorem r_lc1 {ta : TA} {tt : TT} {te : TE} {vs : List Nat} {Q : VK} : tLc (iRng1 ta) g tt te vs σ H Q = ta σ H (fun us H1 => ∃ j : Int, us = [.int j] ∧ -(2 ^ 62) ≤ j ∧ j < 2 ^ 62 ∧ ∀ D, H1 D = none → CompR (Itr 0 j.toNat) g tt te vs σ Q D (upd H1 D (.lst []))) := rfl
theorem cp_list {a : Addr} {xs : List V} {tt : TT} {te : TE} {vs : List Nat} {A : Addr} {H1 : Hp} {Q : VK} (Pv : Nat → Hp → Prop) (h0 : Pv 0 (upd H1 A (.lst []))) (hl : ∀ i H, i ≤ xs.length → Pv i H → SqL K H a xs)
    (hs : ∀ i x H, xs[i]? = some x → Pv i H → g x (wipe σ vs) H fun σ2 H2 => wipe σ2 vs = wipe σ vs ∧ tt σ2 H2 fun b H3 =>
      if b = true then te σ2 H3 fun y H4 => ∃ acc, H4 A = some (.lst acc) ∧ acc.length < sizeLine ∧ Pv (i + 1) (upd H4 A (.lst (acc ++ [y]))) else Pv (i + 1) H3) (hd : ∀ H, Pv xs.length H → Q (.ref A) H) :
    CompR (Itl K a) g tt te vs σ Q A (upd H1 A (.lst [])) := lc_list Pv h0 hl hs hd
theorem r_yes {QT : Bool → Hp → Prop} : tYes σ H QT = QT true H := rfl
end
theorem wipe_0 {σ : L2.St} : wipe σ [] = σ := rfl
theorem wipe_1 {σ : L2.St} {v : Nat} {vs : List Nat} : wipe σ (v :: vs) = (wipe σ vs).set v none := rfl
theorem cut_init (xs : List V) (x : V) : cutV (xs ++ [x]) none (some (-1)) = xs := by
  have e : HT.sIx (xs ++ [x]).length (xs ++ [x]).length (some (-1)) = xs.length := by
    simp [HT.sIx]
    omega
  unfold cutV
  rw [e, HT.sIx_none, List.drop_zero, Nat.sub_zero, List.take_left']
  rfl
theorem cut_last (xs : List V) (x : V) : cutV (xs ++ [x]) (some (-1)) none = [x] := by
  have e : HT.sIx (xs ++ [x]).length 0 (some (-1)) = xs.length := by
    simp [HT.sIx]
    omega
  unfold cutV
  rw [e, HT.sIx_none, List.drop_left', List.take_of_length_le]
  · rw [List.length_append]
    simp
  · rfl
theorem tyl {K : PySem.W.Frag} {H : Hp} {a : Addr} {xs : List V} (h : H a = some (.lst xs)) : tyV K "list" (.ref a) H := of_eq_true (tyV_lst (by rw [h]; rfl))
theorem szl {n : Nat} (h : n ≤ 1000) : n ≤ sizeLine := Nat.le_trans h (by decide)
theorem szlt {n : Nat} (h : n ≤ 1000) : n < sizeLine := Nat.lt_of_le_of_lt h (by decide)
/-- a loop over a written tuple, turn by turn -/
def UnrT (T : Addr) (all : List V) (g : TG) (tb : TS) (D : Ends) : List V → L2.St → Hp → Prop
  | [], σ, H => D.nx σ H
  | x :: xs, σ, H => g x σ H fun σ2 H2 => tb { D with nx := fun σ' H' => H' T = some (.tup all) ∧ UnrT T all g tb D xs σ' H', ct := fun σ' H' => H' T = some (.tup all) ∧ UnrT T all g tb D xs σ' H', bk := D.nx } σ2 H2
theorem unr_nil {T : Addr} {all : List V} {g : TG} {tb : TS} {D : Ends} {σ : L2.St} {H : Hp} : UnrT T all g tb D [] σ H = D.nx σ H := rfl
theorem unr_cons {T : Addr} {all : List V} {g : TG} {tb : TS} {D : Ends} {x : V} {xs : List V} {σ : L2.St} {H : Hp} : UnrT T all g tb D (x :: xs) σ H = g x σ H fun σ2 H2 => tb { D with nx := fun σ' H' => H' T = some (.tup all) ∧ UnrT T all g tb D xs σ' H', ct := fun σ' H' => H' T = some (.tup all) ∧ UnrT T all g tb D xs σ' H', bk := D.nx } σ2 H2 := rfl
theorem lp_unrT {K : PySem.W.Frag} {T : Addr} {all : List V} {g : TG} {tb : TS} {D : Ends} {σ : L2.St} {H : Hp} (h : H T = some (.tup all)) (u : UnrT T all g tb D all σ H) : LoopR (Itt K T) g tb D σ H := by
  refine lp_tup (xs := all) (fun i σ' H' => H' T = some (.tup all) ∧ UnrT T all g tb D (all.drop i) σ' H') ⟨h, u⟩ (fun i s h' _ q => SqT.of q.1) (fun i x s h' e q => ?_) fun s h' q => ?_
  · have e1 : all.drop i = x :: all.drop (i + 1) := by
      obtain ⟨hi, e2⟩ := List.getElem?_eq_some_iff.mp e
      rw [List.drop_eq_getElem_cons hi, e2]
    obtain ⟨_, q2⟩ := q
    rw [e1] at q2
    exact q2
  · obtain ⟨_, q2⟩ := q
    rw [List.drop_length] at q2
    exact q2
theorem Paired.snoc' {α β : Type} {F : α → β → Prop} : ∀ {l1 : List α} {l2 : List β} {a : α} {b : β}, Paired F l1 l2 → F a b → Paired F (l1 ++ [a]) (l2 ++ [b])
  | _, _, _, _, .nil, h => .cons h .nil
  | _, _, _, _, .cons r t, h => .cons r (Paired.snoc' t h)
theorem Paired.map' {α β : Type} {F G : α → β → Prop} {l1 : List α} {l2 : List β} (p : Paired F l1 l2) (h : ∀ a b, F a b → G a b) : Paired G l1 l2 := Paired.mapP p h
theorem cut_tail (x : V) (xs : List V) : cutV (x :: xs) (some 1) none = xs := by
  have e : HT.sIx (x :: xs).length 0 (some 1) = 1 := by
    simp [HT.sIx]
  unfold cutV
  rw [e, HT.sIx_none]
  simp
/-- for x in a name that holds a list or a tuple -/
def iSeqV (K : PySem.W.Frag) (i : Nat) : TI := fun σ H R => ∃ a, σ[i]? = some (some (.ref a)) ∧ (((∃ xs, H a = some (.lst xs)) ∧ R (Itl K a) H) ∨ ((∃ xs, H a = some (.tup xs)) ∧ R (Itt K a) H))
theorem pi_seqV {X : Cx} (i : Nat) {x : Str} {tg : Expr} {pos : Pos} (hN : X.N[i]? = some x := by rfl) (hv : Vis X.env.scope x := by first | exact Or.inl rfl | exact Or.inr (Or.inl rfl) | exact Or.inr (Or.inr rfl)) (hd : (x == ("__debug__" : Str)) = false := by decide)
    (hcd : (x == ("__classdict__" : Str)) = false := by decide) : PI X tg (.Name x pos) (iSeqV X.K i) := ⟨fun pins s σ H R I h => by
  obtain ⟨a, h0, ⟨⟨xs, e⟩, q⟩ | ⟨⟨xs, e⟩, q⟩⟩ := h
  · exact (pi_list (pe_var hN hv hd hcd)).run pins s σ H R I ⟨_, h0, a, rfl, ⟨_, SqL.of e⟩, q⟩
  · exact (pi_tup (pe_var hN hv hd hcd)).run pins s σ H R I ⟨_, h0, a, rfl, ⟨_, SqT.of e⟩, q⟩⟩
theorem r_forS {K : PySem.W.Frag} {i : Nat} {g : TG} {tb : TS} {D : Ends} {σ : L2.St} {H : Hp} : tFor (iSeqV K i) g tb D σ H = ∃ a, σ[i]? = some (some (.ref a)) ∧ (((∃ xs, H a = some (.lst xs)) ∧ LoopR (Itl K a) g tb D σ H) ∨ ((∃ xs, H a = some (.tup xs)) ∧ LoopR (Itt K a) g tb D σ H)) := rfl
theorem lp_seq {K : PySem.W.Frag} {g : TG} {tb : TS} {D : Ends} {σ : L2.St} {H : Hp} {a : Addr} {xs : List V} (h : sq (H a) = some xs) (Pv : Nat → L2.St → Hp → Prop) (h0 : Pv 0 σ H) (hl : ∀ i σ H', Pv i σ H' → H' a = H a)
    (hs : ∀ i x σ H, xs[i]? = some x → Pv i σ H → g x σ H fun σ2 H2 => tb { D with nx := Pv (i + 1), ct := Pv (i + 1), bk := D.nx } σ2 H2) (hd : ∀ σ H, Pv xs.length σ H → D.nx σ H) :
    ((∃ xs, H a = some (.lst xs)) ∧ LoopR (Itl K a) g tb D σ H) ∨ ((∃ xs, H a = some (.tup xs)) ∧ LoopR (Itt K a) g tb D σ H) := by
  rcases sq_cases h with e | e
  · exact .inl ⟨⟨_, e⟩, lp_list Pv h0 (fun i s h' _ q => SqL.of (by rw [hl i s h' q, e])) hs hd⟩
  · exact .inr ⟨⟨_, e⟩, lp_tup Pv h0 (fun i s h' _ q => SqT.of (by rw [hl i s h' q, e])) hs hd⟩
theorem Paired.at' {α β : Type} {F : α → β → Prop} : ∀ {l1 : List α} {l2 : List β} {i : Nat}, Paired F l1 l2 → (h1 : i < l1.length) → (h2 : i < l2.length) → F l1[i] l2[i]
  | _, _, 0, .cons r _, _, _ => r
  | _, _, i + 1, .cons _ t, h1, h2 => Paired.at' (i := i) t (by simpa using h1) (by simpa using h2)

/-! ### isinstance, in a form that simp can reckon -/
structure ClsI (K : PySem.W.Frag) (C : Addr) : Prop where
  cl : Cls K C
  ha : PySem.W.findIn K (.ref C) "__class__" = some (some (.builtin "object.__class__"))
  hn : PySem.W.specialIn K (.builtin "object.__class__") "__get__" = some (some (.builtin "getset_descriptor.__get__"))
  htk : PySem.W.takesIn K (.builtin "object.__class__") = some true
  hm : PySem.W.mroIn K C (.type "object") = some true
/-- what stands there, by its class (of own classes C alone) -/
def tyH (C : Addr) : Option HO → Option Value
  | some (.lst _) => some (.type "list")
  | some (.tup _) => some (.type "tuple")
  | some (.dK _) => some (.type "dict")
  | some (.ins D _ _) => if D = C then some (.ref C) else none
  | _ => none
def tyD (C : Addr) (H : Hp) : V → Option Value
  | .non => some (.type "NoneType")
  | .bl _ => some (.type "bool")
  | .int _ => some (.type "int")
  | .str _ => some (.type "str")
  | .ref a => tyH C (H a)
  | _ => none
theorem tyD_ok {K : PySem.W.Frag} {C : Addr} {H : Hp} {x : V} {t : Value} (c : ClsI K C) (h : tyD C H x = some t) : TyX K H x t := by
  cases x with
  | non => cases h; exact .base .non
  | bl b => cases h; exact .base (.bl b)
  | int i => cases h; exact .base (.int i)
  | str s => cases h; exact .base (.str s)
  | ref a =>
    have h2 : tyH C (H a) = some t := h
    cases e : H a with
    | none =>
      rw [e] at h2
      cases h2
    | some o =>
      rw [e] at h2
      cases o with
      | lst xs => cases h2; exact .base (.lst e)
      | tup xs => cases h2; exact .base (.tup e)
      | dK kvs => cases h2; exact .base (.dK e)
      | ins D dx fs =>
        have h3 : (if D = C then some (Value.ref C) else none) = some t := h2
        by_cases q : D = C
        · rw [if_pos q] at h3
          cases h3
          subst q
          exact .base (.ins e c.cl c.ha c.hn c.htk c.hm)
        · rw [if_neg q] at h3
          cases h3
      | _ => cases h2
  | _ => cases h
def clsD : V → Option Value
  | .ty n => some (.type n)
  | .ref C => some (.ref C)
  | _ => none
theorem clsD_ok {c : V} {u : Value} (h : clsD c = some u) : ClsV c u := by
  cases c with
  | ty n => cases h; exact .ty n
  | ref C => cases h; exact .own C
  | _ => cases h
def rIsD (K : PySem.W.Frag) (C : Addr) : List V → Hp → VK → Prop := fun vs H Q => ∃ x c t u b, vs = [x, c] ∧ clsD c = some u ∧ tyD C H x = some t ∧ PySem.W.kitOne K t u = some b ∧ Q (.bl b) H
theorem call_is_d {X : Cx} {C : Addr} (c : ClsI X.K C) : CallR X (.builtin "isinstance") (rIsD X.K C) := CallR.imp' (call_isi (X := X)) fun vs H Q ⟨x, d, t, u, b, e, h1, h2, h3, q⟩ => ⟨x, d, t, u, b, e, clsD_ok h1, tyD_ok c h2, h3, q⟩
/-- isinstance(x, (list, tuple)) -/
def rIsLT (K : PySem.W.Frag) (C : Addr) : List V → Hp → VK → Prop := fun vs H Q => ∃ x tp t b, vs = [x, .ref tp] ∧ H tp = some (.tup [.ty "list", .ty "tuple"]) ∧ tyD C H x = some t ∧ PySem.W.kitAny K t [.type "list", .type "tuple"] = some b ∧ Q (.bl b) H
theorem call_is_lt {X : Cx} {C : Addr} (c : ClsI X.K C) : CallR X (.builtin "isinstance") (rIsLT X.K C) := CallR.imp' (call_isiT (X := X)) fun vs H Q ⟨x, tp, t, b, e, h1, h2, h3, q⟩ =>
  ⟨x, tp, _, t, _, b, e, h1, .cons (.ty "list") (.cons (.ty "tuple") .nil), tyD_ok c h2, h3, q⟩
section
variable {K : PySem.W.Frag} {C : Addr} {H : Hp} {Q : VK} {σ : L2.St} {D : Ends}
theorem r_isd {vs : List V} : rIsD K C vs H Q = ∃ x c t u b, vs = [x, c] ∧ clsD c = some u ∧ tyD C H x = some t ∧ PySem.W.kitOne K t u = some b ∧ Q (.bl b) H := rfl
theorem r_islt {vs : List V} : rIsLT K C vs H Q = ∃ x tp t b, vs = [x, .ref tp] ∧ H tp = some (.tup [.ty "list", .ty "tuple"]) ∧ tyD C H x = some t ∧ PySem.W.kitAny K t [.type "list", .type "tuple"] = some b ∧ Q (.bl b) H := rfl
theorem cD_ty {n : String} : clsD (.ty n) = some (.type n) := rfl
theorem cD_ref {a : Addr} : clsD (.ref a) = some (.ref a) := rfl
theorem tD_non : tyD C H .non = some (.type "NoneType") := rfl
theorem tD_bl {b : Bool} : tyD C H (.bl b) = some (.type "bool") := rfl
theorem tD_int {i : Int} : tyD C H (.int i) = some (.type "int") := rfl
theorem tD_str {s : Str} : tyD C H (.str s) = some (.type "str") := rfl
theorem tD_ref {a : Addr} : tyD C H (.ref a) = tyH C (H a) := rfl
theorem tH_lst {xs : List V} : tyH C (some (.lst xs)) = some (.type "list") := rfl
theorem tH_tup {xs : List V} : tyH C (some (.tup xs)) = some (.type "tuple") := rfl
theorem tH_dK {kvs : List (Key × V)} : tyH C (some (.dK kvs)) = some (.type "dict") := rfl
theorem tH_ins {dx : Addr} {fs : List (Str × V)} : tyH C (some (.ins C dx fs)) = some (.ref C) := if_pos rfl
theorem ki_self {t : Value} : PySem.W.kitOne K t t = some true := by
  unfold PySem.W.kitOne
  rw [if_pos (by simp)]
theorem ki_int_bool : PySem.W.kitOne K (.type "int") (.type "bool") = some false := kit_ty (by decide +kernel)
theorem ki_non_int : PySem.W.kitOne K (.type "NoneType") (.type "int") = some false := kit_ty (by decide +kernel)
theorem ki_str_int : PySem.W.kitOne K (.type "str") (.type "int") = some false := kit_ty (by decide +kernel)
theorem ki_lt_lst : PySem.W.kitAny K (.type "list") [.type "list", .type "tuple"] = some true := by
  unfold PySem.W.kitAny
  rw [ki_self]
theorem ki_lt_tup : PySem.W.kitAny K (.type "tuple") [.type "list", .type "tuple"] = some true := by
  have e : PySem.W.kitOne K (.type "tuple") (.type "list") = some false := kit_ty (by decide +kernel)
  unfold PySem.W.kitAny
  rw [e]
  unfold PySem.W.kitAny
  rw [ki_self]
theorem r_fld {ta : TE} {f : Str} : tFld K ta f σ H Q = ta σ H (fun x H1 => ∃ a C dx fs v, x = .ref a ∧ H1 a = some (.ins C dx fs) ∧ Cls K C ∧ NoAttr K C f ∧ fs.lookup f = some v ∧ Q v H1) := rfl
theorem r_sfld {ta tv : TE} {f : Str} : sFld K ta tv f D σ H = tv σ H (fun y H1 => ta σ H1 fun x H2 => ∃ a C dx fs, x = .ref a ∧ H2 a = some (.ins C dx fs) ∧ Cls K C ∧ NoAttr K C f ∧ fs.length < 1000 ∧ D.nx σ (upd H2 a (.ins C dx (putF f y fs)))) := rfl
end
theorem cx_K {CX : CXT} {P : Program} {w : World} {K : PySem.W.Frag} {mg : Str → Option Value} {base : Heap} {N : List Str} {q : Str} {sc : Scope} {f : Addr} {cd : Value} {A : Around} {outer : List Env} {s : Shared} {H : Hp} {E : XK} : (cxOf CX P w K mg base N q sc f cd A outer s H E).K = K := rfl
/-! ### own exceptions with one field -/
def spXInit (C : Addr) (f : Str) : Sp := fun vs H Q _ => ∃ (a : Addr) (v : V), vs = [.ref a, v] ∧ H a = some (exo a C none) ∧ ∀ d, H d = none → d ≠ a → Q .non (upd (upd H d (exd d [(f, v)])) a (exo a C (some d)))
structure Exn (P : Program) (w : World) (K : PySem.W.Frag) (mg : Str → Option Value) (base : Heap) (x : Str) (C : Addr) (f : Str) : Prop where
  ox : OexC K C
  gl : mg x = some (.ref C)
  ex : ∃ fI fd, PySem.W.findIn K (.ref C) "__init__" = some (some (.ref fI)) ∧ PySem.W.typeIn K (.ref fI) = some (.type "function") ∧ FnOk P w K mg base CX0 1 fI fd ["self", f] (spXInit C f) ∧ Binds K fd ["self", f] []
theorem pmk_x {X : Cx} {x f : Str} {C : Addr} {e : Expr} {te : TE} {p pos : Pos} (N : Exn X.prog X.w X.K X.mg X.base x C f) (hr : Room 2 X.A) (hg : Gl X x) (ha : PE X e te)
    (hs : starEach [e] X.env = (false, eval e X.env) :: starEach [] X.env := by rfl) (hdb : (x == ("__debug__" : Str)) = false := by decide) (hpl : (backTo pos (starEach [] X.env)).any (·.1) = false := by rfl) :
    PMk X (.Call (.Name x p) [e] [] pos) (tMkO C (spXInit C f) [] (tCons te tNil)) := by
  obtain ⟨fI, fd, iC, tI, F, b⟩ := N.ex
  exact pmk_oex N.ox iC tI F hr b .nil pass0 hg N.gl (pa_cons ha pa_nil hs) hdb hs hpl
/-- what a raise of such an exception asks -/
theorem raise_x {C : Addr} {f : Str} {te : TE} {σ : L2.St} {H : Hp} {E : XK} {v : V} (h : ∀ Q : VK, Q v H → te σ H Q) (k : ∀ d H', H d = none → Same H H' → H' d = some (.xd [(f, v)]) → E (.ref C) (some d) H') : tMkO C (spXInit C f) [] (tCons te tNil) σ H E := by
  refine h _ ⟨by show 1 ≤ 1000; decide, fun a ha => ⟨a, v, rfl, upd_same, fun d hd da => ⟨rfl, d, [(f, v)], upd_same, ?_, ?_, ?_⟩⟩⟩
  · rw [upd_ne da, upd_same]
  · rw [upd_ne da] at hd
    exact hd
  · rw [upd_ne da] at hd
    refine k d _ hd (fun b o e => ?_) upd_same
    have ba : b ≠ a := ne_new e ha
    have bd : b ≠ d := ne_new e hd
    rw [upd_ne bd, del_ne ba, upd_ne ba, upd_ne bd, upd_ne ba]
    exact e

/-! ### a star in a list display; a list times a number -/
def tStarD (te : TE) (t : TA) : TA := fun σ H Q => te σ H fun x H1 => ∃ p xs, x = .ref p ∧ sq (H1 p) = some xs ∧ t σ H1 fun ys H2 => Q (xs ++ ys) H2
section
variable {X : Cx}
theorem PA.weak {es : List Expr} {t t' : TA} (h : PA X es t) (i : ∀ σ H Q, t' σ H Q → t σ H Q) : PA X es t' := ⟨fun pos pins s σ H Q I q => h.run pos pins s σ H Q I (i _ _ _ q)⟩
theorem pa_starD {e : Expr} {es : List Expr} {te : TE} {t : TA} {p : Pos} (he : PE X e te) (hr : PA X es t) (hs : starEach (.Starred e p :: es) X.env = (true, eval e X.env) :: starEach es X.env := by rfl) : PA X (.Starred e p :: es) (tStarD te t) :=
  PA.weak (StX.pa_star (PE.mcl he) hr hs) fun σ H Q q => ⟨_, q, fun v H' ⟨a, xs, e1, h, k⟩ => ⟨a, xs, e1, (by
    rcases sq_cases h with h | h
    · exact .inr (SqL.of h)
    · exact .inl (SqT.of h)), k⟩⟩
theorem r_starD {te : TE} {t : TA} {σ : L2.St} {H : Hp} {QA : List V → Hp → Prop} : tStarD te t σ H QA = te σ H (fun x H1 => ∃ p xs, x = .ref p ∧ sq (H1 p) = some xs ∧ t σ H1 fun ys H2 => QA (xs ++ ys) H2) := rfl
theorem r_rep {x y : V} {H : Hp} {Q : VK} : rRep x y H Q = ∃ l k xs, x = .ref l ∧ y = .int k ∧ H l = some (.lst xs) ∧ -(2 ^ 63) ≤ k ∧ k < 2 ^ 63 ∧ xs.length * k.toNat ≤ sizeLine ∧ ∀ p, H p = none → Q (.ref p) (upd H p (.lst (List.replicate k.toNat xs).flatten)) := rfl
end

/-! ### the source of choices -/
def Src (H : Hp) (a : Addr) : Prop := ∃ x y z : Int, H a = some (.lst [.int x, .int y, .int z])
/-- all but a stays -/
def Keep (a : Addr) (H H' : Hp) : Prop := ∀ b o, b ≠ a → H b = some o → H' b = some o
theorem Keep.refl (a : Addr) (H : Hp) : Keep a H H := fun _ _ _ h => h
theorem Keep.trans {a : Addr} {H H1 H2 : Hp} (h : Keep a H H1) (k : Keep a H1 H2) : Keep a H H2 := fun b o n e => k b o n (h b o n e)
theorem Keep.upd {a : Addr} {H H1 : Hp} {o : HO} (h : Keep a H H1) : Keep a H (upd H1 a o) := fun b u n e => by
  rw [upd_ne n]
  exact h b u n e
theorem Keep.new {a p : Addr} {H H1 : Hp} {o : HO} (h : Keep a H H1) (hp : H1 p = none) : Keep a H (L2.upd H1 p o) := fun b u n e => by
  have e1 := h b u n e
  rw [upd_ne (ne_of_none e1 hp)]
  exact e1
theorem Keep.same {a : Addr} {H H1 : Hp} (h : Same H H1) : Keep a H H1 := fun b o _ e => h b o e
theorem Src.new {H : Hp} {a p : Addr} {o : HO} (h : Src H a) (hp : H p = none) : Src (L2.upd H p o) a := by
  obtain ⟨x, y, z, e⟩ := h
  exact ⟨x, y, z, by rw [upd_ne (ne_new e hp)]; exact e⟩
theorem Src.ne {H : Hp} {a p : Addr} (h : Src H a) (hp : H p = none) : p ≠ a := by
  obtain ⟨x, y, z, e⟩ := h
  exact new_ne e hp
structure Txt (mg : Str → Option Value) : Prop where
  b_len : mg "len" = none
  b_int : mg "int" = none
  b_range : mg "range" = none
  b_tuple : mg "tuple" = none
  b_list : mg "list" = none
  b_isinstance : mg "isinstance" = none
  b_bool : mg "bool" = none
  b_str : mg "str" = none
  b_max : mg "max" = none
  b_min : mg "min" = none
  b_enumerate : mg "enumerate" = none
  b_any : mg "any" = none
  b_all : mg "all" = none
  b_zip : mg "zip" = none
  b_sum : mg "sum" = none
  b_sorted : mg "sorted" = none
  b_repr : mg "repr" = none
  b_dict : mg "dict" = none
def spSrc : Sp := fun vs H Q _ => ∃ n : Int, vs = [.int n] ∧ ∀ p H', H p = none → Same H H' → Src H' p → Q (.ref p) H'
def spNext : Sp := fun vs H Q _ => ∃ (a : Addr) (m : Int), vs = [.ref a, .int m] ∧ Src H a ∧ 0 < m ∧ m < 2 ^ 200 ∧ ∀ (r : Int) H', 0 ≤ r → r < m → Keep a H H' → Src H' a → Q (.int r) H'
def spOne : Sp := fun vs H Q _ => ∃ (a b : Addr) (xs : List V), vs = [.ref a, .ref b] ∧ Src H a ∧ b ≠ a ∧ H b = some (.lst xs) ∧ xs ≠ [] ∧ xs.length ≤ 1000 ∧ ∀ v H', v ∈ xs → Keep a H H' → Src H' a → Q v H'
section
variable {P : Program} {w : World} {K : PySem.W.Frag} {mg : Str → Option Value} {base : Heap} {f : Addr} {fd : FuncData}
abbrev ssource_of : Stmt := top 85
theorem scsource_of : FnScope ["_law_cell"] ["_law_cell"] (defScope ssource_of) := ⟨rfl, rfl, rfl, by decide +kernel, rfl, by decide +kernel, by decide +kernel⟩

abbrev snext : Stmt := top 86
theorem scnext : FnScope ["_law_source", "_law_many", "_law_found", "_law_prime", "_law_number"] ["_law_source", "_law_many"] (defScope snext) := ⟨rfl, rfl, rfl, by decide +kernel, rfl, by decide +kernel, by decide +kernel⟩

abbrev sone : Stmt := top 87
theorem scone : FnScope ["_law_source", "_law_some"] ["_law_source", "_law_some"] (defScope sone) := ⟨rfl, rfl, rfl, by decide +kernel, rfl, by decide +kernel, by decide +kernel⟩

theorem ok_source_of (T : Txt mg) (F : FnP K "_law_source_of" "_law_source_of" ssource_of f fd) : FnOk P w K mg base CX0 1 f fd ["_law_cell"] spSrc := by
  refine F.ok scsource_of (fun vs H Q E h => ?_) (fun cdv A outer s H vs Q E hr h => ?_)
  · obtain ⟨n, rfl, _⟩ := h
    rfl
  · obtain ⟨n, rfl, k⟩ := h
    refine ⟨_, PSs.nox (pss_cons (ps_set (i := 0) scsource_of.nd rfl (Or.inl rfl) (pe_ifExp (pt_cmpR op_ge (pv 0) pe_int (nomark _)) (pv 0) (pe_op op_sub (pe_op op_sub pe_int (pe_op op_mul pe_int (pv 0))) pe_int)))
  (pss_one (ps_ret (pe_lst (pa_cons (pe_op op_mul (pv 0) (pe_callTy call_int1 (by rfl) T.b_int (by decide +kernel) (pa_cons (pe_cmpR op_ge (pv 0) (pe_op op_pow pe_int pe_int) (nomark _)) pa_nil))) (pa_cons (pe_op op_mod (pe_callTy call_int1 (by rfl) T.b_int (by decide +kernel) (pa_cons (pv 0) pa_nil)) pe_int) (pa_cons pe_int pa_nil))))))), ?_⟩
    show (_ : TS) _ [some (.int n)] H
    simp only [r_seq, r_next, r_brk, r_cont, r_asg, r_name, r_ret, r_retN, r_drop, r_ifs, r_never, r_var, r_c, r_op, r_un, r_if, r_tst, r_b, r_not, r_and, r_or, r_andV, r_orV, r_notV, r_nil, r_cons, r_tup, r_lst, r_cb, r_call, r_bm, r_bm0, r_sl, r_nopart, r_part, r_rev, r_gnil, r_gcons, r_gsub, r_par, r_aug, r_chain, r_I0, r_I, r_U, r_ixd, r_lend, r_tupd, r_listd, r_sld, r_app, r_ext, r_reverse, r_setl, r_cat, r_int1, r_eqS, r_neS, scal_ii, scal_bb, scal_ss, at0, at1, at2, sq_lst, sq_tup, isLst_lst, List.getElem?_cons_zero, List.getElem?_cons_succ, List.set_cons_zero, List.set_cons_succ, V.int.injEq, V.bl.injEq, V.ref.injEq, V.str.injEq, HO.lst.injEq, HO.tup.injEq, Option.some.injEq, exists_eq_left', exists_eq_left, List.cons.injEq, and_true, true_and, decide_eq_true_eq, reduceCtorEq, false_and, exists_false, or_false, false_or, exists_const, and_assoc, exists_and_left, List.append_nil, ix0, ix1, ix2, cm_mod, cdw1009, cdw2003, cdw7, cdw64, cdw2, cm104729, cm2, cm3, upd_same, List.length_cons, List.length_nil, Int.reduceLT, Int.reduceLE, Nat.reduceAdd, Nat.reduceLeDiff, Nat.reduceLT, Int.reduceToNat, r_for1, r_forL, r_forT, r_lcL, r_lc1, r_yes, r_gtupD, wipe_0, wipe_1, List.cons_append, List.nil_append, r_forS, r_ipI, ite_false, ite_true, Bool.not_true, Bool.not_false, decide_true, decide_false, r_isd, r_islt, cD_ty, cD_ref, tD_non, tD_bl, tD_int, tD_str, tD_ref, tH_lst, tH_tup, tH_dK, tH_ins, ki_self, ki_int_bool, ki_non_int, ki_str_int, ki_lt_lst, ki_lt_tup, r_fld, r_sfld, HO.ins.injEq, cx_K]
    have k' : ∀ x y z : Int, ∀ p, H p = none → Q (.ref p) (upd H p (.lst [.int x, .int y, .int z])) := fun x y z p hp =>
      k p _ hp (Same.new' (Same.refl H) hp) ⟨x, y, z, upd_same⟩
    have c1 : CPow 10 18 := ⟨by decide, by decide, by decide⟩
    have c2 : ∀ (i : Int) (c : Prop) [Decidable c], CMul i (if c then 1 else 0) := fun i c _ => .inr (by split <;> decide)
    have c3 : CMul 3 n := .inl (by decide)
    exact ite2 (fun _ => ⟨c1, c2 _ _, Nat.le_trans (by decide : 3 ≤ 1000) (by decide), k' _ _ _⟩) (fun _ => ⟨c1, c2 _ _, Nat.le_trans (by decide : 3 ≤ 1000) (by decide), k' _ _ _⟩)
theorem ok_next (T : Txt mg) (F : FnP K "_law_next" "_law_next" snext f fd) : FnOk P w K mg base CX0 1 f fd ["_law_source", "_law_many"] spNext := by
  refine F.ok scnext (fun vs H Q E h => ?_) (fun cdv A outer s H vs Q E hr h => ?_)
  · obtain ⟨a, m, rfl, _⟩ := h
    rfl
  · obtain ⟨a, m, rfl, ⟨x, y, z, hS⟩, m0, m1, k⟩ := h
    refine ⟨_, PSs.nox (pss_cons (ps_if (pt_cmpR op_gt (pe_ix ix_d (pv 0) pe_int (fun _ _ => rfl)) pe_int (nomark _))
    (pss_cons (ps_set (i := 2) scnext.nd rfl (Or.inl rfl) (pe_op op_mod (pe_callTy call_int1 (by rfl) T.b_int (by decide +kernel) (pa_cons (pe_ix ix_d (pv 0) pe_int (fun _ _ => rfl)) pa_nil)) (pv 1)))
  (pss_cons (ps_asg (pe_op op_fdivW (pe_ix ix_d (pv 0) pe_int (fun _ _ => rfl)) (pv 1)) (pg_sub (pv 0) pe_int set_list))
  (pss_one (ps_ret (pv 2)))))
    pss_nil)
  (pss_cons (ps_asg (pe_op op_add (pe_ix ix_d (pv 0) pe_int (fun _ _ => rfl)) pe_int) (pg_sub (pv 0) pe_int set_list))
  (pss_cons (ps_set (i := 3) scnext.nd rfl (Or.inl rfl) pe_int)
  (pss_cons (ps_set (i := 4) scnext.nd rfl (Or.inl rfl) (pe_op op_mod (pe_callTy call_int1 (by rfl) T.b_int (by decide +kernel) (pa_cons (pe_op op_add (pe_op op_add (pe_ix ix_d (pv 0) pe_int (fun _ _ => rfl)) (pe_op op_mul pe_int (pe_ix ix_d (pv 0) pe_int (fun _ _ => rfl)))) pe_int) pa_nil)) (pv 3)))
  (pss_cons (ps_set (i := 4) scnext.nd rfl (Or.inl rfl) (pe_op op_mod (pe_callTy call_int1 (by rfl) T.b_int (by decide +kernel) (pa_cons (pe_op op_mul (pv 4) pe_int) pa_nil)) (pv 3)))
  (pss_cons (ps_set (i := 4) scnext.nd rfl (Or.inl rfl) (pe_op op_mod (pe_callTy call_int1 (by rfl) T.b_int (by decide +kernel) (pa_cons (pe_op op_mul (pv 4) (pe_op op_add (pe_op op_fdivW (pv 4) pe_int) pe_int)) pa_nil)) (pv 3)))
  (pss_cons (ps_set (i := 4) scnext.nd rfl (Or.inl rfl) (pe_op op_mod (pe_callTy call_int1 (by rfl) T.b_int (by decide +kernel) (pa_cons (pe_op op_mul (pv 4) (pe_op op_add (pe_op op_fdivW (pv 4) pe_int) pe_int)) pa_nil)) pe_int))
  (pss_one (ps_ret (pe_op op_mod (pe_callTy call_int1 (by rfl) T.b_int (by decide +kernel) (pa_cons (pe_op op_fdivW (pv 4) pe_int) pa_nil)) (pv 1))))))))))), ?_⟩
    show (_ : TS) _ [some (.ref a), some (.int m), none, none, none] H
    have hC : ∀ i, CDivW i m := fun i => of_eq_true (cdw ⟨m0, m1⟩)
    have kk : ∀ (e : Int) (u v t : Int), Q (.int (e % m)) (upd H a (.lst [.int u, .int v, .int t])) := fun e u v t => k _ _ (Int.emod_nonneg _ (by omega)) (Int.emod_lt_of_pos _ m0) (Keep.upd (Keep.refl a H)) ⟨u, v, t, upd_same⟩
    simp only [r_seq, r_next, r_brk, r_cont, r_asg, r_name, r_ret, r_retN, r_drop, r_ifs, r_never, r_var, r_c, r_op, r_un, r_if, r_tst, r_b, r_not, r_and, r_or, r_andV, r_orV, r_notV, r_nil, r_cons, r_tup, r_lst, r_cb, r_call, r_bm, r_bm0, r_sl, r_nopart, r_part, r_rev, r_gnil, r_gcons, r_gsub, r_par, r_aug, r_chain, r_I0, r_I, r_U, r_ixd, r_lend, r_tupd, r_listd, r_sld, r_app, r_ext, r_reverse, r_setl, r_cat, r_int1, r_eqS, r_neS, scal_ii, scal_bb, scal_ss, at0, at1, at2, sq_lst, sq_tup, isLst_lst, List.getElem?_cons_zero, List.getElem?_cons_succ, List.set_cons_zero, List.set_cons_succ, V.int.injEq, V.bl.injEq, V.ref.injEq, V.str.injEq, HO.lst.injEq, HO.tup.injEq, Option.some.injEq, exists_eq_left', exists_eq_left, List.cons.injEq, and_true, true_and, decide_eq_true_eq, reduceCtorEq, false_and, exists_false, or_false, false_or, exists_const, and_assoc, exists_and_left, List.append_nil, ix0, ix1, ix2, cm_mod, cdw1009, cdw2003, cdw7, cdw64, cdw2, cm104729, cm2, cm3, upd_same, List.length_cons, List.length_nil, Int.reduceLT, Int.reduceLE, Nat.reduceAdd, Nat.reduceLeDiff, Nat.reduceLT, Int.reduceToNat, r_for1, r_forL, r_forT, r_lcL, r_lc1, r_yes, r_gtupD, wipe_0, wipe_1, List.cons_append, List.nil_append, r_forS, r_ipI, ite_false, ite_true, Bool.not_true, Bool.not_false, decide_true, decide_false, r_isd, r_islt, cD_ty, cD_ref, tD_non, tD_bl, tD_int, tD_str, tD_ref, tH_lst, tH_tup, tH_dK, tH_ins, ki_self, ki_int_bool, ki_non_int, ki_str_int, ki_lt_lst, ki_lt_tup, r_fld, r_sfld, HO.ins.injEq, cx_K, hS, m0, hC]
    exact ite2 (fun _ => kk _ _ _ _) (fun _ => kk _ _ _ _)
theorem ok_one (T : Txt mg) (F : FnP K "_law_one" "_law_one" sone f fd) (C_next : Cal P w K mg base 1 "_law_next" ["_law_source", "_law_many"] spNext) : FnOk P w K mg base CX0 2 f fd ["_law_source", "_law_some"] spOne := by
  refine F.ok scone (fun vs H Q E h => ?_) (fun cdv A outer s H vs Q E hr h => ?_)
  · obtain ⟨a, b, xs, rfl, _⟩ := h
    rfl
  · obtain ⟨a, b, xs, rfl, hS, hb, hx, h0, h1, k⟩ := h
    refine ⟨_, PSs.nox (pss_one (ps_ret (pe_ix ix_d (pv 1) (pe_cal C_next (hr.mono (by decide)) rfl (pa_cons (pv 0) (pa_cons (pe_callB call_len_d (by rfl) T.b_len (by decide +kernel) (pa_cons (pv 1) pa_nil)) pa_nil))) (fun _ _ => rfl)))), ?_⟩
    show (_ : TS) _ [some (.ref a), some (.ref b)] H
    simp only [r_seq, r_next, r_brk, r_cont, r_asg, r_name, r_ret, r_retN, r_drop, r_ifs, r_never, r_var, r_c, r_op, r_un, r_if, r_tst, r_b, r_not, r_and, r_or, r_andV, r_orV, r_notV, r_nil, r_cons, r_tup, r_lst, r_cb, r_call, r_bm, r_bm0, r_sl, r_nopart, r_part, r_rev, r_gnil, r_gcons, r_gsub, r_par, r_aug, r_chain, r_I0, r_I, r_U, r_ixd, r_lend, r_tupd, r_listd, r_sld, r_app, r_ext, r_reverse, r_setl, r_cat, r_int1, r_eqS, r_neS, scal_ii, scal_bb, scal_ss, at0, at1, at2, sq_lst, sq_tup, isLst_lst, List.getElem?_cons_zero, List.getElem?_cons_succ, List.set_cons_zero, List.set_cons_succ, V.int.injEq, V.bl.injEq, V.ref.injEq, V.str.injEq, HO.lst.injEq, HO.tup.injEq, Option.some.injEq, exists_eq_left', exists_eq_left, List.cons.injEq, and_true, true_and, decide_eq_true_eq, reduceCtorEq, false_and, exists_false, or_false, false_or, exists_const, and_assoc, exists_and_left, List.append_nil, ix0, ix1, ix2, cm_mod, cdw1009, cdw2003, cdw7, cdw64, cdw2, cm104729, cm2, cm3, upd_same, List.length_cons, List.length_nil, Int.reduceLT, Int.reduceLE, Nat.reduceAdd, Nat.reduceLeDiff, Nat.reduceLT, Int.reduceToNat, r_for1, r_forL, r_forT, r_lcL, r_lc1, r_yes, r_gtupD, wipe_0, wipe_1, List.cons_append, List.nil_append, r_forS, r_ipI, ite_false, ite_true, Bool.not_true, Bool.not_false, decide_true, decide_false, r_isd, r_islt, cD_ty, cD_ref, tD_non, tD_bl, tD_int, tD_str, tD_ref, tH_lst, tH_tup, tH_dK, tH_ins, ki_self, ki_int_bool, ki_non_int, ki_str_int, ki_lt_lst, ki_lt_tup, r_fld, r_sfld, HO.ins.injEq, cx_K, hx]
    have hl : 0 < xs.length := List.length_pos_iff.mpr h0
    refine ⟨a, _, rfl, hS, by omega, by omega, fun r H1 r0 r1 k1 s1 => ?_⟩
    have hx1 := k1 b _ hb hx
    obtain ⟨i, rfl⟩ : ∃ i : Nat, r = i := ⟨r.toNat, by omega⟩
    have hi : i < xs.length := by omega
    have e1 : atI xs (i : Int) = some xs[i] := atn (List.getElem?_eq_getElem hi)
    simp only [r_seq, r_next, r_brk, r_cont, r_asg, r_name, r_ret, r_retN, r_drop, r_ifs, r_never, r_var, r_c, r_op, r_un, r_if, r_tst, r_b, r_not, r_and, r_or, r_andV, r_orV, r_notV, r_nil, r_cons, r_tup, r_lst, r_cb, r_call, r_bm, r_bm0, r_sl, r_nopart, r_part, r_rev, r_gnil, r_gcons, r_gsub, r_par, r_aug, r_chain, r_I0, r_I, r_U, r_ixd, r_lend, r_tupd, r_listd, r_sld, r_app, r_ext, r_reverse, r_setl, r_cat, r_int1, r_eqS, r_neS, scal_ii, scal_bb, scal_ss, at0, at1, at2, sq_lst, sq_tup, isLst_lst, List.getElem?_cons_zero, List.getElem?_cons_succ, List.set_cons_zero, List.set_cons_succ, V.int.injEq, V.bl.injEq, V.ref.injEq, V.str.injEq, HO.lst.injEq, HO.tup.injEq, Option.some.injEq, exists_eq_left', exists_eq_left, List.cons.injEq, and_true, true_and, decide_eq_true_eq, reduceCtorEq, false_and, exists_false, or_false, false_or, exists_const, and_assoc, exists_and_left, List.append_nil, ix0, ix1, ix2, cm_mod, cdw1009, cdw2003, cdw7, cdw64, cdw2, cm104729, cm2, cm3, upd_same, List.length_cons, List.length_nil, Int.reduceLT, Int.reduceLE, Nat.reduceAdd, Nat.reduceLeDiff, Nat.reduceLT, Int.reduceToNat, r_for1, r_forL, r_forT, r_lcL, r_lc1, r_yes, r_gtupD, wipe_0, wipe_1, List.cons_append, List.nil_append, r_forS, r_ipI, ite_false, ite_true, Bool.not_true, Bool.not_false, decide_true, decide_false, r_isd, r_islt, cD_ty, cD_ref, tD_non, tD_bl, tD_int, tD_str, tD_ref, tH_lst, tH_tup, tH_dK, tH_ins, ki_self, ki_int_bool, ki_non_int, ki_str_int, ki_lt_lst, ki_lt_tup, r_fld, r_sfld, HO.ins.injEq, cx_K, hx1, e1]
    exact k _ _ (List.getElem_mem hi) k1 s1
end
end C31

set_option maxHeartbeats 2000000
namespace C31
open PySem PySem.Spec PyProof.Rows L2
/-! ### nothing to go through; dict comprehensions -/
theorem pt_no {X : Cx} {e : Expr} : PT X e (fun _ _ _ => False) := ⟨fun _ _ _ _ _ _ h => (show False from h).elim⟩
theorem pe_no {X : Cx} {e : Expr} : PE X e (fun _ _ _ => False) := ⟨fun _ _ _ _ _ _ h => (show False from h).elim⟩
theorem cp_nil {K : PySem.W.Frag} {a : Addr} {g : TG} {tt : TT} {te : TE} {vs : List Nat} {σ : L2.St} {Q : VK} {D : Addr} {H0 : Hp} (hl : SqL K H0 a []) (q : Q (.ref D) H0) : CompR (Itl K a) g tt te vs σ Q D H0 :=
  ⟨fun i m H => H = H0, ⟨0, rfl⟩, fun i m H e => .inl ⟨⟨[], by rw [e]; exact hl, Nat.zero_le _⟩, by rw [e]; exact q⟩⟩
theorem cp_nilT {K : PySem.W.Frag} {a : Addr} {g : TG} {tt : TT} {te : TE} {vs : List Nat} {σ : L2.St} {Q : VK} {D : Addr} {H0 : Hp} (hl : SqT K H0 a []) (q : Q (.ref D) H0) : CompR (Itt K a) g tt te vs σ Q D H0 :=
  ⟨fun i m H => H = H0, ⟨0, rfl⟩, fun i m H e => .inl ⟨⟨[], by rw [e]; exact hl, Nat.zero_le _⟩, by rw [e]; exact q⟩⟩
def CompD (J : L2.It) (g : TG) (tt : TT) (tk tv : TE) (vs : List Nat) (σ : L2.St) (Q : VK) (D : Addr) (H0 : Hp) : Prop := ∃ W : Nat → Nat → Hp → Prop, (∃ m, W 0 m H0) ∧ ∀ i m H, W i m H →
  (J.stop i H ∧ Q (.ref D) H) ∨ (J.go i H ∧ ∃ Nx : Hp → Prop, (∀ H', Nx H' → ∃ m', m' < m ∧ W (i + 1) m' H') ∧ ∀ x H', J.yld i H x H' → g x (wipe σ vs) H' fun σ2 H2 => wipe σ2 vs = wipe σ vs ∧ tt σ2 H2 fun b H3 =>
    if b = true then tk σ2 H3 fun y H4 => tv σ2 H4 fun z H5 => ∃ kvs k, y = kV k ∧ H5 D = some (.dK kvs) ∧ kvs.length < sizeLine ∧ Nx (upd H5 D (.dK (putK kvs k z))) else Nx H3)
theorem r_dcL {K : PySem.W.Frag} {tl : TE} {g : TG} {tt : TT} {tk tv : TE} {vs : List Nat} {σ : L2.St} {H : Hp} {Q : VK} : tDc (iList K tl) g tt tk tv vs σ H Q = tl σ H (fun x H1 => ∃ a, x = .ref a ∧ (∃ xs, SqL K H1 a xs) ∧ ∀ D, H1 D = none → CompD (Itl K a) g tt tk tv vs σ Q D (upd H1 D (.dK []))) := rfl
theorem cd_nil {K : PySem.W.Frag} {a : Addr} {g : TG} {tt : TT} {tk tv : TE} {vs : List Nat} {σ : L2.St} {Q : VK} {D : Addr} {H0 : Hp} (hl : SqL K H0 a []) (q : Q (.ref D) H0) : CompD (Itl K a) g tt tk tv vs σ Q D H0 :=
  ⟨fun i m H => H = H0, ⟨0, rfl⟩, fun i m H e => .inl ⟨⟨[], by rw [e]; exact hl, Nat.zero_le _⟩, by rw [e]; exact q⟩⟩

/-! ### comprehensions over a list or a tuple; dict comprehensions -/
theorem r_lcT {K : PySem.W.Frag} {σ : L2.St} {H : Hp} {g : TG} {tl : TE} {tt : TT} {te : TE} {vs : List Nat} {Q : VK} : tLc (iTup K tl) g tt te vs σ H Q = tl σ H (fun x H1 => ∃ a, x = .ref a ∧ (∃ xs, SqT K H1 a xs) ∧ ∀ D, H1 D = none → CompR (Itt K a) g tt te vs σ Q D (L2.upd H1 D (.lst []))) := rfl
theorem cp_tup {K : PySem.W.Frag} {σ : L2.St} {g : TG} {a : Addr} {xs : List V} {tt : TT} {te : TE} {vs : List Nat} {A : Addr} {H1 : Hp} {Q : VK} (Pv : Nat → Hp → Prop) (h0 : Pv 0 (L2.upd H1 A (.lst []))) (hl : ∀ i H, i ≤ xs.length → Pv i H → SqT K H a xs)
    (hs : ∀ i x H, xs[i]? = some x → Pv i H → g x (wipe σ vs) H fun σ2 H2 => wipe σ2 vs = wipe σ vs ∧ tt σ2 H2 fun b H3 =>
      if b = true then te σ2 H3 fun y H4 => ∃ acc, H4 A = some (.lst acc) ∧ acc.length < sizeLine ∧ Pv (i + 1) (L2.upd H4 A (.lst (acc ++ [y]))) else Pv (i + 1) H3) (hd : ∀ H, Pv xs.length H → Q (.ref A) H) :
    CompR (Itt K a) g tt te vs σ Q A (L2.upd H1 A (.lst [])) := lc_tup Pv h0 hl hs hd
theorem cd_of {J : L2.It} {n : Nat} {g : TG} {tt : TT} {tk tv : TE} {vs : List Nat} {σ : L2.St} {Q : VK} {D : Addr} {H0 : Hp} (Pv : Nat → Hp → Prop) (h0 : Pv 0 H0) (hst : ∀ H, Pv n H → J.stop n H) (hgo : ∀ i H, i < n → Pv i H → J.go i H)
    (hs : ∀ i x H H', i < n → Pv i H → J.yld i H x H' → g x (wipe σ vs) H' fun σ2 H2 => wipe σ2 vs = wipe σ vs ∧ tt σ2 H2 fun b H3 => if b = true then tk σ2 H3 fun y H4 => tv σ2 H4 fun z H5 => ∃ kvs k, y = kV k ∧ H5 D = some (.dK kvs) ∧ kvs.length < sizeLine ∧ Pv (i + 1) (L2.upd H5 D (.dK (putK kvs k z))) else Pv (i + 1) H3)
    (hd : ∀ H, Pv n H → Q (.ref D) H) : CompD J g tt tk tv vs σ Q D H0 := by
  refine ⟨fun i m H => i + m = n ∧ Pv i H, ⟨n, by omega, h0⟩, ?_⟩
  rintro i m H ⟨e, p⟩
  by_cases c : i < n
  · refine .inr ⟨hgo i H c p, fun H' => Pv (i + 1) H', fun H' q => ⟨m - 1, by omega, by omega, q⟩, fun x H' y => hs i x H H' c p y⟩
  · obtain rfl : i = n := by omega
    exact .inl ⟨hst H p, hd H p⟩
theorem cd_list {K : PySem.W.Frag} {a : Addr} {xs : List V} {g : TG} {tt : TT} {tk tv : TE} {vs : List Nat} {σ : L2.St} {Q : VK} {D : Addr} {H0 : Hp} (Pv : Nat → Hp → Prop) (h0 : Pv 0 H0) (hl : ∀ i H, i ≤ xs.length → Pv i H → SqL K H a xs)
    (hs : ∀ i x H, xs[i]? = some x → Pv i H → g x (wipe σ vs) H fun σ2 H2 => wipe σ2 vs = wipe σ vs ∧ tt σ2 H2 fun b H3 => if b = true then tk σ2 H3 fun y H4 => tv σ2 H4 fun z H5 => ∃ kvs k, y = kV k ∧ H5 D = some (.dK kvs) ∧ kvs.length < sizeLine ∧ Pv (i + 1) (L2.upd H5 D (.dK (putK kvs k z))) else Pv (i + 1) H3)
    (hd : ∀ H, Pv xs.length H → Q (.ref D) H) : CompD (Itl K a) g tt tk tv vs σ Q D H0 :=
  cd_of (n := xs.length) Pv h0 (fun H p => ⟨xs, hl _ _ (Nat.le_refl _) p, Nat.le_refl _⟩) (fun i H c p => ⟨xs, xs[i], hl _ _ (Nat.le_of_lt c) p, List.getElem?_eq_getElem c⟩) (fun i x H H' c p y => by
    obtain ⟨rfl, y⟩ := y
    exact hs i x _ (y xs (hl _ _ (Nat.le_of_lt c) p)) p) hd
theorem cd_tup {K : PySem.W.Frag} {a : Addr} {xs : List V} {g : TG} {tt : TT} {tk tv : TE} {vs : List Nat} {σ : L2.St} {Q : VK} {D : Addr} {H0 : Hp} (Pv : Nat → Hp → Prop) (h0 : Pv 0 H0) (hl : ∀ i H, i ≤ xs.length → Pv i H → SqT K H a xs)
    (hs : ∀ i x H, xs[i]? = some x → Pv i H → g x (wipe σ vs) H fun σ2 H2 => wipe σ2 vs = wipe σ vs ∧ tt σ2 H2 fun b H3 => if b = true then tk σ2 H3 fun y H4 => tv σ2 H4 fun z H5 => ∃ kvs k, y = kV k ∧ H5 D = some (.dK kvs) ∧ kvs.length < sizeLine ∧ Pv (i + 1) (L2.upd H5 D (.dK (putK kvs k z))) else Pv (i + 1) H3)
    (hd : ∀ H, Pv xs.length H → Q (.ref D) H) : CompD (Itt K a) g tt tk tv vs σ Q D H0 :=
  cd_of (n := xs.length) Pv h0 (fun H p => ⟨xs, hl _ _ (Nat.le_refl _) p, Nat.le_refl _⟩) (fun i H c p => ⟨xs, xs[i], hl _ _ (Nat.le_of_lt c) p, List.getElem?_eq_getElem c⟩) (fun i x H H' c p y => by
    obtain ⟨rfl, y⟩ := y
    exact hs i x _ (y xs (hl _ _ (Nat.le_of_lt c) p)) p) hd
theorem r_dcT {K : PySem.W.Frag} {tl : TE} {g : TG} {tt : TT} {tk tv : TE} {vs : List Nat} {σ : L2.St} {H : Hp} {Q : VK} : tDc (iTup K tl) g tt tk tv vs σ H Q = tl σ H (fun x H1 => ∃ a, x = .ref a ∧ (∃ xs, SqT K H1 a xs) ∧ ∀ D, H1 D = none → CompD (Itt K a) g tt tk tv vs σ Q D (upd H1 D (.dK []))) := rfl
theorem r_lcV {K : PySem.W.Frag} {i : Nat} {g : TG} {tt : TT} {te : TE} {vs : List Nat} {σ : L2.St} {H : Hp} {Q : VK} : tLc (iSeqV K i) g tt te vs σ H Q = ∃ a, σ[i]? = some (some (.ref a)) ∧ (((∃ xs, H a = some (.lst xs)) ∧ ∀ D, H D = none → CompR (Itl K a) g tt te vs σ Q D (L2.upd H D (.lst []))) ∨ ((∃ xs, H a = some (.tup xs)) ∧ ∀ D, H D = none → CompR (Itt K a) g tt te vs σ Q D (L2.upd H D (.lst [])))) := rfl
/-- a comprehension over a list or a tuple -/
theorem lc_seq {K : PySem.W.Frag} {i : Nat} {g : TG} {tt : TT} {te : TE} {vs : List Nat} {σ : L2.St} {H : Hp} {Q : VK} {a : Addr} {xs : List V} (hσ : σ[i]? = some (some (.ref a))) (ha : sq (H a) = some xs) (Pv : Addr → Nat → Hp → Prop) (h0 : ∀ D, H D = none → Pv D 0 (L2.upd H D (.lst [])))
    (hl : ∀ D i H', H D = none → Pv D i H' → H' a = H a)
    (hs : ∀ D i x H', H D = none → xs[i]? = some x → Pv D i H' → g x (wipe σ vs) H' fun σ2 H2 => wipe σ2 vs = wipe σ vs ∧ tt σ2 H2 fun b H3 => if b = true then te σ2 H3 fun y H4 => ∃ acc, H4 D = some (.lst acc) ∧ acc.length < sizeLine ∧ Pv D (i + 1) (L2.upd H4 D (.lst (acc ++ [y]))) else Pv D (i + 1) H3)
    (hd : ∀ D H', H D = none → Pv D xs.length H' → Q (.ref D) H') : tLc (iSeqV K i) g tt te vs σ H Q := by
  rw [r_lcV]
  refine ⟨a, hσ, ?_⟩
  rcases sq_cases ha with e | e
  · exact .inl ⟨⟨_, e⟩, fun D hD => cp_list (xs := xs) (Pv D) (h0 D hD) (fun i H' _ p => SqL.of (by rw [hl D i H' hD p]; exact e)) (fun i x H' hx p => hs D i x H' hD hx p) (fun H' p => hd D H' hD p)⟩
  · exact .inr ⟨⟨_, e⟩, fun D hD => cp_tup (xs := xs) (Pv D) (h0 D hD) (fun i H' _ p => SqT.of (by rw [hl D i H' hD p]; exact e)) (fun i x H' hx p => hs D i x H' hD hx p) (fun H' p => hd D H' hD p)⟩
theorem r_dcV {K : PySem.W.Frag} {n : Nat} {g : TG} {tt : TT} {tk tv : TE} {vs : List Nat} {σ : L2.St} {H : Hp} {Q : VK} : tDc (iSeqV K n) g tt tk tv vs σ H Q = ∃ a, σ[n]? = some (some (.ref a)) ∧ (((∃ xs, H a = some (.lst xs)) ∧ ∀ D, H D = none → CompD (Itl K a) g tt tk tv vs σ Q D (upd H D (.dK []))) ∨ ((∃ xs, H a = some (.tup xs)) ∧ ∀ D, H D = none → CompD (Itt K a) g tt tk tv vs σ Q D (upd H D (.dK [])))) := rfl
theorem r_dinE {ty td : TE} {σ : L2.St} {H : Hp} {Q : VK} : tDIn ty td σ H Q = ty σ H fun y H1 => td σ H1 fun x H2 => ∃ a o, x = .ref a ∧ DGet H2 a y o ∧ Q (.bl o.isSome) H2 := rfl
theorem r_dnin {ty td : TE} {σ : L2.St} {H : Hp} {Q : VK} : tDNotIn ty td σ H Q = ty σ H fun y H1 => td σ H1 fun x H2 => ∃ a o, x = .ref a ∧ DGet H2 a y o ∧ Q (.bl (!o.isSome)) H2 := rfl
theorem r_dnew {σ : L2.St} {H : Hp} {Q : VK} : tDNewK σ H Q = ∀ p, H p = none → Q (.ref p) (L2.upd H p (.dK [])) := rfl
theorem r_sput {td ty tv : TE} {D : Ends} {σ : L2.St} {H : Hp} : sDPut td ty tv D σ H = tv σ H (fun v H1 => td σ H1 fun x H2 => ty σ H2 fun y H3 => ∃ a H4, x = .ref a ∧ DPut H3 a y v H4 ∧ D.nx σ H4) := rfl

/-! ### enumerate of a tuple -/
section
variable {prog : Program} {w : World} {A : Around} {E : Value → Shared → Prop} {s : Shared}
theorem meets_enumerate_newT (l : Addr) (items : Array Value) (n : Nat) (dct : Option Addr) (sl : Array (Option Value)) :
    Meets (Builtin.«enumerate.__new__» ⟨[.type "enumerate", .ref l], []⟩) (fun _ R s => s.heap.get? l = some { cls := .type "tuple", dict := dct, data := .seq items n, slots := sl } ∧
      R (.ok (.ret (.ref (s.heap.push { cls := .type "tuple_iterator", data := .fields #[.ref l, .int 0 0] }).objs.size)))
        { s with heap := (s.heap.push { cls := .type "tuple_iterator", data := .fields #[.ref l, .int 0 0] }).push { cls := .type "enumerate", data := .fields #[.none, .bool false, .ref s.heap.objs.size, rawInt 0, .none, .none] } }) :=
  .of_wp fun prog w A R s h => by
    obtain ⟨hp, g, d, tk, os⟩ := s; obtain ⟨hl, h⟩ := h
    have hsub := sub_enumerate
    have hL : Heap.IsTuple (Shared.heap ⟨hp, g, d, tk, os⟩) l items := ⟨_, hl, rfl, n, rfl⟩
    wp_walk using AutoSeq1.wpAny_loadPart' hl
    refine wpAny_stack_any fun st => wpAny_pure ?_
    split
    · rename_i c _ _ _ _ _
      cases (c == Value.type "enumerate")
      · wp_walk using AutoSeq1.wpAny_loadPart' hl, wpAny_pyIter_tuple hL
        exact ⟨_, rfl, h⟩
      · wp_walk using AutoSeq1.wpAny_loadPart' hl, wpAny_pyIter_tuple hL
        exact ⟨_, rfl, h⟩
    · wp_walk using AutoSeq1.wpAny_loadPart' hl, wpAny_pyIter_tuple hL
      exact ⟨_, rfl, h⟩
theorem call_enumerate_tuple {l : Addr} {items : Array Value} {Q : Value → Shared → Prop} (hL : s.heap.IsTuple l items)
    (h : ∀ h', IsEnum h' (s.heap.objs.size + 1) s.heap.objs.size 0 .none → h'.IsTupleIter s.heap.objs.size l 0 → h'.objs.size = s.heap.objs.size + 2 →
      (∀ b o, s.heap.get? b = some o → h'.get? b = some o) → Q (.ref (s.heap.objs.size + 1)) { s with heap := h' }) :
    wpAny (model prog w) A (call (.type "enumerate") [.ref l]) Q E s := by
  obtain ⟨⟨c, dct, dt, sl⟩, hl, hc, n, hd⟩ := hL
  replace hc : c = .type "tuple" := hc
  replace hd : dt = .seq items n := hd
  subst hc hd
  refine callType_new F.called_enumerate (by decide) (F.typeCall_enumerate_1 _) (F.newCall_enumerate_1 _) (fun obj => F.args_object_init_2 obj _) F.entry_enumerate_new
    (meets_enumerate_newT l items n dct sl) ⟨hl, ?_⟩
  have hz : (s.heap.push { cls := .type "tuple_iterator", data := .fields #[.ref l, .int 0 0] }).objs.size = s.heap.objs.size + 1 := Heap.size_push ..
  show _ ∧ _
  rw [hz]
  have he : IsEnum ((s.heap.push { cls := .type "tuple_iterator", data := .fields #[.ref l, .int 0 0] }).push
      { cls := .type "enumerate", data := .fields #[.none, .bool false, .ref s.heap.objs.size, rawInt 0, .none, .none] }) (s.heap.objs.size + 1) s.heap.objs.size 0 .none := by
    have := Heap.get?_push_size (s.heap.push { cls := .type "tuple_iterator", data := .fields #[.ref l, .int 0 0] })
      (o := { cls := .type "enumerate", data := .fields #[.none, .bool false, .ref s.heap.objs.size, rawInt 0, .none, .none] }) rfl
    rw [hz] at this; exact this
  refine ⟨⟨_, he, rfl⟩, h _ he ⟨_, Heap.get?_push_of_some _ (Heap.get?_push_size _ rfl), rfl, rfl⟩ (by rw [Heap.size_push, hz]) fun b o x => Heap.get?_push_of_some _ (Heap.get?_push_of_some _ x)⟩
end
/-- the tuple at a, each item in a new pair -/
def IteT (K : PySem.W.Frag) (a : Addr) : It :=
  ⟨fun i H => ∃ (xs : List V) (x : V), SqT K H a xs ∧ xs[i]? = some x, fun i H v H' => ∃ T x, v = .ref T ∧ H T = none ∧ H' = L2.upd H T (.tup [.int (i : Nat), x]) ∧ ∀ xs, SqT K H a xs → xs[i]? = some x, fun i H => ∃ xs : List V, SqT K H a xs ∧ xs.length ≤ i⟩
theorem turn_enumT {P : Program} {w : World} {K : PySem.W.Frag} {elts : List Expr} {kk : Nat} {tpos : Pos} (a e it : Addr) (hai : a ≠ it) (hea : e ≠ a) :
    Turn P w K (.Tuple elts kk tpos) (IteT K a) [e, it] e (fun i h => (∃ old, IsEnum h e it ((i : Nat) : Int) old) ∧ h.IsTupleIter it a i ∧ e ≠ it) where
  mem := by simp
  obj := fun i h st b hb => by
    obtain ⟨⟨old, he⟩, ⟨o, ho, hc, hd⟩, _⟩ := st
    have e' : b = e ∨ b = it := by simpa using hb
    rcases e' with z | z
    · rw [z]; exact ⟨_, he, fun v q => nomatch q⟩
    · rw [z]; exact ⟨o, ho, fun v q => by rw [hd] at q; cases q⟩
  keep := fun i h h' st k => let ⟨⟨old, he⟩, hi, hne⟩ := st; ⟨⟨old, k e (by simp) _ he⟩, hi.at fun o q => k it (by simp) o q, hne⟩
  item := by
    intro X hP hw hK hc i pins s σ H E I hf st hg
    subst hP hw hK
    obtain ⟨⟨old, he⟩, hit, hne⟩ := st
    obtain ⟨xs, x, hq, hx⟩ := hg
    obtain ⟨its, rv, p, hz⟩ := I.tuple hq
    have p' : s.heap.IsTuple a its.toArray := p
    obtain ⟨u, hu, ru⟩ := rv.get hx
    have hel : e < s.heap.objs.size := Heap.lt_size he
    have hil : it < s.heap.objs.size := by obtain ⟨_, q, _⟩ := hit; exact Heap.lt_size q
    have hli : i < its.toArray.size := by
      have := (List.getElem?_eq_some_iff.mp hu).1
      simpa using this
    refine wpAny_pyNext_enum_itemD (Draws.tuple (A := X.A.in1) (I.ok.hd hc) it a hai its.toArray) he ⟨hit, p'⟩ hli hne (by simp [hne, hea]) fun u2 h' tk hu2 ho hst hT hsz hk => ?_
    obtain rfl : u2 = u := by
      have e1 : its.toArray[i]? = some u := by simpa using hu
      rw [e1] at hu2
      exact (Option.some.inj hu2).symm
    have hit' := hst.1
    refine ⟨_, rfl, wpAny_letOwnedTupleGo_enum (s := { s with heap := h', toks := tk + 1 }) ho fun h'' he' sb => ?_⟩
    have hT2 : h''.get? s.heap.objs.size = some { cls := .type "tuple", data := .seq #[.int i tk, u2] } := (sb.2 _ (Nat.ne_of_gt hel)).trans hT
    have new : ObjOk X.prog X.w (L2.upd H s.heap.objs.size (.tup [.int (i : Nat), x])) h'' s.heap.objs.size (.tup [.int (i : Nat), x]) :=
      ⟨by show 2 ≤ sizeLine; decide, [.int i tk, u2], .cons ⟨_, rfl⟩ (.cons ru .nil), ⟨_, hT2, rfl, _, rfl⟩⟩
    have I1 : Inv X pins σ (L2.upd H s.heap.objs.size (.tup [.int (i : Nat), x])) { s with heap := h'', toks := tk + 1 } :=
      I.turnedNew (ch := [e, it]) (fun b ob hb q => (sb.2 b (fun z => hb (by simp [z]))).trans (hk b ob (fun z => hb (by simp [z])) (fun z => hb (by simp [z])) q)) hf (Nat.le_refl _) new
    refine ⟨.ref s.heap.objs.size, _, I1, rfl, ⟨_, x, rfl, I.hok.fresh (Nat.le_refl _), rfl, fun ys hy => by rw [I.tuple_inj hy hq]; exact hx⟩, ⟨⟨u2, ?_⟩, hit'.at fun o q => (sb.2 it (Ne.symm hne)).trans q, hne⟩, fun b hb => ?_⟩
    · have e1 : ((i + 1 : Nat) : Int) = (i : Int) + 1 := by omega
      rw [e1]; exact he'
    · have hb' : b < s.heap.objs.size := by
        have e' : b = e ∨ b = it := by simpa using hb
        rcases e' with z | z
        · rw [z]; exact hel
        · rw [z]; exact hil
      rw [upd_ne (Nat.ne_of_lt hb')]
      exact (hf b hb).1
  done := by
    intro X hP hw hK hc i pins s σ H E I hf st hg
    subst hP hw hK
    obtain ⟨⟨old, he⟩, hit, hne⟩ := st
    obtain ⟨xs, hq, hx⟩ := hg
    obtain ⟨its, rv, p, hz⟩ := I.tuple hq
    have p' : s.heap.IsTuple a its.toArray := p
    obtain ⟨f0, f1, f2, f3, f4, f5⟩ := hf it (by simp)
    have hl := rv.length
    have hT : s.TypeIs (.ref e) "enumerate" := ⟨_, he, rfl⟩
    unfold pyNext
    refine wpAny_bind (wpAny_attempt (wpAny_callSpecial?_slot (name := Str.ofString "__next__") hT F.slot_enumerate_next
      (wpAny_call_entry F.slot_enumerate_next hT F.entry_enumerate_next ?_ (F.args_enumerate_next_1 _))))
    show wpAny _ _ (field (.ref e) 2 >>= _) _ _ _
    refine wpAny_bind (wpAny_field he rfl (x := .ref it) rfl ?_)
    refine wpAny_bind (wpAny_nextOf_tuple_end (I.ok.hd hc) hit p' (by simp; omega) fun h' e2 he' hx' => ?_)
    obtain ⟨o, ho, hc2⟩ := hx'
    refine wpAny_bind (wpAny_isInstance (T := "StopIteration") (b := true) ⟨o, ho, hc2⟩ isSubtype_stop ?_)
    exact wpAny_pure ⟨rfl, I.turned (t' := s.toks) (fun b o hb q => he' b o hb q) f0 f1 f3 f4 f5⟩
  self := fun A i s Q E st h => let ⟨⟨_, he⟩, _⟩ := st; wpAny_pyIter_enum he h
/-- enumerate(xs), xs a list or a tuple -/
def iEnumS (K : PySem.W.Frag) (ta : TA) : TI := fun σ H R => ta σ H fun vs H1 => ∃ a, vs = [.ref a] ∧ (((∃ xs, H1 a = some (.lst xs)) ∧ R (Ite K a) H1) ∨ ((∃ xs, H1 a = some (.tup xs)) ∧ R (IteT K a) H1))
theorem pi_enumS {X : Cx} {e : Expr} {ta : TA} {p pos tpos : Pos} {elts : List Expr} {kk : Nat} (hg : Gl X "enumerate") (hm : X.mg "enumerate" = none) (ha : PA X [e] ta) (hs : starEach [e] X.env = [(false, eval e X.env)] := by rfl) :
    PI X (.Tuple elts kk tpos) (.Call (.Name "enumerate" p) [e] [] pos) (iEnumS X.K ta) := by
  refine ⟨fun pins s σ H R I h => ?_⟩
  refine Call_ (ld_blt I hg hm boot_enumerate (PyProof.Rows.callWith_type1 (thn (ha.run pos pins s σ H _ I h) fun us s1 ⟨vs, H1, I1, r1, q1⟩ => ?_) hs rfl))
  obtain ⟨a, ex, q1⟩ := q1
  subst ex
  cases r1 with
  | cons r rr =>
    cases rr
    cases r
    rcases q1 with ⟨⟨xs, hq⟩, q⟩ | ⟨⟨xs, hq⟩, q⟩
    · obtain ⟨its, rv, p', hz⟩ := I1.list (SqL.of hq)
      refine call_enumerate_list p'.isList fun h' he hit hsz hk => wpAny_pyIter_enum he ?_
      have I2 : Inv X pins σ H1 { s1 with heap := h' } := I1.kept (t' := s1.toks) hk
      refine ⟨s1.heap.objs.size + 1, [s1.heap.objs.size + 1, s1.heap.objs.size], _, _, H1, rfl, I2, turn_enum a (s1.heap.objs.size + 1) s1.heap.objs.size, ⟨⟨.none, he⟩, hit, Nat.succ_ne_self _⟩, fun b hb => ?_, q⟩
      have e' : b = s1.heap.objs.size + 1 ∨ b = s1.heap.objs.size := by simpa using hb
      have hle : s1.heap.objs.size ≤ b := by
        rcases e' with z | z
        · rw [z]; exact Nat.le_add_right _ _
        · rw [z]; exact Nat.le_refl _
      exact I1.fpOk hle (I1.hok.fresh hle)
    · obtain ⟨its, rv, p', hz⟩ := I1.tuple (SqT.of hq)
      have p2 : s1.heap.IsTuple a its.toArray := p'
      have hal : a < s1.heap.objs.size := by obtain ⟨o, q, _⟩ := p2; exact Heap.lt_size q
      refine call_enumerate_tuple p2 fun h' he hit hsz hk => wpAny_pyIter_enum he ?_
      have I2 : Inv X pins σ H1 { s1 with heap := h' } := I1.kept (t' := s1.toks) hk
      refine ⟨s1.heap.objs.size + 1, [s1.heap.objs.size + 1, s1.heap.objs.size], _, _, H1, rfl, I2, turn_enumT a (s1.heap.objs.size + 1) s1.heap.objs.size (Nat.ne_of_lt hal) (Nat.ne_of_gt (Nat.lt_succ_of_lt hal)), ⟨⟨.none, he⟩, hit, Nat.succ_ne_self _⟩, fun b hb => ?_, q⟩
      have e' : b = s1.heap.objs.size + 1 ∨ b = s1.heap.objs.size := by simpa using hb
      have hle : s1.heap.objs.size ≤ b := by
        rcases e' with z | z
        · rw [z]; exact Nat.le_add_right _ _
        · rw [z]; exact Nat.le_refl _
      exact I1.fpOk hle (I1.hok.fresh hle)

/-! ### enumerate as a loop -/
theorem lp_enum {K : PySem.W.Frag} {g : TG} {tb : TS} {D : Ends} {σ : L2.St} {H : Hp} {a : Addr} {xs : List V} (h : sq (H a) = some xs) (Pv : Nat → L2.St → Hp → Prop) (h0 : Pv 0 σ H) (hl : ∀ i σ H', Pv i σ H' → H' a = H a)
    (hs : ∀ i x σ H, xs[i]? = some x → Pv i σ H → ∀ T, H T = none → g (.ref T) σ (L2.upd H T (.tup [.int (i : Nat), x])) fun σ2 H2 => tb { D with nx := Pv (i + 1), ct := Pv (i + 1), bk := D.nx } σ2 H2) (hd : ∀ σ H, Pv xs.length σ H → D.nx σ H) :
    ((∃ xs, H a = some (.lst xs)) ∧ LoopR (Ite K a) g tb D σ H) ∨ ((∃ xs, H a = some (.tup xs)) ∧ LoopR (IteT K a) g tb D σ H) := by
  rcases sq_cases h with e | e
  · refine .inl ⟨⟨_, e⟩, fun i m σ H => m = xs.length - i ∧ i ≤ xs.length ∧ Pv i σ H, ⟨_, rfl, Nat.zero_le _, h0⟩, ?_⟩
    rintro i m σ H' ⟨rfl, hi, p⟩
    have hq : SqL K H' a xs := SqL.of (by rw [hl i σ H' p, e])
    by_cases c : i < xs.length
    · refine .inr ⟨⟨xs, xs[i], hq, List.getElem?_eq_getElem c⟩, Pv (i + 1), fun σ' H2 q => ⟨_, by omega, rfl, c, q⟩, fun v H2 y => ?_⟩
      obtain ⟨T, x, rfl, hT, rfl, hx⟩ := y
      exact hs i x σ H' (hx xs hq) p T hT
    · exact .inl ⟨⟨xs, hq, by omega⟩, hd σ H' (by rw [show xs.length = i from by omega]; exact p)⟩
  · refine .inr ⟨⟨_, e⟩, fun i m σ H => m = xs.length - i ∧ i ≤ xs.length ∧ Pv i σ H, ⟨_, rfl, Nat.zero_le _, h0⟩, ?_⟩
    rintro i m σ H' ⟨rfl, hi, p⟩
    have hq : SqT K H' a xs := SqT.of (by rw [hl i σ H' p, e])
    by_cases c : i < xs.length
    · refine .inr ⟨⟨xs, xs[i], hq, List.getElem?_eq_getElem c⟩, Pv (i + 1), fun σ' H2 q => ⟨_, by omega, rfl, c, q⟩, fun v H2 y => ?_⟩
      obtain ⟨T, x, rfl, hT, rfl, hx⟩ := y
      exact hs i x σ H' (hx xs hq) p T hT
    · exact .inl ⟨⟨xs, hq, by omega⟩, hd σ H' (by rw [show xs.length = i from by omega]; exact p)⟩
theorem r_forE {K : PySem.W.Frag} {ta : TA} {g : TG} {tb : TS} {D : Ends} {σ : L2.St} {H : Hp} : tFor (iEnumS K ta) g tb D σ H = ta σ H (fun vs H1 => ∃ a, vs = [.ref a] ∧ (((∃ xs, H1 a = some (.lst xs)) ∧ LoopR (Ite K a) g tb D σ H1) ∨ ((∃ xs, H1 a = some (.tup xs)) ∧ LoopR (IteT K a) g tb D σ H1))) := rfl

/-! ### rows as they are handed in, rows as they are told -/
structure R3 where
  w : Str
  a : V
  l : Option Int
structure R4 where
  w : Str
  a : V
  l : Option Int
  h : V
def lnV : Option Int → V
  | none => .non
  | some i => .int i
def v3 (x : R3) : List V := [.str x.w, x.a, lnV x.l]
def v4 (x : R4) : List V := [.str x.w, x.a, lnV x.l, x.h]
def Rs3 (H : Hp) (F : Addr) (xs : List R3) : Prop := ∃ refs : List Addr, sq (H F) = some (refs.map V.ref) ∧ Paired (fun r x => H r = some (.tup (v3 x))) refs xs
def Rs4 (H : Hp) (F : Addr) (xs : List R4) : Prop := ∃ refs : List Addr, H F = some (.lst (refs.map V.ref)) ∧ Paired (fun r x => H r = some (.tup (v4 x))) refs xs
theorem Rs3.imp {H H' : Hp} {F : Addr} {xs : List R3} (h : Rs3 H F xs) (k : ∀ b ys, H b = some (.tup ys) → H' b = some (.tup ys)) (e : H' F = H F) : Rs3 H' F xs := by
  obtain ⟨refs, q, p⟩ := h
  exact ⟨refs, by rw [e]; exact q, Paired.map' p fun r x z => k _ _ z⟩
theorem sq_some {H : Hp} {F : Addr} {xs : List V} (h : sq (H F) = some xs) : ∃ o, H F = some o := by
  rcases sq_cases h with e | e <;> exact ⟨_, e⟩
theorem Rs3.same {H H' : Hp} {F : Addr} {xs : List R3} (h : Rs3 H F xs) (s : Same H H') : Rs3 H' F xs := by
  obtain ⟨refs, q, p⟩ := h
  obtain ⟨o, e⟩ := sq_some q
  exact ⟨refs, by rw [s _ _ e]; rw [e] at q; exact q, Paired.map' p fun r x z => s _ _ z⟩
theorem Rs4.same {H H' : Hp} {F : Addr} {xs : List R4} (h : Rs4 H F xs) (s : Same H H') : Rs4 H' F xs := by
  obtain ⟨refs, q, p⟩ := h
  exact ⟨refs, s _ _ q, Paired.map' p fun r x z => s _ _ z⟩
/-! ### the program's tables of words -/
def FW : List Str := (["LOAD_NAME", "POP_TOP", "POP_JUMP_IF_FALSE", "POP_JUMP_IF_TRUE", "POP_JUMP_IF_NONE", "POP_JUMP_IF_NOT_NONE", "JUMP", "JUMP_NO_INTERRUPT", "LABEL", "NOP", "TO_BOOL"] : List Str) ++ (["RETURN_VALUE", "LOAD_FAST", "STORE_FAST", "DELETE_FAST", "LOAD_CONST", "SETUP_FINALLY", "SETUP_CLEANUP", "SETUP_WITH", "POP_BLOCK", "YIELD_VALUE", "RESUME"] : List Str) ++ (["RERAISE", "LOAD_FAST_CHECK", "RETURN_CONST", "COMPARE_OP", "IS_OP", "CONTAINS_OP", "UNARY_NOT", "LOAD_GLOBAL", "PUSH_NULL", "CALL"] : List Str)
def leading (z : Str) : Bool := decide (z ∈ (["JUMP", "JUMP_NO_INTERRUPT", "POP_JUMP_IF_FALSE", "POP_JUMP_IF_TRUE", "POP_JUMP_IF_NONE", "POP_JUMP_IF_NOT_NONE"] : List Str))
def leaving (z : Str) : Bool := decide (z ∈ (["JUMP", "JUMP_NO_INTERRUPT", "RETURN_VALUE", "RETURN_CONST", "RERAISE"] : List Str))
def turning (z : Str) : Bool := leading z || (leaving z || decide (z = "LABEL"))
def direct (z : Str) : Bool := decide (z ∈ (["JUMP", "JUMP_NO_INTERRUPT"] : List Str))
def testing (z : Str) : Bool := decide (z ∈ (["POP_JUMP_IF_FALSE", "POP_JUMP_IF_TRUE", "POP_JUMP_IF_NONE", "POP_JUMP_IF_NOT_NONE"] : List Str))
def oppos (z : Str) : Str := if z = "POP_JUMP_IF_FALSE" then "POP_JUMP_IF_TRUE" else if z = "POP_JUMP_IF_TRUE" then "POP_JUMP_IF_FALSE" else if z = "POP_JUMP_IF_NONE" then "POP_JUMP_IF_NOT_NONE" else "POP_JUMP_IF_NONE"
structure InW (K : PySem.W.Frag) (w : World) (mg : Str → Option Value) (x : Str) (D : Addr) (f : Str → Bool) : Prop where
  kd : ∃ es n, KDict K w D es n
  g : mg x = some (.ref D)
  ok : ∀ z ∈ FW, ∃ o, PySem.W.nsIn K D z = some o ∧ o.isSome = f z
def rInT (K : PySem.W.Frag) (D : Addr) : R2 := fun x y H Q => ∃ (z : Str) (r : Option Value), x = .str z ∧ y = .ref D ∧ PySem.W.nsIn K D z = some r ∧ Q (.bl r.isSome) H
theorem op_inTK {X : Cx} (K : PySem.W.Frag) (w : World) (hK : X.K = K) (hw : X.w = w) {D : Addr} (h : ∃ es n, KDict K w D es n) : OpR X (compareOp .In) (rInT K D) := by
  subst hK
  subst hw
  obtain ⟨es, n, h⟩ := h
  exact op_in_kd h
theorem op_ninTK {X : Cx} (K : PySem.W.Frag) (w : World) (hK : X.K = K) (hw : X.w = w) {D : Addr} (h : ∃ es n, KDict K w D es n) : OpR X (compareOp .NotIn) (fun x y H Q => ∃ (z : Str) (r : Option Value), x = .str z ∧ y = .ref D ∧ PySem.W.nsIn K D z = some r ∧ Q (.bl (!r.isSome)) H) := by
  subst hK
  subst hw
  obtain ⟨es, n, h⟩ := h
  exact op_notIn_kd h
theorem InW.inT {K : PySem.W.Frag} {w : World} {mg : Str → Option Value} {x : Str} {D : Addr} {f : Str → Bool} (h : InW K w mg x D f) {z : Str} (hz : z ∈ FW) {H : Hp} {Q : VK} (k : Q (.bl (f z)) H) : rInT K D (.str z) (.ref D) H Q := by
  obtain ⟨o, e, q⟩ := h.ok z hz
  exact ⟨z, o, rfl, rfl, e, by rw [q]; exact k⟩
theorem InW.ninT {K : PySem.W.Frag} {w : World} {mg : Str → Option Value} {x : Str} {D : Addr} {f : Str → Bool} (h : InW K w mg x D f) {z : Str} (hz : z ∈ FW) {H : Hp} {Q : VK} (k : Q (.bl (!f z)) H) : (fun x y H Q => ∃ (z : Str) (r : Option Value), x = V.str z ∧ y = .ref D ∧ PySem.W.nsIn K D z = some r ∧ Q (.bl (!r.isSome)) H : R2) (.str z) (.ref D) H Q := by
  obtain ⟨o, e, q⟩ := h.ok z hz
  exact ⟨z, o, rfl, rfl, e, by rw [q]; exact k⟩
/-- the words of rows, as a dict -/
def WdD (H : Hp) (D : Addr) (f : Str → Bool) : Prop := ∃ kvs : List (Key × V), H D = some (.dK kvs) ∧ ∀ z : Str, (valV kvs (Sum.inr z : Key)).isSome = f z
theorem WdD.same {H H' : Hp} {D : Addr} {f : Str → Bool} (h : WdD H D f) (s : Same H H') : WdD H' D f := let ⟨kvs, e, k⟩ := h; ⟨kvs, s _ _ e, k⟩
theorem WdD.get {H : Hp} {D : Addr} {f : Str → Bool} (h : WdD H D f) (z : Str) : ∃ o, DGet H D (.str z) o ∧ o.isSome = f z := by
  obtain ⟨kvs, e, k⟩ := h
  exact ⟨_, DGet.k (k := (Sum.inr z : Key)) e, k z⟩
def hasW (ws : List Str) (z : Str) : Bool := decide (z ∈ ws)
theorem hasW_app (a : List Str) (x z : Str) : hasW (a ++ [x]) z = (hasW a z || decide (z = x)) := by
  unfold hasW
  simp
def spWords : Sp := fun vs H Q _ => ∃ (F : Addr) (ws : List Str), vs = [.ref F] ∧ (∃ refs : List Addr, sq (H F) = some (refs.map V.ref) ∧ Paired (fun r z => ∃ ys, H r = some (.tup (.str z :: ys))) refs ws) ∧ ws.length ≤ 100000 ∧ ∀ D H', H D = none → Same H H' → WdD H' D (hasW ws) → Q (.ref D) H'
section
variable {P : Program} {w : World} {K : PySem.W.Frag} {mg : Str → Option Value} {base : Heap} {f : Addr} {fd : FuncData}
abbrev swords_in : Stmt := top 32
theorem scwords_in : FnScope ["rows", "row"] ["rows"] (defScope swords_in) := ⟨rfl, rfl, rfl, by decide +kernel, rfl, by decide +kernel, by decide +kernel⟩

theorem ok_words_in (F : FnP K "words_in" "words_in" swords_in f fd) : FnOk P w K mg base CX0 1 f fd ["rows"] spWords := by
  refine F.ok scwords_in (fun vs H Q E h => ?_) (fun cdv A outer s H vs Q E hr h => ?_)
  · obtain ⟨F, ws, rfl, _⟩ := h
    rfl
  · obtain ⟨F, ws, rfl, ⟨refs, hF, hP⟩, hl, k⟩ := h
    refine ⟨_, PSs.nox (pss_one (ps_ret (pe_dc (own := [("row", 1)]) (g := gName 1) (tt := tYes) rfl scwords_in.nd (pi_seqV 0) (blkOk_by (own := [("row", 1)]) (N := ["rows", "row"]) (sc := defScope swords_in) (by decide +kernel)) (fun _ _ _ _ _ => (pg_name (i := 1) scwords_in.nd rfl (Or.inl rfl))) (fun _ _ _ _ _ => pts_nil) (fun _ _ _ _ _ => (pe_ix ix_d (pv 1) pe_int (fun _ _ => rfl))) (fun _ _ _ _ _ => pe_bl)))), ?_⟩
    show (_ : TS) _ [some (.ref F), none] H
    simp only [r_seq, r_next, r_brk, r_cont, r_asg, r_name, r_ret, r_retN, r_drop, r_ifs, r_never, r_var, r_c, r_op, r_un, r_if, r_tst, r_b, r_not, r_and, r_or, r_andV, r_orV, r_notV, r_nil, r_cons, r_tup, r_lst, r_cb, r_call, r_bm, r_bm0, r_sl, r_nopart, r_part, r_rev, r_gnil, r_gcons, r_gsub, r_par, r_aug, r_chain, r_I0, r_I, r_U, r_ixd, r_lend, r_tupd, r_listd, r_sld, r_app, r_ext, r_reverse, r_setl, r_cat, r_int1, r_eqS, r_neS, scal_ii, scal_bb, scal_ss, at0, at1, at2, sq_lst, sq_tup, isLst_lst, List.getElem?_cons_zero, List.getElem?_cons_succ, List.set_cons_zero, List.set_cons_succ, V.int.injEq, V.bl.injEq, V.ref.injEq, V.str.injEq, HO.lst.injEq, HO.tup.injEq, Option.some.injEq, exists_eq_left', exists_eq_left, List.cons.injEq, and_true, true_and, decide_eq_true_eq, reduceCtorEq, false_and, exists_false, or_false, false_or, exists_const, and_assoc, exists_and_left, List.append_nil, ix0, ix1, ix2, cm_mod, cdw1009, cdw2003, cdw7, cdw64, cdw2, cm104729, cm2, cm3, upd_same, List.length_cons, List.length_nil, Int.reduceLT, Int.reduceLE, Nat.reduceAdd, Nat.reduceLeDiff, Nat.reduceLT, Int.reduceToNat, r_for1, r_forL, r_forT, r_lcL, r_lc1, r_yes, r_gtupD, wipe_0, wipe_1, List.cons_append, List.nil_append, r_forS, r_ipI, ite_false, ite_true, Bool.not_true, Bool.not_false, decide_true, decide_false, r_isd, r_islt, cD_ty, cD_ref, tD_non, tD_bl, tD_int, tD_str, tD_ref, tH_lst, tH_tup, tH_dK, tH_ins, ki_self, ki_int_bool, ki_non_int, ki_str_int, ki_lt_lst, ki_lt_tup, r_fld, r_sfld, HO.ins.injEq, cx_K]
    rw [r_dcV]
    have lw := Paired.length hP
    refine ⟨F, rfl, ?_⟩
    have step : ∀ (D : Addr) (i : Nat) (x : V) (H2 : Hp), H D = none → (refs.map V.ref)[i]? = some x → (Same H H2 ∧ ∃ kvs : List (Key × V), H2 D = some (.dK kvs) ∧ kvs.length ≤ i ∧ ∀ z : Str, (valV kvs (Sum.inr z : Key)).isSome = hasW (ws.take i) z) → gName 1 x (wipe [some (.ref F), none] (List.map (fun x => x.snd) [(Str.ofString "row", 1)])) H2 fun σ2 H2 => wipe σ2 (List.map (fun x => x.snd) [(Str.ofString "row", 1)]) = wipe [some (.ref F), none] (List.map (fun x => x.snd) [(Str.ofString "row", 1)]) ∧ tYes σ2 H2 fun b H3 => if b = true then (tOp rIxd (tVar 1) (tC (V.int 0))) σ2 H3 fun y H4 => (tC (V.bl true)) σ2 H4 fun z H5 => ∃ kvs k, y = kV k ∧ H5 D = some (.dK kvs) ∧ kvs.length < sizeLine ∧ (Same H (L2.upd H5 D (.dK (putK kvs k z))) ∧ ∃ kvs' : List (Key × V), L2.upd H5 D (.dK (putK kvs k z)) D = some (.dK kvs') ∧ kvs'.length ≤ i + 1 ∧ ∀ z : Str, (valV kvs' (Sum.inr z : Key)).isSome = hasW (ws.take (i + 1)) z) else (Same H H3 ∧ ∃ kvs : List (Key × V), H3 D = some (.dK kvs) ∧ kvs.length ≤ i + 1 ∧ ∀ z : Str, (valV kvs (Sum.inr z : Key)).isSome = hasW (ws.take (i + 1)) z) := by
      rintro D i x H2 hD hx ⟨s2, kvs, eD, lk, mk⟩
      rw [List.getElem?_map] at hx
      obtain ⟨r, hr1, rfl⟩ := Option.map_eq_some_iff.mp hx
      obtain ⟨hi0, e0⟩ := List.getElem?_eq_some_iff.mp hr1
      have hi' : i < ws.length := by rw [← lw]; exact hi0
      have hrt := Paired.at' hP hi0 hi'
      rw [e0] at hrt
      obtain ⟨ys, er⟩ := hrt
      have er2 := s2 _ _ er
      have tk : ws.take (i + 1) = ws.take i ++ [ws[i]] := by rw [List.take_add_one, List.getElem?_eq_getElem hi']; rfl
      show gName 1 (.ref r) [some (.ref F), none] H2 _
      simp only [r_seq, r_next, r_brk, r_cont, r_asg, r_name, r_ret, r_retN, r_drop, r_ifs, r_never, r_var, r_c, r_op, r_un, r_if, r_tst, r_b, r_not, r_and, r_or, r_andV, r_orV, r_notV, r_nil, r_cons, r_tup, r_lst, r_cb, r_call, r_bm, r_bm0, r_sl, r_nopart, r_part, r_rev, r_gnil, r_gcons, r_gsub, r_par, r_aug, r_chain, r_I0, r_I, r_U, r_ixd, r_lend, r_tupd, r_listd, r_sld, r_app, r_ext, r_reverse, r_setl, r_cat, r_int1, r_eqS, r_neS, scal_ii, scal_bb, scal_ss, at0, at1, at2, sq_lst, sq_tup, isLst_lst, List.getElem?_cons_zero, List.getElem?_cons_succ, List.set_cons_zero, List.set_cons_succ, V.int.injEq, V.bl.injEq, V.ref.injEq, V.str.injEq, HO.lst.injEq, HO.tup.injEq, Option.some.injEq, exists_eq_left', exists_eq_left, List.cons.injEq, and_true, true_and, decide_eq_true_eq, reduceCtorEq, false_and, exists_false, or_false, false_or, exists_const, and_assoc, exists_and_left, List.append_nil, ix0, ix1, ix2, cm_mod, cdw1009, cdw2003, cdw7, cdw64, cdw2, cm104729, cm2, cm3, upd_same, List.length_cons, List.length_nil, Int.reduceLT, Int.reduceLE, Nat.reduceAdd, Nat.reduceLeDiff, Nat.reduceLT, Int.reduceToNat, r_for1, r_forL, r_forT, r_lcL, r_lc1, r_yes, r_gtupD, wipe_0, wipe_1, List.cons_append, List.nil_append, r_forS, r_ipI, ite_false, ite_true, Bool.not_true, Bool.not_false, decide_true, decide_false, r_isd, r_islt, cD_ty, cD_ref, tD_non, tD_bl, tD_int, tD_str, tD_ref, tH_lst, tH_tup, tH_dK, tH_ins, ki_self, ki_int_bool, ki_non_int, ki_str_int, ki_lt_lst, ki_lt_tup, r_fld, r_sfld, HO.ins.injEq, cx_K, er2]
      refine ⟨rfl, _, Sum.inr ws[i], rfl, eD, Nat.lt_of_le_of_lt (by omega : _ ≤ 100000) (by decide), fun b o e => by rw [upd_ne (ne_new e hD)]; exact s2 _ _ e, _, rfl, Nat.le_trans (length_putK kvs (Sum.inr ws[i]) (V.bl true)) (by omega), fun z => ?_⟩
      rw [valV_put, tk, hasW_app]
      by_cases c : z = ws[i]
      · rw [if_pos (by rw [c]), decide_eq_true c, Bool.or_true]
        rfl
      · rw [if_neg (by simpa using c), mk, decide_eq_false c, Bool.or_false]
    rcases sq_cases hF with e | e
    · refine .inl ⟨⟨_, e⟩, fun D hD => cd_list (xs := refs.map V.ref) (fun i H' => Same H H' ∧ ∃ kvs : List (Key × V), H' D = some (.dK kvs) ∧ kvs.length ≤ i ∧ ∀ z : Str, (valV kvs (Sum.inr z : Key)).isSome = hasW (ws.take i) z) ⟨Same.new' (Same.refl H) hD, [], upd_same, Nat.le_refl _, fun z => rfl⟩ (fun i H' _ q => SqL.of (q.1 _ _ e)) (fun i x H2 hx p => step D i x H2 hD hx p) fun H2 p => ?_⟩
      obtain ⟨s2, kvs, eD, lk, mk⟩ := p
      rw [List.length_map, lw, List.take_length] at mk
      exact k D H2 hD s2 ⟨kvs, eD, mk⟩
    · refine .inr ⟨⟨_, e⟩, fun D hD => cd_tup (xs := refs.map V.ref) (fun i H' => Same H H' ∧ ∃ kvs : List (Key × V), H' D = some (.dK kvs) ∧ kvs.length ≤ i ∧ ∀ z : Str, (valV kvs (Sum.inr z : Key)).isSome = hasW (ws.take i) z) ⟨Same.new' (Same.refl H) hD, [], upd_same, Nat.le_refl _, fun z => rfl⟩ (fun i H' _ q => SqT.of (q.1 _ _ e)) (fun i x H2 hx p => step D i x H2 hD hx p) fun H2 p => ?_⟩
      obtain ⟨s2, kvs, eD, lk, mk⟩ := p
      rw [List.length_map, lw, List.take_length] at mk
      exact k D H2 hD s2 ⟨kvs, eD, mk⟩
end
end C31

set_option maxHeartbeats 2000000
namespace C31
open PySem PySem.Spec PyProof.Rows L2
def KTup (K : PySem.W.Frag) (a : Addr) (xs : List V) : Prop := ∃ (o : Obj) (its : Array Value) (n : Nat), K.lookup a = some o ∧ o.cls = .type "tuple" ∧ o.data = .seq its n ∧ its.size ≤ sizeLine ∧ Vals xs its.toList
theorem KTup.s {K : PySem.W.Frag} {a : Addr} {xs : List V} (h : KTup K a xs) (H : Hp) : SqT K H a xs := .inr h
theorem r_ixD {K : PySem.W.Frag} {w : World} {x y : V} {H : Hp} {Q : VK} : rIxD K w x y H Q = ∃ p z v, x = .ref p ∧ y = .str z ∧ KDct K w p z v ∧ Q v H := rfl
/-! ### handlers and what is around them -/
structure Hd3 where
  lab : Int
  dep : Int
  want : Bool
inductive Gd where
  | no
  | on (h : Hd3) (o : Gd)
def Gd.n : Gd → Nat
  | .no => 0
  | .on _ o => o.n + 1
def Gd.hd : Gd → Option Hd3
  | .no => none
  | .on h _ => some h
def HdV (H : Hp) (v : V) : Option Hd3 → Prop
  | none => v = .non
  | some h => ∃ a, v = .ref a ∧ H a = some (.tup [.int h.lab, .int h.dep, .bl h.want])
def GdV (NH : Addr) (H : Hp) (v : V) : Gd → Prop
  | .no => v = .ref NH
  | .on h o => ∃ a hv ov, v = .ref a ∧ H a = some (.tup [hv, ov, .int ((o.n + 1 : Nat) : Int)]) ∧ HdV H hv (some h) ∧ GdV NH H ov o
/-- tuples stay -/
def Tups (H H' : Hp) : Prop := ∀ b ys, H b = some (.tup ys) → H' b = some (.tup ys)
theorem HdV.imp {H H' : Hp} {v : V} {h : Option Hd3} (q : HdV H v h) (k : Tups H H') : HdV H' v h := by
  cases h with
  | none => exact q
  | some h => obtain ⟨a, e, q⟩ := q; exact ⟨a, e, k _ _ q⟩
theorem GdV.imp {NH : Addr} {H H' : Hp} (k : Tups H H') : ∀ {v : V} {g : Gd}, GdV NH H v g → GdV NH H' v g
  | _, .no, q => q
  | _, .on _ _, ⟨a, hv, ov, e, q, h1, h2⟩ => ⟨a, hv, ov, e, k _ _ q, h1.imp k, GdV.imp k h2⟩
/-- the three parts of guards, read -/
theorem GdV.parts {K : PySem.W.Frag} {NH : Addr} {H : Hp} {v : V} {g : Gd} (kn : KTup K NH [.non, .non, .int 0]) (h : GdV NH H v g) : ∃ a hv ov, v = .ref a ∧ SqT K H a [hv, ov, .int (g.n : Nat)] ∧ HdV H hv g.hd ∧ match g with
  | .no => ov = .non
  | .on _ o => GdV NH H ov o := by
  cases g with
  | no => exact ⟨NH, .non, .non, h, kn.s H, rfl, rfl⟩
  | on h' o =>
    obtain ⟨a, hv, ov, e, q, h1, h2⟩ := h
    exact ⟨a, hv, ov, e, SqT.of q, h1, h2⟩
/-- what is told of labels: the height and the guards there -/
structure Td where
  n : Int
  dep : Int
  g : Gd
def hasT (t : List Td) (n : Int) : Bool := t.any fun p => decide (p.n = n)
def TdV (NH : Addr) (H : Hp) (v : V) (p : Td) : Prop := ∃ a gv, v = .ref a ∧ H a = some (.tup [.int p.dep, gv]) ∧ GdV NH H gv p.g
/-- the newest first -/
def TdA (NH : Addr) (H : Hp) (T : Addr) (t : List Td) : Prop := ∃ kvs : List (Key × V), H T = some (.dK kvs) ∧ kvs.length ≤ t.length ∧ ∀ n : Int, match t.find? fun p => decide (p.n = n) with
  | none => valV kvs (Sum.inl n : Key) = none
  | some p => ∃ v, valV kvs (Sum.inl n : Key) = some v ∧ TdV NH H v p
def tellH (t : List Td) : Gd → List Td
  | .no => t
  | .on h o => if hasT t h.lab = true then t else ⟨h.lab, h.dep + (if h.want = true then 2 else 1), o⟩ :: t
theorem has_find {t : List Td} {n : Int} : hasT t n = (t.find? fun p => decide (p.n = n)).isSome := by
  unfold hasT
  induction t with
  | nil => rfl
  | cons p r ih =>
    rw [List.any_cons, List.find?_cons]
    cases decide (p.n = n) with
    | true => rfl
    | false => rw [Bool.false_or]; exact ih
theorem TdA.get {NH : Addr} {H : Hp} {T : Addr} {t : List Td} (h : TdA NH H T t) (n : Int) : ∃ o, DGet H T (.int n) o ∧ o.isSome = hasT t n := by
  obtain ⟨kvs, e, _, k⟩ := h
  refine ⟨_, DGet.k (k := (Sum.inl n : Key)) e, ?_⟩
  have := k n
  rw [has_find]
  cases q : t.find? fun p => decide (p.n = n) with
  | none => rw [q] at this; rw [this]; rfl
  | some p => rw [q] at this; obtain ⟨v, e, _⟩ := this; rw [e]; rfl
/-- told of one label more -/
theorem TdA.put {NH : Addr} {H : Hp} {T : Addr} {t : List Td} {p : Td} {v : V} (h : TdA NH H T t) (q : TdV NH H v p) (hl : t.length ≤ 200000) : ∃ H', DPut H T (.int p.n) v H' ∧ TdA NH H' T (p :: t) ∧ ∀ b, b ≠ T → H' b = H b := by
  obtain ⟨kvs, e, l, k⟩ := h
  have tp : ∀ kv', Tups H (L2.upd H T (.dK kv')) := fun kv' b ys z => by rw [upd_ne (fun w => by rw [w, e] at z; cases z)]; exact z
  have tv : ∀ kv' {v p}, TdV NH H v p → TdV NH (L2.upd H T (.dK kv')) v p := fun kv' {v p} ⟨a, gv, e1, e2, e3⟩ => ⟨a, gv, e1, tp _ _ _ e2, e3.imp (tp _)⟩
  refine ⟨_, DPut.k (k := (Sum.inl p.n : Key)) e (Nat.lt_of_le_of_lt (by omega : _ ≤ 200000) (by decide)), ⟨_, upd_same, Nat.le_trans (length_putK kvs (Sum.inl p.n) v) (by rw [List.length_cons]; omega), fun n => ?_⟩, fun b nb => upd_ne nb⟩
  rw [valV_put, List.find?_cons]
  by_cases c : p.n = n
  · rw [decide_eq_true c]
    exact ⟨v, if_pos (by rw [c]), tv _ q⟩
  · rw [decide_eq_false c, if_neg (fun z => c (Sum.inl.inj z).symm)]
    have := k n
    cases z : t.find? fun p => decide (p.n = n) with
    | none => rw [z] at this; exact this
    | some p' => rw [z] at this; obtain ⟨v', e1, e2⟩ := this; exact ⟨v', e1, tv _ e2⟩
theorem TdA.imp {NH : Addr} {H H' : Hp} {T : Addr} {t : List Td} (h : TdA NH H T t) (e : H' T = H T) (k : Tups H H') : TdA NH H' T t := by
  obtain ⟨kvs, q, l, m⟩ := h
  refine ⟨kvs, by rw [e]; exact q, l, fun n => ?_⟩
  have := m n
  cases z : t.find? fun p => decide (p.n = n) with
  | none => rw [z] at this; exact this
  | some p => rw [z] at this; obtain ⟨v, e1, a, gv, e2, e3, e4⟩ := this; exact ⟨v, e1, a, gv, e2, k _ _ e3, e4.imp k⟩
def spTell (NH : Addr) : Sp := fun vs H Q _ => ∃ (T : Addr) (gv : V) (t : List Td) (g : Gd), vs = [.ref T, gv] ∧ TdA NH H T t ∧ GdV NH H gv g ∧ t.length ≤ 100000 ∧ ∀ v H', (∀ b o, b ≠ T → H b = some o → H' b = some o) → TdA NH H' T (tellH t g) → Q v H'
section
variable {P : Program} {w : World} {K : PySem.W.Frag} {mg : Str → Option Value} {base : Heap} {f : Addr} {fd : FuncData}
abbrev sth : Stmt := top 30
theorem scth : FnScope ["told", "guards", "handler", "outer", "_"] ["told", "guards"] (defScope sth) := ⟨rfl, rfl, rfl, by decide +kernel, rfl, by decide +kernel, by decide +kernel⟩

theorem ok_th {NH : Addr} (T : Txt mg) (kn : KTup K NH [.non, .non, .int 0]) (F : FnP K "tell_handler" "tell_handler" sth f fd) : FnOk P w K mg base CX0 1 f fd ["told", "guards"] (spTell NH) := by
  refine F.ok scth (fun vs H Q E h => ?_) (fun cdv A outer s H vs Q E hr h => ?_)
  · obtain ⟨T, gv, t, g, rfl, _⟩ := h
    rfl
  · have hu1 := hu_of hr
    obtain ⟨Tt, gv, t, g, rfl, hT, hg, hl, k⟩ := h
    refine ⟨_, PSs.nox (pss_cons (ps_asg (pv 1) (pg_tup (n := 3) rfl (pgs_cons (pg_name (i := 2) scth.nd rfl (Or.inl rfl)) (pgs_cons (pg_name (i := 3) scth.nd rfl (Or.inl rfl)) (pgs_cons (pg_name (i := 4) scth.nd rfl (Or.inl rfl)) pgs_nil)))))
  (pss_one (ps_if (PW.pt (pw_and (pt_cmpR op_notN (pv 2) pe_non (nomark _)) (pw_and1 (pt_cmp (pc_dnotin hu1 (pe_ix ix_d (pv 2) pe_int (fun _ _ => rfl)) (pv 0))))))
    (pss_one (ps_dput hu1 (pv 0) (pe_ix ix_d (pv 2) pe_int (fun _ _ => rfl)) (pe_tup (pa_cons (pe_op op_add (pe_ix ix_d (pv 2) pe_int (fun _ _ => rfl)) (pe_ifExp (pt_val (pe_ix ix_d (pv 2) pe_int (fun _ _ => rfl))) pe_int pe_int)) (pa_cons (pv 3) pa_nil))) rfl))
    pss_nil))), ?_⟩
    show (_ : TS) _ [some (.ref Tt), some gv, none, none, none] H
    rw [r_seq, r_asg, r_var]
    obtain ⟨a, hv, ov, rfl, sq3, hh, ho⟩ := hg.parts kn
    refine ⟨_, rfl, ?_⟩
    rw [r_gtup]
    refine ⟨a, _, rfl, sq3, rfl, ?_⟩
    cases g with
    | no =>
      have hh : hv = .non := hh
      subst hh
      simp only [r_seq, r_next, r_brk, r_cont, r_asg, r_name, r_ret, r_retN, r_drop, r_ifs, r_never, r_var, r_c, r_op, r_un, r_if, r_tst, r_b, r_not, r_and, r_or, r_andV, r_orV, r_notV, r_nil, r_cons, r_tup, r_lst, r_cb, r_call, r_bm, r_bm0, r_sl, r_nopart, r_part, r_rev, r_gnil, r_gcons, r_gsub, r_par, r_aug, r_chain, r_I0, r_I, r_U, r_ixd, r_lend, r_tupd, r_listd, r_sld, r_app, r_ext, r_reverse, r_setl, r_cat, r_int1, r_eqS, r_neS, scal_ii, scal_bb, scal_ss, at0, at1, at2, sq_lst, sq_tup, isLst_lst, List.getElem?_cons_zero, List.getElem?_cons_succ, List.set_cons_zero, List.set_cons_succ, V.int.injEq, V.bl.injEq, V.ref.injEq, V.str.injEq, HO.lst.injEq, HO.tup.injEq, Option.some.injEq, exists_eq_left', exists_eq_left, List.cons.injEq, and_true, true_and, decide_eq_true_eq, reduceCtorEq, false_and, exists_false, or_false, false_or, exists_const, and_assoc, exists_and_left, List.append_nil, ix0, ix1, ix2, cm_mod, cdw1009, cdw2003, cdw7, cdw64, cdw2, cm104729, cm2, cm3, upd_same, List.length_cons, List.length_nil, Int.reduceLT, Int.reduceLE, Nat.reduceAdd, Nat.reduceLeDiff, Nat.reduceLT, Int.reduceToNat, r_for1, r_forL, r_forT, r_lcL, r_lc1, r_yes, r_gtupD, wipe_0, wipe_1, List.cons_append, List.nil_append, r_forS, r_ipI, ite_false, ite_true, Bool.not_true, Bool.not_false, decide_true, decide_false, r_isd, r_islt, cD_ty, cD_ref, tD_non, tD_bl, tD_int, tD_str, tD_ref, tH_lst, tH_tup, tH_dK, tH_ins, ki_self, ki_int_bool, ki_non_int, ki_str_int, ki_lt_lst, ki_lt_tup, r_fld, r_sfld, HO.ins.injEq, cx_K]
      exact k _ H (fun _ _ _ e => e) hT
    | on h o =>
      obtain ⟨ha, rfl, eh⟩ : ∃ a, hv = .ref a ∧ H a = some (.tup [.int h.lab, .int h.dep, .bl h.want]) := hh
      have ho : GdV NH H ov o := ho
      simp only [r_seq, r_next, r_brk, r_cont, r_asg, r_name, r_ret, r_retN, r_drop, r_ifs, r_never, r_var, r_c, r_op, r_un, r_if, r_tst, r_b, r_not, r_and, r_or, r_andV, r_orV, r_notV, r_nil, r_cons, r_tup, r_lst, r_cb, r_call, r_bm, r_bm0, r_sl, r_nopart, r_part, r_rev, r_gnil, r_gcons, r_gsub, r_par, r_aug, r_chain, r_I0, r_I, r_U, r_ixd, r_lend, r_tupd, r_listd, r_sld, r_app, r_ext, r_reverse, r_setl, r_cat, r_int1, r_eqS, r_neS, scal_ii, scal_bb, scal_ss, at0, at1, at2, sq_lst, sq_tup, isLst_lst, List.getElem?_cons_zero, List.getElem?_cons_succ, List.set_cons_zero, List.set_cons_succ, V.int.injEq, V.bl.injEq, V.ref.injEq, V.str.injEq, HO.lst.injEq, HO.tup.injEq, Option.some.injEq, exists_eq_left', exists_eq_left, List.cons.injEq, and_true, true_and, decide_eq_true_eq, reduceCtorEq, false_and, exists_false, or_false, false_or, exists_const, and_assoc, exists_and_left, List.append_nil, ix0, ix1, ix2, cm_mod, cdw1009, cdw2003, cdw7, cdw64, cdw2, cm104729, cm2, cm3, upd_same, List.length_cons, List.length_nil, Int.reduceLT, Int.reduceLE, Nat.reduceAdd, Nat.reduceLeDiff, Nat.reduceLT, Int.reduceToNat, r_for1, r_forL, r_forT, r_lcL, r_lc1, r_yes, r_gtupD, wipe_0, wipe_1, List.cons_append, List.nil_append, r_forS, r_ipI, ite_false, ite_true, Bool.not_true, Bool.not_false, decide_true, decide_false, r_isd, r_islt, cD_ty, cD_ref, tD_non, tD_bl, tD_int, tD_str, tD_ref, tH_lst, tH_tup, tH_dK, tH_ins, ki_self, ki_int_bool, ki_non_int, ki_str_int, ki_lt_lst, ki_lt_tup, r_fld, r_sfld, HO.ins.injEq, cx_K, r_dnin, r_sput, eh]
      obtain ⟨ot, dt, st⟩ := hT.get h.lab
      refine ⟨ot, dt, ?_⟩
      rw [st]
      by_cases c : hasT t h.lab = true
      · rw [if_neg (by rw [c]; decide)]
        refine k _ H (fun _ _ _ e => e) ?_
        show TdA NH H Tt (if hasT t h.lab = true then t else _)
        rw [if_pos c]
        exact hT
      · rw [if_pos (by simp [c])]
        have one : ∀ d : Int, tellH t (.on h o) = ⟨h.lab, d, o⟩ :: t → 2 ≤ sizeLine ∧ ∀ p, H p = none → ∃ x, sq (L2.upd H p (.tup [.int d, ov]) ha) = some x ∧ ∃ y, atI x 0 = some y ∧ ∃ H', DPut (L2.upd H p (.tup [.int d, ov])) Tt y (.ref p) H' ∧ Q .non H' := fun d ed => by
          refine ⟨szl (by decide), fun p hp => ?_⟩
          have s1 : Same H (L2.upd H p (.tup [.int d, ov])) := Same.new' (Same.refl H) hp
          have ep : L2.upd H p (.tup [.int d, ov]) p = some (.tup [.int d, ov]) := upd_same
          have tp : Tups H (L2.upd H p (.tup [.int d, ov])) := fun b ys e => s1 _ _ e
          have hT1 : TdA NH (L2.upd H p (.tup [.int d, ov])) Tt t := hT.imp (by obtain ⟨kv, e, _⟩ := hT; rw [s1 _ _ e, e]) tp
          generalize L2.upd H p (.tup [.int d, ov]) = H1 at *
          obtain ⟨H2, dp, hT2, k2⟩ := hT1.put (p := ⟨h.lab, d, o⟩) (v := .ref p) ⟨p, ov, rfl, ep, ho.imp tp⟩ (by omega)
          refine ⟨_, by rw [s1 _ _ eh]; rfl, _, at0, H2, dp, k _ H2 (fun b o nb e => by rw [k2 b nb]; exact s1 _ _ e) ?_⟩
          rw [ed]
          exact hT2
        have et : ∀ d : Int, d = h.dep + (if h.want = true then 2 else 1) → tellH t (.on h o) = ⟨h.lab, d, o⟩ :: t := fun d ed => by
          show (if hasT t h.lab = true then t else _) = _
          rw [if_neg c, ed]
        by_cases cw : h.want = true
        · rw [if_pos cw]
          exact one _ (et _ (by rw [if_pos cw]))
        · rw [if_neg cw]
          exact one _ (et _ (by rw [if_neg cw]))
end
end C31

set_option maxHeartbeats 2000000
namespace C31
open PySem PySem.Spec PyProof.Rows L2
/-! ### rows with handlers, as data -/
structure R5 where
  w : Str
  a : V
  l : Option Int
  h : Option Hd3
def Row5 (H : Hp) (r : Addr) (x : R5) : Prop := ∃ hv, H r = some (.tup [.str x.w, x.a, lnV x.l, hv]) ∧ HdV H hv x.h
def Rs5 (H : Hp) (F : Addr) (xs : List R5) : Prop := ∃ refs : List Addr, H F = some (.lst (refs.map V.ref)) ∧ Paired (Row5 H) refs xs
theorem Row5.imp {H H' : Hp} {r : Addr} {x : R5} (h : Row5 H r x) (k : Tups H H') : Row5 H' r x := let ⟨hv, e, q⟩ := h; ⟨hv, k _ _ e, q.imp k⟩
def opens (z : Str) : Bool := decide (z ∈ (["POP_BLOCK", "SETUP_CLEANUP", "SETUP_FINALLY", "SETUP_WITH"] : List Str))
def fewer (z : Str) : Int := if z = "SETUP_WITH" then 1 else 0
def wants (z : Str) : Bool := decide (z ≠ "SETUP_FINALLY")
def Gd.out : Gd → Gd
  | .no => .no
  | .on _ o => o
def labI : V → Int
  | .int n => n
  | _ => 0
def behind (x : R3) (dep : Int) (g : Gd) : Gd := if x.w = "POP_BLOCK" then g.out else .on ⟨labI x.a, dep - fewer x.w, wants x.w⟩ g
def around (x : R3) (g : Gd) : Gd := if x.w = "POP_BLOCK" then g.out else g
def opRows (x : R3) (g : Gd) : List R5 := match x.l with
  | none => []
  | some i => [⟨"NOP", .non, some i, (around x g).hd⟩]
def opTold (x : R3) (t : List Td) (g : Gd) : List Td := match x.l with
  | none => t
  | some _ => tellH t (around x g)
structure SetT (K : PySem.W.Frag) (w : World) (mg : Str → Option Value) (D : Addr) : Prop where
  g : mg "SETUPS" = some (.ref D)
  ok : ∀ z : Str, opens z = true → z ≠ "POP_BLOCK" → ∃ a, KDct K w D z (.ref a) ∧ KTup K a [.int (fewer z), .bl (wants z)]
def spOpen (NH : Addr) : Sp := fun vs H Q _ => ∃ (r T : Addr) (x : R3) (dep : Int) (gv : V) (t : List Td) (g : Gd), vs = [.ref r, .ref T, .int dep, gv] ∧ H r = some (.tup (v3 x)) ∧ opens x.w = true ∧ (x.w = "POP_BLOCK" → g ≠ .no) ∧ (x.w ≠ "POP_BLOCK" → ∃ n : Int, x.a = .int n) ∧ TdA NH H T t ∧ GdV NH H gv g ∧ t.length ≤ 100000 ∧
  ∀ p L bv H', (∀ b o, b ≠ T → H b = some o → H' b = some o) → H' p = some (.tup [.ref L, bv]) → H L = none → Rs5 H' L (opRows x g) → GdV NH H' bv (behind x dep g) → TdA NH H' T (opTold x t g) → Q (.ref p) H'
def t_od3 (K : PySem.W.Frag) (NH : Addr) : TS := tSeq (tIfS (tTest (tOp (fun x y H Q => y = V.non ∧ Q (V.bl (decide (x = V.non))) H) (tVar 6) (tC V.non))) (tRet (tTup (tCons (tLst tNil) (tCons (tVar 8) tNil)))) tNext) (tSeq (tDrop (tCall (spTell NH) [] E0 (tCons (tVar 1) (tCons (tVar 7) tNil)))) (tRet (tTup (tCons (tLst (tCons (tTup (tCons (tC (V.str (Str.ofString "NOP"))) (tCons (tC V.non) (tCons (tVar 6) (tCons (tOp (rIxT K) (tVar 7) (tC (V.int 0))) tNil))))) tNil)) (tCons (tVar 8) tNil)))))
theorem od3_run {K : PySem.W.Frag} {NH : Addr} (kn : KTup K NH [.non, .non, .int 0]) {D : Ends} {r T : Addr} {x : R3} {dep : Int} {gv wv av bv : V} {v9 v10 : Option V} {t : List Td} {ag bg : Gd} {H : Hp} (hT : TdA NH H T t) (ha : GdV NH H av ag) (hb : GdV NH H bv bg) (hl : t.length ≤ 100000)
    (k : ∀ p L H', (∀ b o, b ≠ T → H b = some o → H' b = some o) → H' p = some (.tup [.ref L, bv]) → H L = none → Rs5 H' L (match x.l with | none => [] | some i => [⟨"NOP", .non, some i, ag.hd⟩]) → TdA NH H' T (match x.l with | none => t | some _ => tellH t ag) → D.rt (.ref p) H') :
    t_od3 K NH D [some (.ref r), some (.ref T), some (.int dep), some gv, some wv, some x.a, some (lnV x.l), some av, some bv, v9, v10] H := by
  unfold t_od3
  cases el : x.l with
  | none =>
    rw [el] at k
    simp only [r_seq, r_next, r_brk, r_cont, r_asg, r_name, r_ret, r_retN, r_drop, r_ifs, r_never, r_var, r_c, r_op, r_un, r_if, r_tst, r_b, r_not, r_and, r_or, r_andV, r_orV, r_notV, r_nil, r_cons, r_tup, r_lst, r_cb, r_call, r_bm, r_bm0, r_sl, r_nopart, r_part, r_rev, r_gnil, r_gcons, r_gsub, r_par, r_aug, r_chain, r_I0, r_I, r_U, r_ixd, r_lend, r_tupd, r_listd, r_sld, r_app, r_ext, r_reverse, r_setl, r_cat, r_int1, r_eqS, r_neS, scal_ii, scal_bb, scal_ss, at0, at1, at2, sq_lst, sq_tup, isLst_lst, List.getElem?_cons_zero, List.getElem?_cons_succ, List.set_cons_zero, List.set_cons_succ, V.int.injEq, V.bl.injEq, V.ref.injEq, V.str.injEq, HO.lst.injEq, HO.tup.injEq, Option.some.injEq, exists_eq_left', exists_eq_left, List.cons.injEq, and_true, true_and, decide_eq_true_eq, reduceCtorEq, false_and, exists_false, or_false, false_or, exists_const, and_assoc, exists_and_left, List.append_nil, ix0, ix1, ix2, cm_mod, cdw1009, cdw2003, cdw7, cdw64, cdw2, cm104729, cm2, cm3, upd_same, List.length_cons, List.length_nil, Int.reduceLT, Int.reduceLE, Nat.reduceAdd, Nat.reduceLeDiff, Nat.reduceLT, Int.reduceToNat, r_for1, r_forL, r_forT, r_lcL, r_lc1, r_yes, r_gtupD, wipe_0, wipe_1, List.cons_append, List.nil_append, r_forS, r_ipI, ite_false, ite_true, Bool.not_true, Bool.not_false, decide_true, decide_false, r_isd, r_islt, cD_ty, cD_ref, tD_non, tD_bl, tD_int, tD_str, tD_ref, tH_lst, tH_tup, tH_dK, tH_ins, ki_self, ki_int_bool, ki_non_int, ki_str_int, ki_lt_lst, ki_lt_tup, r_fld, r_sfld, HO.ins.injEq, cx_K, lnV]
    refine ⟨Nat.zero_le _, fun L hL => ?_⟩
    have s1 : Same H (L2.upd H L (.lst [])) := Same.new' (Same.refl H) hL
    have eL : L2.upd H L (.lst []) L = some (.lst []) := upd_same
    generalize L2.upd H L (.lst []) = H1 at *
    refine ⟨szl (by decide), fun p hp => ?_⟩
    have s2 : Same H (L2.upd H1 p (.tup [.ref L, bv])) := Same.new' s1 hp
    exact k p L _ (fun b o _ e => s2 _ _ e) upd_same hL ⟨[], by rw [upd_ne (ne_new eL hp)]; exact eL, .nil⟩ (hT.imp (by obtain ⟨kv, e, _⟩ := hT; rw [s2 _ _ e, e]) fun b ys e => s2 _ _ e)
  | some i =>
    rw [el] at k
    simp only [r_seq, r_next, r_brk, r_cont, r_asg, r_name, r_ret, r_retN, r_drop, r_ifs, r_never, r_var, r_c, r_op, r_un, r_if, r_tst, r_b, r_not, r_and, r_or, r_andV, r_orV, r_notV, r_nil, r_cons, r_tup, r_lst, r_cb, r_call, r_bm, r_bm0, r_sl, r_nopart, r_part, r_rev, r_gnil, r_gcons, r_gsub, r_par, r_aug, r_chain, r_I0, r_I, r_U, r_ixd, r_lend, r_tupd, r_listd, r_sld, r_app, r_ext, r_reverse, r_setl, r_cat, r_int1, r_eqS, r_neS, scal_ii, scal_bb, scal_ss, at0, at1, at2, sq_lst, sq_tup, isLst_lst, List.getElem?_cons_zero, List.getElem?_cons_succ, List.set_cons_zero, List.set_cons_succ, V.int.injEq, V.bl.injEq, V.ref.injEq, V.str.injEq, HO.lst.injEq, HO.tup.injEq, Option.some.injEq, exists_eq_left', exists_eq_left, List.cons.injEq, and_true, true_and, decide_eq_true_eq, reduceCtorEq, false_and, exists_false, or_false, false_or, exists_const, and_assoc, exists_and_left, List.append_nil, ix0, ix1, ix2, cm_mod, cdw1009, cdw2003, cdw7, cdw64, cdw2, cm104729, cm2, cm3, upd_same, List.length_cons, List.length_nil, Int.reduceLT, Int.reduceLE, Nat.reduceAdd, Nat.reduceLeDiff, Nat.reduceLT, Int.reduceToNat, r_for1, r_forL, r_forT, r_lcL, r_lc1, r_yes, r_gtupD, wipe_0, wipe_1, List.cons_append, List.nil_append, r_forS, r_ipI, ite_false, ite_true, Bool.not_true, Bool.not_false, decide_true, decide_false, r_isd, r_islt, cD_ty, cD_ref, tD_non, tD_bl, tD_int, tD_str, tD_ref, tH_lst, tH_tup, tH_dK, tH_ins, ki_self, ki_int_bool, ki_non_int, ki_str_int, ki_lt_lst, ki_lt_tup, r_fld, r_sfld, HO.ins.injEq, cx_K, lnV]
    refine ⟨T, av, t, ag, rfl, hT, ha, hl, fun v H1 k1 hT1 => ?_⟩
    have tp1 : Tups H H1 := fun b ys e => k1 _ _ (fun z => by obtain ⟨_, e2, _⟩ := hT; rw [z, e2] at e; cases e) e
    obtain ⟨a, hv, ov, rfl, sq3, hh, _⟩ := (ha.imp tp1).parts kn
    simp only [r_seq, r_next, r_brk, r_cont, r_asg, r_name, r_ret, r_retN, r_drop, r_ifs, r_never, r_var, r_c, r_op, r_un, r_if, r_tst, r_b, r_not, r_and, r_or, r_andV, r_orV, r_notV, r_nil, r_cons, r_tup, r_lst, r_cb, r_call, r_bm, r_bm0, r_sl, r_nopart, r_part, r_rev, r_gnil, r_gcons, r_gsub, r_par, r_aug, r_chain, r_I0, r_I, r_U, r_ixd, r_lend, r_tupd, r_listd, r_sld, r_app, r_ext, r_reverse, r_setl, r_cat, r_int1, r_eqS, r_neS, scal_ii, scal_bb, scal_ss, at0, at1, at2, sq_lst, sq_tup, isLst_lst, List.getElem?_cons_zero, List.getElem?_cons_succ, List.set_cons_zero, List.set_cons_succ, V.int.injEq, V.bl.injEq, V.ref.injEq, V.str.injEq, HO.lst.injEq, HO.tup.injEq, Option.some.injEq, exists_eq_left', exists_eq_left, List.cons.injEq, and_true, true_and, decide_eq_true_eq, reduceCtorEq, false_and, exists_false, or_false, false_or, exists_const, and_assoc, exists_and_left, List.append_nil, ix0, ix1, ix2, cm_mod, cdw1009, cdw2003, cdw7, cdw64, cdw2, cm104729, cm2, cm3, upd_same, List.length_cons, List.length_nil, Int.reduceLT, Int.reduceLE, Nat.reduceAdd, Nat.reduceLeDiff, Nat.reduceLT, Int.reduceToNat, r_for1, r_forL, r_forT, r_lcL, r_lc1, r_yes, r_gtupD, wipe_0, wipe_1, List.cons_append, List.nil_append, r_forS, r_ipI, ite_false, ite_true, Bool.not_true, Bool.not_false, decide_true, decide_false, r_isd, r_islt, cD_ty, cD_ref, tD_non, tD_bl, tD_int, tD_str, tD_ref, tH_lst, tH_tup, tH_dK, tH_ins, ki_self, ki_int_bool, ki_non_int, ki_str_int, ki_lt_lst, ki_lt_tup, r_fld, r_sfld, HO.ins.injEq, cx_K]
    refine ⟨a, _, 0, hv, rfl, rfl, sq3, at0, szl (by decide), fun p hp => ?_⟩
    have s1 : Same H1 (L2.upd H1 p (.tup [.str "NOP", .non, .int i, hv])) := Same.new' (Same.refl _) hp
    have ep : L2.upd H1 p (.tup [.str "NOP", .non, .int i, hv]) p = some (.tup [.str "NOP", .non, .int i, hv]) := upd_same
    generalize L2.upd H1 p (.tup [.str "NOP", .non, .int i, hv]) = H2 at *
    refine ⟨szl (by decide), fun p1 hp1 => ?_⟩
    have s2 : Same H2 (L2.upd H2 p1 (.lst [.ref p])) := Same.new' (Same.refl _) hp1
    have e1 : L2.upd H2 p1 (.lst [.ref p]) p1 = some (.lst [.ref p]) := upd_same
    generalize L2.upd H2 p1 (.lst [.ref p]) = H3 at *
    refine ⟨szl (by decide), fun p2 hp2 => ?_⟩
    have s3 : Same H3 (L2.upd H3 p2 (.tup [.ref p1, bv])) := Same.new' (Same.refl _) hp2
    have S : Same H1 (L2.upd H3 p2 (.tup [.ref p1, bv])) := fun b o e => s3 _ _ (s2 _ _ (s1 _ _ e))
    have hL0 : H p1 = none := by
      cases z : H p1 with
      | none => rfl
      | some o =>
        by_cases pT : p1 = T
        · obtain ⟨_, e2, _⟩ := hT1
          rw [pT, s1 _ _ e2] at hp1
          cases hp1
        · rw [s1 _ _ (k1 _ _ pT z)] at hp1
          cases hp1
    exact k p2 p1 _ (fun b o nb e => S _ _ (k1 _ _ nb e)) upd_same hL0 ⟨[p], s3 _ _ e1, .cons ⟨hv, s3 _ _ (s2 _ _ ep), hh.imp fun b ys e => S _ _ e⟩ .nil⟩ (hT1.imp (by obtain ⟨kv, e, _⟩ := hT1; rw [S _ _ e, e]) fun b ys e => S _ _ e)
section
variable {P : Program} {w : World} {K : PySem.W.Frag} {mg : Str → Option Value} {base : Heap} {f : Addr} {fd : FuncData}
abbrev sod : Stmt := top 29
theorem scod : FnScope ["row", "told", "depth", "guards", "word", "argument", "line", "around", "behind", "fewer", "wanted"] ["row", "told", "depth", "guards"] (defScope sod) := ⟨rfl, rfl, rfl, by decide +kernel, rfl, by decide +kernel, by decide +kernel⟩

theorem ok_od {NH D : Addr} (T : Txt mg) (kn : KTup K NH [.non, .non, .int 0]) (ST : SetT K w mg D) (F : FnP K "opened" "opened" sod f fd) (C_tell_handler : Cal P w K mg base 1 "tell_handler" ["told", "guards"] (spTell NH)) : FnOk P w K mg base CX0 2 f fd ["row", "told", "depth", "guards"] (spOpen NH) := by
  refine F.ok scod (fun vs H Q E h => ?_) (fun cdv A outer s H vs Q E hr h => ?_)
  · obtain ⟨r, T, x, dep, gv, t, g, rfl, _⟩ := h
    rfl
  · obtain ⟨r, Tt, x, dep, gv, t, g, rfl, er, ow, pb, sa, hT, hg, hl, k⟩ := h
    refine ⟨_, PSs.nox (pss_cons (ps_asg (pv 0) (pg_tupD (n := 3) rfl (pgs_cons (pg_name (i := 4) scod.nd rfl (Or.inl rfl)) (pgs_cons (pg_name (i := 5) scod.nd rfl (Or.inl rfl)) (pgs_cons (pg_name (i := 6) scod.nd rfl (Or.inl rfl)) pgs_nil)))))
  (pss_cons (ps_if (pt_cmpR op_eq (pv 4) pe_str (nomark _))
    (pss_one (ps_asg2 (pe_ix ix_tup (pv 3) pe_int (fun _ _ => rfl)) (pg_name (i := 7) scod.nd rfl (Or.inl rfl)) (pg_name (i := 8) scod.nd rfl (Or.inl rfl))))
    (pss_cons (ps_asg (pe_ix ix_kdict (pe_glob (v := .ref _) rfl ST.g rfl) (pv 4) (fun _ _ => rfl)) (pg_tup (n := 2) rfl (pgs_cons (pg_name (i := 9) scod.nd rfl (Or.inl rfl)) (pgs_cons (pg_name (i := 10) scod.nd rfl (Or.inl rfl)) pgs_nil))))
  (pss_one (ps_par (i := 7) (j := 8) (by rfl) scod.nd rfl rfl (by decide) rfl rfl (pa_cons (pv 3) (pa_cons (pe_tup (pa_cons (pe_tup (pa_cons (pv 5) (pa_cons (pe_op op_sub (pv 2) (pv 9)) (pa_cons (pv 10) pa_nil)))) (pa_cons (pv 3) (pa_cons (pe_op op_add (pe_ix ix_tup (pv 3) pe_int (fun _ _ => rfl)) pe_int) pa_nil)))) pa_nil)) (by rfl)))))
  (pss_cons (ps_if (pt_cmpR op_isN (pv 6) pe_non (nomark _))
    (pss_one (ps_ret (pe_tup (pa_cons (pe_lst pa_nil) (pa_cons (pv 8) pa_nil)))))
    pss_nil)
  (pss_cons (ps_expr (pe_cal C_tell_handler (hr.mono (by decide)) rfl (pa_cons (pv 1) (pa_cons (pv 7) pa_nil))))
  (pss_one (ps_ret (pe_tup (pa_cons (pe_lst (pa_cons (pe_tup (pa_cons pe_str (pa_cons pe_non (pa_cons (pv 6) (pa_cons (pe_ix ix_tup (pv 7) pe_int (fun _ _ => rfl)) pa_nil))))) pa_nil)) (pa_cons (pv 8) pa_nil))))))))), ?_⟩
    show (_ : TS) _ [some (.ref r), some (.ref Tt), some (.int dep), some gv, none, none, none, none, none, none, none] H
    unfold v3 at er
    simp only [r_seq, r_next, r_brk, r_cont, r_asg, r_name, r_ret, r_retN, r_drop, r_ifs, r_never, r_var, r_c, r_op, r_un, r_if, r_tst, r_b, r_not, r_and, r_or, r_andV, r_orV, r_notV, r_nil, r_cons, r_tup, r_lst, r_cb, r_call, r_bm, r_bm0, r_sl, r_nopart, r_part, r_rev, r_gnil, r_gcons, r_gsub, r_par, r_aug, r_chain, r_I0, r_I, r_U, r_ixd, r_lend, r_tupd, r_listd, r_sld, r_app, r_ext, r_reverse, r_setl, r_cat, r_int1, r_eqS, r_neS, scal_ii, scal_bb, scal_ss, at0, at1, at2, sq_lst, sq_tup, isLst_lst, List.getElem?_cons_zero, List.getElem?_cons_succ, List.set_cons_zero, List.set_cons_succ, V.int.injEq, V.bl.injEq, V.ref.injEq, V.str.injEq, HO.lst.injEq, HO.tup.injEq, Option.some.injEq, exists_eq_left', exists_eq_left, List.cons.injEq, and_true, true_and, decide_eq_true_eq, reduceCtorEq, false_and, exists_false, or_false, false_or, exists_const, and_assoc, exists_and_left, List.append_nil, ix0, ix1, ix2, cm_mod, cdw1009, cdw2003, cdw7, cdw64, cdw2, cm104729, cm2, cm3, upd_same, List.length_cons, List.length_nil, Int.reduceLT, Int.reduceLE, Nat.reduceAdd, Nat.reduceLeDiff, Nat.reduceLT, Int.reduceToNat, r_for1, r_forL, r_forT, r_lcL, r_lc1, r_yes, r_gtupD, wipe_0, wipe_1, List.cons_append, List.nil_append, r_forS, r_ipI, ite_false, ite_true, Bool.not_true, Bool.not_false, decide_true, decide_false, r_isd, r_islt, cD_ty, cD_ref, tD_non, tD_bl, tD_int, tD_str, tD_ref, tH_lst, tH_tup, tH_dK, tH_ins, ki_self, ki_int_bool, ki_non_int, ki_str_int, ki_lt_lst, ki_lt_tup, r_fld, r_sfld, HO.ins.injEq, cx_K, er, r_ixD]
    by_cases c : x.w = "POP_BLOCK"
    · rw [if_pos c]
      have gn := pb c
      cases g with
      | no => exact absurd rfl gn
      | on h o =>
        obtain ⟨a, hv, ov, rfl, sq3, hh, ho⟩ := hg.parts kn
        have ho : GdV NH H ov o := ho
        change tAsg2 _ _ _ { nx := t_od3 K NH { nx := fun x H' => Q V.non H', rt := Q }, rt := Q } _ H
        unfold tAsg2
        simp only [r_seq, r_next, r_brk, r_cont, r_asg, r_name, r_ret, r_retN, r_drop, r_ifs, r_never, r_var, r_c, r_op, r_un, r_if, r_tst, r_b, r_not, r_and, r_or, r_andV, r_orV, r_notV, r_nil, r_cons, r_tup, r_lst, r_cb, r_call, r_bm, r_bm0, r_sl, r_nopart, r_part, r_rev, r_gnil, r_gcons, r_gsub, r_par, r_aug, r_chain, r_I0, r_I, r_U, r_ixd, r_lend, r_tupd, r_listd, r_sld, r_app, r_ext, r_reverse, r_setl, r_cat, r_int1, r_eqS, r_neS, scal_ii, scal_bb, scal_ss, at0, at1, at2, sq_lst, sq_tup, isLst_lst, List.getElem?_cons_zero, List.getElem?_cons_succ, List.set_cons_zero, List.set_cons_succ, V.int.injEq, V.bl.injEq, V.ref.injEq, V.str.injEq, HO.lst.injEq, HO.tup.injEq, Option.some.injEq, exists_eq_left', exists_eq_left, List.cons.injEq, and_true, true_and, decide_eq_true_eq, reduceCtorEq, false_and, exists_false, or_false, false_or, exists_const, and_assoc, exists_and_left, List.append_nil, ix0, ix1, ix2, cm_mod, cdw1009, cdw2003, cdw7, cdw64, cdw2, cm104729, cm2, cm3, upd_same, List.length_cons, List.length_nil, Int.reduceLT, Int.reduceLE, Nat.reduceAdd, Nat.reduceLeDiff, Nat.reduceLT, Int.reduceToNat, r_for1, r_forL, r_forT, r_lcL, r_lc1, r_yes, r_gtupD, wipe_0, wipe_1, List.cons_append, List.nil_append, r_forS, r_ipI, ite_false, ite_true, Bool.not_true, Bool.not_false, decide_true, decide_false, r_isd, r_islt, cD_ty, cD_ref, tD_non, tD_bl, tD_int, tD_str, tD_ref, tH_lst, tH_tup, tH_dK, tH_ins, ki_self, ki_int_bool, ki_non_int, ki_str_int, ki_lt_lst, ki_lt_tup, r_fld, r_sfld, HO.ins.injEq, cx_K]
        refine ⟨a, _, 1, ov, rfl, rfl, sq3, rfl, ?_⟩
        refine od3_run (x := x) kn hT ho ho hl fun p L H' k1 ep hL hR hT' => (k p L ov H' k1 ep hL ?_ ?_ ?_ : Q (.ref p) H')
        · unfold opRows around
          rw [if_pos c]
          exact hR
        · unfold behind
          rw [if_pos c]
          exact ho.imp fun b ys e => k1 _ _ (fun z => by obtain ⟨_, e2, _⟩ := hT; rw [z, e2] at e; cases e) e
        · unfold opTold around
          rw [if_pos c]
          exact hT'
    · rw [if_neg c]
      obtain ⟨sA, q1, q2⟩ := ST.ok _ ow c
      obtain ⟨n, en⟩ := sa c
      refine ⟨_, q1, ?_⟩
      rw [r_gtup]
      refine ⟨sA, _, rfl, q2.s H, rfl, ?_⟩
      refine ⟨_, _, rfl, (?_ : ∃ v r, _ = v :: r ∧ _)⟩
      refine ⟨_, _, rfl, (?_ : _ = [] ∧ _)⟩
      refine ⟨rfl, ?_⟩
      change tPar 7 8 _ { nx := t_od3 K NH { nx := fun x H' => Q V.non H', rt := Q }, rt := Q } [some (.ref r), some (.ref Tt), some (.int dep), some gv, some (.str x.w), some x.a, some (lnV x.l), none, none, some (.int (fewer x.w)), some (.bl (wants x.w))] H
      unfold tPar
      simp only [r_seq, r_next, r_brk, r_cont, r_asg, r_name, r_ret, r_retN, r_drop, r_ifs, r_never, r_var, r_c, r_op, r_un, r_if, r_tst, r_b, r_not, r_and, r_or, r_andV, r_orV, r_notV, r_nil, r_cons, r_tup, r_lst, r_cb, r_call, r_bm, r_bm0, r_sl, r_nopart, r_part, r_rev, r_gnil, r_gcons, r_gsub, r_par, r_aug, r_chain, r_I0, r_I, r_U, r_ixd, r_lend, r_tupd, r_listd, r_sld, r_app, r_ext, r_reverse, r_setl, r_cat, r_int1, r_eqS, r_neS, scal_ii, scal_bb, scal_ss, at0, at1, at2, sq_lst, sq_tup, isLst_lst, List.getElem?_cons_zero, List.getElem?_cons_succ, List.set_cons_zero, List.set_cons_succ, V.int.injEq, V.bl.injEq, V.ref.injEq, V.str.injEq, HO.lst.injEq, HO.tup.injEq, Option.some.injEq, exists_eq_left', exists_eq_left, List.cons.injEq, and_true, true_and, decide_eq_true_eq, reduceCtorEq, false_and, exists_false, or_false, false_or, exists_const, and_assoc, exists_and_left, List.append_nil, ix0, ix1, ix2, cm_mod, cdw1009, cdw2003, cdw7, cdw64, cdw2, cm104729, cm2, cm3, upd_same, List.length_cons, List.length_nil, Int.reduceLT, Int.reduceLE, Nat.reduceAdd, Nat.reduceLeDiff, Nat.reduceLT, Int.reduceToNat, r_for1, r_forL, r_forT, r_lcL, r_lc1, r_yes, r_gtupD, wipe_0, wipe_1, List.cons_append, List.nil_append, r_forS, r_ipI, ite_false, ite_true, Bool.not_true, Bool.not_false, decide_true, decide_false, r_isd, r_islt, cD_ty, cD_ref, tD_non, tD_bl, tD_int, tD_str, tD_ref, tH_lst, tH_tup, tH_dK, tH_ins, ki_self, ki_int_bool, ki_non_int, ki_str_int, ki_lt_lst, ki_lt_tup, r_fld, r_sfld, HO.ins.injEq, cx_K]
      refine ⟨szl (by decide), fun p hp => ?_⟩
      have s1 : Same H (L2.upd H p (.tup [x.a, .int (dep - fewer x.w), .bl (wants x.w)])) := Same.new' (Same.refl _) hp
      have ep : L2.upd H p (.tup [x.a, .int (dep - fewer x.w), .bl (wants x.w)]) p = some (.tup [x.a, .int (dep - fewer x.w), .bl (wants x.w)]) := upd_same
      generalize L2.upd H p (.tup [x.a, .int (dep - fewer x.w), .bl (wants x.w)]) = H1 at *
      have hg1 : GdV NH H1 gv g := hg.imp fun b ys e => s1 _ _ e
      obtain ⟨a, hv, ov, ea, sq3, hh, ho⟩ := hg1.parts kn
      refine ⟨a, _, 2, _, ea, rfl, sq3, rfl, _, rfl, szl (by decide), fun p1 hp1 => ?_⟩
      have s2 : Same H1 (L2.upd H1 p1 (.tup [.ref p, gv, .int ((g.n : Nat) + 1)])) := Same.new' (Same.refl _) hp1
      have e1 : L2.upd H1 p1 (.tup [.ref p, gv, .int ((g.n : Nat) + 1)]) p1 = some (.tup [.ref p, gv, .int ((g.n : Nat) + 1)]) := upd_same
      generalize L2.upd H1 p1 (.tup [.ref p, gv, .int ((g.n : Nat) + 1)]) = H2 at *
      have S : Same H H2 := fun b o e => s2 _ _ (s1 _ _ e)
      have hT2 : TdA NH H2 Tt t := hT.imp (by obtain ⟨kv, e, _⟩ := hT; rw [S _ _ e, e]) fun b ys e => S _ _ e
      have hg2 : GdV NH H2 gv g := hg.imp fun b ys e => S _ _ e
      have hb2 : GdV NH H2 (.ref p1) (behind x dep g) := by
        unfold behind
        rw [if_neg c, en]
        refine ⟨p1, .ref p, gv, rfl, e1, ⟨p, rfl, ?_⟩, hg2⟩
        rw [← en]
        have := s2 _ _ ep
        rw [en] at this ⊢
        exact this
      refine od3_run (x := x) kn hT2 hg2 hb2 hl fun p2 L H' k1 ep2 hL hR hT' => (k p2 L (.ref p1) H' (fun b o nb e => k1 _ _ nb (S _ _ e)) ep2 (?_ : H L = none) ?_ ?_ ?_ : Q (.ref p2) H')
      · cases z : H L with
        | none => rfl
        | some o => rw [S _ _ z] at hL; cases hL
      · unfold opRows around
        rw [if_neg c]
        exact hR
      · exact hb2.imp fun b ys e => k1 _ _ (fun z => by obtain ⟨_, e2, _⟩ := hT2; rw [z, e2] at e; cases e) e
      · unfold opTold around
        rw [if_neg c]
        exact hT'
end
end C31

set_option maxHeartbeats 2000000
namespace C31
open PySem PySem.Spec PyProof.Rows L2
/-! ### rows gone through, with handlers -/
def uK (u : List (Int × Bool)) : List (Key × V) := u.map fun p => (Sum.inl p.1, V.bl p.2)
def putU (u : List (Int × Bool)) (n : Int) (b : Bool) : List (Int × Bool) := if (u.any fun p => decide (p.1 = n)) = true then u.map (fun p => if p.1 = n then (p.1, b) else p) else u ++ [(n, b)]
theorem uK_put (u : List (Int × Bool)) (n : Int) (b : Bool) : putK (uK u) (Sum.inl n : Key) (.bl b) = uK (putU u n b) := by
  have inj : ∀ m : Int, ((Sum.inl m : Key) = Sum.inl n) = (m = n) := fun m => propext ⟨fun e => Sum.inl.inj e, fun e => by rw [e]⟩
  have e1 : ((uK u).any fun kv => decide (kv.1 = (Sum.inl n : Key))) = u.any fun p => decide (p.1 = n) := by
    unfold uK
    rw [List.any_map]
    congr 1
    funext p
    show decide ((Sum.inl p.1 : Key) = Sum.inl n) = decide (p.1 = n)
    simp only [inj]
  unfold putK putU
  rw [e1]
  split
  · unfold uK
    rw [List.map_map, List.map_map]
    congr 1
    funext p
    show (if (Sum.inl p.1 : Key) = Sum.inl n then ((Sum.inl p.1 : Key), V.bl b) else (Sum.inl p.1, V.bl p.2)) = (Sum.inl (if p.1 = n then (p.1, b) else p).1, V.bl (if p.1 = n then (p.1, b) else p).2)
    simp only [inj]
    split <;> rfl
  · unfold uK
    rw [List.map_append]
    rfl
theorem putU_len (u : List (Int × Bool)) (n : Int) (b : Bool) : (putU u n b).length ≤ u.length + 1 := by
  unfold putU
  split
  · rw [List.length_map]; omega
  · rw [List.length_append]; exact Nat.le_refl _
structure G5 where
  f : List R5
  u : List (Int × Bool)
  t : List Td
  live : Bool
  dep : Int
  g : Gd
  ah : Str
def eff (z : Str) : Int := if z = "LOAD_NAME" then 1 else if z = "POP_TOP" then -1 else if z = "RETURN_VALUE" then -1 else 0
def argR (s : G5) (x : R3) : V := if x.w = "RESUME" ∧ x.a = .int 1 ∧ s.g.n = 1 ∧ s.ah = "YIELD_VALUE" then .int 5 else x.a
def labStep (s : G5) (x : R3) : G5 := match s.t.find? fun p => decide (p.n = labI x.a) with
  | none => { s with f := s.f ++ [⟨x.w, x.a, none, none⟩], u := putU s.u (labI x.a) s.live, ah := x.w }
  | some p => if s.live = true then { s with f := s.f ++ [⟨x.w, x.a, none, none⟩], ah := x.w } else { s with f := s.f ++ [⟨x.w, x.a, none, none⟩], live := true, dep := p.dep, g := p.g, ah := x.w }
def livStep (s : G5) (x : R3) : G5 :=
  let t1 := tellH s.t s.g
  let d1 := s.dep + eff x.w
  { s with f := s.f ++ [⟨x.w, argR s x, x.l, s.g.hd⟩], dep := d1, t := if leading x.w = true ∧ hasT t1 (labI x.a) = false then ⟨labI x.a, d1, s.g⟩ :: t1 else t1, live := !leaving x.w, ah := x.w }
def step5 (s : G5) (x : R3) : G5 := if x.w = "LABEL" then labStep s x else if s.live = true then (if opens x.w = true then { s with f := s.f ++ opRows x s.g, t := opTold x s.t s.g, g := behind x s.dep s.g, ah := x.w } else livStep s x) else { s with ah := x.w }
def goTo5 (t : List Td) (xs : List R3) : G5 := xs.foldl step5 ⟨[], [], t, true, 0, .no, ""⟩
theorem rs5_app {H : Hp} {F p : Addr} {refs : List Addr} {fs : List R5} {y : R5} {hv : V} (eF : H F = some (.lst (refs.map V.ref))) (q : Paired (Row5 H) refs fs) (hp : H p = none) (hh : HdV H hv y.h) :
    Rs5 (L2.upd (L2.upd H p (.tup [.str y.w, y.a, lnV y.l, hv])) F (.lst (refs.map V.ref ++ [.ref p]))) F (fs ++ [y]) ∧ ∀ b o, b ≠ F → H b = some o → L2.upd (L2.upd H p (.tup [.str y.w, y.a, lnV y.l, hv])) F (.lst (refs.map V.ref ++ [.ref p])) b = some o := by
  have pF : p ≠ F := fun z => by rw [z, eF] at hp; cases hp
  have k : ∀ b o, b ≠ F → H b = some o → L2.upd (L2.upd H p (.tup [.str y.w, y.a, lnV y.l, hv])) F (.lst (refs.map V.ref ++ [.ref p])) b = some o := fun b o nb e => by
    rw [upd_ne nb, upd_ne (ne_new e hp)]
    exact e
  have tp : Tups H (L2.upd (L2.upd H p (.tup [.str y.w, y.a, lnV y.l, hv])) F (.lst (refs.map V.ref ++ [.ref p]))) := fun b ys e => k _ _ (fun z => by rw [z, eF] at e; cases e) e
  refine ⟨⟨refs ++ [p], by rw [upd_same, List.map_append]; rfl, Paired.snoc' (Paired.map' q fun b x e => e.imp tp) ⟨hv, ?_, hh.imp tp⟩⟩, k⟩
  rw [upd_ne pF, upd_same]
def t_lab (K : PySem.W.Frag) : TS := tSeq (tIfS (tB (tDNotIn (tVar 9) (tVar 1))) (sDPut (tVar 3) (tVar 9) (tVar 5)) (tIfS (tNot (tB (tVar 5))) (tSeq (tAsg (tC (V.bl true)) (gName 5)) (tAsg (tDGet (tVar 1) (tVar 9)) (gTup K 2 (gCons (gName 6) (gCons (gName 7) gNil))))) tNext)) (tDrop (tBM K "list" rAppend (tVar 2) (tCons (tTup (tCons (tVar 8) (tCons (tVar 9) (tCons (tC V.non) (tCons (tC V.non) tNil))))) tNil)))
def t_opn (K : PySem.W.Frag) (NH : Addr) : TS := tSeq (tAsg (tCall (spOpen NH) [] E0 (tCons (tTup (tCons (tVar 8) (tCons (tVar 9) (tCons (tVar 10) tNil)))) (tCons (tVar 1) (tCons (tVar 6) (tCons (tVar 7) tNil))))) (gTupD 2 (gCons (gName 11) (gCons (gName 7) gNil)))) (tDrop (tBM K "list" rExtend (tVar 2) (tCons (tVar 11) tNil)))
def t_liv3 (K : PySem.W.Frag) (w : World) (DE D1 D2 D3 : Addr) : TS := tSeq (tAug 6 (tIf (tTest (tOp (rInT K DE) (tVar 8) (tC (V.ref DE)))) (tOp (rIxD K w) (tC (V.ref DE)) (tVar 8)) fun x x_1 x_2 => False) (ipI fun i j => i + j)) (tIfS (tTest (tOp (rInT K D1) (tVar 8) (tC (V.ref D1)))) (tSeq (tIfS (tAnd (tTest (tOp (rInT K D2) (tVar 8) (tC (V.ref D2)))) (tB (tDNotIn (tVar 9) (tVar 1)))) (sDPut (tVar 1) (tVar 9) (tTup (tCons (tVar 6) (tCons (tVar 7) tNil)))) tNext) (tAsg (tOp (fun x y H Q => ∃ z r, x = V.str z ∧ y = V.ref D3 ∧ PySem.W.nsIn K D3 z = some r ∧ Q (V.bl !r.isSome) H) (tVar 8) (tC (V.ref D3))) (gName 5))) tNext)
def t_liv2 (K : PySem.W.Frag) (w : World) (DE D1 D2 D3 : Addr) : TS := tSeq (tIfS (tAnd (tTest (tOp rEq (tVar 8) (tC (V.str (Str.ofString "RESUME"))))) (tAnd (tTest (tOp rEq (tVar 9) (tC (V.int 1)))) (tAnd (tTest (tOp rEq (tOp (rIxT K) (tVar 7) (tC (V.int 2))) (tC (V.int 1)))) (tTest (tOp rEq (tVar 4) (tC (V.str (Str.ofString "YIELD_VALUE")))))))) (tAsg (tC (V.int 5)) (gName 9)) tNext) (tSeq (tDrop (tBM K "list" rAppend (tVar 2) (tCons (tTup (tCons (tVar 8) (tCons (tVar 9) (tCons (tVar 10) (tCons (tVar 12) tNil))))) tNil))) (t_liv3 K w DE D1 D2 D3))
def t_liv (K : PySem.W.Frag) (w : World) (NH DE DO D1 D2 D3 : Addr) : TS := tSeq (tAsg (tOp (rIxT K) (tVar 7) (tC (V.int 0))) (gName 12)) (tSeq (tIfS (tAnd (tTest (tOp (fun x y H Q => y = V.non ∧ Q (V.bl !decide (x = V.non)) H) (tVar 12) (tC V.non))) (tB (tDNotIn (tOp rIxd (tVar 12) (tC (V.int 0))) (tVar 1)))) (tDrop (tCall (spTell NH) [] E0 (tCons (tVar 1) (tCons (tVar 7) tNil)))) tNext) (t_liv2 K w DE D1 D2 D3))
def t_rwb (K : PySem.W.Frag) (w : World) (NH DE DO D1 D2 D3 : Addr) : TS := tSeq (tIfS (tTest (tOp rEq (tVar 8) (tC (V.str (Str.ofString "LABEL"))))) (t_lab K) (tIfS (tAnd (tB (tVar 5)) (tTest (tOp (rInT K DO) (tVar 8) (tC (V.ref DO))))) (t_opn K NH) (tIfS (tB (tVar 5)) (t_liv K w NH DE DO D1 D2 D3) tNext))) (tAsg (tVar 8) (gName 4))
theorem r_dget {td ty : TE} {σ : L2.St} {H : Hp} {Q : VK} : tDGet td ty σ H Q = td σ H (fun x H1 => ty σ H1 fun y H2 => ∃ a v, x = .ref a ∧ DGet H2 a y (some v) ∧ Q v H2) := rfl
def Sg (F T F' U : Addr) (ah : Str) (live : Bool) (dep : Int) (gv : V) (w : Str) (a : V) (l : Option Int) (v11 v12 : Option V) : L2.St := [some (.ref F), some (.ref T), some (.ref F'), some (.ref U), some (.str ah), some (.bl live), some (.int dep), some gv, some (.str w), some a, some (lnV l), v11, v12]
def Kp3 (T F U : Addr) (H H' : Hp) : Prop := ∀ b o, b ≠ T → b ≠ F → b ≠ U → H b = some o → H' b = some o
theorem lab_run {K : PySem.W.Frag} {NH : Addr} {D : Ends} {F T F' U : Addr} {s : G5} {x : R3} {gv : V} {v11 v12 : Option V} {H : Hp} {n : Int} (wx : x.w = "LABEL") (en : x.a = .int n) (rF : Rs5 H F' s.f) (eU : H U = some (.dK (uK s.u))) (tT : TdA NH H T s.t) (hg : GdV NH H gv s.g) (lf : s.f.length ≤ 60000) (lu : s.u.length ≤ 60000) (n1 : T ≠ F') (n2 : T ≠ U) (n3 : F' ≠ U)
    (k : ∀ gv H', Kp3 T F' U H H' → Rs5 H' F' (labStep s x).f → H' U = some (.dK (uK (labStep s x).u)) → TdA NH H' T (labStep s x).t → GdV NH H' gv (labStep s x).g → D.nx (Sg F T F' U s.ah (labStep s x).live (labStep s x).dep gv x.w x.a x.l v11 v12) H') : t_lab K D (Sg F T F' U s.ah s.live s.dep gv x.w x.a x.l v11 v12) H := by
  obtain ⟨refs, eF, pF⟩ := rF
  have lr := Paired.length pF
  have szf : (refs.map V.ref).length < sizeLine := Nat.lt_of_le_of_lt (by rw [List.length_map]; omega : _ ≤ 60000) (by decide)
  unfold t_lab Sg
  simp only [r_seq, r_next, r_brk, r_cont, r_asg, r_name, r_ret, r_retN, r_drop, r_ifs, r_never, r_var, r_c, r_op, r_un, r_if, r_tst, r_b, r_not, r_and, r_or, r_andV, r_orV, r_notV, r_nil, r_cons, r_tup, r_lst, r_cb, r_call, r_bm, r_bm0, r_sl, r_nopart, r_part, r_rev, r_gnil, r_gcons, r_gsub, r_par, r_aug, r_chain, r_I0, r_I, r_U, r_ixd, r_lend, r_tupd, r_listd, r_sld, r_app, r_ext, r_reverse, r_setl, r_cat, r_int1, r_eqS, r_neS, scal_ii, scal_bb, scal_ss, at0, at1, at2, sq_lst, sq_tup, isLst_lst, List.getElem?_cons_zero, List.getElem?_cons_succ, List.set_cons_zero, List.set_cons_succ, V.int.injEq, V.bl.injEq, V.ref.injEq, V.str.injEq, HO.lst.injEq, HO.tup.injEq, Option.some.injEq, exists_eq_left', exists_eq_left, List.cons.injEq, and_true, true_and, decide_eq_true_eq, reduceCtorEq, false_and, exists_false, or_false, false_or, exists_const, and_assoc, exists_and_left, List.append_nil, ix0, ix1, ix2, cm_mod, cdw1009, cdw2003, cdw7, cdw64, cdw2, cm104729, cm2, cm3, upd_same, List.length_cons, List.length_nil, Int.reduceLT, Int.reduceLE, Nat.reduceAdd, Nat.reduceLeDiff, Nat.reduceLT, Int.reduceToNat, r_for1, r_forL, r_forT, r_lcL, r_lc1, r_yes, r_gtupD, wipe_0, wipe_1, List.cons_append, List.nil_append, r_forS, r_ipI, ite_false, ite_true, Bool.not_true, Bool.not_false, decide_true, decide_false, r_isd, r_islt, cD_ty, cD_ref, tD_non, tD_bl, tD_int, tD_str, tD_ref, tH_lst, tH_tup, tH_dK, tH_ins, ki_self, ki_int_bool, ki_non_int, ki_str_int, ki_lt_lst, ki_lt_tup, r_fld, r_sfld, HO.ins.injEq, cx_K, r_dnin, en, r_dget]
  have li : labI x.a = n := by rw [en]; rfl
  have app : ∀ (live : Bool) (dep : Int) (gv : V) (H1 : Hp) (u' : List (Int × Bool)) (g' : Gd), Kp3 T F' U H H1 → H1 F' = some (.lst (refs.map V.ref)) → Tups H H1 → H1 U = some (.dK (uK u')) → TdA NH H1 T s.t → GdV NH H1 gv g' → labStep s x = ⟨s.f ++ [⟨x.w, x.a, none, none⟩], u', s.t, live, dep, g', x.w⟩ → tyV K "list" (.ref F') H1 ∧ 4 ≤ sizeLine ∧ ∀ p, H1 p = none → ∃ z, L2.upd H1 p (.tup [.str x.w, .int n, .non, .non]) F' = some (.lst z) ∧ z.length < sizeLine ∧ D.nx (Sg F T F' U s.ah live dep gv x.w (.int n) x.l v11 v12) (L2.upd (L2.upd H1 p (.tup [.str x.w, .int n, .non, .non])) F' (.lst (z ++ [.ref p]))) := fun live dep gv H1 u' g' k1 eF1 tp eU1 tT1 hg1 es => by
    refine ⟨tyl eF1, szl (by decide), fun p hp => ⟨_, by rw [upd_ne (ne_new eF1 hp)]; exact eF1, szf, ?_⟩⟩
    obtain ⟨q1, q2⟩ := rs5_app (y := ⟨x.w, .int n, none, none⟩) (hv := .non) eF1 (Paired.map' pF fun b y e => e.imp tp) hp rfl
    have tp2 : Tups H1 (L2.upd (L2.upd H1 p (.tup [.str x.w, .int n, .non, .non])) F' (.lst (refs.map V.ref ++ [.ref p]))) := fun b ys e => q2 _ _ (fun z => by rw [z, eF1] at e; cases e) e
    have := k gv _ (fun b o nT nF nU e => q2 _ _ nF (k1 _ _ nT nF nU e)) (by rw [es, en]; exact q1) (by rw [es]; exact q2 _ _ n3.symm eU1) (by rw [es]; exact tT1.imp (by obtain ⟨kv, e, _⟩ := tT1; rw [e]; exact q2 _ _ n1 e) tp2) (by rw [es]; exact hg1.imp tp2)
    rw [es, en] at this
    exact this
  obtain ⟨kvs, eT, lk, m⟩ := id tT
  have mn := m n
  have dg := DGet.k (k := (Sum.inl n : Key)) eT
  refine ⟨_, dg, ?_⟩
  cases q : s.t.find? (fun p => decide (p.n = n)) with
  | none =>
    rw [q] at mn
    rw [mn, if_pos (by rfl)]
    have eU1 : L2.upd H U (.dK (uK (putU s.u n s.live))) U = some (.dK (uK (putU s.u n s.live))) := upd_same
    have dp : DPut H U (.int n) (.bl s.live) (L2.upd H U (.dK (uK (putU s.u n s.live)))) := by
      have := DPut.k (k := (Sum.inl n : Key)) (v := .bl s.live) eU (Nat.lt_of_le_of_lt (by unfold uK; rw [List.length_map]; omega : _ ≤ 60000) (by decide))
      rw [uK_put] at this
      exact this
    have kk : ∀ b o, b ≠ U → H b = some o → L2.upd H U (.dK (uK (putU s.u n s.live))) b = some o := fun b o nb e => by rw [upd_ne nb]; exact e
    have tp : Tups H (L2.upd H U (.dK (uK (putU s.u n s.live)))) := fun b ys e => kk _ _ (fun z => by rw [z, eU] at e; cases e) e
    rw [r_sput]
    simp only [r_seq, r_next, r_brk, r_cont, r_asg, r_name, r_ret, r_retN, r_drop, r_ifs, r_never, r_var, r_c, r_op, r_un, r_if, r_tst, r_b, r_not, r_and, r_or, r_andV, r_orV, r_notV, r_nil, r_cons, r_tup, r_lst, r_cb, r_call, r_bm, r_bm0, r_sl, r_nopart, r_part, r_rev, r_gnil, r_gcons, r_gsub, r_par, r_aug, r_chain, r_I0, r_I, r_U, r_ixd, r_lend, r_tupd, r_listd, r_sld, r_app, r_ext, r_reverse, r_setl, r_cat, r_int1, r_eqS, r_neS, scal_ii, scal_bb, scal_ss, at0, at1, at2, sq_lst, sq_tup, isLst_lst, List.getElem?_cons_zero, List.getElem?_cons_succ, List.set_cons_zero, List.set_cons_succ, V.int.injEq, V.bl.injEq, V.ref.injEq, V.str.injEq, HO.lst.injEq, HO.tup.injEq, Option.some.injEq, exists_eq_left', exists_eq_left, List.cons.injEq, and_true, true_and, decide_eq_true_eq, reduceCtorEq, false_and, exists_false, or_false, false_or, exists_const, and_assoc, exists_and_left, List.append_nil, ix0, ix1, ix2, cm_mod, cdw1009, cdw2003, cdw7, cdw64, cdw2, cm104729, cm2, cm3, upd_same, List.length_cons, List.length_nil, Int.reduceLT, Int.reduceLE, Nat.reduceAdd, Nat.reduceLeDiff, Nat.reduceLT, Int.reduceToNat, r_for1, r_forL, r_forT, r_lcL, r_lc1, r_yes, r_gtupD, wipe_0, wipe_1, List.cons_append, List.nil_append, r_forS, r_ipI, ite_false, ite_true, Bool.not_true, Bool.not_false, decide_true, decide_false, r_isd, r_islt, cD_ty, cD_ref, tD_non, tD_bl, tD_int, tD_str, tD_ref, tH_lst, tH_tup, tH_dK, tH_ins, ki_self, ki_int_bool, ki_non_int, ki_str_int, ki_lt_lst, ki_lt_tup, r_fld, r_sfld, HO.ins.injEq, cx_K]
    refine ⟨_, dp, ?_⟩
    generalize L2.upd H U (.dK (uK (putU s.u n s.live))) = H1 at *
    have ap := app s.live s.dep gv H1 (putU s.u n s.live) s.g (fun b o _ _ nU e => kk _ _ nU e) (kk _ _ n3 eF) tp eU1 (tT.imp (by rw [eT]; exact kk _ _ n2 eT) tp) (hg.imp tp) (by unfold labStep; rw [li, q])
    exact ap
  | some p =>
    rw [q] at mn
    obtain ⟨v, ev, a, gv', rfl, ea, hg'⟩ := mn
    rw [ev] at dg
    rw [ev, if_neg (fun z : (!(some (V.ref a)).isSome) = true => by cases z)]
    cases lv : s.live with
    | true =>
      rw [if_neg (by decide)]
      have ap := app true s.dep gv H s.u s.g (fun _ _ _ _ _ e => e) eF (fun _ _ e => e) eU tT hg (by unfold labStep; rw [li, q, lv]; rfl)
      exact ap
    | false =>
      rw [if_pos (by decide)]
      refine ⟨_, dg, ?_⟩
      rw [r_gtup]
      refine ⟨a, _, rfl, SqT.of ea, rfl, ?_⟩
      have ap := app true p.dep gv' H s.u p.g (fun _ _ _ _ _ e => e) eF (fun _ _ e => e) eU tT hg' (by unfold labStep; rw [li, q, lv]; rfl)
      simp only [r_seq, r_next, r_brk, r_cont, r_asg, r_name, r_ret, r_retN, r_drop, r_ifs, r_never, r_var, r_c, r_op, r_un, r_if, r_tst, r_b, r_not, r_and, r_or, r_andV, r_orV, r_notV, r_nil, r_cons, r_tup, r_lst, r_cb, r_call, r_bm, r_bm0, r_sl, r_nopart, r_part, r_rev, r_gnil, r_gcons, r_gsub, r_par, r_aug, r_chain, r_I0, r_I, r_U, r_ixd, r_lend, r_tupd, r_listd, r_sld, r_app, r_ext, r_reverse, r_setl, r_cat, r_int1, r_eqS, r_neS, scal_ii, scal_bb, scal_ss, at0, at1, at2, sq_lst, sq_tup, isLst_lst, List.getElem?_cons_zero, List.getElem?_cons_succ, List.set_cons_zero, List.set_cons_succ, V.int.injEq, V.bl.injEq, V.ref.injEq, V.str.injEq, HO.lst.injEq, HO.tup.injEq, Option.some.injEq, exists_eq_left', exists_eq_left, List.cons.injEq, and_true, true_and, decide_eq_true_eq, reduceCtorEq, false_and, exists_false, or_false, false_or, exists_const, and_assoc, exists_and_left, List.append_nil, ix0, ix1, ix2, cm_mod, cdw1009, cdw2003, cdw7, cdw64, cdw2, cm104729, cm2, cm3, upd_same, List.length_cons, List.length_nil, Int.reduceLT, Int.reduceLE, Nat.reduceAdd, Nat.reduceLeDiff, Nat.reduceLT, Int.reduceToNat, r_for1, r_forL, r_forT, r_lcL, r_lc1, r_yes, r_gtupD, wipe_0, wipe_1, List.cons_append, List.nil_append, r_forS, r_ipI, ite_false, ite_true, Bool.not_true, Bool.not_false, decide_true, decide_false, r_isd, r_islt, cD_ty, cD_ref, tD_non, tD_bl, tD_int, tD_str, tD_ref, tH_lst, tH_tup, tH_dK, tH_ins, ki_self, ki_int_bool, ki_non_int, ki_str_int, ki_lt_lst, ki_lt_tup, r_fld, r_sfld, HO.ins.injEq, cx_K]
      exact ap
/-- found rows, more of them at the end -/
theorem rs5_ext {H : Hp} {F : Addr} {refs rs : List Addr} {fs ys : List R5} (eF : H F = some (.lst (refs.map V.ref))) (q : Paired (Row5 H) refs fs) (qr : Paired (Row5 H) rs ys) : Rs5 (L2.upd H F (.lst (refs.map V.ref ++ rs.map V.ref))) F (fs ++ ys) ∧ ∀ b o, b ≠ F → H b = some o → L2.upd H F (.lst (refs.map V.ref ++ rs.map V.ref)) b = some o := by
  have k : ∀ b o, b ≠ F → H b = some o → L2.upd H F (.lst (refs.map V.ref ++ rs.map V.ref)) b = some o := fun b o nb e => by rw [upd_ne nb]; exact e
  have tp : Tups H (L2.upd H F (.lst (refs.map V.ref ++ rs.map V.ref))) := fun b ys e => k _ _ (fun z => by rw [z, eF] at e; cases e) e
  have app : ∀ {l1 m1 : List Addr} {l2 m2 : List R5}, Paired (Row5 (L2.upd H F (.lst (refs.map V.ref ++ rs.map V.ref)))) l1 l2 → Paired (Row5 (L2.upd H F (.lst (refs.map V.ref ++ rs.map V.ref)))) m1 m2 → Paired (Row5 (L2.upd H F (.lst (refs.map V.ref ++ rs.map V.ref)))) (l1 ++ m1) (l2 ++ m2) := by
    intro l1 m1 l2 m2 h1 h2
    induction h1 with
    | nil => exact h2
    | cons h t ih => exact .cons h ih
  exact ⟨⟨refs ++ rs, by rw [upd_same, List.map_append], app (Paired.map' q fun b x e => e.imp tp) (Paired.map' qr fun b x e => e.imp tp)⟩, k⟩
theorem op_len (x : R3) (g : Gd) : (opRows x g).length ≤ 1 := by unfold opRows; cases x.l <;> simp
theorem opn_run {K : PySem.W.Frag} {NH : Addr} {D : Ends} {F T F' U : Addr} {s : G5} {x : R3} {gv : V} {v11 v12 : Option V} {H : Hp} (ow : opens x.w = true) (pb : x.w = "POP_BLOCK" → s.g ≠ .no) (sa : x.w ≠ "POP_BLOCK" → ∃ n : Int, x.a = .int n) (rF : Rs5 H F' s.f) (eU : H U = some (.dK (uK s.u))) (tT : TdA NH H T s.t) (hg : GdV NH H gv s.g) (lf : s.f.length ≤ 60000) (lt : s.t.length ≤ 100000) (n1 : T ≠ F') (n2 : T ≠ U) (n3 : F' ≠ U)
    (k : ∀ gv v11 H', Kp3 T F' U H H' → Rs5 H' F' (s.f ++ opRows x s.g) → H' U = some (.dK (uK s.u)) → TdA NH H' T (opTold x s.t s.g) → GdV NH H' gv (behind x s.dep s.g) → D.nx (Sg F T F' U s.ah s.live s.dep gv x.w x.a x.l v11 v12) H') : t_opn K NH D (Sg F T F' U s.ah s.live s.dep gv x.w x.a x.l v11 v12) H := by
  obtain ⟨refs, eF, pF⟩ := rF
  have lr := Paired.length pF
  unfold t_opn Sg
  simp only [r_seq, r_next, r_brk, r_cont, r_asg, r_name, r_ret, r_retN, r_drop, r_ifs, r_never, r_var, r_c, r_op, r_un, r_if, r_tst, r_b, r_not, r_and, r_or, r_andV, r_orV, r_notV, r_nil, r_cons, r_tup, r_lst, r_cb, r_call, r_bm, r_bm0, r_sl, r_nopart, r_part, r_rev, r_gnil, r_gcons, r_gsub, r_par, r_aug, r_chain, r_I0, r_I, r_U, r_ixd, r_lend, r_tupd, r_listd, r_sld, r_app, r_ext, r_reverse, r_setl, r_cat, r_int1, r_eqS, r_neS, scal_ii, scal_bb, scal_ss, at0, at1, at2, sq_lst, sq_tup, isLst_lst, List.getElem?_cons_zero, List.getElem?_cons_succ, List.set_cons_zero, List.set_cons_succ, V.int.injEq, V.bl.injEq, V.ref.injEq, V.str.injEq, HO.lst.injEq, HO.tup.injEq, Option.some.injEq, exists_eq_left', exists_eq_left, List.cons.injEq, and_true, true_and, decide_eq_true_eq, reduceCtorEq, false_and, exists_false, or_false, false_or, exists_const, and_assoc, exists_and_left, List.append_nil, ix0, ix1, ix2, cm_mod, cdw1009, cdw2003, cdw7, cdw64, cdw2, cm104729, cm2, cm3, upd_same, List.length_cons, List.length_nil, Int.reduceLT, Int.reduceLE, Nat.reduceAdd, Nat.reduceLeDiff, Nat.reduceLT, Int.reduceToNat, r_for1, r_forL, r_forT, r_lcL, r_lc1, r_yes, r_gtupD, wipe_0, wipe_1, List.cons_append, List.nil_append, r_forS, r_ipI, ite_false, ite_true, Bool.not_true, Bool.not_false, decide_true, decide_false, r_isd, r_islt, cD_ty, cD_ref, tD_non, tD_bl, tD_int, tD_str, tD_ref, tH_lst, tH_tup, tH_dK, tH_ins, ki_self, ki_int_bool, ki_non_int, ki_str_int, ki_lt_lst, ki_lt_tup, r_fld, r_sfld, HO.ins.injEq, cx_K]
  refine ⟨szl (by decide), fun r hr => ?_⟩
  have s1 : Same H (L2.upd H r (.tup [.str x.w, x.a, lnV x.l])) := Same.new' (Same.refl _) hr
  have er : L2.upd H r (.tup [.str x.w, x.a, lnV x.l]) r = some (.tup (v3 x)) := upd_same
  have tp1 : Tups H (L2.upd H r (.tup [.str x.w, x.a, lnV x.l])) := fun b ys e => s1 _ _ e
  have tT1 : TdA NH (L2.upd H r (.tup [.str x.w, x.a, lnV x.l])) T s.t := tT.imp (by obtain ⟨kv, e, _⟩ := tT; rw [s1 _ _ e, e]) tp1
  generalize L2.upd H r (.tup [.str x.w, x.a, lnV x.l]) = H1 at *
  refine ⟨r, T, x, s.dep, gv, s.t, s.g, rfl, er, ow, pb, sa, tT1, hg.imp tp1, lt, fun p L bv H2 k2 ep hL hR hb hT => ?_⟩
  obtain ⟨rs, eL, pL⟩ := hR
  have ll := Paired.length pL
  have lo := op_len x s.g
  have K2 : ∀ b o, b ≠ T → H b = some o → H2 b = some o := fun b o nb e => k2 _ _ nb (s1 _ _ e)
  have eF2 := K2 _ _ n1.symm eF
  have eU2 := K2 _ _ n2.symm eU
  have tp2 : Tups H H2 := fun b ys e => K2 _ _ (fun z => by obtain ⟨_, e2, _⟩ := tT; rw [z, e2] at e; cases e) e
  obtain ⟨q1, q2⟩ := rs5_ext eF2 (Paired.map' pF fun b y e => e.imp tp2) pL
  simp only [r_seq, r_next, r_brk, r_cont, r_asg, r_name, r_ret, r_retN, r_drop, r_ifs, r_never, r_var, r_c, r_op, r_un, r_if, r_tst, r_b, r_not, r_and, r_or, r_andV, r_orV, r_notV, r_nil, r_cons, r_tup, r_lst, r_cb, r_call, r_bm, r_bm0, r_sl, r_nopart, r_part, r_rev, r_gnil, r_gcons, r_gsub, r_par, r_aug, r_chain, r_I0, r_I, r_U, r_ixd, r_lend, r_tupd, r_listd, r_sld, r_app, r_ext, r_reverse, r_setl, r_cat, r_int1, r_eqS, r_neS, scal_ii, scal_bb, scal_ss, at0, at1, at2, sq_lst, sq_tup, isLst_lst, List.getElem?_cons_zero, List.getElem?_cons_succ, List.set_cons_zero, List.set_cons_succ, V.int.injEq, V.bl.injEq, V.ref.injEq, V.str.injEq, HO.lst.injEq, HO.tup.injEq, Option.some.injEq, exists_eq_left', exists_eq_left, List.cons.injEq, and_true, true_and, decide_eq_true_eq, reduceCtorEq, false_and, exists_false, or_false, false_or, exists_const, and_assoc, exists_and_left, List.append_nil, ix0, ix1, ix2, cm_mod, cdw1009, cdw2003, cdw7, cdw64, cdw2, cm104729, cm2, cm3, upd_same, List.length_cons, List.length_nil, Int.reduceLT, Int.reduceLE, Nat.reduceAdd, Nat.reduceLeDiff, Nat.reduceLT, Int.reduceToNat, r_for1, r_forL, r_forT, r_lcL, r_lc1, r_yes, r_gtupD, wipe_0, wipe_1, List.cons_append, List.nil_append, r_forS, r_ipI, ite_false, ite_true, Bool.not_true, Bool.not_false, decide_true, decide_false, r_isd, r_islt, cD_ty, cD_ref, tD_non, tD_bl, tD_int, tD_str, tD_ref, tH_lst, tH_tup, tH_dK, tH_ins, ki_self, ki_int_bool, ki_non_int, ki_str_int, ki_lt_lst, ki_lt_tup, r_fld, r_sfld, HO.ins.injEq, cx_K, ep]
  refine ⟨tyl eF2, _, eF2, _, eL, Nat.le_trans (by rw [List.length_map, List.length_map]; omega : _ ≤ 60001) (by decide), ?_⟩
  have tp3 : Tups H2 (L2.upd H2 F' (.lst (refs.map V.ref ++ rs.map V.ref))) := fun b ys e => q2 _ _ (fun z => by rw [z, eF2] at e; cases e) e
  exact k bv _ _ (fun b o nT nF nU e => q2 _ _ nF (K2 _ _ nT e)) q1 (q2 _ _ n3.symm eU2) (hT.imp (by obtain ⟨kv, e, _⟩ := hT; rw [e]; exact q2 _ _ n1 e) tp3) (hb.imp tp3)
/-! ### plain rows -/
def EW : List Str := ["LOAD_NAME", "POP_TOP", "YIELD_VALUE", "RESUME", "JUMP", "RETURN_VALUE", "NOP"]
structure EffT (K : PySem.W.Frag) (w : World) (mg : Str → Option Value) (D : Addr) : Prop where
  kd : ∃ es n, KDict K w D es n
  g : mg "EFFECTS" = some (.ref D)
  ok : ∀ z ∈ EW, (∃ o, PySem.W.nsIn K D z = some o ∧ o.isSome = true) ∧ KDct K w D z (.int (eff z))
theorem liv3_run {K : PySem.W.Frag} {w : World} {mg : Str → Option Value} {NH DE D1 D2 D3 : Addr} (TE : EffT K w mg DE) (TT : InW K w mg "TURNING" D1 turning) (TL : InW K w mg "LEADING" D2 leading) (TV : InW K w mg "LEAVING" D3 leaving) {D : Ends} {F T F' U : Addr} {ah : Str} {dep : Int} {t1 : List Td} {g : Gd} {z : Str} {av gv : V} {l : Option Int} {v11 v12 : Option V} {H : Hp} (hw : z ∈ EW) (hf : z ∈ FW) (la : leading z = true → ∃ n : Int, av = .int n) (tT : TdA NH H T t1) (hg : GdV NH H gv g) (lt : t1.length ≤ 200000)
    (k : ∀ H', (∀ b o, b ≠ T → H b = some o → H' b = some o) → TdA NH H' T (if leading z = true ∧ hasT t1 (labI av) = false then ⟨labI av, dep + eff z, g⟩ :: t1 else t1) → D.nx (Sg F T F' U ah (!leaving z) (dep + eff z) gv z av l v11 v12) H') : t_liv3 K w DE D1 D2 D3 D (Sg F T F' U ah true dep gv z av l v11 v12) H := by
  obtain ⟨⟨o, e1, e2⟩, e3⟩ := TE.ok z hw
  unfold t_liv3 Sg
  simp only [r_seq, r_next, r_brk, r_cont, r_asg, r_name, r_ret, r_retN, r_drop, r_ifs, r_never, r_var, r_c, r_op, r_un, r_if, r_tst, r_b, r_not, r_and, r_or, r_andV, r_orV, r_notV, r_nil, r_cons, r_tup, r_lst, r_cb, r_call, r_bm, r_bm0, r_sl, r_nopart, r_part, r_rev, r_gnil, r_gcons, r_gsub, r_par, r_aug, r_chain, r_I0, r_I, r_U, r_ixd, r_lend, r_tupd, r_listd, r_sld, r_app, r_ext, r_reverse, r_setl, r_cat, r_int1, r_eqS, r_neS, scal_ii, scal_bb, scal_ss, at0, at1, at2, sq_lst, sq_tup, isLst_lst, List.getElem?_cons_zero, List.getElem?_cons_succ, List.set_cons_zero, List.set_cons_succ, V.int.injEq, V.bl.injEq, V.ref.injEq, V.str.injEq, HO.lst.injEq, HO.tup.injEq, Option.some.injEq, exists_eq_left', exists_eq_left, List.cons.injEq, and_true, true_and, decide_eq_true_eq, reduceCtorEq, false_and, exists_false, or_false, false_or, exists_const, and_assoc, exists_and_left, List.append_nil, ix0, ix1, ix2, cm_mod, cdw1009, cdw2003, cdw7, cdw64, cdw2, cm104729, cm2, cm3, upd_same, List.length_cons, List.length_nil, Int.reduceLT, Int.reduceLE, Nat.reduceAdd, Nat.reduceLeDiff, Nat.reduceLT, Int.reduceToNat, r_for1, r_forL, r_forT, r_lcL, r_lc1, r_yes, r_gtupD, wipe_0, wipe_1, List.cons_append, List.nil_append, r_forS, r_ipI, ite_false, ite_true, Bool.not_true, Bool.not_false, decide_true, decide_false, r_isd, r_islt, cD_ty, cD_ref, tD_non, tD_bl, tD_int, tD_str, tD_ref, tH_lst, tH_tup, tH_dK, tH_ins, ki_self, ki_int_bool, ki_non_int, ki_str_int, ki_lt_lst, ki_lt_tup, r_fld, r_sfld, HO.ins.injEq, cx_K, r_dnin, r_ixD]
  refine ⟨z, o, rfl, rfl, e1, ⟨_, rfl, ?_⟩⟩
  rw [e2, if_pos rfl]
  refine ⟨_, e3, _, rfl, ?_⟩
  have last : ∀ H1, (∀ b o, b ≠ T → H b = some o → H1 b = some o) → TdA NH H1 T (if leading z = true ∧ hasT t1 (labI av) = false then ⟨labI av, dep + eff z, g⟩ :: t1 else t1) → ∃ x, PySem.W.nsIn K D3 z = some x ∧ D.nx [some (.ref F), some (.ref T), some (.ref F'), some (.ref U), some (.str ah), some (.bl (!x.isSome)), some (.int (dep + eff z)), some gv, some (.str z), some av, some (lnV l), v11, v12] H1 := fun H1 k1 q1 => by
    obtain ⟨o3, e4, e5⟩ := TV.ok z hf
    exact ⟨o3, e4, by rw [e5]; exact k H1 k1 q1⟩
  refine TT.inT hf ⟨_, rfl, ?_⟩
  by_cases ct : turning z = true
  · rw [if_pos ct]
    refine TL.inT hf ⟨_, rfl, ?_⟩
    by_cases cl : leading z = true
    · rw [if_pos cl]
      obtain ⟨n, rfl⟩ := la cl
      obtain ⟨ot, dt, st⟩ := tT.get n
      refine ⟨ot, dt, ?_⟩
      rw [st]
      by_cases c : hasT t1 n = true
      · rw [if_neg (by rw [c]; decide)]
        refine last H (fun _ _ _ e => e) ?_
        rw [if_neg (fun q => by have q2 : hasT t1 n = false := q.2; rw [c] at q2; cases q2)]
        exact tT
      · have cf : hasT t1 n = false := by simpa using c
        rw [if_pos (by rw [cf]; rfl), r_sput]
        simp only [r_seq, r_next, r_brk, r_cont, r_asg, r_name, r_ret, r_retN, r_drop, r_ifs, r_never, r_var, r_c, r_op, r_un, r_if, r_tst, r_b, r_not, r_and, r_or, r_andV, r_orV, r_notV, r_nil, r_cons, r_tup, r_lst, r_cb, r_call, r_bm, r_bm0, r_sl, r_nopart, r_part, r_rev, r_gnil, r_gcons, r_gsub, r_par, r_aug, r_chain, r_I0, r_I, r_U, r_ixd, r_lend, r_tupd, r_listd, r_sld, r_app, r_ext, r_reverse, r_setl, r_cat, r_int1, r_eqS, r_neS, scal_ii, scal_bb, scal_ss, at0, at1, at2, sq_lst, sq_tup, isLst_lst, List.getElem?_cons_zero, List.getElem?_cons_succ, List.set_cons_zero, List.set_cons_succ, V.int.injEq, V.bl.injEq, V.ref.injEq, V.str.injEq, HO.lst.injEq, HO.tup.injEq, Option.some.injEq, exists_eq_left', exists_eq_left, List.cons.injEq, and_true, true_and, decide_eq_true_eq, reduceCtorEq, false_and, exists_false, or_false, false_or, exists_const, and_assoc, exists_and_left, List.append_nil, ix0, ix1, ix2, cm_mod, cdw1009, cdw2003, cdw7, cdw64, cdw2, cm104729, cm2, cm3, upd_same, List.length_cons, List.length_nil, Int.reduceLT, Int.reduceLE, Nat.reduceAdd, Nat.reduceLeDiff, Nat.reduceLT, Int.reduceToNat, r_for1, r_forL, r_forT, r_lcL, r_lc1, r_yes, r_gtupD, wipe_0, wipe_1, List.cons_append, List.nil_append, r_forS, r_ipI, ite_false, ite_true, Bool.not_true, Bool.not_false, decide_true, decide_false, r_isd, r_islt, cD_ty, cD_ref, tD_non, tD_bl, tD_int, tD_str, tD_ref, tH_lst, tH_tup, tH_dK, tH_ins, ki_self, ki_int_bool, ki_non_int, ki_str_int, ki_lt_lst, ki_lt_tup, r_fld, r_sfld, HO.ins.injEq, cx_K]
        refine ⟨szl (by decide), fun p hp => ?_⟩
        have s1 : Same H (L2.upd H p (.tup [.int (dep + eff z), gv])) := Same.new' (Same.refl _) hp
        have ep : L2.upd H p (.tup [.int (dep + eff z), gv]) p = some (.tup [.int (dep + eff z), gv]) := upd_same
        have tp1 : Tups H (L2.upd H p (.tup [.int (dep + eff z), gv])) := fun b ys e => s1 _ _ e
        have tT1 : TdA NH (L2.upd H p (.tup [.int (dep + eff z), gv])) T t1 := tT.imp (by obtain ⟨kv, e, _⟩ := tT; rw [s1 _ _ e, e]) tp1
        generalize L2.upd H p (.tup [.int (dep + eff z), gv]) = H1 at *
        obtain ⟨H2, dp, hT2, k2⟩ := tT1.put (p := ⟨n, dep + eff z, g⟩) (v := .ref p) ⟨p, gv, rfl, ep, hg.imp tp1⟩ lt
        obtain ⟨x, q1, q2⟩ := last H2 (fun b o nb e => by rw [k2 b nb]; exact s1 _ _ e) (by rw [if_pos (⟨cl, cf⟩ : leading z = true ∧ hasT t1 (labI (.int n)) = false)]; exact hT2)
        exact ⟨H2, dp, x, q1, q2⟩
    · rw [if_neg cl]
      refine last H (fun _ _ _ e => e) ?_
      rw [if_neg fun q => cl q.1]
      exact tT
  · rw [if_neg ct]
    have nl : leading z = false := by cases q : leading z with | false => rfl | true => exact absurd (by unfold turning; rw [q]; rfl) ct
    have nv : leaving z = false := by cases q : leaving z with | false => rfl | true => exact absurd (by unfold turning; rw [q]; cases leading z <;> rfl) ct
    have q := k H (fun _ _ _ e => e) (by rw [if_neg fun q => by rw [nl] at q; cases q.1]; exact tT)
    rw [nv] at q
    exact q
theorem liv2_run {K : PySem.W.Frag} {w : World} {mg : Str → Option Value} {NH DE D1 D2 D3 : Addr} (kn : KTup K NH [.non, .non, .int 0]) (TE : EffT K w mg DE) (TT : InW K w mg "TURNING" D1 turning) (TL : InW K w mg "LEADING" D2 leading) (TV : InW K w mg "LEAVING" D3 leaving) {D : Ends} {F T F' U : Addr} {s : G5} {t1 : List Td} {x : R3} {gv hv : V} {v11 : Option V} {H : Hp} (hw : x.w ∈ EW) (hf : x.w ∈ FW) (la : leading x.w = true → ∃ n : Int, x.a = .int n) (lr : x.w = "RESUME" → ∃ n : Int, x.a = .int n) (rF : Rs5 H F' s.f) (eU : H U = some (.dK (uK s.u))) (tT : TdA NH H T t1) (hg : GdV NH H gv s.g) (hh : HdV H hv s.g.hd) (lf : s.f.length ≤ 60000) (lt : t1.length ≤ 200000) (n1 : T ≠ F') (n2 : T ≠ U) (n3 : F' ≠ U)
    (k : ∀ H', Kp3 T F' U H H' → Rs5 H' F' (s.f ++ [⟨x.w, argR s x, x.l, s.g.hd⟩]) → H' U = some (.dK (uK s.u)) → TdA NH H' T (if leading x.w = true ∧ hasT t1 (labI x.a) = false then ⟨labI x.a, s.dep + eff x.w, s.g⟩ :: t1 else t1) → GdV NH H' gv s.g → D.nx (Sg F T F' U s.ah (!leaving x.w) (s.dep + eff x.w) gv x.w (argR s x) x.l v11 (some hv)) H') : t_liv2 K w DE D1 D2 D3 D (Sg F T F' U s.ah true s.dep gv x.w x.a x.l v11 (some hv)) H := by
  obtain ⟨refs, eF, pF⟩ := rF
  have lrf := Paired.length pF
  have szf : (refs.map V.ref).length < sizeLine := Nat.lt_of_le_of_lt (by rw [List.length_map]; omega : _ ≤ 60000) (by decide)
  have tail : ∀ av, av = argR s x → tyV K "list" (.ref F') H ∧ 4 ≤ sizeLine ∧ ∀ p, H p = none → ∃ y, L2.upd H p (.tup [.str x.w, av, lnV x.l, hv]) F' = some (.lst y) ∧ y.length < sizeLine ∧ t_liv3 K w DE D1 D2 D3 D [some (.ref F), some (.ref T), some (.ref F'), some (.ref U), some (.str s.ah), some (.bl true), some (.int s.dep), some gv, some (.str x.w), some av, some (lnV x.l), v11, some hv] (L2.upd (L2.upd H p (.tup [.str x.w, av, lnV x.l, hv])) F' (.lst (y ++ [.ref p]))) := fun av ea => by
    refine ⟨tyl eF, szl (by decide), fun p hp => ⟨_, by rw [upd_ne (ne_new eF hp)]; exact eF, szf, ?_⟩⟩
    obtain ⟨q1, q2⟩ := rs5_app (y := ⟨x.w, av, x.l, s.g.hd⟩) eF pF hp hh
    have tp : Tups H (L2.upd (L2.upd H p (.tup [.str x.w, av, lnV x.l, hv])) F' (.lst (refs.map V.ref ++ [.ref p]))) := fun b ys e => q2 _ _ (fun z => by rw [z, eF] at e; cases e) e
    have tT1 := tT.imp (H' := L2.upd (L2.upd H p (.tup [.str x.w, av, lnV x.l, hv])) F' (.lst (refs.map V.ref ++ [.ref p]))) (by obtain ⟨kv, e, _⟩ := tT; rw [e]; exact q2 _ _ n1 e) tp
    have hg1 := hg.imp tp
    have eU1 := q2 _ _ n3.symm eU
    have nr : leading x.w = true → av = x.a := fun q => by
      rw [ea]
      unfold argR
      rw [if_neg fun z => by rw [z.1] at q; exact absurd q (by decide)]
    refine liv3_run TE TT TL TV (ah := s.ah) (l := x.l) hw hf (fun q => by rw [nr q]; exact la q) tT1 hg1 lt fun H' k1 hT' => ?_
    have tp1 : Tups _ H' := fun b ys e => k1 b _ (fun z => by obtain ⟨_, e2, _⟩ := tT1; rw [z, e2] at e; cases e) e
    have q1 : Rs5 (L2.upd (L2.upd H p (.tup [.str x.w, av, lnV x.l, hv])) F' (.lst (refs.map V.ref ++ [.ref p]))) F' (s.f ++ [⟨x.w, av, x.l, s.g.hd⟩]) := q1
    obtain ⟨r1, e1, p1⟩ := q1
    have := k H' (fun b o nT nF nU e => k1 _ _ nT (q2 _ _ nF e)) (by rw [← ea]; exact ⟨r1, k1 _ _ n1.symm e1, Paired.map' p1 fun b y e => e.imp tp1⟩) (k1 _ _ n2.symm eU1) (by
      by_cases q : leading x.w = true
      · rw [← nr q]; exact hT'
      · rw [if_neg fun z => q z.1] at hT' ⊢
        exact hT') (hg1.imp tp1)
    rw [← ea] at this
    exact this
  unfold t_liv2 Sg
  simp only [r_seq, r_next, r_brk, r_cont, r_asg, r_name, r_ret, r_retN, r_drop, r_ifs, r_never, r_var, r_c, r_op, r_un, r_if, r_tst, r_b, r_not, r_and, r_or, r_andV, r_orV, r_notV, r_nil, r_cons, r_tup, r_lst, r_cb, r_call, r_bm, r_bm0, r_sl, r_nopart, r_part, r_rev, r_gnil, r_gcons, r_gsub, r_par, r_aug, r_chain, r_I0, r_I, r_U, r_ixd, r_lend, r_tupd, r_listd, r_sld, r_app, r_ext, r_reverse, r_setl, r_cat, r_int1, r_eqS, r_neS, scal_ii, scal_bb, scal_ss, at0, at1, at2, sq_lst, sq_tup, isLst_lst, List.getElem?_cons_zero, List.getElem?_cons_succ, List.set_cons_zero, List.set_cons_succ, V.int.injEq, V.bl.injEq, V.ref.injEq, V.str.injEq, HO.lst.injEq, HO.tup.injEq, Option.some.injEq, exists_eq_left', exists_eq_left, List.cons.injEq, and_true, true_and, decide_eq_true_eq, reduceCtorEq, false_and, exists_false, or_false, false_or, exists_const, and_assoc, exists_and_left, List.append_nil, ix0, ix1, ix2, cm_mod, cdw1009, cdw2003, cdw7, cdw64, cdw2, cm104729, cm2, cm3, upd_same, List.length_cons, List.length_nil, Int.reduceLT, Int.reduceLE, Nat.reduceAdd, Nat.reduceLeDiff, Nat.reduceLT, Int.reduceToNat, r_for1, r_forL, r_forT, r_lcL, r_lc1, r_yes, r_gtupD, wipe_0, wipe_1, List.cons_append, List.nil_append, r_forS, r_ipI, ite_false, ite_true, Bool.not_true, Bool.not_false, decide_true, decide_false, r_isd, r_islt, cD_ty, cD_ref, tD_non, tD_bl, tD_int, tD_str, tD_ref, tH_lst, tH_tup, tH_dK, tH_ins, ki_self, ki_int_bool, ki_non_int, ki_str_int, ki_lt_lst, ki_lt_tup, r_fld, r_sfld, HO.ins.injEq, cx_K]
  by_cases c1 : x.w = "RESUME"
  · rw [if_pos c1]
    obtain ⟨n, en⟩ := lr c1
    refine ⟨by rw [en]; rfl, ?_⟩
    by_cases c2 : x.a = .int 1
    · rw [if_pos c2]
      obtain ⟨a, hv', ov, ea, sq3, _, _⟩ := hg.parts kn
      refine ⟨a, _, 2, _, ea, rfl, sq3, rfl, rfl, ?_⟩
      by_cases c3 : s.g.n = 1
      · rw [if_pos (by rw [c3]; rfl)]
        by_cases c4 : s.ah = "YIELD_VALUE"
        · rw [if_pos c4]
          exact tail (.int 5) (by unfold argR; rw [if_pos ⟨c1, c2, c3, c4⟩])
        · rw [if_neg c4]
          exact tail x.a (by unfold argR; rw [if_neg fun z => c4 z.2.2.2])
      · rw [if_neg (fun z => c3 (by injection z with z; omega))]
        exact tail x.a (by unfold argR; rw [if_neg fun z => c3 z.2.2.1])
    · rw [if_neg c2]
      exact tail x.a (by unfold argR; rw [if_neg fun z => c2 z.2.1])
  · rw [if_neg c1]
    exact tail x.a (by unfold argR; rw [if_neg fun z => c1 z.1])
theorem tell_has {t : List Td} {h : Hd3} {o : Gd} (c : hasT t h.lab = true) : tellH t (.on h o) = t := by
  show (if hasT t h.lab = true then t else _) = _
  rw [if_pos c]
theorem liv_run {K : PySem.W.Frag} {w : World} {mg : Str → Option Value} {NH DE DO D1 D2 D3 : Addr} (kn : KTup K NH [.non, .non, .int 0]) (TE : EffT K w mg DE) (TT : InW K w mg "TURNING" D1 turning) (TL : InW K w mg "LEADING" D2 leading) (TV : InW K w mg "LEAVING" D3 leaving) {D : Ends} {F T F' U : Addr} {s : G5} {x : R3} {gv : V} {v11 v12 : Option V} {H : Hp} (hw : x.w ∈ EW) (hf : x.w ∈ FW) (la : leading x.w = true → ∃ n : Int, x.a = .int n) (lr : x.w = "RESUME" → ∃ n : Int, x.a = .int n) (rF : Rs5 H F' s.f) (eU : H U = some (.dK (uK s.u))) (tT : TdA NH H T s.t) (hg : GdV NH H gv s.g) (lf : s.f.length ≤ 60000) (lt : s.t.length ≤ 100000) (n1 : T ≠ F') (n2 : T ≠ U) (n3 : F' ≠ U)
    (k : ∀ gv hv H', Kp3 T F' U H H' → Rs5 H' F' (livStep s x).f → H' U = some (.dK (uK s.u)) → TdA NH H' T (livStep s x).t → GdV NH H' gv s.g → D.nx (Sg F T F' U s.ah (livStep s x).live (livStep s x).dep gv x.w (argR s x) x.l v11 (some hv)) H') : t_liv K w NH DE DO D1 D2 D3 D (Sg F T F' U s.ah true s.dep gv x.w x.a x.l v11 v12) H := by
  obtain ⟨a, hv, ov, ea, sq3, hh, ho⟩ := id (hg.parts kn)
  have two : ∀ H1, (∀ b o, b ≠ T → H b = some o → H1 b = some o) → TdA NH H1 T (tellH s.t s.g) → t_liv2 K w DE D1 D2 D3 D (Sg F T F' U s.ah true s.dep gv x.w x.a x.l v11 (some hv)) H1 := fun H1 k1 hT1 => by
    have tp : Tups H H1 := fun b ys e => k1 _ _ (fun z => by obtain ⟨_, e2, _⟩ := tT; rw [z, e2] at e; cases e) e
    obtain ⟨rs, eF, pF⟩ := rF
    have ll : (tellH s.t s.g).length ≤ s.t.length + 1 := by
      cases s.g with
      | no => exact Nat.le_succ _
      | on h o =>
        show (if hasT s.t h.lab = true then s.t else _).length ≤ _
        split
        · exact Nat.le_succ _
        · exact Nat.le_refl _
    exact liv2_run kn TE TT TL TV hw hf la lr ⟨rs, k1 _ _ n1.symm eF, Paired.map' pF fun b y e => e.imp tp⟩ (k1 _ _ n2.symm eU) hT1 (hg.imp tp) (hh.imp tp) lf (by omega) n1 n2 n3 fun H' k2 q1 q2 q3 q4 => k gv hv H' (fun b o nT nF nU e => k2 _ _ nT nF nU (k1 _ _ nT e)) q1 q2 q3 q4
  unfold t_liv Sg
  simp only [r_seq, r_next, r_brk, r_cont, r_asg, r_name, r_ret, r_retN, r_drop, r_ifs, r_never, r_var, r_c, r_op, r_un, r_if, r_tst, r_b, r_not, r_and, r_or, r_andV, r_orV, r_notV, r_nil, r_cons, r_tup, r_lst, r_cb, r_call, r_bm, r_bm0, r_sl, r_nopart, r_part, r_rev, r_gnil, r_gcons, r_gsub, r_par, r_aug, r_chain, r_I0, r_I, r_U, r_ixd, r_lend, r_tupd, r_listd, r_sld, r_app, r_ext, r_reverse, r_setl, r_cat, r_int1, r_eqS, r_neS, scal_ii, scal_bb, scal_ss, at0, at1, at2, sq_lst, sq_tup, isLst_lst, List.getElem?_cons_zero, List.getElem?_cons_succ, List.set_cons_zero, List.set_cons_succ, V.int.injEq, V.bl.injEq, V.ref.injEq, V.str.injEq, HO.lst.injEq, HO.tup.injEq, Option.some.injEq, exists_eq_left', exists_eq_left, List.cons.injEq, and_true, true_and, decide_eq_true_eq, reduceCtorEq, false_and, exists_false, or_false, false_or, exists_const, and_assoc, exists_and_left, List.append_nil, ix0, ix1, ix2, cm_mod, cdw1009, cdw2003, cdw7, cdw64, cdw2, cm104729, cm2, cm3, upd_same, List.length_cons, List.length_nil, Int.reduceLT, Int.reduceLE, Nat.reduceAdd, Nat.reduceLeDiff, Nat.reduceLT, Int.reduceToNat, r_for1, r_forL, r_forT, r_lcL, r_lc1, r_yes, r_gtupD, wipe_0, wipe_1, List.cons_append, List.nil_append, r_forS, r_ipI, ite_false, ite_true, Bool.not_true, Bool.not_false, decide_true, decide_false, r_isd, r_islt, cD_ty, cD_ref, tD_non, tD_bl, tD_int, tD_str, tD_ref, tH_lst, tH_tup, tH_dK, tH_ins, ki_self, ki_int_bool, ki_non_int, ki_str_int, ki_lt_lst, ki_lt_tup, r_fld, r_sfld, HO.ins.injEq, cx_K, r_dnin]
  refine ⟨a, _, 0, hv, ea, rfl, sq3, at0, ?_⟩
  cases eg : s.g with
  | no =>
    rw [eg] at hh
    have hh : hv = .non := hh
    subst hh
    show if (!decide (V.non = V.non)) = true then _ else _
    rw [if_neg (by decide)]
    exact two H (fun _ _ _ e => e) (by rw [eg]; exact tT)
  | on h o =>
    rw [eg] at hh
    obtain ⟨ha, rfl, eh⟩ : ∃ a, hv = .ref a ∧ H a = some (.tup [.int h.lab, .int h.dep, .bl h.want]) := hh
    show if (!decide (V.ref ha = V.non)) = true then _ else _
    rw [if_pos (by simp)]
    obtain ⟨ot, dt, st⟩ := tT.get h.lab
    refine ⟨ha, rfl, _, by rw [eh]; rfl, _, at0, ot, dt, ?_⟩
    rw [st]
    by_cases c : hasT s.t h.lab = true
    · rw [if_neg (by rw [c]; decide)]
      exact two H (fun _ _ _ e => e) (by rw [eg, tell_has c]; exact tT)
    · rw [if_pos (by simp [c])]
      exact ⟨T, gv, s.t, s.g, rfl, tT, hg, lt, fun v H1 k1 q1 => two H1 k1 q1⟩
end C31

set_option maxHeartbeats 2000000
namespace C31
open PySem PySem.Spec PyProof.Rows L2
/-- a row as the pass with handlers takes it -/
structure Ok5 (x : R3) : Prop where
  w : x.w ∈ FW
  lab : x.w = "LABEL" → ∃ n : Int, x.a = .int n
  op : opens x.w = true → x.w ≠ "POP_BLOCK" → ∃ n : Int, x.a = .int n
  pl : x.w ≠ "LABEL" → opens x.w = false → x.w ∈ EW
  ld : leading x.w = true → ∃ n : Int, x.a = .int n
  rs : x.w = "RESUME" → ∃ n : Int, x.a = .int n
theorem rwb5_run {K : PySem.W.Frag} {w : World} {mg : Str → Option Value} {NH DE DO D1 D2 D3 : Addr} (kn : KTup K NH [.non, .non, .int 0]) (TO : InW K w mg "OPENING" DO opens) (TE : EffT K w mg DE) (TT : InW K w mg "TURNING" D1 turning) (TL : InW K w mg "LEADING" D2 leading) (TV : InW K w mg "LEAVING" D3 leaving) {D : Ends} {F T F' U : Addr} {s : G5} {x : R3} {gv : V} {v11 v12 : Option V} {H : Hp} (ok : Ok5 x) (pb : x.w = "POP_BLOCK" → s.live = true → s.g ≠ .no) (rF : Rs5 H F' s.f) (eU : H U = some (.dK (uK s.u))) (tT : TdA NH H T s.t) (hg : GdV NH H gv s.g) (lf : s.f.length ≤ 60000) (lu : s.u.length ≤ 60000) (lt : s.t.length ≤ 100000) (n1 : T ≠ F') (n2 : T ≠ U) (n3 : F' ≠ U)
    (k : ∀ gv av v11 v12 H', Kp3 T F' U H H' → Rs5 H' F' (step5 s x).f → H' U = some (.dK (uK (step5 s x).u)) → TdA NH H' T (step5 s x).t → GdV NH H' gv (step5 s x).g → D.nx (Sg F T F' U (step5 s x).ah (step5 s x).live (step5 s x).dep gv x.w av x.l v11 v12) H') : t_rwb K w NH DE DO D1 D2 D3 D (Sg F T F' U s.ah s.live s.dep gv x.w x.a x.l v11 v12) H := by
  unfold t_rwb Sg
  simp only [r_seq, r_next, r_brk, r_cont, r_asg, r_name, r_ret, r_retN, r_drop, r_ifs, r_never, r_var, r_c, r_op, r_un, r_if, r_tst, r_b, r_not, r_and, r_or, r_andV, r_orV, r_notV, r_nil, r_cons, r_tup, r_lst, r_cb, r_call, r_bm, r_bm0, r_sl, r_nopart, r_part, r_rev, r_gnil, r_gcons, r_gsub, r_par, r_aug, r_chain, r_I0, r_I, r_U, r_ixd, r_lend, r_tupd, r_listd, r_sld, r_app, r_ext, r_reverse, r_setl, r_cat, r_int1, r_eqS, r_neS, scal_ii, scal_bb, scal_ss, at0, at1, at2, sq_lst, sq_tup, isLst_lst, List.getElem?_cons_zero, List.getElem?_cons_succ, List.set_cons_zero, List.set_cons_succ, V.int.injEq, V.bl.injEq, V.ref.injEq, V.str.injEq, HO.lst.injEq, HO.tup.injEq, Option.some.injEq, exists_eq_left', exists_eq_left, List.cons.injEq, and_true, true_and, decide_eq_true_eq, reduceCtorEq, false_and, exists_false, or_false, false_or, exists_const, and_assoc, exists_and_left, List.append_nil, ix0, ix1, ix2, cm_mod, cdw1009, cdw2003, cdw7, cdw64, cdw2, cm104729, cm2, cm3, upd_same, List.length_cons, List.length_nil, Int.reduceLT, Int.reduceLE, Nat.reduceAdd, Nat.reduceLeDiff, Nat.reduceLT, Int.reduceToNat, r_for1, r_forL, r_forT, r_lcL, r_lc1, r_yes, r_gtupD, wipe_0, wipe_1, List.cons_append, List.nil_append, r_forS, r_ipI, ite_false, ite_true, Bool.not_true, Bool.not_false, decide_true, decide_false, r_isd, r_islt, cD_ty, cD_ref, tD_non, tD_bl, tD_int, tD_str, tD_ref, tH_lst, tH_tup, tH_dK, tH_ins, ki_self, ki_int_bool, ki_non_int, ki_str_int, ki_lt_lst, ki_lt_tup, r_fld, r_sfld, HO.ins.injEq, cx_K]
  by_cases c1 : x.w = "LABEL"
  · rw [if_pos c1]
    obtain ⟨n, en⟩ := ok.lab c1
    have es : step5 s x = labStep s x := by unfold step5; rw [if_pos c1]
    have ea : (labStep s x).ah = x.w := by
      unfold labStep
      split
      · rfl
      · split <;> rfl
    rw [es, ea] at k
    refine lab_run c1 en rF eU tT hg lf lu n1 n2 n3 fun gv' H' k1 q1 q2 q3 q4 => ?_
    unfold Sg
    simp only [r_seq, r_next, r_brk, r_cont, r_asg, r_name, r_ret, r_retN, r_drop, r_ifs, r_never, r_var, r_c, r_op, r_un, r_if, r_tst, r_b, r_not, r_and, r_or, r_andV, r_orV, r_notV, r_nil, r_cons, r_tup, r_lst, r_cb, r_call, r_bm, r_bm0, r_sl, r_nopart, r_part, r_rev, r_gnil, r_gcons, r_gsub, r_par, r_aug, r_chain, r_I0, r_I, r_U, r_ixd, r_lend, r_tupd, r_listd, r_sld, r_app, r_ext, r_reverse, r_setl, r_cat, r_int1, r_eqS, r_neS, scal_ii, scal_bb, scal_ss, at0, at1, at2, sq_lst, sq_tup, isLst_lst, List.getElem?_cons_zero, List.getElem?_cons_succ, List.set_cons_zero, List.set_cons_succ, V.int.injEq, V.bl.injEq, V.ref.injEq, V.str.injEq, HO.lst.injEq, HO.tup.injEq, Option.some.injEq, exists_eq_left', exists_eq_left, List.cons.injEq, and_true, true_and, decide_eq_true_eq, reduceCtorEq, false_and, exists_false, or_false, false_or, exists_const, and_assoc, exists_and_left, List.append_nil, ix0, ix1, ix2, cm_mod, cdw1009, cdw2003, cdw7, cdw64, cdw2, cm104729, cm2, cm3, upd_same, List.length_cons, List.length_nil, Int.reduceLT, Int.reduceLE, Nat.reduceAdd, Nat.reduceLeDiff, Nat.reduceLT, Int.reduceToNat, r_for1, r_forL, r_forT, r_lcL, r_lc1, r_yes, r_gtupD, wipe_0, wipe_1, List.cons_append, List.nil_append, r_forS, r_ipI, ite_false, ite_true, Bool.not_true, Bool.not_false, decide_true, decide_false, r_isd, r_islt, cD_ty, cD_ref, tD_non, tD_bl, tD_int, tD_str, tD_ref, tH_lst, tH_tup, tH_dK, tH_ins, ki_self, ki_int_bool, ki_non_int, ki_str_int, ki_lt_lst, ki_lt_tup, r_fld, r_sfld, HO.ins.injEq, cx_K]
    exact k gv' x.a v11 v12 H' k1 q1 q2 q3 q4
  · rw [if_neg c1]
    cases lv : s.live with
    | false =>
      rw [if_neg (by decide)]
      have es : step5 s x = { s with ah := x.w } := by unfold step5; rw [if_neg c1, lv, if_neg (by decide)]
      rw [es] at k
      have q := k gv x.a v11 v12 H (fun _ _ _ _ _ e => e) rF eU tT hg
      unfold Sg at q
      rw [show ({ s with ah := x.w } : G5).live = false from lv] at q
      rw [if_neg (by decide)]
      exact q
    | true =>
      rw [if_pos rfl]
      refine TO.inT ok.w ⟨_, rfl, ?_⟩
      by_cases co : opens x.w = true
      · rw [if_pos co]
        have es : step5 s x = { s with f := s.f ++ opRows x s.g, t := opTold x s.t s.g, g := behind x s.dep s.g, ah := x.w } := by unfold step5; rw [if_neg c1, if_pos lv, if_pos co]
        rw [es] at k
        have q := opn_run (K := K) (NH := NH) (D := { nx := tAsg (tVar 8) (gName 4) D, rt := D.rt, bk := D.bk, ct := D.ct }) (F := F) (v11 := v11) (v12 := v12) co (fun z => pb z lv) (ok.op co) rF eU tT hg lf lt n1 n2 n3 fun gv' v11' H' k1 q1 q2 q3 q4 => by
          unfold Sg
          simp only [r_seq, r_next, r_brk, r_cont, r_asg, r_name, r_ret, r_retN, r_drop, r_ifs, r_never, r_var, r_c, r_op, r_un, r_if, r_tst, r_b, r_not, r_and, r_or, r_andV, r_orV, r_notV, r_nil, r_cons, r_tup, r_lst, r_cb, r_call, r_bm, r_bm0, r_sl, r_nopart, r_part, r_rev, r_gnil, r_gcons, r_gsub, r_par, r_aug, r_chain, r_I0, r_I, r_U, r_ixd, r_lend, r_tupd, r_listd, r_sld, r_app, r_ext, r_reverse, r_setl, r_cat, r_int1, r_eqS, r_neS, scal_ii, scal_bb, scal_ss, at0, at1, at2, sq_lst, sq_tup, isLst_lst, List.getElem?_cons_zero, List.getElem?_cons_succ, List.set_cons_zero, List.set_cons_succ, V.int.injEq, V.bl.injEq, V.ref.injEq, V.str.injEq, HO.lst.injEq, HO.tup.injEq, Option.some.injEq, exists_eq_left', exists_eq_left, List.cons.injEq, and_true, true_and, decide_eq_true_eq, reduceCtorEq, false_and, exists_false, or_false, false_or, exists_const, and_assoc, exists_and_left, List.append_nil, ix0, ix1, ix2, cm_mod, cdw1009, cdw2003, cdw7, cdw64, cdw2, cm104729, cm2, cm3, upd_same, List.length_cons, List.length_nil, Int.reduceLT, Int.reduceLE, Nat.reduceAdd, Nat.reduceLeDiff, Nat.reduceLT, Int.reduceToNat, r_for1, r_forL, r_forT, r_lcL, r_lc1, r_yes, r_gtupD, wipe_0, wipe_1, List.cons_append, List.nil_append, r_forS, r_ipI, ite_false, ite_true, Bool.not_true, Bool.not_false, decide_true, decide_false, r_isd, r_islt, cD_ty, cD_ref, tD_non, tD_bl, tD_int, tD_str, tD_ref, tH_lst, tH_tup, tH_dK, tH_ins, ki_self, ki_int_bool, ki_non_int, ki_str_int, ki_lt_lst, ki_lt_tup, r_fld, r_sfld, HO.ins.injEq, cx_K]
          exact k gv' x.a v11' v12 H' k1 q1 q2 q3 q4
        unfold Sg at q
        rw [lv] at q
        exact q
      · rw [if_neg co, if_pos rfl]
        have es : step5 s x = livStep s x := by unfold step5; rw [if_neg c1, if_pos lv, if_neg co]
        rw [es] at k
        refine liv_run (s := s) kn TE TT TL TV (ok.pl c1 (by simpa using co)) ok.w ok.ld ok.rs rF eU tT hg lf lt n1 n2 n3 fun gv' hv H' k1 q1 q2 q3 q4 => ?_
        unfold Sg
        simp only [r_seq, r_next, r_brk, r_cont, r_asg, r_name, r_ret, r_retN, r_drop, r_ifs, r_never, r_var, r_c, r_op, r_un, r_if, r_tst, r_b, r_not, r_and, r_or, r_andV, r_orV, r_notV, r_nil, r_cons, r_tup, r_lst, r_cb, r_call, r_bm, r_bm0, r_sl, r_nopart, r_part, r_rev, r_gnil, r_gcons, r_gsub, r_par, r_aug, r_chain, r_I0, r_I, r_U, r_ixd, r_lend, r_tupd, r_listd, r_sld, r_app, r_ext, r_reverse, r_setl, r_cat, r_int1, r_eqS, r_neS, scal_ii, scal_bb, scal_ss, at0, at1, at2, sq_lst, sq_tup, isLst_lst, List.getElem?_cons_zero, List.getElem?_cons_succ, List.set_cons_zero, List.set_cons_succ, V.int.injEq, V.bl.injEq, V.ref.injEq, V.str.injEq, HO.lst.injEq, HO.tup.injEq, Option.some.injEq, exists_eq_left', exists_eq_left, List.cons.injEq, and_true, true_and, decide_eq_true_eq, reduceCtorEq, false_and, exists_false, or_false, false_or, exists_const, and_assoc, exists_and_left, List.append_nil, ix0, ix1, ix2, cm_mod, cdw1009, cdw2003, cdw7, cdw64, cdw2, cm104729, cm2, cm3, upd_same, List.length_cons, List.length_nil, Int.reduceLT, Int.reduceLE, Nat.reduceAdd, Nat.reduceLeDiff, Nat.reduceLT, Int.reduceToNat, r_for1, r_forL, r_forT, r_lcL, r_lc1, r_yes, r_gtupD, wipe_0, wipe_1, List.cons_append, List.nil_append, r_forS, r_ipI, ite_false, ite_true, Bool.not_true, Bool.not_false, decide_true, decide_false, r_isd, r_islt, cD_ty, cD_ref, tD_non, tD_bl, tD_int, tD_str, tD_ref, tH_lst, tH_tup, tH_dK, tH_ins, ki_self, ki_int_bool, ki_non_int, ki_str_int, ki_lt_lst, ki_lt_tup, r_fld, r_sfld, HO.ins.injEq, cx_K]
        exact k gv' (argR s x) v11 (some hv) H' k1 q1 q2 q3 q4
theorem go5_snoc {t : List Td} {xs : List R3} {i : Nat} {x : R3} (h : xs[i]? = some x) : goTo5 t (xs.take (i + 1)) = step5 (goTo5 t (xs.take i)) x := by
  unfold goTo5
  rw [List.take_add_one, h, List.foldl_append]
  rfl
structure G5L (g : G5) (t : List Td) (i : Nat) : Prop where
  f : g.f.length ≤ i
  u : g.u.length ≤ i
  t : g.t.length ≤ t.length + 2 * i
theorem tell_len (t : List Td) (g : Gd) : (tellH t g).length ≤ t.length + 1 := by
  cases g with
  | no => exact Nat.le_succ _
  | on h o =>
    show (if hasT t h.lab = true then t else _).length ≤ _
    split
    · exact Nat.le_succ _
    · exact Nat.le_refl _
theorem step_len {g : G5} {t : List Td} {i : Nat} {x : R3} (h : G5L g t i) : G5L (step5 g x) t (i + 1) := by
  obtain ⟨h1, h2, h3⟩ := h
  unfold step5
  split
  · unfold labStep
    have pl := putU_len g.u (labI x.a) g.live
    split
    · exact ⟨by simp; omega, by show (putU _ _ _).length ≤ _; omega, by show g.t.length ≤ _; omega⟩
    · split
      · exact ⟨by simp; omega, by show g.u.length ≤ _; omega, by show g.t.length ≤ _; omega⟩
      · exact ⟨by simp; omega, by show g.u.length ≤ _; omega, by show g.t.length ≤ _; omega⟩
  · split
    · split
      · have ol := op_len x g.g
        refine ⟨by show (g.f ++ opRows x g.g).length ≤ _; rw [List.length_append]; omega, by show g.u.length ≤ _; omega, ?_⟩
        show (opTold x g.t g.g).length ≤ _
        unfold opTold
        have := tell_len g.t (around x g.g)
        split <;> omega
      · unfold livStep
        have tl := tell_len g.t g.g
        refine ⟨by simp; omega, by show g.u.length ≤ _; omega, ?_⟩
        show (if leading x.w = true ∧ hasT (tellH g.t g.g) (labI x.a) = false then _ else tellH g.t g.g).length ≤ _
        split
        · rw [List.length_cons]; omega
        · omega
    · exact ⟨by show g.f.length ≤ _; omega, by show g.u.length ≤ _; omega, by show g.t.length ≤ _; omega⟩
theorem go5_len (t : List Td) (xs : List R3) : ∀ i, i ≤ xs.length → G5L (goTo5 t (xs.take i)) t i
  | 0, _ => ⟨Nat.le_refl _, Nat.le_refl _, Nat.le_refl _⟩
  | i + 1, h => by
    rw [go5_snoc (List.getElem?_eq_getElem (by omega : i < xs.length))]
    exact step_len (go5_len t xs i (by omega))
/-- each end of a guarded stretch, where it is reached, ends one -/
def OkGo (t : List Td) (xs : List R3) : Prop := ∀ (i : Nat) (x : R3), xs[i]? = some x → x.w = "POP_BLOCK" → (goTo5 t (xs.take i)).live = true → (goTo5 t (xs.take i)).g ≠ .no
def spRW5 (NH : Addr) : Sp := fun vs H Q _ => ∃ (F T : Addr) (xs : List R3) (t : List Td), vs = [.ref F, .ref T] ∧ Rs3 H F xs ∧ (∀ x ∈ xs, Ok5 x) ∧ OkGo t xs ∧ xs.length ≤ 20000 ∧ TdA NH H T t ∧ t.length ≤ 40000 ∧
  ∀ p F' U H', (∀ b o, b ≠ T → H b = some o → H' b = some o) → H F' = none → H U = none → H' p = some (.tup [.ref F', .ref U]) → Rs5 H' F' (goTo5 t xs).f → H' U = some (.dK (uK (goTo5 t xs).u)) → TdA NH H' T (goTo5 t xs).t → Q (.ref p) H'
def t_rw5 (K : PySem.W.Frag) (w : World) (NH DE DO D1 D2 D3 : Addr) : TS := tSeq (tAsg (tLst tNil) (gName 2)) (tSeq (tAsg tDNewK (gName 3)) (tSeq (tAsg (tTup (tCons (tC (V.str (Str.ofString ""))) (tCons (tC (V.bl true)) (tCons (tC (V.int 0)) (tCons (tC (V.ref NH)) tNil))))) (gTupD 4 (gCons (gName 4) (gCons (gName 5) (gCons (gName 6) (gCons (gName 7) gNil)))))) (tSeq (tFor (iSeqV K 0) (gTupD 3 (gCons (gName 8) (gCons (gName 9) (gCons (gName 10) gNil)))) (t_rwb K w NH DE DO D1 D2 D3)) (tRet (tTup (tCons (tVar 2) (tCons (tVar 3) tNil)))))))
def LvW5 (NH F T F' U : Addr) (xs : List R3) (t : List Td) (H0 : Hp) (i : Nat) (σ : L2.St) (H : Hp) : Prop := ∃ gv v8 v9 v10 v11 v12, σ = [some (.ref F), some (.ref T), some (.ref F'), some (.ref U), some (.str (goTo5 t (xs.take i)).ah), some (.bl (goTo5 t (xs.take i)).live), some (.int (goTo5 t (xs.take i)).dep), some gv, v8, v9, v10, v11, v12] ∧ Kp3 T F' U H0 H ∧ Rs5 H F' (goTo5 t (xs.take i)).f ∧ H U = some (.dK (uK (goTo5 t (xs.take i)).u)) ∧ TdA NH H T (goTo5 t (xs.take i)).t ∧ GdV NH H gv (goTo5 t (xs.take i)).g
section
variable {P : Program} {w : World} {K : PySem.W.Frag} {mg : Str → Option Value} {base : Heap} {f : Addr} {fd : FuncData}
abbrev srwi : Stmt := top 28
theorem scrwi : FnScope ["rows", "told", "found", "unknown", "ahead", "live", "depth", "guards", "word", "argument", "line", "row", "handler"] ["rows", "told"] (defScope srwi) := ⟨rfl, rfl, rfl, by decide +kernel, rfl, by decide +kernel, by decide +kernel⟩

theorem ok_rwi {NH DE DO D1 D2 D3 : Addr} (T : Txt mg) (kn : KTup K NH [.non, .non, .int 0]) (gN : mg "NOTHING_handlers" = some (.ref NH)) (TO : InW K w mg "OPENING" DO opens) (TE : EffT K w mg DE) (TT : InW K w mg "TURNING" D1 turning) (TL : InW K w mg "LEADING" D2 leading) (TV : InW K w mg "LEAVING" D3 leaving) (F : FnP K "reached_with" "reached_with" srwi f fd) (C_tell_handler : Cal P w K mg base 1 "tell_handler" ["told", "guards"] (spTell NH)) (C_opened : Cal P w K mg base 2 "opened" ["row", "told", "depth", "guards"] (spOpen NH)) : FnOk P w K mg base CX0 3 f fd ["rows", "told"] (spRW5 NH) := by
  refine F.ok scrwi (fun vs H Q E h => ?_) (fun cdv A outer s H vs Q E hr h => ?_)
  · obtain ⟨F, T, xs, t, rfl, _⟩ := h
    rfl
  · have hu1 := hu_of hr
    refine ⟨t_rw5 K w NH DE DO D1 D2 D3, PSs.nox (show PSs _ _ (t_rw5 K w NH DE DO D1 D2 D3) from (pss_cons (ps_set (i := 2) scrwi.nd rfl (Or.inl rfl) (pe_lst pa_nil))
  (pss_cons (ps_set (i := 3) scrwi.nd rfl (Or.inl rfl) pe_dnewK)
  (pss_cons (ps_asg (pe_tup (pa_cons pe_str (pa_cons pe_bl (pa_cons pe_int (pa_cons (pe_glob (v := .ref NH) rfl gN rfl) pa_nil))))) (pg_tupD (n := 4) rfl (pgs_cons (pg_name (i := 4) scrwi.nd rfl (Or.inl rfl)) (pgs_cons (pg_name (i := 5) scrwi.nd rfl (Or.inl rfl)) (pgs_cons (pg_name (i := 6) scrwi.nd rfl (Or.inl rfl)) (pgs_cons (pg_name (i := 7) scrwi.nd rfl (Or.inl rfl)) pgs_nil))))))
  (pss_cons (ps_for PassesOwn.never rfl (pi_seqV 0) (pg_tupD (n := 3) rfl (pgs_cons (pg_name (i := 8) scrwi.nd rfl (Or.inl rfl)) (pgs_cons (pg_name (i := 9) scrwi.nd rfl (Or.inl rfl)) (pgs_cons (pg_name (i := 10) scrwi.nd rfl (Or.inl rfl)) pgs_nil))))
    (pss_cons (ps_if (pt_cmpR op_eq (pv 8) pe_str (nomark _))
    (pss_cons (ps_if (pt_cmp (pc_dnotin hu1 (pv 9) (pv 1)))
    (pss_one (ps_dput hu1 (pv 3) (pv 9) (pv 5) rfl))
    (pss_one (ps_if (pt_not (pt_val (pv 5)))
    (pss_cons (ps_set (i := 5) scrwi.nd rfl (Or.inl rfl) pe_bl)
  (pss_one (ps_asg (pe_dget hu1 (pv 1) (pv 9) (fun _ _ => rfl)) (pg_tup (n := 2) rfl (pgs_cons (pg_name (i := 6) scrwi.nd rfl (Or.inl rfl)) (pgs_cons (pg_name (i := 7) scrwi.nd rfl (Or.inl rfl)) pgs_nil))))))
    pss_nil)))
  (pss_one (ps_expr (pe_bm PySem.F.plainAttrs_list PySem.F.slot_list_append PySem.F.type_list_append mt_append (pv 2) (pa_cons (pe_tup (pa_cons (pv 8) (pa_cons (pv 9) (pa_cons pe_non (pa_cons pe_non pa_nil))))) pa_nil)))))
    (pss_one (ps_if (PW.pt (pw_and (pt_val (pv 5)) (pw_and1 (pt_cmpR (op_inTK K w rfl rfl TO.kd) (pv 8) (pe_glob (v := .ref _) rfl TO.g rfl) (by rfl)))))
    (pss_cons (ps_asg (pe_cal C_opened (hr.mono (by decide)) rfl (pa_cons (pe_tup (pa_cons (pv 8) (pa_cons (pv 9) (pa_cons (pv 10) pa_nil)))) (pa_cons (pv 1) (pa_cons (pv 6) (pa_cons (pv 7) pa_nil))))) (pg_tupD (n := 2) rfl (pgs_cons (pg_name (i := 11) scrwi.nd rfl (Or.inl rfl)) (pgs_cons (pg_name (i := 7) scrwi.nd rfl (Or.inl rfl)) pgs_nil))))
  (pss_one (ps_expr (pe_bm PySem.F.plainAttrs_list PySem.F.slot_list_extend PySem.F.type_list_extend mt_extend (pv 2) (pa_cons (pv 11) pa_nil)))))
    (pss_one (ps_if (pt_val (pv 5))
    (pss_cons (ps_set (i := 12) scrwi.nd rfl (Or.inl rfl) (pe_ix ix_tup (pv 7) pe_int (fun _ _ => rfl)))
  (pss_cons (ps_if (PW.pt (pw_and (pt_cmpR op_notN (pv 12) pe_non (nomark _)) (pw_and1 (pt_cmp (pc_dnotin hu1 (pe_ix ix_d (pv 12) pe_int (fun _ _ => rfl)) (pv 1))))))
    (pss_one (ps_expr (pe_cal C_tell_handler (hr.mono (by decide)) rfl (pa_cons (pv 1) (pa_cons (pv 7) pa_nil)))))
    pss_nil)
  (pss_cons (ps_if (PW.pt (pw_and (pt_cmpR op_eq (pv 8) pe_str (nomark _)) (pw_and (pt_cmpR op_eq (pv 9) pe_int (nomark _)) (pw_and (pt_cmpR op_eq (pe_ix ix_tup (pv 7) pe_int (fun _ _ => rfl)) pe_int (nomark _)) (pw_and1 (pt_cmpR op_eq (pv 4) pe_str (nomark _)))))))
    (pss_one (ps_set (i := 9) scrwi.nd rfl (Or.inl rfl) pe_int))
    pss_nil)
  (pss_cons (ps_expr (pe_bm PySem.F.plainAttrs_list PySem.F.slot_list_append PySem.F.type_list_append mt_append (pv 2) (pa_cons (pe_tup (pa_cons (pv 8) (pa_cons (pv 9) (pa_cons (pv 10) (pa_cons (pv 12) pa_nil))))) pa_nil)))
  (pss_cons (ps_aug (i := 6) scrwi.nd rfl (.inl rfl) (pe_ifExp (pt_cmpR (op_inTK K w rfl rfl TE.kd) (pv 8) (pe_glob (v := .ref _) rfl TE.g rfl) (by rfl)) (pe_ix ix_kdict (pe_glob (v := .ref _) rfl TE.g rfl) (pv 8) (fun _ _ => rfl)) pe_no) ip_add)
  (pss_one (ps_if (pt_cmpR (op_inTK K w rfl rfl TT.kd) (pv 8) (pe_glob (v := .ref _) rfl TT.g rfl) (by rfl))
    (pss_cons (ps_if (PW.pt (pw_and (pt_cmpR (op_inTK K w rfl rfl TL.kd) (pv 8) (pe_glob (v := .ref _) rfl TL.g rfl) (by rfl)) (pw_and1 (pt_cmp (pc_dnotin hu1 (pv 9) (pv 1))))))
    (pss_one (ps_dput hu1 (pv 1) (pv 9) (pe_tup (pa_cons (pv 6) (pa_cons (pv 7) pa_nil))) rfl))
    pss_nil)
  (pss_one (ps_set (i := 5) scrwi.nd rfl (Or.inl rfl) (pe_cmpR (op_ninTK K w rfl rfl TV.kd) (pv 8) (pe_glob (v := .ref _) rfl TV.g rfl) (by rfl)))))
    pss_nil)))))))
    pss_nil)))))
  (pss_one (ps_set (i := 4) scrwi.nd rfl (Or.inl rfl) (pv 8)))))
  (pss_one (ps_ret (pe_tup (pa_cons (pv 2) (pa_cons (pv 3) pa_nil)))))))))), ?_⟩
    obtain ⟨F, T0, xs, t, rfl, hF, ok, og, hl, hT, lt, k⟩ := h
    show (_ : TS) _ [some (.ref F), some (.ref T0), none, none, none, none, none, none, none, none, none, none, none] H
    unfold t_rw5
    simp only [r_seq, r_next, r_brk, r_cont, r_asg, r_name, r_ret, r_retN, r_drop, r_ifs, r_never, r_var, r_c, r_op, r_un, r_if, r_tst, r_b, r_not, r_and, r_or, r_andV, r_orV, r_notV, r_nil, r_cons, r_tup, r_lst, r_cb, r_call, r_bm, r_bm0, r_sl, r_nopart, r_part, r_rev, r_gnil, r_gcons, r_gsub, r_par, r_aug, r_chain, r_I0, r_I, r_U, r_ixd, r_lend, r_tupd, r_listd, r_sld, r_app, r_ext, r_reverse, r_setl, r_cat, r_int1, r_eqS, r_neS, scal_ii, scal_bb, scal_ss, at0, at1, at2, sq_lst, sq_tup, isLst_lst, List.getElem?_cons_zero, List.getElem?_cons_succ, List.set_cons_zero, List.set_cons_succ, V.int.injEq, V.bl.injEq, V.ref.injEq, V.str.injEq, HO.lst.injEq, HO.tup.injEq, Option.some.injEq, exists_eq_left', exists_eq_left, List.cons.injEq, and_true, true_and, decide_eq_true_eq, reduceCtorEq, false_and, exists_false, or_false, false_or, exists_const, and_assoc, exists_and_left, List.append_nil, ix0, ix1, ix2, cm_mod, cdw1009, cdw2003, cdw7, cdw64, cdw2, cm104729, cm2, cm3, upd_same, List.length_cons, List.length_nil, Int.reduceLT, Int.reduceLE, Nat.reduceAdd, Nat.reduceLeDiff, Nat.reduceLT, Int.reduceToNat, r_for1, r_forL, r_forT, r_lcL, r_lc1, r_yes, r_gtupD, wipe_0, wipe_1, List.cons_append, List.nil_append, r_forS, r_ipI, ite_false, ite_true, Bool.not_true, Bool.not_false, decide_true, decide_false, r_isd, r_islt, cD_ty, cD_ref, tD_non, tD_bl, tD_int, tD_str, tD_ref, tH_lst, tH_tup, tH_dK, tH_ins, ki_self, ki_int_bool, ki_non_int, ki_str_int, ki_lt_lst, ki_lt_tup, r_fld, r_sfld, HO.ins.injEq, cx_K, r_dnew]
    refine ⟨szl (by decide), fun F' hF' U hU => ?_⟩
    have s1 := Same.new' (o := .lst []) (Same.refl H) hF'
    have e1 : L2.upd H F' (.lst []) F' = some (.lst []) := upd_same
    generalize L2.upd H F' (.lst []) = H1 at *
    have s2 := Same.new' (o := .dK []) (Same.refl H1) hU
    have e2 : L2.upd H1 U (.dK []) U = some (.dK (uK [])) := upd_same
    generalize L2.upd H1 U (.dK []) = H2 at *
    refine ⟨szl (by decide), fun q hq => ?_⟩
    have s3 := Same.new' (o := .tup [.str "", .bl true, .int 0, .ref NH]) (Same.refl H2) hq
    have s3 : Same H2 (L2.upd H2 q (.tup [.str (Str.ofString ""), .bl true, .int 0, .ref NH])) := s3
    have e3 := s3 _ _ (s2 _ _ e1)
    have e4 := s3 _ _ e2
    generalize L2.upd H2 q (.tup [.str (Str.ofString ""), .bl true, .int 0, .ref NH]) = H3 at *
    have s03 : Same H H3 := fun b o e => s3 _ _ (s2 _ _ (s1 _ _ e))
    obtain ⟨kvs, eT, _⟩ := id hT
    have n1 : T0 ≠ F' := fun z => by rw [z, hF'] at eT; cases eT
    have n2 : T0 ≠ U := fun z => by have := s1 _ _ eT; rw [z, hU] at this; cases this
    have n3 : F' ≠ U := fun z => by rw [z, hU] at e1; cases e1
    have tT3 : TdA NH H3 T0 t := hT.imp (by rw [s03 _ _ eT, eT]) fun b ys e => s03 _ _ e
    obtain ⟨refs, sF, pF⟩ := hF.same s03
    have lp := Paired.length pF
    obtain ⟨o, eo⟩ := sq_some sF
    have notF : F ≠ T0 ∧ F ≠ F' ∧ F ≠ U := by
      obtain ⟨oF, eoF⟩ : ∃ o, H F = some o := by obtain ⟨_, q, _⟩ := hF; exact sq_some q
      refine ⟨fun z => ?_, fun z => ?_, fun z => ?_⟩
      · obtain ⟨_, q, _⟩ := hF
        rw [z, eT] at q
        cases q
      · rw [z, hF'] at eoF; cases eoF
      · have := s1 _ _ eoF
        rw [z, hU] at this; cases this
    refine lp_seq sF (LvW5 NH F T0 F' U xs t H3) ⟨.ref NH, none, none, none, none, none, rfl, fun _ _ _ _ _ e => e, ⟨[], e3, .nil⟩, e4, tT3, rfl⟩ (fun i σ H' ⟨_, _, _, _, _, _, _, q, _⟩ => by rw [eo, q _ _ notF.1 notF.2.1 notF.2.2 eo]) ?_ ?_
    · rintro i y σ H4 hy ⟨gv, u8, u9, u10, u11, u12, rfl, k4, rF, eU, tT, hg⟩
      rw [List.getElem?_map] at hy
      obtain ⟨r, hr1, rfl⟩ := Option.map_eq_some_iff.mp hy
      obtain ⟨hi0, e0⟩ := List.getElem?_eq_some_iff.mp hr1
      have hi' : i < xs.length := by rw [← lp]; exact hi0
      have hrt := Paired.at' pF hi0 hi'
      rw [e0] at hrt
      have ht : xs[i]? = some xs[i] := List.getElem?_eq_getElem hi'
      have okx := ok _ (List.getElem_mem hi')
      have pb := og i _ ht
      have gl := go5_len t xs i (by omega)
      have sn := go5_snoc (t := t) ht
      have fin : ∀ {gv : V} {v8 v9 v10 v11 v12 : Option V} {H' : Hp}, Kp3 T0 F' U H3 H' → Rs5 H' F' (step5 (goTo5 t (xs.take i)) xs[i]).f → H' U = some (.dK (uK (step5 (goTo5 t (xs.take i)) xs[i]).u)) → TdA NH H' T0 (step5 (goTo5 t (xs.take i)) xs[i]).t → GdV NH H' gv (step5 (goTo5 t (xs.take i)) xs[i]).g → LvW5 NH F T0 F' U xs t H3 (i + 1) [some (.ref F), some (.ref T0), some (.ref F'), some (.ref U), some (.str (step5 (goTo5 t (xs.take i)) xs[i]).ah), some (.bl (step5 (goTo5 t (xs.take i)) xs[i]).live), some (.int (step5 (goTo5 t (xs.take i)) xs[i]).dep), some gv, v8, v9, v10, v11, v12] H' := fun {gv v8 v9 v10 v11 v12 H'} a b c d e => ⟨gv, v8, v9, v10, v11, v12, by rw [sn], a, by rw [sn]; exact b, by rw [sn]; exact c, by rw [sn]; exact d, by rw [sn]; exact e⟩
      generalize xs[i] = x at *
      generalize goTo5 t (xs.take i) = g at *
      have tk : H4 r = some (.tup (v3 x)) := k4 _ _ (fun z => by rw [z, s03 _ _ eT] at hrt; cases hrt) (fun z => by rw [z, e3] at hrt; cases hrt) (fun z => by rw [z, e4] at hrt; cases hrt) hrt
      rw [r_gtupD]
      refine ⟨r, _, rfl, tk, rfl, ?_⟩
      unfold v3
      simp only [r_seq, r_next, r_brk, r_cont, r_asg, r_name, r_ret, r_retN, r_drop, r_ifs, r_never, r_var, r_c, r_op, r_un, r_if, r_tst, r_b, r_not, r_and, r_or, r_andV, r_orV, r_notV, r_nil, r_cons, r_tup, r_lst, r_cb, r_call, r_bm, r_bm0, r_sl, r_nopart, r_part, r_rev, r_gnil, r_gcons, r_gsub, r_par, r_aug, r_chain, r_I0, r_I, r_U, r_ixd, r_lend, r_tupd, r_listd, r_sld, r_app, r_ext, r_reverse, r_setl, r_cat, r_int1, r_eqS, r_neS, scal_ii, scal_bb, scal_ss, at0, at1, at2, sq_lst, sq_tup, isLst_lst, List.getElem?_cons_zero, List.getElem?_cons_succ, List.set_cons_zero, List.set_cons_succ, V.int.injEq, V.bl.injEq, V.ref.injEq, V.str.injEq, HO.lst.injEq, HO.tup.injEq, Option.some.injEq, exists_eq_left', exists_eq_left, List.cons.injEq, and_true, true_and, decide_eq_true_eq, reduceCtorEq, false_and, exists_false, or_false, false_or, exists_const, and_assoc, exists_and_left, List.append_nil, ix0, ix1, ix2, cm_mod, cdw1009, cdw2003, cdw7, cdw64, cdw2, cm104729, cm2, cm3, upd_same, List.length_cons, List.length_nil, Int.reduceLT, Int.reduceLE, Nat.reduceAdd, Nat.reduceLeDiff, Nat.reduceLT, Int.reduceToNat, r_for1, r_forL, r_forT, r_lcL, r_lc1, r_yes, r_gtupD, wipe_0, wipe_1, List.cons_append, List.nil_append, r_forS, r_ipI, ite_false, ite_true, Bool.not_true, Bool.not_false, decide_true, decide_false, r_isd, r_islt, cD_ty, cD_ref, tD_non, tD_bl, tD_int, tD_str, tD_ref, tH_lst, tH_tup, tH_dK, tH_ins, ki_self, ki_int_bool, ki_non_int, ki_str_int, ki_lt_lst, ki_lt_tup, r_fld, r_sfld, HO.ins.injEq, cx_K]
      show t_rwb K w NH DE DO D1 D2 D3 _ (Sg F T0 F' U g.ah g.live g.dep gv x.w x.a x.l u11 u12) H4
      obtain ⟨l1, l2, l3⟩ := gl
      refine rwb5_run kn TO TE TT TL TV okx pb rF eU tT hg (by omega) (by omega) (by omega) n1 n2 n3 fun gv' av v11 v12 H5 k5 r5 u5 t5 g5 => ?_
      exact fin (fun b o a1 a2 a3 e => k5 _ _ a1 a2 a3 (k4 _ _ a1 a2 a3 e)) r5 u5 t5 g5
    · rintro σ H4 ⟨gv, u8, u9, u10, u11, u12, rfl, k4, rF, eU, tT, hg⟩
      rw [List.length_map, lp, List.take_length] at rF eU tT
      simp only [r_seq, r_next, r_brk, r_cont, r_asg, r_name, r_ret, r_retN, r_drop, r_ifs, r_never, r_var, r_c, r_op, r_un, r_if, r_tst, r_b, r_not, r_and, r_or, r_andV, r_orV, r_notV, r_nil, r_cons, r_tup, r_lst, r_cb, r_call, r_bm, r_bm0, r_sl, r_nopart, r_part, r_rev, r_gnil, r_gcons, r_gsub, r_par, r_aug, r_chain, r_I0, r_I, r_U, r_ixd, r_lend, r_tupd, r_listd, r_sld, r_app, r_ext, r_reverse, r_setl, r_cat, r_int1, r_eqS, r_neS, scal_ii, scal_bb, scal_ss, at0, at1, at2, sq_lst, sq_tup, isLst_lst, List.getElem?_cons_zero, List.getElem?_cons_succ, List.set_cons_zero, List.set_cons_succ, V.int.injEq, V.bl.injEq, V.ref.injEq, V.str.injEq, HO.lst.injEq, HO.tup.injEq, Option.some.injEq, exists_eq_left', exists_eq_left, List.cons.injEq, and_true, true_and, decide_eq_true_eq, reduceCtorEq, false_and, exists_false, or_false, false_or, exists_const, and_assoc, exists_and_left, List.append_nil, ix0, ix1, ix2, cm_mod, cdw1009, cdw2003, cdw7, cdw64, cdw2, cm104729, cm2, cm3, upd_same, List.length_cons, List.length_nil, Int.reduceLT, Int.reduceLE, Nat.reduceAdd, Nat.reduceLeDiff, Nat.reduceLT, Int.reduceToNat, r_for1, r_forL, r_forT, r_lcL, r_lc1, r_yes, r_gtupD, wipe_0, wipe_1, List.cons_append, List.nil_append, r_forS, r_ipI, ite_false, ite_true, Bool.not_true, Bool.not_false, decide_true, decide_false, r_isd, r_islt, cD_ty, cD_ref, tD_non, tD_bl, tD_int, tD_str, tD_ref, tH_lst, tH_tup, tH_dK, tH_ins, ki_self, ki_int_bool, ki_non_int, ki_str_int, ki_lt_lst, ki_lt_tup, r_fld, r_sfld, HO.ins.injEq, cx_K]
      refine ⟨szl (by decide), fun p hp => ?_⟩
      have s5 := Same.new' (o := .tup [.ref F', .ref U]) (Same.refl H4) hp
      refine k p F' U _ (fun b o nT e => s5 _ _ (k4 _ _ nT (fun z => by rw [z, hF'] at e; cases e) (fun z => by have := s1 _ _ e; rw [z, hU] at this; cases this) (s03 _ _ e))) hF' ?_ upd_same ?_ (s5 _ _ eU) (tT.imp ?_ fun b ys e => s5 _ _ e)
      · cases q : H U with
        | none => rfl
        | some o => have := s1 _ _ q; rw [hU] at this; cases this
      · obtain ⟨r1, q1, q2⟩ := rF
        exact ⟨r1, s5 _ _ q1, Paired.map' q2 fun b y e => e.imp fun b ys e => s5 _ _ e⟩
      · obtain ⟨kv, e, _⟩ := tT
        rw [s5 _ _ e, e]
end
end C31

set_option maxHeartbeats 2000000
namespace C31
open PySem PySem.Spec PyProof.Rows L2
/-! ### rows that are reached, with handlers -/
def TdD (H : Hp) (T : Addr) (t : List Int) : Prop := ∃ kvs : List (Key × V), H T = some (.dK kvs) ∧ kvs.length ≤ t.length ∧ ∀ n : Int, (valV kvs (Sum.inl n : Key)).isSome = decide (n ∈ t)
theorem TdD.get {H : Hp} {T : Addr} {t : List Int} (h : TdD H T t) (n : Int) : ∃ o, DGet H T (.int n) o ∧ o.isSome = decide (n ∈ t) := by
  obtain ⟨kvs, e, _, k⟩ := h
  exact ⟨_, DGet.k (k := (Sum.inl n : Key)) e, k n⟩
theorem TdD.imp {H H' : Hp} {T : Addr} {t : List Int} (h : TdD H T t) (e : H' T = H T) : TdD H' T t := let ⟨kvs, q, l, k⟩ := h; ⟨kvs, by rw [e]; exact q, l, k⟩
theorem has_map {t : List Td} {n : Int} : hasT t n = decide (n ∈ t.map (·.n)) := by
  unfold hasT
  induction t with
  | nil => rfl
  | cons p r ih =>
    rw [List.any_cons, ih, List.map_cons]
    by_cases c : p.n = n
    · simp [c]
    · have c' : ¬ n = p.n := fun e => c e.symm
      simp [c, c']
theorem TdA.td {NH : Addr} {H : Hp} {T : Addr} {t : List Td} (h : TdA NH H T t) : TdD H T (t.map (·.n)) := by
  obtain ⟨kvs, e, l, k⟩ := h
  refine ⟨kvs, e, by rw [List.length_map]; exact l, fun n => ?_⟩
  rw [← has_map, has_find]
  have := k n
  cases q : t.find? (fun p => decide (p.n = n)) with
  | none => rw [q] at this; rw [this]; rfl
  | some p => rw [q] at this; obtain ⟨v, e, _⟩ := this; rw [e]; rfl
theorem r_callA {i : Nat} {S : Addr → Option Sp} {t : TA} {σ : L2.St} {H : Hp} {Q : VK} : tCallA i S t σ H Q = ∃ f sp, σ[i]? = some (some (.ref f)) ∧ S f = some sp ∧ t σ H fun vs H1 => sp vs H1 Q (fun _ _ _ => False) := rfl
theorem r_lock {t : TE} {σ : L2.St} {H : Hp} {Q : VK} : tLockE t σ H Q = ∃ d u, H d = some u ∧ Mut (some u) ∧ ∀ od, t σ (upd H d (.frz od u)) fun v H' => H' d = some (.frz od u) ∧ Q v (upd H' d u) := rfl
theorem r_lcI {td : TE} {g : TG} {tt : TT} {te : TE} {vs : List Nat} {σ : L2.St} {H : Hp} {Q : VK} : tLc (iItems td) g tt te vs σ H Q = td σ H (fun x H1 => ∃ d o kvs, x = .ref d ∧ H1 d = some (.frz o (.dK kvs)) ∧ ∀ D, H1 D = none → CompR (Iti d o kvs) g tt te vs σ Q D (L2.upd H1 D (.lst []))) := rfl
theorem r_lcK {td : TE} {g : TG} {tt : TT} {te : TE} {vs : List Nat} {σ : L2.St} {H : Hp} {Q : VK} : tLc (iKeys td) g tt te vs σ H Q = td σ H (fun x H1 => ∃ d o, x = .ref d ∧ ((∃ kvs, H1 d = some (.frz o (.dK kvs)) ∧ ∀ D, H1 D = none → CompR (Itk d o kvs) g tt te vs σ Q D (L2.upd H1 D (.lst []))) ∨ ∃ kvs, H1 d = some (.frz o (.dT kvs)) ∧ ∀ D, H1 D = none → CompR (Itkt d o kvs) g tt te vs σ Q D (L2.upd H1 D (.lst [])))) := rfl
def keepR5 (t : List Int) (r : R5) : Bool := !decide (r.w = "LABEL") || decide (labI r.a ∈ t)
def t_any : TE := tLockE (tLc (iItems (tVar 4)) (gTupD 2 (gCons (gName 6) (gCons (gName 7) gNil))) tYes (tAndV (tDIn (tVar 6) (tVar 2)) (tNotV (tVar 7))) (List.map (fun x => x.snd) [(Str.ofString "label", 6), (Str.ofString "live", 7)]))
def t_all : TE := tLockE (tLc (iKeys (tVar 4)) (gName 6) tYes (tDIn (tVar 6) (tVar 2)) (List.map (fun x => x.snd) [(Str.ofString "label", 6)]))
def t_rr1 : TS := tAsg tDNewK (gName 2)
def t_rr2 (S : Addr → Option Sp) : TS := tAsg (tCallA 1 S (tCons (tVar 0) (tCons (tVar 2) tNil))) (gTupD 2 (gCons (gName 3) (gCons (gName 4) gNil)))
def t_rr3 (K : PySem.W.Frag) (S : Addr → Option Sp) : TS := tWhile (tB (tCB (rAny K) (tCons t_any tNil))) (tAsg (tCallA 1 S (tCons (tVar 0) (tCons (tVar 2) tNil))) (gTupD 2 (gCons (gName 3) (gCons (gName 4) gNil))))
def t_rr4 (K : PySem.W.Frag) : TS := tIfS (tB (tCB (rAll K) (tCons t_all tNil))) (tRet (tVar 3)) tNext
def t_rr5 (K : PySem.W.Frag) : TS := tRet (tLc (iList K (tVar 3)) (gName 5) (tOr (tTest (tOp rNe (tOp rIxd (tVar 5) (tC (V.int 0))) (tC (V.str (Str.ofString "LABEL"))))) (tB (tDIn (tOp rIxd (tVar 5) (tC (V.int 1))) (tVar 2)))) (tVar 5) (List.map (fun x => x.snd) [(Str.ofString "row", 5)]))
def t_rr (K : PySem.W.Frag) (S : Addr → Option Sp) : TS := tSeq t_rr1 (tSeq (t_rr2 S) (tSeq (t_rr3 K S) (tSeq (t_rr4 K) (t_rr5 K))))
abbrev S9 (F G T F' U : Addr) (v5 v6 v7 : Option V) : L2.St := [some (.ref F), some (.ref G), some (.ref T), some (.ref F'), some (.ref U), v5, v6, v7]
section
variable {K : PySem.W.Frag} {F G T F' U : Addr} {v5 v6 v7 : Option V} {H : Hp} {u : List (Int × Bool)} {t : List Int}
theorem any_run {Q : VK} (TU : T ≠ U) (eU : H U = some (.dK (uK u))) (hT : TdD H T t) (lu : u.length ≤ 60000) (k : ∀ B H', Same H H' → H' B = some (.lst ((u.map fun p => decide (p.1 ∈ t) && !p.2).map V.bl)) → Q (.ref B) H') : t_any (S9 F G T F' U v5 v6 v7) H Q := by
  unfold t_any
  rw [r_lock]
  refine ⟨U, _, eU, trivial, fun od => ?_⟩
  have es : L2.upd H U (.frz od (.dK (uK u))) U = some (.frz od (.dK (uK u))) := upd_same
  have keep : ∀ b o, b ≠ U → H b = some o → L2.upd H U (.frz od (.dK (uK u))) b = some o := fun b o n e => by rw [upd_ne n]; exact e
  have fr : ∀ b, b ≠ U → L2.upd H U (.frz od (.dK (uK u))) b = none → H b = none := fun b n e => by rwa [upd_ne n] at e
  have hT1 : TdD (L2.upd H U (.frz od (.dK (uK u)))) T t := hT.imp (upd_ne TU)
  generalize L2.upd H U (.frz od (.dK (uK u))) = G1 at *
  rw [r_lcI]
  refine ⟨_, rfl, U, od, uK u, rfl, es, fun B hB => ?_⟩
  have BU : B ≠ U := fun z => by rw [z, es] at hB; cases hB
  have hB0 := fr B BU hB
  have TB : T ≠ B := fun z => by obtain ⟨kv, e, _⟩ := hT1; rw [z, hB] at e; cases e
  have ul : (uK u).length = u.length := by unfold uK; rw [List.length_map]
  refine ⟨fun i m H' => i + m = u.length ∧ (∀ b o, b ≠ B → G1 b = some o → H' b = some o) ∧ H' B = some (.lst (((u.take i).map fun p => decide (p.1 ∈ t) && !p.2).map V.bl)), ⟨u.length, by omega, fun b o n e => by rw [upd_ne n]; exact e, by rw [upd_same]; rfl⟩, ?_⟩
  rintro i m H1 ⟨em, k1, eB⟩
  have es1 := k1 _ _ BU.symm es
  by_cases c : i < u.length
  · refine .inr ⟨⟨es1, by rw [ul]; exact c⟩, fun H2 => (∀ b o, b ≠ B → G1 b = some o → H2 b = some o) ∧ H2 B = some (.lst (((u.take (i + 1)).map fun p => decide (p.1 ∈ t) && !p.2).map V.bl)), fun H2 q => ⟨m - 1, by omega, by omega, q⟩, ?_⟩
    rintro x H2 ⟨T', kk, v, hk, rfl, hT', rfl⟩
    have ht : u[i]? = some u[i] := List.getElem?_eq_getElem c
    obtain ⟨rfl, rfl⟩ : kk = Sum.inl u[i].1 ∧ v = .bl u[i].2 := by
      unfold uK at hk
      rw [List.getElem?_map, ht] at hk
      cases hk
      exact ⟨rfl, rfl⟩
    have tk : u.take (i + 1) = u.take i ++ [u[i]] := by rw [List.take_add_one, ht]; rfl
    rw [tk, List.map_append, List.map_append]
    have lt : (((u.take i).map fun p => decide (p.1 ∈ t) && !p.2).map V.bl).length ≤ 60000 := by rw [List.length_map, List.length_map, List.length_take]; omega
    generalize u[i] = p at *
    have eT : L2.upd H1 T' (.tup [kV (Sum.inl p.1), .bl p.2]) T' = some (.tup [.int p.1, .bl p.2]) := upd_same
    have k2 : ∀ b o, b ≠ B → G1 b = some o → L2.upd H1 T' (.tup [kV (Sum.inl p.1), .bl p.2]) b = some o := fun b o n e => by
      have := k1 _ _ n e
      rw [upd_ne (ne_new this hT')]
      exact this
    have eB2 : L2.upd H1 T' (.tup [kV (Sum.inl p.1), .bl p.2]) B = some (.lst (((u.take i).map fun p => decide (p.1 ∈ t) && !p.2).map V.bl)) := by rw [upd_ne (ne_new eB hT')]; exact eB
    generalize L2.upd H1 T' (.tup [kV (Sum.inl p.1), .bl p.2]) = H2 at *
    show gTupD 2 _ (.ref T') (S9 F G T F' U v5 none none) H2 _
    obtain ⟨kvs, eTd, _, mT⟩ := id hT1
    have eTd2 := k2 _ _ TB eTd
    have dg := DGet.k (k := (Sum.inl p.1 : Key)) eTd2
    unfold S9
    simp only [r_seq, r_next, r_brk, r_cont, r_asg, r_name, r_ret, r_retN, r_drop, r_ifs, r_never, r_var, r_c, r_op, r_un, r_if, r_tst, r_b, r_not, r_and, r_or, r_andV, r_orV, r_notV, r_nil, r_cons, r_tup, r_lst, r_cb, r_call, r_bm, r_bm0, r_sl, r_nopart, r_part, r_rev, r_gnil, r_gcons, r_gsub, r_par, r_aug, r_chain, r_I0, r_I, r_U, r_ixd, r_lend, r_tupd, r_listd, r_sld, r_app, r_ext, r_reverse, r_setl, r_cat, r_int1, r_eqS, r_neS, scal_ii, scal_bb, scal_ss, at0, at1, at2, sq_lst, sq_tup, isLst_lst, List.getElem?_cons_zero, List.getElem?_cons_succ, List.set_cons_zero, List.set_cons_succ, V.int.injEq, V.bl.injEq, V.ref.injEq, V.str.injEq, HO.lst.injEq, HO.tup.injEq, Option.some.injEq, exists_eq_left', exists_eq_left, List.cons.injEq, and_true, true_and, decide_eq_true_eq, reduceCtorEq, false_and, exists_false, or_false, false_or, exists_const, and_assoc, exists_and_left, List.append_nil, ix0, ix1, ix2, cm_mod, cdw1009, cdw2003, cdw7, cdw64, cdw2, cm104729, cm2, cm3, upd_same, List.length_cons, List.length_nil, Int.reduceLT, Int.reduceLE, Nat.reduceAdd, Nat.reduceLeDiff, Nat.reduceLT, Int.reduceToNat, r_for1, r_forL, r_forT, r_lcL, r_lc1, r_yes, r_gtupD, wipe_0, wipe_1, List.cons_append, List.nil_append, r_forS, r_ipI, ite_false, ite_true, Bool.not_true, Bool.not_false, decide_true, decide_false, r_isd, r_islt, cD_ty, cD_ref, tD_non, tD_bl, tD_int, tD_str, tD_ref, tH_lst, tH_tup, tH_dK, tH_ins, ki_self, ki_int_bool, ki_non_int, ki_str_int, ki_lt_lst, ki_lt_tup, r_fld, r_sfld, HO.ins.injEq, cx_K, eT, r_dinE]
    refine ⟨rfl, _, dg, ?_⟩
    rw [mT]
    have fin : ∀ {q : Bool}, q = (decide (p.1 ∈ t) && !p.2) → ∃ acc, H2 B = some (.lst acc) ∧ acc.length < sizeLine ∧ (∀ b o, b ≠ B → G1 b = some o → L2.upd H2 B (.lst (acc ++ [V.bl q])) b = some o) ∧ acc ++ [V.bl q] = ((u.take i).map fun p => decide (p.1 ∈ t) && !p.2).map V.bl ++ ([p].map fun p => decide (p.1 ∈ t) && !p.2).map V.bl := fun {q} e => ⟨_, eB2, Nat.lt_of_le_of_lt lt (by decide), fun c o n z => by rw [upd_ne n]; exact k2 _ _ n z, by rw [e]; rfl⟩
    by_cases c1 : p.1 ∈ t
    · rw [if_pos (decide_eq_true c1)]
      exact fin (by simp [c1])
    · rw [if_neg (by simp [c1])]
      exact fin (by simp [c1])
  · obtain rfl : i = u.length := by omega
    rw [List.take_length] at eB
    refine .inl ⟨⟨es1, by rw [ul]; exact Nat.le_refl _⟩, es1, k B _ (fun b o e => ?_) (by rw [upd_ne BU]; exact eB)⟩
    by_cases z : b = U
    · rw [z, eU] at e
      cases e
      rw [z, upd_same]
    · rw [upd_ne z]
      exact k1 _ _ (ne_new e hB0) (keep _ _ z e)
theorem all_run {Q : VK} (TU : T ≠ U) (eU : H U = some (.dK (uK u))) (hT : TdD H T t) (lu : u.length ≤ 60000) (k : ∀ B H', Same H H' → H' B = some (.lst ((u.map fun p => decide (p.1 ∈ t)).map V.bl)) → Q (.ref B) H') : t_all (S9 F G T F' U v5 v6 v7) H Q := by
  unfold t_all
  rw [r_lock]
  refine ⟨U, _, eU, trivial, fun od => ?_⟩
  have es : L2.upd H U (.frz od (.dK (uK u))) U = some (.frz od (.dK (uK u))) := upd_same
  have keep : ∀ b o, b ≠ U → H b = some o → L2.upd H U (.frz od (.dK (uK u))) b = some o := fun b o n e => by rw [upd_ne n]; exact e
  have fr : ∀ b, b ≠ U → L2.upd H U (.frz od (.dK (uK u))) b = none → H b = none := fun b n e => by rwa [upd_ne n] at e
  have hT1 : TdD (L2.upd H U (.frz od (.dK (uK u)))) T t := hT.imp (upd_ne TU)
  generalize L2.upd H U (.frz od (.dK (uK u))) = G1 at *
  rw [r_lcK]
  refine ⟨_, rfl, U, od, rfl, .inl ⟨uK u, es, fun B hB => ?_⟩⟩
  have BU : B ≠ U := fun z => by rw [z, es] at hB; cases hB
  have hB0 := fr B BU hB
  have TB : T ≠ B := fun z => by obtain ⟨kv, e, _⟩ := hT1; rw [z, hB] at e; cases e
  have ul : (uK u).length = u.length := by unfold uK; rw [List.length_map]
  refine ⟨fun i m H' => i + m = u.length ∧ (∀ b o, b ≠ B → G1 b = some o → H' b = some o) ∧ H' B = some (.lst (((u.take i).map fun p => decide (p.1 ∈ t)).map V.bl)), ⟨u.length, by omega, fun b o n e => by rw [upd_ne n]; exact e, by rw [upd_same]; rfl⟩, ?_⟩
  rintro i m H1 ⟨em, k1, eB⟩
  have es1 := k1 _ _ BU.symm es
  by_cases c : i < u.length
  · refine .inr ⟨⟨es1, by rw [ul]; exact c⟩, fun H2 => (∀ b o, b ≠ B → G1 b = some o → H2 b = some o) ∧ H2 B = some (.lst (((u.take (i + 1)).map fun p => decide (p.1 ∈ t)).map V.bl)), fun H2 q => ⟨m - 1, by omega, by omega, q⟩, ?_⟩
    rintro x H2 ⟨rfl, kk, v, hk, rfl⟩
    have ht : u[i]? = some u[i] := List.getElem?_eq_getElem c
    obtain ⟨rfl, rfl⟩ : kk = Sum.inl u[i].1 ∧ v = .bl u[i].2 := by
      unfold uK at hk
      rw [List.getElem?_map, ht] at hk
      cases hk
      exact ⟨rfl, rfl⟩
    have tk : u.take (i + 1) = u.take i ++ [u[i]] := by rw [List.take_add_one, ht]; rfl
    rw [tk, List.map_append, List.map_append]
    have lt : (((u.take i).map fun p => decide (p.1 ∈ t)).map V.bl).length ≤ 60000 := by rw [List.length_map, List.length_map, List.length_take]; omega
    generalize u[i] = p at *
    show gName 6 (.int p.1) (S9 F G T F' U v5 none v7) H2 _
    obtain ⟨kvs, eTd, _, mT⟩ := id hT1
    have eTd2 := k1 _ _ TB eTd
    have dg := DGet.k (k := (Sum.inl p.1 : Key)) eTd2
    unfold S9
    simp only [r_seq, r_next, r_brk, r_cont, r_asg, r_name, r_ret, r_retN, r_drop, r_ifs, r_never, r_var, r_c, r_op, r_un, r_if, r_tst, r_b, r_not, r_and, r_or, r_andV, r_orV, r_notV, r_nil, r_cons, r_tup, r_lst, r_cb, r_call, r_bm, r_bm0, r_sl, r_nopart, r_part, r_rev, r_gnil, r_gcons, r_gsub, r_par, r_aug, r_chain, r_I0, r_I, r_U, r_ixd, r_lend, r_tupd, r_listd, r_sld, r_app, r_ext, r_reverse, r_setl, r_cat, r_int1, r_eqS, r_neS, scal_ii, scal_bb, scal_ss, at0, at1, at2, sq_lst, sq_tup, isLst_lst, List.getElem?_cons_zero, List.getElem?_cons_succ, List.set_cons_zero, List.set_cons_succ, V.int.injEq, V.bl.injEq, V.ref.injEq, V.str.injEq, HO.lst.injEq, HO.tup.injEq, Option.some.injEq, exists_eq_left', exists_eq_left, List.cons.injEq, and_true, true_and, decide_eq_true_eq, reduceCtorEq, false_and, exists_false, or_false, false_or, exists_const, and_assoc, exists_and_left, List.append_nil, ix0, ix1, ix2, cm_mod, cdw1009, cdw2003, cdw7, cdw64, cdw2, cm104729, cm2, cm3, upd_same, List.length_cons, List.length_nil, Int.reduceLT, Int.reduceLE, Nat.reduceAdd, Nat.reduceLeDiff, Nat.reduceLT, Int.reduceToNat, r_for1, r_forL, r_forT, r_lcL, r_lc1, r_yes, r_gtupD, wipe_0, wipe_1, List.cons_append, List.nil_append, r_forS, r_ipI, ite_false, ite_true, Bool.not_true, Bool.not_false, decide_true, decide_false, r_isd, r_islt, cD_ty, cD_ref, tD_non, tD_bl, tD_int, tD_str, tD_ref, tH_lst, tH_tup, tH_dK, tH_ins, ki_self, ki_int_bool, ki_non_int, ki_str_int, ki_lt_lst, ki_lt_tup, r_fld, r_sfld, HO.ins.injEq, cx_K, r_dinE]
    refine ⟨rfl, _, dg, _, eB, Nat.lt_of_le_of_lt lt (by decide), fun c o n z => by rw [upd_ne n]; exact k1 _ _ n z, ?_⟩
    rw [mT]
    rfl
  · obtain rfl : i = u.length := by omega
    rw [List.take_length] at eB
    refine .inl ⟨⟨es1, by rw [ul]; exact Nat.le_refl _⟩, es1, k B _ (fun b o e => ?_) (by rw [upd_ne BU]; exact eB)⟩
    by_cases z : b = U
    · rw [z, eU] at e
      cases e
      rw [z, upd_same]
    · rw [upd_ne z]
      exact k1 _ _ (ne_new e hB0) (keep _ _ z e)
theorem rr5_run {K : PySem.W.Frag} {D : Ends} {fs : List R5} (rF : Rs5 H F' fs) (hT : TdD H T t) (lab : ∀ y ∈ fs, y.w = "LABEL" → ∃ n : Int, y.a = .int n) (lf : fs.length ≤ 60000) (k : ∀ B H', Same H H' → Rs5 H' B (fs.filter (keepR5 t)) → D.rt (.ref B) H') : t_rr5 K D (S9 F G T F' U v5 v6 v7) H := by
  obtain ⟨refs, eF, pF⟩ := rF
  have lp := Paired.length pF
  unfold t_rr5 S9
  rw [r_ret, r_lcL]
  simp only [r_seq, r_next, r_brk, r_cont, r_asg, r_name, r_ret, r_retN, r_drop, r_ifs, r_never, r_var, r_c, r_op, r_un, r_if, r_tst, r_b, r_not, r_and, r_or, r_andV, r_orV, r_notV, r_nil, r_cons, r_tup, r_lst, r_cb, r_call, r_bm, r_bm0, r_sl, r_nopart, r_part, r_rev, r_gnil, r_gcons, r_gsub, r_par, r_aug, r_chain, r_I0, r_I, r_U, r_ixd, r_lend, r_tupd, r_listd, r_sld, r_app, r_ext, r_reverse, r_setl, r_cat, r_int1, r_eqS, r_neS, scal_ii, scal_bb, scal_ss, at0, at1, at2, sq_lst, sq_tup, isLst_lst, List.getElem?_cons_zero, List.getElem?_cons_succ, List.set_cons_zero, List.set_cons_succ, V.int.injEq, V.bl.injEq, V.ref.injEq, V.str.injEq, HO.lst.injEq, HO.tup.injEq, Option.some.injEq, exists_eq_left', exists_eq_left, List.cons.injEq, and_true, true_and, decide_eq_true_eq, reduceCtorEq, false_and, exists_false, or_false, false_or, exists_const, and_assoc, exists_and_left, List.append_nil, ix0, ix1, ix2, cm_mod, cdw1009, cdw2003, cdw7, cdw64, cdw2, cm104729, cm2, cm3, upd_same, List.length_cons, List.length_nil, Int.reduceLT, Int.reduceLE, Nat.reduceAdd, Nat.reduceLeDiff, Nat.reduceLT, Int.reduceToNat, r_for1, r_forL, r_forT, r_lcL, r_lc1, r_yes, r_gtupD, wipe_0, wipe_1, List.cons_append, List.nil_append, r_forS, r_ipI, ite_false, ite_true, Bool.not_true, Bool.not_false, decide_true, decide_false, r_isd, r_islt, cD_ty, cD_ref, tD_non, tD_bl, tD_int, tD_str, tD_ref, tH_lst, tH_tup, tH_dK, tH_ins, ki_self, ki_int_bool, ki_non_int, ki_str_int, ki_lt_lst, ki_lt_tup, r_fld, r_sfld, HO.ins.injEq, cx_K]
  refine ⟨⟨_, SqL.of eF⟩, fun B hB => cp_list (xs := refs.map V.ref) (fun i H' => Same H H' ∧ ∃ rs : List Addr, H' B = some (.lst (rs.map V.ref)) ∧ Paired (Row5 H) rs ((fs.take i).filter (keepR5 t))) ⟨Same.new' (Same.refl H) hB, [], upd_same, .nil⟩ (fun i H' _ q => SqL.of (q.1 _ _ eF)) ?_ ?_⟩
  · rintro i y H2 hy ⟨s2, rs, eB, pB⟩
    rw [List.getElem?_map] at hy
    obtain ⟨r, hr1, rfl⟩ := Option.map_eq_some_iff.mp hy
    obtain ⟨hi0, e0⟩ := List.getElem?_eq_some_iff.mp hr1
    have hi' : i < fs.length := by rw [← lp]; exact hi0
    have hrt := Paired.at' pF hi0 hi'
    rw [e0] at hrt
    have ht : fs[i]? = some fs[i] := List.getElem?_eq_getElem hi'
    have tk : fs.take (i + 1) = fs.take i ++ [fs[i]] := by rw [List.take_add_one, ht]; rfl
    have lx := lab _ (List.getElem_mem hi')
    rw [tk, List.filter_append]
    have lr := Paired.length pB
    have lfi := List.length_filter_le (keepR5 t) (fs.take i)
    rw [List.length_take] at lfi
    generalize fs[i] = x at *
    obtain ⟨hv, exx, hhx⟩ := id hrt
    have ex := s2 _ _ exx
    show gName 5 (.ref r) (S9 F G T F' U none v6 v7) H2 _
    unfold S9
    simp only [r_seq, r_next, r_brk, r_cont, r_asg, r_name, r_ret, r_retN, r_drop, r_ifs, r_never, r_var, r_c, r_op, r_un, r_if, r_tst, r_b, r_not, r_and, r_or, r_andV, r_orV, r_notV, r_nil, r_cons, r_tup, r_lst, r_cb, r_call, r_bm, r_bm0, r_sl, r_nopart, r_part, r_rev, r_gnil, r_gcons, r_gsub, r_par, r_aug, r_chain, r_I0, r_I, r_U, r_ixd, r_lend, r_tupd, r_listd, r_sld, r_app, r_ext, r_reverse, r_setl, r_cat, r_int1, r_eqS, r_neS, scal_ii, scal_bb, scal_ss, at0, at1, at2, sq_lst, sq_tup, isLst_lst, List.getElem?_cons_zero, List.getElem?_cons_succ, List.set_cons_zero, List.set_cons_succ, V.int.injEq, V.bl.injEq, V.ref.injEq, V.str.injEq, HO.lst.injEq, HO.tup.injEq, Option.some.injEq, exists_eq_left', exists_eq_left, List.cons.injEq, and_true, true_and, decide_eq_true_eq, reduceCtorEq, false_and, exists_false, or_false, false_or, exists_const, and_assoc, exists_and_left, List.append_nil, ix0, ix1, ix2, cm_mod, cdw1009, cdw2003, cdw7, cdw64, cdw2, cm104729, cm2, cm3, upd_same, List.length_cons, List.length_nil, Int.reduceLT, Int.reduceLE, Nat.reduceAdd, Nat.reduceLeDiff, Nat.reduceLT, Int.reduceToNat, r_for1, r_forL, r_forT, r_lcL, r_lc1, r_yes, r_gtupD, wipe_0, wipe_1, List.cons_append, List.nil_append, r_forS, r_ipI, ite_false, ite_true, Bool.not_true, Bool.not_false, decide_true, decide_false, r_isd, r_islt, cD_ty, cD_ref, tD_non, tD_bl, tD_int, tD_str, tD_ref, tH_lst, tH_tup, tH_dK, tH_ins, ki_self, ki_int_bool, ki_non_int, ki_str_int, ki_lt_lst, ki_lt_tup, r_fld, r_sfld, HO.ins.injEq, cx_K, ex, r_dinE]
    have yes : keepR5 t x = true → ∃ acc, H2 B = some (.lst acc) ∧ acc.length < sizeLine ∧ Same H (L2.upd H2 B (.lst (acc ++ [.ref r]))) ∧ ∃ rs : List Addr, acc ++ [V.ref r] = rs.map V.ref ∧ Paired (Row5 H) rs ((fs.take i).filter (keepR5 t) ++ [x].filter (keepR5 t)) := fun q => by
      refine ⟨_, eB, Nat.lt_of_le_of_lt (by rw [List.length_map]; omega : _ ≤ 60000) (by decide), fun b o e => by rw [upd_ne (ne_new e hB)]; exact s2 _ _ e, rs ++ [r], by rw [List.map_append]; rfl, ?_⟩
      rw [List.filter_cons_of_pos q]
      exact Paired.snoc' pB hrt
    refine ⟨rfl, ?_⟩
    by_cases c : x.w = "LABEL"
    · obtain ⟨n, en⟩ := lx c
      rw [if_neg (by simp [c])]
      obtain ⟨o, dg, os⟩ := (hT.imp (H' := H2) (by obtain ⟨kv, e, _⟩ := hT; rw [s2 _ _ e, e])).get n
      refine ⟨o, by rw [en]; exact dg, ?_⟩
      rw [os]
      have kx : keepR5 t x = decide (n ∈ t) := by
        unfold keepR5
        rw [decide_eq_true c, en]
        rfl
      by_cases d : n ∈ t
      · rw [if_pos (decide_eq_true d)]
        exact yes (by rw [kx]; exact decide_eq_true d)
      · rw [if_neg (by simp [d])]
        rw [List.filter_cons_of_neg (by rw [kx]; simp [d]), List.filter_nil, List.append_nil]
        exact ⟨s2, rs, eB, pB⟩
    · rw [if_pos (by simp [c])]
      exact yes (by unfold keepR5; simp [c])
  · rintro H2 ⟨s2, rs, eB, pB⟩
    rw [List.length_map, lp, List.take_length] at pB
    exact k B H2 s2 ⟨rs, eB, Paired.map' pB fun r x e => e.imp fun b ys e => s2 _ _ e⟩
end
end C31

set_option maxHeartbeats 2000000
namespace C31
open PySem PySem.Spec PyProof.Rows L2
def told5 (g : G5) : List Int := g.t.map (·.n)
def again5 (g : G5) : Bool := g.u.any fun p => decide (p.1 ∈ told5 g) && !p.2
def endGo5 (g : G5) : List R5 := if (g.u.all fun p => decide (p.1 ∈ told5 g)) = true then g.f else g.f.filter (keepR5 (told5 g))
theorem go5_lab {t : List Td} {xs : List R3} (ok : ∀ x ∈ xs, Ok5 x) : ∀ y ∈ (goTo5 t xs).f, y.w = "LABEL" → ∃ n : Int, y.a = .int n := by
  have : ∀ (xs : List R3) (g : G5), (∀ x ∈ xs, Ok5 x) → (∀ y ∈ g.f, y.w = "LABEL" → ∃ n : Int, y.a = .int n) → ∀ y ∈ (xs.foldl step5 g).f, y.w = "LABEL" → ∃ n : Int, y.a = .int n := fun xs => by
    induction xs with
    | nil => exact fun g _ h => h
    | cons x xs ih =>
      intro g ok h
      refine ih _ (fun y hy => ok y (List.mem_cons_of_mem _ hy)) fun y hy hw => ?_
      have okx := ok x List.mem_cons_self
      unfold step5 at hy
      split at hy
      · rename_i c
        obtain ⟨n, en⟩ := okx.lab c
        have e : (labStep g x).f = g.f ++ [⟨x.w, x.a, none, none⟩] := by
          unfold labStep
          split
          · rfl
          · split <;> rfl
        rw [e] at hy
        rcases List.mem_append.mp hy with q | q
        · exact h y q hw
        · rw [List.mem_singleton.mp q]
          exact ⟨n, en⟩
      · rename_i c
        split at hy
        · split at hy
          · have hy : y ∈ g.f ++ opRows x g.g := hy
            rcases List.mem_append.mp hy with q | q
            · exact h y q hw
            · unfold opRows at q
              split at q
              · cases q
              · rw [List.mem_singleton.mp q] at hw
                exact absurd hw (by show ¬ ("NOP" : Str) = "LABEL"; decide)
          · have hy : y ∈ g.f ++ [⟨x.w, argR g x, x.l, g.g.hd⟩] := hy
            rcases List.mem_append.mp hy with q | q
            · exact h y q hw
            · rw [List.mem_singleton.mp q] at hw
              exact absurd hw c
        · exact h y hy hw
  exact this xs _ ok fun _ z => nomatch z
def spRR5 (NH : Addr) (S : Addr → Option Sp) : Sp := fun vs H Q _ => ∃ (F G : Addr) (xs : List R3), vs = [.ref F, .ref G] ∧ S G = some (spRW5 NH) ∧ Rs3 H F xs ∧ (∀ x ∈ xs, Ok5 x) ∧ OkGo [] xs ∧ xs.length ≤ 20000 ∧ again5 (goTo5 [] xs) = false ∧ ∀ B H', Same H H' → Rs5 H' B (endGo5 (goTo5 [] xs)) → Q (.ref B) H'
section
variable {P : Program} {w : World} {K : PySem.W.Frag} {mg : Str → Option Value} {base : Heap} {f : Addr} {fd : FuncData}
abbrev srr : Stmt := top 26
theorem scrr : FnScope ["rows", "go_through", "told", "found", "unknown", "row", "label", "live"] ["rows", "go_through"] (defScope srr) := ⟨rfl, rfl, rfl, by decide +kernel, rfl, by decide +kernel, by decide +kernel⟩

theorem ok_rr {NH : Addr} {S : Addr → Option Sp} (T : Txt mg) (hS : ∀ f sp, S f = some sp → Held P w K mg base 3 f sp) (F : FnP K "reached_rows" "reached_rows" srr f fd) : FnOk P w K mg base CX0 4 f fd ["rows", "go_through"] (spRR5 NH S) := by
  refine F.ok scrr (fun vs H Q E h => ?_) (fun cdv A outer s H vs Q E hr h => ?_)
  · obtain ⟨F, G, xs, rfl, _⟩ := h
    rfl
  · have hu1 := hu_of hr
    refine ⟨t_rr K S, PSs.nox (show PSs _ _ (t_rr K S) from (pss_cons (ps_set (i := 2) scrr.nd rfl (Or.inr rfl) pe_dnewK)
  (pss_cons (ps_asg (pe_callA hS (hr.mono (by decide)) (i := 1) rfl (Or.inl rfl) (pa_cons (pv 0) (pa_cons (pv 2) pa_nil))) (pg_tupD (n := 2) rfl (pgs_cons (pg_name (i := 3) scrr.nd rfl (Or.inl rfl)) (pgs_cons (pg_name (i := 4) scrr.nd rfl (Or.inl rfl)) pgs_nil))))
  (pss_cons (ps_while PassesOwn.never (pt_val (pe_callB (cr_any rfl) (by rfl) T.b_any (by decide +kernel) (pa_cons (pe_lock (pe_lc (own := [("label", 6), ("live", 7)]) (tt := tYes) rfl scrr.nd (pi_items (pv 4)) (blkOk_by (own := [("label", 6), ("live", 7)]) (N := ["rows", "go_through", "told", "found", "unknown", "row", "label", "live"]) (sc := defScope srr) (by decide +kernel)) (fun _ _ _ _ _ => (pg_tupD (n := 2) rfl (pgs_cons (pg_name (i := 6) scrr.nd rfl (Or.inl rfl)) (pgs_cons (pg_name (i := 7) scrr.nd rfl (Or.inl rfl)) pgs_nil)))) (fun _ _ _ _ _ => pts_nil) (fun _ _ _ _ _ => (pe_and (pe_cmp (pc_din hu1 (pv 6) (pv 2))) (pe_one (pe_not (pv 7))))))) pa_nil)))
    (pss_one (ps_asg (pe_callA hS (hr.mono (by decide)) (i := 1) rfl (Or.inl rfl) (pa_cons (pv 0) (pa_cons (pv 2) pa_nil))) (pg_tupD (n := 2) rfl (pgs_cons (pg_name (i := 3) scrr.nd rfl (Or.inl rfl)) (pgs_cons (pg_name (i := 4) scrr.nd rfl (Or.inl rfl)) pgs_nil))))))
  (pss_cons (ps_if (pt_val (pe_callB (cr_all rfl) (by rfl) T.b_all (by decide +kernel) (pa_cons (pe_lock (pe_lc (own := [("label", 6)]) (g := gName 6) (tt := tYes) rfl scrr.nd (pi_keys (pv 4)) (blkOk_by (own := [("label", 6)]) (N := ["rows", "go_through", "told", "found", "unknown", "row", "label", "live"]) (sc := defScope srr) (by decide +kernel)) (fun _ _ _ _ _ => (pg_name (i := 6) scrr.nd rfl (Or.inl rfl))) (fun _ _ _ _ _ => pts_nil) (fun _ _ _ _ _ => (pe_cmp (pc_din hu1 (pv 6) (pv 2)))))) pa_nil)))
    (pss_one (ps_ret (pv 3)))
    pss_nil)
  (pss_one (ps_ret (pe_lc (own := [("row", 5)]) (g := gName 5) rfl scrr.nd (pi_list (pv 3)) (blkOk_by (own := [("row", 5)]) (N := ["rows", "go_through", "told", "found", "unknown", "row", "label", "live"]) (sc := defScope srr) (by decide +kernel)) (fun _ _ _ _ _ => (pg_name (i := 5) scrr.nd rfl (Or.inl rfl))) (fun _ _ _ _ _ => (pts_one (PW.pt (pw_or (pt_cmpR op_ne (pe_ix ix_d (pv 5) pe_int (fun _ _ => rfl)) pe_str (nomark _)) (pw_or1 (pt_cmp (pc_din hu1 (pe_ix ix_d (pv 5) pe_int (fun _ _ => rfl)) (pv 2)))))))) (fun _ _ _ _ _ => (pv 5)))))))))), ?_⟩
    obtain ⟨F, G, xs, rfl, hG, hF, ok, og, hl, hg, kQ⟩ := h
    unfold t_rr
    show tSeq t_rr1 _ _ [some (.ref F), some (.ref G), none, none, none, none, none, none] H
    rw [r_seq]
    unfold t_rr1
    rw [r_asg, r_dnew]
    intro T0 hT0
    show tSeq (t_rr2 S) _ _ [some (.ref F), some (.ref G), some (.ref T0), none, none, none, none, none] _
    rw [r_seq]
    unfold t_rr2
    have s1 := Same.new' (o := .dK []) (Same.refl H) hT0
    have tT0 : TdA NH (L2.upd H T0 (.dK [])) T0 [] := ⟨[], upd_same, Nat.le_refl _, fun n => rfl⟩
    generalize L2.upd H T0 (.dK []) = H1 at *
    rw [r_asg, r_callA]
    simp only [r_seq, r_next, r_brk, r_cont, r_asg, r_name, r_ret, r_retN, r_drop, r_ifs, r_never, r_var, r_c, r_op, r_un, r_if, r_tst, r_b, r_not, r_and, r_or, r_andV, r_orV, r_notV, r_nil, r_cons, r_tup, r_lst, r_cb, r_call, r_bm, r_bm0, r_sl, r_nopart, r_part, r_rev, r_gnil, r_gcons, r_gsub, r_par, r_aug, r_chain, r_I0, r_I, r_U, r_ixd, r_lend, r_tupd, r_listd, r_sld, r_app, r_ext, r_reverse, r_setl, r_cat, r_int1, r_eqS, r_neS, scal_ii, scal_bb, scal_ss, at0, at1, at2, sq_lst, sq_tup, isLst_lst, List.getElem?_cons_zero, List.getElem?_cons_succ, List.set_cons_zero, List.set_cons_succ, V.int.injEq, V.bl.injEq, V.ref.injEq, V.str.injEq, HO.lst.injEq, HO.tup.injEq, Option.some.injEq, exists_eq_left', exists_eq_left, List.cons.injEq, and_true, true_and, decide_eq_true_eq, reduceCtorEq, false_and, exists_false, or_false, false_or, exists_const, and_assoc, exists_and_left, List.append_nil, ix0, ix1, ix2, cm_mod, cdw1009, cdw2003, cdw7, cdw64, cdw2, cm104729, cm2, cm3, upd_same, List.length_cons, List.length_nil, Int.reduceLT, Int.reduceLE, Nat.reduceAdd, Nat.reduceLeDiff, Nat.reduceLT, Int.reduceToNat, r_for1, r_forL, r_forT, r_lcL, r_lc1, r_yes, r_gtupD, wipe_0, wipe_1, List.cons_append, List.nil_append, r_forS, r_ipI, ite_false, ite_true, Bool.not_true, Bool.not_false, decide_true, decide_false, r_isd, r_islt, cD_ty, cD_ref, tD_non, tD_bl, tD_int, tD_str, tD_ref, tH_lst, tH_tup, tH_dK, tH_ins, ki_self, ki_int_bool, ki_non_int, ki_str_int, ki_lt_lst, ki_lt_tup, r_fld, r_sfld, HO.ins.injEq, cx_K]
    refine ⟨spRW5 NH, hG, F, T0, xs, [], rfl, hF.same s1, ok, og, hl, tT0, Nat.zero_le _, fun p F' U H2 k2 f1 f2 ep rF eU tT => ?_⟩
    refine ⟨p, rfl, _, ep, rfl, _, _, rfl, _, _, rfl, rfl, ?_⟩
    have s2 : Same H H2 := fun b o e => k2 _ _ (fun z => by rw [z, hT0] at e; cases e) (s1 _ _ e)
    obtain ⟨kv0, eT0, _⟩ := id tT0
    have nU : T0 ≠ U := fun z => by rw [← z, eT0] at f2; cases f2
    have gl := go5_len [] xs xs.length (Nat.le_refl _)
    have lab := go5_lab (t := []) ok
    rw [List.take_length] at gl
    obtain ⟨l1, l2, l3⟩ := gl
    generalize goTo5 [] xs = g at *
    show tSeq (t_rr3 K S) _ _ (S9 F G T0 F' U none none none) H2
    rw [r_seq]
    unfold t_rr3
    refine ⟨fun m σ H' => m = 0 ∧ σ = S9 F G T0 F' U none none none ∧ H' = H2, ⟨0, rfl, rfl, rfl⟩, ?_⟩
    rintro m σ H3 ⟨rfl, rfl, rfl⟩
    rw [r_b, r_cb, r_cons]
    refine any_run nU eU tT.td (by omega) fun B H4 s4 eB => ?_
    refine ⟨B, _, rfl, SqL.of eB, _, rfl, ?_⟩
    have ea : (g.u.map fun p => decide (p.1 ∈ told5 g) && !p.2).any id = again5 g := by
      unfold again5
      rw [List.any_map]
      rfl
    rw [show (g.t.map (·.n)) = told5 g from rfl, ea, hg, if_neg (by decide)]
    have s34 : Same H H4 := fun b o e => s4 _ _ (s2 _ _ e)
    have tup4 : Tups _ H4 := fun b ys e => s4 _ _ e
    obtain ⟨r1, q1, q2⟩ := rF
    have rF4 : Rs5 H4 F' g.f := ⟨r1, s4 _ _ q1, Paired.map' q2 fun b y e => e.imp tup4⟩
    have eU4 := s4 _ _ eU
    have tT4 : TdD H4 T0 (told5 g) := tT.td.imp (by obtain ⟨kv, e, _⟩ := tT; rw [s4 _ _ e, e])
    unfold t_rr4
    dsimp only
    rw [r_seq, r_ifs, r_b, r_cb, r_cons]
    refine all_run nU eU4 tT4 (by omega) fun B2 H5 s5 eB2 => ?_
    refine ⟨B2, _, rfl, SqL.of eB2, _, rfl, ?_⟩
    have e2 : (g.u.map fun p => decide (p.1 ∈ told5 g)).all id = g.u.all fun p => decide (p.1 ∈ told5 g) := by
      rw [List.all_map]
      rfl
    rw [e2]
    have s35 : Same H H5 := fun b o e => s5 _ _ (s34 _ _ e)
    obtain ⟨r4, q3, q4⟩ := rF4
    have rF5 : Rs5 H5 F' g.f := ⟨r4, s5 _ _ q3, Paired.map' q4 fun b y e => e.imp fun b ys e => s5 _ _ e⟩
    unfold endGo5 at kQ
    by_cases cb : (g.u.all fun p => decide (p.1 ∈ told5 g)) = true
    · rw [if_pos cb] at kQ ⊢
      exact ⟨_, rfl, kQ F' H5 s35 rF5⟩
    · rw [if_neg cb] at kQ ⊢
      show t_rr5 K _ (S9 F G T0 F' U none none none) H5
      exact rr5_run rF5 (tT4.imp (by obtain ⟨kv, e, _⟩ := tT4; rw [s5 _ _ e, e])) lab (by omega) fun B3 H6 s6 rB => kQ B3 H6 (fun b o e => s6 _ _ (s35 _ _ e)) rB
end
end C31

set_option maxHeartbeats 2000000
namespace C31
open PySem PySem.Spec PyProof.Rows L2
def someSetup (f : Str → Bool) : Prop := f "SETUP_FINALLY" = true ∨ f "SETUP_CLEANUP" = true ∨ f "SETUP_WITH" = true
/-- rows with handlers, where something opens one -/
def spWH5 (NH : Addr) : Sp := fun vs H Q _ => ∃ (F W : Addr) (xs : List R3) (f : Str → Bool), vs = [.ref F, .ref W] ∧ WdD H W f ∧ f "LABEL" = true ∧ someSetup f ∧ Rs3 H F xs ∧ (∀ x ∈ xs, Ok5 x) ∧ OkGo [] xs ∧ xs.length ≤ 20000 ∧ again5 (goTo5 [] xs) = false ∧ ∀ B H', Same H H' → Rs5 H' B (endGo5 (goTo5 [] xs)) → Q (.ref B) H'
section
variable {P : Program} {w : World} {K : PySem.W.Frag} {mg : Str → Option Value} {base : Heap} {f : Addr} {fd : FuncData}
abbrev swh : Stmt := top 24
theorem scwh : FnScope ["rows", "words"] ["rows", "words"] (defScope swh) := ⟨rfl, rfl, rfl, by decide +kernel, rfl, by decide +kernel, by decide +kernel⟩

theorem ok_wh {NH : Addr} {S : Addr → Option Sp} {G : Addr} (T : Txt mg) (hG : S G = some (spRW5 NH)) (gG : mg "reached_with" = some (.ref G)) (F : FnP K "with_handlers" "with_handlers" swh f fd) (C_reached_rows : Cal P w K mg base 4 "reached_rows" ["rows", "go_through"] (spRR5 NH S)) : FnOk P w K mg base CX0 5 f fd ["rows", "words"] (spWH5 NH) := by
  refine F.ok scwh (fun vs H Q E h => ?_) (fun cdv A outer s H vs Q E hr h => ?_)
  · obtain ⟨F, W, xs, f, rfl, _⟩ := h
    rfl
  · have hu1 := hu_of hr
    obtain ⟨F, W, xs, fw, rfl, hW, lb, ss, hF, ok, og, hl, ag, k⟩ := h
    refine ⟨_, PSs.nox (pss_cons (ps_if (pt_cmp (pc_dnotin hu1 pe_str (pv 1)))
    (pss_one ps_never)
    pss_nil)
  (pss_cons (ps_if (PW.pt (pw_or (pt_cmp (pc_din hu1 pe_str (pv 1))) (pw_or (pt_cmp (pc_din hu1 pe_str (pv 1))) (pw_or1 (pt_cmp (pc_din hu1 pe_str (pv 1)))))))
    (pss_one (ps_ret (pe_cal C_reached_rows (hr.mono (by decide)) rfl (pa_cons (pv 0) (pa_cons (pe_glob (v := .ref G) rfl gG rfl) pa_nil)))))
    pss_nil)
  (pss_one ps_never))), ?_⟩
    show (_ : TS) _ [some (.ref F), some (.ref W)] H
    simp only [r_seq, r_next, r_brk, r_cont, r_asg, r_name, r_ret, r_retN, r_drop, r_ifs, r_never, r_var, r_c, r_op, r_un, r_if, r_tst, r_b, r_not, r_and, r_or, r_andV, r_orV, r_notV, r_nil, r_cons, r_tup, r_lst, r_cb, r_call, r_bm, r_bm0, r_sl, r_nopart, r_part, r_rev, r_gnil, r_gcons, r_gsub, r_par, r_aug, r_chain, r_I0, r_I, r_U, r_ixd, r_lend, r_tupd, r_listd, r_sld, r_app, r_ext, r_reverse, r_setl, r_cat, r_int1, r_eqS, r_neS, scal_ii, scal_bb, scal_ss, at0, at1, at2, sq_lst, sq_tup, isLst_lst, List.getElem?_cons_zero, List.getElem?_cons_succ, List.set_cons_zero, List.set_cons_succ, V.int.injEq, V.bl.injEq, V.ref.injEq, V.str.injEq, HO.lst.injEq, HO.tup.injEq, Option.some.injEq, exists_eq_left', exists_eq_left, List.cons.injEq, and_true, true_and, decide_eq_true_eq, reduceCtorEq, false_and, exists_false, or_false, false_or, exists_const, and_assoc, exists_and_left, List.append_nil, ix0, ix1, ix2, cm_mod, cdw1009, cdw2003, cdw7, cdw64, cdw2, cm104729, cm2, cm3, upd_same, List.length_cons, List.length_nil, Int.reduceLT, Int.reduceLE, Nat.reduceAdd, Nat.reduceLeDiff, Nat.reduceLT, Int.reduceToNat, r_for1, r_forL, r_forT, r_lcL, r_lc1, r_yes, r_gtupD, wipe_0, wipe_1, List.cons_append, List.nil_append, r_forS, r_ipI, ite_false, ite_true, Bool.not_true, Bool.not_false, decide_true, decide_false, r_isd, r_islt, cD_ty, cD_ref, tD_non, tD_bl, tD_int, tD_str, tD_ref, tH_lst, tH_tup, tH_dK, tH_ins, ki_self, ki_int_bool, ki_non_int, ki_str_int, ki_lt_lst, ki_lt_tup, r_fld, r_sfld, HO.ins.injEq, cx_K, r_dnin, r_dinE]
    obtain ⟨o1, d1, q1⟩ := hW.get "LABEL"
    obtain ⟨o2, d2, q2⟩ := hW.get "SETUP_FINALLY"
    obtain ⟨o3, d3, q3⟩ := hW.get "SETUP_CLEANUP"
    obtain ⟨o4, d4, q4⟩ := hW.get "SETUP_WITH"
    refine ⟨o1, d1, ?_⟩
    rw [q1, lb, if_neg (by decide)]
    refine ⟨o2, d2, ?_⟩
    rw [q2]
    have fin : spRR5 NH S [V.ref F, V.ref G] H Q E0 := ⟨F, G, xs, rfl, hG, hF, ok, og, hl, ag, k⟩
    by_cases c2 : fw "SETUP_FINALLY" = true
    · rw [if_pos c2]
      exact fin
    · rw [if_neg c2]
      refine ⟨o3, d3, ?_⟩
      rw [q3]
      by_cases c3 : fw "SETUP_CLEANUP" = true
      · rw [if_pos c3]
        exact fin
      · rw [if_neg c3]
        refine ⟨o4, d4, ?_⟩
        rw [q4]
        have c4 : fw "SETUP_WITH" = true := by
          rcases ss with z | z | z
          · exact absurd z c2
          · exact absurd z c3
          · exact z
        rw [if_pos c4]
        exact fin
end
end C31

set_option maxHeartbeats 2000000
namespace C31
open PySem PySem.Spec PyProof.Rows L2
/-! ### a dict laid by the very expression that is gone through; comprehensions over enumerate -/
def tLk (H0 : Hp) (t : TE) : TE := fun σ H Q => t σ H fun x H1 => ∃ d u, x = .ref d ∧ H1 d = some u ∧ Mut (some u) ∧ ∀ od, (∀ o' u', H0 d ≠ some (.frz o' u')) → Q x (L2.upd H1 d (.frz od u))
theorem pe_lk {X : Cx} {e : Expr} {t : TE} (h : PE X e t) : PE X e (tLk X.H_0 t) := ⟨fun pins s σ H Q I hw => thn (h.run pins s σ H _ I hw) fun v s1 ⟨x, H1, I1, r, d, u, ex, hd, mu, q⟩ => by
  obtain ⟨od, I2⟩ := I1.lock hd mu
  exact ⟨x, _, I2, r, q od (I1.nofrz hd mu)⟩⟩
def Unl (H0 : Hp) (H' : Hp) (Q : Hp → Prop) : Prop := ∃ d od u, H' d = some (.frz od u) ∧ (∀ o' u', H0 d ≠ some (.frz o' u')) ∧ Q (L2.upd H' d u)
def tUl (H0 : Hp) (t : TS) : TS := fun D => t ⟨fun σ' H' => Unl H0 H' (D.nx σ'), fun v H' => Unl H0 H' (D.rt v), fun σ' H' => Unl H0 H' (D.bk σ'), fun σ' H' => Unl H0 H' (D.ct σ')⟩
theorem ps_ul {X : Cx} {st : Stmt} {t : TS} (h : PS X st t) : PS X st (tUl X.H_0 t) := by
  refine ⟨fun pins s σ H D I hw => thn (h.run pins s σ H _ I hw) fun f s1 q => ?_⟩
  cases f with
  | next => obtain ⟨σ', H', I2, d, od, u, e, n, q⟩ := q; exact ⟨σ', _, I2.unlock e n, q⟩
  | brk => obtain ⟨σ', H', I2, d, od, u, e, n, q⟩ := q; exact ⟨σ', _, I2.unlock e n, q⟩
  | cont => obtain ⟨σ', H', I2, d, od, u, e, n, q⟩ := q; exact ⟨σ', _, I2.unlock e n, q⟩
  | ret v => obtain ⟨x, σ', H', I2, r, d, od, u, e, n, q⟩ := q; exact ⟨x, σ', _, I2.unlock e n, r, q⟩
theorem r_lcE {K : PySem.W.Frag} {ta : TA} {σ : L2.St} {H : Hp} {g : TG} {tt : TT} {te : TE} {vs : List Nat} {Q : VK} : tLc (iEnumS K ta) g tt te vs σ H Q = ta σ H (fun us H1 => ∃ a, us = [.ref a] ∧ (((∃ xs, H1 a = some (.lst xs)) ∧ ∀ D, H1 D = none → CompR (Ite K a) g tt te vs σ Q D (L2.upd H1 D (.lst []))) ∨ ((∃ xs, H1 a = some (.tup xs)) ∧ ∀ D, H1 D = none → CompR (IteT K a) g tt te vs σ Q D (L2.upd H1 D (.lst []))))) := rfl
/-- a comprehension over enumerate of a list or a tuple -/
theorem cp_enum {K : PySem.W.Frag} {σ : L2.St} {g : TG} {a : Addr} {xs : List V} {tt : TT} {te : TE} {vs : List Nat} {H1 : Hp} {Q : VK} (h : sq (H1 a) = some xs) (Pv : Addr → Nat → Hp → Prop) (h0 : ∀ D, H1 D = none → Pv D 0 (L2.upd H1 D (.lst [])))
    (hl : ∀ D i H', H1 D = none → Pv D i H' → H' a = H1 a)
    (hs : ∀ D i x H', H1 D = none → xs[i]? = some x → Pv D i H' → ∀ T, H' T = none → g (.ref T) (wipe σ vs) (L2.upd H' T (.tup [.int (i : Nat), x])) fun σ2 H2 => wipe σ2 vs = wipe σ vs ∧ tt σ2 H2 fun b H3 => if b = true then te σ2 H3 fun y H4 => ∃ acc, H4 D = some (.lst acc) ∧ acc.length < sizeLine ∧ Pv D (i + 1) (L2.upd H4 D (.lst (acc ++ [y]))) else Pv D (i + 1) H3)
    (hd : ∀ D H', H1 D = none → Pv D xs.length H' → Q (.ref D) H') :
    ((∃ xs, H1 a = some (.lst xs)) ∧ ∀ D, H1 D = none → CompR (Ite K a) g tt te vs σ Q D (L2.upd H1 D (.lst []))) ∨ ((∃ xs, H1 a = some (.tup xs)) ∧ ∀ D, H1 D = none → CompR (IteT K a) g tt te vs σ Q D (L2.upd H1 D (.lst []))) := by
  rcases sq_cases h with e | e
  · refine .inl ⟨⟨_, e⟩, fun D hD => ⟨fun i m H => m = xs.length - i ∧ i ≤ xs.length ∧ Pv D i H, ⟨_, rfl, Nat.zero_le _, h0 D hD⟩, ?_⟩⟩
    rintro i m H' ⟨rfl, hi, p⟩
    have hq : SqL K H' a xs := SqL.of (by rw [hl D i H' hD p, e])
    by_cases c : i < xs.length
    · refine .inr ⟨⟨xs, xs[i], hq, List.getElem?_eq_getElem c⟩, Pv D (i + 1), fun H2 q => ⟨_, by omega, rfl, c, q⟩, fun v H2 y => ?_⟩
      obtain ⟨T, x, rfl, hT, rfl, hx⟩ := y
      exact hs D i x H' hD (hx xs hq) p T hT
    · exact .inl ⟨⟨xs, hq, by omega⟩, hd D H' hD (by rw [show xs.length = i from by omega]; exact p)⟩
  · refine .inr ⟨⟨_, e⟩, fun D hD => ⟨fun i m H => m = xs.length - i ∧ i ≤ xs.length ∧ Pv D i H, ⟨_, rfl, Nat.zero_le _, h0 D hD⟩, ?_⟩⟩
    rintro i m H' ⟨rfl, hi, p⟩
    have hq : SqT K H' a xs := SqT.of (by rw [hl D i H' hD p, e])
    by_cases c : i < xs.length
    · refine .inr ⟨⟨xs, xs[i], hq, List.getElem?_eq_getElem c⟩, Pv D (i + 1), fun H2 q => ⟨_, by omega, rfl, c, q⟩, fun v H2 y => ?_⟩
      obtain ⟨T, x, rfl, hT, rfl, hx⟩ := y
      exact hs D i x H' hD (hx xs hq) p T hT
    · exact .inl ⟨⟨xs, hq, by omega⟩, hd D H' hD (by rw [show xs.length = i from by omega]; exact p)⟩

/-! ### lines: where every row has one -/
def spSO : Sp := fun vs H Q _ => ∃ F B : Addr, vs = [.ref F, .ref B] ∧ H B = some (.lst []) ∧ ∀ D H', Same H H' → H D = none → H' D = some (.dK []) → Q (.ref D) H'
def spLA : Sp := fun vs H Q _ => ∃ S F : Addr, vs = [.ref S, .ref F] ∧ H S = some (.dK []) ∧ ∀ D H', Same H H' → H D = none → H' D = some (.dK []) → Q (.ref D) H'
def spWO : Sp := fun vs H Q _ => ∃ (F B : Addr) (xs : List R5), vs = [.ref F, .ref B] ∧ H B = some (.lst []) ∧ Rs5 H F xs ∧ xs.length ≤ 60000 ∧ ∀ D H', Same H H' → H D = none → Rs5 H' D xs → Q (.ref D) H'
theorem loop0 {J : L2.It} {g : TG} {tb : TS} {D : Ends} {σ : L2.St} {H : Hp} (h : J.stop 0 H) (q : D.nx σ H) : LoopR J g tb D σ H :=
  ⟨fun i m σ' H' => i = 0 ∧ σ' = σ ∧ H' = H, ⟨0, rfl, rfl, rfl⟩, fun i m σ' H' ⟨e1, e2, e3⟩ => .inl (by rw [e1, e2, e3]; exact ⟨h, q⟩)⟩
theorem Rs5.same {H H' : Hp} {F : Addr} {xs : List R5} (h : Rs5 H F xs) (s : Same H H') : Rs5 H' F xs := let ⟨r, e, q⟩ := h; ⟨r, s _ _ e, Paired.map' q fun b y e => e.imp fun b ys e => s _ _ e⟩
def LineOk (x : R5) : Prop := x.w ≠ "LABEL" → x.l ≠ none
def spWL : Sp := fun vs H Q _ => ∃ (F W : Addr) (xs : List R5) (f : Str → Bool), vs = [.ref F, .ref W] ∧ WdD H W f ∧ Rs5 H F xs ∧ xs.length ≤ 60000 ∧ (∀ x ∈ xs, LineOk x) ∧ ∀ D H', Same H H' → H D = none → Rs5 H' D xs → Q (.ref D) H'
section
variable {P : Program} {w : World} {K : PySem.W.Frag} {mg : Str → Option Value} {base : Heap} {f : Addr} {fd : FuncData}
abbrev sso : Stmt := top 70
theorem scso : FnScope ["rows", "bare", "sources", "behind", "at", "labels", "ahead", "goes_on"] ["rows", "bare"] (defScope sso) := ⟨rfl, rfl, rfl, by decide +kernel, rfl, by decide +kernel, by decide +kernel⟩

abbrev sla : Stmt := top 69
theorem scla : FnScope ["sources", "rows", "lines", "at", "path", "source", "line", "passed"] ["sources", "rows"] (defScope sla) := ⟨rfl, rfl, rfl, by decide +kernel, rfl, by decide +kernel, by decide +kernel⟩

abbrev swo : Stmt := top 68
theorem scwo : FnScope ["rows", "bare", "found", "at", "line", "word", "argument", "_", "handler"] ["rows", "bare"] (defScope swo) := ⟨rfl, rfl, rfl, by decide +kernel, rfl, by decide +kernel, by decide +kernel⟩

abbrev swl : Stmt := top 67
theorem scwl : FnScope ["rows", "words", "at", "bare", "found", "word", "argument", "_", "handler", "row"] ["rows", "words"] (defScope swl) := ⟨rfl, rfl, rfl, by decide +kernel, rfl, by decide +kernel, by decide +kernel⟩

theorem ok_so (F : FnP K "sources_of" "sources_of" sso f fd) : FnOk P w K mg base CX0 1 f fd ["rows", "bare"] spSO := by
  refine F.ok scso (fun vs H Q E h => ?_) (fun cdv A outer s H vs Q E hr h => ?_)
  · obtain ⟨F, B, rfl, _⟩ := h
    rfl
  · obtain ⟨F, B, rfl, hB, k⟩ := h
    refine ⟨_, PSs.nox (pss_cons (ps_set (i := 2) scso.nd rfl (Or.inl rfl) pe_dnewK)
  (pss_cons (ps_set (i := 3) scso.nd rfl (Or.inl rfl) pe_dnewK)
  (pss_cons (ps_for PassesOwn.never rfl (pi_list (pv 1)) (pg_name (i := 4) scso.nd rfl (Or.inl rfl))
    pss_never)
  (pss_one (ps_ret (pe_ifExp (pt_truth (pv 3) (fun _ => rfl)) pe_no (pv 2))))))), ?_⟩
    show (_ : TS) _ [some (.ref F), some (.ref B), none, none, none, none, none, none] H
    simp only [r_seq, r_next, r_brk, r_cont, r_asg, r_name, r_ret, r_retN, r_drop, r_ifs, r_never, r_var, r_c, r_op, r_un, r_if, r_tst, r_b, r_not, r_and, r_or, r_andV, r_orV, r_notV, r_nil, r_cons, r_tup, r_lst, r_cb, r_call, r_bm, r_bm0, r_sl, r_nopart, r_part, r_rev, r_gnil, r_gcons, r_gsub, r_par, r_aug, r_chain, r_I0, r_I, r_U, r_ixd, r_lend, r_tupd, r_listd, r_sld, r_app, r_ext, r_reverse, r_setl, r_cat, r_int1, r_eqS, r_neS, scal_ii, scal_bb, scal_ss, at0, at1, at2, sq_lst, sq_tup, isLst_lst, List.getElem?_cons_zero, List.getElem?_cons_succ, List.set_cons_zero, List.set_cons_succ, V.int.injEq, V.bl.injEq, V.ref.injEq, V.str.injEq, HO.lst.injEq, HO.tup.injEq, Option.some.injEq, exists_eq_left', exists_eq_left, List.cons.injEq, and_true, true_and, decide_eq_true_eq, reduceCtorEq, false_and, exists_false, or_false, false_or, exists_const, and_assoc, exists_and_left, List.append_nil, ix0, ix1, ix2, cm_mod, cdw1009, cdw2003, cdw7, cdw64, cdw2, cm104729, cm2, cm3, upd_same, List.length_cons, List.length_nil, Int.reduceLT, Int.reduceLE, Nat.reduceAdd, Nat.reduceLeDiff, Nat.reduceLT, Int.reduceToNat, r_for1, r_forL, r_forT, r_lcL, r_lc1, r_yes, r_gtupD, wipe_0, wipe_1, List.cons_append, List.nil_append, r_forS, r_ipI, ite_false, ite_true, Bool.not_true, Bool.not_false, decide_true, decide_false, r_isd, r_islt, cD_ty, cD_ref, tD_non, tD_bl, tD_int, tD_str, tD_ref, tH_lst, tH_tup, tH_dK, tH_ins, ki_self, ki_int_bool, ki_non_int, ki_str_int, ki_lt_lst, ki_lt_tup, r_fld, r_sfld, HO.ins.injEq, cx_K, r_dnew]
    intro p hp p1 hp1
    have s1 : Same H (L2.upd (L2.upd H p (.dK [])) p1 (.dK [])) := Same.new' (Same.new' (Same.refl H) hp) hp1
    have eD : L2.upd (L2.upd H p (.dK [])) p1 (.dK []) p = some (.dK []) := by rw [upd_ne (ne_new upd_same hp1)]; exact upd_same
    have eE : L2.upd (L2.upd H p (.dK [])) p1 (.dK []) p1 = some (.dK []) := upd_same
    generalize L2.upd (L2.upd H p (.dK [])) p1 (.dK []) = H1 at *
    refine ⟨⟨[], SqL.of (s1 _ _ hB)⟩, loop0 ⟨[], SqL.of (s1 _ _ hB), Nat.zero_le _⟩ ?_⟩
    show ∃ v, _ = some (some v) ∧ ∃ k, TruV K v H1 k ∧ _
    refine ⟨_, rfl, false, .inr (.inr ⟨[], eE, rfl⟩), ?_⟩
    exact ⟨_, rfl, k p H1 s1 hp eD⟩
theorem ok_la (F : FnP K "lines_along" "lines_along" sla f fd) : FnOk P w K mg base CX0 1 f fd ["sources", "rows"] spLA := by
  refine F.ok scla (fun vs H Q E h => ?_) (fun cdv A outer s H vs Q E hr h => ?_)
  · obtain ⟨F, B, rfl, _⟩ := h
    rfl
  · obtain ⟨S, F, rfl, hS, k⟩ := h
    refine ⟨_, PSs.nox (pss_cons (ps_set (i := 2) scla.nd rfl (Or.inl rfl) pe_dnewK)
  (pss_cons (ps_lock (ps_for PassesOwn.never rfl (pi_keys (pv 0)) (pg_name (i := 3) scla.nd rfl (Or.inl rfl))
    pss_never))
  (pss_one (ps_ret (pv 2))))), ?_⟩
    show (_ : TS) _ [some (.ref S), some (.ref F), none, none, none, none, none, none] H
    simp only [r_seq, r_next, r_brk, r_cont, r_asg, r_name, r_ret, r_retN, r_drop, r_ifs, r_never, r_var, r_c, r_op, r_un, r_if, r_tst, r_b, r_not, r_and, r_or, r_andV, r_orV, r_notV, r_nil, r_cons, r_tup, r_lst, r_cb, r_call, r_bm, r_bm0, r_sl, r_nopart, r_part, r_rev, r_gnil, r_gcons, r_gsub, r_par, r_aug, r_chain, r_I0, r_I, r_U, r_ixd, r_lend, r_tupd, r_listd, r_sld, r_app, r_ext, r_reverse, r_setl, r_cat, r_int1, r_eqS, r_neS, scal_ii, scal_bb, scal_ss, at0, at1, at2, sq_lst, sq_tup, isLst_lst, List.getElem?_cons_zero, List.getElem?_cons_succ, List.set_cons_zero, List.set_cons_succ, V.int.injEq, V.bl.injEq, V.ref.injEq, V.str.injEq, HO.lst.injEq, HO.tup.injEq, Option.some.injEq, exists_eq_left', exists_eq_left, List.cons.injEq, and_true, true_and, decide_eq_true_eq, reduceCtorEq, false_and, exists_false, or_false, false_or, exists_const, and_assoc, exists_and_left, List.append_nil, ix0, ix1, ix2, cm_mod, cdw1009, cdw2003, cdw7, cdw64, cdw2, cm104729, cm2, cm3, upd_same, List.length_cons, List.length_nil, Int.reduceLT, Int.reduceLE, Nat.reduceAdd, Nat.reduceLeDiff, Nat.reduceLT, Int.reduceToNat, r_for1, r_forL, r_forT, r_lcL, r_lc1, r_yes, r_gtupD, wipe_0, wipe_1, List.cons_append, List.nil_append, r_forS, r_ipI, ite_false, ite_true, Bool.not_true, Bool.not_false, decide_true, decide_false, r_isd, r_islt, cD_ty, cD_ref, tD_non, tD_bl, tD_int, tD_str, tD_ref, tH_lst, tH_tup, tH_dK, tH_ins, ki_self, ki_int_bool, ki_non_int, ki_str_int, ki_lt_lst, ki_lt_tup, r_fld, r_sfld, HO.ins.injEq, cx_K, r_dnew]
    intro p hp
    have s1 : Same H (L2.upd H p (.dK [])) := Same.new' (Same.refl H) hp
    have eD : L2.upd H p (.dK []) p = some (.dK []) := upd_same
    have eS := s1 _ _ hS
    have Sp : S ≠ p := ne_new hS hp
    generalize L2.upd H p (.dK []) = H1 at *
    refine ⟨S, _, eS, trivial, fun od => ?_⟩
    have es : L2.upd H1 S (.frz od (.dK [])) S = some (.frz od (.dK [])) := upd_same
    have eq : ∀ b, L2.upd (L2.upd H1 S (.frz od (.dK []))) S (.dK []) b = H1 b := fun b => by
      by_cases z : b = S
      · rw [z, upd_same, eS]
      · rw [upd_ne z, upd_ne z]
    refine ⟨_, rfl, S, od, rfl, .inl ⟨[], es, loop0 ⟨es, Nat.zero_le _⟩ ⟨es, ?_⟩⟩⟩
    exact ⟨_, rfl, k p _ (fun b o e => by rw [eq]; exact s1 _ _ e) hp (by rw [eq]; exact eD)⟩
theorem ok_wo (T : Txt mg) (C_sources_of : Cal P w K mg base 1 "sources_of" ["rows", "bare"] spSO) (C_lines_along : Cal P w K mg base 1 "lines_along" ["sources", "rows"] spLA) (F : FnP K "with_lines_on_ways" "with_lines_on_ways" swo f fd) : FnOk P w K mg base CX0 2 f fd ["rows", "bare"] spWO := by
  refine F.ok scwo (fun vs H Q E h => ?_) (fun cdv A outer s H vs Q E hr h => ?_)
  · obtain ⟨F, B, xs, rfl, _⟩ := h
    rfl
  · obtain ⟨F, B, xs, rfl, hB, hF, hl, k⟩ := h
    refine ⟨_, PSs.nox (pss_cons (ps_set (i := 2) scwo.nd rfl (Or.inl rfl) (pe_callTy call_list_d (by rfl) T.b_list (by decide +kernel) (pa_cons (pv 0) pa_nil)))
  (pss_cons (ps_ul (ps_for PassesOwn.never rfl (pi_items (pe_lk (pe_cal C_lines_along (hr.mono (by decide)) rfl (pa_cons (pe_cal C_sources_of (hr.mono (by decide)) rfl (pa_cons (pv 0) (pa_cons (pv 1) pa_nil))) (pa_cons (pv 0) pa_nil))))) (pg_tupD (n := 2) rfl (pgs_cons (pg_name (i := 3) scwo.nd rfl (Or.inl rfl)) (pgs_cons (pg_name (i := 4) scwo.nd rfl (Or.inl rfl)) pgs_nil)))
    (pss_cons (ps_asg (pe_ix ix_d (pv 0) (pv 3) (fun _ _ => rfl)) (pg_tupD (n := 4) rfl (pgs_cons (pg_name (i := 5) scwo.nd rfl (Or.inl rfl)) (pgs_cons (pg_name (i := 6) scwo.nd rfl (Or.inl rfl)) (pgs_cons (pg_name (i := 7) scwo.nd rfl (Or.inl rfl)) (pgs_cons (pg_name (i := 8) scwo.nd rfl (Or.inl rfl)) pgs_nil))))))
  (pss_one (ps_asg (pe_tup (pa_cons (pv 5) (pa_cons (pv 6) (pa_cons (pv 4) (pa_cons (pv 8) pa_nil))))) (pg_sub (pv 2) (pv 3) set_list))))))
  (pss_one (ps_ret (pv 2))))), ?_⟩
    show (_ : TS) _ [some (.ref F), some (.ref B), none, none, none, none, none, none, none] H
    simp only [r_seq, r_next, r_brk, r_cont, r_asg, r_name, r_ret, r_retN, r_drop, r_ifs, r_never, r_var, r_c, r_op, r_un, r_if, r_tst, r_b, r_not, r_and, r_or, r_andV, r_orV, r_notV, r_nil, r_cons, r_tup, r_lst, r_cb, r_call, r_bm, r_bm0, r_sl, r_nopart, r_part, r_rev, r_gnil, r_gcons, r_gsub, r_par, r_aug, r_chain, r_I0, r_I, r_U, r_ixd, r_lend, r_tupd, r_listd, r_sld, r_app, r_ext, r_reverse, r_setl, r_cat, r_int1, r_eqS, r_neS, scal_ii, scal_bb, scal_ss, at0, at1, at2, sq_lst, sq_tup, isLst_lst, List.getElem?_cons_zero, List.getElem?_cons_succ, List.set_cons_zero, List.set_cons_succ, V.int.injEq, V.bl.injEq, V.ref.injEq, V.str.injEq, HO.lst.injEq, HO.tup.injEq, Option.some.injEq, exists_eq_left', exists_eq_left, List.cons.injEq, and_true, true_and, decide_eq_true_eq, reduceCtorEq, false_and, exists_false, or_false, false_or, exists_const, and_assoc, exists_and_left, List.append_nil, ix0, ix1, ix2, cm_mod, cdw1009, cdw2003, cdw7, cdw64, cdw2, cm104729, cm2, cm3, upd_same, List.length_cons, List.length_nil, Int.reduceLT, Int.reduceLE, Nat.reduceAdd, Nat.reduceLeDiff, Nat.reduceLT, Int.reduceToNat, r_for1, r_forL, r_forT, r_lcL, r_lc1, r_yes, r_gtupD, wipe_0, wipe_1, List.cons_append, List.nil_append, r_forS, r_ipI, ite_false, ite_true, Bool.not_true, Bool.not_false, decide_true, decide_false, r_isd, r_islt, cD_ty, cD_ref, tD_non, tD_bl, tD_int, tD_str, tD_ref, tH_lst, tH_tup, tH_dK, tH_ins, ki_self, ki_int_bool, ki_non_int, ki_str_int, ki_lt_lst, ki_lt_tup, r_fld, r_sfld, HO.ins.injEq, cx_K]
    obtain ⟨refs, eF, pF⟩ := hF
    refine ⟨_, by rw [eF]; rfl, fun l hl1 => ?_⟩
    have s1 : Same H (L2.upd H l (.lst (refs.map V.ref))) := Same.new' (Same.refl H) hl1
    have r1 : Rs5 (L2.upd H l (.lst (refs.map V.ref))) l xs := ⟨refs, upd_same, Paired.map' pF fun r x e => e.imp fun b ys e => s1 _ _ e⟩
    generalize L2.upd H l (.lst (refs.map V.ref)) = H1 at *
    unfold tUl tLk iItems
    simp only [r_seq, r_next, r_brk, r_cont, r_asg, r_name, r_ret, r_retN, r_drop, r_ifs, r_never, r_var, r_c, r_op, r_un, r_if, r_tst, r_b, r_not, r_and, r_or, r_andV, r_orV, r_notV, r_nil, r_cons, r_tup, r_lst, r_cb, r_call, r_bm, r_bm0, r_sl, r_nopart, r_part, r_rev, r_gnil, r_gcons, r_gsub, r_par, r_aug, r_chain, r_I0, r_I, r_U, r_ixd, r_lend, r_tupd, r_listd, r_sld, r_app, r_ext, r_reverse, r_setl, r_cat, r_int1, r_eqS, r_neS, scal_ii, scal_bb, scal_ss, at0, at1, at2, sq_lst, sq_tup, isLst_lst, List.getElem?_cons_zero, List.getElem?_cons_succ, List.set_cons_zero, List.set_cons_succ, V.int.injEq, V.bl.injEq, V.ref.injEq, V.str.injEq, HO.lst.injEq, HO.tup.injEq, Option.some.injEq, exists_eq_left', exists_eq_left, List.cons.injEq, and_true, true_and, decide_eq_true_eq, reduceCtorEq, false_and, exists_false, or_false, false_or, exists_const, and_assoc, exists_and_left, List.append_nil, ix0, ix1, ix2, cm_mod, cdw1009, cdw2003, cdw7, cdw64, cdw2, cm104729, cm2, cm3, upd_same, List.length_cons, List.length_nil, Int.reduceLT, Int.reduceLE, Nat.reduceAdd, Nat.reduceLeDiff, Nat.reduceLT, Int.reduceToNat, r_for1, r_forL, r_forT, r_lcL, r_lc1, r_yes, r_gtupD, wipe_0, wipe_1, List.cons_append, List.nil_append, r_forS, r_ipI, ite_false, ite_true, Bool.not_true, Bool.not_false, decide_true, decide_false, r_isd, r_islt, cD_ty, cD_ref, tD_non, tD_bl, tD_int, tD_str, tD_ref, tH_lst, tH_tup, tH_dK, tH_ins, ki_self, ki_int_bool, ki_non_int, ki_str_int, ki_lt_lst, ki_lt_tup, r_fld, r_sfld, HO.ins.injEq, cx_K]
    unfold tFor
    refine ⟨_, rfl, _, rfl, F, B, rfl, s1 _ _ hB, fun D2 H2 s2 f2 e2 => ⟨_, rfl, D2, F, rfl, e2, fun D3 H3 s3 f3 e3 => ⟨D3, rfl, _, e3, trivial, fun od nf => ?_⟩⟩⟩
    have es : L2.upd H3 D3 (.frz od (.dK [])) D3 = some (.frz od (.dK [])) := upd_same
    have eq : ∀ b, L2.upd (L2.upd H3 D3 (.frz od (.dK []))) D3 (.dK []) b = H3 b := fun b => by
      by_cases z : b = D3
      · rw [z, upd_same, e3]
      · rw [upd_ne z, upd_ne z]
    have s13 : Same H1 (L2.upd (L2.upd H3 D3 (.frz od (.dK []))) D3 (.dK [])) := fun b o e => by rw [eq]; exact s3 _ _ (s2 _ _ e)
    refine ⟨D3, rfl, od, [], es, loop0 ⟨es, Nat.zero_le _⟩ ⟨D3, od, _, es, nf, ?_⟩⟩
    exact ⟨_, rfl, k l _ (fun b o e => s13 _ _ (s1 _ _ e)) hl1 (r1.same s13)⟩
theorem ok_wl (T : Txt mg) (C_with_lines_on_ways : Cal P w K mg base 2 "with_lines_on_ways" ["rows", "bare"] spWO) (F : FnP K "with_lines" "with_lines" swl f fd) : FnOk P w K mg base CX0 3 f fd ["rows", "words"] spWL := by
  refine F.ok scwl (fun vs H Q E h => ?_) (fun cdv A outer s H vs Q E hr h => ?_)
  · obtain ⟨F, W, xs, f, rfl, _⟩ := h
    rfl
  · have hu1 := hu_of hr
    obtain ⟨F, W, xs, fw, rfl, hW, hF, hl, ok, k⟩ := h
    refine ⟨_, PSs.nox (pss_cons (ps_setLc (i := 3) (own := [("at", 2), ("row", 9)]) rfl scwl.nd rfl rfl (sw_true rfl rfl rfl (by decide +kernel)) (pi_enumS (by rfl) T.b_enumerate (pa_cons (pv 0) pa_nil)) (blkOk_by (own := [("at", 2), ("row", 9)]) (N := ["rows", "words", "at", "bare", "found", "word", "argument", "_", "handler", "row"]) (sc := defScope swl) (by decide +kernel)) (fun _ _ _ _ _ => (pg_tupD (n := 2) rfl (pgs_cons (pg_name (i := 2) scwl.nd rfl (Or.inl rfl)) (pgs_cons (pg_name (i := 9) scwl.nd rfl (Or.inl rfl)) pgs_nil)))) (fun _ _ _ _ _ => (pts_one (PW.pt (pw_and (pt_cmpR op_isN (pe_ix ix_d (pv 9) pe_int (fun _ _ => rfl)) pe_non (nomark _)) (pw_and (pt_cmpR op_gt (pv 2) pe_int (nomark _)) (pw_and1 (pt_cmpR op_ne (pe_ix ix_d (pv 9) pe_int (fun _ _ => rfl)) pe_str (nomark _)))))))) (fun _ _ _ _ _ => (pv 2)))
  (pss_cons (ps_if (pt_cmp (pc_din hu1 pe_str (pv 1)))
    (pss_one (ps_ret (pe_cal C_with_lines_on_ways (hr.mono (by decide)) rfl (pa_cons (pv 0) (pa_cons (pv 3) pa_nil)))))
    pss_nil)
  (pss_cons (ps_set (i := 4) scwl.nd rfl (Or.inl rfl) (pe_callTy call_list_d (by rfl) T.b_list (by decide +kernel) (pa_cons (pv 0) pa_nil)))
  (pss_cons (ps_for PassesOwn.never rfl (pi_list (pv 3)) (pg_name (i := 2) scwl.nd rfl (Or.inl rfl))
    pss_never)
  (pss_one (ps_ret (pv 4))))))), ?_⟩
    show (_ : TS) _ [some (.ref F), some (.ref W), none, none, none, none, none, none, none, none] H
    rw [r_seq, r_asg, r_lcE]
    simp only [r_seq, r_next, r_brk, r_cont, r_asg, r_name, r_ret, r_retN, r_drop, r_ifs, r_never, r_var, r_c, r_op, r_un, r_if, r_tst, r_b, r_not, r_and, r_or, r_andV, r_orV, r_notV, r_nil, r_cons, r_tup, r_lst, r_cb, r_call, r_bm, r_bm0, r_sl, r_nopart, r_part, r_rev, r_gnil, r_gcons, r_gsub, r_par, r_aug, r_chain, r_I0, r_I, r_U, r_ixd, r_lend, r_tupd, r_listd, r_sld, r_app, r_ext, r_reverse, r_setl, r_cat, r_int1, r_eqS, r_neS, scal_ii, scal_bb, scal_ss, at0, at1, at2, sq_lst, sq_tup, isLst_lst, List.getElem?_cons_zero, List.getElem?_cons_succ, List.set_cons_zero, List.set_cons_succ, V.int.injEq, V.bl.injEq, V.ref.injEq, V.str.injEq, HO.lst.injEq, HO.tup.injEq, Option.some.injEq, exists_eq_left', exists_eq_left, List.cons.injEq, and_true, true_and, decide_eq_true_eq, reduceCtorEq, false_and, exists_false, or_false, false_or, exists_const, and_assoc, exists_and_left, List.append_nil, ix0, ix1, ix2, cm_mod, cdw1009, cdw2003, cdw7, cdw64, cdw2, cm104729, cm2, cm3, upd_same, List.length_cons, List.length_nil, Int.reduceLT, Int.reduceLE, Nat.reduceAdd, Nat.reduceLeDiff, Nat.reduceLT, Int.reduceToNat, r_for1, r_forL, r_forT, r_lcL, r_lc1, r_yes, r_gtupD, wipe_0, wipe_1, List.cons_append, List.nil_append, r_forS, r_ipI, ite_false, ite_true, Bool.not_true, Bool.not_false, decide_true, decide_false, r_isd, r_islt, cD_ty, cD_ref, tD_non, tD_bl, tD_int, tD_str, tD_ref, tH_lst, tH_tup, tH_dK, tH_ins, ki_self, ki_int_bool, ki_non_int, ki_str_int, ki_lt_lst, ki_lt_tup, r_fld, r_sfld, HO.ins.injEq, cx_K, r_dinE]
    obtain ⟨refs, eF, pF⟩ := hF
    have lp := Paired.length pF
    refine cp_enum (xs := refs.map V.ref) (by rw [eF]; rfl) (fun D i H' => Same H H' ∧ H' D = some (.lst [])) (fun D hD => ⟨Same.new' (Same.refl H) hD, upd_same⟩) (fun D i H' hD q => by rw [q.1 _ _ eF, eF]) ?_ ?_
    · rintro D i y H2 hD hy ⟨s2, e2⟩ T0 hT0
      rw [List.getElem?_map] at hy
      obtain ⟨r, hr1, rfl⟩ := Option.map_eq_some_iff.mp hy
      obtain ⟨hi0, e0⟩ := List.getElem?_eq_some_iff.mp hr1
      have hi' : i < xs.length := by rw [← lp]; exact hi0
      have hrt := Paired.at' pF hi0 hi'
      rw [e0] at hrt
      have okx := ok _ (List.getElem_mem hi')
      generalize xs[i] = x at *
      have s3 : Same H (L2.upd H2 T0 (.tup [.int (i : Nat), .ref r])) := Same.new' s2 hT0
      have e3 : L2.upd H2 T0 (.tup [.int (i : Nat), .ref r]) D = some (.lst []) := by rw [upd_ne (ne_new e2 hT0)]; exact e2
      have eT : L2.upd H2 T0 (.tup [.int (i : Nat), .ref r]) T0 = some (.tup [.int (i : Nat), .ref r]) := upd_same
      generalize L2.upd H2 T0 (.tup [.int (i : Nat), .ref r]) = H3 at *
      obtain ⟨hv, er0, _⟩ := id hrt
      have er := s3 _ _ er0
      show gTupD 2 _ (.ref T0) [some (.ref F), some (.ref W), none, none, none, none, none, none, none, none] H3 _
      simp only [r_seq, r_next, r_brk, r_cont, r_asg, r_name, r_ret, r_retN, r_drop, r_ifs, r_never, r_var, r_c, r_op, r_un, r_if, r_tst, r_b, r_not, r_and, r_or, r_andV, r_orV, r_notV, r_nil, r_cons, r_tup, r_lst, r_cb, r_call, r_bm, r_bm0, r_sl, r_nopart, r_part, r_rev, r_gnil, r_gcons, r_gsub, r_par, r_aug, r_chain, r_I0, r_I, r_U, r_ixd, r_lend, r_tupd, r_listd, r_sld, r_app, r_ext, r_reverse, r_setl, r_cat, r_int1, r_eqS, r_neS, scal_ii, scal_bb, scal_ss, at0, at1, at2, sq_lst, sq_tup, isLst_lst, List.getElem?_cons_zero, List.getElem?_cons_succ, List.set_cons_zero, List.set_cons_succ, V.int.injEq, V.bl.injEq, V.ref.injEq, V.str.injEq, HO.lst.injEq, HO.tup.injEq, Option.some.injEq, exists_eq_left', exists_eq_left, List.cons.injEq, and_true, true_and, decide_eq_true_eq, reduceCtorEq, false_and, exists_false, or_false, false_or, exists_const, and_assoc, exists_and_left, List.append_nil, ix0, ix1, ix2, cm_mod, cdw1009, cdw2003, cdw7, cdw64, cdw2, cm104729, cm2, cm3, upd_same, List.length_cons, List.length_nil, Int.reduceLT, Int.reduceLE, Nat.reduceAdd, Nat.reduceLeDiff, Nat.reduceLT, Int.reduceToNat, r_for1, r_forL, r_forT, r_lcL, r_lc1, r_yes, r_gtupD, wipe_0, wipe_1, List.cons_append, List.nil_append, r_forS, r_ipI, ite_false, ite_true, Bool.not_true, Bool.not_false, decide_true, decide_false, r_isd, r_islt, cD_ty, cD_ref, tD_non, tD_bl, tD_int, tD_str, tD_ref, tH_lst, tH_tup, tH_dK, tH_ins, ki_self, ki_int_bool, ki_non_int, ki_str_int, ki_lt_lst, ki_lt_tup, r_fld, r_sfld, HO.ins.injEq, cx_K, eT, er]
      refine ⟨rfl, ?_⟩
      by_cases c1 : lnV x.l = V.non
      · rw [if_pos c1]
        have xw : x.w = "LABEL" := Decidable.byContradiction fun z => okx z (by
          cases q : x.l with
          | none => rfl
          | some n => rw [q] at c1; cases c1)
        rw [if_neg (show ¬ (!decide (x.w = Str.ofString "LABEL")) = true by rw [decide_eq_true xw]; decide), ite_self]
        exact ⟨s3, e3⟩
      · rw [if_neg c1]
        exact ⟨s3, e3⟩
    · rintro D H2 hD ⟨s2, e2⟩
      obtain ⟨o1, d1, q1⟩ := (hW.same s2).get "LABEL"
      refine ⟨o1, d1, ?_⟩
      by_cases c : o1.isSome = true
      · rw [if_pos c]
        exact ⟨F, D, xs, rfl, e2, ⟨refs, s2 _ _ eF, Paired.map' pF fun r x e => e.imp fun b ys e => s2 _ _ e⟩, hl, fun D3 H3 s3 f3 r3 => k D3 H3 (fun b o e => s3 _ _ (s2 _ _ e)) (by cases q : H D3 with | none => rfl | some o => rw [s2 _ _ q] at f3; cases f3) r3⟩
      · rw [if_neg c]
        refine ⟨_, by rw [s2 _ _ eF]; rfl, fun l hl1 => ⟨D, rfl, ?_⟩⟩
        have s3 : Same H (L2.upd H2 l (.lst (refs.map V.ref))) := Same.new' s2 hl1
        have e3 : L2.upd H2 l (.lst (refs.map V.ref)) D = some (.lst []) := by rw [upd_ne (ne_new e2 hl1)]; exact e2
        have r1 : Rs5 (L2.upd H2 l (.lst (refs.map V.ref))) l xs := ⟨refs, upd_same, Paired.map' pF fun r x e => e.imp fun b ys e => s3 _ _ e⟩
        generalize L2.upd H2 l (.lst (refs.map V.ref)) = H3 at *
        refine ⟨⟨[], SqL.of e3⟩, loop0 ⟨[], SqL.of e3, Nat.zero_le _⟩ ?_⟩
        exact ⟨_, rfl, k l H3 s3 (by cases q : H l with | none => rfl | some o => rw [s2 _ _ q] at hl1; cases hl1) r1⟩
end
end C31

set_option maxHeartbeats 2000000
namespace C31
open PySem PySem.Spec PyProof.Rows L2
/-! ### checks: where no local is taken -/
def spWC : Sp := fun vs H Q _ => ∃ (F W : Addr) (v : V) (f : Str → Bool), vs = [.ref F, v, .ref W] ∧ WdD H W f ∧ f "LOAD_FAST" = false ∧ Q (.ref F) H
section
variable {P : Program} {w : World} {K : PySem.W.Frag} {mg : Str → Option Value} {base : Heap} {f : Addr} {fd : FuncData}
abbrev swc : Stmt := top 15
theorem scwc : FnScope ["rows", "head", "words", "lacking", "found", "at", "_", "name", "line", "handler"] ["rows", "head", "words"] (defScope swc) := ⟨rfl, rfl, rfl, by decide +kernel, rfl, by decide +kernel, by decide +kernel⟩

theorem ok_wc (T : Txt mg) (F : FnP K "with_checks" "with_checks" swc f fd) : FnOk P w K mg base CX0 1 f fd ["rows", "head", "words"] spWC := by
  refine F.ok scwc (fun vs H Q E h => ?_) (fun cdv A outer s H vs Q E hr h => ?_)
  · obtain ⟨F, W, v, f, rfl, _⟩ := h
    rfl
  · have hu1 := hu_of hr
    obtain ⟨F, W, v, fw, rfl, hW, hn, k⟩ := h
    refine ⟨_, PSs.nox (pss_cons (ps_if (pt_cmp (pc_dnotin hu1 pe_str (pv 2)))
    (pss_one (ps_ret (pv 0)))
    pss_nil)
  pss_never), ?_⟩
    show (_ : TS) _ [some (.ref F), some v, some (.ref W), none, none, none, none, none, none, none] H
    simp only [r_seq, r_next, r_brk, r_cont, r_asg, r_name, r_ret, r_retN, r_drop, r_ifs, r_never, r_var, r_c, r_op, r_un, r_if, r_tst, r_b, r_not, r_and, r_or, r_andV, r_orV, r_notV, r_nil, r_cons, r_tup, r_lst, r_cb, r_call, r_bm, r_bm0, r_sl, r_nopart, r_part, r_rev, r_gnil, r_gcons, r_gsub, r_par, r_aug, r_chain, r_I0, r_I, r_U, r_ixd, r_lend, r_tupd, r_listd, r_sld, r_app, r_ext, r_reverse, r_setl, r_cat, r_int1, r_eqS, r_neS, scal_ii, scal_bb, scal_ss, at0, at1, at2, sq_lst, sq_tup, isLst_lst, List.getElem?_cons_zero, List.getElem?_cons_succ, List.set_cons_zero, List.set_cons_succ, V.int.injEq, V.bl.injEq, V.ref.injEq, V.str.injEq, HO.lst.injEq, HO.tup.injEq, Option.some.injEq, exists_eq_left', exists_eq_left, List.cons.injEq, and_true, true_and, decide_eq_true_eq, reduceCtorEq, false_and, exists_false, or_false, false_or, exists_const, and_assoc, exists_and_left, List.append_nil, ix0, ix1, ix2, cm_mod, cdw1009, cdw2003, cdw7, cdw64, cdw2, cm104729, cm2, cm3, upd_same, List.length_cons, List.length_nil, Int.reduceLT, Int.reduceLE, Nat.reduceAdd, Nat.reduceLeDiff, Nat.reduceLT, Int.reduceToNat, r_for1, r_forL, r_forT, r_lcL, r_lc1, r_yes, r_gtupD, wipe_0, wipe_1, List.cons_append, List.nil_append, r_forS, r_ipI, ite_false, ite_true, Bool.not_true, Bool.not_false, decide_true, decide_false, r_isd, r_islt, cD_ty, cD_ref, tD_non, tD_bl, tD_int, tD_str, tD_ref, tH_lst, tH_tup, tH_dK, tH_ins, ki_self, ki_int_bool, ki_non_int, ki_str_int, ki_lt_lst, ki_lt_tup, r_fld, r_sfld, HO.ins.injEq, cx_K, r_dnin]
    obtain ⟨o1, d1, q1⟩ := hW.get "LOAD_FAST"
    refine ⟨o1, d1, ?_⟩
    rw [q1, hn, if_pos (by decide)]
    exact k
end
end C31

set_option maxHeartbeats 2000000
namespace C31
open PySem PySem.Spec PyProof.Rows L2
/-! ### directions, as a pure function of rows -/
structure Pl where
  f : Int → Option Nat
  n : Nat
def plStep (s : Pl) (x : R5) : Pl := ⟨if x.w = "LABEL" then (fun m => if m = labI x.a then some s.n else s.f m) else s.f, s.n + 1⟩
def plTo (xs : List R5) : Pl := xs.foldl plStep ⟨fun _ => none, 0⟩
theorem pl_snoc {xs : List R5} {i : Nat} {x : R5} (h : xs[i]? = some x) : plTo (xs.take (i + 1)) = plStep (plTo (xs.take i)) x := by
  unfold plTo
  rw [List.take_add_one, h, List.foldl_append]
  rfl
theorem pl_n (xs : List R5) : ∀ i, i ≤ xs.length → (plTo (xs.take i)).n = i
  | 0, _ => rfl
  | i + 1, h => by
    rw [pl_snoc (List.getElem?_eq_getElem (by omega : i < xs.length))]
    show (plTo (xs.take i)).n + 1 = i + 1
    rw [pl_n xs i (by omega)]
def nf (f : Int → Option Nat) : Nat → Nat → Nat
  | 0, n => n
  | k + 1, n => if (f n).isSome = true then nf f k (n + 1) else n
theorem nf_le (f : Int → Option Nat) : ∀ k n, n ≤ nf f k n ∧ nf f k n ≤ n + k
  | 0, n => ⟨Nat.le_refl _, Nat.le_refl _⟩
  | k + 1, n => by
    unfold nf
    have := nf_le f k (n + 1)
    split <;> omega
def backW (z : Str) : Str := if z = "JUMP" then "JUMP_BACKWARD" else "JUMP_BACKWARD_NO_INTERRUPT"
def jumping (z : Str) : Bool := direct z || testing z
structure Dr where
  o : List R5
  free : Nat
  n : Nat
def upw (f : Int → Option Nat) (n : Nat) (x : R5) : Bool := decide (n < (f (labI x.a)).getD 0)
def drStep (f : Int → Option Nat) (B : Nat) (s : Dr) (x : R5) : Dr :=
  if direct x.w = true then ⟨s.o ++ [⟨if upw f s.n x = true then "JUMP_FORWARD" else backW x.w, x.a, x.l, x.h⟩], s.free, s.n + 1⟩
  else if testing x.w = true then
    (if upw f s.n x = true then ⟨s.o ++ [x], s.free, s.n + 1⟩
     else ⟨s.o ++ [⟨oppos x.w, .int (nf f (B - s.free) s.free : Nat), x.l, x.h⟩, ⟨"JUMP_BACKWARD", x.a, x.l, x.h⟩, ⟨"LABEL", .int (nf f (B - s.free) s.free : Nat), none, none⟩], nf f (B - s.free) s.free + 1, s.n + 1⟩)
  else ⟨s.o ++ [x], s.free, s.n + 1⟩
def drTo (f : Int → Option Nat) (B : Nat) (xs : List R5) : Dr := xs.foldl (drStep f B) ⟨[], 0, 0⟩
theorem dr_snoc {f : Int → Option Nat} {B : Nat} {xs : List R5} {i : Nat} {x : R5} (h : xs[i]? = some x) : drTo f B (xs.take (i + 1)) = drStep f B (drTo f B (xs.take i)) x := by
  unfold drTo
  rw [List.take_add_one, h, List.foldl_append]
  rfl
theorem dr_n (f : Int → Option Nat) (B : Nat) (xs : List R5) : ∀ i, i ≤ xs.length → (drTo f B (xs.take i)).n = i
  | 0, _ => rfl
  | i + 1, h => by
    rw [dr_snoc (List.getElem?_eq_getElem (by omega : i < xs.length))]
    have := dr_n f B xs i (by omega)
    unfold drStep
    split
    · show _ + 1 = _; omega
    · split
      · split
        · show _ + 1 = _; omega
        · show _ + 1 = _; omega
      · show _ + 1 = _; omega
structure DrL (s : Dr) (B i : Nat) : Prop where
  o : s.o.length ≤ 3 * i
  free : s.free ≤ B + i
theorem dr_len (f : Int → Option Nat) (B : Nat) (xs : List R5) : ∀ i, i ≤ xs.length → DrL (drTo f B (xs.take i)) B i
  | 0, _ => ⟨Nat.le_refl _, Nat.zero_le _⟩
  | i + 1, h => by
    rw [dr_snoc (List.getElem?_eq_getElem (by omega : i < xs.length))]
    obtain ⟨h1, h2⟩ := dr_len f B xs i (by omega)
    generalize drTo f B (xs.take i) = s at *
    have := nf_le f (B - s.free) s.free
    unfold drStep
    split
    · exact ⟨by simp; omega, by show s.free ≤ _; omega⟩
    · split
      · split
        · exact ⟨by simp; omega, by show s.free ≤ _; omega⟩
        · exact ⟨by simp; omega, by show nf f (B - s.free) s.free + 1 ≤ _; omega⟩
      · exact ⟨by simp; omega, by show s.free ≤ _; omega⟩
def isJ (xs : List R5) (i : Nat) : Bool := match xs[i]? with
  | some x => jumping x.w
  | none => false
/-- a stretch without jumps -/
theorem dr_seg (f : Int → Option Nat) (B : Nat) (xs : List R5) (d : Nat) : ∀ m, d + m ≤ xs.length → (∀ k, d ≤ k → k < d + m → isJ xs k = false) → drTo f B (xs.take (d + m)) = ⟨(drTo f B (xs.take d)).o ++ (xs.drop d).take m, (drTo f B (xs.take d)).free, d + m⟩
  | 0, h, _ => by
    have e := dr_n f B xs d h
    show drTo f B (xs.take d) = _
    generalize drTo f B (xs.take d) = s at *
    cases s
    cases e
    simp
  | m + 1, h, k => by
    have hi : xs[d + m]? = some xs[d + m] := List.getElem?_eq_getElem (by omega)
    have e : drTo f B (xs.take (d + m + 1)) = _ := dr_snoc hi
    show drTo f B (xs.take (d + m + 1)) = _
    rw [e, dr_seg f B xs d m (by omega) fun j h1 h2 => k j h1 (by omega)]
    have q := k (d + m) (by omega) (by omega)
    have q2 : jumping xs[d + m].w = false := by
      unfold isJ at q
      rw [hi] at q
      exact q
    have t1 : (xs.drop d).take (m + 1) = (xs.drop d).take m ++ [xs[d + m]] := by
      rw [List.take_add_one, List.getElem?_drop, hi]
      rfl
    have q3 : direct xs[d + m].w = false ∧ testing xs[d + m].w = false := by
      unfold jumping at q2
      exact Bool.or_eq_false_iff.mp q2
    unfold drStep
    rw [q3.1, q3.2, if_neg (by decide), if_neg (by decide), t1, List.append_assoc]
    rfl
theorem filt_head (p : Nat → Bool) : ∀ (m d a : Nat) (r : List Nat), (List.range' d m).filter p = a :: r → d ≤ a ∧ a < d + m ∧ p a = true ∧ (∀ k, d ≤ k → k < a → p k = false) ∧ r = (List.range' (a + 1) (d + m - (a + 1))).filter p
  | 0, d, a, r, h => by cases h
  | m + 1, d, a, r, h => by
    rw [List.range'_succ, List.filter_cons] at h
    by_cases c : p d = true
    · rw [if_pos c] at h
      injection h with h1 h2
      subst h1
      exact ⟨Nat.le_refl _, by omega, c, fun k h3 h4 => by omega, by rw [← h2, show d + (m + 1) - (d + 1) = m by omega]⟩
    · rw [if_neg c] at h
      obtain ⟨q1, q2, q3, q4, q5⟩ := filt_head p m (d + 1) a r h
      refine ⟨by omega, by omega, q3, fun k h3 h4 => ?_, by rw [q5, show d + 1 + m - (a + 1) = d + (m + 1) - (a + 1) by omega]⟩
      by_cases z : k = d
      · rw [z]; simpa using c
      · exact q4 k (by omega) h4
theorem filt_nil (p : Nat → Bool) : ∀ (m d : Nat), (List.range' d m).filter p = [] → ∀ k, d ≤ k → k < d + m → p k = false := fun m d h k h1 h2 => by
  have := List.filter_eq_nil_iff.mp h k (by rw [List.mem_range'_1]; omega)
  simpa using this
theorem cut_mid {xs : List V} {d a : Nat} (h : a ≤ xs.length) (h2 : d ≤ a) : cutV xs (some (d : Int)) (some (a : Int)) = (xs.drop d).take (a - d) := by
  unfold cutV
  rw [HT.sIx_nat, HT.sIx_nat, Nat.min_eq_left h, Nat.min_eq_left (Nat.le_trans h2 h)]
theorem cut_from {xs : List V} {d : Nat} (h : d ≤ xs.length) : cutV xs (some (d : Int)) none = xs.drop d := by
  unfold cutV
  rw [HT.sIx_nat, HT.sIx_none, Nat.min_eq_left h, List.take_of_length_le (by rw [List.length_drop]; exact Nat.le_refl _)]
end C31

set_option maxHeartbeats 2000000
namespace C31
open PySem PySem.Spec PyProof.Rows L2
structure DirT (K : PySem.W.Frag) (w : World) (mg : Str → Option Value) (D1 D2 D3 : Addr) : Prop where
  tt : InW K w mg "TURNING" D1 turning
  td : InW K w mg "DIRECTIONS" D2 direct
  tt3 : InW K w mg "OPPOSITES" D3 testing
  dk : ∀ z : Str, direct z = true → ∃ a, KDct K w D2 z (.ref a) ∧ KTup K a [.str "JUMP_FORWARD", .str (backW z)]
  ot : ∀ z : Str, testing z = true → KDct K w D3 z (.str (oppos z))
def t_b1 (K : PySem.W.Frag) (w : World) (D1 D2 D3 : Addr) : TS := tSeq (tAsg (tOp rIxd (tVar 4) (tC (V.int 0))) (gName 5)) (tIfS (tTest (tOp (rInT K D1) (tVar 5) (tC (V.ref D1)))) (tIfS (tTest (tOp rEq (tVar 5) (tC (V.str (Str.ofString "LABEL"))))) (sDPut (tVar 1) (tOp rIxd (tVar 4) (tC (V.int 1))) (tVar 3)) (tIfS (tOr (tTest (tOp (rInT K D2) (tVar 5) (tC (V.ref D2)))) (tTest (tOp (rInT K D3) (tVar 5) (tC (V.ref D3))))) (tDrop (tBM K "list" rAppend (tVar 2) (tCons (tVar 3) tNil))) tNext)) tNext)
def t_b3 (K : PySem.W.Frag) (w : World) (D1 D2 D3 : Addr) : TS := tIfS (tTest (tOp (rInT K D2) (tVar 5) (tC (V.ref D2)))) (tSeq (tAsg (tOp (rIxD K w) (tC (V.ref D2)) (tVar 5)) (gTup K 2 (gCons (gName 12) (gCons (gName 13) gNil)))) (tDrop (tBM K "list" rAppend (tVar 6) (tCons (tTup (tCons (tIf (tTest (tOp (rI0 fun i j => V.bl (decide (j < i))) (tDGet (tVar 1) (tVar 9)) (tVar 3))) (tVar 12) (tVar 13)) (tCons (tVar 9) (tCons (tVar 10) (tCons (tVar 11) tNil))))) tNil)))) (tIfS (tTest (tOp (rI0 fun i j => V.bl (decide (j < i))) (tDGet (tVar 1) (tVar 9)) (tVar 3))) (tDrop (tBM K "list" rAppend (tVar 6) (tCons (tOp rIxd (tVar 0) (tVar 3)) tNil))) (tSeq (tWhile (tB (tDIn (tVar 8) (tVar 1))) (tAug 8 (tC (V.int 1)) (ipI fun i j => i + j))) (tSeq (tDrop (tBM K "list" rAppend (tVar 6) (tCons (tTup (tCons (tOp (rIxD K w) (tC (V.ref D3)) (tVar 5)) (tCons (tVar 8) (tCons (tVar 10) (tCons (tVar 11) tNil))))) tNil))) (tSeq (tDrop (tBM K "list" rAppend (tVar 6) (tCons (tTup (tCons (tC (V.str (Str.ofString "JUMP_BACKWARD"))) (tCons (tVar 9) (tCons (tVar 10) (tCons (tVar 11) tNil))))) tNil))) (tSeq (tDrop (tBM K "list" rAppend (tVar 6) (tCons (tTup (tCons (tC (V.str (Str.ofString "LABEL"))) (tCons (tVar 8) (tCons (tC V.non) (tCons (tC V.non) tNil))))) tNil))) (tAug 8 (tC (V.int 1)) (ipI fun i j => i + j)))))))
def t_b2 (K : PySem.W.Frag) (w : World) (D1 D2 D3 : Addr) : TS := tSeq (tAsg (tOp rIxd (tVar 0) (tVar 3)) (gTupD 4 (gCons (gName 5) (gCons (gName 9) (gCons (gName 10) (gCons (gName 11) gNil)))))) (tSeq (tDrop (tBM K "list" rExtend (tVar 6) (tCons (L2.tSl rSld (tVar 0) (tPart (tVar 7)) (tPart (tVar 3))) tNil))) (tSeq (tAsg (tOp (rI0 fun i j => V.int (i + j)) (tVar 3) (tC (V.int 1))) (gName 7)) (t_b3 K w D1 D2 D3)))
def t_wd (K : PySem.W.Frag) (w : World) (D1 D2 D3 : Addr) : TS := tSeq (tAsg tDNewK (gName 1)) (tSeq (tAsg (tLst tNil) (gName 2)) (tSeq (tFor (iEnumS K (tCons (tVar 0) tNil)) (gTupD 2 (gCons (gName 3) (gCons (gName 4) gNil))) (t_b1 K w D1 D2 D3)) (tSeq (tAsg (tLst tNil) (gName 6)) (tSeq (tAsg (tC (V.int 0)) (gName 7)) (tSeq (tAsg (tC (V.int 0)) (gName 8)) (tSeq (tFor (iList K (tVar 2)) (gName 3) (t_b2 K w D1 D2 D3)) (tRet (tOp rCat (tVar 6) (L2.tSl rSld (tVar 0) (tPart (tVar 7)) tNoPart)))))))))
def PlD (H : Hp) (D : Addr) (f : Int → Option Nat) (l : Nat) : Prop := ∃ kvs : List (Key × V), H D = some (.dK kvs) ∧ kvs.length ≤ l ∧ ∀ n : Int, valV kvs (Sum.inl n : Key) = (f n).map fun k => V.int (k : Nat)
theorem PlD.imp {H H' : Hp} {D : Addr} {f : Int → Option Nat} {l : Nat} (h : PlD H D f l) (e : H' D = H D) : PlD H' D f l := let ⟨kvs, q, l, k⟩ := h; ⟨kvs, by rw [e]; exact q, l, k⟩
theorem PlD.put {H : Hp} {D : Addr} {f : Int → Option Nat} {l i : Nat} {n : Int} (h : PlD H D f l) (hl : l ≤ 100000) : ∃ H', DPut H D (.int n) (.int (i : Nat)) H' ∧ PlD H' D (fun m => if m = n then some i else f m) (l + 1) ∧ ∀ b, b ≠ D → H' b = H b := by
  obtain ⟨kvs, e, lk, k⟩ := h
  refine ⟨_, DPut.k (k := (Sum.inl n : Key)) e (Nat.lt_of_le_of_lt (by omega : _ ≤ 100000) (by decide)), ⟨_, upd_same, Nat.le_trans (length_putK kvs (Sum.inl n) _) (by omega), fun m => ?_⟩, fun b nb => upd_ne nb⟩
  rw [valV_put]
  by_cases c : m = n
  · rw [if_pos (by rw [c])]
    show _ = Option.map _ (if m = n then some i else f m)
    rw [if_pos c]
    rfl
  · rw [if_neg (by simpa using c)]
    show _ = Option.map _ (if m = n then some i else f m)
    rw [if_neg c, k]
theorem PlD.get {H : Hp} {D : Addr} {f : Int → Option Nat} {l : Nat} (h : PlD H D f l) (n : Int) : DGet H D (.int n) ((f n).map fun k => V.int (k : Nat)) := by
  obtain ⟨kvs, e, _, k⟩ := h
  rw [← k]
  exact DGet.k (k := (Sum.inl n : Key)) e
theorem PlD.mono {H : Hp} {D : Addr} {f : Int → Option Nat} {l l' : Nat} (h : PlD H D f l) (e : l ≤ l') : PlD H D f l' := let ⟨kvs, q, a, k⟩ := h; ⟨kvs, q, Nat.le_trans a e, k⟩
theorem jump_lead (z : Str) : jumping z = leading z := by
  rw [Bool.eq_iff_iff]
  unfold jumping direct testing leading
  rw [Bool.or_eq_true, decide_eq_true_iff, decide_eq_true_iff, decide_eq_true_iff]
  simp only [List.mem_cons, List.not_mem_nil, or_false, or_assoc]
def jsV (xs : List R5) (i : Nat) : List V := ((List.range' 0 i).filter (isJ xs)).map fun k => V.int (k : Nat)
theorem jsV_snoc {xs : List R5} {i : Nat} {x : R5} (h : xs[i]? = some x) : jsV xs (i + 1) = jsV xs i ++ (if jumping x.w = true then [.int (i : Nat)] else []) := by
  unfold jsV
  rw [List.range'_concat, List.filter_append, List.map_append]
  congr 1
  have e : isJ xs i = jumping x.w := by unfold isJ; rw [h]
  rw [show 0 + 1 * i = i by omega, List.filter_cons, e, List.filter_nil]
  split <;> rfl
theorem jsV_len (xs : List R5) (i : Nat) : (jsV xs i).length ≤ i := by
  unfold jsV
  rw [List.length_map]
  have := List.length_filter_le (isJ xs) (List.range' 0 i)
  rw [List.length_range'] at this
  exact this
/-- a row as directions are told of it -/
structure Ok4 (x : R5) : Prop where
  w : x.w ∈ FW
  a : (x.w = "LABEL" ∨ jumping x.w = true) → ∃ n : Int, x.a = .int n
theorem b1_run {K : PySem.W.Frag} {w : World} {mg : Str → Option Value} {D1 D2 D3 : Addr} (TD : DirT K w mg D1 D2 D3) {D : Ends} {F Pa J r : Addr} {s : Pl} {xs : List R5} {i l : Nat} {x : R5} {v5 : Option V} {H : Hp} (ok : Ok4 x) {hv : V} (er : H r = some (.tup [.str x.w, x.a, lnV x.l, hv])) (hP : PlD H Pa s.f l) (hJ : H J = some (.lst (jsV xs i))) (hx : xs[i]? = some x) (hs : s.n = i) (hl : l ≤ 60000) (hi : i ≤ 60000) (n1 : Pa ≠ J)
    (k : ∀ H' v5, (∀ b o, b ≠ Pa → b ≠ J → H b = some o → H' b = some o) → PlD H' Pa (plStep s x).f (l + 1) → H' J = some (.lst (jsV xs (i + 1))) → D.nx [some (.ref F), some (.ref Pa), some (.ref J), some (.int i), some (.ref r), v5, none, none, none, none, none, none, none, none] H') :
    t_b1 K w D1 D2 D3 D [some (.ref F), some (.ref Pa), some (.ref J), some (.int i), some (.ref r), v5, none, none, none, none, none, none, none, none] H := by
  unfold t_b1
  simp only [r_seq, r_next, r_brk, r_cont, r_asg, r_name, r_ret, r_retN, r_drop, r_ifs, r_never, r_var, r_c, r_op, r_un, r_if, r_tst, r_b, r_not, r_and, r_or, r_andV, r_orV, r_notV, r_nil, r_cons, r_tup, r_lst, r_cb, r_call, r_bm, r_bm0, r_sl, r_nopart, r_part, r_rev, r_gnil, r_gcons, r_gsub, r_par, r_aug, r_chain, r_I0, r_I, r_U, r_ixd, r_lend, r_tupd, r_listd, r_sld, r_app, r_ext, r_reverse, r_setl, r_cat, r_int1, r_eqS, r_neS, scal_ii, scal_bb, scal_ss, at0, at1, at2, sq_lst, sq_tup, isLst_lst, List.getElem?_cons_zero, List.getElem?_cons_succ, List.set_cons_zero, List.set_cons_succ, V.int.injEq, V.bl.injEq, V.ref.injEq, V.str.injEq, HO.lst.injEq, HO.tup.injEq, Option.some.injEq, exists_eq_left', exists_eq_left, List.cons.injEq, and_true, true_and, decide_eq_true_eq, reduceCtorEq, false_and, exists_false, or_false, false_or, exists_const, and_assoc, exists_and_left, List.append_nil, ix0, ix1, ix2, cm_mod, cdw1009, cdw2003, cdw7, cdw64, cdw2, cm104729, cm2, cm3, upd_same, List.length_cons, List.length_nil, Int.reduceLT, Int.reduceLE, Nat.reduceAdd, Nat.reduceLeDiff, Nat.reduceLT, Int.reduceToNat, r_for1, r_forL, r_forT, r_lcL, r_lc1, r_yes, r_gtupD, wipe_0, wipe_1, List.cons_append, List.nil_append, r_forS, r_ipI, ite_false, ite_true, Bool.not_true, Bool.not_false, decide_true, decide_false, r_isd, r_islt, cD_ty, cD_ref, tD_non, tD_bl, tD_int, tD_str, tD_ref, tH_lst, tH_tup, tH_dK, tH_ins, ki_self, ki_int_bool, ki_non_int, ki_str_int, ki_lt_lst, ki_lt_tup, r_fld, r_sfld, HO.ins.injEq, cx_K, er]
  refine TD.tt.inT ok.w ⟨_, rfl, ?_⟩
  have nj : jumping x.w = false → jsV xs (i + 1) = jsV xs i := fun q => by rw [jsV_snoc hx, q, if_neg (by decide), List.append_nil]
  have pf : x.w ≠ "LABEL" → (plStep s x).f = s.f := fun c => by unfold plStep; rw [if_neg c]
  by_cases ct : turning x.w = true
  · rw [if_pos ct]
    by_cases c1 : x.w = "LABEL"
    · rw [if_pos c1]
      obtain ⟨n, en⟩ := ok.a (.inl c1)
      obtain ⟨H2, dp, hP2, kP⟩ := hP.put (n := n) (i := i) (by omega)
      rw [en] at er
      rw [r_sput]
      simp only [r_seq, r_next, r_brk, r_cont, r_asg, r_name, r_ret, r_retN, r_drop, r_ifs, r_never, r_var, r_c, r_op, r_un, r_if, r_tst, r_b, r_not, r_and, r_or, r_andV, r_orV, r_notV, r_nil, r_cons, r_tup, r_lst, r_cb, r_call, r_bm, r_bm0, r_sl, r_nopart, r_part, r_rev, r_gnil, r_gcons, r_gsub, r_par, r_aug, r_chain, r_I0, r_I, r_U, r_ixd, r_lend, r_tupd, r_listd, r_sld, r_app, r_ext, r_reverse, r_setl, r_cat, r_int1, r_eqS, r_neS, scal_ii, scal_bb, scal_ss, at0, at1, at2, sq_lst, sq_tup, isLst_lst, List.getElem?_cons_zero, List.getElem?_cons_succ, List.set_cons_zero, List.set_cons_succ, V.int.injEq, V.bl.injEq, V.ref.injEq, V.str.injEq, HO.lst.injEq, HO.tup.injEq, Option.some.injEq, exists_eq_left', exists_eq_left, List.cons.injEq, and_true, true_and, decide_eq_true_eq, reduceCtorEq, false_and, exists_false, or_false, false_or, exists_const, and_assoc, exists_and_left, List.append_nil, ix0, ix1, ix2, cm_mod, cdw1009, cdw2003, cdw7, cdw64, cdw2, cm104729, cm2, cm3, upd_same, List.length_cons, List.length_nil, Int.reduceLT, Int.reduceLE, Nat.reduceAdd, Nat.reduceLeDiff, Nat.reduceLT, Int.reduceToNat, r_for1, r_forL, r_forT, r_lcL, r_lc1, r_yes, r_gtupD, wipe_0, wipe_1, List.cons_append, List.nil_append, r_forS, r_ipI, ite_false, ite_true, Bool.not_true, Bool.not_false, decide_true, decide_false, r_isd, r_islt, cD_ty, cD_ref, tD_non, tD_bl, tD_int, tD_str, tD_ref, tH_lst, tH_tup, tH_dK, tH_ins, ki_self, ki_int_bool, ki_non_int, ki_str_int, ki_lt_lst, ki_lt_tup, r_fld, r_sfld, HO.ins.injEq, cx_K, er]
      refine ⟨H2, dp, ?_⟩
      refine k H2 _ (fun b o nP nJ e => by rw [kP b nP]; exact e) ?_ ?_
      · have e : (plStep s x).f = fun m => if m = n then some i else s.f m := by unfold plStep; rw [if_pos c1, hs, en]; rfl
        rw [e]
        exact hP2
      · rw [kP J n1.symm, hJ, nj (by rw [c1]; rfl)]
    · rw [if_neg c1]
      have yes : jumping x.w = true → tyV K "list" (V.ref J) H ∧ ∃ ys, H J = some (HO.lst ys) ∧ ys.length < sizeLine ∧ D.nx [some (V.ref F), some (V.ref Pa), some (V.ref J), some (V.int ↑i), some (V.ref r), some (V.str x.w), none, none, none, none, none, none, none, none] (upd H J (HO.lst (ys ++ [V.int ↑i]))) := fun q =>
        ⟨tyl hJ, _, hJ, Nat.lt_of_le_of_lt (Nat.le_trans (jsV_len xs i) hi) (by decide), k _ _ (fun b o _ nJ e => by rw [upd_ne nJ]; exact e) (by rw [pf c1]; exact (hP.imp (upd_ne n1)).mono (Nat.le_succ _)) (by rw [upd_same, jsV_snoc hx, if_pos q])⟩
      refine TD.td.inT ok.w ⟨_, rfl, ?_⟩
      by_cases c2 : direct x.w = true
      · rw [if_pos c2]
        exact yes (by unfold jumping; rw [c2]; rfl)
      · rw [if_neg c2]
        refine TD.tt3.inT ok.w ⟨_, rfl, ?_⟩
        by_cases c3 : testing x.w = true
        · rw [if_pos c3]
          exact yes (by unfold jumping; rw [c3, Bool.or_true])
        · rw [if_neg c3]
          exact k H _ (fun _ _ _ _ e => e) (by rw [pf c1]; exact hP.mono (Nat.le_succ _)) (by rw [hJ, nj (by unfold jumping; simp [c2, c3])])
  · rw [if_neg ct]
    have c1 : x.w ≠ "LABEL" := fun z => ct (by rw [z]; rfl)
    have c2 : jumping x.w = false := by
      rw [jump_lead]
      cases q : leading x.w with
      | false => rfl
      | true => exact absurd (by unfold turning; rw [q]; rfl) ct
    exact k H _ (fun _ _ _ _ e => e) (by rw [pf c1]; exact hP.mono (Nat.le_succ _)) (by rw [hJ, nj c2])
theorem Paired.app' {α β : Type} {F : α → β → Prop} : ∀ {l1 m1 : List α} {l2 m2 : List β}, Paired F l1 l2 → Paired F m1 m2 → Paired F (l1 ++ m1) (l2 ++ m2)
  | _, _, _, _, .nil, h => h
  | _, _, _, _, .cons h t, k => .cons h (Paired.app' t k)
theorem Paired.drop' {α β : Type} {F : α → β → Prop} : ∀ {l1 : List α} {l2 : List β} (n : Nat), Paired F l1 l2 → Paired F (l1.drop n) (l2.drop n)
  | _, _, 0, p => p
  | _, _, n + 1, .nil => .nil
  | _, _, n + 1, .cons _ p => Paired.drop' n p
theorem Paired.take' {α β : Type} {F : α → β → Prop} : ∀ {l1 : List α} {l2 : List β} (n : Nat), Paired F l1 l2 → Paired F (l1.take n) (l2.take n)
  | _, _, 0, p => .nil
  | _, _, n + 1, .nil => .nil
  | _, _, n + 1, .cons h p => .cons h (Paired.take' n p)
def S14w (F Pa J G : Addr) (a free : Nat) (v4' : Option V) (x : R5) (hv : V) (v12 v13 : Option V) : L2.St := [some (.ref F), some (.ref Pa), some (.ref J), some (.int (a : Nat)), v4', some (.str x.w), some (.ref G), some (.int ((a + 1 : Nat) : Int)), some (.int (free : Nat)), some x.a, some (lnV x.l), some hv, v12, v13]
def LvN (F Pa J G : Addr) (a : Nat) (v4' : Option V) (x : R5) (hv : V) (v12 v13 : Option V) (f : Int → Option Nat) (B fr : Nat) (H : Hp) (σ : L2.St) (H' : Hp) : Prop := ∃ m, σ = S14w F Pa J G a m v4' x hv v12 v13 ∧ H' = H ∧ nf f (B - m) m = fr
def msN (B : Nat) : L2.St → Nat
  | [_, _, _, _, _, _, _, _, some (V.int i), _, _, _, _, _] => B - i.toNat
  | _ => 0
theorem b3_run {K : PySem.W.Frag} {w : World} {mg : Str → Option Value} {D1 D2 D3 : Addr} (TD : DirT K w mg D1 D2 D3) {D : Ends} {F Pa J G : Addr} {f : Int → Option Nat} {B a l : Nat} {s : Dr} {xs : List R5} {x : R5} {v4' v12 v13 : Option V} {H : Hp} (ok : Ok4 x) (jl : jumping x.w = true → ∃ n m, x.a = .int n ∧ f n = some m) (hB : ∀ n : Nat, B ≤ n → f n = none) (hF : Rs5 H F xs) (hP : PlD H Pa f l) (hG : Rs5 H G s.o) {hv : V} (hh : HdV H hv x.h) (hx : xs[a]? = some x) (hj : jumping x.w = true) (hs : s.n = a) (lo : s.o.length ≤ 200000)
    (k : ∀ H' v12 v13, (∀ b o, b ≠ G → H b = some o → H' b = some o) → Rs5 H' G (drStep f B s x).o → D.nx [some (.ref F), some (.ref Pa), some (.ref J), some (.int (a : Nat)), v4', some (.str x.w), some (.ref G), some (.int ((a + 1 : Nat) : Int)), some (.int ((drStep f B s x).free : Nat)), some x.a, some (lnV x.l), some hv, v12, v13] H') :
    t_b3 K w D1 D2 D3 D [some (.ref F), some (.ref Pa), some (.ref J), some (.int (a : Nat)), v4', some (.str x.w), some (.ref G), some (.int ((a + 1 : Nat) : Int)), some (.int (s.free : Nat)), some x.a, some (lnV x.l), some hv, v12, v13] H := by
  unfold t_b3
  obtain ⟨n, m, en, em⟩ := jl hj
  have dg := hP.get n
  rw [em] at dg
  have ul : upw f s.n x = decide (a < m) := by unfold upw; rw [hs, en]; show decide (a < (f n).getD 0) = _; rw [em]; rfl
  unfold drStep at k
  rw [ul] at k
  obtain ⟨refs, eG, pG⟩ := hG
  have lr := Paired.length pG
  have szf : (refs.map V.ref).length < sizeLine := Nat.lt_of_le_of_lt (by rw [List.length_map]; omega : _ ≤ 200000) (by decide)
  simp only [r_seq, r_next, r_brk, r_cont, r_asg, r_name, r_ret, r_retN, r_drop, r_ifs, r_never, r_var, r_c, r_op, r_un, r_if, r_tst, r_b, r_not, r_and, r_or, r_andV, r_orV, r_notV, r_nil, r_cons, r_tup, r_lst, r_cb, r_call, r_bm, r_bm0, r_sl, r_nopart, r_part, r_rev, r_gnil, r_gcons, r_gsub, r_par, r_aug, r_chain, r_I0, r_I, r_U, r_ixd, r_lend, r_tupd, r_listd, r_sld, r_app, r_ext, r_reverse, r_setl, r_cat, r_int1, r_eqS, r_neS, scal_ii, scal_bb, scal_ss, at0, at1, at2, sq_lst, sq_tup, isLst_lst, List.getElem?_cons_zero, List.getElem?_cons_succ, List.set_cons_zero, List.set_cons_succ, V.int.injEq, V.bl.injEq, V.ref.injEq, V.str.injEq, HO.lst.injEq, HO.tup.injEq, Option.some.injEq, exists_eq_left', exists_eq_left, List.cons.injEq, and_true, true_and, decide_eq_true_eq, reduceCtorEq, false_and, exists_false, or_false, false_or, exists_const, and_assoc, exists_and_left, List.append_nil, ix0, ix1, ix2, cm_mod, cdw1009, cdw2003, cdw7, cdw64, cdw2, cm104729, cm2, cm3, upd_same, List.length_cons, List.length_nil, Int.reduceLT, Int.reduceLE, Nat.reduceAdd, Nat.reduceLeDiff, Nat.reduceLT, Int.reduceToNat, r_for1, r_forL, r_forT, r_lcL, r_lc1, r_yes, r_gtupD, wipe_0, wipe_1, List.cons_append, List.nil_append, r_forS, r_ipI, ite_false, ite_true, Bool.not_true, Bool.not_false, decide_true, decide_false, r_isd, r_islt, cD_ty, cD_ref, tD_non, tD_bl, tD_int, tD_str, tD_ref, tH_lst, tH_tup, tH_dK, tH_ins, ki_self, ki_int_bool, ki_non_int, ki_str_int, ki_lt_lst, ki_lt_tup, r_fld, r_sfld, HO.ins.injEq, cx_K, r_dget, r_ixD]
  refine TD.td.inT ok.w ⟨_, rfl, ?_⟩
  by_cases c : direct x.w = true
  · rw [if_pos c]
    obtain ⟨p, q1, q2⟩ := TD.dk _ c
    rw [if_pos c] at k
    refine ⟨_, q1, ?_⟩
    rw [r_gtup]
    refine ⟨p, _, rfl, q2.s H, rfl, ?_⟩
    simp only [r_seq, r_next, r_brk, r_cont, r_asg, r_name, r_ret, r_retN, r_drop, r_ifs, r_never, r_var, r_c, r_op, r_un, r_if, r_tst, r_b, r_not, r_and, r_or, r_andV, r_orV, r_notV, r_nil, r_cons, r_tup, r_lst, r_cb, r_call, r_bm, r_bm0, r_sl, r_nopart, r_part, r_rev, r_gnil, r_gcons, r_gsub, r_par, r_aug, r_chain, r_I0, r_I, r_U, r_ixd, r_lend, r_tupd, r_listd, r_sld, r_app, r_ext, r_reverse, r_setl, r_cat, r_int1, r_eqS, r_neS, scal_ii, scal_bb, scal_ss, at0, at1, at2, sq_lst, sq_tup, isLst_lst, List.getElem?_cons_zero, List.getElem?_cons_succ, List.set_cons_zero, List.set_cons_succ, V.int.injEq, V.bl.injEq, V.ref.injEq, V.str.injEq, HO.lst.injEq, HO.tup.injEq, Option.some.injEq, exists_eq_left', exists_eq_left, List.cons.injEq, and_true, true_and, decide_eq_true_eq, reduceCtorEq, false_and, exists_false, or_false, false_or, exists_const, and_assoc, exists_and_left, List.append_nil, ix0, ix1, ix2, cm_mod, cdw1009, cdw2003, cdw7, cdw64, cdw2, cm104729, cm2, cm3, upd_same, List.length_cons, List.length_nil, Int.reduceLT, Int.reduceLE, Nat.reduceAdd, Nat.reduceLeDiff, Nat.reduceLT, Int.reduceToNat, r_for1, r_forL, r_forT, r_lcL, r_lc1, r_yes, r_gtupD, wipe_0, wipe_1, List.cons_append, List.nil_append, r_forS, r_ipI, ite_false, ite_true, Bool.not_true, Bool.not_false, decide_true, decide_false, r_isd, r_islt, cD_ty, cD_ref, tD_non, tD_bl, tD_int, tD_str, tD_ref, tH_lst, tH_tup, tH_dK, tH_ins, ki_self, ki_int_bool, ki_non_int, ki_str_int, ki_lt_lst, ki_lt_tup, r_fld, r_sfld, HO.ins.injEq, cx_K, r_dget]
    rw [← en] at dg
    refine ⟨tyl eG, _, dg, _, rfl, ?_⟩
    by_cases u : a < m
    · rw [if_pos (decide_eq_true u)] at k
      rw [if_pos (by omega)]
      refine ⟨szl (by decide), fun p hp => ⟨_, by rw [upd_ne (ne_new eG hp)]; exact eG, szf, ?_⟩⟩
      obtain ⟨r1, r2⟩ := rs5_app (y := ⟨"JUMP_FORWARD", x.a, x.l, x.h⟩) (hv := hv) eG pG hp hh
      exact k _ _ _ r2 r1
    · rw [if_neg (by simpa using u)] at k
      rw [if_neg (by omega)]
      refine ⟨szl (by decide), fun p hp => ⟨_, by rw [upd_ne (ne_new eG hp)]; exact eG, szf, ?_⟩⟩
      obtain ⟨r1, r2⟩ := rs5_app (y := ⟨backW x.w, x.a, x.l, x.h⟩) (hv := hv) eG pG hp hh
      exact k _ _ _ r2 r1
  · rw [if_neg c]
    rw [if_neg c] at k
    have c2 : testing x.w = true := by unfold jumping at hj; simpa [c] using hj
    rw [if_pos c2] at k
    rw [← en] at dg
    refine ⟨_, dg, _, rfl, ?_⟩
    by_cases u : a < m
    · rw [if_pos (decide_eq_true u)] at k
      rw [if_pos (by omega)]
      obtain ⟨rs, eF, pF⟩ := hF
      have lp := Paired.length pF
      obtain ⟨hi, ex⟩ := List.getElem?_eq_some_iff.mp hx
      have hi' : a < rs.length := by omega
      have hrt := Paired.at' pF hi' hi
      rw [ex] at hrt
      refine ⟨tyl eG, _, by rw [eF]; rfl, V.ref rs[a], atI_nat (by rw [List.getElem?_map, List.getElem?_eq_getElem hi']; rfl), _, eG, szf, ?_⟩
      obtain ⟨r1, r2⟩ := rs5_ext (rs := [rs[a]]) (ys := [x]) eG pG (.cons hrt .nil)
      exact k _ _ _ r2 r1
    · rw [if_neg (by simpa using u)] at k
      rw [if_neg (by omega)]
      refine while_d (LvN F Pa J G a v4' x hv v12 v13 f B (nf f (B - s.free) s.free) H) (fun σ _ => msN B σ) ⟨s.free, rfl, rfl, rfl⟩ ?_
      rintro σ H1 ⟨i, rfl, rfl, ei⟩
      have dgi := hP.get (i : Int)
      refine ⟨(f i).isSome, fun Q q => ?_, fun e => ?_, fun e => ?_⟩
      · unfold S14w
        simp only [r_seq, r_next, r_brk, r_cont, r_asg, r_name, r_ret, r_retN, r_drop, r_ifs, r_never, r_var, r_c, r_op, r_un, r_if, r_tst, r_b, r_not, r_and, r_or, r_andV, r_orV, r_notV, r_nil, r_cons, r_tup, r_lst, r_cb, r_call, r_bm, r_bm0, r_sl, r_nopart, r_part, r_rev, r_gnil, r_gcons, r_gsub, r_par, r_aug, r_chain, r_I0, r_I, r_U, r_ixd, r_lend, r_tupd, r_listd, r_sld, r_app, r_ext, r_reverse, r_setl, r_cat, r_int1, r_eqS, r_neS, scal_ii, scal_bb, scal_ss, at0, at1, at2, sq_lst, sq_tup, isLst_lst, List.getElem?_cons_zero, List.getElem?_cons_succ, List.set_cons_zero, List.set_cons_succ, V.int.injEq, V.bl.injEq, V.ref.injEq, V.str.injEq, HO.lst.injEq, HO.tup.injEq, Option.some.injEq, exists_eq_left', exists_eq_left, List.cons.injEq, and_true, true_and, decide_eq_true_eq, reduceCtorEq, false_and, exists_false, or_false, false_or, exists_const, and_assoc, exists_and_left, List.append_nil, ix0, ix1, ix2, cm_mod, cdw1009, cdw2003, cdw7, cdw64, cdw2, cm104729, cm2, cm3, upd_same, List.length_cons, List.length_nil, Int.reduceLT, Int.reduceLE, Nat.reduceAdd, Nat.reduceLeDiff, Nat.reduceLT, Int.reduceToNat, r_for1, r_forL, r_forT, r_lcL, r_lc1, r_yes, r_gtupD, wipe_0, wipe_1, List.cons_append, List.nil_append, r_forS, r_ipI, ite_false, ite_true, Bool.not_true, Bool.not_false, decide_true, decide_false, r_isd, r_islt, cD_ty, cD_ref, tD_non, tD_bl, tD_int, tD_str, tD_ref, tH_lst, tH_tup, tH_dK, tH_ins, ki_self, ki_int_bool, ki_non_int, ki_str_int, ki_lt_lst, ki_lt_tup, r_fld, r_sfld, HO.ins.injEq, cx_K, r_dinE]
        refine ⟨_, dgi, ?_⟩
        rw [Option.isSome_map]
        exact q
      · have iB : i < B := Decidable.byContradiction fun z => by rw [hB i (by omega)] at e; cases e
        unfold S14w
        simp only [r_seq, r_next, r_brk, r_cont, r_asg, r_name, r_ret, r_retN, r_drop, r_ifs, r_never, r_var, r_c, r_op, r_un, r_if, r_tst, r_b, r_not, r_and, r_or, r_andV, r_orV, r_notV, r_nil, r_cons, r_tup, r_lst, r_cb, r_call, r_bm, r_bm0, r_sl, r_nopart, r_part, r_rev, r_gnil, r_gcons, r_gsub, r_par, r_aug, r_chain, r_I0, r_I, r_U, r_ixd, r_lend, r_tupd, r_listd, r_sld, r_app, r_ext, r_reverse, r_setl, r_cat, r_int1, r_eqS, r_neS, scal_ii, scal_bb, scal_ss, at0, at1, at2, sq_lst, sq_tup, isLst_lst, List.getElem?_cons_zero, List.getElem?_cons_succ, List.set_cons_zero, List.set_cons_succ, V.int.injEq, V.bl.injEq, V.ref.injEq, V.str.injEq, HO.lst.injEq, HO.tup.injEq, Option.some.injEq, exists_eq_left', exists_eq_left, List.cons.injEq, and_true, true_and, decide_eq_true_eq, reduceCtorEq, false_and, exists_false, or_false, false_or, exists_const, and_assoc, exists_and_left, List.append_nil, ix0, ix1, ix2, cm_mod, cdw1009, cdw2003, cdw7, cdw64, cdw2, cm104729, cm2, cm3, upd_same, List.length_cons, List.length_nil, Int.reduceLT, Int.reduceLE, Nat.reduceAdd, Nat.reduceLeDiff, Nat.reduceLT, Int.reduceToNat, r_for1, r_forL, r_forT, r_lcL, r_lc1, r_yes, r_gtupD, wipe_0, wipe_1, List.cons_append, List.nil_append, r_forS, r_ipI, ite_false, ite_true, Bool.not_true, Bool.not_false, decide_true, decide_false, r_isd, r_islt, cD_ty, cD_ref, tD_non, tD_bl, tD_int, tD_str, tD_ref, tH_lst, tH_tup, tH_dK, tH_ins, ki_self, ki_int_bool, ki_non_int, ki_str_int, ki_lt_lst, ki_lt_tup, r_fld, r_sfld, HO.ins.injEq, cx_K]
        refine ⟨⟨i + 1, rfl, rfl, ?_⟩, ?_⟩
        · rw [← ei, show B - i = (B - (i + 1)) + 1 by omega]
          show _ = if (f i).isSome = true then _ else _
          rw [if_pos e]
        · show B - ((i : Int) + 1).toNat < B - (i : Int).toNat
          omega
      · have ek : nf f (B - s.free) s.free = i := by
          rw [← ei]
          cases B - i with
          | zero => rfl
          | succ q => show (if (f i).isSome = true then _ else i) = i; rw [e, if_neg (by decide)]
        rw [ek] at k
        unfold S14w
        simp only [r_seq, r_next, r_brk, r_cont, r_asg, r_name, r_ret, r_retN, r_drop, r_ifs, r_never, r_var, r_c, r_op, r_un, r_if, r_tst, r_b, r_not, r_and, r_or, r_andV, r_orV, r_notV, r_nil, r_cons, r_tup, r_lst, r_cb, r_call, r_bm, r_bm0, r_sl, r_nopart, r_part, r_rev, r_gnil, r_gcons, r_gsub, r_par, r_aug, r_chain, r_I0, r_I, r_U, r_ixd, r_lend, r_tupd, r_listd, r_sld, r_app, r_ext, r_reverse, r_setl, r_cat, r_int1, r_eqS, r_neS, scal_ii, scal_bb, scal_ss, at0, at1, at2, sq_lst, sq_tup, isLst_lst, List.getElem?_cons_zero, List.getElem?_cons_succ, List.set_cons_zero, List.set_cons_succ, V.int.injEq, V.bl.injEq, V.ref.injEq, V.str.injEq, HO.lst.injEq, HO.tup.injEq, Option.some.injEq, exists_eq_left', exists_eq_left, List.cons.injEq, and_true, true_and, decide_eq_true_eq, reduceCtorEq, false_and, exists_false, or_false, false_or, exists_const, and_assoc, exists_and_left, List.append_nil, ix0, ix1, ix2, cm_mod, cdw1009, cdw2003, cdw7, cdw64, cdw2, cm104729, cm2, cm3, upd_same, List.length_cons, List.length_nil, Int.reduceLT, Int.reduceLE, Nat.reduceAdd, Nat.reduceLeDiff, Nat.reduceLT, Int.reduceToNat, r_for1, r_forL, r_forT, r_lcL, r_lc1, r_yes, r_gtupD, wipe_0, wipe_1, List.cons_append, List.nil_append, r_forS, r_ipI, ite_false, ite_true, Bool.not_true, Bool.not_false, decide_true, decide_false, r_isd, r_islt, cD_ty, cD_ref, tD_non, tD_bl, tD_int, tD_str, tD_ref, tH_lst, tH_tup, tH_dK, tH_ins, ki_self, ki_int_bool, ki_non_int, ki_str_int, ki_lt_lst, ki_lt_tup, r_fld, r_sfld, HO.ins.injEq, cx_K, r_ixD]
        refine ⟨tyl eG, _, TD.ot _ c2, szl (by decide), fun p hp => ⟨_, by rw [upd_ne (ne_new eG hp)]; exact eG, szf, ?_⟩⟩
        obtain ⟨⟨rs1, e1, p1⟩, k1⟩ := rs5_app (y := ⟨oppos x.w, .int (i : Nat), x.l, x.h⟩) (hv := hv) eG pG hp hh
        have e1 : L2.upd (L2.upd H1 p (.tup [.str (oppos x.w), .int (i : Nat), lnV x.l, hv])) G (.lst (refs.map V.ref ++ [.ref p])) G = some (.lst (rs1.map V.ref)) := e1
        have p1 : Paired (Row5 (L2.upd (L2.upd H1 p (.tup [.str (oppos x.w), .int (i : Nat), lnV x.l, hv])) G (.lst (refs.map V.ref ++ [.ref p])))) rs1 (s.o ++ [⟨oppos x.w, .int (i : Nat), x.l, x.h⟩]) := p1
        have k1 : ∀ b o, b ≠ G → H1 b = some o → L2.upd (L2.upd H1 p (.tup [.str (oppos x.w), .int (i : Nat), lnV x.l, hv])) G (.lst (refs.map V.ref ++ [.ref p])) b = some o := k1
        have hh1 : HdV (L2.upd (L2.upd H1 p (.tup [.str (oppos x.w), .int (i : Nat), lnV x.l, hv])) G (.lst (refs.map V.ref ++ [.ref p]))) hv x.h := hh.imp fun b ys e => k1 _ _ (fun z => by rw [z, eG] at e; cases e) e
        generalize L2.upd (L2.upd H1 p (.tup [.str (oppos x.w), .int (i : Nat), lnV x.l, hv])) G (.lst (refs.map V.ref ++ [.ref p])) = H2 at *
        have l1 := Paired.length p1
        rw [List.length_append, List.length_singleton] at l1
        have szf1 : (rs1.map V.ref).length < sizeLine := Nat.lt_of_le_of_lt (by rw [List.length_map]; omega : _ ≤ 200001) (by decide)
        refine ⟨tyl e1, szl (by decide), fun p hp => ⟨_, by rw [upd_ne (ne_new e1 hp)]; exact e1, szf1, ?_⟩⟩
        obtain ⟨⟨rs2, e2, p2⟩, k2⟩ := rs5_app (y := ⟨"JUMP_BACKWARD", x.a, x.l, x.h⟩) (hv := hv) e1 p1 hp hh1
        have e2 : L2.upd (L2.upd H2 p (.tup [.str "JUMP_BACKWARD", x.a, lnV x.l, hv])) G (.lst (rs1.map V.ref ++ [.ref p])) G = some (.lst (rs2.map V.ref)) := e2
        have p2 : Paired (Row5 (L2.upd (L2.upd H2 p (.tup [.str "JUMP_BACKWARD", x.a, lnV x.l, hv])) G (.lst (rs1.map V.ref ++ [.ref p])))) rs2 (s.o ++ [⟨oppos x.w, .int (i : Nat), x.l, x.h⟩] ++ [⟨"JUMP_BACKWARD", x.a, x.l, x.h⟩]) := p2
        have k2 : ∀ b o, b ≠ G → H2 b = some o → L2.upd (L2.upd H2 p (.tup [.str "JUMP_BACKWARD", x.a, lnV x.l, hv])) G (.lst (rs1.map V.ref ++ [.ref p])) b = some o := k2
        generalize L2.upd (L2.upd H2 p (.tup [.str "JUMP_BACKWARD", x.a, lnV x.l, hv])) G (.lst (rs1.map V.ref ++ [.ref p])) = H3 at *
        have l2 := Paired.length p2
        rw [List.length_append, List.length_append, List.length_singleton, List.length_singleton] at l2
        have szf2 : (rs2.map V.ref).length < sizeLine := Nat.lt_of_le_of_lt (by rw [List.length_map]; omega : _ ≤ 200002) (by decide)
        refine ⟨tyl e2, szl (by decide), fun p hp => ⟨_, by rw [upd_ne (ne_new e2 hp)]; exact e2, szf2, ?_⟩⟩
        obtain ⟨r3, k3⟩ := rs5_app (y := ⟨"LABEL", .int (i : Nat), none, none⟩) (hv := .non) e2 p2 hp rfl
        refine k _ _ _ (fun b o nG e => k3 _ _ nG (k2 _ _ nG (k1 _ _ nG e))) ?_
        have ea : s.o ++ [⟨oppos x.w, .int (i : Nat), x.l, x.h⟩, ⟨"JUMP_BACKWARD", x.a, x.l, x.h⟩, ⟨"LABEL", .int (i : Nat), none, none⟩] = s.o ++ [⟨oppos x.w, .int (i : Nat), x.l, x.h⟩] ++ [⟨"JUMP_BACKWARD", x.a, x.l, x.h⟩] ++ [(⟨"LABEL", .int (i : Nat), none, none⟩ : R5)] := by simp
        show Rs5 _ G (s.o ++ [⟨oppos x.w, .int (i : Nat), x.l, x.h⟩, ⟨"JUMP_BACKWARD", x.a, x.l, x.h⟩, ⟨"LABEL", .int (i : Nat), none, none⟩])
        rw [ea]
        exact r3
theorem b2_run {K : PySem.W.Frag} {w : World} {mg : Str → Option Value} {D1 D2 D3 : Addr} (TD : DirT K w mg D1 D2 D3) {D : Ends} {F Pa J G : Addr} {f : Int → Option Nat} {B d a free l : Nat} {fs xs : List R5} {x : R5} {v4' v5 v9 v10 v11 v12 v13 : Option V} {H : Hp} (ok : Ok4 x) (jl : jumping x.w = true → ∃ n m, x.a = .int n ∧ f n = some m) (hB : ∀ n : Nat, B ≤ n → f n = none) (hF : Rs5 H F xs) (hP : PlD H Pa f l) (hG : Rs5 H G fs) (hx : xs[a]? = some x) (hj : jumping x.w = true) (hd : d ≤ a) (lo : fs.length ≤ 100000) (lx : xs.length ≤ 60000) (n1 : F ≠ G) (n2 : Pa ≠ G)
    (k : ∀ H' v5 v9 v10 v11 v12 v13, (∀ b o, b ≠ G → H b = some o → H' b = some o) → Rs5 H' G (drStep f B ⟨fs ++ (xs.drop d).take (a - d), free, a⟩ x).o → D.nx [some (.ref F), some (.ref Pa), some (.ref J), some (.int (a : Nat)), v4', v5, some (.ref G), some (.int ((a + 1 : Nat) : Int)), some (.int ((drStep f B ⟨fs ++ (xs.drop d).take (a - d), free, a⟩ x).free : Nat)), v9, v10, v11, v12, v13] H') :
    t_b2 K w D1 D2 D3 D [some (.ref F), some (.ref Pa), some (.ref J), some (.int (a : Nat)), v4', v5, some (.ref G), some (.int (d : Nat)), some (.int (free : Nat)), v9, v10, v11, v12, v13] H := by
  unfold t_b2
  simp only [r_seq, r_next, r_brk, r_cont, r_asg, r_name, r_ret, r_retN, r_drop, r_ifs, r_never, r_var, r_c, r_op, r_un, r_if, r_tst, r_b, r_not, r_and, r_or, r_andV, r_orV, r_notV, r_nil, r_cons, r_tup, r_lst, r_cb, r_call, r_bm, r_bm0, r_sl, r_nopart, r_part, r_rev, r_gnil, r_gcons, r_gsub, r_par, r_aug, r_chain, r_I0, r_I, r_U, r_ixd, r_lend, r_tupd, r_listd, r_sld, r_app, r_ext, r_reverse, r_setl, r_cat, r_int1, r_eqS, r_neS, scal_ii, scal_bb, scal_ss, at0, at1, at2, sq_lst, sq_tup, isLst_lst, List.getElem?_cons_zero, List.getElem?_cons_succ, List.set_cons_zero, List.set_cons_succ, V.int.injEq, V.bl.injEq, V.ref.injEq, V.str.injEq, HO.lst.injEq, HO.tup.injEq, Option.some.injEq, exists_eq_left', exists_eq_left, List.cons.injEq, and_true, true_and, decide_eq_true_eq, reduceCtorEq, false_and, exists_false, or_false, false_or, exists_const, and_assoc, exists_and_left, List.append_nil, ix0, ix1, ix2, cm_mod, cdw1009, cdw2003, cdw7, cdw64, cdw2, cm104729, cm2, cm3, upd_same, List.length_cons, List.length_nil, Int.reduceLT, Int.reduceLE, Nat.reduceAdd, Nat.reduceLeDiff, Nat.reduceLT, Int.reduceToNat, r_for1, r_forL, r_forT, r_lcL, r_lc1, r_yes, r_gtupD, wipe_0, wipe_1, List.cons_append, List.nil_append, r_forS, r_ipI, ite_false, ite_true, Bool.not_true, Bool.not_false, decide_true, decide_false, r_isd, r_islt, cD_ty, cD_ref, tD_non, tD_bl, tD_int, tD_str, tD_ref, tH_lst, tH_tup, tH_dK, tH_ins, ki_self, ki_int_bool, ki_non_int, ki_str_int, ki_lt_lst, ki_lt_tup, r_fld, r_sfld, HO.ins.injEq, cx_K, r_dget, r_ixD]
  obtain ⟨refs, eF, pF⟩ := id hF
  obtain ⟨rg, eG, pG⟩ := hG
  have lp := Paired.length pF
  have lg := Paired.length pG
  obtain ⟨hi, ex⟩ := List.getElem?_eq_some_iff.mp hx
  have hi' : a < refs.length := by omega
  have hrt := Paired.at' pF hi' hi
  rw [ex] at hrt
  obtain ⟨hv, hrt, hh⟩ := hrt
  have ec : cutV (refs.map V.ref) (some (d : Int)) (some (a : Int)) = ((refs.drop d).take (a - d)).map V.ref := by rw [cut_mid (by rw [List.length_map]; omega) hd, List.map_take, List.map_drop]
  refine ⟨_, by rw [eF]; rfl, V.ref refs[a], atI_nat (by rw [List.getElem?_map, List.getElem?_eq_getElem hi']; rfl), _, rfl, _, hrt, rfl, _, _, rfl, _, _, rfl, _, _, rfl, _, _, rfl, rfl, tyl eG, _, eF, fun p hp => ?_⟩
  rw [ec]
  have s1 : Same H (L2.upd H p (.lst (((refs.drop d).take (a - d)).map V.ref))) := Same.new' (Same.refl H) hp
  have pM := Paired.take' (a - d) (Paired.drop' d pF)
  have lm := Paired.length pM
  rw [List.length_take, List.length_drop] at lm
  obtain ⟨r1, k1⟩ := rs5_ext (H := L2.upd H p (.lst (((refs.drop d).take (a - d)).map V.ref))) (s1 _ _ eG) (Paired.map' pG fun r x e => e.imp fun b ys e => s1 _ _ e) (Paired.map' pM fun r x e => e.imp fun b ys e => s1 _ _ e)
  refine ⟨_, s1 _ _ eG, Nat.le_trans (by rw [List.length_map, List.length_map, List.length_take, List.length_drop]; omega : _ ≤ 200000) (by decide), ?_⟩
  generalize L2.upd (L2.upd H p (.lst (((refs.drop d).take (a - d)).map V.ref))) G (.lst (rg.map V.ref ++ ((refs.drop d).take (a - d)).map V.ref)) = H2 at *
  have kk : ∀ b o, b ≠ G → H b = some o → H2 b = some o := fun b o nb e => k1 _ _ nb (s1 _ _ e)
  have tp2 : Tups H H2 := fun b ys e => kk _ _ (fun z => by rw [z, eG] at e; cases e) e
  have hF2 : Rs5 H2 F xs := ⟨refs, kk _ _ n1 eF, Paired.map' pF fun r x e => e.imp tp2⟩
  have hP2 : PlD H2 Pa f l := hP.imp (by obtain ⟨kv, e, _⟩ := hP; rw [kk _ _ n2 e, e])
  exact b3_run TD (s := ⟨fs ++ (xs.drop d).take (a - d), free, a⟩) ok jl hB hF2 hP2 r1 (hh.imp tp2) hx hj rfl (by rw [List.length_append, List.length_take, List.length_drop]; omega) fun H' v12 v13 q1 q2 => k H' _ _ _ _ _ _ (fun b o nb e => q1 _ _ nb (kk _ _ nb e)) q2
def LvA (F Pa J : Addr) (xs : List R5) (H0 : Hp) (i : Nat) (σ : L2.St) (H : Hp) : Prop := ∃ v3 v4 v5, σ = [some (.ref F), some (.ref Pa), some (.ref J), v3, v4, v5, none, none, none, none, none, none, none, none] ∧ (∀ b o, b ≠ Pa → b ≠ J → H0 b = some o → H b = some o) ∧ PlD H Pa (plTo (xs.take i)).f i ∧ H J = some (.lst (jsV xs i))
def LvB (F Pa J G : Addr) (xs : List R5) (f : Int → Option Nat) (B : Nat) (H1 : Hp) (j : Nat) (σ : L2.St) (H : Hp) : Prop := ∃ d v3 v4 v5 v9 v10 v11 v12 v13, σ = [some (.ref F), some (.ref Pa), some (.ref J), v3, v4, v5, some (.ref G), some (.int (d : Nat)), some (.int ((drTo f B (xs.take d)).free : Nat)), v9, v10, v11, v12, v13] ∧ d ≤ xs.length ∧ ((List.range' 0 xs.length).filter (isJ xs)).drop j = (List.range' d (xs.length - d)).filter (isJ xs) ∧ (∀ b o, b ≠ G → H1 b = some o → H b = some o) ∧ Rs5 H G (drTo f B (xs.take d)).o
def spWD : Sp := fun vs H Q _ => ∃ (F : Addr) (xs : List R5) (B : Nat), vs = [.ref F] ∧ Rs5 H F xs ∧ (∀ x ∈ xs, Ok4 x) ∧ (∀ x ∈ xs, jumping x.w = true → ∃ n m, x.a = .int n ∧ (plTo xs).f n = some m) ∧ (∀ n : Nat, B ≤ n → (plTo xs).f n = none) ∧ xs.length ≤ 30000 ∧ ∀ D H', Same H H' → H D = none → Rs5 H' D (drTo (plTo xs).f B xs).o → Q (.ref D) H'
section
variable {P : Program} {w : World} {K : PySem.W.Frag} {mg : Str → Option Value} {base : Heap} {f : Addr} {fd : FuncData}
abbrev swd : Stmt := top 83
theorem scwd : FnScope ["rows", "places", "jumps", "at", "row", "word", "found", "done", "free", "label", "line", "handler", "forward", "backward"] ["rows"] (defScope swd) := ⟨rfl, rfl, rfl, by decide +kernel, rfl, by decide +kernel, by decide +kernel⟩

theorem ok_wd (T : Txt mg) {D1 D2 D3 : Addr} (TD : DirT K w mg D1 D2 D3) (F : FnP K "with_directions" "with_directions" swd f fd) : FnOk P w K mg base CX0 1 f fd ["rows"] spWD := by
  refine F.ok scwd (fun vs H Q E h => ?_) (fun cdv A outer s H vs Q E hr h => ?_)
  · obtain ⟨F, xs, B, rfl, _⟩ := h
    rfl
  · have hu1 := hu_of hr
    refine ⟨t_wd K w D1 D2 D3, PSs.nox (show PSs _ _ (t_wd K w D1 D2 D3) from (pss_cons (ps_set (i := 1) scwd.nd rfl (Or.inl rfl) pe_dnewK)
  (pss_cons (ps_set (i := 2) scwd.nd rfl (Or.inl rfl) (pe_lst pa_nil))
  (pss_cons (ps_for PassesOwn.never rfl (pi_enumS (by rfl) T.b_enumerate (pa_cons (pv 0) pa_nil)) (pg_tupD (n := 2) rfl (pgs_cons (pg_name (i := 3) scwd.nd rfl (Or.inl rfl)) (pgs_cons (pg_name (i := 4) scwd.nd rfl (Or.inl rfl)) pgs_nil)))
    (pss_cons (ps_set (i := 5) scwd.nd rfl (Or.inl rfl) (pe_ix ix_d (pv 4) pe_int (fun _ _ => rfl)))
  (pss_one (ps_if (pt_cmpR (op_inTK K w rfl rfl TD.tt.kd) (pv 5) (pe_glob (v := .ref _) rfl TD.tt.g rfl) (by rfl))
    (pss_one (ps_if (pt_cmpR op_eq (pv 5) pe_str (nomark _))
    (pss_one (ps_dput hu1 (pv 1) (pe_ix ix_d (pv 4) pe_int (fun _ _ => rfl)) (pv 3) rfl))
    (pss_one (ps_if (PW.pt (pw_or (pt_cmpR (op_inTK K w rfl rfl TD.td.kd) (pv 5) (pe_glob (v := .ref _) rfl TD.td.g rfl) (by rfl)) (pw_or1 (pt_cmpR (op_inTK K w rfl rfl TD.tt3.kd) (pv 5) (pe_glob (v := .ref _) rfl TD.tt3.g rfl) (by rfl)))))
    (pss_one (ps_expr (pe_bm PySem.F.plainAttrs_list PySem.F.slot_list_append PySem.F.type_list_append mt_append (pv 2) (pa_cons (pv 3) pa_nil))))
    pss_nil))))
    pss_nil))))
  (pss_cons (ps_set (i := 6) scwd.nd rfl (Or.inl rfl) (pe_lst pa_nil))
  (pss_cons (ps_set (i := 7) scwd.nd rfl (Or.inl rfl) pe_int)
  (pss_cons (ps_set (i := 8) scwd.nd rfl (Or.inl rfl) pe_int)
  (pss_cons (ps_for PassesOwn.never rfl (pi_list (pv 2)) (pg_name (i := 3) scwd.nd rfl (Or.inl rfl))
    (pss_cons (ps_asg (pe_ix ix_d (pv 0) (pv 3) (fun _ _ => rfl)) (pg_tupD (n := 4) rfl (pgs_cons (pg_name (i := 5) scwd.nd rfl (Or.inl rfl)) (pgs_cons (pg_name (i := 9) scwd.nd rfl (Or.inl rfl)) (pgs_cons (pg_name (i := 10) scwd.nd rfl (Or.inl rfl)) (pgs_cons (pg_name (i := 11) scwd.nd rfl (Or.inl rfl)) pgs_nil))))))
  (pss_cons (ps_expr (pe_bm PySem.F.plainAttrs_list PySem.F.slot_list_extend PySem.F.type_list_extend mt_extend (pv 6) (pa_cons (pe_slice sl_d (pv 0) (po_some (pv 7)) (po_some (pv 3))) pa_nil)))
  (pss_cons (ps_set (i := 7) scwd.nd rfl (Or.inl rfl) (pe_op op_add (pv 3) pe_int))
  (pss_one (ps_if (pt_cmpR (op_inTK K w rfl rfl TD.td.kd) (pv 5) (pe_glob (v := .ref _) rfl TD.td.g rfl) (by rfl))
    (pss_cons (ps_asg (pe_ix ix_kdict (pe_glob (v := .ref _) rfl TD.td.g rfl) (pv 5) (fun _ _ => rfl)) (pg_tup (n := 2) rfl (pgs_cons (pg_name (i := 12) scwd.nd rfl (Or.inl rfl)) (pgs_cons (pg_name (i := 13) scwd.nd rfl (Or.inl rfl)) pgs_nil))))
  (pss_one (ps_expr (pe_bm PySem.F.plainAttrs_list PySem.F.slot_list_append PySem.F.type_list_append mt_append (pv 6) (pa_cons (pe_tup (pa_cons (pe_ifExp (pt_cmpR op_gt (pe_dget hu1 (pv 1) (pv 9) (fun _ _ => rfl)) (pv 3) (nomark _)) (pv 12) (pv 13)) (pa_cons (pv 9) (pa_cons (pv 10) (pa_cons (pv 11) pa_nil))))) pa_nil)))))
    (pss_one (ps_if (pt_cmpR op_gt (pe_dget hu1 (pv 1) (pv 9) (fun _ _ => rfl)) (pv 3) (nomark _))
    (pss_one (ps_expr (pe_bm PySem.F.plainAttrs_list PySem.F.slot_list_append PySem.F.type_list_append mt_append (pv 6) (pa_cons (pe_ix ix_d (pv 0) (pv 3) (fun _ _ => rfl)) pa_nil))))
    (pss_cons (ps_while PassesOwn.never (pt_cmp (pc_din hu1 (pv 8) (pv 1)))
    (pss_one (ps_aug (i := 8) scwd.nd rfl (.inl rfl) pe_int ip_add)))
  (pss_cons (ps_expr (pe_bm PySem.F.plainAttrs_list PySem.F.slot_list_append PySem.F.type_list_append mt_append (pv 6) (pa_cons (pe_tup (pa_cons (pe_ix ix_kdict (pe_glob (v := .ref _) rfl TD.tt3.g rfl) (pv 5) (fun _ _ => rfl)) (pa_cons (pv 8) (pa_cons (pv 10) (pa_cons (pv 11) pa_nil))))) pa_nil)))
  (pss_cons (ps_expr (pe_bm PySem.F.plainAttrs_list PySem.F.slot_list_append PySem.F.type_list_append mt_append (pv 6) (pa_cons (pe_tup (pa_cons pe_str (pa_cons (pv 9) (pa_cons (pv 10) (pa_cons (pv 11) pa_nil))))) pa_nil)))
  (pss_cons (ps_expr (pe_bm PySem.F.plainAttrs_list PySem.F.slot_list_append PySem.F.type_list_append mt_append (pv 6) (pa_cons (pe_tup (pa_cons pe_str (pa_cons (pv 8) (pa_cons pe_non (pa_cons pe_non pa_nil))))) pa_nil)))
  (pss_one (ps_aug (i := 8) scwd.nd rfl (.inl rfl) pe_int ip_add))))))))))))))
  (pss_one (ps_ret (pe_op op_cat (pv 6) (pe_slice sl_d (pv 0) (po_some (pv 7)) po_none)))))))))))), ?_⟩
    obtain ⟨F, xs, B, rfl, hF, ok, jl, hB, hl, k⟩ := h
    show (_ : TS) _ [some (.ref F), none, none, none, none, none, none, none, none, none, none, none, none, none] H
    unfold t_wd
    simp only [r_seq, r_next, r_brk, r_cont, r_asg, r_name, r_ret, r_retN, r_drop, r_ifs, r_never, r_var, r_c, r_op, r_un, r_if, r_tst, r_b, r_not, r_and, r_or, r_andV, r_orV, r_notV, r_nil, r_cons, r_tup, r_lst, r_cb, r_call, r_bm, r_bm0, r_sl, r_nopart, r_part, r_rev, r_gnil, r_gcons, r_gsub, r_par, r_aug, r_chain, r_I0, r_I, r_U, r_ixd, r_lend, r_tupd, r_listd, r_sld, r_app, r_ext, r_reverse, r_setl, r_cat, r_int1, r_eqS, r_neS, scal_ii, scal_bb, scal_ss, at0, at1, at2, sq_lst, sq_tup, isLst_lst, List.getElem?_cons_zero, List.getElem?_cons_succ, List.set_cons_zero, List.set_cons_succ, V.int.injEq, V.bl.injEq, V.ref.injEq, V.str.injEq, HO.lst.injEq, HO.tup.injEq, Option.some.injEq, exists_eq_left', exists_eq_left, List.cons.injEq, and_true, true_and, decide_eq_true_eq, reduceCtorEq, false_and, exists_false, or_false, false_or, exists_const, and_assoc, exists_and_left, List.append_nil, ix0, ix1, ix2, cm_mod, cdw1009, cdw2003, cdw7, cdw64, cdw2, cm104729, cm2, cm3, upd_same, List.length_cons, List.length_nil, Int.reduceLT, Int.reduceLE, Nat.reduceAdd, Nat.reduceLeDiff, Nat.reduceLT, Int.reduceToNat, r_for1, r_forL, r_forT, r_lcL, r_lc1, r_yes, r_gtupD, wipe_0, wipe_1, List.cons_append, List.nil_append, r_forS, r_ipI, ite_false, ite_true, Bool.not_true, Bool.not_false, decide_true, decide_false, r_isd, r_islt, cD_ty, cD_ref, tD_non, tD_bl, tD_int, tD_str, tD_ref, tH_lst, tH_tup, tH_dK, tH_ins, ki_self, ki_int_bool, ki_non_int, ki_str_int, ki_lt_lst, ki_lt_tup, r_fld, r_sfld, HO.ins.injEq, cx_K, r_dnew, r_forE]
    intro Pa hPa
    refine ⟨Nat.zero_le _, fun J hJ => ?_⟩
    have s1 : Same H (L2.upd (L2.upd H Pa (.dK [])) J (.lst [])) := Same.new' (Same.new' (Same.refl H) hPa) hJ
    have eP0 : L2.upd (L2.upd H Pa (.dK [])) J (.lst []) Pa = some (.dK []) := by rw [upd_ne (ne_new upd_same hJ)]; exact upd_same
    have eJ0 : L2.upd (L2.upd H Pa (.dK [])) J (.lst []) J = some (.lst []) := upd_same
    have PJ : Pa ≠ J := ne_new (upd_same (H := H) (a := Pa) (o := .dK [])) hJ
    have nJ : ∀ b o, H b = some o → b ≠ J := fun b o e => by
      have e2 : L2.upd H Pa (.dK []) b = some o := by rw [upd_ne (ne_new e hPa)]; exact e
      exact ne_new e2 hJ
    generalize L2.upd (L2.upd H Pa (.dK [])) J (.lst []) = H1 at *
    obtain ⟨refs, eF, pF⟩ := id hF
    have lp := Paired.length pF
    have eF1 := s1 _ _ eF
    have FP : F ≠ Pa := ne_new eF hPa
    have FJ : F ≠ J := nJ _ _ eF
    have base1 : ∀ {H2 : Hp}, (∀ b o, b ≠ Pa → b ≠ J → H1 b = some o → H2 b = some o) → Same H H2 := fun q b o e => q _ _ (ne_new e hPa) (nJ _ _ e) (s1 _ _ e)
    refine lp_enum (xs := refs.map V.ref) (by rw [eF1]; rfl) (LvA F Pa J xs H1) ⟨none, none, none, rfl, fun _ _ _ _ e => e, ⟨[], eP0, Nat.le_refl _, fun n => rfl⟩, eJ0⟩ (fun i σ H' ⟨_, _, _, _, q, _⟩ => by rw [eF1]; exact q _ _ FP FJ eF1) ?_ ?_
    · rintro i y σ H2 hy ⟨u3, u4, u5, rfl, k2, hP2, hJ2⟩ T0 hT0
      rw [List.getElem?_map] at hy
      obtain ⟨r, hr1, rfl⟩ := Option.map_eq_some_iff.mp hy
      obtain ⟨hi0, e0⟩ := List.getElem?_eq_some_iff.mp hr1
      have hi' : i < xs.length := by rw [← lp]; exact hi0
      have hrt := Paired.at' pF hi0 hi'
      rw [e0] at hrt
      obtain ⟨hv, hrt, hh⟩ := hrt
      have hx : xs[i]? = some xs[i] := List.getElem?_eq_getElem hi'
      have okx := ok _ (List.getElem_mem hi')
      have pn := pl_n xs i (Nat.le_of_lt hi')
      have ps := pl_snoc hx
      have S2 := base1 k2
      have k3 : ∀ b o, H2 b = some o → L2.upd H2 T0 (.tup [.int (i : Nat), .ref r]) b = some o := fun b o e => by rw [upd_ne (ne_new e hT0)]; exact e
      have eT : L2.upd H2 T0 (.tup [.int (i : Nat), .ref r]) T0 = some (.tup [.int (i : Nat), .ref r]) := upd_same
      generalize L2.upd H2 T0 (.tup [.int (i : Nat), .ref r]) = H3 at *
      have er := k3 _ _ (S2 _ _ hrt)
      have hP3 : PlD H3 Pa (plTo (xs.take i)).f i := hP2.imp (by obtain ⟨kv, e, _⟩ := hP2; rw [k3 _ _ e, e])
      generalize xs[i] = x at *
      simp only [r_seq, r_next, r_brk, r_cont, r_asg, r_name, r_ret, r_retN, r_drop, r_ifs, r_never, r_var, r_c, r_op, r_un, r_if, r_tst, r_b, r_not, r_and, r_or, r_andV, r_orV, r_notV, r_nil, r_cons, r_tup, r_lst, r_cb, r_call, r_bm, r_bm0, r_sl, r_nopart, r_part, r_rev, r_gnil, r_gcons, r_gsub, r_par, r_aug, r_chain, r_I0, r_I, r_U, r_ixd, r_lend, r_tupd, r_listd, r_sld, r_app, r_ext, r_reverse, r_setl, r_cat, r_int1, r_eqS, r_neS, scal_ii, scal_bb, scal_ss, at0, at1, at2, sq_lst, sq_tup, isLst_lst, List.getElem?_cons_zero, List.getElem?_cons_succ, List.set_cons_zero, List.set_cons_succ, V.int.injEq, V.bl.injEq, V.ref.injEq, V.str.injEq, HO.lst.injEq, HO.tup.injEq, Option.some.injEq, exists_eq_left', exists_eq_left, List.cons.injEq, and_true, true_and, decide_eq_true_eq, reduceCtorEq, false_and, exists_false, or_false, false_or, exists_const, and_assoc, exists_and_left, List.append_nil, ix0, ix1, ix2, cm_mod, cdw1009, cdw2003, cdw7, cdw64, cdw2, cm104729, cm2, cm3, upd_same, List.length_cons, List.length_nil, Int.reduceLT, Int.reduceLE, Nat.reduceAdd, Nat.reduceLeDiff, Nat.reduceLT, Int.reduceToNat, r_for1, r_forL, r_forT, r_lcL, r_lc1, r_yes, r_gtupD, wipe_0, wipe_1, List.cons_append, List.nil_append, r_forS, r_ipI, ite_false, ite_true, Bool.not_true, Bool.not_false, decide_true, decide_false, r_isd, r_islt, cD_ty, cD_ref, tD_non, tD_bl, tD_int, tD_str, tD_ref, tH_lst, tH_tup, tH_dK, tH_ins, ki_self, ki_int_bool, ki_non_int, ki_str_int, ki_lt_lst, ki_lt_tup, r_fld, r_sfld, HO.ins.injEq, cx_K, eT]
      refine b1_run TD okx er hP3 (k3 _ _ hJ2) hx pn (by omega) (by omega) PJ fun H4 v5 k4 hP4 hJ4 => ⟨_, _, _, rfl, fun b o nP nJ e => k4 _ _ nP nJ (k3 _ _ (k2 _ _ nP nJ e)), ?_, hJ4⟩
      rw [ps]
      exact hP4
    · rintro σ H2 ⟨u3, u4, u5, rfl, k2, hP2, hJ2⟩
      rw [List.length_map, lp] at hP2 hJ2
      rw [List.take_length] at hP2
      have S2 := base1 k2
      simp only [r_seq, r_next, r_brk, r_cont, r_asg, r_name, r_ret, r_retN, r_drop, r_ifs, r_never, r_var, r_c, r_op, r_un, r_if, r_tst, r_b, r_not, r_and, r_or, r_andV, r_orV, r_notV, r_nil, r_cons, r_tup, r_lst, r_cb, r_call, r_bm, r_bm0, r_sl, r_nopart, r_part, r_rev, r_gnil, r_gcons, r_gsub, r_par, r_aug, r_chain, r_I0, r_I, r_U, r_ixd, r_lend, r_tupd, r_listd, r_sld, r_app, r_ext, r_reverse, r_setl, r_cat, r_int1, r_eqS, r_neS, scal_ii, scal_bb, scal_ss, at0, at1, at2, sq_lst, sq_tup, isLst_lst, List.getElem?_cons_zero, List.getElem?_cons_succ, List.set_cons_zero, List.set_cons_succ, V.int.injEq, V.bl.injEq, V.ref.injEq, V.str.injEq, HO.lst.injEq, HO.tup.injEq, Option.some.injEq, exists_eq_left', exists_eq_left, List.cons.injEq, and_true, true_and, decide_eq_true_eq, reduceCtorEq, false_and, exists_false, or_false, false_or, exists_const, and_assoc, exists_and_left, List.append_nil, ix0, ix1, ix2, cm_mod, cdw1009, cdw2003, cdw7, cdw64, cdw2, cm104729, cm2, cm3, upd_same, List.length_cons, List.length_nil, Int.reduceLT, Int.reduceLE, Nat.reduceAdd, Nat.reduceLeDiff, Nat.reduceLT, Int.reduceToNat, r_for1, r_forL, r_forT, r_lcL, r_lc1, r_yes, r_gtupD, wipe_0, wipe_1, List.cons_append, List.nil_append, r_forS, r_ipI, ite_false, ite_true, Bool.not_true, Bool.not_false, decide_true, decide_false, r_isd, r_islt, cD_ty, cD_ref, tD_non, tD_bl, tD_int, tD_str, tD_ref, tH_lst, tH_tup, tH_dK, tH_ins, ki_self, ki_int_bool, ki_non_int, ki_str_int, ki_lt_lst, ki_lt_tup, r_fld, r_sfld, HO.ins.injEq, cx_K]
      refine ⟨Nat.zero_le _, fun G hG => ?_⟩
      have k3 : ∀ b o, H2 b = some o → L2.upd H2 G (.lst []) b = some o := fun b o e => by rw [upd_ne (ne_new e hG)]; exact e
      have eG : L2.upd H2 G (.lst []) G = some (.lst []) := upd_same
      have FG : F ≠ G := ne_new (S2 _ _ eF) hG
      have PG : Pa ≠ G := by obtain ⟨kv, e, _⟩ := hP2; exact ne_new e hG
      have JG : J ≠ G := ne_new hJ2 hG
      have GH : ∀ b o, H b = some o → b ≠ G := fun b o e => ne_new (S2 _ _ e) hG
      generalize L2.upd H2 G (.lst []) = H3 at *
      have hP3 : PlD H3 Pa (plTo xs).f xs.length := hP2.imp (by obtain ⟨kv, e, _⟩ := hP2; rw [k3 _ _ e, e])
      have hJ3 := k3 _ _ hJ2
      have S3 : Same H H3 := fun b o e => k3 _ _ (S2 _ _ e)
      have hB0 : Rs5 H3 G (drTo (plTo xs).f B (xs.take 0)).o := ⟨[], eG, .nil⟩
      refine ⟨⟨_, SqL.of hJ3⟩, lp_list (xs := jsV xs xs.length) (LvB F Pa J G xs (plTo xs).f B H3) ⟨0, u3, u4, u5, none, none, none, none, none, rfl, Nat.zero_le _, rfl, fun _ _ _ e => e, hB0⟩ (fun i σ H' _ ⟨_, _, _, _, _, _, _, _, _, _, _, _, q, _⟩ => SqL.of (q _ _ JG hJ3)) ?_ ?_⟩
      · rintro j y σ H4 hy ⟨d, w3, w4, w5, w9, w10, w11, w12, w13, rfl, hd, hdr, k4, hG4⟩
        unfold jsV at hy
        rw [List.getElem?_map] at hy
        obtain ⟨a, ha, rfl⟩ := Option.map_eq_some_iff.mp hy
        obtain ⟨hja, hae⟩ := List.getElem?_eq_some_iff.mp ha
        have dj := List.drop_eq_getElem_cons hja
        rw [hae, hdr] at dj
        obtain ⟨q1, q2, q3, q4, q5⟩ := filt_head _ _ _ _ _ dj
        have an : a < xs.length := by omega
        have hx : xs[a]? = some xs[a] := List.getElem?_eq_getElem an
        have hja : jumping xs[a].w = true := by
          unfold isJ at q3
          rw [hx] at q3
          exact q3
        have okx := ok _ (List.getElem_mem an)
        have jlx := jl _ (List.getElem_mem an)
        have ds := dr_snoc (f := (plTo xs).f) (B := B) hx
        have sg := dr_seg (plTo xs).f B xs d (a - d) (by omega) fun k h1 h2 => q4 k h1 (by omega)
        rw [show d + (a - d) = a by omega] at sg
        rw [sg] at ds
        have dl := dr_len (plTo xs).f B xs d hd
        have hF4 : Rs5 H4 F xs := ⟨refs, k4 _ _ FG (S3 _ _ eF), Paired.map' pF fun r x e => e.imp fun b ys e => k4 _ _ (GH _ _ e) (S3 _ _ e)⟩
        have hP4 : PlD H4 Pa (plTo xs).f xs.length := hP3.imp (by obtain ⟨kv, e, _⟩ := hP3; rw [k4 _ _ PG e, e])
        generalize xs[a] = x at *
        simp only [r_seq, r_next, r_brk, r_cont, r_asg, r_name, r_ret, r_retN, r_drop, r_ifs, r_never, r_var, r_c, r_op, r_un, r_if, r_tst, r_b, r_not, r_and, r_or, r_andV, r_orV, r_notV, r_nil, r_cons, r_tup, r_lst, r_cb, r_call, r_bm, r_bm0, r_sl, r_nopart, r_part, r_rev, r_gnil, r_gcons, r_gsub, r_par, r_aug, r_chain, r_I0, r_I, r_U, r_ixd, r_lend, r_tupd, r_listd, r_sld, r_app, r_ext, r_reverse, r_setl, r_cat, r_int1, r_eqS, r_neS, scal_ii, scal_bb, scal_ss, at0, at1, at2, sq_lst, sq_tup, isLst_lst, List.getElem?_cons_zero, List.getElem?_cons_succ, List.set_cons_zero, List.set_cons_succ, V.int.injEq, V.bl.injEq, V.ref.injEq, V.str.injEq, HO.lst.injEq, HO.tup.injEq, Option.some.injEq, exists_eq_left', exists_eq_left, List.cons.injEq, and_true, true_and, decide_eq_true_eq, reduceCtorEq, false_and, exists_false, or_false, false_or, exists_const, and_assoc, exists_and_left, List.append_nil, ix0, ix1, ix2, cm_mod, cdw1009, cdw2003, cdw7, cdw64, cdw2, cm104729, cm2, cm3, upd_same, List.length_cons, List.length_nil, Int.reduceLT, Int.reduceLE, Nat.reduceAdd, Nat.reduceLeDiff, Nat.reduceLT, Int.reduceToNat, r_for1, r_forL, r_forT, r_lcL, r_lc1, r_yes, r_gtupD, wipe_0, wipe_1, List.cons_append, List.nil_append, r_forS, r_ipI, ite_false, ite_true, Bool.not_true, Bool.not_false, decide_true, decide_false, r_isd, r_islt, cD_ty, cD_ref, tD_non, tD_bl, tD_int, tD_str, tD_ref, tH_lst, tH_tup, tH_dK, tH_ins, ki_self, ki_int_bool, ki_non_int, ki_str_int, ki_lt_lst, ki_lt_tup, r_fld, r_sfld, HO.ins.injEq, cx_K]
        refine b2_run TD okx jlx hB hF4 hP4 hG4 hx hja q1 (by have := dl.o; omega) (by omega) FG PG fun H5 v5 v9 v10 v11 v12 v13 k5 hG5 => ⟨a + 1, some (.int (a : Nat)), w4, v5, v9, v10, v11, v12, v13, ?_, by omega, ?_, fun b o nb e => k5 _ _ nb (k4 _ _ nb e), ?_⟩
        · rw [ds]
        · rw [q5, show d + (xs.length - d) - (a + 1) = xs.length - (a + 1) by omega]
        · rw [ds]
          exact hG5
      · rintro σ H4 ⟨d, w3, w4, w5, w9, w10, w11, w12, w13, rfl, hd, hdr, k4, hG4⟩
        have lj : (jsV xs xs.length).length = ((List.range' 0 xs.length).filter (isJ xs)).length := by unfold jsV; rw [List.length_map]
        rw [lj, List.drop_length] at hdr
        have q4 := filt_nil _ _ _ hdr.symm
        have sg := dr_seg (plTo xs).f B xs d (xs.length - d) (by omega) fun k h1 h2 => q4 k h1 (by omega)
        rw [show d + (xs.length - d) = xs.length by omega, List.take_length] at sg
        have dl := dr_len (plTo xs).f B xs d hd
        simp only [r_seq, r_next, r_brk, r_cont, r_asg, r_name, r_ret, r_retN, r_drop, r_ifs, r_never, r_var, r_c, r_op, r_un, r_if, r_tst, r_b, r_not, r_and, r_or, r_andV, r_orV, r_notV, r_nil, r_cons, r_tup, r_lst, r_cb, r_call, r_bm, r_bm0, r_sl, r_nopart, r_part, r_rev, r_gnil, r_gcons, r_gsub, r_par, r_aug, r_chain, r_I0, r_I, r_U, r_ixd, r_lend, r_tupd, r_listd, r_sld, r_app, r_ext, r_reverse, r_setl, r_cat, r_int1, r_eqS, r_neS, scal_ii, scal_bb, scal_ss, at0, at1, at2, sq_lst, sq_tup, isLst_lst, List.getElem?_cons_zero, List.getElem?_cons_succ, List.set_cons_zero, List.set_cons_succ, V.int.injEq, V.bl.injEq, V.ref.injEq, V.str.injEq, HO.lst.injEq, HO.tup.injEq, Option.some.injEq, exists_eq_left', exists_eq_left, List.cons.injEq, and_true, true_and, decide_eq_true_eq, reduceCtorEq, false_and, exists_false, or_false, false_or, exists_const, and_assoc, exists_and_left, List.append_nil, ix0, ix1, ix2, cm_mod, cdw1009, cdw2003, cdw7, cdw64, cdw2, cm104729, cm2, cm3, upd_same, List.length_cons, List.length_nil, Int.reduceLT, Int.reduceLE, Nat.reduceAdd, Nat.reduceLeDiff, Nat.reduceLT, Int.reduceToNat, r_for1, r_forL, r_forT, r_lcL, r_lc1, r_yes, r_gtupD, wipe_0, wipe_1, List.cons_append, List.nil_append, r_forS, r_ipI, ite_false, ite_true, Bool.not_true, Bool.not_false, decide_true, decide_false, r_isd, r_islt, cD_ty, cD_ref, tD_non, tD_bl, tD_int, tD_str, tD_ref, tH_lst, tH_tup, tH_dK, tH_ins, ki_self, ki_int_bool, ki_non_int, ki_str_int, ki_lt_lst, ki_lt_tup, r_fld, r_sfld, HO.ins.injEq, cx_K]
        have ec : cutV (refs.map V.ref) (some (d : Int)) none = (refs.drop d).map V.ref := by rw [cut_from (by rw [List.length_map]; omega), List.map_drop]
        refine ⟨_, k4 _ _ FG (S3 _ _ eF), fun p hp => ?_⟩
        rw [ec]
        obtain ⟨rg, eG4, pG4⟩ := hG4
        have lg := Paired.length pG4
        have pD := Paired.drop' d pF
        have ld := Paired.length pD
        have k5 : ∀ b o, H4 b = some o → L2.upd H4 p (.lst ((refs.drop d).map V.ref)) b = some o := fun b o e => by rw [upd_ne (ne_new e hp)]; exact e
        generalize L2.upd H4 p (.lst ((refs.drop d).map V.ref)) = H5 at *
        refine ⟨_, k5 _ _ eG4, Nat.le_trans (by rw [List.length_map, List.length_map, ld, List.length_drop]; have := dl.o; omega : _ ≤ 200000) (by decide), fun p1 hp1 => ?_⟩
        have S5 : Same H (L2.upd H5 p1 (.lst (rg.map V.ref ++ (refs.drop d).map V.ref))) := fun b o e => by
          have e5 := k5 _ _ (k4 _ _ (GH _ _ e) (S3 _ _ e))
          rw [upd_ne (ne_new e5 hp1)]
          exact e5
        have hp0 : H p1 = none := by
          cases q : H p1 with
          | none => rfl
          | some o => rw [k5 _ _ (k4 _ _ (GH _ _ q) (S3 _ _ q))] at hp1; cases hp1
        refine k p1 _ S5 hp0 ⟨rg ++ refs.drop d, by rw [upd_same, List.map_append], ?_⟩
        have e6 : (drTo (plTo xs).f B xs).o = (drTo (plTo xs).f B (xs.take d)).o ++ xs.drop d := by
          rw [sg]
          show _ ++ (xs.drop d).take (xs.length - d) = _
          rw [show (xs.drop d).take (xs.length - d) = xs.drop d from List.take_of_length_le (by rw [List.length_drop]; exact Nat.le_refl _)]
        rw [e6]
        exact Paired.app' (Paired.map' pG4 fun r x e => e.imp fun b ys e => by
          have e5 := k5 _ _ e
          rw [upd_ne (ne_new e5 hp1)]
          exact e5) (Paired.map' pD fun r x e => e.imp fun b ys e => S5 _ _ e)
end
end C31

set_option maxHeartbeats 2000000
namespace C31
open PySem PySem.Spec PyProof.Rows L2
abbrev FnPD (K : PySem.W.Frag) (x q : Str) (st : Stmt) (dvs : List V) (f : Addr) (fd : FuncData) : Prop := FunD K x q (defArgs st) (defBody st) (defScope st) dvs [] f fd
/-- rows that directions are told of -/
structure WayOk (fs : List R5) (B : Nat) : Prop where
  ok : ∀ x ∈ fs, Ok4 x
  jl : ∀ x ∈ fs, jumping x.w = true → ∃ n m, x.a = .int n ∧ (plTo fs).f n = some m
  hB : ∀ n : Nat, B ≤ n → (plTo fs).f n = none
def wsOf (xs : List R3) : List Str := xs.map (·.w)
def spFL5 : Sp := fun vs H Q _ => ∃ (F : Addr) (v : V) (xs : List R3) (fs : List R5) (B : Nat), vs = [.ref F, v, .bl false] ∧ Rs3 H F xs ∧ (∀ x ∈ xs, Ok5 x) ∧ OkGo [] xs ∧ xs.length ≤ 20000 ∧ hasW (wsOf xs) "LABEL" = true ∧ someSetup (hasW (wsOf xs)) ∧ hasW (wsOf xs) "LOAD_FAST" = false ∧ again5 (goTo5 [] xs) = false ∧ fs = endGo5 (goTo5 [] xs) ∧ fs.length ≤ 30000 ∧ (∀ x ∈ fs, LineOk x) ∧ WayOk fs B ∧ ∀ D H', Same H H' → Rs5 H' D (drTo (plTo fs).f B fs).o → Q (.ref D) H'
theorem pair_words {H : Hp} : ∀ {refs : List Addr} {xs : List R3}, Paired (fun r x => H r = some (.tup (v3 x))) refs xs → Paired (fun r z => ∃ ys, H r = some (.tup (.str z :: ys))) refs (wsOf xs)
  | [], [], .nil => .nil
  | _ :: _, _ :: _, .cons h p => .cons ⟨_, h⟩ (pair_words p)
section
variable {P : Program} {w : World} {K : PySem.W.Frag} {mg : Str → Option Value} {base : Heap} {f : Addr} {fd : FuncData}
abbrev sfl : Stmt := top 80
theorem scfl : FnScope ["rows", "head", "passes", "words", "found"] ["rows", "head", "passes"] (defScope sfl) := ⟨rfl, rfl, rfl, by decide +kernel, rfl, by decide +kernel, by decide +kernel⟩

theorem ok_fl {NH : Addr} {dvs : List V} (T : Txt mg) (F : FnPD K "flowed" "flowed" sfl dvs f fd) (C_words_in : Cal P w K mg base 1 "words_in" ["rows"] spWords) (C_with_handlers : Cal P w K mg base 5 "with_handlers" ["rows", "words"] (spWH5 NH)) (C_with_lines : Cal P w K mg base 3 "with_lines" ["rows", "words"] spWL) (C_with_checks : Cal P w K mg base 1 "with_checks" ["rows", "head", "words"] spWC) (C_with_directions : Cal P w K mg base 1 "with_directions" ["rows"] spWD) : FnOk P w K mg base CX0 6 f fd ["rows", "head", "passes"] spFL5 := by
  refine F.ok scfl (fun vs H Q E h => ?_) (fun cdv A outer s H vs Q E hr h => ?_)
  · obtain ⟨F, v, xs, fs, B, rfl, _⟩ := h
    rfl
  · have hu1 := hu_of hr
    obtain ⟨F, v, xs, fs, B, rfl, hF, ok, og, hl, lb, ss, nf, ag, efs, hl2, lo, wo, k⟩ := h
    refine ⟨_, PSs.nox (pss_cons (ps_set (i := 3) scfl.nd rfl (Or.inl rfl) (pe_cal C_words_in (hr.mono (by decide)) rfl (pa_cons (pv 0) pa_nil)))
  (pss_cons (ps_set (i := 4) scfl.nd rfl (Or.inl rfl) (pe_cal C_with_handlers (hr.mono (by decide)) rfl (pa_cons (pv 0) (pa_cons (pv 3) pa_nil))))
  (pss_cons (ps_if (pt_val (pv 2))
    pss_never
    pss_nil)
  (pss_cons (ps_set (i := 4) scfl.nd rfl (Or.inl rfl) (pe_cal C_with_lines (hr.mono (by decide)) rfl (pa_cons (pv 4) (pa_cons (pv 3) pa_nil))))
  (pss_cons (ps_if (pt_val (pv 2))
    pss_never
    pss_nil)
  (pss_cons (ps_set (i := 4) scfl.nd rfl (Or.inl rfl) (pe_cal C_with_checks (hr.mono (by decide)) rfl (pa_cons (pv 4) (pa_cons (pv 1) (pa_cons (pv 3) pa_nil)))))
  (pss_cons (ps_if (pt_val (pv 2))
    pss_never
    pss_nil)
  (pss_one (ps_ret (pe_ifExp (pt_cmp (pc_din hu1 pe_str (pv 3))) (pe_cal C_with_directions (hr.mono (by decide)) rfl (pa_cons (pv 4) pa_nil)) (pv 4))))))))))), ?_⟩
    show (_ : TS) _ [some (.ref F), some v, some (.bl false), none, none] H
    simp only [r_seq, r_next, r_brk, r_cont, r_asg, r_name, r_ret, r_retN, r_drop, r_ifs, r_never, r_var, r_c, r_op, r_un, r_if, r_tst, r_b, r_not, r_and, r_or, r_andV, r_orV, r_notV, r_nil, r_cons, r_tup, r_lst, r_cb, r_call, r_bm, r_bm0, r_sl, r_nopart, r_part, r_rev, r_gnil, r_gcons, r_gsub, r_par, r_aug, r_chain, r_I0, r_I, r_U, r_ixd, r_lend, r_tupd, r_listd, r_sld, r_app, r_ext, r_reverse, r_setl, r_cat, r_int1, r_eqS, r_neS, scal_ii, scal_bb, scal_ss, at0, at1, at2, sq_lst, sq_tup, isLst_lst, List.getElem?_cons_zero, List.getElem?_cons_succ, List.set_cons_zero, List.set_cons_succ, V.int.injEq, V.bl.injEq, V.ref.injEq, V.str.injEq, HO.lst.injEq, HO.tup.injEq, Option.some.injEq, exists_eq_left', exists_eq_left, List.cons.injEq, and_true, true_and, decide_eq_true_eq, reduceCtorEq, false_and, exists_false, or_false, false_or, exists_const, and_assoc, exists_and_left, List.append_nil, ix0, ix1, ix2, cm_mod, cdw1009, cdw2003, cdw7, cdw64, cdw2, cm104729, cm2, cm3, upd_same, List.length_cons, List.length_nil, Int.reduceLT, Int.reduceLE, Nat.reduceAdd, Nat.reduceLeDiff, Nat.reduceLT, Int.reduceToNat, r_for1, r_forL, r_forT, r_lcL, r_lc1, r_yes, r_gtupD, wipe_0, wipe_1, List.cons_append, List.nil_append, r_forS, r_ipI, ite_false, ite_true, Bool.not_true, Bool.not_false, decide_true, decide_false, r_isd, r_islt, cD_ty, cD_ref, tD_non, tD_bl, tD_int, tD_str, tD_ref, tH_lst, tH_tup, tH_dK, tH_ins, ki_self, ki_int_bool, ki_non_int, ki_str_int, ki_lt_lst, ki_lt_tup, r_fld, r_sfld, HO.ins.injEq, cx_K, r_dinE]
    obtain ⟨refs, eF, pF⟩ := id hF
    refine ⟨F, wsOf xs, rfl, ⟨refs, eF, pair_words pF⟩, by unfold wsOf; rw [List.length_map]; omega, fun W H1 hW0 s1 hW => ?_⟩
    refine ⟨F, W, xs, hasW (wsOf xs), rfl, hW, lb, ss, hF.same s1, ok, og, hl, ag, fun F2 H2 s2 r2 => ?_⟩
    rw [← efs] at r2
    have hW2 := hW.same s2
    refine ⟨F2, W, fs, _, rfl, hW2, r2, by omega, lo, fun F3 H3 s3 f3 r3 => ?_⟩
    have hW3 := hW2.same s3
    obtain ⟨o1, d1, q1⟩ := hW3.get "LABEL"
    refine ⟨F3, W, v, _, rfl, hW3, nf, W, rfl, o1, d1, ?_⟩
    rw [q1, lb, if_pos rfl]
    exact ⟨F3, fs, B, rfl, r3, wo.ok, wo.jl, wo.hB, hl2, fun D4 H4 s4 f4 r4 => k D4 H4 (fun b o e => s4 _ _ (s3 _ _ (s2 _ _ (s1 _ _ e)))) r4⟩
end
end C31

set_option maxHeartbeats 2000000
namespace C31
open PySem PySem.Spec PyProof.Rows L2
/-! ### what the law keeps in its one dict -/
structure Env where
  S : Addr
  R : Addr
  Du : Addr
  Bl : Addr
  line : Int
  new : Int
  height : Int
def envK (e : Env) : List (Key × V) := [(Sum.inr "source", .ref e.S), (Sum.inr "rows", .ref e.R), (Sum.inr "due", .ref e.Du), (Sum.inr "blocks", .ref e.Bl), (Sum.inr "line", .int e.line), (Sum.inr "new", .int e.new), (Sum.inr "height", .int e.height)]
def EnvD (H : Hp) (E : Addr) (e : Env) : Prop := H E = some (.dK (envK e))
theorem get_line (e : Env) : valV (envK e) (Sum.inr "line" : Key) = some (.int e.line) := rfl
theorem get_new (e : Env) : valV (envK e) (Sum.inr "new" : Key) = some (.int e.new) := rfl
theorem put_line (e : Env) (n : Int) : putK (envK e) (Sum.inr "line" : Key) (.int n) = envK { e with line := n } := rfl
theorem put_new (e : Env) (n : Int) : putK (envK e) (Sum.inr "new" : Key) (.int n) = envK { e with new := n } := rfl
theorem put_height (e : Env) (n : Int) : putK (envK e) (Sum.inr "height" : Key) (.int n) = envK { e with height := n } := rfl
def spLine : Sp := fun vs H Q _ => ∃ (E : Addr) (e : Env), vs = [.ref E] ∧ EnvD H E e ∧ ∀ H', (∀ b, b ≠ E → H' b = H b) → EnvD H' E { e with line := e.line + 1 } → Q (.int (e.line + 1)) H'
def spNew : Sp := fun vs H Q _ => ∃ (E : Addr) (e : Env), vs = [.ref E] ∧ EnvD H E e ∧ ∀ H', (∀ b, b ≠ E → H' b = H b) → EnvD H' E { e with new := e.new + 1 } → Q (.int e.new) H'
section
variable {P : Program} {w : World} {K : PySem.W.Frag} {mg : Str → Option Value} {base : Heap} {f : Addr} {fd : FuncData}
abbrev sll : Stmt := top 89
theorem scll : FnScope ["_law_env"] ["_law_env"] (defScope sll) := ⟨rfl, rfl, rfl, by decide +kernel, rfl, by decide +kernel, by decide +kernel⟩

abbrev sln : Stmt := top 90
theorem scln : FnScope ["_law_env"] ["_law_env"] (defScope sln) := ⟨rfl, rfl, rfl, by decide +kernel, rfl, by decide +kernel, by decide +kernel⟩

theorem ok_ll (F : FnP K "_law_line" "_law_line" sll f fd) : FnOk P w K mg base CX0 1 f fd ["_law_env"] spLine := by
  refine F.ok scll (fun vs H Q E h => ?_) (fun cdv A outer s H vs Q E hr h => ?_)
  · obtain ⟨E, e, rfl, _⟩ := h
    rfl
  · have hu1 := hu_of hr
    obtain ⟨E, e, rfl, hE, k⟩ := h
    refine ⟨_, PSs.nox (pss_cons (ps_dput hu1 (pv 0) pe_str (pe_op op_add (pe_dget hu1 (pv 0) pe_str (fun _ _ => rfl)) pe_int) rfl)
  (pss_one (ps_ret (pe_dget hu1 (pv 0) pe_str (fun _ _ => rfl))))), ?_⟩
    show (_ : TS) _ [some (.ref E)] H
    have d1 := DGet.k (k := (Sum.inr "line" : Key)) hE
    rw [get_line] at d1
    simp only [r_seq, r_next, r_brk, r_cont, r_asg, r_name, r_ret, r_retN, r_drop, r_ifs, r_never, r_var, r_c, r_op, r_un, r_if, r_tst, r_b, r_not, r_and, r_or, r_andV, r_orV, r_notV, r_nil, r_cons, r_tup, r_lst, r_cb, r_call, r_bm, r_bm0, r_sl, r_nopart, r_part, r_rev, r_gnil, r_gcons, r_gsub, r_par, r_aug, r_chain, r_I0, r_I, r_U, r_ixd, r_lend, r_tupd, r_listd, r_sld, r_app, r_ext, r_reverse, r_setl, r_cat, r_int1, r_eqS, r_neS, scal_ii, scal_bb, scal_ss, at0, at1, at2, sq_lst, sq_tup, isLst_lst, List.getElem?_cons_zero, List.getElem?_cons_succ, List.set_cons_zero, List.set_cons_succ, V.int.injEq, V.bl.injEq, V.ref.injEq, V.str.injEq, HO.lst.injEq, HO.tup.injEq, Option.some.injEq, exists_eq_left', exists_eq_left, List.cons.injEq, and_true, true_and, decide_eq_true_eq, reduceCtorEq, false_and, exists_false, or_false, false_or, exists_const, and_assoc, exists_and_left, List.append_nil, ix0, ix1, ix2, cm_mod, cdw1009, cdw2003, cdw7, cdw64, cdw2, cm104729, cm2, cm3, upd_same, List.length_cons, List.length_nil, Int.reduceLT, Int.reduceLE, Nat.reduceAdd, Nat.reduceLeDiff, Nat.reduceLT, Int.reduceToNat, r_for1, r_forL, r_forT, r_lcL, r_lc1, r_yes, r_gtupD, wipe_0, wipe_1, List.cons_append, List.nil_append, r_forS, r_ipI, ite_false, ite_true, Bool.not_true, Bool.not_false, decide_true, decide_false, r_isd, r_islt, cD_ty, cD_ref, tD_non, tD_bl, tD_int, tD_str, tD_ref, tH_lst, tH_tup, tH_dK, tH_ins, ki_self, ki_int_bool, ki_non_int, ki_str_int, ki_lt_lst, ki_lt_tup, r_fld, r_sfld, HO.ins.injEq, cx_K, r_sput, r_dget]
    refine ⟨_, d1, _, rfl, _, DPut.k (k := (Sum.inr "line" : Key)) hE (by show 7 < sizeLine; decide), ?_⟩
    rw [put_line]
    have e2 : L2.upd H E (.dK (envK { e with line := e.line + 1 })) E = some (.dK (envK { e with line := e.line + 1 })) := upd_same
    have d2 := DGet.k (k := (Sum.inr "line" : Key)) e2
    rw [get_line] at d2
    exact ⟨_, d2, k _ (fun b nb => upd_ne nb) e2⟩
theorem ok_ln (F : FnP K "_law_new" "_law_new" sln f fd) : FnOk P w K mg base CX0 1 f fd ["_law_env"] spNew := by
  refine F.ok scln (fun vs H Q E h => ?_) (fun cdv A outer s H vs Q E hr h => ?_)
  · obtain ⟨E, e, rfl, _⟩ := h
    rfl
  · have hu1 := hu_of hr
    obtain ⟨E, e, rfl, hE, k⟩ := h
    refine ⟨_, PSs.nox (pss_cons (ps_dput hu1 (pv 0) pe_str (pe_op op_add (pe_dget hu1 (pv 0) pe_str (fun _ _ => rfl)) pe_int) rfl)
  (pss_one (ps_ret (pe_op op_sub (pe_dget hu1 (pv 0) pe_str (fun _ _ => rfl)) pe_int)))), ?_⟩
    show (_ : TS) _ [some (.ref E)] H
    have d1 := DGet.k (k := (Sum.inr "new" : Key)) hE
    rw [get_new] at d1
    simp only [r_seq, r_next, r_brk, r_cont, r_asg, r_name, r_ret, r_retN, r_drop, r_ifs, r_never, r_var, r_c, r_op, r_un, r_if, r_tst, r_b, r_not, r_and, r_or, r_andV, r_orV, r_notV, r_nil, r_cons, r_tup, r_lst, r_cb, r_call, r_bm, r_bm0, r_sl, r_nopart, r_part, r_rev, r_gnil, r_gcons, r_gsub, r_par, r_aug, r_chain, r_I0, r_I, r_U, r_ixd, r_lend, r_tupd, r_listd, r_sld, r_app, r_ext, r_reverse, r_setl, r_cat, r_int1, r_eqS, r_neS, scal_ii, scal_bb, scal_ss, at0, at1, at2, sq_lst, sq_tup, isLst_lst, List.getElem?_cons_zero, List.getElem?_cons_succ, List.set_cons_zero, List.set_cons_succ, V.int.injEq, V.bl.injEq, V.ref.injEq, V.str.injEq, HO.lst.injEq, HO.tup.injEq, Option.some.injEq, exists_eq_left', exists_eq_left, List.cons.injEq, and_true, true_and, decide_eq_true_eq, reduceCtorEq, false_and, exists_false, or_false, false_or, exists_const, and_assoc, exists_and_left, List.append_nil, ix0, ix1, ix2, cm_mod, cdw1009, cdw2003, cdw7, cdw64, cdw2, cm104729, cm2, cm3, upd_same, List.length_cons, List.length_nil, Int.reduceLT, Int.reduceLE, Nat.reduceAdd, Nat.reduceLeDiff, Nat.reduceLT, Int.reduceToNat, r_for1, r_forL, r_forT, r_lcL, r_lc1, r_yes, r_gtupD, wipe_0, wipe_1, List.cons_append, List.nil_append, r_forS, r_ipI, ite_false, ite_true, Bool.not_true, Bool.not_false, decide_true, decide_false, r_isd, r_islt, cD_ty, cD_ref, tD_non, tD_bl, tD_int, tD_str, tD_ref, tH_lst, tH_tup, tH_dK, tH_ins, ki_self, ki_int_bool, ki_non_int, ki_str_int, ki_lt_lst, ki_lt_tup, r_fld, r_sfld, HO.ins.injEq, cx_K, r_sput, r_dget]
    refine ⟨_, d1, _, rfl, _, DPut.k (k := (Sum.inr "new" : Key)) hE (by show 7 < sizeLine; decide), ?_⟩
    rw [put_new]
    have e2 : L2.upd H E (.dK (envK { e with new := e.new + 1 })) E = some (.dK (envK { e with new := e.new + 1 })) := upd_same
    have d2 := DGet.k (k := (Sum.inr "new" : Key)) e2
    rw [get_new] at d2
    refine ⟨_, d2, _, rfl, ?_⟩
    have := k _ (fun b nb => upd_ne nb) e2
    rw [show e.new + 1 - 1 = e.new by omega]
    exact this
end
end C31

set_option maxHeartbeats 2000000
namespace C31
open PySem PySem.Spec PyProof.Rows L2
/-! ### the law's own drawing, as data (pure) -/
def look (t : List Td) (n : Int) : Option Td := t.find? fun p => decide (p.n = n)
theorem has_look {t : List Td} {n : Int} : hasT t n = (look t n).isSome := has_find
theorem look_cons {t : List Td} {p : Td} {n : Int} : look (p :: t) n = if p.n = n then some p else look t n := by
  unfold look
  rw [List.find?_cons]
  by_cases c : p.n = n
  · rw [decide_eq_true c, if_pos c]
  · rw [decide_eq_false c, if_neg c]
def Fr (f : List R5) (n : Int) : Prop := ∀ y ∈ f, y.w = "LABEL" → labI y.a ≠ n
def gLabs : Gd → List Int
  | .no => []
  | .on h o => h.lab :: gLabs o
def tdOf (h : Hd3) (o : Gd) : Td := ⟨h.lab, h.dep + (if h.want = true then 2 else 1), o⟩
def GdOk (t : List Td) : Gd → Prop
  | .no => True
  | .on h o => (look t h.lab = none ∨ look t h.lab = some (tdOf h o)) ∧ GdOk t o
def fwd (y : R5) : R5 := if y.w = "JUMP" then ⟨"JUMP_FORWARD", y.a, y.l, y.h⟩ else y
def YW : List Str := ["LOAD_NAME", "POP_TOP", "YIELD_VALUE", "RESUME", "JUMP", "RETURN_VALUE", "NOP", "LABEL"]
def cokB (n : Nat) (z : Str) : Bool := decide (z.length ≤ n) && z.cps.toList.all fun x => decide (x < 16 ^ 8)
def okZ (z : Str) : Bool := PyData.strOk z && cokB 20 z
def ScA (a : V) : Prop := a = .non ∨ (∃ i : Int, a = .int i) ∨ ∃ z : Str, a = .str z ∧ okZ z = true
structure YOk (y : R5) : Prop where
  w : y.w ∈ YW
  a : (y.w = "LABEL" ∨ y.w = "JUMP") → ∃ n : Int, y.a = .int n
  d : ScA y.a
  l : LineOk y
def JpOk (due : List R5) (pend : List Int) : Prop := ∀ (i : Nat) (y : R5), due[i]? = some y → y.w = "JUMP_FORWARD" → labI y.a ∈ pend ∨ ∃ (j : Nat) (z : R5), i < j ∧ due[j]? = some z ∧ z.w = "LABEL" ∧ labI z.a = labI y.a
def keepT (t : List Td) (y : R5) : Bool := !decide (y.w = "LABEL") || hasT t (labI y.a)
structure Core (gg : Gd) (new : Int) (f : List R5) (u : List (Int × Bool)) (t : List Td) (due : List R5) (pend : List Int) : Prop where
  gk : GdOk t gg
  gf : ∀ n ∈ gLabs gg, Fr f n ∧ n < new
  gn : (gLabs gg).Nodup
  hi : ∀ n, new ≤ n → look t n = none ∧ Fr f n
  un : ∀ q ∈ u, q.2 = false ∧ look t q.1 = none ∧ ¬ Fr f q.1
  lt : ∀ y ∈ f, y.w = "LABEL" → hasT t (labI y.a) = true ∨ ∃ q ∈ u, q.1 = labI y.a
  de : due = (f.filter (keepT t)).map fwd
  ok : ∀ y ∈ f, YOk y
  jp : JpOk due pend
  nn : 0 ≤ new
theorem keep_congr {f : List R5} {t t' : List Td} (h : ∀ n, ¬ Fr f n → hasT t' n = hasT t n) : f.filter (keepT t') = f.filter (keepT t) := by
  refine List.filter_congr fun y hy => ?_
  unfold keepT
  by_cases c : y.w = "LABEL"
  · rw [h _ fun k => k y hy c rfl]
  · rw [decide_eq_false c]
    rfl
theorem Fr.snoc {f : List R5} {y : R5} {n : Int} (h : Fr f n) (k : y.w = "LABEL" → labI y.a ≠ n) : Fr (f ++ [y]) n := fun z hz hw => by
  rcases List.mem_append.mp hz with hz | hz
  · exact h z hz hw
  · rw [List.mem_singleton.mp hz] at hw ⊢
    exact k hw
theorem Fr.not {f : List R5} {y : R5} {n : Int} (h : ¬ Fr f n) : ¬ Fr (f ++ [y]) n := fun k => h fun z hz hw => k z (List.mem_append.mpr (.inl hz)) hw
theorem gk_add {t : List Td} {p : Td} : ∀ {gg : Gd}, GdOk t gg → p.n ∉ gLabs gg → GdOk (p :: t) gg
  | .no, _, _ => trivial
  | .on h o, ⟨h1, h2⟩, k => by
    have n1 : ¬ p.n = h.lab := fun e => k (by rw [e]; exact List.mem_cons_self)
    refine ⟨?_, gk_add h2 fun e => k (List.mem_cons_of_mem _ e)⟩
    rw [look_cons, if_neg n1]
    exact h1
section
variable {gg : Gd} {new : Int} {f : List R5} {u : List (Int × Bool)} {t : List Td} {due : List R5} {pend : List Int}
theorem Core.add {p : Td} (C : Core gg new f u t due pend) (fr : Fr f p.n) (hn : p.n < new) (gk : GdOk (p :: t) gg) : Core gg new f u (p :: t) due pend where
  gk := gk
  gf := C.gf
  gn := C.gn
  hi n h := by
    rw [look_cons, if_neg (by omega)]
    exact C.hi n h
  un q hq := by
    obtain ⟨h1, h2, h3⟩ := C.un q hq
    refine ⟨h1, ?_, h3⟩
    rw [look_cons, if_neg fun e => h3 (by rw [← e]; exact fr)]
    exact h2
  lt y hy hw := by
    rcases C.lt y hy hw with h | h
    · refine .inl ?_
      unfold hasT at h ⊢
      rw [List.any_cons, h, Bool.or_true]
    · exact .inr h
  de := by
    rw [C.de, keep_congr (t := t) (t' := p :: t) fun n h => ?_]
    rw [has_look, has_look, look_cons, if_neg fun e => h (by rw [← e]; exact fr)]
  ok := C.ok
  jp := C.jp
  nn := C.nn
theorem Core.tell (C : Core gg new f u t due pend) : Core gg new f u (tellH t gg) due pend := by
  cases gg with
  | no => exact C
  | on h o =>
    show Core _ _ _ _ (if hasT t h.lab = true then t else tdOf h o :: t) _ _
    by_cases c : hasT t h.lab = true
    · rw [if_pos c]; exact C
    · rw [if_neg c]
      obtain ⟨h1, h2⟩ := C.gf h.lab List.mem_cons_self
      refine C.add (p := tdOf h o) h1 h2 ⟨.inr ?_, gk_add C.gk.2 (List.nodup_cons.mp C.gn).1⟩
      rw [look_cons]
      exact if_pos rfl
theorem tell_look (C : Core gg new f u t due pend) : ∀ n, look (tellH t gg) n = look t n ∨ (n ∈ gLabs gg ∧ look t n = none) := fun n => by
  cases gg with
  | no => exact .inl rfl
  | on h o =>
    show look (if hasT t h.lab = true then t else tdOf h o :: t) n = _ ∨ _
    by_cases c : hasT t h.lab = true
    · rw [if_pos c]; exact .inl rfl
    · rw [if_neg c, look_cons]
      by_cases e : h.lab = n
      · refine .inr ⟨by rw [← e]; exact List.mem_cons_self, ?_⟩
        rw [has_look, e] at c
        exact Option.not_isSome_iff_eq_none.mp c
      · exact .inl (if_neg e)
theorem tell_told {h : Hd3} {o : Gd} (C : Core (.on h o) new f u t due pend) : look (tellH t (.on h o)) h.lab = some (tdOf h o) := by
  show look (if hasT t h.lab = true then t else tdOf h o :: t) _ = _
  by_cases c : hasT t h.lab = true
  · rw [if_pos c]
    rw [has_look] at c
    rcases C.gk.1 with e | e
    · rw [e] at c; cases c
    · exact e
  · rw [if_neg c, look_cons]
    exact if_pos rfl
theorem jp_snoc {due : List R5} {pend pend' : List Int} {y : R5} (h : JpOk due pend) (k : ∀ n ∈ pend, n ∈ pend' ∨ (y.w = "LABEL" ∧ labI y.a = n)) (q : y.w = "JUMP_FORWARD" → labI y.a ∈ pend') : JpOk (due ++ [y]) pend' := by
  intro i x hx hw
  by_cases c : i < due.length
  · rw [List.getElem?_append_left c] at hx
    rcases h i x hx hw with e | ⟨j, z, h1, h2, h3⟩
    · rcases k _ e with e | ⟨e1, e2⟩
      · exact .inl e
      · exact .inr ⟨due.length, y, c, by simp, e1, e2⟩
    · have hj : j < due.length := (List.getElem?_eq_some_iff.mp h2).1
      exact .inr ⟨j, z, h1, by rw [List.getElem?_append_left hj]; exact h2, h3⟩
  · have hi : i < (due ++ [y]).length := (List.getElem?_eq_some_iff.mp hx).1
    rw [List.length_append, List.length_singleton] at hi
    obtain rfl : i = due.length := by omega
    have : y = x := by simpa using hx
    subst this
    exact .inl (q hw)
theorem jp_mono {due : List R5} {pend pend' : List Int} (h : JpOk due pend) (k : ∀ n ∈ pend, n ∈ pend') : JpOk due pend' := fun i y h1 h2 => (h i y h1 h2).imp (k _) id
theorem fwd_lab {y : R5} (h : (fwd y).w = "LABEL") : y.w = "LABEL" := by
  unfold fwd at h
  split at h
  · exact absurd h (by show ¬ ("JUMP_FORWARD" : Str) = "LABEL"; decide)
  · exact h
theorem fwd_a {y : R5} : (fwd y).a = y.a := by
  unfold fwd
  split <;> rfl
theorem fwd_jf {y : R5} (h : y.w ∈ YW) (k : (fwd y).w = "JUMP_FORWARD") : y.w = "JUMP" := by
  unfold fwd at k
  split at k
  · assumption
  · rw [k] at h
    exact absurd h (by decide)
theorem Core.row {y : R5} {pend' : List Int} (C : Core gg new f u t due pend) (nl : y.w ≠ "LABEL") (ok : YOk y) (k : ∀ n ∈ pend, n ∈ pend') (q : y.w = "JUMP" → labI y.a ∈ pend') : Core gg new (f ++ [y]) u t (due ++ [fwd y]) pend' where
  gk := C.gk
  gf n h := ⟨(C.gf n h).1.snoc fun e => absurd e nl, (C.gf n h).2⟩
  gn := C.gn
  hi n h := ⟨(C.hi n h).1, (C.hi n h).2.snoc fun e => absurd e nl⟩
  un q hq := ⟨(C.un q hq).1, (C.un q hq).2.1, Fr.not (C.un q hq).2.2⟩
  lt z hz hw := by
    rcases List.mem_append.mp hz with hz | hz
    · exact C.lt z hz hw
    · rw [List.mem_singleton.mp hz] at hw
      exact absurd hw nl
  de := by
    have e : keepT t y = true := by unfold keepT; rw [decide_eq_false nl]; rfl
    rw [C.de, List.filter_append, List.map_append, List.filter_cons_of_pos e]
    rfl
  ok z hz := by
    rcases List.mem_append.mp hz with hz | hz
    · exact C.ok z hz
    · rw [List.mem_singleton.mp hz]; exact ok
  jp := jp_snoc C.jp (fun n h => .inl (k n h)) fun e => by rw [fwd_a]; exact q (fwd_jf ok.w e)
  nn := C.nn
/-- a label that is told -/
theorem Core.lab {n : Int} {pend' : List Int} (C : Core gg new f u t due pend) (told : hasT t n = true) (ng : n ∉ gLabs gg) (hn : n < new) (k : ∀ m ∈ pend, m ∈ pend' ∨ m = n) : Core gg new (f ++ [⟨"LABEL", .int n, none, none⟩]) u t (due ++ [⟨"LABEL", .int n, none, none⟩]) pend' where
  gk := C.gk
  gf m h := ⟨(C.gf m h).1.snoc fun _ e => ng (by have e : n = m := e; rw [e]; exact h), (C.gf m h).2⟩
  gn := C.gn
  hi m h := ⟨(C.hi m h).1, (C.hi m h).2.snoc fun _ e => by have e : n = m := e; omega⟩
  un q hq := ⟨(C.un q hq).1, (C.un q hq).2.1, Fr.not (C.un q hq).2.2⟩
  lt z hz hw := by
    rcases List.mem_append.mp hz with hz | hz
    · exact C.lt z hz hw
    · rw [List.mem_singleton.mp hz]
      exact .inl told
  de := by
    have e : keepT t ⟨"LABEL", .int n, none, none⟩ = true := by
      unfold keepT
      show (_ || hasT t n) = true
      rw [told, Bool.or_true]
    rw [C.de, List.filter_append, List.map_append, List.filter_cons_of_pos e]
    rfl
  ok z hz := by
    rcases List.mem_append.mp hz with hz | hz
    · exact C.ok z hz
    · rw [List.mem_singleton.mp hz]
      exact ⟨by show ("LABEL" : Str) ∈ YW; decide, fun _ => ⟨n, rfl⟩, .inr (.inl ⟨n, rfl⟩), fun e => absurd rfl e⟩
  jp := jp_snoc (y := ⟨"LABEL", .int n, none, none⟩) C.jp (fun m h => (k m h).imp id fun e => ⟨rfl, e.symm⟩) fun e => absurd e (by show ¬ ("LABEL" : Str) = "JUMP_FORWARD"; decide)
  nn := C.nn
/-- a label that no way reaches -/
theorem Core.dead {n : Int} (C : Core gg new f u t due pend) (ut : look t n = none) (fr : Fr f n) (ng : n ∉ gLabs gg) (hn : n < new) : Core gg new (f ++ [⟨"LABEL", .int n, none, none⟩]) (putU u n false) t due pend := by
  have nu : (u.any fun p => decide (p.1 = n)) = false := by
    rw [List.any_eq_false]
    intro q hq e
    exact (C.un q hq).2.2 (by rw [of_decide_eq_true e]; exact fr)
  have eu : putU u n false = u ++ [(n, false)] := by
    unfold putU
    rw [nu]
    rfl
  rw [eu]
  exact {
    gk := C.gk
    gf := fun m h => ⟨(C.gf m h).1.snoc fun _ e => ng (by have e : n = m := e; rw [e]; exact h), (C.gf m h).2⟩
    gn := C.gn
    hi := fun m h => ⟨(C.hi m h).1, (C.hi m h).2.snoc fun _ e => by have e : n = m := e; omega⟩
    un := fun q hq => by
      rcases List.mem_append.mp hq with hq | hq
      · exact ⟨(C.un q hq).1, (C.un q hq).2.1, Fr.not (C.un q hq).2.2⟩
      · rw [List.mem_singleton.mp hq]
        exact ⟨rfl, ut, fun k => k _ (List.mem_append.mpr (.inr (List.mem_singleton.mpr rfl))) rfl rfl⟩
    lt := fun z hz hw => by
      rcases List.mem_append.mp hz with hz | hz
      · rcases C.lt z hz hw with e | ⟨q, h1, h2⟩
        · exact .inl e
        · exact .inr ⟨q, List.mem_append.mpr (.inl h1), h2⟩
      · rw [List.mem_singleton.mp hz]
        exact .inr ⟨(n, false), List.mem_append.mpr (.inr (List.mem_singleton.mpr rfl)), rfl⟩
    de := by
      have e : ¬ keepT t ⟨"LABEL", .int n, none, none⟩ = true := by
        unfold keepT
        show ¬ (false || hasT t n) = true
        rw [has_look, ut]
        decide
      rw [C.de, List.filter_append, List.filter_cons_of_neg e, List.filter_nil, List.append_nil]
    ok := fun z hz => by
      rcases List.mem_append.mp hz with hz | hz
      · exact C.ok z hz
      · rw [List.mem_singleton.mp hz]
        exact ⟨by show ("LABEL" : Str) ∈ YW; decide, fun _ => ⟨n, rfl⟩, .inr (.inl ⟨n, rfl⟩), fun e => absurd rfl e⟩
    jp := C.jp
    nn := C.nn }
theorem Core.fresh (C : Core gg new f u t due pend) {m : Int} (h : new ≤ m) : Core gg m f u t due pend where
  gk := C.gk
  gf n h := ⟨(C.gf n h).1, by have := (C.gf n h).2; omega⟩
  gn := C.gn
  hi n h := C.hi n (by omega)
  un := C.un
  lt := C.lt
  de := C.de
  ok := C.ok
  jp := C.jp
  nn := by have := C.nn; omega
theorem Core.push {h : Hd3} (C : Core gg new f u t due pend) (fr : Fr f h.lab) (ut : look t h.lab = none) (ng : h.lab ∉ gLabs gg) (hn : h.lab < new) : Core (.on h gg) new f u t due pend where
  gk := ⟨.inl ut, C.gk⟩
  gf n k := by
    rcases List.mem_cons.mp k with e | k
    · rw [e]; exact ⟨fr, hn⟩
    · exact C.gf n k
  gn := List.nodup_cons.mpr ⟨ng, C.gn⟩
  hi := C.hi
  un := C.un
  lt := C.lt
  de := C.de
  ok := C.ok
  jp := C.jp
  nn := C.nn
theorem Core.pop {h : Hd3} (C : Core (.on h gg) new f u t due pend) : Core gg new f u t due pend where
  gk := C.gk.2
  gf n k := C.gf n (List.mem_cons_of_mem _ k)
  gn := (List.nodup_cons.mp C.gn).2
  hi := C.hi
  un := C.un
  lt := C.lt
  de := C.de
  ok := C.ok
  jp := C.jp
  nn := C.nn
end
end C31

set_option maxHeartbeats 2000000
namespace C31
open PySem PySem.Spec PyProof.Rows L2
/-! ### what the law keeps, and the program's pass over it (pure) -/
structure Ls where
  rows : List R3
  due : List R5
  bl : List Hd3
  line : Int
  new : Int
  height : Int
def gOf (bl : List Hd3) : Gd := bl.foldl (fun g h => .on h g) .no
theorem gOf_snoc (bl : List Hd3) (h : Hd3) : gOf (bl ++ [h]) = .on h (gOf bl) := by
  unfold gOf
  rw [List.foldl_append]
  rfl
theorem gOf_hd (bl : List Hd3) : (gOf bl).hd = bl.getLast? := by
  rcases List.eq_nil_or_concat bl with rfl | ⟨l, h, rfl⟩
  · rfl
  · rw [List.concat_eq_append, gOf_snoc, List.getLast?_append]
    rfl
theorem gOf_n (bl : List Hd3) : (gOf bl).n = bl.length := by
  rcases List.eq_nil_or_concat bl with rfl | ⟨l, h, rfl⟩
  · rfl
  · rw [List.concat_eq_append, gOf_snoc, List.length_append]
    show (gOf l).n + 1 = _
    rw [gOf_n l]
    rfl
termination_by bl.length
decreasing_by subst_vars; simp
def XW : List Str := ["LOAD_NAME", "POP_TOP", "YIELD_VALUE", "RESUME", "JUMP", "RETURN_VALUE", "LABEL", "SETUP_FINALLY", "SETUP_CLEANUP", "SETUP_WITH", "POP_BLOCK"]
structure XOk (x : R3) : Prop where
  ok : Ok5 x
  d : ScA x.a
  w : x.w ∈ XW
abbrev Gs (s : Ls) : G5 := goTo5 [] s.rows
structure Inv (s : Ls) (pend : List Int) (live : Bool) (d : Int) : Prop where
  ok : ∀ x ∈ s.rows, XOk x
  og : OkGo [] s.rows
  core : Core (gOf s.bl) s.new (Gs s).f (Gs s).u (Gs s).t s.due pend
  lv : (Gs s).live = live
  dp : live = true → (Gs s).dep = d ∧ (Gs s).g = gOf s.bl
structure Gro (N : Int) (L : List Int) (g g' : G5) : Prop where
  tm : ∀ n p, look g.t n = some p → look g'.t n = some p
  ut : ∀ n, n < N → n ∉ L → look g.t n = none → look g'.t n = none
  fr : ∀ n, n < N → n ∉ L → Fr g.f n → Fr g'.f n
theorem Gro.refl {N : Int} {L : List Int} {g : G5} : Gro N L g g := ⟨fun _ _ e => e, fun _ _ _ e => e, fun _ _ _ e => e⟩
theorem Gro.trans {N : Int} {L : List Int} {g g1 g2 : G5} (h : Gro N L g g1) (k : Gro N L g1 g2) : Gro N L g g2 := ⟨fun n p e => k.tm n p (h.tm n p e), fun n a b e => k.ut n a b (h.ut n a b e), fun n a b e => k.fr n a b (h.fr n a b e)⟩
theorem Gro.mono {N N' : Int} {L L' : List Int} {g g' : G5} (h : Gro N L g g') (hN : N' ≤ N) (hL : ∀ n, n < N' → n ∉ L' → n ∉ L) : Gro N' L' g g' := ⟨h.tm, fun n a b e => h.ut n (by omega) (hL n a b) e, fun n a b e => h.fr n (by omega) (hL n a b) e⟩
/-- what is told of the guard that is in force -/
def Tld (s : Ls) : Prop := ∀ h o, gOf s.bl = .on h o → (look (Gs s).t h.lab).isSome = true
theorem og_snoc {xs : List R3} {x : R3} (h : OkGo [] xs) (k : x.w = "POP_BLOCK" → (goTo5 [] xs).live = true → (goTo5 [] xs).g ≠ .no) : OkGo [] (xs ++ [x]) := by
  intro i y hi hw
  by_cases c : i < xs.length
  · rw [List.getElem?_append_left c] at hi
    rw [List.take_append_of_le_length (by omega)]
    exact h i y hi hw
  · have hl : i < (xs ++ [x]).length := (List.getElem?_eq_some_iff.mp hi).1
    rw [List.length_append, List.length_singleton] at hl
    obtain rfl : i = xs.length := by omega
    have : x = y := by simpa using hi
    subst this
    rw [List.take_append_of_le_length (Nat.le_refl _), List.take_length]
    exact k hw
theorem gs_snoc (xs : List R3) (x : R3) : goTo5 [] (xs ++ [x]) = step5 (goTo5 [] xs) x := by
  unfold goTo5
  rw [List.foldl_append]
  rfl
theorem ok_snoc {xs : List R3} {x : R3} (h : ∀ y ∈ xs, XOk y) (k : XOk x) : ∀ y ∈ xs ++ [x], XOk y := fun y hy => by
  rcases List.mem_append.mp hy with hy | hy
  · exact h y hy
  · rw [List.mem_singleton.mp hy]; exact k
def PW : List Str := ["LOAD_NAME", "POP_TOP", "YIELD_VALUE", "RESUME", "RETURN_VALUE"]
theorem pw_facts : ∀ z ∈ PW, z ≠ "LABEL" ∧ opens z = false ∧ leading z = false ∧ z ≠ "JUMP" ∧ z ∈ YW ∧ z ∈ FW ∧ z ∈ EW ∧ z ∈ XW ∧ z ≠ "POP_BLOCK" := by decide +kernel
theorem xok_plain {z : Str} {a : V} {l : Option Int} (hz : z ∈ PW) (ha : ScA a) (hr : z = "RESUME" → ∃ n : Int, a = .int n) : XOk ⟨z, a, l⟩ := by
  obtain ⟨h1, h2, h3, h4, h5, h6, h7, h8, h9⟩ := pw_facts z hz
  exact ⟨⟨h6, fun e => absurd e h1, (fun e => by rw [h2] at e; cases e), fun _ _ => h7, (fun e => by rw [h3] at e; cases e), hr⟩, ha, h8⟩
theorem inv_row {s : Ls} {pend : List Int} {d : Int} {x : R3} (I : Inv s pend true d) (hx : x.w ∈ PW) (ok : XOk x) (hl : x.l ≠ none) (l h : Int) :
    Inv ⟨s.rows ++ [x], s.due ++ [⟨x.w, argR (Gs s) x, x.l, (gOf s.bl).hd⟩], s.bl, l, s.new, h⟩ pend (!leaving x.w) (d + eff x.w) ∧
    Gro s.new (gLabs (gOf s.bl)) (Gs s) (goTo5 [] (s.rows ++ [x])) ∧ (∀ h o, gOf s.bl = .on h o → (look (goTo5 [] (s.rows ++ [x])).t h.lab).isSome = true) ∧ (goTo5 [] (s.rows ++ [x])).ah = x.w := by
  obtain ⟨n1, n2, n3, n4, n5, n6, n7, n8, n9⟩ := pw_facts _ hx
  obtain ⟨ed, eg⟩ := I.dp rfl
  have es : goTo5 [] (s.rows ++ [x]) = livStep (Gs s) x := by
    rw [gs_snoc]
    unfold step5
    rw [if_neg n1, if_pos I.lv, if_neg (by rw [n2]; decide)]
  have et : (livStep (Gs s) x).t = tellH (Gs s).t (gOf s.bl) := by
    show (if leading x.w = true ∧ _ then _ else tellH (Gs s).t (Gs s).g) = _
    rw [if_neg (fun q => by rw [n3] at q; cases q.1), eg]
  have ef : (livStep (Gs s) x).f = (Gs s).f ++ [⟨x.w, argR (Gs s) x, x.l, (gOf s.bl).hd⟩] := by
    show (Gs s).f ++ [⟨x.w, argR (Gs s) x, x.l, (Gs s).g.hd⟩] = _
    rw [eg]
  have sa : ScA (argR (Gs s) x) := by
    unfold argR
    split
    · exact .inr (.inl ⟨5, rfl⟩)
    · exact ok.d
  have fw : fwd ⟨x.w, argR (Gs s) x, x.l, (gOf s.bl).hd⟩ = ⟨x.w, argR (Gs s) x, x.l, (gOf s.bl).hd⟩ := if_neg n4
  have C := (I.core.tell).row (y := ⟨x.w, argR (Gs s) x, x.l, (gOf s.bl).hd⟩) n1 ⟨n5, fun e => e.elim (fun e => absurd e n1) fun e => absurd e n4, sa, fun _ => hl⟩ (fun n h => h) fun e => absurd e n4
  rw [fw] at C
  rw [es]
  refine ⟨⟨ok_snoc I.ok ok, og_snoc I.og fun e => absurd e n9, ?_, ?_, fun e => ?_⟩, ⟨fun n p e => ?_, fun n a b e => ?_, fun n a b e => ?_⟩, fun h o e => ?_, rfl⟩
  · show Core (gOf s.bl) s.new (goTo5 [] (s.rows ++ [x])).f (goTo5 [] (s.rows ++ [x])).u (goTo5 [] (s.rows ++ [x])).t _ _
    rw [es, et, ef]
    exact C
  · show (goTo5 [] (s.rows ++ [x])).live = _
    rw [es]
    rfl
  · show (goTo5 [] (s.rows ++ [x])).dep = _ ∧ (goTo5 [] (s.rows ++ [x])).g = gOf s.bl
    rw [es]
    exact ⟨by show (Gs s).dep + _ = _; rw [ed], eg⟩
  · rw [et]
    rcases tell_look I.core n with q | ⟨_, q⟩
    · rw [q]; exact e
    · rw [q] at e; cases e
  · rw [et]
    rcases tell_look I.core n with q | ⟨q, _⟩
    · rw [q]; exact e
    · exact absurd q b
  · rw [ef]
    exact e.snoc fun e => absurd e n1
  · have c := I.core
    rw [et]
    rw [e] at c ⊢
    rw [tell_told c]
    rfl
theorem inv_jump {s : Ls} {pend : List Int} {d n i : Int} (I : Inv s pend true d) (hn : n < s.new) (fr : Fr (Gs s).f n) (ut : look (Gs s).t n = none) (ng : n ∉ gLabs (gOf s.bl)) (l h : Int) :
    Inv ⟨s.rows ++ [⟨"JUMP", .int n, some i⟩], s.due ++ [⟨"JUMP_FORWARD", .int n, some i, (gOf s.bl).hd⟩], s.bl, l, s.new, h⟩ (n :: pend) false 0 ∧
    Gro s.new (n :: gLabs (gOf s.bl)) (Gs s) (goTo5 [] (s.rows ++ [⟨"JUMP", .int n, some i⟩])) ∧ (∀ h o, gOf s.bl = .on h o → (look (goTo5 [] (s.rows ++ [⟨"JUMP", .int n, some i⟩])).t h.lab).isSome = true) ∧
    look (goTo5 [] (s.rows ++ [⟨"JUMP", .int n, some i⟩])).t n = some ⟨n, d, gOf s.bl⟩ := by
  obtain ⟨ed, eg⟩ := I.dp rfl
  have nl : ("JUMP" : Str) ≠ "LABEL" := by decide
  have xok : XOk ⟨"JUMP", .int n, some i⟩ := ⟨⟨by show ("JUMP" : Str) ∈ FW; decide, fun e => absurd e nl, (fun e => by have e : opens "JUMP" = true := e; exact absurd e (by decide)), fun _ _ => by show ("JUMP" : Str) ∈ EW; decide, fun _ => ⟨n, rfl⟩, fun e => absurd e (by show ¬ ("JUMP" : Str) = "RESUME"; decide)⟩, .inr (.inl ⟨n, rfl⟩), by show ("JUMP" : Str) ∈ XW; decide⟩
  have es : goTo5 [] (s.rows ++ [⟨"JUMP", .int n, some i⟩]) = livStep (Gs s) ⟨"JUMP", .int n, some i⟩ := by
    rw [gs_snoc]
    unfold step5
    rw [if_neg nl, if_pos I.lv, if_neg (by show ¬ opens "JUMP" = true; decide)]
  have ut1 : look (tellH (Gs s).t (gOf s.bl)) n = none := by
    rcases tell_look I.core n with q | ⟨q, _⟩
    · rw [q]; exact ut
    · exact absurd q ng
  have et : (livStep (Gs s) ⟨"JUMP", .int n, some i⟩).t = ⟨n, d, gOf s.bl⟩ :: tellH (Gs s).t (gOf s.bl) := by
    show (if leading "JUMP" = true ∧ hasT (tellH (Gs s).t (Gs s).g) n = false then (⟨n, (Gs s).dep + eff "JUMP", (Gs s).g⟩ : Td) :: tellH (Gs s).t (Gs s).g else _) = _
    rw [eg, has_look, ut1, if_pos ⟨by decide, rfl⟩, ed]
    show (⟨n, d + 0, _⟩ : Td) :: _ = _
    rw [Int.add_zero]
  have ef : (livStep (Gs s) ⟨"JUMP", .int n, some i⟩).f = (Gs s).f ++ [⟨"JUMP", .int n, some i, (gOf s.bl).hd⟩] := by
    show (Gs s).f ++ [⟨"JUMP", argR (Gs s) ⟨"JUMP", .int n, some i⟩, some i, (Gs s).g.hd⟩] = _
    rw [eg]
    unfold argR
    rw [if_neg fun q => absurd q.1 (by show ¬ ("JUMP" : Str) = "RESUME"; decide)]
  have fw : fwd ⟨"JUMP", .int n, some i, (gOf s.bl).hd⟩ = ⟨"JUMP_FORWARD", .int n, some i, (gOf s.bl).hd⟩ := if_pos rfl
  have C1 := (I.core.tell).add (p := ⟨n, d, gOf s.bl⟩) fr hn (gk_add I.core.tell.gk ng)
  have C := C1.row (y := ⟨"JUMP", .int n, some i, (gOf s.bl).hd⟩) (pend' := n :: pend) nl ⟨by show ("JUMP" : Str) ∈ YW; decide, fun _ => ⟨n, rfl⟩, .inr (.inl ⟨n, rfl⟩), fun _ e => by cases e⟩ (fun n h => List.mem_cons_of_mem _ h) fun _ => List.mem_cons_self
  rw [fw] at C
  rw [es]
  refine ⟨⟨ok_snoc I.ok xok, og_snoc I.og fun e => absurd e (by show ¬ ("JUMP" : Str) = "POP_BLOCK"; decide), ?_, ?_, fun e => by cases e⟩, ⟨fun m p e => ?_, fun m a b e => ?_, fun m a b e => ?_⟩, fun h o e => ?_, ?_⟩
  · show Core (gOf s.bl) s.new (goTo5 [] (s.rows ++ [_])).f (goTo5 [] (s.rows ++ [_])).u (goTo5 [] (s.rows ++ [_])).t _ _
    rw [es, et, ef]
    exact C
  · show (goTo5 [] (s.rows ++ [_])).live = _
    rw [es]
    show (!leaving "JUMP") = false
    decide
  · rw [et, look_cons]
    by_cases c : n = m
    · rw [← c, ut] at e; cases e
    · rw [if_neg c]
      rcases tell_look I.core m with q | ⟨_, q⟩
      · rw [q]; exact e
      · rw [q] at e; cases e
  · rw [et, look_cons, if_neg fun c => b (by have c : n = m := c; rw [c]; exact List.mem_cons_self)]
    rcases tell_look I.core m with q | ⟨q, _⟩
    · rw [q]; exact e
    · exact absurd (List.mem_cons_of_mem _ q) b
  · rw [ef]
    exact e.snoc fun e => absurd e nl
  · have c := I.core
    rw [et, look_cons]
    split
    · rfl
    · rw [e] at c ⊢
      rw [tell_told c]
      rfl
  · rw [et, look_cons]
    exact if_pos rfl
theorem xok_lab (n : Int) : XOk ⟨"LABEL", .int n, none⟩ := ⟨⟨by show ("LABEL" : Str) ∈ FW; decide, fun _ => ⟨n, rfl⟩, (fun e => by have e : opens "LABEL" = true := e; exact absurd e (by decide)), fun e => absurd rfl e, (fun e => by have e : leading "LABEL" = true := e; exact absurd e (by decide)), fun e => absurd e (by show ¬ ("LABEL" : Str) = "RESUME"; decide)⟩, .inr (.inl ⟨n, rfl⟩), by show ("LABEL" : Str) ∈ XW; decide⟩
theorem inv_lab {s : Ls} {pend pend' : List Int} {live : Bool} {d n dd : Int} {p : Td} (I : Inv s pend live d) (hn : n < s.new) (tl : look (Gs s).t n = some p) (ng : n ∉ gLabs (gOf s.bl)) (k : ∀ m ∈ pend, m ∈ pend' ∨ m = n) (q : (live = true ∧ dd = d) ∨ (live = false ∧ p.g = gOf s.bl ∧ dd = p.dep)) (l h : Int) :
    Inv ⟨s.rows ++ [⟨"LABEL", .int n, none⟩], s.due ++ [⟨"LABEL", .int n, none, none⟩], s.bl, l, s.new, h⟩ pend' true dd ∧ Gro s.new (n :: gLabs (gOf s.bl)) (Gs s) (goTo5 [] (s.rows ++ [⟨"LABEL", .int n, none⟩])) ∧ (goTo5 [] (s.rows ++ [⟨"LABEL", .int n, none⟩])).t = (Gs s).t := by
  have es : goTo5 [] (s.rows ++ [⟨"LABEL", .int n, none⟩]) = labStep (Gs s) ⟨"LABEL", .int n, none⟩ := by
    rw [gs_snoc]
    unfold step5
    rw [if_pos rfl]
  have tl' : (Gs s).t.find? (fun p => decide (p.n = labI (⟨"LABEL", .int n, none⟩ : R3).a)) = some p := tl
  have e2 : (labStep (Gs s) ⟨"LABEL", .int n, none⟩).f = (Gs s).f ++ [⟨"LABEL", .int n, none, none⟩] ∧ (labStep (Gs s) ⟨"LABEL", .int n, none⟩).u = (Gs s).u ∧ (labStep (Gs s) ⟨"LABEL", .int n, none⟩).t = (Gs s).t ∧ (labStep (Gs s) ⟨"LABEL", .int n, none⟩).live = true ∧ (labStep (Gs s) ⟨"LABEL", .int n, none⟩).dep = dd ∧ (labStep (Gs s) ⟨"LABEL", .int n, none⟩).g = gOf s.bl := by
    unfold labStep
    rw [tl']
    dsimp only
    rcases q with ⟨q1, q2⟩ | ⟨q1, q2, q3⟩
    · obtain ⟨h1, h2⟩ := I.dp q1
      have lv := I.lv
      rw [q1] at lv
      rw [if_pos lv]
      exact ⟨rfl, rfl, rfl, lv, by rw [q2]; exact h1, h2⟩
    · have lv := I.lv
      rw [q1] at lv
      rw [if_neg (by rw [lv]; decide)]
      exact ⟨rfl, rfl, rfl, rfl, q3.symm, q2⟩
  obtain ⟨e3, e4, e5, e6, e7, e8⟩ := e2
  rw [es]
  refine ⟨⟨ok_snoc I.ok (xok_lab n), og_snoc I.og fun e => absurd e (by show ¬ ("LABEL" : Str) = "POP_BLOCK"; decide), ?_, ?_, fun _ => ?_⟩, ⟨fun m p e => ?_, fun m a b e => ?_, fun m a b e => ?_⟩, e5⟩
  · show Core (gOf s.bl) s.new (goTo5 [] (s.rows ++ [_])).f (goTo5 [] (s.rows ++ [_])).u (goTo5 [] (s.rows ++ [_])).t _ _
    rw [es, e3, e4, e5]
    exact I.core.lab (by rw [has_look, tl]; rfl) ng hn k
  · show (goTo5 [] (s.rows ++ [_])).live = _
    rw [es]
    exact e6
  · show (goTo5 [] (s.rows ++ [_])).dep = _ ∧ (goTo5 [] (s.rows ++ [_])).g = gOf s.bl
    rw [es]
    exact ⟨e7, e8⟩
  · rw [e5]; exact e
  · rw [e5]; exact e
  · rw [e3]
    exact e.snoc fun _ c => b (by have c : n = m := c; rw [c]; exact List.mem_cons_self)
/-- rows that no way reaches -/
theorem inv_skip {s : Ls} {pend : List Int} {d : Int} {x : R3} (I : Inv s pend false d) (hx : x.w ∈ PW) (ok : XOk x) (l h : Int) : Inv ⟨s.rows ++ [x], s.due, s.bl, l, s.new, h⟩ pend false d ∧ Gro s.new (gLabs (gOf s.bl)) (Gs s) (goTo5 [] (s.rows ++ [x])) ∧ (goTo5 [] (s.rows ++ [x])).t = (Gs s).t := by
  obtain ⟨n1, n2, n3, n4, n5, n6, n7, n8, n9⟩ := pw_facts _ hx
  have es : goTo5 [] (s.rows ++ [x]) = { Gs s with ah := x.w } := by
    rw [gs_snoc]
    unfold step5
    rw [if_neg n1, if_neg (by rw [I.lv]; decide)]
  rw [es]
  refine ⟨⟨ok_snoc I.ok ok, og_snoc I.og fun e => absurd e n9, ?_, ?_, fun e => by cases e⟩, ⟨fun _ _ e => e, fun _ _ _ e => e, fun _ _ _ e => e⟩, rfl⟩
  · show Core (gOf s.bl) s.new (goTo5 [] (s.rows ++ [x])).f (goTo5 [] (s.rows ++ [x])).u (goTo5 [] (s.rows ++ [x])).t _ _
    rw [es]
    exact I.core
  · show (goTo5 [] (s.rows ++ [x])).live = _
    rw [es]
    exact I.lv
theorem inv_dead {s : Ls} {pend : List Int} {d n : Int} (I : Inv s pend false d) (hn : n < s.new) (fr : Fr (Gs s).f n) (ut : look (Gs s).t n = none) (ng : n ∉ gLabs (gOf s.bl)) (l h : Int) :
    Inv ⟨s.rows ++ [⟨"LABEL", .int n, none⟩], s.due, s.bl, l, s.new, h⟩ pend false d ∧ Gro s.new (n :: gLabs (gOf s.bl)) (Gs s) (goTo5 [] (s.rows ++ [⟨"LABEL", .int n, none⟩])) ∧ (goTo5 [] (s.rows ++ [⟨"LABEL", .int n, none⟩])).t = (Gs s).t := by
  have es : goTo5 [] (s.rows ++ [⟨"LABEL", .int n, none⟩]) = { Gs s with f := (Gs s).f ++ [⟨"LABEL", .int n, none, none⟩], u := putU (Gs s).u n (Gs s).live, ah := "LABEL" } := by
    rw [gs_snoc]
    unfold step5
    rw [if_pos rfl]
    unfold labStep
    have ut' : (Gs s).t.find? (fun p => decide (p.n = labI (⟨"LABEL", .int n, none⟩ : R3).a)) = none := ut
    rw [ut']
    rfl
  rw [es]
  refine ⟨⟨ok_snoc I.ok (xok_lab n), og_snoc I.og fun e => absurd e (by show ¬ ("LABEL" : Str) = "POP_BLOCK"; decide), ?_, ?_, fun e => by cases e⟩, ⟨fun _ _ e => e, fun _ _ _ e => e, fun m a b e => ?_⟩, rfl⟩
  · show Core (gOf s.bl) s.new (goTo5 [] (s.rows ++ [_])).f (goTo5 [] (s.rows ++ [_])).u (goTo5 [] (s.rows ++ [_])).t _ _
    rw [es]
    show Core (gOf s.bl) s.new ((Gs s).f ++ [_]) (putU (Gs s).u n (Gs s).live) (Gs s).t s.due pend
    rw [I.lv]
    exact I.core.dead ut fr ng hn
  · show (goTo5 [] (s.rows ++ [_])).live = _
    rw [es]
    exact I.lv
  · exact e.snoc fun _ c => b (by have c : n = m := c; rw [c]; exact List.mem_cons_self)
theorem inv_new {s : Ls} {pend : List Int} {live : Bool} {d : Int} (I : Inv s pend live d) {m : Int} (hm : s.new ≤ m) (l h : Int) : Inv ⟨s.rows, s.due, s.bl, l, m, h⟩ pend live d := ⟨I.ok, I.og, I.core.fresh hm, I.lv, I.dp⟩
def nopD (lo : Option Int) (hd : Option Hd3) : List R5 := match lo with
  | none => []
  | some i => [⟨"NOP", .non, some i, hd⟩]
def SW : List Str := ["SETUP_FINALLY", "SETUP_CLEANUP", "SETUP_WITH"]
theorem sw_facts : ∀ z ∈ SW, z ≠ "LABEL" ∧ opens z = true ∧ leading z = false ∧ z ≠ "RESUME" ∧ z ∈ FW ∧ z ∈ XW ∧ z ≠ "POP_BLOCK" := by decide +kernel
theorem xok_set {z : Str} {n : Int} {lo : Option Int} (hz : z ∈ SW) : XOk ⟨z, .int n, lo⟩ := by
  obtain ⟨h1, h2, h3, h4, h5, h6, h7⟩ := sw_facts z hz
  exact ⟨⟨h5, fun e => absurd e h1, fun _ _ => ⟨n, rfl⟩, (fun _ e => by have e : opens z = false := e; rw [h2] at e; cases e), (fun e => by have e : leading z = true := e; rw [h3] at e; cases e), fun e => absurd e h4⟩, .inr (.inl ⟨n, rfl⟩), h6⟩
theorem xok_pop {lo : Option Int} : XOk ⟨"POP_BLOCK", .non, lo⟩ := ⟨⟨by show ("POP_BLOCK" : Str) ∈ FW; decide, fun e => absurd e (by show ¬ ("POP_BLOCK" : Str) = "LABEL"; decide), fun _ e => absurd rfl e, (fun _ e => by have e : opens "POP_BLOCK" = false := e; exact absurd e (by decide)), (fun e => by have e : leading "POP_BLOCK" = true := e; exact absurd e (by decide)), fun e => absurd e (by show ¬ ("POP_BLOCK" : Str) = "RESUME"; decide)⟩, .inl rfl, by show ("POP_BLOCK" : Str) ∈ XW; decide⟩
theorem nop_ok {lo : Option Int} {hd : Option Hd3} : ∀ y ∈ nopD lo hd, y.w ≠ "LABEL" ∧ YOk y ∧ y.w ≠ "JUMP" ∧ fwd y = y := fun y hy => by
  cases lo with
  | none => cases hy
  | some i =>
    rw [show y = _ from List.mem_singleton.mp hy]
    have n1 : ("NOP" : Str) ≠ "LABEL" := by decide
    have n2 : ("NOP" : Str) ≠ "JUMP" := by decide
    exact ⟨n1, ⟨by show ("NOP" : Str) ∈ YW; decide, fun e => e.elim (fun e => absurd e n1) fun e => absurd e n2, .inl rfl, fun _ e => by cases e⟩, n2, if_neg n2⟩
theorem op_rows {x : R3} {g : Gd} : opRows x g = nopD x.l (around x g).hd := by unfold opRows nopD; cases x.l <;> rfl
def tellO (lo : Option Int) (t : List Td) (g : Gd) : List Td := match lo with
  | none => t
  | some _ => tellH t g
theorem op_told {x : R3} {t : List Td} {g : Gd} : opTold x t g = tellO x.l t (around x g) := by unfold opTold tellO; cases x.l <;> rfl
theorem core_op {gg : Gd} {new : Int} {f : List R5} {u : List (Int × Bool)} {t : List Td} {due : List R5} {pend : List Int} {lo : Option Int} (C : Core gg new f u t due pend) : Core gg new (f ++ nopD lo gg.hd) u (tellO lo t gg) (due ++ nopD lo gg.hd) pend := by
  cases lo with
  | none =>
    show Core gg new (f ++ []) u t (due ++ []) pend
    rw [List.append_nil, List.append_nil]
    exact C
  | some i =>
    obtain ⟨h1, h2, h3, h4⟩ := nop_ok (lo := some i) (hd := gg.hd) _ (List.mem_singleton.mpr rfl)
    have := C.tell.row h1 h2 (fun n h => h) fun e => absurd e h3
    rw [h4] at this
    exact this
theorem nop_fr {f : List R5} {lo : Option Int} {hd : Option Hd3} {n : Int} (h : Fr f n) : Fr (f ++ nopD lo hd) n := fun y hy hw => by
  rcases List.mem_append.mp hy with hy | hy
  · exact h y hy hw
  · exact absurd hw (nop_ok y hy).1
theorem inv_open {s : Ls} {pend : List Int} {d n : Int} {z : Str} {lo : Option Int} (I : Inv s pend true d) (hz : z ∈ SW) (hn : n < s.new) (fr : Fr (Gs s).f n) (ut : look (Gs s).t n = none) (ng : n ∉ gLabs (gOf s.bl)) (l h : Int) :
    Inv ⟨s.rows ++ [⟨z, .int n, lo⟩], s.due ++ nopD lo (gOf s.bl).hd, s.bl ++ [⟨n, d - fewer z, wants z⟩], l, s.new, h⟩ pend true d ∧ Gro s.new (gLabs (gOf s.bl)) (Gs s) (goTo5 [] (s.rows ++ [⟨z, .int n, lo⟩])) := by
  obtain ⟨n1, n2, n3, n4, n5, n6, n7⟩ := sw_facts z hz
  obtain ⟨ed, eg⟩ := I.dp rfl
  have ar : ∀ g, around ⟨z, .int n, lo⟩ g = g := fun g => if_neg n7
  have es : goTo5 [] (s.rows ++ [⟨z, .int n, lo⟩]) = { Gs s with f := (Gs s).f ++ nopD lo (gOf s.bl).hd, t := tellO lo (Gs s).t (gOf s.bl), g := .on ⟨n, d - fewer z, wants z⟩ (gOf s.bl), ah := z } := by
    rw [gs_snoc]
    unfold step5
    rw [if_neg n1, if_pos I.lv, if_pos n2, op_rows, ar, eg]
    have e1 : behind ⟨z, .int n, lo⟩ (Gs s).dep (gOf s.bl) = .on ⟨n, d - fewer z, wants z⟩ (gOf s.bl) := by
      unfold behind
      rw [if_neg n7, ed]
      rfl
    have e2 : opTold ⟨z, .int n, lo⟩ (Gs s).t (gOf s.bl) = tellO lo (Gs s).t (gOf s.bl) := by
      rw [op_told, ar]
    show ({ goTo5 [] s.rows with f := _, t := opTold ⟨z, .int n, lo⟩ (Gs s).t (gOf s.bl), g := behind ⟨z, .int n, lo⟩ (Gs s).dep (gOf s.bl), ah := _ } : G5) = _
    rw [e1, e2]
  have ut1 : look (tellO lo (Gs s).t (gOf s.bl)) n = none := by
    cases lo with
    | none => exact ut
    | some i =>
      rcases tell_look I.core n with q | ⟨q, _⟩
      · show look (tellH _ _) n = none
        rw [q]; exact ut
      · exact absurd q ng
  rw [es]
  refine ⟨⟨ok_snoc I.ok (xok_set hz), og_snoc I.og fun e => absurd e n7, ?_, ?_, fun _ => ?_⟩, ⟨fun m p e => ?_, fun m a b e => ?_, fun m a b e => nop_fr e⟩⟩
  · show Core (gOf (s.bl ++ [_])) s.new (goTo5 [] (s.rows ++ [_])).f (goTo5 [] (s.rows ++ [_])).u (goTo5 [] (s.rows ++ [_])).t _ _
    rw [es, gOf_snoc]
    exact (core_op (lo := lo) I.core).push (nop_fr fr) ut1 ng hn
  · show (goTo5 [] (s.rows ++ [_])).live = _
    rw [es]
    exact I.lv
  · show (goTo5 [] (s.rows ++ [_])).dep = _ ∧ (goTo5 [] (s.rows ++ [_])).g = gOf (s.bl ++ [_])
    rw [es, gOf_snoc]
    exact ⟨ed, rfl⟩
  · cases lo with
    | none => exact e
    | some i =>
      rcases tell_look I.core m with q | ⟨_, q⟩
      · show look (tellH _ _) m = _
        rw [q]; exact e
      · rw [q] at e; cases e
  · cases lo with
    | none => exact e
    | some i =>
      rcases tell_look I.core m with q | ⟨q, _⟩
      · show look (tellH _ _) m = _
        rw [q]; exact e
      · exact absurd q b
theorem inv_close {s : Ls} {pend : List Int} {d : Int} {h0 : Hd3} {bs : List Hd3} {lo : Option Int} (I : Inv s pend true d) (eb : s.bl = bs ++ [h0]) (l h : Int) :
    Inv ⟨s.rows ++ [⟨"POP_BLOCK", .non, lo⟩], s.due ++ nopD lo (gOf bs).hd, bs, l, s.new, h⟩ pend true d ∧ Gro s.new (gLabs (gOf bs)) (Gs s) (goTo5 [] (s.rows ++ [⟨"POP_BLOCK", .non, lo⟩])) := by
  obtain ⟨ed, eg⟩ := I.dp rfl
  have C := I.core
  rw [eb, gOf_snoc] at C eg
  have n1 : ("POP_BLOCK" : Str) ≠ "LABEL" := by decide
  have es : goTo5 [] (s.rows ++ [⟨"POP_BLOCK", .non, lo⟩]) = { Gs s with f := (Gs s).f ++ nopD lo (gOf bs).hd, t := tellO lo (Gs s).t (gOf bs), g := gOf bs, ah := "POP_BLOCK" } := by
    rw [gs_snoc]
    unfold step5
    rw [if_neg n1, if_pos I.lv, if_pos (by show opens "POP_BLOCK" = true; decide), op_rows, eg]
    rfl
  have Cp := C.pop
  rw [es]
  refine ⟨⟨ok_snoc I.ok xok_pop, og_snoc I.og fun _ _ e => (by rw [show goTo5 [] s.rows = Gs s from rfl, eg] at e; cases e), ?_, ?_, fun _ => ?_⟩, ⟨fun m p e => ?_, fun m a b e => ?_, fun m a b e => nop_fr e⟩⟩
  · show Core (gOf bs) s.new (goTo5 [] (s.rows ++ [_])).f (goTo5 [] (s.rows ++ [_])).u (goTo5 [] (s.rows ++ [_])).t _ _
    rw [es]
    exact core_op (lo := lo) Cp
  · show (goTo5 [] (s.rows ++ [_])).live = _
    rw [es]
    exact I.lv
  · show (goTo5 [] (s.rows ++ [_])).dep = _ ∧ (goTo5 [] (s.rows ++ [_])).g = gOf bs
    rw [es]
    exact ⟨ed, rfl⟩
  · cases lo with
    | none => exact e
    | some i =>
      rcases tell_look Cp m with q | ⟨_, q⟩
      · show look (tellH _ _) m = _
        rw [q]; exact e
      · rw [q] at e; cases e
  · cases lo with
    | none => exact e
    | some i =>
      rcases tell_look Cp m with q | ⟨q, _⟩
      · show look (tellH _ _) m = _
        rw [q]; exact e
      · exact absurd q b
end C31

set_option maxHeartbeats 2000000
namespace C31
open PySem PySem.Spec PyProof.Rows L2
/-! ### what the law keeps, in the heap -/
structure Ad where
  E : Addr
  S : Addr
  R : Addr
  Du : Addr
  Bl : Addr
structure AdOk (a : Ad) : Prop where
  es : a.E ≠ a.S
  er : a.E ≠ a.R
  ed : a.E ≠ a.Du
  eb : a.E ≠ a.Bl
  sr : a.S ≠ a.R
  sd : a.S ≠ a.Du
  sb : a.S ≠ a.Bl
  rd : a.R ≠ a.Du
  rb : a.R ≠ a.Bl
  db : a.Du ≠ a.Bl
def RsL (H : Hp) (R : Addr) (xs : List R3) : Prop := ∃ refs : List Addr, H R = some (.lst (refs.map V.ref)) ∧ Paired (fun r x => H r = some (.tup (v3 x))) refs xs
def bl3 (h : Hd3) : List V := [.int h.lab, .int h.dep, .bl h.want]
def BlAt (H : Hp) (B : Addr) (bl : List Hd3) : Prop := ∃ refs : List Addr, H B = some (.lst (refs.map V.ref)) ∧ Paired (fun r h => H r = some (.tup (bl3 h))) refs bl
def envOf (a : Ad) (s : Ls) : Env := ⟨a.S, a.R, a.Du, a.Bl, s.line, s.new, s.height⟩
structure At (H : Hp) (a : Ad) (s : Ls) : Prop where
  e : EnvD H a.E (envOf a s)
  src0 : Src H a.S
  r : RsL H a.R s.rows
  d : Rs5 H a.Du s.due
  b : BlAt H a.Bl s.bl
  ok : AdOk a
def KpA (a : Ad) (H H' : Hp) : Prop := ∀ b o, b ≠ a.E → b ≠ a.S → b ≠ a.R → b ≠ a.Du → b ≠ a.Bl → H b = some o → H' b = some o
theorem KpA.refl {a : Ad} {H : Hp} : KpA a H H := fun _ _ _ _ _ _ _ e => e
theorem KpA.trans {a : Ad} {H H1 H2 : Hp} (h : KpA a H H1) (k : KpA a H1 H2) : KpA a H H2 := fun b o n1 n2 n3 n4 n5 e => k b o n1 n2 n3 n4 n5 (h b o n1 n2 n3 n4 n5 e)
theorem KpA.same {a : Ad} {H H1 : Hp} (h : Same H H1) : KpA a H H1 := fun b o _ _ _ _ _ e => h b o e
theorem RsL.imp {H H' : Hp} {R : Addr} {xs : List R3} (h : RsL H R xs) (e : H' R = H R) (k : Tups H H') : RsL H' R xs := let ⟨r, q, p⟩ := h; ⟨r, by rw [e]; exact q, Paired.map' p fun b x z => k _ _ z⟩
theorem BlAt.imp {H H' : Hp} {R : Addr} {xs : List Hd3} (h : BlAt H R xs) (e : H' R = H R) (k : Tups H H') : BlAt H' R xs := let ⟨r, q, p⟩ := h; ⟨r, by rw [e]; exact q, Paired.map' p fun b x z => k _ _ z⟩
theorem Rs5.imp {H H' : Hp} {F : Addr} {xs : List R5} (h : Rs5 H F xs) (e : H' F = H F) (k : Tups H H') : Rs5 H' F xs := let ⟨r, q, p⟩ := h; ⟨r, by rw [e]; exact q, Paired.map' p fun b y z => Row5.imp z k⟩
section
variable {H H' : Hp} {a : Ad} {s s' : Ls}
theorem At.eR (A : At H a s) : ∃ refs : List Addr, H a.R = some (.lst (refs.map V.ref)) := let ⟨r, q, _⟩ := A.r; ⟨r, q⟩
theorem At.tups (A : At H a s) (k : KpA a H H') : Tups H H' := fun b ys e => by
  obtain ⟨x, y, z, eS⟩ := A.src0
  obtain ⟨_, q1, _⟩ := A.r
  obtain ⟨_, q2, _⟩ := A.d
  obtain ⟨_, q3, _⟩ := A.b
  have q0 := A.e
  unfold EnvD at q0
  exact k b _ (fun z => by rw [z, q0] at e; cases e) (fun z => by rw [z, eS] at e; cases e) (fun z => by rw [z, q1] at e; cases e) (fun z => by rw [z, q2] at e; cases e) (fun z => by rw [z, q3] at e; cases e) e
theorem At.env (A : At H a s) (k : ∀ b, b ≠ a.E → H' b = H b) (e : EnvD H' a.E (envOf a s')) (h1 : s'.rows = s.rows) (h2 : s'.due = s.due) (h3 : s'.bl = s.bl) : At H' a s' ∧ KpA a H H' := by
  have kp : KpA a H H' := fun b o n _ _ _ _ e => by rw [k b n]; exact e
  have tp := A.tups kp
  have o := A.ok
  obtain ⟨x, y, z, eS⟩ := A.src0
  exact ⟨⟨e, ⟨x, y, z, by rw [k _ o.es.symm]; exact eS⟩, by rw [h1]; exact A.r.imp (k _ o.er.symm) tp, by rw [h2]; exact A.d.imp (k _ o.ed.symm) tp, by rw [h3]; exact A.b.imp (k _ o.eb.symm) tp, o⟩, kp⟩
theorem At.src (A : At H a s) (k : Keep a.S H H') (q : Src H' a.S) : At H' a s ∧ KpA a H H' := by
  have kp : KpA a H H' := fun b o _ n _ _ _ e => k b o n e
  have tp := A.tups kp
  have o := A.ok
  obtain ⟨r1, e1, p1⟩ := A.r
  obtain ⟨r2, e2, p2⟩ := A.d
  obtain ⟨r3, e3, p3⟩ := A.b
  exact ⟨⟨k _ _ o.es A.e, q, A.r.imp (by rw [k _ _ o.sr.symm e1, e1]) tp, A.d.imp (by rw [k _ _ o.sd.symm e2, e2]) tp, A.b.imp (by rw [k _ _ o.sb.symm e3, e3]) tp, o⟩, kp⟩
theorem At.same (A : At H a s) (k : Same H H') : At H' a s ∧ KpA a H H' := by
  obtain ⟨x, y, z, eS⟩ := A.src0
  exact A.src (Keep.same k) ⟨x, y, z, k _ _ eS⟩
/-- the rows, some of them new -/
theorem At.setR {xs : List R3} {zs : List V} (A : At H a s) (q : RsL (L2.upd H a.R (.lst zs)) a.R xs) : At (L2.upd H a.R (.lst zs)) a ⟨xs, s.due, s.bl, s.line, s.new, s.height⟩ ∧ KpA a H (L2.upd H a.R (.lst zs)) := by
  have kp : KpA a H (L2.upd H a.R (.lst zs)) := fun b o _ _ n _ _ e => by rw [upd_ne n]; exact e
  have tp := A.tups kp
  have o := A.ok
  obtain ⟨x, y, z, eS⟩ := A.src0
  exact ⟨⟨by show L2.upd H _ _ _ = _; rw [upd_ne o.er]; exact A.e, ⟨x, y, z, by rw [upd_ne o.sr]; exact eS⟩, q, A.d.imp (upd_ne o.rd.symm) tp, A.b.imp (upd_ne o.rb.symm) tp, o⟩, kp⟩
theorem At.addR {x : R3} {p : Addr} {refs : List Addr} (A : At H a s) (eR : H a.R = some (.lst (refs.map V.ref))) (ep : H p = some (.tup (v3 x))) : At (L2.upd H a.R (.lst (refs.map V.ref ++ [.ref p]))) a ⟨s.rows ++ [x], s.due, s.bl, s.line, s.new, s.height⟩ ∧ KpA a H (L2.upd H a.R (.lst (refs.map V.ref ++ [.ref p]))) := by
  refine A.setR ?_
  obtain ⟨r, e, q⟩ := A.r
  have er : r.map V.ref = refs.map V.ref := by rw [e] at eR; injection eR with h; injection h
  have tp : Tups H (L2.upd H a.R (.lst (refs.map V.ref ++ [.ref p]))) := fun b ys z => by rw [upd_ne (fun w => by rw [w, e] at z; cases z)]; exact z
  exact ⟨r ++ [p], by rw [upd_same, List.map_append, er]; rfl, Paired.snoc' (Paired.map' q fun b x z => tp _ _ z) (tp _ _ ep)⟩
theorem At.addD {y : R5} {p : Addr} {refs : List Addr} (A : At H a s) (eR : H a.Du = some (.lst (refs.map V.ref))) (ep : Row5 H p y) : At (L2.upd H a.Du (.lst (refs.map V.ref ++ [.ref p]))) a ⟨s.rows, s.due ++ [y], s.bl, s.line, s.new, s.height⟩ ∧ KpA a H (L2.upd H a.Du (.lst (refs.map V.ref ++ [.ref p]))) := by
  have kp : KpA a H (L2.upd H a.Du (.lst (refs.map V.ref ++ [.ref p]))) := fun b o _ _ _ n _ e => by rw [upd_ne n]; exact e
  have tp := A.tups kp
  have o := A.ok
  obtain ⟨x, z1, z, eS⟩ := A.src0
  obtain ⟨r, e, q⟩ := A.d
  have er : r.map V.ref = refs.map V.ref := by rw [e] at eR; injection eR with h; injection h
  exact ⟨⟨by show L2.upd H _ _ _ = _; rw [upd_ne o.ed]; exact A.e, ⟨x, z1, z, by rw [upd_ne o.sd]; exact eS⟩, A.r.imp (upd_ne o.rd) tp, ⟨r ++ [p], by rw [upd_same, List.map_append, er]; rfl, Paired.snoc' (Paired.map' q fun b x z => Row5.imp z tp) (ep.imp tp)⟩, A.b.imp (upd_ne o.db.symm) tp, o⟩, kp⟩
theorem At.setB {bl : List Hd3} {zs : List V} (A : At H a s) (q : BlAt (L2.upd H a.Bl (.lst zs)) a.Bl bl) : At (L2.upd H a.Bl (.lst zs)) a ⟨s.rows, s.due, bl, s.line, s.new, s.height⟩ ∧ KpA a H (L2.upd H a.Bl (.lst zs)) := by
  have kp : KpA a H (L2.upd H a.Bl (.lst zs)) := fun b o _ _ _ _ n e => by rw [upd_ne n]; exact e
  have tp := A.tups kp
  have o := A.ok
  obtain ⟨x, z1, z, eS⟩ := A.src0
  exact ⟨⟨by show L2.upd H _ _ _ = _; rw [upd_ne o.eb]; exact A.e, ⟨x, z1, z, by rw [upd_ne o.sb]; exact eS⟩, A.r.imp (upd_ne o.rb) tp, A.d.imp (upd_ne o.db) tp, q, o⟩, kp⟩
theorem At.get_rows (A : At H a s) : DGet H a.E (.str "rows") (some (.ref a.R)) := DGet.k (k := (Sum.inr "rows" : Key)) A.e
theorem At.get_due (A : At H a s) : DGet H a.E (.str "due") (some (.ref a.Du)) := DGet.k (k := (Sum.inr "due" : Key)) A.e
theorem At.get_source (A : At H a s) : DGet H a.E (.str "source") (some (.ref a.S)) := DGet.k (k := (Sum.inr "source" : Key)) A.e
theorem At.get_blocks (A : At H a s) : DGet H a.E (.str "blocks") (some (.ref a.Bl)) := DGet.k (k := (Sum.inr "blocks" : Key)) A.e
theorem At.get_height (A : At H a s) : DGet H a.E (.str "height") (some (.int s.height)) := DGet.k (k := (Sum.inr "height" : Key)) A.e
theorem At.set_height (A : At H a s) (n : Int) : ∃ H', DPut H a.E (.str "height") (.int n) H' ∧ At H' a ⟨s.rows, s.due, s.bl, s.line, s.new, n⟩ ∧ KpA a H H' := by
  have d := DPut.k (k := (Sum.inr "height" : Key)) (v := .int n) A.e (by show 7 < sizeLine; decide)
  rw [put_height] at d
  exact ⟨_, d, A.env (s' := ⟨s.rows, s.due, s.bl, s.line, s.new, n⟩) (fun b nb => upd_ne nb) upd_same rfl rfl rfl⟩
theorem At.tyR {K : PySem.W.Frag} (A : At H a s) : tyV K "list" (.ref a.R) H := let ⟨_, e, _⟩ := A.r; tyl e
theorem At.tyD {K : PySem.W.Frag} (A : At H a s) : tyV K "list" (.ref a.Du) H := let ⟨_, e, _⟩ := A.d; tyl e
theorem At.tyB {K : PySem.W.Frag} (A : At H a s) : tyV K "list" (.ref a.Bl) H := let ⟨_, e, _⟩ := A.b; tyl e
theorem At.appR (A : At H a s) (x : R3) {p : Addr} (hp : H p = none) : ∃ refs : List Addr, L2.upd H p (.tup (v3 x)) a.R = some (.lst (refs.map V.ref)) ∧ (refs.map V.ref).length = s.rows.length ∧
    At (L2.upd (L2.upd H p (.tup (v3 x))) a.R (.lst (refs.map V.ref ++ [.ref p]))) a ⟨s.rows ++ [x], s.due, s.bl, s.line, s.new, s.height⟩ ∧ KpA a H (L2.upd (L2.upd H p (.tup (v3 x))) a.R (.lst (refs.map V.ref ++ [.ref p]))) := by
  have s1 : Same H (L2.upd H p (.tup (v3 x))) := Same.new' (Same.refl _) hp
  obtain ⟨A1, K1⟩ := A.same s1
  obtain ⟨refs, eR, q⟩ := A1.r
  obtain ⟨A2, K2⟩ := A1.addR eR upd_same
  exact ⟨refs, eR, by rw [List.length_map, Paired.length q], A2, K1.trans K2⟩
theorem At.appD (A : At H a s) (y : R5) {hv : V} {p : Addr} (hh : HdV H hv y.h) (hp : H p = none) : ∃ refs : List Addr, L2.upd H p (.tup [.str y.w, y.a, lnV y.l, hv]) a.Du = some (.lst (refs.map V.ref)) ∧ (refs.map V.ref).length = s.due.length ∧
    At (L2.upd (L2.upd H p (.tup [.str y.w, y.a, lnV y.l, hv])) a.Du (.lst (refs.map V.ref ++ [.ref p]))) a ⟨s.rows, s.due ++ [y], s.bl, s.line, s.new, s.height⟩ ∧ KpA a H (L2.upd (L2.upd H p (.tup [.str y.w, y.a, lnV y.l, hv])) a.Du (.lst (refs.map V.ref ++ [.ref p]))) := by
  have s1 : Same H (L2.upd H p (.tup [.str y.w, y.a, lnV y.l, hv])) := Same.new' (Same.refl _) hp
  obtain ⟨A1, K1⟩ := A.same s1
  obtain ⟨refs, eR, q⟩ := A1.d
  obtain ⟨A2, K2⟩ := A1.addD (y := y) eR ⟨hv, upd_same, hh.imp fun b ys e => s1 _ _ e⟩
  exact ⟨refs, eR, by rw [List.length_map, Paired.length q], A2, K1.trans K2⟩
end
/-! ### the law's smaller defs -/
structure Sz (s : Ls) : Prop where
  r : s.rows.length ≤ 20000
  d : s.due.length ≤ 20000
  b : s.bl.length ≤ 100
def spHan : Sp := fun vs H Q _ => ∃ (a : Ad) (s : Ls), vs = [.ref a.E] ∧ At H a s ∧ s.bl.length ≤ 100 ∧ ∀ v H', Same H H' → HdV H' v (gOf s.bl).hd → Q v H'
def putF (s : Ls) (w : Str) (x : V) (d : Str) : Ls := ⟨s.rows ++ [⟨w, x, some (s.line + 1)⟩], s.due ++ [⟨d, x, some (s.line + 1), (gOf s.bl).hd⟩], s.bl, s.line + 1, s.new, s.height⟩
def spPut : Sp := fun vs H Q _ => ∃ (a : Ad) (s : Ls) (w d : Str) (x : V), vs = [.ref a.E, .str w, x, .str d] ∧ At H a s ∧ Sz s ∧ ∀ H', KpA a H H' → At H' a (putF s w x d) → Q .non H'
def labF (s : Ls) (n : Int) : Ls := ⟨s.rows ++ [⟨"LABEL", .int n, none⟩], s.due ++ [⟨"LABEL", .int n, none, none⟩], s.bl, s.line, s.new, s.height⟩
def spLab : Sp := fun vs H Q _ => ∃ (a : Ad) (s : Ls) (n : Int), vs = [.ref a.E, .int n] ∧ At H a s ∧ Sz s ∧ ∀ H', KpA a H H' → At H' a (labF s n) → Q .non H'
def popsF (s : Ls) : Nat → Ls
  | 0 => s
  | k + 1 => putF (popsF s k) "POP_TOP" .non "POP_TOP"
def spPops : Sp := fun vs H Q _ => ∃ (a : Ad) (s : Ls) (k : Nat), vs = [.ref a.E, .int (k : Nat)] ∧ At H a s ∧ s.rows.length ≤ 19000 ∧ s.due.length ≤ 19000 ∧ s.bl.length ≤ 100 ∧ k ≤ 10 ∧ ∀ H', KpA a H H' → At H' a (popsF s k) → Q .non H'
theorem pops_len (s : Ls) : ∀ k, (popsF s k).rows.length = s.rows.length + k ∧ (popsF s k).due.length = s.due.length + k ∧ (popsF s k).bl = s.bl
  | 0 => ⟨rfl, rfl, rfl⟩
  | k + 1 => by
    obtain ⟨h1, h2, h3⟩ := pops_len s k
    exact ⟨by simp [popsF, putF, h1]; omega, by simp [popsF, putF, h2]; omega, h3⟩
section
variable {P : Program} {w : World} {K : PySem.W.Frag} {mg : Str → Option Value} {base : Heap} {f : Addr} {fd : FuncData}
def dB (h : Hd3) : PyData := .tuple [.int h.lab, .int h.dep, .bool h.want]
theorem dp_bl {K : PySem.W.Frag} {H : Hp} : ∀ {refs : List Addr} {bl : List Hd3}, Paired (fun r h => H r = some (.tup (bl3 h))) refs bl → DpAll K H (refs.map V.ref) (bl.map dB)
  | [], [], .nil => .nil
  | _ :: _, _ :: _, .cons h p => .cons (.tup (SqT.of h) (.cons (.int _) (.cons (.int _) (.cons (.bl _) .nil)))) (dp_bl p)
theorem lay_all : ∀ {ds : List PyData}, (∀ x ∈ ds, PyData.canLay0 x = true ∧ PyData.depth x ≤ 3) → PyData.canLayAll0 ds = true ∧ PyData.depthAll ds ≤ 3
  | [], _ => by simp [PyData.canLayAll0, PyData.depthAll]
  | y :: r, h => by
    obtain ⟨h1, h2⟩ := h y List.mem_cons_self
    obtain ⟨h3, h4⟩ := lay_all fun z hz => h z (List.mem_cons_of_mem _ hz)
    simp only [PyData.canLayAll0, PyData.depthAll, h1, h3]
    exact ⟨rfl, by omega⟩
theorem lay_list {ds : List PyData} (h : ∀ x ∈ ds, PyData.canLay0 x = true ∧ PyData.depth x ≤ 1) : SeqAt.shaped (.list ds) = true := by
  obtain ⟨h1, h2⟩ := lay_all (ds := ds) fun x hx => ⟨(h x hx).1, by have := (h x hx).2; omega⟩
  unfold SeqAt.shaped
  simp only [PyData.canLay0, PyData.depth, h1]
  exact decide_eq_true (by omega)
theorem ne_snoc (l : List PyData) (x : PyData) : (!PyData.eqv (.list (l ++ [x])) (.list [])) = true := by
  cases l with
  | nil => rfl
  | cons y r => rfl
theorem at_last {xs : List V} {x : V} : atI (xs ++ [x]) (-1) = some x := by
  unfold atI ixN
  rw [if_neg (by decide), if_pos (by rw [List.length_append, List.length_singleton]; omega), Option.bind_some, List.length_append, List.length_singleton,
    show ((-1 + ((xs.length + 1 : Nat) : Int)).toNat) = xs.length by omega]
  simp
theorem paired_snoc {α β : Type} {R : α → β → Prop} : ∀ {l : List α} {m : List β} {x : β}, Paired R l (m ++ [x]) → ∃ l' r, l = l' ++ [r] ∧ R r x ∧ Paired R l' m
  | _, [], _, .cons h .nil => ⟨[], _, rfl, h, .nil⟩
  | _, _ :: _, _, .cons h t => let ⟨l', r, e, q, p⟩ := paired_snoc t; ⟨_ :: l', r, by rw [e]; rfl, q, .cons h p⟩
theorem hu64 {k : Nat} {A : Around} (hr : Room k A) : A.units + 64 < cLine := by
  have := hr.un
  omega
abbrev svh : Stmt := top 91
theorem scvh : FnScope ["_law_env"] ["_law_env"] (defScope svh) := ⟨rfl, rfl, rfl, by decide +kernel, rfl, by decide +kernel, by decide +kernel⟩

abbrev svp : Stmt := top 92
theorem scvp : FnScope ["_law_env", "_law_word", "_law_argument", "_law_due", "_law_line_here"] ["_law_env", "_law_word", "_law_argument", "_law_due"] (defScope svp) := ⟨rfl, rfl, rfl, by decide +kernel, rfl, by decide +kernel, by decide +kernel⟩

abbrev svl : Stmt := top 93
theorem scvl : FnScope ["_law_env", "_law_label_here"] ["_law_env", "_law_label_here"] (defScope svl) := ⟨rfl, rfl, rfl, by decide +kernel, rfl, by decide +kernel, by decide +kernel⟩

abbrev svq : Stmt := top 94
theorem scvq : FnScope ["_law_env", "_law_many", "_law_k"] ["_law_env", "_law_many"] (defScope svq) := ⟨rfl, rfl, rfl, by decide +kernel, rfl, by decide +kernel, by decide +kernel⟩

theorem ok_vh (T : Txt mg) (F : FnP K "_law_handler" "_law_handler" svh f fd) : FnOk P w K mg base CX0 1 f fd ["_law_env"] spHan := by
  refine F.ok scvh (fun vs H Q E h => ?_) (fun cdv A outer s H vs Q E hr h => ?_)
  · obtain ⟨a, s, rfl, _⟩ := h
    rfl
  · have hu1 := hu_of hr
    obtain ⟨a, s, rfl, A, lb, k⟩ := h
    refine ⟨_, PSs.nox (pss_one (ps_ret (pe_ifExp (pt_cmpR (op_neD (hu64 hr)) (pe_dget hu1 (pv 0) pe_str (fun _ _ => rfl)) (pe_lst pa_nil) (nomark _)) (pe_ix ix_d (pe_dget hu1 (pv 0) pe_str (fun _ _ => rfl)) (pe_un un_neg pe_int) (fun _ _ => rfl)) pe_non))), ?_⟩
    show (_ : TS) _ [some (.ref a.E)] H
    simp only [r_seq, r_next, r_brk, r_cont, r_asg, r_name, r_ret, r_retN, r_drop, r_ifs, r_never, r_var, r_c, r_op, r_un, r_if, r_tst, r_b, r_not, r_and, r_or, r_andV, r_orV, r_notV, r_nil, r_cons, r_tup, r_lst, r_cb, r_call, r_bm, r_bm0, r_sl, r_nopart, r_part, r_rev, r_gnil, r_gcons, r_gsub, r_par, r_aug, r_chain, r_I0, r_I, r_U, r_ixd, r_lend, r_tupd, r_listd, r_sld, r_app, r_ext, r_reverse, r_setl, r_cat, r_int1, r_eqS, r_neS, scal_ii, scal_bb, scal_ss, at0, at1, at2, sq_lst, sq_tup, isLst_lst, List.getElem?_cons_zero, List.getElem?_cons_succ, List.set_cons_zero, List.set_cons_succ, V.int.injEq, V.bl.injEq, V.ref.injEq, V.str.injEq, HO.lst.injEq, HO.tup.injEq, Option.some.injEq, exists_eq_left', exists_eq_left, List.cons.injEq, and_true, true_and, decide_eq_true_eq, reduceCtorEq, false_and, exists_false, or_false, false_or, exists_const, and_assoc, exists_and_left, List.append_nil, ix0, ix1, ix2, cm_mod, cdw1009, cdw2003, cdw7, cdw64, cdw2, cm104729, cm2, cm3, upd_same, List.length_cons, List.length_nil, Int.reduceLT, Int.reduceLE, Nat.reduceAdd, Nat.reduceLeDiff, Nat.reduceLT, Int.reduceToNat, r_for1, r_forL, r_forT, r_lcL, r_lc1, r_yes, r_gtupD, wipe_0, wipe_1, List.cons_append, List.nil_append, r_forS, r_ipI, ite_false, ite_true, Bool.not_true, Bool.not_false, decide_true, decide_false, r_isd, r_islt, cD_ty, cD_ref, tD_non, tD_bl, tD_int, tD_str, tD_ref, tH_lst, tH_tup, tH_dK, tH_ins, ki_self, ki_int_bool, ki_non_int, ki_str_int, ki_lt_lst, ki_lt_tup, r_fld, r_sfld, HO.ins.injEq, cx_K, r_dget]
    refine ⟨_, A.get_blocks, Nat.zero_le _, fun p hp => ?_⟩
    have s1 : Same H (L2.upd H p (.lst [])) := Same.new' (Same.refl _) hp
    have ep : L2.upd H p (.lst []) p = some (.lst []) := upd_same
    generalize L2.upd H p (.lst []) = H1 at *
    obtain ⟨A1, _⟩ := A.same s1
    obtain ⟨refs, eB, pB⟩ := A1.b
    have hs : ∀ x ∈ s.bl.map dB, PyData.canLay0 x = true ∧ PyData.depth x ≤ 1 := fun x hx => by
      obtain ⟨h, _, rfl⟩ := List.mem_map.mp hx
      exact ⟨by simp [dB, PyData.canLay0, PyData.canLayAll0], by simp [dB, PyData.depth, PyData.depthAll]⟩
    refine ⟨.list (s.bl.map dB), .list [], .lst (SqL.of eB) (dp_bl pB), .lst (SqL.of ep) .nil, lay_list hs, by decide +kernel, ⟨_, rfl, ?_⟩⟩
    rcases List.eq_nil_or_concat s.bl with e | ⟨bs, h, e⟩
    · rw [e, if_neg (by decide +kernel)]
      exact k .non H1 s1 (by rw [e]; rfl)
    · rw [List.concat_eq_append] at e
      rw [e] at pB k ⊢
      rw [if_pos (by rw [List.map_append]; exact ne_snoc _ _)]
      obtain ⟨rs, r, rfl, hr1, _⟩ := paired_snoc pB
      refine ⟨_, A1.get_blocks, _, rfl, _, by rw [eB]; rfl, .ref r, by rw [List.map_append]; exact at_last, ?_⟩
      refine k _ H1 s1 ?_
      rw [gOf_snoc]
      exact ⟨r, rfl, hr1⟩
theorem ok_vp (T : Txt mg) (F : FnP K "_law_put" "_law_put" svp f fd) (C_line : Cal P w K mg base 1 "_law_line" ["_law_env"] spLine) (C_handler : Cal P w K mg base 1 "_law_handler" ["_law_env"] spHan) : FnOk P w K mg base CX0 2 f fd ["_law_env", "_law_word", "_law_argument", "_law_due"] spPut := by
  refine F.ok scvp (fun vs H Q E h => ?_) (fun cdv A outer s H vs Q E hr h => ?_)
  · obtain ⟨a, s, w, d, x, rfl, _⟩ := h
    rfl
  · have hu1 := hu_of hr
    obtain ⟨a, s, w, d, x, rfl, A, sz, k⟩ := h
    refine ⟨_, PSs.nox (pss_cons (ps_set (i := 4) scvp.nd rfl (Or.inl rfl) (pe_cal C_line (hr.mono (by decide)) rfl (pa_cons (pv 0) pa_nil)))
  (pss_cons (ps_expr (pe_bm PySem.F.plainAttrs_list PySem.F.slot_list_append PySem.F.type_list_append mt_append (pe_dget hu1 (pv 0) pe_str (fun _ _ => rfl)) (pa_cons (pe_tup (pa_cons (pv 1) (pa_cons (pv 2) (pa_cons (pv 4) pa_nil)))) pa_nil)))
  (pss_one (ps_expr (pe_bm PySem.F.plainAttrs_list PySem.F.slot_list_append PySem.F.type_list_append mt_append (pe_dget hu1 (pv 0) pe_str (fun _ _ => rfl)) (pa_cons (pe_tup (pa_cons (pv 3) (pa_cons (pv 2) (pa_cons (pv 4) (pa_cons (pe_cal C_handler (hr.mono (by decide)) rfl (pa_cons (pv 0) pa_nil)) pa_nil))))) pa_nil)))))), ?_⟩
    show (_ : TS) _ [some (.ref a.E), some (.str w), some x, some (.str d), none] H
    simp only [r_seq, r_next, r_brk, r_cont, r_asg, r_name, r_ret, r_retN, r_drop, r_ifs, r_never, r_var, r_c, r_op, r_un, r_if, r_tst, r_b, r_not, r_and, r_or, r_andV, r_orV, r_notV, r_nil, r_cons, r_tup, r_lst, r_cb, r_call, r_bm, r_bm0, r_sl, r_nopart, r_part, r_rev, r_gnil, r_gcons, r_gsub, r_par, r_aug, r_chain, r_I0, r_I, r_U, r_ixd, r_lend, r_tupd, r_listd, r_sld, r_app, r_ext, r_reverse, r_setl, r_cat, r_int1, r_eqS, r_neS, scal_ii, scal_bb, scal_ss, at0, at1, at2, sq_lst, sq_tup, isLst_lst, List.getElem?_cons_zero, List.getElem?_cons_succ, List.set_cons_zero, List.set_cons_succ, V.int.injEq, V.bl.injEq, V.ref.injEq, V.str.injEq, HO.lst.injEq, HO.tup.injEq, Option.some.injEq, exists_eq_left', exists_eq_left, List.cons.injEq, and_true, true_and, decide_eq_true_eq, reduceCtorEq, false_and, exists_false, or_false, false_or, exists_const, and_assoc, exists_and_left, List.append_nil, ix0, ix1, ix2, cm_mod, cdw1009, cdw2003, cdw7, cdw64, cdw2, cm104729, cm2, cm3, upd_same, List.length_cons, List.length_nil, Int.reduceLT, Int.reduceLE, Nat.reduceAdd, Nat.reduceLeDiff, Nat.reduceLT, Int.reduceToNat, r_for1, r_forL, r_forT, r_lcL, r_lc1, r_yes, r_gtupD, wipe_0, wipe_1, List.cons_append, List.nil_append, r_forS, r_ipI, ite_false, ite_true, Bool.not_true, Bool.not_false, decide_true, decide_false, r_isd, r_islt, cD_ty, cD_ref, tD_non, tD_bl, tD_int, tD_str, tD_ref, tH_lst, tH_tup, tH_dK, tH_ins, ki_self, ki_int_bool, ki_non_int, ki_str_int, ki_lt_lst, ki_lt_tup, r_fld, r_sfld, HO.ins.injEq, cx_K, r_dget]
    refine ⟨a.E, _, rfl, A.e, fun H1 k1 e1 => ?_⟩
    obtain ⟨A1, K1⟩ := A.env (s' := ⟨s.rows, s.due, s.bl, s.line + 1, s.new, s.height⟩) k1 e1 rfl rfl rfl
    refine ⟨_, A1.get_rows, A1.tyR, szl (by decide), fun p hp => ?_⟩
    obtain ⟨refs, eR, lR, A2, K2⟩ := A1.appR ⟨w, x, some (s.line + 1)⟩ hp
    refine ⟨_, rfl, _, eR, by rw [lR]; exact Nat.lt_of_le_of_lt sz.r (by decide), _, A2.get_due, A2.tyD, a, _, rfl, A2, sz.b, fun v H3 s3 hv => ?_⟩
    obtain ⟨A3, K3⟩ := A2.same s3
    refine ⟨szl (by decide), fun p2 hp2 => ?_⟩
    obtain ⟨refs2, eD, lD, A4, K4⟩ := A3.appD ⟨d, x, some (s.line + 1), (gOf s.bl).hd⟩ hv hp2
    exact ⟨_, rfl, _, eD, by rw [lD]; exact Nat.lt_of_le_of_lt sz.d (by decide), k _ (((K1.trans K2).trans K3).trans K4) A4⟩
theorem ok_vl (T : Txt mg) (F : FnP K "_law_label" "_law_label" svl f fd) : FnOk P w K mg base CX0 1 f fd ["_law_env", "_law_label_here"] spLab := by
  refine F.ok scvl (fun vs H Q E h => ?_) (fun cdv A outer s H vs Q E hr h => ?_)
  · obtain ⟨a, s, n, rfl, _⟩ := h
    rfl
  · have hu1 := hu_of hr
    obtain ⟨a, s, n, rfl, A, sz, k⟩ := h
    refine ⟨_, PSs.nox (pss_cons (ps_expr (pe_bm PySem.F.plainAttrs_list PySem.F.slot_list_append PySem.F.type_list_append mt_append (pe_dget hu1 (pv 0) pe_str (fun _ _ => rfl)) (pa_cons (pe_tup (pa_cons pe_str (pa_cons (pv 1) (pa_cons pe_non pa_nil)))) pa_nil)))
  (pss_one (ps_expr (pe_bm PySem.F.plainAttrs_list PySem.F.slot_list_append PySem.F.type_list_append mt_append (pe_dget hu1 (pv 0) pe_str (fun _ _ => rfl)) (pa_cons (pe_tup (pa_cons pe_str (pa_cons (pv 1) (pa_cons pe_non (pa_cons pe_non pa_nil))))) pa_nil))))), ?_⟩
    show (_ : TS) _ [some (.ref a.E), some (.int n)] H
    simp only [r_seq, r_next, r_brk, r_cont, r_asg, r_name, r_ret, r_retN, r_drop, r_ifs, r_never, r_var, r_c, r_op, r_un, r_if, r_tst, r_b, r_not, r_and, r_or, r_andV, r_orV, r_notV, r_nil, r_cons, r_tup, r_lst, r_cb, r_call, r_bm, r_bm0, r_sl, r_nopart, r_part, r_rev, r_gnil, r_gcons, r_gsub, r_par, r_aug, r_chain, r_I0, r_I, r_U, r_ixd, r_lend, r_tupd, r_listd, r_sld, r_app, r_ext, r_reverse, r_setl, r_cat, r_int1, r_eqS, r_neS, scal_ii, scal_bb, scal_ss, at0, at1, at2, sq_lst, sq_tup, isLst_lst, List.getElem?_cons_zero, List.getElem?_cons_succ, List.set_cons_zero, List.set_cons_succ, V.int.injEq, V.bl.injEq, V.ref.injEq, V.str.injEq, HO.lst.injEq, HO.tup.injEq, Option.some.injEq, exists_eq_left', exists_eq_left, List.cons.injEq, and_true, true_and, decide_eq_true_eq, reduceCtorEq, false_and, exists_false, or_false, false_or, exists_const, and_assoc, exists_and_left, List.append_nil, ix0, ix1, ix2, cm_mod, cdw1009, cdw2003, cdw7, cdw64, cdw2, cm104729, cm2, cm3, upd_same, List.length_cons, List.length_nil, Int.reduceLT, Int.reduceLE, Nat.reduceAdd, Nat.reduceLeDiff, Nat.reduceLT, Int.reduceToNat, r_for1, r_forL, r_forT, r_lcL, r_lc1, r_yes, r_gtupD, wipe_0, wipe_1, List.cons_append, List.nil_append, r_forS, r_ipI, ite_false, ite_true, Bool.not_true, Bool.not_false, decide_true, decide_false, r_isd, r_islt, cD_ty, cD_ref, tD_non, tD_bl, tD_int, tD_str, tD_ref, tH_lst, tH_tup, tH_dK, tH_ins, ki_self, ki_int_bool, ki_non_int, ki_str_int, ki_lt_lst, ki_lt_tup, r_fld, r_sfld, HO.ins.injEq, cx_K, r_dget]
    refine ⟨_, A.get_rows, A.tyR, szl (by decide), fun p hp => ?_⟩
    obtain ⟨refs, eR, lR, A2, K2⟩ := A.appR ⟨"LABEL", .int n, none⟩ hp
    refine ⟨_, rfl, _, eR, by rw [lR]; exact Nat.lt_of_le_of_lt sz.r (by decide), _, A2.get_due, A2.tyD, szl (by decide), fun p2 hp2 => ?_⟩
    obtain ⟨refs2, eD, lD, A4, K4⟩ := A2.appD ⟨"LABEL", .int n, none, none⟩ (hv := .non) rfl hp2
    exact ⟨_, rfl, _, eD, by rw [lD]; exact Nat.lt_of_le_of_lt sz.d (by decide), k _ (K2.trans K4) A4⟩
theorem ok_vq (T : Txt mg) (F : FnP K "_law_pops" "_law_pops" svq f fd) (C_put : Cal P w K mg base 2 "_law_put" ["_law_env", "_law_word", "_law_argument", "_law_due"] spPut) : FnOk P w K mg base CX0 3 f fd ["_law_env", "_law_many"] spPops := by
  refine F.ok scvq (fun vs H Q E h => ?_) (fun cdv A outer s H vs Q E hr h => ?_)
  · obtain ⟨a, s, k, rfl, _⟩ := h
    rfl
  · have hu1 := hu_of hr
    obtain ⟨a, s, n, rfl, A, l1, l2, l3, hn, k⟩ := h
    refine ⟨_, PSs.nox (pss_one (ps_for PassesOwn.never rfl (pi_range1 rfl T.b_range (pa_cons (pv 1) pa_nil)) (pg_name (i := 2) scvq.nd rfl (Or.inl rfl))
    (pss_one (ps_expr (pe_cal C_put (hr.mono (by decide)) rfl (pa_cons (pv 0) (pa_cons pe_str (pa_cons pe_non (pa_cons pe_str pa_nil))))))))), ?_⟩
    show (_ : TS) _ [some (.ref a.E), some (.int (n : Nat)), none] H
    simp only [r_seq, r_next, r_brk, r_cont, r_asg, r_name, r_ret, r_retN, r_drop, r_ifs, r_never, r_var, r_c, r_op, r_un, r_if, r_tst, r_b, r_not, r_and, r_or, r_andV, r_orV, r_notV, r_nil, r_cons, r_tup, r_lst, r_cb, r_call, r_bm, r_bm0, r_sl, r_nopart, r_part, r_rev, r_gnil, r_gcons, r_gsub, r_par, r_aug, r_chain, r_I0, r_I, r_U, r_ixd, r_lend, r_tupd, r_listd, r_sld, r_app, r_ext, r_reverse, r_setl, r_cat, r_int1, r_eqS, r_neS, scal_ii, scal_bb, scal_ss, at0, at1, at2, sq_lst, sq_tup, isLst_lst, List.getElem?_cons_zero, List.getElem?_cons_succ, List.set_cons_zero, List.set_cons_succ, V.int.injEq, V.bl.injEq, V.ref.injEq, V.str.injEq, HO.lst.injEq, HO.tup.injEq, Option.some.injEq, exists_eq_left', exists_eq_left, List.cons.injEq, and_true, true_and, decide_eq_true_eq, reduceCtorEq, false_and, exists_false, or_false, false_or, exists_const, and_assoc, exists_and_left, List.append_nil, ix0, ix1, ix2, cm_mod, cdw1009, cdw2003, cdw7, cdw64, cdw2, cm104729, cm2, cm3, upd_same, List.length_cons, List.length_nil, Int.reduceLT, Int.reduceLE, Nat.reduceAdd, Nat.reduceLeDiff, Nat.reduceLT, Int.reduceToNat, r_for1, r_forL, r_forT, r_lcL, r_lc1, r_yes, r_gtupD, wipe_0, wipe_1, List.cons_append, List.nil_append, r_forS, r_ipI, ite_false, ite_true, Bool.not_true, Bool.not_false, decide_true, decide_false, r_isd, r_islt, cD_ty, cD_ref, tD_non, tD_bl, tD_int, tD_str, tD_ref, tH_lst, tH_tup, tH_dK, tH_ins, ki_self, ki_int_bool, ki_non_int, ki_str_int, ki_lt_lst, ki_lt_tup, r_fld, r_sfld, HO.ins.injEq, cx_K]
    refine ⟨by omega, by omega, ?_⟩
    show LoopR (Itr 0 n) _ _ _ _ _
    refine lp_rng (fun i σ H' => (∃ v2, σ = [some (.ref a.E), some (.int (n : Nat)), v2]) ∧ KpA a H H' ∧ At H' a (popsF s i)) ⟨⟨_, rfl⟩, KpA.refl, A⟩ ?_ ?_
    · rintro i σ H2 hi ⟨⟨v2, rfl⟩, k2, A2⟩
      simp only [r_seq, r_next, r_brk, r_cont, r_asg, r_name, r_ret, r_retN, r_drop, r_ifs, r_never, r_var, r_c, r_op, r_un, r_if, r_tst, r_b, r_not, r_and, r_or, r_andV, r_orV, r_notV, r_nil, r_cons, r_tup, r_lst, r_cb, r_call, r_bm, r_bm0, r_sl, r_nopart, r_part, r_rev, r_gnil, r_gcons, r_gsub, r_par, r_aug, r_chain, r_I0, r_I, r_U, r_ixd, r_lend, r_tupd, r_listd, r_sld, r_app, r_ext, r_reverse, r_setl, r_cat, r_int1, r_eqS, r_neS, scal_ii, scal_bb, scal_ss, at0, at1, at2, sq_lst, sq_tup, isLst_lst, List.getElem?_cons_zero, List.getElem?_cons_succ, List.set_cons_zero, List.set_cons_succ, V.int.injEq, V.bl.injEq, V.ref.injEq, V.str.injEq, HO.lst.injEq, HO.tup.injEq, Option.some.injEq, exists_eq_left', exists_eq_left, List.cons.injEq, and_true, true_and, decide_eq_true_eq, reduceCtorEq, false_and, exists_false, or_false, false_or, exists_const, and_assoc, exists_and_left, List.append_nil, ix0, ix1, ix2, cm_mod, cdw1009, cdw2003, cdw7, cdw64, cdw2, cm104729, cm2, cm3, upd_same, List.length_cons, List.length_nil, Int.reduceLT, Int.reduceLE, Nat.reduceAdd, Nat.reduceLeDiff, Nat.reduceLT, Int.reduceToNat, r_for1, r_forL, r_forT, r_lcL, r_lc1, r_yes, r_gtupD, wipe_0, wipe_1, List.cons_append, List.nil_append, r_forS, r_ipI, ite_false, ite_true, Bool.not_true, Bool.not_false, decide_true, decide_false, r_isd, r_islt, cD_ty, cD_ref, tD_non, tD_bl, tD_int, tD_str, tD_ref, tH_lst, tH_tup, tH_dK, tH_ins, ki_self, ki_int_bool, ki_non_int, ki_str_int, ki_lt_lst, ki_lt_tup, r_fld, r_sfld, HO.ins.injEq, cx_K]
      obtain ⟨e1, e2, e3⟩ := pops_len s i
      refine ⟨a, popsF s i, _, _, _, rfl, A2, ⟨by omega, by omega, by rw [e3]; omega⟩, fun H3 k3 A3 => ⟨⟨_, rfl⟩, k2.trans k3, A3⟩⟩
    · rintro σ H2 ⟨⟨v2, rfl⟩, k2, A2⟩
      exact k H2 k2 A2
end
end C31

set_option maxHeartbeats 2000000
namespace C31
open PySem PySem.Spec PyProof.Rows L2
def resF (s : Ls) : Ls := ⟨s.rows ++ [⟨"RESUME", .int 1, some (s.line + 1)⟩], s.due ++ [⟨"RESUME", .int (if s.bl.length = 1 then 5 else 1), some (s.line + 1), (gOf s.bl).hd⟩], s.bl, s.line + 1, s.new, s.height⟩
def loadF (s : Ls) (z : Str) : Ls := putF s "LOAD_NAME" (.str z) "LOAD_NAME"
def yieldF (s : Ls) : Ls := resF (putF s "YIELD_VALUE" (.int 0) "YIELD_VALUE")
def plainF (s : Ls) (z : Str) (y : Bool) : Ls := popsF (if y = true then yieldF (loadF s z) else loadF s z) 1
def abc : List Str := ["a", "b", "cc"]
def spPlain : Sp := fun vs H Q _ => ∃ (a : Ad) (s : Ls), vs = [.ref a.E] ∧ At H a s ∧ s.rows.length ≤ 15000 ∧ s.due.length ≤ 15000 ∧ s.bl.length ≤ 100 ∧ ∀ z y H', z ∈ abc → KpA a H H' → At H' a (plainF s z y) → Q .non H'
def edgeF (s : Ls) (w : Str) (x : V) (lo : Option Int) : Ls := ⟨s.rows ++ [⟨w, x, lo⟩], s.due ++ nopD lo (gOf s.bl).hd, s.bl, s.line + 1, s.new, s.height⟩
def spEdge : Sp := fun vs H Q _ => ∃ (a : Ad) (s : Ls) (w : Str) (x : V), vs = [.ref a.E, .str w, x] ∧ At H a s ∧ Sz s ∧ ∀ lo H', (lo = none ∨ lo = some (s.line + 1)) → KpA a H H' → At H' a (edgeF s w x lo) → Q .non H'
def newF (s : Ls) : Ls := ⟨s.rows, s.due, s.bl, s.line, s.new + 1, s.height⟩
def lineF (s : Ls) : Ls := ⟨s.rows, s.due, s.bl, s.line + 1, s.new, s.height⟩
def deadF (s : Ls) : Ls :=
  let s2 := lineF (putF (newF s) "JUMP" (.int s.new) "JUMP_FORWARD")
  labF ⟨s2.rows ++ [⟨"LOAD_NAME", .str "d", some s2.line⟩, ⟨"LABEL", .int s2.new, none⟩, ⟨"POP_TOP", .non, some s2.line⟩], s2.due, s2.bl, s2.line, s2.new + 1, s2.height⟩ s.new
def spDead : Sp := fun vs H Q _ => ∃ (a : Ad) (s : Ls), vs = [.ref a.E] ∧ At H a s ∧ s.rows.length ≤ 15000 ∧ s.due.length ≤ 15000 ∧ s.bl.length ≤ 100 ∧ ∀ H', KpA a H H' → At H' a (deadF s) → Q .non H'
theorem At.line {H : Hp} {a : Ad} {s : Ls} (A : At H a s) {Q : VK} (k : ∀ H', KpA a H H' → At H' a (lineF s) → Q (.int (s.line + 1)) H') : spLine [.ref a.E] H Q E0 :=
  ⟨a.E, _, rfl, A.e, fun H1 k1 e1 => let ⟨A1, K1⟩ := A.env (s' := lineF s) k1 e1 rfl rfl rfl; k H1 K1 A1⟩
theorem At.new {H : Hp} {a : Ad} {s : Ls} (A : At H a s) {Q : VK} (k : ∀ H', KpA a H H' → At H' a (newF s) → Q (.int s.new) H') : spNew [.ref a.E] H Q E0 :=
  ⟨a.E, _, rfl, A.e, fun H1 k1 e1 => let ⟨A1, K1⟩ := A.env (s' := newF s) k1 e1 rfl rfl rfl; k H1 K1 A1⟩
theorem At.next {H : Hp} {a : Ad} {s : Ls} (A : At H a s) {Q : VK} {m : Int} (m0 : 0 < m) (m1 : m < 2 ^ 200) (k : ∀ r H', 0 ≤ r → r < m → KpA a H H' → At H' a s → Q (.int r) H') : spNext [.ref a.S, .int m] H Q E0 :=
  ⟨a.S, m, rfl, A.src0, m0, m1, fun r H1 r0 r1 k1 s1 => let ⟨A1, K1⟩ := A.src k1 s1; k r H1 r0 r1 K1 A1⟩
theorem At.extR {H : Hp} {a : Ad} {s : Ls} {refs rs : List Addr} {ys : List R3} (A : At H a s) (eR : H a.R = some (.lst (refs.map V.ref))) (q : Paired (fun r x => H r = some (.tup (v3 x))) rs ys) : At (L2.upd H a.R (.lst (refs.map V.ref ++ rs.map V.ref))) a ⟨s.rows ++ ys, s.due, s.bl, s.line, s.new, s.height⟩ ∧ KpA a H (L2.upd H a.R (.lst (refs.map V.ref ++ rs.map V.ref))) := by
  refine A.setR ?_
  obtain ⟨r, e, q1⟩ := A.r
  have er : r.map V.ref = refs.map V.ref := by rw [e] at eR; injection eR with h; injection h
  have tp : Tups H (L2.upd H a.R (.lst (refs.map V.ref ++ rs.map V.ref))) := fun b ys z => by rw [upd_ne (fun w => by rw [w, e] at z; cases z)]; exact z
  exact ⟨r ++ rs, by rw [upd_same, List.map_append, er], Paired.app' (Paired.map' q1 fun b x z => tp _ _ z) (Paired.map' q fun b x z => tp _ _ z)⟩
section
variable {P : Program} {w : World} {K : PySem.W.Frag} {mg : Str → Option Value} {base : Heap} {f : Addr} {fd : FuncData}
abbrev sva : Stmt := top 95
theorem scva : FnScope ["_law_env", "_law_line_here"] ["_law_env"] (defScope sva) := ⟨rfl, rfl, rfl, by decide +kernel, rfl, by decide +kernel, by decide +kernel⟩

abbrev sve : Stmt := top 96
theorem scve : FnScope ["_law_env", "_law_word", "_law_argument", "_law_line_here"] ["_law_env", "_law_word", "_law_argument"] (defScope sve) := ⟨rfl, rfl, rfl, by decide +kernel, rfl, by decide +kernel, by decide +kernel⟩

abbrev svd : Stmt := top 98
theorem scvd : FnScope ["_law_env", "_law_behind", "_law_line_here"] ["_law_env"] (defScope svd) := ⟨rfl, rfl, rfl, by decide +kernel, rfl, by decide +kernel, by decide +kernel⟩

theorem ok_va (T : Txt mg) (F : FnP K "_law_plain" "_law_plain" sva f fd) (C_line : Cal P w K mg base 1 "_law_line" ["_law_env"] spLine) (C_handler : Cal P w K mg base 1 "_law_handler" ["_law_env"] spHan) (C_put : Cal P w K mg base 2 "_law_put" ["_law_env", "_law_word", "_law_argument", "_law_due"] spPut) (C_one : Cal P w K mg base 2 "_law_one" ["_law_source", "_law_some"] spOne) (C_next : Cal P w K mg base 1 "_law_next" ["_law_source", "_law_many"] spNext) (C_pops : Cal P w K mg base 3 "_law_pops" ["_law_env", "_law_many"] spPops) : FnOk P w K mg base CX0 4 f fd ["_law_env"] spPlain := by
  refine F.ok scva (fun vs H Q E h => ?_) (fun cdv A outer s H vs Q E hr h => ?_)
  · obtain ⟨a, s, rfl, _⟩ := h
    rfl
  · have hu1 := hu_of hr
    obtain ⟨a, s, rfl, A, l1, l2, l3, k⟩ := h
    refine ⟨_, PSs.nox (pss_cons (ps_expr (pe_cal C_put (hr.mono (by decide)) rfl (pa_cons (pv 0) (pa_cons pe_str (pa_cons (pe_cal C_one (hr.mono (by decide)) rfl (pa_cons (pe_dget hu1 (pv 0) pe_str (fun _ _ => rfl)) (pa_cons (pe_lst (pa_cons pe_str (pa_cons pe_str (pa_cons pe_str pa_nil)))) pa_nil))) (pa_cons pe_str pa_nil))))))
  (pss_cons (ps_if (pt_cmpR op_eq (pe_cal C_next (hr.mono (by decide)) rfl (pa_cons (pe_dget hu1 (pv 0) pe_str (fun _ _ => rfl)) (pa_cons pe_int pa_nil))) pe_int (nomark _))
    (pss_cons (ps_expr (pe_cal C_put (hr.mono (by decide)) rfl (pa_cons (pv 0) (pa_cons pe_str (pa_cons pe_int (pa_cons pe_str pa_nil))))))
  (pss_cons (ps_set (i := 1) scva.nd rfl (Or.inl rfl) (pe_cal C_line (hr.mono (by decide)) rfl (pa_cons (pv 0) pa_nil)))
  (pss_cons (ps_expr (pe_bm PySem.F.plainAttrs_list PySem.F.slot_list_append PySem.F.type_list_append mt_append (pe_dget hu1 (pv 0) pe_str (fun _ _ => rfl)) (pa_cons (pe_tup (pa_cons pe_str (pa_cons pe_int (pa_cons (pv 1) pa_nil)))) pa_nil)))
  (pss_one (ps_expr (pe_bm PySem.F.plainAttrs_list PySem.F.slot_list_append PySem.F.type_list_append mt_append (pe_dget hu1 (pv 0) pe_str (fun _ _ => rfl)) (pa_cons (pe_tup (pa_cons pe_str (pa_cons (pe_ix ix_d (pe_lst (pa_cons pe_int (pa_cons pe_int pa_nil))) (pe_callTy call_int1 (by rfl) T.b_int (by decide +kernel) (pa_cons (pe_cmpR op_eq (pe_callB call_len_d (by rfl) T.b_len (by decide +kernel) (pa_cons (pe_dget hu1 (pv 0) pe_str (fun _ _ => rfl)) pa_nil)) pe_int (nomark _)) pa_nil)) (fun _ _ => rfl)) (pa_cons (pv 1) (pa_cons (pe_cal C_handler (hr.mono (by decide)) rfl (pa_cons (pv 0) pa_nil)) pa_nil))))) pa_nil)))))))
    pss_nil)
  (pss_one (ps_expr (pe_cal C_pops (hr.mono (by decide)) rfl (pa_cons (pv 0) (pa_cons pe_int pa_nil))))))), ?_⟩
    show (_ : TS) _ [some (.ref a.E), none] H
    simp only [r_seq, r_next, r_brk, r_cont, r_asg, r_name, r_ret, r_retN, r_drop, r_ifs, r_never, r_var, r_c, r_op, r_un, r_if, r_tst, r_b, r_not, r_and, r_or, r_andV, r_orV, r_notV, r_nil, r_cons, r_tup, r_lst, r_cb, r_call, r_bm, r_bm0, r_sl, r_nopart, r_part, r_rev, r_gnil, r_gcons, r_gsub, r_par, r_aug, r_chain, r_I0, r_I, r_U, r_ixd, r_lend, r_tupd, r_listd, r_sld, r_app, r_ext, r_reverse, r_setl, r_cat, r_int1, r_eqS, r_neS, scal_ii, scal_bb, scal_ss, at0, at1, at2, sq_lst, sq_tup, isLst_lst, List.getElem?_cons_zero, List.getElem?_cons_succ, List.set_cons_zero, List.set_cons_succ, V.int.injEq, V.bl.injEq, V.ref.injEq, V.str.injEq, HO.lst.injEq, HO.tup.injEq, Option.some.injEq, exists_eq_left', exists_eq_left, List.cons.injEq, and_true, true_and, decide_eq_true_eq, reduceCtorEq, false_and, exists_false, or_false, false_or, exists_const, and_assoc, exists_and_left, List.append_nil, ix0, ix1, ix2, cm_mod, cdw1009, cdw2003, cdw7, cdw64, cdw2, cm104729, cm2, cm3, upd_same, List.length_cons, List.length_nil, Int.reduceLT, Int.reduceLE, Nat.reduceAdd, Nat.reduceLeDiff, Nat.reduceLT, Int.reduceToNat, r_for1, r_forL, r_forT, r_lcL, r_lc1, r_yes, r_gtupD, wipe_0, wipe_1, List.cons_append, List.nil_append, r_forS, r_ipI, ite_false, ite_true, Bool.not_true, Bool.not_false, decide_true, decide_false, r_isd, r_islt, cD_ty, cD_ref, tD_non, tD_bl, tD_int, tD_str, tD_ref, tH_lst, tH_tup, tH_dK, tH_ins, ki_self, ki_int_bool, ki_non_int, ki_str_int, ki_lt_lst, ki_lt_tup, r_fld, r_sfld, HO.ins.injEq, cx_K, r_dget]
    refine ⟨_, A.get_source, szl (by decide), fun p hp => ?_⟩
    have s1 : Same H (L2.upd H p (.lst [.str "a", .str "b", .str "cc"])) := Same.new' (Same.refl _) hp
    have ep : L2.upd H p (.lst [.str "a", .str "b", .str "cc"]) p = some (.lst [.str "a", .str "b", .str "cc"]) := upd_same
    obtain ⟨A1, K1⟩ := A.same s1
    refine ⟨a.S, p, _, rfl, A1.src0, A.src0.ne hp, ep, (by simp), (by decide), fun v H2 hv k2 q2 => ?_⟩
    obtain ⟨A2, K2⟩ := A1.src k2 q2
    obtain ⟨z, hz, rfl⟩ : ∃ z : Str, z ∈ abc ∧ v = .str z := by
      simp only [List.mem_cons, List.not_mem_nil, or_false] at hv
      rcases hv with rfl | rfl | rfl <;> exact ⟨_, by decide, rfl⟩
    refine ⟨a, s, _, _, _, rfl, A2, ⟨by omega, by omega, by omega⟩, fun H3 k3 A3 => ?_⟩
    try simp only [r_seq, r_next, r_brk, r_cont, r_asg, r_name, r_ret, r_retN, r_drop, r_ifs, r_never, r_var, r_c, r_op, r_un, r_if, r_tst, r_b, r_not, r_and, r_or, r_andV, r_orV, r_notV, r_nil, r_cons, r_tup, r_lst, r_cb, r_call, r_bm, r_bm0, r_sl, r_nopart, r_part, r_rev, r_gnil, r_gcons, r_gsub, r_par, r_aug, r_chain, r_I0, r_I, r_U, r_ixd, r_lend, r_tupd, r_listd, r_sld, r_app, r_ext, r_reverse, r_setl, r_cat, r_int1, r_eqS, r_neS, scal_ii, scal_bb, scal_ss, at0, at1, at2, sq_lst, sq_tup, isLst_lst, List.getElem?_cons_zero, List.getElem?_cons_succ, List.set_cons_zero, List.set_cons_succ, V.int.injEq, V.bl.injEq, V.ref.injEq, V.str.injEq, HO.lst.injEq, HO.tup.injEq, Option.some.injEq, exists_eq_left', exists_eq_left, List.cons.injEq, and_true, true_and, decide_eq_true_eq, reduceCtorEq, false_and, exists_false, or_false, false_or, exists_const, and_assoc, exists_and_left, List.append_nil, ix0, ix1, ix2, cm_mod, cdw1009, cdw2003, cdw7, cdw64, cdw2, cm104729, cm2, cm3, upd_same, List.length_cons, List.length_nil, Int.reduceLT, Int.reduceLE, Nat.reduceAdd, Nat.reduceLeDiff, Nat.reduceLT, Int.reduceToNat, r_for1, r_forL, r_forT, r_lcL, r_lc1, r_yes, r_gtupD, wipe_0, wipe_1, List.cons_append, List.nil_append, r_forS, r_ipI, ite_false, ite_true, Bool.not_true, Bool.not_false, decide_true, decide_false, r_isd, r_islt, cD_ty, cD_ref, tD_non, tD_bl, tD_int, tD_str, tD_ref, tH_lst, tH_tup, tH_dK, tH_ins, ki_self, ki_int_bool, ki_non_int, ki_str_int, ki_lt_lst, ki_lt_tup, r_fld, r_sfld, HO.ins.injEq, cx_K, r_dget]
    have y1 : (putF s "LOAD_NAME" (.str z) "LOAD_NAME").rows.length = s.rows.length + 1 := by simp [putF]
    have y2 : (putF s "LOAD_NAME" (.str z) "LOAD_NAME").due.length = s.due.length + 1 := by simp [putF]
    have y3 : (putF s "LOAD_NAME" (.str z) "LOAD_NAME").bl = s.bl := rfl
    have k' := fun y => k z y
    unfold plainF loadF at k'
    have A3 : At H3 a (putF s "LOAD_NAME" (.str z) "LOAD_NAME") := A3
    generalize putF s "LOAD_NAME" (.str z) "LOAD_NAME" = s1 at *
    refine ⟨_, A3.get_source, A3.next (by decide) (by decide) fun r H4 r0 r1 K4 A4 => ⟨rfl, ?_⟩⟩
    have K14 := ((K1.trans K2).trans k3).trans K4
    by_cases c : V.int r = V.int 0
    · rw [if_pos c]
      have k2 := fun H' => k' true H' hz
      rw [if_pos rfl] at k2
      unfold yieldF at k2
      have z1 : (putF s1 "YIELD_VALUE" (.int 0) "YIELD_VALUE").rows.length = s1.rows.length + 1 := by simp [putF]
      have z2 : (putF s1 "YIELD_VALUE" (.int 0) "YIELD_VALUE").due.length = s1.due.length + 1 := by simp [putF]
      have z3 : (putF s1 "YIELD_VALUE" (.int 0) "YIELD_VALUE").bl = s1.bl := rfl
      refine ⟨a, s1, _, _, _, rfl, A4, ⟨by omega, by omega, by rw [y3]; omega⟩, fun H5 K5 A5 => ?_⟩
      have A5 : At H5 a (putF s1 "YIELD_VALUE" (.int 0) "YIELD_VALUE") := A5
      generalize putF s1 "YIELD_VALUE" (.int 0) "YIELD_VALUE" = s2 at *
      refine A5.line fun H6 K6 A6 => ?_
      refine ⟨_, A6.get_rows, A6.tyR, szl (by decide), fun p hp => ?_⟩
      obtain ⟨refs, eR, lR, A7, K7⟩ := A6.appR ⟨"RESUME", .int 1, some (s2.line + 1)⟩ hp
      refine ⟨_, rfl, _, eR, by rw [lR]; exact Nat.lt_of_le_of_lt (by show s2.rows.length ≤ 20000; omega) (by decide), _, A7.get_due, A7.tyD, szl (by decide), fun p1 hp1 => ?_⟩
      have s8 := Same.new' (o := .lst [.int 1, .int 5]) (Same.refl _) hp1
      obtain ⟨A8, K8⟩ := A7.same s8
      obtain ⟨rb, eb, pb⟩ := A8.b
      have lb : (rb.map V.ref).length = s2.bl.length := by rw [List.length_map]; exact Paired.length pb
      refine ⟨_, A8.get_blocks, _, rfl, _, congrArg sq eb, .int (if s2.bl.length = 1 then 5 else 1), ?_, a, _, rfl, A8, by show s2.bl.length ≤ 100; rw [z3, y3]; omega, fun v H9 s9 hv => ?_⟩
      · rw [lb]
        by_cases c1 : s2.bl.length = 1
        · rw [if_pos c1, if_pos (by omega)]
          exact at1
        · rw [if_neg c1, if_neg (by omega)]
          exact at0
      · obtain ⟨A9, K9⟩ := A8.same s9
        refine ⟨szl (by decide), fun p2 hp2 => ?_⟩
        obtain ⟨refs2, eD, lD, A10, K10⟩ := A9.appD ⟨"RESUME", .int (if s2.bl.length = 1 then 5 else 1), some (s2.line + 1), (gOf s2.bl).hd⟩ hv hp2
        refine ⟨_, rfl, _, eD, by rw [lD]; exact Nat.lt_of_le_of_lt (by show s2.due.length ≤ 20000; omega) (by decide), a, resF s2, 1, rfl, A10, by show (s2.rows ++ [_]).length ≤ _; rw [List.length_append, List.length_singleton]; omega, by show (s2.due ++ [_]).length ≤ _; rw [List.length_append, List.length_singleton]; omega, by show s2.bl.length ≤ _; rw [z3, y3]; omega, by decide, fun H11 K11 A11 => ?_⟩
        exact k2 H11 (((((((K14.trans K5).trans K6).trans K7).trans K8).trans K9).trans K10).trans K11) A11
    · rw [if_neg c]
      have k2 := fun H' => k' false H' hz
      rw [if_neg (by decide)] at k2
      exact ⟨a, s1, 1, rfl, A4, by omega, by omega, by rw [y3]; omega, by decide, fun H11 K11 A11 => k2 H11 (K14.trans K11) A11⟩
theorem ok_ve (T : Txt mg) (F : FnP K "_law_edge" "_law_edge" sve f fd) (C_line : Cal P w K mg base 1 "_law_line" ["_law_env"] spLine) (C_handler : Cal P w K mg base 1 "_law_handler" ["_law_env"] spHan) (C_next : Cal P w K mg base 1 "_law_next" ["_law_source", "_law_many"] spNext) : FnOk P w K mg base CX0 2 f fd ["_law_env", "_law_word", "_law_argument"] spEdge := by
  refine F.ok scve (fun vs H Q E h => ?_) (fun cdv A outer s H vs Q E hr h => ?_)
  · obtain ⟨a, s, w, x, rfl, _⟩ := h
    rfl
  · have hu1 := hu_of hr
    obtain ⟨a, s, w, x, rfl, A, sz, k⟩ := h
    refine ⟨_, PSs.nox (pss_cons (ps_set (i := 3) scve.nd rfl (Or.inl rfl) (pe_ix ix_d (pe_lst (pa_cons pe_non (pa_cons (pe_cal C_line (hr.mono (by decide)) rfl (pa_cons (pv 0) pa_nil)) pa_nil))) (pe_cal C_next (hr.mono (by decide)) rfl (pa_cons (pe_dget hu1 (pv 0) pe_str (fun _ _ => rfl)) (pa_cons pe_int pa_nil))) (fun _ _ => rfl)))
  (pss_cons (ps_expr (pe_bm PySem.F.plainAttrs_list PySem.F.slot_list_append PySem.F.type_list_append mt_append (pe_dget hu1 (pv 0) pe_str (fun _ _ => rfl)) (pa_cons (pe_tup (pa_cons (pv 1) (pa_cons (pv 2) (pa_cons (pv 3) pa_nil)))) pa_nil)))
  (pss_one (ps_if (pt_cmpR op_notN (pv 3) pe_non (nomark _))
    (pss_one (ps_expr (pe_bm PySem.F.plainAttrs_list PySem.F.slot_list_append PySem.F.type_list_append mt_append (pe_dget hu1 (pv 0) pe_str (fun _ _ => rfl)) (pa_cons (pe_tup (pa_cons pe_str (pa_cons pe_non (pa_cons (pv 3) (pa_cons (pe_cal C_handler (hr.mono (by decide)) rfl (pa_cons (pv 0) pa_nil)) pa_nil))))) pa_nil))))
    pss_nil)))), ?_⟩
    show (_ : TS) _ [some (.ref a.E), some (.str w), some x, none] H
    simp only [r_seq, r_next, r_brk, r_cont, r_asg, r_name, r_ret, r_retN, r_drop, r_ifs, r_never, r_var, r_c, r_op, r_un, r_if, r_tst, r_b, r_not, r_and, r_or, r_andV, r_orV, r_notV, r_nil, r_cons, r_tup, r_lst, r_cb, r_call, r_bm, r_bm0, r_sl, r_nopart, r_part, r_rev, r_gnil, r_gcons, r_gsub, r_par, r_aug, r_chain, r_I0, r_I, r_U, r_ixd, r_lend, r_tupd, r_listd, r_sld, r_app, r_ext, r_reverse, r_setl, r_cat, r_int1, r_eqS, r_neS, scal_ii, scal_bb, scal_ss, at0, at1, at2, sq_lst, sq_tup, isLst_lst, List.getElem?_cons_zero, List.getElem?_cons_succ, List.set_cons_zero, List.set_cons_succ, V.int.injEq, V.bl.injEq, V.ref.injEq, V.str.injEq, HO.lst.injEq, HO.tup.injEq, Option.some.injEq, exists_eq_left', exists_eq_left, List.cons.injEq, and_true, true_and, decide_eq_true_eq, reduceCtorEq, false_and, exists_false, or_false, false_or, exists_const, and_assoc, exists_and_left, List.append_nil, ix0, ix1, ix2, cm_mod, cdw1009, cdw2003, cdw7, cdw64, cdw2, cm104729, cm2, cm3, upd_same, List.length_cons, List.length_nil, Int.reduceLT, Int.reduceLE, Nat.reduceAdd, Nat.reduceLeDiff, Nat.reduceLT, Int.reduceToNat, r_for1, r_forL, r_forT, r_lcL, r_lc1, r_yes, r_gtupD, wipe_0, wipe_1, List.cons_append, List.nil_append, r_forS, r_ipI, ite_false, ite_true, Bool.not_true, Bool.not_false, decide_true, decide_false, r_isd, r_islt, cD_ty, cD_ref, tD_non, tD_bl, tD_int, tD_str, tD_ref, tH_lst, tH_tup, tH_dK, tH_ins, ki_self, ki_int_bool, ki_non_int, ki_str_int, ki_lt_lst, ki_lt_tup, r_fld, r_sfld, HO.ins.injEq, cx_K, r_dget]
    refine A.line fun H1 K1 A1 => ⟨szl (by decide), fun p hp => ?_⟩
    have s2 := Same.new' (o := .lst [.non, .int (s.line + 1)]) (Same.refl H1) hp
    have ep : L2.upd H1 p (.lst [.non, .int (s.line + 1)]) p = some (.lst [.non, .int (s.line + 1)]) := upd_same
    obtain ⟨A2, K2⟩ := A1.same s2
    have np : p ≠ a.S := A1.src0.ne hp
    generalize L2.upd H1 p (.lst [.non, .int (s.line + 1)]) = H2 at *
    refine ⟨_, A2.get_source, a.S, 2, rfl, A2.src0, by decide, by decide, fun r H3 r0 r1 k3 s3 => ?_⟩
    obtain ⟨A3, K3⟩ := A2.src k3 s3
    have ep3 := k3 _ _ np ep
    have K13 := (K1.trans K2).trans K3
    rcases (by omega : r = 0 ∨ r = 1) with rfl | rfl
    · refine ⟨0, rfl, _, congrArg sq ep3, .non, at0, _, A3.get_rows, A3.tyR, szl (by decide), fun p1 hp1 => ?_⟩
      obtain ⟨refs, eR, lR, A4, K4⟩ := A3.appR ⟨w, x, none⟩ hp1
      refine ⟨_, rfl, _, eR, by rw [lR]; exact Nat.lt_of_le_of_lt sz.r (by decide), ?_⟩
      rw [if_neg (by decide)]
      refine k none _ (.inl rfl) (K13.trans K4) ?_
      unfold edgeF nopD
      rw [List.append_nil]
      exact A4
    · refine ⟨1, rfl, _, congrArg sq ep3, .int (s.line + 1), at1, _, A3.get_rows, A3.tyR, szl (by decide), fun p1 hp1 => ?_⟩
      obtain ⟨refs, eR, lR, A4, K4⟩ := A3.appR ⟨w, x, some (s.line + 1)⟩ hp1
      refine ⟨_, rfl, _, eR, by rw [lR]; exact Nat.lt_of_le_of_lt sz.r (by decide), ?_⟩
      rw [if_pos (by rfl)]
      refine ⟨_, A4.get_due, A4.tyD, a, _, rfl, A4, sz.b, fun v H5 s5 hv => ?_⟩
      obtain ⟨A5, K5⟩ := A4.same s5
      refine ⟨szl (by decide), fun p2 hp2 => ?_⟩
      obtain ⟨refs2, eD, lD, A6, K6⟩ := A5.appD ⟨"NOP", .non, some (s.line + 1), (gOf s.bl).hd⟩ hv hp2
      exact ⟨_, rfl, _, eD, by rw [lD]; exact Nat.lt_of_le_of_lt sz.d (by decide), k (some (s.line + 1)) _ (.inr rfl) (((K13.trans K4).trans K5).trans K6) A6⟩
theorem ok_vd (T : Txt mg) (F : FnP K "_law_dead" "_law_dead" svd f fd) (C_line : Cal P w K mg base 1 "_law_line" ["_law_env"] spLine) (C_new : Cal P w K mg base 1 "_law_new" ["_law_env"] spNew) (C_put : Cal P w K mg base 2 "_law_put" ["_law_env", "_law_word", "_law_argument", "_law_due"] spPut) (C_label : Cal P w K mg base 1 "_law_label" ["_law_env", "_law_label_here"] spLab) : FnOk P w K mg base CX0 3 f fd ["_law_env"] spDead := by
  refine F.ok scvd (fun vs H Q E h => ?_) (fun cdv A outer s H vs Q E hr h => ?_)
  · obtain ⟨a, s, rfl, _⟩ := h
    rfl
  · have hu1 := hu_of hr
    obtain ⟨a, s, rfl, A, l1, l2, l3, k⟩ := h
    refine ⟨_, PSs.nox (pss_cons (ps_set (i := 1) scvd.nd rfl (Or.inl rfl) (pe_cal C_new (hr.mono (by decide)) rfl (pa_cons (pv 0) pa_nil)))
  (pss_cons (ps_expr (pe_cal C_put (hr.mono (by decide)) rfl (pa_cons (pv 0) (pa_cons pe_str (pa_cons (pv 1) (pa_cons pe_str pa_nil))))))
  (pss_cons (ps_set (i := 2) scvd.nd rfl (Or.inl rfl) (pe_cal C_line (hr.mono (by decide)) rfl (pa_cons (pv 0) pa_nil)))
  (pss_cons (ps_expr (pe_bm PySem.F.plainAttrs_list PySem.F.slot_list_extend PySem.F.type_list_extend mt_extend (pe_dget hu1 (pv 0) pe_str (fun _ _ => rfl)) (pa_cons (pe_lst (pa_cons (pe_tup (pa_cons pe_str (pa_cons pe_str (pa_cons (pv 2) pa_nil)))) (pa_cons (pe_tup (pa_cons pe_str (pa_cons (pe_cal C_new (hr.mono (by decide)) rfl (pa_cons (pv 0) pa_nil)) (pa_cons pe_non pa_nil)))) (pa_cons (pe_tup (pa_cons pe_str (pa_cons pe_non (pa_cons (pv 2) pa_nil)))) pa_nil)))) pa_nil)))
  (pss_one (ps_expr (pe_cal C_label (hr.mono (by decide)) rfl (pa_cons (pv 0) (pa_cons (pv 1) pa_nil))))))))), ?_⟩
    show (_ : TS) _ [some (.ref a.E), none, none] H
    simp only [r_seq, r_next, r_brk, r_cont, r_asg, r_name, r_ret, r_retN, r_drop, r_ifs, r_never, r_var, r_c, r_op, r_un, r_if, r_tst, r_b, r_not, r_and, r_or, r_andV, r_orV, r_notV, r_nil, r_cons, r_tup, r_lst, r_cb, r_call, r_bm, r_bm0, r_sl, r_nopart, r_part, r_rev, r_gnil, r_gcons, r_gsub, r_par, r_aug, r_chain, r_I0, r_I, r_U, r_ixd, r_lend, r_tupd, r_listd, r_sld, r_app, r_ext, r_reverse, r_setl, r_cat, r_int1, r_eqS, r_neS, scal_ii, scal_bb, scal_ss, at0, at1, at2, sq_lst, sq_tup, isLst_lst, List.getElem?_cons_zero, List.getElem?_cons_succ, List.set_cons_zero, List.set_cons_succ, V.int.injEq, V.bl.injEq, V.ref.injEq, V.str.injEq, HO.lst.injEq, HO.tup.injEq, Option.some.injEq, exists_eq_left', exists_eq_left, List.cons.injEq, and_true, true_and, decide_eq_true_eq, reduceCtorEq, false_and, exists_false, or_false, false_or, exists_const, and_assoc, exists_and_left, List.append_nil, ix0, ix1, ix2, cm_mod, cdw1009, cdw2003, cdw7, cdw64, cdw2, cm104729, cm2, cm3, upd_same, List.length_cons, List.length_nil, Int.reduceLT, Int.reduceLE, Nat.reduceAdd, Nat.reduceLeDiff, Nat.reduceLT, Int.reduceToNat, r_for1, r_forL, r_forT, r_lcL, r_lc1, r_yes, r_gtupD, wipe_0, wipe_1, List.cons_append, List.nil_append, r_forS, r_ipI, ite_false, ite_true, Bool.not_true, Bool.not_false, decide_true, decide_false, r_isd, r_islt, cD_ty, cD_ref, tD_non, tD_bl, tD_int, tD_str, tD_ref, tH_lst, tH_tup, tH_dK, tH_ins, ki_self, ki_int_bool, ki_non_int, ki_str_int, ki_lt_lst, ki_lt_tup, r_fld, r_sfld, HO.ins.injEq, cx_K, r_dget]
    refine A.new fun H1 K1 A1 => ?_
    refine ⟨a, _, _, _, _, rfl, A1, ⟨by show s.rows.length ≤ _; omega, by show s.due.length ≤ _; omega, by show s.bl.length ≤ _; omega⟩, fun H2 K2 A2 => ?_⟩
    refine A2.line fun H3 K3 A3 => ?_
    have y1 : (lineF (putF (newF s) "JUMP" (.int s.new) "JUMP_FORWARD")).rows.length = s.rows.length + 1 := by simp [putF, newF, lineF]
    have y2 : (lineF (putF (newF s) "JUMP" (.int s.new) "JUMP_FORWARD")).due.length = s.due.length + 1 := by simp [putF, newF, lineF]
    have y3 : (lineF (putF (newF s) "JUMP" (.int s.new) "JUMP_FORWARD")).bl = s.bl := rfl
    have y4 : (putF (newF s) "JUMP" (.int s.new) "JUMP_FORWARD").line + 1 = (lineF (putF (newF s) "JUMP" (.int s.new) "JUMP_FORWARD")).line := rfl
    rw [y4]
    unfold deadF at k
    dsimp only at k
    have A3 : At H3 a (lineF (putF (newF s) "JUMP" (.int s.new) "JUMP_FORWARD")) := A3
    generalize lineF (putF (newF s) "JUMP" (.int s.new) "JUMP_FORWARD") = s2 at *
    refine ⟨_, A3.get_rows, A3.tyR, szl (by decide), fun p hp => ?_⟩
    have s4 := Same.new' (o := .tup (v3 ⟨"LOAD_NAME", .str "d", some s2.line⟩)) (Same.refl H3) hp
    have ep : L2.upd H3 p (.tup (v3 ⟨"LOAD_NAME", .str "d", some s2.line⟩)) p = some (.tup (v3 ⟨"LOAD_NAME", .str "d", some s2.line⟩)) := upd_same
    obtain ⟨A4, K4⟩ := A3.same s4
    refine A4.new fun H5 K5 A5 => ?_
    have ep5 := A4.tups K5 _ _ ep
    refine ⟨szl (by decide), fun p1 hp1 => ⟨szl (by decide), fun p2 hp2 => ⟨szl (by decide), fun p3 hp3 => ?_⟩⟩⟩
    have s6 := Same.new' (o := .tup (v3 ⟨"LABEL", .int s2.new, none⟩)) (Same.refl H5) hp1
    have e6 : L2.upd H5 p1 (.tup (v3 ⟨"LABEL", .int s2.new, none⟩)) p1 = some (.tup (v3 ⟨"LABEL", .int s2.new, none⟩)) := upd_same
    obtain ⟨A6, K6⟩ := A5.same s6
    have s7 := Same.new' (o := .tup (v3 ⟨"POP_TOP", .non, some s2.line⟩)) (Same.refl _) hp2
    have e7 : L2.upd (L2.upd H5 p1 (.tup (v3 ⟨"LABEL", .int s2.new, none⟩))) p2 (.tup (v3 ⟨"POP_TOP", .non, some s2.line⟩)) p2 = some (.tup (v3 ⟨"POP_TOP", .non, some s2.line⟩)) := upd_same
    obtain ⟨A7, K7⟩ := A6.same s7
    have s8 := Same.new' (o := .lst [.ref p, .ref p1, .ref p2]) (Same.refl _) hp3
    obtain ⟨A8, K8⟩ := A7.same s8
    have f1 := s8 _ _ (s7 _ _ (s6 _ _ ep5))
    have f2 := s8 _ _ (s7 _ _ e6)
    have f3 := s8 _ _ e7
    obtain ⟨refs, eR, pR⟩ := A8.r
    have lR := Paired.length pR
    have lR2 : refs.length = s2.rows.length := lR
    refine ⟨_, rfl, _, eR, Nat.le_trans (by rw [List.length_map]; omega : _ ≤ 20000) (by decide), ?_⟩
    obtain ⟨A9, K9⟩ := A8.extR (rs := [p, p1, p2]) (ys := [⟨"LOAD_NAME", .str "d", some s2.line⟩, ⟨"LABEL", .int s2.new, none⟩, ⟨"POP_TOP", .non, some s2.line⟩]) eR (.cons f1 (.cons f2 (.cons f3 .nil)))
    exact ⟨a, _, s.new, rfl, A9, ⟨by show (s2.rows ++ [_, _, _]).length ≤ _; rw [List.length_append]; show s2.rows.length + 3 ≤ _; omega, by show s2.due.length ≤ _; omega, by show s2.bl.length ≤ _; rw [y3]; omega⟩, fun H10 K10 A10 => k H10 (((((((((K1.trans K2).trans K3).trans K4).trans K5).trans K6).trans K7).trans K8).trans K9).trans K10) A10⟩
end
end C31

set_option maxHeartbeats 2000000
namespace C31
open PySem PySem.Spec PyProof.Rows L2
/-! ### the parts of the rows (pure) -/
theorem Inv.set {s : Ls} {pend : List Int} {live : Bool} {d : Int} (I : Inv s pend live d) (l h : Int) : Inv ⟨s.rows, s.due, s.bl, l, s.new, h⟩ pend live d := ⟨I.ok, I.og, I.core, I.lv, I.dp⟩
theorem Inv.due_len {s : Ls} {pend : List Int} {live : Bool} {d : Int} (I : Inv s pend live d) : s.due.length ≤ s.rows.length := by
  rw [I.core.de, List.length_map]
  have h1 := List.length_filter_le (keepT (Gs s).t) (Gs s).f
  have h2 := (go5_len [] s.rows s.rows.length (Nat.le_refl _)).f
  rw [List.take_length] at h2
  exact Nat.le_trans h1 h2
/-- how great the numbers are -/
def IntOk (B : Nat) (x : R3) : Prop := (∀ i, x.a = .int i → 0 ≤ i ∧ i ≤ (B : Int)) ∧ ∀ i, x.l = some i → 0 ≤ i ∧ i ≤ (B : Int)
theorem IntOk.mono {B C : Nat} {x : R3} (h : IntOk B x) (k : B ≤ C) : IntOk C x := ⟨fun i e => ⟨(h.1 i e).1, by have := (h.1 i e).2; omega⟩, fun i e => ⟨(h.2 i e).1, by have := (h.2 i e).2; omega⟩⟩
structure Nm (s : Ls) : Prop where
  l0 : 0 ≤ s.line
  l1 : s.line ≤ s.rows.length
  n1 : s.new ≤ 2 * (s.rows.length : Nat)
  x : ∀ x ∈ s.rows, IntOk (2 * s.rows.length) x
theorem nm_app {s s' : Ls} {xs : List R3} (h : Nm s) (e : s'.rows = s.rows ++ xs) (l0 : s.line ≤ s'.line) (l1 : s'.line ≤ s.line + xs.length) (n1 : s'.new ≤ s.new + 2 * (xs.length : Nat)) (ok : ∀ x ∈ xs, IntOk (2 * (s.rows.length + xs.length)) x) : Nm s' := by
  have hl : s'.rows.length = s.rows.length + xs.length := by rw [e, List.length_append]
  have a := h.l0
  have b := h.l1
  have c := h.n1
  refine ⟨by omega, by omega, by omega, fun x hx => ?_⟩
  rw [hl]
  rw [e] at hx
  rcases List.mem_append.mp hx with hx | hx
  · exact (h.x x hx).mono (by omega)
  · exact ok x hx
theorem io_lab {B : Nat} {n : Int} {w : Str} {lo : Option Int} (h0 : 0 ≤ n) (h1 : n ≤ B) (hl : ∀ i, lo = some i → 0 ≤ i ∧ i ≤ (B : Int)) : IntOk B ⟨w, .int n, lo⟩ := ⟨fun i e => by cases e; exact ⟨h0, h1⟩, hl⟩
theorem io_non {B : Nat} {w : Str} {lo : Option Int} (hl : ∀ i, lo = some i → 0 ≤ i ∧ i ≤ (B : Int)) : IntOk B ⟨w, .non, lo⟩ := ⟨(fun i e => by cases e), hl⟩
theorem io_str {B : Nat} {w z : Str} {lo : Option Int} (hl : ∀ i, lo = some i → 0 ≤ i ∧ i ≤ (B : Int)) : IntOk B ⟨w, .str z, lo⟩ := ⟨(fun i e => by cases e), hl⟩
theorem lo_s {B : Nat} {l : Int} (h0 : 0 ≤ l) (h1 : l ≤ B) : ∀ i, some l = some i → 0 ≤ i ∧ i ≤ (B : Int) := fun i e => by cases e; exact ⟨h0, h1⟩
theorem lo_n {B : Nat} : ∀ i, (none : Option Int) = some i → 0 ≤ i ∧ i ≤ (B : Int) := fun i e => by cases e
theorem lo_e {B : Nat} {l : Int} {lo : Option Int} (h : lo = none ∨ lo = some l) (h0 : 0 ≤ l) (h1 : l ≤ B) : ∀ i, lo = some i → 0 ≤ i ∧ i ≤ (B : Int) := fun i e => by
  rcases h with h | h
  · rw [h] at e; cases e
  · rw [h] at e; cases e; exact ⟨h0, h1⟩
structure Pt (s s' : Ls) (pend : List Int) (d : Int) (c : Nat) : Prop where
  inv : Inv s' pend true d
  gro : Gro s.new (gLabs (gOf s.bl)) (Gs s) (Gs s')
  bl : s'.bl = s.bl
  new : s.new ≤ s'.new
  ht : s'.height = s.height
  len : s'.rows.length ≤ s.rows.length + c
  pre : ∃ xs, s'.rows = s.rows ++ xs
  nm : Nm s → Nm s'
theorem Pt.refl {s : Ls} {pend : List Int} {d : Int} {c : Nat} (I : Inv s pend true d) : Pt s s pend d c := ⟨I, .refl, rfl, Int.le_refl _, rfl, by omega, ⟨[], by rw [List.append_nil]⟩, id⟩
theorem Pt.trans {s s1 s2 : Ls} {p1 p2 : List Int} {d1 d2 : Int} {c1 c2 : Nat} (h : Pt s s1 p1 d1 c1) (k : Pt s1 s2 p2 d2 c2) : Pt s s2 p2 d2 (c1 + c2) := by
  obtain ⟨x1, e1⟩ := h.pre
  obtain ⟨x2, e2⟩ := k.pre
  have g := k.gro
  rw [h.bl] at g
  exact ⟨k.inv, h.gro.trans (g.mono h.new fun _ _ z => z), by rw [k.bl, h.bl], Int.le_trans h.new k.new, by rw [k.ht, h.ht], by have := h.len; have := k.len; omega, ⟨x1 ++ x2, by rw [e2, e1, List.append_assoc]⟩, fun n => k.nm (h.nm n)⟩
theorem Pt.mono {s s' : Ls} {p : List Int} {d : Int} {c c' : Nat} (h : Pt s s' p d c) (k : c ≤ c') : Pt s s' p d c' := ⟨h.inv, h.gro, h.bl, h.new, h.ht, by have := h.len; omega, h.pre, h.nm⟩
theorem Tld.pt {s s' : Ls} {p : List Int} {d : Int} {c : Nat} (h : Tld s) (k : Pt s s' p d c) : Tld s' := fun hd o e => by
  rw [k.bl] at e
  have := h hd o e
  obtain ⟨q, eq⟩ := Option.isSome_iff_exists.mp this
  rw [k.gro.tm _ _ eq]
  rfl
def QW : List Str := ["LOAD_NAME", "POP_TOP", "YIELD_VALUE"]
theorem qw_facts : ∀ z ∈ QW, z ∈ PW ∧ z ≠ "RESUME" ∧ leaving z = false := by decide +kernel
theorem pt_put {s : Ls} {pend : List Int} {d : Int} {w : Str} {x : V} (I : Inv s pend true d) (hw : w ∈ QW) (hx : ScA x) (h0 : ∀ i, x = .int i → i = 0) : Pt s (putF s w x w) pend (d + eff w) 1 ∧ Tld (putF s w x w) ∧ (Gs (putF s w x w)).ah = w := by
  obtain ⟨h1, h2, h3⟩ := qw_facts w hw
  have ar : argR (Gs s) ⟨w, x, some (s.line + 1)⟩ = x := if_neg fun q => h2 q.1
  obtain ⟨a, b, c, e⟩ := inv_row (x := ⟨w, x, some (s.line + 1)⟩) I h1 (xok_plain h1 hx fun q => absurd q h2) (fun e => by cases e) (s.line + 1) s.height
  rw [ar, h3] at a
  refine ⟨⟨a, b, rfl, Int.le_refl _, rfl, by simp [putF], ⟨_, rfl⟩, fun n => ?_⟩, c, e⟩
  have q0 := n.l0
  have q1 := n.l1
  refine nm_app n (xs := [⟨w, x, some (s.line + 1)⟩]) rfl (by show s.line ≤ s.line + 1; omega) (by show s.line + 1 ≤ s.line + 1; omega) (by show s.new ≤ s.new + 2; omega) fun y hy => ?_
  rw [List.mem_singleton.mp hy]
  exact ⟨fun i e => by rw [h0 i e]; exact ⟨Int.le_refl _, by omega⟩, lo_s (by omega) (by show s.line + 1 ≤ ((2 * (s.rows.length + 1) : Nat) : Int); omega)⟩
theorem pt_res {s : Ls} {pend : List Int} {d : Int} (I : Inv s pend true d) (ah : (Gs s).ah = "YIELD_VALUE") : Pt s (resF s) pend d 1 ∧ Tld (resF s) := by
  have h1 : ("RESUME" : Str) ∈ PW := by decide
  obtain ⟨ed, eg⟩ := I.dp rfl
  have ar : argR (Gs s) ⟨"RESUME", .int 1, some (s.line + 1)⟩ = .int (if s.bl.length = 1 then 5 else 1) := by
    unfold argR
    rw [eg, gOf_n, ah]
    by_cases c : s.bl.length = 1
    · rw [if_pos c, if_pos ⟨rfl, rfl, c, rfl⟩]
    · rw [if_neg c, if_neg fun q => c q.2.2.1]
  obtain ⟨a, b, c, e⟩ := inv_row (x := ⟨"RESUME", .int 1, some (s.line + 1)⟩) I h1 (xok_plain h1 (.inr (.inl ⟨1, rfl⟩)) fun _ => ⟨1, rfl⟩) (fun e => by cases e) (s.line + 1) s.height
  rw [ar] at a
  have e1 : (!leaving "RESUME") = true := by decide
  have e2 : d + eff "RESUME" = d := by show d + 0 = d; omega
  have a : Inv (resF s) pend (!leaving "RESUME") (d + eff "RESUME") := a
  rw [e1, e2] at a
  refine ⟨⟨a, b, rfl, Int.le_refl _, rfl, by simp [resF], ⟨_, rfl⟩, fun n => ?_⟩, c⟩
  have q0 := n.l0
  have q1 := n.l1
  refine nm_app n (xs := [⟨"RESUME", .int 1, some (s.line + 1)⟩]) rfl (by show s.line ≤ s.line + 1; omega) (by show s.line + 1 ≤ s.line + 1; omega) (by show s.new ≤ s.new + 2; omega) fun y hy => ?_
  rw [List.mem_singleton.mp hy]
  exact io_lab (by decide) (by show 1 ≤ ((2 * (s.rows.length + 1) : Nat) : Int); omega) (lo_s (by omega) (by show s.line + 1 ≤ ((2 * (s.rows.length + 1) : Nat) : Int); omega))
theorem pt_pops {s : Ls} {pend : List Int} {d : Int} (I : Inv s pend true d) : ∀ k : Nat, Pt s (popsF s k) pend (d - (k : Nat)) k
  | 0 => by
    have := Pt.refl (c := 0) I
    rw [show d - ((0 : Nat) : Int) = d by omega]
    exact this
  | k + 1 => by
    have h := pt_pops I k
    obtain ⟨a, _, _⟩ := pt_put (w := "POP_TOP") (x := .non) h.inv (by decide) (.inl rfl) (fun i e => by cases e)
    have := h.trans a
    have e : d - ((k : Nat) : Int) + eff "POP_TOP" = d - ((k + 1 : Nat) : Int) := by show d - _ + -1 = _; omega
    rw [e] at this
    exact this
theorem sc_str {z : Str} (h : okZ z = true) : ScA (.str z) := .inr (.inr ⟨z, rfl, h⟩)
theorem abc_ok : ∀ z ∈ abc, okZ z = true := by decide +kernel
theorem pt_load {s : Ls} {pend : List Int} {d : Int} {z : Str} (I : Inv s pend true d) (hz : okZ z = true) : Pt s (loadF s z) pend (d + 1) 1 ∧ Tld (loadF s z) := by
  obtain ⟨a, b, _⟩ := pt_put (w := "LOAD_NAME") (x := .str z) I (by decide) (sc_str hz) (fun i e => by cases e)
  exact ⟨a, b⟩
theorem pt_plain {s : Ls} {pend : List Int} {d : Int} {z : Str} {y : Bool} (I : Inv s pend true d) (hz : z ∈ abc) : Pt s (plainF s z y) pend d 4 ∧ Tld (plainF s z y) := by
  obtain ⟨a, t⟩ := pt_load I (abc_ok z hz)
  unfold plainF
  cases y with
  | false =>
    rw [if_neg (by decide)]
    have p := pt_pops a.inv 1
    have q := a.trans p
    rw [show d + 1 - ((1 : Nat) : Int) = d by omega] at q
    exact ⟨q.mono (by decide), t.pt p⟩
  | true =>
    rw [if_pos rfl]
    obtain ⟨b, tb, ab⟩ := pt_put (w := "YIELD_VALUE") (x := .int 0) a.inv (by decide) (.inr (.inl ⟨0, rfl⟩)) (fun i e => by cases e; rfl)
    obtain ⟨c, tc⟩ := pt_res b.inv ab
    have p := pt_pops c.inv 1
    have q := ((a.trans b).trans c).trans p
    rw [show d + 1 + eff "YIELD_VALUE" - ((1 : Nat) : Int) = d by show d + 1 + 0 - _ = d; omega] at q
    exact ⟨q, tc.pt p⟩
theorem pt_lab_new {s : Ls} {pend : List Int} {live : Bool} {d : Int} (I : Inv s pend live d) : Fr (Gs s).f s.new ∧ look (Gs s).t s.new = none ∧ s.new ∉ gLabs (gOf s.bl) := by
  obtain ⟨h1, h2⟩ := I.core.hi s.new (Int.le_refl _)
  exact ⟨h2, h1, fun h => by have := (I.core.gf _ h).2; omega⟩
theorem gro_out {N : Int} {L : List Int} {n : Int} {g g' : G5} (h : Gro N (n :: L) g g') {M : Int} (h1 : M ≤ N) (h2 : M ≤ n) : Gro M L g g' := h.mono h1 fun m a b c => by
  rcases List.mem_cons.mp c with c | c
  · omega
  · exact b c
theorem pt_dead {s : Ls} {pend : List Int} {d : Int} (I : Inv s pend true d) : Pt s (deadF s) pend d 5 ∧ Tld (deadF s) := by
  have I1 : Inv (newF s) pend true d := inv_new I (by omega) _ _
  obtain ⟨f1, u1, g1⟩ := pt_lab_new I
  obtain ⟨I2, G2, T2, L2⟩ := inv_jump (n := s.new) (i := s.line + 1) I1 (by show s.new < s.new + 1; omega) f1 u1 g1 (s.line + 1 + 1) s.height
  have eu : deadF s = labF ⟨s.rows ++ [⟨"JUMP", .int s.new, some (s.line + 1)⟩] ++ [⟨"LOAD_NAME", .str "d", some (s.line + 1 + 1)⟩, ⟨"LABEL", .int (s.new + 1), none⟩, ⟨"POP_TOP", .non, some (s.line + 1 + 1)⟩], s.due ++ [⟨"JUMP_FORWARD", .int s.new, some (s.line + 1), (gOf s.bl).hd⟩], s.bl, s.line + 1 + 1, s.new + 1 + 1, s.height⟩ s.new := rfl
  obtain ⟨s2, e2⟩ : ∃ s2 : Ls, s2 = ⟨s.rows ++ [⟨"JUMP", .int s.new, some (s.line + 1)⟩], s.due ++ [⟨"JUMP_FORWARD", .int s.new, some (s.line + 1), (gOf s.bl).hd⟩], s.bl, s.line + 1 + 1, s.new + 1, s.height⟩ := ⟨_, rfl⟩
  have I2 : Inv s2 (s.new :: pend) false 0 := by rw [e2]; exact I2
  have G2 : Gro (s.new + 1) (s.new :: gLabs (gOf s.bl)) (Gs s) (Gs s2) := by rw [e2]; exact G2
  have T2 : Tld s2 := by rw [e2]; exact T2
  have L2 : look (Gs s2).t s.new = some ⟨s.new, d, gOf s.bl⟩ := by rw [e2]; exact L2
  have b2 : s2.bl = s.bl := by rw [e2]
  have n2 : s2.new = s.new + 1 := by rw [e2]
  obtain ⟨I3, G3, t3⟩ := inv_skip (x := ⟨"LOAD_NAME", .str "d", some (s.line + 1 + 1)⟩) I2 (by show ("LOAD_NAME" : Str) ∈ PW; decide) (xok_plain (by decide) (sc_str (by decide +kernel)) fun e => absurd e (by decide)) s2.line s2.height
  obtain ⟨s3, e3⟩ : ∃ s3 : Ls, s3 = ⟨s2.rows ++ [⟨"LOAD_NAME", .str "d", some (s.line + 1 + 1)⟩], s2.due, s2.bl, s2.line, s2.new, s2.height⟩ := ⟨_, rfl⟩
  rw [← e3] at I3
  have G3 : Gro s2.new (gLabs (gOf s2.bl)) (Gs s2) (Gs s3) := by rw [e3]; exact G3
  have t3 : (Gs s3).t = (Gs s2).t := by rw [e3]; exact t3
  have I4 : Inv (newF s3) (s.new :: pend) false 0 := inv_new I3 (by omega) _ _
  obtain ⟨f4, u4, g4⟩ := pt_lab_new I3
  have n3 : s3.new = s.new + 1 := by rw [e3]; exact n2
  have b3 : s3.bl = s.bl := by rw [e3]; exact b2
  obtain ⟨I5, G5, t5⟩ := inv_dead (n := s3.new) I4 (by show s3.new < s3.new + 1; omega) f4 u4 g4 s3.line s3.height
  obtain ⟨s5, e5⟩ : ∃ s5 : Ls, s5 = ⟨s3.rows ++ [⟨"LABEL", .int s3.new, none⟩], s3.due, s3.bl, s3.line, s3.new + 1, s3.height⟩ := ⟨_, rfl⟩
  have I5 : Inv s5 (s.new :: pend) false 0 := by rw [e5]; exact I5
  have G5 : Gro (s3.new + 1) (s3.new :: gLabs (gOf s3.bl)) (Gs s3) (Gs s5) := by rw [e5]; exact G5
  have t5 : (Gs s5).t = (Gs s3).t := by rw [e5]; exact t5
  obtain ⟨I6, G6, t6⟩ := inv_skip (x := ⟨"POP_TOP", .non, some (s.line + 1 + 1)⟩) I5 (by show ("POP_TOP" : Str) ∈ PW; decide) (xok_plain (by decide) (.inl rfl) fun e => absurd e (by decide)) s5.line s5.height
  obtain ⟨s6, e6⟩ : ∃ s6 : Ls, s6 = ⟨s5.rows ++ [⟨"POP_TOP", .non, some (s.line + 1 + 1)⟩], s5.due, s5.bl, s5.line, s5.new, s5.height⟩ := ⟨_, rfl⟩
  rw [← e6] at I6
  have G6 : Gro s5.new (gLabs (gOf s5.bl)) (Gs s5) (Gs s6) := by rw [e6]; exact G6
  have t6 : (Gs s6).t = (Gs s2).t := by rw [e6]; exact t6.trans (t5.trans t3)
  have b5 : s5.bl = s.bl := by rw [e5]; exact b3
  have n5 : s5.new = s.new + 1 + 1 := by rw [e5]; show s3.new + 1 = _; rw [n3]
  have b6 : s6.bl = s.bl := by rw [e6]; exact b5
  have n6 : s6.new = s.new + 1 + 1 := by rw [e6]; exact n5
  have h6 : s6.height = s.height := by rw [e6, e5, e3, e2]
  obtain ⟨I7, G7, t7⟩ := inv_lab (n := s.new) (pend' := pend) (dd := d) (p := ⟨s.new, d, gOf s.bl⟩) I6 (by omega) (by rw [t6]; exact L2) (by rw [b6]; exact g1) (fun m h => (List.mem_cons.mp h).elim .inr .inl) (.inr ⟨rfl, by rw [b6], rfl⟩) s6.line s6.height
  have e7 : deadF s = labF s6 s.new := by
    rw [eu, e6, e5, e3, e2]
    unfold labF
    simp only [List.append_assoc, List.cons_append, List.nil_append]
  have r7 : (labF s6 s.new).rows = s6.rows ++ [⟨"LABEL", .int s.new, none⟩] := rfl
  have tt : (Gs (labF s6 s.new)).t = (Gs s2).t := t7.trans t6
  rw [e7]
  have l6 : s6.line = s.line + 1 + 1 := by rw [e6, e5, e3, e2]
  have P1 : ∃ xs, (labF s6 s.new).rows = s.rows ++ xs ∧ xs.length = 5 ∧ xs = [⟨"JUMP", .int s.new, some (s.line + 1)⟩, ⟨"LOAD_NAME", .str "d", some (s.line + 1 + 1)⟩, ⟨"LABEL", .int (s.new + 1), none⟩, ⟨"POP_TOP", .non, some (s.line + 1 + 1)⟩, ⟨"LABEL", .int s.new, none⟩] := by
    rw [r7, e6, e5, e3, e2]
    dsimp only
    rw [List.append_assoc, List.append_assoc, List.append_assoc, List.append_assoc]
    exact ⟨_, rfl, rfl, rfl⟩
  obtain ⟨xs, ex, lx, exs⟩ := P1
  rw [b2] at G3
  rw [b3] at G5
  rw [b5] at G6
  rw [b6] at G7
  refine ⟨⟨I7, ?_, b6, by show s.new ≤ s6.new; omega, h6, by rw [ex, List.length_append]; omega, ⟨xs, ex⟩, fun n => ?_⟩, fun hd o e => ?_⟩
  · exact ((((gro_out G2 (by omega) (Int.le_refl _)).trans (G3.mono (by omega) fun _ _ z => z)).trans (gro_out G5 (by omega) (by omega))).trans (G6.mono (by omega) fun _ _ z => z)).trans (gro_out G7 (by omega) (Int.le_refl _))
  · have q0 := n.l0
    have q1 := n.l1
    have q2 := n.n1
    have q3 := I.core.nn
    refine nm_app n ex (by show s.line ≤ s6.line; omega) (by show s6.line ≤ _; omega) (by show s6.new ≤ _; omega) fun y hy => ?_
    rw [lx]
    rw [exs] at hy
    simp only [List.mem_cons, List.not_mem_nil, or_false] at hy
    rcases hy with rfl | rfl | rfl | rfl | rfl
    · exact io_lab q3 (by omega) (lo_s (by omega) (by omega))
    · exact io_str (lo_s (by omega) (by omega))
    · exact io_lab (by omega) (by omega) lo_n
    · exact io_non (lo_s (by omega) (by omega))
    · exact io_lab q3 (by omega) lo_n
  · rw [tt]
    exact T2 hd o (by rw [b2]; rw [← b6]; exact e)
/-! ### a body under a handler -/
def mF (s : Ls) : Nat → Ls
  | 0 => s
  | k + 1 => loadF (mF s k) "m"
theorem pt_m {s : Ls} {pend : List Int} {d : Int} (I : Inv s pend true d) : ∀ k : Nat, Pt s (mF s k) pend (d + (k : Nat)) k
  | 0 => by
    have := Pt.refl (c := 0) I
    rw [show d + ((0 : Nat) : Int) = d by omega]
    exact this
  | k + 1 => by
    have h := pt_m I k
    obtain ⟨a, _⟩ := pt_load (z := "m") h.inv (by decide +kernel)
    have := h.trans a
    rw [show d + ((k : Nat) : Int) + 1 = d + ((k + 1 : Nat) : Int) by omega] at this
    exact this
def moreN (w : Str) : Nat := if w = "SETUP_WITH" then 1 else 0
def aboveN (w : Str) : Nat := if w = "SETUP_CLEANUP" then 2 else 1
theorem sw_nums : ∀ w ∈ SW, fewer w = (moreN w : Nat) ∧ (aboveN w : Int) = 1 + (if wants w = true then 1 else 0) - (moreN w : Nat) ∧ moreN w ≤ 1 ∧ aboveN w ≤ 2 := by decide +kernel
def gA (s : Ls) (w : Str) (lo : Option Int) : Ls :=
  let s1 := mF s (moreN w)
  let s2 := edgeF ⟨s1.rows, s1.due, s1.bl, s1.line, s1.new + 1 + 1, s1.height + (moreN w : Nat)⟩ w (.int s1.new) lo
  ⟨s2.rows, s2.due, s2.bl ++ [⟨s1.new, s2.height - (moreN w : Nat), wants w⟩], s2.line, s2.new, s2.height⟩
structure GA (s s1 : Ls) (w : Str) (pend : List Int) : Prop where
  inv : Inv s1 pend true s1.height
  bl : s1.bl = s.bl ++ [⟨s.new, s.height, wants w⟩]
  gro : Gro s.new (gLabs (gOf s.bl)) (Gs s) (Gs s1)
  new : s1.new = s.new + 2
  ht : s1.height = s.height + (moreN w : Nat)
  fr : Fr (Gs s1).f (s.new + 1)
  ut : look (Gs s1).t (s.new + 1) = none
  ng : s.new + 1 ∉ gLabs (gOf s1.bl)
  len : s1.rows.length ≤ s.rows.length + 2
  pre : ∃ xs, s1.rows = s.rows ++ xs
  has : ∃ x ∈ s1.rows, x.w ∈ SW
  nm : Nm s → Nm s1
theorem mF_new (s : Ls) : ∀ k, (mF s k).new = s.new ∧ (mF s k).height = s.height ∧ (mF s k).bl = s.bl
  | 0 => ⟨rfl, rfl, rfl⟩
  | k + 1 => mF_new s k
theorem ga_ok {s : Ls} {pend : List Int} {w : Str} {lo : Option Int} (I : Inv s pend true s.height) (hw : w ∈ SW) (elo : lo = none ∨ lo = some ((mF s (moreN w)).line + 1)) : GA s (gA s w lo) w pend := by
  obtain ⟨e1, e2, e3, e4⟩ := sw_nums w hw
  have P := pt_m I (moreN w)
  obtain ⟨m1, m2, m3⟩ := mF_new s (moreN w)
  unfold gA
  generalize mF s (moreN w) = s1 at *
  dsimp only
  have Ih := P.inv
  obtain ⟨f1, u1, g1⟩ := pt_lab_new Ih
  have I2 : Inv ⟨s1.rows, s1.due, s1.bl, s1.line, s1.new + 1 + 1, s1.height + (moreN w : Nat)⟩ pend true (s.height + (moreN w : Nat)) := inv_new Ih (by omega) _ _
  obtain ⟨h1, h2⟩ := Ih.core.hi (s1.new + 1) (by omega)
  obtain ⟨I3, G3⟩ := inv_open (z := w) (lo := lo) (n := s1.new) I2 hw (by show s1.new < s1.new + 1 + 1; omega) f1 u1 g1 (s1.line + 1) (s1.height + (moreN w : Nat))
  rw [show s.height + ((moreN w : Nat) : Int) - fewer w = s1.height + ((moreN w : Nat) : Int) - ((moreN w : Nat) : Int) by rw [e1, m2]] at I3
  obtain ⟨xs, ex⟩ := P.pre
  have ng1 : s1.new + 1 ∉ gLabs (gOf s1.bl) := fun h => by have := (Ih.core.gf _ h).2; omega
  have G3' : Gro s.new (gLabs (gOf s.bl)) (Gs s1) (goTo5 [] (s1.rows ++ [⟨w, .int s1.new, lo⟩])) := by
    have G3 : Gro (s1.new + 1 + 1) (gLabs (gOf s1.bl)) (Gs s1) (goTo5 [] (s1.rows ++ [⟨w, .int s1.new, lo⟩])) := G3
    rw [m3] at G3
    exact G3.mono (by omega) fun _ _ z => z
  refine ⟨?_, ?_, P.gro.trans G3', by show s1.new + 1 + 1 = _; omega, by show s1.height + _ = _; rw [m2], ?_, ?_, ?_, ?_, ⟨xs ++ [⟨w, .int s1.new, lo⟩], ?_⟩, ⟨⟨w, .int s1.new, lo⟩, List.mem_append.mpr (.inr (List.mem_singleton.mpr rfl)), hw⟩, fun n => ?_⟩
  · show Inv _ pend true (s1.height + ((moreN w : Nat) : Int))
    rw [m2] at I3 ⊢
    exact I3
  · show s1.bl ++ [_] = _
    rw [m3, m1]
    show s.bl ++ [(⟨s.new, s1.height + ((moreN w : Nat) : Int) - ((moreN w : Nat) : Int), wants w⟩ : Hd3)] = _
    rw [m2, show s.height + ((moreN w : Nat) : Int) - ((moreN w : Nat) : Int) = s.height by omega]
  · rw [← m1]
    exact G3.fr _ (by show s1.new + 1 < s1.new + 1 + 1; omega) ng1 h2
  · rw [← m1]
    exact G3.ut _ (by show s1.new + 1 < s1.new + 1 + 1; omega) ng1 h1
  · show s.new + 1 ∉ gLabs (gOf (s1.bl ++ [_]))
    rw [gOf_snoc, ← m1]
    intro h
    rcases List.mem_cons.mp h with h | h
    · have h : s1.new + 1 = s1.new := h
      omega
    · exact ng1 h
  · show (s1.rows ++ [_]).length ≤ _
    rw [List.length_append, List.length_singleton]
    have := P.len
    omega
  · show s1.rows ++ [_] = _
    rw [ex, List.append_assoc]
  · have n := P.nm n
    have q0 := n.l0
    have q1 := n.l1
    have q2 := n.n1
    have q3 := Ih.core.nn
    refine nm_app n (xs := [⟨w, .int s1.new, lo⟩]) rfl (by show s1.line ≤ s1.line + 1; omega) (by show s1.line + 1 ≤ s1.line + 1; omega) (by show s1.new + 1 + 1 ≤ s1.new + 2; omega) fun y hy => ?_
    rw [List.mem_singleton.mp hy]
    exact io_lab q3 (by show s1.new ≤ ((2 * (s1.rows.length + 1) : Nat) : Int); omega) (lo_e elo (by omega) (by show s1.line + 1 ≤ ((2 * (s1.rows.length + 1) : Nat) : Int); omega))
def gB (s : Ls) (bs : List Hd3) (lab beh : Int) (w : Str) (lo : Option Int) : Ls :=
  let s2 := labF (putF (edgeF ⟨s.rows, s.due, bs, s.line, s.new, s.height⟩ "POP_BLOCK" .non lo) "JUMP" (.int beh) "JUMP_FORWARD") lab
  ⟨s2.rows, s2.due, s2.bl, s2.line, s2.new, s2.height + (aboveN w : Nat)⟩
structure GC (s s3 : Ls) (w : Str) (pend : List Int) (c : Nat) : Prop where
  inv : Inv s3 ((s.new + 1) :: pend) true s3.height
  bl : s3.bl = s.bl
  gro : Gro s.new (gLabs (gOf s.bl)) (Gs s) (Gs s3)
  told : (look (Gs s3).t (s.new + 1)).isSome = true
  new : s.new + 2 ≤ s3.new
  ht : s3.height = s.height + (moreN w : Nat) + (aboveN w : Nat)
  tld : Tld s3
  len : s3.rows.length ≤ s.rows.length + 2 + c + 3
  pre : ∃ xs, s3.rows = s.rows ++ xs
  has : (∃ x ∈ s3.rows, x.w ∈ SW) ∧ ∃ x ∈ s3.rows, x.w = "LABEL"
  nm : Nm s → Nm s3
theorem gc_ok {s s1 s2 : Ls} {pend : List Int} {w : Str} {lo : Option Int} {c : Nat} (hw : w ∈ SW) {p0 : List Int} {d0 : Int} (I : Inv s p0 true d0) (A : GA s s1 w pend) (P : Pt s1 s2 pend s1.height c) (T : Tld s2) (elo : lo = none ∨ lo = some (s2.line + 1)) : GC s (gB s2 s.bl s.new (s.new + 1) w lo) w pend c := by
  obtain ⟨e1, e2, e3, e4⟩ := sw_nums w hw
  have b2 : s2.bl = s.bl ++ [⟨s.new, s.height, wants w⟩] := by rw [P.bl, A.bl]
  obtain ⟨I3, G3⟩ := inv_close (lo := lo) P.inv b2 (s2.line + 1) s2.height
  have n2 := P.new
  rw [A.new] at n2
  have i0 := P.inv.core
  have gb : gLabs (gOf s1.bl) = s.new :: gLabs (gOf s.bl) := by rw [A.bl, gOf_snoc]; rfl
  have nb := A.ng
  rw [gb] at nb
  have PG := P.gro
  rw [A.new, gb] at PG
  have fr2 := PG.fr (s.new + 1) (by omega) nb A.fr
  have ut2 := PG.ut (s.new + 1) (by omega) nb A.ut
  have nb0 : s.new + 1 ∉ gLabs (gOf s.bl) := fun h => nb (List.mem_cons_of_mem _ h)
  have ns : s.new ∉ gLabs (gOf s.bl) := by
    have := i0.gn
    rw [b2, gOf_snoc] at this
    exact (List.nodup_cons.mp this).1
  -- behind the stretch
  obtain ⟨s3, es3⟩ : ∃ s3 : Ls, s3 = edgeF ⟨s2.rows, s2.due, s.bl, s2.line, s2.new, s2.height⟩ "POP_BLOCK" .non lo := ⟨_, rfl⟩
  have I3 : Inv s3 pend true s1.height := by rw [es3]; exact I3
  have G3 : Gro s2.new (gLabs (gOf s.bl)) (Gs s2) (Gs s3) := by rw [es3]; exact G3
  have b3 : s3.bl = s.bl := by rw [es3]; rfl
  have n3 : s3.new = s2.new := by rw [es3]; rfl
  have h3 : s3.height = s2.height := by rw [es3]; rfl
  have fr3 := G3.fr _ (by omega) nb0 fr2
  have ut3 := G3.ut _ (by omega) nb0 ut2
  obtain ⟨I4, G4, T4, L4⟩ := inv_jump (n := s.new + 1) (i := s3.line + 1) I3 (by omega) fr3 ut3 (by rw [b3]; exact nb0) (s3.line + 1) s3.height
  obtain ⟨s4, es4⟩ : ∃ s4 : Ls, s4 = putF s3 "JUMP" (.int (s.new + 1)) "JUMP_FORWARD" := ⟨_, rfl⟩
  have I4 : Inv s4 ((s.new + 1) :: pend) false 0 := by rw [es4]; exact I4
  have G4 : Gro s3.new ((s.new + 1) :: gLabs (gOf s3.bl)) (Gs s3) (Gs s4) := by rw [es4]; exact G4
  have T4 : Tld s4 := by rw [es4]; exact T4
  have L4 : look (Gs s4).t (s.new + 1) = some ⟨s.new + 1, s1.height, gOf s3.bl⟩ := by rw [es4]; exact L4
  have b4 : s4.bl = s.bl := by rw [es4]; exact b3
  have n4 : s4.new = s2.new := by rw [es4]; exact n3
  have h4 : s4.height = s2.height := by rw [es4]; exact h3
  -- the handler's label is told
  obtain ⟨q, eq⟩ := Option.isSome_iff_exists.mp (T _ _ (by rw [b2, gOf_snoc]))
  have q0 : q = tdOf ⟨s.new, s.height, wants w⟩ (gOf s.bl) := by
    have gk := i0.gk
    rw [b2, gOf_snoc] at gk
    rcases gk.1 with z | z
    · rw [show look (Gs s2).t s.new = _ from eq] at z; cases z
    · rw [show look (Gs s2).t s.new = _ from eq] at z
      exact Option.some.inj z
  have eq4 := G4.tm _ _ (G3.tm _ _ eq)
  rw [q0] at eq4
  obtain ⟨I5, G5, t5⟩ := inv_lab (n := s.new) (pend' := (s.new + 1) :: pend) (dd := s.height + (moreN w : Nat) + (aboveN w : Nat)) (p := tdOf ⟨s.new, s.height, wants w⟩ (gOf s.bl)) I4 (by omega) eq4 (by rw [b4]; exact ns) (fun m h => .inl h) (.inr ⟨rfl, by rw [b4]; rfl, by
    show _ = s.height + (if wants w = true then 2 else 1)
    rw [e2]
    split <;> omega⟩) s4.line (s4.height + (aboveN w : Nat))
  obtain ⟨s5, es5⟩ : ∃ s5 : Ls, s5 = ⟨s4.rows ++ [⟨"LABEL", .int s.new, none⟩], s4.due ++ [⟨"LABEL", .int s.new, none, none⟩], s4.bl, s4.line, s4.new, s4.height + (aboveN w : Nat)⟩ := ⟨_, rfl⟩
  rw [← es5] at I5
  have G5 : Gro s4.new (s.new :: gLabs (gOf s4.bl)) (Gs s4) (Gs s5) := by rw [es5]; exact G5
  have t5 : (Gs s5).t = (Gs s4).t := by rw [es5]; exact t5
  have e5 : gB s2 s.bl s.new (s.new + 1) w lo = s5 := by rw [es5, es4, es3]; rfl
  rw [e5]
  have b5 : s5.bl = s.bl := by rw [es5]; exact b4
  have n5 : s5.new = s2.new := by rw [es5]; exact n4
  have ht5 : s5.height = s.height + (moreN w : Nat) + (aboveN w : Nat) := by
    rw [es5]
    show s4.height + _ = _
    rw [h4, P.ht, A.ht]
  rw [b3] at G4
  rw [b4] at G5
  obtain ⟨x1, ex1⟩ := A.pre
  obtain ⟨x2, ex2⟩ := P.pre
  have r5 : s5.rows = s2.rows ++ [⟨"POP_BLOCK", .non, lo⟩] ++ [⟨"JUMP", .int (s.new + 1), some (s3.line + 1)⟩] ++ [⟨"LABEL", .int s.new, none⟩] := by
    rw [es5]
    show s4.rows ++ _ = _
    rw [es4]
    show s3.rows ++ _ ++ _ = _
    rw [es3]
    rfl
  refine ⟨by rw [ht5]; exact I5, b5, ?_, by rw [t5, L4]; rfl, by omega, ht5, fun hd o e => ?_, ?_, ⟨x1 ++ x2 ++ [⟨"POP_BLOCK", .non, lo⟩] ++ [⟨"JUMP", .int (s.new + 1), some (s3.line + 1)⟩] ++ [⟨"LABEL", .int s.new, none⟩], ?_⟩, ⟨?_, ?_⟩, fun n => ?_⟩
  · exact (((A.gro.trans (gro_out PG (by omega) (Int.le_refl _))).trans (G3.mono (by omega) fun _ _ z => z)).trans (gro_out G4 (by omega) (by omega))).trans (gro_out G5 (by omega) (by omega))
  · rw [t5]
    exact T4 hd o (by rw [b4]; rw [← b5]; exact e)
  · rw [r5]
    simp only [List.length_append, List.length_singleton]
    have := P.len
    have := A.len
    omega
  · rw [r5, ex2, ex1]
    simp only [List.append_assoc]
  · obtain ⟨x, hx, hw⟩ := A.has
    refine ⟨x, ?_, hw⟩
    rw [r5, ex2]
    simp [hx]
  · exact ⟨_, by rw [r5]; exact List.mem_append.mpr (.inr (List.mem_singleton.mpr rfl)), rfl⟩
  · have n := P.nm (A.nm n)
    have q0 := n.l0
    have q1 := n.l1
    have q2 := n.n1
    have q3 := I.core.nn
    have l3 : s3.line = s2.line + 1 := by rw [es3]; rfl
    have l5 : s5.line = s2.line + 1 + 1 := by rw [es5]; show s4.line = _; rw [es4]; show s3.line + 1 = _; rw [l3]
    refine nm_app n (xs := [⟨"POP_BLOCK", .non, lo⟩, ⟨"JUMP", .int (s.new + 1), some (s3.line + 1)⟩, ⟨"LABEL", .int s.new, none⟩]) (by rw [r5]; simp only [List.append_assoc]; rfl) (by omega) (by show s5.line ≤ s2.line + 3; omega) (by show s5.new ≤ s2.new + 6; omega) fun y hy => ?_
    simp only [List.mem_cons, List.not_mem_nil, or_false] at hy
    rcases hy with rfl | rfl | rfl
    · exact io_non (lo_e elo (by omega) (by show s2.line + 1 ≤ ((2 * (s2.rows.length + 3) : Nat) : Int); omega))
    · exact io_lab (by omega) (by show s.new + 1 ≤ ((2 * (s2.rows.length + 3) : Nat) : Int); omega) (lo_s (by omega) (by show s3.line + 1 ≤ ((2 * (s2.rows.length + 3) : Nat) : Int); omega))
    · exact io_lab q3 (by show s.new ≤ ((2 * (s2.rows.length + 3) : Nat) : Int); omega) lo_n
def gD (s : Ls) (beh : Int) (w : Str) : Ls :=
  let s1 := labF (popsF ⟨s.rows, s.due, s.bl, s.line, s.new, s.height - (aboveN w : Nat)⟩ (aboveN w)) beh
  popsF ⟨s1.rows, s1.due, s1.bl, s1.line, s1.new, s1.height - (moreN w : Nat)⟩ (moreN w)
theorem pops_ht (s : Ls) : ∀ k, (popsF s k).height = s.height ∧ (popsF s k).new = s.new
  | 0 => ⟨rfl, rfl⟩
  | k + 1 => pops_ht s k
theorem gd_ok {s s3 s4 : Ls} {pend p0 : List Int} {w : Str} {c : Nat} (hw : w ∈ SW) (I : Inv s p0 true s.height) (C : GC s s3 w pend c) (P : Pt s3 s4 ((s.new + 1) :: pend) s3.height c) : Pt s (gD s4 (s.new + 1) w) pend s.height (2 * c + 12) ∧ Tld (gD s4 (s.new + 1) w) ∧ ∃ xs, (gD s4 (s.new + 1) w).rows = s3.rows ++ xs := by
  obtain ⟨e1, e2, e3, e4⟩ := sw_nums w hw
  have nb : s.new + 1 ∉ gLabs (gOf s.bl) := fun h => by have := (I.core.gf _ h).2; omega
  have b4 : s4.bl = s.bl := by rw [P.bl, C.bl]
  have n34 := P.new
  have n3 := C.new
  have h4 : s4.height = s.height + (moreN w : Nat) + (aboveN w : Nat) := by rw [P.ht, C.ht]
  have P4 := P.gro
  rw [C.bl] at P4
  obtain ⟨q, eq⟩ := Option.isSome_iff_exists.mp C.told
  have eq4 := P4.tm _ _ eq
  have T4 := C.tld.pt P
  obtain ⟨x1, ex1⟩ := C.pre
  obtain ⟨x2, ex2⟩ := P.pre
  have l1 := C.len
  have l2 := P.len
  have Ia := P.inv.set s4.line (s4.height - (aboveN w : Nat))
  have g4 := C.gro.trans (P4.mono (by omega) fun _ _ z => z)
  unfold gD
  dsimp only
  obtain ⟨s5, e5⟩ : ∃ s5 : Ls, s5 = ⟨s4.rows, s4.due, s4.bl, s4.line, s4.new, s4.height - (aboveN w : Nat)⟩ := ⟨_, rfl⟩
  rw [← e5] at Ia ⊢
  have b5 : s5.bl = s.bl := by rw [e5]; exact b4
  have n5 : s5.new = s4.new := by rw [e5]
  have h5 : s5.height = s.height + (moreN w : Nat) := by rw [e5]; show s4.height - _ = _; omega
  have g5 : Gs s5 = Gs s4 := by rw [e5]
  have r5 : s5.rows = s4.rows := by rw [e5]
  have Pa := pt_pops Ia (aboveN w)
  generalize popsF s5 (aboveN w) = s6 at *
  have G6 := Pa.gro
  rw [b5, g5] at G6
  have b6 : s6.bl = s.bl := by rw [Pa.bl, b5]
  have n6 := Pa.new
  have h6 := Pa.ht
  obtain ⟨x6, ex6⟩ := Pa.pre
  have l6 := Pa.len
  have eq6 := G6.tm _ _ eq4
  have T6 : Tld s6 := fun hd o e => by
    obtain ⟨r, er⟩ := Option.isSome_iff_exists.mp (T4 hd o (by rw [b4]; rw [← b6]; exact e))
    rw [G6.tm _ _ er]
    rfl
  obtain ⟨I7, G7, t7⟩ := inv_lab (n := s.new + 1) (pend' := pend) (dd := s3.height - (aboveN w : Nat)) Pa.inv (by omega) eq6 (by rw [b6]; exact nb) (fun m h => (List.mem_cons.mp h).elim .inr .inl) (.inl ⟨rfl, rfl⟩) s6.line (s6.height - (moreN w : Nat))
  have en : (labF s6 (s.new + 1)).new = s6.new := rfl
  have eh : (labF s6 (s.new + 1)).height = s6.height := rfl
  obtain ⟨s7, e7⟩ : ∃ s7 : Ls, s7 = ⟨(labF s6 (s.new + 1)).rows, (labF s6 (s.new + 1)).due, (labF s6 (s.new + 1)).bl, (labF s6 (s.new + 1)).line, (labF s6 (s.new + 1)).new, (labF s6 (s.new + 1)).height - (moreN w : Nat)⟩ := ⟨_, rfl⟩
  have I7 : Inv s7 pend true (s3.height - (aboveN w : Nat)) := by rw [e7]; exact I7
  have G7 : Gro s6.new ((s.new + 1) :: gLabs (gOf s6.bl)) (Gs s6) (Gs s7) := by rw [e7]; exact G7
  have t7 : (Gs s7).t = (Gs s6).t := by rw [e7]; exact t7
  rw [← e7]
  rw [b6] at G7
  have b7 : s7.bl = s.bl := by rw [e7]; exact b6
  have n7 : s7.new = s6.new := by rw [e7]; rfl
  have h7 : s7.height = s.height := by rw [e7]; show s6.height - _ = _; omega
  have r7 : s7.rows = s6.rows ++ [⟨"LABEL", .int (s.new + 1), none⟩] := by rw [e7]; rfl
  have T7 : Tld s7 := fun hd o e => by
    rw [t7]
    exact T6 hd o (by rw [b6]; rw [← b7]; exact e)
  have Pb := pt_pops I7 (moreN w)
  have T8 := T7.pt Pb
  have G8 := Pb.gro
  rw [b7] at G8
  have n8 := Pb.new
  obtain ⟨x8, ex8⟩ := Pb.pre
  have l8 := Pb.len
  have I8 := Pb.inv
  rw [show s3.height - ((aboveN w : Nat) : Int) - ((moreN w : Nat) : Int) = s.height by rw [C.ht]; omega] at I8
  refine ⟨⟨I8, ?_, by rw [Pb.bl, b7], by omega, by rw [Pb.ht, h7], ?_, ⟨x1 ++ x2 ++ x6 ++ [⟨"LABEL", .int (s.new + 1), none⟩] ++ x8, ?_⟩, fun n => ?_⟩, T8, x2 ++ x6 ++ [⟨"LABEL", .int (s.new + 1), none⟩] ++ x8, ?_⟩
  · exact ((g4.trans (G6.mono (by omega) fun _ _ z => z)).trans (gro_out G7 (by omega) (by omega))).trans (G8.mono (by omega) fun _ _ z => z)
  · have l7 : s7.rows.length = s6.rows.length + 1 := by rw [r7, List.length_append]; rfl
    have l5 : s5.rows.length = s4.rows.length := by rw [r5]
    omega
  · rw [ex8, r7, ex6, r5, ex2, ex1]
    simp only [List.append_assoc]
  · have n := P.nm (C.nm n)
    have n : Nm s5 := by rw [e5]; exact ⟨n.l0, n.l1, n.n1, n.x⟩
    have n := Pa.nm n
    refine Pb.nm ?_
    have q0 := n.l0
    have q1 := n.l1
    have q2 := n.n1
    have q3 := I.core.nn
    have l7 : s7.line = s6.line := by rw [e7]; rfl
    refine nm_app n r7 (by omega) (by omega) (by omega) fun y hy => ?_
    rw [List.mem_singleton.mp hy]
    exact io_lab (by omega) (by show s.new + 1 ≤ ((2 * (s6.rows.length + 1) : Nat) : Int); omega) lo_n
  · rw [ex8, r7, ex6, r5, ex2]
    simp only [List.append_assoc]
end C31

set_option maxHeartbeats 2000000
namespace C31
open PySem PySem.Spec PyProof.Rows L2
def Bc : Nat → Nat
  | 0 => 12
  | d + 1 => 3 * (2 * Bc d + 12)
def spBody (d : Nat) : Sp := fun vs H Q _ => ∃ (a : Ad) (s : Ls) (pend : List Int), vs = [.ref a.E, .int (d : Nat)] ∧ At H a s ∧ Inv s pend true s.height ∧ s.rows.length + Bc d ≤ 12000 ∧ s.bl.length + d ≤ 10 ∧ ∀ s' H', Pt s s' pend s.height (Bc d) → Tld s' → KpA a H H' → At H' a s' → Q .non H'
def spGuard (d : Nat) : Sp := fun vs H Q _ => ∃ (a : Ad) (s : Ls) (pend : List Int), vs = [.ref a.E, .int (d : Nat)] ∧ At H a s ∧ Inv s pend true s.height ∧ s.rows.length + (2 * Bc d + 12) ≤ 12000 ∧ s.bl.length + (d + 1) ≤ 10 ∧ ∀ s' H', Pt s s' pend s.height (2 * Bc d + 12) → Tld s' → ((∃ x ∈ s'.rows, x.w ∈ SW) ∧ ∃ x ∈ s'.rows, x.w = "LABEL") → KpA a H H' → At H' a s' → Q .non H'
def pc : Nat → Nat
  | 0 => 4
  | d + 1 => 2 * Bc d + 12
theorem bc_pc (d : Nat) : Bc d = 3 * pc d := by cases d <;> rfl
theorem Pt.reh {s s' : Ls} {p : List Int} {d : Int} {c : Nat} (h : Pt s s' p d c) (x : Int) : Pt ⟨s.rows, s.due, s.bl, s.line, s.new, x⟩ ⟨s'.rows, s'.due, s'.bl, s'.line, s'.new, x⟩ p d c := ⟨h.inv.set _ _, h.gro, h.bl, h.new, rfl, h.len, h.pre, fun n => let m := h.nm ⟨n.l0, n.l1, n.n1, n.x⟩; ⟨m.l0, m.l1, m.n1, m.x⟩⟩
theorem pt_k {s s2 s4 : Ls} {pend : List Int} {c : Nat} (P1 : Pt s s2 pend (s.height + 1) 1) (P2 : Pt ⟨s2.rows, s2.due, s2.bl, s2.line, s2.new, s2.height + 1⟩ s4 pend (s2.height + 1) c) (T : Tld s4) : Pt s (popsF ⟨s4.rows, s4.due, s4.bl, s4.line, s4.new, s4.height - 1⟩ 1) pend s.height (c + 2) ∧ Tld (popsF ⟨s4.rows, s4.due, s4.bl, s4.line, s4.new, s4.height - 1⟩ 1) := by
  have h2 := P1.ht
  have h4 : s4.height = s2.height + 1 := P2.ht
  have e4 : s4.height - 1 = s.height := by omega
  rw [e4]
  have a := (P1.reh (s2.height + 1)).trans P2
  have b := a.reh s.height
  have b : Pt s ⟨s4.rows, s4.due, s4.bl, s4.line, s4.new, s.height⟩ pend (s2.height + 1) (1 + c) := b
  have q := pt_pops b.inv 1
  have r := b.trans q
  rw [show s2.height + 1 - ((1 : Nat) : Int) = s.height by omega] at r
  have T' : Tld ⟨s4.rows, s4.due, s4.bl, s4.line, s4.new, s.height⟩ := T
  exact ⟨r.mono (by omega), T'.pt q⟩
theorem At.pushB {H : Hp} {a : Ad} {s : Ls} (A : At H a s) (h : Hd3) {p : Addr} (hp : H p = none) : ∃ refs : List Addr, L2.upd H p (.tup (bl3 h)) a.Bl = some (.lst (refs.map V.ref)) ∧ (refs.map V.ref).length = s.bl.length ∧
    At (L2.upd (L2.upd H p (.tup (bl3 h))) a.Bl (.lst (refs.map V.ref ++ [.ref p]))) a ⟨s.rows, s.due, s.bl ++ [h], s.line, s.new, s.height⟩ ∧ KpA a H (L2.upd (L2.upd H p (.tup (bl3 h))) a.Bl (.lst (refs.map V.ref ++ [.ref p]))) := by
  have s1 : Same H (L2.upd H p (.tup (bl3 h))) := Same.new' (Same.refl _) hp
  have ep : L2.upd H p (.tup (bl3 h)) p = some (.tup (bl3 h)) := upd_same
  obtain ⟨A1, K1⟩ := A.same s1
  generalize L2.upd H p (.tup (bl3 h)) = H1 at *
  obtain ⟨refs, eR, q⟩ := A1.b
  have tp : Tups H1 (L2.upd H1 a.Bl (.lst (refs.map V.ref ++ [.ref p]))) := fun b ys z => by rw [upd_ne (fun w => by rw [w, eR] at z; cases z)]; exact z
  obtain ⟨A2, K2⟩ := A1.setB (bl := s.bl ++ [h]) (zs := refs.map V.ref ++ [.ref p]) ⟨refs ++ [p], by rw [upd_same, List.map_append]; rfl, Paired.snoc' (Paired.map' q fun b x z => tp _ _ z) (tp _ _ ep)⟩
  exact ⟨refs, eR, by rw [List.length_map, Paired.length q], A2, K1.trans K2⟩
theorem At.popB {H : Hp} {a : Ad} {s : Ls} {bs : List Hd3} {h : Hd3} (A : At H a s) (e : s.bl = bs ++ [h]) : ∃ (ys : List V) (y : V), H a.Bl = some (.lst ys) ∧ ys[ys.length - 1]? = some y ∧ At (L2.upd H a.Bl (.lst ys.dropLast)) a ⟨s.rows, s.due, bs, s.line, s.new, s.height⟩ ∧ KpA a H (L2.upd H a.Bl (.lst ys.dropLast)) := by
  obtain ⟨refs, eR, q⟩ := A.b
  rw [e] at q
  obtain ⟨rs, r, rfl, hr, q2⟩ := paired_snoc q
  rw [List.map_append] at eR
  have tp : Tups H (L2.upd H a.Bl (.lst (rs.map V.ref))) := fun b ys z => by rw [upd_ne (fun w => by rw [w, eR] at z; cases z)]; exact z
  have A2 := A.setB (bl := bs) (zs := rs.map V.ref) ⟨rs, upd_same, Paired.map' q2 fun b x z => tp _ _ z⟩
  refine ⟨_, .ref r, eR, by simp, ?_⟩
  rw [show (rs.map V.ref ++ [r].map V.ref).dropLast = rs.map V.ref by simp]
  exact A2
theorem r_pop {x : V} {vs : List V} {H : Hp} {Q : VK} : rPop x vs H Q = ∃ l xs y, x = .ref l ∧ vs = [] ∧ H l = some (.lst xs) ∧ xs[xs.length - 1]? = some y ∧ Q y (L2.upd H l (.lst xs.dropLast)) := rfl
section
variable {P : Program} {w : World} {K : PySem.W.Frag} {mg : Str → Option Value} {base : Heap} {f : Addr} {fd : FuncData}
abbrev svg : Stmt := top 97
theorem scvg : FnScope ["_law_env", "_law_deep", "_law_word", "_law_more", "_law_k", "_law_label_here", "_law_behind", "_law_is_wanted", "_law_above"] ["_law_env", "_law_deep"] (defScope svg) := ⟨rfl, rfl, rfl, by decide +kernel, rfl, by decide +kernel, by decide +kernel⟩

abbrev svy : Stmt := top 99
theorem scvy : FnScope ["_law_env", "_law_deep", "_law_k", "_law_kind"] ["_law_env", "_law_deep"] (defScope svy) := ⟨rfl, rfl, rfl, by decide +kernel, rfl, by decide +kernel, by decide +kernel⟩

theorem ok_vg {d k : Nat} (h4 : 4 ≤ k) (T : Txt mg) (F : FnP K "_law_guarded" "_law_guarded" svg f fd) (C_one : Cal P w K mg base 2 "_law_one" ["_law_source", "_law_some"] spOne) (C_put : Cal P w K mg base 2 "_law_put" ["_law_env", "_law_word", "_law_argument", "_law_due"] spPut) (C_new : Cal P w K mg base 1 "_law_new" ["_law_env"] spNew) (C_edge : Cal P w K mg base 2 "_law_edge" ["_law_env", "_law_word", "_law_argument"] spEdge) (C_body : Cal P w K mg base k "_law_body" ["_law_env", "_law_deep"] (spBody d)) (C_label : Cal P w K mg base 1 "_law_label" ["_law_env", "_law_label_here"] spLab) (C_pops : Cal P w K mg base 3 "_law_pops" ["_law_env", "_law_many"] spPops) : FnOk P w K mg base CX0 (k + 1) f fd ["_law_env", "_law_deep"] (spGuard d) := by
  refine F.ok scvg (fun vs H Q E h => ?_) (fun cdv A outer s H vs Q E hr h => ?_)
  · obtain ⟨a, s, pend, rfl, _⟩ := h
    rfl
  · have hu1 := hu_of hr
    obtain ⟨a, s, pend, rfl, A, I, lr, lb, k⟩ := h
    refine ⟨_, PSs.nox (pss_cons (ps_set (i := 2) scvg.nd rfl (Or.inl rfl) (pe_cal C_one (hr.mono (by omega)) rfl (pa_cons (pe_dget hu1 (pv 0) pe_str (fun _ _ => rfl)) (pa_cons (pe_lst (pa_cons pe_str (pa_cons pe_str (pa_cons pe_str pa_nil)))) pa_nil))))
  (pss_cons (ps_set (i := 3) scvg.nd rfl (Or.inl rfl) (pe_callTy call_int1 (by rfl) T.b_int (by decide +kernel) (pa_cons (pe_cmpR op_eq (pv 2) pe_str (nomark _)) pa_nil)))
  (pss_cons (ps_for PassesOwn.never rfl (pi_range1 rfl T.b_range (pa_cons (pv 3) pa_nil)) (pg_name (i := 4) scvg.nd rfl (Or.inl rfl))
    (pss_one (ps_expr (pe_cal C_put (hr.mono (by omega)) rfl (pa_cons (pv 0) (pa_cons pe_str (pa_cons pe_str (pa_cons pe_str pa_nil))))))))
  (pss_cons (ps_dput hu1 (pv 0) pe_str (pe_op op_add (pe_dget hu1 (pv 0) pe_str (fun _ _ => rfl)) (pv 3)) rfl)
  (pss_cons (ps_par (i := 5) (j := 6) (by rfl) scvg.nd rfl rfl (by decide) rfl rfl (pa_cons (pe_cal C_new (hr.mono (by omega)) rfl (pa_cons (pv 0) pa_nil)) (pa_cons (pe_cal C_new (hr.mono (by omega)) rfl (pa_cons (pv 0) pa_nil)) pa_nil)) (by rfl))
  (pss_cons (ps_expr (pe_cal C_edge (hr.mono (by omega)) rfl (pa_cons (pv 0) (pa_cons (pv 2) (pa_cons (pv 5) pa_nil)))))
  (pss_cons (ps_set (i := 7) scvg.nd rfl (Or.inl rfl) (pe_cmpR op_ne (pv 2) pe_str (nomark _)))
  (pss_cons (ps_expr (pe_bm PySem.F.plainAttrs_list PySem.F.slot_list_append PySem.F.type_list_append mt_append (pe_dget hu1 (pv 0) pe_str (fun _ _ => rfl)) (pa_cons (pe_tup (pa_cons (pv 5) (pa_cons (pe_op op_sub (pe_dget hu1 (pv 0) pe_str (fun _ _ => rfl)) (pv 3)) (pa_cons (pv 7) pa_nil)))) pa_nil)))
  (pss_cons (ps_expr (pe_cal C_body hr rfl (pa_cons (pv 0) (pa_cons (pv 1) pa_nil))))
  (pss_cons (ps_expr (pe_bm0 PySem.F.plainAttrs_list PySem.F.slot_list_pop PySem.F.type_list_pop mt_pop (pe_dget hu1 (pv 0) pe_str (fun _ _ => rfl))))
  (pss_cons (ps_expr (pe_cal C_edge (hr.mono (by omega)) rfl (pa_cons (pv 0) (pa_cons pe_str (pa_cons pe_non pa_nil)))))
  (pss_cons (ps_expr (pe_cal C_put (hr.mono (by omega)) rfl (pa_cons (pv 0) (pa_cons pe_str (pa_cons (pv 6) (pa_cons pe_str pa_nil))))))
  (pss_cons (ps_expr (pe_cal C_label (hr.mono (by omega)) rfl (pa_cons (pv 0) (pa_cons (pv 5) pa_nil))))
  (pss_cons (ps_set (i := 8) scvg.nd rfl (Or.inl rfl) (pe_op op_sub (pe_op op_add pe_int (pe_callTy call_int1 (by rfl) T.b_int (by decide +kernel) (pa_cons (pv 7) pa_nil))) (pv 3)))
  (pss_cons (ps_dput hu1 (pv 0) pe_str (pe_op op_add (pe_dget hu1 (pv 0) pe_str (fun _ _ => rfl)) (pv 8)) rfl)
  (pss_cons (ps_expr (pe_cal C_body hr rfl (pa_cons (pv 0) (pa_cons (pv 1) pa_nil))))
  (pss_cons (ps_dput hu1 (pv 0) pe_str (pe_op op_sub (pe_dget hu1 (pv 0) pe_str (fun _ _ => rfl)) (pv 8)) rfl)
  (pss_cons (ps_expr (pe_cal C_pops (hr.mono (by omega)) rfl (pa_cons (pv 0) (pa_cons (pv 8) pa_nil))))
  (pss_cons (ps_expr (pe_cal C_label (hr.mono (by omega)) rfl (pa_cons (pv 0) (pa_cons (pv 6) pa_nil))))
  (pss_cons (ps_dput hu1 (pv 0) pe_str (pe_op op_sub (pe_dget hu1 (pv 0) pe_str (fun _ _ => rfl)) (pv 3)) rfl)
  (pss_one (ps_expr (pe_cal C_pops (hr.mono (by omega)) rfl (pa_cons (pv 0) (pa_cons (pv 3) pa_nil))))))))))))))))))))))))), ?_⟩
    show (_ : TS) _ [some (.ref a.E), some (.int (d : Nat)), none, none, none, none, none, none, none] H
    simp only [r_seq, r_next, r_brk, r_cont, r_asg, r_name, r_ret, r_retN, r_drop, r_ifs, r_never, r_var, r_c, r_op, r_un, r_if, r_tst, r_b, r_not, r_and, r_or, r_andV, r_orV, r_notV, r_nil, r_cons, r_tup, r_lst, r_cb, r_call, r_bm, r_bm0, r_sl, r_nopart, r_part, r_rev, r_gnil, r_gcons, r_gsub, r_par, r_aug, r_chain, r_I0, r_I, r_U, r_ixd, r_lend, r_tupd, r_listd, r_sld, r_app, r_ext, r_reverse, r_setl, r_cat, r_int1, r_eqS, r_neS, scal_ii, scal_bb, scal_ss, at0, at1, at2, sq_lst, sq_tup, isLst_lst, List.getElem?_cons_zero, List.getElem?_cons_succ, List.set_cons_zero, List.set_cons_succ, V.int.injEq, V.bl.injEq, V.ref.injEq, V.str.injEq, HO.lst.injEq, HO.tup.injEq, Option.some.injEq, exists_eq_left', exists_eq_left, List.cons.injEq, and_true, true_and, decide_eq_true_eq, reduceCtorEq, false_and, exists_false, or_false, false_or, exists_const, and_assoc, exists_and_left, List.append_nil, ix0, ix1, ix2, cm_mod, cdw1009, cdw2003, cdw7, cdw64, cdw2, cm104729, cm2, cm3, upd_same, List.length_cons, List.length_nil, Int.reduceLT, Int.reduceLE, Nat.reduceAdd, Nat.reduceLeDiff, Nat.reduceLT, Int.reduceToNat, r_for1, r_forL, r_forT, r_lcL, r_lc1, r_yes, r_gtupD, wipe_0, wipe_1, List.cons_append, List.nil_append, r_forS, r_ipI, ite_false, ite_true, Bool.not_true, Bool.not_false, decide_true, decide_false, r_isd, r_islt, cD_ty, cD_ref, tD_non, tD_bl, tD_int, tD_str, tD_ref, tH_lst, tH_tup, tH_dK, tH_ins, ki_self, ki_int_bool, ki_non_int, ki_str_int, ki_lt_lst, ki_lt_tup, r_fld, r_sfld, HO.ins.injEq, cx_K, r_dget, r_sput]
    refine ⟨_, A.get_source, szl (by decide), fun p hp => ?_⟩
    have s1 := Same.new' (o := .lst [.str "SETUP_FINALLY", .str "SETUP_CLEANUP", .str "SETUP_WITH"]) (Same.refl H) hp
    have ep : L2.upd H p (.lst [.str "SETUP_FINALLY", .str "SETUP_CLEANUP", .str "SETUP_WITH"]) p = some (.lst [.str "SETUP_FINALLY", .str "SETUP_CLEANUP", .str "SETUP_WITH"]) := upd_same
    obtain ⟨A1, K1⟩ := A.same s1
    refine ⟨a.S, p, _, rfl, A1.src0, A.src0.ne hp, ep, (by simp), (by decide), fun v H2 hv k2 q2 => ?_⟩
    obtain ⟨A2, K2⟩ := A1.src k2 q2
    obtain ⟨z, hz, rfl⟩ : ∃ z : Str, z ∈ SW ∧ v = .str z := by
      simp only [List.mem_cons, List.not_mem_nil, or_false] at hv
      rcases hv with rfl | rfl | rfl <;> exact ⟨_, by decide, rfl⟩
    have K02 := K1.trans K2
    clear K1 K2 A1 s1 ep k2 q2 hv
    have e3 := (sw_nums z hz)
    have em : (if V.str z = V.str (Str.ofString "SETUP_WITH") then (1 : Int) else 0) = (moreN z : Nat) := by
      unfold moreN
      by_cases c : z = "SETUP_WITH"
      · rw [if_pos (by rw [c]), if_pos c]; rfl
      · rw [if_neg (fun e => c (V.str.inj e)), if_neg c]; rfl
    rw [em]
    obtain ⟨m1, m2, m3, m4⟩ := e3
    refine ⟨rfl, by omega, by omega, ?_⟩
    rw [show ((moreN z : Nat) : Int).toNat = moreN z by omega]
    refine lp_rng (fun i σ H' => (∃ v4, σ = [some (.ref a.E), some (.int (d : Nat)), some (.str z), some (.int (moreN z : Nat)), v4, none, none, none, none]) ∧ KpA a H H' ∧ At H' a (mF s i)) ⟨⟨_, rfl⟩, K02, A2⟩ ?_ ?_
    · rintro i σ H3 hi ⟨⟨v4, rfl⟩, K3, A3⟩
      have P3 := pt_m I i
      have l3 := P3.len
      have d3 := P3.inv.due_len
      simp only [r_seq, r_next, r_brk, r_cont, r_asg, r_name, r_ret, r_retN, r_drop, r_ifs, r_never, r_var, r_c, r_op, r_un, r_if, r_tst, r_b, r_not, r_and, r_or, r_andV, r_orV, r_notV, r_nil, r_cons, r_tup, r_lst, r_cb, r_call, r_bm, r_bm0, r_sl, r_nopart, r_part, r_rev, r_gnil, r_gcons, r_gsub, r_par, r_aug, r_chain, r_I0, r_I, r_U, r_ixd, r_lend, r_tupd, r_listd, r_sld, r_app, r_ext, r_reverse, r_setl, r_cat, r_int1, r_eqS, r_neS, scal_ii, scal_bb, scal_ss, at0, at1, at2, sq_lst, sq_tup, isLst_lst, List.getElem?_cons_zero, List.getElem?_cons_succ, List.set_cons_zero, List.set_cons_succ, V.int.injEq, V.bl.injEq, V.ref.injEq, V.str.injEq, HO.lst.injEq, HO.tup.injEq, Option.some.injEq, exists_eq_left', exists_eq_left, List.cons.injEq, and_true, true_and, decide_eq_true_eq, reduceCtorEq, false_and, exists_false, or_false, false_or, exists_const, and_assoc, exists_and_left, List.append_nil, ix0, ix1, ix2, cm_mod, cdw1009, cdw2003, cdw7, cdw64, cdw2, cm104729, cm2, cm3, upd_same, List.length_cons, List.length_nil, Int.reduceLT, Int.reduceLE, Nat.reduceAdd, Nat.reduceLeDiff, Nat.reduceLT, Int.reduceToNat, r_for1, r_forL, r_forT, r_lcL, r_lc1, r_yes, r_gtupD, wipe_0, wipe_1, List.cons_append, List.nil_append, r_forS, r_ipI, ite_false, ite_true, Bool.not_true, Bool.not_false, decide_true, decide_false, r_isd, r_islt, cD_ty, cD_ref, tD_non, tD_bl, tD_int, tD_str, tD_ref, tH_lst, tH_tup, tH_dK, tH_ins, ki_self, ki_int_bool, ki_non_int, ki_str_int, ki_lt_lst, ki_lt_tup, r_fld, r_sfld, HO.ins.injEq, cx_K]
      exact ⟨a, mF s i, _, _, _, rfl, A3, ⟨by omega, by omega, by rw [P3.bl]; omega⟩, fun H4 K4 A4 => ⟨⟨_, rfl⟩, K3.trans K4, A4⟩⟩
    · rintro σ H3 ⟨⟨v4, rfl⟩, K3, A3⟩
      obtain ⟨n1, n2, n3⟩ := mF_new s (moreN z)
      have P3 := pt_m I (moreN z)
      have l3 := P3.len
      have d3 := P3.inv.due_len
      have ew : (!decide (z = Str.ofString "SETUP_FINALLY")) = wants z := by unfold wants; simp
      simp only [r_seq, r_next, r_brk, r_cont, r_asg, r_name, r_ret, r_retN, r_drop, r_ifs, r_never, r_var, r_c, r_op, r_un, r_if, r_tst, r_b, r_not, r_and, r_or, r_andV, r_orV, r_notV, r_nil, r_cons, r_tup, r_lst, r_cb, r_call, r_bm, r_bm0, r_sl, r_nopart, r_part, r_rev, r_gnil, r_gcons, r_gsub, r_par, r_aug, r_chain, r_I0, r_I, r_U, r_ixd, r_lend, r_tupd, r_listd, r_sld, r_app, r_ext, r_reverse, r_setl, r_cat, r_int1, r_eqS, r_neS, scal_ii, scal_bb, scal_ss, at0, at1, at2, sq_lst, sq_tup, isLst_lst, List.getElem?_cons_zero, List.getElem?_cons_succ, List.set_cons_zero, List.set_cons_succ, V.int.injEq, V.bl.injEq, V.ref.injEq, V.str.injEq, HO.lst.injEq, HO.tup.injEq, Option.some.injEq, exists_eq_left', exists_eq_left, List.cons.injEq, and_true, true_and, decide_eq_true_eq, reduceCtorEq, false_and, exists_false, or_false, false_or, exists_const, and_assoc, exists_and_left, List.append_nil, ix0, ix1, ix2, cm_mod, cdw1009, cdw2003, cdw7, cdw64, cdw2, cm104729, cm2, cm3, upd_same, List.length_cons, List.length_nil, Int.reduceLT, Int.reduceLE, Nat.reduceAdd, Nat.reduceLeDiff, Nat.reduceLT, Int.reduceToNat, r_for1, r_forL, r_forT, r_lcL, r_lc1, r_yes, r_gtupD, wipe_0, wipe_1, List.cons_append, List.nil_append, r_forS, r_ipI, ite_false, ite_true, Bool.not_true, Bool.not_false, decide_true, decide_false, r_isd, r_islt, cD_ty, cD_ref, tD_non, tD_bl, tD_int, tD_str, tD_ref, tH_lst, tH_tup, tH_dK, tH_ins, ki_self, ki_int_bool, ki_non_int, ki_str_int, ki_lt_lst, ki_lt_tup, r_fld, r_sfld, HO.ins.injEq, cx_K, r_dget, r_sput, r_pop]
      rw [ew]
      have A3 : At H3 a (mF s (moreN z)) := A3
      obtain ⟨H4, D4, A4, K4⟩ := A3.set_height ((mF s (moreN z)).height + (moreN z : Nat))
      refine ⟨_, A3.get_height, _, rfl, H4, D4, A4.new fun H5 K5 A5 => A5.new fun H6 K6 A6 => ?_⟩
      refine ⟨a, _, _, _, rfl, A6, ⟨by show (mF s (moreN z)).rows.length ≤ _; omega, by show (mF s (moreN z)).due.length ≤ _; omega, by show (mF s (moreN z)).bl.length ≤ _; rw [n3]; omega⟩, fun lo H7 elo K7 A7 => ?_⟩
      have G1 : GA s (gA s z lo) z pend := ga_ok I hz elo
      dsimp only
      refine ⟨_, A7.get_blocks, A7.tyB, _, A7.get_height, _, rfl, szl (by decide), fun p7 hp7 => ?_⟩
      obtain ⟨refs, eB, lB, A8, K8⟩ := A7.pushB ⟨(mF s (moreN z)).new, (mF s (moreN z)).height + (moreN z : Nat) - (moreN z : Nat), wants z⟩ hp7
      have A8 : At _ a (gA s z lo) := A8
      refine ⟨_, rfl, _, eB, by rw [lB]; exact Nat.lt_of_le_of_lt (by show (mF s (moreN z)).bl.length ≤ 100; rw [n3]; omega) (by decide), ?_⟩
      have l8 := G1.len
      have b8 := G1.bl
      have K08 := (((((K3.trans K4).trans K5).trans K6).trans K7).trans K8)
      generalize gA s z lo = s8 at *
      refine ⟨a, s8, pend, rfl, A8, G1.inv, by omega, by rw [b8, List.length_append, List.length_singleton]; omega, fun s9 H9 P9 T9 K9 A9 => ?_⟩
      have l9 := P9.len
      have b9 := P9.bl
      have d9 := P9.inv.due_len
      obtain ⟨ys, y, eB9, ey, A10, K10⟩ := A9.popB (b9.trans b8)
      refine ⟨_, A9.get_blocks, A9.tyB, _, rfl, ys, eB9, y, ey, ?_⟩
      dsimp only [newF]
      rw [n1]
      refine ⟨a, _, _, _, rfl, A10, ⟨by show s9.rows.length ≤ _; omega, by show s9.due.length ≤ _; omega, by show s.bl.length ≤ _; omega⟩, fun lo2 H11 elo2 K11 A11 => ?_⟩
      have r11 : (edgeF ⟨s9.rows, s9.due, s.bl, s9.line, s9.new, s9.height⟩ "POP_BLOCK" .non lo2).rows.length = s9.rows.length + 1 := by simp [edgeF]
      have d11 : (edgeF ⟨s9.rows, s9.due, s.bl, s9.line, s9.new, s9.height⟩ "POP_BLOCK" .non lo2).due.length ≤ s9.due.length + 1 := by
        show (s9.due ++ nopD lo2 _).length ≤ _
        rw [List.length_append]
        cases lo2 <;> simp [nopD]
      refine ⟨a, _, _, _, _, rfl, A11, ⟨by omega, by omega, by show s.bl.length ≤ _; omega⟩, fun H12 K12 A12 => ?_⟩
      refine ⟨a, _, _, rfl, A12, ⟨by show (_ ++ [_]).length ≤ _; rw [List.length_append, List.length_singleton]; omega, by show (_ ++ [_]).length ≤ _; rw [List.length_append, List.length_singleton]; omega, by show s.bl.length ≤ _; omega⟩, fun H13 K13 A13 => ?_⟩
      refine ⟨_, A13.get_height, _, rfl, ?_⟩
      have ea : (1 + if wants z = true then (1 : Int) else 0) - (moreN z : Nat) = (aboveN z : Nat) := by rw [m2]
      rw [ea]
      obtain ⟨H14, D14, A14, K14⟩ := A13.set_height (s9.height + (aboveN z : Nat))
      refine ⟨H14, D14, ?_⟩
      have A14 : At H14 a (gB s9 s.bl s.new (s.new + 1) z lo2) := A14
      have C1 := gc_ok (lo := lo2) hz I G1 P9 T9 elo2
      have K014 := (((((K08.trans K9).trans K10).trans K11).trans K12).trans K13).trans K14
      have l14 := C1.len
      have b14 := C1.bl
      generalize gB s9 s.bl s.new (s.new + 1) z lo2 = s14 at *
      refine ⟨a, s14, _, rfl, A14, C1.inv, by omega, by rw [b14]; omega, fun s15 H15 P15 T15 K15 A15 => ?_⟩
      obtain ⟨PD, TD, xD, eD⟩ := gd_ok hz I C1 P15
      have l15 := P15.len
      have b15 := P15.bl
      have d15 := P15.inv.due_len
      refine ⟨_, A15.get_height, _, rfl, ?_⟩
      obtain ⟨H16, D16, A16, K16⟩ := A15.set_height (s15.height - (aboveN z : Nat))
      refine ⟨H16, D16, a, _, aboveN z, rfl, A16, by show s15.rows.length ≤ _; omega, by show s15.due.length ≤ _; omega, by show s15.bl.length ≤ _; rw [b15, b14]; omega, by omega, fun H17 K17 A17 => ?_⟩
      obtain ⟨q1, q2, q3⟩ := pops_len ⟨s15.rows, s15.due, s15.bl, s15.line, s15.new, s15.height - (aboveN z : Nat)⟩ (aboveN z)
      have q1 : _ = s15.rows.length + aboveN z := q1
      have q2 : _ = s15.due.length + aboveN z := q2
      have q3 : _ = s15.bl := q3
      refine ⟨a, _, _, rfl, A17, ⟨by omega, by omega, by rw [q3, b15, b14]; omega⟩, fun H18 K18 A18 => ?_⟩
      refine ⟨_, A18.get_height, _, rfl, ?_⟩
      obtain ⟨H19, D19, A19, K19⟩ := A18.set_height ((labF (popsF ⟨s15.rows, s15.due, s15.bl, s15.line, s15.new, s15.height - (aboveN z : Nat)⟩ (aboveN z)) (s.new + 1)).height - (moreN z : Nat))
      refine ⟨H19, D19, a, _, moreN z, rfl, A19, by show (_ ++ [_]).length ≤ _; rw [List.length_append, List.length_singleton]; omega, by show (_ ++ [_]).length ≤ _; rw [List.length_append, List.length_singleton]; omega, by show List.length (popsF _ _).bl ≤ _; rw [q3, b15, b14]; omega, by omega, fun H20 K20 A20 => ?_⟩
      have A20 : At H20 a (gD s15 (s.new + 1) z) := A20
      obtain ⟨⟨x1, hx1, w1⟩, x2, hx2, w2⟩ := C1.has
      refine k _ H20 PD TD ⟨⟨x1, by rw [eD]; exact List.mem_append.mpr (.inl hx1), w1⟩, x2, by rw [eD]; exact List.mem_append.mpr (.inl hx2), w2⟩ ?_ A20
      exact (((((K014.trans K15).trans K16).trans K17).trans K18).trans K19).trans K20
theorem ok_vy {d k : Nat} {spB spG : Sp} (h4 : 4 ≤ k) (T : Txt mg) (F : FnP K "_law_body" "_law_body" svy f fd) (C_next : Cal P w K mg base 1 "_law_next" ["_law_source", "_law_many"] spNext) (C_put : Cal P w K mg base 2 "_law_put" ["_law_env", "_law_word", "_law_argument", "_law_due"] spPut) (C_plain : Cal P w K mg base 4 "_law_plain" ["_law_env"] spPlain) (C_dead : Cal P w K mg base 3 "_law_dead" ["_law_env"] spDead) (C_body : Cal P w K mg base k "_law_body" ["_law_env", "_law_deep"] spB) (C_guarded : Cal P w K mg base k "_law_guarded" ["_law_env", "_law_deep"] spG) (C_pops : Cal P w K mg base 3 "_law_pops" ["_law_env", "_law_many"] spPops)
    (hB : 0 < d → ∀ vs H Q, spBody (d - 1) vs H Q E0 → spB vs H Q E0) (hG : 0 < d → ∀ vs H Q, spGuard (d - 1) vs H Q E0 → spG vs H Q E0) : FnOk P w K mg base CX0 (k + 1) f fd ["_law_env", "_law_deep"] (spBody d) := by
  refine F.ok scvy (fun vs H Q E h => ?_) (fun cdv A outer s H vs Q E hr h => ?_)
  · obtain ⟨a, s, pend, rfl, _⟩ := h
    rfl
  · have hu1 := hu_of hr
    obtain ⟨a, s, pend, rfl, A, I, lr, lb, k⟩ := h
    refine ⟨_, PSs.nox (pss_one (ps_for PassesOwn.never rfl (pi_range1 rfl T.b_range (pa_cons (pe_op op_add pe_int (pe_cal C_next (hr.mono (by omega)) rfl (pa_cons (pe_dget hu1 (pv 0) pe_str (fun _ _ => rfl)) (pa_cons pe_int pa_nil)))) pa_nil)) (pg_name (i := 2) scvy.nd rfl (Or.inl rfl))
    (pss_cons (ps_set (i := 3) scvy.nd rfl (Or.inl rfl) (pe_cal C_next (hr.mono (by omega)) rfl (pa_cons (pe_dget hu1 (pv 0) pe_str (fun _ _ => rfl)) (pa_cons pe_int pa_nil))))
  (pss_one (ps_if (PW.pt (pw_or (pt_cmpR op_eq (pv 1) pe_int (nomark _)) (pw_or1 (pt_cmpR op_lt (pv 3) pe_int (nomark _)))))
    (pss_one (ps_expr (pe_cal C_plain (hr.mono (by omega)) rfl (pa_cons (pv 0) pa_nil))))
    (pss_one (ps_if (pt_cmpR op_eq (pv 3) pe_int (nomark _))
    (pss_cons (ps_expr (pe_cal C_put (hr.mono (by omega)) rfl (pa_cons (pv 0) (pa_cons pe_str (pa_cons pe_str (pa_cons pe_str pa_nil))))))
  (pss_cons (ps_dput hu1 (pv 0) pe_str (pe_op op_add (pe_dget hu1 (pv 0) pe_str (fun _ _ => rfl)) pe_int) rfl)
  (pss_cons (ps_expr (pe_cal C_body hr rfl (pa_cons (pv 0) (pa_cons (pe_op op_sub (pv 1) pe_int) pa_nil))))
  (pss_cons (ps_dput hu1 (pv 0) pe_str (pe_op op_sub (pe_dget hu1 (pv 0) pe_str (fun _ _ => rfl)) pe_int) rfl)
  (pss_one (ps_expr (pe_cal C_pops (hr.mono (by omega)) rfl (pa_cons (pv 0) (pa_cons pe_int pa_nil)))))))))
    (pss_one (ps_if (pt_cmpR op_eq (pv 3) pe_int (nomark _))
    (pss_one (ps_expr (pe_cal C_guarded hr rfl (pa_cons (pv 0) (pa_cons (pe_op op_sub (pv 1) pe_int) pa_nil)))))
    (pss_one (ps_expr (pe_cal C_dead (hr.mono (by omega)) rfl (pa_cons (pv 0) pa_nil))))))))))))), ?_⟩
    show (_ : TS) _ [some (.ref a.E), some (.int (d : Nat)), none, none] H
    simp only [r_seq, r_next, r_brk, r_cont, r_asg, r_name, r_ret, r_retN, r_drop, r_ifs, r_never, r_var, r_c, r_op, r_un, r_if, r_tst, r_b, r_not, r_and, r_or, r_andV, r_orV, r_notV, r_nil, r_cons, r_tup, r_lst, r_cb, r_call, r_bm, r_bm0, r_sl, r_nopart, r_part, r_rev, r_gnil, r_gcons, r_gsub, r_par, r_aug, r_chain, r_I0, r_I, r_U, r_ixd, r_lend, r_tupd, r_listd, r_sld, r_app, r_ext, r_reverse, r_setl, r_cat, r_int1, r_eqS, r_neS, scal_ii, scal_bb, scal_ss, at0, at1, at2, sq_lst, sq_tup, isLst_lst, List.getElem?_cons_zero, List.getElem?_cons_succ, List.set_cons_zero, List.set_cons_succ, V.int.injEq, V.bl.injEq, V.ref.injEq, V.str.injEq, HO.lst.injEq, HO.tup.injEq, Option.some.injEq, exists_eq_left', exists_eq_left, List.cons.injEq, and_true, true_and, decide_eq_true_eq, reduceCtorEq, false_and, exists_false, or_false, false_or, exists_const, and_assoc, exists_and_left, List.append_nil, ix0, ix1, ix2, cm_mod, cdw1009, cdw2003, cdw7, cdw64, cdw2, cm104729, cm2, cm3, upd_same, List.length_cons, List.length_nil, Int.reduceLT, Int.reduceLE, Nat.reduceAdd, Nat.reduceLeDiff, Nat.reduceLT, Int.reduceToNat, r_for1, r_forL, r_forT, r_lcL, r_lc1, r_yes, r_gtupD, wipe_0, wipe_1, List.cons_append, List.nil_append, r_forS, r_ipI, ite_false, ite_true, Bool.not_true, Bool.not_false, decide_true, decide_false, r_isd, r_islt, cD_ty, cD_ref, tD_non, tD_bl, tD_int, tD_str, tD_ref, tH_lst, tH_tup, tH_dK, tH_ins, ki_self, ki_int_bool, ki_non_int, ki_str_int, ki_lt_lst, ki_lt_tup, r_fld, r_sfld, HO.ins.injEq, cx_K, r_dget, r_sput]
    refine ⟨_, A.get_source, A.next (by decide) (by decide) fun r H1 r0 r1 K1 A1 => ?_⟩
    refine ⟨r, rfl, by omega, by omega, ?_⟩
    obtain ⟨n, en, hn⟩ : ∃ n : Nat, (1 + r).toNat = n ∧ n ≤ 3 ∧ 1 ≤ n := ⟨_, rfl, by omega, by omega⟩
    rw [en]
    have bp := bc_pc d
    refine lp_rng (fun i σ H' => (∃ v2 v3, σ = [some (.ref a.E), some (.int (d : Nat)), v2, v3]) ∧ KpA a H H' ∧ ∃ s1, At H' a s1 ∧ Pt s s1 pend s.height (i * pc d) ∧ (0 < i → Tld s1)) ⟨⟨_, _, rfl⟩, K1, s, A1, .refl I, fun h => absurd h (by decide)⟩ ?_ ?_
    · rintro i σ H2 hi ⟨⟨v2, v3, rfl⟩, K2, s1, A2, P1, T1⟩
      have hi3 : i * pc d ≤ 2 * pc d := Nat.mul_le_mul_right _ (by omega)
      have l1 := P1.len
      have b1 := P1.bl
      have I1 := P1.inv
      have h1 := P1.ht
      have d1 := I1.due_len
      simp only [r_seq, r_next, r_brk, r_cont, r_asg, r_name, r_ret, r_retN, r_drop, r_ifs, r_never, r_var, r_c, r_op, r_un, r_if, r_tst, r_b, r_not, r_and, r_or, r_andV, r_orV, r_notV, r_nil, r_cons, r_tup, r_lst, r_cb, r_call, r_bm, r_bm0, r_sl, r_nopart, r_part, r_rev, r_gnil, r_gcons, r_gsub, r_par, r_aug, r_chain, r_I0, r_I, r_U, r_ixd, r_lend, r_tupd, r_listd, r_sld, r_app, r_ext, r_reverse, r_setl, r_cat, r_int1, r_eqS, r_neS, scal_ii, scal_bb, scal_ss, at0, at1, at2, sq_lst, sq_tup, isLst_lst, List.getElem?_cons_zero, List.getElem?_cons_succ, List.set_cons_zero, List.set_cons_succ, V.int.injEq, V.bl.injEq, V.ref.injEq, V.str.injEq, HO.lst.injEq, HO.tup.injEq, Option.some.injEq, exists_eq_left', exists_eq_left, List.cons.injEq, and_true, true_and, decide_eq_true_eq, reduceCtorEq, false_and, exists_false, or_false, false_or, exists_const, and_assoc, exists_and_left, List.append_nil, ix0, ix1, ix2, cm_mod, cdw1009, cdw2003, cdw7, cdw64, cdw2, cm104729, cm2, cm3, upd_same, List.length_cons, List.length_nil, Int.reduceLT, Int.reduceLE, Nat.reduceAdd, Nat.reduceLeDiff, Nat.reduceLT, Int.reduceToNat, r_for1, r_forL, r_forT, r_lcL, r_lc1, r_yes, r_gtupD, wipe_0, wipe_1, List.cons_append, List.nil_append, r_forS, r_ipI, ite_false, ite_true, Bool.not_true, Bool.not_false, decide_true, decide_false, r_isd, r_islt, cD_ty, cD_ref, tD_non, tD_bl, tD_int, tD_str, tD_ref, tH_lst, tH_tup, tH_dK, tH_ins, ki_self, ki_int_bool, ki_non_int, ki_str_int, ki_lt_lst, ki_lt_tup, r_fld, r_sfld, HO.ins.injEq, cx_K, r_dget, r_sput]
      refine ⟨_, A2.get_source, A2.next (by decide) (by decide) fun q H3 q0 q1 K3 A3 => ?_⟩
      have fin : ∀ {s2 : Ls} {H4 : Hp}, Pt s1 s2 pend s.height (pc d) → Tld s2 → KpA a H3 H4 → At H4 a s2 → (∃ x, some (V.int q) = x) ∧ KpA a H H4 ∧ ∃ s1, At H4 a s1 ∧ Pt s s1 pend s.height ((i + 1) * pc d) ∧ (0 < i + 1 → Tld s1) := fun {s2 H4} p t kk aa => ⟨⟨_, rfl⟩, (K2.trans K3).trans kk, s2, aa, by rw [Nat.succ_mul]; exact P1.trans p, fun _ => t⟩
      have pl : spPlain [.ref a.E] H3 (fun x H4 => (∃ x, some (V.int q) = x) ∧ KpA a H H4 ∧ ∃ s1, At H4 a s1 ∧ Pt s s1 pend s.height ((i + 1) * pc d) ∧ (0 < i + 1 → Tld s1)) E0 := ⟨a, s1, rfl, A3, by omega, by omega, by rw [b1]; omega, fun z y H4 hz K4 A4 => by
        obtain ⟨p, t⟩ := pt_plain (y := y) I1 hz
        refine fin (p.mono ?_) t K4 A4
        cases d with
        | zero => exact Nat.le_refl _
        | succ d => show 4 ≤ 2 * Bc d + 12; omega⟩
      by_cases c0 : ((d : Nat) : Int) = 0
      · rw [if_pos c0]
        exact pl
      · rw [if_neg c0]
        refine ⟨q, rfl, ?_⟩
        by_cases c1 : q < 2
        · rw [if_pos c1]
          exact pl
        · rw [if_neg c1]
          obtain ⟨d', rfl⟩ : ∃ d', d = d' + 1 := ⟨d - 1, by
            have : d ≠ 0 := fun z => c0 (by rw [z]; rfl)
            omega⟩
          have ed : V.int (((d' + 1 : Nat) : Int) - 1) = V.int (d' : Nat) := by congr 1; omega
          have pcd : pc (d' + 1) = 2 * Bc d' + 12 := rfl
          refine ⟨rfl, ?_⟩
          by_cases c2 : V.int q = V.int 2
          · rw [if_pos c2]
            refine ⟨a, s1, _, _, _, rfl, A3, ⟨by omega, by omega, by rw [b1]; omega⟩, fun H4 K4 A4 => ?_⟩
            have A4 : At H4 a (loadF s1 "k") := A4
            obtain ⟨P2, T2⟩ := pt_load (z := "k") I1 (by decide +kernel)
            have l2 := P2.len
            have b2 := P2.bl
            have d2 := P2.inv.due_len
            have h2 := P2.ht
            refine ⟨_, A4.get_height, _, rfl, ?_⟩
            generalize loadF s1 "k" = s2 at *
            obtain ⟨H5, D5, A5, K5⟩ := A4.set_height (s2.height + 1)
            refine ⟨H5, D5, ?_⟩
            rw [ed]
            refine hB (by omega) _ _ _ ⟨a, _, pend, rfl, A5, ?_, by show s2.rows.length + Bc d' ≤ _; omega, by show s2.bl.length + d' ≤ _; rw [b2, b1]; omega, fun s4 H6 P6 T6 K6 A6 => ?_⟩
            · show Inv _ pend true (s2.height + 1)
              rw [h2, h1]
              exact P2.inv.set _ _
            · refine ⟨_, A6.get_height, _, rfl, ?_⟩
              obtain ⟨H7, D7, A7, K7⟩ := A6.set_height (s4.height - 1)
              refine ⟨H7, D7, ?_⟩
              have l6 := P6.len
              have b6 := P6.bl
              have d6 := P6.inv.due_len
              have l6 : s4.rows.length ≤ s2.rows.length + Bc d' := l6
              have b6 : s4.bl = s2.bl := b6
              have P2' : Pt s1 s2 pend (s1.height + 1) 1 := by rw [h1]; exact P2
              have P6' : Pt ⟨s2.rows, s2.due, s2.bl, s2.line, s2.new, s2.height + 1⟩ s4 pend (s2.height + 1) (Bc d') := P6
              obtain ⟨P8, T8⟩ := pt_k P2' P6' T6
              refine ⟨a, _, 1, rfl, A7, by show s4.rows.length ≤ _; omega, by show s4.due.length ≤ _; omega, by show s4.bl.length ≤ _; rw [b6, b2, b1]; omega, by decide, fun H8 K8 A8 => ?_⟩
              rw [h1] at P8
              exact fin (P8.mono (by omega)) T8 ((((K4.trans K5).trans K6).trans K7).trans K8) A8
          · rw [if_neg c2]
            refine ⟨rfl, ?_⟩
            by_cases c3 : V.int q = V.int 3
            · rw [if_pos c3, ed]
              refine hG (by omega) _ _ _ ⟨a, s1, pend, rfl, A3, by rw [h1]; exact I1, by show s1.rows.length + (2 * Bc d' + 12) ≤ _; omega, by show s1.bl.length + (d' + 1) ≤ _; rw [b1]; omega, fun s4 H4 P4 T4 _ K4 A4 => ?_⟩
              rw [h1] at P4
              exact fin P4 T4 K4 A4
            · rw [if_neg c3]
              refine ⟨a, s1, rfl, A3, by omega, by omega, by rw [b1]; omega, fun H4 K4 A4 => ?_⟩
              obtain ⟨p, t⟩ := pt_dead I1
              exact fin (p.mono (by omega)) t K4 A4
    · rintro σ H2 ⟨⟨v2, v3, rfl⟩, K2, s1, A2, P1, T1⟩
      exact k s1 H2 (P1.mono (by rw [bp]; exact Nat.mul_le_mul_right _ hn.1)) (T1 (by omega)) K2 A2
end
def spNo : Sp := fun _ _ _ _ => False
abbrev psB : List Str := ["_law_env", "_law_deep"]
section
variable {P : Program} {w : World} {K : PySem.W.Frag} {mg : Str → Option Value} {base : Heap} {k : Nat} {f : Addr} {fd : FuncData} {ps : List Str}
theorem fn_no : FnOk P w K mg base CX0 k f fd ps spNo := ⟨fun _ _ _ _ h => h.elim, fun _ _ _ _ _ _ _ _ _ _ _ _ _ h => h.elim⟩
end
/-- the two defs that call one another -/
structure BothF (P : Program) (w : World) (K : PySem.W.Frag) (mg : Str → Option Value) (base : Heap) (fg fy : Addr) (gd yd : FuncData) : Prop where
  T : Txt mg
  C_one : Cal P w K mg base 2 "_law_one" ["_law_source", "_law_some"] spOne
  C_next : Cal P w K mg base 1 "_law_next" ["_law_source", "_law_many"] spNext
  C_put : Cal P w K mg base 2 "_law_put" ["_law_env", "_law_word", "_law_argument", "_law_due"] spPut
  C_new : Cal P w K mg base 1 "_law_new" ["_law_env"] spNew
  C_edge : Cal P w K mg base 2 "_law_edge" ["_law_env", "_law_word", "_law_argument"] spEdge
  C_label : Cal P w K mg base 1 "_law_label" ["_law_env", "_law_label_here"] spLab
  C_pops : Cal P w K mg base 3 "_law_pops" ["_law_env", "_law_many"] spPops
  C_plain : Cal P w K mg base 4 "_law_plain" ["_law_env"] spPlain
  C_dead : Cal P w K mg base 3 "_law_dead" ["_law_env"] spDead
  Fg : FnP K "_law_guarded" "_law_guarded" svg fg gd
  Fy : FnP K "_law_body" "_law_body" svy fy yd
  gg : mg "_law_guarded" = some (.ref fg) ∧ PySem.W.keepIn K (.ref fg) = true ∧ Binds K gd psB []
  gy : mg "_law_body" = some (.ref fy) ∧ PySem.W.keepIn K (.ref fy) = true ∧ Binds K yd psB []
section
variable {P : Program} {w : World} {K : PySem.W.Frag} {mg : Str → Option Value} {base : Heap} {fg fy : Addr} {gd yd : FuncData}
theorem both_y (B : BothF P w K mg base fg fy gd yd) {d k : Nat} {spB spG : Sp} (h4 : 4 ≤ k) (Ob : FnOk P w K mg base CX0 k fy yd psB spB) (Og : FnOk P w K mg base CX0 k fg gd psB spG) (hB : 0 < d → ∀ vs H Q, spBody (d - 1) vs H Q E0 → spB vs H Q E0) (hG : 0 < d → ∀ vs H Q, spGuard (d - 1) vs H Q E0 → spG vs H Q E0) : FnOk P w K mg base CX0 (k + 1) fy yd psB (spBody d) :=
  ok_vy h4 B.T B.Fy B.C_next B.C_put B.C_plain B.C_dead ⟨_, _, Ob, B.gy⟩ ⟨_, _, Og, B.gg⟩ B.C_pops hB hG
theorem both_g (B : BothF P w K mg base fg fy gd yd) {d k : Nat} (h4 : 4 ≤ k) (Ob : FnOk P w K mg base CX0 k fy yd psB (spBody d)) : FnOk P w K mg base CX0 (k + 1) fg gd psB (spGuard d) :=
  ok_vg h4 B.T B.Fg B.C_one B.C_put B.C_new B.C_edge ⟨_, _, Ob, B.gy⟩ B.C_label B.C_pops
theorem both_all (B : BothF P w K mg base fg fy gd yd) : ∀ d, FnOk P w K mg base CX0 (5 + 2 * d) fy yd psB (spBody d)
  | 0 => both_y B (k := 4) (spB := spNo) (spG := spNo) (Nat.le_refl _) fn_no fn_no (fun h => absurd h (by decide)) fun h => absurd h (by decide)
  | d + 1 => by
    have Ob := both_all B d
    have Og := both_g B (by omega) Ob
    exact both_y B (d := d + 1) (k := 5 + 2 * d + 1) (by omega) (Ob.mono (by omega)) Og (fun _ vs H Q q => q) fun _ vs H Q q => q
theorem both_cal (B : BothF P w K mg base fg fy gd yd) : Cal P w K mg base 9 "_law_body" psB (spBody 2) ∧ Cal P w K mg base 10 "_law_guarded" psB (spGuard 2) :=
  ⟨⟨_, _, both_all B 2, B.gy⟩, ⟨_, _, both_g B (by decide) (both_all B 2), B.gg⟩⟩
end
end C31

set_option maxHeartbeats 2000000
namespace C31
open PySem PySem.Spec PyProof.Rows L2
/-! ### the end: what the pass finds is what is due (pure) -/
theorem keep_is {g : G5} (y : R5) : keepR5 (told5 g) y = keepT g.t y := by
  unfold keepR5 keepT told5
  rw [has_map]
theorem end_is {s : Ls} {pend : List Int} {live : Bool} {d : Int} (I : Inv s pend live d) : endGo5 (Gs s) = (Gs s).f.filter (keepT (Gs s).t) := by
  unfold endGo5
  have e : keepR5 (told5 (Gs s)) = keepT (Gs s).t := funext keep_is
  by_cases c : ((Gs s).u.all fun p => decide (p.1 ∈ told5 (Gs s))) = true
  · rw [if_pos c]
    symm
    rw [List.filter_eq_self]
    intro y hy
    unfold keepT
    by_cases w : y.w = "LABEL"
    · rcases I.core.lt y hy w with h | ⟨q, hq, eq⟩
      · rw [h, Bool.or_true]
      · have c1 := of_decide_eq_true (List.all_eq_true.mp c q hq)
        have c2 : hasT (Gs s).t q.1 = true := by rw [has_map]; exact decide_eq_true c1
        rw [← eq, c2, Bool.or_true]
    · rw [decide_eq_false w]
      rfl
  · rw [if_neg c, e]
theorem again_no {s : Ls} {pend : List Int} {live : Bool} {d : Int} (I : Inv s pend live d) : again5 (Gs s) = false := by
  unfold again5
  rw [List.any_eq_false]
  intro q hq
  have h := (I.core.un q hq).2.1
  have c : decide (q.1 ∈ told5 (Gs s)) = false := by
    have e : hasT (Gs s).t q.1 = decide (q.1 ∈ told5 (Gs s)) := has_map
    rw [← e, has_look, h]
    rfl
  rw [c]
  simp
theorem pl_ge {xs : List R5} {j : Nat} {y : R5} {n : Int} (hj : xs[j]? = some y) (hw : y.w = "LABEL") (ha : labI y.a = n) : ∀ i, j < i → i ≤ xs.length → ∃ m, (plTo (xs.take i)).f n = some m ∧ j ≤ m
  | 0, h, _ => absurd h (by omega)
  | i + 1, h, hi => by
    have hx : xs[i]? = some xs[i] := List.getElem?_eq_getElem (by omega)
    rw [pl_snoc hx]
    have en := pl_n xs i (by omega)
    show ∃ m, (if xs[i].w = "LABEL" then (fun m => if m = labI xs[i].a then some (plTo (xs.take i)).n else (plTo (xs.take i)).f m) else (plTo (xs.take i)).f) n = some m ∧ _
    by_cases c : i = j
    · subst c
      rw [hj] at hx
      cases hx
      rw [if_pos (by have := (List.getElem?_eq_some_iff.mp hj).2; rw [this]; exact hw)]
      have e := (List.getElem?_eq_some_iff.mp hj).2
      exact ⟨i, by rw [e, ha, if_pos rfl, en], Nat.le_refl _⟩
    · obtain ⟨m, e1, e2⟩ := pl_ge hj hw ha i (by omega) (by omega)
      by_cases w : xs[i].w = "LABEL"
      · rw [if_pos w]
        by_cases q : n = labI xs[i].a
        · exact ⟨i, by rw [if_pos q, en], by omega⟩
        · exact ⟨m, by rw [if_neg q]; exact e1, e2⟩
      · rw [if_neg w]
        exact ⟨m, e1, e2⟩
theorem pl_none {xs : List R5} {n : Int} (h : Fr xs n) : ∀ i, i ≤ xs.length → (plTo (xs.take i)).f n = none
  | 0, _ => rfl
  | i + 1, hi => by
    have hx : xs[i]? = some xs[i] := List.getElem?_eq_getElem (by omega)
    rw [pl_snoc hx]
    have ih := pl_none h i (by omega)
    show (if xs[i].w = "LABEL" then (fun m => if m = labI xs[i].a then some (plTo (xs.take i)).n else (plTo (xs.take i)).f m) else (plTo (xs.take i)).f) n = none
    by_cases w : xs[i].w = "LABEL"
    · rw [if_pos w, if_neg fun e => h _ (List.getElem_mem (by omega)) w e.symm]
      exact ih
    · rw [if_neg w]
      exact ih
theorem yw_jump : ∀ z ∈ YW, (jumping z = true ↔ z = "JUMP") ∧ (direct z = true ↔ z = "JUMP") ∧ testing z = false := by
  have : ∀ z ∈ YW, jumping z = decide (z = "JUMP") ∧ direct z = decide (z = "JUMP") ∧ testing z = false := by decide +kernel
  intro z hz
  obtain ⟨h1, h2, h3⟩ := this z hz
  rw [h1, h2, h3]
  exact ⟨decide_eq_true_iff, decide_eq_true_iff, rfl⟩
theorem yw_fw : ∀ z ∈ YW, z ∈ FW := by decide +kernel
theorem fwd_w {y : R5} (h : y.w = "JUMP") : (fwd y).w = "JUMP_FORWARD" := by
  unfold fwd
  rw [if_pos h]
section
variable {s : Ls} {live : Bool} {d : Int}
/-- where each jump leads on -/
theorem jump_up (I : Inv s [] live d) {fs : List R5} (ef : fs = (Gs s).f.filter (keepT (Gs s).t)) {i : Nat} {x : R5} (hx : fs[i]? = some x) (w : x.w = "JUMP") : ∃ m, (plTo fs).f (labI x.a) = some m ∧ i < m := by
  have de := I.core.de
  rw [← ef] at de
  have hd : s.due[i]? = some (fwd x) := by rw [de, List.getElem?_map, hx]; rfl
  rcases I.core.jp i (fwd x) hd (fwd_w w) with h | ⟨j, z, h1, h2, h3, h4⟩
  · cases h
  · rw [de, List.getElem?_map] at h2
    obtain ⟨y, hy, rfl⟩ := Option.map_eq_some_iff.mp h2
    rw [fwd_a, fwd_a] at h4
    have hj : j < fs.length := (List.getElem?_eq_some_iff.mp hy).1
    obtain ⟨m, e1, e2⟩ := pl_ge hy (fwd_lab h3) h4 fs.length hj (Nat.le_refl _)
    rw [List.take_length] at e1
    exact ⟨m, e1, by omega⟩
theorem dr_is (I : Inv s [] live d) {fs : List R5} (ef : fs = (Gs s).f.filter (keepT (Gs s).t)) (B : Nat) : ∀ i, i ≤ fs.length → (drTo (plTo fs).f B (fs.take i)).o = (fs.take i).map fwd
  | 0, _ => rfl
  | i + 1, hi => by
    have hx : fs[i]? = some fs[i] := List.getElem?_eq_getElem (by omega)
    have ih := dr_is I ef B i (by omega)
    have en := dr_n (plTo fs).f B fs i (by omega)
    have ok : YOk fs[i] := I.core.ok _ ((List.mem_filter.mp (by rw [← ef]; exact List.getElem_mem (by omega))).1)
    rw [dr_snoc hx]
    have tk : fs.take (i + 1) = fs.take i ++ [fs[i]] := by rw [List.take_add_one, hx]; rfl
    rw [tk, List.map_append, ← ih]
    have up := jump_up I ef hx
    generalize fs[i] = x at *
    generalize drTo (plTo fs).f B (fs.take i) = t at *
    obtain ⟨j1, j2, j3⟩ := yw_jump _ ok.w
    unfold drStep
    by_cases w : x.w = "JUMP"
    · obtain ⟨m, e1, e2⟩ := up w
      rw [if_pos (j2.mpr w)]
      have u : upw (plTo fs).f t.n x = true := by
        unfold upw
        rw [e1, en]
        exact decide_eq_true e2
      rw [if_pos u]
      show t.o ++ [_] = t.o ++ [fwd x]
      unfold fwd
      rw [if_pos w]
    · rw [if_neg fun q => w (j2.mp q), j3, if_neg (by decide)]
      show t.o ++ [x] = t.o ++ [fwd x]
      unfold fwd
      rw [if_neg w]
theorem way_ok (I : Inv s [] live d) {fs : List R5} (ef : fs = (Gs s).f.filter (keepT (Gs s).t)) : WayOk fs s.new.toNat := by
  have mem : ∀ x ∈ fs, x ∈ (Gs s).f := fun x hx => by rw [ef] at hx; exact (List.mem_filter.mp hx).1
  refine ⟨fun x hx => ?_, fun x hx hj => ?_, fun n hn => ?_⟩
  · have ok := I.core.ok x (mem x hx)
    exact ⟨yw_fw _ ok.w, fun h => ok.a (h.imp id fun h => (yw_jump _ ok.w).1.mp h)⟩
  · have ok := I.core.ok x (mem x hx)
    have w := (yw_jump _ ok.w).1.mp hj
    obtain ⟨n, en⟩ := ok.a (.inr w)
    obtain ⟨i, hi, ei⟩ := List.getElem_of_mem hx
    obtain ⟨m, e1, _⟩ := jump_up I ef (i := i) (x := x) (by rw [List.getElem?_eq_getElem hi, ei]) w
    rw [en] at e1
    exact ⟨n, m, en, e1⟩
  · have nn := I.core.nn
    have fr := (I.core.hi (n : Int) (by omega)).2
    have := pl_none (xs := fs) (n := (n : Int)) (fun y hy hw => fr y (mem y hy) hw) fs.length (Nat.le_refl _)
    rw [List.take_length] at this
    exact this
theorem has_mem {xs : List R3} {z : Str} (h : ∃ x ∈ xs, x.w = z) : hasW (wsOf xs) z = true := by
  obtain ⟨x, hx, e⟩ := h
  unfold hasW wsOf
  exact decide_eq_true (List.mem_map.mpr ⟨x, hx, e⟩)
/-- all that flowed asks of the rows -/
theorem fl_of (I : Inv s [] live d) (hs : ∃ x ∈ s.rows, x.w ∈ SW) (hl : ∃ x ∈ s.rows, x.w = "LABEL") (lr : s.rows.length ≤ 12000) {F : Addr} {v : V} {H : Hp} {Q : VK} (hF : Rs3 H F s.rows) (k : ∀ D H', Same H H' → Rs5 H' D s.due → Q (.ref D) H') : spFL5 [.ref F, v, .bl false] H Q E0 := by
  have ef := end_is I
  have lf := (go5_len [] s.rows s.rows.length (Nat.le_refl _)).f
  rw [List.take_length] at lf
  have lf : (Gs s).f.length ≤ s.rows.length := lf
  have ll : (endGo5 (Gs s)).length ≤ 30000 := by
    rw [ef]
    have := List.length_filter_le (keepT (Gs s).t) (Gs s).f
    omega
  have mem : ∀ x ∈ endGo5 (Gs s), x ∈ (Gs s).f := fun x hx => by rw [ef] at hx; exact (List.mem_filter.mp hx).1
  refine ⟨F, v, s.rows, endGo5 (Gs s), s.new.toNat, rfl, hF, fun x hx => (I.ok x hx).ok, I.og, by omega, has_mem hl, ?_, ?_, again_no I, rfl, ll, fun x hx => (I.core.ok x (mem x hx)).l, way_ok I ef, fun D H' s' r => k D H' s' ?_⟩
  · obtain ⟨x, hx, hw⟩ := hs
    unfold someSetup
    unfold SW at hw
    simp only [List.mem_cons, List.not_mem_nil, or_false] at hw
    rcases hw with e | e | e
    · exact .inl (has_mem ⟨x, hx, e⟩)
    · exact .inr (.inl (has_mem ⟨x, hx, e⟩))
    · exact .inr (.inr (has_mem ⟨x, hx, e⟩))
  · unfold hasW wsOf
    refine decide_eq_false fun h => ?_
    obtain ⟨x, hx, e⟩ := List.mem_map.mp h
    have := (I.ok x hx).w
    rw [e] at this
    exact absurd this (by decide)
  · have e1 := dr_is I ef s.new.toNat _ (Nat.le_refl _)
    rw [List.take_length] at e1
    rw [e1, ef, ← I.core.de] at r
    exact r
end
end C31

set_option maxHeartbeats 4000000
namespace C31
open PySem PySem.Spec PyProof.Rows L2
/-! ### the end of a law, told of the very state in which it is called -/
section
variable {P : Program} {w : World} {K : PySem.W.Frag} {mg mb : Str → Option Value} {fa a : Addr} {cs : List (Addr × Addr)} {s : Shared} {vs : List Value} {ns : List Int}
/-- tracked: the tables of code objects, and the script where nothing written holds it -/
def trk (K : PySem.W.Frag) (T : List Addr) (a : Addr) (vs : List Value) (ns : List Int) : Hp := fun b =>
  if b ∈ T then some (.tbl #[]) else if b = a ∧ K.lookup a = none then some (.frz { cls := .type "list", data := .seq vs.toArray } (.lst (ns.map V.int))) else none
theorem trk_tab {T : List Addr} {b : Addr} (h : b ∈ T) : trk K T a vs ns b = some (.tbl #[]) := if_pos h
theorem trk_cases {T : List Addr} {b : Addr} {u : HO} (h : trk K T a vs ns b = some u) : (b ∈ T ∧ u = .tbl #[]) ∨ (b ∉ T ∧ b = a ∧ K.lookup a = none ∧ u = .frz { cls := .type "list", data := .seq vs.toArray } (.lst (ns.map V.int))) := by
  unfold trk at h
  split at h
  · exact .inl ⟨by assumption, (Option.some.inj h).symm⟩
  · split at h
    · rename_i n q
      exact .inr ⟨n, q.1, q.2, (Option.some.inj h).symm⟩
    · cases h
/-- what the law's run at callerA must do -/
def RunsAt (P : Program) (w : World) (K : PySem.W.Frag) (mg : Str → Option Value) (cs : List (Addr × Addr)) (fa a : Addr) (s : Shared) (ns : List Int) : Prop := ∀ (base : Heap) (H : Hp), K.In base → base.Ns mainGlobals mg → (∀ p ∈ cs, LamX.TabB base mg p.1 p.2) → Env0 P w K mg base callerA [] s H →
  (∀ p ∈ cs, H p.2 = some (.tbl #[])) → SqL K H a (ns.map V.int) → codeAny (model P w) callerA (.call (.ref fa) ⟨[.ref a], []⟩) (CR CX0 [] P w H s (fun v _ => v = .bl true) E0) s
theorem end_run (KX : K.In s.heap) (hns : s.heap.Ns mainGlobals mg) (hb : s.heap.Ns builtinsNs mb) (hbb : ∀ x : Str, x ≠ "__name__" → mb x = bootBuiltins x) (hlim : s.heap.NoLimit) (hg : s.gens = #[])
    (hT : ∀ p ∈ cs, s.heap.get? p.2 = some { cls := .none, data := .fields #[] }) (nT : ∀ p ∈ cs, K.lookup p.2 = none) (C : ∀ p ∈ cs, PySem.W.CodeHd s.heap p.1 p.2)
    (hbm : ∃ (bm : Addr) (ob : Obj), mg "__builtins__" = some (.ref bm) ∧ bm ≠ builtinsNs ∧ s.heap.get? bm = some ob ∧ ob.cls = .type "module" ∧ ob.dict = some builtinsNs ∧ ob.data = .plain)
    (ha : s.heap.get? a = some { cls := .type "list", data := .seq vs.toArray }) (hi : IntsAre vs ns) (hl : ns.length ≤ sizeLine) (R : RunsAt P w K mg cs fa a s ns) :
    codeAny (model P w) callerA (.call (.ref fa) ⟨[.ref a], []⟩) (fun r s' => r = .ok (.ret (.bool true)) ∧ OldK s.heap s'.heap ∧ s'.os = s.os ∧ AllBare s'.gens) s := by
  have lens := hi.length
  obtain ⟨T, eT⟩ : ∃ T, T = cs.map (·.2) := ⟨_, rfl⟩
  have inT : ∀ {b : Addr}, b ∈ T → ∃ p ∈ cs, p.2 = b := fun {b} h => by rw [eT] at h; obtain ⟨p, hp, e⟩ := List.mem_map.mp h; exact ⟨p, hp, e⟩
  have toT : ∀ p ∈ cs, p.2 ∈ T := fun p hp => by rw [eT]; exact List.mem_map_of_mem hp
  have tabO : ∀ {b : Addr}, b ∈ T → s.heap.get? b = some { cls := .none, data := .fields #[] } := fun h => by obtain ⟨p, hp, rfl⟩ := inT h; exact hT p hp
  have aT : a ∉ T := fun h => by
    have := ha.symm.trans (tabO h)
    cases congrArg Obj.data (Option.some.inj this)
  generalize eH : trk K T a vs ns = H
  have cas : ∀ {b u}, H b = some u → (b ∈ T ∧ u = .tbl #[]) ∨ (b ∉ T ∧ b = a ∧ K.lookup a = none ∧ u = .frz { cls := .type "list", data := .seq vs.toArray } (.lst (ns.map V.int))) := fun {b u} h => trk_cases (by rw [eH]; exact h)
  -- what is neither a row of values nor an empty row of fields is hidden from nobody
  have free : ∀ {b : Addr} {o : Obj}, s.heap.get? b = some o → (∀ xs n, o.data ≠ .seq xs n) → o.data ≠ .fields #[] → H b = none := fun {b o} e h1 h2 => by
    cases q : H b with
    | none => rfl
    | some u =>
      rcases cas q with ⟨h, _⟩ | ⟨_, rfl, _⟩
      · cases e.symm.trans (tabO h)
        exact absurd rfl h2
      · cases e.symm.trans ha
        exact absurd rfl (h1 _ _)
  have seen : ∀ {b : Addr} {o : Obj}, s.heap.get? b = some o → (∀ xs n, o.data ≠ .seq xs n) → o.data ≠ .fields #[] → (hidT s.heap H).get? b = some o := fun e h1 h2 => hidT_get e (free e h1 h2)
  have nsS : ∀ {b : Addr} {m : Str → Option Value}, s.heap.Ns b m → (hidT s.heap H).Ns b m := fun ⟨o, es, ep, e, d, r⟩ => ⟨o, es, ep, seen e (by rw [d]; intro _ _ z; cases z) (by rw [d]; intro z; cases z), d, r⟩
  have KB : K.In (hidT s.heap H) := fun b o e => hidT_get (KX b o e) (by
    cases q : H b with
    | none => rfl
    | some u =>
      rcases cas q with ⟨h, _⟩ | ⟨_, rfl, n, _⟩
      · obtain ⟨p, hp, rfl⟩ := inT h
        cases (nT p hp).symm.trans e
      · cases n.symm.trans e)
  have MM : L2.Mod K mg (hidT s.heap H) := ⟨KB, nsS hns, ⟨mb, nsS hb, hbb⟩, by obtain ⟨mc, h1, h2⟩ := hlim; exact ⟨mc, nsS h1, h2⟩⟩
  have OK : HOk P w H s.heap := fun b u q => by
    rcases cas q with ⟨h, rfl⟩ | ⟨_, rfl, _, rfl⟩
    · exact tabO h
    · exact ⟨ha, by rw [List.length_map]; exact hl, vs, _, vals_ints hi, ha⟩
  have SQ : SqL K H a (ns.map V.int) := by
    cases k : K.lookup a with
    | none => exact .inl (.inr ⟨_, by rw [← eH]; unfold trk; rw [if_neg aT, if_pos ⟨rfl, k⟩]⟩)
    | some o =>
      cases (KX a o k).symm.trans ha
      exact .inr ⟨_, vs.toArray, _, k, rfl, rfl, rfl, by rw [List.size_toArray, lens]; exact hl, by simpa using vals_ints hi⟩
  have TB : ∀ p ∈ cs, LamX.TabB (hidT s.heap H) mg p.1 p.2 := fun p hp => by
    refine ⟨?_, ?_, ?_⟩
    · obtain ⟨o, us, file, tf, flags, tg, inF, text, tt, e1, r1, r2, r3, r⟩ := C p hp
      exact ⟨o, us, file, tf, flags, tg, inF, text, tt, seen e1 (by rw [r2]; intro _ _ z; cases z) (by rw [r2]; intro z; cases z; simp at r3), r1, r2, r3, r⟩
    · obtain ⟨bm, ob, b1, b2, b3, b4, b5, b6⟩ := hbm
      refine ⟨bm, ob, b1, b2, ?_, ?_, seen b3 (by rw [b6]; intro _ _ z; cases z) (by rw [b6]; intro z; cases z), b4, b5, b6⟩
      · rintro rfl
        obtain ⟨o, es, ep, e, d, _⟩ := hns
        cases e.symm.trans b3
        cases d.symm.trans b6
      · rintro rfl
        cases (hT p hp).symm.trans b3
        cases b6
    · intro z
      obtain ⟨o, es, ep, e, d, _⟩ := hns
      rw [z] at e
      cases (hT p hp).symm.trans e
      cases d
  have E0' : Env0 P w K mg (hidT s.heap H) callerA [] s H := ⟨rfl, MM, fun b o e => of_hidT e, Nat.le_of_eq (hidT_size _ _), trivial, (fun b hb => by cases hb), OK, .of_eq hg⟩
  refine codeAny_mono (R _ H KB (nsS hns) TB E0' (fun p hp => by rw [← eH]; exact trk_tab (toT p hp)) SQ) fun r s' h => ?_
  cases r with
  | error e => exact False.elim h
  | ok fl =>
    cases fl with
    | ret u =>
      obtain ⟨v, H', os, bare, un, ok', rv, rfl⟩ := h
      obtain rfl : u = Value.bool true := rv
      have stay : ∀ {b : Addr} {o : Obj}, b ∉ T → s.heap.get? b = some o → s'.heap.get? b = some o := fun {b o} n e => by
        cases q : H b with
        | none => exact un.keep b o e q (by intro z; cases z) (by simp)
        | some u =>
          rcases cas q with ⟨h, _⟩ | ⟨_, rfl, _, rfl⟩
          · exact absurd h n
          · cases e.symm.trans ha
            exact (ok' _ _ (un.frzs _ _ _ q)).1
      have more : ∀ {b : Addr}, b ∈ T → ∃ xs : Array Value, s'.heap.get? b = some { cls := .none, data := .fields xs } := fun {b} h => by
        obtain ⟨xs, z⟩ := un.tbls b #[] (by rw [← eH]; exact trk_tab h)
        exact ⟨_, ok' b _ z⟩
      refine ⟨rfl, ⟨fun b o e => ?_, fun b o e => ?_⟩, os, bare⟩
      · rcases Classical.em (b ∈ T) with h | h
        · obtain ⟨xs, hx⟩ := more h
          cases (tabO h).symm.trans e
          obtain ⟨p, hp, rfl⟩ := inT h
          exact .inr (.inl ⟨((C p hp).tab (hT p hp)).isCodeTable, rfl, #[], xs, rfl, hx.trans (by rw [Array.empty_append])⟩)
        · exact .inl (stay h e)
      · rcases Classical.em (b ∈ T) with h | h
        · obtain ⟨xs, hx⟩ := more h
          exact ⟨_, hx⟩
        · exact ⟨o, stay h e⟩
    | _ => exact False.elim h
/-- the law's walk, from its run -/
theorem walk_run {l : PySem.W.OpenLaw} {n : Nat} {q : Program} {loose : List Str} {XP : (Str → Option Value) → Heap → Prop} {YP : World → Heap → Prop} {d : DefRec} (hn : l.most = some n) (hn2 : n ≤ sizeLine) (hdf : d.params.defaults = [])
    (F : ∀ (w : World) (mg : Str → Option Value) (fa : Addr) (h : Heap), YP w h → h.Ns mainGlobals mg → mg d.name = some (.ref fa) → ∃ (K : PySem.W.Frag) (cs : List (Addr × Addr)), K.In h ∧ (∀ p ∈ cs, h.get? p.2 = some { cls := .none, data := .fields #[] }) ∧
      (∀ p ∈ cs, K.lookup p.2 = none) ∧ (∀ p ∈ cs, PySem.W.CodeHd h p.1 p.2) ∧ ∀ (s : Shared) (a : Addr) (ns : List Int), ns.length ≤ n → (∀ z ∈ ns, Builtin.Int.intBits z ≤ 1048576) → RunsAt l.prog w K mg cs fa a s ns) :
    PySem.W.WalkO q loose XP YP l.row.toRowW d [] (fun f vs => PySem.call f vs) := by
  refine Att.attach_callB hn hdf fun w s0 s1 mg mb fa o pm cd doc a vs ns G Y ho hd hcd hmg hobj hints hlen hbits hg => ?_
  obtain ⟨K, cs, kx, hT, nT, C, R⟩ := F w mg fa _ Y G.T.g hmg
  exact end_run kx G.T.g G.T.b G.T.builtins G.T.nolimit hg hT nT C G.T.bmain hobj hints (Nat.le_trans hlen hn2) (R s1 a ns hlen hbits)
end

/-! ### a def called by names alone, in any order, its last parameters with defaults -/
theorem kwD {K : PySem.W.Frag} {x qual : Str} {params : Arguments} {body : List Stmt} {scope : Scope} {dvs : List V} {f : Addr} {fd : FuncData} {ps ks : List Str} {gA : List Value → List Value} {gB : List V → List V} (F : FunD K x qual params body scope dvs [] f fd) (hd : dvs ≠ []) (rel : ∀ {zs : List V} {ws : List Value}, Vals zs ws → Vals (gB zs) (gA ws))
    (h : ∀ (T : Addr) (kV doc pm : Value) (an : Option Addr) (cdv ct : Value) (ws its : List Value), ws.length = ks.length → its.length = dvs.length → ∃ k, bindArgs (PySem.W.fnOf x qual params body scope (.ref T) kV doc pm an cdv ct) ⟨[], ks.zip ws⟩ = seqItems? (.ref T) >>= k ∧ k (some its.toArray) = pure (ps.zip (gA ws))) : KBn K fd ps 0 ks (fun _ ws => gA ws) (fun _ zs => gB zs) := by
  obtain ⟨oc, od, dV, kV, doc, pm, an, cdv, ct, osl, rfl, lk, hcd, hD, hK⟩ := F.ex
  rcases hD with ⟨e, _⟩ | ⟨_, T, o, its, m, rfl, lT, oT, rT⟩
  · exact absurd e hd
  · refine ⟨fun s us ws X l1 l2 => ?_, fun _ r => rel r⟩
    match us, l1 with
    | [], _ =>
      obtain ⟨k, e1, e2⟩ := h T kV doc pm an cdv ct ws its l2 rT.length.symm
      exact PySem.W.binds_K (fd := PySem.W.fnOf x qual params body scope (.ref T) kV doc pm an cdv ct) X rfl lT oT e1 e2
structure CalKN (P : Program) (w : World) (K : PySem.W.Frag) (mg : Str → Option Value) (base : Heap) (k : Nat) (x : Str) (ps ks : List Str) (gB : List V → List V) (sp : Sp) : Prop where
  ex : ∃ (f : Addr) (fd : FuncData) (gA : List Value → List Value), FnOk P w K mg base CX0 k f fd ps sp ∧ mg x = some (.ref f) ∧ PySem.W.keepIn K (.ref f) = true ∧ KBn K fd ps 0 ks (fun _ ws => gA ws) (fun _ zs => gB zs)
def tCallKN (gB : List V → List V) (n : Nat) (sp : Sp) (t : TA) : TE := fun σ H Q => t σ H fun zs H1 => zs.length = n ∧ sp (gB zs) H1 Q E0
theorem r_callKN {gB : List V → List V} {n : Nat} {sp : Sp} {t : TA} {σ : L2.St} {H : Hp} {Q : VK} : tCallKN gB n sp t σ H Q = t σ H fun zs H1 => zs.length = n ∧ sp (gB zs) H1 Q E0 := rfl
theorem pe_calKN {X : Cx} {k : Nat} {x : Str} {ps ks : List Str} {gB : List V → List V} {sp : Sp} {kws : List Keyword} {t : TA} {p pos : Pos} (C : CalKN X.prog X.w X.K X.mg X.base k x ps ks gB sp) (hr : Room k X.A) (hg : Gl X x) (ha : PK X kws t)
    (hall : (backToKw pos (keywordEach kws X.env)).all (·.1.isSome) = true := by rfl) (hks : (backToKw pos (keywordEach kws X.env)).filterMap (·.1) = ks := by rfl) (hdb : (x == ("__debug__" : Str)) = false := by decide)
    (hpl : ((backTo pos (starEach [] X.env)).any (·.1) || (backToKw pos (keywordEach kws X.env)).any (·.1.isNone)) = false := by rfl) :
    PE X (.Call (.Name x p) [] kws pos) (tCallKN gB ks.length sp t) := by
  obtain ⟨f, fd, gA, F, m, kp, b⟩ := C.ex
  refine ⟨fun pins s σ H Q I h => wpAny_Call_Name_kw (ld_glob I hg m (PySem.W.callWith_KW0 (h₀ := X.base) I.ok.mod.kin kp hall ?_ hpl) hdb)⟩
  refine thn (ha.run pos pins s σ H (fun zs H1 => zs.length = ks.length ∧ sp (gB zs) H1 Q E0) I h) fun ws s2 ⟨zs, H2, I2, rz, q⟩ => ⟨I2.kIn, ?_⟩
  rw [hks]
  exact run_fnN (us := []) (vs := []) (n := 0) F hr b pass0 I2 .nil rz rfl q.1 q.2

section
variable {X : Cx}
/-! ### repr of data -/
def rReprD (K : PySem.W.Frag) : List V → Hp → VK → Prop := fun vs H Q => ∃ (a : Addr) (d : PyData), vs = [.ref a] ∧ Dp K H (.ref a) d ∧ d.showable = true ∧ d.hasDict = false ∧ d.depth ≤ 10 ∧ d.shown.length ≤ sizeLine ∧ Q (.str d.shown) H
theorem call_repr_D (hg : X.A.guards = some []) (hu : X.A.units + 20 < cLine) : CallR X (.builtin "repr") (rReprD X.K) := by
  rintro pins s σ H xs us Q I r ⟨a, d, rfl, hd, h1, h2, h3, h4, q⟩
  obtain ⟨v, rfl, rv⟩ := vals1 r
  obtain ⟨as, rd⟩ := Dp.reads I d _ v hd rv
  obtain rfl : v = Value.ref a := rv
  exact repr_of_reads' rd h1 (fun z => by rw [h2] at z; cases z) hg (by omega) (fun _ _ e => e) (fun h' u tk k => ⟨.str d.shown, H, I.kept (t' := tk) k, ⟨_, rfl⟩, q⟩) h4
/-! ### repr of any data -/
def rReprAny (K : PySem.W.Frag) : List V → Hp → VK → Prop := fun vs H Q => ∃ (x : V) (d : PyData), vs = [x] ∧ Dp K H x d ∧ d.showable = true ∧ d.hasDict = false ∧ d.depth ≤ 10 ∧ d.shown.length ≤ sizeLine ∧ Q (.str d.shown) H
theorem call_repr_any {X : Cx} (hg : X.A.guards = some []) (hu : X.A.units + 20 < cLine) : CallR X (.builtin "repr") (rReprAny X.K) := by
  rintro pins s σ H xs us Q I r ⟨x, d, rfl, hd, h1, h2, h3, h4, q⟩
  cases hd with
  | non =>
    cases r with
    | cons r1 rr =>
    cases rr
    cases r1
    exact PySem.P.repr_of_none ⟨.str _, H, I.tok _, ⟨_, rfl⟩, q⟩
  | bl b =>
    cases r with
    | cons r1 rr =>
    cases rr
    cases r1
    exact PySem.P.repr_of_bool ⟨.str _, H, I.tok _, ⟨_, rfl⟩, q⟩
  | int i =>
    obtain ⟨u, rfl, t, rfl⟩ := vals1 r
    exact PySem.P.repr_of_int (of_decide_eq_true h1) ⟨.str _, H, I.tok _, ⟨_, rfl⟩, q⟩
  | str z =>
    obtain ⟨u, rfl, t, rfl⟩ := vals1 r
    exact PySem.P.repr_of_str ⟨.str _, H, I.tok _, ⟨_, rfl⟩, q⟩ h4
  | lst a b => exact call_repr_D hg hu pins s σ H _ us Q I r ⟨_, _, rfl, .lst a b, h1, h2, h3, h4, q⟩
  | tup a b => exact call_repr_D hg hu pins s σ H _ us Q I r ⟨_, _, rfl, .tup a b, h1, h2, h3, h4, q⟩

end
def spHead : Sp := fun vs H Q _ => ∃ (L : Addr) (xs : List V), vs = [.ref L] ∧ H L = some (.lst xs) ∧ ∀ v H', Same H H' → Q v H'
/-! ### rows that are due, as data -/
def dA : V → PyData
  | .int i => .int i
  | .str z => .str z
  | _ => .none
def dL : Option Int → PyData
  | none => .none
  | some i => .int i
def dH : Option Hd3 → PyData
  | none => .none
  | some h => dB h
def dR5 (y : R5) : PyData := .tuple [.str y.w, dA y.a, dL y.l, dH y.h]
def OutW : List Str := "JUMP_FORWARD" :: YW
structure OutOk (y : R5) : Prop where
  w : y.w ∈ OutW
  a : ScA y.a
theorem ow_str : ∀ z ∈ OutW, PyData.strOk z = true := by decide +kernel
theorem dp_sc {K : PySem.W.Frag} {H : Hp} {a : V} (h : ScA a) : Dp K H a (dA a) := by
  rcases h with q | ⟨i, q⟩ | ⟨z, q, _⟩
  · subst q; exact .non
  · subst q; exact .int _
  · subst q; exact .str _
theorem dp_ln {K : PySem.W.Frag} {H : Hp} (l : Option Int) : Dp K H (lnV l) (dL l) := by
  cases l with
  | none => exact .non
  | some i => exact .int _
theorem dp_hd {K : PySem.W.Frag} {H : Hp} {v : V} {h : Option Hd3} (q : HdV H v h) : Dp K H v (dH h) := by
  cases h with
  | none =>
    have q : v = .non := q
    subst q
    exact .non
  | some h =>
    obtain ⟨a, rfl, e⟩ := q
    exact .tup (SqT.of e) (.cons (.int _) (.cons (.int _) (.cons (.bl _) .nil)))
theorem dp_row5 {K : PySem.W.Frag} {H : Hp} {r : Addr} {y : R5} (h : OutOk y) (e : Row5 H r y) : Dp K H (.ref r) (dR5 y) := by
  obtain ⟨hv, e, q⟩ := e
  exact .tup (SqT.of e) (.cons (.str _) (.cons (dp_sc h.a) (.cons (dp_ln _) (.cons (dp_hd q) .nil))))
theorem dp_rows5 {K : PySem.W.Frag} {H : Hp} : ∀ {refs : List Addr} {ys : List R5}, (∀ y ∈ ys, OutOk y) → Paired (Row5 H) refs ys → DpAll K H (refs.map V.ref) (ys.map dR5)
  | [], [], _, .nil => .nil
  | _ :: _, _ :: _, h, .cons e p => .cons (dp_row5 (h _ List.mem_cons_self) e) (dp_rows5 (fun y hy => h y (List.mem_cons_of_mem _ hy)) p)
theorem lay_sc {a : V} (h : ScA a) : PyData.canLay0 (dA a) = true ∧ PyData.depth (dA a) = 0 := by
  rcases h with q | ⟨i, q⟩ | ⟨z, q, hz⟩
  · subst q; simp [dA, PyData.canLay0, PyData.depth]
  · subst q; simp [dA, PyData.canLay0, PyData.depth]
  · subst q
    unfold okZ at hz
    rw [Bool.and_eq_true] at hz
    simp [dA, PyData.canLay0, PyData.depth, hz.1]
theorem lay_row5 {y : R5} (h : OutOk y) : PyData.canLay0 (dR5 y) = true ∧ PyData.depth (dR5 y) ≤ 3 := by
  obtain ⟨w, a, l, hh⟩ := y
  have hw := ow_str _ h.w
  obtain ⟨s1, s2⟩ := lay_sc h.a
  dsimp only at hw s1 s2
  unfold dR5
  dsimp only
  cases l <;> cases hh <;> simp [dL, dH, dB, PyData.canLay0, PyData.canLayAll0, PyData.depth, PyData.depthAll, hw, s1, s2]
theorem ne_rows {K : PySem.W.Frag} {H : Hp} {p q : Addr} {ys : List R5} {Q : VK} (ok : ∀ y ∈ ys, OutOk y) (hp : Rs5 H p ys) (hq : Rs5 H q ys) (k : Q (.bl false) H) : rNeD K (.ref p) (.ref q) H Q := by
  obtain ⟨rp, ep, pp⟩ := hp
  obtain ⟨rq, eq, pq⟩ := hq
  obtain ⟨h1, h2⟩ := lay_all (ds := ys.map dR5) fun x hx => by
    obtain ⟨y, hy, rfl⟩ := List.mem_map.mp hx
    exact lay_row5 (ok y hy)
  have sh : SeqAt.shaped (.list (ys.map dR5)) = true := by
    unfold SeqAt.shaped
    simp only [PyData.canLay0, PyData.depth, h1]
    exact decide_eq_true (by omega)
  exact ⟨.list (ys.map dR5), .list (ys.map dR5), .lst (SqL.of ep) (dp_rows5 ok pp), .lst (SqL.of eq) (dp_rows5 ok pq), sh, sh, by rw [SeqAt.eqv_refl _ (by simp only [PyData.canLay0, h1])]; exact k⟩
theorem Inv.out {s : Ls} {pend : List Int} {live : Bool} {d : Int} (I : Inv s pend live d) : ∀ y ∈ s.due, OutOk y := fun y hy => by
  rw [I.core.de] at hy
  obtain ⟨x, hx, rfl⟩ := List.mem_map.mp hy
  have ok := I.core.ok x (List.mem_filter.mp hx).1
  refine ⟨?_, by rw [fwd_a]; exact ok.d⟩
  unfold fwd
  split
  · exact List.mem_cons_self
  · exact List.mem_cons_of_mem _ ok.w
/-! ### the rows as they are shown -/
def dR3 (x : R3) : PyData := .tuple [.str x.w, dA x.a, dL x.l]
theorem dp_rows3 {K : PySem.W.Frag} {H : Hp} : ∀ {refs : List Addr} {xs : List R3}, (∀ x ∈ xs, XOk x) → Paired (fun r x => H r = some (.tup (v3 x))) refs xs → DpAll K H (refs.map V.ref) (xs.map dR3)
  | [], [], _, .nil => .nil
  | _ :: _, _ :: _, h, .cons e p => .cons (.tup (SqT.of e) (.cons (.str _) (.cons (dp_sc (h _ List.mem_cons_self).d) (.cons (dp_ln _) .nil)))) (dp_rows3 (fun y hy => h y (List.mem_cons_of_mem _ hy)) p)
structure ShF (d : PyData) (b : Nat) : Prop where
  a : d.showable = true
  h : d.hasDict = false
  d0 : d.depth = 0
  b : d.bulk ≤ b
  s : d.leavesShort 64 = true
theorem log_nat {n : Nat} (h : n < 2 ^ 62) : ((n : Int)).natAbs.log2 < 62 := by
  rw [Int.natAbs_natCast]
  rcases Nat.eq_zero_or_pos n with e | e
  · subst e
    decide
  · exact (Nat.log2_lt (by omega)).mpr h
theorem sh_int {i : Int} (h0 : 0 ≤ i) (h : i < 2 ^ 62) : ShF (.int i) 0 := by
  obtain ⟨n, rfl⟩ : ∃ n : Nat, i = (n : Int) := ⟨i.toNat, by omega⟩
  have hn : n < 2 ^ 62 := by omega
  refine ⟨?_, rfl, by simp [PyData.depth], by simp [PyData.bulk], ?_⟩
  · have := log_nat hn
    simp only [PyData.showable, decide_eq_true_eq]
    omega
  · have e := PySem.int_text_length_le10 (a := (n : Int)) (k := 20) (by decide) (by rw [Int.natAbs_natCast]; exact Nat.lt_trans hn (by decide))
    simp only [PyData.leavesShort, decide_eq_true_eq]
    show (Str.ofString (toString (n : Int))).length ≤ 64
    rw [PySem.ofString_length]
    omega
theorem sh_non : ShF .none 0 := ⟨by simp [PyData.showable], rfl, by simp [PyData.depth], by simp [PyData.bulk], by simp [PyData.leavesShort]⟩
theorem sh_str {n : Nat} {z : Str} (h : cokB n z = true) : ShF (.str z) n := by
  unfold cokB at h
  rw [Bool.and_eq_true] at h
  refine ⟨by simp [PyData.showable], rfl, by simp [PyData.depth], ?_, ?_⟩
  · simp only [PyData.bulk]
    exact of_decide_eq_true h.1
  · simp only [PyData.leavesShort]
    exact h.2
theorem sh_sc {a : V} (h : ScA a) (hi : ∀ i, a = .int i → 0 ≤ i ∧ i < 2 ^ 62) : ShF (dA a) 20 := by
  rcases h with q | ⟨i, q⟩ | ⟨z, q, hz⟩
  · subst q
    exact ⟨sh_non.a, sh_non.h, sh_non.d0, Nat.le_trans sh_non.b (by decide), sh_non.s⟩
  · obtain ⟨h0, h1⟩ := hi i q
    subst q
    have s := sh_int h0 h1
    exact ⟨s.a, s.h, s.d0, Nat.le_trans s.b (by decide), s.s⟩
  · subst q
    unfold okZ at hz
    rw [Bool.and_eq_true] at hz
    exact sh_str hz.2
theorem sh_ln {l : Option Int} (hi : ∀ i, l = some i → 0 ≤ i ∧ i < 2 ^ 62) : ShF (dL l) 0 := by
  cases l with
  | none => exact sh_non
  | some i => obtain ⟨h0, h1⟩ := hi i rfl; exact sh_int h0 h1
theorem xw_cok : ∀ z ∈ XW, cokB 20 z = true := by decide +kernel
theorem sh_row {x : R3} (ok : XOk x) {B : Nat} (hB : B ≤ 2 ^ 61) (io : IntOk B x) : (dR3 x).showable = true ∧ (dR3 x).hasDict = false ∧ (dR3 x).depth ≤ 1 ∧ (dR3 x).bulk ≤ 60 ∧ (dR3 x).leavesShort 64 = true := by
  have w := sh_str (xw_cok _ ok.w)
  have a := sh_sc ok.d fun i e => ⟨(io.1 i e).1, by have := (io.1 i e).2; omega⟩
  have l := sh_ln (l := x.l) fun i e => ⟨(io.2 i e).1, by have := (io.2 i e).2; omega⟩
  unfold dR3
  refine ⟨?_, ?_, ?_, ?_, ?_⟩
  · simp only [PyData.showable, PyData.showableAll, Bool.and_eq_true]
    exact ⟨trivial, a.a, l.a, trivial⟩
  · simp only [PyData.hasDict, PyData.hasDictAll, a.h, l.h]
    rfl
  · simp only [PyData.depth, PyData.depthAll, a.d0, l.d0]
    decide
  · rw [PyData.bulk]
    simp only [PyData.bulkAll]
    have h1 := w.b
    have h2 := a.b
    have h3 := l.b
    omega
  · simp only [PyData.leavesShort, PyData.leavesShortAll, Bool.and_eq_true]
    have := w.s
    simp only [PyData.leavesShort] at this
    exact ⟨this, a.s, l.s, trivial⟩
theorem sh_rows {B : Nat} (hB : B ≤ 2 ^ 61) : ∀ {xs : List R3}, (∀ x ∈ xs, XOk x) → (∀ x ∈ xs, IntOk B x) → PyData.showableAll (xs.map dR3) = true ∧ PyData.hasDictAll (xs.map dR3) = false ∧ PyData.depthAll (xs.map dR3) ≤ 1 ∧ PyData.bulkAll (xs.map dR3) ≤ 61 * xs.length ∧ PyData.leavesShortAll 64 (xs.map dR3) = true
  | [], _, _ => ⟨rfl, rfl, by simp [PyData.depthAll], by simp [PyData.bulkAll], rfl⟩
  | x :: xs, h, k => by
    obtain ⟨a1, a2, a3, a4, a5⟩ := sh_row (h x List.mem_cons_self) hB (k x List.mem_cons_self)
    obtain ⟨b1, b2, b3, b4, b5⟩ := sh_rows hB (fun y hy => h y (List.mem_cons_of_mem _ hy)) fun y hy => k y (List.mem_cons_of_mem _ hy)
    simp only [List.map_cons, PyData.showableAll, PyData.hasDictAll, PyData.depthAll, PyData.bulkAll, PyData.leavesShortAll, a1, a2, a5, b1, b2, b5, List.length_cons]
    refine ⟨rfl, rfl, ?_, ?_, rfl⟩
    · exact Nat.max_le.mpr ⟨a3, b3⟩
    · omega
theorem repr_rows {K : PySem.W.Frag} {H : Hp} {F : Addr} {xs : List R3} {Q : VK} (r : RsL H F xs) (h : ∀ x ∈ xs, XOk x) (k : ∀ x ∈ xs, IntOk (2 * xs.length) x) (hl : xs.length ≤ 2500) (q : Q (.str (PyData.list (xs.map dR3)).shown) H) : rReprD K [.ref F] H Q := by
  obtain ⟨b1, b2, b3, b4, b5⟩ := sh_rows (Nat.le_trans (by omega : 2 * xs.length ≤ 5000) (by decide)) h k
  obtain ⟨refs, e, p⟩ := r
  refine ⟨F, _, rfl, .lst (SqL.of e) (dp_rows3 h p), by simpa only [PyData.showable] using b1, by simpa only [PyData.hasDict] using b2, ?_, ?_, q⟩
  · simp only [PyData.depth]
    omega
  · have e := PyData.shown_le_bulk 64 (by decide) (.list (xs.map dR3)) (by simpa only [PyData.leavesShort] using b5)
    have e2 : (PyData.list (xs.map dR3)).bulk = PyData.bulkAll (xs.map dR3) := by simp only [PyData.bulk]
    have : sizeLine = 16777216 := by rw [sizeLine_eq]
    omega
/-! ### the law -/
abbrev Nlaw : List Str := ["_law_script", "_law_cell", "_law_env", "_law_kept"]
abbrev slaw : Stmt := top 100
theorem sclaw : FnScope ["_law_script", "_law_cell", "_law_env", "_law_kept"] ["_law_script"] (defScope slaw) := ⟨rfl, rfl, rfl, by decide +kernel, rfl, by decide +kernel, by decide +kernel⟩

abbrev shd : Stmt := top 88
theorem schd : FnScope ["_law_names"] ["_law_names"] (defScope shd) := ⟨rfl, rfl, rfl, by decide +kernel, rfl, by decide +kernel, by decide +kernel⟩

abbrev ksF : List Str := ["passes", "head", "rows"]
abbrev psF : List Str := ["rows", "head", "passes"]
structure LawT (P : Program) (w : World) (K : PySem.W.Frag) (mg : Str → Option Value) (base : Heap) : Prop where
  T : Txt mg
  C_source_of : Cal P w K mg base 1 "_law_source_of" ["_law_cell"] spSrc
  C_guarded : Cal P w K mg base 10 "_law_guarded" ["_law_env", "_law_deep"] (spGuard 2)
  C_body : Cal P w K mg base 9 "_law_body" ["_law_env", "_law_deep"] (spBody 2)
  C_put : Cal P w K mg base 2 "_law_put" ["_law_env", "_law_word", "_law_argument", "_law_due"] spPut
  C_flowed : Cal P w K mg base 6 "flowed" psF spFL5
  C_flowedK : CalKN P w K mg base 6 "flowed" psF ksF List.reverse spFL5
  C_head : Cal P w K mg base 1 "_law_head" ["_law_names"] spHead
section
variable {P : Program} {w : World} {K : PySem.W.Frag} {mg : Str → Option Value} {base : Heap} {f : Addr} {fd : FuncData}
theorem ok_hd (T : Txt mg) (F : FnP K "_law_head" "_law_head" shd f fd) : FnOk P w K mg base CX0 1 f fd ["_law_names"] spHead := by
  refine F.ok schd (fun vs H Q E h => ?_) (fun cdv A outer s H vs Q E hr h => ?_)
  · obtain ⟨L, xs, rfl, _⟩ := h
    rfl
  · obtain ⟨L, xs, rfl, hL, k⟩ := h
    refine ⟨_, PSs.nox (pss_one (ps_ret (pe_tup (pa_cons pe_str (pa_cons pe_str (pa_cons pe_str (pa_cons pe_int (pa_cons (pe_tup (pa_cons (pe_callTy call_tuple_d (by rfl) T.b_tuple (by decide +kernel) (pa_cons (pv 0) pa_nil)) (pa_cons (pe_tup pa_nil) (pa_cons pe_non (pa_cons pe_non pa_nil))))) (pa_cons (pe_tup pa_nil) (pa_cons (pe_tup pa_nil) (pa_cons pe_int pa_nil))))))))))), ?_⟩
    show (_ : TS) _ [some (.ref L)] H
    simp only [r_seq, r_next, r_brk, r_cont, r_asg, r_name, r_ret, r_retN, r_drop, r_ifs, r_never, r_var, r_c, r_op, r_un, r_if, r_tst, r_b, r_not, r_and, r_or, r_andV, r_orV, r_notV, r_nil, r_cons, r_tup, r_lst, r_cb, r_call, r_bm, r_bm0, r_sl, r_nopart, r_part, r_rev, r_gnil, r_gcons, r_gsub, r_par, r_aug, r_chain, r_I0, r_I, r_U, r_ixd, r_lend, r_tupd, r_listd, r_sld, r_app, r_ext, r_reverse, r_setl, r_cat, r_int1, r_eqS, r_neS, scal_ii, scal_bb, scal_ss, at0, at1, at2, sq_lst, sq_tup, isLst_lst, List.getElem?_cons_zero, List.getElem?_cons_succ, List.set_cons_zero, List.set_cons_succ, V.int.injEq, V.bl.injEq, V.ref.injEq, V.str.injEq, HO.lst.injEq, HO.tup.injEq, Option.some.injEq, exists_eq_left', exists_eq_left, List.cons.injEq, and_true, true_and, decide_eq_true_eq, reduceCtorEq, false_and, exists_false, or_false, false_or, exists_const, and_assoc, exists_and_left, List.append_nil, ix0, ix1, ix2, cm_mod, cdw1009, cdw2003, cdw7, cdw64, cdw2, cm104729, cm2, cm3, upd_same, List.length_cons, List.length_nil, Int.reduceLT, Int.reduceLE, Nat.reduceAdd, Nat.reduceLeDiff, Nat.reduceLT, Int.reduceToNat, r_for1, r_forL, r_forT, r_lcL, r_lc1, r_yes, r_gtupD, wipe_0, wipe_1, List.cons_append, List.nil_append, r_forS, r_ipI, ite_false, ite_true, Bool.not_true, Bool.not_false, decide_true, decide_false, r_isd, r_islt, cD_ty, cD_ref, tD_non, tD_bl, tD_int, tD_str, tD_ref, tH_lst, tH_tup, tH_dK, tH_ins, ki_self, ki_int_bool, ki_non_int, ki_str_int, ki_lt_lst, ki_lt_tup, r_fld, r_sfld, HO.ins.injEq, cx_K]
    refine ⟨_, hL, fun l h1 => ⟨Nat.zero_le _, fun p h2 => ⟨szl (by decide), fun p1 h3 => ⟨Nat.zero_le _, fun p2 h4 => ⟨Nat.zero_le _, fun p3 h5 => ⟨szl (by decide), fun p4 h6 => k _ _ ?_⟩⟩⟩⟩⟩⟩
    exact Same.new' (Same.new' (Same.new' (Same.new' (Same.new' (Same.new' (Same.refl H) h1) h2) h3) h4) h5) h6
abbrev Xlaw (P : Program) (w : World) (K : PySem.W.Frag) (mg : Str → Option Value) (base : Heap) (fa : Addr) (cdv : Value) (s : Shared) (H : Hp) : Cx := cxOf CX0 P w K mg base Nlaw "law" (defScope slaw) fa cdv callerA [] s H E0
def rSlS (K : PySem.W.Frag) : V → Option Int → Option Int → Hp → VK → Prop := fun x lo hi H Q => ∃ a xs, x = .ref a ∧ SqL K H a xs ∧ ∀ p, H p = none → Q (.ref p) (L2.upd H p (.lst (cutV xs lo hi)))
theorem sl_S {X : Cx} : L2.SlR X (rSlS X.K) := SlR.imp' (sl_list (X := X)) fun x lo hi H Q ⟨a, xs, e, h, q⟩ => ⟨a, xs, e, h, q⟩
theorem r_slS {K : PySem.W.Frag} {x : V} {lo hi : Option Int} {H : Hp} {Q : VK} : rSlS K x lo hi H Q = ∃ a xs, x = .ref a ∧ SqL K H a xs ∧ ∀ p, H p = none → Q (.ref p) (L2.upd H p (.lst (cutV xs lo hi))) := rfl
def t_ne1 (K : PySem.W.Frag) : TE := tOp (rNeD K) (tCall spFL5 [] E0 (tCons (tDGet (tVar 2) (tC (V.str (Str.ofString "rows")))) (tCons (tCall spHead [] E0 (tCons (tLst tNil) tNil)) (tCons (tC (V.bl false)) tNil)))) (tDGet (tVar 2) (tC (V.str (Str.ofString "due"))))
def t_ne2 (K : PySem.W.Frag) : TE := tOp (rNeD K) (tCallKN List.reverse ksF.length spFL5 (tCons (tC (V.bl false)) (tCons (tCall spHead [] E0 (tCons (tLst tNil) tNil)) (tCons (tCB rTupd (tCons (tDGet (tVar 2) (tC (V.str (Str.ofString "rows")))) tNil)) tNil)))) (tDGet (tVar 2) (tC (V.str (Str.ofString "due"))))
def t_rp (K : PySem.W.Frag) : TE := tCB (rReprD K) (tCons (tDGet (tVar 2) (tC (V.str (Str.ofString "rows")))) tNil)
def t_ret : TS := tRet (tC (V.bl false))
def t_disp : TE := tDisp [(tC (V.str (Str.ofString "source")), tCall spSrc [] E0 (tCons (tVar 1) tNil)), (tC (V.str (Str.ofString "rows")), tLst tNil), (tC (V.str (Str.ofString "due")), tLst tNil), (tC (V.str (Str.ofString "blocks")), tLst tNil), (tC (V.str (Str.ofString "line")), tC (V.int 0)), (tC (V.str (Str.ofString "new")), tC (V.int 0)), (tC (V.str (Str.ofString "height")), tC (V.int 0))]
def t_c3 (K : PySem.W.Frag) : TS := tSeq (tAsg (t_rp K) (gName 3)) (tSeq (tIfS (tTest (t_ne1 K)) t_ret tNext) (tSeq (tIfS (tTest (t_ne2 K)) t_ret tNext) (tIfS (tTest (tOp rNe (t_rp K) (tVar 3))) t_ret tNext)))
def t_c2 (K : PySem.W.Frag) : TS := tSeq (tDrop (tCall (spGuard 2) [] E0 (tCons (tVar 2) (tCons (tC (V.int 2)) tNil)))) (tSeq (tDrop (tCall (spBody 2) [] E0 (tCons (tVar 2) (tCons (tC (V.int 2)) tNil)))) (tSeq (tDrop (tCall spPut [] E0 (tCons (tVar 2) (tCons (tC (V.str (Str.ofString "LOAD_NAME"))) (tCons (tC (V.str (Str.ofString "z"))) (tCons (tC (V.str (Str.ofString "LOAD_NAME"))) tNil)))))) (tSeq (tDrop (tCall spPut [] E0 (tCons (tVar 2) (tCons (tC (V.str (Str.ofString "RETURN_VALUE"))) (tCons (tC V.non) (tCons (tC (V.str (Str.ofString "RETURN_VALUE"))) tNil)))))) (t_c3 K))))
def t_cell (K : PySem.W.Frag) : TS := tSeq (tAsg t_disp (gName 2)) (t_c2 K)
def t_law (K : PySem.W.Frag) : TS := tSeq (tFor (iList K (tOp rCat (tSl (rSlS K) (tVar 0) tNoPart (tPart (tC (V.int 3)))) (tLst (tCons (tC (V.int 0)) tNil)))) (gName 1) (t_cell K)) (tRet (tC (V.bl true)))
theorem law_reads {fa : Addr} {cdv : Value} {s : Shared} {H : Hp} (L : LawT P w K mg base) (hr : Room 11 (Xlaw P w K mg base fa cdv s H).nox.A) :
    PSs (Xlaw P w K mg base fa cdv s H).nox (defBody slaw) (t_law (Xlaw P w K mg base fa cdv s H).nox.K) := by
  have T := L.T
  have C_source_of := L.C_source_of
  have C_guarded := L.C_guarded
  have C_body := L.C_body
  have C_put := L.C_put
  have C_flowed := L.C_flowed
  have C_flowedK := L.C_flowedK
  have C_head := L.C_head
  have hu := hu64 hr
  have hu1 : (Xlaw P w K mg base fa cdv s H).nox.A.units + 1 < cLine := by omega
  unfold t_law t_cell t_c2 t_c3 t_disp t_ne1 t_ne2 t_rp t_ret
  exact (pss_cons (ps_for PassesOwn.never rfl (pi_list (pe_op op_cat (pe_slice sl_S (pv 0) po_none (po_some pe_int)) (pe_lst (pa_cons pe_int pa_nil)))) (pg_name (i := 1) sclaw.nd rfl (Or.inl rfl))
    (pss_cons (ps_set (i := 2) sclaw.nd rfl (Or.inl rfl) (pe_disp (pps_cons pe_str (pe_cal C_source_of (hr.mono (by decide)) rfl (pa_cons (pv 1) pa_nil)) (pps_cons pe_str (pe_lst pa_nil) (pps_cons pe_str (pe_lst pa_nil) (pps_cons pe_str (pe_lst pa_nil) (pps_cons pe_str pe_int (pps_cons pe_str pe_int (pps_cons pe_str pe_int pps_nil))))))) (by rfl) (by rfl) (fun z => by cases z) (by decide)))
  (pss_cons (ps_expr (pe_cal C_guarded (hr.mono (by decide)) rfl (pa_cons (pv 2) (pa_cons pe_int pa_nil))))
  (pss_cons (ps_expr (pe_cal C_body (hr.mono (by decide)) rfl (pa_cons (pv 2) (pa_cons pe_int pa_nil))))
  (pss_cons (ps_expr (pe_cal C_put (hr.mono (by decide)) rfl (pa_cons (pv 2) (pa_cons pe_str (pa_cons pe_str (pa_cons pe_str pa_nil))))))
  (pss_cons (ps_expr (pe_cal C_put (hr.mono (by decide)) rfl (pa_cons (pv 2) (pa_cons pe_str (pa_cons pe_non (pa_cons pe_str pa_nil))))))
  (pss_cons (ps_set (i := 3) sclaw.nd rfl (Or.inl rfl) (pe_callB (call_repr_D rfl (by omega)) (by rfl) T.b_repr (by decide +kernel) (pa_cons (pe_dget hu1 (pv 2) pe_str (fun _ _ => rfl)) pa_nil)))
  (pss_cons (ps_if (pt_cmpR (op_neD hu) (pe_cal C_flowed (hr.mono (by decide)) rfl (pa_cons (pe_dget hu1 (pv 2) pe_str (fun _ _ => rfl)) (pa_cons (pe_cal C_head (hr.mono (by decide)) rfl (pa_cons (pe_lst pa_nil) pa_nil)) (pa_cons pe_bl pa_nil)))) (pe_dget hu1 (pv 2) pe_str (fun _ _ => rfl)) (nomark _))
    (pss_one (ps_ret pe_bl))
    pss_nil)
  (pss_cons (ps_if (pt_cmpR (op_neD hu) (pe_calKN C_flowedK (hr.mono (by decide)) rfl (pk_cons pe_bl (pk_cons (pe_cal C_head (hr.mono (by decide)) rfl (pa_cons (pe_lst pa_nil) pa_nil)) (pk_cons (pe_callTy call_tuple_d (by rfl) T.b_tuple (by decide +kernel) (pa_cons (pe_dget hu1 (pv 2) pe_str (fun _ _ => rfl)) pa_nil)) pk_nil)))) (pe_dget hu1 (pv 2) pe_str (fun _ _ => rfl)) (nomark _))
    (pss_one (ps_ret pe_bl))
    pss_nil)
  (pss_one (ps_if (pt_cmpR op_ne (pe_callB (call_repr_D rfl (by omega)) (by rfl) T.b_repr (by decide +kernel) (pa_cons (pe_dget hu1 (pv 2) pe_str (fun _ _ => rfl)) pa_nil)) (pv 3) (nomark _))
    (pss_one (ps_ret pe_bl))
    pss_nil)))))))))))
  (pss_one (ps_ret pe_bl)))
theorem c3_run {K : PySem.W.Frag} {D : Ends} {b : V} {n : Int} {a : Ad} {s : Ls} {d : Int} {v3 : Option V} {H : Hp} (A : At H a s) (I : Inv s [] false d) (N : Nm s) (hl : s.rows.length ≤ 2500) (h1 : ∃ x ∈ s.rows, x.w ∈ SW) (h2 : ∃ x ∈ s.rows, x.w = "LABEL") (k : ∀ v3 H', KpA a H H' → D.nx [some b, some (.int n), some (.ref a.E), v3] H') : t_c3 K D [some b, some (.int n), some (.ref a.E), v3] H := by
  unfold t_c3 t_rp t_ne1 t_ne2 t_ret
  have out := I.out
  have fl : ∀ {F : Addr} {v : V} {H : Hp} {Q : VK}, Rs3 H F s.rows → (∀ D H', Same H H' → Rs5 H' D s.due → Q (.ref D) H') → spFL5 [.ref F, v, .bl false] H Q E0 := fun {F v H Q} hF k => fl_of I h1 h2 (by omega) hF k
  have rp : ∀ {H : Hp} {Q : VK}, At H a s → Q (.str (PyData.list (s.rows.map dR3)).shown) H → rReprD K [.ref a.R] H Q := fun {H Q} A q => repr_rows A.r I.ok N.x hl q
  have rs3 : ∀ {H : Hp}, At H a s → Rs3 H a.R s.rows := fun {H} A => by
    obtain ⟨rs, e, q⟩ := A.r
    exact ⟨rs, by rw [e]; rfl, q⟩
  generalize (PyData.list (s.rows.map dR3)).shown = tx at *
  simp only [r_seq, r_next, r_brk, r_cont, r_asg, r_name, r_ret, r_retN, r_drop, r_ifs, r_never, r_var, r_c, r_op, r_un, r_if, r_tst, r_b, r_not, r_and, r_or, r_andV, r_orV, r_notV, r_nil, r_cons, r_tup, r_lst, r_cb, r_call, r_bm, r_bm0, r_sl, r_nopart, r_part, r_rev, r_gnil, r_gcons, r_gsub, r_par, r_aug, r_chain, r_I0, r_I, r_U, r_ixd, r_lend, r_tupd, r_listd, r_sld, r_app, r_ext, r_reverse, r_setl, r_cat, r_int1, r_eqS, r_neS, scal_ii, scal_bb, scal_ss, at0, at1, at2, sq_lst, sq_tup, isLst_lst, List.getElem?_cons_zero, List.getElem?_cons_succ, List.set_cons_zero, List.set_cons_succ, V.int.injEq, V.bl.injEq, V.ref.injEq, V.str.injEq, HO.lst.injEq, HO.tup.injEq, Option.some.injEq, exists_eq_left', exists_eq_left, List.cons.injEq, and_true, true_and, decide_eq_true_eq, reduceCtorEq, false_and, exists_false, or_false, false_or, exists_const, and_assoc, exists_and_left, List.append_nil, ix0, ix1, ix2, cm_mod, cdw1009, cdw2003, cdw7, cdw64, cdw2, cm104729, cm2, cm3, upd_same, List.length_cons, List.length_nil, Int.reduceLT, Int.reduceLE, Nat.reduceAdd, Nat.reduceLeDiff, Nat.reduceLT, Int.reduceToNat, r_for1, r_forL, r_forT, r_lcL, r_lc1, r_yes, r_gtupD, wipe_0, wipe_1, List.cons_append, List.nil_append, r_forS, r_ipI, ite_false, ite_true, Bool.not_true, Bool.not_false, decide_true, decide_false, r_isd, r_islt, cD_ty, cD_ref, tD_non, tD_bl, tD_int, tD_str, tD_ref, tH_lst, tH_tup, tH_dK, tH_ins, ki_self, ki_int_bool, ki_non_int, ki_str_int, ki_lt_lst, ki_lt_tup, r_fld, r_sfld, HO.ins.injEq, cx_K, r_dget, r_callKN]
  refine ⟨_, A.get_rows, rp A ?_⟩
  refine ⟨_, A.get_rows, Nat.zero_le _, fun p hp => ?_⟩
  have s1 := Same.new' (o := .lst []) (Same.refl H) hp
  have ep : L2.upd H p (.lst []) p = some (.lst []) := upd_same
  obtain ⟨A1, K1⟩ := A.same s1
  generalize L2.upd H p (.lst []) = H1 at *
  refine ⟨p, [], rfl, ep, fun v H2 s2 => ?_⟩
  obtain ⟨A2, K2⟩ := A1.same s2
  refine fl (rs3 A2) fun D1 H3 s3 r3 => ?_
  obtain ⟨A3, K3⟩ := A2.same s3
  refine ⟨_, A3.get_due, ne_rows out r3 A3.d ⟨_, rfl, ?_⟩⟩
  rw [if_neg (by decide)]
  refine ⟨Nat.zero_le _, fun p4 hp4 => ?_⟩
  have s4 := Same.new' (o := .lst []) (Same.refl H3) hp4
  have ep4 : L2.upd H3 p4 (.lst []) p4 = some (.lst []) := upd_same
  obtain ⟨A4, K4⟩ := A3.same s4
  generalize L2.upd H3 p4 (.lst []) = H4 at *
  refine ⟨p4, [], rfl, ep4, fun v H5 s5 => ?_⟩
  obtain ⟨A5, K5⟩ := A4.same s5
  obtain ⟨rs, eR, pR⟩ := A5.r
  refine ⟨_, A5.get_rows, _, rfl, _, eR, fun p6 hp6 => ?_⟩
  have s6 := Same.new' (o := .tup (rs.map V.ref)) (Same.refl H5) hp6
  have e6 : L2.upd H5 p6 (.tup (rs.map V.ref)) p6 = some (.tup (rs.map V.ref)) := upd_same
  obtain ⟨A6, K6⟩ := A5.same s6
  generalize L2.upd H5 p6 (.tup (rs.map V.ref)) = H6 at *
  show spFL5 [.ref p6, v, .bl false] _ _ _
  refine fl ⟨rs, by rw [e6]; rfl, Paired.map' pR fun b x e => s6 _ _ e⟩ fun D2 H7 s7 r7 => ?_
  obtain ⟨A7, K7⟩ := A6.same s7
  refine ⟨_, A7.get_due, ne_rows out r7 A7.d ⟨_, rfl, ?_⟩⟩
  rw [if_neg (by decide)]
  refine ⟨_, A7.get_rows, rp A7 ⟨rfl, ?_⟩⟩
  rw [if_neg (by rw [decide_eq_true rfl]; decide)]
  exact k _ H7 ((((((K1.trans K2).trans K3).trans K4).trans K5).trans K6).trans K7)
theorem inv_zero : Inv ⟨[], [], [], 0, 0, 0⟩ [] true 0 :=
  ⟨fun x h => (nomatch h), fun i x h => (by cases h), ⟨trivial, (fun n h => (nomatch h)), List.nodup_nil, fun n h => ⟨rfl, fun y hy => (nomatch hy)⟩, (fun q h => (nomatch h)), (fun y h => (nomatch h)), rfl, (fun y h => (nomatch h)), (fun i y h => by cases h), Int.le_refl _⟩, rfl, fun _ => ⟨rfl, rfl⟩⟩
theorem nm_zero : Nm ⟨[], [], [], 0, 0, 0⟩ := ⟨Int.le_refl _, Int.le_refl _, Int.le_refl _, fun x h => (nomatch h)⟩
theorem c2_run {K : PySem.W.Frag} {D : Ends} {b : V} {n : Int} {a : Ad} {v3 : Option V} {H : Hp} (A : At H a ⟨[], [], [], 0, 0, 0⟩) (k : ∀ v3 H', KpA a H H' → D.nx [some b, some (.int n), some (.ref a.E), v3] H') : t_c2 K D [some b, some (.int n), some (.ref a.E), v3] H := by
  unfold t_c2
  simp only [r_seq, r_next, r_brk, r_cont, r_asg, r_name, r_ret, r_retN, r_drop, r_ifs, r_never, r_var, r_c, r_op, r_un, r_if, r_tst, r_b, r_not, r_and, r_or, r_andV, r_orV, r_notV, r_nil, r_cons, r_tup, r_lst, r_cb, r_call, r_bm, r_bm0, r_sl, r_nopart, r_part, r_rev, r_gnil, r_gcons, r_gsub, r_par, r_aug, r_chain, r_I0, r_I, r_U, r_ixd, r_lend, r_tupd, r_listd, r_sld, r_app, r_ext, r_reverse, r_setl, r_cat, r_int1, r_eqS, r_neS, scal_ii, scal_bb, scal_ss, at0, at1, at2, sq_lst, sq_tup, isLst_lst, List.getElem?_cons_zero, List.getElem?_cons_succ, List.set_cons_zero, List.set_cons_succ, V.int.injEq, V.bl.injEq, V.ref.injEq, V.str.injEq, HO.lst.injEq, HO.tup.injEq, Option.some.injEq, exists_eq_left', exists_eq_left, List.cons.injEq, and_true, true_and, decide_eq_true_eq, reduceCtorEq, false_and, exists_false, or_false, false_or, exists_const, and_assoc, exists_and_left, List.append_nil, ix0, ix1, ix2, cm_mod, cdw1009, cdw2003, cdw7, cdw64, cdw2, cm104729, cm2, cm3, upd_same, List.length_cons, List.length_nil, Int.reduceLT, Int.reduceLE, Nat.reduceAdd, Nat.reduceLeDiff, Nat.reduceLT, Int.reduceToNat, r_for1, r_forL, r_forT, r_lcL, r_lc1, r_yes, r_gtupD, wipe_0, wipe_1, List.cons_append, List.nil_append, r_forS, r_ipI, ite_false, ite_true, Bool.not_true, Bool.not_false, decide_true, decide_false, r_isd, r_islt, cD_ty, cD_ref, tD_non, tD_bl, tD_int, tD_str, tD_ref, tH_lst, tH_tup, tH_dK, tH_ins, ki_self, ki_int_bool, ki_non_int, ki_str_int, ki_lt_lst, ki_lt_tup, r_fld, r_sfld, HO.ins.injEq, cx_K]
  refine ⟨a, _, [], rfl, A, inv_zero, by decide, by decide, fun s1 H1 P1 T1 has K1 A1 => ?_⟩
  have e1 : s1.height = 0 := P1.ht
  have b1 : s1.bl = [] := P1.bl
  have l1 : s1.rows.length ≤ 0 + 1380 := P1.len
  refine ⟨a, s1, [], rfl, A1, by rw [e1]; exact P1.inv, (show s1.rows.length + 684 ≤ _ by omega), by rw [b1]; decide, fun s2 H2 P2 T2 K2 A2 => ?_⟩
  have b2 : s2.bl = [] := by rw [P2.bl, b1]
  have l2 : s2.rows.length ≤ s1.rows.length + 684 := P2.len
  have d2 := P2.inv.due_len
  refine ⟨a, s2, _, _, _, rfl, A2, ⟨by omega, by omega, by rw [b2]; decide⟩, fun H3 K3 A3 => ?_⟩
  obtain ⟨P3, T3⟩ := pt_load (z := "z") P2.inv (by decide +kernel)
  have A3 : At H3 a (loadF s2 "z") := A3
  have b3 : (loadF s2 "z").bl = [] := b2
  have l3 := P3.len
  have d3 := P3.inv.due_len
  have N3 := P3.nm (P2.nm (P1.nm nm_zero))
  obtain ⟨x2, ex2⟩ := P2.pre
  obtain ⟨x3, ex3⟩ := P3.pre
  have I3 := P3.inv
  have has3 : (∃ x ∈ (loadF s2 "z").rows, x.w ∈ SW) ∧ ∃ x ∈ (loadF s2 "z").rows, x.w = "LABEL" := by
    obtain ⟨⟨x, hx, w⟩, y, hy, w'⟩ := has
    rw [ex3, ex2]
    exact ⟨⟨x, by simp [hx], w⟩, y, by simp [hy], w'⟩
  generalize loadF s2 "z" = s3 at *
  refine ⟨a, s3, _, _, _, rfl, A3, ⟨by omega, by omega, by rw [b3]; decide⟩, fun H4 K4 A4 => ?_⟩
  have hR : ("RETURN_VALUE" : Str) ∈ PW := by decide
  have ar : argR (Gs s3) ⟨"RETURN_VALUE", .non, some (s3.line + 1)⟩ = .non := if_neg fun q => absurd q.1 (by show ¬ ("RETURN_VALUE" : Str) = "RESUME"; decide)
  obtain ⟨I4, _⟩ := inv_row (x := ⟨"RETURN_VALUE", .non, some (s3.line + 1)⟩) I3 hR (xok_plain hR (.inl rfl) fun e => absurd e (by decide)) (fun e => by cases e) (s3.line + 1) s3.height
  rw [ar] at I4
  have I4 : Inv (putF s3 "RETURN_VALUE" .non "RETURN_VALUE") [] (!leaving "RETURN_VALUE") _ := I4
  rw [show (!leaving "RETURN_VALUE") = false by decide] at I4
  have q0 := N3.l0
  have q1 := N3.l1
  have N4 : Nm (putF s3 "RETURN_VALUE" .non "RETURN_VALUE") := by
    refine nm_app N3 (xs := [⟨"RETURN_VALUE", .non, some (s3.line + 1)⟩]) rfl (by show s3.line ≤ s3.line + 1; omega) (by show s3.line + 1 ≤ s3.line + 1; omega) (by show s3.new ≤ s3.new + 2; omega) fun y hy => ?_
    rw [List.mem_singleton.mp hy]
    exact io_non (lo_s (by omega) (by show s3.line + 1 ≤ ((2 * (s3.rows.length + 1) : Nat) : Int); omega))
  obtain ⟨⟨x, hx, w⟩, y, hy, w'⟩ := has3
  refine c3_run A4 I4 N4 (by show (s3.rows ++ [_]).length ≤ _; rw [List.length_append, List.length_singleton]; omega) ⟨x, List.mem_append.mpr (.inl hx), w⟩ ⟨y, List.mem_append.mpr (.inl hy), w'⟩ fun v3 H' K5 => k v3 H' ((((K1.trans K2).trans K3).trans K4).trans K5)
theorem cell_run {K : PySem.W.Frag} {D : Ends} {b : V} {n : Int} {v2 v3 : Option V} {H : Hp} (k : ∀ v2 v3 H', Same H H' → D.nx [some b, some (.int n), v2, v3] H') : t_cell K D [some b, some (.int n), v2, v3] H := by
  unfold t_cell t_disp
  simp only [r_seq, r_next, r_brk, r_cont, r_asg, r_name, r_ret, r_retN, r_drop, r_ifs, r_never, r_var, r_c, r_op, r_un, r_if, r_tst, r_b, r_not, r_and, r_or, r_andV, r_orV, r_notV, r_nil, r_cons, r_tup, r_lst, r_cb, r_call, r_bm, r_bm0, r_sl, r_nopart, r_part, r_rev, r_gnil, r_gcons, r_gsub, r_par, r_aug, r_chain, r_I0, r_I, r_U, r_ixd, r_lend, r_tupd, r_listd, r_sld, r_app, r_ext, r_reverse, r_setl, r_cat, r_int1, r_eqS, r_neS, scal_ii, scal_bb, scal_ss, at0, at1, at2, sq_lst, sq_tup, isLst_lst, List.getElem?_cons_zero, List.getElem?_cons_succ, List.set_cons_zero, List.set_cons_succ, V.int.injEq, V.bl.injEq, V.ref.injEq, V.str.injEq, HO.lst.injEq, HO.tup.injEq, Option.some.injEq, exists_eq_left', exists_eq_left, List.cons.injEq, and_true, true_and, decide_eq_true_eq, reduceCtorEq, false_and, exists_false, or_false, false_or, exists_const, and_assoc, exists_and_left, List.append_nil, ix0, ix1, ix2, cm_mod, cdw1009, cdw2003, cdw7, cdw64, cdw2, cm104729, cm2, cm3, upd_same, List.length_cons, List.length_nil, Int.reduceLT, Int.reduceLE, Nat.reduceAdd, Nat.reduceLeDiff, Nat.reduceLT, Int.reduceToNat, r_for1, r_forL, r_forT, r_lcL, r_lc1, r_yes, r_gtupD, wipe_0, wipe_1, List.cons_append, List.nil_append, r_forS, r_ipI, ite_false, ite_true, Bool.not_true, Bool.not_false, decide_true, decide_false, r_isd, r_islt, cD_ty, cD_ref, tD_non, tD_bl, tD_int, tD_str, tD_ref, tH_lst, tH_tup, tH_dK, tH_ins, ki_self, ki_int_bool, ki_non_int, ki_str_int, ki_lt_lst, ki_lt_tup, r_fld, r_sfld, HO.ins.injEq, cx_K]
  intro p hp
  simp only [L2.tPairs, r_seq, r_next, r_brk, r_cont, r_asg, r_name, r_ret, r_retN, r_drop, r_ifs, r_never, r_var, r_c, r_op, r_un, r_if, r_tst, r_b, r_not, r_and, r_or, r_andV, r_orV, r_notV, r_nil, r_cons, r_tup, r_lst, r_cb, r_call, r_bm, r_bm0, r_sl, r_nopart, r_part, r_rev, r_gnil, r_gcons, r_gsub, r_par, r_aug, r_chain, r_I0, r_I, r_U, r_ixd, r_lend, r_tupd, r_listd, r_sld, r_app, r_ext, r_reverse, r_setl, r_cat, r_int1, r_eqS, r_neS, scal_ii, scal_bb, scal_ss, at0, at1, at2, sq_lst, sq_tup, isLst_lst, List.getElem?_cons_zero, List.getElem?_cons_succ, List.set_cons_zero, List.set_cons_succ, V.int.injEq, V.bl.injEq, V.ref.injEq, V.str.injEq, HO.lst.injEq, HO.tup.injEq, Option.some.injEq, exists_eq_left', exists_eq_left, List.cons.injEq, and_true, true_and, decide_eq_true_eq, reduceCtorEq, false_and, exists_false, or_false, false_or, exists_const, and_assoc, exists_and_left, List.append_nil, ix0, ix1, ix2, cm_mod, cdw1009, cdw2003, cdw7, cdw64, cdw2, cm104729, cm2, cm3, upd_same, List.length_cons, List.length_nil, Int.reduceLT, Int.reduceLE, Nat.reduceAdd, Nat.reduceLeDiff, Nat.reduceLT, Int.reduceToNat, r_for1, r_forL, r_forT, r_lcL, r_lc1, r_yes, r_gtupD, wipe_0, wipe_1, List.cons_append, List.nil_append, r_forS, r_ipI, ite_false, ite_true, Bool.not_true, Bool.not_false, decide_true, decide_false, r_isd, r_islt, cD_ty, cD_ref, tD_non, tD_bl, tD_int, tD_str, tD_ref, tH_lst, tH_tup, tH_dK, tH_ins, ki_self, ki_int_bool, ki_non_int, ki_str_int, ki_lt_lst, ki_lt_tup, r_fld, r_sfld, HO.ins.injEq, cx_K]
  refine ⟨n, rfl, fun S H2 hS s1 S1 => ⟨Nat.zero_le _, fun R hR => ⟨Nat.zero_le _, fun Du hDu => ⟨Nat.zero_le _, fun B hB => ?_⟩⟩⟩⟩
  have e0 : L2.upd H p (.dK []) p = some (.dK []) := upd_same
  have s0 : Same H (L2.upd H p (.dK [])) := Same.new' (Same.refl H) hp
  have hS0 : H S = none := by
    cases q : H S with
    | none => rfl
    | some o => rw [s0 _ _ q] at hS; cases hS
  have pS : p ≠ S := fun z => by rw [← z, e0] at hS; cases hS
  have e2 := s1 _ _ e0
  have fr2 : ∀ {x : Addr}, H2 x = none → H x = none := fun {x} hx => by
    cases q : H x with
    | none => rfl
    | some o => rw [s1 _ _ (s0 _ _ q)] at hx; cases hx
  have pR : p ≠ R := fun z => by rw [← z, e2] at hR; cases hR
  have SR : S ≠ R := S1.ne hR |>.symm
  have s3 := Same.new' (o := .lst []) (Same.refl H2) hR
  have e3 : L2.upd H2 R (.lst []) R = some (.lst []) := upd_same
  have s4 := Same.new' (o := .lst []) (Same.refl (L2.upd H2 R (.lst []))) hDu
  have e4 : L2.upd (L2.upd H2 R (.lst [])) Du (.lst []) Du = some (.lst []) := upd_same
  have pD : p ≠ Du := fun z => by rw [← z, s3 _ _ e2] at hDu; cases hDu
  have SD : S ≠ Du := ((S1.new (o := .lst []) hR).ne hDu).symm
  have RD : R ≠ Du := fun z => by rw [← z, e3] at hDu; cases hDu
  have fr3 : H2 Du = none := by
    cases q : H2 Du with
    | none => rfl
    | some o => rw [s3 _ _ q] at hDu; cases hDu
  have s5 := Same.new' (o := .lst []) (Same.refl (L2.upd (L2.upd H2 R (.lst [])) Du (.lst []))) hB
  have e5 : L2.upd (L2.upd (L2.upd H2 R (.lst [])) Du (.lst [])) B (.lst []) B = some (.lst []) := upd_same
  have pB : p ≠ B := fun z => by rw [← z, s4 _ _ (s3 _ _ e2)] at hB; cases hB
  have SB : S ≠ B := (((S1.new (o := .lst []) hR).new (o := .lst []) hDu).ne hB).symm
  have RB : R ≠ B := fun z => by rw [← z, s4 _ _ e3] at hB; cases hB
  have DB : Du ≠ B := fun z => by rw [← z, e4] at hB; cases hB
  have fr4 : H2 B = none := by
    cases q : H2 B with
    | none => rfl
    | some o => rw [s4 _ _ (s3 _ _ q)] at hB; cases hB
  have S25 : Same H2 (L2.upd (L2.upd (L2.upd H2 R (.lst [])) Du (.lst [])) B (.lst [])) := fun b o e => s5 _ _ (s4 _ _ (s3 _ _ e))
  have eR := s5 _ _ (s4 _ _ e3)
  have eD := s5 _ _ e4
  generalize L2.upd (L2.upd (L2.upd H2 R (.lst [])) Du (.lst [])) B (.lst []) = H5 at *
  refine ⟨S25 _ _ e2, envK ⟨S, R, Du, B, 0, 0, 0⟩, rfl, (by show 7 ≤ 15; decide), ?_⟩
  have em : mergeK [] (envK ⟨S, R, Du, B, 0, 0, 0⟩) = envK ⟨S, R, Du, B, 0, 0, 0⟩ := by rfl
  rw [em]
  obtain ⟨x, y, z, eS⟩ := S1
  have A : At (L2.upd H5 p (.dK (envK ⟨S, R, Du, B, 0, 0, 0⟩))) ⟨p, S, R, Du, B⟩ ⟨[], [], [], 0, 0, 0⟩ :=
    ⟨upd_same, ⟨x, y, z, by rw [upd_ne pS.symm]; exact S25 _ _ eS⟩, ⟨[], by rw [upd_ne pR.symm]; exact eR, .nil⟩, ⟨[], by rw [upd_ne pD.symm]; exact eD, .nil⟩, ⟨[], by rw [upd_ne pB.symm]; exact e5, .nil⟩, ⟨pS, pR, pD, pB, SR, SD, SB, RD, RB, DB⟩⟩
  refine c2_run A fun v3 H' K' => k _ _ H' fun b o e => ?_
  have nz : ∀ {q : Addr}, H q = none → b ≠ q := fun {q} h w => by rw [w, h] at e; cases e
  refine K' b o (nz hp) (nz hS0) (nz (fr2 hR)) (nz (fr2 fr3)) (nz (fr2 fr4)) ?_
  rw [upd_ne (nz hp)]
  exact S25 _ _ (s1 _ _ (s0 _ _ e))
theorem law_run {K : PySem.W.Frag} {a : Addr} {H : Hp} {ns : List Int} (hS : SqL K H a (ns.map V.int)) (hn : ns.length ≤ 1000) :
    t_law K { nx := fun _ H' => (fun v (_ : Hp) => v = V.bl true) .non H', rt := fun v _ => v = .bl true } (L2.start Nlaw [.ref a]) H := by
  unfold t_law
  show tSeq _ _ _ [some (.ref a), none, none, none] H
  rw [r_seq, r_forL]
  simp only [r_seq, r_next, r_brk, r_cont, r_asg, r_name, r_ret, r_retN, r_drop, r_ifs, r_never, r_var, r_c, r_op, r_un, r_if, r_tst, r_b, r_not, r_and, r_or, r_andV, r_orV, r_notV, r_nil, r_cons, r_tup, r_lst, r_cb, r_call, r_bm, r_bm0, r_sl, r_nopart, r_part, r_rev, r_gnil, r_gcons, r_gsub, r_par, r_aug, r_chain, r_I0, r_I, r_U, r_ixd, r_lend, r_tupd, r_listd, r_sld, r_app, r_ext, r_reverse, r_setl, r_cat, r_int1, r_eqS, r_neS, scal_ii, scal_bb, scal_ss, at0, at1, at2, sq_lst, sq_tup, isLst_lst, List.getElem?_cons_zero, List.getElem?_cons_succ, List.set_cons_zero, List.set_cons_succ, V.int.injEq, V.bl.injEq, V.ref.injEq, V.str.injEq, HO.lst.injEq, HO.tup.injEq, Option.some.injEq, exists_eq_left', exists_eq_left, List.cons.injEq, and_true, true_and, decide_eq_true_eq, reduceCtorEq, false_and, exists_false, or_false, false_or, exists_const, and_assoc, exists_and_left, List.append_nil, ix0, ix1, ix2, cm_mod, cdw1009, cdw2003, cdw7, cdw64, cdw2, cm104729, cm2, cm3, upd_same, List.length_cons, List.length_nil, Int.reduceLT, Int.reduceLE, Nat.reduceAdd, Nat.reduceLeDiff, Nat.reduceLT, Int.reduceToNat, r_for1, r_forL, r_forT, r_lcL, r_lc1, r_yes, r_gtupD, wipe_0, wipe_1, List.cons_append, List.nil_append, r_forS, r_ipI, ite_false, ite_true, Bool.not_true, Bool.not_false, decide_true, decide_false, r_isd, r_islt, cD_ty, cD_ref, tD_non, tD_bl, tD_int, tD_str, tD_ref, tH_lst, tH_tup, tH_dK, tH_ins, ki_self, ki_int_bool, ki_non_int, ki_str_int, ki_lt_lst, ki_lt_tup, r_fld, r_sfld, HO.ins.injEq, cx_K, r_slS]
  refine ⟨_, hS, fun p h0 => ?_⟩
  have isI : ∀ x ∈ cutV (ns.map V.int) none (some 3), ∃ n : Int, x = .int n := by
    intro x hx
    unfold cutV at hx
    obtain ⟨n, _, e⟩ := List.mem_map.mp (List.mem_of_mem_drop (List.mem_of_mem_take hx))
    exact ⟨n, e.symm⟩
  have lc := cutV_length (ns.map V.int) none (some 3)
  rw [List.length_map] at lc
  generalize cutV (ns.map V.int) none (some 3) = cs at *
  have e0 : L2.upd H p (.lst cs) p = some (.lst cs) := upd_same
  generalize L2.upd H p (.lst cs) = H1 at *
  refine ⟨szl (by decide), fun p1 h1 => ?_⟩
  have e1 : L2.upd H1 p1 (.lst [.int 0]) p = some (.lst cs) := by rw [upd_ne (ne_new e0 h1)]; exact e0
  generalize L2.upd H1 p1 (.lst [.int 0]) = H2 at *
  refine ⟨_, e1, Nat.le_trans (by omega : _ ≤ 1001) (by decide), fun p2 h2 => ?_⟩
  have e2 : L2.upd H2 p2 (.lst (cs ++ [.int 0])) p2 = some (.lst (cs ++ [.int 0])) := upd_same
  have in5 : ∀ x ∈ cs ++ [V.int 0], ∃ n : Int, x = .int n := by
    intro x hx
    rcases List.mem_append.mp hx with h | h
    · exact isI x h
    · exact ⟨0, List.mem_singleton.mp h⟩
  generalize cs ++ [V.int 0] = xs at *
  show (∃ ys, SqL K (L2.upd H2 p2 (.lst xs)) p2 ys) ∧ LoopR _ _ _ _ _ (L2.upd H2 p2 (.lst xs))
  generalize L2.upd H2 p2 (.lst xs) = H3 at *
  refine ⟨⟨_, SqL.of e2⟩, lp_list (xs := xs) (fun i σ H' => (∃ v1 v2 v3, σ = [some (.ref a), v1, v2, v3]) ∧ Same H3 H') ⟨⟨_, _, _, rfl⟩, Same.refl H3⟩ (fun i σ H' _ h => SqL.of (h.2 _ _ e2)) ?_ ?_⟩
  · rintro i x σ H' hx ⟨⟨v1, v2, v3, rfl⟩, e⟩
    obtain ⟨n, rfl⟩ := in5 x (List.mem_of_getElem? hx)
    show t_cell K _ [some (.ref a), some (.int n), v2, v3] H'
    exact cell_run fun w2 w3 H2 e2 => ⟨⟨_, _, _, rfl⟩, fun y o q => e2 y o (e y o q)⟩
  · rintro σ H' ⟨⟨v1, v2, v3, rfl⟩, e⟩
    rfl
end
/-- the law runs well -/
theorem law_runs {P : Program} {w : World} {K : PySem.W.Frag} {mg : Str → Option Value} {fa a : Addr} {cdv : Value} {s : Shared} {ns : List Int} {oc : Value} {od : Option Addr} {dV kV doc pm ct : Value} {an : Option Addr} {osl : Array (Option Value)}
    (L : ∀ base, LawT P w K mg base) (lk : K.lookup fa = some ⟨oc, od, .func (PySem.W.fnOf "law" "law" (defArgs slaw) (defBody slaw) (defScope slaw) dV kV doc pm an cdv ct), osl⟩) (hcd : PySem.W.codeIn K cdv "law" = true)
    (bind : ∀ (s : Shared) (v : Value), BindsTo s (PySem.W.fnOf "law" "law" (defArgs slaw) (defBody slaw) (defScope slaw) dV kV doc pm an cdv ct) ⟨[v], []⟩ [("_law_script", v)]) (hn : ns.length ≤ 1000) : RunsAt P w K mg [] fa a s ns := by
  intro base H KB nsB TB e0 hT hS
  refine LamX.run_ofS (N := Nlaw) (ps := ["_law_script"]) (us := [.ref a]) (vs := [.ref a]) lk hcd sclaw (k := 11) ⟨rfl, by decide, by decide⟩ e0 (bind s (.ref a)) (.cons rfl .nil) rfl fun hr => ?_
  refine ⟨_, (law_reads (L base) hr).nox, ?_⟩
  exact law_run hS hn
end C31

set_option maxHeartbeats 4000000
namespace C31
open PySem PySem.Spec PyProof.Rows L2
/-! ### what the head's facts say -/
theorem tupIn_ok {K : PySem.W.Frag} {a : Addr} {us : List Value} {xs : List V} (h : tupIn K a = some us) (hv : Vals xs us) (hl : us.length ≤ 1000) : KTup K a xs := by
  unfold tupIn at h
  split at h
  · rename_i t dd its n ss e
    split at h
    · rename_i ht
      cases h
      refine ⟨_, its, n, e, by rw [ht], rfl, szl (by simpa using hl), hv⟩
    · cases h
  · cases h
theorem in_one {K : PySem.W.Frag} {x z : Str} {b : Bool} (h : inB K x (z, b) = true) : ∃ o, PySem.W.nsIn K (He.ga K x) z = some o ∧ o.isSome = b := by
  unfold inB at h
  dsimp only at h
  split at h
  · rename_i r e
    exact ⟨r, e, beq_iff_eq.mp h⟩
  · cases h
theorem in_ok {K : PySem.W.Frag} {w : World} {mg : Str → Option Value} {x : Str} {f : Str → Bool} {l : List (Str × Bool)} (kd : ∃ es n, KDict K w (He.ga K x) es n) (g : mg x = some (.ref (He.ga K x))) (h : l.all (inB K x) = true) (hl : l = FW.map fun z => (z, f z)) : InW K w mg x (He.ga K x) f :=
  ⟨kd, g, fun z hz => in_one (List.all_eq_true.mp h _ (by rw [hl]; exact List.mem_map_of_mem hz))⟩
theorem zl_is : ZL = FW.map fun z => (z, leading z) := by decide +kernel
theorem zv_is : ZV = FW.map fun z => (z, leaving z) := by decide +kernel
theorem zt_is : ZT = FW.map fun z => (z, turning z) := by decide +kernel
theorem zd_is : ZD = FW.map fun z => (z, direct z) := by decide +kernel
theorem zo_is : ZO = FW.map fun z => (z, testing z) := by decide +kernel
theorem dk_ok {K : PySem.W.Frag} {w : World} {es : Array DictEntry} {n : Nat} (kd : KDict K w (He.ga K "DIRECTIONS") es n) (h : ZDw.all (dirB K) = true) : ∀ z : Str, direct z = true → ∃ a, KDct K w (He.ga K "DIRECTIONS") z (.ref a) ∧ KTup K a [.str "JUMP_FORWARD", .str (backW z)] := by
  have one : ∀ z : Str, dirB K (z, "JUMP_FORWARD", backW z) = true → ∃ a, KDct K w (He.ga K "DIRECTIONS") z (.ref a) ∧ KTup K a [.str "JUMP_FORWARD", .str (backW z)] := fun z h => by
    unfold dirB at h
    dsimp only at h
    split at h
    · rename_i a e
      split at h
      · rename_i u t v t' e2
        rw [Bool.and_eq_true] at h
        have h1 := of_decide_eq_true h.1
        have h2 := of_decide_eq_true h.2
        subst h1 h2
        exact ⟨a, ⟨es, n, .ref a, kd.at_, kd.lit, e, rfl⟩, tupIn_ok e2 (.cons ⟨t, rfl⟩ (.cons ⟨t', rfl⟩ .nil)) (by show 2 ≤ 1000; decide)⟩
      · cases h
    · cases h
  intro z hz
  unfold direct at hz
  rw [decide_eq_true_iff, List.mem_cons, List.mem_cons] at hz
  rcases hz with rfl | rfl | hz
  · exact one _ (List.all_eq_true.mp h _ (by decide +kernel))
  · exact one _ (List.all_eq_true.mp h _ (by decide +kernel))
  · cases hz
theorem ot_ok {K : PySem.W.Frag} {w : World} {es : Array DictEntry} {n : Nat} (kd : KDict K w (He.ga K "OPPOSITES") es n) (h : ZOw.all (strB K "OPPOSITES") = true) : ∀ z : Str, testing z = true → KDct K w (He.ga K "OPPOSITES") z (.str (oppos z)) := by
  have one : ∀ z : Str, strB K "OPPOSITES" (z, oppos z) = true → KDct K w (He.ga K "OPPOSITES") z (.str (oppos z)) := fun z h => by
    unfold strB at h
    dsimp only at h
    split at h
    · rename_i u t e
      have h1 := of_decide_eq_true h
      subst h1
      exact ⟨es, n, _, kd.at_, kd.lit, e, t, rfl⟩
    · cases h
  intro z hz
  unfold testing at hz
  rw [decide_eq_true_iff, List.mem_cons, List.mem_cons, List.mem_cons, List.mem_cons] at hz
  rcases hz with rfl | rfl | rfl | rfl | hz
  · exact one _ (List.all_eq_true.mp h _ (by decide +kernel))
  · exact one _ (List.all_eq_true.mp h _ (by decide +kernel))
  · exact one _ (List.all_eq_true.mp h _ (by decide +kernel))
  · exact one _ (List.all_eq_true.mp h _ (by decide +kernel))
  · cases hz
theorem zp_is : ZP = FW.map fun z => (z, opens z) := by decide +kernel
theorem ze_is : ZE = EW.map fun z => (z, eff z) := by decide +kernel
theorem eff_ok {K : PySem.W.Frag} {w : World} {mg : Str → Option Value} {es : Array DictEntry} {n : Nat} (kd : KDict K w (He.ga K "EFFECTS") es n) (g : mg "EFFECTS" = some (.ref (He.ga K "EFFECTS"))) (h : ZE.all (intB K "EFFECTS") = true) : EffT K w mg (He.ga K "EFFECTS") :=
  ⟨⟨es, n, kd⟩, g, fun z hz => by
    have h1 := List.all_eq_true.mp h (z, eff z) (by rw [ze_is]; exact List.mem_map_of_mem hz)
    unfold intB at h1
    dsimp only at h1
    split at h1
    · rename_i i t e
      have h2 := of_decide_eq_true h1
      subst h2
      exact ⟨⟨_, e, rfl⟩, es, n, _, kd.at_, kd.lit, e, t, rfl⟩
    · cases h1⟩
theorem set_ok {K : PySem.W.Frag} {w : World} {mg : Str → Option Value} {es : Array DictEntry} {n : Nat} (kd : KDict K w (He.ga K "SETUPS") es n) (g : mg "SETUPS" = some (.ref (He.ga K "SETUPS"))) (h : ZS.all (setB K) = true) : SetT K w mg (He.ga K "SETUPS") := by
  have one : ∀ z : Str, ∀ i : Int, ∀ b : Bool, setB K (z, i, b) = true → ∃ a, KDct K w (He.ga K "SETUPS") z (.ref a) ∧ KTup K a [.int i, .bl b] := fun z i b h => by
    unfold setB at h
    dsimp only at h
    split at h
    · rename_i a e
      split at h
      · rename_i u t v e2
        rw [Bool.and_eq_true] at h
        have h1 := of_decide_eq_true h.1
        have h2 := beq_iff_eq.mp h.2
        subst h1 h2
        exact ⟨a, ⟨es, n, .ref a, kd.at_, kd.lit, e, rfl⟩, tupIn_ok e2 (.cons ⟨t, rfl⟩ (.cons rfl .nil)) (by show 2 ≤ 1000; decide)⟩
      · cases h
    · cases h
  refine ⟨g, fun z hz hn => ?_⟩
  unfold opens at hz
  rw [decide_eq_true_iff] at hz
  simp only [List.mem_cons, List.not_mem_nil, or_false] at hz
  rcases hz with rfl | rfl | rfl | rfl
  · exact absurd rfl hn
  · exact one _ _ _ (List.all_eq_true.mp h _ (by decide +kernel))
  · exact one _ _ _ (List.all_eq_true.mp h _ (by decide +kernel))
  · exact one _ _ _ (List.all_eq_true.mp h _ (by decide +kernel))
theorem noth_ok {K : PySem.W.Frag} (h : nothB K = true) : KTup K (He.ga K "NOTHING_handlers") [.non, .non, .int 0] := by
  unfold nothB at h
  split at h
  · rename_i i t e
    have h1 := of_decide_eq_true h
    subst h1
    exact tupIn_ok e (.cons rfl (.cons rfl (.cons ⟨t, rfl⟩ .nil))) (by show 3 ≤ 1000; decide)
  · cases h
theorem vals_snoc {a : List V} {b : List Value} {x : V} {u : Value} (h : Vals a b) (r : RelV x u) : Vals (a ++ [x]) (b ++ [u]) := by
  induction h with
  | nil => exact .cons r .nil
  | cons q _ ih => exact .cons q ih
theorem vals_rv {zs : List V} {ws : List Value} (h : Vals zs ws) : Vals zs.reverse ws.reverse := by
  induction h with
  | nil => exact .nil
  | cons q _ ih =>
    rw [List.reverse_cons, List.reverse_cons]
    exact vals_snoc ih q
/-- the one def that is handed on -/
def SRw (NH G : Addr) : Addr → Option Sp := fun f => if f = G then some (spRW5 NH) else none
theorem SRw_at {NH G f : Addr} {sp : Sp} (h : SRw NH G f = some sp) : f = G ∧ sp = spRW5 NH := by
  unfold SRw at h
  split at h
  · rename_i e
    cases h
    exact ⟨e, rfl⟩
  · cases h
end C31

set_option maxHeartbeats 4000000
namespace C31
open PySem PySem.Spec PyProof.Rows L2
abbrev Pgm : Program := PySem.Challenge.pw_codewalk_k31_handlers_of_rows
theorem k31_at {w : World} {mg : Str → Option Value} {fa : Addr} {h : Heap} (Y : hkk.says w h) (G : h.Ns mainGlobals mg) (hmg : mg "law" = some (.ref fa)) : ∃ (K : PySem.W.Frag) (cs : List (Addr × Addr)), K.In h ∧ (∀ p ∈ cs, h.get? p.2 = some { cls := .none, data := .fields #[] }) ∧
    (∀ p ∈ cs, K.lookup p.2 = none) ∧ (∀ p ∈ cs, PySem.W.CodeHd h p.1 p.2) ∧ ∀ (s : Shared) (a : Addr) (ns : List Int), ns.length ≤ 1000 → RunsAt Pgm w K mg cs fa a s ns := by
  obtain ⟨K, X, c⟩ := Y
  have cd := c.t.d
  obtain ⟨fd_words_in, F_words_in⟩ := cd.def_ 0 (d := d_words_in) rfl
  obtain ⟨fd_tell_handler, F_tell_handler⟩ := cd.def_ 1 (d := d_tell_handler) rfl
  obtain ⟨fd_opened, F_opened⟩ := cd.def_ 2 (d := d_opened) rfl
  obtain ⟨fd_reached_with, F_reached_with⟩ := cd.def_ 3 (d := d_reached_with) rfl
  obtain ⟨fd_reached_rows, F_reached_rows⟩ := cd.def_ 4 (d := d_reached_rows) rfl
  obtain ⟨fd_with_handlers, F_with_handlers⟩ := cd.def_ 5 (d := d_with_handlers) rfl
  obtain ⟨fd_with_lines, F_with_lines⟩ := cd.def_ 6 (d := d_with_lines) rfl
  obtain ⟨fd_with_lines_on_ways, F_with_lines_on_ways⟩ := cd.def_ 7 (d := d_with_lines_on_ways) rfl
  obtain ⟨fd_sources_of, F_sources_of⟩ := cd.def_ 8 (d := d_sources_of) rfl
  obtain ⟨fd_lines_along, F_lines_along⟩ := cd.def_ 9 (d := d_lines_along) rfl
  obtain ⟨fd_with_checks, F_with_checks⟩ := cd.def_ 10 (d := d_with_checks) rfl
  obtain ⟨fd_with_directions, F_with_directions⟩ := cd.def_ 11 (d := d_with_directions) rfl
  obtain ⟨fd_flowed, F_flowed⟩ := cd.def_ 12 (d := d_flowed) rfl
  obtain ⟨fd_l_source_of, F_l_source_of⟩ := cd.def_ 13 (d := d_l_source_of) rfl
  obtain ⟨fd_l_next, F_l_next⟩ := cd.def_ 14 (d := d_l_next) rfl
  obtain ⟨fd_l_one, F_l_one⟩ := cd.def_ 15 (d := d_l_one) rfl
  obtain ⟨fd_l_head, F_l_head⟩ := cd.def_ 16 (d := d_l_head) rfl
  obtain ⟨fd_l_line, F_l_line⟩ := cd.def_ 17 (d := d_l_line) rfl
  obtain ⟨fd_l_new, F_l_new⟩ := cd.def_ 18 (d := d_l_new) rfl
  obtain ⟨fd_l_handler, F_l_handler⟩ := cd.def_ 19 (d := d_l_handler) rfl
  obtain ⟨fd_l_put, F_l_put⟩ := cd.def_ 20 (d := d_l_put) rfl
  obtain ⟨fd_l_label, F_l_label⟩ := cd.def_ 21 (d := d_l_label) rfl
  obtain ⟨fd_l_pops, F_l_pops⟩ := cd.def_ 22 (d := d_l_pops) rfl
  obtain ⟨fd_l_plain, F_l_plain⟩ := cd.def_ 23 (d := d_l_plain) rfl
  obtain ⟨fd_l_edge, F_l_edge⟩ := cd.def_ 24 (d := d_l_edge) rfl
  obtain ⟨fd_l_guarded, F_l_guarded⟩ := cd.def_ 25 (d := d_l_guarded) rfl
  obtain ⟨fd_l_dead, F_l_dead⟩ := cd.def_ 26 (d := d_l_dead) rfl
  obtain ⟨fd_l_body, F_l_body⟩ := cd.def_ 27 (d := d_l_body) rfl
  obtain ⟨fd_law, F_law⟩ := cd.def_ 28 (d := d_law) rfl
  have g_words_in := He.glo_ok X G (cd.fact 0 (f := .glo "words_in") rfl)
  have g_tell_handler := He.glo_ok X G (cd.fact 1 (f := .glo "tell_handler") rfl)
  have g_opened := He.glo_ok X G (cd.fact 2 (f := .glo "opened") rfl)
  have g_reached_with := He.glo_ok X G (cd.fact 3 (f := .glo "reached_with") rfl)
  have g_reached_rows := He.glo_ok X G (cd.fact 4 (f := .glo "reached_rows") rfl)
  have g_with_handlers := He.glo_ok X G (cd.fact 5 (f := .glo "with_handlers") rfl)
  have g_with_lines := He.glo_ok X G (cd.fact 6 (f := .glo "with_lines") rfl)
  have g_with_lines_on_ways := He.glo_ok X G (cd.fact 7 (f := .glo "with_lines_on_ways") rfl)
  have g_sources_of := He.glo_ok X G (cd.fact 8 (f := .glo "sources_of") rfl)
  have g_lines_along := He.glo_ok X G (cd.fact 9 (f := .glo "lines_along") rfl)
  have g_with_checks := He.glo_ok X G (cd.fact 10 (f := .glo "with_checks") rfl)
  have g_with_directions := He.glo_ok X G (cd.fact 11 (f := .glo "with_directions") rfl)
  have g_flowed := He.glo_ok X G (cd.fact 12 (f := .glo "flowed") rfl)
  have g_l_source_of := He.glo_ok X G (cd.fact 13 (f := .glo "_law_source_of") rfl)
  have g_l_next := He.glo_ok X G (cd.fact 14 (f := .glo "_law_next") rfl)
  have g_l_one := He.glo_ok X G (cd.fact 15 (f := .glo "_law_one") rfl)
  have g_l_head := He.glo_ok X G (cd.fact 16 (f := .glo "_law_head") rfl)
  have g_l_line := He.glo_ok X G (cd.fact 17 (f := .glo "_law_line") rfl)
  have g_l_new := He.glo_ok X G (cd.fact 18 (f := .glo "_law_new") rfl)
  have g_l_handler := He.glo_ok X G (cd.fact 19 (f := .glo "_law_handler") rfl)
  have g_l_put := He.glo_ok X G (cd.fact 20 (f := .glo "_law_put") rfl)
  have g_l_label := He.glo_ok X G (cd.fact 21 (f := .glo "_law_label") rfl)
  have g_l_pops := He.glo_ok X G (cd.fact 22 (f := .glo "_law_pops") rfl)
  have g_l_plain := He.glo_ok X G (cd.fact 23 (f := .glo "_law_plain") rfl)
  have g_l_edge := He.glo_ok X G (cd.fact 24 (f := .glo "_law_edge") rfl)
  have g_l_guarded := He.glo_ok X G (cd.fact 25 (f := .glo "_law_guarded") rfl)
  have g_l_dead := He.glo_ok X G (cd.fact 26 (f := .glo "_law_dead") rfl)
  have g_l_body := He.glo_ok X G (cd.fact 27 (f := .glo "_law_body") rfl)
  have g_law := He.glo_ok X G (cd.fact 28 (f := .glo "law") rfl)
  have g_LEADING := He.glo_ok X G (cd.fact 29 (f := .glo "LEADING") rfl)
  have g_LEAVING := He.glo_ok X G (cd.fact 30 (f := .glo "LEAVING") rfl)
  have g_TURNING := He.glo_ok X G (cd.fact 31 (f := .glo "TURNING") rfl)
  have g_DIRECTIONS := He.glo_ok X G (cd.fact 32 (f := .glo "DIRECTIONS") rfl)
  have g_OPPOSITES := He.glo_ok X G (cd.fact 33 (f := .glo "OPPOSITES") rfl)
  have g_OPENING := He.glo_ok X G (cd.fact 34 (f := .glo "OPENING") rfl)
  have g_EFFECTS := He.glo_ok X G (cd.fact 35 (f := .glo "EFFECTS") rfl)
  have g_SETUPS := He.glo_ok X G (cd.fact 36 (f := .glo "SETUPS") rfl)
  have g_NOTHING_handlers := He.glo_ok X G (cd.fact 37 (f := .glo "NOTHING_handlers") rfl)
  have B_words_in : Binds K fd_words_in ["rows"] [] := F_words_in.bindsN fun _ _ _ _ _ _ us hl => match us, hl with | [_], _ => rfl
  have B_tell_handler : Binds K fd_tell_handler ["told", "guards"] [] := F_tell_handler.bindsN fun _ _ _ _ _ _ us hl => match us, hl with | [_, _], _ => rfl
  have B_opened : Binds K fd_opened ["row", "told", "depth", "guards"] [] := F_opened.bindsN fun _ _ _ _ _ _ us hl => match us, hl with | [_, _, _, _], _ => rfl
  have B_reached_with : Binds K fd_reached_with ["rows", "told"] [] := F_reached_with.bindsN fun _ _ _ _ _ _ us hl => match us, hl with | [_, _], _ => rfl
  have B_reached_rows : Binds K fd_reached_rows ["rows", "go_through"] [] := F_reached_rows.bindsN fun _ _ _ _ _ _ us hl => match us, hl with | [_, _], _ => rfl
  have B_with_handlers : Binds K fd_with_handlers ["rows", "words"] [] := F_with_handlers.bindsN fun _ _ _ _ _ _ us hl => match us, hl with | [_, _], _ => rfl
  have B_with_lines : Binds K fd_with_lines ["rows", "words"] [] := F_with_lines.bindsN fun _ _ _ _ _ _ us hl => match us, hl with | [_, _], _ => rfl
  have B_with_lines_on_ways : Binds K fd_with_lines_on_ways ["rows", "bare"] [] := F_with_lines_on_ways.bindsN fun _ _ _ _ _ _ us hl => match us, hl with | [_, _], _ => rfl
  have B_sources_of : Binds K fd_sources_of ["rows", "bare"] [] := F_sources_of.bindsN fun _ _ _ _ _ _ us hl => match us, hl with | [_, _], _ => rfl
  have B_lines_along : Binds K fd_lines_along ["sources", "rows"] [] := F_lines_along.bindsN fun _ _ _ _ _ _ us hl => match us, hl with | [_, _], _ => rfl
  have B_with_checks : Binds K fd_with_checks ["rows", "head", "words"] [] := F_with_checks.bindsN fun _ _ _ _ _ _ us hl => match us, hl with | [_, _, _], _ => rfl
  have B_with_directions : Binds K fd_with_directions ["rows"] [] := F_with_directions.bindsN fun _ _ _ _ _ _ us hl => match us, hl with | [_], _ => rfl
  have B_l_source_of : Binds K fd_l_source_of ["_law_cell"] [] := F_l_source_of.bindsN fun _ _ _ _ _ _ us hl => match us, hl with | [_], _ => rfl
  have B_l_next : Binds K fd_l_next ["_law_source", "_law_many"] [] := F_l_next.bindsN fun _ _ _ _ _ _ us hl => match us, hl with | [_, _], _ => rfl
  have B_l_one : Binds K fd_l_one ["_law_source", "_law_some"] [] := F_l_one.bindsN fun _ _ _ _ _ _ us hl => match us, hl with | [_, _], _ => rfl
  have B_l_head : Binds K fd_l_head ["_law_names"] [] := F_l_head.bindsN fun _ _ _ _ _ _ us hl => match us, hl with | [_], _ => rfl
  have B_l_line : Binds K fd_l_line ["_law_env"] [] := F_l_line.bindsN fun _ _ _ _ _ _ us hl => match us, hl with | [_], _ => rfl
  have B_l_new : Binds K fd_l_new ["_law_env"] [] := F_l_new.bindsN fun _ _ _ _ _ _ us hl => match us, hl with | [_], _ => rfl
  have B_l_handler : Binds K fd_l_handler ["_law_env"] [] := F_l_handler.bindsN fun _ _ _ _ _ _ us hl => match us, hl with | [_], _ => rfl
  have B_l_put : Binds K fd_l_put ["_law_env", "_law_word", "_law_argument", "_law_due"] [] := F_l_put.bindsN fun _ _ _ _ _ _ us hl => match us, hl with | [_, _, _, _], _ => rfl
  have B_l_label : Binds K fd_l_label ["_law_env", "_law_label_here"] [] := F_l_label.bindsN fun _ _ _ _ _ _ us hl => match us, hl with | [_, _], _ => rfl
  have B_l_pops : Binds K fd_l_pops ["_law_env", "_law_many"] [] := F_l_pops.bindsN fun _ _ _ _ _ _ us hl => match us, hl with | [_, _], _ => rfl
  have B_l_plain : Binds K fd_l_plain ["_law_env"] [] := F_l_plain.bindsN fun _ _ _ _ _ _ us hl => match us, hl with | [_], _ => rfl
  have B_l_edge : Binds K fd_l_edge ["_law_env", "_law_word", "_law_argument"] [] := F_l_edge.bindsN fun _ _ _ _ _ _ us hl => match us, hl with | [_, _, _], _ => rfl
  have B_l_guarded : Binds K fd_l_guarded ["_law_env", "_law_deep"] [] := F_l_guarded.bindsN fun _ _ _ _ _ _ us hl => match us, hl with | [_, _], _ => rfl
  have B_l_dead : Binds K fd_l_dead ["_law_env"] [] := F_l_dead.bindsN fun _ _ _ _ _ _ us hl => match us, hl with | [_], _ => rfl
  have B_l_body : Binds K fd_l_body ["_law_env", "_law_deep"] [] := F_l_body.bindsN fun _ _ _ _ _ _ us hl => match us, hl with | [_, _], _ => rfl
  have B_law : Binds K fd_law ["_law_script"] [] := F_law.bindsN fun _ _ _ _ _ _ us hl => match us, hl with | [_], _ => rfl
  obtain ⟨dsA, rA, B_flowed⟩ := F_flowed.binds1 (ps := ["rows", "head", "passes"]) 3 1 (by simp [He.DefD.dvs, d_flowed]) rfl (fun T kV doc pm an cdv ct us its hl hi => match us, hl, its, hi with | [_, _, _], _, [_], _ => ⟨_, rfl, rfl⟩)
  have rA : Vals [] dsA := rA
  cases rA
  have KB_flowed : KBn K fd_flowed psF 0 ksF (fun _ ws => ws.reverse) (fun _ zs => zs.reverse) := kwD F_flowed (by simp [He.DefD.dvs, d_flowed]) (fun r => vals_rv r) (fun T kV doc pm an cdv ct ws its hl hi => match ws, hl, its, hi with | [_, _, _], _, [_], _ => ⟨_, rfl, rfl⟩)
  have T : Txt mg := ⟨He.free_ok X G (cd.fact 38 (f := .free "len") rfl), He.free_ok X G (cd.fact 39 (f := .free "int") rfl), He.free_ok X G (cd.fact 40 (f := .free "range") rfl), He.free_ok X G (cd.fact 41 (f := .free "tuple") rfl), He.free_ok X G (cd.fact 42 (f := .free "list") rfl), He.free_ok X G (cd.fact 43 (f := .free "isinstance") rfl), He.free_ok X G (cd.fact 44 (f := .free "bool") rfl), He.free_ok X G (cd.fact 45 (f := .free "str") rfl), He.free_ok X G (cd.fact 46 (f := .free "max") rfl), He.free_ok X G (cd.fact 47 (f := .free "min") rfl), He.free_ok X G (cd.fact 48 (f := .free "enumerate") rfl), He.free_ok X G (cd.fact 49 (f := .free "any") rfl), He.free_ok X G (cd.fact 50 (f := .free "all") rfl), He.free_ok X G (cd.fact 51 (f := .free "zip") rfl), He.free_ok X G (cd.fact 52 (f := .free "sum") rfl), He.free_ok X G (cd.fact 53 (f := .free "sorted") rfl), He.free_ok X G (cd.fact 54 (f := .free "repr") rfl), He.free_ok X G (cd.fact 55 (f := .free "dict") rfl)⟩
  obtain ⟨en0, nn0, kn0⟩ := c.t.tab 0
  obtain ⟨en1, nn1, kn1⟩ := c.t.tab 1
  obtain ⟨en2, nn2, kn2⟩ := c.t.tab 2
  obtain ⟨en3, nn3, kn3⟩ := c.t.tab 3
  obtain ⟨en4, nn4, kn4⟩ := c.t.tab 4
  obtain ⟨en5, nn5, kn5⟩ := c.t.tab 5
  obtain ⟨en6, nn6, kn6⟩ := c.t.tab 6
  obtain ⟨en7, nn7, kn7⟩ := c.t.tab 7
  have mo := c.more
  unfold exB exA exF exG at mo
  simp only [Bool.and_eq_true] at mo
  obtain ⟨⟨m1, m2⟩, ⟨m3, m4, m5⟩, m6, m7, m8, m9, m10, m11⟩ := mo
  have TL : InW K w mg "LEADING" (He.ga K "LEADING") leading := in_ok ⟨en0, nn0, ⟨kn0.at_, kn0.lit, kn0.low⟩⟩ g_LEADING m1 zl_is
  have TV : InW K w mg "LEAVING" (He.ga K "LEAVING") leaving := in_ok ⟨en1, nn1, ⟨kn1.at_, kn1.lit, kn1.low⟩⟩ g_LEAVING m2 zv_is
  have TT : InW K w mg "TURNING" (He.ga K "TURNING") turning := in_ok ⟨en2, nn2, ⟨kn2.at_, kn2.lit, kn2.low⟩⟩ g_TURNING m3 zt_is
  have TDi : InW K w mg "DIRECTIONS" (He.ga K "DIRECTIONS") direct := in_ok ⟨en3, nn3, ⟨kn3.at_, kn3.lit, kn3.low⟩⟩ g_DIRECTIONS m4 zd_is
  have TO : InW K w mg "OPPOSITES" (He.ga K "OPPOSITES") testing := in_ok ⟨en4, nn4, ⟨kn4.at_, kn4.lit, kn4.low⟩⟩ g_OPPOSITES m5 zo_is
  have TD : DirT K w mg (He.ga K "TURNING") (He.ga K "DIRECTIONS") (He.ga K "OPPOSITES") := ⟨TT, TDi, TO, dk_ok ⟨kn3.at_, kn3.lit, kn3.low⟩ m6, ot_ok ⟨kn4.at_, kn4.lit, kn4.low⟩ m7⟩
  have TOp : InW K w mg "OPENING" (He.ga K "OPENING") opens := in_ok ⟨en5, nn5, ⟨kn5.at_, kn5.lit, kn5.low⟩⟩ g_OPENING m8 zp_is
  have TE : EffT K w mg (He.ga K "EFFECTS") := eff_ok ⟨kn6.at_, kn6.lit, kn6.low⟩ g_EFFECTS m9
  have TS : SetT K w mg (He.ga K "SETUPS") := set_ok ⟨kn7.at_, kn7.lit, kn7.low⟩ g_SETUPS m10
  have kn : KTup K (He.ga K "NOTHING_handlers") [.non, .non, .int 0] := noth_ok m11
  have cal : ∀ {base : Heap} {k : Nat} {x : Str} {ps : List Str} {sp : Sp} {f : Addr} {fd : FuncData}, FnOk Pgm w K mg base CX0 k f fd ps sp → mg x = some (.ref f) → PySem.W.keepIn K (.ref f) = true → Binds K fd ps [] → Cal Pgm w K mg base k x ps sp := fun F g kp b => ⟨⟨_, _, F, g, kp, b⟩⟩
  have law : ∀ base, LawT Pgm w K mg base := fun base => by
    have O_words_in := ok_words_in (P := Pgm) (w := w) (mg := mg) (base := base) F_words_in
    have C_words_in := cal (base := base) O_words_in g_words_in F_words_in.kp B_words_in
    have O_tell_handler := ok_th (P := Pgm) (w := w) (mg := mg) (base := base) T kn F_tell_handler
    have C_tell_handler := cal (base := base) O_tell_handler g_tell_handler F_tell_handler.kp B_tell_handler
    have O_opened := ok_od (P := Pgm) (w := w) (mg := mg) (base := base) T kn TS F_opened C_tell_handler
    have C_opened := cal (base := base) O_opened g_opened F_opened.kp B_opened
    have O_reached_with := ok_rwi (P := Pgm) (w := w) (mg := mg) (base := base) T kn g_NOTHING_handlers TOp TE TT TL TV F_reached_with C_tell_handler C_opened
    have C_reached_with := cal (base := base) O_reached_with g_reached_with F_reached_with.kp B_reached_with
    have hS : ∀ f sp, SRw (He.ga K "NOTHING_handlers") (He.ga K "reached_with") f = some sp → Held Pgm w K mg base 3 f sp := fun f sp hf => by
      obtain ⟨rfl, rfl⟩ := SRw_at hf
      exact ⟨⟨fd_reached_with, ["rows", "told"], O_reached_with, F_reached_with.kp, B_reached_with⟩⟩
    have O_reached_rows := ok_rr (P := Pgm) (w := w) (mg := mg) (base := base) (NH := He.ga K "NOTHING_handlers") T hS F_reached_rows
    have C_reached_rows := cal (base := base) O_reached_rows g_reached_rows F_reached_rows.kp B_reached_rows
    have O_with_handlers := ok_wh (P := Pgm) (w := w) (mg := mg) (base := base) (S := SRw (He.ga K "NOTHING_handlers") (He.ga K "reached_with")) T (if_pos rfl) g_reached_with F_with_handlers C_reached_rows
    have C_with_handlers := cal (base := base) O_with_handlers g_with_handlers F_with_handlers.kp B_with_handlers
    have O_sources_of := ok_so (P := Pgm) (w := w) (mg := mg) (base := base) F_sources_of
    have C_sources_of := cal (base := base) O_sources_of g_sources_of F_sources_of.kp B_sources_of
    have O_lines_along := ok_la (P := Pgm) (w := w) (mg := mg) (base := base) F_lines_along
    have C_lines_along := cal (base := base) O_lines_along g_lines_along F_lines_along.kp B_lines_along
    have O_with_lines_on_ways := ok_wo (P := Pgm) (w := w) (mg := mg) (base := base) T C_sources_of C_lines_along F_with_lines_on_ways
    have C_with_lines_on_ways := cal (base := base) O_with_lines_on_ways g_with_lines_on_ways F_with_lines_on_ways.kp B_with_lines_on_ways
    have O_with_lines := ok_wl (P := Pgm) (w := w) (mg := mg) (base := base) T C_with_lines_on_ways F_with_lines
    have C_with_lines := cal (base := base) O_with_lines g_with_lines F_with_lines.kp B_with_lines
    have O_with_checks := ok_wc (P := Pgm) (w := w) (mg := mg) (base := base) T F_with_checks
    have C_with_checks := cal (base := base) O_with_checks g_with_checks F_with_checks.kp B_with_checks
    have O_with_directions := ok_wd (P := Pgm) (w := w) (mg := mg) (base := base) T TD F_with_directions
    have C_with_directions := cal (base := base) O_with_directions g_with_directions F_with_directions.kp B_with_directions
    have O_flowed := ok_fl (P := Pgm) (w := w) (mg := mg) (base := base) T F_flowed C_words_in C_with_handlers C_with_lines C_with_checks C_with_directions
    have C_flowed := cal (base := base) O_flowed g_flowed F_flowed.kp B_flowed
    have CK_flowed : CalKN Pgm w K mg base 6 "flowed" psF ksF List.reverse spFL5 := ⟨⟨_, fd_flowed, List.reverse, O_flowed, g_flowed, F_flowed.kp, KB_flowed⟩⟩
    have O_l_source_of := ok_source_of (P := Pgm) (w := w) (mg := mg) (base := base) T F_l_source_of
    have C_l_source_of := cal (base := base) O_l_source_of g_l_source_of F_l_source_of.kp B_l_source_of
    have O_l_next := ok_next (P := Pgm) (w := w) (mg := mg) (base := base) T F_l_next
    have C_l_next := cal (base := base) O_l_next g_l_next F_l_next.kp B_l_next
    have O_l_one := ok_one (P := Pgm) (w := w) (mg := mg) (base := base) T F_l_one C_l_next
    have C_l_one := cal (base := base) O_l_one g_l_one F_l_one.kp B_l_one
    have O_l_head := ok_hd (P := Pgm) (w := w) (mg := mg) (base := base) T F_l_head
    have C_l_head := cal (base := base) O_l_head g_l_head F_l_head.kp B_l_head
    have O_l_line := ok_ll (P := Pgm) (w := w) (mg := mg) (base := base) F_l_line
    have C_l_line := cal (base := base) O_l_line g_l_line F_l_line.kp B_l_line
    have O_l_new := ok_ln (P := Pgm) (w := w) (mg := mg) (base := base) F_l_new
    have C_l_new := cal (base := base) O_l_new g_l_new F_l_new.kp B_l_new
    have O_l_handler := ok_vh (P := Pgm) (w := w) (mg := mg) (base := base) T F_l_handler
    have C_l_handler := cal (base := base) O_l_handler g_l_handler F_l_handler.kp B_l_handler
    have O_l_put := ok_vp (P := Pgm) (w := w) (mg := mg) (base := base) T F_l_put C_l_line C_l_handler
    have C_l_put := cal (base := base) O_l_put g_l_put F_l_put.kp B_l_put
    have O_l_label := ok_vl (P := Pgm) (w := w) (mg := mg) (base := base) T F_l_label
    have C_l_label := cal (base := base) O_l_label g_l_label F_l_label.kp B_l_label
    have O_l_pops := ok_vq (P := Pgm) (w := w) (mg := mg) (base := base) T F_l_pops C_l_put
    have C_l_pops := cal (base := base) O_l_pops g_l_pops F_l_pops.kp B_l_pops
    have O_l_plain := ok_va (P := Pgm) (w := w) (mg := mg) (base := base) T F_l_plain C_l_line C_l_handler C_l_put C_l_one C_l_next C_l_pops
    have C_l_plain := cal (base := base) O_l_plain g_l_plain F_l_plain.kp B_l_plain
    have O_l_edge := ok_ve (P := Pgm) (w := w) (mg := mg) (base := base) T F_l_edge C_l_line C_l_handler C_l_next
    have C_l_edge := cal (base := base) O_l_edge g_l_edge F_l_edge.kp B_l_edge
    have O_l_dead := ok_vd (P := Pgm) (w := w) (mg := mg) (base := base) T F_l_dead C_l_line C_l_new C_l_put C_l_label
    have C_l_dead := cal (base := base) O_l_dead g_l_dead F_l_dead.kp B_l_dead
    have BO : BothF Pgm w K mg base (He.ga K "_law_guarded") (He.ga K "_law_body") fd_l_guarded fd_l_body := ⟨T, C_l_one, C_l_next, C_l_put, C_l_new, C_l_edge, C_l_label, C_l_pops, C_l_plain, C_l_dead, F_l_guarded, F_l_body, ⟨g_l_guarded, F_l_guarded.kp, B_l_guarded⟩, ⟨g_l_body, F_l_body.kp, B_l_body⟩⟩
    obtain ⟨C_l_body, C_l_guarded⟩ := both_cal BO
    exact ⟨T, C_l_source_of, C_l_guarded, C_l_body, C_l_put, C_flowed, CK_flowed, C_l_head⟩
  have bl := fun s v => F_law.bindsA (ps := ["_law_script"]) (fun _ _ _ _ _ _ us hl => match us, hl with | [_], _ => rfl) s [v] rfl
  obtain ⟨oc2, od2, dV2, kV2, doc2, pm2, an2, cdL, ct2, osl2, rfl, lkL, hcL, _, _⟩ := F_law.ex
  have efa : fa = He.ga K "law" := by
    have := hmg.symm.trans g_law
    cases this
    rfl
  subst efa
  exact ⟨K, [], X, (fun p hp => nomatch hp), (fun p hp => nomatch hp), (fun p hp => nomatch hp), fun s a ns hn => law_runs law lkL hcL bl hn⟩
theorem walk_all (q : Program) (loose : List Str) (XP : (Str → Option Value) → Heap → Prop) (d : DefRec) (hn : d.name = ("law" : Str)) (hd : d.params.defaults = []) : PySem.W.WalkO q loose XP hkk.says (PySem.W.OpenLaw.row PySem.Challenge.rw_codewalk_k31_handlers_of_rows).toRowW d [] (fun f vs => PySem.call f vs) := by
  refine walk_run (l := PySem.Challenge.rw_codewalk_k31_handlers_of_rows) (n := 63) rfl (by decide) hd ?_
  intro w mg fa h Y G hmg
  rw [hn] at hmg
  obtain ⟨K, cs, h1, h2, h3, h4, h5⟩ := k31_at Y G hmg
  exact ⟨K, cs, h1, h2, h3, h4, fun s a ns hl _ => h5 s a ns (Nat.le_trans hl (by decide))⟩
end C31

set_option maxHeartbeats 8000000
open PySem PySem.W PySem.Calls PyProof.Rows
theorem PySem.Challenge.cw_codewalk_k31_handlers_of_rows_holds : PySem.Challenge.rw_codewalk_k31_handlers_of_rows.Holds := by
  w_on; o_law
  refine HandSHeadRun.head_any (r := OpenLaw.row PySem.Challenge.rw_codewalk_k31_handlers_of_rows) (q := view (OpenLaw.row PySem.Challenge.rw_codewalk_k31_handlers_of_rows).prog [100]) (H := C31.hkk) (ob := C31.obk) (M := 16000) (loose := C31.loose) (d := HandSHeadRun.topDef (OpenLaw.row PySem.Challenge.rw_codewalk_k31_handlers_of_rows).prog 100) (kwd := []) C31.obk_eq
    (by kernel_rfl) (fun s => by kernel_rfl) C31.runk (by kernel_rfl) (by kernel_rfl) (by kernel_rfl) (by rfl) (by first | assumption | decide +kernel) (by decide +kernel) ⟨rfl, rfl, rfl, rfl, rfl, by decide +kernel⟩ ?hw ?hc
  case hw => w_witness2
  case hc => exact C31.walk_all _ _ _ _ (by kernel_rfl) (by kernel_rfl)
