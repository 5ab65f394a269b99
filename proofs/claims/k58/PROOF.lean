import PyProof.Rows.All
import Wide.All
import OpenK.AllK
import Wide.FinOn
import HandS.ExcInit
import HandS.ExcField
import HandS.ExcIs
import HandS.Words
import HandS.Head0
import HandS.Head1
import HandS.Head2
import HandS.HeadHook4
import PySem.Challenge.RW_codewalk_k58_instructions_that_cannot_be
import HandS.ForMost
import HandS.Wide
import HandS.Defaults
import HandS.IsInst
import HandS.Style
import HandS.ForExc
import HandS.Zip
import HandS.WideBits
import HandS.TryOnly
import HandS.Star
import HandS.Lambda
import HandS.FStr
import HandS.RaiseMore
import HandS.CallLocal
import PyProof.ReprLen
import HandS.MapJoin
import HandS.Codes
import HandS.SortInts
import HandS.SortOrd
import HandS.SortRule
import HandS.Iter
import HandS.Walk
import HandS.Rev
import HandS.RevTup
import KE.KBytesIn
import KE.KStrBytes
import HandS.TryMany
import KE.KExcIs
import PyProof.Rows.SeqMore
import PyProof.ReprRoads
import HandS.Dict
import HandS.HeadWalk
import HandS.EndTab
set_option Elab.async false
set_option linter.all false
set_option maxRecDepth 100000
set_option maxHeartbeats 4000000
namespace C58
open PySem PySem.Spec PyProof.Rows L2
def ztop (i : Nat) : Stmt := PySem.Challenge.pw_codewalk_k58_instructions_that_cannot_be.main.body.getD i (.Pass ⟨0, 0, 0, 0⟩)
def zinClass (s : Stmt) (j : Nat) : Stmt := match s with
  | .ClassDef _ _ _ body _ _ _ _ _ _ _ => body.getD j (.Pass ⟨0, 0, 0, 0⟩)
  | _ => .Pass ⟨0, 0, 0, 0⟩
/-! ### the program's tables -/
def ZW : List (Nat × Str × Nat) := ([(2, "BEFORE_WITH", 1), (4, "BINARY_SLICE", 1), (5, "BINARY_SUBSCR", 2), (7, "CHECK_EXC_MATCH", 1), (8, "CLEANUP_THROW", 1), (9, "DELETE_SUBSCR", 1), (11, "END_FOR", 1), (12, "END_SEND", 1), (19, "GET_ITER", 1), (21, "GET_YIELD_FROM_ITER", 1), (23, "LOAD_ASSERTION_ERROR", 1), (24, "LOAD_BUILD_CLASS", 1), (25, "LOAD_LOCALS", 1), (26, "MAKE_FUNCTION", 1), (30, "NOP", 1), (31, "POP_EXCEPT", 1), (32, "POP_TOP", 1), (33, "PUSH_EXC_INFO", 1), (34, "PUSH_NULL", 1), (35, "RETURN_GENERATOR", 1)] : List (Nat × Str × Nat)) ++ ([(36, "RETURN_VALUE", 1), (38, "STORE_SLICE", 1), (39, "STORE_SUBSCR", 2), (40, "TO_BOOL", 4), (41, "UNARY_INVERT", 1), (42, "UNARY_NEGATIVE", 1), (43, "UNARY_NOT", 1), (44, "WITH_EXCEPT_START", 1), (45, "BINARY_OP", 2), (46, "BUILD_CONST_KEY_MAP", 1), (47, "BUILD_LIST", 1), (48, "BUILD_MAP", 1), (52, "BUILD_TUPLE", 1), (53, "CALL", 4), (54, "CALL_FUNCTION_EX", 1), (55, "CALL_INTRINSIC_1", 1), (57, "CALL_KW", 1), (58, "COMPARE_OP", 2), (59, "CONTAINS_OP", 2), (61, "COPY", 1)] : List (Nat × Str × Nat)) ++ ([(62, "COPY_FREE_VARS", 1), (63, "DELETE_ATTR", 1), (64, "DELETE_DEREF", 1), (65, "DELETE_FAST", 1), (66, "DELETE_GLOBAL", 1), (67, "DELETE_NAME", 1), (68, "DICT_MERGE", 1), (72, "FOR_ITER", 2), (76, "IS_OP", 1), (77, "JUMP_BACKWARD", 2), (78, "JUMP_BACKWARD_NO_INTERRUPT", 1), (79, "JUMP_FORWARD", 1), (80, "LIST_APPEND", 1), (81, "LIST_EXTEND", 1), (82, "LOAD_ATTR", 10), (83, "LOAD_CONST", 1), (84, "LOAD_DEREF", 1), (85, "LOAD_FAST", 1), (87, "LOAD_FAST_CHECK", 1), (88, "LOAD_FAST_LOAD_FAST", 1)] : List (Nat × Str × Nat)) ++ ([(89, "LOAD_FROM_DICT_OR_DEREF", 1), (91, "LOAD_GLOBAL", 5), (92, "LOAD_NAME", 1), (94, "MAKE_CELL", 1), (95, "MAP_ADD", 1), (97, "POP_JUMP_IF_FALSE", 2), (98, "POP_JUMP_IF_NONE", 2), (99, "POP_JUMP_IF_NOT_NONE", 2), (100, "POP_JUMP_IF_TRUE", 2), (101, "RAISE_VARARGS", 1), (102, "RERAISE", 1), (103, "RETURN_CONST", 1), (104, "SEND", 2), (106, "SET_FUNCTION_ATTRIBUTE", 1), (108, "STORE_ATTR", 5), (109, "STORE_DEREF", 1), (110, "STORE_FAST", 1), (111, "STORE_FAST_LOAD_FAST", 1), (112, "STORE_FAST_STORE_FAST", 1), (113, "STORE_GLOBAL", 1)] : List (Nat × Str × Nat)) ++ ([(114, "STORE_NAME", 1), (115, "SWAP", 1), (116, "UNPACK_EX", 1), (117, "UNPACK_SEQUENCE", 2), (118, "YIELD_VALUE", 1), (149, "RESUME", 1)] : List (Nat × Str × Nat))
def ZK : List (Str × Nat) := ([("BINARY_OP", 8), ("CALL_INTRINSIC_1", 11), ("COMPARE_OP", 9), ("CONTAINS_OP", 10), ("DELETE_ATTR", 3), ("DELETE_DEREF", 6), ("DELETE_FAST", 6), ("DELETE_GLOBAL", 3), ("DELETE_NAME", 3), ("FOR_ITER", 1), ("IS_OP", 10), ("JUMP_BACKWARD", 1), ("JUMP_BACKWARD_NO_INTERRUPT", 1), ("JUMP_FORWARD", 1), ("LOAD_ATTR", 4), ("LOAD_CONST", 2), ("LOAD_DEREF", 6), ("LOAD_FAST", 6), ("LOAD_FAST_CHECK", 6), ("LOAD_FAST_LOAD_FAST", 7)] : List (Str × Nat)) ++ ([("LOAD_FROM_DICT_OR_DEREF", 6), ("LOAD_GLOBAL", 5), ("LOAD_NAME", 3), ("MAKE_CELL", 6), ("POP_JUMP_IF_FALSE", 1), ("POP_JUMP_IF_NONE", 1), ("POP_JUMP_IF_NOT_NONE", 1), ("POP_JUMP_IF_TRUE", 1), ("RETURN_CONST", 2), ("SEND", 1), ("SET_FUNCTION_ATTRIBUTE", 12), ("STORE_ATTR", 3), ("STORE_DEREF", 6), ("STORE_FAST", 6), ("STORE_FAST_LOAD_FAST", 7), ("STORE_FAST_STORE_FAST", 7), ("STORE_GLOBAL", 3), ("STORE_NAME", 3)] : List (Str × Nat))
def zki (z : Str) : Nat := ((ZK.find? fun p => decide (p.1 = z)).map (·.2)).getD 0
def fnNames : List Str := ["of_constant", "of_name", "of_attribute", "of_global", "of_local", "of_locals", "of_operator", "of_comparison", "of_opposite", "of_intrinsic", "of_function_attribute"]
def oexB (K : PySem.W.Frag) (C : Addr) : Bool := match K.lookup C with
  | some ⟨.type t, _, .cls cd, sl⟩ => decide (t = "type") && (match cd.mro, sl.toList with
    | .ref D :: bm, [_, _, _, _, some (.builtin n), _] => decide (D = C) && (decide (n = "ValueError.__new__") && (!cd.hasDel && (cd.hasDict && PySem.HandSPX.refsVE bm)))
    | _, _ => false)
  | _ => false
def excB (K : PySem.W.Frag) (D : Addr) : Bool := He.eqO (PySem.W.findIn K (.ref D) "__getattribute__") (some (some (.builtin "BaseException.__getattribute__"))) && (He.eqO (PySem.W.findIn K (.ref D) "__getattr__") (some none) && (decide (PySem.W.subIn K (.ref D) (.type "BaseException") = some true) &&
  (PySem.W.hasDictIn K D && (He.eqO (PySem.W.findIn K (.ref D) "__class__") (some (some (.builtin "object.__class__"))) && (He.eqO (PySem.W.specialIn K (.builtin "object.__class__") "__get__") (some (some (.builtin "getset_descriptor.__get__"))) &&
  (decide (PySem.W.takesIn K (.builtin "object.__class__") = some true) && (decide (PySem.W.mroIn K D (.type "object") = some true) && (decide (PySem.W.typeIn K (.ref D) = some (.type "type")) && (PySem.W.keepIn K (.ref D) && He.eqO (PySem.W.findIn K (.ref D) "__setattr__") (some (some (.builtin "object.__setattr__"))))))))))))
def kitB (K : PySem.W.Frag) (C : Addr) : Bool := He.eqO (PySem.W.findIn K (.ref C) "__class__") (some (some (.builtin "object.__class__"))) && (decide (PySem.W.mroIn K C (.type "object") = some true) && (["NoneType", "int", "bool", "str", "list", "tuple", "dict"] : List String).all fun t => decide (PySem.W.kitOne K (.type t) (.ref C) = some false))
def mkpB (K : PySem.W.Frag) (C : Addr) : Bool := PySem.W.makesIn K C && (He.eqO (PySem.W.findIn K (.ref C) "__init__") (some (some (.builtin "object.__init__"))) && PySem.W.keepIn K (.ref C))
def tupIn (K : PySem.W.Frag) (a : Addr) : Option (List Value) := match K.lookup a with
  | some ⟨.type t, _, .seq its _, _⟩ => if t = "tuple" then some its.toList else none
  | _ => none
def entB (K : PySem.W.Frag) (p : Nat × Str × Nat) (e : DictEntry) : Bool := match e.key, e.val with
  | .int i _, .ref t => decide (i = (p.1 : Int)) && (decide (e.hash = hashInt i) && (match tupIn K t with
    | some [.str z _, .int u _] => decide (z = p.2.1) && decide (u = (p.2.2 : Int))
    | _ => false))
  | _, _ => false
def zipB (K : PySem.W.Frag) : List DictEntry → List (Nat × Str × Nat) → Bool
  | [], [] => true
  | e :: es, p :: ps => entB K p e && zipB K es ps
  | _, _ => false
def entT (e : DictEntry) : Bool := match e.key, e.val with
  | .int i _, .str z _ => decide (e.hash = hashInt i) && decide (z.length ≤ 50)
  | _, _ => false
def dicB (K : PySem.W.Frag) (d : Addr) (f : List DictEntry → Bool) : Bool := (!(d == sysModules)) && (match K.lookup d with
  | some ⟨.type c, none, .dict es _, sl⟩ => decide (c = "dict") && (decide (sl.size = 0) && f es.toList)
  | _ => false)
def distB : List Addr → Bool
  | [] => true
  | a :: r => (r.all fun b => !(a == b)) && distB r
def leadB (K : PySem.W.Frag) (d : Addr) (z : Str) : Bool := match PySem.W.nsIn K d z with
  | some r => r.isSome == (zki z == 1)
  | none => false
def meanB (K : PySem.W.Frag) (d : Addr) (z : Str) : Bool := match PySem.W.nsIn K d z with
  | some none => decide (zki z < 2)
  | some (some (.ref f)) => decide (2 ≤ zki z) && (f == He.ga K (fnNames.getD (zki z - 2) ""))
  | _ => false
def exA (K : PySem.W.Frag) : Bool := kitB K (He.ga K "Known") && (mkpB K (He.ga K "Mark") && (kitB K (He.ga K "Code") && (oexB K (He.ga K "NoCode") && (excB K (He.ga K "NoCode") && (He.eqO (PySem.W.findIn K (.ref (He.ga K "NoCode")) "field") (some none) && (decide (PySem.W.kitOne K (.ref (He.ga K "NoCode")) (.ref (He.ga K "CodeError")) = some true) &&
  (decide (PySem.W.kitOne K (.ref (He.ga K "NoCode")) (.type "ValueError") = some true) && (decide (PySem.W.typeIn K (.ref (He.ma K (He.ga K "NoCode") "__init__")) = some (.type "function")) && (He.eqO (PySem.W.findIn K (.ref (He.ga K "NoCode")) "__init__") (some (some (.ref (He.ma K (He.ga K "NoCode") "__init__")))) &&
  decide (PySem.W.kitOne K (.ref (He.ga K "Code")) (.ref (He.ga K "Code")) = some true))))))))))
def exF (K : PySem.W.Frag) : Bool := dicB K (He.ga K "WORDS") (fun es => zipB K es ZW) && (dicB K (He.ga K "OPERATOR_SIGNS") (·.all entT) && (dicB K (He.ga K "COMPARISON_SIGNS") (·.all entT) && (dicB K (He.ga K "INTRINSICS") (·.all entT) && (dicB K (He.ga K "ATTRIBUTES") (·.all entT) && distB (fnNames.map (He.ga K))))))
def exG (K : PySem.W.Frag) : Bool := ZW.all (fun p => leadB K (He.ga K "LEADING") p.2.1) && (ZW.all (fun p => meanB K (He.ga K "MEANINGS") p.2.1) && ZW.all (fun p => (PySem.W.nsIn K (He.ga K "BACKWARD") p.2.1).isSome))
def exB (K : PySem.W.Frag) : Bool := exA K && (exF K && exG K)
abbrev znumber_of : Stmt := ztop 15
abbrev zbytes_of : Stmt := ztop 16
abbrev zstring_of : Stmt := ztop 17
abbrev zstrings_of : Stmt := ztop 18
abbrev zis_string : Stmt := ztop 19
abbrev zis_constant : Stmt := ztop 21
abbrev zdepth_of : Stmt := ztop 20
abbrev zCode_init : Stmt := zinClass (ztop 12) 0
abbrev zNoCode_init : Stmt := zinClass (ztop 2) 0
abbrev zbehind_extension : Stmt := ztop 36
abbrev zcut : Stmt := ztop 35
abbrev zlines_of_units : Stmt := ztop 58
abbrev zlines_of : Stmt := ztop 62
abbrev zof_constant : Stmt := ztop 40
abbrev zof_name : Stmt := ztop 41
abbrev zof_attribute : Stmt := ztop 42
abbrev zof_global : Stmt := ztop 43
abbrev zof_local : Stmt := ztop 44
abbrev zof_locals : Stmt := ztop 45
abbrev zof_operator : Stmt := ztop 46
abbrev zof_comparison : Stmt := ztop 47
abbrev zof_opposite : Stmt := ztop 48
abbrev zof_intrinsic : Stmt := ztop 49
abbrev zof_function_attribute : Stmt := ztop 50
abbrev ztarget_of : Stmt := ztop 32
abbrev zmeaning_of : Stmt := ztop 63
abbrev zinstructions : Stmt := ztop 61
abbrev zsource_of : Stmt := ztop 65
abbrev znext : Stmt := ztop 66
abbrev zone : Stmt := ztop 67
abbrev ztable : Stmt := ztop 68
abbrev zpacked : Stmt := ztop 69
abbrev zcaught : Stmt := ztop 70
abbrev zmade : Stmt := ztop 71
abbrev zgood : Stmt := ztop 72
abbrev zwrong : Stmt := ztop 73
abbrev zlaw : Stmt := ztop 74
def d_number_of : He.DefD := ⟨("number_of", none), "number_of", "number_of", defArgs znumber_of, defBody znumber_of, defScope znumber_of, [], []⟩
def d_bytes_of : He.DefD := ⟨("bytes_of", none), "bytes_of", "bytes_of", defArgs zbytes_of, defBody zbytes_of, defScope zbytes_of, [], []⟩
def d_string_of : He.DefD := ⟨("string_of", none), "string_of", "string_of", defArgs zstring_of, defBody zstring_of, defScope zstring_of, [], []⟩
def d_strings_of : He.DefD := ⟨("strings_of", none), "strings_of", "strings_of", defArgs zstrings_of, defBody zstrings_of, defScope zstrings_of, [], []⟩
def d_is_string : He.DefD := ⟨("is_string", none), "is_string", "is_string", defArgs zis_string, defBody zis_string, defScope zis_string, [], []⟩
def d_is_constant : He.DefD := ⟨("is_constant", none), "is_constant", "is_constant", defArgs zis_constant, defBody zis_constant, defScope zis_constant, [], []⟩
def d_depth_of : He.DefD := ⟨("depth_of", none), "depth_of", "depth_of", defArgs zdepth_of, defBody zdepth_of, defScope zdepth_of, [], []⟩
def d_Code_init : He.DefD := ⟨("Code", some "__init__"), "__init__", "Code.__init__", defArgs zCode_init, defBody zCode_init, defScope zCode_init, [], []⟩
def d_NoCode_init : He.DefD := ⟨("NoCode", some "__init__"), "__init__", "NoCode.__init__", defArgs zNoCode_init, defBody zNoCode_init, defScope zNoCode_init, [], []⟩
def d_behind_extension : He.DefD := ⟨("behind_extension", none), "behind_extension", "behind_extension", defArgs zbehind_extension, defBody zbehind_extension, defScope zbehind_extension, [], []⟩
def d_cut : He.DefD := ⟨("cut", none), "cut", "cut", defArgs zcut, defBody zcut, defScope zcut, [], []⟩
def d_lines_of_units : He.DefD := ⟨("lines_of_units", none), "lines_of_units", "lines_of_units", defArgs zlines_of_units, defBody zlines_of_units, defScope zlines_of_units, [], []⟩
def d_lines_of : He.DefD := ⟨("lines_of", none), "lines_of", "lines_of", defArgs zlines_of, defBody zlines_of, defScope zlines_of, [], []⟩
def d_of_constant : He.DefD := ⟨("of_constant", none), "of_constant", "of_constant", defArgs zof_constant, defBody zof_constant, defScope zof_constant, [], []⟩
def d_of_name : He.DefD := ⟨("of_name", none), "of_name", "of_name", defArgs zof_name, defBody zof_name, defScope zof_name, [], []⟩
def d_of_attribute : He.DefD := ⟨("of_attribute", none), "of_attribute", "of_attribute", defArgs zof_attribute, defBody zof_attribute, defScope zof_attribute, [], []⟩
def d_of_global : He.DefD := ⟨("of_global", none), "of_global", "of_global", defArgs zof_global, defBody zof_global, defScope zof_global, [], []⟩
def d_of_local : He.DefD := ⟨("of_local", none), "of_local", "of_local", defArgs zof_local, defBody zof_local, defScope zof_local, [], []⟩
def d_of_locals : He.DefD := ⟨("of_locals", none), "of_locals", "of_locals", defArgs zof_locals, defBody zof_locals, defScope zof_locals, [], []⟩
def d_of_operator : He.DefD := ⟨("of_operator", none), "of_operator", "of_operator", defArgs zof_operator, defBody zof_operator, defScope zof_operator, [], []⟩
def d_of_comparison : He.DefD := ⟨("of_comparison", none), "of_comparison", "of_comparison", defArgs zof_comparison, defBody zof_comparison, defScope zof_comparison, [], []⟩
def d_of_opposite : He.DefD := ⟨("of_opposite", none), "of_opposite", "of_opposite", defArgs zof_opposite, defBody zof_opposite, defScope zof_opposite, [], []⟩
def d_of_intrinsic : He.DefD := ⟨("of_intrinsic", none), "of_intrinsic", "of_intrinsic", defArgs zof_intrinsic, defBody zof_intrinsic, defScope zof_intrinsic, [], []⟩
def d_of_function_attribute : He.DefD := ⟨("of_function_attribute", none), "of_function_attribute", "of_function_attribute", defArgs zof_function_attribute, defBody zof_function_attribute, defScope zof_function_attribute, [], []⟩
def d_target_of : He.DefD := ⟨("target_of", none), "target_of", "target_of", defArgs ztarget_of, defBody ztarget_of, defScope ztarget_of, [], []⟩
def d_meaning_of : He.DefD := ⟨("meaning_of", none), "meaning_of", "meaning_of", defArgs zmeaning_of, defBody zmeaning_of, defScope zmeaning_of, [], []⟩
def d_instructions : He.DefD := ⟨("instructions", none), "instructions", "instructions", defArgs zinstructions, defBody zinstructions, defScope zinstructions, [], []⟩
def d_source_of : He.DefD := ⟨("_law_source_of", none), "_law_source_of", "_law_source_of", defArgs zsource_of, defBody zsource_of, defScope zsource_of, [], []⟩
def d_next : He.DefD := ⟨("_law_next", none), "_law_next", "_law_next", defArgs znext, defBody znext, defScope znext, [], []⟩
def d_one : He.DefD := ⟨("_law_one", none), "_law_one", "_law_one", defArgs zone, defBody zone, defScope zone, [], []⟩
def d_table : He.DefD := ⟨("_law_table", none), "_law_table", "_law_table", defArgs ztable, defBody ztable, defScope ztable, [], []⟩
def d_packed : He.DefD := ⟨("_law_packed", none), "_law_packed", "_law_packed", defArgs zpacked, defBody zpacked, defScope zpacked, [], []⟩
def d_caught : He.DefD := ⟨("_law_caught", none), "_law_caught", "_law_caught", defArgs zcaught, defBody zcaught, defScope zcaught, [], []⟩
def d_made : He.DefD := ⟨("_law_made", none), "_law_made", "_law_made", defArgs zmade, defBody zmade, defScope zmade, [], []⟩
def d_good : He.DefD := ⟨("_law_good", none), "_law_good", "_law_good", defArgs zgood, defBody zgood, defScope zgood, [], []⟩
def d_wrong : He.DefD := ⟨("_law_wrong", none), "_law_wrong", "_law_wrong", defArgs zwrong, defBody zwrong, defScope zwrong, [], []⟩
def d_law : He.DefD := ⟨("law", none), "law", "law", defArgs zlaw, defBody zlaw, defScope zlaw, [], []⟩
def fns : List He.DefD := [d_number_of, d_bytes_of, d_string_of, d_strings_of, d_is_string, d_is_constant, d_depth_of, d_Code_init, d_NoCode_init, d_behind_extension, d_cut, d_lines_of_units, d_lines_of, d_of_constant, d_of_name, d_of_attribute, d_of_global, d_of_local, d_of_locals, d_of_operator, d_of_comparison, d_of_opposite, d_of_intrinsic, d_of_function_attribute, d_target_of, d_meaning_of, d_instructions, d_source_of, d_next, d_one, d_table, d_packed, d_caught, d_made, d_good, d_wrong, d_law]
def fas : List He.Fa := [.glo "number_of", .glo "bytes_of", .glo "string_of", .glo "strings_of", .glo "is_string", .glo "is_constant", .glo "depth_of", .glo "behind_extension", .glo "cut", .glo "lines_of_units", .glo "lines_of", .glo "of_constant", .glo "of_name", .glo "of_attribute", .glo "of_global", .glo "of_local", .glo "of_locals", .glo "of_operator", .glo "of_comparison", .glo "of_opposite", .glo "of_intrinsic", .glo "of_function_attribute", .glo "target_of", .glo "meaning_of", .glo "instructions", .glo "_law_source_of", .glo "_law_next", .glo "_law_one", .glo "_law_table", .glo "_law_packed", .glo "_law_caught", .glo "_law_made", .glo "_law_good", .glo "_law_wrong", .glo "law", .glo "Code", .glo "Known", .glo "Mark", .glo "NoCode", .glo "CodeError", .glo "NoTable", .glo "NoRows", .glo "NoBytes", .glo "WORDS", .glo "LEADING", .glo "MEANINGS", .glo "BACKWARD", .glo "OPERATOR_SIGNS", .glo "COMPARISON_SIGNS", .glo "INTRINSICS", .glo "ATTRIBUTES", .free "len", .free "int", .free "range", .free "tuple", .free "list", .free "isinstance", .free "bool", .free "str", .free "max", .free "reversed", .free "repr", .free "min", .free "enumerate", .free "any", .free "zip", .free "sum", .free "sorted", .free "ValueError", .int "GREATEST" 2147483647, .int "DEEPEST" 100, .int "BARRED" 37, .int "BEGINS" 128, .int "GOES_ON" 64, .int "WITH_LINE" 232, .int "WITHOUT_LINE" 248, .int "MOST_UNITS" 8, .int "EXTENDED_ARG" 71, .int "MOST_EXTENDED" 3, .int "FIRST_WITH_ARGUMENT" 45, .int "TRUTH" 16, .cls "Code", .cls "Known", .mkr "Code", .exm "NoCode" "NoCode" true, .noat "Code" "argcount", .noat "Code" "onlycount", .noat "Code" "stacksize", .noat "Code" "flags", .noat "Code" "code", .noat "Code" "depth", .noat "Code" "constants", .noat "Code" "names", .noat "Code" "slots", .noat "Code" "kinds", .noat "Code" "name", .noat "Code" "path", .noat "Code" "line", .noat "Code" "lines", .noat "Code" "handlers", .noat "Code" "identity"]
def tabs : List He.Tab := [(fun K => He.ga K "LEADING", (["FOR_ITER", "JUMP", "JUMP_BACKWARD", "JUMP_BACKWARD_NO_INTERRUPT", "JUMP_FORWARD", "JUMP_NO_INTERRUPT", "POP_JUMP_IF_FALSE", "POP_JUMP_IF_NONE", "POP_JUMP_IF_NOT_NONE", "POP_JUMP_IF_TRUE", "SEND"] : List Str)), (fun K => He.ga K "MEANINGS", (["LOAD_CONST", "RETURN_CONST", "DELETE_ATTR", "DELETE_GLOBAL", "DELETE_NAME", "LOAD_NAME", "STORE_ATTR", "STORE_GLOBAL", "STORE_NAME", "LOAD_ATTR", "LOAD_GLOBAL", "DELETE_DEREF", "DELETE_FAST", "LOAD_DEREF", "LOAD_FAST", "LOAD_FAST_CHECK", "LOAD_FROM_DICT_OR_DEREF", "MAKE_CELL", "STORE_DEREF", "STORE_FAST", "LOAD_FAST_LOAD_FAST", "STORE_FAST_LOAD_FAST", "STORE_FAST_STORE_FAST", "BINARY_OP", "COMPARE_OP", "IS_OP", "CONTAINS_OP", "CALL_INTRINSIC_1", "SET_FUNCTION_ATTRIBUTE"] : List Str)), (fun K => He.ga K "BACKWARD", (["JUMP_BACKWARD", "JUMP_BACKWARD_NO_INTERRUPT"] : List Str))]
abbrev Rk : PySem.W.OpenRow := PySem.W.OpenLaw.row PySem.Challenge.rw_codewalk_k58_instructions_that_cannot_be
def tfs : List He.Defn := [("law", none)]
/-! ### a head's hook that looks at the objects of the top in their order, one by one -/
def asY (n : Nat) : List Addr := mainGlobals :: List.range' 11 (n - 11)
def obsY (fa : List He.Fa) (fn : List He.DefD) (ts : List He.Tab) (tf : List He.Defn) (ex : PySem.W.Frag → Bool) (g : Addr → Option Obj) (n : Nat) : He.AlX := (He.obsT fa fn ts (He.frT g (asY n)), ex (He.frT g (asY n)) && He.tabsB g tf (He.frT g (asY n)))
theorem saysY_of {as : List Addr} {fa : List He.Fa} {fn : List He.DefD} {ts : List He.Tab} {tf : List He.Defn} {ex : PySem.W.Frag → Bool} {w : World} {h : Heap} (e1 : He.obsT fa fn ts (He.frT h.get? as) = He.valT fn ts w) (e2 : (ex (He.frT h.get? as) && He.tabsB h.get? tf (He.frT h.get? as)) = true) :
    He.SaysX fa fn ts tf ex w h (He.frT h.get? as) := by
  obtain ⟨h1, h2⟩ := He.ba e2
  have key : ∀ p ∈ tf, PySem.W.codeHdIn (He.frT h.get? as) (He.cT (He.frT h.get? as) p).1 (He.cT (He.frT h.get? as) p).2 = true ∧ ∃ o, h.get? (He.cT (He.frT h.get? as) p).2 = some o ∧ He.emptyTab o = true := fun p hp => by
    obtain ⟨h3, h4⟩ := He.ba (List.all_eq_true.mp h2 p hp)
    refine ⟨h3, ?_⟩
    cases q : h.get? (He.cT (He.frT h.get? as) p).2 with
    | none =>
      rw [q] at h4
      cases h4
    | some o =>
      rw [q] at h4
      exact ⟨o, rfl, h4⟩
  exact ⟨e1, h1, fun p hp => (key p hp).1, fun p hp => by
    obtain ⟨_, o, q, z⟩ := key p hp
    exact He.frT_none q z, fun p hp => by
    obtain ⟨_, o, q, z⟩ := key p hp
    rw [q, He.emptyTab_eq z]⟩
def hookY (fa : List He.Fa) (fn : List He.DefD) (ts : List He.Tab) (tf : List He.Defn) (ex : PySem.W.Frag → Bool) : PySem.W.Hook where
  α := He.AlX
  obs := fun s => obsY fa fn ts tf ex s.heap.get? s.heap.objs.size
  val := fun w => He.valX fn ts w
  says := fun w h => ∃ K : PySem.W.Frag, K.In h ∧ He.SaysX fa fn ts tf ex w h K
  of := fun _ _ e => ⟨_, He.frT_in, saysY_of (congrArg (fun z : He.AlX => z.1) e) (congrArg (fun z : He.AlX => z.2) e)⟩
  keeps := fun _ _ _ ⟨K, hK, c⟩ k => ⟨K, PySem.W.Frag.In.keeps hK k, ⟨c.t, c.more, c.hd, c.out, fun p hp => k _ _ (c.empty p hp)⟩⟩
theorem obsY_eq {fa : List He.Fa} {fn : List He.DefD} {ts : List He.Tab} {tf : List He.Defn} {ex : PySem.W.Frag → Bool} {s : PySem.W.SharedT} : obsY fa fn ts tf ex (HandSHeadRun.getT s) s.n = (hookY fa fn ts tf ex).obs s.abs := by
  have e : HandSHeadRun.getT s = s.abs.heap.get? := funext (HandSHeadRun.getT_eq s)
  have z : s.abs.heap.objs.size = s.n := PySem.W.absHeap_size _ _ _
  show obsY fa fn ts tf ex (HandSHeadRun.getT s) s.n = obsY fa fn ts tf ex s.abs.heap.get? s.abs.heap.objs.size
  rw [z, e]

abbrev hkk : PySem.W.Hook := hookY fas fns tabs tfs exB
def obk (s : PySem.W.SharedT) : He.AlX := obsY fas fns tabs tfs exB (HandSHeadRun.getT s) s.n
theorem obk_eq (s : PySem.W.SharedT) : obk s = hkk.obs s.abs := obsY_eq
def loose : List Str := (["CodeError", "NoCode", "NoTable", "NoBytes", "NoRows", "GREATEST", "DEEPEST", "BARRED", "Known", "Mark", "Code", "are_equal", "is_same_constant", "number_of", "bytes_of", "string_of", "strings_of", "is_string", "depth_of", "is_constant"] : List Str) ++ (["told_constants", "WORDS", "EXTENDED_ARG", "FIRST_WITH_ARGUMENT", "OPERATOR_SIGNS", "COMPARISON_SIGNS", "TRUTH", "LEADING", "BACKWARD", "target_of", "MOST_EXTENDED", "cut", "behind_extension", "INTRINSICS", "ATTRIBUTES", "of_constant", "of_name", "of_attribute", "of_global", "of_local"] : List Str) ++ (["of_locals", "of_operator", "of_comparison", "of_opposite", "of_intrinsic", "of_function_attribute", "MEANINGS", "BEGINS", "GOES_ON", "WITH_LINE", "WITHOUT_LINE", "MOST_UNITS", "lines_of_units", "signed_number", "instructions", "lines_of", "meaning_of", "_law_source_of", "_law_next", "_law_one"] : List Str) ++ (["_law_table", "_law_packed", "_law_caught", "_law_made", "_law_good", "_law_wrong"] : List Str)
/-- a dict display asks the world about one row: both answers are the same run -/
def fixW (w : World) (b : Bool) : World := { w with params := { w.params with followText := fun s => if s = "special-get-raises" then b else w.params.followText s } }
theorem fixW_eq (w : World) : fixW w (w.params.followText "special-get-raises") = w := by
  have e : (fun s => if s = "special-get-raises" then w.params.followText "special-get-raises" else w.params.followText s) = w.params.followText := by
    funext s
    split
    · rename_i h
      rw [h]
    · rfl
  unfold fixW
  rw [e]
abbrev K_ (s : PySem.W.SharedT) : PySem.W.Frag := He.frT (HandSHeadRun.getT s) (asY s.n)
noncomputable abbrev endW (w : World) (os : OsState) : Option PySem.W.SharedT := HandSHeadRun.endF (HandSHeadRun.stepQ (HandSHeadRun.denQ HandSHeadRun.tabQ) Rk.prog w) 16000 Rk.prog w os
open PySem.W PySem.Calls HandSHeadRun in
theorem run1T (w : World) (os : OsState) : (endW (fixW w true) os).map (fun s => ((HandSHeadRun.looksF Rk.prog (boot_heap (fixW w true).params) s.abs, HandSHeadRun.seenQ (PySem.W.view Rk.prog [74]) loose (importedModules Rk.prog.main.body) (fun s => xlAt (PySem.W.view Rk.prog [74]) [] s && recOk Rk.toRowW.records s) s.abs), He.obsT fas fns tabs (K_ s))) = some ((true, openGood (PySem.W.view Rk.prog [74]) loose), (He.valT fns tabs (fixW w true))) := by
  kernel_rfl
open PySem.W PySem.Calls HandSHeadRun in
theorem run2T (w : World) (os : OsState) : (endW (fixW w true) os).map (fun s => (exA (K_ s) && He.tabsB (HandSHeadRun.getT s) tfs (K_ s)) && (exF (K_ s) && exG (K_ s))) = some true := by
  kernel_rfl
open PySem.W PySem.Calls HandSHeadRun in
theorem run1F (w : World) (os : OsState) : (endW (fixW w false) os).map (fun s => ((HandSHeadRun.looksF Rk.prog (boot_heap (fixW w false).params) s.abs, HandSHeadRun.seenQ (PySem.W.view Rk.prog [74]) loose (importedModules Rk.prog.main.body) (fun s => xlAt (PySem.W.view Rk.prog [74]) [] s && recOk Rk.toRowW.records s) s.abs), He.obsT fas fns tabs (K_ s))) = some ((true, openGood (PySem.W.view Rk.prog [74]) loose), (He.valT fns tabs (fixW w false))) := by
  kernel_rfl
open PySem.W PySem.Calls HandSHeadRun in
theorem run2F (w : World) (os : OsState) : (endW (fixW w false) os).map (fun s => (exA (K_ s) && He.tabsB (HandSHeadRun.getT s) tfs (K_ s)) && (exF (K_ s) && exG (K_ s))) = some true := by
  kernel_rfl
theorem comb {α β γ δ : Type} {o : Option α} {f : α → β} {g : α → γ} {x y1 y2 z : α → Bool} {b : β} {c : γ} {d : α → δ} {dv : δ} (h1 : o.map (fun s => ((f s, g s), d s)) = some ((b, c), dv)) (h3 : o.map (fun s => (x s && z s) && (y1 s && y2 s)) = some true) :
    o.map (fun s => (f s, g s, (d s, (x s && (y1 s && y2 s)) && z s))) = some (b, c, (dv, true)) := by
  cases o with
  | none => cases h3
  | some s =>
    have e1 : ((f s, g s), d s) = ((b, c), dv) := Option.some.inj h1
    have e3 : ((x s && z s) && (y1 s && y2 s)) = true := Option.some.inj h3
    rw [Bool.and_eq_true, Bool.and_eq_true, Bool.and_eq_true] at e3
    obtain ⟨⟨e5, e6⟩, e4, e7⟩ := e3
    cases e1
    show some (f s, g s, (d s, (x s && (y1 s && y2 s)) && z s)) = _
    rw [e4, e5, e6, e7]
    rfl
theorem runk (w : World) : HandSHeadRun.RunEq Rk (PySem.W.view Rk.prog [74]) hkk obk 16000 loose w := by
  have h : ∀ b, HandSHeadRun.RunEq Rk (PySem.W.view Rk.prog [74]) hkk obk 16000 loose (fixW w b) := fun b => by
    cases b
    · exact fun os => comb (run1F w os) (run2F w os)
    · exact fun os => comb (run1T w os) (run2T w os)
  have h2 := h (w.params.followText "special-get-raises")
  rw [fixW_eq] at h2
  exact h2
end C58

set_option maxHeartbeats 1000000
namespace C58
open PySem PySem.Spec PyProof.Rows L2
def top (i : Nat) : Stmt := PySem.Challenge.pw_codewalk_k58_instructions_that_cannot_be.main.body.getD i (.Pass ⟨0, 0, 0, 0⟩)
abbrev FnP (K : PySem.W.Frag) (x q : Str) (st : Stmt) (f : Addr) (fd : FuncData) : Prop := FunD K x q (defArgs st) (defBody st) (defScope st) [] [] f fd
/-- a def of the program as its callers see it -/
structure Cal (P : Program) (w : World) (K : PySem.W.Frag) (mg : Str → Option Value) (base : Heap) (k : Nat) (x : Str) (ps : List Str) (sp : Sp) : Prop where
  ex : ∃ f fd, FnOk P w K mg base CX0 k f fd ps sp ∧ mg x = some (.ref f) ∧ PySem.W.keepIn K (.ref f) = true ∧ Binds K fd ps []
theorem pe_cal {X : Cx} {k : Nat} {x : Str} {ps : List Str} {sp : Sp} {e : Expr} {es : List Expr} {t : TA} {p pos : Pos} (C : Cal X.prog X.w X.K X.mg X.base k x ps sp) (hr : Room k X.A) (hg : Gl X x) (ha : PA X (e :: es) t)
    (hdb : (x == ("__debug__" : Str)) = false := by decide) (he : starEach (e :: es) X.env = (false, eval e X.env) :: starEach es X.env := by rfl) (hpl : (backTo pos (starEach es X.env)).any (·.1) = false := by rfl) :
    PE X (.Call (.Name x p) (e :: es) [] pos) (tCall sp [] E0 t) := by
  obtain ⟨f, fd, F, m, kp, b⟩ := C.ex
  exact pe_call F hr hg m kp b .nil pass0 ha hdb he hpl
theorem pe_gi {X : Cx} {x : Str} {n : Int} {pos : Pos} (h : ∃ t, X.mg x = some (.int n t)) (hg : Gl X x := by rfl) (hdb : (x == ("__debug__" : Str)) = false := by decide) : PE X (.Name x pos) (tC (.int n)) := by
  obtain ⟨t, h⟩ := h
  exact pe_glob hg h ⟨t, rfl⟩ hdb
/-! ### own rules in a form that simp can reckon: each reading names what it finds in the heap by an equation -/
section
variable {X : Cx}
theorem OpR.imp' {g : Value → Value → Sem Value} {r r' : R2} (h : OpR X g r) (i : ∀ x y H Q, r' x y H Q → r x y H Q) : OpR X g r' := fun pins s σ H x y v u Q I rx ry q => h pins s σ H x y v u Q I rx ry (i _ _ _ _ q)
theorem IxR.imp' {r r' : R2} (h : IxR X r) (i : ∀ x y H Q, r' x y H Q → r x y H Q) : IxR X r' := fun e1 e2 pins s σ H x y v u Q I rx ry q => h e1 e2 pins s σ H x y v u Q I rx ry (i _ _ _ _ q)
theorem CallR.imp' {g : Value} {r r' : List V → Hp → VK → Prop} (h : CallR X g r) (i : ∀ xs H Q, r' xs H Q → r xs H Q) : CallR X g r' := fun pins s σ H xs us Q I rx q => h pins s σ H xs us Q I rx (i _ _ _ q)
theorem SlR.imp' {r r' : V → Option Int → Option Int → Hp → VK → Prop} (h : L2.SlR X r) (i : ∀ x a b H Q, r' x a b H Q → r x a b H Q) : L2.SlR X r' := fun pins s σ H x v vl vu lo hi sl Q I rx hs pl pu q => h pins s σ H x v vl vu lo hi sl Q I rx hs pl pu (i _ _ _ _ _ q)
theorem PE.weak {e : Expr} {t t' : TE} (h : PE X e t) (i : ∀ σ H Q, t' σ H Q → t σ H Q) : PE X e t' := ⟨fun pins s σ H Q I q => h.run pins s σ H Q I (i _ _ _ q)⟩
/-- the monotone closure of a reading -/
def mcl (te : TE) : TE := fun σ H Q => ∃ Q0 : VK, te σ H Q0 ∧ ∀ v H', Q0 v H' → Q v H'
theorem PE.mcl {e : Expr} {te : TE} (h : PE X e te) : PE X e (mcl te) := ⟨fun pins s σ H Q I q => by
  obtain ⟨Q0, q0, m⟩ := q
  exact thn (h.run pins s σ H Q0 I q0) fun u s1 ⟨v, H1, I1, r1, q1⟩ => ⟨v, H1, I1, r1, m _ _ q1⟩⟩
theorem pip_of {op : Operator} {r : R2} (h : OpR X (inplaceOp op) r) : PIp X op r := fun pins s σ H x y v u Q I rx ry q => h pins s σ H x y v u Q I rx ry q
/-- what a list or a tuple holds -/
def sq : Option HO → Option (List V)
  | some (.lst xs) => some xs
  | some (.tup xs) => some xs
  | _ => none
@[simp] theorem sq_lst {xs : List V} : sq (some (.lst xs)) = some xs := rfl
@[simp] theorem sq_tup {xs : List V} : sq (some (.tup xs)) = some xs := rfl
theorem sq_cases {o : Option HO} {xs : List V} (h : sq o = some xs) : o = some (.lst xs) ∨ o = some (.tup xs) := by
  unfold sq at h
  split at h
  · exact .inl (by rw [Option.some.inj h])
  · exact .inr (by rw [Option.some.inj h])
  · cases h
def rIxd : R2 := fun x y H Q => ∃ p i xs v, x = .ref p ∧ y = .int i ∧ sq (H p) = some xs ∧ atI xs i = some v ∧ Q v H
theorem ix_d : IxR X rIxd := IxR.imp' (IxR.or (ix_list (X := X)) (ix_tup (X := X))) fun x y H Q ⟨p, i, xs, v, e1, e2, h, ha, q⟩ => by
  rcases sq_cases h with h | h
  · exact .inl ⟨p, xs, i, v, e1, e2, SqL.of h, ha, q⟩
  · exact .inr ⟨p, xs, i, v, e1, e2, SqT.of h, ha, q⟩
def rLend : List V → Hp → VK → Prop := fun vs H Q => ∃ p xs, vs = [.ref p] ∧ sq (H p) = some xs ∧ Q (.int xs.length) H
theorem call_len_d : CallR X (.builtin "len") rLend := CallR.imp' (call_len_seq (X := X)) fun vs H Q ⟨p, xs, e, h, q⟩ => by
  rcases sq_cases h with h | h
  · exact ⟨p, xs, e, .inl (SqL.of h), q⟩
  · exact ⟨p, xs, e, .inr (SqT.of h), q⟩
/-- tuple(list), list(list), list(tuple) -/
def rTupd : List V → Hp → VK → Prop := fun vs H Q => ∃ p xs, vs = [.ref p] ∧ H p = some (.lst xs) ∧ ∀ l, H l = none → Q (.ref l) (upd H l (.tup xs))
theorem call_tuple_d : CallR X (.type "tuple") rTupd := CallR.imp' (call_tuple_of (X := X)) fun vs H Q ⟨p, xs, e, h, q⟩ => ⟨p, xs, e, .inl ⟨SqL.of h, q⟩⟩
def rListd : List V → Hp → VK → Prop := fun vs H Q => ∃ p xs, vs = [.ref p] ∧ sq (H p) = some xs ∧ ∀ l, H l = none → Q (.ref l) (upd H l (.lst xs))
theorem call_list_d : CallR X (.type "list") rListd := CallR.imp' (call_list_of (X := X)) fun vs H Q ⟨p, xs, e, h, q⟩ => by
  rcases sq_cases h with h | h
  · exact ⟨p, xs, e, .inl (SqL.of h), q⟩
  · exact ⟨p, xs, e, .inr (SqT.of h), q⟩
def rSld : V → Option Int → Option Int → Hp → VK → Prop := fun x lo hi H Q => ∃ a xs, x = .ref a ∧ H a = some (.lst xs) ∧ ∀ p, H p = none → Q (.ref p) (upd H p (.lst (cutV xs lo hi)))
theorem sl_d : L2.SlR X rSld := SlR.imp' (sl_list (X := X)) fun x lo hi H Q ⟨a, xs, e, h, q⟩ => ⟨a, xs, e, SqL.of h, q⟩
def tRevD (te : TE) : TE := fun σ H Q => te σ H fun x H1 => ∃ a xs, x = .ref a ∧ H1 a = some (.lst xs) ∧ ∀ p, H1 p = none → Q (.ref p) (upd H1 p (.lst xs.reverse))
theorem pe_revD {e : Expr} {te : TE} {k : Nat} {p1 p2 p3 pos : Pos} (he : PE X e te) : PE X (.Subscript e (.Slice none none (some (.UnaryOp .USub (.Constant (.int 1) k p1) p2)) p3) pos) (tRevD te) :=
  PE.weak (pe_revL (PE.mcl he)) fun σ H Q q => ⟨_, q, fun v H' ⟨a, xs, e, h, k⟩ => ⟨a, xs, e, SqL.of h, k⟩⟩
theorem PG.weak {tg : Expr} {t t' : TG} (h : PG X tg t) (i : ∀ v σ H Q, t' v σ H Q → t v σ H Q) : PG X tg t' := ⟨fun pins s σ H v u Q I r q => h.run pins s σ H v u Q I r (i _ _ _ _ q)⟩
/-- a, b, .. = a tuple that stands in the heap -/
def gTupD (n : Nat) (t : TGs) : TG := fun v σ H Q => ∃ a xs, v = .ref a ∧ H a = some (.tup xs) ∧ xs.length = n ∧ t xs σ H Q
theorem pg_tupD {es : List Expr} {k : Nat} {t : TGs} {n : Nat} {pos : Pos} (hc : X.calm = true) (h : PGs X es t)
    (hn : (assignEach es X.env).length = n := by rfl) (hst : (assignEach es X.env).findIdx? (·.1) = none := by rfl) : PG X (.Tuple es k pos) (gTupD n t) :=
  PG.weak (pg_tup hc h hn hst) fun v σ H Q ⟨a, xs, e, h, l, q⟩ => ⟨a, xs, e, SqT.of h, l, q⟩
def isLst : Option HO → Bool
  | some (.lst _) => true
  | _ => false
@[simp] theorem isLst_lst {xs : List V} : isLst (some (.lst xs)) = true := rfl
theorem tyV_lst {K : PySem.W.Frag} {H : Hp} {a : Addr} (h : isLst (H a) = true) : tyV K "list" (.ref a) H = True := by
  refine eq_true ?_
  cases e : H a with
  | none =>
    rw [e] at h
    cases h
  | some o =>
    rw [e] at h
    cases o with
    | lst xs => exact .inl ⟨rfl, xs, SqL.of e⟩
    | _ => cases h
end
/-! ### statements and expressions, one step each -/
section
variable {X : Cx} {σ : L2.St} {H : Hp} {Q : VK} {D : Ends} {QT : Bool → Hp → Prop} {QA : List V → Hp → Prop} {QO : Option Int → Hp → Prop}
theorem r_seq {t u : TS} : tSeq t u D σ H = t { D with nx := u D } σ H := rfl
theorem r_next : tNext D σ H = D.nx σ H := rfl
theorem r_brk : tBreak D σ H = D.bk σ H := rfl
theorem r_cont : tCont D σ H = D.ct σ H := rfl
theorem r_asg {te : TE} {g : TG} : tAsg te g D σ H = te σ H (fun x H1 => g x σ H1 D.nx) := rfl
theorem r_name {i : Nat} {v : V} {Q : L2.St → Hp → Prop} : gName i v σ H Q = Q (σ.set i (some v)) H := rfl
theorem r_ret {te : TE} : tRet te D σ H = te σ H D.rt := rfl
theorem r_retN : tRetN D σ H = D.rt .non H := rfl
theorem r_drop {te : TE} : tDrop te D σ H = te σ H (fun _ H1 => D.nx σ H1) := rfl
theorem r_ifs {c : TT} {t u : TS} : tIfS c t u D σ H = c σ H (fun b H1 => if b = true then t D σ H1 else u D σ H1) := rfl
theorem r_never : tNever D σ H = False := rfl
theorem r_var {i : Nat} : tVar i σ H Q = ∃ v, σ[i]? = some (some v) ∧ Q v H := rfl
theorem r_c {v : V} : tC v σ H Q = Q v H := rfl
theorem r_op {r : R2} {ta tb : TE} : tOp r ta tb σ H Q = ta σ H (fun x H1 => tb σ H1 fun y H2 => r x y H2 Q) := rfl
theorem r_un {r : V → Hp → VK → Prop} {ta : TE} : tUn r ta σ H Q = ta σ H (fun x H1 => r x H1 Q) := rfl
theorem r_if {c : TT} {ta tb : TE} : tIf c ta tb σ H Q = c σ H (fun b H1 => if b = true then ta σ H1 Q else tb σ H1 Q) := rfl
theorem r_tst {t : TE} : tTest t σ H QT = t σ H (fun x H' => ∃ k, x = .bl k ∧ QT k H') := rfl
theorem r_b {t : TE} : tB t σ H QT = t σ H (fun x H' => ∃ k, x = .bl k ∧ QT k H') := rfl
theorem r_not {t : TT} : tNot t σ H QT = t σ H (fun c H1 => QT (!c) H1) := rfl
theorem r_and {t u : TT} : tAnd t u σ H QT = t σ H (fun c H1 => if c = true then u σ H1 QT else QT false H1) := rfl
theorem r_or {t u : TT} : tOr t u σ H QT = t σ H (fun c H1 => if c = true then QT true H1 else u σ H1 QT) := rfl
theorem r_andV {ta tb : TE} : tAndV ta tb σ H Q = ta σ H (fun x H1 => ∃ c, x = .bl c ∧ if c = true then tb σ H1 Q else Q (.bl false) H1) := rfl
theorem r_orV {ta tb : TE} : tOrV ta tb σ H Q = ta σ H (fun x H1 => ∃ c, x = .bl c ∧ if c = true then Q (.bl true) H1 else tb σ H1 Q) := rfl
theorem r_notV {ta : TE} : tNotV ta σ H Q = ta σ H (fun x H1 => ∃ c, x = .bl c ∧ Q (.bl (!c)) H1) := rfl
theorem r_nil : tNil σ H QA = QA [] H := rfl
theorem r_cons {ta : TE} {tr : TA} : tCons ta tr σ H QA = ta σ H (fun x H1 => tr σ H1 fun xs H2 => QA (x :: xs) H2) := rfl
theorem r_tup {t : TA} : tTup t σ H Q = t σ H (fun xs H1 => xs.length ≤ sizeLine ∧ ∀ p, H1 p = none → Q (.ref p) (upd H1 p (.tup xs))) := (rfl)
theorem r_lst {t : TA} : tLst t σ H Q = t σ H (fun xs H1 => xs.length ≤ sizeLine ∧ ∀ p, H1 p = none → Q (.ref p) (upd H1 p (.lst xs))) := (rfl)
theorem r_cb {r : List V → Hp → VK → Prop} {t : TA} : tCB r t σ H Q = t σ H (fun vs H1 => r vs H1 Q) := rfl
theorem r_call {sp : Sp} {dvs : List V} {E : XK} {t : TA} : tCall sp dvs E t σ H Q = t σ H (fun vs H1 => sp (vs ++ dvs) H1 Q E) := rfl
theorem r_bm {K : PySem.W.Frag} {T : String} {r : V → List V → Hp → VK → Prop} {to : TE} {t : TA} : tBM K T r to t σ H Q = to σ H (fun x H1 => tyV K T x H1 ∧ t σ H1 fun xs H2 => r x xs H2 Q) := rfl
theorem r_bm0 {K : PySem.W.Frag} {T : String} {r : V → List V → Hp → VK → Prop} {to : TE} : tBM0 K T r to σ H Q = to σ H (fun x H1 => tyV K T x H1 ∧ r x [] H1 Q) := rfl
theorem r_sl {r : V → Option Int → Option Int → Hp → VK → Prop} {te : TE} {tl th : TO} : L2.tSl r te tl th σ H Q = te σ H (fun x H1 => tl σ H1 fun l H2 => th σ H2 fun u H3 => r x l u H3 Q) := rfl
theorem r_nopart : tNoPart σ H QO = QO none H := rfl
theorem r_part {te : TE} : tPart te σ H QO = te σ H (fun x H1 => ∃ i, x = .int i ∧ QO (some i) H1) := rfl
theorem r_rev {te : TE} : tRevD te σ H Q = te σ H (fun x H1 => ∃ a xs, x = .ref a ∧ H1 a = some (.lst xs) ∧ ∀ p, H1 p = none → Q (.ref p) (upd H1 p (.lst xs.reverse))) := rfl
theorem r_gtup {K : PySem.W.Frag} {n : Nat} {t : TGs} {v : V} {Q : L2.St → Hp → Prop} : gTup K n t v σ H Q = ∃ a xs, v = .ref a ∧ SqT K H a xs ∧ xs.length = n ∧ t xs σ H Q := rfl
theorem r_gtupD {n : Nat} {t : TGs} {v : V} {Q : L2.St → Hp → Prop} : gTupD n t v σ H Q = ∃ a xs, v = .ref a ∧ H a = some (.tup xs) ∧ xs.length = n ∧ t xs σ H Q := rfl
theorem r_gnil {vs : List V} {Q : L2.St → Hp → Prop} : gNil vs σ H Q = (vs = [] ∧ Q σ H) := rfl
theorem r_gcons {t : TG} {u : TGs} {vs : List V} {Q : L2.St → Hp → Prop} : gCons t u vs σ H Q = ∃ v r, vs = v :: r ∧ t v σ H (fun σ' H' => u r σ' H' Q) := rfl
theorem r_gsub {to ti : TE} {t : TSet} {v : V} {Q : L2.St → Hp → Prop} : gSub to ti t v σ H Q = to σ H (fun o H1 => ti σ H1 fun i H2 => t o i v H2 fun H3 => Q σ H3) := rfl
theorem r_par {i j : Nat} {ta : TA} : tPar i j ta D σ H = ta σ H (fun vs H1 => ∃ v w, vs = [v, w] ∧ D.nx ((σ.set i (some v)).set j (some w)) H1) := rfl
theorem r_aug {i : Nat} {te : TE} {ti : TIp} : tAug i te ti D σ H = ∃ x, σ[i]? = some (some x) ∧ te σ H (fun y H1 => ti x y H1 fun z H2 => D.nx (σ.set i (some z)) H2) := rfl
theorem r_chain {r r' : R2} {ta tb tc : TE} : tChain r r' ta tb tc σ H Q = ta σ H (fun x H1 => tb σ H1 fun y H2 => r x y H2 fun z H3 => ∃ k, z = .bl k ∧ (if k = true then tc σ H3 fun w' H4 => r' y w' H4 Q else Q (.bl false) H3)) := rfl
theorem r_I0 {g : Int → Int → V} {x y : V} : rI0 g x y H Q = ∃ i j, x = .int i ∧ y = .int j ∧ Q (g i j) H := rfl
theorem r_I {C : Int → Int → Prop} {g : Int → Int → V} {x y : V} : rI C g x y H Q = ∃ i j, x = .int i ∧ y = .int j ∧ C i j ∧ Q (g i j) H := rfl
theorem r_ipI {f : Int → Int → Int} {x y : V} : ipI f x y H Q = ∃ i j, x = .int i ∧ y = .int j ∧ Q (.int (f i j)) H := rfl
theorem r_U {g : Int → V} {x : V} : rU g x H Q = ∃ i, x = .int i ∧ Q (g i) H := rfl
theorem r_ixd {x y : V} : rIxd x y H Q = ∃ p i xs v, x = .ref p ∧ y = .int i ∧ sq (H p) = some xs ∧ atI xs i = some v ∧ Q v H := rfl
theorem r_lend {vs : List V} : rLend vs H Q = ∃ p xs, vs = [.ref p] ∧ sq (H p) = some xs ∧ Q (.int xs.length) H := rfl
theorem r_tupd {vs : List V} : rTupd vs H Q = ∃ p xs, vs = [.ref p] ∧ H p = some (.lst xs) ∧ ∀ l, H l = none → Q (.ref l) (upd H l (.tup xs)) := rfl
theorem r_listd {vs : List V} : rListd vs H Q = ∃ p xs, vs = [.ref p] ∧ sq (H p) = some xs ∧ ∀ l, H l = none → Q (.ref l) (upd H l (.lst xs)) := rfl
theorem r_sld {x : V} {lo hi : Option Int} : rSld x lo hi H Q = ∃ a xs, x = .ref a ∧ H a = some (.lst xs) ∧ ∀ p, H p = none → Q (.ref p) (upd H p (.lst (cutV xs lo hi))) := rfl
theorem r_app {x : V} {vs : List V} : rAppend x vs H Q = ∃ l xs y, x = .ref l ∧ vs = [y] ∧ H l = some (.lst xs) ∧ xs.length < sizeLine ∧ Q .non (upd H l (.lst (xs ++ [y]))) := rfl
theorem r_ext {x : V} {vs : List V} : rExtend x vs H Q = ∃ l b xs zs, x = .ref l ∧ vs = [.ref b] ∧ H l = some (.lst xs) ∧ H b = some (.lst zs) ∧ xs.length + zs.length ≤ sizeLine ∧ Q .non (upd H l (.lst (xs ++ zs))) := rfl
theorem r_reverse {x : V} {vs : List V} : rReverse x vs H Q = ∃ l xs, x = .ref l ∧ vs = [] ∧ H l = some (.lst xs) ∧ Q .non (upd H l (.lst xs.reverse)) := rfl
theorem r_setl {o i v : V} {Q : Hp → Prop} : rSetL o i v H Q = ∃ p xs k j, o = .ref p ∧ i = .int k ∧ H p = some (.lst xs) ∧ ixN xs.length k = some j ∧ Q (upd H p (.lst (xs.set j v))) := rfl
theorem r_cat {x y : V} : rCat x y H Q = ∃ l b xs zs, x = .ref l ∧ y = .ref b ∧ H l = some (.lst xs) ∧ H b = some (.lst zs) ∧ xs.length + zs.length ≤ sizeLine ∧ ∀ p, H p = none → Q (.ref p) (upd H p (.lst (xs ++ zs))) := rfl
theorem r_int1 {xs : List V} : (fun xs H Q => (∃ i, xs = [V.int i] ∧ Q (V.int i) H) ∨ ∃ k, xs = [V.bl k] ∧ Q (V.int (if k = true then 1 else 0)) H : List V → Hp → VK → Prop) xs H Q = ((∃ i, xs = [V.int i] ∧ Q (V.int i) H) ∨ ∃ k, xs = [V.bl k] ∧ Q (V.int (if k = true then 1 else 0)) H) := rfl
theorem r_eqS {x y : V} : rEq x y H Q = (scal x y = true ∧ Q (.bl (decide (x = y))) H) := rfl
theorem r_neS {x y : V} : rNe x y H Q = (scal x y = true ∧ Q (.bl (!decide (x = y))) H) := rfl
theorem scal_ii {i j : Int} : scal (.int i) (.int j) = true := rfl
theorem scal_bb {i j : Bool} : scal (.bl i) (.bl j) = true := rfl
theorem scal_ss {i j : Str} : scal (.str i) (.str j) = true := rfl
theorem at0 {x : V} {xs : List V} : atI (x :: xs) 0 = some x := by
  unfold atI ixN
  rw [if_pos (by decide), if_pos (by simp)]
  rfl
theorem at1 {x y : V} {xs : List V} : atI (x :: y :: xs) 1 = some y := by
  unfold atI ixN
  rw [if_pos (by decide), if_pos (by rw [List.length_cons, List.length_cons]; omega)]
  rfl
theorem at2 {x y z : V} {xs : List V} : atI (x :: y :: z :: xs) 2 = some z := by
  unfold atI ixN
  rw [if_pos (by decide), if_pos (by rw [List.length_cons, List.length_cons, List.length_cons]; omega)]
  rfl
theorem atn {xs : List V} {i : Nat} {v : V} (h : xs[i]? = some v) : atI xs (i : Int) = some v := by
  have hi : i < xs.length := (List.getElem?_eq_some_iff.mp h).1
  unfold atI ixN
  rw [if_pos (Int.natCast_nonneg i), if_pos (by omega)]
  simpa using h
theorem ixn {n i : Nat} (h : i < n) : ixN n (i : Int) = some i := by
  unfold ixN
  rw [if_pos (Int.natCast_nonneg i), if_pos (by omega)]
  simp
theorem ix0 {n : Nat} : ixN (n + 1) 0 = some 0 := by
  unfold ixN
  rw [if_pos (by decide), if_pos (by omega)]
  rfl
theorem ix1 {n : Nat} : ixN (n + 1 + 1) 1 = some 1 := by
  unfold ixN
  rw [if_pos (by decide), if_pos (by omega)]
  rfl
theorem ix2 {n : Nat} : ixN (n + 1 + 1 + 1) 2 = some 2 := by
  unfold ixN
  rw [if_pos (by decide), if_pos (by omega)]
  rfl
theorem cm_l {i j : Int} (h : -(2 ^ 64) < i ∧ i < 2 ^ 64) : CMul i j = True := eq_true (.inl h)
theorem cm_r {i j : Int} (h : -(2 ^ 64) < j ∧ j < 2 ^ 64) : CMul i j = True := eq_true (.inr h)
theorem cm_mod {t j : Int} : CMul (t % 2147483647) j = True := eq_true (.inl ⟨by omega, by omega⟩)
theorem cdw {i j : Int} (h : 0 < j ∧ j < 2 ^ 200) : CDivW i j = True := eq_true (wide_div (b := 200) h.1 (by omega) (by decide) (by decide))
theorem cdw1009 {i : Int} : CDivW i 1009 = True := cdw (by decide)
theorem cdw2003 {i : Int} : CDivW i 2003 = True := cdw (by decide)
theorem cdw7 {i : Int} : CDivW i 7 = True := cdw (by decide)
theorem cdw64 {i : Int} : CDivW i 64 = True := cdw (by decide)
theorem cdw2 {i : Int} : CDivW i 2 = True := cdw (by decide)
theorem cm104729 {i : Int} : CMul 104729 i = True := cm_l (by decide)
theorem cm2 {i : Int} : CMul 2 i = True := cm_l (by decide)
theorem cm3 {i : Int} : CMul 3 i = True := cm_l (by decide)
theorem sz_lit {xs : List V} (h : xs.length ≤ 1000) : (xs.length ≤ sizeLine) = True := eq_true (Nat.le_trans h (by decide))
/-- while by a word of the slots and the heap, a test whose answer is known -/
theorem while_d {c : TT} {tb : TS} (Pv : L2.St → Hp → Prop) (m : L2.St → Hp → Nat) (h0 : Pv σ H)
    (hs : ∀ σ H, Pv σ H → ∃ b, (∀ Q : Bool → Hp → Prop, Q b H → c σ H Q) ∧ (b = true → tb { D with nx := fun σ' H' => Pv σ' H' ∧ m σ' H' < m σ H, ct := fun σ' H' => Pv σ' H' ∧ m σ' H' < m σ H, bk := D.nx } σ H) ∧ (b = false → D.nx σ H)) : tWhile c tb D σ H := by
  refine ⟨fun k σ H => k = m σ H ∧ Pv σ H, ⟨_, rfl, h0⟩, ?_⟩
  rintro k σ H ⟨rfl, p⟩
  obtain ⟨b, hc, h1, h2⟩ := hs σ H p
  refine hc _ ?_
  cases b with
  | true => exact ⟨_, fun σ' H' ⟨p', l⟩ => ⟨_, l, rfl, p'⟩, h1 rfl⟩
  | false => exact h2 rfl
end
/-! ### heaps -/
theorem upd_at {H : Hp} {a b : Addr} {o : HO} : L2.upd H a o b = if b = a then some o else H b := rfl
theorem une {a b : Addr} (h : b ≠ a) : ∀ (H : Hp) (o : HO), L2.upd H a o b = H b := fun H o => upd_ne h
theorem ne_new {H : Hp} {a p : Addr} {o : HO} (h : H a = some o) (hp : H p = none) : a ≠ p := ne_of_none h hp
theorem new_ne {H : Hp} {a p : Addr} {o : HO} (h : H a = some o) (hp : H p = none) : p ≠ a := (ne_of_none h hp).symm
theorem Same.new' {H H1 : Hp} {p : Addr} {o : HO} (h : Same H H1) (hp : H1 p = none) : Same H (L2.upd H1 p o) := fun b u e => by
  have e1 := h b u e
  rw [upd_ne (ne_of_none e1 hp)]
  exact e1
/-! ### loops -/
/-- what a loop over J asks -/
def LoopR (J : It) (g : TG) (tb : TS) (D : Ends) (σ : L2.St) (H1 : Hp) : Prop := ∃ W : Nat → Nat → L2.St → Hp → Prop, (∃ m, W 0 m σ H1) ∧ ∀ i m σ H, W i m σ H →
  (J.stop i H ∧ D.nx σ H) ∨ (J.go i H ∧ ∃ N : L2.St → Hp → Prop, (∀ σ' H', N σ' H' → ∃ m', m' < m ∧ W (i + 1) m' σ' H') ∧ ∀ x H', J.yld i H x H' → g x σ H' fun σ2 H2 => tb { D with nx := N, ct := N, bk := D.nx } σ2 H2)
section
variable {K : PySem.W.Frag} {σ : L2.St} {H : Hp} {D : Ends} {g : TG} {tb : TS}
theorem r_for1 {ta : TA} : tFor (iRng1 ta) g tb D σ H = ta σ H (fun vs H1 => ∃ j : Int, vs = [.int j] ∧ -(2 ^ 62) ≤ j ∧ j < 2 ^ 62 ∧ LoopR (Itr 0 j.toNat) g tb D σ H1) := rfl
theorem r_forL {tl : TE} : tFor (iList K tl) g tb D σ H = tl σ H (fun x H1 => ∃ a, x = .ref a ∧ (∃ xs, SqL K H1 a xs) ∧ LoopR (Itl K a) g tb D σ H1) := rfl
theorem r_forT {tl : TE} : tFor (iTup K tl) g tb D σ H = tl σ H (fun x H1 => ∃ a, x = .ref a ∧ (∃ xs, SqT K H1 a xs) ∧ LoopR (Itt K a) g tb D σ H1) := rfl
theorem lp_rng {n : Nat} (Pv : Nat → L2.St → Hp → Prop) (h0 : Pv 0 σ H)
    (hs : ∀ (i : Nat) σ H, i < n → Pv i σ H → g (.int (i : Int)) σ H fun σ2 H2 => tb { D with nx := Pv (i + 1), ct := Pv (i + 1), bk := D.nx } σ2 H2) (hd : ∀ σ H, Pv n σ H → D.nx σ H) : LoopR (Itr 0 n) g tb D σ H :=
  for_range Pv h0 (fun i σ H hi p => by
    have q := hs i σ H hi p
    rw [Int.zero_add]
    exact q) hd
theorem lp_list {a : Addr} {xs : List V} (Pv : Nat → L2.St → Hp → Prop) (h0 : Pv 0 σ H) (hl : ∀ i σ H, i ≤ xs.length → Pv i σ H → SqL K H a xs)
    (hs : ∀ i x σ H, xs[i]? = some x → Pv i σ H → g x σ H fun σ2 H2 => tb { D with nx := Pv (i + 1), ct := Pv (i + 1), bk := D.nx } σ2 H2) (hd : ∀ σ H, Pv xs.length σ H → D.nx σ H) : LoopR (Itl K a) g tb D σ H := for_list Pv h0 hl hs hd
theorem lp_tup {a : Addr} {xs : List V} (Pv : Nat → L2.St → Hp → Prop) (h0 : Pv 0 σ H) (hl : ∀ i σ H, i ≤ xs.length → Pv i σ H → SqT K H a xs)
    (hs : ∀ i x σ H, xs[i]? = some x → Pv i σ H → g x σ H fun σ2 H2 => tb { D with nx := Pv (i + 1), ct := Pv (i + 1), bk := D.nx } σ2 H2) (hd : ∀ σ H, Pv xs.length σ H → D.nx σ H) : LoopR (Itt K a) g tb D σ H := for_tup Pv h0 hl hs hd
/-- an empty list, an empty tuple -/
theorem lp_nil {a : Addr} (hl : SqL K H a []) (hd : D.nx σ H) : LoopR (Itl K a) g tb D σ H := for_list (xs := []) (fun i s h => s = σ ∧ h = H) ⟨rfl, rfl⟩ (fun i s h _ ⟨_, e⟩ => by rw [e]; exact hl) (fun i x s h e => by cases e) fun s h ⟨e1, e2⟩ => by rw [e1, e2]; exact hd
theorem lp_nilT {a : Addr} (hl : SqT K H a []) (hd : D.nx σ H) : LoopR (Itt K a) g tb D σ H := for_tup (xs := []) (fun i s h => s = σ ∧ h = H) ⟨rfl, rfl⟩ (fun i s h _ ⟨_, e⟩ => by rw [e]; exact hl) (fun i x s h e => by cases e) fun s h ⟨e1, e2⟩ => by rw [e1, e2]; exact hd
/-- a list comprehension over J: what is kept from turn to turn -/
def CompR (J : It) (g : TG) (tt : TT) (te : TE) (vs : List Nat) (σ : L2.St) (Q : VK) (D : Addr) (H0 : Hp) : Prop := ∃ W : Nat → Nat → Hp → Prop, (∃ m, W 0 m H0) ∧ ∀ i m H, W i m H →
  (J.stop i H ∧ Q (.ref D) H) ∨ (J.go i H ∧ ∃ Nx : Hp → Prop, (∀ H', Nx H' → ∃ m', m' < m ∧ W (i + 1) m' H') ∧ ∀ x H', J.yld i H x H' → g x (wipe σ vs) H' fun σ2 H2 => wipe σ2 vs = wipe σ vs ∧ tt σ2 H2 fun b H3 =>
    if b = true then te σ2 H3 fun y H4 => ∃ acc, H4 D = some (.lst acc) ∧ acc.length < sizeLine ∧ Nx (upd H4 D (.lst (acc ++ [y]))) else Nx H3)
theorem r_lcL {tl : TE} {tt : TT} {te : TE} {vs : List Nat} {Q : VK} : tLc (iList K tl) g tt te vs σ H Q = tl σ H (fun x H1 => ∃ a, x = .ref a ∧ (∃ xs, SqL K H1 a xs) ∧ ∀ D, H1 D = none → CompR (Itl K a) g tt te vs σ Q D (upd H1 D (.lst []))) := rfl
theorem r_lc1 {ta : TA} {tt : TT} {te : TE} {vs : List Nat} {Q : VK} : tLc (iRng1 ta) g tt te vs σ H Q = ta σ H (fun us H1 => ∃ j : Int, us = [.int j] ∧ -(2 ^ 62) ≤ j ∧ j < 2 ^ 62 ∧ ∀ D, H1 D = none → CompR (Itr 0 j.toNat) g tt te vs σ Q D (upd H1 D (.lst []))) := rfl
theorem cp_list {a : Addr} {xs : List V} {tt : TT} {te : TE} {vs : List Nat} {A : Addr} {H1 : Hp} {Q : VK} (Pv : Nat → Hp → Prop) (h0 : Pv 0 (upd H1 A (.lst []))) (hl : ∀ i H, i ≤ xs.length → Pv i H → SqL K H a xs)
    (hs : ∀ i x H, xs[i]? = some x → Pv i H → g x (wipe σ vs) H fun σ2 H2 => wipe σ2 vs = wipe σ vs ∧ tt σ2 H2 fun b H3 =>
      if b = true then te σ2 H3 fun y H4 => ∃ acc, H4 A = some (.lst acc) ∧ acc.length < sizeLine ∧ Pv (i + 1) (upd H4 A (.lst (acc ++ [y]))) else Pv (i + 1) H3) (hd : ∀ H, Pv xs.length H → Q (.ref A) H) :
    CompR (Itl K a) g tt te vs σ Q A (upd H1 A (.lst [])) := lc_list Pv h0 hl hs hd
theorem r_yes {QT : Bool → Hp → Prop} : tYes σ H QT = QT true H := rfl
end
theorem wipe_0 {σ : L2.St} : wipe σ [] = σ := rfl
theorem wipe_1 {σ : L2.St} {v : Nat} {vs : List Nat} : wipe σ (v :: vs) = (wipe σ vs).set v none := rfl
theorem cut_init (xs : List V) (x : V) : cutV (xs ++ [x]) none (some (-1)) = xs := by
  have e : HT.sIx (xs ++ [x]).length (xs ++ [x]).length (some (-1)) = xs.length := by
    simp [HT.sIx]
    omega
  unfold cutV
  rw [e, HT.sIx_none, List.drop_zero, Nat.sub_zero, List.take_left']
  rfl
theorem cut_last (xs : List V) (x : V) : cutV (xs ++ [x]) (some (-1)) none = [x] := by
  have e : HT.sIx (xs ++ [x]).length 0 (some (-1)) = xs.length := by
    simp [HT.sIx]
    omega
  unfold cutV
  rw [e, HT.sIx_none, List.drop_left', List.take_of_length_le]
  · rw [List.length_append]
    simp
  · rfl
theorem tyl {K : PySem.W.Frag} {H : Hp} {a : Addr} {xs : List V} (h : H a = some (.lst xs)) : tyV K "list" (.ref a) H := of_eq_true (tyV_lst (by rw [h]; rfl))
theorem szl {n : Nat} (h : n ≤ 1000) : n ≤ sizeLine := Nat.le_trans h (by decide)
theorem szlt {n : Nat} (h : n ≤ 1000) : n < sizeLine := Nat.lt_of_le_of_lt h (by decide)
/-- a loop over a written tuple, turn by turn -/
def UnrT (T : Addr) (all : List V) (g : TG) (tb : TS) (D : Ends) : List V → L2.St → Hp → Prop
  | [], σ, H => D.nx σ H
  | x :: xs, σ, H => g x σ H fun σ2 H2 => tb { D with nx := fun σ' H' => H' T = some (.tup all) ∧ UnrT T all g tb D xs σ' H', ct := fun σ' H' => H' T = some (.tup all) ∧ UnrT T all g tb D xs σ' H', bk := D.nx } σ2 H2
theorem unr_nil {T : Addr} {all : List V} {g : TG} {tb : TS} {D : Ends} {σ : L2.St} {H : Hp} : UnrT T all g tb D [] σ H = D.nx σ H := rfl
theorem unr_cons {T : Addr} {all : List V} {g : TG} {tb : TS} {D : Ends} {x : V} {xs : List V} {σ : L2.St} {H : Hp} : UnrT T all g tb D (x :: xs) σ H = g x σ H fun σ2 H2 => tb { D with nx := fun σ' H' => H' T = some (.tup all) ∧ UnrT T all g tb D xs σ' H', ct := fun σ' H' => H' T = some (.tup all) ∧ UnrT T all g tb D xs σ' H', bk := D.nx } σ2 H2 := rfl
theorem lp_unrT {K : PySem.W.Frag} {T : Addr} {all : List V} {g : TG} {tb : TS} {D : Ends} {σ : L2.St} {H : Hp} (h : H T = some (.tup all)) (u : UnrT T all g tb D all σ H) : LoopR (Itt K T) g tb D σ H := by
  refine lp_tup (xs := all) (fun i σ' H' => H' T = some (.tup all) ∧ UnrT T all g tb D (all.drop i) σ' H') ⟨h, u⟩ (fun i s h' _ q => SqT.of q.1) (fun i x s h' e q => ?_) fun s h' q => ?_
  · have e1 : all.drop i = x :: all.drop (i + 1) := by
      obtain ⟨hi, e2⟩ := List.getElem?_eq_some_iff.mp e
      rw [List.drop_eq_getElem_cons hi, e2]
    obtain ⟨_, q2⟩ := q
    rw [e1] at q2
    exact q2
  · obtain ⟨_, q2⟩ := q
    rw [List.drop_length] at q2
    exact q2
theorem Paired.snoc' {α β : Type} {F : α → β → Prop} : ∀ {l1 : List α} {l2 : List β} {a : α} {b : β}, Paired F l1 l2 → F a b → Paired F (l1 ++ [a]) (l2 ++ [b])
  | _, _, _, _, .nil, h => .cons h .nil
  | _, _, _, _, .cons r t, h => .cons r (Paired.snoc' t h)
theorem Paired.map' {α β : Type} {F G : α → β → Prop} {l1 : List α} {l2 : List β} (p : Paired F l1 l2) (h : ∀ a b, F a b → G a b) : Paired G l1 l2 := Paired.mapP p h
theorem cut_tail (x : V) (xs : List V) : cutV (x :: xs) (some 1) none = xs := by
  have e : HT.sIx (x :: xs).length 0 (some 1) = 1 := by
    simp [HT.sIx]
  unfold cutV
  rw [e, HT.sIx_none]
  simp
/-- for x in a name that holds a list or a tuple -/
def iSeqV (K : PySem.W.Frag) (i : Nat) : TI := fun σ H R => ∃ a, σ[i]? = some (some (.ref a)) ∧ (((∃ xs, H a = some (.lst xs)) ∧ R (Itl K a) H) ∨ ((∃ xs, H a = some (.tup xs)) ∧ R (Itt K a) H))
theorem pi_seqV {X : Cx} (i : Nat) {x : Str} {tg : Expr} {pos : Pos} (hN : X.N[i]? = some x := by rfl) (hv : Vis X.env.scope x := by first | exact Or.inl rfl | exact Or.inr (Or.inl rfl) | exact Or.inr (Or.inr rfl)) (hd : (x == ("__debug__" : Str)) = false := by decide)
    (hcd : (x == ("__classdict__" : Str)) = false := by decide) : PI X tg (.Name x pos) (iSeqV X.K i) := ⟨fun pins s σ H R I h => by
  obtain ⟨a, h0, ⟨⟨xs, e⟩, q⟩ | ⟨⟨xs, e⟩, q⟩⟩ := h
  · exact (pi_list (pe_var hN hv hd hcd)).run pins s σ H R I ⟨_, h0, a, rfl, ⟨_, SqL.of e⟩, q⟩
  · exact (pi_tup (pe_var hN hv hd hcd)).run pins s σ H R I ⟨_, h0, a, rfl, ⟨_, SqT.of e⟩, q⟩⟩
theorem r_forS {K : PySem.W.Frag} {i : Nat} {g : TG} {tb : TS} {D : Ends} {σ : L2.St} {H : Hp} : tFor (iSeqV K i) g tb D σ H = ∃ a, σ[i]? = some (some (.ref a)) ∧ (((∃ xs, H a = some (.lst xs)) ∧ LoopR (Itl K a) g tb D σ H) ∨ ((∃ xs, H a = some (.tup xs)) ∧ LoopR (Itt K a) g tb D σ H)) := rfl
theorem lp_seq {K : PySem.W.Frag} {g : TG} {tb : TS} {D : Ends} {σ : L2.St} {H : Hp} {a : Addr} {xs : List V} (h : sq (H a) = some xs) (Pv : Nat → L2.St → Hp → Prop) (h0 : Pv 0 σ H) (hl : ∀ i σ H', Pv i σ H' → H' a = H a)
    (hs : ∀ i x σ H, xs[i]? = some x → Pv i σ H → g x σ H fun σ2 H2 => tb { D with nx := Pv (i + 1), ct := Pv (i + 1), bk := D.nx } σ2 H2) (hd : ∀ σ H, Pv xs.length σ H → D.nx σ H) :
    ((∃ xs, H a = some (.lst xs)) ∧ LoopR (Itl K a) g tb D σ H) ∨ ((∃ xs, H a = some (.tup xs)) ∧ LoopR (Itt K a) g tb D σ H) := by
  rcases sq_cases h with e | e
  · exact .inl ⟨⟨_, e⟩, lp_list Pv h0 (fun i s h' _ q => SqL.of (by rw [hl i s h' q, e])) hs hd⟩
  · exact .inr ⟨⟨_, e⟩, lp_tup Pv h0 (fun i s h' _ q => SqT.of (by rw [hl i s h' q, e])) hs hd⟩
theorem Paired.at' {α β : Type} {F : α → β → Prop} : ∀ {l1 : List α} {l2 : List β} {i : Nat}, Paired F l1 l2 → (h1 : i < l1.length) → (h2 : i < l2.length) → F l1[i] l2[i]
  | _, _, 0, .cons r _, _, _ => r
  | _, _, i + 1, .cons _ t, h1, h2 => Paired.at' (i := i) t (by simpa using h1) (by simpa using h2)

/-! ### isinstance, in a form that simp can reckon -/
structure ClsI (K : PySem.W.Frag) (C : Addr) : Prop where
  cl : Cls K C
  ha : PySem.W.findIn K (.ref C) "__class__" = some (some (.builtin "object.__class__"))
  hn : PySem.W.specialIn K (.builtin "object.__class__") "__get__" = some (some (.builtin "getset_descriptor.__get__"))
  htk : PySem.W.takesIn K (.builtin "object.__class__") = some true
  hm : PySem.W.mroIn K C (.type "object") = some true
/-- what stands there, by its class (of own classes C alone) -/
def tyH (C : Addr) : Option HO → Option Value
  | some (.lst _) => some (.type "list")
  | some (.tup _) => some (.type "tuple")
  | some (.dK _) => some (.type "dict")
  | some (.ins D _ _) => if D = C then some (.ref C) else none
  | _ => none
def tyD (C : Addr) (H : Hp) : V → Option Value
  | .non => some (.type "NoneType")
  | .bl _ => some (.type "bool")
  | .int _ => some (.type "int")
  | .str _ => some (.type "str")
  | .ref a => tyH C (H a)
  | _ => none
theorem tyD_ok {K : PySem.W.Frag} {C : Addr} {H : Hp} {x : V} {t : Value} (c : ClsI K C) (h : tyD C H x = some t) : TyX K H x t := by
  cases x with
  | non => cases h; exact .base .non
  | bl b => cases h; exact .base (.bl b)
  | int i => cases h; exact .base (.int i)
  | str s => cases h; exact .base (.str s)
  | ref a =>
    have h2 : tyH C (H a) = some t := h
    cases e : H a with
    | none =>
      rw [e] at h2
      cases h2
    | some o =>
      rw [e] at h2
      cases o with
      | lst xs => cases h2; exact .base (.lst e)
      | tup xs => cases h2; exact .base (.tup e)
      | dK kvs => cases h2; exact .base (.dK e)
      | ins D dx fs =>
        have h3 : (if D = C then some (Value.ref C) else none) = some t := h2
        by_cases q : D = C
        · rw [if_pos q] at h3
          cases h3
          subst q
          exact .base (.ins e c.cl c.ha c.hn c.htk c.hm)
        · rw [if_neg q] at h3
          cases h3
      | _ => cases h2
  | _ => cases h
def clsD : V → Option Value
  | .ty n => some (.type n)
  | .ref C => some (.ref C)
  | _ => none
theorem clsD_ok {c : V} {u : Value} (h : clsD c = some u) : ClsV c u := by
  cases c with
  | ty n => cases h; exact .ty n
  | ref C => cases h; exact .own C
  | _ => cases h
def rIsD (K : PySem.W.Frag) (C : Addr) : List V → Hp → VK → Prop := fun vs H Q => ∃ x c t u b, vs = [x, c] ∧ clsD c = some u ∧ tyD C H x = some t ∧ PySem.W.kitOne K t u = some b ∧ Q (.bl b) H
theorem call_is_d {X : Cx} {C : Addr} (c : ClsI X.K C) : CallR X (.builtin "isinstance") (rIsD X.K C) := CallR.imp' (call_isi (X := X)) fun vs H Q ⟨x, d, t, u, b, e, h1, h2, h3, q⟩ => ⟨x, d, t, u, b, e, clsD_ok h1, tyD_ok c h2, h3, q⟩
/-- isinstance(x, (list, tuple)) -/
def rIsLT (K : PySem.W.Frag) (C : Addr) : List V → Hp → VK → Prop := fun vs H Q => ∃ x tp t b, vs = [x, .ref tp] ∧ H tp = some (.tup [.ty "list", .ty "tuple"]) ∧ tyD C H x = some t ∧ PySem.W.kitAny K t [.type "list", .type "tuple"] = some b ∧ Q (.bl b) H
theorem call_is_lt {X : Cx} {C : Addr} (c : ClsI X.K C) : CallR X (.builtin "isinstance") (rIsLT X.K C) := CallR.imp' (call_isiT (X := X)) fun vs H Q ⟨x, tp, t, b, e, h1, h2, h3, q⟩ =>
  ⟨x, tp, _, t, _, b, e, h1, .cons (.ty "list") (.cons (.ty "tuple") .nil), tyD_ok c h2, h3, q⟩
section
variable {K : PySem.W.Frag} {C : Addr} {H : Hp} {Q : VK} {σ : L2.St} {D : Ends}
theorem r_isd {vs : List V} : rIsD K C vs H Q = ∃ x c t u b, vs = [x, c] ∧ clsD c = some u ∧ tyD C H x = some t ∧ PySem.W.kitOne K t u = some b ∧ Q (.bl b) H := rfl
theorem r_islt {vs : List V} : rIsLT K C vs H Q = ∃ x tp t b, vs = [x, .ref tp] ∧ H tp = some (.tup [.ty "list", .ty "tuple"]) ∧ tyD C H x = some t ∧ PySem.W.kitAny K t [.type "list", .type "tuple"] = some b ∧ Q (.bl b) H := rfl
theorem cD_ty {n : String} : clsD (.ty n) = some (.type n) := rfl
theorem cD_ref {a : Addr} : clsD (.ref a) = some (.ref a) := rfl
theorem tD_non : tyD C H .non = some (.type "NoneType") := rfl
theorem tD_bl {b : Bool} : tyD C H (.bl b) = some (.type "bool") := rfl
theorem tD_int {i : Int} : tyD C H (.int i) = some (.type "int") := rfl
theorem tD_str {s : Str} : tyD C H (.str s) = some (.type "str") := rfl
theorem tD_ref {a : Addr} : tyD C H (.ref a) = tyH C (H a) := rfl
theorem tH_lst {xs : List V} : tyH C (some (.lst xs)) = some (.type "list") := rfl
theorem tH_tup {xs : List V} : tyH C (some (.tup xs)) = some (.type "tuple") := rfl
theorem tH_dK {kvs : List (Key × V)} : tyH C (some (.dK kvs)) = some (.type "dict") := rfl
theorem tH_ins {dx : Addr} {fs : List (Str × V)} : tyH C (some (.ins C dx fs)) = some (.ref C) := if_pos rfl
theorem ki_self {t : Value} : PySem.W.kitOne K t t = some true := by
  unfold PySem.W.kitOne
  rw [if_pos (by simp)]
theorem ki_int_bool : PySem.W.kitOne K (.type "int") (.type "bool") = some false := kit_ty (by decide +kernel)
theorem ki_non_int : PySem.W.kitOne K (.type "NoneType") (.type "int") = some false := kit_ty (by decide +kernel)
theorem ki_str_int : PySem.W.kitOne K (.type "str") (.type "int") = some false := kit_ty (by decide +kernel)
theorem ki_lt_lst : PySem.W.kitAny K (.type "list") [.type "list", .type "tuple"] = some true := by
  unfold PySem.W.kitAny
  rw [ki_self]
theorem ki_lt_tup : PySem.W.kitAny K (.type "tuple") [.type "list", .type "tuple"] = some true := by
  have e : PySem.W.kitOne K (.type "tuple") (.type "list") = some false := kit_ty (by decide +kernel)
  unfold PySem.W.kitAny
  rw [e]
  unfold PySem.W.kitAny
  rw [ki_self]
theorem r_fld {ta : TE} {f : Str} : tFld K ta f σ H Q = ta σ H (fun x H1 => ∃ a C dx fs v, x = .ref a ∧ H1 a = some (.ins C dx fs) ∧ Cls K C ∧ NoAttr K C f ∧ fs.lookup f = some v ∧ Q v H1) := rfl
theorem r_sfld {ta tv : TE} {f : Str} : sFld K ta tv f D σ H = tv σ H (fun y H1 => ta σ H1 fun x H2 => ∃ a C dx fs, x = .ref a ∧ H2 a = some (.ins C dx fs) ∧ Cls K C ∧ NoAttr K C f ∧ fs.length < 1000 ∧ D.nx σ (upd H2 a (.ins C dx (putF f y fs)))) := rfl
end
theorem cx_K {CX : CXT} {P : Program} {w : World} {K : PySem.W.Frag} {mg : Str → Option Value} {base : Heap} {N : List Str} {q : Str} {sc : Scope} {f : Addr} {cd : Value} {A : Around} {outer : List Env} {s : Shared} {H : Hp} {E : XK} : (cxOf CX P w K mg base N q sc f cd A outer s H E).K = K := rfl
/-! ### own exceptions with one field -/
def spXInit (C : Addr) (f : Str) : Sp := fun vs H Q _ => ∃ (a : Addr) (v : V), vs = [.ref a, v] ∧ H a = some (exo a C none) ∧ ∀ d, H d = none → d ≠ a → Q .non (upd (upd H d (exd d [(f, v)])) a (exo a C (some d)))
structure Exn (P : Program) (w : World) (K : PySem.W.Frag) (mg : Str → Option Value) (base : Heap) (x : Str) (C : Addr) (f : Str) : Prop where
  ox : OexC K C
  gl : mg x = some (.ref C)
  ex : ∃ fI fd, PySem.W.findIn K (.ref C) "__init__" = some (some (.ref fI)) ∧ PySem.W.typeIn K (.ref fI) = some (.type "function") ∧ FnOk P w K mg base CX0 1 fI fd ["self", f] (spXInit C f) ∧ Binds K fd ["self", f] []
theorem pmk_x {X : Cx} {x f : Str} {C : Addr} {e : Expr} {te : TE} {p pos : Pos} (N : Exn X.prog X.w X.K X.mg X.base x C f) (hr : Room 2 X.A) (hg : Gl X x) (ha : PE X e te)
    (hs : starEach [e] X.env = (false, eval e X.env) :: starEach [] X.env := by rfl) (hdb : (x == ("__debug__" : Str)) = false := by decide) (hpl : (backTo pos (starEach [] X.env)).any (·.1) = false := by rfl) :
    PMk X (.Call (.Name x p) [e] [] pos) (tMkO C (spXInit C f) [] (tCons te tNil)) := by
  obtain ⟨fI, fd, iC, tI, F, b⟩ := N.ex
  exact pmk_oex N.ox iC tI F hr b .nil pass0 hg N.gl (pa_cons ha pa_nil hs) hdb hs hpl
/-- what a raise of such an exception asks -/
theorem raise_x {C : Addr} {f : Str} {te : TE} {σ : L2.St} {H : Hp} {E : XK} {v : V} (h : ∀ Q : VK, Q v H → te σ H Q) (k : ∀ d H', H d = none → Same H H' → H' d = some (.xd [(f, v)]) → E (.ref C) (some d) H') : tMkO C (spXInit C f) [] (tCons te tNil) σ H E := by
  refine h _ ⟨by show 1 ≤ 1000; decide, fun a ha => ⟨a, v, rfl, upd_same, fun d hd da => ⟨rfl, d, [(f, v)], upd_same, ?_, ?_, ?_⟩⟩⟩
  · rw [upd_ne da, upd_same]
  · rw [upd_ne da] at hd
    exact hd
  · rw [upd_ne da] at hd
    refine k d _ hd (fun b o e => ?_) upd_same
    have ba : b ≠ a := ne_new e ha
    have bd : b ≠ d := ne_new e hd
    rw [upd_ne bd, del_ne ba, upd_ne ba, upd_ne bd, upd_ne ba]
    exact e

/-! ### the source of choices -/
def Src (H : Hp) (a : Addr) : Prop := ∃ x y z : Int, H a = some (.lst [.int x, .int y, .int z])
/-- all but a stays -/
def Keep (a : Addr) (H H' : Hp) : Prop := ∀ b o, b ≠ a → H b = some o → H' b = some o
theorem Keep.refl (a : Addr) (H : Hp) : Keep a H H := fun _ _ _ h => h
theorem Keep.trans {a : Addr} {H H1 H2 : Hp} (h : Keep a H H1) (k : Keep a H1 H2) : Keep a H H2 := fun b o n e => k b o n (h b o n e)
theorem Keep.upd {a : Addr} {H H1 : Hp} {o : HO} (h : Keep a H H1) : Keep a H (upd H1 a o) := fun b u n e => by
  rw [upd_ne n]
  exact h b u n e
theorem Keep.new {a p : Addr} {H H1 : Hp} {o : HO} (h : Keep a H H1) (hp : H1 p = none) : Keep a H (L2.upd H1 p o) := fun b u n e => by
  have e1 := h b u n e
  rw [upd_ne (ne_of_none e1 hp)]
  exact e1
theorem Keep.same {a : Addr} {H H1 : Hp} (h : Same H H1) : Keep a H H1 := fun b o _ e => h b o e
theorem Src.new {H : Hp} {a p : Addr} {o : HO} (h : Src H a) (hp : H p = none) : Src (L2.upd H p o) a := by
  obtain ⟨x, y, z, e⟩ := h
  exact ⟨x, y, z, by rw [upd_ne (ne_new e hp)]; exact e⟩
theorem Src.ne {H : Hp} {a p : Addr} (h : Src H a) (hp : H p = none) : p ≠ a := by
  obtain ⟨x, y, z, e⟩ := h
  exact new_ne e hp
structure Txt (mg : Str → Option Value) : Prop where
  b_len : mg "len" = none
  b_int : mg "int" = none
  b_range : mg "range" = none
  b_tuple : mg "tuple" = none
  b_list : mg "list" = none
  b_isinstance : mg "isinstance" = none
  b_bool : mg "bool" = none
  b_str : mg "str" = none
  b_max : mg "max" = none
  b_reversed : mg "reversed" = none
  b_repr : mg "repr" = none
  g_GREATEST : ∃ t, mg "GREATEST" = some (.int 2147483647 t)
  g_DEEPEST : ∃ t, mg "DEEPEST" = some (.int 100 t)
  g_BARRED : ∃ t, mg "BARRED" = some (.int 37 t)
  g_BEGINS : ∃ t, mg "BEGINS" = some (.int 128 t)
  g_GOES_ON : ∃ t, mg "GOES_ON" = some (.int 64 t)
  b_min : mg "min" = none
  g_WITH_LINE : ∃ t, mg "WITH_LINE" = some (.int 232 t)
  g_WITHOUT_LINE : ∃ t, mg "WITHOUT_LINE" = some (.int 248 t)
  g_MOST_UNITS : ∃ t, mg "MOST_UNITS" = some (.int 8 t)
  b_enumerate : mg "enumerate" = none
  b_any : mg "any" = none
  b_zip : mg "zip" = none
  b_sum : mg "sum" = none
def spSrc : Sp := fun vs H Q _ => ∃ n : Int, vs = [.int n] ∧ ∀ p H', H p = none → Same H H' → Src H' p → Q (.ref p) H'
def spNext : Sp := fun vs H Q _ => ∃ (a : Addr) (m : Int), vs = [.ref a, .int m] ∧ Src H a ∧ 0 < m ∧ m < 2 ^ 200 ∧ ∀ (r : Int) H', 0 ≤ r → r < m → Keep a H H' → Src H' a → Q (.int r) H'
def spOne : Sp := fun vs H Q _ => ∃ (a b : Addr) (xs : List V), vs = [.ref a, .ref b] ∧ Src H a ∧ b ≠ a ∧ H b = some (.lst xs) ∧ xs ≠ [] ∧ xs.length ≤ 1000 ∧ ∀ v H', v ∈ xs → Keep a H H' → Src H' a → Q v H'
section
variable {P : Program} {w : World} {K : PySem.W.Frag} {mg : Str → Option Value} {base : Heap} {f : Addr} {fd : FuncData}
abbrev ssource_of : Stmt := top 65
theorem scsource_of : FnScope ["_law_cell"] ["_law_cell"] (defScope ssource_of) := ⟨rfl, rfl, rfl, by decide +kernel, rfl, by decide +kernel, by decide +kernel⟩

abbrev snext : Stmt := top 66
theorem scnext : FnScope ["_law_source", "_law_many", "_law_found", "_law_prime", "_law_number"] ["_law_source", "_law_many"] (defScope snext) := ⟨rfl, rfl, rfl, by decide +kernel, rfl, by decide +kernel, by decide +kernel⟩

abbrev sone : Stmt := top 67
theorem scone : FnScope ["_law_source", "_law_some"] ["_law_source", "_law_some"] (defScope sone) := ⟨rfl, rfl, rfl, by decide +kernel, rfl, by decide +kernel, by decide +kernel⟩

theorem ok_source_of (T : Txt mg) (F : FnP K "_law_source_of" "_law_source_of" ssource_of f fd) : FnOk P w K mg base CX0 1 f fd ["_law_cell"] spSrc := by
  refine F.ok scsource_of (fun vs H Q E h => ?_) (fun cdv A outer s H vs Q E hr h => ?_)
  · obtain ⟨n, rfl, _⟩ := h
    rfl
  · obtain ⟨n, rfl, k⟩ := h
    refine ⟨_, PSs.nox (pss_cons (ps_set (i := 0) scsource_of.nd rfl (Or.inl rfl) (pe_ifExp (pt_cmpR op_ge (pv 0) pe_int (nomark _)) (pv 0) (pe_op op_sub (pe_op op_sub pe_int (pe_op op_mul pe_int (pv 0))) pe_int)))
  (pss_one (ps_ret (pe_lst (pa_cons (pe_op op_mul (pv 0) (pe_callTy call_int1 (by rfl) T.b_int (by decide +kernel) (pa_cons (pe_cmpR op_ge (pv 0) (pe_op op_pow pe_int pe_int) (nomark _)) pa_nil))) (pa_cons (pe_op op_mod (pe_callTy call_int1 (by rfl) T.b_int (by decide +kernel) (pa_cons (pv 0) pa_nil)) pe_int) (pa_cons pe_int pa_nil))))))), ?_⟩
    show (_ : TS) _ [some (.int n)] H
    simp only [r_seq, r_next, r_brk, r_cont, r_asg, r_name, r_ret, r_retN, r_drop, r_ifs, r_never, r_var, r_c, r_op, r_un, r_if, r_tst, r_b, r_not, r_and, r_or, r_andV, r_orV, r_notV, r_nil, r_cons, r_tup, r_lst, r_cb, r_call, r_bm, r_bm0, r_sl, r_nopart, r_part, r_rev, r_gnil, r_gcons, r_gsub, r_par, r_aug, r_chain, r_I0, r_I, r_U, r_ixd, r_lend, r_tupd, r_listd, r_sld, r_app, r_ext, r_reverse, r_setl, r_cat, r_int1, r_eqS, r_neS, scal_ii, scal_bb, scal_ss, at0, at1, at2, sq_lst, sq_tup, isLst_lst, List.getElem?_cons_zero, List.getElem?_cons_succ, List.set_cons_zero, List.set_cons_succ, V.int.injEq, V.bl.injEq, V.ref.injEq, V.str.injEq, HO.lst.injEq, HO.tup.injEq, Option.some.injEq, exists_eq_left', exists_eq_left, List.cons.injEq, and_true, true_and, decide_eq_true_eq, reduceCtorEq, false_and, exists_false, or_false, false_or, exists_const, and_assoc, exists_and_left, List.append_nil, ix0, ix1, ix2, cm_mod, cdw1009, cdw2003, cdw7, cdw64, cdw2, cm104729, cm2, cm3, upd_same, List.length_cons, List.length_nil, Int.reduceLT, Int.reduceLE, Nat.reduceAdd, Nat.reduceLeDiff, Nat.reduceLT, Int.reduceToNat, r_for1, r_forL, r_forT, r_lcL, r_lc1, r_yes, r_gtupD, wipe_0, wipe_1, List.cons_append, List.nil_append, r_forS, r_ipI, ite_false, ite_true, Bool.not_true, Bool.not_false, decide_true, decide_false, r_isd, r_islt, cD_ty, cD_ref, tD_non, tD_bl, tD_int, tD_str, tD_ref, tH_lst, tH_tup, tH_dK, tH_ins, ki_self, ki_int_bool, ki_non_int, ki_str_int, ki_lt_lst, ki_lt_tup, r_fld, r_sfld, HO.ins.injEq, cx_K]
    have k' : ∀ x y z : Int, ∀ p, H p = none → Q (.ref p) (upd H p (.lst [.int x, .int y, .int z])) := fun x y z p hp =>
      k p _ hp (Same.new' (Same.refl H) hp) ⟨x, y, z, upd_same⟩
    have c1 : CPow 10 18 := ⟨by decide, by decide, by decide⟩
    have c2 : ∀ (i : Int) (c : Prop) [Decidable c], CMul i (if c then 1 else 0) := fun i c _ => .inr (by split <;> decide)
    have c3 : CMul 3 n := .inl (by decide)
    exact ite2 (fun _ => ⟨c1, c2 _ _, Nat.le_trans (by decide : 3 ≤ 1000) (by decide), k' _ _ _⟩) (fun _ => ⟨c1, c2 _ _, Nat.le_trans (by decide : 3 ≤ 1000) (by decide), k' _ _ _⟩)
theorem ok_next (T : Txt mg) (F : FnP K "_law_next" "_law_next" snext f fd) : FnOk P w K mg base CX0 1 f fd ["_law_source", "_law_many"] spNext := by
  refine F.ok scnext (fun vs H Q E h => ?_) (fun cdv A outer s H vs Q E hr h => ?_)
  · obtain ⟨a, m, rfl, _⟩ := h
    rfl
  · obtain ⟨a, m, rfl, ⟨x, y, z, hS⟩, m0, m1, k⟩ := h
    refine ⟨_, PSs.nox (pss_cons (ps_if (pt_cmpR op_gt (pe_ix ix_d (pv 0) pe_int (fun _ _ => rfl)) pe_int (nomark _))
    (pss_cons (ps_set (i := 2) scnext.nd rfl (Or.inl rfl) (pe_op op_mod (pe_callTy call_int1 (by rfl) T.b_int (by decide +kernel) (pa_cons (pe_ix ix_d (pv 0) pe_int (fun _ _ => rfl)) pa_nil)) (pv 1)))
  (pss_cons (ps_asg (pe_op op_fdivW (pe_ix ix_d (pv 0) pe_int (fun _ _ => rfl)) (pv 1)) (pg_sub (pv 0) pe_int set_list))
  (pss_one (ps_ret (pv 2)))))
    pss_nil)
  (pss_cons (ps_asg (pe_op op_add (pe_ix ix_d (pv 0) pe_int (fun _ _ => rfl)) pe_int) (pg_sub (pv 0) pe_int set_list))
  (pss_cons (ps_set (i := 3) scnext.nd rfl (Or.inl rfl) pe_int)
  (pss_cons (ps_set (i := 4) scnext.nd rfl (Or.inl rfl) (pe_op op_mod (pe_callTy call_int1 (by rfl) T.b_int (by decide +kernel) (pa_cons (pe_op op_add (pe_op op_add (pe_ix ix_d (pv 0) pe_int (fun _ _ => rfl)) (pe_op op_mul pe_int (pe_ix ix_d (pv 0) pe_int (fun _ _ => rfl)))) pe_int) pa_nil)) (pv 3)))
  (pss_cons (ps_set (i := 4) scnext.nd rfl (Or.inl rfl) (pe_op op_mod (pe_callTy call_int1 (by rfl) T.b_int (by decide +kernel) (pa_cons (pe_op op_mul (pv 4) pe_int) pa_nil)) (pv 3)))
  (pss_cons (ps_set (i := 4) scnext.nd rfl (Or.inl rfl) (pe_op op_mod (pe_callTy call_int1 (by rfl) T.b_int (by decide +kernel) (pa_cons (pe_op op_mul (pv 4) (pe_op op_add (pe_op op_fdivW (pv 4) pe_int) pe_int)) pa_nil)) (pv 3)))
  (pss_cons (ps_set (i := 4) scnext.nd rfl (Or.inl rfl) (pe_op op_mod (pe_callTy call_int1 (by rfl) T.b_int (by decide +kernel) (pa_cons (pe_op op_mul (pv 4) (pe_op op_add (pe_op op_fdivW (pv 4) pe_int) pe_int)) pa_nil)) pe_int))
  (pss_one (ps_ret (pe_op op_mod (pe_callTy call_int1 (by rfl) T.b_int (by decide +kernel) (pa_cons (pe_op op_fdivW (pv 4) pe_int) pa_nil)) (pv 1))))))))))), ?_⟩
    show (_ : TS) _ [some (.ref a), some (.int m), none, none, none] H
    have hC : ∀ i, CDivW i m := fun i => of_eq_true (cdw ⟨m0, m1⟩)
    have kk : ∀ (e : Int) (u v t : Int), Q (.int (e % m)) (upd H a (.lst [.int u, .int v, .int t])) := fun e u v t => k _ _ (Int.emod_nonneg _ (by omega)) (Int.emod_lt_of_pos _ m0) (Keep.upd (Keep.refl a H)) ⟨u, v, t, upd_same⟩
    simp only [r_seq, r_next, r_brk, r_cont, r_asg, r_name, r_ret, r_retN, r_drop, r_ifs, r_never, r_var, r_c, r_op, r_un, r_if, r_tst, r_b, r_not, r_and, r_or, r_andV, r_orV, r_notV, r_nil, r_cons, r_tup, r_lst, r_cb, r_call, r_bm, r_bm0, r_sl, r_nopart, r_part, r_rev, r_gnil, r_gcons, r_gsub, r_par, r_aug, r_chain, r_I0, r_I, r_U, r_ixd, r_lend, r_tupd, r_listd, r_sld, r_app, r_ext, r_reverse, r_setl, r_cat, r_int1, r_eqS, r_neS, scal_ii, scal_bb, scal_ss, at0, at1, at2, sq_lst, sq_tup, isLst_lst, List.getElem?_cons_zero, List.getElem?_cons_succ, List.set_cons_zero, List.set_cons_succ, V.int.injEq, V.bl.injEq, V.ref.injEq, V.str.injEq, HO.lst.injEq, HO.tup.injEq, Option.some.injEq, exists_eq_left', exists_eq_left, List.cons.injEq, and_true, true_and, decide_eq_true_eq, reduceCtorEq, false_and, exists_false, or_false, false_or, exists_const, and_assoc, exists_and_left, List.append_nil, ix0, ix1, ix2, cm_mod, cdw1009, cdw2003, cdw7, cdw64, cdw2, cm104729, cm2, cm3, upd_same, List.length_cons, List.length_nil, Int.reduceLT, Int.reduceLE, Nat.reduceAdd, Nat.reduceLeDiff, Nat.reduceLT, Int.reduceToNat, r_for1, r_forL, r_forT, r_lcL, r_lc1, r_yes, r_gtupD, wipe_0, wipe_1, List.cons_append, List.nil_append, r_forS, r_ipI, ite_false, ite_true, Bool.not_true, Bool.not_false, decide_true, decide_false, r_isd, r_islt, cD_ty, cD_ref, tD_non, tD_bl, tD_int, tD_str, tD_ref, tH_lst, tH_tup, tH_dK, tH_ins, ki_self, ki_int_bool, ki_non_int, ki_str_int, ki_lt_lst, ki_lt_tup, r_fld, r_sfld, HO.ins.injEq, cx_K, hS, m0, hC]
    exact ite2 (fun _ => kk _ _ _ _) (fun _ => kk _ _ _ _)
theorem ok_one (T : Txt mg) (F : FnP K "_law_one" "_law_one" sone f fd) (C_next : Cal P w K mg base 1 "_law_next" ["_law_source", "_law_many"] spNext) : FnOk P w K mg base CX0 2 f fd ["_law_source", "_law_some"] spOne := by
  refine F.ok scone (fun vs H Q E h => ?_) (fun cdv A outer s H vs Q E hr h => ?_)
  · obtain ⟨a, b, xs, rfl, _⟩ := h
    rfl
  · obtain ⟨a, b, xs, rfl, hS, hb, hx, h0, h1, k⟩ := h
    refine ⟨_, PSs.nox (pss_one (ps_ret (pe_ix ix_d (pv 1) (pe_cal C_next (hr.mono (by decide)) rfl (pa_cons (pv 0) (pa_cons (pe_callB call_len_d (by rfl) T.b_len (by decide +kernel) (pa_cons (pv 1) pa_nil)) pa_nil))) (fun _ _ => rfl)))), ?_⟩
    show (_ : TS) _ [some (.ref a), some (.ref b)] H
    simp only [r_seq, r_next, r_brk, r_cont, r_asg, r_name, r_ret, r_retN, r_drop, r_ifs, r_never, r_var, r_c, r_op, r_un, r_if, r_tst, r_b, r_not, r_and, r_or, r_andV, r_orV, r_notV, r_nil, r_cons, r_tup, r_lst, r_cb, r_call, r_bm, r_bm0, r_sl, r_nopart, r_part, r_rev, r_gnil, r_gcons, r_gsub, r_par, r_aug, r_chain, r_I0, r_I, r_U, r_ixd, r_lend, r_tupd, r_listd, r_sld, r_app, r_ext, r_reverse, r_setl, r_cat, r_int1, r_eqS, r_neS, scal_ii, scal_bb, scal_ss, at0, at1, at2, sq_lst, sq_tup, isLst_lst, List.getElem?_cons_zero, List.getElem?_cons_succ, List.set_cons_zero, List.set_cons_succ, V.int.injEq, V.bl.injEq, V.ref.injEq, V.str.injEq, HO.lst.injEq, HO.tup.injEq, Option.some.injEq, exists_eq_left', exists_eq_left, List.cons.injEq, and_true, true_and, decide_eq_true_eq, reduceCtorEq, false_and, exists_false, or_false, false_or, exists_const, and_assoc, exists_and_left, List.append_nil, ix0, ix1, ix2, cm_mod, cdw1009, cdw2003, cdw7, cdw64, cdw2, cm104729, cm2, cm3, upd_same, List.length_cons, List.length_nil, Int.reduceLT, Int.reduceLE, Nat.reduceAdd, Nat.reduceLeDiff, Nat.reduceLT, Int.reduceToNat, r_for1, r_forL, r_forT, r_lcL, r_lc1, r_yes, r_gtupD, wipe_0, wipe_1, List.cons_append, List.nil_append, r_forS, r_ipI, ite_false, ite_true, Bool.not_true, Bool.not_false, decide_true, decide_false, r_isd, r_islt, cD_ty, cD_ref, tD_non, tD_bl, tD_int, tD_str, tD_ref, tH_lst, tH_tup, tH_dK, tH_ins, ki_self, ki_int_bool, ki_non_int, ki_str_int, ki_lt_lst, ki_lt_tup, r_fld, r_sfld, HO.ins.injEq, cx_K, hx]
    have hl : 0 < xs.length := List.length_pos_iff.mpr h0
    refine ⟨a, _, rfl, hS, by omega, by omega, fun r H1 r0 r1 k1 s1 => ?_⟩
    have hx1 := k1 b _ hb hx
    obtain ⟨i, rfl⟩ : ∃ i : Nat, r = i := ⟨r.toNat, by omega⟩
    have hi : i < xs.length := by omega
    have e1 : atI xs (i : Int) = some xs[i] := atn (List.getElem?_eq_getElem hi)
    simp only [r_seq, r_next, r_brk, r_cont, r_asg, r_name, r_ret, r_retN, r_drop, r_ifs, r_never, r_var, r_c, r_op, r_un, r_if, r_tst, r_b, r_not, r_and, r_or, r_andV, r_orV, r_notV, r_nil, r_cons, r_tup, r_lst, r_cb, r_call, r_bm, r_bm0, r_sl, r_nopart, r_part, r_rev, r_gnil, r_gcons, r_gsub, r_par, r_aug, r_chain, r_I0, r_I, r_U, r_ixd, r_lend, r_tupd, r_listd, r_sld, r_app, r_ext, r_reverse, r_setl, r_cat, r_int1, r_eqS, r_neS, scal_ii, scal_bb, scal_ss, at0, at1, at2, sq_lst, sq_tup, isLst_lst, List.getElem?_cons_zero, List.getElem?_cons_succ, List.set_cons_zero, List.set_cons_succ, V.int.injEq, V.bl.injEq, V.ref.injEq, V.str.injEq, HO.lst.injEq, HO.tup.injEq, Option.some.injEq, exists_eq_left', exists_eq_left, List.cons.injEq, and_true, true_and, decide_eq_true_eq, reduceCtorEq, false_and, exists_false, or_false, false_or, exists_const, and_assoc, exists_and_left, List.append_nil, ix0, ix1, ix2, cm_mod, cdw1009, cdw2003, cdw7, cdw64, cdw2, cm104729, cm2, cm3, upd_same, List.length_cons, List.length_nil, Int.reduceLT, Int.reduceLE, Nat.reduceAdd, Nat.reduceLeDiff, Nat.reduceLT, Int.reduceToNat, r_for1, r_forL, r_forT, r_lcL, r_lc1, r_yes, r_gtupD, wipe_0, wipe_1, List.cons_append, List.nil_append, r_forS, r_ipI, ite_false, ite_true, Bool.not_true, Bool.not_false, decide_true, decide_false, r_isd, r_islt, cD_ty, cD_ref, tD_non, tD_bl, tD_int, tD_str, tD_ref, tH_lst, tH_tup, tH_dK, tH_ins, ki_self, ki_int_bool, ki_non_int, ki_str_int, ki_lt_lst, ki_lt_tup, r_fld, r_sfld, HO.ins.injEq, cx_K, hx1, e1]
    exact k _ _ (List.getElem_mem hi) k1 s1
end
end C58

set_option maxHeartbeats 1000000
namespace C58
/-! ### zip of four lists -/
namespace Z4
open PySem PySem.Spec PyProof.Rows L2
section
variable {prog : Program} {w : World} {A : Around} {E : Value → Shared → Prop} {s : Shared}
theorem nn {x y : Nat} (h : x ≠ y) : @Ne Addr x y := h
def Rw (h : Heap) (T : Addr) (ts : Array Value) : Prop := h.get? T = some { cls := .type "tuple", data := .seq ts }
theorem put_rw {T : Addr} {ts : Array Value} {j : Nat} {x : Value} {Q : Unit → Shared → Prop} (hT : Rw s.heap T ts) (sz : ts.size = 4) (q : ∀ g, Rw g T (ts.setIfInBounds j x) → Heap.SameBut T s.heap g → Q () { s with heap := g }) :
    wpAny (model prog w) A (updateSeq T (·.setIfInBounds j x)) Q E s := by
  refine wpAny_updateSeq hT rfl (q _ ?_ (Heap.SameBut.update ..)) (by rw [sz]; decide) (by simp only [Array.size_setIfInBounds]; rw [sz]; decide)
  unfold Rw
  rw [Heap.get?_update_self _ hT rfl]
  simp [Obj.mapSeq]
/-- the four iterators at n .. n + 3, their tuple, the row that is handed out, the zip itself -/
structure St (h : Heap) (n a b c d : Nat) (xa xb xc xd : Array Value) (f0 : Value) (ts : Array Value) (k1 k2 k3 k4 : Nat) : Prop where
  lt : a < n ∧ b < n ∧ c < n ∧ d < n
  z : IsZip h (n + 6) (n + 4) (n + 5) f0
  ti : Rw h (n + 4) #[.ref n, .ref (n + 1), .ref (n + 2), .ref (n + 3)]
  to : Rw h (n + 5) ts
  sz : ts.size = 4
  i1 : h.IsListIter n a k1
  i2 : h.IsListIter (n + 1) b k2
  i3 : h.IsListIter (n + 2) c k3
  i4 : h.IsListIter (n + 3) d k4
  la : h.IsList a xa
  lb : h.IsList b xb
  lc : h.IsList c xc
  ld : h.IsList d xd
variable {h g : Heap} {n a b c d : Nat} {xa xb xc xd : Array Value} {f0 f1 : Value} {ts us : Array Value} {k1 k2 k3 k4 : Nat}
theorem St.zip (S : St h n a b c d xa xb xc xd f0 ts k1 k2 k3 k4) (new : IsZip g (n + 6) (n + 4) (n + 5) f1) (m : Heap.SameBut (n + 6) h g) : St g n a b c d xa xb xc xd f1 ts k1 k2 k3 k4 := by
  have lt := S.lt
  exact ⟨S.lt, new, m.extBut _ _ (nn (by omega)) S.ti, m.extBut _ _ (nn (by omega)) S.to, S.sz, S.i1.extBut m.extBut (nn (by omega)), S.i2.extBut m.extBut (nn (by omega)), S.i3.extBut m.extBut (nn (by omega)), S.i4.extBut m.extBut (nn (by omega)), S.la.extBut m.extBut (nn (by omega)), S.lb.extBut m.extBut (nn (by omega)), S.lc.extBut m.extBut (nn (by omega)), S.ld.extBut m.extBut (nn (by omega))⟩
theorem St.row (S : St h n a b c d xa xb xc xd f0 ts k1 k2 k3 k4) (new : Rw g (n + 5) us) (sz : us.size = 4) (m : Heap.SameBut (n + 5) h g) : St g n a b c d xa xb xc xd f0 us k1 k2 k3 k4 := by
  have lt := S.lt
  exact ⟨S.lt, m.extBut _ _ (nn (by omega)) S.z, m.extBut _ _ (nn (by omega)) S.ti, new, sz, S.i1.extBut m.extBut (nn (by omega)), S.i2.extBut m.extBut (nn (by omega)), S.i3.extBut m.extBut (nn (by omega)), S.i4.extBut m.extBut (nn (by omega)), S.la.extBut m.extBut (nn (by omega)), S.lb.extBut m.extBut (nn (by omega)), S.lc.extBut m.extBut (nn (by omega)), S.ld.extBut m.extBut (nn (by omega))⟩
theorem St.it1 (S : St h n a b c d xa xb xc xd f0 ts k1 k2 k3 k4) (new : g.IsListIter (n) a (k1 + 1)) (m : Heap.SameBut (n) h g) : St g n a b c d xa xb xc xd f0 ts (k1 + 1) k2 k3 k4 := by
  have lt := S.lt
  exact ⟨S.lt, m.extBut _ _ (nn (by omega)) S.z, m.extBut _ _ (nn (by omega)) S.ti, m.extBut _ _ (nn (by omega)) S.to, S.sz, new, S.i2.extBut m.extBut (nn (by omega)), S.i3.extBut m.extBut (nn (by omega)), S.i4.extBut m.extBut (nn (by omega)), S.la.extBut m.extBut (nn (by omega)), S.lb.extBut m.extBut (nn (by omega)), S.lc.extBut m.extBut (nn (by omega)), S.ld.extBut m.extBut (nn (by omega))⟩
theorem St.it2 (S : St h n a b c d xa xb xc xd f0 ts k1 k2 k3 k4) (new : g.IsListIter (n + 1) b (k2 + 1)) (m : Heap.SameBut (n + 1) h g) : St g n a b c d xa xb xc xd f0 ts k1 (k2 + 1) k3 k4 := by
  have lt := S.lt
  exact ⟨S.lt, m.extBut _ _ (nn (by omega)) S.z, m.extBut _ _ (nn (by omega)) S.ti, m.extBut _ _ (nn (by omega)) S.to, S.sz, S.i1.extBut m.extBut (nn (by omega)), new, S.i3.extBut m.extBut (nn (by omega)), S.i4.extBut m.extBut (nn (by omega)), S.la.extBut m.extBut (nn (by omega)), S.lb.extBut m.extBut (nn (by omega)), S.lc.extBut m.extBut (nn (by omega)), S.ld.extBut m.extBut (nn (by omega))⟩
theorem St.it3 (S : St h n a b c d xa xb xc xd f0 ts k1 k2 k3 k4) (new : g.IsListIter (n + 2) c (k3 + 1)) (m : Heap.SameBut (n + 2) h g) : St g n a b c d xa xb xc xd f0 ts k1 k2 (k3 + 1) k4 := by
  have lt := S.lt
  exact ⟨S.lt, m.extBut _ _ (nn (by omega)) S.z, m.extBut _ _ (nn (by omega)) S.ti, m.extBut _ _ (nn (by omega)) S.to, S.sz, S.i1.extBut m.extBut (nn (by omega)), S.i2.extBut m.extBut (nn (by omega)), new, S.i4.extBut m.extBut (nn (by omega)), S.la.extBut m.extBut (nn (by omega)), S.lb.extBut m.extBut (nn (by omega)), S.lc.extBut m.extBut (nn (by omega)), S.ld.extBut m.extBut (nn (by omega))⟩
theorem St.it4 (S : St h n a b c d xa xb xc xd f0 ts k1 k2 k3 k4) (new : g.IsListIter (n + 3) d (k4 + 1)) (m : Heap.SameBut (n + 3) h g) : St g n a b c d xa xb xc xd f0 ts k1 k2 k3 (k4 + 1) := by
  have lt := S.lt
  exact ⟨S.lt, m.extBut _ _ (nn (by omega)) S.z, m.extBut _ _ (nn (by omega)) S.ti, m.extBut _ _ (nn (by omega)) S.to, S.sz, S.i1.extBut m.extBut (nn (by omega)), S.i2.extBut m.extBut (nn (by omega)), S.i3.extBut m.extBut (nn (by omega)), new, S.la.extBut m.extBut (nn (by omega)), S.lb.extBut m.extBut (nn (by omega)), S.lc.extBut m.extBut (nn (by omega)), S.ld.extBut m.extBut (nn (by omega))⟩
theorem St.push (S : St h n a b c d xa xb xc xd f0 ts k1 k2 k3 k4) (o : Obj) : St (h.push o) n a b c d xa xb xc xd f0 ts k1 k2 k3 k4 :=
  ⟨S.lt, Heap.get?_push_of_some _ S.z, Heap.get?_push_of_some _ S.ti, Heap.get?_push_of_some _ S.to, S.sz, S.i1.at fun _ e => Heap.get?_push_of_some _ e, S.i2.at fun _ e => Heap.get?_push_of_some _ e, S.i3.at fun _ e => Heap.get?_push_of_some _ e, S.i4.at fun _ e => Heap.get?_push_of_some _ e, S.la.push _, S.lb.push _, S.lc.push _, S.ld.push _⟩
/-- out of the zip's own objects -/
def Out (n : Nat) (h g : Heap) : Prop := ∀ (y : Nat) (o : Obj), (y < n ∨ n + 6 < y) → h.get? y = some o → g.get? y = some o
theorem Out.but {b : Nat} (hb : n ≤ b ∧ b ≤ n + 6) {h0 : Heap} (k : Out n h0 h) (m : Heap.SameBut b h g) : Out n h0 g := fun y o q e => m.extBut _ _ (nn (by omega)) (k y o q e)
theorem rows4 {u1 u2 u3 u4 : Value} (sz : ts.size = 4) : (((ts.setIfInBounds 0 u1).setIfInBounds 1 u2).setIfInBounds 2 u3).setIfInBounds 3 u4 = #[u1, u2, u3, u4] := by
  obtain ⟨l⟩ := ts
  match l, sz with
  | [_, _, _, _], _ => rfl
theorem next_item {u1 u2 u3 u4 : Value} {Q : Value → Shared → Prop} (S : St s.heap n a b c d xa xb xc xd .none ts k1 k2 k3 k4) (e1 : xa[k1]? = some u1) (e2 : xb[k2]? = some u2) (e3 : xc[k3]? = some u3) (e4 : xd[k4]? = some u4)
    (q : ∀ g, St g n a b c d xa xb xc xd (rawInt s.heap.objs.size) #[u1, u2, u3, u4] (k1 + 1) (k2 + 1) (k3 + 1) (k4 + 1) → Rw g s.heap.objs.size #[u1, u2, u3, u4] → g.objs.size = s.heap.objs.size + 1 → Out n s.heap g → Q (.ref s.heap.objs.size) { s with heap := g }) :
    wpAny (model prog w) A (Builtin.«zip.__next__» ⟨[.ref (n + 6)], []⟩) (fun fin t => ∃ v, fin = .done (.ret v) ∧ Q v t) E s := by
  show wpAny _ _ (field (.ref (n + 6)) 2 >>= _) _ _ _
  refine wpAny_bind (wpAny_field S.z rfl (x := .bool false) rfl ?_)
  show wpAny _ _ (field (.ref (n + 6)) 3 >>= _) _ _ _
  refine wpAny_bind (wpAny_field S.z rfl (x := .ref (n + 4)) rfl ?_)
  refine wpAny_bind (wpAny_seqItems S.ti rfl ?_)
  show wpAny _ _ (Builtin.SmallTypes.ownedTupleIsFree (.ref (n + 6)) >>= _) _ _ _
  refine (wpAny_bind ?_)
  unfold Builtin.SmallTypes.ownedTupleIsFree
  refine wpAny_bind (wpAny_field S.z rfl (x := .none) rfl (wpAny_pure ?_))
  simp only [if_true]
  refine (wpAny_bind (wpAny_rule ?_))
  refine wpAny_bind (wpAny_field S.z rfl (x := .ref (n + 5)) rfl ?_)
  refine wpAny_bind (wpAny_setField_rec S.z (by simp) fun g0 z0 m0 => ?_)
  have S0 : St g0 n a b c d xa xb xc xd .ellipsis ts k1 k2 k3 k4 := S.zip z0 m0
  have K0 : Out n s.heap g0 := Out.but (by omega) (fun _ _ _ e => e) m0
  have Z0 : g0.objs.size = s.heap.objs.size := m0.1
  refine (wpAny_bind ?_)
  simp only [List.zipIdx_cons, List.zipIdx_nil, List.forIn_cons, List.forIn_nil]
  refine (wpAny_bind (wpAny_bind (wpAny_onRaise ?_)))
  show wpAny _ _ (Builtin.SmallTypes.nextOf (.ref n) >>= _) _ _ _
  refine wpAny_bind (wpAny_nextOf_list_item S0.i1 S0.la e1 fun g1 w1 m1 => wpAny_pure ?_)
  have S1 := S0.it1 w1 m1
  refine wpAny_bind (wpAny_seqItems S1.to rfl (wpAny_bind (put_rw S1.to S1.sz fun g2 w2 m2 => ?_)))
  have S2 := S1.row w2 (by simp [S1.sz]) m2
  refine (wpAny_bind (wpAny_letGo (wpAny_pure ?_)))
  have K2 : Out n s.heap g2 := Out.but (by omega) (Out.but (by omega) K0 m1) m2
  have Z2 : g2.objs.size = s.heap.objs.size := by rw [m2.1, m1.1, Z0]
  refine (wpAny_bind (wpAny_bind (wpAny_onRaise ?_)))
  show wpAny _ _ (Builtin.SmallTypes.nextOf (.ref (n + 1)) >>= _) _ _ _
  refine wpAny_bind (wpAny_nextOf_list_item S2.i2 S2.lb e2 fun g3 w3 m3 => wpAny_pure ?_)
  have S3 := S2.it2 w3 m3
  refine wpAny_bind (wpAny_seqItems S3.to rfl (wpAny_bind (put_rw S3.to S3.sz fun g4 w4 m4 => ?_)))
  have S4 := S3.row w4 (by simp [S3.sz]) m4
  refine (wpAny_bind (wpAny_letGo (wpAny_pure ?_)))
  have K4 : Out n s.heap g4 := Out.but (by omega) (Out.but (by omega) K2 m3) m4
  have Z4 : g4.objs.size = s.heap.objs.size := by rw [m4.1, m3.1, Z2]
  refine (wpAny_bind (wpAny_bind (wpAny_onRaise ?_)))
  show wpAny _ _ (Builtin.SmallTypes.nextOf (.ref (n + 2)) >>= _) _ _ _
  refine wpAny_bind (wpAny_nextOf_list_item S4.i3 S4.lc e3 fun g5 w5 m5 => wpAny_pure ?_)
  have S5 := S4.it3 w5 m5
  refine wpAny_bind (wpAny_seqItems S5.to rfl (wpAny_bind (put_rw S5.to S5.sz fun g6 w6 m6 => ?_)))
  have S6 := S5.row w6 (by simp [S5.sz]) m6
  refine (wpAny_bind (wpAny_letGo (wpAny_pure ?_)))
  have K6 : Out n s.heap g6 := Out.but (by omega) (Out.but (by omega) K4 m5) m6
  have Z6 : g6.objs.size = s.heap.objs.size := by rw [m6.1, m5.1, Z4]
  refine (wpAny_bind (wpAny_bind (wpAny_onRaise ?_)))
  show wpAny _ _ (Builtin.SmallTypes.nextOf (.ref (n + 3)) >>= _) _ _ _
  refine wpAny_bind (wpAny_nextOf_list_item S6.i4 S6.ld e4 fun g7 w7 m7 => wpAny_pure ?_)
  have S7 := S6.it4 w7 m7
  refine wpAny_bind (wpAny_seqItems S7.to rfl (wpAny_bind (put_rw S7.to S7.sz fun g8 w8 m8 => ?_)))
  have S8 := S7.row w8 (by simp [S7.sz]) m8
  refine (wpAny_bind (wpAny_letGo (wpAny_pure (wpAny_pure ?_))))
  have K8 : Out n s.heap g8 := Out.but (by omega) (Out.but (by omega) K6 m7) m8
  have Z8 : g8.objs.size = s.heap.objs.size := by rw [m8.1, m7.1, Z6]
  rw [rows4 S.sz] at w8 S8
  refine wpAny_bind (wpAny_seqItems S8.to rfl (wpAny_bind (wpAny_newTuple ?_)))
  have zl : n + 6 < g8.objs.size := Heap.lt_size S8.z
  show wpAny _ _ (Builtin.SmallTypes.ownedTupleHandOut (.ref (n + 6)) (.ref g8.objs.size) >>= _) _ _ _
  refine (wpAny_bind ?_)
  unfold Builtin.SmallTypes.ownedTupleHandOut
  have P8 := S8.push { cls := .type "tuple", data := .seq #[u1, u2, u3, u4] }
  refine wpAny_bind (wpAny_setField_rec P8.z (by simp) fun g9 w9 m9 => ?_)
  have S9 : St g9 n a b c d xa xb xc xd (rawInt g8.objs.size) _ _ _ _ _ := P8.zip w9 m9
  refine wpAny_setField_rec S9.z (by simp) fun g10 w10 m10 => ?_
  have S10 : St g10 n a b c d xa xb xc xd (rawInt g8.objs.size) _ _ _ _ _ := S9.zip w10 m10
  have R8 : Rw (g8.push { cls := .type "tuple", data := .seq #[u1, u2, u3, u4] }) g8.objs.size #[u1, u2, u3, u4] := Heap.get?_push_size _ rfl
  have R10 : Rw g10 g8.objs.size #[u1, u2, u3, u4] := m10.extBut _ _ (nn (by omega)) (m9.extBut _ _ (nn (by omega)) R8)
  have K10 : Out n s.heap g10 := Out.but (by omega) (Out.but (by omega) (fun y o q e => Heap.get?_push_of_some _ (K8 y o q e)) m9) m10
  have Z10 : g10.objs.size = s.heap.objs.size + 1 := by rw [m10.1, m9.1, Heap.size_push, Z8]
  rw [Z8] at S10 R10
  refine wpAny_pure ⟨_, rfl, ?_⟩
  show Q (.ref g8.objs.size) _
  rw [Z8]
  exact q g10 S10 R10 Z10 K10
theorem next_end {Q : Fin → Shared → Prop} (hh : A.handled = none) (S : St s.heap n a b c d xa xb xc xd .none ts k1 k2 k3 k4) (e1 : xa[k1]? = none)
    (q : ∀ g e, Out n s.heap g → (∃ o, g.get? e = some o ∧ o.cls = .type "StopIteration") → E (.ref e) { s with heap := g }) :
    wpAny (model prog w) A (Builtin.«zip.__next__» ⟨[.ref (n + 6)], []⟩) Q E s := by
  show wpAny _ _ (field (.ref (n + 6)) 2 >>= _) _ _ _
  refine wpAny_bind (wpAny_field S.z rfl (x := .bool false) rfl ?_)
  show wpAny _ _ (field (.ref (n + 6)) 3 >>= _) _ _ _
  refine wpAny_bind (wpAny_field S.z rfl (x := .ref (n + 4)) rfl ?_)
  refine wpAny_bind (wpAny_seqItems S.ti rfl ?_)
  show wpAny _ _ (Builtin.SmallTypes.ownedTupleIsFree (.ref (n + 6)) >>= _) _ _ _
  refine (wpAny_bind ?_)
  unfold Builtin.SmallTypes.ownedTupleIsFree
  refine wpAny_bind (wpAny_field S.z rfl (x := .none) rfl (wpAny_pure ?_))
  simp only [if_true]
  refine (wpAny_bind (wpAny_rule ?_))
  refine wpAny_bind (wpAny_field S.z rfl (x := .ref (n + 5)) rfl ?_)
  refine wpAny_bind (wpAny_setField_rec S.z (by simp) fun g0 z0 m0 => ?_)
  have S0 : St g0 n a b c d xa xb xc xd .ellipsis ts k1 k2 k3 k4 := S.zip z0 m0
  have K0 : Out n s.heap g0 := Out.but (by omega) (fun _ _ _ e => e) m0
  have Z0 : g0.objs.size = s.heap.objs.size := m0.1
  refine (wpAny_bind ?_)
  simp only [List.zipIdx_cons, List.zipIdx_nil, List.forIn_cons, List.forIn_nil]
  refine (wpAny_bind (wpAny_bind (wpAny_onRaise ?_)))
  show wpAny _ _ (Builtin.SmallTypes.nextOf (.ref n) >>= _) _ _ _
  refine wpAny_bind (wpAny_nextOf_list_end hh S0.i1 S0.la e1 fun g1 e m1 he => ?_)
  obtain ⟨oe, h1, h2⟩ := he
  have z1 : IsZip g1 (n + 6) (n + 4) (n + 5) .ellipsis := m1 _ _ (nn (by omega)) S0.z
  have ne : e ≠ n + 6 := fun x => by subst x; rw [z1] at h1; cases h1; simp at h2
  exact wpAny_setField_rec z1 (by simp) fun g2 _ m2 => q g2 e (fun y o p x => m2.extBut _ _ (nn (by omega)) (m1 _ _ (nn (by omega)) (K0 y o p x))) ⟨oe, m2.extBut _ _ ne h1, h2⟩
theorem py_item {u1 u2 u3 u4 : Value} {Q : Option Value → Shared → Prop} (S : St s.heap n a b c d xa xb xc xd .none ts k1 k2 k3 k4) (e1 : xa[k1]? = some u1) (e2 : xb[k2]? = some u2) (e3 : xc[k3]? = some u3) (e4 : xd[k4]? = some u4)
    (q : ∀ g, St g n a b c d xa xb xc xd (rawInt s.heap.objs.size) #[u1, u2, u3, u4] (k1 + 1) (k2 + 1) (k3 + 1) (k4 + 1) → Rw g s.heap.objs.size #[u1, u2, u3, u4] → g.objs.size = s.heap.objs.size + 1 → Out n s.heap g → Q (some (.ref s.heap.objs.size)) { s with heap := g }) :
    wpAny (model prog w) A (pyNext (.ref (n + 6))) Q E s := by
  have ty : s.TypeIs (.ref (n + 6)) "zip" := ⟨_, S.z, rfl⟩
  unfold pyNext
  exact wpAny_bind (wpAny_attempt (wpAny_callSpecial?_slot (name := Str.ofString "__next__") ty F.slot_zip_next (wpAny_call_entry F.slot_zip_next ty F.entry_zip_next (next_item S e1 e2 e3 e4 fun g p1 p2 p3 p4 => wpAny_pure (q g p1 p2 p3 p4)) (F.args_zip_next_1 _))))
theorem py_end {Q : Option Value → Shared → Prop} (hh : A.handled = none) (S : St s.heap n a b c d xa xb xc xd .none ts k1 k2 k3 k4) (e1 : xa[k1]? = none) (q : ∀ g, Out n s.heap g → Q none { s with heap := g }) : wpAny (model prog w) A (pyNext (.ref (n + 6))) Q E s := by
  have ty : s.TypeIs (.ref (n + 6)) "zip" := ⟨_, S.z, rfl⟩
  unfold pyNext
  refine wpAny_bind (wpAny_attempt (wpAny_callSpecial?_slot (name := Str.ofString "__next__") ty F.slot_zip_next (wpAny_call_entry F.slot_zip_next ty F.entry_zip_next (next_end hh S e1 fun g e k he => ?_) (F.args_zip_next_1 _))))
  obtain ⟨oe, h1, h2⟩ := he
  exact wpAny_bind (wpAny_isInstance (T := "StopIteration") (b := true) ⟨oe, h1, h2⟩ isSubtype_stop (wpAny_pure (q g k)))
end
end Z4

namespace Z4
open PySem PySem.Spec PyProof.Rows L2
theorem zip_type (u v x y : Value) : checkTypeCall "zip" ⟨[u, v, x, y], []⟩ = pure () := by kernel_rfl
theorem zip_new (u v x y : Value) : checkBuiltinCall "zip.__new__" ⟨[.type "zip", u, v, x, y], []⟩ = pure () := by kernel_rfl
theorem obj_init5 (u v x y z : Value) : argsOk "object.__init__" ⟨[u, v, x, y, z], []⟩ := by
  unfold argsOk
  rw [signature?_of (id := "object.__init__") (n := "__tini__".toList) (o := "tcejbo".toList) (by kernel_rfl) F.owner_object]
  kernel_rfl
abbrev itO (a : Addr) : Obj := { cls := .type "list_iterator", data := .fields #[.ref a, .int 0 0] }
abbrev g1 (h : Heap) (a : Addr) : Heap := h.push (itO a)
abbrev g2 (h : Heap) (a b : Addr) : Heap := (g1 h a).push (itO b)
abbrev g3 (h : Heap) (a b c : Addr) : Heap := (g2 h a b).push (itO c)
abbrev g4 (h : Heap) (a b c d : Addr) : Heap := (g3 h a b c).push (itO d)
abbrev g5 (h : Heap) (a b c d : Addr) : Heap := (g4 h a b c d).push { cls := .type "tuple", data := .seq #[.ref h.objs.size, .ref (g1 h a).objs.size, .ref (g2 h a b).objs.size, .ref (g3 h a b c).objs.size] }
abbrev g6 (h : Heap) (a b c d : Addr) : Heap := (g5 h a b c d).push { cls := .type "tuple", data := .seq #[.none, .none, .none, .none] }
abbrev g7 (h : Heap) (a b c d : Addr) : Heap := (g6 h a b c d).push { cls := .type "zip", data := .fields #[.none, .bool false, .bool false, .ref (g4 h a b c d).objs.size, .ref (g5 h a b c d).objs.size] }
theorem meets4 (a b c d : Addr) (xa xb xc xd : Array Value) :
    Meets (Builtin.«zip.__new__» ⟨[.type "zip", .ref a, .ref b, .ref c, .ref d], []⟩) (fun _ R s => s.heap.IsList a xa ∧ s.heap.IsList b xb ∧ s.heap.IsList c xc ∧ s.heap.IsList d xd ∧ R (.ok (.ret (.ref (g6 s.heap a b c d).objs.size))) { s with heap := g7 s.heap a b c d }) :=
  .of_wp fun prog w A R s h => by
    obtain ⟨hp, g, dr, tk, os⟩ := s
    obtain ⟨h1, h2, h3, h4, h⟩ := h
    have hsub := sub_zip
    have p1 : Heap.IsList (Shared.heap ⟨hp, g, dr, tk, os⟩) a xa := h1
    have p2 : Heap.IsList (Shared.heap ⟨g1 hp a, g, dr, tk, os⟩) b xb := Heap.IsList.push h2 _
    have p3 : Heap.IsList (Shared.heap ⟨g2 hp a b, g, dr, tk, os⟩) c xc := Heap.IsList.push (Heap.IsList.push h3 _) _
    have p4 : Heap.IsList (Shared.heap ⟨g3 hp a b c, g, dr, tk, os⟩) d xd := Heap.IsList.push (Heap.IsList.push (Heap.IsList.push h4 _) _) _
    wp_walk using wpAny_pyIter_list p1, wpAny_pyIter_list p2, wpAny_pyIter_list p3, wpAny_pyIter_list p4
    exact ⟨_, rfl, h⟩
section
variable {prog : Program} {w : World} {A : Around} {E : Value → Shared → Prop} {s : Shared}
theorem call4 {a b c d : Addr} {xa xb xc xd : Array Value} {Q : Value → Shared → Prop} (h1 : s.heap.IsList a xa) (h2 : s.heap.IsList b xb) (h3 : s.heap.IsList c xc) (h4 : s.heap.IsList d xd)
    (q : ∀ g, St g s.heap.objs.size a b c d xa xb xc xd .none #[.none, .none, .none, .none] 0 0 0 0 → (∀ y o, s.heap.get? y = some o → g.get? y = some o) → Q (.ref (s.heap.objs.size + 6)) { s with heap := g }) :
    wpAny (model prog w) A (call (.type "zip") [.ref a, .ref b, .ref c, .ref d]) Q E s := by
  refine callType_new F.called_zip (by decide) (zip_type _ _ _ _) (zip_new _ _ _ _) (fun _ => obj_init5 _ _ _ _ _) F.entry_zip_new (meets4 a b c d xa xb xc xd) ⟨h1, h2, h3, h4, ?_⟩
  have y1 : (g1 s.heap a).objs.size = s.heap.objs.size + 1 := Heap.size_push ..
  have y2 : (g2 s.heap a b).objs.size = s.heap.objs.size + 2 := by rw [Heap.size_push, y1]
  have y3 : (g3 s.heap a b c).objs.size = s.heap.objs.size + 3 := by rw [Heap.size_push, y2]
  have y4 : (g4 s.heap a b c d).objs.size = s.heap.objs.size + 4 := by rw [Heap.size_push, y3]
  have y5 : (g5 s.heap a b c d).objs.size = s.heap.objs.size + 5 := by rw [Heap.size_push, y4]
  have y6 : (g6 s.heap a b c d).objs.size = s.heap.objs.size + 6 := by rw [Heap.size_push, y5]
  have u7 : ∀ {y o}, (g6 s.heap a b c d).get? y = some o → (g7 s.heap a b c d).get? y = some o := fun e => Heap.get?_push_of_some _ e
  have u6 : ∀ {y o}, (g5 s.heap a b c d).get? y = some o → (g7 s.heap a b c d).get? y = some o := fun e => u7 (Heap.get?_push_of_some _ e)
  have u5 : ∀ {y o}, (g4 s.heap a b c d).get? y = some o → (g7 s.heap a b c d).get? y = some o := fun e => u6 (Heap.get?_push_of_some _ e)
  have u4 : ∀ {y o}, (g3 s.heap a b c).get? y = some o → (g7 s.heap a b c d).get? y = some o := fun e => u5 (Heap.get?_push_of_some _ e)
  have u3 : ∀ {y o}, (g2 s.heap a b).get? y = some o → (g7 s.heap a b c d).get? y = some o := fun e => u4 (Heap.get?_push_of_some _ e)
  have u2 : ∀ {y o}, (g1 s.heap a).get? y = some o → (g7 s.heap a b c d).get? y = some o := fun e => u3 (Heap.get?_push_of_some _ e)
  have u1 : ∀ {y o}, s.heap.get? y = some o → (g7 s.heap a b c d).get? y = some o := fun e => u2 (Heap.get?_push_of_some _ e)
  have f7 : (g7 s.heap a b c d).get? (g6 s.heap a b c d).objs.size = some _ := Heap.get?_push_size _ rfl
  have f6 := u7 (Heap.get?_push_size (g5 s.heap a b c d) (o := { cls := .type "tuple", data := .seq #[.none, .none, .none, .none] }) rfl)
  have f5 := u6 (Heap.get?_push_size (g4 s.heap a b c d) (o := { cls := .type "tuple", data := .seq #[.ref s.heap.objs.size, .ref (g1 s.heap a).objs.size, .ref (g2 s.heap a b).objs.size, .ref (g3 s.heap a b c).objs.size] }) rfl)
  have f4 := u5 (Heap.get?_push_size (g3 s.heap a b c) (o := itO d) rfl)
  have f3 := u4 (Heap.get?_push_size (g2 s.heap a b) (o := itO c) rfl)
  have f2 := u3 (Heap.get?_push_size (g1 s.heap a) (o := itO b) rfl)
  have f1 := u2 (Heap.get?_push_size s.heap (o := itO a) rfl)
  have lt : ∀ {y : Addr} {xs : Array Value}, s.heap.IsList y xs → (show Nat from y) < s.heap.objs.size := fun ⟨_, e, _⟩ => Heap.lt_size e
  show _ ∧ _
  rw [y4, y5, y6] at f7
  rw [y4, y1, y2, y3] at f5
  rw [y5] at f6
  rw [y3] at f4
  rw [y2] at f3
  rw [y1] at f2
  rw [y6]
  have keepL : ∀ {y : Addr} {xs : Array Value}, s.heap.IsList y xs → (g7 s.heap a b c d).IsList y xs := fun ⟨o, e, r⟩ => ⟨o, u1 e, r⟩
  exact ⟨⟨_, f7, rfl⟩, q _ ⟨⟨lt h1, lt h2, lt h3, lt h4⟩, f7, f5, f6, rfl, ⟨_, f1, rfl, rfl⟩, ⟨_, f2, rfl, rfl⟩, ⟨_, f3, rfl, rfl⟩, ⟨_, f4, rfl, rfl⟩, keepL h1, keepL h2, keepL h3, keepL h4⟩ fun y o e => u1 e⟩
end
end Z4

namespace Z4
open PySem PySem.Spec PyProof.Rows L2
/-- the four lists as they stand at each turn, the items in new rows -/
def It4 (K : PySem.W.Frag) (a b c d : Addr) : It :=
  ⟨fun i H => ∃ (xs ys zs ws : List V) (x y z w : V), (SqL K H a xs ∧ SqL K H b ys ∧ SqL K H c zs ∧ SqL K H d ws) ∧ xs[i]? = some x ∧ ys[i]? = some y ∧ zs[i]? = some z ∧ ws[i]? = some w,
    fun i H v H' => ∃ T x y z w, v = .ref T ∧ H T = none ∧ H' = upd H T (.tup [x, y, z, w]) ∧ (∀ xs, SqL K H a xs → xs[i]? = some x) ∧ (∀ xs, SqL K H b xs → xs[i]? = some y) ∧ (∀ xs, SqL K H c xs → xs[i]? = some z) ∧ ∀ xs, SqL K H d xs → xs[i]? = some w,
    fun i H => ∃ xs ys zs ws : List V, (SqL K H a xs ∧ SqL K H b ys ∧ SqL K H c zs ∧ SqL K H d ws) ∧ xs.length ≤ i⟩
structure St0 (n a b c d : Nat) (k : Nat) (h : Heap) : Prop where
  z : IsZip h (n + 6) (n + 4) (n + 5) .none
  ti : Rw h (n + 4) #[.ref n, .ref (n + 1), .ref (n + 2), .ref (n + 3)]
  to : ∃ ts, Rw h (n + 5) ts ∧ ts.size = 4
  i1 : h.IsListIter n a k
  i2 : h.IsListIter (n + 1) b k
  i3 : h.IsListIter (n + 2) c k
  i4 : h.IsListIter (n + 3) d k
abbrev fp7 (n : Nat) : List Addr := [n + 6, n + 4, n + 5, n, n + 1, n + 2, n + 3]
theorem out7 {n c : Nat} (h : c ∉ fp7 n) : c < n ∨ n + 6 < c := by
  simp only [fp7, List.mem_cons, List.not_mem_nil, or_false, not_or] at h
  obtain ⟨h0, h1, h2, h3, h4, h5, h6⟩ := h
  have q : ∀ {x y : Nat}, ¬ @Eq Addr x y → x ≠ y := fun h => h
  have := q h0
  have := q h1
  have := q h2
  have := q h3
  have := q h4
  have := q h5
  have := q h6
  omega
theorem iter_obj {h : Heap} {i l : Addr} {k : Nat} (S : h.IsListIter i l k) : ∃ o, h.get? i = some o ∧ ∀ v, o.data ≠ .cell v := by
  obtain ⟨o, e, _, e2⟩ := S
  exact ⟨o, e, fun v q => by rw [e2] at q; cases q⟩
theorem St0.obj {n a b c d k : Nat} {h : Heap} (S : St0 n a b c d k h) : ∀ y ∈ fp7 n, ∃ o, h.get? y = some o ∧ ∀ v, o.data ≠ .cell v := by
  intro y hy
  obtain ⟨ts, e, _⟩ := S.to
  simp only [fp7, List.mem_cons, List.not_mem_nil, or_false] at hy
  rcases hy with rfl | rfl | rfl | rfl | rfl | rfl | rfl
  · exact ⟨_, S.z, fun v q => nomatch q⟩
  · exact ⟨_, S.ti, fun v q => nomatch q⟩
  · exact ⟨_, e, fun v q => nomatch q⟩
  · exact iter_obj S.i1
  · exact iter_obj S.i2
  · exact iter_obj S.i3
  · exact iter_obj S.i4
theorem St0.keep {n a b c d k : Nat} {h g : Heap} (S : St0 n a b c d k h) (q : ∀ y ∈ fp7 n, ∀ o, h.get? y = some o → g.get? y = some o) : St0 n a b c d k g := by
  obtain ⟨ts, e, sz⟩ := S.to
  exact ⟨q _ (by simp) _ S.z, q _ (by simp) _ S.ti, ⟨ts, q _ (by simp) _ e, sz⟩, S.i1.at fun o => q _ (by simp) o, S.i2.at fun o => q _ (by simp) o, S.i3.at fun o => q _ (by simp) o, S.i4.at fun o => q _ (by simp) o⟩
theorem turn4 {P : Program} {w : World} {K : PySem.W.Frag} {elts : List Expr} {kk : Nat} {tpos : Pos} {n a b c d : Nat} (lt : a < n ∧ b < n ∧ c < n ∧ d < n) : Turn P w K (.Tuple elts kk tpos) (It4 K a b c d) (fp7 n) (n + 6) (St0 n a b c d) where
  mem := by simp
  obj := fun i h st => St0.obj st
  keep := fun i h h' st k => St0.keep st k
  item := by
    intro X hP hw hK hc i pins s σ H E I hf st hg
    subst hP hw hK
    obtain ⟨xs, ys, zs, ws, x, y, z, v, ⟨q1, q2, q3, q4⟩, e1, e2, e3, e4⟩ := hg
    obtain ⟨t1, v1, p1, _⟩ := I.list q1
    obtain ⟨t2, v2, p2, _⟩ := I.list q2
    obtain ⟨t3, v3, p3, _⟩ := I.list q3
    obtain ⟨t4, v4, p4, _⟩ := I.list q4
    obtain ⟨u1, f1, r1⟩ := v1.get e1
    obtain ⟨u2, f2, r2⟩ := v2.get e2
    obtain ⟨u3, f3, r3⟩ := v3.get e3
    obtain ⟨u4, f4, r4⟩ := v4.get e4
    obtain ⟨ts, et, sz⟩ := st.to
    have S : St s.heap n a b c d t1.toArray t2.toArray t3.toArray t4.toArray .none ts i i i i := ⟨lt, st.z, st.ti, et, sz, st.i1, st.i2, st.i3, st.i4, p1.isList, p2.isList, p3.isList, p4.isList⟩
    have zl : n + 6 < s.heap.objs.size := Heap.lt_size st.z
    refine py_item S (u1 := u1) (u2 := u2) (u3 := u3) (u4 := u4) (by simpa using f1) (by simpa using f2) (by simpa using f3) (by simpa using f4) fun g S1 R1 Z1 K1 => ?_
    refine ⟨_, rfl, wpAny_letOwnedTupleGo_zip (s := { s with heap := g }) S1.z fun g2 z2 m2 => ?_⟩
    have S2 := S1.zip z2 m2
    have R2 : Rw g2 s.heap.objs.size #[u1, u2, u3, u4] := m2.extBut _ _ (nn (by omega)) R1
    have new : ObjOk X.prog X.w (upd H s.heap.objs.size (.tup [x, y, z, v])) g2 s.heap.objs.size (.tup [x, y, z, v]) := ⟨by show 4 ≤ sizeLine; decide, [u1, u2, u3, u4], .cons r1 (.cons r2 (.cons r3 (.cons r4 .nil))), ⟨_, R2, rfl, _, rfl⟩⟩
    have I1 : Inv X pins σ (upd H s.heap.objs.size (.tup [x, y, z, v])) { s with heap := g2 } :=
      I.turnedNew (t' := s.toks) (ch := fp7 n) (fun y o hb q => (m2.2 y (fun e => hb (by rw [e]; simp))).trans (K1 y o (out7 hb) q)) hf (Nat.le_refl _) new
    refine ⟨.ref s.heap.objs.size, _, I1, rfl, ⟨_, x, y, z, v, rfl, I.hok.fresh (Nat.le_refl _), rfl, fun l hl => by rw [I.list_inj hl q1]; exact e1, fun l hl => by rw [I.list_inj hl q2]; exact e2, fun l hl => by rw [I.list_inj hl q3]; exact e3, fun l hl => by rw [I.list_inj hl q4]; exact e4⟩, ⟨S2.z, S2.ti, ⟨_, S2.to, S2.sz⟩, S2.i1, S2.i2, S2.i3, S2.i4⟩, fun y hy => ?_⟩
    obtain ⟨o, e, _⟩ := St0.obj st y hy
    rw [upd_ne (Nat.ne_of_lt (Heap.lt_size e))]
    exact (hf y hy).1
  done := by
    intro X hP hw hK hc i pins s σ H E I hf st hg
    subst hP hw hK
    obtain ⟨xs, ys, zs, ws, ⟨q1, q2, q3, q4⟩, e1⟩ := hg
    obtain ⟨t1, v1, p1, _⟩ := I.list q1
    obtain ⟨t2, v2, p2, _⟩ := I.list q2
    obtain ⟨t3, v3, p3, _⟩ := I.list q3
    obtain ⟨t4, v4, p4, _⟩ := I.list q4
    obtain ⟨ts, et, sz⟩ := st.to
    have S : St s.heap n a b c d t1.toArray t2.toArray t3.toArray t4.toArray .none ts i i i i := ⟨lt, st.z, st.ti, et, sz, st.i1, st.i2, st.i3, st.i4, p1.isList, p2.isList, p3.isList, p4.isList⟩
    have l1 := v1.length
    exact py_end (I.ok.hd hc) S (by simp; omega) fun g k => ⟨rfl, I.turnedL (t' := s.toks) (ch := fp7 n) (fun y o hb q => k y o (out7 hb) q) hf⟩
  self := fun A i s Q E st h => wpAny_pyIter_zip st.z h
def iZip4 (K : PySem.W.Frag) (ta : TA) : TI := fun σ H R => ta σ H fun vs H1 => ∃ a b c d xs ys zs ws, vs = [.ref a, .ref b, .ref c, .ref d] ∧ SqL K H1 a xs ∧ SqL K H1 b ys ∧ SqL K H1 c zs ∧ SqL K H1 d ws ∧ R (It4 K a b c d) H1
theorem pi_zip4 {X : Cx} {e1 e2 e3 e4 : Expr} {ta : TA} {p pos tpos : Pos} {elts : List Expr} {kk : Nat} (hg : Gl X "zip") (hm : X.mg "zip" = none) (ha : PA X [e1, e2, e3, e4] ta)
    (hs : starEach [e1, e2, e3, e4] X.env = (false, eval e1 X.env) :: starEach [e2, e3, e4] X.env := by rfl) (hpl : (backTo pos (starEach [e2, e3, e4] X.env)).any (·.1) = false := by rfl) :
    PI X (.Tuple elts kk tpos) (.Call (.Name "zip" p) [e1, e2, e3, e4] [] pos) (iZip4 X.K ta) := by
  refine ⟨fun pins s σ H R I h => ?_⟩
  refine Call_ (ld_blt I hg hm PyProof.Rows.boot_zip (PyProof.Rows.callWith_type1 (thn (ha.run pos pins s σ H _ I h) fun us s1 ⟨vs, H1, I1, r1, q⟩ => ?_) hs hpl))
  obtain ⟨a, b, c, d, xs, ys, zs, ws, ex, q1, q2, q3, q4, q⟩ := q
  subst ex
  cases r1 with
  | cons r1 rr =>
  cases rr with
  | cons r2 rr =>
  cases rr with
  | cons r3 rr =>
  cases rr with
  | cons r4 rr =>
  cases rr
  cases r1
  cases r2
  cases r3
  cases r4
  obtain ⟨t1, v1, p1, _⟩ := I1.list q1
  obtain ⟨t2, v2, p2, _⟩ := I1.list q2
  obtain ⟨t3, v3, p3, _⟩ := I1.list q3
  obtain ⟨t4, v4, p4, _⟩ := I1.list q4
  refine call4 p1.isList p2.isList p3.isList p4.isList fun g S k => wpAny_pyIter_zip S.z ?_
  have I2 : Inv X pins σ H1 { s1 with heap := g } := I1.kept (t' := s1.toks) k
  refine ⟨s1.heap.objs.size + 6, fp7 s1.heap.objs.size, _, _, H1, rfl, I2, turn4 S.lt, ⟨S.z, S.ti, ⟨_, S.to, S.sz⟩, S.i1, S.i2, S.i3, S.i4⟩, fun y hy => ?_, q⟩
  have le : s1.heap.objs.size ≤ y := by
    simp only [fp7, List.mem_cons, List.not_mem_nil, or_false] at hy
    rcases hy with rfl | rfl | rfl | rfl | rfl | rfl | rfl
    · exact Nat.le_add_right _ _
    · exact Nat.le_add_right _ _
    · exact Nat.le_add_right _ _
    · exact Nat.le_refl _
    · exact Nat.le_add_right _ _
    · exact Nat.le_add_right _ _
    · exact Nat.le_add_right _ _
  exact I1.fpOk le (I1.hok.fresh le)
end Z4

end C58

set_option maxHeartbeats 1000000
namespace C58
open PySem PySem.Spec PyProof.Rows L2
/-! ### a loop over zip of four lists -/
theorem lp_zip4 {K : PySem.W.Frag} {a b c d : Addr} {xs ys zs ws : List V} {g : TG} {tb : TS} {D : Ends} {σ : L2.St} {H : Hp} (l1 : ys.length = xs.length) (l2 : zs.length = xs.length) (l3 : ws.length = xs.length) (Pv : Nat → L2.St → Hp → Prop) (h0 : Pv 0 σ H)
    (hq : ∀ i σ H, Pv i σ H → SqL K H a xs ∧ SqL K H b ys ∧ SqL K H c zs ∧ SqL K H d ws)
    (hs : ∀ (i : Nat) (h : i < xs.length) (T : Addr) (σ : L2.St) (H : Hp), Pv i σ H → H T = none → g (.ref T) σ (L2.upd H T (.tup [xs[i], ys[i]'(by omega), zs[i]'(by omega), ws[i]'(by omega)])) fun σ2 H2 => tb { D with nx := Pv (i + 1), ct := Pv (i + 1), bk := D.nx } σ2 H2) (hd : ∀ σ H, Pv xs.length σ H → D.nx σ H) :
    LoopR (Z4.It4 K a b c d) g tb D σ H := by
  refine ⟨fun i m σ H => m = xs.length - i ∧ i ≤ xs.length ∧ Pv i σ H, ⟨_, rfl, Nat.zero_le _, h0⟩, ?_⟩
  rintro i m σ H ⟨rfl, hi, p⟩
  obtain ⟨q1, q2, q3, q4⟩ := hq i σ H p
  by_cases lt : i < xs.length
  · have e1 : xs[i]? = some xs[i] := List.getElem?_eq_getElem lt
    have e2 : ys[i]? = some (ys[i]'(by omega)) := List.getElem?_eq_getElem (by omega)
    have e3 : zs[i]? = some (zs[i]'(by omega)) := List.getElem?_eq_getElem (by omega)
    have e4 : ws[i]? = some (ws[i]'(by omega)) := List.getElem?_eq_getElem (by omega)
    refine .inr ⟨⟨xs, ys, zs, ws, _, _, _, _, ⟨q1, q2, q3, q4⟩, e1, e2, e3, e4⟩, Pv (i + 1), fun σ' H' p' => ⟨_, by omega, rfl, lt, p'⟩, fun v H' y => ?_⟩
    obtain ⟨T, x', y', z', w', rfl, hT, rfl, f1, f2, f3, f4⟩ := y
    obtain rfl : x' = xs[i] := Option.some.inj ((f1 _ q1).symm.trans e1)
    obtain rfl : y' = ys[i]'(by omega) := Option.some.inj ((f2 _ q2).symm.trans e2)
    obtain rfl : z' = zs[i]'(by omega) := Option.some.inj ((f3 _ q3).symm.trans e3)
    obtain rfl : w' = ws[i]'(by omega) := Option.some.inj ((f4 _ q4).symm.trans e4)
    exact hs i lt T σ H p hT
  · have e : i = xs.length := by omega
    subst e
    exact .inl ⟨⟨xs, ys, zs, ws, ⟨q1, q2, q3, q4⟩, Nat.le_refl _⟩, hd σ H p⟩
theorem r_forZ {K : PySem.W.Frag} {ta : TA} {g : TG} {tb : TS} {D : Ends} {σ : L2.St} {H : Hp} : tFor (Z4.iZip4 K ta) g tb D σ H = ta σ H (fun vs H1 => ∃ a b c d xs ys zs ws, vs = [.ref a, .ref b, .ref c, .ref d] ∧ SqL K H1 a xs ∧ SqL K H1 b ys ∧ SqL K H1 c zs ∧ SqL K H1 d ws ∧ LoopR (Z4.It4 K a b c d) g tb D σ H1) := rfl
/-! ### a written dict of the module with whole-number keys -/
def keyI (e : DictEntry) : Option (Int × Value) := match e.key with
  | .int i _ => if e.hash = hashInt i then some (i, e.val) else none
  | _ => none
structure IDict (K : PySem.W.Frag) (d : Addr) (L : List (Int × Value)) : Prop where
  ex : ∃ es n, K.lookup d = some ⟨.type "dict", none, .dict es n, #[]⟩ ∧ es.toList.map keyI = L.map some
  low : (d == sysModules) = false
def getI (L : List (Int × Value)) (k : Int) : Option Value := (L.find? fun p => decide (p.1 = k)).map (·.2)
theorem keyI_ok {e : DictEntry} {i : Int} {v : Value} (h : keyI e = some (i, v)) : (∃ t, e.key = .int i t) ∧ e.hash = hashInt i ∧ e.val = v := by
  unfold keyI at h
  split at h
  · rename_i j t q
    split at h
    · rename_i hh
      cases h
      exact ⟨⟨t, q⟩, hh, rfl⟩
    · cases h
  · cases h
theorem keysI : ∀ {l : List DictEntry} {L : List (Int × Value)}, l.map keyI = L.map some → (∀ e ∈ l, ∃ k, Value.isInt k e.key = true ∧ e.hash = hashInt k) ∧ ∀ k, (l.find? fun e => Value.isInt k e.key).map (·.val) = getI L k
  | [], [], _ => ⟨(fun e h => by cases h), fun k => rfl⟩
  | [], _ :: _, h => by cases h
  | _ :: _, [], h => by cases h
  | e :: l, (i, v) :: L, h => by
    have h1 : keyI e :: l.map keyI = some (i, v) :: L.map some := h
    injection h1 with h2 h3
    obtain ⟨⟨t, q⟩, hh, ev⟩ := keyI_ok h2
    obtain ⟨g1, g2⟩ := keysI h3
    have ki : ∀ k : Int, Value.isInt k e.key = decide (i = k) := fun k => by
      rw [q]
      by_cases c : i = k
      · subst c
        simp [Value.isInt]
      · simp [Value.isInt, c]
        try omega
    refine ⟨fun x hx => ?_, fun k => ?_⟩
    · rcases List.mem_cons.mp hx with rfl | hx
      · exact ⟨i, by rw [ki]; exact decide_eq_true rfl, hh⟩
      · exact g1 x hx
    · unfold getI
      rw [List.find?_cons, List.find?_cons, ki]
      by_cases c : i = k
      · rw [decide_eq_true c]
        show some e.val = some v
        rw [ev]
      · rw [decide_eq_false c]
        exact g2 k
theorem IDict.mapOf {prog : Program} {w : World} {K : PySem.W.Frag} {d : Addr} {L : List (Int × Value)} {h : Heap} (D : IDict K d L) (X : K.In h) : h.MapOf (intKind prog w) d (getI L) := by
  obtain ⟨es, n, hl, e⟩ := D.ex
  obtain ⟨l⟩ := es
  obtain ⟨g1, g2⟩ := keysI (show l.map keyI = L.map some from e)
  refine ⟨_, ⟨l⟩, n, X _ _ hl, ⟨rfl, rfl, rfl⟩, rfl, fun x hx => g1 x (by simpa using hx), fun k => ?_⟩
  unfold findBy
  rw [List.find?_toArray]
  exact g2 k
section
variable {X : Cx} {d : Addr} {L : List (Int × Value)}
def rInI (d : Addr) (L : List (Int × Value)) : R2 := fun x y H Q => ∃ k, x = .int k ∧ y = .ref d ∧ Q (.bl (getI L k).isSome) H
def rNiI (d : Addr) (L : List (Int × Value)) : R2 := fun x y H Q => ∃ k, x = .int k ∧ y = .ref d ∧ Q (.bl (!(getI L k).isSome)) H
def rIxI (d : Addr) (L : List (Int × Value)) : R2 := fun x y H Q => ∃ (k : Int) (u : Value) (v : V), x = .ref d ∧ y = .int k ∧ getI L k = some u ∧ RelV v u ∧ Q v H
theorem op_inI (D : IDict X.K d L) : OpR X (compareOp .In) (rInI d L) := by
  intro pins s σ H x y v u Q I rx ry h
  obtain ⟨k, rfl, rfl, q⟩ := h
  obtain ⟨t, rfl⟩ := rx
  cases ry
  exact wpAny_in_of (PySem.intKind_is X.prog X.w k t) D.low (D.mapOf I.kIn) ⟨.bl (getI L k).isSome, H, I.tok _, rfl, q⟩
theorem op_niI (D : IDict X.K d L) : OpR X (compareOp .NotIn) (rNiI d L) := by
  intro pins s σ H x y v u Q I rx ry h
  obtain ⟨k, rfl, rfl, q⟩ := h
  obtain ⟨t, rfl⟩ := rx
  cases ry
  exact wpAny_notIn_of (PySem.intKind_is X.prog X.w k t) D.low (D.mapOf I.kIn) ⟨.bl (!(getI L k).isSome), H, I.tok _, rfl, q⟩
theorem ix_I (D : IDict X.K d L) : IxR X (rIxI d L) := by
  intro value slice pins s σ H x y v u Q I rx ry h hs
  obtain ⟨k, z, r, rfl, rfl, e, ru, q⟩ := h
  obtain rfl : v = Value.ref d := rx
  obtain ⟨t, rfl⟩ := ry
  have hm := D.mapOf (prog := X.prog) (w := X.w) I.kIn
  exact tail_any hm.typeIs slot_dict_getitem.lookup (wpAny_getItem_of (PySem.intKind_is X.prog X.w k t) hm e ⟨r, H, I.tok _, ru, q⟩) hs
end

end C58

set_option maxHeartbeats 1000000
namespace C58
open PySem PySem.Spec PyProof.Rows L2
/-! ### any of a tuple of numbers -/
theorem any_ints {prog : Program} {w : World} {A : Around} {E : Value → Shared → Prop} {s : Shared} {l : Addr} {its : List Value} {ns : List Int} {Q : Value → Shared → Prop} (hh : A.handled = none) (hl : s.heap.IsTuple l its.toArray) (hi : IntsAre its ns)
    (q : ∀ g tk, (∀ b o, s.heap.get? b = some o → g.get? b = some o) → Q (.bool (ns.any fun n => n != 0)) { s with heap := g, toks := tk }) : wpAny (model prog w) A (call (.builtin "any") [.ref l]) Q E s := by
  have hlt : (show Nat from l) < s.heap.objs.size := by
    obtain ⟨_, e, _⟩ := hl
    exact Heap.lt_size e
  have hlen := hi.length
  have at' : ∀ (i : Nat) (v : Value), its.toArray[i]? = some v → ∃ t, v = Value.int (ns.getD i 0) t := by
    intro i v e
    have e' : its[i]? = some v := by simpa using e
    have key : ∀ {us : List Value} {ms : List Int}, IntsAre us ms → ∀ (j : Nat) (u : Value), us[j]? = some u → ∃ t, u = Value.int (ms.getD j 0) t := by
      intro us ms h
      induction h with
      | nil => intro j u e; cases j <;> cases e
      | cons => intro j u e; cases j with
        | zero => cases e; exact ⟨_, rfl⟩
        | succ j => rename_i ih; exact ih j u e
    exact key hi i v e'
  refine PySem.call_any_walk (wpAny_pyIter_tuple hl ?_)
  refine ⟨_, _, _, _, _, _, fun i => ns.getD i 0 != 0, rfl, Walks.tuple (A := A.in1) hh _ l (Nat.ne_of_lt hlt) its.toArray, ⟨⟨_, Heap.get?_push_size _ rfl, rfl, rfl⟩, hl.push _⟩, ?_, fun g tk k => ?_⟩
  · intro i v s' Q' E' hv hq
    obtain ⟨t, rfl⟩ := at' i v hv
    exact truthy_int hq
  · have e : (List.range its.toArray.size).any (fun i => ns.getD i 0 != 0) = ns.any fun n => n != 0 := by
      rw [List.size_toArray, hlen]
      clear at' hi hlen q k
      induction ns with
      | nil => rfl
      | cons n ns ih =>
        rw [List.length_cons, List.range_succ_eq_map, List.any_cons, List.any_map, List.any_cons]
        congr 1
    rw [e]
    refine q g tk fun b o x => k b o (fun hm => ?_) (Heap.get?_push_of_some _ x)
    rw [List.mem_singleton.mp hm] at x
    exact Nat.lt_irrefl _ (Heap.lt_size x)
section
variable {X : Cx}
def rAnyT (K : PySem.W.Frag) : List V → Hp → VK → Prop := fun vs H Q => ∃ (a : Addr) (ns : List Int), vs = [V.ref a] ∧ SqT K H a (ns.map V.int) ∧ Q (.bl (ns.any fun n => n != 0)) H
theorem cr_anyT (hc : X.calm = true) : CallR X (.builtin "any") (rAnyT X.K) := by
  intro pins s σ H vs us Q I r h
  obtain ⟨a, ns, rfl, hs, q⟩ := h
  obtain ⟨its, rv, hl, _⟩ := I.tuple hs
  rw [Vals.ref1 r]
  exact any_ints (I.ok.hd hc) hl rv.ints fun g tk k => ⟨.bl (ns.any fun n => n != 0), H, I.kept k, rfl, q⟩
end

end C58

set_option maxHeartbeats 1000000
namespace C58
open PySem PySem.Spec PyProof.Rows L2
/-! ### sum of lists -/
theorem sum_args2 (a b : Value) : argsOk "sum" ⟨[a, b], []⟩ := by
  unfold argsOk
  kernel_rfl
theorem no_list_bytes : isSubtype (.type "list") (.type "bytes") = pure false := by
  rw [isSubtype_type]
  kernel_rfl
theorem no_list_barray : isSubtype (.type "list") (.type "bytearray") = pure false := by
  rw [isSubtype_type]
  kernel_rfl
def LsIn (h : Heap) (S I : Addr) (u : Value) (ps : List Value) : Prop := ∃ p n, u = .ref p ∧ p ≠ S ∧ p ≠ I ∧ h.get? p = some { cls := .type "list", data := .seq ps.toArray n }
section
variable {prog : Program} {w : World} {A : Around}
theorem sum_loop {R : Result → Shared → Prop} (hh : A.in1.handled = none) {I l S : Addr} {items : List Value} {pss : List (List Value)} (lI : l ≠ I) (SI : S ≠ I) (Sl : S ≠ l) (hlen : pss.length = items.length) :
    ∀ (k i : Nat) (s : Shared) (t : Addr) (acc : List Value) (nt c : Nat), items.length - i = k → i ≤ items.length → s.heap.IsListIter I l i ∧ s.heap.IsList l items.toArray → s.heap.get? S = some { cls := .type "list", data := .seq #[.ref t] c } →
    s.heap.get? t = some { cls := .type "list", data := .seq acc.toArray nt } → t ≠ S → t ≠ I → (∀ j u ps, i ≤ j → items[j]? = some u → pss[j]? = some ps → LsIn s.heap S I u ps) → acc.length + (pss.drop i).flatten.length ≤ sizeLine →
    (∀ g tk u nu, (∀ b o, b ≠ I → b ≠ S → s.heap.get? b = some o → g.get? b = some o) → g.get? u = some { cls := .type "list", data := .seq (acc ++ (pss.drop i).flatten).toArray nu } → (s.heap.objs.size ≤ (show Nat from u) ∨ (i = items.length ∧ u = t)) → R (.ok (.ret (.ref u))) { s with heap := g, toks := tk }) →
    codeAny (model prog w) A (.builtin "sum.loop" ⟨[.ref I, .ref S, rawInt 2, rawInt 0], []⟩) R s := by
  intro k
  induction k with
  | zero =>
    intro i s t acc nt c hk hi st hS ht tS tI hp hz hR
    have e : i = items.length := by omega
    subst e
    refine codeAny_builtin F.entry_sum_loop ?_
    rw [Around.under_plainId F.plain_sum_loop _]
    show wpAny _ A.in1 (seqItems? (.ref S) >>= _) _ _ s
    refine wpAny_bind (wpAny_seqItems hS rfl ?_)
    show wpAny _ A.in1 (tryCatch (pyNext (.ref I)) _ >>= _) _ _ s
    refine wpAny_bind (wpAny_tryCatch (wpAny_pyNext_list_end hh st.1 st.2 (by simp) fun g m => ?_))
    have e2 : (pss.drop items.length).flatten = [] := by rw [List.drop_of_length_le (by omega)]; rfl
    rw [e2, List.append_nil] at hR
    exact wpAny_pure (hR g s.toks t nt (fun b o hb _ e => m b o hb e) (m t _ tI ht) (.inr ⟨rfl, rfl⟩))
  | succ k ih =>
    intro i s t acc nt c hk hi st hS ht tS tI hp hz hR
    have lt : i < items.length := by omega
    have ex : items[i]? = some items[i] := List.getElem?_eq_getElem lt
    have ey : pss[i]? = some (pss[i]'(by omega)) := List.getElem?_eq_getElem (by omega)
    obtain ⟨p, n, eu, pS, pI, hpp⟩ := hp i _ _ (Nat.le_refl _) ex ey
    have ed : pss.drop i = pss[i]'(by omega) :: pss.drop (i + 1) := List.drop_eq_getElem_cons (by omega)
    generalize pss[i]'(by omega) = ps at *
    refine codeAny_builtin F.entry_sum_loop ?_
    rw [Around.under_plainId F.plain_sum_loop _]
    show wpAny _ A.in1 (seqItems? (.ref S) >>= _) _ _ s
    refine wpAny_bind (wpAny_seqItems hS rfl ?_)
    show wpAny _ A.in1 (tryCatch (pyNext (.ref I)) _ >>= _) _ _ s
    refine wpAny_bind (wpAny_tryCatch (wpAny_pyNext_list_item st.1 st.2 (x := .ref p) (by rw [← eu]; simpa using ex) fun g i1 m => ?_))
    have ht1 := m.extBut _ _ tI ht
    have hp1 := m.extBut _ _ pI hpp
    have hS1 := m.extBut _ _ SI hS
    rw [ed, List.flatten_cons, List.length_append] at hz
    show wpAny _ A.in1 ((holding [.ref p] (binaryOp .Add (.ref t) (.ref p))).attempt >>= _) _ _ _
    refine wpAny_bind (wpAny_attempt (wpAny_holding (P.add_list ht1 hp1 ?_ (by simp only [List.size_toArray]; omega))))
    have Sl1 : (show Nat from S) < g.objs.size := Heap.lt_size hS1
    have hS2 : (g.push { cls := .type "list", data := .seq (acc.toArray ++ ps.toArray) }).get? S = some { cls := .type "list", data := .seq #[.ref t] c } := Heap.get?_push_of_some _ hS1
    have hT2 : (g.push { cls := .type "list", data := .seq (acc.toArray ++ ps.toArray) }).get? g.objs.size = some { cls := .type "list", data := .seq (acc ++ ps).toArray } := by
      rw [show (acc ++ ps).toArray = acc.toArray ++ ps.toArray from by simp]
      exact Heap.get?_push_size _ rfl
    have keep2 : ∀ b o, g.get? b = some o → (g.push { cls := .type "list", data := .seq (acc.toArray ++ ps.toArray) }).get? b = some o := fun b o e => Heap.get?_push_of_some _ e
    generalize hg2 : g.push { cls := .type "list", data := .seq (acc.toArray ++ ps.toArray) } = g2 at *
    refine wpAny_bind (wpAny_updateSeq hS2 rfl ?_)
    have hS3 : (g2.update S (Obj.mapSeq fun _ => #[.ref g.objs.size])).get? S = some { cls := .type "list", data := .seq #[.ref g.objs.size] c } := by
      rw [Heap.get?_update_self _ hS2 rfl]
      rfl
    have m3 : Heap.SameBut S g2 (g2.update S (Obj.mapSeq fun _ => #[.ref g.objs.size])) := Heap.SameBut.update ..
    generalize g2.update S (Obj.mapSeq fun _ => #[.ref g.objs.size]) = g3 at *
    refine wpAny_bind (wpAny_letGo ?_)
    show wpAny _ A.in1 (updateSeq S (fun _ => #[.ref g.objs.size]) >>= _) _ _ _
    refine wpAny_bind (wpAny_updateSeq hS3 rfl ?_)
    have hS4 : (g3.update S (Obj.mapSeq fun _ => #[.ref g.objs.size])).get? S = some { cls := .type "list", data := .seq #[.ref g.objs.size] c } := by
      rw [Heap.get?_update_self _ hS3 rfl]
      rfl
    have m4 : Heap.SameBut S g3 (g3.update S (Obj.mapSeq fun _ => #[.ref g.objs.size])) := Heap.SameBut.update ..
    generalize g3.update S (Obj.mapSeq fun _ => #[.ref g.objs.size]) = g4 at *
    have keep4 : ∀ b o, b ≠ S → g2.get? b = some o → g4.get? b = some o := fun b o n e => m4.extBut _ _ n (m3.extBut _ _ n e)
    have all : ∀ b o, b ≠ I → b ≠ S → s.heap.get? b = some o → g4.get? b = some o := fun b o n1 n2 e => keep4 b o n2 (keep2 b o (m.extBut _ _ n1 e))
    have TS : g.objs.size ≠ S := Nat.ne_of_gt Sl1
    have TI : g.objs.size ≠ I := by
      obtain ⟨_, e, _⟩ := i1
      exact Nat.ne_of_gt (Heap.lt_size e)
    have sz4 : g4.objs.size = g.objs.size + 1 := by rw [m4.1, m3.1, ← hg2, Heap.size_push]
    refine wpAny_pure ⟨plainId_quiet F.plain_sum_loop _, ih (i + 1) _ g.objs.size (acc ++ ps) _ c (by omega) lt ⟨i1.at fun o e => keep4 _ _ (Ne.symm SI) (keep2 _ _ e), ?_⟩ hS4 (keep4 _ _ TS hT2) TS TI ?_ ?_ ?_⟩
    · obtain ⟨o, e, r⟩ := st.2
      exact ⟨o, all _ _ lI (Ne.symm Sl) e, r⟩
    · intro j u qs hj e1 e2
      obtain ⟨p', n', a1, a2, a3, a4⟩ := hp j u qs (by omega) e1 e2
      exact ⟨p', n', a1, a2, a3, all _ _ a3 a2 a4⟩
    · rw [List.length_append]
      omega
    · intro g5 tk u nu k5 e5 q5
      rw [List.append_assoc] at e5
      refine hR g5 tk u nu (fun b o n1 n2 e => k5 b o n1 n2 (all b o n1 n2 e)) (by rw [ed, List.flatten_cons]; exact e5) ?_
      have sg : g.objs.size = s.heap.objs.size := m.1
      rcases q5 with q | ⟨_, rfl⟩
      · have q' : g4.objs.size ≤ (show Nat from u) := q
        exact .inl (by omega)
      · exact .inl (Nat.le_of_eq sg.symm)
/-- sum(rows, start) of at least one row -/
theorem sum_rows {E : Value → Shared → Prop} {s : Shared} {Q : Value → Shared → Prop} (hh : A.handled = none) {l b : Addr} {items acc : List Value} {pss : List (List Value)} {nb : Nat} (hlen : pss.length = items.length) (ne : items ≠ []) (hl : s.heap.IsList l items.toArray) (hb : s.heap.get? b = some { cls := .type "list", data := .seq acc.toArray nb })
    (hp : ∀ (j : Nat) (u : Value) (ps : List Value), items[j]? = some u → pss[j]? = some ps → ∃ (p : Addr) (n : Nat), u = Value.ref p ∧ s.heap.get? p = some { cls := .type "list", data := .seq ps.toArray n }) (hz : acc.length + pss.flatten.length ≤ sizeLine)
    (q : ∀ g tk u nu, (∀ b o, s.heap.get? b = some o → g.get? b = some o) → g.get? u = some { cls := .type "list", data := .seq (acc ++ pss.flatten).toArray nu } → s.heap.objs.size ≤ (show Nat from u) → Q (.ref u) { s with heap := g, toks := tk }) :
    wpAny (model prog w) A (call (.builtin "sum") [.ref l, .ref b]) Q E s := by
  have ll : (show Nat from l) < s.heap.objs.size := by
    obtain ⟨_, e, _⟩ := hl
    exact Heap.lt_size e
  have lb : (show Nat from b) < s.heap.objs.size := Heap.lt_size hb
  refine call_function_tree F.kind_sum F.plain_sum F.entry_sum (sum_args2 _ _) ?_
  unfold Builtin.«sum»
  simp only [List.length_cons, List.length_nil]
  rw [if_neg (by decide)]
  refine wpAny_bind (wpAny_of_eq (show Builtin.Builtins.bindParams "sum" ["start"] 0 { pos := [.ref b] } = pure [some (.ref b)] from rfl) ?_)
  refine wpAny_bind (wpAny_pyIter_list hl ?_)
  refine wpAny_bind (wpAny_pure ?_)
  have ty : ∀ s' : Shared, s'.heap.get? b = some { cls := .type "list", data := .seq acc.toArray nb } → s'.TypeIs (.ref b) "list" := fun s' e => ⟨_, e, rfl⟩
  have hb1 : (s.heap.push { cls := .type "list_iterator", data := .fields #[.ref l, .int 0 0] }).get? b = some { cls := .type "list", data := .seq acc.toArray nb } := Heap.get?_push_of_some _ hb
  simp only [List.forIn_cons, List.forIn_nil]
  refine wpAny_bind (wpAny_bind (wpAny_bind (wpAny_isInstance (T := "list") (b := false) (ty _ hb1) F.sub_list_str ?_)))
  simp only [Bool.false_eq_true, if_false]
  refine wpAny_pure (wpAny_bind (wpAny_bind (wpAny_isInstance (T := "list") (b := false) (ty _ hb1) no_list_bytes ?_)))
  simp only [Bool.false_eq_true, if_false]
  refine wpAny_pure (wpAny_bind (wpAny_bind (wpAny_isInstance (T := "list") (b := false) (ty _ hb1) no_list_barray ?_)))
  simp only [Bool.false_eq_true, if_false]
  refine wpAny_pure (wpAny_pure ?_)
  refine wpAny_bind (wpAny_newObj_type ?_)
  have hs1 : (s.heap.push { cls := .type "list_iterator", data := .fields #[.ref l, .int 0 0] }).objs.size = s.heap.objs.size + 1 := Heap.size_push ..
  have up : ∀ y o, s.heap.get? y = some o → ((s.heap.push { cls := .type "list_iterator", data := .fields #[.ref l, .int 0 0] }).push { cls := .type "list", data := .seq #[.ref b] }).get? y = some o := fun y o e => Heap.get?_push_of_some _ (Heap.get?_push_of_some _ e)
  have it0 : (s.heap.push { cls := .type "list_iterator", data := .fields #[.ref l, .int 0 0] }).IsListIter s.heap.objs.size l 0 := ⟨_, Heap.get?_push_size _ rfl, rfl, rfl⟩
  have ne' : ∀ {b : Addr} {o : Obj}, s.heap.get? b = some o → b ≠ (s.heap.push { cls := .type "list_iterator", data := .fields #[.ref l, .int 0 0] }).objs.size ∧ b ≠ s.heap.objs.size := fun {b o} e => by
    have lt : (show Nat from b) < s.heap.objs.size := Heap.lt_size e
    exact ⟨by rw [hs1]; exact Nat.ne_of_lt (Nat.lt_succ_of_lt lt), Nat.ne_of_lt lt⟩
  have l0 : 0 < items.length := List.length_pos_iff.mpr ne
  refine wpAny_pure ⟨plainId_quiet F.plain_sum_loop _, sum_loop (I := s.heap.objs.size) (l := l) (S := (s.heap.push { cls := .type "list_iterator", data := .fields #[.ref l, .int 0 0] }).objs.size) hh (Nat.ne_of_lt ll) (by rw [hs1]; exact Nat.succ_ne_self _) (by rw [hs1]; exact Nat.ne_of_gt (Nat.lt_succ_of_lt ll)) hlen items.length 0 _ b acc nb 0 (Nat.sub_zero _) (Nat.zero_le _)
    ⟨it0.at fun o e => Heap.get?_push_of_some _ e, Heap.IsList.push (Heap.IsList.push hl _) _⟩ (Heap.get?_push_size _ rfl) (up b _ hb) (ne' hb).1 (ne' hb).2 (fun j u ps _ e1 e2 => ?_) hz fun g tk u nu k e q' => ?_⟩
  · obtain ⟨p, n, a1, a2⟩ := hp j u ps e1 e2
    exact ⟨p, n, a1, (ne' a2).1, (ne' a2).2, up _ _ a2⟩
  · refine q g tk u nu (fun y o x => k y o (ne' x).2 (ne' x).1 (up y o x)) e ?_
    rcases q' with q' | ⟨q', _⟩
    · have e9 : ((s.heap.push { cls := .type "list_iterator", data := .fields #[.ref l, .int 0 0] }).push { cls := .type "list", data := .seq #[.ref b] }).objs.size = s.heap.objs.size + 2 := by rw [Heap.size_push, hs1]
      have q2 : ((s.heap.push { cls := .type "list_iterator", data := .fields #[.ref l, .int 0 0] }).push { cls := .type "list", data := .seq #[.ref b] }).objs.size ≤ (show Nat from u) := q'
      omega
    · omega
end
section
variable {X : Cx}
def rSumL : List V → Hp → VK → Prop := fun vs H Q => ∃ (a b : Addr) (refs : List Addr) (acc : List V) (xss : List (List V)), vs = [V.ref a, V.ref b] ∧ H a = some (.lst (refs.map V.ref)) ∧ refs ≠ [] ∧ H b = some (.lst acc) ∧ Paired (fun p xs => H p = some (.lst xs)) refs xss ∧ acc.length + xss.flatten.length ≤ sizeLine ∧
  ∀ p, H p = none → Q (.ref p) (L2.upd H p (.lst (acc ++ xss.flatten)))
theorem refs_vals : ∀ {refs : List Addr} {its : List Value}, Vals (refs.map V.ref) its → its = refs.map Value.ref
  | [], _, .nil => rfl
  | p :: refs, _, .cons r t => by
    cases r
    rw [refs_vals t]
    rfl
theorem rows_vals {pins : List (Addr × Obj)} {σ : L2.St} {H : Hp} {s : Shared} (I : Inv X pins σ H s) : ∀ {refs : List Addr} {xss : List (List V)}, Paired (fun p xs => H p = some (.lst xs)) refs xss →
    ∃ pss : List (List Value), pss.length = refs.length ∧ Vals xss.flatten pss.flatten ∧ ∀ (j : Nat) (p : Addr) (ps : List Value), refs[j]? = some p → pss[j]? = some ps → ∃ n : Nat, s.heap.get? p = some { cls := .type "list", data := .seq ps.toArray n }
  | _, _, .nil => ⟨[], rfl, .nil, fun j p ps e => by cases j <;> cases e⟩
  | _, _, .cons h t => by
    obtain ⟨_, its, n, rv, hl, e⟩ := I.lstM h
    obtain ⟨pss, g1, g2, g3⟩ := rows_vals I t
    refine ⟨its :: pss, by rw [List.length_cons, List.length_cons, g1], ?_, fun j p ps e1 e2 => ?_⟩
    · rw [List.flatten_cons, List.flatten_cons]
      exact rv.append g2
    · cases j with
      | zero =>
        cases e1
        cases e2
        exact ⟨n, e⟩
      | succ j => exact g3 j p ps e1 e2
theorem cr_sumL (hc : X.calm = true) : CallR X (.builtin "sum") rSumL := by
  intro pins s σ H vs us Q I r h
  obtain ⟨a, b, refs, acc, xss, rfl, ha, ne, hb, hP, hz, q⟩ := h
  obtain ⟨_, its, n, rv, hl, e⟩ := I.lstM ha
  obtain ⟨_, its2, n2, rv2, hl2, e2⟩ := I.lstM hb
  cases r with
  | cons r1 rr =>
  cases rr with
  | cons r2 rr =>
  cases rr
  cases r1
  cases r2
  obtain ⟨pss, g1, g2, g3⟩ := rows_vals I hP
  have ei := refs_vals rv
  subst ei
  have lz : its2.length + pss.flatten.length ≤ sizeLine := by
    have := rv2.length
    have := g2.length
    omega
  refine sum_rows (I.ok.hd hc) (by rw [g1, List.length_map]) (by intro z; exact ne (List.map_eq_nil_iff.mp z)) ⟨_, e, rfl, n, rfl⟩ e2 (fun j u ps e1 e3 => ?_) lz fun g tk u nu k eu le => ?_
  · rw [List.getElem?_map] at e1
    cases er : refs[j]? with
    | none => rw [er] at e1; cases e1
    | some p =>
      rw [er] at e1
      obtain ⟨m, em⟩ := g3 j p ps er e3
      exact ⟨p, m, (Option.some.inj e1).symm, em⟩
  · have new : ObjOk X.prog X.w (L2.upd H u (.lst (acc ++ xss.flatten))) g u (.lst (acc ++ xss.flatten)) := ⟨by rw [List.length_append]; exact hz, _, nu, rv2.append g2, eu⟩
    exact ⟨.ref u, _, I.turnedNew (t' := tk) (ch := []) (fun y o _ x => k y o x) (fun y hy => by cases hy) le new, rfl, q u (I.hok.fresh le)⟩
end

end C58

set_option maxHeartbeats 1000000
namespace C58
open PySem PySem.Spec PyProof.Rows L2
/-! ### get of a written dict with whole-number keys -/
def tIGet2 (d : Addr) (L : List (Int × Value)) (ty tx : TE) : TE := fun σ H Q => ty σ H fun y H2 => tx σ H2 fun z H3 => ∃ k : Int, y = .int k ∧ ((∃ u v, getI L k = some u ∧ RelV v u ∧ Q v H3) ∨ (getI L k = none ∧ Q z H3))
def tIGet1 (d : Addr) (L : List (Int × Value)) (ty : TE) : TE := fun σ H Q => ty σ H fun y H2 => ∃ k : Int, y = .int k ∧ ((∃ u v, getI L k = some u ∧ RelV v u ∧ Q v H2) ∨ (getI L k = none ∧ Q .non H2))
section
variable {X : Cx} {o e f : Expr} {apos cpos : Pos} {d : Addr} {L : List (Int × Value)} {ty tx : TE}
theorem pe_iget2 (D : IDict X.K d L) (ho : PE X o (tC (.ref d))) (he : PE X e ty) (hf : PE X f tx) (m : M2 X o "get" apos e f cpos) : PE X (.Call (.Attribute o "get" apos) [e, f] [] cpos) (tIGet2 d L ty tx) := by
  obtain ⟨es, n, hl, ek⟩ := D.ex
  refine ⟨fun pins s σ H Q I h => ?_⟩
  refine wpAny_Call_method m.base m.few m.line PySem.F.plainAttrs_dict PySem.F.slot_dict_get PySem.F.type_dict_get (thn (ho.run pins s σ H (fun x H1 => x = .ref d ∧ tIGet2 d L ty tx σ H1 Q) I ⟨rfl, h⟩) fun u s1 ⟨x, H1, I1, rx, ex, q1⟩ => ?_)
  subst ex
  obtain rfl : u = Value.ref d := rx
  have hm := D.mapOf (prog := X.prog) (w := X.w) I1.kIn
  refine ⟨hm.typeIs, (fun b q => by cases q; exact ⟨_, I1.kIn _ _ hl, rfl⟩), ?_⟩
  rw [m.trees]
  refine Calls.callWith_builtin rfl (Calls.evalArgs_plain (Calls.spliced_cons (thn (he.run pins s1 σ H1 _ I1 q1) fun iv s2 ⟨y, H2, I2, ry, q2⟩ =>
    Calls.spliced_cons (thn (hf.run pins s2 σ H2 _ I2 q2) fun fv s3 ⟨z, H3, I3, rz, k, ez, q3⟩ => Calls.spliced_nil ?_))))
  subst ez
  obtain ⟨t, rfl⟩ := (show ∃ t, iv = Value.int k t from ry)
  have hm3 := D.mapOf (prog := X.prog) (w := X.w) I3.kIn
  refine call_meetsIn PySem.F.slot_dict_get hm3.typeIs PySem.F.entry_dict_get (PySem.F.args_dict_get_3 _ _ _) (meets_dict_get_default (intKind X.prog X.w) d (PySem.intKind_is X.prog X.w k t) D.low fv) ⟨_, hm3, ?_⟩
  rcases q3 with ⟨u, v, e1, ru, q⟩ | ⟨e1, q⟩
  · rw [e1]
    exact ⟨v, H3, I3.tok _, ru, q⟩
  · rw [e1]
    exact ⟨z, H3, I3.tok _, rz, q⟩
theorem pe_iget1 (D : IDict X.K d L) (ho : PE X o (tC (.ref d))) (he : PE X e ty) (m : M1 X o "get" apos e cpos) : PE X (.Call (.Attribute o "get" apos) [e] [] cpos) (tIGet1 d L ty) := by
  obtain ⟨es, n, hl, ek⟩ := D.ex
  refine ⟨fun pins s σ H Q I h => ?_⟩
  refine wpAny_Call_method m.base m.few m.line PySem.F.plainAttrs_dict PySem.F.slot_dict_get PySem.F.type_dict_get (thn (ho.run pins s σ H (fun x H1 => x = .ref d ∧ tIGet1 d L ty σ H1 Q) I ⟨rfl, h⟩) fun u s1 ⟨x, H1, I1, rx, ex, q1⟩ => ?_)
  subst ex
  obtain rfl : u = Value.ref d := rx
  have hm := D.mapOf (prog := X.prog) (w := X.w) I1.kIn
  refine ⟨hm.typeIs, (fun b q => by cases q; exact ⟨_, I1.kIn _ _ hl, rfl⟩), ?_⟩
  rw [m.trees]
  refine Calls.callWith_builtin rfl (Calls.evalArgs_plain (Calls.spliced_cons (thn (he.run pins s1 σ H1 _ I1 q1) fun iv s2 ⟨y, H2, I2, ry, k, ez, q3⟩ => Calls.spliced_nil ?_)))
  subst ez
  obtain ⟨t, rfl⟩ := (show ∃ t, iv = Value.int k t from ry)
  have hm3 := D.mapOf (prog := X.prog) (w := X.w) I2.kIn
  refine call_meetsIn PySem.F.slot_dict_get hm3.typeIs PySem.F.entry_dict_get (PySem.F.args_dict_get_2 _ _) (meets_dict_get (intKind X.prog X.w) d (PySem.intKind_is X.prog X.w k t) D.low) ⟨_, hm3, ?_⟩
  rcases q3 with ⟨u, v, e1, ru, q⟩ | ⟨e1, q⟩
  · rw [e1]
    exact ⟨v, H2, I2.tok _, ru, q⟩
  · rw [e1]
    exact ⟨.non, H2, I2.tok _, rfl, q⟩
end

end C58

set_option maxHeartbeats 1000000
namespace C58
open PySem PySem.Spec PyProof.Rows L2
def vn (xs : List Nat) : List V := xs.map fun d : Nat => V.int (d : Int)
theorem vn_app {xs ys : List Nat} : vn (xs ++ ys) = vn xs ++ vn ys := by
  unfold vn
  rw [List.map_append]
theorem vn_len {xs : List Nat} : (vn xs).length = xs.length := by
  unfold vn
  rw [List.length_map]
theorem vn_at {all : List Nat} {i : Nat} (h : i < all.length) : atI (vn all) (i : Int) = some (.int ((all.getD i 0 : Nat) : Int)) := atn (by
  unfold vn
  rw [List.getElem?_map, List.getD_eq_getElem?_getD, List.getElem?_eq_getElem h]
  rfl)
theorem b256 {all : List Nat} (h : ∀ x ∈ all, x < 256) (i : Nat) : all.getD i 0 < 256 := by
  rw [List.getD_eq_getElem?_getD]
  cases e : all[i]? with
  | none => decide
  | some x => exact h x (List.mem_of_getElem? e)
/-! ### the begin of an instruction, behind what extends its argument -/
def extF (all : List Nat) : Nat → Nat → Nat → Nat × Nat
  | 0, i, a => (i, a)
  | n + 1, i, a => if i + 1 < all.length ∧ all.getD i 0 = 71 then extF all n (i + 2) ((a + all.getD (i + 1) 0) * 256) else (i, a)
structure Txt2 (mg : Str → Option Value) : Prop where
  g_EXTENDED_ARG : ∃ t, mg "EXTENDED_ARG" = some (.int 71 t)
  g_MOST_EXTENDED : ∃ t, mg "MOST_EXTENDED" = some (.int 3 t)
  g_FIRST : ∃ t, mg "FIRST_WITH_ARGUMENT" = some (.int 45 t)
  g_TRUTH : ∃ t, mg "TRUTH" = some (.int 16 t)
def spExt : Sp := fun vs H Q _ => ∃ (t : Addr) (all : List Nat) (i : Nat), vs = [.ref t, .int (i : Int)] ∧ H t = some (.tup (vn all)) ∧ all.length ≤ 4000 ∧ (∀ x ∈ all, x < 256) ∧
  ∀ p H', H p = none → Same H H' → H' p = some (.tup [.int (((extF all all.length i 0).1 : Nat) : Int), .int (((extF all all.length i 0).2 : Nat) : Int)]) → Q (.ref p) H'
def lvExt (H : Hp) (t : Addr) (all : List Nat) (i : Nat) (σ : L2.St) (H' : Hp) : Prop := ∃ j a n m : Nat, σ = [some (.ref t), some (.int (j : Int)), some (.int (a : Int))] ∧ H' = H ∧ all.length - j ≤ n ∧ extF all n j a = extF all all.length i 0 ∧ i ≤ j ∧ 2 * m ≤ j ∧ ∃ y, a = 256 * y ∧ y < 2 ^ (8 * m)
def msExt (m : Nat) (σ : L2.St) : Nat := match σ with
  | _ :: some (.int a) :: _ => m - a.toNat
  | _ => 0
section
variable {P : Program} {w : World} {K : PySem.W.Frag} {mg : Str → Option Value} {base : Heap} {f : Addr} {fd : FuncData}
abbrev sbehind_extension : Stmt := top 36
theorem scbehind_extension : FnScope ["data", "at", "argument"] ["data", "at"] (defScope sbehind_extension) := ⟨rfl, rfl, rfl, by decide +kernel, rfl, by decide +kernel, by decide +kernel⟩

theorem ok_behind_extension (T : Txt mg) (T2 : Txt2 mg) (F : FnP K "behind_extension" "behind_extension" sbehind_extension f fd) : FnOk P w K mg base CX0 1 f fd ["data", "at"] spExt := by
  refine F.ok scbehind_extension (fun vs H Q E h => ?_) (fun cdv A outer s H vs Q E hr h => ?_)
  · obtain ⟨t, all, i, rfl, _⟩ := h
    rfl
  · obtain ⟨t, all, i, rfl, ht, hl, hb, k⟩ := h
    refine ⟨_, PSs.nox (pss_cons (ps_set (i := 2) scbehind_extension.nd rfl (Or.inl rfl) pe_int)
  (pss_cons (ps_while PassesOwn.never (PW.pt (pw_and (pt_cmpR op_lt (pe_op op_add (pv 1) pe_int) (pe_callB call_len_d (by rfl) T.b_len (by decide +kernel) (pa_cons (pv 0) pa_nil)) (nomark _)) (pw_and1 (pt_cmpR op_eq (pe_ix ix_d (pv 0) (pv 1) (fun _ _ => rfl)) (pe_gi T2.g_EXTENDED_ARG) (nomark _)))))
    (pss_cons (ps_set (i := 2) scbehind_extension.nd rfl (Or.inl rfl) (pe_op op_shlW (pe_op op_or (pv 2) (pe_ix ix_d (pv 0) (pe_op op_add (pv 1) pe_int) (fun _ _ => rfl))) pe_int))
  (pss_one (ps_aug (i := 1) scbehind_extension.nd rfl (.inl rfl) pe_int ip_add))))
  (pss_one (ps_ret (pe_tup (pa_cons (pv 1) (pa_cons (pv 2) pa_nil))))))), ?_⟩
    show (_ : TS) _ [some (.ref t), some (.int (i : Int)), none] H
    simp only [r_seq, r_next, r_brk, r_cont, r_asg, r_name, r_ret, r_retN, r_drop, r_ifs, r_never, r_var, r_c, r_op, r_un, r_if, r_tst, r_b, r_not, r_and, r_or, r_andV, r_orV, r_notV, r_nil, r_cons, r_tup, r_lst, r_cb, r_call, r_bm, r_bm0, r_sl, r_nopart, r_part, r_rev, r_gnil, r_gcons, r_gsub, r_par, r_aug, r_chain, r_I0, r_I, r_U, r_ixd, r_lend, r_tupd, r_listd, r_sld, r_app, r_ext, r_reverse, r_setl, r_cat, r_int1, r_eqS, r_neS, scal_ii, scal_bb, scal_ss, at0, at1, at2, sq_lst, sq_tup, isLst_lst, List.getElem?_cons_zero, List.getElem?_cons_succ, List.set_cons_zero, List.set_cons_succ, V.int.injEq, V.bl.injEq, V.ref.injEq, V.str.injEq, HO.lst.injEq, HO.tup.injEq, Option.some.injEq, exists_eq_left', exists_eq_left, List.cons.injEq, and_true, true_and, decide_eq_true_eq, reduceCtorEq, false_and, exists_false, or_false, false_or, exists_const, and_assoc, exists_and_left, List.append_nil, ix0, ix1, ix2, cm_mod, cdw1009, cdw2003, cdw7, cdw64, cdw2, cm104729, cm2, cm3, upd_same, List.length_cons, List.length_nil, Int.reduceLT, Int.reduceLE, Nat.reduceAdd, Nat.reduceLeDiff, Nat.reduceLT, Int.reduceToNat, r_for1, r_forL, r_forT, r_lcL, r_lc1, r_yes, r_gtupD, wipe_0, wipe_1, List.cons_append, List.nil_append, r_forS, r_ipI, ite_false, ite_true, Bool.not_true, Bool.not_false, decide_true, decide_false, r_isd, r_islt, cD_ty, cD_ref, tD_non, tD_bl, tD_int, tD_str, tD_ref, tH_lst, tH_tup, tH_dK, tH_ins, ki_self, ki_int_bool, ki_non_int, ki_str_int, ki_lt_lst, ki_lt_tup, r_fld, r_sfld, HO.ins.injEq, cx_K, ht]
    refine while_d (lvExt H t all i) (fun σ _ => msExt (all.length + 1) σ) ⟨i, 0, all.length, 0, rfl, rfl, by omega, rfl, Nat.le_refl _, by simp, 0, rfl, by simp⟩ ?_
    rintro σ H1 ⟨j, a, n, m, rfl, rfl, hn, e, hij, hm, y, rfl, hy⟩
    by_cases c : j + 1 < all.length
    · have e1 := vn_at (show j < all.length by omega)
      have c1 : ((j : Int) + 1 < ((vn all).length : Int)) = True := eq_true (by rw [vn_len]; omega)
      have c2 : (V.int ((all.getD j 0 : Nat) : Int) = V.int 71) = (all.getD j 0 = 71) := propext ⟨fun q => by injection q with q; omega, fun q => by rw [q]; rfl⟩
      refine ⟨decide (all.getD j 0 = 71), fun QT q => ?_, fun cc => ?_, fun cc => ?_⟩
      · simp only [r_seq, r_next, r_brk, r_cont, r_asg, r_name, r_ret, r_retN, r_drop, r_ifs, r_never, r_var, r_c, r_op, r_un, r_if, r_tst, r_b, r_not, r_and, r_or, r_andV, r_orV, r_notV, r_nil, r_cons, r_tup, r_lst, r_cb, r_call, r_bm, r_bm0, r_sl, r_nopart, r_part, r_rev, r_gnil, r_gcons, r_gsub, r_par, r_aug, r_chain, r_I0, r_I, r_U, r_ixd, r_lend, r_tupd, r_listd, r_sld, r_app, r_ext, r_reverse, r_setl, r_cat, r_int1, r_eqS, r_neS, scal_ii, scal_bb, scal_ss, at0, at1, at2, sq_lst, sq_tup, isLst_lst, List.getElem?_cons_zero, List.getElem?_cons_succ, List.set_cons_zero, List.set_cons_succ, V.int.injEq, V.bl.injEq, V.ref.injEq, V.str.injEq, HO.lst.injEq, HO.tup.injEq, Option.some.injEq, exists_eq_left', exists_eq_left, List.cons.injEq, and_true, true_and, decide_eq_true_eq, reduceCtorEq, false_and, exists_false, or_false, false_or, exists_const, and_assoc, exists_and_left, List.append_nil, ix0, ix1, ix2, cm_mod, cdw1009, cdw2003, cdw7, cdw64, cdw2, cm104729, cm2, cm3, upd_same, List.length_cons, List.length_nil, Int.reduceLT, Int.reduceLE, Nat.reduceAdd, Nat.reduceLeDiff, Nat.reduceLT, Int.reduceToNat, r_for1, r_forL, r_forT, r_lcL, r_lc1, r_yes, r_gtupD, wipe_0, wipe_1, List.cons_append, List.nil_append, r_forS, r_ipI, ite_false, ite_true, Bool.not_true, Bool.not_false, decide_true, decide_false, r_isd, r_islt, cD_ty, cD_ref, tD_non, tD_bl, tD_int, tD_str, tD_ref, tH_lst, tH_tup, tH_dK, tH_ins, ki_self, ki_int_bool, ki_non_int, ki_str_int, ki_lt_lst, ki_lt_tup, r_fld, r_sfld, HO.ins.injEq, cx_K, ht, e1, c1, c2]
        exact q
      · have cc' := of_decide_eq_true cc
        have e2 : atI (vn all) ((j : Int) + 1) = some (.int ((all.getD (j + 1) 0 : Nat) : Int)) := vn_at c
        have x256 := b256 hb (j + 1)
        generalize hx : all.getD (j + 1) 0 = x at *
        have e3 : Builtin.bitOr ((256 * y : Nat) : Int) (x : Int) = ((256 * y + x : Nat) : Int) := by
          rw [show (((256 * y : Nat) : Nat) : Int) = (y : Int) * 2 ^ 8 from by omega, Bits.bitOr_join' (by omega) (by omega) (by omega)]
          omega
        have hlt : 256 * y + x < 2 ^ (8 * (m + 1)) := by
          rw [show 8 * (m + 1) = 8 * m + 8 from by omega, Nat.pow_add]
          omega
        have e4 : CShl ((256 * y + x : Nat) : Int) 8 := shl_ok (n := 8 * (m + 1)) (j := 8) (by rw [Int.natAbs_natCast]; exact hlt) (by omega)
        simp only [r_seq, r_next, r_brk, r_cont, r_asg, r_name, r_ret, r_retN, r_drop, r_ifs, r_never, r_var, r_c, r_op, r_un, r_if, r_tst, r_b, r_not, r_and, r_or, r_andV, r_orV, r_notV, r_nil, r_cons, r_tup, r_lst, r_cb, r_call, r_bm, r_bm0, r_sl, r_nopart, r_part, r_rev, r_gnil, r_gcons, r_gsub, r_par, r_aug, r_chain, r_I0, r_I, r_U, r_ixd, r_lend, r_tupd, r_listd, r_sld, r_app, r_ext, r_reverse, r_setl, r_cat, r_int1, r_eqS, r_neS, scal_ii, scal_bb, scal_ss, at0, at1, at2, sq_lst, sq_tup, isLst_lst, List.getElem?_cons_zero, List.getElem?_cons_succ, List.set_cons_zero, List.set_cons_succ, V.int.injEq, V.bl.injEq, V.ref.injEq, V.str.injEq, HO.lst.injEq, HO.tup.injEq, Option.some.injEq, exists_eq_left', exists_eq_left, List.cons.injEq, and_true, true_and, decide_eq_true_eq, reduceCtorEq, false_and, exists_false, or_false, false_or, exists_const, and_assoc, exists_and_left, List.append_nil, ix0, ix1, ix2, cm_mod, cdw1009, cdw2003, cdw7, cdw64, cdw2, cm104729, cm2, cm3, upd_same, List.length_cons, List.length_nil, Int.reduceLT, Int.reduceLE, Nat.reduceAdd, Nat.reduceLeDiff, Nat.reduceLT, Int.reduceToNat, r_for1, r_forL, r_forT, r_lcL, r_lc1, r_yes, r_gtupD, wipe_0, wipe_1, List.cons_append, List.nil_append, r_forS, r_ipI, ite_false, ite_true, Bool.not_true, Bool.not_false, decide_true, decide_false, r_isd, r_islt, cD_ty, cD_ref, tD_non, tD_bl, tD_int, tD_str, tD_ref, tH_lst, tH_tup, tH_dK, tH_ins, ki_self, ki_int_bool, ki_non_int, ki_str_int, ki_lt_lst, ki_lt_tup, r_fld, r_sfld, HO.ins.injEq, cx_K, ht, e2, e3, e4]
        refine ⟨⟨j + 2, (256 * y + x) * 256, n - 1, m + 1, ?_, rfl, by omega, ?_, by omega, by omega, 256 * y + x, by omega, hlt⟩, ?_⟩
        · rw [show (j : Int) + 2 = ((j + 2 : Nat) : Int) from by omega, show ((256 * y + x : Nat) : Int) * 2 ^ 8 = (((256 * y + x) * 256 : Nat) : Int) from by omega]
        · rw [← e]
          obtain ⟨n', rfl⟩ : ∃ n', n = n' + 1 := ⟨n - 1, by omega⟩
          rw [extF, if_pos ⟨c, cc'⟩, Nat.add_sub_cancel, hx]
        · show all.length + 1 - ((j : Int) + 2).toNat < all.length + 1 - (j : Int).toNat
          omega
      · have cc' := of_decide_eq_false cc
        have e9 : extF all n j (256 * y) = (j, 256 * y) := by
          cases n with
          | zero => rfl
          | succ n => rw [extF, if_neg (fun q => cc' q.2)]
        rw [e9] at e
        simp only [r_seq, r_next, r_brk, r_cont, r_asg, r_name, r_ret, r_retN, r_drop, r_ifs, r_never, r_var, r_c, r_op, r_un, r_if, r_tst, r_b, r_not, r_and, r_or, r_andV, r_orV, r_notV, r_nil, r_cons, r_tup, r_lst, r_cb, r_call, r_bm, r_bm0, r_sl, r_nopart, r_part, r_rev, r_gnil, r_gcons, r_gsub, r_par, r_aug, r_chain, r_I0, r_I, r_U, r_ixd, r_lend, r_tupd, r_listd, r_sld, r_app, r_ext, r_reverse, r_setl, r_cat, r_int1, r_eqS, r_neS, scal_ii, scal_bb, scal_ss, at0, at1, at2, sq_lst, sq_tup, isLst_lst, List.getElem?_cons_zero, List.getElem?_cons_succ, List.set_cons_zero, List.set_cons_succ, V.int.injEq, V.bl.injEq, V.ref.injEq, V.str.injEq, HO.lst.injEq, HO.tup.injEq, Option.some.injEq, exists_eq_left', exists_eq_left, List.cons.injEq, and_true, true_and, decide_eq_true_eq, reduceCtorEq, false_and, exists_false, or_false, false_or, exists_const, and_assoc, exists_and_left, List.append_nil, ix0, ix1, ix2, cm_mod, cdw1009, cdw2003, cdw7, cdw64, cdw2, cm104729, cm2, cm3, upd_same, List.length_cons, List.length_nil, Int.reduceLT, Int.reduceLE, Nat.reduceAdd, Nat.reduceLeDiff, Nat.reduceLT, Int.reduceToNat, r_for1, r_forL, r_forT, r_lcL, r_lc1, r_yes, r_gtupD, wipe_0, wipe_1, List.cons_append, List.nil_append, r_forS, r_ipI, ite_false, ite_true, Bool.not_true, Bool.not_false, decide_true, decide_false, r_isd, r_islt, cD_ty, cD_ref, tD_non, tD_bl, tD_int, tD_str, tD_ref, tH_lst, tH_tup, tH_dK, tH_ins, ki_self, ki_int_bool, ki_non_int, ki_str_int, ki_lt_lst, ki_lt_tup, r_fld, r_sfld, HO.ins.injEq, cx_K]
        refine ⟨szl (by decide : 2 ≤ 1000), fun p hp => k p _ hp (Same.new' (Same.refl H1) hp) (by rw [← e]; exact upd_same)⟩
    · have c1 : ((j : Int) + 1 < ((vn all).length : Int)) = False := eq_false (by rw [vn_len]; omega)
      refine ⟨false, fun QT q => ?_, fun cc => (by cases cc), fun _ => ?_⟩
      · simp only [r_seq, r_next, r_brk, r_cont, r_asg, r_name, r_ret, r_retN, r_drop, r_ifs, r_never, r_var, r_c, r_op, r_un, r_if, r_tst, r_b, r_not, r_and, r_or, r_andV, r_orV, r_notV, r_nil, r_cons, r_tup, r_lst, r_cb, r_call, r_bm, r_bm0, r_sl, r_nopart, r_part, r_rev, r_gnil, r_gcons, r_gsub, r_par, r_aug, r_chain, r_I0, r_I, r_U, r_ixd, r_lend, r_tupd, r_listd, r_sld, r_app, r_ext, r_reverse, r_setl, r_cat, r_int1, r_eqS, r_neS, scal_ii, scal_bb, scal_ss, at0, at1, at2, sq_lst, sq_tup, isLst_lst, List.getElem?_cons_zero, List.getElem?_cons_succ, List.set_cons_zero, List.set_cons_succ, V.int.injEq, V.bl.injEq, V.ref.injEq, V.str.injEq, HO.lst.injEq, HO.tup.injEq, Option.some.injEq, exists_eq_left', exists_eq_left, List.cons.injEq, and_true, true_and, decide_eq_true_eq, reduceCtorEq, false_and, exists_false, or_false, false_or, exists_const, and_assoc, exists_and_left, List.append_nil, ix0, ix1, ix2, cm_mod, cdw1009, cdw2003, cdw7, cdw64, cdw2, cm104729, cm2, cm3, upd_same, List.length_cons, List.length_nil, Int.reduceLT, Int.reduceLE, Nat.reduceAdd, Nat.reduceLeDiff, Nat.reduceLT, Int.reduceToNat, r_for1, r_forL, r_forT, r_lcL, r_lc1, r_yes, r_gtupD, wipe_0, wipe_1, List.cons_append, List.nil_append, r_forS, r_ipI, ite_false, ite_true, Bool.not_true, Bool.not_false, decide_true, decide_false, r_isd, r_islt, cD_ty, cD_ref, tD_non, tD_bl, tD_int, tD_str, tD_ref, tH_lst, tH_tup, tH_dK, tH_ins, ki_self, ki_int_bool, ki_non_int, ki_str_int, ki_lt_lst, ki_lt_tup, r_fld, r_sfld, HO.ins.injEq, cx_K, ht, c1]
        exact q
      · have e9 : extF all n j (256 * y) = (j, 256 * y) := by
          cases n with
          | zero => rfl
          | succ n => rw [extF, if_neg (fun q => c q.1)]
        rw [e9] at e
        simp only [r_seq, r_next, r_brk, r_cont, r_asg, r_name, r_ret, r_retN, r_drop, r_ifs, r_never, r_var, r_c, r_op, r_un, r_if, r_tst, r_b, r_not, r_and, r_or, r_andV, r_orV, r_notV, r_nil, r_cons, r_tup, r_lst, r_cb, r_call, r_bm, r_bm0, r_sl, r_nopart, r_part, r_rev, r_gnil, r_gcons, r_gsub, r_par, r_aug, r_chain, r_I0, r_I, r_U, r_ixd, r_lend, r_tupd, r_listd, r_sld, r_app, r_ext, r_reverse, r_setl, r_cat, r_int1, r_eqS, r_neS, scal_ii, scal_bb, scal_ss, at0, at1, at2, sq_lst, sq_tup, isLst_lst, List.getElem?_cons_zero, List.getElem?_cons_succ, List.set_cons_zero, List.set_cons_succ, V.int.injEq, V.bl.injEq, V.ref.injEq, V.str.injEq, HO.lst.injEq, HO.tup.injEq, Option.some.injEq, exists_eq_left', exists_eq_left, List.cons.injEq, and_true, true_and, decide_eq_true_eq, reduceCtorEq, false_and, exists_false, or_false, false_or, exists_const, and_assoc, exists_and_left, List.append_nil, ix0, ix1, ix2, cm_mod, cdw1009, cdw2003, cdw7, cdw64, cdw2, cm104729, cm2, cm3, upd_same, List.length_cons, List.length_nil, Int.reduceLT, Int.reduceLE, Nat.reduceAdd, Nat.reduceLeDiff, Nat.reduceLT, Int.reduceToNat, r_for1, r_forL, r_forT, r_lcL, r_lc1, r_yes, r_gtupD, wipe_0, wipe_1, List.cons_append, List.nil_append, r_forS, r_ipI, ite_false, ite_true, Bool.not_true, Bool.not_false, decide_true, decide_false, r_isd, r_islt, cD_ty, cD_ref, tD_non, tD_bl, tD_int, tD_str, tD_ref, tH_lst, tH_tup, tH_dK, tH_ins, ki_self, ki_int_bool, ki_non_int, ki_str_int, ki_lt_lst, ki_lt_tup, r_fld, r_sfld, HO.ins.injEq, cx_K]
        refine ⟨szl (by decide : 2 ≤ 1000), fun p hp => k p _ hp (Same.new' (Same.refl H1) hp) (by rw [← e]; exact upd_same)⟩
end
end C58

set_option maxHeartbeats 1000000
namespace C58
open PySem PySem.Spec PyProof.Rows L2
/-! ### bytes cut to instructions -/
abbrev WD := Nat → Option (Str × Nat)
/-- the written table of words: at each number its row, or none -/
structure WordsT (K : PySem.W.Frag) (mg : Str → Option Value) (D : Addr) (L : List (Int × Value)) (wd : WD) : Prop where
  d : IDict K D L
  g : mg "WORDS" = some (.ref D)
  no : ∀ n : Nat, wd n = none → getI L (n : Int) = none
  yes : ∀ (n : Nat) (w : Str) (u : Nat), wd n = some (w, u) → 1 ≤ u ∧ u ≤ 10 ∧ ∃ t, getI L (n : Int) = some (.ref t) ∧ ∀ H : Hp, SqT K H t [.str w, .int (u : Int)]
def nz (xs : List Nat) : Bool := xs.any fun x => x != 0
def nextF (wd : WD) (all : List Nat) (b : Nat) : Option (Str × Nat × Nat) :=
  let r := if (wd (all.getD b 0)).isSome then (b, 0) else extF all all.length b 0
  if (wd (all.getD b 0)).isNone ∧ (¬ (b < r.1 ∧ r.1 ≤ b + 6) ∨ all.getD (b + 1) 0 = 0 ∨ all.length ≤ r.1) then none
  else match wd (all.getD r.1 0) with
    | none => none
    | some (w, u) => if all.length < r.1 + 2 * u ∨ (1 < u ∧ nz ((all.drop (r.1 + 2)).take (2 * u - 2)) = true) then none else some (w, r.2 + all.getD (r.1 + 1) 0, r.1 + 2 * u)
def cutF (wd : WD) (all : List Nat) : Nat → Nat → List (Nat × Str × Nat) × Option Nat
  | 0, _ => ([], none)
  | n + 1, b => if b < all.length then (match nextF wd all b with
    | none => ([], some b)
    | some (w, a, e) => ((b, w, a) :: (cutF wd all n e).1, (cutF wd all n e).2)) else ([], none)
theorem r_par3 {i j l : Nat} {ta : TA} {D : Ends} {σ : L2.St} {H : Hp} : tPar3 i j l ta D σ H = ta σ H (fun vs H1 => ∃ u v w, vs = [u, v, w] ∧ D.nx (((σ.set i (some u)).set j (some v)).set l (some w)) H1) := rfl
def wrongF (wd : WD) (all : List Nat) : Option Nat := if all = [] then some 0 else (cutF wd all all.length 0).2
def wrV : Option Nat → V
  | none => .non
  | some b => .int (b : Int)
/-- the three lists -/
structure Cuts (H : Hp) (B W A : Addr) (ls : List (Nat × Str × Nat)) : Prop where
  b : H B = some (.lst (vn (ls.map (·.1))))
  w : H W = some (.lst (ls.map fun x => V.str x.2.1))
  a : H A = some (.lst (vn (ls.map (·.2.2))))
def spCut (wd : WD) : Sp := fun vs H Q _ => ∃ (t : Addr) (all : List Nat), vs = [.ref t] ∧ H t = some (.tup (vn all)) ∧ all.length ≤ 4000 ∧ (∀ x ∈ all, x < 256) ∧
  ∀ p B W A H', H p = none → Same H H' → H' p = some (.tup [.ref B, .ref W, .ref A, wrV (wrongF wd all)]) → Cuts H' B W A (cutF wd all all.length 0).1 → Q (.ref p) H'
def lvCut (wd : WD) (H : Hp) (t B W A : Addr) (all : List Nat) (σ : L2.St) (H' : Hp) : Prop := ∃ (b n : Nat) (ls : List (Nat × Str × Nat)) (v7 v8 v9 v10 v11 : Option V), σ = [some (.ref t), some (.ref B), some (.ref W), some (.ref A), some (.int (all.length : Int)), some (.int (b : Int)), some (wrV (if all = [] then some 0 else none)), v7, v8, v9, v10, v11] ∧
  Same H H' ∧ Cuts H' B W A ls ∧ all.length - b ≤ n ∧ ls.length ≤ b ∧ (ls ++ (cutF wd all n b).1, (cutF wd all n b).2) = cutF wd all all.length 0
def msCut (m : Nat) (σ : L2.St) : Nat := match σ with
  | _ :: _ :: _ :: _ :: _ :: some (.int a) :: _ => m - a.toNat
  | _ => 0
/-! ### the reading of a turn -/
def t_look (D : Addr) (L : List (Int × Value)) : TS := tIfS (tTest (tOp (rNiI D L) (tOp rIxd (tVar 0) (tVar 7)) (tC (V.ref D))))
  (tSeq (tAsg (tCall spExt [] E0 (tCons (tVar 0) (tCons (tVar 7) tNil))) (gTupD 2 (gCons (gName 7) (gCons (gName 8) gNil))))
    (tIfS (tOr (tNot (tTest (tChain (rI0 fun i j => V.bl (decide (i < j))) (rI0 fun i j => V.bl (decide (i ≤ j))) (tC (V.int 0)) (tOp (rI0 fun i j => V.int (i - j)) (tVar 7) (tVar 5)) (tOp (rI CMul fun i j => V.int (i * j)) (tC (V.int 2)) (tC (V.int 3))))))
      (tOr (tTest (tOp rEq (tOp rIxd (tVar 0) (tOp (rI0 fun i j => V.int (i + j)) (tVar 5) (tC (V.int 1)))) (tC (V.int 0))))
        (tOr (tTest (tOp (rI0 fun i j => V.bl (decide (j ≤ i))) (tVar 7) (tVar 4))) (tTest (tOp (rNiI D L) (tOp rIxd (tVar 0) (tVar 7)) (tC (V.ref D)))))))
      (tSeq (tAsg (tVar 5) (gName 6)) tBreak) tNext)) tNext
def t_row (K : PySem.W.Frag) (D : Addr) (L : List (Int × Value)) : TS := tAsg (tOp (rIxI D L) (tC (V.ref D)) (tOp rIxd (tVar 0) (tVar 7))) (gTup K 2 (gCons (gName 9) (gCons (gName 10) gNil)))
def t_end : TS := tAsg (tOp (rI0 fun i j => V.int (i + j)) (tVar 7) (tOp (rI CMul fun i j => V.int (i * j)) (tC (V.int 2)) (tVar 10))) (gName 11)
def t_bad (K : PySem.W.Frag) : TS := tIfS (tOr (tTest (tOp (rI0 fun i j => V.bl (decide (j < i))) (tVar 11) (tVar 4))) (tAnd (tTest (tOp (rI0 fun i j => V.bl (decide (j < i))) (tVar 10) (tC (V.int 1))))
    (tB (tCB (rAnyT K) (tCons (tSl (rSlT K) (tVar 0) (tPart (tOp (rI0 fun i j => V.int (i + j)) (tVar 7) (tC (V.int 2)))) (tPart (tVar 11))) tNil)))))
  (tSeq (tAsg (tVar 5) (gName 6)) tBreak) tNext
def t_put (K : PySem.W.Frag) : TS := tSeq (tDrop (tBM K "list" rAppend (tVar 1) (tCons (tVar 5) tNil))) (tSeq (tDrop (tBM K "list" rAppend (tVar 2) (tCons (tVar 9) tNil)))
  (tSeq (tDrop (tBM K "list" rAppend (tVar 3) (tCons (tOp (rI0 fun i j => V.int (Builtin.bitOr i j)) (tVar 8) (tOp rIxd (tVar 0) (tOp (rI0 fun i j => V.int (i + j)) (tVar 7) (tC (V.int 1))))) tNil))) (tAsg (tVar 11) (gName 5))))
def t_step (K : PySem.W.Frag) (D : Addr) (L : List (Int × Value)) : TS := tSeq (tAsg (tVar 5) (gName 7)) (tSeq (tAsg (tC (V.int 0)) (gName 8)) (tSeq (t_look D L) (tSeq (t_row K D L) (tSeq t_end (tSeq (t_bad K) (t_put K))))))
theorem WordsT.some' {K : PySem.W.Frag} {mg : Str → Option Value} {D : Addr} {L : List (Int × Value)} {wd : WD} (W : WordsT K mg D L wd) (n : Nat) : (getI L (n : Int)).isSome = (wd n).isSome := by
  cases e : wd n with
  | none => rw [W.no n e]; rfl
  | some p =>
    obtain ⟨w, u⟩ := p
    obtain ⟨_, _, t, e2, _⟩ := W.yes n w u e
    rw [e2]
    rfl
section
variable {K : PySem.W.Frag} {mg : Str → Option Value} {Dw : Addr} {L : List (Int × Value)} {wd : WD} {D : Ends} {s1 s2 s3 s6 s8 s9 s10 s11 : Option V} {t : Addr} {all : List Nat} {b : Nat} {H : Hp}
def firstF (wd : WD) (all : List Nat) (b : Nat) : Nat × Nat := if (wd (all.getD b 0)).isSome then (b, 0) else extF all all.length b 0
theorem r_niI {d : Addr} {x y : V} {H : Hp} {Q : VK} : rNiI d L x y H Q = ∃ k, x = .int k ∧ y = .ref d ∧ Q (.bl (!(getI L k).isSome)) H := rfl
theorem extF_gt {n i a : Nat} (h : i < (extF all n i a).1) : i + 1 < all.length := by
  cases n with
  | zero => exact absurd h (Nat.lt_irrefl _)
  | succ n =>
    rw [extF] at h
    split at h
    · rename_i q
      exact q.1
    · exact absurd h (Nat.lt_irrefl _)
theorem extF_ge : ∀ {n i a : Nat}, 256 ∣ a → i ≤ (extF all n i a).1 ∧ 256 ∣ (extF all n i a).2
  | 0, i, a, h => ⟨Nat.le_refl _, h⟩
  | n + 1, i, a, h => by
    rw [extF]
    split
    · obtain ⟨h1, h2⟩ := extF_ge (n := n) (i := i + 2) (a := (a + all.getD (i + 1) 0) * 256) ⟨a + all.getD (i + 1) 0, Nat.mul_comm _ _⟩
      exact ⟨by omega, h2⟩
    · exact ⟨Nat.le_refl _, h⟩
theorem firstF_ge : b ≤ (firstF wd all b).1 ∧ 256 ∣ (firstF wd all b).2 := by
  unfold firstF
  split
  · exact ⟨Nat.le_refl _, ⟨0, rfl⟩⟩
  · exact extF_ge ⟨0, rfl⟩
theorem nextF_eq : nextF wd all b = (if (wd (all.getD b 0)).isNone ∧ (¬ (b < (firstF wd all b).1 ∧ (firstF wd all b).1 ≤ b + 6) ∨ all.getD (b + 1) 0 = 0 ∨ all.length ≤ (firstF wd all b).1) then none else match wd (all.getD (firstF wd all b).1 0) with
      | none => none
      | some (w, u) => if all.length < (firstF wd all b).1 + 2 * u ∨ (1 < u ∧ nz ((all.drop ((firstF wd all b).1 + 2)).take (2 * u - 2)) = true) then none else some (w, (firstF wd all b).2 + all.getD ((firstF wd all b).1 + 1) 0, (firstF wd all b).1 + 2 * u)) := rfl
theorem look_run (WT : WordsT K mg Dw L wd) (ht : H t = some (.tup (vn all))) (hl : all.length ≤ 4000) (hb : ∀ x ∈ all, x < 256) (hbl : b < all.length)
    (bad : ∀ s7 s8 H', Same H H' → nextF wd all b = none → D.bk [some (.ref t), s1, s2, s3, some (.int (all.length : Int)), some (.int (b : Int)), some (.int (b : Int)), s7, s8, s9, s10, s11] H')
    (ok : ∀ (i a : Nat) H', Same H H' → i < all.length → firstF wd all b = (i, a) → (wd (all.getD i 0)).isSome = true → ¬ ((wd (all.getD b 0)).isNone ∧ (¬ (b < i ∧ i ≤ b + 6) ∨ all.getD (b + 1) 0 = 0 ∨ all.length ≤ i)) → D.nx [some (.ref t), s1, s2, s3, some (.int (all.length : Int)), some (.int (b : Int)), s6, some (.int (i : Int)), some (.int (a : Int)), s9, s10, s11] H') :
    t_look Dw L D [some (.ref t), s1, s2, s3, some (.int (all.length : Int)), some (.int (b : Int)), s6, some (.int (b : Int)), some (.int ((0 : Nat) : Int)), s9, s10, s11] H := by
  unfold t_look
  have e1 := vn_at hbl
  simp only [r_seq, r_next, r_brk, r_cont, r_asg, r_name, r_ret, r_retN, r_drop, r_ifs, r_never, r_var, r_c, r_op, r_un, r_if, r_tst, r_b, r_not, r_and, r_or, r_andV, r_orV, r_notV, r_nil, r_cons, r_tup, r_lst, r_cb, r_call, r_bm, r_bm0, r_sl, r_nopart, r_part, r_rev, r_gnil, r_gcons, r_gsub, r_par, r_aug, r_chain, r_I0, r_I, r_U, r_ixd, r_lend, r_tupd, r_listd, r_sld, r_app, r_ext, r_reverse, r_setl, r_cat, r_int1, r_eqS, r_neS, scal_ii, scal_bb, scal_ss, at0, at1, at2, sq_lst, sq_tup, isLst_lst, List.getElem?_cons_zero, List.getElem?_cons_succ, List.set_cons_zero, List.set_cons_succ, V.int.injEq, V.bl.injEq, V.ref.injEq, V.str.injEq, HO.lst.injEq, HO.tup.injEq, Option.some.injEq, exists_eq_left', exists_eq_left, List.cons.injEq, and_true, true_and, decide_eq_true_eq, reduceCtorEq, false_and, exists_false, or_false, false_or, exists_const, and_assoc, exists_and_left, List.append_nil, ix0, ix1, ix2, cm_mod, cdw1009, cdw2003, cdw7, cdw64, cdw2, cm104729, cm2, cm3, upd_same, List.length_cons, List.length_nil, Int.reduceLT, Int.reduceLE, Nat.reduceAdd, Nat.reduceLeDiff, Nat.reduceLT, Int.reduceToNat, r_for1, r_forL, r_forT, r_lcL, r_lc1, r_yes, r_gtupD, wipe_0, wipe_1, List.cons_append, List.nil_append, r_forS, r_ipI, ite_false, ite_true, Bool.not_true, Bool.not_false, decide_true, decide_false, r_isd, r_islt, cD_ty, cD_ref, tD_non, tD_bl, tD_int, tD_str, tD_ref, tH_lst, tH_tup, tH_dK, tH_ins, ki_self, ki_int_bool, ki_non_int, ki_str_int, ki_lt_lst, ki_lt_tup, r_fld, r_sfld, HO.ins.injEq, cx_K, ht, e1, r_niI]
  rw [WT.some']
  by_cases hw : (wd (all.getD b 0)).isSome = true
  · rw [hw]
    exact ok b 0 H (Same.refl H) hbl (by unfold firstF; rw [if_pos hw]) hw (fun q => by rw [Option.isNone_iff_eq_none] at q; rw [q.1] at hw; cases hw)
  · have hn : (wd (all.getD b 0)).isNone = true := by
      cases e : wd (all.getD b 0) with
      | none => rfl
      | some x => exact absurd (by rw [e]; rfl) hw
    have hw' : (wd (all.getD b 0)).isSome = false := by
      cases e : (wd (all.getD b 0)).isSome with
      | false => rfl
      | true => exact absurd e hw
    rw [hw']
    rw [if_pos (by rfl)]
    refine ⟨t, all, b, rfl, ht, hl, hb, fun p H1 hp k1 h1 => ⟨p, rfl, _, h1, rfl, _, _, rfl, _, _, rfl, rfl, ?_⟩⟩
    have gt := extF_gt (all := all) (n := all.length) (i := b) (a := 0)
    have fi : firstF wd all b = extF all all.length b 0 := by unfold firstF; rw [if_neg hw]
    have nx : nextF wd all b = (if (wd (all.getD b 0)).isNone ∧ (¬ (b < (firstF wd all b).1 ∧ (firstF wd all b).1 ≤ b + 6) ∨ all.getD (b + 1) 0 = 0 ∨ all.length ≤ (firstF wd all b).1) then none else match wd (all.getD (firstF wd all b).1 0) with
      | none => none
      | some (w, u) => if all.length < (firstF wd all b).1 + 2 * u ∨ (1 < u ∧ nz ((all.drop ((firstF wd all b).1 + 2)).take (2 * u - 2)) = true) then none else some (w, (firstF wd all b).2 + all.getD ((firstF wd all b).1 + 1) 0, (firstF wd all b).1 + 2 * u)) := rfl
    rw [fi] at nx
    obtain ⟨i, a, er⟩ : ∃ i a, extF all all.length b 0 = (i, a) := ⟨_, _, rfl⟩
    rw [er] at fi nx gt ⊢
    dsimp only at gt nx ⊢
    have ht1 := k1 _ _ ht
    refine ⟨_, rfl, ?_⟩
    by_cases c1 : b < i
    · rw [if_pos (show 0 < (i : Int) - (b : Int) by omega)]
      by_cases c2 : i ≤ b + 6
      · rw [if_neg (by rw [show decide ((i : Int) - (b : Int) ≤ 2 * 3) = true from decide_eq_true (by omega)]; decide)]
        refine ⟨vn all, by rw [ht1]; rfl, _, vn_at (gt c1), rfl, ?_⟩
        by_cases c3 : all.getD (b + 1) 0 = 0
        · rw [if_pos (by rw [c3]; rfl)]
          exact bad _ _ H1 k1 (by rw [nx, if_pos ⟨hn, .inr (.inl c3)⟩])
        · rw [if_neg (fun q : V.int ((all.getD (b + 1) 0 : Nat) : Int) = V.int 0 => c3 (Int.ofNat.inj (V.int.inj q)))]
          refine ⟨_, rfl, ?_⟩
          by_cases c4 : all.length ≤ i
          · rw [if_pos (by omega)]
            exact bad _ _ H1 k1 (by rw [nx, if_pos ⟨hn, .inr (.inr c4)⟩])
          · rw [if_neg (by omega)]
            have ng : ¬ ((wd (all.getD b 0)).isNone = true ∧ (¬ (b < i ∧ i ≤ b + 6) ∨ all.getD (b + 1) 0 = 0 ∨ all.length ≤ i)) := by
              rintro ⟨_, q | q | q⟩
              · exact q ⟨c1, c2⟩
              · exact c3 q
              · exact c4 q
            rw [if_neg ng] at nx
            refine ⟨_, rfl, vn all, by rw [ht1]; rfl, _, vn_at (by omega), _, rfl, ?_⟩
            rw [WT.some']
            cases e : wd (all.getD i 0) with
            | none =>
              rw [e] at nx
              rw [if_pos (by rfl)]
              exact bad _ _ H1 k1 nx
            | some x =>
              rw [if_neg (by simp)]
              exact ok i a H1 k1 (by omega) fi (by rw [e]; rfl) ng
      · rw [if_pos (by rw [show decide ((i : Int) - (b : Int) ≤ 2 * 3) = false from decide_eq_false (by omega)]; rfl)]
        exact bad _ _ H1 k1 (by rw [nx, if_pos ⟨hn, .inl fun q => c2 q.2⟩])
    · rw [if_neg (show ¬ (0 < (i : Int) - (b : Int)) by omega)]
      exact bad _ _ H1 k1 (by rw [nx, if_pos ⟨hn, .inl fun q => c1 q.1⟩])
end
section
variable {K : PySem.W.Frag} {mg : Str → Option Value} {Dw : Addr} {L : List (Int × Value)} {wd : WD} {D : Ends} {s1 s2 s3 s6 s9 s10 s11 : Option V} {t : Addr} {all : List Nat} {b i a u : Nat} {w : Str} {H : Hp}
theorem sIx_nat (l d n : Nat) : HT.sIx l d (some (n : Int)) = min n l := by
  simp [HT.sIx]
  omega
theorem any_nz (xs : List Nat) : ((xs.map fun d : Nat => (d : Int)).any fun n => n != 0) = nz xs := by
  unfold nz
  rw [List.any_map]
  congr 1
  funext d
  show ((d : Int) != 0) = (d != 0)
  cases d with
  | zero => rfl
  | succ d =>
    have : ((d + 1 : Nat) : Int) ≠ 0 := by omega
    simp [this]
    omega
theorem r_ixI {d : Addr} {x y : V} {H : Hp} {Q : VK} : rIxI d L x y H Q = ∃ (k : Int) (u : Value) (v : V), x = .ref d ∧ y = .int k ∧ getI L k = some u ∧ RelV v u ∧ Q v H := rfl
theorem row_run (WT : WordsT K mg Dw L wd) (ht : H t = some (.tup (vn all))) (hi : i < all.length) (hw : wd (all.getD i 0) = some (w, u))
    (k : D.nx [some (.ref t), s1, s2, s3, some (.int (all.length : Int)), some (.int (b : Int)), s6, some (.int (i : Int)), some (.int (a : Int)), some (.str w), some (.int (u : Int)), s11] H) :
    t_row K Dw L D [some (.ref t), s1, s2, s3, some (.int (all.length : Int)), some (.int (b : Int)), s6, some (.int (i : Int)), some (.int (a : Int)), s9, s10, s11] H := by
  unfold t_row
  have e1 := vn_at hi
  obtain ⟨_, _, p, e2, sq⟩ := WT.yes _ _ _ hw
  simp only [r_seq, r_next, r_brk, r_cont, r_asg, r_name, r_ret, r_retN, r_drop, r_ifs, r_never, r_var, r_c, r_op, r_un, r_if, r_tst, r_b, r_not, r_and, r_or, r_andV, r_orV, r_notV, r_nil, r_cons, r_tup, r_lst, r_cb, r_call, r_bm, r_bm0, r_sl, r_nopart, r_part, r_rev, r_gnil, r_gcons, r_gsub, r_par, r_aug, r_chain, r_I0, r_I, r_U, r_ixd, r_lend, r_tupd, r_listd, r_sld, r_app, r_ext, r_reverse, r_setl, r_cat, r_int1, r_eqS, r_neS, scal_ii, scal_bb, scal_ss, at0, at1, at2, sq_lst, sq_tup, isLst_lst, List.getElem?_cons_zero, List.getElem?_cons_succ, List.set_cons_zero, List.set_cons_succ, V.int.injEq, V.bl.injEq, V.ref.injEq, V.str.injEq, HO.lst.injEq, HO.tup.injEq, Option.some.injEq, exists_eq_left', exists_eq_left, List.cons.injEq, and_true, true_and, decide_eq_true_eq, reduceCtorEq, false_and, exists_false, or_false, false_or, exists_const, and_assoc, exists_and_left, List.append_nil, ix0, ix1, ix2, cm_mod, cdw1009, cdw2003, cdw7, cdw64, cdw2, cm104729, cm2, cm3, upd_same, List.length_cons, List.length_nil, Int.reduceLT, Int.reduceLE, Nat.reduceAdd, Nat.reduceLeDiff, Nat.reduceLT, Int.reduceToNat, r_for1, r_forL, r_forT, r_lcL, r_lc1, r_yes, r_gtupD, wipe_0, wipe_1, List.cons_append, List.nil_append, r_forS, r_ipI, ite_false, ite_true, Bool.not_true, Bool.not_false, decide_true, decide_false, r_isd, r_islt, cD_ty, cD_ref, tD_non, tD_bl, tD_int, tD_str, tD_ref, tH_lst, tH_tup, tH_dK, tH_ins, ki_self, ki_int_bool, ki_non_int, ki_str_int, ki_lt_lst, ki_lt_tup, r_fld, r_sfld, HO.ins.injEq, cx_K, ht, e1]
  exact ⟨_, .ref p, .ref p, rfl, rfl, e2, rfl, p, _, rfl, sq H, rfl, .str w, _, rfl, .int (u : Int), _, rfl, rfl, k⟩
theorem cend_run (k : D.nx [some (.ref t), s1, s2, s3, some (.int (all.length : Int)), some (.int (b : Int)), s6, some (.int (i : Int)), some (.int (a : Int)), some (.str w), some (.int (u : Int)), some (.int ((i + 2 * u : Nat) : Int))] H) :
    t_end D [some (.ref t), s1, s2, s3, some (.int (all.length : Int)), some (.int (b : Int)), s6, some (.int (i : Int)), some (.int (a : Int)), some (.str w), some (.int (u : Int)), s11] H := by
  unfold t_end
  have c2 : CMul 2 (u : Int) := .inl (by decide)
  have e : (i : Int) + 2 * (u : Int) = ((i + 2 * u : Nat) : Int) := by omega
  simp only [r_seq, r_next, r_brk, r_cont, r_asg, r_name, r_ret, r_retN, r_drop, r_ifs, r_never, r_var, r_c, r_op, r_un, r_if, r_tst, r_b, r_not, r_and, r_or, r_andV, r_orV, r_notV, r_nil, r_cons, r_tup, r_lst, r_cb, r_call, r_bm, r_bm0, r_sl, r_nopart, r_part, r_rev, r_gnil, r_gcons, r_gsub, r_par, r_aug, r_chain, r_I0, r_I, r_U, r_ixd, r_lend, r_tupd, r_listd, r_sld, r_app, r_ext, r_reverse, r_setl, r_cat, r_int1, r_eqS, r_neS, scal_ii, scal_bb, scal_ss, at0, at1, at2, sq_lst, sq_tup, isLst_lst, List.getElem?_cons_zero, List.getElem?_cons_succ, List.set_cons_zero, List.set_cons_succ, V.int.injEq, V.bl.injEq, V.ref.injEq, V.str.injEq, HO.lst.injEq, HO.tup.injEq, Option.some.injEq, exists_eq_left', exists_eq_left, List.cons.injEq, and_true, true_and, decide_eq_true_eq, reduceCtorEq, false_and, exists_false, or_false, false_or, exists_const, and_assoc, exists_and_left, List.append_nil, ix0, ix1, ix2, cm_mod, cdw1009, cdw2003, cdw7, cdw64, cdw2, cm104729, cm2, cm3, upd_same, List.length_cons, List.length_nil, Int.reduceLT, Int.reduceLE, Nat.reduceAdd, Nat.reduceLeDiff, Nat.reduceLT, Int.reduceToNat, r_for1, r_forL, r_forT, r_lcL, r_lc1, r_yes, r_gtupD, wipe_0, wipe_1, List.cons_append, List.nil_append, r_forS, r_ipI, ite_false, ite_true, Bool.not_true, Bool.not_false, decide_true, decide_false, r_isd, r_islt, cD_ty, cD_ref, tD_non, tD_bl, tD_int, tD_str, tD_ref, tH_lst, tH_tup, tH_dK, tH_ins, ki_self, ki_int_bool, ki_non_int, ki_str_int, ki_lt_lst, ki_lt_tup, r_fld, r_sfld, HO.ins.injEq, cx_K, c2, e]
  exact k
theorem bad_run (ht : H t = some (.tup (vn all))) (hi : i < all.length) (hu : 1 ≤ u)
    (bad : all.length < i + 2 * u ∨ (1 < u ∧ nz ((all.drop (i + 2)).take (2 * u - 2)) = true) → ∀ H', Same H H' → D.bk [some (.ref t), s1, s2, s3, some (.int (all.length : Int)), some (.int (b : Int)), some (.int (b : Int)), some (.int (i : Int)), some (.int (a : Int)), some (.str w), some (.int (u : Int)), some (.int ((i + 2 * u : Nat) : Int))] H')
    (ok : ¬ (all.length < i + 2 * u ∨ (1 < u ∧ nz ((all.drop (i + 2)).take (2 * u - 2)) = true)) → ∀ H', Same H H' → D.nx [some (.ref t), s1, s2, s3, some (.int (all.length : Int)), some (.int (b : Int)), s6, some (.int (i : Int)), some (.int (a : Int)), some (.str w), some (.int (u : Int)), some (.int ((i + 2 * u : Nat) : Int))] H') :
    t_bad K D [some (.ref t), s1, s2, s3, some (.int (all.length : Int)), some (.int (b : Int)), s6, some (.int (i : Int)), some (.int (a : Int)), some (.str w), some (.int (u : Int)), some (.int ((i + 2 * u : Nat) : Int))] H := by
  unfold t_bad
  simp only [r_seq, r_next, r_brk, r_cont, r_asg, r_name, r_ret, r_retN, r_drop, r_ifs, r_never, r_var, r_c, r_op, r_un, r_if, r_tst, r_b, r_not, r_and, r_or, r_andV, r_orV, r_notV, r_nil, r_cons, r_tup, r_lst, r_cb, r_call, r_bm, r_bm0, r_sl, r_nopart, r_part, r_rev, r_gnil, r_gcons, r_gsub, r_par, r_aug, r_chain, r_I0, r_I, r_U, r_ixd, r_lend, r_tupd, r_listd, r_sld, r_app, r_ext, r_reverse, r_setl, r_cat, r_int1, r_eqS, r_neS, scal_ii, scal_bb, scal_ss, at0, at1, at2, sq_lst, sq_tup, isLst_lst, List.getElem?_cons_zero, List.getElem?_cons_succ, List.set_cons_zero, List.set_cons_succ, V.int.injEq, V.bl.injEq, V.ref.injEq, V.str.injEq, HO.lst.injEq, HO.tup.injEq, Option.some.injEq, exists_eq_left', exists_eq_left, List.cons.injEq, and_true, true_and, decide_eq_true_eq, reduceCtorEq, false_and, exists_false, or_false, false_or, exists_const, and_assoc, exists_and_left, List.append_nil, ix0, ix1, ix2, cm_mod, cdw1009, cdw2003, cdw7, cdw64, cdw2, cm104729, cm2, cm3, upd_same, List.length_cons, List.length_nil, Int.reduceLT, Int.reduceLE, Nat.reduceAdd, Nat.reduceLeDiff, Nat.reduceLT, Int.reduceToNat, r_for1, r_forL, r_forT, r_lcL, r_lc1, r_yes, r_gtupD, wipe_0, wipe_1, List.cons_append, List.nil_append, r_forS, r_ipI, ite_false, ite_true, Bool.not_true, Bool.not_false, decide_true, decide_false, r_isd, r_islt, cD_ty, cD_ref, tD_non, tD_bl, tD_int, tD_str, tD_ref, tH_lst, tH_tup, tH_dK, tH_ins, ki_self, ki_int_bool, ki_non_int, ki_str_int, ki_lt_lst, ki_lt_tup, r_fld, r_sfld, HO.ins.injEq, cx_K, ht]
  by_cases c1 : all.length < i + 2 * u
  · rw [if_pos (by omega)]
    exact bad (.inl c1) H (Same.refl H)
  · rw [if_neg (by omega)]
    by_cases c2 : 1 < u
    · rw [if_pos (by omega)]
      have ec : cutV (vn all) (some ((i : Int) + 2)) (some ((i + 2 * u : Nat) : Int)) = vn ((all.drop (i + 2)).take (2 * u - 2)) := by
        rw [show (i : Int) + 2 = ((i + 2 : Nat) : Int) from by omega]
        unfold cutV
        rw [sIx_nat, sIx_nat, vn_len, Nat.min_eq_left (by omega), Nat.min_eq_left (by omega), show i + 2 * u - (i + 2) = 2 * u - 2 from by omega]
        simp [vn]
      refine ⟨t, vn all, rfl, SqT.of ht, fun q => ?_, fun p hp => ?_⟩
      · have := q.1
        rw [show (i : Int) + 2 = ((i + 2 : Nat) : Int) from by omega, sIx_nat, vn_len] at this
        omega
      · rw [ec]
        refine ⟨p, ((all.drop (i + 2)).take (2 * u - 2)).map (fun d : Nat => (d : Int)), rfl, SqT.of (by rw [upd_same]; simp [vn]; rfl), _, rfl, ?_⟩
        rw [any_nz]
        cases e : nz ((all.drop (i + 2)).take (2 * u - 2)) with
        | true =>
          rw [if_pos rfl]
          exact bad (.inr ⟨c2, e⟩) _ (Same.new' (Same.refl H) hp)
        | false =>
          rw [if_neg (by decide)]
          refine ok (fun q => ?_) _ (Same.new' (Same.refl H) hp)
          rcases q with q | ⟨_, q⟩
          · exact c1 q
          · rw [e] at q
            cases q
    · rw [if_neg (by omega)]
      refine ok (fun q => ?_) H (Same.refl H)
      rcases q with q | ⟨q, _⟩
      · exact c1 q
      · exact c2 q
theorem put_run {B W A : Addr} {ls : List (Nat × Str × Nat)} (ht : H t = some (.tup (vn all))) (hi : i + 1 < all.length) (hb : ∀ x ∈ all, x < 256) (ha : 256 ∣ a) (c : Cuts H B W A ls) (hl : ls.length ≤ 5000) (ds : B ≠ W ∧ B ≠ A ∧ W ≠ A)
    (k : ∀ H', (∀ y o, y ≠ B → y ≠ W → y ≠ A → H y = some o → H' y = some o) → Cuts H' B W A (ls ++ [(b, w, a + all.getD (i + 1) 0)]) → D.nx [some (.ref t), some (.ref B), some (.ref W), some (.ref A), some (.int (all.length : Int)), some (.int ((i + 2 * u : Nat) : Int)), s6, some (.int (i : Int)), some (.int (a : Int)), some (.str w), some (.int (u : Int)), some (.int ((i + 2 * u : Nat) : Int))] H') :
    t_put K D [some (.ref t), some (.ref B), some (.ref W), some (.ref A), some (.int (all.length : Int)), some (.int (b : Int)), s6, some (.int (i : Int)), some (.int (a : Int)), some (.str w), some (.int (u : Int)), some (.int ((i + 2 * u : Nat) : Int))] H := by
  unfold t_put
  obtain ⟨c1, c2, c3⟩ := c
  obtain ⟨BW, BA, WA⟩ := ds
  have nt : ∀ {y : Addr} {xs : List V}, H y = some (.lst xs) → t ≠ y := fun h z => by rw [z, h] at ht; cases ht
  have lsz : ∀ {α : Type} (f : Nat × Str × Nat → α), (ls.map f).length < sizeLine := fun f => Nat.lt_of_le_of_lt (by rw [List.length_map]; omega : _ ≤ 5000) (by decide)
  simp only [r_seq, r_next, r_brk, r_cont, r_asg, r_name, r_ret, r_retN, r_drop, r_ifs, r_never, r_var, r_c, r_op, r_un, r_if, r_tst, r_b, r_not, r_and, r_or, r_andV, r_orV, r_notV, r_nil, r_cons, r_tup, r_lst, r_cb, r_call, r_bm, r_bm0, r_sl, r_nopart, r_part, r_rev, r_gnil, r_gcons, r_gsub, r_par, r_aug, r_chain, r_I0, r_I, r_U, r_ixd, r_lend, r_tupd, r_listd, r_sld, r_app, r_ext, r_reverse, r_setl, r_cat, r_int1, r_eqS, r_neS, scal_ii, scal_bb, scal_ss, at0, at1, at2, sq_lst, sq_tup, isLst_lst, List.getElem?_cons_zero, List.getElem?_cons_succ, List.set_cons_zero, List.set_cons_succ, V.int.injEq, V.bl.injEq, V.ref.injEq, V.str.injEq, HO.lst.injEq, HO.tup.injEq, Option.some.injEq, exists_eq_left', exists_eq_left, List.cons.injEq, and_true, true_and, decide_eq_true_eq, reduceCtorEq, false_and, exists_false, or_false, false_or, exists_const, and_assoc, exists_and_left, List.append_nil, ix0, ix1, ix2, cm_mod, cdw1009, cdw2003, cdw7, cdw64, cdw2, cm104729, cm2, cm3, upd_same, List.length_cons, List.length_nil, Int.reduceLT, Int.reduceLE, Nat.reduceAdd, Nat.reduceLeDiff, Nat.reduceLT, Int.reduceToNat, r_for1, r_forL, r_forT, r_lcL, r_lc1, r_yes, r_gtupD, wipe_0, wipe_1, List.cons_append, List.nil_append, r_forS, r_ipI, ite_false, ite_true, Bool.not_true, Bool.not_false, decide_true, decide_false, r_isd, r_islt, cD_ty, cD_ref, tD_non, tD_bl, tD_int, tD_str, tD_ref, tH_lst, tH_tup, tH_dK, tH_ins, ki_self, ki_int_bool, ki_non_int, ki_str_int, ki_lt_lst, ki_lt_tup, r_fld, r_sfld, HO.ins.injEq, cx_K, c1]
  have w1 : L2.upd H B (.lst (vn (ls.map (·.1)) ++ [V.int (b : Int)])) W = some (.lst (ls.map fun x => V.str x.2.1)) := by rw [upd_ne BW.symm]; exact c2
  have a2 : L2.upd (L2.upd H B (.lst (vn (ls.map (·.1)) ++ [V.int (b : Int)]))) W (.lst ((ls.map fun x => V.str x.2.1) ++ [V.str w])) A = some (.lst (vn (ls.map (·.2.2)))) := by rw [upd_ne WA.symm, upd_ne BA.symm]; exact c3
  have t2 : sq (L2.upd (L2.upd H B (.lst (vn (ls.map (·.1)) ++ [V.int (b : Int)]))) W (.lst ((ls.map fun x => V.str x.2.1) ++ [V.str w])) t) = some (vn all) := by rw [upd_ne (nt c2), upd_ne (nt c1), ht]; rfl
  have e3 : Builtin.bitOr (a : Int) ((all.getD (i + 1) 0 : Nat) : Int) = ((a + all.getD (i + 1) 0 : Nat) : Int) := by
    have := b256 hb (i + 1)
    obtain ⟨y, rfl⟩ := ha
    rw [show ((256 * y : Nat) : Int) = (y : Int) * 2 ^ 8 from by omega, Bits.bitOr_join' (by omega) (by omega) (by omega)]
    omega
  refine ⟨tyl c1, by rw [vn_len]; exact lsz _, tyl w1, _, w1, lsz _, tyl a2, _, t2, _, vn_at hi, _, rfl, _, a2, by rw [vn_len]; exact lsz _, ?_⟩
  rw [e3]
  refine k _ (fun y o n1 n2 n3 e => by rw [upd_ne n3, upd_ne n2, upd_ne n1]; exact e) ⟨?_, ?_, ?_⟩
  · rw [upd_ne BA, upd_ne BW, upd_same]
    simp [vn]
  · rw [upd_ne WA, upd_same]
    simp
  · rw [upd_same]
    simp [vn]
end
section
variable {P : Program} {w : World} {K : PySem.W.Frag} {mg : Str → Option Value} {base : Heap} {f : Addr} {fd : FuncData}
abbrev scut : Stmt := top 35
theorem sccut : FnScope ["data", "begins", "words", "arguments", "size", "begin", "wrong", "at", "argument", "word", "units", "end"] ["data"] (defScope scut) := ⟨rfl, rfl, rfl, by decide +kernel, rfl, by decide +kernel, by decide +kernel⟩

theorem ok_cut {D : Addr} {L : List (Int × Value)} {wd : WD} (T : Txt mg) (T2 : Txt2 mg) (WT : WordsT K mg D L wd) (F : FnP K "cut" "cut" scut f fd) (C_behind_extension : Cal P w K mg base 1 "behind_extension" ["data", "at"] spExt) : FnOk P w K mg base CX0 2 f fd ["data"] (spCut wd) := by
  refine F.ok sccut (fun vs H Q E h => ?_) (fun cdv A outer s H vs Q E hr h => ?_)
  · obtain ⟨t, all, rfl, _⟩ := h
    rfl
  · obtain ⟨t, all, rfl, ht, hl, hb, k⟩ := h
    refine ⟨_, PSs.nox (pss_cons (ps_par3 (i := 1) (j := 2) (l := 3) (by rfl) sccut.nd rfl rfl rfl (by decide) (by decide) (by decide) rfl rfl rfl (pa_cons (pe_lst pa_nil) (pa_cons (pe_lst pa_nil) (pa_cons (pe_lst pa_nil) pa_nil))) (by rfl))
  (pss_cons (ps_set (i := 4) sccut.nd rfl (Or.inl rfl) (pe_callB call_len_d (by rfl) T.b_len (by decide +kernel) (pa_cons (pv 0) pa_nil)))
  (pss_cons (ps_set (i := 5) sccut.nd rfl (Or.inl rfl) pe_int)
  (pss_cons (ps_set (i := 6) sccut.nd rfl (Or.inl rfl) (pe_ifExp (pt_truth (pv 0) (by intro _; rfl)) pe_non pe_int))
  (pss_cons (ps_while PassesOwn.never (pt_cmpR op_lt (pv 5) (pv 4) (nomark _))
    (pss_cons (ps_set (i := 7) sccut.nd rfl (Or.inl rfl) (pv 5))
  (pss_cons (ps_set (i := 8) sccut.nd rfl (Or.inl rfl) pe_int)
  (pss_cons (ps_if (pt_cmpR (op_niI WT.d) (pe_ix ix_d (pv 0) (pv 7) (fun _ _ => rfl)) (pe_glob rfl WT.g (show RelV (V.ref D) (Value.ref D) from rfl) (by decide)) (by rfl))
    (pss_cons (ps_asg (pe_cal C_behind_extension (hr.mono (by decide)) rfl (pa_cons (pv 0) (pa_cons (pv 7) pa_nil))) (pg_tupD (n := 2) rfl (pgs_cons (pg_name (i := 7) sccut.nd rfl (Or.inl rfl)) (pgs_cons (pg_name (i := 8) sccut.nd rfl (Or.inl rfl)) pgs_nil))))
  (pss_one (ps_if (PW.pt (pw_or (pt_not (pt_chain op_lt op_le pe_int (pe_op op_sub (pv 7) (pv 5)) (pe_op op_mul pe_int (pe_gi T2.g_MOST_EXTENDED)))) (pw_or (pt_cmpR op_eq (pe_ix ix_d (pv 0) (pe_op op_add (pv 5) pe_int) (fun _ _ => rfl)) pe_int (nomark _)) (pw_or (pt_cmpR op_ge (pv 7) (pv 4) (nomark _)) (pw_or1 (pt_cmpR (op_niI WT.d) (pe_ix ix_d (pv 0) (pv 7) (fun _ _ => rfl)) (pe_glob rfl WT.g (show RelV (V.ref D) (Value.ref D) from rfl) (by decide)) (by rfl)))))))
    (pss_cons (ps_set (i := 6) sccut.nd rfl (Or.inl rfl) (pv 5))
  (pss_one ps_break))
    pss_nil)))
    pss_nil)
  (pss_cons (ps_asg (pe_ix (ix_I WT.d) (pe_glob rfl WT.g (show RelV (V.ref D) (Value.ref D) from rfl) (by decide)) (pe_ix ix_d (pv 0) (pv 7) (fun _ _ => rfl)) (fun _ _ => rfl)) (pg_tup (n := 2) rfl (pgs_cons (pg_name (i := 9) sccut.nd rfl (Or.inl rfl)) (pgs_cons (pg_name (i := 10) sccut.nd rfl (Or.inl rfl)) pgs_nil))))
  (pss_cons (ps_set (i := 11) sccut.nd rfl (Or.inl rfl) (pe_op op_add (pv 7) (pe_op op_mul pe_int (pv 10))))
  (pss_cons (ps_if (PW.pt (pw_or (pt_cmpR op_gt (pv 11) (pv 4) (nomark _)) (pw_or1 (PW.pt (pw_and (pt_cmpR op_gt (pv 10) pe_int (nomark _)) (pw_and1 (pt_val (pe_callB (cr_anyT rfl) (by rfl) T.b_any (by decide +kernel) (pa_cons (pe_slice sl_tup (pv 0) (po_some (pe_op op_add (pv 7) pe_int)) (po_some (pv 11))) pa_nil)))))))))
    (pss_cons (ps_set (i := 6) sccut.nd rfl (Or.inl rfl) (pv 5))
  (pss_one ps_break))
    pss_nil)
  (pss_cons (ps_expr (pe_bm PySem.F.plainAttrs_list PySem.F.slot_list_append PySem.F.type_list_append mt_append (pv 1) (pa_cons (pv 5) pa_nil)))
  (pss_cons (ps_expr (pe_bm PySem.F.plainAttrs_list PySem.F.slot_list_append PySem.F.type_list_append mt_append (pv 2) (pa_cons (pv 9) pa_nil)))
  (pss_cons (ps_expr (pe_bm PySem.F.plainAttrs_list PySem.F.slot_list_append PySem.F.type_list_append mt_append (pv 3) (pa_cons (pe_op op_or (pv 8) (pe_ix ix_d (pv 0) (pe_op op_add (pv 7) pe_int) (fun _ _ => rfl))) pa_nil)))
  (pss_one (ps_set (i := 5) sccut.nd rfl (Or.inl rfl) (pv 11)))))))))))))
  (pss_one (ps_ret (pe_tup (pa_cons (pv 1) (pa_cons (pv 2) (pa_cons (pv 3) (pa_cons (pv 6) pa_nil)))))))))))), ?_⟩
    show (_ : TS) _ [some (.ref t), none, none, none, none, none, none, none, none, none, none, none] H
    simp only [r_seq, r_next, r_brk, r_cont, r_asg, r_name, r_ret, r_retN, r_drop, r_ifs, r_never, r_var, r_c, r_op, r_un, r_if, r_tst, r_b, r_not, r_and, r_or, r_andV, r_orV, r_notV, r_nil, r_cons, r_tup, r_lst, r_cb, r_call, r_bm, r_bm0, r_sl, r_nopart, r_part, r_rev, r_gnil, r_gcons, r_gsub, r_par, r_aug, r_chain, r_I0, r_I, r_U, r_ixd, r_lend, r_tupd, r_listd, r_sld, r_app, r_ext, r_reverse, r_setl, r_cat, r_int1, r_eqS, r_neS, scal_ii, scal_bb, scal_ss, at0, at1, at2, sq_lst, sq_tup, isLst_lst, List.getElem?_cons_zero, List.getElem?_cons_succ, List.set_cons_zero, List.set_cons_succ, V.int.injEq, V.bl.injEq, V.ref.injEq, V.str.injEq, HO.lst.injEq, HO.tup.injEq, Option.some.injEq, exists_eq_left', exists_eq_left, List.cons.injEq, and_true, true_and, decide_eq_true_eq, reduceCtorEq, false_and, exists_false, or_false, false_or, exists_const, and_assoc, exists_and_left, List.append_nil, ix0, ix1, ix2, cm_mod, cdw1009, cdw2003, cdw7, cdw64, cdw2, cm104729, cm2, cm3, upd_same, List.length_cons, List.length_nil, Int.reduceLT, Int.reduceLE, Nat.reduceAdd, Nat.reduceLeDiff, Nat.reduceLT, Int.reduceToNat, r_for1, r_forL, r_forT, r_lcL, r_lc1, r_yes, r_gtupD, wipe_0, wipe_1, List.cons_append, List.nil_append, r_forS, r_ipI, ite_false, ite_true, Bool.not_true, Bool.not_false, decide_true, decide_false, r_isd, r_islt, cD_ty, cD_ref, tD_non, tD_bl, tD_int, tD_str, tD_ref, tH_lst, tH_tup, tH_dK, tH_ins, ki_self, ki_int_bool, ki_non_int, ki_str_int, ki_lt_lst, ki_lt_tup, r_fld, r_sfld, HO.ins.injEq, cx_K, r_par3]
    refine ⟨szl (by decide), fun B hB => ⟨szl (by decide), fun W hW => ⟨szl (by decide), fun A hA => ?_⟩⟩⟩
    have BW : B ≠ W := new_ne upd_same hW |>.symm
    have BA : B ≠ A := fun z => by rw [← z, upd_ne BW, upd_same] at hA; cases hA
    have WA : W ≠ A := fun z => by rw [← z, upd_same] at hA; cases hA
    have hB0 : H B = none := hB
    have hW0 : H W = none := by rw [upd_ne BW.symm] at hW; exact hW
    have hA0 : H A = none := by rw [upd_ne WA.symm, upd_ne BA.symm] at hA; exact hA
    have s0 : Same H (L2.upd (L2.upd (L2.upd H B (.lst [])) W (.lst [])) A (.lst [])) := Same.new' (Same.new' (Same.new' (Same.refl H) hB) hW) hA
    have cu : Cuts (L2.upd (L2.upd (L2.upd H B (.lst [])) W (.lst [])) A (.lst [])) B W A [] := ⟨by rw [upd_ne BA, upd_ne BW, upd_same]; rfl, by rw [upd_ne WA, upd_same]; rfl, by rw [upd_same]; rfl⟩
    generalize L2.upd (L2.upd (L2.upd H B (.lst [])) W (.lst [])) A (.lst []) = G at *
    have tG := s0 _ _ ht
    refine ⟨vn all, by rw [tG]; rfl, _, .inr (.inl ⟨_, SqT.of tG, rfl⟩), ?_⟩
    have goal : tWhile (tTest (tOp (rI0 fun i j => V.bl (decide (i < j))) (tVar 5) (tVar 4))) (t_step K D L) { nx := tRet (tTup (tCons (tVar 1) (tCons (tVar 2) (tCons (tVar 3) (tCons (tVar 6) tNil))))) { nx := fun x H' => Q V.non H', rt := Q }, rt := Q }
        [some (.ref t), some (.ref B), some (.ref W), some (.ref A), some (.int ((vn all).length : Int)), some (.int 0), some (wrV (if all = [] then some 0 else none)), none, none, none, none, none] G := by
      rw [vn_len]
      refine while_d (lvCut wd H t B W A all) (fun σ _ => msCut (all.length + 1) σ) ⟨0, all.length, [], _, _, _, _, _, rfl, s0, cu, by omega, Nat.le_refl _, rfl⟩ ?_
      rintro σ H1 ⟨b, n, ls, v7, v8, v9, v10, v11, rfl, k1, c1, hn, hls, inv⟩
      have fin : ∀ (wr : Option Nat) (r7 r8 r9 r10 r11 : Option V) H2, Same H H2 → Cuts H2 B W A (cutF wd all all.length 0).1 → wr = wrongF wd all → (tRet (tTup (tCons (tVar 1) (tCons (tVar 2) (tCons (tVar 3) (tCons (tVar 6) tNil))))) : TS) { nx := fun x H' => Q V.non H', rt := Q } [some (.ref t), some (.ref B), some (.ref W), some (.ref A), some (.int (all.length : Int)), some (.int (b : Int)), some (wrV wr), r7, r8, r9, r10, r11] H2 := by
        intro wr r7 r8 r9 r10 r11 H2 k2 c2 ew
        simp only [r_seq, r_next, r_brk, r_cont, r_asg, r_name, r_ret, r_retN, r_drop, r_ifs, r_never, r_var, r_c, r_op, r_un, r_if, r_tst, r_b, r_not, r_and, r_or, r_andV, r_orV, r_notV, r_nil, r_cons, r_tup, r_lst, r_cb, r_call, r_bm, r_bm0, r_sl, r_nopart, r_part, r_rev, r_gnil, r_gcons, r_gsub, r_par, r_aug, r_chain, r_I0, r_I, r_U, r_ixd, r_lend, r_tupd, r_listd, r_sld, r_app, r_ext, r_reverse, r_setl, r_cat, r_int1, r_eqS, r_neS, scal_ii, scal_bb, scal_ss, at0, at1, at2, sq_lst, sq_tup, isLst_lst, List.getElem?_cons_zero, List.getElem?_cons_succ, List.set_cons_zero, List.set_cons_succ, V.int.injEq, V.bl.injEq, V.ref.injEq, V.str.injEq, HO.lst.injEq, HO.tup.injEq, Option.some.injEq, exists_eq_left', exists_eq_left, List.cons.injEq, and_true, true_and, decide_eq_true_eq, reduceCtorEq, false_and, exists_false, or_false, false_or, exists_const, and_assoc, exists_and_left, List.append_nil, ix0, ix1, ix2, cm_mod, cdw1009, cdw2003, cdw7, cdw64, cdw2, cm104729, cm2, cm3, upd_same, List.length_cons, List.length_nil, Int.reduceLT, Int.reduceLE, Nat.reduceAdd, Nat.reduceLeDiff, Nat.reduceLT, Int.reduceToNat, r_for1, r_forL, r_forT, r_lcL, r_lc1, r_yes, r_gtupD, wipe_0, wipe_1, List.cons_append, List.nil_append, r_forS, r_ipI, ite_false, ite_true, Bool.not_true, Bool.not_false, decide_true, decide_false, r_isd, r_islt, cD_ty, cD_ref, tD_non, tD_bl, tD_int, tD_str, tD_ref, tH_lst, tH_tup, tH_dK, tH_ins, ki_self, ki_int_bool, ki_non_int, ki_str_int, ki_lt_lst, ki_lt_tup, r_fld, r_sfld, HO.ins.injEq, cx_K]
        refine ⟨szl (by decide : 4 ≤ 1000), fun p hp => k p B W A _ (k2.free hp) (Same.new' k2 hp) (by rw [upd_same, ew]) ⟨?_, ?_, ?_⟩⟩
        · rw [upd_ne (ne_new c2.b hp)]; exact c2.b
        · rw [upd_ne (ne_new c2.w hp)]; exact c2.w
        · rw [upd_ne (ne_new c2.a hp)]; exact c2.a
      by_cases c : b < all.length
      · refine ⟨true, fun QT q => ?_, fun _ => ?_, fun cc => (by cases cc)⟩
        · simp only [r_seq, r_next, r_brk, r_cont, r_asg, r_name, r_ret, r_retN, r_drop, r_ifs, r_never, r_var, r_c, r_op, r_un, r_if, r_tst, r_b, r_not, r_and, r_or, r_andV, r_orV, r_notV, r_nil, r_cons, r_tup, r_lst, r_cb, r_call, r_bm, r_bm0, r_sl, r_nopart, r_part, r_rev, r_gnil, r_gcons, r_gsub, r_par, r_aug, r_chain, r_I0, r_I, r_U, r_ixd, r_lend, r_tupd, r_listd, r_sld, r_app, r_ext, r_reverse, r_setl, r_cat, r_int1, r_eqS, r_neS, scal_ii, scal_bb, scal_ss, at0, at1, at2, sq_lst, sq_tup, isLst_lst, List.getElem?_cons_zero, List.getElem?_cons_succ, List.set_cons_zero, List.set_cons_succ, V.int.injEq, V.bl.injEq, V.ref.injEq, V.str.injEq, HO.lst.injEq, HO.tup.injEq, Option.some.injEq, exists_eq_left', exists_eq_left, List.cons.injEq, and_true, true_and, decide_eq_true_eq, reduceCtorEq, false_and, exists_false, or_false, false_or, exists_const, and_assoc, exists_and_left, List.append_nil, ix0, ix1, ix2, cm_mod, cdw1009, cdw2003, cdw7, cdw64, cdw2, cm104729, cm2, cm3, upd_same, List.length_cons, List.length_nil, Int.reduceLT, Int.reduceLE, Nat.reduceAdd, Nat.reduceLeDiff, Nat.reduceLT, Int.reduceToNat, r_for1, r_forL, r_forT, r_lcL, r_lc1, r_yes, r_gtupD, wipe_0, wipe_1, List.cons_append, List.nil_append, r_forS, r_ipI, ite_false, ite_true, Bool.not_true, Bool.not_false, decide_true, decide_false, r_isd, r_islt, cD_ty, cD_ref, tD_non, tD_bl, tD_int, tD_str, tD_ref, tH_lst, tH_tup, tH_dK, tH_ins, ki_self, ki_int_bool, ki_non_int, ki_str_int, ki_lt_lst, ki_lt_tup, r_fld, r_sfld, HO.ins.injEq, cx_K]
          rw [decide_eq_true (by omega)]
          exact q
        · obtain ⟨n', rfl⟩ : ∃ n', n = n' + 1 := ⟨n - 1, by omega⟩
          have ane : all ≠ [] := fun z => by rw [z] at c; cases c
          have wrong : ∀ s7 s8 s9 s10 s11 H2, Same H1 H2 → nextF wd all b = none → (tRet (tTup (tCons (tVar 1) (tCons (tVar 2) (tCons (tVar 3) (tCons (tVar 6) tNil))))) : TS) { nx := fun x H' => Q V.non H', rt := Q } [some (.ref t), some (.ref B), some (.ref W), some (.ref A), some (.int (all.length : Int)), some (.int (b : Int)), some (.int (b : Int)), s7, s8, s9, s10, s11] H2 := by
            intro s7 s8 s9 s10 s11 H2 k2 nx
            rw [cutF, if_pos c, nx] at inv
            have i1 : ls = (cutF wd all all.length 0).1 := by rw [← inv]; simp
            have i2 : some b = (cutF wd all all.length 0).2 := by rw [← inv]
            refine fin (some b) s7 s8 s9 s10 s11 H2 (fun y o e => k2 y o (k1 y o e)) (by rw [← i1]; exact ⟨k2 _ _ c1.b, k2 _ _ c1.w, k2 _ _ c1.a⟩) ?_
            unfold wrongF
            rw [if_neg ane]
            exact i2
          unfold t_step
          simp only [r_seq, r_next, r_brk, r_cont, r_asg, r_name, r_ret, r_retN, r_drop, r_ifs, r_never, r_var, r_c, r_op, r_un, r_if, r_tst, r_b, r_not, r_and, r_or, r_andV, r_orV, r_notV, r_nil, r_cons, r_tup, r_lst, r_cb, r_call, r_bm, r_bm0, r_sl, r_nopart, r_part, r_rev, r_gnil, r_gcons, r_gsub, r_par, r_aug, r_chain, r_I0, r_I, r_U, r_ixd, r_lend, r_tupd, r_listd, r_sld, r_app, r_ext, r_reverse, r_setl, r_cat, r_int1, r_eqS, r_neS, scal_ii, scal_bb, scal_ss, at0, at1, at2, sq_lst, sq_tup, isLst_lst, List.getElem?_cons_zero, List.getElem?_cons_succ, List.set_cons_zero, List.set_cons_succ, V.int.injEq, V.bl.injEq, V.ref.injEq, V.str.injEq, HO.lst.injEq, HO.tup.injEq, Option.some.injEq, exists_eq_left', exists_eq_left, List.cons.injEq, and_true, true_and, decide_eq_true_eq, reduceCtorEq, false_and, exists_false, or_false, false_or, exists_const, and_assoc, exists_and_left, List.append_nil, ix0, ix1, ix2, cm_mod, cdw1009, cdw2003, cdw7, cdw64, cdw2, cm104729, cm2, cm3, upd_same, List.length_cons, List.length_nil, Int.reduceLT, Int.reduceLE, Nat.reduceAdd, Nat.reduceLeDiff, Nat.reduceLT, Int.reduceToNat, r_for1, r_forL, r_forT, r_lcL, r_lc1, r_yes, r_gtupD, wipe_0, wipe_1, List.cons_append, List.nil_append, r_forS, r_ipI, ite_false, ite_true, Bool.not_true, Bool.not_false, decide_true, decide_false, r_isd, r_islt, cD_ty, cD_ref, tD_non, tD_bl, tD_int, tD_str, tD_ref, tH_lst, tH_tup, tH_dK, tH_ins, ki_self, ki_int_bool, ki_non_int, ki_str_int, ki_lt_lst, ki_lt_tup, r_fld, r_sfld, HO.ins.injEq, cx_K]
          refine look_run WT (k1 _ _ ht) hl hb c (fun s7 s8 H2 k2 nx => wrong _ _ _ _ _ H2 k2 nx) (fun i a H2 k2 hi fi hw ng => ?_)
          obtain ⟨⟨w', u⟩, ew⟩ := Option.isSome_iff_exists.mp hw
          obtain ⟨u1, u2, _⟩ := WT.yes _ _ _ ew
          have nx : nextF wd all b = (if all.length < i + 2 * u ∨ (1 < u ∧ nz ((all.drop (i + 2)).take (2 * u - 2)) = true) then none else some (w', a + all.getD (i + 1) 0, i + 2 * u)) := by
            rw [nextF_eq, fi]
            dsimp only
            rw [if_neg ng, ew]
          have fge := firstF_ge (wd := wd) (all := all) (b := b)
          rw [fi] at fge
          obtain ⟨ge, dv⟩ := fge
          dsimp only at ge dv
          refine row_run WT (k2 _ _ (k1 _ _ ht)) hi ew (cend_run (bad_run (k2 _ _ (k1 _ _ ht)) hi u1 (fun q H3 k3 => ?_) (fun q H3 k3 => ?_)))
          · exact wrong _ _ _ _ _ H3 (fun y o e => k3 y o (k2 y o e)) (by rw [nx, if_pos q])
          · rw [if_neg q] at nx
            have q1 : ¬ all.length < i + 2 * u := fun z => q (.inl z)
            refine put_run (k3 _ _ (k2 _ _ (k1 _ _ ht))) (by omega) hb dv ⟨k3 _ _ (k2 _ _ c1.b), k3 _ _ (k2 _ _ c1.w), k3 _ _ (k2 _ _ c1.a)⟩ (by omega) ⟨BW, BA, WA⟩ fun H4 k4 c4 => ⟨⟨i + 2 * u, n', _, _, _, _, _, _, rfl, fun y o e => ?_, c4, by omega, ?_, ?_⟩, ?_⟩
            · exact k4 y o (ne_new e hB0) (ne_new e hW0) (ne_new e hA0) (k3 _ _ (k2 _ _ (k1 _ _ e)))
            · rw [List.length_append, List.length_singleton]
              omega
            · rw [← inv, cutF, if_pos c, nx]
              simp
            · show all.length + 1 - ((i + 2 * u : Nat) : Int).toNat < all.length + 1 - (b : Int).toNat
              omega
      · refine ⟨false, fun QT q => ?_, fun cc => (by cases cc), fun _ => ?_⟩
        · simp only [r_seq, r_next, r_brk, r_cont, r_asg, r_name, r_ret, r_retN, r_drop, r_ifs, r_never, r_var, r_c, r_op, r_un, r_if, r_tst, r_b, r_not, r_and, r_or, r_andV, r_orV, r_notV, r_nil, r_cons, r_tup, r_lst, r_cb, r_call, r_bm, r_bm0, r_sl, r_nopart, r_part, r_rev, r_gnil, r_gcons, r_gsub, r_par, r_aug, r_chain, r_I0, r_I, r_U, r_ixd, r_lend, r_tupd, r_listd, r_sld, r_app, r_ext, r_reverse, r_setl, r_cat, r_int1, r_eqS, r_neS, scal_ii, scal_bb, scal_ss, at0, at1, at2, sq_lst, sq_tup, isLst_lst, List.getElem?_cons_zero, List.getElem?_cons_succ, List.set_cons_zero, List.set_cons_succ, V.int.injEq, V.bl.injEq, V.ref.injEq, V.str.injEq, HO.lst.injEq, HO.tup.injEq, Option.some.injEq, exists_eq_left', exists_eq_left, List.cons.injEq, and_true, true_and, decide_eq_true_eq, reduceCtorEq, false_and, exists_false, or_false, false_or, exists_const, and_assoc, exists_and_left, List.append_nil, ix0, ix1, ix2, cm_mod, cdw1009, cdw2003, cdw7, cdw64, cdw2, cm104729, cm2, cm3, upd_same, List.length_cons, List.length_nil, Int.reduceLT, Int.reduceLE, Nat.reduceAdd, Nat.reduceLeDiff, Nat.reduceLT, Int.reduceToNat, r_for1, r_forL, r_forT, r_lcL, r_lc1, r_yes, r_gtupD, wipe_0, wipe_1, List.cons_append, List.nil_append, r_forS, r_ipI, ite_false, ite_true, Bool.not_true, Bool.not_false, decide_true, decide_false, r_isd, r_islt, cD_ty, cD_ref, tD_non, tD_bl, tD_int, tD_str, tD_ref, tH_lst, tH_tup, tH_dK, tH_ins, ki_self, ki_int_bool, ki_non_int, ki_str_int, ki_lt_lst, ki_lt_tup, r_fld, r_sfld, HO.ins.injEq, cx_K]
          rw [decide_eq_false (by omega)]
          exact q
        · have e0 : cutF wd all n b = ([], none) := by
            cases n with
            | zero => rfl
            | succ n => rw [cutF, if_neg c]
          rw [e0] at inv
          have i1 : ls = (cutF wd all all.length 0).1 := by rw [← inv]; simp
          have i2 : none = (cutF wd all all.length 0).2 := by rw [← inv]
          refine fin _ v7 v8 v9 v10 v11 H1 k1 (by rw [← i1]; exact c1) ?_
          unfold wrongF
          rw [← i2]
    split
    · rename_i q
      have ne : all ≠ [] := fun z => by rw [z] at q; cases q
      rw [if_neg ne] at goal
      exact goal
    · rename_i q
      have ne : all = [] := by
        cases all with
        | nil => rfl
        | cons x xs => exact absurd rfl q
      rw [if_pos ne] at goal
      exact goal
end
end C58

set_option maxHeartbeats 1000000
namespace C58
open PySem PySem.Spec PyProof.Rows L2
/-! ### a star in a list display; a list times a number -/
def tStarD (te : TE) (t : TA) : TA := fun σ H Q => te σ H fun x H1 => ∃ p xs, x = .ref p ∧ sq (H1 p) = some xs ∧ t σ H1 fun ys H2 => Q (xs ++ ys) H2
section
variable {X : Cx}
theorem PA.weak {es : List Expr} {t t' : TA} (h : PA X es t) (i : ∀ σ H Q, t' σ H Q → t σ H Q) : PA X es t' := ⟨fun pos pins s σ H Q I q => h.run pos pins s σ H Q I (i _ _ _ q)⟩
theorem pa_starD {e : Expr} {es : List Expr} {te : TE} {t : TA} {p : Pos} (he : PE X e te) (hr : PA X es t) (hs : starEach (.Starred e p :: es) X.env = (true, eval e X.env) :: starEach es X.env := by rfl) : PA X (.Starred e p :: es) (tStarD te t) :=
  PA.weak (StX.pa_star (PE.mcl he) hr hs) fun σ H Q q => ⟨_, q, fun v H' ⟨a, xs, e1, h, k⟩ => ⟨a, xs, e1, (by
    rcases sq_cases h with h | h
    · exact .inr (SqL.of h)
    · exact .inl (SqT.of h)), k⟩⟩
theorem r_starD {te : TE} {t : TA} {σ : L2.St} {H : Hp} {QA : List V → Hp → Prop} : tStarD te t σ H QA = te σ H (fun x H1 => ∃ p xs, x = .ref p ∧ sq (H1 p) = some xs ∧ t σ H1 fun ys H2 => QA (xs ++ ys) H2) := rfl
theorem r_rep {x y : V} {H : Hp} {Q : VK} : rRep x y H Q = ∃ l k xs, x = .ref l ∧ y = .int k ∧ H l = some (.lst xs) ∧ -(2 ^ 63) ≤ k ∧ k < 2 ^ 63 ∧ xs.length * k.toNat ≤ sizeLine ∧ ∀ p, H p = none → Q (.ref p) (upd H p (.lst (List.replicate k.toNat xs).flatten)) := rfl
end

theorem rep_non (k : Nat) : (List.replicate k [V.non]).flatten = List.replicate k V.non := by
  induction k with
  | zero => rfl
  | succ k ih =>
    rw [List.replicate_succ, List.flatten_cons, ih, List.replicate_succ]
    rfl
/-- what is known of the class Code -/
structure CodeT (K : PySem.W.Frag) (mg : Str → Option Value) (C : Addr) : Prop where
  cI : ClsI K C
  g_Code : mg "Code" = some (.ref C)
  no : ∀ t ∈ ["NoneType", "int", "bool", "str", "list", "tuple", "dict"], PySem.W.kitOne K (.type t) (.ref C) = some false
  na : ∀ f ∈ (["argcount", "onlycount", "stacksize", "flags", "code", "depth", "constants", "names", "slots", "kinds", "name", "path", "line", "lines", "handlers", "identity"] : List Str), NoAttr K C f
/-- a code with an empty table of lines -/
def spLU (CC : Addr) : Sp := fun vs H Q _ => ∃ (c dx : Addr) (fs : List (Str × V)) (t : Addr) (first : Int), vs = [.ref c] ∧ H c = some (.ins CC dx fs) ∧ fs.lookup ("lines" : Str) = some (.ref t) ∧ fs.lookup ("line" : Str) = some (.int first) ∧ H t = some (.tup []) ∧
  ∀ F H', H F = none → Same H H' → H' F = some (.lst []) → Q (.ref F) H'
def spLof (CC : Addr) : Sp := fun vs H Q _ => ∃ (c dx : Addr) (fs : List (Str × V)) (t u : Addr) (first : Int) (all : List Nat), vs = [.ref c] ∧ H c = some (.ins CC dx fs) ∧ fs.lookup ("lines" : Str) = some (.ref t) ∧ fs.lookup ("line" : Str) = some (.int first) ∧ H t = some (.tup []) ∧
  fs.lookup ("code" : Str) = some (.ref u) ∧ H u = some (.tup (vn all)) ∧ all.length ≤ 4000 ∧ ∀ F H', H F = none → Same H H' → H' F = some (.lst (List.replicate (all.length / 2) V.non)) → Q (.ref F) H'
section
variable {P : Program} {w : World} {K : PySem.W.Frag} {mg : Str → Option Value} {base : Heap} {f : Addr} {fd : FuncData}
abbrev slines_of_units : Stmt := top 58
theorem sclines_of_units : FnScope ["code", "table", "line", "found", "at", "first", "more"] ["code"] (defScope slines_of_units) := ⟨rfl, rfl, rfl, by decide +kernel, rfl, by decide +kernel, by decide +kernel⟩

abbrev slines_of : Stmt := top 62
theorem sclines_of : FnScope ["code", "found"] ["code"] (defScope slines_of) := ⟨rfl, rfl, rfl, by decide +kernel, rfl, by decide +kernel, by decide +kernel⟩

theorem ok_lines_of_units {CC : Addr} (T : Txt mg) (I : CodeT K mg CC) (F : FnP K "lines_of_units" "lines_of_units" slines_of_units f fd) : FnOk P w K mg base CX0 1 f fd ["code"] (spLU CC) := by
  refine F.ok sclines_of_units (fun vs H Q E h => ?_) (fun cdv A outer s H vs Q E hr h => ?_)
  · obtain ⟨c, dx, fs, t, first, rfl, _⟩ := h
    rfl
  · obtain ⟨c, dx, fs, t, first, rfl, hc, hl, hf, ht, k⟩ := h
    refine ⟨_, PSs.nox (pss_cons (ps_set (i := 1) sclines_of_units.nd rfl (Or.inl rfl) (pe_fld (pv 0) rfl))
  (pss_cons (ps_set (i := 2) sclines_of_units.nd rfl (Or.inl rfl) (pe_fld (pv 0) rfl))
  (pss_cons (ps_set (i := 3) sclines_of_units.nd rfl (Or.inl rfl) (pe_lst pa_nil))
  (pss_cons (ps_set (i := 4) sclines_of_units.nd rfl (Or.inl rfl) pe_int)
  (pss_cons (ps_while PassesOwn.never (pt_cmpR op_lt (pv 4) (pe_callB call_len_d (by rfl) T.b_len (by decide +kernel) (pa_cons (pv 1) pa_nil)) (nomark _))
    pss_never)
  (pss_one (ps_ret (pv 3)))))))), ?_⟩
    show (_ : TS) _ [some (.ref c), none, none, none, none, none, none] H
    have na := I.na "lines" (by decide)
    have nb := I.na "line" (by decide)
    have cl := I.cI.cl
    simp only [r_seq, r_next, r_brk, r_cont, r_asg, r_name, r_ret, r_retN, r_drop, r_ifs, r_never, r_var, r_c, r_op, r_un, r_if, r_tst, r_b, r_not, r_and, r_or, r_andV, r_orV, r_notV, r_nil, r_cons, r_tup, r_lst, r_cb, r_call, r_bm, r_bm0, r_sl, r_nopart, r_part, r_rev, r_gnil, r_gcons, r_gsub, r_par, r_aug, r_chain, r_I0, r_I, r_U, r_ixd, r_lend, r_tupd, r_listd, r_sld, r_app, r_ext, r_reverse, r_setl, r_cat, r_int1, r_eqS, r_neS, scal_ii, scal_bb, scal_ss, at0, at1, at2, sq_lst, sq_tup, isLst_lst, List.getElem?_cons_zero, List.getElem?_cons_succ, List.set_cons_zero, List.set_cons_succ, V.int.injEq, V.bl.injEq, V.ref.injEq, V.str.injEq, HO.lst.injEq, HO.tup.injEq, Option.some.injEq, exists_eq_left', exists_eq_left, List.cons.injEq, and_true, true_and, decide_eq_true_eq, reduceCtorEq, false_and, exists_false, or_false, false_or, exists_const, and_assoc, exists_and_left, List.append_nil, ix0, ix1, ix2, cm_mod, cdw1009, cdw2003, cdw7, cdw64, cdw2, cm104729, cm2, cm3, upd_same, List.length_cons, List.length_nil, Int.reduceLT, Int.reduceLE, Nat.reduceAdd, Nat.reduceLeDiff, Nat.reduceLT, Int.reduceToNat, r_for1, r_forL, r_forT, r_lcL, r_lc1, r_yes, r_gtupD, wipe_0, wipe_1, List.cons_append, List.nil_append, r_forS, r_ipI, ite_false, ite_true, Bool.not_true, Bool.not_false, decide_true, decide_false, r_isd, r_islt, cD_ty, cD_ref, tD_non, tD_bl, tD_int, tD_str, tD_ref, tH_lst, tH_tup, tH_dK, tH_ins, ki_self, ki_int_bool, ki_non_int, ki_str_int, ki_lt_lst, ki_lt_tup, r_fld, r_sfld, HO.ins.injEq, cx_K, hc, hl, hf, na, nb, cl]
    refine ⟨szl (by decide), fun F hF => ?_⟩
    have s1 : Same H _ := Same.new' (o := .lst []) (Same.refl H) hF
    refine while_d (fun σ H' => σ = [some (.ref c), some (.ref t), some (.int first), some (.ref F), some (.int 0), none, none] ∧ H' = L2.upd H F (.lst [])) (fun _ _ => 0) ⟨rfl, rfl⟩ ?_
    rintro σ H1 ⟨rfl, rfl⟩
    refine ⟨false, fun QT q => ?_, fun cc => (by cases cc), fun _ => ?_⟩
    · have t1 := s1 _ _ ht
      simp only [r_seq, r_next, r_brk, r_cont, r_asg, r_name, r_ret, r_retN, r_drop, r_ifs, r_never, r_var, r_c, r_op, r_un, r_if, r_tst, r_b, r_not, r_and, r_or, r_andV, r_orV, r_notV, r_nil, r_cons, r_tup, r_lst, r_cb, r_call, r_bm, r_bm0, r_sl, r_nopart, r_part, r_rev, r_gnil, r_gcons, r_gsub, r_par, r_aug, r_chain, r_I0, r_I, r_U, r_ixd, r_lend, r_tupd, r_listd, r_sld, r_app, r_ext, r_reverse, r_setl, r_cat, r_int1, r_eqS, r_neS, scal_ii, scal_bb, scal_ss, at0, at1, at2, sq_lst, sq_tup, isLst_lst, List.getElem?_cons_zero, List.getElem?_cons_succ, List.set_cons_zero, List.set_cons_succ, V.int.injEq, V.bl.injEq, V.ref.injEq, V.str.injEq, HO.lst.injEq, HO.tup.injEq, Option.some.injEq, exists_eq_left', exists_eq_left, List.cons.injEq, and_true, true_and, decide_eq_true_eq, reduceCtorEq, false_and, exists_false, or_false, false_or, exists_const, and_assoc, exists_and_left, List.append_nil, ix0, ix1, ix2, cm_mod, cdw1009, cdw2003, cdw7, cdw64, cdw2, cm104729, cm2, cm3, upd_same, List.length_cons, List.length_nil, Int.reduceLT, Int.reduceLE, Nat.reduceAdd, Nat.reduceLeDiff, Nat.reduceLT, Int.reduceToNat, r_for1, r_forL, r_forT, r_lcL, r_lc1, r_yes, r_gtupD, wipe_0, wipe_1, List.cons_append, List.nil_append, r_forS, r_ipI, ite_false, ite_true, Bool.not_true, Bool.not_false, decide_true, decide_false, r_isd, r_islt, cD_ty, cD_ref, tD_non, tD_bl, tD_int, tD_str, tD_ref, tH_lst, tH_tup, tH_dK, tH_ins, ki_self, ki_int_bool, ki_non_int, ki_str_int, ki_lt_lst, ki_lt_tup, r_fld, r_sfld, HO.ins.injEq, cx_K, t1]
      exact q
    · exact ⟨_, rfl, k F _ hF s1 upd_same⟩
theorem ok_lines_of {CC CT : Addr} (T : Txt mg) (I : CodeT K mg CC) (gT : mg "NoTable" = some (.ref CT)) (F : FnP K "lines_of" "lines_of" slines_of f fd) (C_lines_of_units : Cal P w K mg base 1 "lines_of_units" ["code"] (spLU CC)) : FnOk P w K mg base CX0 2 f fd ["code"] (spLof CC) := by
  refine F.ok sclines_of (fun vs H Q E h => ?_) (fun cdv A outer s H vs Q E hr h => ?_)
  · obtain ⟨c, dx, fs, t, u, first, all, rfl, _⟩ := h
    rfl
  · obtain ⟨c, dx, fs, t, u, first, all, rfl, hc, hl, hf, ht, hcd, hu, hz, k⟩ := h
    refine ⟨_, PSs.nox (pss_cons (ps_try_only (tb := fun _ => tAsg (tCall (spLU CC) [] E0 (tCons (tVar 0) tNil)) (gName 1)) (ts := fun _ _ _ => fun _ _ _ => False) rfl rfl ⟨rfl, by decide, .inl gT⟩ LamX.takes0 (fun W pn xe tk _ => pss_one (ps_asg (pe_cal C_lines_of_units (hr.mono (by decide)) rfl (pa_cons (pv 0) pa_nil)) (pg_name (i := 1) sclines_of.nd rfl (Or.inl rfl)))) (fun a oe cls d pn _ _ => pss_never))
  (pss_one (ps_ret (pe_op op_cat (pv 1) (pe_op op_rep (pe_lst (pa_cons pe_non pa_nil)) (pe_op op_sub (pe_op op_fdivW (pe_callB call_len_d (by rfl) T.b_len (by decide +kernel) (pa_cons (pe_fld (pv 0) rfl) pa_nil)) pe_int) (pe_callB call_len_d (by rfl) T.b_len (by decide +kernel) (pa_cons (pv 1) pa_nil)))))))), ?_⟩
    show (_ : TS) _ [some (.ref c), none] H
    have na := I.na "code" (by decide)
    have cl := I.cI.cl
    simp only [r_seq, r_next, r_brk, r_cont, r_asg, r_name, r_ret, r_retN, r_drop, r_ifs, r_never, r_var, r_c, r_op, r_un, r_if, r_tst, r_b, r_not, r_and, r_or, r_andV, r_orV, r_notV, r_nil, r_cons, r_tup, r_lst, r_cb, r_call, r_bm, r_bm0, r_sl, r_nopart, r_part, r_rev, r_gnil, r_gcons, r_gsub, r_par, r_aug, r_chain, r_I0, r_I, r_U, r_ixd, r_lend, r_tupd, r_listd, r_sld, r_app, r_ext, r_reverse, r_setl, r_cat, r_int1, r_eqS, r_neS, scal_ii, scal_bb, scal_ss, at0, at1, at2, sq_lst, sq_tup, isLst_lst, List.getElem?_cons_zero, List.getElem?_cons_succ, List.set_cons_zero, List.set_cons_succ, V.int.injEq, V.bl.injEq, V.ref.injEq, V.str.injEq, HO.lst.injEq, HO.tup.injEq, Option.some.injEq, exists_eq_left', exists_eq_left, List.cons.injEq, and_true, true_and, decide_eq_true_eq, reduceCtorEq, false_and, exists_false, or_false, false_or, exists_const, and_assoc, exists_and_left, List.append_nil, ix0, ix1, ix2, cm_mod, cdw1009, cdw2003, cdw7, cdw64, cdw2, cm104729, cm2, cm3, upd_same, List.length_cons, List.length_nil, Int.reduceLT, Int.reduceLE, Nat.reduceAdd, Nat.reduceLeDiff, Nat.reduceLT, Int.reduceToNat, r_for1, r_forL, r_forT, r_lcL, r_lc1, r_yes, r_gtupD, wipe_0, wipe_1, List.cons_append, List.nil_append, r_forS, r_ipI, ite_false, ite_true, Bool.not_true, Bool.not_false, decide_true, decide_false, r_isd, r_islt, cD_ty, cD_ref, tD_non, tD_bl, tD_int, tD_str, tD_ref, tH_lst, tH_tup, tH_dK, tH_ins, ki_self, ki_int_bool, ki_non_int, ki_str_int, ki_lt_lst, ki_lt_tup, r_fld, r_sfld, HO.ins.injEq, cx_K, hc, hcd, na, cl]
    refine ⟨c, dx, fs, t, first, rfl, hc, hl, hf, ht, fun F0 H1 hF0 s1 h1 => ⟨szl (by decide : 1 ≤ 1000), fun p hp => ?_⟩⟩
    have s2 : Same H _ := Same.new' (o := .lst [V.non]) s1 hp
    have h2 : L2.upd H1 p (.lst [V.non]) F0 = some (.lst []) := by rw [upd_ne (ne_new h1 hp)]; exact h1
    refine ⟨CC, dx, fs, s2 _ _ hc, cl, na, .ref u, hcd, u, rfl, vn all, by rw [s2 _ _ hu]; rfl, F0, rfl, [], by rw [h2]; rfl, ?_⟩
    have ek : (((vn all).length : Int) / 2 - (([] : List V).length : Int)).toNat = all.length / 2 := by
      rw [vn_len]
      simp
      omega
    refine ⟨p, _, [V.non], rfl, rfl, upd_same, by rw [vn_len]; simp; omega, by rw [vn_len]; simp; omega, ?_, fun p2 hp2 => ⟨F0, rfl, p2, rfl, [], by rw [upd_ne (ne_new h2 hp2)]; exact h2, _, upd_same, ?_, fun p3 hp3 => ?_⟩⟩
    · rw [ek]
      exact Nat.le_trans (by simp; omega : _ ≤ 5000) (by decide)
    · rw [ek, rep_non, List.length_replicate]
      exact Nat.le_trans (by simp; omega : _ ≤ 5000) (by decide)
    · have s3 := Same.new' (o := .lst (List.replicate (((vn all).length : Int) / 2 - (([] : List V).length : Int)).toNat [V.non]).flatten) s2 hp2
      refine k p3 _ (s3.free hp3) (Same.new' s3 hp3) ?_
      rw [upd_same, ek, rep_non]
      rfl
end
end C58

set_option maxHeartbeats 1000000
namespace C58
open PySem PySem.Spec PyProof.Rows L2 StrLaws
/-! ### what arguments mean, in a code with the law's tables -/
abbrev namesV : List V := [.str "a", .str "b", .str "c"]
abbrev slotsV : List V := [.str "p", .str "q", .str "r", .str "s"]
structure CodeK (CC : Addr) (H : Hp) (c : Addr) (all : List Nat) : Prop where
  ex : ∃ (dx : Addr) (fs : List (Str × V)) (t u n s k : Addr) (first : Int), H c = some (.ins CC dx fs) ∧ fs.lookup ("lines" : Str) = some (.ref t) ∧ fs.lookup ("line" : Str) = some (.int first) ∧ H t = some (.tup []) ∧ fs.lookup ("code" : Str) = some (.ref u) ∧ H u = some (.tup (vn all)) ∧
    fs.lookup ("names" : Str) = some (.ref n) ∧ H n = some (.tup namesV) ∧ fs.lookup ("slots" : Str) = some (.ref s) ∧ H s = some (.tup slotsV) ∧ fs.lookup ("constants" : Str) = some (.ref k) ∧ H k = some (.tup [.non, .int 5])
theorem CodeK.same {CC : Addr} {H H' : Hp} {c : Addr} {all : List Nat} (C : CodeK CC H c all) (s : Same H H') : CodeK CC H' c all := by
  obtain ⟨dx, fs, t, u, n, v, k, first, h1, h2, h3, h4, h5, h6, h7, h8, h9, h10, h11, h12⟩ := C.ex
  exact ⟨dx, fs, t, u, n, v, k, first, s _ _ h1, h2, h3, s _ _ h4, h5, s _ _ h6, h7, s _ _ h8, h9, s _ _ h10, h11, s _ _ h12⟩
/-- told, or nothing -/
def Told (m : Nat) (b : Bool) (v : V) : Prop := if b = true then ∃ z : Str, v = .str z ∧ z.length ≤ m else v = .non
def spOf (CC : Addr) (m : Nat) (good : Nat → Bool) : Sp := fun vs H Q _ => ∃ (c : Addr) (all : List Nat) (n : Nat), vs = [.ref c, .int (n : Int)] ∧ CodeK CC H c all ∧ ∀ v H', Same H H' → Told m (good n) v → Q v H'
section
variable {P : Program} {w : World} {K : PySem.W.Frag} {mg : Str → Option Value} {base : Heap} {f : Addr} {fd : FuncData}
abbrev sof_name : Stmt := top 41
theorem scof_name : FnScope ["code", "argument"] ["code", "argument"] (defScope sof_name) := ⟨rfl, rfl, rfl, by decide +kernel, rfl, by decide +kernel, by decide +kernel⟩

abbrev sof_local : Stmt := top 44
theorem scof_local : FnScope ["code", "argument"] ["code", "argument"] (defScope sof_local) := ⟨rfl, rfl, rfl, by decide +kernel, rfl, by decide +kernel, by decide +kernel⟩

abbrev sof_attribute : Stmt := top 42
theorem scof_attribute : FnScope ["code", "argument", "name"] ["code", "argument"] (defScope sof_attribute) := ⟨rfl, rfl, rfl, by decide +kernel, rfl, by decide +kernel, by decide +kernel⟩

abbrev sof_global : Stmt := top 43
theorem scof_global : FnScope ["code", "argument", "name"] ["code", "argument"] (defScope sof_global) := ⟨rfl, rfl, rfl, by decide +kernel, rfl, by decide +kernel, by decide +kernel⟩

theorem ok_of_name {CC : Addr} (T : Txt mg) (I : CodeT K mg CC) (F : FnP K "of_name" "of_name" sof_name f fd) : FnOk P w K mg base CX0 1 f fd ["code", "argument"] (spOf CC 10 fun n => decide (n < 3)) := by
  refine F.ok scof_name (fun vs H Q E h => ?_) (fun cdv A outer s H vs Q E hr h => ?_)
  · obtain ⟨c, all, n, rfl, _⟩ := h
    rfl
  · obtain ⟨c, all, n, rfl, hc, k⟩ := h
    obtain ⟨dx, fs, t, u, nm, v, kk, first, h1, h2, h3, h4, h5, h6, h7, h8, h9, h10, h11, h12⟩ := hc.ex
    refine ⟨_, PSs.nox (pss_one (ps_ret (pe_ifExp (pt_cmpR op_lt (pv 1) (pe_callB call_len_d (by rfl) T.b_len (by decide +kernel) (pa_cons (pe_fld (pv 0) rfl) pa_nil)) (nomark _)) (pe_ix ix_d (pe_fld (pv 0) rfl) (pv 1) (fun _ _ => rfl)) pe_non))), ?_⟩
    show (_ : TS) _ [some (.ref c), some (.int (n : Int))] H
    have na := I.na "names" (by decide)
    have cl := I.cI.cl
    simp only [r_seq, r_next, r_brk, r_cont, r_asg, r_name, r_ret, r_retN, r_drop, r_ifs, r_never, r_var, r_c, r_op, r_un, r_if, r_tst, r_b, r_not, r_and, r_or, r_andV, r_orV, r_notV, r_nil, r_cons, r_tup, r_lst, r_cb, r_call, r_bm, r_bm0, r_sl, r_nopart, r_part, r_rev, r_gnil, r_gcons, r_gsub, r_par, r_aug, r_chain, r_I0, r_I, r_U, r_ixd, r_lend, r_tupd, r_listd, r_sld, r_app, r_ext, r_reverse, r_setl, r_cat, r_int1, r_eqS, r_neS, scal_ii, scal_bb, scal_ss, at0, at1, at2, sq_lst, sq_tup, isLst_lst, List.getElem?_cons_zero, List.getElem?_cons_succ, List.set_cons_zero, List.set_cons_succ, V.int.injEq, V.bl.injEq, V.ref.injEq, V.str.injEq, HO.lst.injEq, HO.tup.injEq, Option.some.injEq, exists_eq_left', exists_eq_left, List.cons.injEq, and_true, true_and, decide_eq_true_eq, reduceCtorEq, false_and, exists_false, or_false, false_or, exists_const, and_assoc, exists_and_left, List.append_nil, ix0, ix1, ix2, cm_mod, cdw1009, cdw2003, cdw7, cdw64, cdw2, cm104729, cm2, cm3, upd_same, List.length_cons, List.length_nil, Int.reduceLT, Int.reduceLE, Nat.reduceAdd, Nat.reduceLeDiff, Nat.reduceLT, Int.reduceToNat, r_for1, r_forL, r_forT, r_lcL, r_lc1, r_yes, r_gtupD, wipe_0, wipe_1, List.cons_append, List.nil_append, r_forS, r_ipI, ite_false, ite_true, Bool.not_true, Bool.not_false, decide_true, decide_false, r_isd, r_islt, cD_ty, cD_ref, tD_non, tD_bl, tD_int, tD_str, tD_ref, tH_lst, tH_tup, tH_dK, tH_ins, ki_self, ki_int_bool, ki_non_int, ki_str_int, ki_lt_lst, ki_lt_tup, r_fld, r_sfld, HO.ins.injEq, cx_K, h1, h7, h8, na, cl]
    match n, k with
    | 0, k => exact (by rw [if_pos (by decide)]; exact ⟨_, rfl, k _ H (Same.refl H) ⟨"a", rfl, by decide⟩⟩)
    | 1, k => exact (by rw [if_pos (by decide)]; exact ⟨_, rfl, k _ H (Same.refl H) ⟨"b", rfl, by decide⟩⟩)
    | 2, k => exact (by rw [if_pos (by decide)]; exact ⟨_, rfl, k _ H (Same.refl H) ⟨"c", rfl, by decide⟩⟩)
    | n + 3, k =>
      rw [if_neg (by show ¬ (((n + 3 : Nat) : Int) < ((3 : Nat) : Int)); omega)]
      exact k _ H (Same.refl H) (by unfold Told; rw [if_neg (by simp)])
theorem ok_of_local {CC : Addr} (T : Txt mg) (I : CodeT K mg CC) (F : FnP K "of_local" "of_local" sof_local f fd) : FnOk P w K mg base CX0 1 f fd ["code", "argument"] (spOf CC 10 fun n => decide (n < 4)) := by
  refine F.ok scof_local (fun vs H Q E h => ?_) (fun cdv A outer s H vs Q E hr h => ?_)
  · obtain ⟨c, all, n, rfl, _⟩ := h
    rfl
  · obtain ⟨c, all, n, rfl, hc, k⟩ := h
    obtain ⟨dx, fs, t, u, nm, v, kk, first, h1, h2, h3, h4, h5, h6, h7, h8, h9, h10, h11, h12⟩ := hc.ex
    refine ⟨_, PSs.nox (pss_one (ps_ret (pe_ifExp (pt_cmpR op_lt (pv 1) (pe_callB call_len_d (by rfl) T.b_len (by decide +kernel) (pa_cons (pe_fld (pv 0) rfl) pa_nil)) (nomark _)) (pe_ix ix_d (pe_fld (pv 0) rfl) (pv 1) (fun _ _ => rfl)) pe_non))), ?_⟩
    show (_ : TS) _ [some (.ref c), some (.int (n : Int))] H
    have na := I.na "slots" (by decide)
    have cl := I.cI.cl
    simp only [r_seq, r_next, r_brk, r_cont, r_asg, r_name, r_ret, r_retN, r_drop, r_ifs, r_never, r_var, r_c, r_op, r_un, r_if, r_tst, r_b, r_not, r_and, r_or, r_andV, r_orV, r_notV, r_nil, r_cons, r_tup, r_lst, r_cb, r_call, r_bm, r_bm0, r_sl, r_nopart, r_part, r_rev, r_gnil, r_gcons, r_gsub, r_par, r_aug, r_chain, r_I0, r_I, r_U, r_ixd, r_lend, r_tupd, r_listd, r_sld, r_app, r_ext, r_reverse, r_setl, r_cat, r_int1, r_eqS, r_neS, scal_ii, scal_bb, scal_ss, at0, at1, at2, sq_lst, sq_tup, isLst_lst, List.getElem?_cons_zero, List.getElem?_cons_succ, List.set_cons_zero, List.set_cons_succ, V.int.injEq, V.bl.injEq, V.ref.injEq, V.str.injEq, HO.lst.injEq, HO.tup.injEq, Option.some.injEq, exists_eq_left', exists_eq_left, List.cons.injEq, and_true, true_and, decide_eq_true_eq, reduceCtorEq, false_and, exists_false, or_false, false_or, exists_const, and_assoc, exists_and_left, List.append_nil, ix0, ix1, ix2, cm_mod, cdw1009, cdw2003, cdw7, cdw64, cdw2, cm104729, cm2, cm3, upd_same, List.length_cons, List.length_nil, Int.reduceLT, Int.reduceLE, Nat.reduceAdd, Nat.reduceLeDiff, Nat.reduceLT, Int.reduceToNat, r_for1, r_forL, r_forT, r_lcL, r_lc1, r_yes, r_gtupD, wipe_0, wipe_1, List.cons_append, List.nil_append, r_forS, r_ipI, ite_false, ite_true, Bool.not_true, Bool.not_false, decide_true, decide_false, r_isd, r_islt, cD_ty, cD_ref, tD_non, tD_bl, tD_int, tD_str, tD_ref, tH_lst, tH_tup, tH_dK, tH_ins, ki_self, ki_int_bool, ki_non_int, ki_str_int, ki_lt_lst, ki_lt_tup, r_fld, r_sfld, HO.ins.injEq, cx_K, h1, h9, h10, na, cl]
    match n, k with
    | 0, k => exact (by rw [if_pos (by decide)]; exact ⟨_, rfl, k _ H (Same.refl H) ⟨"p", rfl, by decide⟩⟩)
    | 1, k => exact (by rw [if_pos (by decide)]; exact ⟨_, rfl, k _ H (Same.refl H) ⟨"q", rfl, by decide⟩⟩)
    | 2, k => exact (by rw [if_pos (by decide)]; exact ⟨_, rfl, k _ H (Same.refl H) ⟨"r", rfl, by decide⟩⟩)
    | 3, k => exact (by rw [if_pos (by decide)]; exact ⟨_, rfl, k _ H (Same.refl H) ⟨"s", rfl, by decide⟩⟩)
    | n + 4, k =>
      rw [if_neg (by show ¬ (((n + 4 : Nat) : Int) < ((4 : Nat) : Int)); omega)]
      exact k _ H (Same.refl H) (by unfold Told; rw [if_neg (by simp)])
theorem r_fmt {te : TE} {σ : L2.St} {H : Hp} {Q : VK} : tFmt te σ H Q = te σ H (fun x H1 => (∃ y : Str, x = .str y ∧ y.length ≤ sizeLine ∧ Q (.str y) H1) ∨ ∃ i : Int, x = .int i ∧ i.natAbs.log2 < 1920 ∧ Q (.str (toString i)) H1) := rfl
theorem ok_of_attribute {CC : Addr} (T : Txt mg) (F : FnP K "of_attribute" "of_attribute" sof_attribute f fd) (C_of_name : Cal P w K mg base 1 "of_name" ["code", "argument"] (spOf CC 10 fun n => decide (n < 3))) : FnOk P w K mg base CX0 2 f fd ["code", "argument"] (spOf CC 100 fun n => decide (n / 2 < 3)) := by
  refine F.ok scof_attribute (fun vs H Q E h => ?_) (fun cdv A outer s H vs Q E hr h => ?_)
  · obtain ⟨c, all, n, rfl, _⟩ := h
    rfl
  · obtain ⟨c, all, n, rfl, hc, k⟩ := h
    refine ⟨_, PSs.nox (pss_cons (ps_set (i := 2) scof_attribute.nd rfl (Or.inl rfl) (pe_cal C_of_name (hr.mono (by decide)) rfl (pa_cons (pv 0) (pa_cons (pe_op op_shr (pv 1) pe_int) pa_nil))))
  (pss_one (ps_ret (pe_ifExp (PW.pt (pw_and (pt_truth (pe_op op_and (pv 1) pe_int) (by intro _; rfl)) (pw_and1 (pt_cmpR op_notN (pv 2) pe_non (nomark _))))) (pe_joined (.cons (pe_fmt (pv 2)) (.cons pe_str .nil))) (pv 2))))), ?_⟩
    show (_ : TS) _ [some (.ref c), some (.int (n : Int)), none] H
    simp only [r_seq, r_next, r_brk, r_cont, r_asg, r_name, r_ret, r_retN, r_drop, r_ifs, r_never, r_var, r_c, r_op, r_un, r_if, r_tst, r_b, r_not, r_and, r_or, r_andV, r_orV, r_notV, r_nil, r_cons, r_tup, r_lst, r_cb, r_call, r_bm, r_bm0, r_sl, r_nopart, r_part, r_rev, r_gnil, r_gcons, r_gsub, r_par, r_aug, r_chain, r_I0, r_I, r_U, r_ixd, r_lend, r_tupd, r_listd, r_sld, r_app, r_ext, r_reverse, r_setl, r_cat, r_int1, r_eqS, r_neS, scal_ii, scal_bb, scal_ss, at0, at1, at2, sq_lst, sq_tup, isLst_lst, List.getElem?_cons_zero, List.getElem?_cons_succ, List.set_cons_zero, List.set_cons_succ, V.int.injEq, V.bl.injEq, V.ref.injEq, V.str.injEq, HO.lst.injEq, HO.tup.injEq, Option.some.injEq, exists_eq_left', exists_eq_left, List.cons.injEq, and_true, true_and, decide_eq_true_eq, reduceCtorEq, false_and, exists_false, or_false, false_or, exists_const, and_assoc, exists_and_left, List.append_nil, ix0, ix1, ix2, cm_mod, cdw1009, cdw2003, cdw7, cdw64, cdw2, cm104729, cm2, cm3, upd_same, List.length_cons, List.length_nil, Int.reduceLT, Int.reduceLE, Nat.reduceAdd, Nat.reduceLeDiff, Nat.reduceLT, Int.reduceToNat, r_for1, r_forL, r_forT, r_lcL, r_lc1, r_yes, r_gtupD, wipe_0, wipe_1, List.cons_append, List.nil_append, r_forS, r_ipI, ite_false, ite_true, Bool.not_true, Bool.not_false, decide_true, decide_false, r_isd, r_islt, cD_ty, cD_ref, tD_non, tD_bl, tD_int, tD_str, tD_ref, tH_lst, tH_tup, tH_dK, tH_ins, ki_self, ki_int_bool, ki_non_int, ki_str_int, ki_lt_lst, ki_lt_tup, r_fld, r_sfld, HO.ins.injEq, cx_K, r_fmt, tJs]
    have e2 : (n : Int) / 2 ^ 1 = ((n / 2 : Nat) : Int) := by omega
    rw [e2]
    refine ⟨c, all, n / 2, rfl, hc, fun v H1 s1 tv => ⟨_, rfl, ?_⟩⟩
    have tw : Told 100 (decide (n / 2 < 3)) v := by
      unfold Told at tv ⊢
      split at tv
      · rename_i q
        rw [if_pos q]
        obtain ⟨z, e, l⟩ := tv
        exact ⟨z, e, by omega⟩
      · rename_i q
        rw [if_neg q]
        exact tv
    split
    · split
      · unfold Told at tv
        split at tv
        · rename_i q
          obtain ⟨z, rfl, l⟩ := tv
          have l1 : (Str.empty ++ z).length = z.length := by rw [strLen_append]; exact Nat.zero_add _
          have l2 : (Str.empty ++ z ++ Str.ofString " + NULL|self").length = z.length + 12 := by rw [strLen_append, l1]; rfl
          refine .inl ⟨z, rfl, Nat.le_trans (by omega : _ ≤ 1000) (by decide), Nat.le_trans (by omega : _ ≤ 1000) (by decide), Nat.le_trans (by omega : _ ≤ 1000) (by decide), k _ H1 s1 ?_⟩
          unfold Told
          rw [if_pos q]
          exact ⟨_, rfl, by omega⟩
        · rename_i q _
          subst tv
          cases q
      · exact k _ H1 s1 tw
    · exact k _ H1 s1 tw
theorem ok_of_global {CC : Addr} (T : Txt mg) (F : FnP K "of_global" "of_global" sof_global f fd) (C_of_name : Cal P w K mg base 1 "of_name" ["code", "argument"] (spOf CC 10 fun n => decide (n < 3))) : FnOk P w K mg base CX0 2 f fd ["code", "argument"] (spOf CC 100 fun n => decide (n / 2 < 3)) := by
  refine F.ok scof_global (fun vs H Q E h => ?_) (fun cdv A outer s H vs Q E hr h => ?_)
  · obtain ⟨c, all, n, rfl, _⟩ := h
    rfl
  · obtain ⟨c, all, n, rfl, hc, k⟩ := h
    refine ⟨_, PSs.nox (pss_cons (ps_set (i := 2) scof_global.nd rfl (Or.inl rfl) (pe_cal C_of_name (hr.mono (by decide)) rfl (pa_cons (pv 0) (pa_cons (pe_op op_shr (pv 1) pe_int) pa_nil))))
  (pss_one (ps_ret (pe_ifExp (PW.pt (pw_and (pt_truth (pe_op op_and (pv 1) pe_int) (by intro _; rfl)) (pw_and1 (pt_cmpR op_notN (pv 2) pe_non (nomark _))))) (pe_joined (.cons (pe_fmt (pv 2)) (.cons pe_str .nil))) (pv 2))))), ?_⟩
    show (_ : TS) _ [some (.ref c), some (.int (n : Int)), none] H
    simp only [r_seq, r_next, r_brk, r_cont, r_asg, r_name, r_ret, r_retN, r_drop, r_ifs, r_never, r_var, r_c, r_op, r_un, r_if, r_tst, r_b, r_not, r_and, r_or, r_andV, r_orV, r_notV, r_nil, r_cons, r_tup, r_lst, r_cb, r_call, r_bm, r_bm0, r_sl, r_nopart, r_part, r_rev, r_gnil, r_gcons, r_gsub, r_par, r_aug, r_chain, r_I0, r_I, r_U, r_ixd, r_lend, r_tupd, r_listd, r_sld, r_app, r_ext, r_reverse, r_setl, r_cat, r_int1, r_eqS, r_neS, scal_ii, scal_bb, scal_ss, at0, at1, at2, sq_lst, sq_tup, isLst_lst, List.getElem?_cons_zero, List.getElem?_cons_succ, List.set_cons_zero, List.set_cons_succ, V.int.injEq, V.bl.injEq, V.ref.injEq, V.str.injEq, HO.lst.injEq, HO.tup.injEq, Option.some.injEq, exists_eq_left', exists_eq_left, List.cons.injEq, and_true, true_and, decide_eq_true_eq, reduceCtorEq, false_and, exists_false, or_false, false_or, exists_const, and_assoc, exists_and_left, List.append_nil, ix0, ix1, ix2, cm_mod, cdw1009, cdw2003, cdw7, cdw64, cdw2, cm104729, cm2, cm3, upd_same, List.length_cons, List.length_nil, Int.reduceLT, Int.reduceLE, Nat.reduceAdd, Nat.reduceLeDiff, Nat.reduceLT, Int.reduceToNat, r_for1, r_forL, r_forT, r_lcL, r_lc1, r_yes, r_gtupD, wipe_0, wipe_1, List.cons_append, List.nil_append, r_forS, r_ipI, ite_false, ite_true, Bool.not_true, Bool.not_false, decide_true, decide_false, r_isd, r_islt, cD_ty, cD_ref, tD_non, tD_bl, tD_int, tD_str, tD_ref, tH_lst, tH_tup, tH_dK, tH_ins, ki_self, ki_int_bool, ki_non_int, ki_str_int, ki_lt_lst, ki_lt_tup, r_fld, r_sfld, HO.ins.injEq, cx_K, r_fmt, tJs]
    have e2 : (n : Int) / 2 ^ 1 = ((n / 2 : Nat) : Int) := by omega
    rw [e2]
    refine ⟨c, all, n / 2, rfl, hc, fun v H1 s1 tv => ⟨_, rfl, ?_⟩⟩
    have tw : Told 100 (decide (n / 2 < 3)) v := by
      unfold Told at tv ⊢
      split at tv
      · rename_i q
        rw [if_pos q]
        obtain ⟨z, e, l⟩ := tv
        exact ⟨z, e, by omega⟩
      · rename_i q
        rw [if_neg q]
        exact tv
    split
    · split
      · unfold Told at tv
        split at tv
        · rename_i q
          obtain ⟨z, rfl, l⟩ := tv
          have l1 : (Str.empty ++ z).length = z.length := by rw [strLen_append]; exact Nat.zero_add _
          have l2 : (Str.empty ++ z ++ Str.ofString " + NULL").length = z.length + 7 := by rw [strLen_append, l1]; rfl
          refine .inl ⟨z, rfl, Nat.le_trans (by omega : _ ≤ 1000) (by decide), Nat.le_trans (by omega : _ ≤ 1000) (by decide), Nat.le_trans (by omega : _ ≤ 1000) (by decide), k _ H1 s1 ?_⟩
          unfold Told
          rw [if_pos q]
          exact ⟨_, rfl, by omega⟩
        · rename_i q _
          subst tv
          cases q
      · exact k _ H1 s1 tw
    · exact k _ H1 s1 tw
end
end C58

set_option maxHeartbeats 1000000
namespace C58
open PySem PySem.Spec PyProof.Rows L2 StrLaws
/-- a written table of texts at whole numbers -/
structure TextsT (K : PySem.W.Frag) (mg : Str → Option Value) (x : Str) (D : Addr) (L : List (Int × Value)) : Prop where
  d : IDict K D L
  g : mg x = some (.ref D)
  txt : ∀ k u, getI L k = some u → ∃ z t, u = .str z t ∧ z.length ≤ 50
theorem TextsT.get {K : PySem.W.Frag} {mg : Str → Option Value} {x : Str} {D : Addr} {L : List (Int × Value)} (T : TextsT K mg x D L) (k : Int) : (∃ u z, getI L k = some u ∧ RelV (V.str z) u ∧ z.length ≤ 50) ∨ getI L k = none := by
  cases e : getI L k with
  | none => exact .inr rfl
  | some u =>
    obtain ⟨z, t, rfl, l⟩ := T.txt k u e
    exact .inl ⟨_, z, rfl, ⟨t, rfl⟩, l⟩
theorem pe_ref {X : Cx} {x : Str} {D : Addr} {pos : Pos} (h : X.mg x = some (.ref D)) (hg : Gl X x := by rfl) (hdb : (x == ("__debug__" : Str)) = false := by decide) : PE X (.Name x pos) (tC (.ref D)) := pe_glob hg h (show RelV (V.ref D) (Value.ref D) from rfl) hdb
theorem r_iget2 {d : Addr} {L : List (Int × Value)} {ty tx : TE} {σ : L2.St} {H : Hp} {Q : VK} : tIGet2 d L ty tx σ H Q = ty σ H (fun y H2 => tx σ H2 fun z H3 => ∃ k : Int, y = .int k ∧ ((∃ u v, getI L k = some u ∧ RelV v u ∧ Q v H3) ∨ (getI L k = none ∧ Q z H3))) := rfl
theorem r_inI {d : Addr} {L : List (Int × Value)} {x y : V} {H : Hp} {Q : VK} : rInI d L x y H Q = ∃ k, x = .int k ∧ y = .ref d ∧ Q (.bl (getI L k).isSome) H := rfl
theorem r_iget1 {d : Addr} {L : List (Int × Value)} {ty : TE} {σ : L2.St} {H : Hp} {Q : VK} : tIGet1 d L ty σ H Q = ty σ H (fun y H2 => ∃ k : Int, y = .int k ∧ ((∃ u v, getI L k = some u ∧ RelV v u ∧ Q v H2) ∨ (getI L k = none ∧ Q .non H2))) := rfl
section
variable {P : Program} {w : World} {K : PySem.W.Frag} {mg : Str → Option Value} {base : Heap} {f : Addr} {fd : FuncData}
abbrev sof_operator : Stmt := top 46
theorem scof_operator : FnScope ["code", "argument"] ["code", "argument"] (defScope sof_operator) := ⟨rfl, rfl, rfl, by decide +kernel, rfl, by decide +kernel, by decide +kernel⟩

abbrev sof_intrinsic : Stmt := top 49
theorem scof_intrinsic : FnScope ["code", "argument"] ["code", "argument"] (defScope sof_intrinsic) := ⟨rfl, rfl, rfl, by decide +kernel, rfl, by decide +kernel, by decide +kernel⟩

abbrev sof_function_attribute : Stmt := top 50
theorem scof_function_attribute : FnScope ["code", "argument"] ["code", "argument"] (defScope sof_function_attribute) := ⟨rfl, rfl, rfl, by decide +kernel, rfl, by decide +kernel, by decide +kernel⟩

abbrev sof_opposite : Stmt := top 48
theorem scof_opposite : FnScope ["code", "argument"] ["code", "argument"] (defScope sof_opposite) := ⟨rfl, rfl, rfl, by decide +kernel, rfl, by decide +kernel, by decide +kernel⟩

theorem ok_of_operator {CC D : Addr} {L : List (Int × Value)} (T : Txt mg) (TT : TextsT K mg "OPERATOR_SIGNS" D L) (F : FnP K "of_operator" "of_operator" sof_operator f fd) : FnOk P w K mg base CX0 1 f fd ["code", "argument"] (spOf CC 100 fun _ => true) := by
  refine F.ok scof_operator (fun vs H Q E h => ?_) (fun cdv A outer s H vs Q E hr h => ?_)
  · obtain ⟨c, all, n, rfl, _⟩ := h
    rfl
  · obtain ⟨c, all, n, rfl, hc, k⟩ := h
    refine ⟨_, PSs.nox (pss_one (ps_ret (pe_iget2 TT.d (pe_ref TT.g) (pv 1) pe_str ⟨rfl, rfl, rfl, rfl⟩))), ?_⟩
    show (_ : TS) _ [some (.ref c), some (.int (n : Int))] H
    simp only [r_seq, r_next, r_brk, r_cont, r_asg, r_name, r_ret, r_retN, r_drop, r_ifs, r_never, r_var, r_c, r_op, r_un, r_if, r_tst, r_b, r_not, r_and, r_or, r_andV, r_orV, r_notV, r_nil, r_cons, r_tup, r_lst, r_cb, r_call, r_bm, r_bm0, r_sl, r_nopart, r_part, r_rev, r_gnil, r_gcons, r_gsub, r_par, r_aug, r_chain, r_I0, r_I, r_U, r_ixd, r_lend, r_tupd, r_listd, r_sld, r_app, r_ext, r_reverse, r_setl, r_cat, r_int1, r_eqS, r_neS, scal_ii, scal_bb, scal_ss, at0, at1, at2, sq_lst, sq_tup, isLst_lst, List.getElem?_cons_zero, List.getElem?_cons_succ, List.set_cons_zero, List.set_cons_succ, V.int.injEq, V.bl.injEq, V.ref.injEq, V.str.injEq, HO.lst.injEq, HO.tup.injEq, Option.some.injEq, exists_eq_left', exists_eq_left, List.cons.injEq, and_true, true_and, decide_eq_true_eq, reduceCtorEq, false_and, exists_false, or_false, false_or, exists_const, and_assoc, exists_and_left, List.append_nil, ix0, ix1, ix2, cm_mod, cdw1009, cdw2003, cdw7, cdw64, cdw2, cm104729, cm2, cm3, upd_same, List.length_cons, List.length_nil, Int.reduceLT, Int.reduceLE, Nat.reduceAdd, Nat.reduceLeDiff, Nat.reduceLT, Int.reduceToNat, r_for1, r_forL, r_forT, r_lcL, r_lc1, r_yes, r_gtupD, wipe_0, wipe_1, List.cons_append, List.nil_append, r_forS, r_ipI, ite_false, ite_true, Bool.not_true, Bool.not_false, decide_true, decide_false, r_isd, r_islt, cD_ty, cD_ref, tD_non, tD_bl, tD_int, tD_str, tD_ref, tH_lst, tH_tup, tH_dK, tH_ins, ki_self, ki_int_bool, ki_non_int, ki_str_int, ki_lt_lst, ki_lt_tup, r_fld, r_sfld, HO.ins.injEq, cx_K, r_iget2]
    rcases TT.get n with ⟨u, z, e, r, l⟩ | e
    · exact .inl ⟨u, e, _, r, k _ H (Same.refl H) ⟨z, rfl, by omega⟩⟩
    · exact .inr ⟨e, k _ H (Same.refl H) ⟨"", rfl, by decide⟩⟩
theorem ok_of_intrinsic {CC D : Addr} {L : List (Int × Value)} (T : Txt mg) (TT : TextsT K mg "INTRINSICS" D L) (F : FnP K "of_intrinsic" "of_intrinsic" sof_intrinsic f fd) : FnOk P w K mg base CX0 1 f fd ["code", "argument"] (spOf CC 100 fun _ => true) := by
  refine F.ok scof_intrinsic (fun vs H Q E h => ?_) (fun cdv A outer s H vs Q E hr h => ?_)
  · obtain ⟨c, all, n, rfl, _⟩ := h
    rfl
  · obtain ⟨c, all, n, rfl, hc, k⟩ := h
    refine ⟨_, PSs.nox (pss_one (ps_ret (pe_iget2 TT.d (pe_ref TT.g) (pv 1) pe_str ⟨rfl, rfl, rfl, rfl⟩))), ?_⟩
    show (_ : TS) _ [some (.ref c), some (.int (n : Int))] H
    simp only [r_seq, r_next, r_brk, r_cont, r_asg, r_name, r_ret, r_retN, r_drop, r_ifs, r_never, r_var, r_c, r_op, r_un, r_if, r_tst, r_b, r_not, r_and, r_or, r_andV, r_orV, r_notV, r_nil, r_cons, r_tup, r_lst, r_cb, r_call, r_bm, r_bm0, r_sl, r_nopart, r_part, r_rev, r_gnil, r_gcons, r_gsub, r_par, r_aug, r_chain, r_I0, r_I, r_U, r_ixd, r_lend, r_tupd, r_listd, r_sld, r_app, r_ext, r_reverse, r_setl, r_cat, r_int1, r_eqS, r_neS, scal_ii, scal_bb, scal_ss, at0, at1, at2, sq_lst, sq_tup, isLst_lst, List.getElem?_cons_zero, List.getElem?_cons_succ, List.set_cons_zero, List.set_cons_succ, V.int.injEq, V.bl.injEq, V.ref.injEq, V.str.injEq, HO.lst.injEq, HO.tup.injEq, Option.some.injEq, exists_eq_left', exists_eq_left, List.cons.injEq, and_true, true_and, decide_eq_true_eq, reduceCtorEq, false_and, exists_false, or_false, false_or, exists_const, and_assoc, exists_and_left, List.append_nil, ix0, ix1, ix2, cm_mod, cdw1009, cdw2003, cdw7, cdw64, cdw2, cm104729, cm2, cm3, upd_same, List.length_cons, List.length_nil, Int.reduceLT, Int.reduceLE, Nat.reduceAdd, Nat.reduceLeDiff, Nat.reduceLT, Int.reduceToNat, r_for1, r_forL, r_forT, r_lcL, r_lc1, r_yes, r_gtupD, wipe_0, wipe_1, List.cons_append, List.nil_append, r_forS, r_ipI, ite_false, ite_true, Bool.not_true, Bool.not_false, decide_true, decide_false, r_isd, r_islt, cD_ty, cD_ref, tD_non, tD_bl, tD_int, tD_str, tD_ref, tH_lst, tH_tup, tH_dK, tH_ins, ki_self, ki_int_bool, ki_non_int, ki_str_int, ki_lt_lst, ki_lt_tup, r_fld, r_sfld, HO.ins.injEq, cx_K, r_iget2]
    rcases TT.get n with ⟨u, z, e, r, l⟩ | e
    · exact .inl ⟨u, e, _, r, k _ H (Same.refl H) ⟨z, rfl, by omega⟩⟩
    · exact .inr ⟨e, k _ H (Same.refl H) ⟨"", rfl, by decide⟩⟩
theorem ok_of_function_attribute {CC D : Addr} {L : List (Int × Value)} (T : Txt mg) (TT : TextsT K mg "ATTRIBUTES" D L) (F : FnP K "of_function_attribute" "of_function_attribute" sof_function_attribute f fd) : FnOk P w K mg base CX0 1 f fd ["code", "argument"] (spOf CC 100 fun _ => true) := by
  refine F.ok scof_function_attribute (fun vs H Q E h => ?_) (fun cdv A outer s H vs Q E hr h => ?_)
  · obtain ⟨c, all, n, rfl, _⟩ := h
    rfl
  · obtain ⟨c, all, n, rfl, hc, k⟩ := h
    refine ⟨_, PSs.nox (pss_one (ps_ret (pe_iget2 TT.d (pe_ref TT.g) (pv 1) pe_str ⟨rfl, rfl, rfl, rfl⟩))), ?_⟩
    show (_ : TS) _ [some (.ref c), some (.int (n : Int))] H
    simp only [r_seq, r_next, r_brk, r_cont, r_asg, r_name, r_ret, r_retN, r_drop, r_ifs, r_never, r_var, r_c, r_op, r_un, r_if, r_tst, r_b, r_not, r_and, r_or, r_andV, r_orV, r_notV, r_nil, r_cons, r_tup, r_lst, r_cb, r_call, r_bm, r_bm0, r_sl, r_nopart, r_part, r_rev, r_gnil, r_gcons, r_gsub, r_par, r_aug, r_chain, r_I0, r_I, r_U, r_ixd, r_lend, r_tupd, r_listd, r_sld, r_app, r_ext, r_reverse, r_setl, r_cat, r_int1, r_eqS, r_neS, scal_ii, scal_bb, scal_ss, at0, at1, at2, sq_lst, sq_tup, isLst_lst, List.getElem?_cons_zero, List.getElem?_cons_succ, List.set_cons_zero, List.set_cons_succ, V.int.injEq, V.bl.injEq, V.ref.injEq, V.str.injEq, HO.lst.injEq, HO.tup.injEq, Option.some.injEq, exists_eq_left', exists_eq_left, List.cons.injEq, and_true, true_and, decide_eq_true_eq, reduceCtorEq, false_and, exists_false, or_false, false_or, exists_const, and_assoc, exists_and_left, List.append_nil, ix0, ix1, ix2, cm_mod, cdw1009, cdw2003, cdw7, cdw64, cdw2, cm104729, cm2, cm3, upd_same, List.length_cons, List.length_nil, Int.reduceLT, Int.reduceLE, Nat.reduceAdd, Nat.reduceLeDiff, Nat.reduceLT, Int.reduceToNat, r_for1, r_forL, r_forT, r_lcL, r_lc1, r_yes, r_gtupD, wipe_0, wipe_1, List.cons_append, List.nil_append, r_forS, r_ipI, ite_false, ite_true, Bool.not_true, Bool.not_false, decide_true, decide_false, r_isd, r_islt, cD_ty, cD_ref, tD_non, tD_bl, tD_int, tD_str, tD_ref, tH_lst, tH_tup, tH_dK, tH_ins, ki_self, ki_int_bool, ki_non_int, ki_str_int, ki_lt_lst, ki_lt_tup, r_fld, r_sfld, HO.ins.injEq, cx_K, r_iget2]
    rcases TT.get n with ⟨u, z, e, r, l⟩ | e
    · exact .inl ⟨u, e, _, r, k _ H (Same.refl H) ⟨z, rfl, by omega⟩⟩
    · exact .inr ⟨e, k _ H (Same.refl H) ⟨"", rfl, by decide⟩⟩
theorem ok_of_opposite {CC : Addr} (T : Txt mg) (F : FnP K "of_opposite" "of_opposite" sof_opposite f fd) : FnOk P w K mg base CX0 1 f fd ["code", "argument"] (spOf CC 100 fun _ => true) := by
  refine F.ok scof_opposite (fun vs H Q E h => ?_) (fun cdv A outer s H vs Q E hr h => ?_)
  · obtain ⟨c, all, n, rfl, _⟩ := h
    rfl
  · obtain ⟨c, all, n, rfl, hc, k⟩ := h
    refine ⟨_, PSs.nox (pss_one (ps_ret (pe_ifExp (pt_cmpR op_eq (pv 1) pe_int (nomark _)) pe_str pe_str))), ?_⟩
    show (_ : TS) _ [some (.ref c), some (.int (n : Int))] H
    simp only [r_seq, r_next, r_brk, r_cont, r_asg, r_name, r_ret, r_retN, r_drop, r_ifs, r_never, r_var, r_c, r_op, r_un, r_if, r_tst, r_b, r_not, r_and, r_or, r_andV, r_orV, r_notV, r_nil, r_cons, r_tup, r_lst, r_cb, r_call, r_bm, r_bm0, r_sl, r_nopart, r_part, r_rev, r_gnil, r_gcons, r_gsub, r_par, r_aug, r_chain, r_I0, r_I, r_U, r_ixd, r_lend, r_tupd, r_listd, r_sld, r_app, r_ext, r_reverse, r_setl, r_cat, r_int1, r_eqS, r_neS, scal_ii, scal_bb, scal_ss, at0, at1, at2, sq_lst, sq_tup, isLst_lst, List.getElem?_cons_zero, List.getElem?_cons_succ, List.set_cons_zero, List.set_cons_succ, V.int.injEq, V.bl.injEq, V.ref.injEq, V.str.injEq, HO.lst.injEq, HO.tup.injEq, Option.some.injEq, exists_eq_left', exists_eq_left, List.cons.injEq, and_true, true_and, decide_eq_true_eq, reduceCtorEq, false_and, exists_false, or_false, false_or, exists_const, and_assoc, exists_and_left, List.append_nil, ix0, ix1, ix2, cm_mod, cdw1009, cdw2003, cdw7, cdw64, cdw2, cm104729, cm2, cm3, upd_same, List.length_cons, List.length_nil, Int.reduceLT, Int.reduceLE, Nat.reduceAdd, Nat.reduceLeDiff, Nat.reduceLT, Int.reduceToNat, r_for1, r_forL, r_forT, r_lcL, r_lc1, r_yes, r_gtupD, wipe_0, wipe_1, List.cons_append, List.nil_append, r_forS, r_ipI, ite_false, ite_true, Bool.not_true, Bool.not_false, decide_true, decide_false, r_isd, r_islt, cD_ty, cD_ref, tD_non, tD_bl, tD_int, tD_str, tD_ref, tH_lst, tH_tup, tH_dK, tH_ins, ki_self, ki_int_bool, ki_non_int, ki_str_int, ki_lt_lst, ki_lt_tup, r_fld, r_sfld, HO.ins.injEq, cx_K]
    exact ite2 (fun _ => k _ H (Same.refl H) ⟨"not", rfl, by decide⟩) (fun _ => k _ H (Same.refl H) ⟨"", rfl, by decide⟩)
abbrev sof_comparison : Stmt := top 47
theorem scof_comparison : FnScope ["code", "argument", "sign"] ["code", "argument"] (defScope sof_comparison) := ⟨rfl, rfl, rfl, by decide +kernel, rfl, by decide +kernel, by decide +kernel⟩

theorem ok_of_comparison {CC D : Addr} {L : List (Int × Value)} (T : Txt mg) (gTr : ∃ t, mg "TRUTH" = some (.int 16 t)) (TT : TextsT K mg "COMPARISON_SIGNS" D L) (F : FnP K "of_comparison" "of_comparison" sof_comparison f fd) : FnOk P w K mg base CX0 1 f fd ["code", "argument"] (spOf CC 100 fun _ => true) := by
  refine F.ok scof_comparison (fun vs H Q E h => ?_) (fun cdv A outer s H vs Q E hr h => ?_)
  · obtain ⟨c, all, n, rfl, _⟩ := h
    rfl
  · obtain ⟨c, all, n, rfl, hc, k⟩ := h
    refine ⟨_, PSs.nox (pss_cons (ps_if (pt_cmpR (op_inI TT.d) (pv 1) (pe_ref TT.g) (by rfl))
    (pss_one (ps_ret (pe_ix (ix_I TT.d) (pe_ref TT.g) (pv 1) (fun _ _ => rfl))))
    pss_nil)
  (pss_cons (ps_set (i := 2) scof_comparison.nd rfl (Or.inl rfl) (pe_iget1 TT.d (pe_ref TT.g) (pe_op op_sub (pv 1) (pe_gi gTr)) ⟨rfl, rfl, rfl, rfl⟩))
  (pss_one (ps_ret (pe_ifExp (pt_cmpR op_isN (pv 2) pe_non (nomark _)) pe_str (pe_joined (.cons pe_str (.cons (pe_fmt (pv 2)) (.cons pe_str .nil))))))))), ?_⟩
    show (_ : TS) _ [some (.ref c), some (.int (n : Int)), none] H
    simp only [r_seq, r_next, r_brk, r_cont, r_asg, r_name, r_ret, r_retN, r_drop, r_ifs, r_never, r_var, r_c, r_op, r_un, r_if, r_tst, r_b, r_not, r_and, r_or, r_andV, r_orV, r_notV, r_nil, r_cons, r_tup, r_lst, r_cb, r_call, r_bm, r_bm0, r_sl, r_nopart, r_part, r_rev, r_gnil, r_gcons, r_gsub, r_par, r_aug, r_chain, r_I0, r_I, r_U, r_ixd, r_lend, r_tupd, r_listd, r_sld, r_app, r_ext, r_reverse, r_setl, r_cat, r_int1, r_eqS, r_neS, scal_ii, scal_bb, scal_ss, at0, at1, at2, sq_lst, sq_tup, isLst_lst, List.getElem?_cons_zero, List.getElem?_cons_succ, List.set_cons_zero, List.set_cons_succ, V.int.injEq, V.bl.injEq, V.ref.injEq, V.str.injEq, HO.lst.injEq, HO.tup.injEq, Option.some.injEq, exists_eq_left', exists_eq_left, List.cons.injEq, and_true, true_and, decide_eq_true_eq, reduceCtorEq, false_and, exists_false, or_false, false_or, exists_const, and_assoc, exists_and_left, List.append_nil, ix0, ix1, ix2, cm_mod, cdw1009, cdw2003, cdw7, cdw64, cdw2, cm104729, cm2, cm3, upd_same, List.length_cons, List.length_nil, Int.reduceLT, Int.reduceLE, Nat.reduceAdd, Nat.reduceLeDiff, Nat.reduceLT, Int.reduceToNat, r_for1, r_forL, r_forT, r_lcL, r_lc1, r_yes, r_gtupD, wipe_0, wipe_1, List.cons_append, List.nil_append, r_forS, r_ipI, ite_false, ite_true, Bool.not_true, Bool.not_false, decide_true, decide_false, r_isd, r_islt, cD_ty, cD_ref, tD_non, tD_bl, tD_int, tD_str, tD_ref, tH_lst, tH_tup, tH_dK, tH_ins, ki_self, ki_int_bool, ki_non_int, ki_str_int, ki_lt_lst, ki_lt_tup, r_fld, r_sfld, HO.ins.injEq, cx_K, r_iget1, r_inI, r_ixI, r_fmt, tJs]
    rcases TT.get n with ⟨u, z, e, r, l⟩ | e
    · rw [e, if_pos (by simp)]
      exact ⟨u, rfl, _, r, k _ H (Same.refl H) ⟨z, rfl, by omega⟩⟩
    · rw [e, if_neg (by simp)]
      rcases TT.get ((n : Int) - 16) with ⟨u, z, e2, r, l⟩ | e2
      · have l1 : (Str.empty ++ Str.ofString "bool(").length = 5 := by rw [strLen_append]; rfl
        have l2 : (Str.empty ++ Str.ofString "bool(" ++ z).length = 5 + z.length := by rw [strLen_append, l1]
        have l3 : (Str.empty ++ Str.ofString "bool(" ++ z ++ Str.ofString ")").length = 6 + z.length := by rw [strLen_append, l2, show (Str.ofString ")").length = 1 from rfl]; omega
        refine .inl ⟨u, e2, _, r, ?_⟩
        rw [if_neg (by simp)]
        exact ⟨Nat.le_trans (by omega : _ ≤ 1000) (by decide), .inl ⟨z, rfl, Nat.le_trans (by omega : _ ≤ 1000) (by decide), Nat.le_trans (by omega : _ ≤ 1000) (by decide), Nat.le_trans (by omega : _ ≤ 1000) (by decide), k _ H (Same.refl H) ⟨_, rfl, by omega⟩⟩⟩
      · exact .inr ⟨e2, k _ H (Same.refl H) ⟨"", rfl, by decide⟩⟩
abbrev sof_locals : Stmt := top 45
theorem scof_locals : FnScope ["code", "argument", "first", "second"] ["code", "argument"] (defScope sof_locals) := ⟨rfl, rfl, rfl, by decide +kernel, rfl, by decide +kernel, by decide +kernel⟩

theorem ok_of_locals {CC : Addr} (T : Txt mg) (F : FnP K "of_locals" "of_locals" sof_locals f fd) (C_of_local : Cal P w K mg base 1 "of_local" ["code", "argument"] (spOf CC 10 fun n => decide (n < 4))) : FnOk P w K mg base CX0 2 f fd ["code", "argument"] (spOf CC 100 fun n => decide (n / 16 < 4 ∧ n % 16 < 4)) := by
  refine F.ok scof_locals (fun vs H Q E h => ?_) (fun cdv A outer s H vs Q E hr h => ?_)
  · obtain ⟨c, all, n, rfl, _⟩ := h
    rfl
  · obtain ⟨c, all, n, rfl, hc, k⟩ := h
    refine ⟨_, PSs.nox (pss_cons (ps_par (i := 2) (j := 3) (by rfl) scof_locals.nd rfl rfl (by decide) rfl rfl (pa_cons (pe_cal C_of_local (hr.mono (by decide)) rfl (pa_cons (pv 0) (pa_cons (pe_op op_shr (pv 1) pe_int) pa_nil))) (pa_cons (pe_cal C_of_local (hr.mono (by decide)) rfl (pa_cons (pv 0) (pa_cons (pe_op op_and (pv 1) pe_int) pa_nil))) pa_nil)) (by rfl))
  (pss_one (ps_ret (pe_ifExp (PW.pt (pw_or (pt_cmpR op_isN (pv 2) pe_non (nomark _)) (pw_or1 (pt_cmpR op_isN (pv 3) pe_non (nomark _))))) pe_non (pe_joined (.cons (pe_fmt (pv 2)) (.cons pe_str (.cons (pe_fmt (pv 3)) .nil)))))))), ?_⟩
    show (_ : TS) _ [some (.ref c), some (.int (n : Int)), none, none] H
    simp only [r_seq, r_next, r_brk, r_cont, r_asg, r_name, r_ret, r_retN, r_drop, r_ifs, r_never, r_var, r_c, r_op, r_un, r_if, r_tst, r_b, r_not, r_and, r_or, r_andV, r_orV, r_notV, r_nil, r_cons, r_tup, r_lst, r_cb, r_call, r_bm, r_bm0, r_sl, r_nopart, r_part, r_rev, r_gnil, r_gcons, r_gsub, r_par, r_aug, r_chain, r_I0, r_I, r_U, r_ixd, r_lend, r_tupd, r_listd, r_sld, r_app, r_ext, r_reverse, r_setl, r_cat, r_int1, r_eqS, r_neS, scal_ii, scal_bb, scal_ss, at0, at1, at2, sq_lst, sq_tup, isLst_lst, List.getElem?_cons_zero, List.getElem?_cons_succ, List.set_cons_zero, List.set_cons_succ, V.int.injEq, V.bl.injEq, V.ref.injEq, V.str.injEq, HO.lst.injEq, HO.tup.injEq, Option.some.injEq, exists_eq_left', exists_eq_left, List.cons.injEq, and_true, true_and, decide_eq_true_eq, reduceCtorEq, false_and, exists_false, or_false, false_or, exists_const, and_assoc, exists_and_left, List.append_nil, ix0, ix1, ix2, cm_mod, cdw1009, cdw2003, cdw7, cdw64, cdw2, cm104729, cm2, cm3, upd_same, List.length_cons, List.length_nil, Int.reduceLT, Int.reduceLE, Nat.reduceAdd, Nat.reduceLeDiff, Nat.reduceLT, Int.reduceToNat, r_for1, r_forL, r_forT, r_lcL, r_lc1, r_yes, r_gtupD, wipe_0, wipe_1, List.cons_append, List.nil_append, r_forS, r_ipI, ite_false, ite_true, Bool.not_true, Bool.not_false, decide_true, decide_false, r_isd, r_islt, cD_ty, cD_ref, tD_non, tD_bl, tD_int, tD_str, tD_ref, tH_lst, tH_tup, tH_dK, tH_ins, ki_self, ki_int_bool, ki_non_int, ki_str_int, ki_lt_lst, ki_lt_tup, r_fld, r_sfld, HO.ins.injEq, cx_K, r_fmt, tJs]
    have e1 : (n : Int) / 2 ^ 4 = ((n / 16 : Nat) : Int) := by omega
    have e2 : Builtin.bitAnd (n : Int) 15 = ((n % 16 : Nat) : Int) := by
      rw [show (15 : Int) = 2 ^ 4 - 1 from rfl, Bits.bitAnd_mask 4 (by omega)]
      omega
    rw [e1, e2]
    refine ⟨c, all, n / 16, rfl, hc, fun v1 H1 s1 t1 => ⟨c, all, n % 16, rfl, hc.same s1, fun v2 H2 s2 t2 => ?_⟩⟩
    have s12 : Same H H2 := fun y o e => s2 y o (s1 y o e)
    dsimp only
    unfold Told at t1 t2
    by_cases q1 : n / 16 < 4
    · rw [if_pos (decide_eq_true q1)] at t1
      obtain ⟨z1, rfl, l1⟩ := t1
      rw [if_neg (show ¬ (V.str z1 = V.non) from nofun)]
      by_cases q2 : n % 16 < 4
      · rw [if_pos (decide_eq_true q2)] at t2
        obtain ⟨z2, rfl, l2⟩ := t2
        rw [if_neg (show ¬ (V.str z2 = V.non) from nofun)]
        have a1 : (Str.empty ++ z1).length = z1.length := by rw [strLen_append]; exact Nat.zero_add _
        have a2 : (Str.empty ++ z1 ++ Str.ofString ", ").length = z1.length + 2 := by rw [strLen_append, a1]; rfl
        have a3 : (Str.empty ++ z1 ++ Str.ofString ", " ++ z2).length = z1.length + 2 + z2.length := by rw [strLen_append, a2]
        have big : ∀ {m : Nat}, m ≤ 1000 → m ≤ sizeLine := fun h => Nat.le_trans h (by decide)
        exact .inl ⟨z1, rfl, big (by omega), big (by omega), big (by omega), .inl ⟨z2, rfl, big (by omega), big (by omega), k _ H2 s12 (by unfold Told; rw [if_pos (decide_eq_true ⟨q1, q2⟩)]; exact ⟨_, rfl, by omega⟩)⟩⟩
      · rw [if_neg (by simp [q2])] at t2
        subst t2
        rw [if_pos rfl]
        exact k _ H2 s12 (by unfold Told; rw [if_neg (by simp [q2])])
    · rw [if_neg (by simp [q1])] at t1
      subst t1
      rw [if_pos rfl]
      exact k _ H2 s12 (by unfold Told; rw [if_neg (by simp [q1])])
end
end C58

set_option maxHeartbeats 1000000
namespace C58
open PySem PySem.Spec PyProof.Rows L2 StrLaws
theorem pe_never {X : Cx} {e : Expr} : PE X e (fun _ _ _ => False) := ⟨fun pins s σ H Q I h => (show False from h).elim⟩
def rReprC : List V → Hp → VK → Prop := fun xs H Q => (xs = [.non] ∧ Q (.str "None") H) ∨ ∃ i : Int, xs = [.int i] ∧ i.natAbs.log2 < 1920 ∧ Q (.str (toString i)) H
theorem call_reprC {X : Cx} : CallR X (.builtin "repr") rReprC := by
  intro pins s σ H xs us Q I r h
  rcases h with ⟨rfl, q⟩ | ⟨i, rfl, hz, q⟩
  · cases r with
    | cons r1 rr =>
    cases rr
    cases r1
    exact PySem.P.repr_of_none ⟨.str _, H, I.tok _, ⟨_, rfl⟩, q⟩
  · exact SkE.call_repr_int pins s σ H _ us Q I r ⟨i, rfl, hz, q⟩
section
variable {P : Program} {w : World} {K : PySem.W.Frag} {mg : Str → Option Value} {base : Heap} {f : Addr} {fd : FuncData}
abbrev sof_constant : Stmt := top 40
theorem scof_constant : FnScope ["code", "argument", "constant"] ["code", "argument"] (defScope sof_constant) := ⟨rfl, rfl, rfl, by decide +kernel, rfl, by decide +kernel, by decide +kernel⟩

theorem ok_of_constant {CC : Addr} (T : Txt mg) (I : CodeT K mg CC) (F : FnP K "of_constant" "of_constant" sof_constant f fd) : FnOk P w K mg base CX0 1 f fd ["code", "argument"] (spOf CC 100 fun n => decide (n < 2)) := by
  refine F.ok scof_constant (fun vs H Q E h => ?_) (fun cdv A outer s H vs Q E hr h => ?_)
  · obtain ⟨c, all, n, rfl, _⟩ := h
    rfl
  · obtain ⟨c, all, n, rfl, hc, k⟩ := h
    obtain ⟨dx, fs, t, u, nm, v, kk, first, h1, h2, h3, h4, h5, h6, h7, h8, h9, h10, h11, h12⟩ := hc.ex
    refine ⟨_, PSs.nox (pss_cons (ps_if (pt_cmpR op_ge (pv 1) (pe_callB call_len_d (by rfl) T.b_len (by decide +kernel) (pa_cons (pe_fld (pv 0) rfl) pa_nil)) (nomark _))
    (pss_one (ps_ret pe_non))
    pss_nil)
  (pss_cons (ps_set (i := 2) scof_constant.nd rfl (Or.inl rfl) (pe_ix ix_d (pe_fld (pv 0) rfl) (pv 1) (fun _ _ => rfl)))
  (pss_one (ps_ret (pe_ifExp (pt_val (pe_callB (call_is_d I.cI) (by rfl) T.b_isinstance (by decide +kernel) (pa_cons (pv 2) (pa_cons (pe_glob (v := .ref _) rfl I.g_Code rfl) pa_nil)))) pe_never (pe_callB call_reprC (by rfl) T.b_repr (by decide +kernel) (pa_cons (pv 2) pa_nil))))))), ?_⟩
    show (_ : TS) _ [some (.ref c), some (.int (n : Int)), none] H
    have na := I.na "constants" (by decide)
    have cl := I.cI.cl
    simp only [r_seq, r_next, r_brk, r_cont, r_asg, r_name, r_ret, r_retN, r_drop, r_ifs, r_never, r_var, r_c, r_op, r_un, r_if, r_tst, r_b, r_not, r_and, r_or, r_andV, r_orV, r_notV, r_nil, r_cons, r_tup, r_lst, r_cb, r_call, r_bm, r_bm0, r_sl, r_nopart, r_part, r_rev, r_gnil, r_gcons, r_gsub, r_par, r_aug, r_chain, r_I0, r_I, r_U, r_ixd, r_lend, r_tupd, r_listd, r_sld, r_app, r_ext, r_reverse, r_setl, r_cat, r_int1, r_eqS, r_neS, scal_ii, scal_bb, scal_ss, at0, at1, at2, sq_lst, sq_tup, isLst_lst, List.getElem?_cons_zero, List.getElem?_cons_succ, List.set_cons_zero, List.set_cons_succ, V.int.injEq, V.bl.injEq, V.ref.injEq, V.str.injEq, HO.lst.injEq, HO.tup.injEq, Option.some.injEq, exists_eq_left', exists_eq_left, List.cons.injEq, and_true, true_and, decide_eq_true_eq, reduceCtorEq, false_and, exists_false, or_false, false_or, exists_const, and_assoc, exists_and_left, List.append_nil, ix0, ix1, ix2, cm_mod, cdw1009, cdw2003, cdw7, cdw64, cdw2, cm104729, cm2, cm3, upd_same, List.length_cons, List.length_nil, Int.reduceLT, Int.reduceLE, Nat.reduceAdd, Nat.reduceLeDiff, Nat.reduceLT, Int.reduceToNat, r_for1, r_forL, r_forT, r_lcL, r_lc1, r_yes, r_gtupD, wipe_0, wipe_1, List.cons_append, List.nil_append, r_forS, r_ipI, ite_false, ite_true, Bool.not_true, Bool.not_false, decide_true, decide_false, r_isd, r_islt, cD_ty, cD_ref, tD_non, tD_bl, tD_int, tD_str, tD_ref, tH_lst, tH_tup, tH_dK, tH_ins, ki_self, ki_int_bool, ki_non_int, ki_str_int, ki_lt_lst, ki_lt_tup, r_fld, r_sfld, HO.ins.injEq, cx_K, h1, h11, h12, na, cl]
    match n, k with
    | 0, k =>
      rw [if_neg (by decide)]
      refine ⟨_, rfl, .type "NoneType", rfl, _, I.no "NoneType" (by decide), ?_⟩
      rw [if_neg (by decide)]
      exact .inl ⟨rfl, k _ H (Same.refl H) ⟨"None", rfl, by decide⟩⟩
    | 1, k =>
      rw [if_neg (by decide)]
      refine ⟨_, rfl, .type "int", rfl, _, I.no "int" (by decide), ?_⟩
      rw [if_neg (by decide)]
      exact .inr ⟨5, rfl, by decide, k _ H (Same.refl H) ⟨_, rfl, by decide⟩⟩
    | n + 2, k =>
      rw [if_pos (by show ((2 : Nat) : Int) ≤ ((n + 2 : Nat) : Int); omega)]
      exact k _ H (Same.refl H) (by unfold Told; rw [if_neg (by simp)])
abbrev starget_of : Stmt := top 32
theorem sctarget_of : FnScope ["word", "argument", "end"] ["word", "argument", "end"] (defScope starget_of) := ⟨rfl, rfl, rfl, by decide +kernel, rfl, by decide +kernel, by decide +kernel⟩

/-- a written table with text keys, asked for these words alone -/
structure SetT (K : PySem.W.Frag) (w : World) (mg : Str → Option Value) (x : Str) (D : Addr) (ws : List Str) : Prop where
  kd : ∃ es n, KDict K w D es n
  g : mg x = some (.ref D)
  ok : ∀ z ∈ ws, ∃ r, PySem.W.nsIn K D z = some r
def rInT (K : PySem.W.Frag) (D : Addr) : R2 := fun x y H Q => ∃ (z : Str) (r : Option Value), x = .str z ∧ y = .ref D ∧ PySem.W.nsIn K D z = some r ∧ Q (.bl r.isSome) H
theorem op_inT {X : Cx} {D : Addr} (h : ∃ es n, KDict X.K X.w D es n) : OpR X (compareOp .In) (rInT X.K D) := by
  obtain ⟨es, n, h⟩ := h
  exact op_in_kd h
theorem r_inT {D : Addr} {x y : V} {H : Hp} {Q : VK} : rInT K D x y H Q = ∃ (z : Str) (r : Option Value), x = .str z ∧ y = .ref D ∧ PySem.W.nsIn K D z = some r ∧ Q (.bl r.isSome) H := rfl
/-- where a jump leads: some number -/
def spTarget (ws : List Str) : Sp := fun vs H Q _ => ∃ (z : Str) (n e : Nat), vs = [.str z, .int (n : Int), .int (e : Int)] ∧ z ∈ ws ∧ ∀ i : Int, i.natAbs ≤ 2 * n + e → Q (.int i) H
theorem ok_target_of {D : Addr} {ws : List Str} (T : Txt mg) (TB : SetT K w mg "BACKWARD" D ws) (F : FnP K "target_of" "target_of" starget_of f fd) : FnOk P w K mg base CX0 1 f fd ["word", "argument", "end"] (spTarget ws) := by
  refine F.ok sctarget_of (fun vs H Q E h => ?_) (fun cdv A outer s H vs Q E hr h => ?_)
  · obtain ⟨z, n, e, rfl, _⟩ := h
    rfl
  · obtain ⟨z, n, e, rfl, hz, k⟩ := h
    obtain ⟨r, er⟩ := TB.ok z hz
    refine ⟨_, PSs.nox (pss_one (ps_ret (pe_ifExp (pt_cmpR (op_inT TB.kd) (pv 0) (pe_ref TB.g) (by rfl)) (pe_op op_sub (pv 2) (pe_op op_mul pe_int (pv 1))) (pe_op op_add (pv 2) (pe_op op_mul pe_int (pv 1)))))), ?_⟩
    show (_ : TS) _ [some (.str z), some (.int (n : Int)), some (.int (e : Int))] H
    have c2 : CMul 2 (n : Int) := .inl (by decide)
    simp only [r_seq, r_next, r_brk, r_cont, r_asg, r_name, r_ret, r_retN, r_drop, r_ifs, r_never, r_var, r_c, r_op, r_un, r_if, r_tst, r_b, r_not, r_and, r_or, r_andV, r_orV, r_notV, r_nil, r_cons, r_tup, r_lst, r_cb, r_call, r_bm, r_bm0, r_sl, r_nopart, r_part, r_rev, r_gnil, r_gcons, r_gsub, r_par, r_aug, r_chain, r_I0, r_I, r_U, r_ixd, r_lend, r_tupd, r_listd, r_sld, r_app, r_ext, r_reverse, r_setl, r_cat, r_int1, r_eqS, r_neS, scal_ii, scal_bb, scal_ss, at0, at1, at2, sq_lst, sq_tup, isLst_lst, List.getElem?_cons_zero, List.getElem?_cons_succ, List.set_cons_zero, List.set_cons_succ, V.int.injEq, V.bl.injEq, V.ref.injEq, V.str.injEq, HO.lst.injEq, HO.tup.injEq, Option.some.injEq, exists_eq_left', exists_eq_left, List.cons.injEq, and_true, true_and, decide_eq_true_eq, reduceCtorEq, false_and, exists_false, or_false, false_or, exists_const, and_assoc, exists_and_left, List.append_nil, ix0, ix1, ix2, cm_mod, cdw1009, cdw2003, cdw7, cdw64, cdw2, cm104729, cm2, cm3, upd_same, List.length_cons, List.length_nil, Int.reduceLT, Int.reduceLE, Nat.reduceAdd, Nat.reduceLeDiff, Nat.reduceLT, Int.reduceToNat, r_for1, r_forL, r_forT, r_lcL, r_lc1, r_yes, r_gtupD, wipe_0, wipe_1, List.cons_append, List.nil_append, r_forS, r_ipI, ite_false, ite_true, Bool.not_true, Bool.not_false, decide_true, decide_false, r_isd, r_islt, cD_ty, cD_ref, tD_non, tD_bl, tD_int, tD_str, tD_ref, tH_lst, tH_tup, tH_dK, tH_ins, ki_self, ki_int_bool, ki_non_int, ki_str_int, ki_lt_lst, ki_lt_tup, r_fld, r_sfld, HO.ins.injEq, cx_K, r_inT, c2]
    refine ⟨r, er, ?_⟩
    exact ite2 (fun _ => k _ (by omega)) (fun _ => k _ (by omega))
end
end C58

set_option maxHeartbeats 1000000
namespace C58
open PySem PySem.Spec PyProof.Rows L2 StrLaws
/-- what a word's argument is: a goal, nothing to be told, or told by a def -/
inductive MK where
  | lead
  | no
  | fn (g : Nat → Bool)
def goodK (k : MK) (n : Nat) : Bool := match k with
  | .fn g => g n
  | _ => true
structure MeanT (K : PySem.W.Frag) (w : World) (mg : Str → Option Value) (CC : Addr) (DL DM : Addr) (ws : List Str) (kd : Str → MK) (S : Addr → Option Sp) : Prop where
  l : SetT K w mg "LEADING" DL ws
  m : SetT K w mg "MEANINGS" DM ws
  lead : ∀ z ∈ ws, ∃ r, PySem.W.nsIn K DL z = some r ∧ r.isSome = (match kd z with | .lead => true | _ => false)
  no : ∀ z ∈ ws, kd z = .no → PySem.W.nsIn K DM z = some none
  fn : ∀ z ∈ ws, ∀ g, kd z = .fn g → ∃ f, PySem.W.nsIn K DM z = some (some (.ref f)) ∧ S f = some (spOf CC 100 g)
def rNiT (K : PySem.W.Frag) (D : Addr) : R2 := fun x y H Q => ∃ (z : Str) (r : Option Value), x = .str z ∧ y = .ref D ∧ PySem.W.nsIn K D z = some r ∧ Q (.bl (!r.isSome)) H
theorem op_niT {X : Cx} {D : Addr} (h : ∃ es n, KDict X.K X.w D es n) : OpR X (compareOp .NotIn) (rNiT X.K D) := by
  obtain ⟨es, n, h⟩ := h
  exact op_notIn_kd h
theorem r_niT {K : PySem.W.Frag} {D : Addr} {x y : V} {H : Hp} {Q : VK} : rNiT K D x y H Q = ∃ (z : Str) (r : Option Value), x = .str z ∧ y = .ref D ∧ PySem.W.nsIn K D z = some r ∧ Q (.bl (!r.isSome)) H := rfl
def spMean (CC CN : Addr) (ws : List Str) (kd : Str → MK) : Sp := fun vs H Q E => ∃ (c : Addr) (all : List Nat) (z : Str) (n e : Nat), vs = [.ref c, .str z, .int (n : Int), .int (e : Int)] ∧ z ∈ ws ∧ CodeK CC H c all ∧ 2 * n + e < 2 ^ 1000 ∧
  (goodK (kd z) n = true → ∀ v H', Same H H' → Told 1000 true v → Q v H') ∧ (goodK (kd z) n = false → ∀ d H', H d = none → Same H H' → H' d = some (.xd [("field", .str "code")]) → E (.ref CN) (some d) H')
theorem text_short {i : Int} (h : i.natAbs < 2 ^ 1000) : (Str.ofString (toString i)).length ≤ 303 := by
  have e := PySem.int_text_length_le10 (a := i) (k := 302) (by decide) (Nat.lt_trans h (by decide +kernel))
  rw [PySem.ofString_length]
  omega
section
variable {P : Program} {w : World} {K : PySem.W.Frag} {mg : Str → Option Value} {base : Heap} {f : Addr} {fd : FuncData}
abbrev smeaning_of : Stmt := top 63
theorem scmeaning_of : FnScope ["code", "word", "argument", "end", "tell", "meaning"] ["code", "word", "argument", "end"] (defScope smeaning_of) := ⟨rfl, rfl, rfl, by decide +kernel, rfl, by decide +kernel, by decide +kernel⟩

theorem ok_meaning_of {CC CN DL DM : Addr} {ws : List Str} {kd : Str → MK} {S : Addr → Option Sp} (T : Txt mg) (M : MeanT K w mg CC DL DM ws kd S) (hS : ∀ f sp, S f = some sp → Held P w K mg base 2 f sp) (X_NoCode : Exn P w K mg base "NoCode" CN "field")
    (F : FnP K "meaning_of" "meaning_of" smeaning_of f fd) (C_target_of : Cal P w K mg base 1 "target_of" ["word", "argument", "end"] (spTarget ws)) : FnOk P w K mg base (CX P w) 3 f fd ["code", "word", "argument", "end"] (spMean CC CN ws kd) := by
  refine F.ok scmeaning_of (fun vs H Q E h => ?_) (fun cdv A outer s H vs Q E hr h => ?_)
  · obtain ⟨c, all, z, n, e, rfl, _⟩ := h
    rfl
  · refine ⟨_, (pss_cons (ps_if (pt_cmpR (op_inT M.l.kd) (pv 1) (pe_ref M.l.g) (by rfl))
    (pss_one (ps_ret (pe_joined (.cons pe_str (.cons (pe_fmt (pe_cal C_target_of (hr.mono (by decide)) rfl (pa_cons (pv 1) (pa_cons (pv 2) (pa_cons (pv 3) pa_nil))))) .nil)))))
    pss_nil)
  (pss_cons (ps_if (pt_cmpR (op_niT M.m.kd) (pv 1) (pe_ref M.m.g) (by rfl))
    (pss_one (ps_ret pe_str))
    pss_nil)
  (pss_cons (ps_set (i := 4) scmeaning_of.nd rfl (Or.inl rfl) (pe_ix ix_kdict (pe_ref M.m.g) (pv 1) (fun _ _ => rfl)))
  (pss_cons (ps_set (i := 5) scmeaning_of.nd rfl (Or.inl rfl) (pe_callA hS (hr.mono (by decide)) (i := 4) rfl (Or.inl rfl) (pa_cons (pv 0) (pa_cons (pv 2) pa_nil))))
  (pss_cons (ps_if (pt_cmpR op_isN (pv 5) pe_non (nomark _))
    (pss_one (ps_raise rfl (takes_of rfl rfl rfl rfl) (pmk_x X_NoCode (hr.mono (by decide)) rfl pe_str)))
    pss_nil)
  (pss_one (ps_ret (pv 5)))))))), ?_⟩
    obtain ⟨c, all, z, n, e, rfl, hz, hc, hb, good, bad⟩ := h
    show (_ : TS) _ [some (.ref c), some (.str z), some (.int (n : Int)), some (.int (e : Int)), none, none] H
    simp only [r_seq, r_next, r_brk, r_cont, r_asg, r_name, r_ret, r_retN, r_drop, r_ifs, r_never, r_var, r_c, r_op, r_un, r_if, r_tst, r_b, r_not, r_and, r_or, r_andV, r_orV, r_notV, r_nil, r_cons, r_tup, r_lst, r_cb, r_call, r_bm, r_bm0, r_sl, r_nopart, r_part, r_rev, r_gnil, r_gcons, r_gsub, r_par, r_aug, r_chain, r_I0, r_I, r_U, r_ixd, r_lend, r_tupd, r_listd, r_sld, r_app, r_ext, r_reverse, r_setl, r_cat, r_int1, r_eqS, r_neS, scal_ii, scal_bb, scal_ss, at0, at1, at2, sq_lst, sq_tup, isLst_lst, List.getElem?_cons_zero, List.getElem?_cons_succ, List.set_cons_zero, List.set_cons_succ, V.int.injEq, V.bl.injEq, V.ref.injEq, V.str.injEq, HO.lst.injEq, HO.tup.injEq, Option.some.injEq, exists_eq_left', exists_eq_left, List.cons.injEq, and_true, true_and, decide_eq_true_eq, reduceCtorEq, false_and, exists_false, or_false, false_or, exists_const, and_assoc, exists_and_left, List.append_nil, ix0, ix1, ix2, cm_mod, cdw1009, cdw2003, cdw7, cdw64, cdw2, cm104729, cm2, cm3, upd_same, List.length_cons, List.length_nil, Int.reduceLT, Int.reduceLE, Nat.reduceAdd, Nat.reduceLeDiff, Nat.reduceLT, Int.reduceToNat, r_for1, r_forL, r_forT, r_lcL, r_lc1, r_yes, r_gtupD, wipe_0, wipe_1, List.cons_append, List.nil_append, r_forS, r_ipI, ite_false, ite_true, Bool.not_true, Bool.not_false, decide_true, decide_false, r_isd, r_islt, cD_ty, cD_ref, tD_non, tD_bl, tD_int, tD_str, tD_ref, tH_lst, tH_tup, tH_dK, tH_ins, ki_self, ki_int_bool, ki_non_int, ki_str_int, ki_lt_lst, ki_lt_tup, r_fld, r_sfld, HO.ins.injEq, cx_K, r_inT, r_niT, r_fmt, tJs]
    obtain ⟨r, er, rl⟩ := M.lead z hz
    refine ⟨r, er, ?_⟩
    have big : ∀ {m : Nat}, m ≤ 1000 → m ≤ sizeLine := fun h => Nat.le_trans h (by decide)
    cases hk : kd z with
    | lead =>
      rw [hk] at rl good
      rw [if_pos rl]
      have a1 : (Str.empty ++ Str.ofString "to ").length = 3 := by rw [strLen_append]; rfl
      refine ⟨big (by omega), z, n, e, rfl, hz, fun i hi => .inr ⟨i, rfl, ?_, ?_, ?_⟩⟩
      · rcases Nat.eq_zero_or_pos i.natAbs with q | q
        · rw [q]
          decide
        · exact (Nat.log2_lt (by omega)).mpr (Nat.lt_of_le_of_lt hi (Nat.lt_trans hb (by decide +kernel)))
      · have := text_short (Nat.lt_of_le_of_lt hi hb)
        exact big (by rw [strLen_append, a1]; omega)
      · have := text_short (Nat.lt_of_le_of_lt hi hb)
        exact good rfl _ H (Same.refl H) ⟨_, rfl, by rw [strLen_append, a1]; omega⟩
    | no =>
      rw [hk] at rl good
      rw [if_neg (by rw [rl]; decide)]
      refine ⟨none, M.no z hz hk, ?_⟩
      rw [if_pos (by rfl)]
      exact good rfl _ H (Same.refl H) ⟨"", rfl, by decide⟩
    | fn g =>
      rw [hk] at rl good bad
      rw [if_neg (by rw [rl]; exact Bool.false_ne_true)]
      obtain ⟨f', ef, eS⟩ := M.fn z hz g hk
      obtain ⟨es, n', D⟩ := M.m.kd
      refine ⟨some (.ref f'), ef, ?_⟩
      rw [if_neg (by simp)]
      refine ⟨DM, z, .ref f', rfl, rfl, ⟨es, n', .ref f', D.at_, D.lit, ef, rfl⟩, f', _, rfl, eS, _, rfl, _, rfl, c, all, n, rfl, hc, fun v H1 s1 tv => ?_⟩
      unfold Told at tv
      dsimp only
      cases hg : g n with
      | true =>
        rw [hg, if_pos rfl] at tv
        obtain ⟨y, rfl, l⟩ := tv
        rw [if_neg (show ¬ (V.str y = V.non) from nofun)]
        exact good hg _ H1 s1 ⟨y, rfl, by omega⟩
      | false =>
        rw [hg, if_neg (by decide)] at tv
        subst tv
        rw [if_pos rfl]
        exact raise_x (fun Q q => q) fun d H' hd k2 hx => bad hg d H' (s1.free hd) (fun y o x => k2 y o (s1 y o x)) hx
end
end C58

set_option maxHeartbeats 2000000
namespace C58
open PySem PySem.Spec PyProof.Rows L2 StrLaws
/-! ### facts of the cut bytes -/
theorem extF_bd {all : List Nat} (hb : ∀ x ∈ all, x < 256) : ∀ {n i a k y : Nat}, a = 256 * y → y < 256 ^ k → ∃ m y', (extF all n i a).1 = i + 2 * m ∧ (extF all n i a).2 = 256 * y' ∧ y' < 256 ^ (k + m) ∧ ∀ j, j < m → all.getD (i + 2 * j) 0 = 71 ∧ i + 2 * j + 1 < all.length
  | 0, i, a, k, y, ha, hy => ⟨0, y, rfl, ha, hy, fun j h => absurd h (Nat.not_lt_zero _)⟩
  | n + 1, i, a, k, y, ha, hy => by
    rw [extF]
    split
    · rename_i q
      have x256 := b256 hb (i + 1)
      obtain ⟨m, y', g1, g2, g3, g4⟩ := extF_bd hb (n := n) (i := i + 2) (a := (a + all.getD (i + 1) 0) * 256) (k := k + 1) (y := a + all.getD (i + 1) 0) (Nat.mul_comm _ _) (by rw [Nat.pow_succ]; omega)
      refine ⟨m + 1, y', by rw [g1]; omega, g2, by rw [show k + (m + 1) = k + 1 + m from by omega]; exact g3, fun j hj => ?_⟩
      cases j with
      | zero => exact ⟨q.2, q.1⟩
      | succ j =>
        have := g4 j (by omega)
        rw [show i + 2 * (j + 1) = i + 2 + 2 * j from by omega]
        exact this
    · exact ⟨0, y, rfl, ha, hy, fun j h => absurd h (Nat.not_lt_zero _)⟩
/-- one instruction of the cut bytes: where its own number stands, all ahead being what extends it -/
structure InsAt (wd : WD) (all : List Nat) (b : Nat) (w : Str) (a e : Nat) : Prop where
  ex : ∃ m u, wd (all.getD (b + 2 * m) 0) = some (w, u) ∧ (∀ j, j < m → all.getD (b + 2 * j) 0 = 71 ∧ b + 2 * j + 1 < all.length) ∧ b + 2 * m + 1 < all.length ∧ m ≤ 3
  lt : b < e
  le : e ≤ all.length
  a : a < 2 ^ 40
theorem nextF_at {wd : WD} {all : List Nat} {b : Nat} (hb : ∀ x ∈ all, x < 256) (hu : ∀ n w u, wd n = some (w, u) → 1 ≤ u) {w : Str} {a e : Nat} (h : nextF wd all b = some (w, a, e)) : InsAt wd all b w a e := by
  rw [nextF_eq] at h
  split at h
  · cases h
  · rename_i ng
    obtain ⟨m, y', g1, g2, g3, g4, g5⟩ : ∃ m y', (firstF wd all b).1 = b + 2 * m ∧ (firstF wd all b).2 = 256 * y' ∧ y' < 256 ^ m ∧ (∀ j, j < m → all.getD (b + 2 * j) 0 = 71 ∧ b + 2 * j + 1 < all.length) ∧ m ≤ 3 := by
      unfold firstF at ng ⊢
      split
      · exact ⟨0, 0, rfl, rfl, by decide, (fun j h => absurd h (Nat.not_lt_zero _)), by omega⟩
      · rename_i q
        obtain ⟨m, y', g1, g2, g3, g4⟩ := extF_bd (all := all) hb (n := all.length) (i := b) (a := 0) (k := 0) (y := 0) rfl (by decide)
        rw [if_neg q] at ng
        refine ⟨m, y', g1, g2, by rw [Nat.zero_add] at g3; exact g3, g4, ?_⟩
        by_cases c : m ≤ 3
        · exact c
        · exfalso
          refine ng ⟨?_, .inl fun z => ?_⟩
          · cases e : wd (all.getD b 0) with
            | none => rfl
            | some x => exact absurd (by rw [e]; rfl) q
          · rw [g1] at z
            omega
    rw [g1, g2] at h
    split at h
    · cases h
    · rename_i w' u ew
      split at h
      · cases h
      · rename_i c
        have u1 := hu _ _ _ ew
        have c1 : ¬ all.length < b + 2 * m + 2 * u := fun z => c (.inl z)
        have x256 := b256 hb (b + 2 * m + 1)
        injection h with h
        injection h with h1 h2
        injection h2 with h2 h3
        subst h1
        refine ⟨⟨m, u, ew, g4, by omega, g5⟩, by omega, by omega, ?_⟩
        have : 256 ^ m ≤ 256 ^ 3 := Nat.pow_le_pow_right (by decide) g5
        omega
/-- the cut bytes, one instruction behind the other -/
inductive CutAt (wd : WD) (all : List Nat) : Nat → List (Nat × Str × Nat) → Prop
  | nil (b : Nat) : CutAt wd all b []
  | cons {b : Nat} {w : Str} {a e : Nat} {ls : List (Nat × Str × Nat)} (h : InsAt wd all b w a e) (t : CutAt wd all e ls) : CutAt wd all b ((b, w, a) :: ls)
theorem cutF_at {wd : WD} {all : List Nat} (hb : ∀ x ∈ all, x < 256) (hu : ∀ n w u, wd n = some (w, u) → 1 ≤ u) : ∀ {n b : Nat}, CutAt wd all b (cutF wd all n b).1
  | 0, b => .nil b
  | n + 1, b => by
    rw [cutF]
    split
    · cases e : nextF wd all b with
      | none => exact .nil b
      | some p =>
        obtain ⟨w, a, e'⟩ := p
        exact .cons (nextF_at hb hu e) (cutF_at hb hu)
    · exact .nil b
theorem CutAt.get : ∀ {wd : WD} {all : List Nat} {b : Nat} {ls : List (Nat × Str × Nat)}, CutAt wd all b ls → ∀ i (h : i < ls.length), ∃ e, InsAt wd all ls[i].1 ls[i].2.1 ls[i].2.2 e
  | _, _, _, _, .nil _, i, h => absurd h (Nat.not_lt_zero _)
  | _, _, _, _, .cons a t, 0, _ => ⟨_, a⟩
  | _, _, _, _, .cons a t, i + 1, h => t.get i (by simpa using h)
theorem CutAt.len : ∀ {wd : WD} {all : List Nat} {b : Nat} {ls : List (Nat × Str × Nat)}, CutAt wd all b ls → b ≤ all.length → ls.length + b ≤ all.length
  | _, _, _, _, .nil _, h => by simpa using h
  | _, _, _, _, .cons a t, h => by
    have := t.len a.le
    have := a.lt
    rw [List.length_cons]
    omega
theorem CutAt.lt : ∀ {wd : WD} {all : List Nat} {b : Nat} {ls : List (Nat × Str × Nat)}, CutAt wd all b ls → ∀ x ∈ ls, x.1 < all.length
  | _, _, _, _, .nil _, x, h => by cases h
  | _, _, _, _, .cons a t, x, h => by
    rcases List.mem_cons.mp h with rfl | h
    · have := a.lt
      have := a.le
      show _ < _
      omega
    · exact t.lt x h
/-- what holds of a right code's bytes -/
def insOk (wd : WD) (kd : Str → MK) (all : List Nat) : Prop := wrongF wd all = none ∧ ∀ x ∈ (cutF wd all all.length 0).1, goodK (kd x.2.1) x.2.2 = true
end C58

set_option maxHeartbeats 2000000
namespace C58
open PySem PySem.Spec PyProof.Rows L2 StrLaws
/-! ### a def that may raise, as its callers see it -/
structure CalE (P : Program) (w : World) (K : PySem.W.Frag) (mg : Str → Option Value) (base : Heap) (k : Nat) (x : Str) (ps : List Str) (sp : Sp) : Prop where
  ex : ∃ f fd, FnOk P w K mg base (L2.CX P w) k f fd ps sp ∧ mg x = some (.ref f) ∧ PySem.W.keepIn K (.ref f) = true ∧ Binds K fd ps []
theorem pe_calE {X : Cx} {W : WX} {E : XK} {k : Nat} {x : Str} {ps : List Str} {sp : Sp} {e : Expr} {es : List Expr} {t : TA} {p pos : Pos} (C : CalE X.prog X.w X.K X.mg X.base k x ps sp) (hr : Room k X.A) (hg : Gl X x) (tk : Takes X W) (hW : ∀ cls d σ H, E cls d H → W cls d σ H) (ha : PA X (e :: es) t)
    (hdb : (x == ("__debug__" : Str)) = false := by decide) (he : starEach (e :: es) X.env = (false, eval e X.env) :: starEach es X.env := by rfl) (hpl : (backTo pos (starEach es X.env)).any (·.1) = false := by rfl) :
    PE X (.Call (.Name x p) (e :: es) [] pos) (tCall sp [] E t) := by
  obtain ⟨f, fd, F, m, kp, b⟩ := C.ex
  exact pe_call F hr hg m kp b .nil (passes_call tk hW) ha hdb he hpl

section
variable {P : Program} {w : World} {K : PySem.W.Frag} {mg : Str → Option Value} {base : Heap} {f : Addr} {fd : FuncData}
abbrev sinstructions : Stmt := top 61
theorem scinstructions : FnScope ["code", "data", "begins", "words", "arguments", "wrong", "lines", "told", "begin", "word", "argument", "end", "line", "number"] ["code"] (defScope sinstructions) := ⟨rfl, rfl, rfl, by decide +kernel, rfl, by decide +kernel, by decide +kernel⟩

def spInstr (CC CN : Addr) (wd : WD) (kd : Str → MK) (K : PySem.W.Frag) : Sp := fun vs H Q E => ∃ x : V, vs = [x] ∧ ((∃ t, tyD CC H x = some t ∧ PySem.W.kitOne K t (.ref CC) = some false ∧ ∀ d H', H d = none → Same H H' → H' d = some (.xd [("field", .str "code")]) → E (.ref CN) (some d) H') ∨
  ∃ c all, x = .ref c ∧ CodeK CC H c all ∧ all.length ≤ 1000 ∧ (∀ x ∈ all, x < 256) ∧ (insOk wd kd all → ∀ F H' xs, H F = none → Same H H' → H' F = some (.lst xs) → (cutF wd all all.length 0).1.length ≤ xs.length → Q (.ref F) H') ∧
    (¬ insOk wd kd all → ∀ d H', H d = none → Same H H' → H' d = some (.xd [("field", .str "code")]) → E (.ref CN) (some d) H'))
def t_ext (K : PySem.W.Frag) : TS := tWhile (tTest (tOp rEq (tVar 13) (tC (V.int 71))))
  (tSeq (tDrop (tBM K "list" rAppend (tVar 7) (tCons (tTup (tCons (tVar 8) (tCons (tC (V.str (Str.ofString "EXTENDED_ARG"))) (tCons (tOp rIxd (tVar 1) (tOp (rI0 fun i j => V.int (i + j)) (tVar 8) (tC (V.int 1)))) (tCons (tC (V.str (Str.ofString ""))) (tCons (tVar 12) tNil)))))) tNil)))
    (tSeq (tAug 8 (tC (V.int 2)) (ipI fun i j => i + j)) (tSeq (tAsg (tOp rIxd (tVar 1) (tVar 8)) (gName 13)) (tAsg (tOp rIxd (tVar 6) (tOp (rI CDivW fun i j => V.int (i / j)) (tVar 8) (tC (V.int 2)))) (gName 12)))))
/-- all but the list at T stays -/
abbrev Stay (T : Addr) (H H' : Hp) : Prop := Keep T H H'
theorem ext_run {Dn : Ends} {c u B W A Lr Td : Addr} {all : List Nat} {b m : Nat} {wv av ev : Option V} {told : List V} {H : Hp} (hu : H u = some (.tup (vn all))) (hL : H Lr = some (.lst (List.replicate (all.length / 2) V.non))) (hT : H Td = some (.lst told))
    (hx : ∀ j, j < m → all.getD (b + 2 * j) 0 = 71 ∧ b + 2 * j + 1 < all.length) (he : b + 2 * m + 1 < all.length) (h71 : all.getD (b + 2 * m) 0 ≠ 71) (hz : told.length + m ≤ 100000) (hl : all.length ≤ 1000) (LT : Lr ≠ Td)
    (k : ∀ told' H', Stay Td H H' → H' Td = some (.lst told') → told.length ≤ told'.length → told'.length ≤ told.length + m → Dn.nx [some (.ref c), some (.ref u), some (.ref B), some (.ref W), some (.ref A), some .non, some (.ref Lr), some (.ref Td), some (.int ((b + 2 * m : Nat) : Int)), wv, av, ev, some .non, some (.int ((all.getD (b + 2 * m) 0 : Nat) : Int))] H') :
    t_ext K Dn [some (.ref c), some (.ref u), some (.ref B), some (.ref W), some (.ref A), some .non, some (.ref Lr), some (.ref Td), some (.int (b : Int)), wv, av, ev, some .non, some (.int ((all.getD b 0 : Nat) : Int))] H := by
  unfold t_ext
  refine while_d (fun σ H' => ∃ j told', j ≤ m ∧ σ = [some (.ref c), some (.ref u), some (.ref B), some (.ref W), some (.ref A), some .non, some (.ref Lr), some (.ref Td), some (.int ((b + 2 * j : Nat) : Int)), wv, av, ev, some .non, some (.int ((all.getD (b + 2 * j) 0 : Nat) : Int))] ∧ Stay Td H H' ∧ H' Td = some (.lst told') ∧ told'.length = told.length + j)
    (fun σ _ => match σ with | _ :: _ :: _ :: _ :: _ :: _ :: _ :: _ :: some (.int a) :: _ => 1000 - a.toNat | _ => 0) ⟨0, told, Nat.zero_le _, rfl, Keep.refl Td H, hT, rfl⟩ ?_
  rintro σ H1 ⟨j, told', hj, rfl, k1, e1, l1⟩
  have c2 : (V.int ((all.getD (b + 2 * j) 0 : Nat) : Int) = V.int 71) = (all.getD (b + 2 * j) 0 = 71) := propext ⟨fun q => Int.ofNat.inj (V.int.inj q), fun q => by rw [q]; rfl⟩
  refine ⟨decide (all.getD (b + 2 * j) 0 = 71), fun QT q => ?_, fun cc => ?_, fun cc => ?_⟩
  · simp only [r_seq, r_next, r_brk, r_cont, r_asg, r_name, r_ret, r_retN, r_drop, r_ifs, r_never, r_var, r_c, r_op, r_un, r_if, r_tst, r_b, r_not, r_and, r_or, r_andV, r_orV, r_notV, r_nil, r_cons, r_tup, r_lst, r_cb, r_call, r_bm, r_bm0, r_sl, r_nopart, r_part, r_rev, r_gnil, r_gcons, r_gsub, r_par, r_aug, r_chain, r_I0, r_I, r_U, r_ixd, r_lend, r_tupd, r_listd, r_sld, r_app, r_ext, r_reverse, r_setl, r_cat, r_int1, r_eqS, r_neS, scal_ii, scal_bb, scal_ss, at0, at1, at2, sq_lst, sq_tup, isLst_lst, List.getElem?_cons_zero, List.getElem?_cons_succ, List.set_cons_zero, List.set_cons_succ, V.int.injEq, V.bl.injEq, V.ref.injEq, V.str.injEq, HO.lst.injEq, HO.tup.injEq, Option.some.injEq, exists_eq_left', exists_eq_left, List.cons.injEq, and_true, true_and, decide_eq_true_eq, reduceCtorEq, false_and, exists_false, or_false, false_or, exists_const, and_assoc, exists_and_left, List.append_nil, ix0, ix1, ix2, cm_mod, cdw1009, cdw2003, cdw7, cdw64, cdw2, cm104729, cm2, cm3, upd_same, List.length_cons, List.length_nil, Int.reduceLT, Int.reduceLE, Nat.reduceAdd, Nat.reduceLeDiff, Nat.reduceLT, Int.reduceToNat, r_for1, r_forL, r_forT, r_lcL, r_lc1, r_yes, r_gtupD, wipe_0, wipe_1, List.cons_append, List.nil_append, r_forS, r_ipI, ite_false, ite_true, Bool.not_true, Bool.not_false, decide_true, decide_false, r_isd, r_islt, cD_ty, cD_ref, tD_non, tD_bl, tD_int, tD_str, tD_ref, tH_lst, tH_tup, tH_dK, tH_ins, ki_self, ki_int_bool, ki_non_int, ki_str_int, ki_lt_lst, ki_lt_tup, r_fld, r_sfld, HO.ins.injEq, cx_K, c2]
    exact q
  · have jl : j < m := by
      by_cases q : j < m
      · exact q
      · have e : j = m := by omega
        rw [e] at cc
        exact absurd (of_decide_eq_true cc) h71
    have bd := (hx j jl).2
    have nb : b + 2 * (j + 1) + 1 < all.length := by
      by_cases q : j + 1 < m
      · exact (hx (j + 1) q).2
      · rw [show j + 1 = m from by omega]
        exact he
    have ut := k1 u _ (fun z => by rw [z, hT] at hu; cases hu) hu
    have Lt := k1 Lr _ LT hL
    have e2 : atI (vn all) (((b + 2 * j : Nat) : Int) + 1) = some (.int ((all.getD (b + 2 * j + 1) 0 : Nat) : Int)) := vn_at bd
    have ec : ((b + 2 * j : Nat) : Int) + 2 = ((b + 2 * (j + 1) : Nat) : Int) := by omega
    have e4 : atI (vn all) ((b + 2 * (j + 1) : Nat) : Int) = some (.int ((all.getD (b + 2 * (j + 1)) 0 : Nat) : Int)) := vn_at (by omega)
    have ed : ((b + 2 * (j + 1) : Nat) : Int) / 2 = ((b / 2 + (j + 1) : Nat) : Int) := by omega
    have e5 : atI (List.replicate (all.length / 2) V.non) ((b / 2 + (j + 1) : Nat) : Int) = some .non := atn (by rw [List.getElem?_replicate, if_pos (by omega)])
    have cd : ∀ i : Int, CDivW i 2 := fun i => of_eq_true (cdw ⟨by decide, by decide⟩)
    have uT : u ≠ Td := fun z => by rw [z, hT] at hu; cases hu
    simp only [r_seq, r_next, r_brk, r_cont, r_asg, r_name, r_ret, r_retN, r_drop, r_ifs, r_never, r_var, r_c, r_op, r_un, r_if, r_tst, r_b, r_not, r_and, r_or, r_andV, r_orV, r_notV, r_nil, r_cons, r_tup, r_lst, r_cb, r_call, r_bm, r_bm0, r_sl, r_nopart, r_part, r_rev, r_gnil, r_gcons, r_gsub, r_par, r_aug, r_chain, r_I0, r_I, r_U, r_ixd, r_lend, r_tupd, r_listd, r_sld, r_app, r_ext, r_reverse, r_setl, r_cat, r_int1, r_eqS, r_neS, scal_ii, scal_bb, scal_ss, at0, at1, at2, sq_lst, sq_tup, isLst_lst, List.getElem?_cons_zero, List.getElem?_cons_succ, List.set_cons_zero, List.set_cons_succ, V.int.injEq, V.bl.injEq, V.ref.injEq, V.str.injEq, HO.lst.injEq, HO.tup.injEq, Option.some.injEq, exists_eq_left', exists_eq_left, List.cons.injEq, and_true, true_and, decide_eq_true_eq, reduceCtorEq, false_and, exists_false, or_false, false_or, exists_const, and_assoc, exists_and_left, List.append_nil, ix0, ix1, ix2, cm_mod, cdw1009, cdw2003, cdw7, cdw64, cdw2, cm104729, cm2, cm3, upd_same, List.length_cons, List.length_nil, Int.reduceLT, Int.reduceLE, Nat.reduceAdd, Nat.reduceLeDiff, Nat.reduceLT, Int.reduceToNat, r_for1, r_forL, r_forT, r_lcL, r_lc1, r_yes, r_gtupD, wipe_0, wipe_1, List.cons_append, List.nil_append, r_forS, r_ipI, ite_false, ite_true, Bool.not_true, Bool.not_false, decide_true, decide_false, r_isd, r_islt, cD_ty, cD_ref, tD_non, tD_bl, tD_int, tD_str, tD_ref, tH_lst, tH_tup, tH_dK, tH_ins, ki_self, ki_int_bool, ki_non_int, ki_str_int, ki_lt_lst, ki_lt_tup, r_fld, r_sfld, HO.ins.injEq, cx_K, e1, ut, e2]
    refine ⟨tyl e1, szl (by decide : 5 ≤ 1000), fun p hp => ⟨told', by rw [upd_ne (ne_new e1 hp)]; exact e1, Nat.lt_of_le_of_lt (by omega : _ ≤ 200000) (by decide), vn all, by rw [upd_ne uT, upd_ne (ne_new ut hp), ut]; rfl, _, by rw [ec]; exact e4, _, by rw [upd_ne LT, upd_ne (ne_new Lt hp), Lt]; rfl, _, by rw [ec, ed]; exact e5, ?_⟩⟩
    refine ⟨⟨j + 1, jl, ec, rfl, rfl, fun y o ny e => ?_, by rw [List.length_append, List.length_singleton]; omega⟩, by omega⟩
    rw [upd_ne ny, upd_ne (ne_new (k1 y o ny e) hp)]
    exact k1 y o ny e
  · have cc' := of_decide_eq_false cc
    have e : j = m := by
      by_cases q : j < m
      · exact absurd (hx j q).1 cc'
      · omega
    subst e
    exact k told' H1 k1 e1 (by omega) (by omega)
def t_turn (K : PySem.W.Frag) (CC CN : Addr) (ws : List Str) (kd : Str → MK) (E : XK) : TS := tSeq (tAsg (tOp rIxd (tVar 6) (tOp (rI CDivW fun i j => V.int (i / j)) (tVar 8) (tC (V.int 2)))) (gName 12)) (tSeq (tAsg (tOp rIxd (tVar 1) (tVar 8)) (gName 13)) (tSeq (t_ext K)
  (tIfS (tTest (tOp (rI0 fun i j => V.bl (decide (i < j))) (tVar 13) (tC (V.int 45))))
    (tDrop (tBM K "list" rAppend (tVar 7) (tCons (tTup (tCons (tVar 8) (tCons (tVar 9) (tCons (tC V.non) (tCons (tC (V.str (Str.ofString ""))) (tCons (tVar 12) tNil)))))) tNil)))
    (tDrop (tBM K "list" rAppend (tVar 7) (tCons (tTup (tCons (tVar 8) (tCons (tVar 9) (tCons (tVar 10) (tCons (tCall (spMean CC CN ws kd) [] E (tCons (tVar 0) (tCons (tVar 9) (tCons (tVar 10) (tCons (tVar 11) tNil))))) (tCons (tVar 12) tNil)))))) tNil))))))
theorem turn_run {Dn : Ends} {E : XK} {CC CN c u B W A Lr Td : Addr} {ws : List Str} {kd : Str → MK} {wd : WD} {all : List Nat} {b a e : Nat} {wo : Str} {v12 v13 : Option V} {told : List V} {H0 H : Hp} (hwd : ∀ n w u, wd n = some (w, u) → w ∈ ws) (h71 : wd 71 = none) (h45 : ∀ n w u, wd n = some (w, u) → n < 45 → kd w = .no)
    (hc : CodeK CC H0 c all) (S0 : Same H0 H) (hT0 : H0 Td = none) (hu : H u = some (.tup (vn all))) (hL : H Lr = some (.lst (List.replicate (all.length / 2) V.non))) (hT : H Td = some (.lst told)) (I : ∃ e0, InsAt wd all b wo a e0) (he : e ≤ all.length) (hl : all.length ≤ 1000) (hz : told.length ≤ 5000) (LT : Lr ≠ Td)
    (k : goodK (kd wo) a = true → ∀ v8 v12 v13 told' H', Stay Td H H' → H' Td = some (.lst told') → told.length + 1 ≤ told'.length → told'.length ≤ told.length + 4 → Dn.nx [some (.ref c), some (.ref u), some (.ref B), some (.ref W), some (.ref A), some .non, some (.ref Lr), some (.ref Td), v8, some (.str wo), some (.int (a : Int)), some (.int (e : Int)), v12, v13] H')
    (bad : goodK (kd wo) a = false → ∀ d H', H0 d = none → Same H0 H' → H' d = some (.xd [("field", .str "code")]) → E (.ref CN) (some d) H') :
    t_turn K CC CN ws kd E Dn [some (.ref c), some (.ref u), some (.ref B), some (.ref W), some (.ref A), some .non, some (.ref Lr), some (.ref Td), some (.int (b : Int)), some (.str wo), some (.int (a : Int)), some (.int (e : Int)), v12, v13] H := by
  obtain ⟨e0, ⟨⟨m, un, ew, hx, hm1, hm3⟩, lt, le, ha⟩⟩ := I
  unfold t_turn
  have e1 : atI (vn all) (b : Int) = some (.int ((all.getD b 0 : Nat) : Int)) := vn_at (by omega)
  have ed : (b : Int) / 2 = ((b / 2 : Nat) : Int) := by omega
  have e5 : atI (List.replicate (all.length / 2) V.non) ((b / 2 : Nat) : Int) = some .non := atn (by rw [List.getElem?_replicate, if_pos (by omega)])
  have h71' : all.getD (b + 2 * m) 0 ≠ 71 := fun z => by rw [z, h71] at ew; cases ew
  simp only [r_seq, r_next, r_brk, r_cont, r_asg, r_name, r_ret, r_retN, r_drop, r_ifs, r_never, r_var, r_c, r_op, r_un, r_if, r_tst, r_b, r_not, r_and, r_or, r_andV, r_orV, r_notV, r_nil, r_cons, r_tup, r_lst, r_cb, r_call, r_bm, r_bm0, r_sl, r_nopart, r_part, r_rev, r_gnil, r_gcons, r_gsub, r_par, r_aug, r_chain, r_I0, r_I, r_U, r_ixd, r_lend, r_tupd, r_listd, r_sld, r_app, r_ext, r_reverse, r_setl, r_cat, r_int1, r_eqS, r_neS, scal_ii, scal_bb, scal_ss, at0, at1, at2, sq_lst, sq_tup, isLst_lst, List.getElem?_cons_zero, List.getElem?_cons_succ, List.set_cons_zero, List.set_cons_succ, V.int.injEq, V.bl.injEq, V.ref.injEq, V.str.injEq, HO.lst.injEq, HO.tup.injEq, Option.some.injEq, exists_eq_left', exists_eq_left, List.cons.injEq, and_true, true_and, decide_eq_true_eq, reduceCtorEq, false_and, exists_false, or_false, false_or, exists_const, and_assoc, exists_and_left, List.append_nil, ix0, ix1, ix2, cm_mod, cdw1009, cdw2003, cdw7, cdw64, cdw2, cm104729, cm2, cm3, upd_same, List.length_cons, List.length_nil, Int.reduceLT, Int.reduceLE, Nat.reduceAdd, Nat.reduceLeDiff, Nat.reduceLT, Int.reduceToNat, r_for1, r_forL, r_forT, r_lcL, r_lc1, r_yes, r_gtupD, wipe_0, wipe_1, List.cons_append, List.nil_append, r_forS, r_ipI, ite_false, ite_true, Bool.not_true, Bool.not_false, decide_true, decide_false, r_isd, r_islt, cD_ty, cD_ref, tD_non, tD_bl, tD_int, tD_str, tD_ref, tH_lst, tH_tup, tH_dK, tH_ins, ki_self, ki_int_bool, ki_non_int, ki_str_int, ki_lt_lst, ki_lt_tup, r_fld, r_sfld, HO.ins.injEq, cx_K, hL, hu, e1, ed, e5]
  refine ext_run hu hL hT hx hm1 h71' (by omega) hl LT fun told' H' st hT' l1 l2 => ?_
  have sH : Same H0 H' := fun y o q => st y o (fun z => by rw [z, hT0] at q; cases q) (S0 y o q)
  simp only [r_seq, r_next, r_brk, r_cont, r_asg, r_name, r_ret, r_retN, r_drop, r_ifs, r_never, r_var, r_c, r_op, r_un, r_if, r_tst, r_b, r_not, r_and, r_or, r_andV, r_orV, r_notV, r_nil, r_cons, r_tup, r_lst, r_cb, r_call, r_bm, r_bm0, r_sl, r_nopart, r_part, r_rev, r_gnil, r_gcons, r_gsub, r_par, r_aug, r_chain, r_I0, r_I, r_U, r_ixd, r_lend, r_tupd, r_listd, r_sld, r_app, r_ext, r_reverse, r_setl, r_cat, r_int1, r_eqS, r_neS, scal_ii, scal_bb, scal_ss, at0, at1, at2, sq_lst, sq_tup, isLst_lst, List.getElem?_cons_zero, List.getElem?_cons_succ, List.set_cons_zero, List.set_cons_succ, V.int.injEq, V.bl.injEq, V.ref.injEq, V.str.injEq, HO.lst.injEq, HO.tup.injEq, Option.some.injEq, exists_eq_left', exists_eq_left, List.cons.injEq, and_true, true_and, decide_eq_true_eq, reduceCtorEq, false_and, exists_false, or_false, false_or, exists_const, and_assoc, exists_and_left, List.append_nil, ix0, ix1, ix2, cm_mod, cdw1009, cdw2003, cdw7, cdw64, cdw2, cm104729, cm2, cm3, upd_same, List.length_cons, List.length_nil, Int.reduceLT, Int.reduceLE, Nat.reduceAdd, Nat.reduceLeDiff, Nat.reduceLT, Int.reduceToNat, r_for1, r_forL, r_forT, r_lcL, r_lc1, r_yes, r_gtupD, wipe_0, wipe_1, List.cons_append, List.nil_append, r_forS, r_ipI, ite_false, ite_true, Bool.not_true, Bool.not_false, decide_true, decide_false, r_isd, r_islt, cD_ty, cD_ref, tD_non, tD_bl, tD_int, tD_str, tD_ref, tH_lst, tH_tup, tH_dK, tH_ins, ki_self, ki_int_bool, ki_non_int, ki_str_int, ki_lt_lst, ki_lt_tup, r_fld, r_sfld, HO.ins.injEq, cx_K]
  by_cases c45 : all.getD (b + 2 * m) 0 < 45
  · rw [if_pos (by omega)]
    have kn := h45 _ _ _ ew c45
    refine ⟨tyl hT', szl (by decide : 5 ≤ 1000), fun p hp => ⟨told', by rw [upd_ne (ne_new hT' hp)]; exact hT', Nat.lt_of_le_of_lt (by omega : _ ≤ 200000) (by decide), ?_⟩⟩
    refine k (by rw [kn]; rfl) _ _ _ _ _ (fun y o ny q => ?_) upd_same (by rw [List.length_append, List.length_singleton]; omega) (by rw [List.length_append, List.length_singleton]; omega)
    rw [upd_ne ny, upd_ne (ne_new (st y o ny q) hp)]
    exact st y o ny q
  · rw [if_neg (by omega)]
    refine ⟨tyl hT', c, all, wo, a, e, rfl, hwd _ _ _ ew, hc.same sH, ?_, fun hg v H2 s2 tv => ?_, fun hg d H2 hd s2 hx => ?_⟩
    · have : 2 * a + e < 2 ^ 42 := by omega
      exact Nat.lt_trans this (Nat.pow_lt_pow_right (by decide) (by decide))
    · have h2 := s2 _ _ hT'
      refine ⟨szl (by decide : 5 ≤ 1000), fun p hp => ⟨told', by rw [upd_ne (ne_new h2 hp)]; exact h2, Nat.lt_of_le_of_lt (by omega : _ ≤ 200000) (by decide), ?_⟩⟩
      refine k hg _ _ _ _ _ (fun y o ny q => ?_) upd_same (by rw [List.length_append, List.length_singleton]; omega) (by rw [List.length_append, List.length_singleton]; omega)
      have q2 := s2 _ _ (st y o ny q)
      rw [upd_ne ny, upd_ne (ne_new q2 hp)]
      exact q2
    · exact bad hg d H2 (sH.free hd) (fun y o q => s2 y o (sH y o q)) hx
theorem cut_ne {wd : WD} {all : List Nat} (h : wrongF wd all = none) : (cutF wd all all.length 0).1 ≠ [] := by
  unfold wrongF at h
  cases all with
  | nil => rw [if_pos rfl] at h; cases h
  | cons x xs =>
    rw [if_neg (by simp)] at h
    rw [show (x :: xs).length = xs.length + 1 from rfl, cutF, if_pos (by simp)] at h ⊢
    cases e : nextF wd (x :: xs) 0 with
    | none => rw [e] at h; cases h
    | some p =>
      obtain ⟨w, a, e'⟩ := p
      simp
theorem cutV_one (xs : List V) : cutV xs (some 1) none = xs.tail := by
  cases xs with
  | nil => rfl
  | cons x xs => exact cut_tail x xs
theorem ok_instructions {CC CN : Addr} {ws : List Str} {kd : Str → MK} {wd : WD} (hu : ∀ n w u, wd n = some (w, u) → 1 ≤ u ∧ w ∈ ws) (h71 : wd 71 = none) (h45 : ∀ n w u, wd n = some (w, u) → n < 45 → kd w = .no) (T : Txt mg) (T2 : Txt2 mg) (I : CodeT K mg CC) (yes : PySem.W.kitOne K (.ref CC) (.ref CC) = some true) (X_NoCode : Exn P w K mg base "NoCode" CN "field") (F : FnP K "instructions" "instructions" sinstructions f fd)
    (C_cut : Cal P w K mg base 2 "cut" ["data"] (spCut wd)) (C_lines_of : Cal P w K mg base 2 "lines_of" ["code"] (spLof CC)) (E_meaning : CalE P w K mg base 3 "meaning_of" ["code", "word", "argument", "end"] (spMean CC CN ws kd)) : FnOk P w K mg base (CX P w) 4 f fd ["code"] (spInstr CC CN wd kd K) := by
  refine F.ok scinstructions (fun vs H Q E h => ?_) (fun cdv A outer s H vs Q E hr h => ?_)
  · obtain ⟨c, rfl, _⟩ := h
    rfl
  · refine ⟨_, (pss_cons (ps_if (pt_not (pt_val (pe_callB (call_is_d I.cI) (by rfl) T.b_isinstance (by decide +kernel) (pa_cons (pv 0) (pa_cons (pe_glob (v := .ref _) rfl I.g_Code rfl) pa_nil)))))
    (pss_one (ps_raise rfl (takes_of rfl rfl rfl rfl) (pmk_x X_NoCode (hr.mono (by decide)) rfl pe_str)))
    pss_nil)
  (pss_cons (ps_set (i := 1) scinstructions.nd rfl (Or.inl rfl) (pe_fld (pv 0) rfl))
  (pss_cons (ps_asg (pe_cal C_cut (hr.mono (by decide)) rfl (pa_cons (pv 1) pa_nil)) (pg_tupD (n := 4) rfl (pgs_cons (pg_name (i := 2) scinstructions.nd rfl (Or.inl rfl)) (pgs_cons (pg_name (i := 3) scinstructions.nd rfl (Or.inl rfl)) (pgs_cons (pg_name (i := 4) scinstructions.nd rfl (Or.inl rfl)) (pgs_cons (pg_name (i := 5) scinstructions.nd rfl (Or.inl rfl)) pgs_nil))))))
  (pss_cons (ps_if (pt_cmpR op_notN (pv 5) pe_non (nomark _))
    (pss_one (ps_raise rfl (takes_of rfl rfl rfl rfl) (pmk_x X_NoCode (hr.mono (by decide)) rfl pe_str)))
    pss_nil)
  (pss_cons (ps_set (i := 6) scinstructions.nd rfl (Or.inl rfl) (pe_cal C_lines_of (hr.mono (by decide)) rfl (pa_cons (pv 0) pa_nil)))
  (pss_cons (ps_set (i := 7) scinstructions.nd rfl (Or.inl rfl) (pe_lst pa_nil))
  (pss_cons (ps_for (passes_of rfl) rfl (Z4.pi_zip4 rfl T.b_zip (pa_cons (pv 2) (pa_cons (pv 3) (pa_cons (pv 4) (pa_cons (pe_lst (pa_starD (pe_slice sl_d (pv 2) (po_some pe_int) po_none) (pa_cons (pe_callB call_len_d (by rfl) T.b_len (by decide +kernel) (pa_cons (pv 1) pa_nil)) pa_nil))) pa_nil))))) (pg_tupD (n := 4) rfl (pgs_cons (pg_name (i := 8) scinstructions.nd rfl (Or.inl rfl)) (pgs_cons (pg_name (i := 9) scinstructions.nd rfl (Or.inl rfl)) (pgs_cons (pg_name (i := 10) scinstructions.nd rfl (Or.inl rfl)) (pgs_cons (pg_name (i := 11) scinstructions.nd rfl (Or.inl rfl)) pgs_nil)))))
    (pss_cons (ps_set (i := 12) scinstructions.nd rfl (Or.inl rfl) (pe_ix ix_d (pv 6) (pe_op op_fdivW (pv 8) pe_int) (fun _ _ => rfl)))
  (pss_cons (ps_set (i := 13) scinstructions.nd rfl (Or.inl rfl) (pe_ix ix_d (pv 1) (pv 8) (fun _ _ => rfl)))
  (pss_cons (ps_while (passes_of rfl) (pt_cmpR op_eq (pv 13) (pe_gi T2.g_EXTENDED_ARG) (nomark _))
    (pss_cons (ps_expr (pe_bm PySem.F.plainAttrs_list PySem.F.slot_list_append PySem.F.type_list_append mt_append (pv 7) (pa_cons (pe_tup (pa_cons (pv 8) (pa_cons pe_str (pa_cons (pe_ix ix_d (pv 1) (pe_op op_add (pv 8) pe_int) (fun _ _ => rfl)) (pa_cons pe_str (pa_cons (pv 12) pa_nil)))))) pa_nil)))
  (pss_cons (ps_aug (i := 8) scinstructions.nd rfl (.inl rfl) pe_int ip_add)
  (pss_cons (ps_set (i := 13) scinstructions.nd rfl (Or.inl rfl) (pe_ix ix_d (pv 1) (pv 8) (fun _ _ => rfl)))
  (pss_one (ps_set (i := 12) scinstructions.nd rfl (Or.inl rfl) (pe_ix ix_d (pv 6) (pe_op op_fdivW (pv 8) pe_int) (fun _ _ => rfl))))))))
  (pss_one (ps_if (pt_cmpR op_lt (pv 13) (pe_gi T2.g_FIRST) (nomark _))
    (pss_one (ps_expr (pe_bm PySem.F.plainAttrs_list PySem.F.slot_list_append PySem.F.type_list_append mt_append (pv 7) (pa_cons (pe_tup (pa_cons (pv 8) (pa_cons (pv 9) (pa_cons pe_non (pa_cons pe_str (pa_cons (pv 12) pa_nil)))))) pa_nil))))
    (pss_one (ps_expr (pe_bm PySem.F.plainAttrs_list PySem.F.slot_list_append PySem.F.type_list_append mt_append (pv 7) (pa_cons (pe_tup (pa_cons (pv 8) (pa_cons (pv 9) (pa_cons (pv 10) (pa_cons (pe_calE E_meaning (hr.mono (by decide)) rfl (takes_of rfl rfl rfl rfl) (fun _ _ _ _ z => z) (pa_cons (pv 0) (pa_cons (pv 9) (pa_cons (pv 10) (pa_cons (pv 11) pa_nil))))) (pa_cons (pv 12) pa_nil)))))) pa_nil))))))))))
  (pss_one (ps_ret (pv 7)))))))))), ?_⟩
    obtain ⟨x, rfl, h⟩ := h
    show (_ : TS) _ [some x, none, none, none, none, none, none, none, none, none, none, none, none, none] H
    simp only [r_seq, r_next, r_brk, r_cont, r_asg, r_name, r_ret, r_retN, r_drop, r_ifs, r_never, r_var, r_c, r_op, r_un, r_if, r_tst, r_b, r_not, r_and, r_or, r_andV, r_orV, r_notV, r_nil, r_cons, r_tup, r_lst, r_cb, r_call, r_bm, r_bm0, r_sl, r_nopart, r_part, r_rev, r_gnil, r_gcons, r_gsub, r_par, r_aug, r_chain, r_I0, r_I, r_U, r_ixd, r_lend, r_tupd, r_listd, r_sld, r_app, r_ext, r_reverse, r_setl, r_cat, r_int1, r_eqS, r_neS, scal_ii, scal_bb, scal_ss, at0, at1, at2, sq_lst, sq_tup, isLst_lst, List.getElem?_cons_zero, List.getElem?_cons_succ, List.set_cons_zero, List.set_cons_succ, V.int.injEq, V.bl.injEq, V.ref.injEq, V.str.injEq, HO.lst.injEq, HO.tup.injEq, Option.some.injEq, exists_eq_left', exists_eq_left, List.cons.injEq, and_true, true_and, decide_eq_true_eq, reduceCtorEq, false_and, exists_false, or_false, false_or, exists_const, and_assoc, exists_and_left, List.append_nil, ix0, ix1, ix2, cm_mod, cdw1009, cdw2003, cdw7, cdw64, cdw2, cm104729, cm2, cm3, upd_same, List.length_cons, List.length_nil, Int.reduceLT, Int.reduceLE, Nat.reduceAdd, Nat.reduceLeDiff, Nat.reduceLT, Int.reduceToNat, r_for1, r_forL, r_forT, r_lcL, r_lc1, r_yes, r_gtupD, wipe_0, wipe_1, List.cons_append, List.nil_append, r_forS, r_ipI, ite_false, ite_true, Bool.not_true, Bool.not_false, decide_true, decide_false, r_isd, r_islt, cD_ty, cD_ref, tD_non, tD_bl, tD_int, tD_str, tD_ref, tH_lst, tH_tup, tH_dK, tH_ins, ki_self, ki_int_bool, ki_non_int, ki_str_int, ki_lt_lst, ki_lt_tup, r_fld, r_sfld, HO.ins.injEq, cx_K]
    rcases h with ⟨t, e1, e2, k⟩ | ⟨c, all, rfl, hc, hl, hb, good, bad⟩
    · refine ⟨_, e1, _, e2, ?_⟩
      rw [if_pos (by rfl)]
      exact raise_x (fun Q q => q) k
    · obtain ⟨dx, fs, t, u, nm, v, kk, first, h1, h2, h3, h4, h5, h6, h7, h8, h9, h10, h11, h12⟩ := hc.ex
      have na := I.na "code" (by decide)
      have cl := I.cI.cl
      refine ⟨.ref CC, by simp [tyD, tyH, h1], true, yes, ?_⟩
      rw [if_neg (by decide)]
      refine ⟨c, rfl, CC, dx, fs, h1, cl, na, .ref u, h5, u, all, rfl, h6, by omega, hb, fun p B W A H1 hp s1 hp1 cu => ⟨p, rfl, _, hp1, rfl, _, _, rfl, _, _, rfl, _, _, rfl, _, _, rfl, rfl, ?_⟩⟩
      cases hw : wrongF wd all with
      | some b =>
        rw [if_pos (by rfl)]
        exact raise_x (fun Q q => q) fun d H' hd k2 hx => bad (fun q => by rw [q.1] at hw; cases hw) d H' (s1.free hd) (fun y o e => k2 y o (s1 y o e)) hx
      | none =>
        rw [if_neg (by simp [wrV])]
        refine ⟨c, dx, fs, t, u, first, all, rfl, s1 _ _ h1, h2, h3, s1 _ _ h4, h5, s1 _ _ h6, by omega, fun Lr H2 hL s2 hlr => ⟨szl (by decide), fun Td hT => ?_⟩⟩
        have s12 : Same H H2 := fun y o e => s2 y o (s1 y o e)
        have s3 : Same H2 _ := Same.new' (o := .lst []) (Same.refl H2) hT
        have bB := s3 _ _ (s2 _ _ cu.b)
        have bW := s3 _ _ (s2 _ _ cu.w)
        have bA := s3 _ _ (s2 _ _ cu.a)
        have bu := s3 _ _ (s12 _ _ h6)
        have bL := s3 _ _ hlr
        have bT : L2.upd H2 Td (.lst []) Td = some (.lst []) := upd_same
        have sG : Same H (L2.upd H2 Td (.lst [])) := fun y o e => s3 y o (s12 y o e)
        have hT0 : H Td = none := s12.free hT
        have LT : Lr ≠ Td := ne_new hlr hT
        have nB : B ≠ Td := ne_new (s2 _ _ cu.b) hT
        have nW : W ≠ Td := ne_new (s2 _ _ cu.w) hT
        have nA : A ≠ Td := ne_new (s2 _ _ cu.a) hT
        generalize L2.upd H2 Td (.lst []) = G at *
        simp only [r_seq, r_next, r_brk, r_cont, r_asg, r_name, r_ret, r_retN, r_drop, r_ifs, r_never, r_var, r_c, r_op, r_un, r_if, r_tst, r_b, r_not, r_and, r_or, r_andV, r_orV, r_notV, r_nil, r_cons, r_tup, r_lst, r_cb, r_call, r_bm, r_bm0, r_sl, r_nopart, r_part, r_rev, r_gnil, r_gcons, r_gsub, r_par, r_aug, r_chain, r_I0, r_I, r_U, r_ixd, r_lend, r_tupd, r_listd, r_sld, r_app, r_ext, r_reverse, r_setl, r_cat, r_int1, r_eqS, r_neS, scal_ii, scal_bb, scal_ss, at0, at1, at2, sq_lst, sq_tup, isLst_lst, List.getElem?_cons_zero, List.getElem?_cons_succ, List.set_cons_zero, List.set_cons_succ, V.int.injEq, V.bl.injEq, V.ref.injEq, V.str.injEq, HO.lst.injEq, HO.tup.injEq, Option.some.injEq, exists_eq_left', exists_eq_left, List.cons.injEq, and_true, true_and, decide_eq_true_eq, reduceCtorEq, false_and, exists_false, or_false, false_or, exists_const, and_assoc, exists_and_left, List.append_nil, ix0, ix1, ix2, cm_mod, cdw1009, cdw2003, cdw7, cdw64, cdw2, cm104729, cm2, cm3, upd_same, List.length_cons, List.length_nil, Int.reduceLT, Int.reduceLE, Nat.reduceAdd, Nat.reduceLeDiff, Nat.reduceLT, Int.reduceToNat, r_for1, r_forL, r_forT, r_lcL, r_lc1, r_yes, r_gtupD, wipe_0, wipe_1, List.cons_append, List.nil_append, r_forS, r_ipI, ite_false, ite_true, Bool.not_true, Bool.not_false, decide_true, decide_false, r_isd, r_islt, cD_ty, cD_ref, tD_non, tD_bl, tD_int, tD_str, tD_ref, tH_lst, tH_tup, tH_dK, tH_ins, ki_self, ki_int_bool, ki_non_int, ki_str_int, ki_lt_lst, ki_lt_tup, r_fld, r_sfld, HO.ins.injEq, cx_K, r_forZ, r_starD, bB, bu]
        obtain ⟨ls, hls⟩ : ∃ ls, ls = (cutF wd all all.length 0).1 := ⟨_, rfl⟩
        have cat : CutAt wd all 0 ls := by rw [hls]; exact cutF_at hb fun n w u q => (hu n w u q).1
        rw [← hls] at bB bW bA good ⊢
        have lsl : ls.length ≤ all.length := by have := cat.len (Nat.zero_le _); omega
        have okI : insOk wd kd all ↔ ∀ x ∈ ls, goodK (kd x.2.1) x.2.2 = true := by
          unfold insOk
          rw [← hls]
          exact ⟨fun q => q.2, fun q => ⟨hw, q⟩⟩
        intro p1 hp1'
        have s4 := Same.new' (o := .lst (cutV (vn (ls.map (·.1))) (some 1) none)) (Same.refl G) hp1'
        have q4 : L2.upd G p1 (.lst (cutV (vn (ls.map (·.1))) (some 1) none)) p1 = some (.lst (cutV (vn (ls.map (·.1))) (some 1) none)) := upd_same
        refine ⟨vn all, by rw [s4 _ _ bu]; rfl, ?_, fun p2 hp2 => ?_⟩
        · rw [cutV_one, List.length_append, List.length_tail, vn_len, List.length_map]
          exact Nat.le_trans (by simp; omega : _ ≤ 2000) (by decide)
        have s5 := Same.new' (o := .lst (cutV (vn (ls.map (·.1))) (some 1) none ++ [.int ((vn all).length : Int)])) (Same.refl (L2.upd G p1 (.lst (cutV (vn (ls.map (·.1))) (some 1) none)))) hp2
        have q5 : L2.upd (L2.upd G p1 (.lst (cutV (vn (ls.map (·.1))) (some 1) none))) p2 (.lst (cutV (vn (ls.map (·.1))) (some 1) none ++ [.int ((vn all).length : Int)])) p2 = some (.lst (cutV (vn (ls.map (·.1))) (some 1) none ++ [.int ((vn all).length : Int)])) := upd_same
        have np : p2 ≠ Td := (ne_new (s4 _ _ bT) hp2).symm
        have bB2 := s5 _ _ (s4 _ _ bB)
        have bW2 := s5 _ _ (s4 _ _ bW)
        have bA2 := s5 _ _ (s4 _ _ bA)
        have bu2 := s5 _ _ (s4 _ _ bu)
        have bL2 := s5 _ _ (s4 _ _ bL)
        have bT2 := s5 _ _ (s4 _ _ bT)
        have sG2 : Same H _ := fun y o e => s5 y o (s4 y o (sG y o e))
        rw [cutV_one] at *
        generalize L2.upd (L2.upd G p1 (.lst (vn (ls.map (·.1))).tail)) p2 (.lst ((vn (ls.map (·.1))).tail ++ [.int ((vn all).length : Int)])) = G2 at *
        have lne : ls ≠ [] := by rw [hls]; exact cut_ne hw
        have key : LoopR (Z4.It4 K B W A p2) (gTupD 4 (gCons (gName 8) (gCons (gName 9) (gCons (gName 10) (gCons (gName 11) gNil))))) (t_turn K CC CN ws kd E) { nx := tRet (tVar 7) { nx := fun x H' => Q V.non H', rt := Q }, rt := Q }
            [some (.ref c), some (.ref u), some (.ref B), some (.ref W), some (.ref A), some .non, some (.ref Lr), some (.ref Td), none, none, none, none, none, none] G2 := by
          refine lp_zip4 (xs := vn (ls.map (·.1))) (ys := ls.map fun x => V.str x.2.1) (zs := vn (ls.map (·.2.2))) (ws := (vn (ls.map (·.1))).tail ++ [.int ((vn all).length : Int)]) ?_ ?_ ?_
            (fun i σ H' => (∃ v8 v9 v10 v11 v12 v13 told, σ = [some (.ref c), some (.ref u), some (.ref B), some (.ref W), some (.ref A), some .non, some (.ref Lr), some (.ref Td), v8, v9, v10, v11, v12, v13] ∧ H' Td = some (.lst told) ∧ i ≤ told.length ∧ told.length ≤ 4 * i) ∧ Stay Td G2 H' ∧ ∀ j, j < i → ∀ h : j < ls.length, goodK (kd ls[j].2.1) ls[j].2.2 = true)
            ⟨⟨_, _, _, _, _, _, [], rfl, bT2, Nat.le_refl _, Nat.le_refl _⟩, Keep.refl Td G2, fun j h => absurd h (Nat.not_lt_zero _)⟩ ?_ ?_ ?_
          · rw [vn_len, List.length_map, List.length_map]
          · rw [vn_len, vn_len, List.length_map, List.length_map]
          · rw [List.length_append, List.length_tail, vn_len, List.length_map, List.length_singleton]
            have := List.length_pos_iff.mpr lne
            omega
          · rintro i σ H' ⟨_, st, _⟩
            exact ⟨SqL.of (st _ _ nB bB2), SqL.of (st _ _ nW bW2), SqL.of (st _ _ nA bA2), SqL.of (st _ _ np q5)⟩
          · rintro i hi T σ H' ⟨⟨v8, v9, v10, v11, v12, v13, told, rfl, hTd, l1, l2⟩, st, gd⟩ hT'
            have hi' : i < ls.length := by rw [vn_len, List.length_map] at hi; exact hi
            have x0 : (vn (ls.map (·.1)))[i] = .int ((ls[i].1 : Nat) : Int) := by simp [vn]
            have x1 : (ls.map fun x => V.str x.2.1)[i]'(by rw [List.length_map]; exact hi') = .str ls[i].2.1 := by simp
            have x2 : (vn (ls.map (·.2.2)))[i]'(by rw [vn_len, List.length_map]; exact hi') = .int ((ls[i].2.2 : Nat) : Int) := by simp [vn]
            obtain ⟨e, he, x3⟩ : ∃ e : Nat, e ≤ all.length ∧ ((vn (ls.map (·.1))).tail ++ [.int ((vn all).length : Int)])[i]'(by rw [List.length_append, List.length_tail, vn_len, List.length_map, List.length_singleton]; omega) = .int (e : Int) := by
              have m := List.getElem_mem (l := (vn (ls.map (·.1))).tail ++ [V.int ((vn all).length : Int)]) (n := i) (by rw [List.length_append, List.length_tail, vn_len, List.length_map, List.length_singleton]; omega)
              rcases List.mem_append.mp m with m | m
              · have m2 := List.mem_of_mem_tail m
                unfold vn at m2
                obtain ⟨n, mn, en⟩ := List.mem_map.mp m2
                obtain ⟨q, mq, rfl⟩ := List.mem_map.mp mn
                exact ⟨q.1, Nat.le_of_lt (cat.lt q mq), en.symm⟩
              · exact ⟨all.length, Nat.le_refl _, by rw [List.mem_singleton.mp m, vn_len]⟩
            rw [x0, x1, x2, x3]
            have sT := Same.new' (o := .tup [.int ((ls[i].1 : Nat) : Int), .str ls[i].2.1, .int ((ls[i].2.2 : Nat) : Int), .int (e : Int)]) (Same.refl H') hT'
            have tT : L2.upd H' T (.tup [.int ((ls[i].1 : Nat) : Int), .str ls[i].2.1, .int ((ls[i].2.2 : Nat) : Int), .int (e : Int)]) T = some (.tup [.int ((ls[i].1 : Nat) : Int), .str ls[i].2.1, .int ((ls[i].2.2 : Nat) : Int), .int (e : Int)]) := upd_same
            generalize L2.upd H' T (.tup [.int ((ls[i].1 : Nat) : Int), .str ls[i].2.1, .int ((ls[i].2.2 : Nat) : Int), .int (e : Int)]) = G3 at *
            simp only [r_seq, r_next, r_brk, r_cont, r_asg, r_name, r_ret, r_retN, r_drop, r_ifs, r_never, r_var, r_c, r_op, r_un, r_if, r_tst, r_b, r_not, r_and, r_or, r_andV, r_orV, r_notV, r_nil, r_cons, r_tup, r_lst, r_cb, r_call, r_bm, r_bm0, r_sl, r_nopart, r_part, r_rev, r_gnil, r_gcons, r_gsub, r_par, r_aug, r_chain, r_I0, r_I, r_U, r_ixd, r_lend, r_tupd, r_listd, r_sld, r_app, r_ext, r_reverse, r_setl, r_cat, r_int1, r_eqS, r_neS, scal_ii, scal_bb, scal_ss, at0, at1, at2, sq_lst, sq_tup, isLst_lst, List.getElem?_cons_zero, List.getElem?_cons_succ, List.set_cons_zero, List.set_cons_succ, V.int.injEq, V.bl.injEq, V.ref.injEq, V.str.injEq, HO.lst.injEq, HO.tup.injEq, Option.some.injEq, exists_eq_left', exists_eq_left, List.cons.injEq, and_true, true_and, decide_eq_true_eq, reduceCtorEq, false_and, exists_false, or_false, false_or, exists_const, and_assoc, exists_and_left, List.append_nil, ix0, ix1, ix2, cm_mod, cdw1009, cdw2003, cdw7, cdw64, cdw2, cm104729, cm2, cm3, upd_same, List.length_cons, List.length_nil, Int.reduceLT, Int.reduceLE, Nat.reduceAdd, Nat.reduceLeDiff, Nat.reduceLT, Int.reduceToNat, r_for1, r_forL, r_forT, r_lcL, r_lc1, r_yes, r_gtupD, wipe_0, wipe_1, List.cons_append, List.nil_append, r_forS, r_ipI, ite_false, ite_true, Bool.not_true, Bool.not_false, decide_true, decide_false, r_isd, r_islt, cD_ty, cD_ref, tD_non, tD_bl, tD_int, tD_str, tD_ref, tH_lst, tH_tup, tH_dK, tH_ins, ki_self, ki_int_bool, ki_non_int, ki_str_int, ki_lt_lst, ki_lt_tup, r_fld, r_sfld, HO.ins.injEq, cx_K, tT]
            have sH' : Same H H' := fun y o q => st y o (fun z => by rw [z, hT0] at q; cases q) (sG2 y o q)
            have u1 : u ≠ Td := fun z => by rw [z, hT0] at h6; cases h6
            refine turn_run (fun n w u q => (hu n w u q).2) h71 h45 hc (fun y o q => sT y o (sH' y o q)) hT0 (sT _ _ (st _ _ u1 bu2)) (sT _ _ (st _ _ LT bL2)) (sT _ _ hTd) (cat.get i hi') he hl (by omega) LT (fun hg w8 w12 w13 told' H4 st2 hT4 n1 n2 => ?_) (fun hg d H4 hd s6 hx => ?_)
            · refine ⟨⟨_, _, _, _, _, _, rfl, told', hT4, by omega, by omega⟩, fun y o ny q => st2 y o ny (sT y o (st y o ny q)), fun j hj hjl => ?_⟩
              by_cases c : j < i
              · exact gd j c hjl
              · obtain rfl : j = i := by omega
                exact hg
            · refine bad (fun q => ?_) d H4 hd s6 hx
              have := okI.mp q ls[i] (List.getElem_mem hi')
              rw [hg] at this
              cases this
          · rintro σ H' ⟨⟨v8, v9, v10, v11, v12, v13, told, rfl, hTd, l1, l2⟩, st, gd⟩
            simp only [r_seq, r_next, r_brk, r_cont, r_asg, r_name, r_ret, r_retN, r_drop, r_ifs, r_never, r_var, r_c, r_op, r_un, r_if, r_tst, r_b, r_not, r_and, r_or, r_andV, r_orV, r_notV, r_nil, r_cons, r_tup, r_lst, r_cb, r_call, r_bm, r_bm0, r_sl, r_nopart, r_part, r_rev, r_gnil, r_gcons, r_gsub, r_par, r_aug, r_chain, r_I0, r_I, r_U, r_ixd, r_lend, r_tupd, r_listd, r_sld, r_app, r_ext, r_reverse, r_setl, r_cat, r_int1, r_eqS, r_neS, scal_ii, scal_bb, scal_ss, at0, at1, at2, sq_lst, sq_tup, isLst_lst, List.getElem?_cons_zero, List.getElem?_cons_succ, List.set_cons_zero, List.set_cons_succ, V.int.injEq, V.bl.injEq, V.ref.injEq, V.str.injEq, HO.lst.injEq, HO.tup.injEq, Option.some.injEq, exists_eq_left', exists_eq_left, List.cons.injEq, and_true, true_and, decide_eq_true_eq, reduceCtorEq, false_and, exists_false, or_false, false_or, exists_const, and_assoc, exists_and_left, List.append_nil, ix0, ix1, ix2, cm_mod, cdw1009, cdw2003, cdw7, cdw64, cdw2, cm104729, cm2, cm3, upd_same, List.length_cons, List.length_nil, Int.reduceLT, Int.reduceLE, Nat.reduceAdd, Nat.reduceLeDiff, Nat.reduceLT, Int.reduceToNat, r_for1, r_forL, r_forT, r_lcL, r_lc1, r_yes, r_gtupD, wipe_0, wipe_1, List.cons_append, List.nil_append, r_forS, r_ipI, ite_false, ite_true, Bool.not_true, Bool.not_false, decide_true, decide_false, r_isd, r_islt, cD_ty, cD_ref, tD_non, tD_bl, tD_int, tD_str, tD_ref, tH_lst, tH_tup, tH_dK, tH_ins, ki_self, ki_int_bool, ki_non_int, ki_str_int, ki_lt_lst, ki_lt_tup, r_fld, r_sfld, HO.ins.injEq, cx_K]
            rw [vn_len, List.length_map] at l1 gd
            refine good (okI.mpr fun x hx => ?_) Td H' told hT0 (fun y o q => st y o (fun z => by rw [z, hT0] at q; cases q) (sG2 y o q)) hTd l1
            obtain ⟨j, hj, rfl⟩ := List.mem_iff_getElem.mp hx
            exact gd j hj hj
        exact ⟨_, SqL.of bB2, _, SqL.of bW2, _, SqL.of bA2, _, SqL.of q5, key⟩
end
end C58

set_option maxHeartbeats 2000000
namespace C58
open PySem PySem.Spec PyProof.Rows L2 StrLaws
/-! ### the tables, and bytes that are wrong -/
def WDL : List (Nat × Str × Nat) := ([(2, "BEFORE_WITH", 1), (4, "BINARY_SLICE", 1), (5, "BINARY_SUBSCR", 2), (7, "CHECK_EXC_MATCH", 1), (8, "CLEANUP_THROW", 1), (9, "DELETE_SUBSCR", 1), (11, "END_FOR", 1), (12, "END_SEND", 1), (19, "GET_ITER", 1), (21, "GET_YIELD_FROM_ITER", 1), (23, "LOAD_ASSERTION_ERROR", 1), (24, "LOAD_BUILD_CLASS", 1), (25, "LOAD_LOCALS", 1), (26, "MAKE_FUNCTION", 1), (30, "NOP", 1), (31, "POP_EXCEPT", 1), (32, "POP_TOP", 1), (33, "PUSH_EXC_INFO", 1), (34, "PUSH_NULL", 1), (35, "RETURN_GENERATOR", 1)] : List (Nat × Str × Nat)) ++ ([(36, "RETURN_VALUE", 1), (38, "STORE_SLICE", 1), (39, "STORE_SUBSCR", 2), (40, "TO_BOOL", 4), (41, "UNARY_INVERT", 1), (42, "UNARY_NEGATIVE", 1), (43, "UNARY_NOT", 1), (44, "WITH_EXCEPT_START", 1), (45, "BINARY_OP", 2), (46, "BUILD_CONST_KEY_MAP", 1), (47, "BUILD_LIST", 1), (48, "BUILD_MAP", 1), (52, "BUILD_TUPLE", 1), (53, "CALL", 4), (54, "CALL_FUNCTION_EX", 1), (55, "CALL_INTRINSIC_1", 1), (57, "CALL_KW", 1), (58, "COMPARE_OP", 2), (59, "CONTAINS_OP", 2), (61, "COPY", 1)] : List (Nat × Str × Nat)) ++ ([(62, "COPY_FREE_VARS", 1), (63, "DELETE_ATTR", 1), (64, "DELETE_DEREF", 1), (65, "DELETE_FAST", 1), (66, "DELETE_GLOBAL", 1), (67, "DELETE_NAME", 1), (68, "DICT_MERGE", 1), (72, "FOR_ITER", 2), (76, "IS_OP", 1), (77, "JUMP_BACKWARD", 2), (78, "JUMP_BACKWARD_NO_INTERRUPT", 1), (79, "JUMP_FORWARD", 1), (80, "LIST_APPEND", 1), (81, "LIST_EXTEND", 1), (82, "LOAD_ATTR", 10), (83, "LOAD_CONST", 1), (84, "LOAD_DEREF", 1), (85, "LOAD_FAST", 1), (87, "LOAD_FAST_CHECK", 1), (88, "LOAD_FAST_LOAD_FAST", 1)] : List (Nat × Str × Nat)) ++ ([(89, "LOAD_FROM_DICT_OR_DEREF", 1), (91, "LOAD_GLOBAL", 5), (92, "LOAD_NAME", 1), (94, "MAKE_CELL", 1), (95, "MAP_ADD", 1), (97, "POP_JUMP_IF_FALSE", 2), (98, "POP_JUMP_IF_NONE", 2), (99, "POP_JUMP_IF_NOT_NONE", 2), (100, "POP_JUMP_IF_TRUE", 2), (101, "RAISE_VARARGS", 1), (102, "RERAISE", 1), (103, "RETURN_CONST", 1), (104, "SEND", 2), (106, "SET_FUNCTION_ATTRIBUTE", 1), (108, "STORE_ATTR", 5), (109, "STORE_DEREF", 1), (110, "STORE_FAST", 1), (111, "STORE_FAST_LOAD_FAST", 1), (112, "STORE_FAST_STORE_FAST", 1), (113, "STORE_GLOBAL", 1)] : List (Nat × Str × Nat)) ++ ([(114, "STORE_NAME", 1), (115, "SWAP", 1), (116, "UNPACK_EX", 1), (117, "UNPACK_SEQUENCE", 2), (118, "YIELD_VALUE", 1), (149, "RESUME", 1)] : List (Nat × Str × Nat))
def KIL : List (Str × Nat) := ([("BINARY_OP", 8), ("CALL_INTRINSIC_1", 11), ("COMPARE_OP", 9), ("CONTAINS_OP", 10), ("DELETE_ATTR", 3), ("DELETE_DEREF", 6), ("DELETE_FAST", 6), ("DELETE_GLOBAL", 3), ("DELETE_NAME", 3), ("FOR_ITER", 1), ("IS_OP", 10), ("JUMP_BACKWARD", 1), ("JUMP_BACKWARD_NO_INTERRUPT", 1), ("JUMP_FORWARD", 1), ("LOAD_ATTR", 4), ("LOAD_CONST", 2), ("LOAD_DEREF", 6), ("LOAD_FAST", 6), ("LOAD_FAST_CHECK", 6), ("LOAD_FAST_LOAD_FAST", 7)] : List (Str × Nat)) ++ ([("LOAD_FROM_DICT_OR_DEREF", 6), ("LOAD_GLOBAL", 5), ("LOAD_NAME", 3), ("MAKE_CELL", 6), ("POP_JUMP_IF_FALSE", 1), ("POP_JUMP_IF_NONE", 1), ("POP_JUMP_IF_NOT_NONE", 1), ("POP_JUMP_IF_TRUE", 1), ("RETURN_CONST", 2), ("SEND", 1), ("SET_FUNCTION_ATTRIBUTE", 12), ("STORE_ATTR", 3), ("STORE_DEREF", 6), ("STORE_FAST", 6), ("STORE_FAST_LOAD_FAST", 7), ("STORE_FAST_STORE_FAST", 7), ("STORE_GLOBAL", 3), ("STORE_NAME", 3)] : List (Str × Nat))
def wdF : WD := fun n => (WDL.find? fun p => decide (p.1 = n)).map (·.2)
def wordsL : List Str := WDL.map (·.2.1)
def kiF (z : Str) : Nat := ((KIL.find? fun p => decide (p.1 = z)).map (·.2)).getD 0
def gI (k n : Nat) : Bool := match k with
  | 2 => decide (n < 2)
  | 3 => decide (n < 3)
  | 4 => decide (n / 2 < 3)
  | 5 => decide (n / 2 < 3)
  | 6 => decide (n < 4)
  | 7 => decide (n / 16 < 4 ∧ n % 16 < 4)
  | _ => true
def mkOf (k : Nat) : MK := match k with
  | 0 => .no
  | 1 => .lead
  | k => .fn (gI k)
def kdF (z : Str) : MK := mkOf (kiF z)
theorem goodK_of (k n : Nat) : goodK (mkOf k) n = (if k < 2 then true else gI k n) := by
  match k with
  | 0 => rfl
  | 1 => rfl
  | k + 2 =>
    rw [if_neg (by omega)]
    rfl
theorem wd_fact : WDL.all (fun p => decide (1 ≤ p.2.2 ∧ p.2.2 ≤ 10) && (decide (p.1 < 45) → kiF p.2.1 == 0)) = true := by decide +kernel
theorem wdF_mem {n : Nat} {w : Str} {u : Nat} (h : wdF n = some (w, u)) : (n, w, u) ∈ WDL := by
  unfold wdF at h
  cases e : WDL.find? fun p => decide (p.1 = n) with
  | none => rw [e] at h; cases h
  | some p =>
    rw [e] at h
    have h1 : p.1 = n := of_decide_eq_true (List.find?_some (p := fun p : Nat × Str × Nat => decide (p.1 = n)) e)
    have h2 : p.2 = (w, u) := Option.some.inj h
    rw [← h1, ← h2]
    exact List.mem_of_find?_eq_some e
theorem wd_hu : ∀ n w u, wdF n = some (w, u) → 1 ≤ u ∧ w ∈ wordsL := fun n w u h => by
  have m := wdF_mem h
  have := List.all_eq_true.mp wd_fact _ m
  simp only [Bool.and_eq_true, decide_eq_true_eq] at this
  exact ⟨this.1.1, List.mem_map_of_mem (f := fun p : Nat × Str × Nat => p.2.1) m⟩
theorem wd_45 : ∀ n w u, wdF n = some (w, u) → n < 45 → kdF w = .no := fun n w u h lt => by
  have m := wdF_mem h
  have := List.all_eq_true.mp wd_fact _ m
  simp only [Bool.and_eq_true, decide_eq_true_eq] at this
  have e := this.2 lt
  unfold kdF
  rw [eq_of_beq e]
  rfl
theorem wd_71 : wdF 71 = none := by decide +kernel
/-! ### bytes behind each other -/
def exb (es : List Nat) : List Nat := (es.map fun x => [71, x]).flatten
theorem exb_len (es : List Nat) : (exb es).length = 2 * es.length := by
  induction es with
  | nil => rfl
  | cons x es ih =>
    show ([71, x] ++ exb es).length = _
    rw [List.length_append, ih, List.length_cons, List.length_cons, List.length_cons, List.length_nil]
    omega
def foldE (es : List Nat) (a : Nat) : Nat := es.foldl (fun a x => (a + x) * 256) a
theorem getD_pre (pre l : List Nat) (i : Nat) : (pre ++ l).getD (pre.length + i) 0 = l.getD i 0 := by
  simp [List.getD_eq_getElem?_getD, List.getElem?_append_right]
theorem extF_stop {all : List Nat} {i a : Nat} (h : ¬ (i + 1 < all.length ∧ all.getD i 0 = 71)) : ∀ n, extF all n i a = (i, a)
  | 0 => rfl
  | n + 1 => by rw [extF, if_neg h]
theorem ext_all {tl : List Nat} (ht : ¬ (2 ≤ tl.length ∧ tl.getD 0 0 = 71)) : ∀ (es pre : List Nat) (n a : Nat), es.length ≤ n → extF (pre ++ (exb es ++ tl)) n pre.length a = (pre.length + 2 * es.length, foldE es a)
  | [], pre, n, a, h => by
    show extF (pre ++ tl) n pre.length a = (pre.length, a)
    refine extF_stop (fun q => ht ?_) n
    obtain ⟨q1, q2⟩ := q
    rw [List.length_append] at q1
    have := getD_pre pre tl 0
    rw [Nat.add_zero, q2] at this
    exact ⟨by omega, this.symm⟩
  | x :: es, pre, 0, a, h => absurd h (Nat.not_succ_le_zero _)
  | x :: es, pre, n + 1, a, h => by
    have e : pre ++ (exb (x :: es) ++ tl) = (pre ++ [71, x]) ++ (exb es ++ tl) := by
      show pre ++ (([71, x] ++ exb es) ++ tl) = _
      simp [List.append_assoc]
    have g0 : (pre ++ (exb (x :: es) ++ tl)).getD pre.length 0 = 71 := getD_pre pre _ 0
    have g1 : (pre ++ (exb (x :: es) ++ tl)).getD (pre.length + 1) 0 = x := getD_pre pre _ 1
    have l2 : pre.length + 1 < (pre ++ (exb (x :: es) ++ tl)).length := by
      rw [List.length_append, List.length_append, exb_len, List.length_cons]
      omega
    rw [extF, if_pos ⟨l2, g0⟩, g1, e]
    have := ext_all ht es (pre ++ [71, x]) n ((a + x) * 256) (by rw [List.length_cons] at h; omega)
    rw [List.length_append, show ([71, x] : List Nat).length = 2 from rfl] at this
    rw [this, List.length_cons]
    refine Prod.ext ?_ rfl
    show pre.length + 2 + 2 * es.length = pre.length + 2 * (es.length + 1)
    omega
/-- what is told of the piece at the begin: es extend it, tl follows -/
def nx (es tl : List Nat) (b : Nat) : Option (Str × Nat × Nat) :=
  if (es ≠ [] ∧ (3 < es.length ∨ es.getD 0 0 = 0 ∨ tl = [])) then none
  else match wdF (tl.getD 0 0) with
    | none => none
    | some (w, u) => if tl.length < 2 * u ∨ (1 < u ∧ nz ((tl.drop 2).take (2 * u - 2)) = true) then none else some (w, foldE es 0 + tl.getD 1 0, b + 2 * es.length + 2 * u)
theorem nextF_nx {pre es tl : List Nat} (ht : ¬ (2 ≤ tl.length ∧ tl.getD 0 0 = 71)) : nextF wdF (pre ++ (exb es ++ tl)) pre.length = nx es tl pre.length := by
  have ff : firstF wdF (pre ++ (exb es ++ tl)) pre.length = (pre.length + 2 * es.length, foldE es 0) := by
    unfold firstF
    cases es with
    | nil =>
      split
      · rfl
      · exact ext_all ht [] pre _ 0 (Nat.zero_le _)
    | cons x es =>
      have g0 : (pre ++ (exb (x :: es) ++ tl)).getD pre.length 0 = 71 := getD_pre pre _ 0
      rw [g0, wd_71, if_neg (by decide)]
      refine ext_all ht (x :: es) pre _ 0 ?_
      rw [List.length_append, List.length_append, exb_len]
      omega
  have gt : ∀ i, (pre ++ (exb es ++ tl)).getD (pre.length + 2 * es.length + i) 0 = tl.getD i 0 := fun i => by
    have := getD_pre (pre ++ exb es) tl i
    rw [List.length_append, exb_len, List.append_assoc] at this
    exact this
  have dr : (pre ++ (exb es ++ tl)).drop (pre.length + 2 * es.length + 2) = tl.drop 2 := by
    have e : pre ++ (exb es ++ tl) = (pre ++ exb es) ++ tl := (List.append_assoc _ _ _).symm
    have l : pre.length + 2 * es.length = (pre ++ exb es).length := by rw [List.length_append, exb_len]
    rw [e, l, List.drop_append]
    simp
  have ln : (pre ++ (exb es ++ tl)).length = pre.length + 2 * es.length + tl.length := by
    rw [List.length_append, List.length_append, exb_len]
    omega
  rw [nextF_eq, ff]
  dsimp only
  have g0 := gt 0
  rw [Nat.add_zero] at g0
  rw [g0, gt 1, dr, ln]
  unfold nx
  cases es with
  | nil =>
    have g00 : (pre ++ (exb [] ++ tl)).getD pre.length 0 = tl.getD 0 0 := g0
    rw [g00]
    rw [if_neg (show ¬ (([] : List Nat) ≠ [] ∧ _) from fun q => q.1 rfl)]
    cases e : wdF (tl.getD 0 0) with
    | none =>
      rw [if_pos ⟨rfl, .inl (by simp)⟩]
    | some p =>
      obtain ⟨w, u⟩ := p
      rw [if_neg (by simp)]
      dsimp only
      have : (pre.length + 2 * ([] : List Nat).length + tl.length < pre.length + 2 * ([] : List Nat).length + 2 * u) = (tl.length < 2 * u) := propext (by omega)
      simp only [this]
  | cons x es =>
    have g00 : (pre ++ (exb (x :: es) ++ tl)).getD pre.length 0 = 71 := getD_pre pre _ 0
    have g01 : (pre ++ (exb (x :: es) ++ tl)).getD (pre.length + 1) 0 = x := getD_pre pre _ 1
    rw [g00, g01, wd_71]
    have c1 : ((none : Option (Str × Nat)).isNone = true ∧ (¬ (pre.length < pre.length + 2 * (x :: es).length ∧ pre.length + 2 * (x :: es).length ≤ pre.length + 6) ∨ x = 0 ∨ pre.length + 2 * (x :: es).length + tl.length ≤ pre.length + 2 * (x :: es).length)) ↔ ((x :: es) ≠ [] ∧ (3 < (x :: es).length ∨ (x :: es).getD 0 0 = 0 ∨ tl = [])) := by
      have t0 : tl = [] ↔ tl.length = 0 := List.length_eq_zero_iff.symm
      rw [t0]
      simp only [List.length_cons, Option.isNone_none, true_and, ne_eq, reduceCtorEq, not_false_eq_true, List.getD_cons_zero]
      constructor
      · rintro (q | q | q)
        · exact .inl (by omega)
        · exact .inr (.inl q)
        · exact .inr (.inr (by omega))
      · rintro (q | q | q)
        · exact .inl (by omega)
        · exact .inr (.inl q)
        · exact .inr (.inr (by omega))
    by_cases c : ((x :: es) ≠ [] ∧ (3 < (x :: es).length ∨ (x :: es).getD 0 0 = 0 ∨ tl = []))
    · rw [if_pos c, if_pos (c1.mpr c)]
    · rw [if_neg c, if_neg (fun z => c (c1.mp z))]
      cases e : wdF (tl.getD 0 0) with
      | none => rfl
      | some p =>
        obtain ⟨w, u⟩ := p
        dsimp only
        have : (pre.length + 2 * (x :: es).length + tl.length < pre.length + 2 * (x :: es).length + 2 * u) = (tl.length < 2 * u) := propext (by omega)
        simp only [this]
end C58

set_option maxHeartbeats 2000000
namespace C58
open PySem PySem.Spec PyProof.Rows L2 StrLaws
/-! ### bytes of good instructions, and of wrong ones -/
structure GoodB (bs : List Nat) : Prop where
  ne : bs ≠ []
  lt : ∀ x ∈ bs, x < 256
  len : bs.length ≤ 40
  ex : ∃ w n, goodK (kdF w) n = true ∧ ∀ pre post, nextF wdF (pre ++ (bs ++ post)) pre.length = some (w, n, pre.length + bs.length)
def BadAt (bs post : List Nat) : Prop := ∀ pre, nextF wdF (pre ++ (bs ++ post)) pre.length = none ∨ ∃ w a e, nextF wdF (pre ++ (bs ++ post)) pre.length = some (w, a, e) ∧ goodK (kdF w) a = false
structure BadB (bs : List Nat) : Prop where
  ne : bs ≠ []
  lt : ∀ x ∈ bs, x < 256
  len : bs.length ≤ 40
  ex : ∀ post, BadAt bs post
theorem cut_rows : ∀ (bss : List (List Nat)) (pre post : List Nat) (n : Nat), (∀ b ∈ bss, GoodB b) → (pre ++ (bss.flatten ++ post)).length ≤ pre.length + n →
    ∃ n' ls, (pre ++ (bss.flatten ++ post)).length ≤ (pre ++ bss.flatten).length + n' ∧ cutF wdF (pre ++ (bss.flatten ++ post)) n pre.length = (ls ++ (cutF wdF (pre ++ (bss.flatten ++ post)) n' (pre ++ bss.flatten).length).1, (cutF wdF (pre ++ (bss.flatten ++ post)) n' (pre ++ bss.flatten).length).2) ∧
      ls.length = bss.length ∧ ∀ x ∈ ls, goodK (kdF x.2.1) x.2.2 = true
  | [], pre, post, n, _, h => by
    refine ⟨n, [], ?_, ?_, rfl, fun x h => by cases h⟩
    · simp only [List.flatten_nil, List.append_nil, List.nil_append]
      simpa using h
    · simp only [List.flatten_nil, List.append_nil, List.nil_append]
  | b :: bss, pre, post, n, hg, h => by
    have gb := hg b List.mem_cons_self
    obtain ⟨w, m, gk, nx⟩ := gb.ex
    have bl : 0 < b.length := List.length_pos_iff.mpr gb.ne
    have e1 : pre ++ ((b :: bss).flatten ++ post) = pre ++ (b ++ (bss.flatten ++ post)) := by rw [List.flatten_cons, List.append_assoc]
    have e2 : pre ++ (b ++ (bss.flatten ++ post)) = (pre ++ b) ++ (bss.flatten ++ post) := (List.append_assoc _ _ _).symm
    have e3 : pre ++ (b :: bss).flatten = (pre ++ b) ++ bss.flatten := by rw [List.flatten_cons, List.append_assoc]
    have nx' := nx pre (bss.flatten ++ post)
    rw [e1] at h ⊢
    rw [e3]
    have l1 : (pre ++ (b ++ (bss.flatten ++ post))).length = pre.length + (b.length + (bss.flatten ++ post).length) := by rw [List.length_append, List.length_append]
    have lp : (pre ++ b).length = pre.length + b.length := List.length_append
    obtain ⟨n, rfl⟩ : ∃ k, n = k + 1 := ⟨n - 1, by omega⟩
    obtain ⟨n', ls, g1, g2, g3, g4⟩ := cut_rows bss (pre ++ b) post n (fun x hx => hg x (List.mem_cons_of_mem _ hx)) (by rw [← e2]; omega)
    refine ⟨n', (pre.length, w, m) :: ls, by rw [e2]; exact g1, ?_, by rw [List.length_cons, List.length_cons, g3], fun x hx => ?_⟩
    · rw [cutF, if_pos (by omega), nx']
      dsimp only
      rw [e2, ← lp, g2]
      rfl
    · rcases List.mem_cons.mp hx with rfl | hx
      · exact gk
      · exact g4 x hx
theorem cutF_end {all : List Nat} (n : Nat) : cutF wdF all n all.length = ([], none) := by
  cases n with
  | zero => rfl
  | succ n => rw [cutF, if_neg (Nat.lt_irrefl _)]
theorem ok_good {bss : List (List Nat)} (hg : ∀ b ∈ bss, GoodB b) (ne : bss ≠ []) : insOk wdF kdF bss.flatten ∧ (cutF wdF bss.flatten bss.flatten.length 0).1.length = bss.length := by
  obtain ⟨n', ls, g1, g2, g3, g4⟩ := cut_rows bss [] [] bss.flatten.length hg (by simp)
  simp only [List.nil_append, List.append_nil, List.length_nil] at g1 g2
  rw [cutF_end] at g2
  simp only [List.append_nil] at g2
  have fne : bss.flatten ≠ [] := by
    cases bss with
    | nil => exact absurd rfl ne
    | cons b bss =>
      have := (hg b List.mem_cons_self).ne
      rw [List.flatten_cons]
      intro z
      exact this (List.append_eq_nil_iff.mp z).1
  refine ⟨⟨?_, ?_⟩, by rw [g2]; exact g3⟩
  · unfold wrongF
    rw [if_neg fne, g2]
  · rw [g2]
    exact g4
theorem ok_bad {bss : List (List Nat)} {bs post : List Nat} (hg : ∀ b ∈ bss, GoodB b) (ne : bs ≠ []) (hb : BadAt bs post) : ¬ insOk wdF kdF (bss.flatten ++ (bs ++ post)) := by
  intro ⟨k1, k2⟩
  obtain ⟨n', ls, g1, g2, g3, g4⟩ := cut_rows bss [] (bs ++ post) (bss.flatten ++ (bs ++ post)).length hg (by simp)
  simp only [List.nil_append, List.length_nil] at g1 g2
  have bl : 0 < bs.length := List.length_pos_iff.mpr ne
  have fne : bss.flatten ++ (bs ++ post) ≠ [] := fun z => ne (List.append_eq_nil_iff.mp (List.append_eq_nil_iff.mp z).2).1
  have ln : (bss.flatten ++ (bs ++ post)).length = bss.flatten.length + (bs.length + post.length) := by rw [List.length_append, List.length_append]
  obtain ⟨n', rfl⟩ : ∃ k, n' = k + 1 := ⟨n' - 1, by omega⟩
  unfold wrongF at k1
  rw [if_neg fne] at k1
  rw [cutF, if_pos (by omega)] at g2
  rcases hb bss.flatten with q | ⟨w, a, e, q, gk⟩
  · rw [q] at g2
    rw [g2] at k1
    cases k1
  · rw [q] at g2
    rw [g2] at k2
    have := k2 (bss.flatten.length, w, a) (by simp)
    rw [gk] at this
    cases this
theorem ok_nil : ¬ insOk wdF kdF [] := fun h => by
  have : wrongF wdF [] = none := h.1
  unfold wrongF at this
  rw [if_pos rfl] at this
  cases this
/-! ### a packed instruction -/
def exts (a : Nat) : List Nat := (if 16777216 ≤ a then [71, a / 16777216 % 256] else []) ++ ((if 65536 ≤ a then [71, a / 65536 % 256] else []) ++ (if 256 ≤ a then [71, a / 256 % 256] else []))
def packN (num a c : Nat) : List Nat := exts a ++ ([num, a % 256] ++ List.replicate (2 * c) 0)
theorem exts_es {n : Nat} (h : n < 4294967296) : ∃ es, exts n = exb es ∧ es.length ≤ 3 ∧ (es ≠ [] → es.getD 0 0 ≠ 0) ∧ foldE es 0 + n % 256 = n ∧ ∀ x ∈ es, x < 256 := by
  unfold exts
  by_cases c1 : 256 ≤ n
  · by_cases c2 : 65536 ≤ n
    · by_cases c3 : 16777216 ≤ n
      · refine ⟨[n / 16777216 % 256, n / 65536 % 256, n / 256 % 256], by rw [if_pos c1, if_pos c2, if_pos c3]; rfl, Nat.le_refl 3, fun _ => ?_, ?_, ?_⟩
        · show n / 16777216 % 256 ≠ 0
          omega
        · show (((0 + n / 16777216 % 256) * 256 + n / 65536 % 256) * 256 + n / 256 % 256) * 256 + n % 256 = n
          omega
        · intro x hx
          simp only [List.mem_cons, List.not_mem_nil, or_false] at hx
          omega
      · refine ⟨[n / 65536 % 256, n / 256 % 256], by rw [if_pos c1, if_pos c2, if_neg c3]; rfl, by simp, fun _ => ?_, ?_, ?_⟩
        · show n / 65536 % 256 ≠ 0
          omega
        · show ((0 + n / 65536 % 256) * 256 + n / 256 % 256) * 256 + n % 256 = n
          omega
        · intro x hx
          simp only [List.mem_cons, List.not_mem_nil, or_false] at hx
          omega
    · refine ⟨[n / 256 % 256], by rw [if_pos c1, if_neg c2, if_neg (by omega)]; rfl, by simp, fun _ => ?_, ?_, ?_⟩
      · show n / 256 % 256 ≠ 0
        omega
      · show (0 + n / 256 % 256) * 256 + n % 256 = n
        omega
      · intro x hx
        simp only [List.mem_cons, List.not_mem_nil, or_false] at hx
        omega
  · refine ⟨[], by rw [if_neg c1, if_neg (by omega), if_neg (by omega)]; rfl, by decide, fun q => absurd rfl q, ?_, fun x hx => by cases hx⟩
    show 0 + n % 256 = n
    omega
theorem nz_zero (k : Nat) : nz (List.replicate k 0) = false := by
  unfold nz
  simp
theorem pack_next {num n c : Nat} {w : Str} (hw : wdF num = some (w, c + 1)) (h71 : num ≠ 71) (hn : n < 4294967296) (pre post : List Nat) : nextF wdF (pre ++ (packN num n c ++ post)) pre.length = some (w, n, pre.length + (packN num n c).length) := by
  obtain ⟨es, e1, e2, e3, e4, _⟩ := exts_es hn
  have ea : packN num n c ++ post = exb es ++ (num :: n % 256 :: (List.replicate (2 * c) 0 ++ post)) := by
    unfold packN
    rw [e1, List.append_assoc, List.append_assoc]
    rfl
  have el : (packN num n c).length = 2 * es.length + (2 * c + 2) := by
    unfold packN
    rw [e1, List.length_append, exb_len, List.length_append, List.length_replicate]
    show _ + (2 + 2 * c) = _
    omega
  rw [ea, nextF_nx (tl := num :: n % 256 :: (List.replicate (2 * c) 0 ++ post)) (fun q => h71 q.2), el]
  unfold nx
  rw [if_neg, show (num :: n % 256 :: (List.replicate (2 * c) 0 ++ post)).getD 0 0 = num from rfl, hw]
  · dsimp only
    rw [if_neg, show (num :: n % 256 :: (List.replicate (2 * c) 0 ++ post)).getD 1 0 = n % 256 from rfl, e4]
    · rw [show pre.length + 2 * es.length + 2 * (c + 1) = pre.length + (2 * es.length + (2 * c + 2)) from by omega]
    · rintro (q | ⟨_, q⟩)
      · rw [List.length_cons, List.length_cons, List.length_append, List.length_replicate] at q
        omega
      · have ed : ((num :: n % 256 :: (List.replicate (2 * c) 0 ++ post)).drop 2).take (2 * (c + 1) - 2) = List.replicate (2 * c) 0 := by
          show (List.replicate (2 * c) 0 ++ post).take _ = _
          rw [show 2 * (c + 1) - 2 = 2 * c from by omega]
          exact List.take_left' (List.length_replicate ..)
        rw [ed, nz_zero] at q
        cases q
  · rintro ⟨q, q2 | q2 | q2⟩
    · omega
    · exact e3 q q2
    · cases q2
theorem packN_lt {num n c : Nat} (h : num < 256) (hn : n < 4294967296) : ∀ x ∈ packN num n c, x < 256 := by
  obtain ⟨es, e1, _, _, _, e5⟩ := exts_es hn
  have eb : ∀ (es : List Nat), (∀ x ∈ es, x < 256) → ∀ x ∈ exb es, x < 256 := by
    intro es
    induction es with
    | nil => exact fun _ x h => by cases h
    | cons y es ih =>
      intro h x hx
      rcases List.mem_append.mp (show x ∈ [71, y] ++ exb es from hx) with hx | hx
      · simp only [List.mem_cons, List.not_mem_nil, or_false] at hx
        have := h y List.mem_cons_self
        omega
      · exact ih (fun z hz => h z (List.mem_cons_of_mem _ hz)) x hx
  intro x hx
  unfold packN at hx
  rw [e1] at hx
  rcases List.mem_append.mp hx with hx | hx
  · exact eb es e5 x hx
  · rcases List.mem_append.mp hx with hx | hx
    · simp only [List.mem_cons, List.not_mem_nil, or_false] at hx
      omega
    · have := List.eq_of_mem_replicate hx
      omega
theorem packN_len {num n c : Nat} (hc : c ≤ 10) (hn : n < 4294967296) : (packN num n c).length ≤ 40 := by
  obtain ⟨es, e1, e2, _⟩ := exts_es hn
  unfold packN
  rw [e1, List.length_append, exb_len, List.length_append, List.length_replicate]
  show _ + (2 + 2 * c) ≤ 40
  omega
theorem packN_ne {num n c : Nat} : packN num n c ≠ [] := by
  unfold packN
  intro z
  have := (List.append_eq_nil_iff.mp z).2
  cases this
theorem pack_good {num n c : Nat} {w : Str} (hw : wdF num = some (w, c + 1)) (h71 : num ≠ 71) (h256 : num < 256) (hc : c ≤ 10) (hn : n < 4294967296) (hk : goodK (kdF w) n = true) : GoodB (packN num n c) :=
  ⟨packN_ne, packN_lt h256 hn, packN_len hc hn, w, n, hk, pack_next hw h71 hn⟩
theorem pack_bad {num n c : Nat} {w : Str} (hw : wdF num = some (w, c + 1)) (h71 : num ≠ 71) (h256 : num < 256) (hc : c ≤ 10) (hn : n < 4294967296) (hk : goodK (kdF w) n = false) : BadB (packN num n c) :=
  ⟨packN_ne, packN_lt h256 hn, packN_len hc hn, fun post pre => .inr ⟨w, n, _, pack_next hw h71 hn pre post, hk⟩⟩
/-! ### pieces that are wrong -/
theorem nx_e {es tl : List Nat} {b : Nat} (h : es ≠ [] ∧ (3 < es.length ∨ es.getD 0 0 = 0 ∨ tl = [])) : nx es tl b = none := if_pos h
theorem nx_w {es tl : List Nat} {b : Nat} (h : wdF (tl.getD 0 0) = none) : nx es tl b = none := by
  unfold nx
  rw [h]
  split <;> rfl
theorem nx_l {es tl : List Nat} {b u : Nat} {w : Str} (h : wdF (tl.getD 0 0) = some (w, u)) (h2 : tl.length < 2 * u ∨ (1 < u ∧ nz ((tl.drop 2).take (2 * u - 2)) = true)) : nx es tl b = none := by
  unfold nx
  rw [h]
  split
  · rfl
  · dsimp only
    rw [if_pos h2]
theorem bad_of {bs post : List Nat} (es tl : List Nat) (e : bs ++ post = exb es ++ tl) (ht : ¬ (2 ≤ tl.length ∧ tl.getD 0 0 = 71)) (h : ∀ b, nx es tl b = none) : BadAt bs post := fun pre => .inl (by rw [e, nextF_nx ht, h])
theorem bad_unknown {u x : Nat} (hu : wdF u = none) (h71 : u ≠ 71) (l1 : u < 256) (l2 : x < 256) : BadB [u, x] :=
  ⟨by simp, fun y hy => by simp only [List.mem_cons, List.not_mem_nil, or_false] at hy; omega, by simp, fun post => bad_of [] (u :: x :: post) rfl (fun q => h71 q.2) fun b => nx_w hu⟩
theorem bad_0 : BadB [0, 0] := bad_unknown (by decide +kernel) (by decide) (by decide) (by decide)
theorem bad_1 : BadB [71, 1, 0, 0] := ⟨by simp, by decide, by decide, fun post => bad_of [1] (0 :: 0 :: post) rfl (fun q => by cases q.2) fun b => nx_w (show wdF 0 = none by decide +kernel)⟩
theorem bad_2 : BadB [71, 1, 71, 1, 71, 1, 71, 1, 30, 0] := ⟨by simp, by decide, by decide, fun post => bad_of [1, 1, 1, 1] (30 :: 0 :: post) rfl (fun q => by cases q.2) fun b => nx_e ⟨by simp, .inl (by decide)⟩⟩
theorem bad_3 : BadB [71, 0, 30, 0] := ⟨by simp, by decide, by decide, fun post => bad_of [0] (30 :: 0 :: post) rfl (fun q => by cases q.2) fun b => nx_e ⟨by simp, .inr (.inl rfl)⟩⟩
theorem bad_4 : BadB [71, 1, 0, 5] := ⟨by simp, by decide, by decide, fun post => bad_of [1] (0 :: 5 :: post) rfl (fun q => by cases q.2) fun b => nx_w (show wdF 0 = none by decide +kernel)⟩
theorem wd_45e : wdF 45 = some (("BINARY_OP" : Str), 2) := by decide +kernel
theorem wd_82 : wdF 82 = some (("LOAD_ATTR" : Str), 10) := by decide +kernel
theorem wd_30 : wdF 30 = some (("NOP" : Str), 1) := by decide +kernel
theorem wd_40 : wdF 40 = some (("TO_BOOL" : Str), 4) := by decide +kernel
theorem bad_5 : BadB [45, 0, 0, 1] := ⟨by simp, by decide, by decide, fun post => bad_of [] (45 :: 0 :: 0 :: 1 :: post) rfl (fun q => by cases q.2) fun b => nx_l wd_45e (.inr ⟨by decide, rfl⟩)⟩
theorem bad_6 : BadB [45, 0, 1, 0] := ⟨by simp, by decide, by decide, fun post => bad_of [] (45 :: 0 :: 1 :: 0 :: post) rfl (fun q => by cases q.2) fun b => nx_l wd_45e (.inr ⟨by decide, rfl⟩)⟩
theorem bad_7 : BadB [71, 0, 71, 1, 30, 0] := ⟨by simp, by decide, by decide, fun post => bad_of [0, 1] (30 :: 0 :: post) rfl (fun q => by cases q.2) fun b => nx_e ⟨by simp, .inr (.inl rfl)⟩⟩
theorem bad_8 : BadB ([82, 0] ++ List.replicate 17 0 ++ [9]) := ⟨by simp, by decide, by decide, fun post => bad_of [] (82 :: 0 :: 0 :: 0 :: 0 :: 0 :: 0 :: 0 :: 0 :: 0 :: 0 :: 0 :: 0 :: 0 :: 0 :: 0 :: 0 :: 0 :: 0 :: 9 :: post) rfl (fun q => by cases q.2) fun b => nx_l wd_82 (.inr ⟨by decide, rfl⟩)⟩
/-! ### tails -/
theorem tl_1 : BadAt [30] [] := bad_of [] [30] rfl (by decide) fun b => nx_l wd_30 (.inl (by decide))
theorem tl_2 : BadAt [71] [] := bad_of [] [71] rfl (by decide) fun b => nx_w wd_71
theorem tl_3 : BadAt [71, 1] [] := bad_of [1] [] rfl (by decide) fun b => nx_e ⟨by simp, .inr (.inr rfl)⟩
theorem tl_4 : BadAt [71, 2, 71, 3] [] := bad_of [2, 3] [] rfl (by decide) fun b => nx_e ⟨by simp, .inr (.inr rfl)⟩
theorem tl_5 : BadAt [45, 0] [] := bad_of [] [45, 0] rfl (by decide) fun b => nx_l wd_45e (.inl (by decide))
theorem tl_6 : BadAt [45, 0, 0] [] := bad_of [] [45, 0, 0] rfl (by decide) fun b => nx_l wd_45e (.inl (by decide))
theorem tl_7 : BadAt ([82, 0] ++ List.replicate 16 0) [] := bad_of [] [82, 0, 0, 0, 0, 0, 0, 0, 0, 0, 0, 0, 0, 0, 0, 0, 0, 0] rfl (by decide) fun b => nx_l wd_82 (.inl (by decide))
theorem tl_8 : BadAt [40, 0, 0, 0, 0] [] := bad_of [] [40, 0, 0, 0, 0] rfl (by decide) fun b => nx_l wd_40 (.inl (by decide))
end C58

set_option maxHeartbeats 1000000
namespace C58
open PySem PySem.Spec PyProof.Rows L2
section
variable {P : Program} {w : World} {K : PySem.W.Frag} {mg : Str → Option Value} {base : Heap} {f : Addr} {fd : FuncData}
abbrev stable : Stmt := top 68
theorem sctable : FnScope ["_law_some", "_law_words", "_law_found", "_law_k"] [] (defScope stable) := ⟨rfl, rfl, rfl, by decide +kernel, rfl, by decide +kernel, by decide +kernel⟩

end
/-! ### a written list of texts, kept closed -/
def csts : List Expr → Option (List Str)
  | [] => some []
  | .Constant (.str z) _ _ :: es => (csts es).map (z :: ·)
  | _ => none
def tStrs : List Str → TA
  | [] => tNil
  | y :: ys => tCons (tC (.str y)) (tStrs ys)
theorem pa_strs {X : Cx} : ∀ {es : List Expr} {ys : List Str}, csts es = some ys → PA X es (tStrs ys)
  | [], _, h => by
    cases h
    exact pa_nil
  | .Constant (.str z) k p :: es, ys, h => by
    have h2 : (csts es).map (z :: ·) = some ys := h
    cases e : csts es with
    | none => rw [e] at h2; cases h2
    | some zs =>
      rw [e] at h2
      cases h2
      exact pa_cons pe_str (pa_strs e)
theorem r_strs {σ : L2.St} {H : Hp} {QA : List V → Hp → Prop} : ∀ {ys : List Str}, tStrs ys σ H QA = QA (ys.map V.str) H := by
  intro ys
  induction ys generalizing QA with
  | nil => rfl
  | cons y ys ih =>
    show tStrs ys σ H (fun xs H2 => QA (V.str y :: xs) H2) = _
    rw [ih]
    rfl
/-! ### the law's table -/
def stTab : Stmt := (defBody stable).getD 0 (.Pass ⟨0, 0, 0, 0⟩)
def exTab : List Expr := match stTab with
  | .Assign _ (.List es _) _ => es
  | _ => []
def LT : List Str := (csts exTab).getD []
def JL : List Nat := TL.joinL [32] (LT.map TL.tl)
def WL : List (List Nat) := TL.spl [32] 0 [] JL
def WS : List Str := WL.map SX.S
abbrev TR : Type := Str × Int × Int × Str
def quads : List Str → List TR
  | a :: b :: c :: d :: r => (a, (PySem.intText? b).getD 0, (PySem.intText? c).getD 0, d) :: quads r
  | _ => []
def tabL : List TR := quads WS
def quadsOk : List Str → Bool
  | _ :: b :: c :: _ :: r => decide (b.length ≤ 640) && (decide (c.length ≤ 640) && ((PySem.intText? b).isSome && ((PySem.intText? c).isSome && quadsOk r)))
  | [] => true
  | _ => false
theorem quads_at : ∀ {ws : List Str}, quadsOk ws = true → ∀ {k : Nat} {r : TR}, (quads ws)[k]? = some r → ∃ b c, ws[4 * k]? = some r.1 ∧ ws[4 * k + 1]? = some b ∧ ws[4 * k + 2]? = some c ∧ ws[4 * k + 3]? = some r.2.2.2 ∧
    PySem.intText? b = some r.2.1 ∧ PySem.intText? c = some r.2.2.1 ∧ b.length ≤ 640 ∧ c.length ≤ 640
  | a :: b :: c :: d :: ws, h, 0, r, e => by
    have h2 : (decide (b.length ≤ 640) && (decide (c.length ≤ 640) && ((PySem.intText? b).isSome && ((PySem.intText? c).isSome && quadsOk ws)))) = true := h
    simp only [Bool.and_eq_true, decide_eq_true_eq] at h2
    obtain ⟨h1, h3, h4, h5, _⟩ := h2
    have e2 : some (a, (PySem.intText? b).getD 0, (PySem.intText? c).getD 0, d) = some r := e
    cases e2
    refine ⟨b, c, rfl, rfl, rfl, rfl, ?_, ?_, h1, h3⟩
    · cases z : PySem.intText? b with
      | none => rw [z] at h4; cases h4
      | some n => rfl
    · cases z : PySem.intText? c with
      | none => rw [z] at h5; cases h5
      | some n => rfl
  | a :: b :: c :: d :: ws, h, k + 1, r, e => by
    have h2 : (decide (b.length ≤ 640) && (decide (c.length ≤ 640) && ((PySem.intText? b).isSome && ((PySem.intText? c).isSome && quadsOk ws)))) = true := h
    simp only [Bool.and_eq_true, decide_eq_true_eq] at h2
    obtain ⟨_, _, _, _, h6⟩ := h2
    exact quads_at h6 (k := k) e
  | [], _, k, r, e => by cases e
theorem quads_len : ∀ {ws : List Str}, quadsOk ws = true → ws.length = 4 * (quads ws).length
  | a :: b :: c :: d :: ws, h => by
    have h2 : (decide (b.length ≤ 640) && (decide (c.length ≤ 640) && ((PySem.intText? b).isSome && ((PySem.intText? c).isSome && quadsOk ws)))) = true := h
    simp only [Bool.and_eq_true, decide_eq_true_eq] at h2
    have := quads_len h2.2.2.2.2
    show ws.length + 1 + 1 + 1 + 1 = 4 * ((quads ws).length + 1)
    omega
  | [], _ => rfl
theorem LT_ok : csts exTab = some LT := by
  unfold LT
  have h : (csts exTab).isSome = true := by decide +kernel
  cases e : csts exTab with
  | none => rw [e] at h; cases h
  | some l => rfl
theorem chk1 : decide (LT.length ≤ 100) = true := by decide +kernel
theorem chk2 : decide (JL.length ≤ 5000) = true := by decide +kernel
theorem chk3 : quadsOk WS = true := by decide +kernel
theorem chk4 : decide (tabL.length ≤ 100 ∧ 0 < tabL.length) = true := by decide +kernel
def sortOk (s : Str) (k : Nat) : Bool := if s = "c" then k == 2 else if s = "n" then k == 3 else if s = "m" then k == 4 || k == 5 else if s = "l" then k == 6 else if s = "p" then k == 7 else decide (k < 2 ∨ 7 < k)
def rowTest (r : TR) : Bool := (wdF r.2.1.toNat == some (r.1, r.2.2.1.toNat + 1)) && (decide (0 < r.2.1 ∧ r.2.1 ≠ 71 ∧ r.2.1 < 256 ∧ 0 ≤ r.2.2.1 ∧ r.2.2.1 ≤ 10) && sortOk r.2.2.2 (kiF r.1))
theorem chk5 : tabL.all rowTest = true := by decide +kernel
theorem chk6 : (tabL.map (·.1)).Nodup := by decide +kernel
theorem chk7 : decide ((LT.map (·.length)).sum ≤ 5000) = true := by decide +kernel
theorem WS_is : Txt.split (Txt.join " " LT) " " = WS := by
  have e1 : Txt.join " " LT = SX.S JL := by
    show Builtin.Str.glued " " LT = _
    rw [StrLaws.glued_eq_join]
    refine TL.ext_tl ?_
    rw [TL.tl_join]
    rfl
  have e2 : (" " : Str) = SX.S [32] := by decide +kernel
  rw [e1, e2, SX.split_S (by decide) (by decide)]
  rfl
end C58

set_option maxHeartbeats 1000000
namespace C58
open PySem PySem.Spec PyProof.Rows L2
/-! ### range with a step; zeros -/
theorem r_for3 {K : PySem.W.Frag} {ta : TA} {g : TG} {tb : TS} {D : Ends} {σ : L2.St} {H : Hp} : tFor (iRng3 ta) g tb D σ H = ta σ H (fun vs H1 => ∃ (i j c : Int) (n : Nat), vs = [.int i, .int j, .int c] ∧ RgC i j c n ∧ LoopR (Itc i c n) g tb D σ H1) := rfl
theorem lp_rngC {lo c : Int} {n : Nat} {g : TG} {tb : TS} {D : Ends} {σ : L2.St} {H : Hp} (Pv : Nat → L2.St → Hp → Prop) (h0 : Pv 0 σ H)
    (hs : ∀ i σ H, i < n → Pv i σ H → g (.int (lo + (i : Nat) * c)) σ H fun σ2 H2 => tb { D with nx := Pv (i + 1), ct := Pv (i + 1), bk := D.nx } σ2 H2) (hd : ∀ σ H, Pv n σ H → D.nx σ H) : LoopR (Itc lo c n) g tb D σ H := for_rangeC Pv h0 hs hd
theorem rep_vn (k : Nat) : (List.replicate k [V.int 0]).flatten = vn (List.replicate k 0) := by
  induction k with
  | zero => rfl
  | succ k ih =>
    rw [List.replicate_succ, List.flatten_cons, ih, List.replicate_succ]
    rfl

def trV (r : TR) : List V := [.int r.2.1, .int r.2.2.1, .str r.2.2.2]
/-- the entries of the law's table -/
def EntR (H : Hp) (kv : Key × V) (r : TR) : Prop := kv.1 = Sum.inr r.1 ∧ ∃ t, kv.2 = .ref t ∧ H t = some (.tup (trV r))
def LawTab (H : Hp) (d : Addr) (rs : List TR) : Prop := ∃ kvs : List (Key × V), H d = some (.dK kvs) ∧ Paired (EntR H) kvs rs
theorem LawTab.same {H H' : Hp} {d : Addr} {rs : List TR} (h : LawTab H d rs) (s : Same H H') : LawTab H' d rs := by
  obtain ⟨kvs, e, p⟩ := h
  exact ⟨kvs, s _ _ e, Paired.map' p fun a b ⟨h1, t, h2, h3⟩ => ⟨h1, t, h2, s _ _ h3⟩⟩
theorem LawTab.keep {H H' : Hp} {d a : Addr} {rs : List TR} (h : LawTab H d rs) (s : Keep a H H') (ha : ∃ xs, H a = some (.lst xs)) : LawTab H' d rs := by
  obtain ⟨kvs, e, p⟩ := h
  obtain ⟨xs, ha⟩ := ha
  exact ⟨kvs, s _ _ (fun z => by rw [z, ha] at e; cases e) e, Paired.map' p fun x b ⟨h1, t, h2, h3⟩ => ⟨h1, t, h2, s _ _ (fun z => by rw [z, ha] at h3; cases h3) h3⟩⟩
theorem val_none {H : Hp} {x : Str} : ∀ {kvs : List (Key × V)} {rs : List TR}, Paired (EntR H) kvs rs → x ∉ rs.map (·.1) → valV kvs (Sum.inr x : Key) = none
  | _, _, .nil, _ => rfl
  | _, _, .cons (a := kv) (b := r) (l₁ := kvs) (l₂ := rs) h t, hx => by
    rw [List.map_cons, List.mem_cons, not_or] at hx
    rw [valV_neg (p := kv) (fun z => hx.1 (by rw [h.1] at z; exact (Sum.inr.inj z).symm))]
    exact val_none t hx.2
theorem val_some {H : Hp} {r : TR} : ∀ {kvs : List (Key × V)} {rs : List TR}, Paired (EntR H) kvs rs → (rs.map (·.1)).Nodup → r ∈ rs → ∃ t, valV kvs (Sum.inr r.1 : Key) = some (.ref t) ∧ H t = some (.tup (trV r))
  | _, _, .nil, _, h => by cases h
  | _, _, .cons (a := kv) (b := q) (l₁ := kvs) (l₂ := rs) h t, hn, hr => by
    rw [List.map_cons, List.nodup_cons] at hn
    rcases List.mem_cons.mp hr with rfl | hr
    · obtain ⟨h1, u, h2, h3⟩ := h
      exact ⟨u, by rw [valV_pos (p := kv) h1, h2], h3⟩
    · rw [valV_neg (p := kv) (fun z => hn.1 (by rw [h.1] at z; rw [Sum.inr.inj z]; exact List.mem_map_of_mem hr))]
      exact val_some t hn.2 hr
def spTable : Sp := fun vs H Q _ => vs = [] ∧ ∀ d H', H d = none → Same H H' → LawTab H' d tabL → Q (.ref d) H'
def lvTable (H : Hp) (p0 wd d : Addr) (i : Nat) (σ : L2.St) (H' : Hp) : Prop := ∃ v : Option V, σ = [some (.ref p0), some (.ref wd), some (.ref d), v] ∧ Same H H' ∧ H' wd = some (.lst (WS.map V.str)) ∧ LawTab H' d (tabL.take i)
section
variable {P : Program} {w : World} {K : PySem.W.Frag} {mg : Str → Option Value} {base : Heap} {f : Addr} {fd : FuncData}
theorem r_m1 {r : V → List V → Hp → VK → Prop} {to te : TE} {σ : L2.St} {H : Hp} {Q : VK} : tM1 r to te σ H Q = to σ H (fun x H1 => (∃ a, x = .str a) ∧ te σ H1 fun y H2 => r x [y] H2 Q) := rfl
theorem r_dnew {σ : L2.St} {H : Hp} {Q : VK} : tDNewK σ H Q = ∀ p, H p = none → Q (.ref p) (L2.upd H p (.dK [])) := rfl
theorem r_sput {td ty tv : TE} {D : Ends} {σ : L2.St} {H : Hp} : sDPut td ty tv D σ H = tv σ H (fun v H1 => td σ H1 fun x H2 => ty σ H2 fun y H3 => ∃ a H4, x = .ref a ∧ DPut H3 a y v H4 ∧ D.nx σ H4) := rfl
/-! ### the first statement, by its shape alone -/
def shapeT : Stmt → Bool
  | .Assign [.Name x _] (.List _ _) _ => x == "_law_some"
  | _ => false
def exOf : Stmt → List Expr
  | .Assign _ (.List es _) _ => es
  | _ => []
theorem shapeT_ok {st : Stmt} (h : shapeT st = true) : ∃ p1 p2 p3, st = .Assign [.Name "_law_some" p1] (.List (exOf st) p2) p3 := by
  unfold shapeT at h
  split at h
  · rename_i x p1 es p2 p3
    have e : x = "_law_some" := by simpa using h
    subst e
    exact ⟨p1, p2, p3, rfl⟩
  · cases h
theorem exTab_is : exTab = exOf stTab := by
  unfold exTab exOf
  rfl
theorem shape_tab : shapeT stTab = true := by decide +kernel
theorem tab_ps {X : Cx} (hN : X.N.Nodup) (hi : X.N[0]? = some ("_law_some" : Str)) (hx : Loc X.env.scope "_law_some") (hf : X.fn ("_law_some" : Str) = true ∨ X.env.scope.names.lookup ("_law_some" : Str) = some NameKind.local) : PS X stTab (tAsg (tLst (tStrs LT)) (gName 0)) := by
  obtain ⟨p1, p2, p3, e⟩ := shapeT_ok shape_tab
  have h := LT_ok
  rw [exTab_is] at h
  rw [e]
  generalize exOf stTab = es at *
  exact ps_set (i := 0) hN hi hx (pe_lst (pa_strs h)) rfl hf
theorem body_tab : defBody stable = stTab :: (defBody stable).tail := by
  have h : (defBody stable).isEmpty = false := by decide +kernel
  unfold stTab
  generalize defBody stable = b at *
  cases b with
  | nil => cases h
  | cons x y => rfl
theorem pss_first {X : Cx} {b : List Stmt} {st : Stmt} {rest : List Stmt} {t u : TS} (e : b = st :: rest) (h : PS X st t) (k : PSs X rest u) : PSs X b (tSeq t u) := by
  rw [e]
  exact pss_cons h k
theorem rg4 {t : Nat} (h : t ≤ 100) : RgC 0 ((4 * t : Nat) : Int) 4 t := by
  have e : ∀ t : Fin 101, Builtin.Range.small 0 ((4 * t.val : Nat) : Int) 4 = true ∧ Builtin.Range.rangeSize 0 ((4 * t.val : Nat) : Int) 4 = t.val := by decide +kernel
  obtain ⟨h1, h2⟩ := e ⟨t, by omega⟩
  exact ⟨by decide, by decide, h1, h2⟩
theorem ok_table (T : Txt mg) (F : FnP K "_law_table" "_law_table" stable f fd) : FnOk P w K mg base CX0 1 f fd [] spTable := by
  refine F.ok sctable (fun vs H Q E h => ?_) (fun cdv A outer s H vs Q E hr h => ?_)
  · obtain ⟨rfl, _⟩ := h
    rfl
  · obtain ⟨rfl, k⟩ := h
    refine ⟨_, PSs.nox (pss_first body_tab (tab_ps sctable.nd rfl (Or.inl rfl) (.inr rfl)) (pss_cons (ps_par (i := 1) (j := 2) (by rfl) sctable.nd rfl rfl (by decide) rfl rfl (pa_cons (pe_splitAny (pe_join pe_str (pv 0)) pe_str) (pa_cons pe_dnewK pa_nil)) (by rfl))
  (pss_cons (ps_for PassesOwn.never rfl (pi_range3 rfl T.b_range (pa_cons pe_int (pa_cons (pe_callB call_len_d (by rfl) T.b_len (by decide +kernel) (pa_cons (pv 1) pa_nil)) (pa_cons pe_int pa_nil)))) (pg_name (i := 3) sctable.nd rfl (Or.inl rfl))
    (pss_one (ps_dput (hu_of hr) (pv 2) (pe_ix ix_d (pv 1) (pv 3) (fun _ _ => rfl)) (pe_tup (pa_cons (pe_callTy call_int_str (by rfl) T.b_int (by decide +kernel) (pa_cons (pe_ix ix_d (pv 1) (pe_op op_add (pv 3) pe_int) (fun _ _ => rfl)) pa_nil)) (pa_cons (pe_callTy call_int_str (by rfl) T.b_int (by decide +kernel) (pa_cons (pe_ix ix_d (pv 1) (pe_op op_add (pv 3) pe_int) (fun _ _ => rfl)) pa_nil)) (pa_cons (pe_ix ix_d (pv 1) (pe_op op_add (pv 3) pe_int) (fun _ _ => rfl)) pa_nil)))) rfl)))
  (pss_one (ps_ret (pv 2)))))), ?_⟩
    show (_ : TS) _ [none, none, none, none] H
    obtain ⟨L, hL⟩ : ∃ L, L = LT := ⟨_, rfl⟩
    rw [← hL]
    simp only [r_seq, r_next, r_brk, r_cont, r_asg, r_name, r_ret, r_retN, r_drop, r_ifs, r_never, r_var, r_c, r_op, r_un, r_if, r_tst, r_b, r_not, r_and, r_or, r_andV, r_orV, r_notV, r_nil, r_cons, r_tup, r_lst, r_cb, r_call, r_bm, r_bm0, r_sl, r_nopart, r_part, r_rev, r_gnil, r_gcons, r_gsub, r_par, r_aug, r_chain, r_I0, r_I, r_U, r_ixd, r_lend, r_tupd, r_listd, r_sld, r_app, r_ext, r_reverse, r_setl, r_cat, r_int1, r_eqS, r_neS, scal_ii, scal_bb, scal_ss, at0, at1, at2, sq_lst, sq_tup, isLst_lst, List.getElem?_cons_zero, List.getElem?_cons_succ, List.set_cons_zero, List.set_cons_succ, V.int.injEq, V.bl.injEq, V.ref.injEq, V.str.injEq, HO.lst.injEq, HO.tup.injEq, Option.some.injEq, exists_eq_left', exists_eq_left, List.cons.injEq, and_true, true_and, decide_eq_true_eq, reduceCtorEq, false_and, exists_false, or_false, false_or, exists_const, and_assoc, exists_and_left, List.append_nil, ix0, ix1, ix2, cm_mod, cdw1009, cdw2003, cdw7, cdw64, cdw2, cm104729, cm2, cm3, upd_same, List.length_cons, List.length_nil, Int.reduceLT, Int.reduceLE, Nat.reduceAdd, Nat.reduceLeDiff, Nat.reduceLT, Int.reduceToNat, r_for1, r_forL, r_forT, r_lcL, r_lc1, r_yes, r_gtupD, wipe_0, wipe_1, List.cons_append, List.nil_append, r_forS, r_ipI, ite_false, ite_true, Bool.not_true, Bool.not_false, decide_true, decide_false, r_isd, r_islt, cD_ty, cD_ref, tD_non, tD_bl, tD_int, tD_str, tD_ref, tH_lst, tH_tup, tH_dK, tH_ins, ki_self, ki_int_bool, ki_non_int, ki_str_int, ki_lt_lst, ki_lt_tup, r_fld, r_sfld, HO.ins.injEq, cx_K, r_for3, r_m1, r_dnew, r_sput, r_strs]
    have c1 := of_decide_eq_true chk1
    have c7 := of_decide_eq_true chk7
    have c2 := of_decide_eq_true chk2
    have hsp := WS_is
    obtain ⟨W, hW⟩ : ∃ W, W = WS := ⟨_, rfl⟩
    have wl : W.length = 4 * tabL.length := by rw [hW]; exact quads_len chk3
    have wt := (of_decide_eq_true chk4).1
    have wat : ∀ {i : Nat} {r : TR}, tabL[i]? = some r → ∃ b c, W[4 * i]? = some r.1 ∧ W[4 * i + 1]? = some b ∧ W[4 * i + 2]? = some c ∧ W[4 * i + 3]? = some r.2.2.2 ∧ PySem.intText? b = some r.2.1 ∧ PySem.intText? c = some r.2.2.1 ∧ b.length ≤ 640 ∧ c.length ≤ 640 := fun e => by
      rw [hW]
      exact quads_at chk3 e
    rw [← hL, ← hW] at hsp
    rw [← hL] at c1 c7
    have jl : (Txt.join " " L).length ≤ 16000 := by
      show (Builtin.Str.glued " " L).length ≤ _
      rw [StrLaws.glued_eq_join]
      refine Nat.le_trans (StrLaws.join_length_le " " L) ?_
      have : (" " : Str).length = 1 := by decide +kernel
      rw [this]
      omega
    refine ⟨szl (by rw [List.length_map]; omega), fun p hp => ⟨⟨_, rfl⟩, L, .inl (SqL.of upd_same), ?_, ⟨_, rfl⟩, .inl ⟨_, _, rfl, rfl, by decide +kernel, ?_, fun wd hwd => ?_⟩⟩⟩
    · have : (" " : Str).length = 1 := by decide +kernel
      rw [this]
      omega
    · exact Nat.le_trans (by omega : _ ≤ 17000) (by decide)
    rw [hsp]
    clear hsp jl
    intro d hd
    have s1 : Same H (L2.upd (L2.upd (L2.upd H p (.lst (L.map V.str))) wd (.lst (W.map V.str))) d (.dK [])) := Same.new' (Same.new' (Same.new' (Same.refl H) hp) hwd) hd
    have q1 : L2.upd (L2.upd (L2.upd H p (.lst (L.map V.str))) wd (.lst (W.map V.str))) d (.dK []) wd = some (.lst (W.map V.str)) := by
      rw [upd_ne (ne_new upd_same hd)]
      exact upd_same
    have q2 : L2.upd (L2.upd (L2.upd H p (.lst (L.map V.str))) wd (.lst (W.map V.str))) d (.dK []) d = some (.dK []) := upd_same
    have dH : H d = none := (Same.new' (Same.new' (Same.refl H) hp) hwd).free hd
    have dw : wd ≠ d := ne_new upd_same hd
    generalize L2.upd (L2.upd (L2.upd H p (.lst (L.map V.str))) wd (.lst (W.map V.str))) d (.dK []) = G at *
    refine ⟨wd, rfl, _, by rw [q1]; rfl, tabL.length, ?_, lp_rngC (lvTable H p wd d) ⟨none, rfl, s1, by rw [q1, hW], [], q2, by rw [List.take_zero]; exact .nil⟩ ?_ ?_⟩
    · rw [List.length_map, wl]
      exact rg4 wt
    · rintro i σ H1 hi ⟨v, rfl, s2, h2, kvs, h3, pk⟩
      rw [← hW] at h2
      obtain ⟨r, hr2⟩ : ∃ r, tabL[i]? = some r := ⟨_, List.getElem?_eq_getElem hi⟩
      obtain ⟨b, c, w0, w1, w2, w3, i1, i2, l1, l2⟩ := wat hr2
      have at' : ∀ {j : Nat} {x : Str}, W[j]? = some x → atI (W.map V.str) (j : Int) = some (.str x) := fun e => atn (by rw [List.getElem?_map, e]; rfl)
      have e0 : 0 + (i : Int) * 4 = ((4 * i : Nat) : Int) := by omega
      have e1 : ((4 * i : Nat) : Int) + 1 = ((4 * i + 1 : Nat) : Int) := by omega
      have e2 : ((4 * i : Nat) : Int) + 2 = ((4 * i + 2 : Nat) : Int) := by omega
      have e3 : ((4 * i : Nat) : Int) + 3 = ((4 * i + 3 : Nat) : Int) := by omega
      have a0 := at' w0
      have a1 := at' w1
      have a2 := at' w2
      have a3 := at' w3
      have tk : tabL.take (i + 1) = tabL.take i ++ [r] := by
        rw [List.take_succ, hr2]
        rfl
      have lk := Paired.length pk
      rw [List.length_take] at lk
      have nd := chk6
      rw [e0]
      simp only [r_seq, r_next, r_brk, r_cont, r_asg, r_name, r_ret, r_retN, r_drop, r_ifs, r_never, r_var, r_c, r_op, r_un, r_if, r_tst, r_b, r_not, r_and, r_or, r_andV, r_orV, r_notV, r_nil, r_cons, r_tup, r_lst, r_cb, r_call, r_bm, r_bm0, r_sl, r_nopart, r_part, r_rev, r_gnil, r_gcons, r_gsub, r_par, r_aug, r_chain, r_I0, r_I, r_U, r_ixd, r_lend, r_tupd, r_listd, r_sld, r_app, r_ext, r_reverse, r_setl, r_cat, r_int1, r_eqS, r_neS, scal_ii, scal_bb, scal_ss, at0, at1, at2, sq_lst, sq_tup, isLst_lst, List.getElem?_cons_zero, List.getElem?_cons_succ, List.set_cons_zero, List.set_cons_succ, V.int.injEq, V.bl.injEq, V.ref.injEq, V.str.injEq, HO.lst.injEq, HO.tup.injEq, Option.some.injEq, exists_eq_left', exists_eq_left, List.cons.injEq, and_true, true_and, decide_eq_true_eq, reduceCtorEq, false_and, exists_false, or_false, false_or, exists_const, and_assoc, exists_and_left, List.append_nil, ix0, ix1, ix2, cm_mod, cdw1009, cdw2003, cdw7, cdw64, cdw2, cm104729, cm2, cm3, upd_same, List.length_cons, List.length_nil, Int.reduceLT, Int.reduceLE, Nat.reduceAdd, Nat.reduceLeDiff, Nat.reduceLT, Int.reduceToNat, r_for1, r_forL, r_forT, r_lcL, r_lc1, r_yes, r_gtupD, wipe_0, wipe_1, List.cons_append, List.nil_append, r_forS, r_ipI, ite_false, ite_true, Bool.not_true, Bool.not_false, decide_true, decide_false, r_isd, r_islt, cD_ty, cD_ref, tD_non, tD_bl, tD_int, tD_str, tD_ref, tH_lst, tH_tup, tH_dK, tH_ins, ki_self, ki_int_bool, ki_non_int, ki_str_int, ki_lt_lst, ki_lt_tup, r_fld, r_sfld, HO.ins.injEq, cx_K, r_sput, h2, e1, e2, e3, a0, a1, a2, a3]
      refine ⟨_, i1, l1, _, i2, l2, szl (by decide : 3 ≤ 1000), fun t ht => ?_⟩
      have hwt : wd ≠ t := ne_new h2 ht
      rw [upd_ne hwt]
      refine ⟨_, by rw [h2]; rfl, _, a0, _, .inl ⟨kvs, Sum.inr r.1, by rw [upd_ne (ne_new h3 ht)]; exact h3, rfl, Nat.lt_of_le_of_lt (by omega : _ ≤ 1000) (by decide), rfl⟩, ?_⟩
      have td : t ≠ d := new_ne h3 ht
      have nk : valV kvs (Sum.inr r.1 : Key) = none := by
        refine val_none pk fun hm => ?_
        have e := List.take_append_drop (i + 1) tabL
        rw [tk] at e
        rw [← e, List.map_append, List.map_append, List.nodup_append, List.nodup_append] at nd
        exact nd.1.2.2 r.1 hm r.1 (by simp) rfl
      rw [putK_new _ nk]
      refine ⟨_, rfl, fun b o e => ?_, ?_, kvs ++ [(Sum.inr r.1, .ref t)], upd_same, ?_⟩
      · rw [upd_ne (ne_new e dH), upd_ne (ne_new (s2 b o e) ht)]
        exact s2 b o e
      · rw [upd_ne dw, upd_ne hwt, ← hW]
        exact h2
      · rw [tk]
        refine Paired.snoc' (Paired.map' pk fun x y ⟨g1, u, g2, g3⟩ => ⟨g1, u, g2, ?_⟩) ⟨rfl, t, rfl, by rw [upd_ne td]; exact upd_same⟩
        have ud : u ≠ d := fun z => by rw [z, h3] at g3; cases g3
        rw [upd_ne ud, upd_ne (ne_new g3 ht)]
        exact g3
    · rintro σ H1 ⟨v, rfl, s2, h2, h3⟩
      rw [List.take_length] at h3
      simp only [r_seq, r_next, r_brk, r_cont, r_asg, r_name, r_ret, r_retN, r_drop, r_ifs, r_never, r_var, r_c, r_op, r_un, r_if, r_tst, r_b, r_not, r_and, r_or, r_andV, r_orV, r_notV, r_nil, r_cons, r_tup, r_lst, r_cb, r_call, r_bm, r_bm0, r_sl, r_nopart, r_part, r_rev, r_gnil, r_gcons, r_gsub, r_par, r_aug, r_chain, r_I0, r_I, r_U, r_ixd, r_lend, r_tupd, r_listd, r_sld, r_app, r_ext, r_reverse, r_setl, r_cat, r_int1, r_eqS, r_neS, scal_ii, scal_bb, scal_ss, at0, at1, at2, sq_lst, sq_tup, isLst_lst, List.getElem?_cons_zero, List.getElem?_cons_succ, List.set_cons_zero, List.set_cons_succ, V.int.injEq, V.bl.injEq, V.ref.injEq, V.str.injEq, HO.lst.injEq, HO.tup.injEq, Option.some.injEq, exists_eq_left', exists_eq_left, List.cons.injEq, and_true, true_and, decide_eq_true_eq, reduceCtorEq, false_and, exists_false, or_false, false_or, exists_const, and_assoc, exists_and_left, List.append_nil, ix0, ix1, ix2, cm_mod, cdw1009, cdw2003, cdw7, cdw64, cdw2, cm104729, cm2, cm3, upd_same, List.length_cons, List.length_nil, Int.reduceLT, Int.reduceLE, Nat.reduceAdd, Nat.reduceLeDiff, Nat.reduceLT, Int.reduceToNat, r_for1, r_forL, r_forT, r_lcL, r_lc1, r_yes, r_gtupD, wipe_0, wipe_1, List.cons_append, List.nil_append, r_forS, r_ipI, ite_false, ite_true, Bool.not_true, Bool.not_false, decide_true, decide_false, r_isd, r_islt, cD_ty, cD_ref, tD_non, tD_bl, tD_int, tD_str, tD_ref, tH_lst, tH_tup, tH_dK, tH_ins, ki_self, ki_int_bool, ki_non_int, ki_str_int, ki_lt_lst, ki_lt_tup, r_fld, r_sfld, HO.ins.injEq, cx_K]
      exact k d H1 dH s2 h3
end
end C58

set_option maxHeartbeats 2000000
namespace C58
open PySem PySem.Spec PyProof.Rows L2
/-! ### sorted of a dict with text keys, any number of them -/
def sv : Value → List Nat
  | .str x _ => x.cps.toList
  | _ => []
def ltSv (v u : Value) : Bool := decide (sv v < sv u)
theorem swo_sv : SrtO.Swo ltSv := by
  refine ⟨fun x y h => ?_, fun x y z h1 h2 => ?_⟩
  · have a := of_decide_eq_true (p := sv x < sv y) h
    exact decide_eq_false (p := sv y < sv x) (List.lt_asymm a)
  · have a := of_decide_eq_false (p := sv y < sv x) h1
    have b := of_decide_eq_false (p := sv z < sv y) h2
    have c : sv x ≤ sv z := List.le_trans (show sv x ≤ sv y from a) (show sv y ≤ sv z from b)
    exact decide_eq_false (p := sv z < sv x) c
theorem strs_mem : ∀ {vs : List Value} {ns : List Str}, StrsAre vs ns → ∀ v ∈ vs, ∃ i t, v = Value.str i t
  | _, _, .nil, v, h => absurd h (by simp)
  | _, _, .cons n t r, v, h => by
    rcases List.mem_cons.mp h with e | h
    · exact ⟨n, t, e⟩
    · exact strs_mem r v h
def strOf : Value → Str
  | .str x _ => x
  | _ => ⟨#[]⟩
theorem strs_of : ∀ {vs : List Value}, (∀ v ∈ vs, ∃ i t, v = Value.str i t) → StrsAre vs (vs.map strOf)
  | [], _ => .nil
  | v :: vs, h => by
    obtain ⟨i, t, e⟩ := h v List.mem_cons_self
    subst e
    exact .cons i t (strs_of fun u hu => h u (List.mem_cons_of_mem _ hu))
theorem of_strs : ∀ {vs : List Value} {ns : List Str}, StrsAre vs ns → vs.map strOf = ns
  | _, _, .nil => rfl
  | _, _, .cons n t r => congrArg (n :: ·) (of_strs r)
section
variable {prog : Program} {w : World} {A : Around} {E : Value → Shared → Prop} {s : Shared}
theorem str_cmp {vs : List Value} {ns : List Str} (hI : StrsAre vs ns) : SrtO.Cmp prog w A s oneType' (fun p => p.1 ∈ vs) (SrtO.lt2 ltSv) := by
  intro p q hm hm'
  obtain ⟨a, t, e⟩ := strs_mem hI _ hm
  obtain ⟨b, u, e'⟩ := strs_mem hI _ hm'
  show wpAny (model prog w) A (keyLt' oneType' p.1 q.1) (fun r s' => s' = s ∧ r = ltSv p.1 q.1) (fun _ _ => False) s
  rw [e, e', keyLt'_oneType]
  exact oneLt_str ⟨rfl, rfl⟩
theorem strs_sortable {a : Addr} {vs : List Value} {ns : List Str} (hI : StrsAre vs ns) (h2 : 2 ≤ vs.length) : SrtO.SortableO prog w A s a vs ltSv := by
  intro h' _
  refine ⟨oneType', fun Q E hq => ?_, str_cmp hI⟩
  match vs, hI, h2 with
  | v1 :: v2 :: rest, hI, _ =>
    rw [keyKind_strs hI]
    exact wpAny_pure hq
  | [], _, h => exact absurd h (by decide)
  | [v], _, h => exact absurd h (by simp)
end
def rSortDn : List V → Hp → VK → Prop := fun xs H Q => ∃ (a : Addr) (kvs : List (Key × V)) (ks : List Str), xs = [.ref a] ∧ H a = some (.dK kvs) ∧ kvs.map (·.1) = ks.map Sum.inr ∧ ks.length ≤ 1000 ∧ ∀ (ys : List Str) p, ys.Perm ks → H p = none → Q (.ref p) (L2.upd H p (.lst (ys.map V.str)))
theorem call_sortedDn {X : Cx} (hcalm : X.calm = true) : CallR X (.builtin "sorted") rSortDn := by
  intro pins s σ H xs us Q I r q
  obtain ⟨a, kvs, ks, ex, hd, hks, h64, q⟩ := q
  subst ex
  obtain ⟨u, eu, rx⟩ := vals1 r
  subst eu
  cases rx
  obtain ⟨z, lo, vs, rel, dd⟩ := dk_rd I.hok (.inl hd)
  obtain ⟨ep, hat⟩ := dd.dictAt
  have hkeys : vs.map (·.1) = ks.map Sum.inr := rel.keys.symm.trans hks
  have hl : vs.length = ks.length := by
    have e := congrArg List.length hkeys
    rw [List.length_map, List.length_map] at e
    exact e
  have h16 : vs.length ≤ sizeLine := by rw [hl]; exact Nat.le_trans h64 (by decide)
  refine Calls.call_function_entry PyProof.Rows.kind_sorted PyProof.Rows.plain_sorted PyProof.Rows.entry_sorted (PyProof.Rows.args_sorted1 _) ?_
  unfold Builtin.«sorted»
  refine wpAny_bind (m := checkCount "sorted" 1 1 _) (wpAny_pure ?_)
  refine wpAny_bind (PySem.W.kdu_collect (A := X.A.in1) (PySem.W.kdl_dict (knd := mixKind X.prog X.w) (kvs := vs) (ep := ep) lo) (I.ok.hd hcalm) hat h16 fun h' tk acc hk hacc => ?_)
  have hal : acc.toList.length = ks.length := by rw [Array.length_toList, hacc.1, hl]
  have hS : StrsAre acc.toList ks := strs_at hal fun j v e => by
    obtain ⟨k, x, e1, e2⟩ := hacc.2 j v (by rw [← Array.getElem?_toList]; exact e)
    have e3 : (vs.map (·.1))[j]? = some k := by rw [List.getElem?_map, e1]; all_goals rfl
    rw [hkeys, List.getElem?_map] at e3
    cases e4 : ks[j]? with
    | none => rw [e4] at e3; cases e3
    | some y =>
      rw [e4] at e3
      have e5 : Sum.inr y = k := Option.some.inj e3
      subst e5
      obtain ⟨t, ev⟩ := Value.isStrOf_shape (x := y) (v := v) e2
      exact ⟨y, t, rfl, ev⟩
  have I1 : Inv X pins σ H { s with heap := h', toks := tk } := I.kept hk
  have hz1 : acc.toList.length ≤ sizeLine := by rw [hal]; exact Nat.le_trans h64 (by decide)
  refine wpAny_bind (wpAny_newList ?_ hz1)
  have hoL : (h'.push (seqObj "list" acc.toList.toArray 0)).get? h'.objs.size = some (seqObj "list" acc.toList.toArray 0) := Heap.get?_push_size _ rfl
  show wpAny _ _ _ _ _ { s with heap := h'.push (seqObj "list" acc.toList.toArray 0), toks := tk }
  refine wpAny_bind (wpAny_holding (wpAny_call_entry PyProof.Rows.slot_list_sort ⟨_, hoL, rfl⟩ PyProof.Rows.entry_list_sort
    (SrtO.list_sort_ord swo_sv (s := { s with heap := h'.push (seqObj "list" acc.toList.toArray 0), toks := tk }) hoL hz1 (fun h2 => strs_sortable hS h2) fun out h1 h2 => ⟨_, rfl, ?_⟩)
    (PyProof.Rows.args_list_sort _)))
  have g1 : StrsAre out (out.map strOf) := strs_of fun v hv => strs_mem hS v (h2.perm.mem_iff.mp hv)
  have g2 : (out.map strOf).Perm ks := by
    have q := h2.perm.map strOf
    rw [of_strs hS] at q
    exact q
  obtain ⟨e', he'⟩ := PyProof.Rows.sortedHeap_at (vs := acc.toList) (out := out.toArray) hoL
  have hlen : ((out.map strOf).map V.str).length ≤ sizeLine := by
    rw [List.length_map, g2.length_eq]
    exact Nat.le_trans h64 (by decide)
  refine wpAny_pure ⟨_, rfl, .ref h'.objs.size, L2.upd H h'.objs.size (.lst ((out.map strOf).map V.str)), I1.laid (t' := tk) (fun b u e => ?_) (Nat.le_refl _)
    (show ObjOk X.prog X.w _ _ _ (.lst ((out.map strOf).map V.str)) from ⟨hlen, out, e', vals_of_strs g1, he'⟩), rfl, q _ _ g2 (I1.hok.fresh (Nat.le_refl _))⟩
  have hb : b < h'.objs.size := Heap.lt_size e
  rw [PyProof.Rows.sortedHeap_old (Nat.ne_of_lt hb) (by rw [size_push']; exact Nat.lt_succ_of_lt hb)]
  exact Heap.get?_push_of_some _ e

/-! ### facts of the table's rows -/
theorem tab_fact {r : TR} (h : r ∈ tabL) : wdF r.2.1.toNat = some (r.1, r.2.2.1.toNat + 1) ∧ ((r.2.1.toNat : Nat) : Int) = r.2.1 ∧ ((r.2.2.1.toNat : Nat) : Int) = r.2.2.1 ∧ r.2.1.toNat ≠ 71 ∧ r.2.1.toNat < 256 ∧ r.2.2.1.toNat ≤ 10 ∧ sortOk r.2.2.2 (kiF r.1) = true := by
  have h1 := List.all_eq_true.mp chk5 r h
  unfold rowTest at h1
  simp only [Bool.and_eq_true, beq_iff_eq, decide_eq_true_eq] at h1
  obtain ⟨e1, ⟨e2, e3, e4, e5, e6⟩, e7⟩ := h1
  exact ⟨e1, by omega, by omega, by omega, by omega, by omega, e7⟩
theorem exts_len (a : Nat) : (exts a).length ≤ 6 := by
  unfold exts
  split <;> split <;> split <;> simp
def bytesOf (r : TR) (n : Nat) : List Nat := packN r.2.1.toNat n r.2.2.1.toNat
def spPacked : Sp := fun vs H Q _ => ∃ (d : Addr) (r : TR) (n : Nat), vs = [.ref d, .str r.1, .int (n : Int)] ∧ r ∈ tabL ∧ LawTab H d tabL ∧ n < 4294967296 ∧ ∀ p H', H p = none → Same H H' → H' p = some (.lst (vn (bytesOf r n))) → Q (.ref p) H'
theorem LawTab.get {H : Hp} {d : Addr} {r : TR} (h : LawTab H d tabL) (hr : r ∈ tabL) : ∃ t, DGet H d (.str r.1) (some (.ref t)) ∧ H t = some (.tup (trV r)) := by
  obtain ⟨kvs, e, p⟩ := h
  obtain ⟨t, h1, h2⟩ := val_some p chk6 hr
  refine ⟨t, ?_, h2⟩
  have := DGet.k (k := (Sum.inr r.1 : Key)) e
  rw [h1] at this
  exact this
def pl : List Nat := [16777216, 65536, 256]
def pc (n p : Nat) : List Nat := if p ≤ n then [71, n / p % 256] else []
def pex (n i : Nat) : List Nat := ((pl.take i).map (pc n)).flatten
theorem pex_all (n : Nat) : pex n 3 = exts n := by
  show pc n 16777216 ++ (pc n 65536 ++ (pc n 256 ++ [])) = exts n
  rw [List.append_nil]
  rfl
theorem pc_len (n p : Nat) : (pc n p).length ≤ 2 := by
  unfold pc
  split <;> simp
theorem pex_len (n i : Nat) : (pex n i).length ≤ 6 := by
  match i with
  | 0 => exact Nat.zero_le _
  | 1 =>
    have := pc_len n 16777216
    show (pc n 16777216 ++ []).length ≤ 6
    rw [List.append_nil]
    omega
  | 2 =>
    have := pc_len n 16777216
    have := pc_len n 65536
    show (pc n 16777216 ++ (pc n 65536 ++ [])).length ≤ 6
    rw [List.append_nil, List.length_append]
    omega
  | i + 3 =>
    have e : pex n (i + 3) = exts n := by
      rw [← pex_all]
      unfold pex
      rw [List.take_of_length_le (by show 3 ≤ i + 3; omega)]
      rfl
    rw [e]
    exact exts_len n
def lvPk (H : Hp) (d p : Addr) (x : Str) (n : Nat) (i : Nat) (σ : L2.St) (H' : Hp) : Prop := ∃ v : Option V, σ = [some (.ref d), some (.str x), some (.int (n : Int)), some (.ref p), v] ∧ Keep p H H' ∧ H' p = some (.lst (vn (pex n i)))
section
variable {P : Program} {w : World} {K : PySem.W.Frag} {mg : Str → Option Value} {base : Heap} {f : Addr} {fd : FuncData}
abbrev spacked : Stmt := top 69
theorem scpacked : FnScope ["_law_table_here", "_law_word", "_law_number", "_law_found", "_law_place"] ["_law_table_here", "_law_word", "_law_number"] (defScope spacked) := ⟨rfl, rfl, rfl, by decide +kernel, rfl, by decide +kernel, by decide +kernel⟩

theorem r_dget {td ty : TE} {σ : L2.St} {H : Hp} {Q : VK} : tDGet td ty σ H Q = td σ H (fun x H1 => ty σ H1 fun y H2 => ∃ a v, x = .ref a ∧ DGet H2 a y (some v) ∧ Q v H2) := rfl
theorem ok_packed (T : Txt mg) (F : FnP K "_law_packed" "_law_packed" spacked f fd) : FnOk P w K mg base CX0 1 f fd ["_law_table_here", "_law_word", "_law_number"] spPacked := by
  refine F.ok scpacked (fun vs H Q E h => ?_) (fun cdv A outer s H vs Q E hr h => ?_)
  · obtain ⟨d, r, n, rfl, _⟩ := h
    rfl
  · obtain ⟨d, r, n, rfl, hm, ht, hn, k⟩ := h
    refine ⟨_, PSs.nox (pss_cons (ps_set (i := 3) scpacked.nd rfl (Or.inl rfl) (pe_lst pa_nil))
  (pss_cons (ps_for PassesOwn.never rfl (pi_tup (pe_tup (pa_cons pe_int (pa_cons pe_int (pa_cons pe_int pa_nil))))) (pg_name (i := 4) scpacked.nd rfl (Or.inl rfl))
    (pss_one (ps_if (pt_cmpR op_ge (pv 2) (pv 4) (nomark _))
    (pss_one (ps_expr (pe_bm PySem.F.plainAttrs_list PySem.F.slot_list_extend PySem.F.type_list_extend mt_extend (pv 3) (pa_cons (pe_lst (pa_cons pe_int (pa_cons (pe_op op_mod (pe_callTy call_int1 (by rfl) T.b_int (by decide +kernel) (pa_cons (pe_op op_fdivW (pv 2) (pv 4)) pa_nil)) pe_int) pa_nil))) pa_nil))))
    pss_nil)))
  (pss_one (ps_ret (pe_op op_cat (pe_op op_cat (pv 3) (pe_lst (pa_cons (pe_ix ix_d (pe_dget (hu_of hr) (pv 0) (pv 1) (fun _ _ => rfl)) pe_int (fun _ _ => rfl)) (pa_cons (pe_op op_mod (pe_callTy call_int1 (by rfl) T.b_int (by decide +kernel) (pa_cons (pv 2) pa_nil)) pe_int) pa_nil)))) (pe_op op_rep (pe_lst (pa_cons pe_int pa_nil)) (pe_op op_mul pe_int (pe_ix ix_d (pe_dget (hu_of hr) (pv 0) (pv 1) (fun _ _ => rfl)) pe_int (fun _ _ => rfl))))))))), ?_⟩
    show (_ : TS) _ [some (.ref d), some (.str r.1), some (.int (n : Int)), none, none] H
    simp only [r_seq, r_next, r_brk, r_cont, r_asg, r_name, r_ret, r_retN, r_drop, r_ifs, r_never, r_var, r_c, r_op, r_un, r_if, r_tst, r_b, r_not, r_and, r_or, r_andV, r_orV, r_notV, r_nil, r_cons, r_tup, r_lst, r_cb, r_call, r_bm, r_bm0, r_sl, r_nopart, r_part, r_rev, r_gnil, r_gcons, r_gsub, r_par, r_aug, r_chain, r_I0, r_I, r_U, r_ixd, r_lend, r_tupd, r_listd, r_sld, r_app, r_ext, r_reverse, r_setl, r_cat, r_int1, r_eqS, r_neS, scal_ii, scal_bb, scal_ss, at0, at1, at2, sq_lst, sq_tup, isLst_lst, List.getElem?_cons_zero, List.getElem?_cons_succ, List.set_cons_zero, List.set_cons_succ, V.int.injEq, V.bl.injEq, V.ref.injEq, V.str.injEq, HO.lst.injEq, HO.tup.injEq, Option.some.injEq, exists_eq_left', exists_eq_left, List.cons.injEq, and_true, true_and, decide_eq_true_eq, reduceCtorEq, false_and, exists_false, or_false, false_or, exists_const, and_assoc, exists_and_left, List.append_nil, ix0, ix1, ix2, cm_mod, cdw1009, cdw2003, cdw7, cdw64, cdw2, cm104729, cm2, cm3, upd_same, List.length_cons, List.length_nil, Int.reduceLT, Int.reduceLE, Nat.reduceAdd, Nat.reduceLeDiff, Nat.reduceLT, Int.reduceToNat, r_for1, r_forL, r_forT, r_lcL, r_lc1, r_yes, r_gtupD, wipe_0, wipe_1, List.cons_append, List.nil_append, r_forS, r_ipI, ite_false, ite_true, Bool.not_true, Bool.not_false, decide_true, decide_false, r_isd, r_islt, cD_ty, cD_ref, tD_non, tD_bl, tD_int, tD_str, tD_ref, tH_lst, tH_tup, tH_dK, tH_ins, ki_self, ki_int_bool, ki_non_int, ki_str_int, ki_lt_lst, ki_lt_tup, r_fld, r_sfld, HO.ins.injEq, cx_K, r_dget]
    refine ⟨Nat.zero_le _, fun p hp => ⟨szl (by decide : 3 ≤ 1000), fun tt htt => ?_⟩⟩
    have s1 : Same H (L2.upd (L2.upd H p (.lst [])) tt (.tup (vn pl))) := Same.new' (Same.new' (Same.refl H) hp) htt
    have q1 : L2.upd (L2.upd H p (.lst [])) tt (.tup (vn pl)) tt = some (.tup (vn pl)) := upd_same
    have q2 : L2.upd (L2.upd H p (.lst [])) tt (.tup (vn pl)) p = some (.lst []) := by
      rw [upd_ne (ne_new upd_same htt)]
      exact upd_same
    have tp : tt ≠ p := new_ne upd_same htt
    show (∃ xs, SqT K (L2.upd (L2.upd H p (.lst [])) tt (.tup (vn pl))) tt xs) ∧ _
    change _ ∧ LoopR _ _ _ _ _ (L2.upd (L2.upd H p (.lst [])) tt (.tup (vn pl)))
    generalize L2.upd (L2.upd H p (.lst [])) tt (.tup (vn pl)) = G at *
    refine ⟨⟨_, SqT.of q1⟩, lp_tup (xs := vn pl) (lvPk G d p r.1 n) ⟨none, rfl, Keep.refl p G, q2⟩ (fun i σ H' _ ⟨_, _, kk, _⟩ => SqT.of (kk _ _ tp q1)) ?_ ?_⟩
    · rintro i x σ H1 hx ⟨v, rfl, kk, h1⟩
      have hi : i < pl.length := by
        have := (List.getElem?_eq_some_iff.mp hx).1
        rwa [vn_len] at this
      obtain rfl : x = .int ((pl[i] : Nat) : Int) := by
        unfold vn at hx
        rw [List.getElem?_map, List.getElem?_eq_getElem hi] at hx
        exact (Option.some.inj hx).symm
      have nx : pex n (i + 1) = pex n i ++ pc n pl[i] := by
        unfold pex
        rw [List.take_succ_eq_append_getElem hi, List.map_append, List.flatten_append]
        simp
      have pp : 0 < pl[i] ∧ pl[i] < 2 ^ 30 := by
        have := List.getElem_mem hi
        unfold pl at this
        simp only [List.mem_cons, List.not_mem_nil, or_false] at this
        rcases this with e | e | e <;> rw [show pl[i] = _ from e] <;> decide
      have lx := pex_len n i
      generalize pl[i] = q at *
      have cd : CDivW (n : Int) (q : Int) = True := cdw (by have := pp.2; omega)
      simp only [r_seq, r_next, r_brk, r_cont, r_asg, r_name, r_ret, r_retN, r_drop, r_ifs, r_never, r_var, r_c, r_op, r_un, r_if, r_tst, r_b, r_not, r_and, r_or, r_andV, r_orV, r_notV, r_nil, r_cons, r_tup, r_lst, r_cb, r_call, r_bm, r_bm0, r_sl, r_nopart, r_part, r_rev, r_gnil, r_gcons, r_gsub, r_par, r_aug, r_chain, r_I0, r_I, r_U, r_ixd, r_lend, r_tupd, r_listd, r_sld, r_app, r_ext, r_reverse, r_setl, r_cat, r_int1, r_eqS, r_neS, scal_ii, scal_bb, scal_ss, at0, at1, at2, sq_lst, sq_tup, isLst_lst, List.getElem?_cons_zero, List.getElem?_cons_succ, List.set_cons_zero, List.set_cons_succ, V.int.injEq, V.bl.injEq, V.ref.injEq, V.str.injEq, HO.lst.injEq, HO.tup.injEq, Option.some.injEq, exists_eq_left', exists_eq_left, List.cons.injEq, and_true, true_and, decide_eq_true_eq, reduceCtorEq, false_and, exists_false, or_false, false_or, exists_const, and_assoc, exists_and_left, List.append_nil, ix0, ix1, ix2, cm_mod, cdw1009, cdw2003, cdw7, cdw64, cdw2, cm104729, cm2, cm3, upd_same, List.length_cons, List.length_nil, Int.reduceLT, Int.reduceLE, Nat.reduceAdd, Nat.reduceLeDiff, Nat.reduceLT, Int.reduceToNat, r_for1, r_forL, r_forT, r_lcL, r_lc1, r_yes, r_gtupD, wipe_0, wipe_1, List.cons_append, List.nil_append, r_forS, r_ipI, ite_false, ite_true, Bool.not_true, Bool.not_false, decide_true, decide_false, r_isd, r_islt, cD_ty, cD_ref, tD_non, tD_bl, tD_int, tD_str, tD_ref, tH_lst, tH_tup, tH_dK, tH_ins, ki_self, ki_int_bool, ki_non_int, ki_str_int, ki_lt_lst, ki_lt_tup, r_fld, r_sfld, HO.ins.injEq, cx_K, cd, h1]
      by_cases c : q ≤ n
      · rw [if_pos (by omega)]
        refine ⟨tyl h1, szl (by decide : 2 ≤ 1000), fun t hht => ⟨_, by rw [upd_ne (ne_new h1 hht)]; exact h1, Nat.le_trans (by rw [vn_len]; omega : _ ≤ 1000) (by decide), ?_⟩⟩
        refine ⟨_, rfl, fun b o hb e => ?_, ?_⟩
        · rw [upd_ne hb, upd_ne (ne_new (kk b o hb e) hht)]
          exact kk b o hb e
        · rw [upd_same, nx, vn_app]
          unfold pc
          rw [if_pos c]
          rfl
      · rw [if_neg (by omega)]
        refine ⟨_, rfl, kk, ?_⟩
        rw [h1, nx]
        unfold pc
        rw [if_neg c, List.append_nil]
    · rintro σ H1 ⟨v, rfl, kk, h1⟩
      rw [vn_len, show pl.length = 3 from rfl, pex_all] at h1
      have sH : Same H H1 := fun b o e => kk b o (ne_new e hp) (s1 b o e)
      have ht1 := ht.same sH
      obtain ⟨t, hg, hrow⟩ := ht1.get hm
      obtain ⟨f1, f5, f6, f3, f4, f7, f8⟩ := tab_fact hm
      have lx := exts_len n
      simp only [r_seq, r_next, r_brk, r_cont, r_asg, r_name, r_ret, r_retN, r_drop, r_ifs, r_never, r_var, r_c, r_op, r_un, r_if, r_tst, r_b, r_not, r_and, r_or, r_andV, r_orV, r_notV, r_nil, r_cons, r_tup, r_lst, r_cb, r_call, r_bm, r_bm0, r_sl, r_nopart, r_part, r_rev, r_gnil, r_gcons, r_gsub, r_par, r_aug, r_chain, r_I0, r_I, r_U, r_ixd, r_lend, r_tupd, r_listd, r_sld, r_app, r_ext, r_reverse, r_setl, r_cat, r_int1, r_eqS, r_neS, scal_ii, scal_bb, scal_ss, at0, at1, at2, sq_lst, sq_tup, isLst_lst, List.getElem?_cons_zero, List.getElem?_cons_succ, List.set_cons_zero, List.set_cons_succ, V.int.injEq, V.bl.injEq, V.ref.injEq, V.str.injEq, HO.lst.injEq, HO.tup.injEq, Option.some.injEq, exists_eq_left', exists_eq_left, List.cons.injEq, and_true, true_and, decide_eq_true_eq, reduceCtorEq, false_and, exists_false, or_false, false_or, exists_const, and_assoc, exists_and_left, List.append_nil, ix0, ix1, ix2, cm_mod, cdw1009, cdw2003, cdw7, cdw64, cdw2, cm104729, cm2, cm3, upd_same, List.length_cons, List.length_nil, Int.reduceLT, Int.reduceLE, Nat.reduceAdd, Nat.reduceLeDiff, Nat.reduceLT, Int.reduceToNat, r_for1, r_forL, r_forT, r_lcL, r_lc1, r_yes, r_gtupD, wipe_0, wipe_1, List.cons_append, List.nil_append, r_forS, r_ipI, ite_false, ite_true, Bool.not_true, Bool.not_false, decide_true, decide_false, r_isd, r_islt, cD_ty, cD_ref, tD_non, tD_bl, tD_int, tD_str, tD_ref, tH_lst, tH_tup, tH_dK, tH_ins, ki_self, ki_int_bool, ki_non_int, ki_str_int, ki_lt_lst, ki_lt_tup, r_fld, r_sfld, HO.ins.injEq, cx_K, r_dget, h1]
      have hrs : sq (H1 t) = some (trV r) := by rw [hrow]; rfl
      refine ⟨_, hg, t, rfl, _, hrs, _, at0, szl (by decide : 2 ≤ 1000), fun a1 ha1 => ⟨_, by rw [upd_ne (ne_new h1 ha1)]; exact h1, Nat.le_trans (by rw [vn_len]; omega : _ ≤ 1000) (by decide), fun a2 ha2 => ⟨szl (by decide : 1 ≤ 1000), fun a3 ha3 => ?_⟩⟩⟩
      have e1 : vn (exts n) ++ [V.int r.2.1, V.int ((n : Int) % 256)] = vn (exts n ++ [r.2.1.toNat, n % 256]) := by
        rw [vn_app, ← f5]
        rfl
      rw [e1] at ha3 ⊢
      have sA := Same.new' (o := .lst [V.int r.2.1, V.int ((n : Int) % 256)]) (Same.refl H1) ha1
      have sB := Same.new' (o := .lst (vn (exts n ++ [r.2.1.toNat, n % 256]))) sA ha2
      have sC := Same.new' (o := .lst [V.int 0]) sB ha3
      have q5 : L2.upd (L2.upd (L2.upd H1 a1 (.lst [V.int r.2.1, V.int ((n : Int) % 256)])) a2 (.lst (vn (exts n ++ [r.2.1.toNat, n % 256])))) a3 (.lst [V.int 0]) a2 = some (.lst (vn (exts n ++ [r.2.1.toNat, n % 256]))) := by
        rw [upd_ne (ne_new upd_same ha3)]
        exact upd_same
      have q6 : L2.upd (L2.upd (L2.upd H1 a1 (.lst [V.int r.2.1, V.int ((n : Int) % 256)])) a2 (.lst (vn (exts n ++ [r.2.1.toNat, n % 256])))) a3 (.lst [V.int 0]) a3 = some (.lst [V.int 0]) := upd_same
      obtain ⟨t2, hg2, hrow2⟩ := (ht1.same sC).get hm
      generalize L2.upd (L2.upd (L2.upd H1 a1 (.lst [V.int r.2.1, V.int ((n : Int) % 256)])) a2 (.lst (vn (exts n ++ [r.2.1.toNat, n % 256])))) a3 (.lst [V.int 0]) = G2 at *
      refine ⟨_, hg2, t2, rfl, _, by rw [hrow2]; rfl, _, at1, r.2.2.1, rfl, a3, 2 * r.2.2.1, _, rfl, rfl, q6, by omega, by omega, Nat.le_trans (by simp; omega : _ ≤ 1000) (by decide), fun a4 ha4 => ⟨a4, rfl, vn (exts n ++ [r.2.1.toNat, n % 256]), ?_, _, upd_same, ?_, fun a5 ha5 => ?_⟩⟩
      · rw [upd_ne (ne_new q5 ha4)]
        exact q5
      · rw [rep_vn, vn_len, vn_len, List.length_append, List.length_replicate]
        exact Nat.le_trans (by show (exts n).length + 2 + _ ≤ 1000; omega) (by decide : 1000 ≤ sizeLine)
      · have sD := Same.new' (o := .lst (List.replicate (2 * r.2.2.1).toNat [V.int 0]).flatten) (Same.refl G2) ha4
        have sF : Same H (L2.upd (L2.upd G2 a4 (.lst (List.replicate (2 * r.2.2.1).toNat [V.int 0]).flatten)) a5 (.lst (vn (exts n ++ [r.2.1.toNat, n % 256]) ++ (List.replicate (2 * r.2.2.1).toNat [V.int 0]).flatten))) := Same.new' (fun b o e => sD b o (sC b o (sH b o e))) ha5
        have sE : Same H (L2.upd G2 a4 (.lst (List.replicate (2 * r.2.2.1).toNat [V.int 0]).flatten)) := fun b o e => sD b o (sC b o (sH b o e))
        refine k a5 _ (sE.free ha5) sF ?_
        rw [upd_same, rep_vn, ← vn_app]
        unfold bytesOf packN
        rw [show (2 * r.2.2.1).toNat = 2 * r.2.2.1.toNat from by omega, List.append_assoc]
end
end C58

set_option maxHeartbeats 2000000
namespace C58
open PySem PySem.Spec PyProof.Rows L2
/-! ### the bytes of a good instruction -/
theorem goodK_tab {r : TR} (hm : r ∈ tabL) (n : Nat) : goodK (kdF r.1) n = (if kiF r.1 < 2 then true else gI (kiF r.1) n) := goodK_of _ _
def mostOf (s : Str) : Nat := if s = "c" then 2 else if s = "n" then 3 else if s = "m" then 6 else if s = "l" then 4 else 1000
def NumOk (s : Str) (n : Nat) : Prop := if s = "p" then n / 16 < 4 ∧ n % 16 < 4 else n < mostOf s
theorem good_num {r : TR} (hm : r ∈ tabL) {n : Nat} (h : NumOk r.2.2.2 n) : goodK (kdF r.1) n = true := by
  obtain ⟨_, _, _, _, _, _, so⟩ := tab_fact hm
  rw [goodK_tab hm]
  generalize kiF r.1 = k at *
  unfold sortOk at so
  unfold NumOk mostOf at h
  generalize r.2.2.2 = s at *
  by_cases c1 : s = "c"
  · subst c1
    rw [if_pos rfl] at so
    obtain rfl := eq_of_beq so
    rw [if_neg (by decide), if_pos rfl] at h
    exact decide_eq_true h
  rw [if_neg c1] at so
  by_cases c2 : s = "n"
  · subst c2
    rw [if_pos rfl] at so
    obtain rfl := eq_of_beq so
    rw [if_neg (by decide), if_neg (by decide), if_pos rfl] at h
    exact decide_eq_true h
  rw [if_neg c2] at so
  by_cases c3 : s = "m"
  · subst c3
    rw [if_pos rfl] at so
    rw [if_neg (by decide), if_neg (by decide), if_neg (by decide), if_pos rfl] at h
    have h2 : n / 2 < 3 := by omega
    simp only [Bool.or_eq_true, beq_iff_eq] at so
    rcases so with rfl | rfl
    · exact decide_eq_true h2
    · exact decide_eq_true h2
  rw [if_neg c3] at so
  by_cases c4 : s = "l"
  · subst c4
    rw [if_pos rfl] at so
    obtain rfl := eq_of_beq so
    rw [if_neg (by decide), if_neg (by decide), if_neg (by decide), if_neg (by decide), if_pos rfl] at h
    exact decide_eq_true h
  rw [if_neg c4] at so
  by_cases c5 : s = "p"
  · subst c5
    rw [if_pos rfl] at so
    obtain rfl := eq_of_beq so
    rw [if_pos rfl] at h
    exact decide_eq_true h
  rw [if_neg c5] at so
  have so := of_decide_eq_true so
  by_cases c6 : k < 2
  · rw [if_pos c6]
  · rw [if_neg c6]
    obtain ⟨j, rfl⟩ : ∃ j, k = j + 8 := ⟨k - 8, by omega⟩
    rfl
theorem row_good {r : TR} (hm : r ∈ tabL) {n : Nat} (hn : n < 4294967296) (h : NumOk r.2.2.2 n) : GoodB (bytesOf r n) := by
  obtain ⟨f1, f5, f6, f3, f4, f7, f8⟩ := tab_fact hm
  exact pack_good f1 f3 f4 f7 hn (good_num hm h)
theorem row_bad {r : TR} (hm : r ∈ tabL) {n : Nat} (hn : n < 4294967296) (h : goodK (kdF r.1) n = false) : BadB (bytesOf r n) := by
  obtain ⟨f1, f5, f6, f3, f4, f7, f8⟩ := tab_fact hm
  exact pack_bad f1 f3 f4 f7 hn h
def spGood : Sp := fun vs H Q _ => ∃ a d : Addr, vs = [.ref a, .ref d] ∧ Src H a ∧ LawTab H d tabL ∧ ∀ (p : Addr) (bs : List Nat) H', GoodB bs → H p = none → p ≠ a → Keep a H H' → Src H' a → H' p = some (.lst (vn bs)) → Q (.ref p) H'
theorem keys_of {H : Hp} : ∀ {kvs : List (Key × V)} {rs : List TR}, Paired (EntR H) kvs rs → kvs.map (·.1) = (rs.map (·.1)).map Sum.inr
  | _, _, .nil => rfl
  | _, _, .cons h t => by
    rw [List.map_cons, List.map_cons, List.map_cons, keys_of t, h.1]
def mostD : List (Key × V) := [(Sum.inr "c", .int 2), (Sum.inr "n", .int 3), (Sum.inr "m", .int 6), (Sum.inr "l", .int 4)]
theorem most_get (s : Str) : (valV (mergeK [] mostD) (Sum.inr s : Key)).getD (.int 1000) = .int ((mostOf s : Nat) : Int) := by
  have inj : ∀ z : Str, ((Sum.inr s : Key) = Sum.inr z) = (s = z) := fun z => propext ⟨fun e => Sum.inr.inj e, fun e => by rw [e]⟩
  unfold mergeK mostD
  simp only [List.foldl_cons, List.foldl_nil, valV_put, valV_nil, inj]
  unfold mostOf
  by_cases c4 : s = "l"
  · subst c4
    rfl
  by_cases c3 : s = "m"
  · subst c3
    rfl
  by_cases c2 : s = "n"
  · subst c2
    rfl
  by_cases c1 : s = "c"
  · subst c1
    rfl
  simp only [if_neg c1, if_neg c2, if_neg c3, if_neg c4]
  rfl
theorem most_lt (s : Str) : 0 < mostOf s ∧ mostOf s ≤ 1000 := by
  unfold mostOf
  split
  · decide
  split
  · decide
  split
  · decide
  split <;> decide
section
variable {P : Program} {w : World} {K : PySem.W.Frag} {mg : Str → Option Value} {base : Heap} {f : Addr} {fd : FuncData}
abbrev sgood : Stmt := top 72
theorem scgood : FnScope ["_law_source", "_law_table_here", "_law_word", "_law_most", "_law_number"] ["_law_source", "_law_table_here"] (defScope sgood) := ⟨rfl, rfl, rfl, by decide +kernel, rfl, by decide +kernel, by decide +kernel⟩

theorem ok_good' (T : Txt mg) (hso : mg "sorted" = none) (F : FnP K "_law_good" "_law_good" sgood f fd) (C_next : Cal P w K mg base 1 "_law_next" ["_law_source", "_law_many"] spNext) (C_one : Cal P w K mg base 2 "_law_one" ["_law_source", "_law_some"] spOne)
    (C_packed : Cal P w K mg base 1 "_law_packed" ["_law_table_here", "_law_word", "_law_number"] spPacked) : FnOk P w K mg base CX0 3 f fd ["_law_source", "_law_table_here"] spGood := by
  refine F.ok scgood (fun vs H Q E h => ?_) (fun cdv A outer s H vs Q E hr h => ?_)
  · obtain ⟨a, d, rfl, _⟩ := h
    rfl
  · obtain ⟨a, d, rfl, hS, ht, k⟩ := h
    refine ⟨_, PSs.nox (pss_cons (ps_set (i := 2) scgood.nd rfl (Or.inl rfl) (pe_cal C_one (hr.mono (by decide)) rfl (pa_cons (pv 0) (pa_cons (pe_callB (call_sortedDn rfl) (by rfl) hso (by decide +kernel) (pa_cons (pv 1) pa_nil)) pa_nil))))
  (pss_cons (ps_set (i := 3) scgood.nd rfl (Or.inl rfl) (pe_dget2 (hu_of hr) (pe_disp (pps_cons pe_str pe_int (pps_cons pe_str pe_int (pps_cons pe_str pe_int (pps_cons pe_str pe_int pps_nil)))) (by rfl) (by rfl) (fun z => by cases z) (by decide)) (pe_ix ix_d (pe_dget (hu_of hr) (pv 1) (pv 2) (fun _ _ => rfl)) pe_int (fun _ _ => rfl)) pe_int ⟨rfl, rfl, rfl, rfl⟩))
  (pss_cons (ps_set (i := 4) scgood.nd rfl (Or.inl rfl) (pe_ifExp (pt_cmpR op_eq (pe_ix ix_d (pe_dget (hu_of hr) (pv 1) (pv 2) (fun _ _ => rfl)) pe_int (fun _ _ => rfl)) pe_str (nomark _)) (pe_op op_add (pe_op op_mul pe_int (pe_cal C_next (hr.mono (by decide)) rfl (pa_cons (pv 0) (pa_cons pe_int pa_nil)))) (pe_cal C_next (hr.mono (by decide)) rfl (pa_cons (pv 0) (pa_cons pe_int pa_nil)))) (pe_cal C_next (hr.mono (by decide)) rfl (pa_cons (pv 0) (pa_cons (pv 3) pa_nil)))))
  (pss_one (ps_ret (pe_cal C_packed (hr.mono (by decide)) rfl (pa_cons (pv 1) (pa_cons (pv 2) (pa_cons (pe_ifExp (pt_cmpR op_eq (pe_ix ix_d (pe_dget (hu_of hr) (pv 1) (pv 2) (fun _ _ => rfl)) pe_int (fun _ _ => rfl)) pe_str (nomark _)) pe_int (pv 4)) pa_nil))))))))), ?_⟩
    show (_ : TS) _ [some (.ref a), some (.ref d), none, none, none] H
    simp only [r_seq, r_next, r_brk, r_cont, r_asg, r_name, r_ret, r_retN, r_drop, r_ifs, r_never, r_var, r_c, r_op, r_un, r_if, r_tst, r_b, r_not, r_and, r_or, r_andV, r_orV, r_notV, r_nil, r_cons, r_tup, r_lst, r_cb, r_call, r_bm, r_bm0, r_sl, r_nopart, r_part, r_rev, r_gnil, r_gcons, r_gsub, r_par, r_aug, r_chain, r_I0, r_I, r_U, r_ixd, r_lend, r_tupd, r_listd, r_sld, r_app, r_ext, r_reverse, r_setl, r_cat, r_int1, r_eqS, r_neS, scal_ii, scal_bb, scal_ss, at0, at1, at2, sq_lst, sq_tup, isLst_lst, List.getElem?_cons_zero, List.getElem?_cons_succ, List.set_cons_zero, List.set_cons_succ, V.int.injEq, V.bl.injEq, V.ref.injEq, V.str.injEq, HO.lst.injEq, HO.tup.injEq, Option.some.injEq, exists_eq_left', exists_eq_left, List.cons.injEq, and_true, true_and, decide_eq_true_eq, reduceCtorEq, false_and, exists_false, or_false, false_or, exists_const, and_assoc, exists_and_left, List.append_nil, ix0, ix1, ix2, cm_mod, cdw1009, cdw2003, cdw7, cdw64, cdw2, cm104729, cm2, cm3, upd_same, List.length_cons, List.length_nil, Int.reduceLT, Int.reduceLE, Nat.reduceAdd, Nat.reduceLeDiff, Nat.reduceLT, Int.reduceToNat, r_for1, r_forL, r_forT, r_lcL, r_lc1, r_yes, r_gtupD, wipe_0, wipe_1, List.cons_append, List.nil_append, r_forS, r_ipI, ite_false, ite_true, Bool.not_true, Bool.not_false, decide_true, decide_false, r_isd, r_islt, cD_ty, cD_ref, tD_non, tD_bl, tD_int, tD_str, tD_ref, tH_lst, tH_tup, tH_dK, tH_ins, ki_self, ki_int_bool, ki_non_int, ki_str_int, ki_lt_lst, ki_lt_tup, r_fld, r_sfld, HO.ins.injEq, cx_K, r_dget]
    obtain ⟨kvs, e, pk⟩ := id ht
    have wt := of_decide_eq_true chk4
    refine ⟨d, kvs, tabL.map (·.1), rfl, e, keys_of pk, by rw [List.length_map]; omega, fun ys p pm hp => ?_⟩
    have yl : ys.length = tabL.length := by rw [pm.length_eq, List.length_map]
    refine ⟨a, p, ys.map V.str, rfl, hS.new hp, hS.ne hp, upd_same, ?_, by rw [List.length_map]; omega, fun v H1 hv k1 S1 => ?_⟩
    · intro z
      have := congrArg List.length z
      rw [List.length_map, List.length_nil] at this
      omega
    obtain ⟨z, hz, rfl⟩ := List.mem_map.mp hv
    obtain ⟨r, hm, rfl⟩ := List.mem_map.mp (pm.mem_iff.mp hz)
    have k1' : Keep a H H1 := ((Keep.refl a H).new hp).trans k1
    have srcL : ∀ {G : Hp}, Src G a → ∃ xs, G a = some (.lst xs) := fun ⟨x, y, z, e⟩ => ⟨_, e⟩
    have fin : ∀ (n : Nat) (G : Hp), Keep a H G → Src G a → n < 4294967296 → NumOk r.2.2.2 n → spPacked [.ref d, .str r.1, .int (n : Int)] G Q E0 := fun n G kk SG hn ok =>
      ⟨d, r, n, rfl, hm, ht.keep kk (srcL hS), hn, fun p H' hp s h => k p _ H' (row_good hm hn ok) (by
        cases q : H p with
        | none => rfl
        | some o =>
          have := kk p o (SG.ne hp) q
          rw [hp] at this
          cases this) (SG.ne hp) (kk.trans (Keep.same s)) (by obtain ⟨x, y, z, q⟩ := SG; exact ⟨x, y, z, s _ _ q⟩) h⟩
    have tab : ∀ {G : Hp}, Keep a H G → ∃ t, DGet G d (.str r.1) (some (.ref t)) ∧ G t = some (.tup (trV r)) := fun kk => (ht.keep kk (srcL hS)).get hm
    intro D hD
    refine ⟨upd_same, mostD, rfl, by decide, D, rfl, .inl ⟨_, .inl upd_same⟩, ?_⟩
    have sD := Same.new' (o := .dK []) (Same.refl H1) hD
    have sD2 : Same H1 (L2.upd (L2.upd H1 D (.dK [])) D (.dK (mergeK [] mostD))) := fun y o q => by
      rw [upd_ne (ne_new q hD)]
      exact sD y o q
    have qD : L2.upd (L2.upd H1 D (.dK [])) D (.dK (mergeK [] mostD)) D = some (.dK (mergeK [] mostD)) := upd_same
    generalize L2.upd (L2.upd H1 D (.dK [])) D (.dK (mergeK [] mostD)) = G at *
    have kG := k1'.trans (Keep.same sD2)
    have SG : Src G a := by obtain ⟨x, y, z, q⟩ := S1; exact ⟨x, y, z, sD2 _ _ q⟩
    obtain ⟨t, hg, hrow⟩ := tab kG
    simp only [r_seq, r_next, r_brk, r_cont, r_asg, r_name, r_ret, r_retN, r_drop, r_ifs, r_never, r_var, r_c, r_op, r_un, r_if, r_tst, r_b, r_not, r_and, r_or, r_andV, r_orV, r_notV, r_nil, r_cons, r_tup, r_lst, r_cb, r_call, r_bm, r_bm0, r_sl, r_nopart, r_part, r_rev, r_gnil, r_gcons, r_gsub, r_par, r_aug, r_chain, r_I0, r_I, r_U, r_ixd, r_lend, r_tupd, r_listd, r_sld, r_app, r_ext, r_reverse, r_setl, r_cat, r_int1, r_eqS, r_neS, scal_ii, scal_bb, scal_ss, at0, at1, at2, sq_lst, sq_tup, isLst_lst, List.getElem?_cons_zero, List.getElem?_cons_succ, List.set_cons_zero, List.set_cons_succ, V.int.injEq, V.bl.injEq, V.ref.injEq, V.str.injEq, HO.lst.injEq, HO.tup.injEq, Option.some.injEq, exists_eq_left', exists_eq_left, List.cons.injEq, and_true, true_and, decide_eq_true_eq, reduceCtorEq, false_and, exists_false, or_false, false_or, exists_const, and_assoc, exists_and_left, List.append_nil, ix0, ix1, ix2, cm_mod, cdw1009, cdw2003, cdw7, cdw64, cdw2, cm104729, cm2, cm3, upd_same, List.length_cons, List.length_nil, Int.reduceLT, Int.reduceLE, Nat.reduceAdd, Nat.reduceLeDiff, Nat.reduceLT, Int.reduceToNat, r_for1, r_forL, r_forT, r_lcL, r_lc1, r_yes, r_gtupD, wipe_0, wipe_1, List.cons_append, List.nil_append, r_forS, r_ipI, ite_false, ite_true, Bool.not_true, Bool.not_false, decide_true, decide_false, r_isd, r_islt, cD_ty, cD_ref, tD_non, tD_bl, tD_int, tD_str, tD_ref, tH_lst, tH_tup, tH_dK, tH_ins, ki_self, ki_int_bool, ki_non_int, ki_str_int, ki_lt_lst, ki_lt_tup, r_fld, r_sfld, HO.ins.injEq, cx_K, r_dget]
    refine ⟨_, hg, t, rfl, _, by rw [hrow]; rfl, _, at2, _, DGet.k (k := Sum.inr r.2.2.2) qD, ?_⟩
    rw [most_get]
    refine ⟨_, hg, t, rfl, _, by rw [hrow]; rfl, _, at2, rfl, ?_⟩
    by_cases c : r.2.2.2 = "p"
    · rw [if_pos (by rw [c])]
      refine ⟨a, 4, rfl, SG, by decide, by decide, fun n1 H3 b1 b2 k2 S3 => ⟨n1, rfl, .inl (by decide), a, 4, rfl, S3, by decide, by decide, fun n2 H4 b3 b4 k3 S4 => ⟨n2, rfl, ?_⟩⟩⟩
      have k4 := (kG.trans k2).trans k3
      obtain ⟨t', hg', hrow'⟩ := tab k4
      refine ⟨_, hg', t', rfl, _, by rw [hrow']; rfl, _, at2, rfl, ?_⟩
      rw [if_neg (fun q => by rw [V.str.inj q] at c; exact absurd c (by decide))]
      rw [show 16 * n1 + n2 = (((16 * n1 + n2).toNat : Nat) : Int) from by omega]
      exact fin _ _ k4 S4 (by omega) (by unfold NumOk; rw [if_pos c]; omega)
    · rw [if_neg (fun q => c (V.str.inj q))]
      have ml := most_lt r.2.2.2
      refine ⟨a, _, rfl, SG, by omega, Int.lt_of_le_of_lt (by omega : _ ≤ (1000 : Int)) (by decide), fun n1 H3 b1 b2 k2 S3 => ?_⟩
      have k4 := kG.trans k2
      obtain ⟨t', hg', hrow'⟩ := tab k4
      refine ⟨_, hg', t', rfl, _, by rw [hrow']; rfl, _, at2, rfl, ?_⟩
      by_cases c2 : r.2.2.2 = "-"
      · rw [if_pos (by rw [c2])]
        exact fin 0 _ k4 S3 (by decide) (by unfold NumOk; rw [if_neg c]; omega)
      · rw [if_neg (fun q => c2 (V.str.inj q)), show n1 = ((n1.toNat : Nat) : Int) from by omega]
        exact fin _ _ k4 S3 (by omega) (by unfold NumOk; rw [if_neg c]; omega)
end
end C58

set_option maxHeartbeats 2000000
namespace C58
open PySem PySem.Spec PyProof.Rows L2
/-! ### the numbers of the table, and those that are in none -/
def NumL : List Int := tabL.map (·.2.1)
theorem num_all : WDL.all (fun p => NumL.any fun i => i == (p.1 : Int)) = true := by decide +kernel
theorem num_0 : (NumL ++ [71]).any (fun i => i == 0) = false := by decide +kernel
theorem inV_num (n : Nat) (ns : List Int) : inV (.int (n : Int)) (ns.map V.int) = ns.any fun i => i == (n : Int) := by
  unfold inV
  rw [List.any_map]
  rfl
theorem unk_fact {n : Nat} (h : (NumL ++ [71]).any (fun i => i == (n : Int)) = false) : wdF n = none ∧ n ≠ 71 := by
  rw [List.any_append, Bool.or_eq_false_iff] at h
  constructor
  · cases e : wdF n with
    | none => rfl
    | some p =>
      obtain ⟨w, u⟩ := p
      have := List.all_eq_true.mp num_all _ (wdF_mem e)
      rw [show (NumL.any fun i => i == (((n, w, u) : Nat × Str × Nat).1 : Int)) = NumL.any fun i => i == (n : Int) from rfl, h.1] at this
      cases this
  · rintro rfl
    exact absurd h.2 (by decide)
theorem Paired.at2' {α β : Type} {R : α → β → Prop} : ∀ {l₁ : List α} {l₂ : List β}, Paired R l₁ l₂ → ∀ {i : Nat} {x : α}, l₁[i]? = some x → ∃ y, l₂[i]? = some y ∧ R x y
  | _, _, .nil, i, x, h => by cases h
  | _, _, .cons h t, 0, x, e => by
    cases e
    exact ⟨_, rfl, h⟩
  | _, _, .cons h t, i + 1, x, e => Paired.at2' t (i := i) e
theorem cp_rng {n : Nat} {g : TG} {tt : TT} {te : TE} {vs : List Nat} {σ : L2.St} {A : Addr} {H1 : Hp} {Q : VK} (Pv : Nat → Hp → Prop) (h0 : Pv 0 (L2.upd H1 A (.lst [])))
    (hs : ∀ i H, i < n → Pv i H → g (.int (0 + (i : Nat))) (wipe σ vs) H fun σ2 H2 => wipe σ2 vs = wipe σ vs ∧ tt σ2 H2 fun b H3 =>
      if b = true then te σ2 H3 fun y H4 => ∃ acc, H4 A = some (.lst acc) ∧ acc.length < sizeLine ∧ Pv (i + 1) (L2.upd H4 A (.lst (acc ++ [y]))) else Pv (i + 1) H3) (hd : ∀ H, Pv n H → Q (.ref A) H) :
    CompR (Itr 0 n) g tt te vs σ Q A (L2.upd H1 A (.lst [])) := lc_range Pv h0 hs hd
def Unk (H : Hp) (U : Addr) : Prop := ∃ us : List Nat, H U = some (.lst (vn us)) ∧ us ≠ [] ∧ us.length ≤ 256 ∧ ∀ u ∈ us, wdF u = none ∧ u ≠ 71 ∧ u < 256
theorem unk_run {K : PySem.W.Frag} {D : Ends} {H : Hp} {N : Addr} {a d : V} {s5 s6 s7 s8 : Option V} (hN : H N = some (.lst ((NumL ++ [71]).map V.int)))
    (k : ∀ U H', H U = none → Same H H' → Unk H' U → D.nx [some a, some d, some (.ref N), none, some (.ref U), s5, s6, s7, s8] H') :
    (tAsg (tLc (iRng1 (tCons (tC (.int 256)) tNil)) (gName 3) (tTest (tOp (rIn K true) (tVar 3) (tVar 2))) (tVar 3) [3]) (gName 4) : TS) D [some a, some d, some (.ref N), none, none, s5, s6, s7, s8] H := by
  simp only [r_seq, r_next, r_brk, r_cont, r_asg, r_name, r_ret, r_retN, r_drop, r_ifs, r_never, r_var, r_c, r_op, r_un, r_if, r_tst, r_b, r_not, r_and, r_or, r_andV, r_orV, r_notV, r_nil, r_cons, r_tup, r_lst, r_cb, r_call, r_bm, r_bm0, r_sl, r_nopart, r_part, r_rev, r_gnil, r_gcons, r_gsub, r_par, r_aug, r_chain, r_I0, r_I, r_U, r_ixd, r_lend, r_tupd, r_listd, r_sld, r_app, r_ext, r_reverse, r_setl, r_cat, r_int1, r_eqS, r_neS, scal_ii, scal_bb, scal_ss, at0, at1, at2, sq_lst, sq_tup, isLst_lst, List.getElem?_cons_zero, List.getElem?_cons_succ, List.set_cons_zero, List.set_cons_succ, V.int.injEq, V.bl.injEq, V.ref.injEq, V.str.injEq, HO.lst.injEq, HO.tup.injEq, Option.some.injEq, exists_eq_left', exists_eq_left, List.cons.injEq, and_true, true_and, decide_eq_true_eq, reduceCtorEq, false_and, exists_false, or_false, false_or, exists_const, and_assoc, exists_and_left, List.append_nil, ix0, ix1, ix2, cm_mod, cdw1009, cdw2003, cdw7, cdw64, cdw2, cm104729, cm2, cm3, upd_same, List.length_cons, List.length_nil, Int.reduceLT, Int.reduceLE, Nat.reduceAdd, Nat.reduceLeDiff, Nat.reduceLT, Int.reduceToNat, r_for1, r_forL, r_forT, r_lcL, r_lc1, r_yes, r_gtupD, wipe_0, wipe_1, List.cons_append, List.nil_append, r_forS, r_ipI, ite_false, ite_true, Bool.not_true, Bool.not_false, decide_true, decide_false, r_isd, r_islt, cD_ty, cD_ref, tD_non, tD_bl, tD_int, tD_str, tD_ref, tH_lst, tH_tup, tH_dK, tH_ins, ki_self, ki_int_bool, ki_non_int, ki_str_int, ki_lt_lst, ki_lt_tup, r_fld, r_sfld, HO.ins.injEq, cx_K]
  refine ⟨by decide, by decide, fun U hU => ?_⟩
  have un : N ≠ U := ne_new hN hU
  refine cp_rng (n := 256) (fun i H' => Same H H' ∧ ∃ us : List Nat, H' U = some (.lst (vn us)) ∧ us.length ≤ i ∧ (0 < i → us ≠ []) ∧ ∀ u ∈ us, wdF u = none ∧ u ≠ 71 ∧ u < 256) ⟨Same.new' (Same.refl H) hU, [], upd_same, Nat.le_refl _, fun h => absurd h (Nat.lt_irrefl _), fun u h => by cases h⟩ ?_ ?_
  · rintro i H' hi ⟨sm, us, hu, ul, un0, uf⟩
    refine ⟨rfl, ?_⟩
    simp only [r_seq, r_next, r_brk, r_cont, r_asg, r_name, r_ret, r_retN, r_drop, r_ifs, r_never, r_var, r_c, r_op, r_un, r_if, r_tst, r_b, r_not, r_and, r_or, r_andV, r_orV, r_notV, r_nil, r_cons, r_tup, r_lst, r_cb, r_call, r_bm, r_bm0, r_sl, r_nopart, r_part, r_rev, r_gnil, r_gcons, r_gsub, r_par, r_aug, r_chain, r_I0, r_I, r_U, r_ixd, r_lend, r_tupd, r_listd, r_sld, r_app, r_ext, r_reverse, r_setl, r_cat, r_int1, r_eqS, r_neS, scal_ii, scal_bb, scal_ss, at0, at1, at2, sq_lst, sq_tup, isLst_lst, List.getElem?_cons_zero, List.getElem?_cons_succ, List.set_cons_zero, List.set_cons_succ, V.int.injEq, V.bl.injEq, V.ref.injEq, V.str.injEq, HO.lst.injEq, HO.tup.injEq, Option.some.injEq, exists_eq_left', exists_eq_left, List.cons.injEq, and_true, true_and, decide_eq_true_eq, reduceCtorEq, false_and, exists_false, or_false, false_or, exists_const, and_assoc, exists_and_left, List.append_nil, ix0, ix1, ix2, cm_mod, cdw1009, cdw2003, cdw7, cdw64, cdw2, cm104729, cm2, cm3, upd_same, List.length_cons, List.length_nil, Int.reduceLT, Int.reduceLE, Nat.reduceAdd, Nat.reduceLeDiff, Nat.reduceLT, Int.reduceToNat, r_for1, r_forL, r_forT, r_lcL, r_lc1, r_yes, r_gtupD, wipe_0, wipe_1, List.cons_append, List.nil_append, r_forS, r_ipI, ite_false, ite_true, Bool.not_true, Bool.not_false, decide_true, decide_false, r_isd, r_islt, cD_ty, cD_ref, tD_non, tD_bl, tD_int, tD_str, tD_ref, tH_lst, tH_tup, tH_dK, tH_ins, ki_self, ki_int_bool, ki_non_int, ki_str_int, ki_lt_lst, ki_lt_tup, r_fld, r_sfld, HO.ins.injEq, cx_K]
    have hf : ((NumL ++ [71]).map V.int).all flatV = true := by rw [List.all_map]; exact List.all_eq_true.mpr fun _ _ => rfl
    refine ⟨N, (NumL ++ [71]).map V.int, rfl, .inl (SqL.of (sm _ _ hN)), rfl, hf, _, rfl, ?_⟩
    rw [Int.zero_add, inV_num]
    cases c : (NumL ++ [71]).any fun j => j == (i : Int) with
    | true =>
      rw [if_neg (by simp)]
      refine ⟨sm, us, hu, by omega, fun h => ?_, uf⟩
      cases i with
      | zero => rw [show (((0 : Nat) : Int)) = 0 from rfl, num_0] at c; cases c
      | succ i => exact un0 (Nat.succ_pos _)
    | false =>
      rw [if_pos (by simp)]
      obtain ⟨f1, f2⟩ := unk_fact c
      refine ⟨vn us, hu, Nat.lt_of_le_of_lt (by rw [vn_len]; omega : _ ≤ 1000) (by decide), fun b o e => ?_, us ++ [i], ?_, by rw [List.length_append, List.length_singleton]; omega, fun _ => by simp, fun u h => ?_⟩
      · rw [upd_ne (ne_new e hU)]
        exact sm b o e
      · rw [vn_app]
        rfl
      · rcases List.mem_append.mp h with h | h
        · exact uf u h
        · obtain rfl := List.mem_singleton.mp h
          exact ⟨f1, f2, hi⟩
  · rintro H' ⟨sm, us, hu, ul, un0, uf⟩
    exact k U H' hU sm ⟨us, hu, un0 (by decide), ul, uf⟩
theorem nums_run {D : Ends} {H : Hp} {d : Addr} {a : V} {s2 s3 s4 s5 s6 s7 : Option V} (ht : LawTab H d tabL)
    (k : ∀ N H', Same H H' → H' N = some (.lst ((NumL ++ [71]).map V.int)) → D.nx [some a, some (.ref d), some (.ref N), s3, s4, s5, s6, s7, none] H') :
    (tAsg (tOp rCat (tLockE (tLc (iVals (tVar 1)) (gName 8) tYes (tOp rIxd (tVar 8) (tC (.int 0))) [8])) (tLst (tCons (tC (.int 71)) tNil))) (gName 2) : TS) D [some a, some (.ref d), s2, s3, s4, s5, s6, s7, none] H := by
  obtain ⟨kvs, hd, pk⟩ := ht
  have wt := of_decide_eq_true chk4
  have lk := Paired.length pk
  simp only [r_seq, r_next, r_brk, r_cont, r_asg, r_name, r_ret, r_retN, r_drop, r_ifs, r_never, r_var, r_c, r_op, r_un, r_if, r_tst, r_b, r_not, r_and, r_or, r_andV, r_orV, r_notV, r_nil, r_cons, r_tup, r_lst, r_cb, r_call, r_bm, r_bm0, r_sl, r_nopart, r_part, r_rev, r_gnil, r_gcons, r_gsub, r_par, r_aug, r_chain, r_I0, r_I, r_U, r_ixd, r_lend, r_tupd, r_listd, r_sld, r_app, r_ext, r_reverse, r_setl, r_cat, r_int1, r_eqS, r_neS, scal_ii, scal_bb, scal_ss, at0, at1, at2, sq_lst, sq_tup, isLst_lst, List.getElem?_cons_zero, List.getElem?_cons_succ, List.set_cons_zero, List.set_cons_succ, V.int.injEq, V.bl.injEq, V.ref.injEq, V.str.injEq, HO.lst.injEq, HO.tup.injEq, Option.some.injEq, exists_eq_left', exists_eq_left, List.cons.injEq, and_true, true_and, decide_eq_true_eq, reduceCtorEq, false_and, exists_false, or_false, false_or, exists_const, and_assoc, exists_and_left, List.append_nil, ix0, ix1, ix2, cm_mod, cdw1009, cdw2003, cdw7, cdw64, cdw2, cm104729, cm2, cm3, upd_same, List.length_cons, List.length_nil, Int.reduceLT, Int.reduceLE, Nat.reduceAdd, Nat.reduceLeDiff, Nat.reduceLT, Int.reduceToNat, r_for1, r_forL, r_forT, r_lcL, r_lc1, r_yes, r_gtupD, wipe_0, wipe_1, List.cons_append, List.nil_append, r_forS, r_ipI, ite_false, ite_true, Bool.not_true, Bool.not_false, decide_true, decide_false, r_isd, r_islt, cD_ty, cD_ref, tD_non, tD_bl, tD_int, tD_str, tD_ref, tH_lst, tH_tup, tH_dK, tH_ins, ki_self, ki_int_bool, ki_non_int, ki_str_int, ki_lt_lst, ki_lt_tup, r_fld, r_sfld, HO.ins.injEq, cx_K]
  refine ⟨d, _, hd, trivial, fun od => ⟨_, rfl, d, od, kvs, rfl, upd_same, fun A hA => ?_⟩⟩
  have Ad : A ≠ d := fun z => by rw [z, upd_same] at hA; cases hA
  have hA' : H A = none := by rw [upd_ne Ad] at hA; exact hA
  refine lc_it walk_values (fun i H' => (∀ b o, b ≠ d → H b = some o → H' b = some o) ∧ H' d = some (.frz od (.dK kvs)) ∧ H' A = some (.lst ((NumL.take i).map V.int))) ⟨fun b o nb e => ?_, ?_, ?_⟩ (fun i H' _ p => p.2.1) ?_ ?_
  · rw [upd_ne (ne_new e hA'), upd_ne nb]
    exact e
  · rw [upd_ne Ad.symm, upd_same]
  · rw [upd_same]
    rfl
  · rintro i x H1 H' hi ⟨h1, h2, h3⟩ ⟨rfl, key, hkv⟩
    obtain ⟨r, hr, e1, t, e2, e3⟩ := Paired.at2' pk hkv
    dsimp only at e1 e2
    subst e2
    have td : t ≠ d := fun z => by rw [z, hd] at e3; cases e3
    have il : i < tabL.length := by omega
    have nx : NumL.take (i + 1) = NumL.take i ++ [r.2.1] := by
      rw [List.take_succ]
      congr 1
      unfold NumL
      rw [List.getElem?_map, hr]
      rfl
    refine ⟨rfl, ?_⟩
    have e4 := h1 _ _ td e3
    unfold trV at e4
    simp only [r_seq, r_next, r_brk, r_cont, r_asg, r_name, r_ret, r_retN, r_drop, r_ifs, r_never, r_var, r_c, r_op, r_un, r_if, r_tst, r_b, r_not, r_and, r_or, r_andV, r_orV, r_notV, r_nil, r_cons, r_tup, r_lst, r_cb, r_call, r_bm, r_bm0, r_sl, r_nopart, r_part, r_rev, r_gnil, r_gcons, r_gsub, r_par, r_aug, r_chain, r_I0, r_I, r_U, r_ixd, r_lend, r_tupd, r_listd, r_sld, r_app, r_ext, r_reverse, r_setl, r_cat, r_int1, r_eqS, r_neS, scal_ii, scal_bb, scal_ss, at0, at1, at2, sq_lst, sq_tup, isLst_lst, List.getElem?_cons_zero, List.getElem?_cons_succ, List.set_cons_zero, List.set_cons_succ, V.int.injEq, V.bl.injEq, V.ref.injEq, V.str.injEq, HO.lst.injEq, HO.tup.injEq, Option.some.injEq, exists_eq_left', exists_eq_left, List.cons.injEq, and_true, true_and, decide_eq_true_eq, reduceCtorEq, false_and, exists_false, or_false, false_or, exists_const, and_assoc, exists_and_left, List.append_nil, ix0, ix1, ix2, cm_mod, cdw1009, cdw2003, cdw7, cdw64, cdw2, cm104729, cm2, cm3, upd_same, List.length_cons, List.length_nil, Int.reduceLT, Int.reduceLE, Nat.reduceAdd, Nat.reduceLeDiff, Nat.reduceLT, Int.reduceToNat, r_for1, r_forL, r_forT, r_lcL, r_lc1, r_yes, r_gtupD, wipe_0, wipe_1, List.cons_append, List.nil_append, r_forS, r_ipI, ite_false, ite_true, Bool.not_true, Bool.not_false, decide_true, decide_false, r_isd, r_islt, cD_ty, cD_ref, tD_non, tD_bl, tD_int, tD_str, tD_ref, tH_lst, tH_tup, tH_dK, tH_ins, ki_self, ki_int_bool, ki_non_int, ki_str_int, ki_lt_lst, ki_lt_tup, r_fld, r_sfld, HO.ins.injEq, cx_K, e4]
    refine ⟨_, h3, Nat.lt_of_le_of_lt (by rw [List.length_map, List.length_take]; omega : _ ≤ 1000) (by decide), fun b o nb e => ?_, ?_, ?_⟩
    · rw [upd_ne (ne_new e hA')]
      exact h1 b o nb e
    · rw [upd_ne Ad.symm]
      exact h2
    · rw [nx, List.map_append]
      rfl
  · rintro H1 ⟨h1, h2, h3⟩
    have ll : NumL.length = kvs.length := by unfold NumL; rw [List.length_map, lk]
    rw [← ll, List.take_length] at h3
    refine ⟨h2, ?_⟩
    have s1 : Same H (L2.upd H1 d (.dK kvs)) := fun b o e => by
      by_cases q : b = d
      · subst q
        rw [upd_same, ← hd, e]
      · rw [upd_ne q]
        exact h1 b o q e
    have q1 : L2.upd H1 d (.dK kvs) A = some (.lst (NumL.map V.int)) := by rw [upd_ne Ad]; exact h3
    generalize L2.upd H1 d (.dK kvs) = G at *
    have nl : NumL.length ≤ 100 := by omega
    refine ⟨szl (by decide), fun B hB => ?_⟩
    refine ⟨A, rfl, _, by rw [upd_ne (ne_new q1 hB)]; exact q1, Nat.le_trans (by rw [List.length_map]; omega : _ ≤ 1000) (by decide), fun N hN => ?_⟩
    refine k N _ (Same.new' (Same.new' s1 hB) hN) ?_
    rw [upd_same, List.map_append]
    rfl
end C58

set_option maxHeartbeats 2000000
namespace C58
open PySem PySem.Spec PyProof.Rows L2
/-! ### what gives wrong bytes alone -/
def BadV (a : Addr) (H : Hp) (v : V) : Prop := ∃ (p : Addr) (bs : List Nat), v = .ref p ∧ p ≠ a ∧ H p = some (.lst (vn bs)) ∧ BadB bs
theorem BadV.keep {a : Addr} {H H' : Hp} {v : V} (h : BadV a H v) (k : Keep a H H') : BadV a H' v := by
  obtain ⟨p, bs, e, pa, hp, b⟩ := h
  exact ⟨p, bs, e, pa, k _ _ pa hp, b⟩
def EB (a : Addr) (H0 : Hp) (σ : L2.St) (te : TE) : Prop := ∀ H Q, Src H a → Keep a H0 H → (∀ v H', Keep a H H' → Src H' a → BadV a H' v → Q v H') → te σ H Q
def AB (a : Addr) (H0 : Hp) (σ : L2.St) (ta : TA) (n : Nat) : Prop := ∀ H QA, Src H a → Keep a H0 H → (∀ vs H', Keep a H H' → Src H' a → vs.length = n → (∀ v ∈ vs, BadV a H' v) → QA vs H') → ta σ H QA
section
variable {a : Addr} {H0 : Hp} {σ : L2.St}
theorem ab_nil : AB a H0 σ tNil 0 := fun H QA S _ q => q [] H (Keep.refl a H) S rfl fun v h => by cases h
theorem ab_cons {te : TE} {ta : TA} {n : Nat} (h : EB a H0 σ te) (k : AB a H0 σ ta n) : AB a H0 σ (tCons te ta) (n + 1) := fun H QA S k0 q => h H _ S k0 fun v H1 k1 S1 b => k H1 _ S1 (k0.trans k1) fun vs H2 k2 S2 l bs =>
  q (v :: vs) H2 (k1.trans k2) S2 (by rw [List.length_cons, l]) fun u hu => by
    rcases List.mem_cons.mp hu with rfl | hu
    · exact b.keep k2
    · exact bs u hu
/-- a display of written numbers -/
def tNs : List Nat → TA
  | [] => tNil
  | n :: ns => tCons (tC (.int (n : Int))) (tNs ns)
theorem r_ns {H : Hp} {QA : List V → Hp → Prop} : ∀ {ns : List Nat}, tNs ns σ H QA = QA (vn ns) H := by
  intro ns
  induction ns generalizing QA with
  | nil => rfl
  | cons n ns ih =>
    show tNs ns σ H (fun xs H2 => QA (V.int (n : Int) :: xs) H2) = _
    rw [ih]
    rfl
theorem eb_ns {ns : List Nat} (b : BadB ns) : EB a H0 σ (tLst (tNs ns)) := fun H Q S k0 q => by
  show tNs ns σ H _
  rw [r_ns]
  have := b.len
  exact ⟨szl (by rw [vn_len]; omega), fun p hp => q _ _ ((Keep.refl a H).new hp) (S.new hp) ⟨p, ns, rfl, S.ne hp, upd_same, b⟩⟩
theorem rep_vnk (ns : List Nat) (k : Nat) : (List.replicate k (vn ns)).flatten = vn (List.replicate k ns).flatten := by
  induction k with
  | zero => rfl
  | succ k ih => rw [List.replicate_succ, List.flatten_cons, ih, List.replicate_succ, List.flatten_cons, vn_app]
/-- [..] * k + [..] -/
theorem eb_rep1 {xs ys : List Nat} {k : Nat} (hk : k ≤ 20) (lx : xs.length ≤ 20) (ly : ys.length ≤ 20) (b : BadB ((List.replicate k xs).flatten ++ ys)) : EB a H0 σ (tOp rCat (tOp rRep (tLst (tNs xs)) (tC (.int (k : Int)))) (tLst (tNs ys))) := fun H Q S k0 q => by
  show tNs xs σ H _
  rw [r_ns]
  have hm : xs.length * k ≤ 400 := Nat.mul_le_mul lx hk
  refine ⟨szl (by rw [vn_len]; omega), fun p hp => ⟨p, (k : Int), vn xs, rfl, rfl, upd_same, by omega, by omega, Nat.le_trans (by rw [vn_len, Int.toNat_natCast]; omega : _ ≤ 1000) (by decide), fun p2 hp2 => ?_⟩⟩
  show tNs ys σ _ _
  rw [r_ns]
  have q2 : L2.upd (L2.upd H p (.lst (vn xs))) p2 (.lst (List.replicate (k : Int).toNat (vn xs)).flatten) p2 = some (.lst (vn (List.replicate k xs).flatten)) := by rw [upd_same, Int.toNat_natCast, rep_vnk]
  refine ⟨szl (by rw [vn_len]; omega), fun p3 hp3 => ⟨p2, p3, _, _, rfl, rfl, by rw [upd_ne (ne_new q2 hp3)]; exact q2, upd_same, ?_, fun p4 hp4 => ?_⟩⟩
  · rw [vn_len, vn_len, ← List.length_append]
    exact Nat.le_trans b.len (by decide)
  · have S2 := ((S.new (o := .lst (vn xs)) hp).new (o := .lst (List.replicate (k : Int).toNat (vn xs)).flatten) hp2).new (o := .lst (vn ys)) hp3
    exact q _ _ (((((Keep.refl a H).new hp).new hp2).new hp3).new hp4) (S2.new hp4) ⟨p4, _, rfl, S2.ne hp4, by rw [upd_same, vn_app], b⟩
/-- [..] + [..] * k + [..] -/
theorem eb_rep2 {ws xs ys : List Nat} {k : Nat} (hk : k ≤ 20) (lw : ws.length ≤ 20) (lx : xs.length ≤ 20) (ly : ys.length ≤ 20) (b : BadB (ws ++ (List.replicate k xs).flatten ++ ys)) : EB a H0 σ (tOp rCat (tOp rCat (tLst (tNs ws)) (tOp rRep (tLst (tNs xs)) (tC (.int (k : Int))))) (tLst (tNs ys))) := fun H Q S k0 q => by
  show tNs ws σ H _
  rw [r_ns]
  have hm : xs.length * k ≤ 400 := Nat.mul_le_mul lx hk
  have bl := b.len
  rw [List.length_append, List.length_append] at bl
  refine ⟨szl (by rw [vn_len]; omega), fun p hp => ?_⟩
  have qp : L2.upd H p (.lst (vn ws)) p = some (.lst (vn ws)) := upd_same
  have kp := (Keep.refl a H).new (o := .lst (vn ws)) hp
  have Sp := S.new (o := .lst (vn ws)) hp
  generalize L2.upd H p (.lst (vn ws)) = G at *
  show tNs xs σ G _
  rw [r_ns]
  refine ⟨szl (by rw [vn_len]; omega), fun p1 hp1 => ⟨p1, (k : Int), vn xs, rfl, rfl, upd_same, by omega, by omega, Nat.le_trans (by rw [vn_len, Int.toNat_natCast]; omega : _ ≤ 1000) (by decide), fun p2 hp2 => ?_⟩⟩
  have qp1 : L2.upd G p1 (.lst (vn xs)) p = some (.lst (vn ws)) := by rw [upd_ne (ne_new qp hp1)]; exact qp
  have q2 : L2.upd (L2.upd G p1 (.lst (vn xs))) p2 (.lst (List.replicate (k : Int).toNat (vn xs)).flatten) p2 = some (.lst (vn (List.replicate k xs).flatten)) := by rw [upd_same, Int.toNat_natCast, rep_vnk]
  have qp2 : L2.upd (L2.upd G p1 (.lst (vn xs))) p2 (.lst (List.replicate (k : Int).toNat (vn xs)).flatten) p = some (.lst (vn ws)) := by rw [upd_ne (ne_new qp1 hp2)]; exact qp1
  refine ⟨p, p2, _, _, rfl, rfl, qp2, q2, Nat.le_trans (by rw [vn_len, vn_len]; omega : _ ≤ 1000) (by decide), fun p3 hp3 => ?_⟩
  show tNs ys σ _ _
  rw [r_ns, ← vn_app]
  have q3 : L2.upd (L2.upd (L2.upd G p1 (.lst (vn xs))) p2 (.lst (List.replicate (k : Int).toNat (vn xs)).flatten)) p3 (.lst (vn (ws ++ (List.replicate k xs).flatten))) p3 = some (.lst (vn (ws ++ (List.replicate k xs).flatten))) := upd_same
  have S3 := ((Sp.new (o := .lst (vn xs)) hp1).new (o := .lst (List.replicate (k : Int).toNat (vn xs)).flatten) hp2).new (o := .lst (vn (ws ++ (List.replicate k xs).flatten))) hp3
  have k3 := ((kp.new (o := .lst (vn xs)) hp1).new (o := .lst (List.replicate (k : Int).toNat (vn xs)).flatten) hp2).new (o := .lst (vn (ws ++ (List.replicate k xs).flatten))) hp3
  generalize L2.upd (L2.upd (L2.upd G p1 (.lst (vn xs))) p2 (.lst (List.replicate (k : Int).toNat (vn xs)).flatten)) p3 (.lst (vn (ws ++ (List.replicate k xs).flatten))) = G3 at *
  refine ⟨szl (by rw [vn_len]; omega), fun p4 hp4 => ⟨p3, p4, _, _, rfl, rfl, by rw [upd_ne (ne_new q3 hp4)]; exact q3, upd_same, Nat.le_trans (by rw [vn_len, vn_len, List.length_append]; omega : _ ≤ 1000) (by decide), fun p5 hp5 => ?_⟩⟩
  have S4 := S3.new (o := .lst (vn ys)) hp4
  exact q _ _ ((k3.new hp4).new hp5) (S4.new hp5) ⟨p5, _, rfl, S4.ne hp5, by rw [upd_same, ← vn_app], b⟩
/-- a number that is none, and any byte -/
theorem eb_unk {U : Addr} (h0 : σ[0]? = some (some (.ref a))) (h4 : σ[4]? = some (some (.ref U))) (Ua : U ≠ a) (hu : Unk H0 U) : EB a H0 σ (tLst (tCons (tCall spOne [] E0 (tCons (tVar 0) (tCons (tVar 4) tNil))) (tCons (tCall spNext [] E0 (tCons (tVar 0) (tCons (tC (.int 256)) tNil))) tNil))) := fun H Q S k0 q => by
  obtain ⟨us, e, ne, ul, uf⟩ := hu
  refine ⟨_, h0, _, h4, a, U, _, rfl, S, Ua, k0 _ _ Ua e, ?_, by rw [vn_len]; omega, fun v H1 hv k1 S1 => ⟨_, h0, a, 256, rfl, S1, by decide, by decide, fun r H2 r0 r1 k2 S2 => ⟨szl (by simp), fun p hp => ?_⟩⟩⟩
  · intro z
    have := congrArg List.length z
    rw [vn_len] at this
    exact ne (List.length_eq_zero_iff.mp this)
  · unfold vn at hv
    obtain ⟨u, mu, rfl⟩ := List.mem_map.mp hv
    obtain ⟨f1, f2, f3⟩ := uf u mu
    refine q _ _ ((k1.trans k2).new hp) (S2.new hp) ⟨p, [u, r.toNat], rfl, S2.ne hp, ?_, bad_unknown f1 f2 f3 (by omega)⟩
    rw [upd_same]
    show _ = some (HO.lst [V.int (u : Int), V.int ((r.toNat : Nat) : Int)])
    rw [show ((r.toNat : Nat) : Int) = r from by omega]
/-! ### the statements -/
def BadL (a : Addr) (H : Hp) (p : Addr) (n : Nat) : Prop := p ≠ a ∧ ∃ vs, H p = some (.lst vs) ∧ vs.length = n ∧ ∀ v ∈ vs, BadV a H v
theorem BadL.keep {H H' : Hp} {p : Addr} {n : Nat} (h : BadL a H p n) (k : Keep a H H') : BadL a H' p n := by
  obtain ⟨pa, vs, e, l, b⟩ := h
  exact ⟨pa, vs, k _ _ pa e, l, fun v hv => (b v hv).keep k⟩
theorem first_run {ta : TA} {n : Nat} {D : Ends} {H : Hp} (h : AB a H0 σ ta n) (hn : n ≤ 50) (S : Src H a) (k0 : Keep a H0 H) (k : ∀ p H', Keep a H H' → Src H' a → BadL a H' p n → D.nx (σ.set 5 (some (.ref p))) H') : (tAsg (tLst ta) (gName 5) : TS) D σ H := by
  refine h H _ S k0 fun vs H1 k1 S1 l bs => ⟨szl (by omega), fun p hp => k p _ (k1.new hp) (S1.new hp) ⟨S1.ne hp, vs, upd_same, l, fun v hv => (bs v hv).keep ((Keep.refl a H1).new hp)⟩⟩
theorem add_run {ta : TA} {n m : Nat} {p0 : Addr} {D : Ends} {H : Hp} (h5 : σ[5]? = some (some (.ref p0))) (hb : BadL a H p0 m) (h : AB a H0 σ ta n) (hn : n ≤ 50) (hm : m ≤ 50) (S : Src H a) (k0 : Keep a H0 H)
    (k : ∀ p H', Keep a H H' → Src H' a → BadL a H' p (m + n) → D.nx (σ.set 5 (some (.ref p))) H') : (tAsg (tOp rCat (tVar 5) (tLst ta)) (gName 5) : TS) D σ H := by
  refine ⟨_, h5, h H _ S k0 fun vs H1 k1 S1 l bs => ⟨szl (by omega), fun p hp => ?_⟩⟩
  obtain ⟨pa, us, e, l0, b0⟩ := hb.keep k1
  refine ⟨p0, p, us, vs, rfl, rfl, by rw [upd_ne (ne_new e hp)]; exact e, upd_same, Nat.le_trans (by omega : _ ≤ 1000) (by decide), fun p2 hp2 => ?_⟩
  have S2 := S1.new (o := .lst vs) hp
  have k2 := (Keep.refl a H1).new (o := .lst vs) hp
  refine k p2 _ ((k1.new hp).new hp2) (S2.new hp2) ⟨S2.ne hp2, us ++ vs, upd_same, by rw [List.length_append]; omega, fun v hv => ?_⟩
  rcases List.mem_append.mp hv with hv | hv
  · exact (b0 v hv).keep (k2.new hp2)
  · exact (bs v hv).keep (k2.new hp2)
end
end C58

set_option maxHeartbeats 2000000
namespace C58
open PySem PySem.Spec PyProof.Rows L2
/-! ### the pairs drawn -/
abbrev PN : Type := Str × Nat
def tPs : List PN → TA
  | [] => tNil
  | p :: r => tCons (tTup (tCons (tC (.str p.1)) (tCons (tC (.int (p.2 : Int))) tNil))) (tPs r)
def prV (p : PN) : List V := [.str p.1, .int (p.2 : Int)]
theorem ps_run {σ : L2.St} : ∀ {ps : List PN} {H : Hp} {QA : List V → Hp → Prop}, (∀ refs H', Same H H' → Paired (fun r p => H' r = some (.tup (prV p))) refs ps → QA (refs.map V.ref) H') → tPs ps σ H QA
  | [], H, QA, k => k [] H (Same.refl H) .nil
  | p :: ps, H, QA, k => ⟨szl (by decide : 2 ≤ 1000), fun t ht => ps_run fun refs H' s pr => k (t :: refs) H' (fun b o e => s b o (Same.new' (Same.refl H) ht b o e)) (.cons (s _ _ upd_same) pr)⟩
theorem Paired.mem1 {α β : Type} {R : α → β → Prop} : ∀ {l₁ : List α} {l₂ : List β}, Paired R l₁ l₂ → ∀ {x : α}, x ∈ l₁ → ∃ y ∈ l₂, R x y
  | _, _, .nil, x, h => by cases h
  | _, _, .cons h t, x, hx => by
    rcases List.mem_cons.mp hx with rfl | hx
    · exact ⟨_, List.mem_cons_self, h⟩
    · obtain ⟨y, hy, r⟩ := Paired.mem1 t hx
      exact ⟨y, List.mem_cons_of_mem _ hy, r⟩
theorem draw_run {a : Addr} {ps : List PN} {D : Ends} {H : Hp} {s1 s2 s3 s4 s5 s6 s7 s8 : Option V} (ne : ps ≠ []) (hl : ps.length ≤ 20) (S : Src H a)
    (k : ∀ p ∈ ps, ∀ H', Keep a H H' → Src H' a → D.nx [some (.ref a), s1, s2, some (.int (p.2 : Int)), s4, s5, some (.str p.1), s7, s8] H') :
    (tAsg (tCall spOne [] E0 (tCons (tVar 0) (tCons (tLst (tPs ps)) tNil))) (gTupD 2 (gCons (gName 6) (gCons (gName 3) gNil))) : TS) D [some (.ref a), s1, s2, s3, s4, s5, s6, s7, s8] H := by
  refine ⟨_, rfl, ps_run fun refs H1 s1 pr => ?_⟩
  have lr := Paired.length pr
  refine ⟨szl (by rw [List.length_map]; omega), fun p hp => ?_⟩
  have S1 : Src H1 a := by obtain ⟨x, y, z, e⟩ := S; exact ⟨x, y, z, s1 _ _ e⟩
  refine ⟨a, p, _, rfl, S1.new hp, S1.ne hp, upd_same, ?_, by rw [List.length_map]; omega, fun v H2 hv k2 S2 => ?_⟩
  · intro z
    have := congrArg List.length z
    rw [List.length_map, List.length_nil] at this
    exact ne (List.length_eq_zero_iff.mp (by omega))
  · obtain ⟨t, mt, rfl⟩ := List.mem_map.mp hv
    obtain ⟨q, mq, e⟩ := Paired.mem1 pr mt
    have ta : t ≠ a := fun z => by
      obtain ⟨x, y, w, e2⟩ := S1
      rw [z, e2] at e
      cases e
    have e2 := k2 _ _ ta (by rw [upd_ne (ne_new e hp)]; exact e)
    unfold prV at e2
    simp only [r_seq, r_next, r_brk, r_cont, r_asg, r_name, r_ret, r_retN, r_drop, r_ifs, r_never, r_var, r_c, r_op, r_un, r_if, r_tst, r_b, r_not, r_and, r_or, r_andV, r_orV, r_notV, r_nil, r_cons, r_tup, r_lst, r_cb, r_call, r_bm, r_bm0, r_sl, r_nopart, r_part, r_rev, r_gnil, r_gcons, r_gsub, r_par, r_aug, r_chain, r_I0, r_I, r_U, r_ixd, r_lend, r_tupd, r_listd, r_sld, r_app, r_ext, r_reverse, r_setl, r_cat, r_int1, r_eqS, r_neS, scal_ii, scal_bb, scal_ss, at0, at1, at2, sq_lst, sq_tup, isLst_lst, List.getElem?_cons_zero, List.getElem?_cons_succ, List.set_cons_zero, List.set_cons_succ, V.int.injEq, V.bl.injEq, V.ref.injEq, V.str.injEq, HO.lst.injEq, HO.tup.injEq, Option.some.injEq, exists_eq_left', exists_eq_left, List.cons.injEq, and_true, true_and, decide_eq_true_eq, reduceCtorEq, false_and, exists_false, or_false, false_or, exists_const, and_assoc, exists_and_left, List.append_nil, ix0, ix1, ix2, cm_mod, cdw1009, cdw2003, cdw7, cdw64, cdw2, cm104729, cm2, cm3, upd_same, List.length_cons, List.length_nil, Int.reduceLT, Int.reduceLE, Nat.reduceAdd, Nat.reduceLeDiff, Nat.reduceLT, Int.reduceToNat, r_for1, r_forL, r_forT, r_lcL, r_lc1, r_yes, r_gtupD, wipe_0, wipe_1, List.cons_append, List.nil_append, r_forS, r_ipI, ite_false, ite_true, Bool.not_true, Bool.not_false, decide_true, decide_false, r_isd, r_islt, cD_ty, cD_ref, tD_non, tD_bl, tD_int, tD_str, tD_ref, tH_lst, tH_tup, tH_dK, tH_ins, ki_self, ki_int_bool, ki_non_int, ki_str_int, ki_lt_lst, ki_lt_tup, r_fld, r_sfld, HO.ins.injEq, cx_K, e2]
    exact k q mq H2 (((Keep.same s1).new hp).trans k2) S2
/-! ### arguments that mean nothing -/
def ps1 : List PN := [("LOAD_CONST", 2), ("RETURN_CONST", 256), ("LOAD_NAME", 3), ("STORE_ATTR", 300)]
def ps2 : List PN := [("LOAD_GLOBAL", 6), ("LOAD_ATTR", 7), ("LOAD_FAST", 4), ("MAKE_CELL", 70000)]
def ps3 : List PN := [("LOAD_FAST_LOAD_FAST", 64), ("LOAD_FAST_LOAD_FAST", 4), ("LOAD_FAST_LOAD_FAST", 79), ("LOAD_FAST_LOAD_FAST", 1024), ("LOAD_FAST_LOAD_FAST", 15)]
theorem ps1_ok : ps1.all (fun p => (tabL.any fun r => r.1 == p.1) && ((List.range 3).all fun j => goodK (kdF p.1) (p.2 + j) == false)) = true := by decide +kernel
theorem ps2_ok : ps2.all (fun p => (tabL.any fun r => r.1 == p.1) && (goodK (kdF p.1) p.2 == false)) = true := by decide +kernel
theorem ps3_ok : ps3.all (fun p => (tabL.any fun r => r.1 == p.1) && (goodK (kdF p.1) p.2 == false)) = true := by decide +kernel
theorem tab_any {z : Str} (h : (tabL.any fun r => r.1 == z) = true) : ∃ r ∈ tabL, r.1 = z := by
  obtain ⟨r, hr, e⟩ := List.any_eq_true.mp h
  exact ⟨r, hr, eq_of_beq e⟩
theorem ps_lt : (ps1 ++ ps2 ++ ps3).all (fun p => decide (p.2 + 3 < 4294967296)) = true := by decide
theorem packed_bad {d : Addr} {z : Str} {n : Nat} {G : Hp} {Q : VK} {a : Addr} (hz : (tabL.any fun r => r.1 == z) = true) (hg : goodK (kdF z) n = false) (hn : n < 4294967296) (ht : LawTab G d tabL) (S : Src G a)
    (k : ∀ v H', Keep a G H' → Src H' a → BadV a H' v → Q v H') : spPacked [.ref d, .str z, .int (n : Int)] G Q E0 := by
  obtain ⟨r, hr, rfl⟩ := tab_any hz
  exact ⟨d, r, n, rfl, hr, ht, hn, fun p H' hp s h => k _ H' (Keep.same s) (by obtain ⟨x, y, w, e⟩ := S; exact ⟨x, y, w, s _ _ e⟩) ⟨p, _, rfl, S.ne hp, h, row_bad hr hn hg⟩⟩
section
variable {a d : Addr} {H0 : Hp} {s2 s4 s5 s7 s8 : Option V}
theorem eb_p1 {p : PN} (hp : p ∈ ps1) (ht : LawTab H0 d tabL) (S0 : Src H0 a) : EB a H0 [some (.ref a), some (.ref d), s2, some (.int (p.2 : Int)), s4, s5, some (.str p.1), s7, s8] (tCall spPacked [] E0 (tCons (tVar 1) (tCons (tVar 6) (tCons (tOp (rI0 fun i j => V.int (i + j)) (tVar 3) (tCall spNext [] E0 (tCons (tVar 0) (tCons (tC (.int 3)) tNil)))) tNil)))) := fun H Q S k0 q => by
  have f := List.all_eq_true.mp ps1_ok p hp
  have lt := of_decide_eq_true (List.all_eq_true.mp ps_lt p (List.mem_append_left _ (List.mem_append_left _ hp)))
  simp only [Bool.and_eq_true] at f
  refine ⟨_, rfl, _, rfl, _, rfl, _, rfl, a, 3, rfl, S, by decide, by decide, fun r H1 r0 r1 k1 S1 => ⟨_, r, rfl, rfl, ?_⟩⟩
  have g := List.all_eq_true.mp f.2 r.toNat (List.mem_range.mpr (by omega))
  show spPacked [.ref d, .str p.1, .int ((p.2 : Int) + r)] H1 _ E0
  rw [show (p.2 : Int) + r = ((p.2 + r.toNat : Nat) : Int) from by omega]
  exact packed_bad f.1 (eq_of_beq g) (by omega) (ht.keep (k0.trans k1) (by obtain ⟨x, y, w, e⟩ := S0; exact ⟨_, e⟩)) S1 fun v H' k2 S2 b => q v H' (k1.trans k2) S2 b
theorem eb_p2 {p : PN} (hp : p ∈ ps2) (ht : LawTab H0 d tabL) (S0 : Src H0 a) : EB a H0 [some (.ref a), some (.ref d), s2, some (.int (p.2 : Int)), s4, s5, some (.str p.1), s7, s8] (tCall spPacked [] E0 (tCons (tVar 1) (tCons (tVar 6) (tCons (tVar 3) tNil)))) := fun H Q S k0 q => by
  have f := List.all_eq_true.mp ps2_ok p hp
  have lt := of_decide_eq_true (List.all_eq_true.mp ps_lt p (List.mem_append_left _ (List.mem_append_right _ hp)))
  simp only [Bool.and_eq_true] at f
  refine ⟨_, rfl, _, rfl, _, rfl, ?_⟩
  exact packed_bad f.1 (eq_of_beq f.2) (by omega) (ht.keep k0 (by obtain ⟨x, y, w, e⟩ := S0; exact ⟨_, e⟩)) S q
theorem eb_p3 {s3 s6 : Option V} {p : PN} (hp : p ∈ ps3) (ht : LawTab H0 d tabL) (S0 : Src H0 a) : EB a H0 [some (.ref a), some (.ref d), s2, s3, s4, s5, s6, some (.int (p.2 : Int)), s8] (tCall spPacked [] E0 (tCons (tVar 1) (tCons (tC (.str "LOAD_FAST_LOAD_FAST")) (tCons (tVar 7) tNil)))) := fun H Q S k0 q => by
  have f := List.all_eq_true.mp ps3_ok p hp
  have lt := of_decide_eq_true (List.all_eq_true.mp ps_lt p (List.mem_append_right _ hp))
  have en : p.1 = "LOAD_FAST_LOAD_FAST" := by
    unfold ps3 at hp
    simp only [List.mem_cons, List.not_mem_nil, or_false] at hp
    rcases hp with rfl | rfl | rfl | rfl | rfl <;> rfl
  simp only [Bool.and_eq_true] at f
  refine ⟨_, rfl, _, rfl, ?_⟩
  show spPacked [.ref d, .str "LOAD_FAST_LOAD_FAST", .int (p.2 : Int)] H _ E0
  rw [← en]
  exact packed_bad f.1 (eq_of_beq f.2) (by omega) (ht.keep k0 (by obtain ⟨x, y, w, e⟩ := S0; exact ⟨_, e⟩)) S q
end
def spWrong : Sp := fun vs H Q _ => ∃ a d : Addr, vs = [.ref a, .ref d] ∧ Src H a ∧ LawTab H d tabL ∧ ∀ (p : Addr) (bs : List Nat) H', BadB bs → p ≠ a → Keep a H H' → Src H' a → H' p = some (.lst (vn bs)) → Q (.ref p) H'
end C58

set_option maxHeartbeats 2000000
namespace C58
open PySem PySem.Spec PyProof.Rows L2
def t_wrong (K : PySem.W.Frag) : TS :=
  tSeq (tAsg (tOp rCat (tLockE (tLc (iVals (tVar 1)) (gName 8) tYes (tOp rIxd (tVar 8) (tC (.int 0))) [8])) (tLst (tCons (tC (.int 71)) tNil))) (gName 2))
  (tSeq (tAsg (tLc (iRng1 (tCons (tC (.int 256)) tNil)) (gName 3) (tTest (tOp (rIn K true) (tVar 3) (tVar 2))) (tVar 3) [3]) (gName 4))
  (tSeq (tAsg (tLst (tCons (tLst (tCons (tCall spOne [] E0 (tCons (tVar 0) (tCons (tVar 4) tNil))) (tCons (tCall spNext [] E0 (tCons (tVar 0) (tCons (tC (.int 256)) tNil))) tNil))) (tCons (tLst (tNs [0, 0])) (tCons (tLst (tNs [71, 1, 0, 0]))
    (tCons (tOp rCat (tOp rRep (tLst (tNs [71, 1])) (tC (.int ((4 : Nat) : Int)))) (tLst (tNs [30, 0]))) tNil))))) (gName 5))
  (tSeq (tAsg (tOp rCat (tVar 5) (tLst (tCons (tLst (tNs [71, 0, 30, 0])) (tCons (tLst (tNs [71, 1, 0, 5])) (tCons (tLst (tNs [45, 0, 0, 1])) (tCons (tLst (tNs [45, 0, 1, 0])) (tCons (tLst (tNs [71, 0, 71, 1, 30, 0])) tNil))))))) (gName 5))
  (tSeq (tAsg (tOp rCat (tVar 5) (tLst (tCons (tOp rCat (tOp rCat (tLst (tNs [82, 0])) (tOp rRep (tLst (tNs [0])) (tC (.int ((17 : Nat) : Int))))) (tLst (tNs [9]))) tNil))) (gName 5))
  (tSeq (tAsg (tCall spOne [] E0 (tCons (tVar 0) (tCons (tLst (tPs ps1)) tNil))) (gTupD 2 (gCons (gName 6) (gCons (gName 3) gNil))))
  (tSeq (tAsg (tOp rCat (tVar 5) (tLst (tCons (tCall spPacked [] E0 (tCons (tVar 1) (tCons (tVar 6) (tCons (tOp (rI0 fun i j => V.int (i + j)) (tVar 3) (tCall spNext [] E0 (tCons (tVar 0) (tCons (tC (.int 3)) tNil)))) tNil)))) tNil))) (gName 5))
  (tSeq (tAsg (tCall spOne [] E0 (tCons (tVar 0) (tCons (tLst (tPs ps2)) tNil))) (gTupD 2 (gCons (gName 6) (gCons (gName 3) gNil))))
  (tSeq (tAsg (tOp rCat (tVar 5) (tLst (tCons (tCall spPacked [] E0 (tCons (tVar 1) (tCons (tVar 6) (tCons (tVar 3) tNil)))) tNil))) (gName 5))
  (tSeq (tAsg (tCall spOne [] E0 (tCons (tVar 0) (tCons (tLst (tNs [64, 4, 79, 1024, 15])) tNil))) (gName 7))
  (tRet (tCall spOne [] E0 (tCons (tVar 0) (tCons (tOp rCat (tVar 5) (tOp rRep (tLst (tCons (tCall spPacked [] E0 (tCons (tVar 1) (tCons (tC (.str "LOAD_FAST_LOAD_FAST")) (tCons (tVar 7) tNil)))) tNil)) (tC (.int 2)))) tNil)))))))))))))
section
variable {P : Program} {w : World} {K : PySem.W.Frag} {mg : Str → Option Value} {base : Heap} {f : Addr} {fd : FuncData}
abbrev swrong : Stmt := top 73
theorem scwrong : FnScope ["_law_source", "_law_table_here", "_law_numbers", "_law_number", "_law_unknown", "_law_some", "_law_word", "_law_pair", "_law_one_here"] ["_law_source", "_law_table_here"] (defScope swrong) := ⟨rfl, rfl, rfl, by decide +kernel, rfl, by decide +kernel, by decide +kernel⟩

theorem ok_wrong (T : Txt mg) (F : FnP K "_law_wrong" "_law_wrong" swrong f fd) (C_next : Cal P w K mg base 1 "_law_next" ["_law_source", "_law_many"] spNext) (C_one : Cal P w K mg base 2 "_law_one" ["_law_source", "_law_some"] spOne)
    (C_packed : Cal P w K mg base 1 "_law_packed" ["_law_table_here", "_law_word", "_law_number"] spPacked) : FnOk P w K mg base CX0 3 f fd ["_law_source", "_law_table_here"] spWrong := by
  refine F.ok scwrong (fun vs H Q E h => ?_) (fun cdv A outer s H vs Q E hr h => ?_)
  · obtain ⟨a, d, rfl, _⟩ := h
    rfl
  · obtain ⟨a, d, rfl, hS, ht, k⟩ := h
    refine ⟨_, PSs.nox (pss_cons (ps_set (i := 2) scwrong.nd rfl (Or.inr rfl) (pe_op op_cat (pe_lock (pe_lc (own := [("_law_one_here", 8)]) (g := gName 8) (tt := tYes) rfl scwrong.nd (pi_values (pv 1)) (blkOk_by (own := [("_law_one_here", 8)]) (N := ["_law_source", "_law_table_here", "_law_numbers", "_law_number", "_law_unknown", "_law_some", "_law_word", "_law_pair", "_law_one_here"]) (sc := defScope swrong) (by decide +kernel)) (fun _ _ _ _ _ => (pg_name (i := 8) scwrong.nd rfl (Or.inl rfl))) (fun _ _ _ _ _ => pts_nil) (fun _ _ _ _ _ => (pe_ix ix_d (pv 8) pe_int (fun _ _ => rfl))))) (pe_lst (pa_cons pe_int pa_nil))))
  (pss_cons (ps_setLc (i := 4) (own := [("_law_number", 3)]) (g := gName 3) rfl scwrong.nd rfl rfl (sw_true rfl rfl rfl (by decide +kernel)) (pi_range1 rfl T.b_range (pa_cons pe_int pa_nil)) (blkOk_by (own := [("_law_number", 3)]) (N := ["_law_source", "_law_table_here", "_law_numbers", "_law_number", "_law_unknown", "_law_some", "_law_word", "_law_pair", "_law_one_here"]) (sc := defScope swrong) (by decide +kernel)) (fun _ _ _ _ _ => (pg_name (i := 3) scwrong.nd rfl (Or.inl rfl))) (fun _ _ _ _ _ => (pts_one (pt_cmpR (show OpR _ _ (rIn K true) from op_notIn_seq) (pv 3) (pv 2) (by rfl)))) (fun _ _ _ _ _ => (pv 3)))
  (pss_cons (ps_set (i := 5) scwrong.nd rfl (Or.inl rfl) (pe_lst (pa_cons (pe_lst (pa_cons (pe_cal C_one (hr.mono (by decide)) rfl (pa_cons (pv 0) (pa_cons (pv 4) pa_nil))) (pa_cons (pe_cal C_next (hr.mono (by decide)) rfl (pa_cons (pv 0) (pa_cons pe_int pa_nil))) pa_nil))) (pa_cons (pe_lst (pa_cons pe_int (pa_cons pe_int pa_nil))) (pa_cons (pe_lst (pa_cons pe_int (pa_cons pe_int (pa_cons pe_int (pa_cons pe_int pa_nil))))) (pa_cons (pe_op op_cat (pe_op op_rep (pe_lst (pa_cons pe_int (pa_cons pe_int pa_nil))) pe_int) (pe_lst (pa_cons pe_int (pa_cons pe_int pa_nil)))) pa_nil))))))
  (pss_cons (ps_set (i := 5) scwrong.nd rfl (Or.inl rfl) (pe_op op_cat (pv 5) (pe_lst (pa_cons (pe_lst (pa_cons pe_int (pa_cons pe_int (pa_cons pe_int (pa_cons pe_int pa_nil))))) (pa_cons (pe_lst (pa_cons pe_int (pa_cons pe_int (pa_cons pe_int (pa_cons pe_int pa_nil))))) (pa_cons (pe_lst (pa_cons pe_int (pa_cons pe_int (pa_cons pe_int (pa_cons pe_int pa_nil))))) (pa_cons (pe_lst (pa_cons pe_int (pa_cons pe_int (pa_cons pe_int (pa_cons pe_int pa_nil))))) (pa_cons (pe_lst (pa_cons pe_int (pa_cons pe_int (pa_cons pe_int (pa_cons pe_int (pa_cons pe_int (pa_cons pe_int pa_nil))))))) pa_nil))))))))
  (pss_cons (ps_set (i := 5) scwrong.nd rfl (Or.inl rfl) (pe_op op_cat (pv 5) (pe_lst (pa_cons (pe_op op_cat (pe_op op_cat (pe_lst (pa_cons pe_int (pa_cons pe_int pa_nil))) (pe_op op_rep (pe_lst (pa_cons pe_int pa_nil)) pe_int)) (pe_lst (pa_cons pe_int pa_nil))) pa_nil))))
  (pss_cons (ps_asg (pe_cal C_one (hr.mono (by decide)) rfl (pa_cons (pv 0) (pa_cons (pe_lst (pa_cons (pe_tup (pa_cons pe_str (pa_cons pe_int pa_nil))) (pa_cons (pe_tup (pa_cons pe_str (pa_cons pe_int pa_nil))) (pa_cons (pe_tup (pa_cons pe_str (pa_cons pe_int pa_nil))) (pa_cons (pe_tup (pa_cons pe_str (pa_cons pe_int pa_nil))) pa_nil))))) pa_nil))) (pg_tupD (n := 2) rfl (pgs_cons (pg_name (i := 6) scwrong.nd rfl (Or.inl rfl)) (pgs_cons (pg_name (i := 3) scwrong.nd rfl (Or.inl rfl)) pgs_nil))))
  (pss_cons (ps_set (i := 5) scwrong.nd rfl (Or.inl rfl) (pe_op op_cat (pv 5) (pe_lst (pa_cons (pe_cal C_packed (hr.mono (by decide)) rfl (pa_cons (pv 1) (pa_cons (pv 6) (pa_cons (pe_op op_add (pv 3) (pe_cal C_next (hr.mono (by decide)) rfl (pa_cons (pv 0) (pa_cons pe_int pa_nil)))) pa_nil)))) pa_nil))))
  (pss_cons (ps_asg (pe_cal C_one (hr.mono (by decide)) rfl (pa_cons (pv 0) (pa_cons (pe_lst (pa_cons (pe_tup (pa_cons pe_str (pa_cons pe_int pa_nil))) (pa_cons (pe_tup (pa_cons pe_str (pa_cons pe_int pa_nil))) (pa_cons (pe_tup (pa_cons pe_str (pa_cons pe_int pa_nil))) (pa_cons (pe_tup (pa_cons pe_str (pa_cons pe_int pa_nil))) pa_nil))))) pa_nil))) (pg_tupD (n := 2) rfl (pgs_cons (pg_name (i := 6) scwrong.nd rfl (Or.inl rfl)) (pgs_cons (pg_name (i := 3) scwrong.nd rfl (Or.inl rfl)) pgs_nil))))
  (pss_cons (ps_set (i := 5) scwrong.nd rfl (Or.inl rfl) (pe_op op_cat (pv 5) (pe_lst (pa_cons (pe_cal C_packed (hr.mono (by decide)) rfl (pa_cons (pv 1) (pa_cons (pv 6) (pa_cons (pv 3) pa_nil)))) pa_nil))))
  (pss_cons (ps_set (i := 7) scwrong.nd rfl (Or.inl rfl) (pe_cal C_one (hr.mono (by decide)) rfl (pa_cons (pv 0) (pa_cons (pe_lst (pa_cons pe_int (pa_cons pe_int (pa_cons pe_int (pa_cons pe_int (pa_cons pe_int pa_nil)))))) pa_nil))))
  (pss_one (ps_ret (pe_cal C_one (hr.mono (by decide)) rfl (pa_cons (pv 0) (pa_cons (pe_op op_cat (pv 5) (pe_op op_rep (pe_lst (pa_cons (pe_cal C_packed (hr.mono (by decide)) rfl (pa_cons (pv 1) (pa_cons pe_str (pa_cons (pv 7) pa_nil)))) pa_nil)) pe_int)) pa_nil))))))))))))))), ?_⟩
    have goal : t_wrong K { nx := fun _ H' => Q .non H', rt := Q } [some (.ref a), some (.ref d), none, none, none, none, none, none, none] H := by
      unfold t_wrong
      refine nums_run ht fun N H1 s1 hN => ?_
      refine unk_run hN fun U H2 hU s2 hu => ?_
      have s12 : Same H H2 := fun b o e => s2 b o (s1 b o e)
      have S2 : Src H2 a := by obtain ⟨x, y, z, e⟩ := hS; exact ⟨x, y, z, s12 _ _ e⟩
      have ht2 := ht.same s12
      have S1 : Src H1 a := by obtain ⟨x, y, z, e⟩ := hS; exact ⟨x, y, z, s1 _ _ e⟩
      have Ua : U ≠ a := S1.ne hU
      refine first_run (n := 4) (ab_cons (eb_unk rfl rfl Ua hu) (ab_cons (eb_ns (ns := [0, 0]) bad_0) (ab_cons (eb_ns (ns := [71, 1, 0, 0]) bad_1) (ab_cons (eb_rep1 (xs := [71, 1]) (ys := [30, 0]) (k := 4) (by decide) (by decide) (by decide) bad_2) ab_nil)))) (by decide) S2 (Keep.refl a H2) fun p1 H3 k3 S3 b3 => ?_
      refine add_run (n := 5) rfl b3 (ab_cons (eb_ns (ns := [71, 0, 30, 0]) bad_3) (ab_cons (eb_ns (ns := [71, 1, 0, 5]) bad_4) (ab_cons (eb_ns (ns := [45, 0, 0, 1]) bad_5) (ab_cons (eb_ns (ns := [45, 0, 1, 0]) bad_6) (ab_cons (eb_ns (ns := [71, 0, 71, 1, 30, 0]) bad_7) ab_nil))))) (by decide) (by decide) S3 k3 fun p2 H4 k4 S4 b4 => ?_
      have k24 := k3.trans k4
      refine add_run (n := 1) rfl b4 (ab_cons (eb_rep2 (ws := [82, 0]) (xs := [0]) (ys := [9]) (k := 17) (by decide) (by decide) (by decide) (by decide) bad_8) ab_nil) (by decide) (by decide) S4 k24 fun p3 H5 k5 S5 b5 => ?_
      have k25 := k24.trans k5
      refine draw_run (ps := ps1) (by decide) (by decide) S5 fun p hp H6 k6 S6 => ?_
      have k26 := k25.trans k6
      refine add_run (n := 1) rfl (b5.keep k6) (ab_cons (eb_p1 hp ht2 S2) ab_nil) (by decide) (by decide) S6 k26 fun p4 H7 k7 S7 b7 => ?_
      have k27 := k26.trans k7
      refine draw_run (ps := ps2) (by decide) (by decide) S7 fun p hp H8 k8 S8 => ?_
      have k28 := k27.trans k8
      refine add_run (n := 1) rfl (b7.keep k8) (ab_cons (eb_p2 hp ht2 S2) ab_nil) (by decide) (by decide) S8 k28 fun p5 H9 k9 S9 b9 => ?_
      have k29 := k28.trans k9
      refine ⟨_, rfl, szl (by decide), fun p6 hp6 => ?_⟩
      refine ⟨a, p6, _, rfl, S9.new hp6, S9.ne hp6, upd_same, (by simp), (by simp), fun v H10 hv k10 S10 => ?_⟩
      have kA := ((Keep.refl a H9).new (o := .lst [.int 64, .int 4, .int 79, .int 1024, .int 15]) hp6).trans k10
      have k210 := k29.trans kA
      have b10 := b9.keep kA
      obtain ⟨p, hp, rfl⟩ : ∃ p ∈ ps3, v = .int (p.2 : Int) := by
        simp only [List.mem_cons, List.not_mem_nil, or_false] at hv
        rcases hv with rfl | rfl | rfl | rfl | rfl
        · exact ⟨("LOAD_FAST_LOAD_FAST", 64), by decide, rfl⟩
        · exact ⟨("LOAD_FAST_LOAD_FAST", 4), by decide, rfl⟩
        · exact ⟨("LOAD_FAST_LOAD_FAST", 79), by decide, rfl⟩
        · exact ⟨("LOAD_FAST_LOAD_FAST", 1024), by decide, rfl⟩
        · exact ⟨("LOAD_FAST_LOAD_FAST", 15), by decide, rfl⟩
      refine ⟨_, rfl, _, rfl, eb_p3 hp ht2 S2 H10 _ S10 k210 fun v H11 k11 S11 bv => ?_⟩
      refine ⟨szl (by simp), fun p7 hp7 => ⟨p7, 2, [v], rfl, rfl, upd_same, by decide, by decide, Nat.le_trans (by simp : _ ≤ 1000) (by decide), fun p8 hp8 => ?_⟩⟩
      obtain ⟨pa, us, e, l, bs⟩ := b10.keep k11
      have q8 : L2.upd (L2.upd H11 p7 (.lst [v])) p8 (.lst (List.replicate (2 : Int).toNat [v]).flatten) p5 = some (.lst us) := by
        rw [upd_ne (ne_new (by rw [upd_ne (ne_new e hp7)]; exact e) hp8), upd_ne (ne_new e hp7)]
        exact e
      refine ⟨p5, p8, us, _, rfl, rfl, q8, upd_same, Nat.le_trans (by rw [l]; simp : _ ≤ 1000) (by decide), fun p9 hp9 => ?_⟩
      have kB := (((Keep.refl a H11).new (o := .lst [v]) hp7).new (o := .lst (List.replicate (2 : Int).toNat [v]).flatten) hp8).new (o := .lst (us ++ (List.replicate (2 : Int).toNat [v]).flatten)) hp9
      have SB := ((S11.new (o := .lst [v]) hp7).new (o := .lst (List.replicate (2 : Int).toNat [v]).flatten) hp8).new (o := .lst (us ++ (List.replicate (2 : Int).toNat [v]).flatten)) hp9
      have p9a : p9 ≠ a := ((S11.new (o := .lst [v]) hp7).new (o := .lst (List.replicate (2 : Int).toNat [v]).flatten) hp8).ne hp9
      refine ⟨a, p9, _, rfl, SB, p9a, upd_same, ?_, ?_, fun z H12 hz k12 S12 => ?_⟩
      · intro z
        have := congrArg List.length z
        rw [List.length_append, l] at this
        simp at this
      · rw [List.length_append, l]
        simp
      · have kC := kB.trans k12
        have kT : Keep a H H12 := (Keep.same s12).trans ((k210.trans k11).trans kC)
        have bz : BadV a H12 z := by
          rcases List.mem_append.mp hz with hz | hz
          · exact (bs z hz).keep kC
          · have : z = v := by simpa using hz
            rw [this]
            exact bv.keep kC
        obtain ⟨q, bs', rfl, qa, hq, bb⟩ := bz
        exact k q bs' H12 bb qa kT S12 hq
    exact goal
end
end C58

set_option maxHeartbeats 1000000
namespace C58
open PySem PySem.Spec PyProof.Rows L2
/-! ### list(reversed(a tuple)) -/
theorem nolen_rt : typeLookup (.type "reversed") "__len__" = pure none := by rw [typeLookup_type, builtinLookup_eq_fast]; kernel_rfl
theorem hint_rt : typeLookup (.type "reversed") "__length_hint__" = pure (some (.builtin "reversed.__length_hint__")) := by rw [typeLookup_type, builtinLookup_eq_fast]; kernel_rfl
theorem slot_rt_hint : Slot "reversed" "__length_hint__" "reversed.__length_hint__" :=
  .of (owner := "reversed") (n := "__length_hint__") (by rw [typeLookup_type, builtinLookup_eq_fast]; kernel_rfl) (by decide +kernel) (by decide +kernel) (by decide +kernel)
    (by first | exact .inl (by decide +kernel) | exact .inr (by decide +kernel)) (by rw [isSubtype_type]; kernel_rfl)
theorem entry_rt_hint : entryFor table "reversed.__length_hint__" = some Builtin.«reversed.__length_hint__» := entryFor_of_tree (by kernel_rfl)
theorem args_rt_hint (a : Value) : argsOk "reversed.__length_hint__" ⟨[a], []⟩ := by
  unfold argsOk; rw [signature?_of (id := "reversed.__length_hint__") (n := ['_', '_', 't', 'n', 'i', 'h', '_', 'h', 't', 'g', 'n', 'e', 'l', '_', '_']) (o := ['d', 'e', 's', 'r', 'e', 'v', 'e', 'r']) (by kernel_rfl) RT.owner_rt]; kernel_rfl
theorem bind_rt_hint (self : Value) : bindSpecial (.builtin "reversed.__length_hint__") self = pure (.builtin "reversed.__length_hint__", [self]) := by
  unfold bindSpecial
  rw [show typeOf (.builtin "reversed.__length_hint__") = pure (.type "method_descriptor") from by show builtinType _ = _; rw [builtinType_eq_fast]; kernel_rfl]
  rfl
section
variable {prog : Program} {w : World} {A : Around} {E : Value → Shared → Prop} {s : Shared}
theorem rt_len {it t : Addr} {i : Int} {items : Array Value} {Q : Value → Shared → Prop} (hit : RT.IsRt s.heap it t i) (ht : IsTup s.heap t items) (hz : items.size ≤ sizeLine) (hi : i + 1 ≤ (items.size : Int))
    (h : ∀ tk u, Q (.int (i + 1) u) { s with toks := tk }) : wpAny (model prog w) A (call (.builtin "reversed.__length_hint__") [.ref it]) Q E s := by
  obtain ⟨o, ho, hc, hd⟩ := id hit
  have hn := line63
  refine wpAny_call_entry slot_rt_hint hit.typeIs entry_rt_hint ?_ (args_rt_hint _)
  unfold Builtin.«reversed.__length_hint__»
  refine wpAny_bind (wpAny_of_eq (a := Value.ref it) rfl ?_)
  try dsimp only
  refine wpAny_bind (wpAny_field ho hd (x := .ref t) rfl ?_)
  try dsimp only
  rw [if_neg (by intro h; cases h)]
  refine wpAny_bind (PyProof.Rows.len_tuple ht (by omega) ?_)
  refine wpAny_bind (wpAny_of_eq (a := some ((items.size : Nat) : Int)) rfl ?_)
  try dsimp only
  refine wpAny_bind (wpAny_field (s := { s with toks := s.toks + 1 + 1 }) ho hd (x := rawInt i) rfl ?_)
  show wpAny _ _ (if ((items.size : Nat) : Int) < i + 1 then _ else _) _ _ _
  rw [if_neg (by omega)]
  refine wpAny_bind (wpAny_mkInt (wpAny_pure ?_))
  exact ⟨_, rfl, h _ _⟩
theorem rt_hint {it t : Addr} {i : Int} {items : Array Value} {Q : Bool → Shared → Prop} (hit : RT.IsRt s.heap it t i) (ht : IsTup s.heap t items) (hz : items.size ≤ sizeLine) (hi : i + 1 ≤ (items.size : Int)) (hi0 : 0 ≤ i + 1)
    (h : ∀ tk, Q (i + 1 != 0) { s with toks := tk }) : wpAny (model prog w) A (Builtin.List.listLengthHint (.ref it)) Q E s := by
  unfold Builtin.List.listLengthHint
  refine wpAny_bind (wpAny_specialOf hit.typeIs nolen_rt ?_)
  show wpAny _ _ (specialOf (Value.ref it) (Str.ofString "__length_hint__") >>= _) _ _ _
  refine wpAny_bind (wpAny_specialOf hit.typeIs hint_rt ?_)
  generalize hid : ("reversed.__length_hint__" : String) = id0
  wp_delta
  rw [show splitId id0 = some ("reversed", "__length_hint__") from by subst hid; decide +kernel]
  refine wpAny_bind (wpAny_isInstance (b := true) hit.typeIs (by rw [isSubtype_type]; kernel_rfl) ?_)
  subst hid
  try dsimp only
  rw [if_neg (by decide), if_neg (by decide +kernel)]
  refine wpAny_bind (wpAny_rule ?_)
  rw [bind_rt_hint]
  refine wpAny_bind (wpAny_pure ?_)
  refine wpAny_bind (wpAny_attempt (rt_len hit ht hz hi fun tk u => ?_))
  refine wpAny_bind (wpAny_of_eq (a := some (i + 1)) rfl ?_)
  have f1 : Builtin.List.listFitsIndex (i + 1) = true := by
    have hn := line63
    unfold Builtin.List.listFitsIndex
    simp
    omega
  have f2 : Builtin.List.listTooLong (i + 1).toNat = false := by
    have hn := sizeLine_eq
    unfold Builtin.List.listTooLong
    simp
    omega
  show wpAny _ _ (if (!Builtin.List.listFitsIndex (i + 1)) = true then _ else _) _ _ _
  rw [f1, if_neg (by decide)]
  show wpAny _ _ (if (i + 1 : Int) < 0 then _ else _) _ _ _
  rw [if_neg (by omega)]
  show wpAny _ _ (if Builtin.List.listTooLong (i + 1).toNat = true then _ else _) _ _ _
  rw [f2, if_neg (by decide)]
  exact wpAny_pure (h _)
end
section
variable {prog : Program} {w : World} {A : Around} {s : Shared} {R : Result → Shared → Prop}
theorem walks_rt {prog : Program} {w : World} {A : Around} (hh : A.handled = none) (I t : Addr) (hne : t ≠ I) (items : Array Value) (hz : items.size ≤ sizeLine) :
    Walks prog w A I [I, t] [I] items.size (fun i v => items[items.size - 1 - i]? = some v) (fun i h => i ≤ items.size ∧ RT.IsRt h I t ((items.size : Int) - 1 - (i : Int)) ∧ IsTup h t items) where
  sub := fun b hb => by simp at hb; simp [hb]
  frame := fun _ _ _ x hk => ⟨x.1, x.2.1.at fun o e => hk I (by simp) o e, let ⟨o, ho, r⟩ := x.2.2; ⟨o, hk t (by simp) o ho, r⟩⟩
  item := fun i s Q E hi x hQ => by
    have e : (items.size : Int) - 1 - (i : Int) = ((items.size - 1 - i : Nat) : Int) := by omega
    have hit := x.2.1
    rw [e] at hit
    have hx : items[items.size - 1 - i]? = some (items[items.size - 1 - i]'(by omega)) := Array.getElem?_eq_getElem (by omega)
    refine RT.next_rt_item hit x.2.2 hx hz fun h' hit' hs' => ?_
    have e2 : ((items.size - 1 - i : Nat) : Int) - 1 = (items.size : Int) - 1 - ((i + 1 : Nat) : Int) := by omega
    rw [e2] at hit'
    exact hQ _ h' (s.toks + 1) hx ⟨hi, hit', let ⟨o, ho, r⟩ := x.2.2; ⟨o, (hs'.2 t hne).trans ho, r⟩⟩ fun b o hb eo => hs'.extBut b o (fun h => hb (by simp [h])) eo
  done := fun s Q E x hQ => by
    have e : (items.size : Int) - 1 - (items.size : Int) = -1 := by omega
    have hit := x.2.1
    rw [e] at hit
    exact RT.next_rt_end hh hit fun h' he' => hQ h' s.toks fun b o hb eo => he' b o (fun h => hb (by simp [h])) eo
  self := fun _ _ _ _ x hQ => RT.iter_rt x.2.1 hQ
theorem extend_rt {I t : Addr} {items : Array Value} (hh : A.handled = none) (hne : t ≠ I) (hz : items.size ≤ sizeLine) (S : Addr) (res : Value) (c₀ : Nat) (hit : RT.IsRt s.heap I t ((items.size : Int) - 1)) (ht : IsTup s.heap t items) (hSI : S ≠ I) (hSt : S ≠ t)
    (hS : s.heap.get? S = some { cls := .type "list", data := .seq #[] c₀ })
    (hR : ∀ s' acc' c', (∃ tk, s' = { s with heap := s'.heap, toks := tk }) → (∀ b o, b ≠ S → b ≠ I → s.heap.get? b = some o → s'.heap.get? b = some o) → s'.heap.get? S = some { cls := .type "list", dict := none, data := .seq acc' c', slots := #[] } →
      ItemsOf (fun i v => items[items.size - 1 - i]? = some v) acc' items.size → R (.ok (.ret res)) s') :
    wpAny (model prog w) A.in1 (Builtin.List.listExtendWith (.ref S) (.ref I) res)
      (fun fin s' => match fin with | .done f => R (.ok f) s' | .again c' => c'.quiet = true ∧ codeAny (model prog w) A c' R s') (fun e s' => R (.error e) s') s := by
  have W := (walks_rt (prog := prog) (w := w) (A := A.in1) hh I t hne items hz).toS
  have hSf : S ∉ [I, t] := by simp only [List.mem_cons, List.not_mem_nil, or_false, not_or]; exact ⟨hSI, hSt⟩
  unfold Builtin.List.listExtendWith
  refine wpAny_bind (wpAny_typeOf hit.typeIs ?_)
  have h1 : Builtin.List.listSameRef (.ref S) (.ref I) = false := by simp [Builtin.List.listSameRef, hSI]
  have h2 : (Value.type "reversed" == Value.type "list") = false := by decide
  have h3 : (Value.type "reversed" == Value.type "tuple") = false := by decide
  simp only [h1, h2, h3, Bool.or_false, Bool.false_eq_true, if_false]
  refine wpAny_bind (RT.iter_rt hit ?_)
  refine wpAny_bind (wpAny_holding ?_)
  refine rt_hint hit ht hz (by omega) (by omega) fun tk => ?_
  have e0 : ((items.size : Nat) : Int) - 1 - ((0 : Nat) : Int) = (items.size : Int) - 1 := by omega
  by_cases h0 : items.size = 0
  · rw [show ((items.size : Int) - 1 + 1 != 0) = false from by simp [h0]]
    rw [if_neg (by decide +kernel)]
    refine wpAny_pure ⟨plainId_quiet F.plain_extend_loop _, codeAny_extend_loopS W hz _ hSf _ items.size 0 _ _ _ rfl (Nat.zero_le _) ⟨Nat.zero_le _, by rw [e0]; exact hit, ht⟩ hS (ItemsOf.nil _) fun s' acc' c' hm hS' hacc => ?_⟩
    exact hR s' acc' c' (by have e := Moved.eq_with hm; exact ⟨_, e⟩) (fun b o h1 h2 e => hm.heap b o (by simp [h1, h2]) e) hS' hacc
  · rw [show ((items.size : Int) - 1 + 1 != 0) = true from by rw [bne_iff_ne]; omega]
    rw [if_pos (by decide +kernel)]
    refine wpAny_bind (wpAny_rule ?_)
    refine wpAny_bind ?_
    show wpAny _ A.in1 (updateSeq S (·.push .none) >>= fun _ => updateSeq S (·.pop)) _ _ _
    refine wpAny_bind (wpAny_updateSeq hS rfl ?_)
    have hS₂ := Heap.get?_update_self (Obj.mapSeq (·.push Value.none)) hS rfl
    refine wpAny_updateSeq (hz := by seq_fits) hS₂ rfl ?_
    have hS₃ := Heap.get?_update_self (Obj.mapSeq (·.pop)) hS₂ rfl
    have oth : ∀ b o, b ≠ S → s.heap.get? b = some o → ((s.heap.update S (Obj.mapSeq (·.push Value.none))).update S (Obj.mapSeq (·.pop))).get? b = some o :=
      fun b o hb e => (Heap.get?_update_other _ _ (Ne.symm hb)).trans ((Heap.get?_update_other _ _ (Ne.symm hb)).trans e)
    refine wpAny_pure ⟨plainId_quiet F.plain_extend_loop _, codeAny_extend_loopS W hz _ hSf _ items.size 0 _ _ _ rfl (Nat.zero_le _)
      ⟨Nat.zero_le _, by rw [e0]; exact hit.at fun o e => oth I o (Ne.symm hSI) e, let ⟨o, ho, r⟩ := ht; ⟨o, oth t o (Ne.symm hSt) ho, r⟩⟩ hS₃ (ItemsOf.nil _) fun s' acc' c' hm hS' hacc => ?_⟩
    exact hR s' acc' c' (by have e := Moved.eq_with hm; exact ⟨_, e⟩) (fun b o h1 h2 e => hm.heap b o (by simp [h1, h2]) (oth b o h1 e)) hS' hacc
theorem init_rt {I t : Addr} {items : Array Value} (hh : A.handled = none) (hne : t ≠ I) (hz : items.size ≤ sizeLine) (S : Addr) (hit : RT.IsRt s.heap I t ((items.size : Int) - 1)) (ht : IsTup s.heap t items) (hSI : S ≠ I) (hSt : S ≠ t)
    (hS : s.heap.get? S = some { cls := .type "list", data := .seq #[] })
    (hR : ∀ s' acc' c', (∃ tk, s' = { s with heap := s'.heap, toks := tk }) → (∀ b o, b ≠ S → b ≠ I → s.heap.get? b = some o → s'.heap.get? b = some o) → s'.heap.get? S = some { cls := .type "list", dict := none, data := .seq acc' c', slots := #[] } →
      ItemsOf (fun i v => items[items.size - 1 - i]? = some v) acc' items.size → R (.ok (.ret .none)) s') :
    wpAny (model prog w) A.in1 (Builtin.«list.__init__» ⟨[.ref S, .ref I], []⟩)
      (fun fin s' => match fin with | .done f => R (.ok f) s' | .again c' => c'.quiet = true ∧ codeAny (model prog w) A c' R s') (fun e s' => R (.error e) s') s := by
  show wpAny _ A.in1 (do let old ← Builtin.List.listItems (.ref S); Builtin.List.listUpdate (.ref S) (fun _ => #[]); letGo old.toList.reverse; Builtin.List.listExtendWith (.ref S) (.ref I) .none) _ _ s
  refine wpAny_bind ?_
  unfold Builtin.List.listItems
  refine wpAny_bind (wpAny_seqItems hS rfl (wpAny_pure ?_))
  show wpAny _ A.in1 (updateSeq S (fun _ => #[]) >>= fun _ => letGo (#[] : Array Value).toList.reverse >>= fun _ => Builtin.List.listExtendWith (.ref S) (.ref I) .none) _ _ s
  refine wpAny_bind (wpAny_updateSeq hS rfl ?_)
  have hS₂ := Heap.get?_update_self (Obj.mapSeq (fun _ => (#[] : Array Value))) hS rfl
  have oth : ∀ b o, b ≠ S → s.heap.get? b = some o → (s.heap.update S (Obj.mapSeq (fun _ => (#[] : Array Value)))).get? b = some o :=
    fun b o hb e => (Heap.get?_update_other _ _ (Ne.symm hb)).trans e
  refine wpAny_bind (wpAny_letGo ?_)
  refine extend_rt (s := { s with heap := s.heap.update S (Obj.mapSeq (fun _ => (#[] : Array Value))) }) hh hne hz S .none _ (hit.at fun o e => oth I o (Ne.symm hSI) e) (let ⟨o, ho, r⟩ := ht; ⟨o, oth t o (Ne.symm hSt) ho, r⟩) hSI hSt hS₂ fun s' acc' c' ⟨tk, es⟩ hk hS' hacc => ?_
  exact hR s' acc' c' ⟨tk, es⟩ (fun b o h1 h2 e => hk b o h1 h2 (oth b o h1 e)) hS' hacc
end
section
variable {prog : Program} {w : World} {A : Around} {E : Value → Shared → Prop} {s : Shared}
theorem call_list_rt {I t : Addr} {items : Array Value} {Q : Value → Shared → Prop} (hh : A.handled = none) (hne : t ≠ I) (hz : items.size ≤ sizeLine) (hit : RT.IsRt s.heap I t ((items.size : Int) - 1)) (ht : IsTup s.heap t items)
    (hQ : ∀ (h' : Heap) (tk : Nat) (acc : Array Value) (c : Nat), (∀ b o, b ≠ I → s.heap.get? b = some o → h'.get? b = some o) → h'.get? s.heap.objs.size = some { cls := .type "list", dict := none, data := .seq acc c, slots := #[] } →
      ItemsOf (fun i v => items[items.size - 1 - i]? = some v) acc items.size → Q (.ref s.heap.objs.size) { s with heap := h', toks := tk }) :
    wpAny (model prog w) A (call (.type "list") [.ref I]) Q E s := by
  obtain ⟨oi, hoi, _⟩ := id hit
  obtain ⟨ot, hot, _⟩ := id ht
  have hSI : s.heap.objs.size ≠ I := Nat.ne_of_gt (Heap.lt_size hoi)
  have hSt : s.heap.objs.size ≠ t := Nat.ne_of_gt (Heap.lt_size hot)
  refine callType_codes (Q₁ := fun obj s₁ => obj = .ref s.heap.objs.size ∧ s₁ = { s with heap := s.heap.push { cls := .type "list", data := .seq #[] } }) F.called_list (F.typeCall_list_1 _) F.entry_list_init
    (code_list_new _ ⟨rfl, rfl⟩) fun obj s₁ h₁ => ?_
  obtain ⟨rfl, rfl⟩ := h₁
  have hS : (s.heap.push { cls := .type "list", data := .seq #[] }).get? s.heap.objs.size = some { cls := .type "list", data := .seq #[] } := Heap.get?_push_size _ rfl
  refine ⟨⟨_, hS, rfl⟩, F.args_list_init_2 _ _, init_rt (A := A.in1) (s := { s with heap := s.heap.push { cls := .type "list", data := .seq #[] } }) hh hne hz _ (hit.at fun o e => Heap.get?_push_of_some _ e) (let ⟨o, ho, r⟩ := ht; ⟨o, Heap.get?_push_of_some _ ho, r⟩) hSI hSt hS fun s' acc' c' ⟨tk, es⟩ hk hS' hacc => ?_⟩
  have q := hQ s'.heap tk acc' c' (fun b o hb e => hk b o (Nat.ne_of_lt (Heap.lt_size e)) hb (Heap.get?_push_of_some _ e)) hS' hacc
  rw [es]
  exact ⟨rfl, q⟩
end
section
variable {X : Cx}
/-- list(reversed(x)), x a tuple: a new list -/
def tListRev (te : TE) : TE := fun σ H Q => te σ H fun v H1 => ∃ (a : Addr) (xs : List V), v = .ref a ∧ H1 a = some (.tup xs) ∧ ∀ q, H1 q = none → Q (.ref q) (L2.upd H1 q (.lst xs.reverse))
theorem pe_listRevT {e : Expr} {te : TE} {p p2 pos pos2 : Pos} (hc : X.calm = true) (hg : Gl X "list") (hm : X.mg "list" = none) (hg2 : Gl X "reversed") (hm2 : X.mg "reversed" = none) (he : PE X e te)
    (hs : starEach [e] X.env = (false, eval e X.env) :: starEach [] X.env := by rfl)
    (hs2 : starEach [.Call (.Name "reversed" p2) [e] [] pos2] X.env = (false, eval (.Call (.Name "reversed" p2) [e] [] pos2) X.env) :: starEach [] X.env := by rfl) :
    PE X (.Call (.Name "list" p) [.Call (.Name "reversed" p2) [e] [] pos2] [] pos) (tListRev te) := by
  refine ⟨fun pins s σ H Q I h => ?_⟩
  refine Call_ (ld_blt I hg hm boot_list (PyProof.Rows.callWith_type1 (args_cons (Call_ (ld_blt I hg2 hm2 PyProof.Rows.boot_reversed (PyProof.Rows.callWith_type1 (args_cons (thn (he.run pins s σ H _ I h) fun u s1 ⟨v, H1, I1, r1, q1⟩ => args_nil ?_) hs) hs rfl))) hs2) hs2 rfl))
  obtain ⟨a, xs, ev, hq, q⟩ := q1
  subst ev
  obtain rfl : u = Value.ref a := r1
  obtain ⟨its, rv, p', hz⟩ := I1.tuple (SqT.of hq)
  have hl := rv.length
  have hn := line63
  have hz' : its.toArray.size ≤ sizeLine := by rw [List.size_toArray, ← hl]; exact hz
  refine RT.call_reversed_tup p' (fun A E Q k => PyProof.Rows.len_tuple p' (by omega) k) (args_nil ?_)
  have hit : RT.IsRt (s1.heap.push (RT.rtObj a ((its.toArray.size : Int) - 1))) s1.heap.objs.size a ((its.toArray.size : Int) - 1) := ⟨_, Heap.get?_push_size _ rfl, rfl, rfl⟩
  have pt : IsTup (s1.heap.push (RT.rtObj a ((its.toArray.size : Int) - 1))) a its.toArray := let ⟨o, ho, r⟩ := p'; ⟨o, Heap.get?_push_of_some _ ho, r⟩
  have hne : a ≠ s1.heap.objs.size := Nat.ne_of_lt p'.lt
  refine call_list_rt (s := { s1 with heap := s1.heap.push (RT.rtObj a ((its.toArray.size : Int) - 1)), toks := s1.toks + 1 + 1 }) (I1.ok.hd hc) hne hz' hit pt fun h' tk acc c hk hS hi => ?_
  have sz : (s1.heap.push (RT.rtObj a ((its.toArray.size : Int) - 1))).objs.size = s1.heap.objs.size + 1 := by simp [Heap.push]
  have hle : s1.heap.objs.size ≤ (s1.heap.push (RT.rtObj a ((its.toArray.size : Int) - 1))).objs.size := by rw [sz]; exact Nat.le_succ _
  have I3 := I1.laid (t' := tk) (h' := h') (a := (s1.heap.push (RT.rtObj a ((its.toArray.size : Int) - 1))).objs.size) (o := .lst xs.reverse) (fun b o e => hk b o (Nat.ne_of_lt (Heap.lt_size e)) (Heap.get?_push_of_some _ e)) hle
    (show ObjOk X.prog X.w _ h' _ (.lst xs.reverse) from ⟨by rw [List.length_reverse]; exact hz, acc.toList, c, RT.vals_rev rv hi, by rw [Array.toArray_toList]; exact hS⟩)
  exact ⟨.ref _, _, I3, rfl, q _ (I1.hok.fresh hle)⟩
end

/-! ### texts: isascii, isprintable, encode; a number in bytes -/
section
variable {X : Cx}
theorem mt_isascii : MtR X "str.isascii" (fun x xs H Q => ∃ a, x = .str a ∧ xs = [] ∧ True ∧ Q (.bl (Txt.isascii a)) H) :=
  mt0 (C := fun _ => True) (g := fun a => .bl (Txt.isascii a)) fun _ _ s _ _ h => PySem.SC.isascii (h _ s.toks rfl)
theorem mt_isprintable : MtR X "str.isprintable" (fun x xs H Q => ∃ a, x = .str a ∧ xs = [] ∧ True ∧ Q (.bl (Txt.isprintable a)) H) :=
  mt0 (C := fun _ => True) (g := fun a => .bl (Txt.isprintable a)) fun _ _ s _ _ h => PySem.SC.isprintable (h _ s.toks rfl)
theorem mt_encode : MtR X "str.encode" (fun x xs H Q => ∃ a, x = .str a ∧ xs = [] ∧ PySem.W.KSb.Asc a ∧ a.length ≤ 16777216 ∧ ∀ c, PySem.W.KBw.bInts c = PySem.W.KSb.codes a → Q (.byt c) H) := by
  intro pins s σ H x xs v us Q I rx rs h
  obtain ⟨a, rfl, rfl, h1, h2, h⟩ := h
  obtain ⟨t, rfl⟩ := rx
  cases rs
  exact PySem.W.KSb.encode_K h1 h2 fun c t' k e _ _ => ⟨.byt c, H, I.tok k, ⟨_, rfl⟩, h c e⟩
def rNotInI : R2 := fun x y H Q => ∃ (n : Int) (b : Array UInt8), x = .int n ∧ y = .byt b ∧ 0 ≤ n ∧ n < 256 ∧ Q (.bl (!(PySem.W.KBw.bInts b).contains n)) H
theorem op_notInI : OpR X (compareOp .NotIn) rNotInI := by
  intro pins s σ H x y v u Q I rx ry h
  obtain ⟨n, b, rfl, rfl, h0, h1, q⟩ := h
  obtain ⟨t, rfl⟩ := rx
  obtain ⟨t', rfl⟩ := ry
  exact PySem.W.KBi.notIn_K rfl h0 h1 ⟨.bl _, H, I, rfl, q⟩
theorem pe_isascii {o : Expr} {to : TE} {apos pos : Pos} (ho : PE X o to) (hbase : attributeBase o "isascii" X.env (eval o X.env) = eval o X.env := by rfl) (hline : (apos.endLine == pos.line) = true := by rfl) :
    PE X (.Call (.Attribute o "isascii" apos) [] [] pos) (tM0 (fun x xs H Q => ∃ a, x = .str a ∧ xs = [] ∧ True ∧ Q (.bl (Txt.isascii a)) H) to) := pe_m0 F.slot_str_isascii F.type_str_isascii mt_isascii ho hbase hline
theorem pe_isprintable {o : Expr} {to : TE} {apos pos : Pos} (ho : PE X o to) (hbase : attributeBase o "isprintable" X.env (eval o X.env) = eval o X.env := by rfl) (hline : (apos.endLine == pos.line) = true := by rfl) :
    PE X (.Call (.Attribute o "isprintable" apos) [] [] pos) (tM0 (fun x xs H Q => ∃ a, x = .str a ∧ xs = [] ∧ True ∧ Q (.bl (Txt.isprintable a)) H) to) := pe_m0 F.slot_str_isprintable F.type_str_isprintable mt_isprintable ho hbase hline
theorem pe_encode {o : Expr} {to : TE} {apos pos : Pos} (ho : PE X o to) (hbase : attributeBase o "encode" X.env (eval o X.env) = eval o X.env := by rfl) (hline : (apos.endLine == pos.line) = true := by rfl) :
    PE X (.Call (.Attribute o "encode" apos) [] [] pos) (tM0 (fun x xs H Q => ∃ a, x = .str a ∧ xs = [] ∧ PySem.W.KSb.Asc a ∧ a.length ≤ 16777216 ∧ ∀ c, PySem.W.KBw.bInts c = PySem.W.KSb.codes a → Q (.byt c) H) to) := pe_m0 F.slot_str_encode F.type_str_encode mt_encode ho hbase hline
theorem r_m0 {r : V → List V → Hp → VK → Prop} {to : TE} {σ : L2.St} {H : Hp} {Q : VK} : tM0 r to σ H Q = to σ H (fun x H1 => (∃ a, x = .str a) ∧ r x [] H1 Q) := rfl
theorem r_listrev {te : TE} {σ : L2.St} {H : Hp} {Q : VK} : tListRev te σ H Q = te σ H (fun v H1 => ∃ (a : Addr) (xs : List V), v = .ref a ∧ H1 a = some (.tup xs) ∧ ∀ q, H1 q = none → Q (.ref q) (L2.upd H1 q (.lst xs.reverse))) := rfl
theorem r_notInI {x y : V} {H : Hp} {Q : VK} : rNotInI x y H Q = ∃ (n : Int) (b : Array UInt8), x = .int n ∧ y = .byt b ∧ 0 ≤ n ∧ n < 256 ∧ Q (.bl (!(PySem.W.KBw.bInts b).contains n)) H := rfl

end

/-! ### x is True, x is False; isidentifier; C() of a class without an own __init__ -/
def rIsBl : R2 := fun x y H Q => ∃ c : Bool, y = .bl c ∧ Q (.bl (decide (x = .bl c))) H
section
variable {X : Cx}
theorem op_isB : OpR X (compareOp .Is) rIsBl := by
  intro pins s σ H x y v u Q I rx ry h
  obtain ⟨c, rfl, q⟩ := h
  cases (show u = Value.bool c from ry)
  have eq_ : ∀ {b : Bool}, plainIs v (.bool c) = true → (v == Value.bool c) = b → b = decide (x = .bl c) → wpAny (model X.prog X.w) X.A (compareOp .Is v (.bool c)) (EP X pins σ Q) X.xe s := fun h1 h2 h3 => by
    show wpAny _ _ ((isSame v (Value.bool c)) >>= fun z => pure (Value.bool z)) _ _ s
    refine wpAny_bind (wpAny_isSame_plain h1 (wpAny_pure ?_))
    rw [h2]
    exact ⟨.bl _, H, I, by rw [h3]; rfl, q⟩
  cases x with
  | ref a =>
    cases rx
    exact eq_ rfl rfl rfl
  | non => cases rx; exact eq_ rfl rfl rfl
  | bl b => cases rx; cases b <;> cases c <;> exact eq_ rfl rfl rfl
  | int i => obtain ⟨t, rfl⟩ := rx; exact eq_ rfl rfl rfl
  | str x => obtain ⟨t, rfl⟩ := rx; exact eq_ rfl rfl rfl
  | byt x => obtain ⟨t, rfl⟩ := rx; exact eq_ rfl rfl rfl
  | flt x => obtain ⟨t, rfl⟩ := rx; exact eq_ rfl rfl rfl
  | ty n => cases rx; exact eq_ rfl rfl rfl
theorem r_isBl {x y : V} {H : Hp} {Q : VK} : rIsBl x y H Q = ∃ c : Bool, y = .bl c ∧ Q (.bl (decide (x = .bl c))) H := rfl
theorem mt_isidentifier : MtR X "str.isidentifier" (fun x xs H Q => ∃ a, x = .str a ∧ xs = [] ∧ True ∧ Q (.bl (Txt.isidentifier a)) H) :=
  mt0 (C := fun _ => True) (g := fun a => .bl (Txt.isidentifier a)) fun _ _ s _ _ h => PySem.SC.isidentifier (h _ s.toks rfl)
theorem pe_isidentifier {o : Expr} {to : TE} {apos pos : Pos} (ho : PE X o to) (hbase : attributeBase o "isidentifier" X.env (eval o X.env) = eval o X.env := by rfl) (hline : (apos.endLine == pos.line) = true := by rfl) :
    PE X (.Call (.Attribute o "isidentifier" apos) [] [] pos) (tM0 (fun x xs H Q => ∃ a, x = .str a ∧ xs = [] ∧ True ∧ Q (.bl (Txt.isidentifier a)) H) to) := pe_m0 F.slot_str_isidentifier F.type_str_isidentifier mt_isidentifier ho hbase hline
/-- what a class without an own __init__ must have to be made -/
structure MkP (K : PySem.W.Frag) (C : Addr) : Prop where
  makes : PySem.W.makesIn K C = true
  init : PySem.W.findIn K (.ref C) "__init__" = some (some (.builtin "object.__init__"))
  kp : PySem.W.keepIn K (.ref C) = true
def tPlain (C : Addr) : TE := fun _ H Q => ∀ x dx, H x = none → H dx = none → dx ≠ x → Q (.ref x) (upd (upd H dx (.own x)) x (.ins C dx []))
theorem run_plain {C : Addr} {pins : List (Addr × Obj)} {σ : L2.St} {H : Hp} {s : Shared} {Q : VK} (M : MkP X.K C) (I : Inv X pins σ H s)
    (h : ∀ x dx, H x = none → H dx = none → dx ≠ x → Q (.ref x) (upd (upd H dx (.own x)) x (.ins C dx []))) :
    wpAny (model X.prog X.w) X.A (call (.ref C) []) (EP X pins σ Q) X.xe s := by
  have hq := h (s.heap.objs.size + 1) s.heap.objs.size (I.hok.fresh (Nat.le_succ _)) (I.hok.fresh (Nat.le_refl _)) (Nat.ne_of_lt (Nat.lt_succ_self _))
  have I2 := Inv.made (C := C) I
  refine wpAny_call (make_map0 I.kIn M.makes M.init (fun self => PySem.W.Looks.of_pure (PySem.W.oi_bind _)) ?_)
  obtain ⟨hh, g, d, t, os⟩ := s
  obtain ⟨_, _, _, ho, _⟩ := I2.hok (hh.objs.size + 1) _ upd_same
  have t1 : PySem.W.Looks (model X.prog X.w) ((hh.push PySem.W.emptyDict).push (PySem.W.instObj C hh.objs.size)) (typeOf (.ref (hh.objs.size + 1))) (.ref C) := (PySem.W.Looks.ld ho).andThen .now
  refine codeAny_call_builtin PySem.W.oi_plain PySem.W.entry_oi (@PySem.W.check_slot (model X.prog X.w) _ _ _ "object.__init__" "object" "__init__" (.ref (hh.objs.size + 1)) [] [] _ PySem.W.oi_kind PySem.W.oi_split (t1.andThen (PySem.W.makes_of (M := model X.prog X.w) I2.kIn M.makes).top) (PySem.W.oi_args _) ?_)
  rw [PySem.W.oi_run]
  exact wpAny_pure ⟨rfl, ⟨V.ref (hh.objs.size + 1), _, I2, rfl, hq⟩⟩
theorem pe_plain {C : Addr} {x : Str} {p pos : Pos} (M : MkP X.K C) (hg : Gl X x) (hm : X.mg x = some (.ref C)) (hdb : (x == ("__debug__" : Str)) = false := by decide) : PE X (.Call (.Name x p) [] [] pos) (tPlain C) := by
  refine ⟨fun pins s σ H Q I h => ?_⟩
  refine wpAny_Call_Name_kw (ld_glob I hg hm ?_ hdb)
  exact PySem.W.callWith_K0 I.kIn M.kp (run_plain M I h)
theorem r_plain {C : Addr} {σ : L2.St} {H : Hp} {Q : VK} : tPlain C σ H Q = ∀ x dx, H x = none → H dx = none → dx ≠ x → Q (.ref x) (upd (upd H dx (.own x)) x (.ins C dx [])) := rfl
end

/-- what is known of the class Known: nothing that is handed in is one -/
structure KnownT (K : PySem.W.Frag) (mg : Str → Option Value) (C : Addr) : Prop where
  cI : ClsI K C
  g_Known : mg "Known" = some (.ref C)
  no : PySem.W.kitOne K (.type "list") (.ref C) = some false
def spNumberOf : Sp := fun vs H Q _ => ∃ (n : Int) (f : Str), vs = [.int n, .str f] ∧ 0 ≤ n ∧ n ≤ 2147483647 ∧ Q (.int n) H
def spBytesOf : Sp := fun vs H Q _ => ∃ (a : Addr) (f : Str) (ns : List Nat), vs = [.ref a, .str f] ∧ H a = some (.lst (vn ns)) ∧ (∀ n ∈ ns, n < 256) ∧ ∀ p H', H p = none → Same H H' → H' p = some (.tup (vn ns)) → Q (.ref p) H'
def OkS (z : Str) : Prop := Txt.isascii z = true ∧ Txt.isidentifier z = true
def spStringOf : Sp := fun vs H Q _ => ∃ z f : Str, vs = [.str z, .str f] ∧ OkS z ∧ Q (.str z) H
def spStringsOf : Sp := fun vs H Q _ => ∃ (a : Addr) (f : Str) (zs : List Str), vs = [.ref a, .str f] ∧ H a = some (.lst (zs.map V.str)) ∧ (∀ z ∈ zs, OkS z) ∧ ∀ p H', H p = none → Same H H' → H' p = some (.tup (zs.map V.str)) → Q (.ref p) H'
def spIsString : Sp := fun vs H Q _ => ∃ z : Str, vs = [.str z] ∧ OkS z ∧ Q (.bl true) H
def spIsConst : Sp := fun vs H Q _ => (vs = [.non] ∨ ∃ n : Int, vs = [.int n]) ∧ Q (.bl true) H
def spDepthOf : Sp := fun vs H Q _ => ∃ a : Addr, vs = [.ref a] ∧ H a = some (.lst [.non, .int 5]) ∧ ∀ H', Same H H' → Q (.int 1) H'
section
variable {P : Program} {w : World} {K : PySem.W.Frag} {mg : Str → Option Value} {base : Heap} {f : Addr} {fd : FuncData}
abbrev snumber_of : Stmt := top 15
theorem scnumber_of : FnScope ["value", "field"] ["value", "field"] (defScope snumber_of) := ⟨rfl, rfl, rfl, by decide +kernel, rfl, by decide +kernel, by decide +kernel⟩

abbrev sbytes_of : Stmt := top 16
theorem scbytes_of : FnScope ["row", "field", "value"] ["row", "field"] (defScope sbytes_of) := ⟨rfl, rfl, rfl, by decide +kernel, rfl, by decide +kernel, by decide +kernel⟩

abbrev sstring_of : Stmt := top 17
theorem scstring_of : FnScope ["value", "field"] ["value", "field"] (defScope sstring_of) := ⟨rfl, rfl, rfl, by decide +kernel, rfl, by decide +kernel, by decide +kernel⟩

abbrev sstrings_of : Stmt := top 18
theorem scstrings_of : FnScope ["row", "field", "value"] ["row", "field"] (defScope sstrings_of) := ⟨rfl, rfl, rfl, by decide +kernel, rfl, by decide +kernel, by decide +kernel⟩

abbrev sis_string : Stmt := top 19
theorem scis_string : FnScope ["value"] ["value"] (defScope sis_string) := ⟨rfl, rfl, rfl, by decide +kernel, rfl, by decide +kernel, by decide +kernel⟩

abbrev sdepth_of : Stmt := top 20
theorem scdepth_of : FnScope ["constants", "depth", "value"] ["constants"] (defScope sdepth_of) := ⟨rfl, rfl, rfl, by decide +kernel, rfl, by decide +kernel, by decide +kernel⟩

theorem ok_number_of {CC : Addr} (T : Txt mg) (I : CodeT K mg CC) (F : FnP K "number_of" "number_of" snumber_of f fd) : FnOk P w K mg base CX0 1 f fd ["value", "field"] spNumberOf := by
  refine F.ok scnumber_of (fun vs H Q E h => ?_) (fun cdv A outer s H vs Q E hr h => ?_)
  · obtain ⟨n, f, rfl, _⟩ := h
    rfl
  · obtain ⟨n, f, rfl, h0, h1, k⟩ := h
    refine ⟨_, PSs.nox (pss_cons (ps_if (PW.pt (pw_or (pt_not (pt_val (pe_callB (call_is_d I.cI) (by rfl) T.b_isinstance (by decide +kernel) (pa_cons (pv 0) (pa_cons (pe_bltn (v := .ty "int") (by rfl) T.b_int (by decide +kernel) rfl) pa_nil))))) (pw_or (pt_cmpR op_isB (pv 0) pe_bl (nomark _)) (pw_or (pt_cmpR op_isB (pv 0) pe_bl (nomark _)) (pw_or1 (pt_not (pt_chain op_le op_le pe_int (pv 0) (pe_gi T.g_GREATEST))))))))
    (pss_one ps_never)
    pss_nil)
  (pss_one (ps_ret (pv 0)))), ?_⟩
    show (_ : TS) _ [some (.int n), some (.str f)] H
    simp only [r_seq, r_next, r_brk, r_cont, r_asg, r_name, r_ret, r_retN, r_drop, r_ifs, r_never, r_var, r_c, r_op, r_un, r_if, r_tst, r_b, r_not, r_and, r_or, r_andV, r_orV, r_notV, r_nil, r_cons, r_tup, r_lst, r_cb, r_call, r_bm, r_bm0, r_sl, r_nopart, r_part, r_rev, r_gnil, r_gcons, r_gsub, r_par, r_aug, r_chain, r_I0, r_I, r_U, r_ixd, r_lend, r_tupd, r_listd, r_sld, r_app, r_ext, r_reverse, r_setl, r_cat, r_int1, r_eqS, r_neS, scal_ii, scal_bb, scal_ss, at0, at1, at2, sq_lst, sq_tup, isLst_lst, List.getElem?_cons_zero, List.getElem?_cons_succ, List.set_cons_zero, List.set_cons_succ, V.int.injEq, V.bl.injEq, V.ref.injEq, V.str.injEq, HO.lst.injEq, HO.tup.injEq, Option.some.injEq, exists_eq_left', exists_eq_left, List.cons.injEq, and_true, true_and, decide_eq_true_eq, reduceCtorEq, false_and, exists_false, or_false, false_or, exists_const, and_assoc, exists_and_left, List.append_nil, ix0, ix1, ix2, cm_mod, cdw1009, cdw2003, cdw7, cdw64, cdw2, cm104729, cm2, cm3, upd_same, List.length_cons, List.length_nil, Int.reduceLT, Int.reduceLE, Nat.reduceAdd, Nat.reduceLeDiff, Nat.reduceLT, Int.reduceToNat, r_for1, r_forL, r_forT, r_lcL, r_lc1, r_yes, r_gtupD, wipe_0, wipe_1, List.cons_append, List.nil_append, r_forS, r_ipI, ite_false, ite_true, Bool.not_true, Bool.not_false, decide_true, decide_false, r_isd, r_islt, cD_ty, cD_ref, tD_non, tD_bl, tD_int, tD_str, tD_ref, tH_lst, tH_tup, tH_dK, tH_ins, ki_self, ki_int_bool, ki_non_int, ki_str_int, ki_lt_lst, ki_lt_tup, r_fld, r_sfld, HO.ins.injEq, cx_K, h0, h1, r_isBl]
    exact k
theorem ok_is_string {CC : Addr} (T : Txt mg) (I : CodeT K mg CC) (F : FnP K "is_string" "is_string" sis_string f fd) : FnOk P w K mg base CX0 1 f fd ["value"] spIsString := by
  refine F.ok scis_string (fun vs H Q E h => ?_) (fun cdv A outer s H vs Q E hr h => ?_)
  · obtain ⟨z, rfl, _⟩ := h
    rfl
  · obtain ⟨z, rfl, ⟨e1, e2⟩, k⟩ := h
    refine ⟨_, PSs.nox (pss_cons (ps_if (PW.pt (pw_or (pt_not (pt_val (pe_callB (call_is_d I.cI) (by rfl) T.b_isinstance (by decide +kernel) (pa_cons (pv 0) (pa_cons (pe_bltn (v := .ty "str") (by rfl) T.b_str (by decide +kernel) rfl) pa_nil))))) (pw_or1 (pt_not (pt_val (pe_isascii (pv 0)))))))
    (pss_one (ps_ret pe_bl))
    pss_nil)
  (pss_one (ps_ret (pe_or (pe_isidentifier (pv 0)) (pe_one (pe_and (pe_isprintable (pv 0)) (pe_one (pe_cmpR op_notInI (pe_gi T.g_BARRED) (pe_encode (pv 0)) (by rfl))))))))), ?_⟩
    show (_ : TS) _ [some (.str z)] H
    simp only [r_seq, r_next, r_brk, r_cont, r_asg, r_name, r_ret, r_retN, r_drop, r_ifs, r_never, r_var, r_c, r_op, r_un, r_if, r_tst, r_b, r_not, r_and, r_or, r_andV, r_orV, r_notV, r_nil, r_cons, r_tup, r_lst, r_cb, r_call, r_bm, r_bm0, r_sl, r_nopart, r_part, r_rev, r_gnil, r_gcons, r_gsub, r_par, r_aug, r_chain, r_I0, r_I, r_U, r_ixd, r_lend, r_tupd, r_listd, r_sld, r_app, r_ext, r_reverse, r_setl, r_cat, r_int1, r_eqS, r_neS, scal_ii, scal_bb, scal_ss, at0, at1, at2, sq_lst, sq_tup, isLst_lst, List.getElem?_cons_zero, List.getElem?_cons_succ, List.set_cons_zero, List.set_cons_succ, V.int.injEq, V.bl.injEq, V.ref.injEq, V.str.injEq, HO.lst.injEq, HO.tup.injEq, Option.some.injEq, exists_eq_left', exists_eq_left, List.cons.injEq, and_true, true_and, decide_eq_true_eq, reduceCtorEq, false_and, exists_false, or_false, false_or, exists_const, and_assoc, exists_and_left, List.append_nil, ix0, ix1, ix2, cm_mod, cdw1009, cdw2003, cdw7, cdw64, cdw2, cm104729, cm2, cm3, upd_same, List.length_cons, List.length_nil, Int.reduceLT, Int.reduceLE, Nat.reduceAdd, Nat.reduceLeDiff, Nat.reduceLT, Int.reduceToNat, r_for1, r_forL, r_forT, r_lcL, r_lc1, r_yes, r_gtupD, wipe_0, wipe_1, List.cons_append, List.nil_append, r_forS, r_ipI, ite_false, ite_true, Bool.not_true, Bool.not_false, decide_true, decide_false, r_isd, r_islt, cD_ty, cD_ref, tD_non, tD_bl, tD_int, tD_str, tD_ref, tH_lst, tH_tup, tH_dK, tH_ins, ki_self, ki_int_bool, ki_non_int, ki_str_int, ki_lt_lst, ki_lt_tup, r_fld, r_sfld, HO.ins.injEq, cx_K, r_m0]
    rw [e1, if_neg (by decide), if_pos e2]
    exact ⟨⟨_, rfl⟩, ⟨_, rfl⟩, k⟩
theorem ok_string_of {CC : Addr} (T : Txt mg) (I : CodeT K mg CC) (F : FnP K "string_of" "string_of" sstring_of f fd) (C_is_string : Cal P w K mg base 1 "is_string" ["value"] spIsString) : FnOk P w K mg base CX0 2 f fd ["value", "field"] spStringOf := by
  refine F.ok scstring_of (fun vs H Q E h => ?_) (fun cdv A outer s H vs Q E hr h => ?_)
  · obtain ⟨z, f, rfl, _⟩ := h
    rfl
  · obtain ⟨z, f, rfl, hz, k⟩ := h
    refine ⟨_, PSs.nox (pss_cons (ps_if (pt_not (pt_val (pe_cal C_is_string (hr.mono (by decide)) rfl (pa_cons (pv 0) pa_nil))))
    (pss_one ps_never)
    pss_nil)
  (pss_one (ps_ret (pv 0)))), ?_⟩
    show (_ : TS) _ [some (.str z), some (.str f)] H
    simp only [r_seq, r_next, r_brk, r_cont, r_asg, r_name, r_ret, r_retN, r_drop, r_ifs, r_never, r_var, r_c, r_op, r_un, r_if, r_tst, r_b, r_not, r_and, r_or, r_andV, r_orV, r_notV, r_nil, r_cons, r_tup, r_lst, r_cb, r_call, r_bm, r_bm0, r_sl, r_nopart, r_part, r_rev, r_gnil, r_gcons, r_gsub, r_par, r_aug, r_chain, r_I0, r_I, r_U, r_ixd, r_lend, r_tupd, r_listd, r_sld, r_app, r_ext, r_reverse, r_setl, r_cat, r_int1, r_eqS, r_neS, scal_ii, scal_bb, scal_ss, at0, at1, at2, sq_lst, sq_tup, isLst_lst, List.getElem?_cons_zero, List.getElem?_cons_succ, List.set_cons_zero, List.set_cons_succ, V.int.injEq, V.bl.injEq, V.ref.injEq, V.str.injEq, HO.lst.injEq, HO.tup.injEq, Option.some.injEq, exists_eq_left', exists_eq_left, List.cons.injEq, and_true, true_and, decide_eq_true_eq, reduceCtorEq, false_and, exists_false, or_false, false_or, exists_const, and_assoc, exists_and_left, List.append_nil, ix0, ix1, ix2, cm_mod, cdw1009, cdw2003, cdw7, cdw64, cdw2, cm104729, cm2, cm3, upd_same, List.length_cons, List.length_nil, Int.reduceLT, Int.reduceLE, Nat.reduceAdd, Nat.reduceLeDiff, Nat.reduceLT, Int.reduceToNat, r_for1, r_forL, r_forT, r_lcL, r_lc1, r_yes, r_gtupD, wipe_0, wipe_1, List.cons_append, List.nil_append, r_forS, r_ipI, ite_false, ite_true, Bool.not_true, Bool.not_false, decide_true, decide_false, r_isd, r_islt, cD_ty, cD_ref, tD_non, tD_bl, tD_int, tD_str, tD_ref, tH_lst, tH_tup, tH_dK, tH_ins, ki_self, ki_int_bool, ki_non_int, ki_str_int, ki_lt_lst, ki_lt_tup, r_fld, r_sfld, HO.ins.injEq, cx_K]
    exact ⟨z, rfl, hz, true, rfl, k⟩
theorem ok_bytes_of {CC KC : Addr} (T : Txt mg) (I : CodeT K mg CC) (IK : KnownT K mg KC) (F : FnP K "bytes_of" "bytes_of" sbytes_of f fd) : FnOk P w K mg base CX0 1 f fd ["row", "field"] spBytesOf := by
  refine F.ok scbytes_of (fun vs H Q E h => ?_) (fun cdv A outer s H vs Q E hr h => ?_)
  · obtain ⟨a, f, ns, rfl, _⟩ := h
    rfl
  · obtain ⟨a, f, ns, rfl, ha, hb, k⟩ := h
    refine ⟨_, PSs.nox (pss_cons (ps_if (pt_val (pe_callB (call_is_d IK.cI) (by rfl) T.b_isinstance (by decide +kernel) (pa_cons (pv 0) (pa_cons (pe_glob (v := .ref _) rfl IK.g_Known rfl) pa_nil))))
    (pss_one (ps_ret (pe_callTy call_tuple_d (by rfl) T.b_tuple (by decide +kernel) (pa_cons (pe_fld (pv 0) rfl) pa_nil))))
    pss_nil)
  (pss_cons (ps_if (pt_not (pt_val (pe_callB (call_is_lt I.cI) (by rfl) T.b_isinstance (by decide +kernel) (pa_cons (pv 0) (pa_cons (pe_tup (pa_cons (pe_bltn (v := .ty "list") (by rfl) T.b_list (by decide +kernel) rfl) (pa_cons (pe_bltn (v := .ty "tuple") (by rfl) T.b_tuple (by decide +kernel) rfl) pa_nil))) pa_nil)))))
    (pss_one ps_never)
    pss_nil)
  (pss_cons (ps_for PassesOwn.never rfl (pi_list (pv 0)) (pg_name (i := 2) scbytes_of.nd rfl (Or.inl rfl))
    (pss_one (ps_if (PW.pt (pw_or (pt_not (pt_val (pe_callB (call_is_d I.cI) (by rfl) T.b_isinstance (by decide +kernel) (pa_cons (pv 2) (pa_cons (pe_bltn (v := .ty "int") (by rfl) T.b_int (by decide +kernel) rfl) pa_nil))))) (pw_or (pt_val (pe_callB (call_is_d I.cI) (by rfl) T.b_isinstance (by decide +kernel) (pa_cons (pv 2) (pa_cons (pe_bltn (v := .ty "bool") (by rfl) T.b_bool (by decide +kernel) rfl) pa_nil)))) (pw_or1 (pt_not (pt_chain op_le op_le pe_int (pv 2) pe_int))))))
    (pss_one ps_never)
    pss_nil)))
  (pss_one (ps_ret (pe_callTy call_tuple_d (by rfl) T.b_tuple (by decide +kernel) (pa_cons (pv 0) pa_nil))))))), ?_⟩
    show (_ : TS) _ [some (.ref a), some (.str f), none] H
    have nk := IK.no
    simp only [r_seq, r_next, r_brk, r_cont, r_asg, r_name, r_ret, r_retN, r_drop, r_ifs, r_never, r_var, r_c, r_op, r_un, r_if, r_tst, r_b, r_not, r_and, r_or, r_andV, r_orV, r_notV, r_nil, r_cons, r_tup, r_lst, r_cb, r_call, r_bm, r_bm0, r_sl, r_nopart, r_part, r_rev, r_gnil, r_gcons, r_gsub, r_par, r_aug, r_chain, r_I0, r_I, r_U, r_ixd, r_lend, r_tupd, r_listd, r_sld, r_app, r_ext, r_reverse, r_setl, r_cat, r_int1, r_eqS, r_neS, scal_ii, scal_bb, scal_ss, at0, at1, at2, sq_lst, sq_tup, isLst_lst, List.getElem?_cons_zero, List.getElem?_cons_succ, List.set_cons_zero, List.set_cons_succ, V.int.injEq, V.bl.injEq, V.ref.injEq, V.str.injEq, HO.lst.injEq, HO.tup.injEq, Option.some.injEq, exists_eq_left', exists_eq_left, List.cons.injEq, and_true, true_and, decide_eq_true_eq, reduceCtorEq, false_and, exists_false, or_false, false_or, exists_const, and_assoc, exists_and_left, List.append_nil, ix0, ix1, ix2, cm_mod, cdw1009, cdw2003, cdw7, cdw64, cdw2, cm104729, cm2, cm3, upd_same, List.length_cons, List.length_nil, Int.reduceLT, Int.reduceLE, Nat.reduceAdd, Nat.reduceLeDiff, Nat.reduceLT, Int.reduceToNat, r_for1, r_forL, r_forT, r_lcL, r_lc1, r_yes, r_gtupD, wipe_0, wipe_1, List.cons_append, List.nil_append, r_forS, r_ipI, ite_false, ite_true, Bool.not_true, Bool.not_false, decide_true, decide_false, r_isd, r_islt, cD_ty, cD_ref, tD_non, tD_bl, tD_int, tD_str, tD_ref, tH_lst, tH_tup, tH_dK, tH_ins, ki_self, ki_int_bool, ki_non_int, ki_str_int, ki_lt_lst, ki_lt_tup, r_fld, r_sfld, HO.ins.injEq, cx_K, ha, nk]
    refine ⟨szl (by decide), fun p hp => ?_⟩
    have pa := une (ne_new ha hp)
    have ha1 : L2.upd H p (.tup [.ty "list", .ty "tuple"]) a = some (.lst (vn ns)) := by rw [pa]; exact ha
    simp only [r_seq, r_next, r_brk, r_cont, r_asg, r_name, r_ret, r_retN, r_drop, r_ifs, r_never, r_var, r_c, r_op, r_un, r_if, r_tst, r_b, r_not, r_and, r_or, r_andV, r_orV, r_notV, r_nil, r_cons, r_tup, r_lst, r_cb, r_call, r_bm, r_bm0, r_sl, r_nopart, r_part, r_rev, r_gnil, r_gcons, r_gsub, r_par, r_aug, r_chain, r_I0, r_I, r_U, r_ixd, r_lend, r_tupd, r_listd, r_sld, r_app, r_ext, r_reverse, r_setl, r_cat, r_int1, r_eqS, r_neS, scal_ii, scal_bb, scal_ss, at0, at1, at2, sq_lst, sq_tup, isLst_lst, List.getElem?_cons_zero, List.getElem?_cons_succ, List.set_cons_zero, List.set_cons_succ, V.int.injEq, V.bl.injEq, V.ref.injEq, V.str.injEq, HO.lst.injEq, HO.tup.injEq, Option.some.injEq, exists_eq_left', exists_eq_left, List.cons.injEq, and_true, true_and, decide_eq_true_eq, reduceCtorEq, false_and, exists_false, or_false, false_or, exists_const, and_assoc, exists_and_left, List.append_nil, ix0, ix1, ix2, cm_mod, cdw1009, cdw2003, cdw7, cdw64, cdw2, cm104729, cm2, cm3, upd_same, List.length_cons, List.length_nil, Int.reduceLT, Int.reduceLE, Nat.reduceAdd, Nat.reduceLeDiff, Nat.reduceLT, Int.reduceToNat, r_for1, r_forL, r_forT, r_lcL, r_lc1, r_yes, r_gtupD, wipe_0, wipe_1, List.cons_append, List.nil_append, r_forS, r_ipI, ite_false, ite_true, Bool.not_true, Bool.not_false, decide_true, decide_false, r_isd, r_islt, cD_ty, cD_ref, tD_non, tD_bl, tD_int, tD_str, tD_ref, tH_lst, tH_tup, tH_dK, tH_ins, ki_self, ki_int_bool, ki_non_int, ki_str_int, ki_lt_lst, ki_lt_tup, r_fld, r_sfld, HO.ins.injEq, cx_K, ha1]
    refine ⟨⟨_, SqL.of ha1⟩, lp_list (xs := vn ns) (fun i σ H' => (∃ v, σ = [some (.ref a), some (.str f), v]) ∧ H' = L2.upd H p (.tup [.ty "list", .ty "tuple"])) ⟨⟨_, rfl⟩, rfl⟩ (fun i σ H' _ ⟨_, e⟩ => SqL.of (by rw [e]; exact ha1)) ?_ ?_⟩
    · rintro i x σ H' hx ⟨⟨v, rfl⟩, rfl⟩
      obtain ⟨n, hn, rfl⟩ : ∃ n ∈ ns, x = .int (n : Int) := by
        have := List.mem_of_getElem? hx
        unfold vn at this
        obtain ⟨n, hn, e⟩ := List.mem_map.mp this
        exact ⟨n, hn, e.symm⟩
      have hb1 := hb n hn
      have c1 : (0 : Int) ≤ (n : Int) := by omega
      have c2 : (n : Int) ≤ 255 := by omega
      simp only [r_seq, r_next, r_brk, r_cont, r_asg, r_name, r_ret, r_retN, r_drop, r_ifs, r_never, r_var, r_c, r_op, r_un, r_if, r_tst, r_b, r_not, r_and, r_or, r_andV, r_orV, r_notV, r_nil, r_cons, r_tup, r_lst, r_cb, r_call, r_bm, r_bm0, r_sl, r_nopart, r_part, r_rev, r_gnil, r_gcons, r_gsub, r_par, r_aug, r_chain, r_I0, r_I, r_U, r_ixd, r_lend, r_tupd, r_listd, r_sld, r_app, r_ext, r_reverse, r_setl, r_cat, r_int1, r_eqS, r_neS, scal_ii, scal_bb, scal_ss, at0, at1, at2, sq_lst, sq_tup, isLst_lst, List.getElem?_cons_zero, List.getElem?_cons_succ, List.set_cons_zero, List.set_cons_succ, V.int.injEq, V.bl.injEq, V.ref.injEq, V.str.injEq, HO.lst.injEq, HO.tup.injEq, Option.some.injEq, exists_eq_left', exists_eq_left, List.cons.injEq, and_true, true_and, decide_eq_true_eq, reduceCtorEq, false_and, exists_false, or_false, false_or, exists_const, and_assoc, exists_and_left, List.append_nil, ix0, ix1, ix2, cm_mod, cdw1009, cdw2003, cdw7, cdw64, cdw2, cm104729, cm2, cm3, upd_same, List.length_cons, List.length_nil, Int.reduceLT, Int.reduceLE, Nat.reduceAdd, Nat.reduceLeDiff, Nat.reduceLT, Int.reduceToNat, r_for1, r_forL, r_forT, r_lcL, r_lc1, r_yes, r_gtupD, wipe_0, wipe_1, List.cons_append, List.nil_append, r_forS, r_ipI, ite_false, ite_true, Bool.not_true, Bool.not_false, decide_true, decide_false, r_isd, r_islt, cD_ty, cD_ref, tD_non, tD_bl, tD_int, tD_str, tD_ref, tH_lst, tH_tup, tH_dK, tH_ins, ki_self, ki_int_bool, ki_non_int, ki_str_int, ki_lt_lst, ki_lt_tup, r_fld, r_sfld, HO.ins.injEq, cx_K, c1, c2]
      exact ⟨_, rfl⟩
    · rintro σ H' ⟨⟨v, rfl⟩, rfl⟩
      simp only [r_seq, r_next, r_brk, r_cont, r_asg, r_name, r_ret, r_retN, r_drop, r_ifs, r_never, r_var, r_c, r_op, r_un, r_if, r_tst, r_b, r_not, r_and, r_or, r_andV, r_orV, r_notV, r_nil, r_cons, r_tup, r_lst, r_cb, r_call, r_bm, r_bm0, r_sl, r_nopart, r_part, r_rev, r_gnil, r_gcons, r_gsub, r_par, r_aug, r_chain, r_I0, r_I, r_U, r_ixd, r_lend, r_tupd, r_listd, r_sld, r_app, r_ext, r_reverse, r_setl, r_cat, r_int1, r_eqS, r_neS, scal_ii, scal_bb, scal_ss, at0, at1, at2, sq_lst, sq_tup, isLst_lst, List.getElem?_cons_zero, List.getElem?_cons_succ, List.set_cons_zero, List.set_cons_succ, V.int.injEq, V.bl.injEq, V.ref.injEq, V.str.injEq, HO.lst.injEq, HO.tup.injEq, Option.some.injEq, exists_eq_left', exists_eq_left, List.cons.injEq, and_true, true_and, decide_eq_true_eq, reduceCtorEq, false_and, exists_false, or_false, false_or, exists_const, and_assoc, exists_and_left, List.append_nil, ix0, ix1, ix2, cm_mod, cdw1009, cdw2003, cdw7, cdw64, cdw2, cm104729, cm2, cm3, upd_same, List.length_cons, List.length_nil, Int.reduceLT, Int.reduceLE, Nat.reduceAdd, Nat.reduceLeDiff, Nat.reduceLT, Int.reduceToNat, r_for1, r_forL, r_forT, r_lcL, r_lc1, r_yes, r_gtupD, wipe_0, wipe_1, List.cons_append, List.nil_append, r_forS, r_ipI, ite_false, ite_true, Bool.not_true, Bool.not_false, decide_true, decide_false, r_isd, r_islt, cD_ty, cD_ref, tD_non, tD_bl, tD_int, tD_str, tD_ref, tH_lst, tH_tup, tH_dK, tH_ins, ki_self, ki_int_bool, ki_non_int, ki_str_int, ki_lt_lst, ki_lt_tup, r_fld, r_sfld, HO.ins.injEq, cx_K, ha1]
      exact fun l hl => k l _ (by rw [upd_at] at hl; split at hl; cases hl; exact hl) (Same.new' (Same.new' (Same.refl H) hp) hl) upd_same
theorem ok_strings_of {CC : Addr} (T : Txt mg) (I : CodeT K mg CC) (F : FnP K "strings_of" "strings_of" sstrings_of f fd) (C_is_string : Cal P w K mg base 1 "is_string" ["value"] spIsString) : FnOk P w K mg base CX0 2 f fd ["row", "field"] spStringsOf := by
  refine F.ok scstrings_of (fun vs H Q E h => ?_) (fun cdv A outer s H vs Q E hr h => ?_)
  · obtain ⟨a, f, zs, rfl, _⟩ := h
    rfl
  · obtain ⟨a, f, zs, rfl, ha, hz, k⟩ := h
    refine ⟨_, PSs.nox (pss_cons (ps_if (pt_not (pt_val (pe_callB (call_is_lt I.cI) (by rfl) T.b_isinstance (by decide +kernel) (pa_cons (pv 0) (pa_cons (pe_tup (pa_cons (pe_bltn (v := .ty "list") (by rfl) T.b_list (by decide +kernel) rfl) (pa_cons (pe_bltn (v := .ty "tuple") (by rfl) T.b_tuple (by decide +kernel) rfl) pa_nil))) pa_nil)))))
    (pss_one ps_never)
    pss_nil)
  (pss_cons (ps_for PassesOwn.never rfl (pi_list (pv 0)) (pg_name (i := 2) scstrings_of.nd rfl (Or.inl rfl))
    (pss_one (ps_if (pt_not (pt_val (pe_cal C_is_string (hr.mono (by decide)) rfl (pa_cons (pv 2) pa_nil))))
    (pss_one ps_never)
    pss_nil)))
  (pss_one (ps_ret (pe_callTy call_tuple_d (by rfl) T.b_tuple (by decide +kernel) (pa_cons (pv 0) pa_nil)))))), ?_⟩
    show (_ : TS) _ [some (.ref a), some (.str f), none] H
    simp only [r_seq, r_next, r_brk, r_cont, r_asg, r_name, r_ret, r_retN, r_drop, r_ifs, r_never, r_var, r_c, r_op, r_un, r_if, r_tst, r_b, r_not, r_and, r_or, r_andV, r_orV, r_notV, r_nil, r_cons, r_tup, r_lst, r_cb, r_call, r_bm, r_bm0, r_sl, r_nopart, r_part, r_rev, r_gnil, r_gcons, r_gsub, r_par, r_aug, r_chain, r_I0, r_I, r_U, r_ixd, r_lend, r_tupd, r_listd, r_sld, r_app, r_ext, r_reverse, r_setl, r_cat, r_int1, r_eqS, r_neS, scal_ii, scal_bb, scal_ss, at0, at1, at2, sq_lst, sq_tup, isLst_lst, List.getElem?_cons_zero, List.getElem?_cons_succ, List.set_cons_zero, List.set_cons_succ, V.int.injEq, V.bl.injEq, V.ref.injEq, V.str.injEq, HO.lst.injEq, HO.tup.injEq, Option.some.injEq, exists_eq_left', exists_eq_left, List.cons.injEq, and_true, true_and, decide_eq_true_eq, reduceCtorEq, false_and, exists_false, or_false, false_or, exists_const, and_assoc, exists_and_left, List.append_nil, ix0, ix1, ix2, cm_mod, cdw1009, cdw2003, cdw7, cdw64, cdw2, cm104729, cm2, cm3, upd_same, List.length_cons, List.length_nil, Int.reduceLT, Int.reduceLE, Nat.reduceAdd, Nat.reduceLeDiff, Nat.reduceLT, Int.reduceToNat, r_for1, r_forL, r_forT, r_lcL, r_lc1, r_yes, r_gtupD, wipe_0, wipe_1, List.cons_append, List.nil_append, r_forS, r_ipI, ite_false, ite_true, Bool.not_true, Bool.not_false, decide_true, decide_false, r_isd, r_islt, cD_ty, cD_ref, tD_non, tD_bl, tD_int, tD_str, tD_ref, tH_lst, tH_tup, tH_dK, tH_ins, ki_self, ki_int_bool, ki_non_int, ki_str_int, ki_lt_lst, ki_lt_tup, r_fld, r_sfld, HO.ins.injEq, cx_K, ha]
    refine ⟨szl (by decide), fun p hp => ?_⟩
    have pa := une (ne_new ha hp)
    have ha1 : L2.upd H p (.tup [.ty "list", .ty "tuple"]) a = some (.lst (zs.map V.str)) := by rw [pa]; exact ha
    simp only [r_seq, r_next, r_brk, r_cont, r_asg, r_name, r_ret, r_retN, r_drop, r_ifs, r_never, r_var, r_c, r_op, r_un, r_if, r_tst, r_b, r_not, r_and, r_or, r_andV, r_orV, r_notV, r_nil, r_cons, r_tup, r_lst, r_cb, r_call, r_bm, r_bm0, r_sl, r_nopart, r_part, r_rev, r_gnil, r_gcons, r_gsub, r_par, r_aug, r_chain, r_I0, r_I, r_U, r_ixd, r_lend, r_tupd, r_listd, r_sld, r_app, r_ext, r_reverse, r_setl, r_cat, r_int1, r_eqS, r_neS, scal_ii, scal_bb, scal_ss, at0, at1, at2, sq_lst, sq_tup, isLst_lst, List.getElem?_cons_zero, List.getElem?_cons_succ, List.set_cons_zero, List.set_cons_succ, V.int.injEq, V.bl.injEq, V.ref.injEq, V.str.injEq, HO.lst.injEq, HO.tup.injEq, Option.some.injEq, exists_eq_left', exists_eq_left, List.cons.injEq, and_true, true_and, decide_eq_true_eq, reduceCtorEq, false_and, exists_false, or_false, false_or, exists_const, and_assoc, exists_and_left, List.append_nil, ix0, ix1, ix2, cm_mod, cdw1009, cdw2003, cdw7, cdw64, cdw2, cm104729, cm2, cm3, upd_same, List.length_cons, List.length_nil, Int.reduceLT, Int.reduceLE, Nat.reduceAdd, Nat.reduceLeDiff, Nat.reduceLT, Int.reduceToNat, r_for1, r_forL, r_forT, r_lcL, r_lc1, r_yes, r_gtupD, wipe_0, wipe_1, List.cons_append, List.nil_append, r_forS, r_ipI, ite_false, ite_true, Bool.not_true, Bool.not_false, decide_true, decide_false, r_isd, r_islt, cD_ty, cD_ref, tD_non, tD_bl, tD_int, tD_str, tD_ref, tH_lst, tH_tup, tH_dK, tH_ins, ki_self, ki_int_bool, ki_non_int, ki_str_int, ki_lt_lst, ki_lt_tup, r_fld, r_sfld, HO.ins.injEq, cx_K, ha1]
    refine ⟨⟨_, SqL.of ha1⟩, lp_list (xs := zs.map V.str) (fun i σ H' => (∃ v, σ = [some (.ref a), some (.str f), v]) ∧ H' = L2.upd H p (.tup [.ty "list", .ty "tuple"])) ⟨⟨_, rfl⟩, rfl⟩ (fun i σ H' _ ⟨_, e⟩ => SqL.of (by rw [e]; exact ha1)) ?_ ?_⟩
    · rintro i x σ H' hx ⟨⟨v, rfl⟩, rfl⟩
      obtain ⟨z, hn, rfl⟩ := List.mem_map.mp (List.mem_of_getElem? hx)
      simp only [r_seq, r_next, r_brk, r_cont, r_asg, r_name, r_ret, r_retN, r_drop, r_ifs, r_never, r_var, r_c, r_op, r_un, r_if, r_tst, r_b, r_not, r_and, r_or, r_andV, r_orV, r_notV, r_nil, r_cons, r_tup, r_lst, r_cb, r_call, r_bm, r_bm0, r_sl, r_nopart, r_part, r_rev, r_gnil, r_gcons, r_gsub, r_par, r_aug, r_chain, r_I0, r_I, r_U, r_ixd, r_lend, r_tupd, r_listd, r_sld, r_app, r_ext, r_reverse, r_setl, r_cat, r_int1, r_eqS, r_neS, scal_ii, scal_bb, scal_ss, at0, at1, at2, sq_lst, sq_tup, isLst_lst, List.getElem?_cons_zero, List.getElem?_cons_succ, List.set_cons_zero, List.set_cons_succ, V.int.injEq, V.bl.injEq, V.ref.injEq, V.str.injEq, HO.lst.injEq, HO.tup.injEq, Option.some.injEq, exists_eq_left', exists_eq_left, List.cons.injEq, and_true, true_and, decide_eq_true_eq, reduceCtorEq, false_and, exists_false, or_false, false_or, exists_const, and_assoc, exists_and_left, List.append_nil, ix0, ix1, ix2, cm_mod, cdw1009, cdw2003, cdw7, cdw64, cdw2, cm104729, cm2, cm3, upd_same, List.length_cons, List.length_nil, Int.reduceLT, Int.reduceLE, Nat.reduceAdd, Nat.reduceLeDiff, Nat.reduceLT, Int.reduceToNat, r_for1, r_forL, r_forT, r_lcL, r_lc1, r_yes, r_gtupD, wipe_0, wipe_1, List.cons_append, List.nil_append, r_forS, r_ipI, ite_false, ite_true, Bool.not_true, Bool.not_false, decide_true, decide_false, r_isd, r_islt, cD_ty, cD_ref, tD_non, tD_bl, tD_int, tD_str, tD_ref, tH_lst, tH_tup, tH_dK, tH_ins, ki_self, ki_int_bool, ki_non_int, ki_str_int, ki_lt_lst, ki_lt_tup, r_fld, r_sfld, HO.ins.injEq, cx_K]
      exact ⟨z, rfl, hz z hn, true, rfl, ⟨_, rfl⟩, rfl⟩
    · rintro σ H' ⟨⟨v, rfl⟩, rfl⟩
      simp only [r_seq, r_next, r_brk, r_cont, r_asg, r_name, r_ret, r_retN, r_drop, r_ifs, r_never, r_var, r_c, r_op, r_un, r_if, r_tst, r_b, r_not, r_and, r_or, r_andV, r_orV, r_notV, r_nil, r_cons, r_tup, r_lst, r_cb, r_call, r_bm, r_bm0, r_sl, r_nopart, r_part, r_rev, r_gnil, r_gcons, r_gsub, r_par, r_aug, r_chain, r_I0, r_I, r_U, r_ixd, r_lend, r_tupd, r_listd, r_sld, r_app, r_ext, r_reverse, r_setl, r_cat, r_int1, r_eqS, r_neS, scal_ii, scal_bb, scal_ss, at0, at1, at2, sq_lst, sq_tup, isLst_lst, List.getElem?_cons_zero, List.getElem?_cons_succ, List.set_cons_zero, List.set_cons_succ, V.int.injEq, V.bl.injEq, V.ref.injEq, V.str.injEq, HO.lst.injEq, HO.tup.injEq, Option.some.injEq, exists_eq_left', exists_eq_left, List.cons.injEq, and_true, true_and, decide_eq_true_eq, reduceCtorEq, false_and, exists_false, or_false, false_or, exists_const, and_assoc, exists_and_left, List.append_nil, ix0, ix1, ix2, cm_mod, cdw1009, cdw2003, cdw7, cdw64, cdw2, cm104729, cm2, cm3, upd_same, List.length_cons, List.length_nil, Int.reduceLT, Int.reduceLE, Nat.reduceAdd, Nat.reduceLeDiff, Nat.reduceLT, Int.reduceToNat, r_for1, r_forL, r_forT, r_lcL, r_lc1, r_yes, r_gtupD, wipe_0, wipe_1, List.cons_append, List.nil_append, r_forS, r_ipI, ite_false, ite_true, Bool.not_true, Bool.not_false, decide_true, decide_false, r_isd, r_islt, cD_ty, cD_ref, tD_non, tD_bl, tD_int, tD_str, tD_ref, tH_lst, tH_tup, tH_dK, tH_ins, ki_self, ki_int_bool, ki_non_int, ki_str_int, ki_lt_lst, ki_lt_tup, r_fld, r_sfld, HO.ins.injEq, cx_K, ha1]
      exact fun l hl => k l _ (by rw [upd_at] at hl; split at hl; cases hl; exact hl) (Same.new' (Same.new' (Same.refl H) hp) hl) upd_same
abbrev sis_constant : Stmt := top 21
theorem scis_constant : FnScope ["value", "waiting", "around", "inner"] ["value"] (defScope sis_constant) := ⟨rfl, rfl, rfl, by decide +kernel, rfl, by decide +kernel, by decide +kernel⟩

theorem ok_is_constant {CC : Addr} (T : Txt mg) (I : CodeT K mg CC) (F : FnP K "is_constant" "is_constant" sis_constant f fd) : FnOk P w K mg base CX0 1 f fd ["value"] spIsConst := by
  refine F.ok scis_constant (fun vs H Q E h => ?_) (fun cdv A outer s H vs Q E hr h => ?_)
  · rcases h with ⟨rfl | ⟨n, rfl⟩, _⟩ <;> rfl
  · refine ⟨_, PSs.nox (pss_cons (ps_if (PW.pt (pw_or (pt_cmpR op_isN (pv 0) pe_non (nomark _)) (pw_or1 (pt_val (pe_callB (call_is_d I.cI) (by rfl) T.b_isinstance (by decide +kernel) (pa_cons (pv 0) (pa_cons (pe_bltn (v := .ty "int") (by rfl) T.b_int (by decide +kernel) rfl) pa_nil)))))))
    (pss_one (ps_ret pe_bl))
    pss_nil)
  pss_never), ?_⟩
    rcases h with ⟨rfl | ⟨n, rfl⟩, k⟩
    · show (_ : TS) _ [some .non, none, none, none] H
      simp only [r_seq, r_next, r_brk, r_cont, r_asg, r_name, r_ret, r_retN, r_drop, r_ifs, r_never, r_var, r_c, r_op, r_un, r_if, r_tst, r_b, r_not, r_and, r_or, r_andV, r_orV, r_notV, r_nil, r_cons, r_tup, r_lst, r_cb, r_call, r_bm, r_bm0, r_sl, r_nopart, r_part, r_rev, r_gnil, r_gcons, r_gsub, r_par, r_aug, r_chain, r_I0, r_I, r_U, r_ixd, r_lend, r_tupd, r_listd, r_sld, r_app, r_ext, r_reverse, r_setl, r_cat, r_int1, r_eqS, r_neS, scal_ii, scal_bb, scal_ss, at0, at1, at2, sq_lst, sq_tup, isLst_lst, List.getElem?_cons_zero, List.getElem?_cons_succ, List.set_cons_zero, List.set_cons_succ, V.int.injEq, V.bl.injEq, V.ref.injEq, V.str.injEq, HO.lst.injEq, HO.tup.injEq, Option.some.injEq, exists_eq_left', exists_eq_left, List.cons.injEq, and_true, true_and, decide_eq_true_eq, reduceCtorEq, false_and, exists_false, or_false, false_or, exists_const, and_assoc, exists_and_left, List.append_nil, ix0, ix1, ix2, cm_mod, cdw1009, cdw2003, cdw7, cdw64, cdw2, cm104729, cm2, cm3, upd_same, List.length_cons, List.length_nil, Int.reduceLT, Int.reduceLE, Nat.reduceAdd, Nat.reduceLeDiff, Nat.reduceLT, Int.reduceToNat, r_for1, r_forL, r_forT, r_lcL, r_lc1, r_yes, r_gtupD, wipe_0, wipe_1, List.cons_append, List.nil_append, r_forS, r_ipI, ite_false, ite_true, Bool.not_true, Bool.not_false, decide_true, decide_false, r_isd, r_islt, cD_ty, cD_ref, tD_non, tD_bl, tD_int, tD_str, tD_ref, tH_lst, tH_tup, tH_dK, tH_ins, ki_self, ki_int_bool, ki_non_int, ki_str_int, ki_lt_lst, ki_lt_tup, r_fld, r_sfld, HO.ins.injEq, cx_K]
      exact k
    · show (_ : TS) _ [some (.int n), none, none, none] H
      simp only [r_seq, r_next, r_brk, r_cont, r_asg, r_name, r_ret, r_retN, r_drop, r_ifs, r_never, r_var, r_c, r_op, r_un, r_if, r_tst, r_b, r_not, r_and, r_or, r_andV, r_orV, r_notV, r_nil, r_cons, r_tup, r_lst, r_cb, r_call, r_bm, r_bm0, r_sl, r_nopart, r_part, r_rev, r_gnil, r_gcons, r_gsub, r_par, r_aug, r_chain, r_I0, r_I, r_U, r_ixd, r_lend, r_tupd, r_listd, r_sld, r_app, r_ext, r_reverse, r_setl, r_cat, r_int1, r_eqS, r_neS, scal_ii, scal_bb, scal_ss, at0, at1, at2, sq_lst, sq_tup, isLst_lst, List.getElem?_cons_zero, List.getElem?_cons_succ, List.set_cons_zero, List.set_cons_succ, V.int.injEq, V.bl.injEq, V.ref.injEq, V.str.injEq, HO.lst.injEq, HO.tup.injEq, Option.some.injEq, exists_eq_left', exists_eq_left, List.cons.injEq, and_true, true_and, decide_eq_true_eq, reduceCtorEq, false_and, exists_false, or_false, false_or, exists_const, and_assoc, exists_and_left, List.append_nil, ix0, ix1, ix2, cm_mod, cdw1009, cdw2003, cdw7, cdw64, cdw2, cm104729, cm2, cm3, upd_same, List.length_cons, List.length_nil, Int.reduceLT, Int.reduceLE, Nat.reduceAdd, Nat.reduceLeDiff, Nat.reduceLT, Int.reduceToNat, r_for1, r_forL, r_forT, r_lcL, r_lc1, r_yes, r_gtupD, wipe_0, wipe_1, List.cons_append, List.nil_append, r_forS, r_ipI, ite_false, ite_true, Bool.not_true, Bool.not_false, decide_true, decide_false, r_isd, r_islt, cD_ty, cD_ref, tD_non, tD_bl, tD_int, tD_str, tD_ref, tH_lst, tH_tup, tH_dK, tH_ins, ki_self, ki_int_bool, ki_non_int, ki_str_int, ki_lt_lst, ki_lt_tup, r_fld, r_sfld, HO.ins.injEq, cx_K]
      exact k
theorem ok_depth_of {CC : Addr} (T : Txt mg) (I : CodeT K mg CC) (F : FnP K "depth_of" "depth_of" sdepth_of f fd) (C_is_constant : Cal P w K mg base 1 "is_constant" ["value"] spIsConst) : FnOk P w K mg base CX0 2 f fd ["constants"] spDepthOf := by
  refine F.ok scdepth_of (fun vs H Q E h => ?_) (fun cdv A outer s H vs Q E hr h => ?_)
  · obtain ⟨a, rfl, _⟩ := h
    rfl
  · obtain ⟨a, rfl, ha, k⟩ := h
    refine ⟨_, PSs.nox (pss_cons (ps_if (pt_not (pt_val (pe_callB (call_is_lt I.cI) (by rfl) T.b_isinstance (by decide +kernel) (pa_cons (pv 0) (pa_cons (pe_tup (pa_cons (pe_bltn (v := .ty "list") (by rfl) T.b_list (by decide +kernel) rfl) (pa_cons (pe_bltn (v := .ty "tuple") (by rfl) T.b_tuple (by decide +kernel) rfl) pa_nil))) pa_nil)))))
    (pss_one ps_never)
    pss_nil)
  (pss_cons (ps_set (i := 1) scdepth_of.nd rfl (Or.inl rfl) pe_int)
  (pss_cons (ps_for PassesOwn.never rfl (pi_list (pv 0)) (pg_name (i := 2) scdepth_of.nd rfl (Or.inl rfl))
    (pss_one (ps_if (pt_val (pe_callB (call_is_d I.cI) (by rfl) T.b_isinstance (by decide +kernel) (pa_cons (pv 2) (pa_cons (pe_glob (v := .ref _) rfl I.g_Code rfl) pa_nil))))
    (pss_one ps_never)
    (pss_one (ps_if (pt_not (pt_val (pe_cal C_is_constant (hr.mono (by decide)) rfl (pa_cons (pv 2) pa_nil))))
    (pss_one ps_never)
    pss_nil)))))
  (pss_cons (ps_if (pt_cmpR op_gt (pv 1) (pe_gi T.g_DEEPEST) (nomark _))
    (pss_one ps_never)
    pss_nil)
  (pss_one (ps_ret (pv 1))))))), ?_⟩
    show (_ : TS) _ [some (.ref a), none, none] H
    simp only [r_seq, r_next, r_brk, r_cont, r_asg, r_name, r_ret, r_retN, r_drop, r_ifs, r_never, r_var, r_c, r_op, r_un, r_if, r_tst, r_b, r_not, r_and, r_or, r_andV, r_orV, r_notV, r_nil, r_cons, r_tup, r_lst, r_cb, r_call, r_bm, r_bm0, r_sl, r_nopart, r_part, r_rev, r_gnil, r_gcons, r_gsub, r_par, r_aug, r_chain, r_I0, r_I, r_U, r_ixd, r_lend, r_tupd, r_listd, r_sld, r_app, r_ext, r_reverse, r_setl, r_cat, r_int1, r_eqS, r_neS, scal_ii, scal_bb, scal_ss, at0, at1, at2, sq_lst, sq_tup, isLst_lst, List.getElem?_cons_zero, List.getElem?_cons_succ, List.set_cons_zero, List.set_cons_succ, V.int.injEq, V.bl.injEq, V.ref.injEq, V.str.injEq, HO.lst.injEq, HO.tup.injEq, Option.some.injEq, exists_eq_left', exists_eq_left, List.cons.injEq, and_true, true_and, decide_eq_true_eq, reduceCtorEq, false_and, exists_false, or_false, false_or, exists_const, and_assoc, exists_and_left, List.append_nil, ix0, ix1, ix2, cm_mod, cdw1009, cdw2003, cdw7, cdw64, cdw2, cm104729, cm2, cm3, upd_same, List.length_cons, List.length_nil, Int.reduceLT, Int.reduceLE, Nat.reduceAdd, Nat.reduceLeDiff, Nat.reduceLT, Int.reduceToNat, r_for1, r_forL, r_forT, r_lcL, r_lc1, r_yes, r_gtupD, wipe_0, wipe_1, List.cons_append, List.nil_append, r_forS, r_ipI, ite_false, ite_true, Bool.not_true, Bool.not_false, decide_true, decide_false, r_isd, r_islt, cD_ty, cD_ref, tD_non, tD_bl, tD_int, tD_str, tD_ref, tH_lst, tH_tup, tH_dK, tH_ins, ki_self, ki_int_bool, ki_non_int, ki_str_int, ki_lt_lst, ki_lt_tup, r_fld, r_sfld, HO.ins.injEq, cx_K, ha]
    refine ⟨szl (by decide), fun p hp => ?_⟩
    have pa := une (ne_new ha hp)
    have ha1 : L2.upd H p (.tup [.ty "list", .ty "tuple"]) a = some (.lst [.non, .int 5]) := by rw [pa]; exact ha
    simp only [r_seq, r_next, r_brk, r_cont, r_asg, r_name, r_ret, r_retN, r_drop, r_ifs, r_never, r_var, r_c, r_op, r_un, r_if, r_tst, r_b, r_not, r_and, r_or, r_andV, r_orV, r_notV, r_nil, r_cons, r_tup, r_lst, r_cb, r_call, r_bm, r_bm0, r_sl, r_nopart, r_part, r_rev, r_gnil, r_gcons, r_gsub, r_par, r_aug, r_chain, r_I0, r_I, r_U, r_ixd, r_lend, r_tupd, r_listd, r_sld, r_app, r_ext, r_reverse, r_setl, r_cat, r_int1, r_eqS, r_neS, scal_ii, scal_bb, scal_ss, at0, at1, at2, sq_lst, sq_tup, isLst_lst, List.getElem?_cons_zero, List.getElem?_cons_succ, List.set_cons_zero, List.set_cons_succ, V.int.injEq, V.bl.injEq, V.ref.injEq, V.str.injEq, HO.lst.injEq, HO.tup.injEq, Option.some.injEq, exists_eq_left', exists_eq_left, List.cons.injEq, and_true, true_and, decide_eq_true_eq, reduceCtorEq, false_and, exists_false, or_false, false_or, exists_const, and_assoc, exists_and_left, List.append_nil, ix0, ix1, ix2, cm_mod, cdw1009, cdw2003, cdw7, cdw64, cdw2, cm104729, cm2, cm3, upd_same, List.length_cons, List.length_nil, Int.reduceLT, Int.reduceLE, Nat.reduceAdd, Nat.reduceLeDiff, Nat.reduceLT, Int.reduceToNat, r_for1, r_forL, r_forT, r_lcL, r_lc1, r_yes, r_gtupD, wipe_0, wipe_1, List.cons_append, List.nil_append, r_forS, r_ipI, ite_false, ite_true, Bool.not_true, Bool.not_false, decide_true, decide_false, r_isd, r_islt, cD_ty, cD_ref, tD_non, tD_bl, tD_int, tD_str, tD_ref, tH_lst, tH_tup, tH_dK, tH_ins, ki_self, ki_int_bool, ki_non_int, ki_str_int, ki_lt_lst, ki_lt_tup, r_fld, r_sfld, HO.ins.injEq, cx_K, ha1]
    refine ⟨⟨_, SqL.of ha1⟩, lp_list (xs := [.non, .int 5]) (fun i σ H' => (∃ v, σ = [some (.ref a), some (.int 1), v]) ∧ H' = L2.upd H p (.tup [.ty "list", .ty "tuple"])) ⟨⟨_, rfl⟩, rfl⟩ (fun i σ H' _ ⟨_, e⟩ => SqL.of (by rw [e]; exact ha1)) ?_ ?_⟩
    · rintro i x σ H' hx ⟨⟨v, rfl⟩, rfl⟩
      have n1 := I.no "NoneType" (by decide)
      have n2 := I.no "int" (by decide)
      have hx' : x = .non ∨ x = .int 5 := by
        have := List.mem_of_getElem? hx
        simpa using this
      rcases hx' with rfl | rfl
      · simp only [r_seq, r_next, r_brk, r_cont, r_asg, r_name, r_ret, r_retN, r_drop, r_ifs, r_never, r_var, r_c, r_op, r_un, r_if, r_tst, r_b, r_not, r_and, r_or, r_andV, r_orV, r_notV, r_nil, r_cons, r_tup, r_lst, r_cb, r_call, r_bm, r_bm0, r_sl, r_nopart, r_part, r_rev, r_gnil, r_gcons, r_gsub, r_par, r_aug, r_chain, r_I0, r_I, r_U, r_ixd, r_lend, r_tupd, r_listd, r_sld, r_app, r_ext, r_reverse, r_setl, r_cat, r_int1, r_eqS, r_neS, scal_ii, scal_bb, scal_ss, at0, at1, at2, sq_lst, sq_tup, isLst_lst, List.getElem?_cons_zero, List.getElem?_cons_succ, List.set_cons_zero, List.set_cons_succ, V.int.injEq, V.bl.injEq, V.ref.injEq, V.str.injEq, HO.lst.injEq, HO.tup.injEq, Option.some.injEq, exists_eq_left', exists_eq_left, List.cons.injEq, and_true, true_and, decide_eq_true_eq, reduceCtorEq, false_and, exists_false, or_false, false_or, exists_const, and_assoc, exists_and_left, List.append_nil, ix0, ix1, ix2, cm_mod, cdw1009, cdw2003, cdw7, cdw64, cdw2, cm104729, cm2, cm3, upd_same, List.length_cons, List.length_nil, Int.reduceLT, Int.reduceLE, Nat.reduceAdd, Nat.reduceLeDiff, Nat.reduceLT, Int.reduceToNat, r_for1, r_forL, r_forT, r_lcL, r_lc1, r_yes, r_gtupD, wipe_0, wipe_1, List.cons_append, List.nil_append, r_forS, r_ipI, ite_false, ite_true, Bool.not_true, Bool.not_false, decide_true, decide_false, r_isd, r_islt, cD_ty, cD_ref, tD_non, tD_bl, tD_int, tD_str, tD_ref, tH_lst, tH_tup, tH_dK, tH_ins, ki_self, ki_int_bool, ki_non_int, ki_str_int, ki_lt_lst, ki_lt_tup, r_fld, r_sfld, HO.ins.injEq, cx_K, n1]
        exact ⟨.inl rfl, true, rfl, by rw [if_neg (by decide)]; exact ⟨⟨_, rfl⟩, rfl⟩⟩
      · simp only [r_seq, r_next, r_brk, r_cont, r_asg, r_name, r_ret, r_retN, r_drop, r_ifs, r_never, r_var, r_c, r_op, r_un, r_if, r_tst, r_b, r_not, r_and, r_or, r_andV, r_orV, r_notV, r_nil, r_cons, r_tup, r_lst, r_cb, r_call, r_bm, r_bm0, r_sl, r_nopart, r_part, r_rev, r_gnil, r_gcons, r_gsub, r_par, r_aug, r_chain, r_I0, r_I, r_U, r_ixd, r_lend, r_tupd, r_listd, r_sld, r_app, r_ext, r_reverse, r_setl, r_cat, r_int1, r_eqS, r_neS, scal_ii, scal_bb, scal_ss, at0, at1, at2, sq_lst, sq_tup, isLst_lst, List.getElem?_cons_zero, List.getElem?_cons_succ, List.set_cons_zero, List.set_cons_succ, V.int.injEq, V.bl.injEq, V.ref.injEq, V.str.injEq, HO.lst.injEq, HO.tup.injEq, Option.some.injEq, exists_eq_left', exists_eq_left, List.cons.injEq, and_true, true_and, decide_eq_true_eq, reduceCtorEq, false_and, exists_false, or_false, false_or, exists_const, and_assoc, exists_and_left, List.append_nil, ix0, ix1, ix2, cm_mod, cdw1009, cdw2003, cdw7, cdw64, cdw2, cm104729, cm2, cm3, upd_same, List.length_cons, List.length_nil, Int.reduceLT, Int.reduceLE, Nat.reduceAdd, Nat.reduceLeDiff, Nat.reduceLT, Int.reduceToNat, r_for1, r_forL, r_forT, r_lcL, r_lc1, r_yes, r_gtupD, wipe_0, wipe_1, List.cons_append, List.nil_append, r_forS, r_ipI, ite_false, ite_true, Bool.not_true, Bool.not_false, decide_true, decide_false, r_isd, r_islt, cD_ty, cD_ref, tD_non, tD_bl, tD_int, tD_str, tD_ref, tH_lst, tH_tup, tH_dK, tH_ins, ki_self, ki_int_bool, ki_non_int, ki_str_int, ki_lt_lst, ki_lt_tup, r_fld, r_sfld, HO.ins.injEq, cx_K, n2]
        exact ⟨.inr ⟨5, rfl⟩, true, rfl, by rw [if_neg (by decide)]; exact ⟨⟨_, rfl⟩, rfl⟩⟩
    · rintro σ H' ⟨⟨v, rfl⟩, rfl⟩
      simp only [r_seq, r_next, r_brk, r_cont, r_asg, r_name, r_ret, r_retN, r_drop, r_ifs, r_never, r_var, r_c, r_op, r_un, r_if, r_tst, r_b, r_not, r_and, r_or, r_andV, r_orV, r_notV, r_nil, r_cons, r_tup, r_lst, r_cb, r_call, r_bm, r_bm0, r_sl, r_nopart, r_part, r_rev, r_gnil, r_gcons, r_gsub, r_par, r_aug, r_chain, r_I0, r_I, r_U, r_ixd, r_lend, r_tupd, r_listd, r_sld, r_app, r_ext, r_reverse, r_setl, r_cat, r_int1, r_eqS, r_neS, scal_ii, scal_bb, scal_ss, at0, at1, at2, sq_lst, sq_tup, isLst_lst, List.getElem?_cons_zero, List.getElem?_cons_succ, List.set_cons_zero, List.set_cons_succ, V.int.injEq, V.bl.injEq, V.ref.injEq, V.str.injEq, HO.lst.injEq, HO.tup.injEq, Option.some.injEq, exists_eq_left', exists_eq_left, List.cons.injEq, and_true, true_and, decide_eq_true_eq, reduceCtorEq, false_and, exists_false, or_false, false_or, exists_const, and_assoc, exists_and_left, List.append_nil, ix0, ix1, ix2, cm_mod, cdw1009, cdw2003, cdw7, cdw64, cdw2, cm104729, cm2, cm3, upd_same, List.length_cons, List.length_nil, Int.reduceLT, Int.reduceLE, Nat.reduceAdd, Nat.reduceLeDiff, Nat.reduceLT, Int.reduceToNat, r_for1, r_forL, r_forT, r_lcL, r_lc1, r_yes, r_gtupD, wipe_0, wipe_1, List.cons_append, List.nil_append, r_forS, r_ipI, ite_false, ite_true, Bool.not_true, Bool.not_false, decide_true, decide_false, r_isd, r_islt, cD_ty, cD_ref, tD_non, tD_bl, tD_int, tD_str, tD_ref, tH_lst, tH_tup, tH_dK, tH_ins, ki_self, ki_int_bool, ki_non_int, ki_str_int, ki_lt_lst, ki_lt_tup, r_fld, r_sfld, HO.ins.injEq, cx_K]
      exact k _ (Same.new' (Same.refl H) hp)
end
end C58

set_option maxHeartbeats 2000000
namespace C58
open PySem PySem.Spec PyProof.Rows L2
/-- a method of a class of the text -/
def inClass (s : Stmt) (j : Nat) : Stmt := match s with
  | .ClassDef _ _ _ body _ _ _ _ _ _ _ => body.getD j (.Pass ⟨0, 0, 0, 0⟩)
  | _ => .Pass ⟨0, 0, 0, 0⟩
theorem lnF {f : Str} {v : V} {fs : List (Str × V)} {n : Nat} (h : fs.length ≤ n) : (putF f v fs).length ≤ n + 1 := Nat.le_trans (length_putF f v fs) (Nat.succ_le_succ h)
/-- one statement, what follows being kept closed -/
theorem seq_intro {t u : TS} {D : Ends} {σ : L2.St} {H : Hp} (h : ∀ N : L2.St → Hp → Prop, (∀ σ' H', N σ' H' = u D σ' H') → t { D with nx := N } σ H) : tSeq t u D σ H := h _ fun _ _ => rfl
/-- an instance that is being filled: all else stays, and what is known of its fields -/
def Ini (CC c dx : Addr) (H0 : Hp) (L : List (Str × V)) (Hk : Hp) : Prop := Keep c H0 Hk ∧ ∃ fs, Hk c = some (.ins CC dx fs) ∧ fs.length ≤ L.length ∧ ∀ f v, L.lookup f = some v → fs.lookup f = some v
theorem Ini.store {CC c dx : Addr} {H0 Hk : Hp} {L fs : List (Str × V)} {f : Str} {y : V} (kk : Keep c H0 Hk) (hl : fs.length ≤ L.length) (lk : ∀ f v, L.lookup f = some v → fs.lookup f = some v) :
    Ini CC c dx H0 ((f, y) :: L) (L2.upd Hk c (.ins CC dx (putF f y fs))) := by
  refine ⟨Keep.upd kk, _, upd_same, lnF hl, fun g v h => ?_⟩
  rw [lookup_putF]
  rw [List.lookup_cons] at h
  by_cases e : g = f
  · subst e
    rw [beq_self_eq_true] at h
    rw [if_pos rfl]
    exact h
  · rw [if_neg e]
    rw [show (g == f) = false from beq_eq_false_iff_ne.mpr e] at h
    exact lk g v h
theorem Ini.same {CC c dx : Addr} {H0 Hk H' : Hp} {L : List (Str × V)} (I : Ini CC c dx H0 L Hk) (s : Same Hk H') : Ini CC c dx H0 L H' := by
  obtain ⟨kk, fs, hc, hl, lk⟩ := I
  exact ⟨kk.trans (Keep.same s), fs, s c _ hc, hl, lk⟩
section
variable {H : Hp} {Q : VK} {E : XK}
theorem r_spN {n : Int} {f : Str} : spNumberOf [.int n, .str f] H Q E = (0 ≤ n ∧ n ≤ 2147483647 ∧ Q (.int n) H) := propext ⟨fun ⟨_, _, e, h⟩ => by cases e; exact h, fun h => ⟨_, _, rfl, h⟩⟩
theorem r_spS {z f : Str} : spStringOf [.str z, .str f] H Q E = (OkS z ∧ Q (.str z) H) := propext ⟨fun ⟨_, _, e, h⟩ => by cases e; exact h, fun h => ⟨_, _, rfl, h⟩⟩
theorem r_spB {a : Addr} {f : Str} : spBytesOf [.ref a, .str f] H Q E = ∃ ns, H a = some (.lst (vn ns)) ∧ (∀ n ∈ ns, n < 256) ∧ ∀ p H', H p = none → Same H H' → H' p = some (.tup (vn ns)) → Q (.ref p) H' := propext ⟨fun ⟨_, _, ns, e, h⟩ => by cases e; exact ⟨ns, h⟩, fun ⟨ns, h⟩ => ⟨_, _, ns, rfl, h⟩⟩
theorem r_spSs {a : Addr} {f : Str} : spStringsOf [.ref a, .str f] H Q E = ∃ zs : List Str, H a = some (.lst (zs.map V.str)) ∧ (∀ z ∈ zs, OkS z) ∧ ∀ p H', H p = none → Same H H' → H' p = some (.tup (zs.map V.str)) → Q (.ref p) H' := propext ⟨fun ⟨_, _, zs, e, h⟩ => by cases e; exact ⟨zs, h⟩, fun ⟨zs, h⟩ => ⟨_, _, zs, rfl, h⟩⟩
theorem r_spD {a : Addr} : spDepthOf [.ref a] H Q E = (H a = some (.lst [.non, .int 5]) ∧ ∀ H', Same H H' → Q (.int 1) H') := propext ⟨fun ⟨_, e, h⟩ => by cases e; exact h, fun h => ⟨_, rfl, h⟩⟩
end
def kindsL : List Nat := [32, 32, 32, 32]
def spCodeInit (CC : Addr) : Sp := fun vs H Q _ => ∃ (c dx d cs nm sl kd ln gd : Addr) (ds : List Nat),
  vs = [.ref c, .int 0, .int 0, .int 1, .int 0, .ref d, .ref cs, .ref nm, .ref sl, .ref kd, .str "f", .str "f", .int 1, .ref ln, .ref gd] ∧ H c = some (.ins CC dx []) ∧
  H d = some (.lst (vn ds)) ∧ H cs = some (.lst [.non, .int 5]) ∧ H nm = some (.lst namesV) ∧ H sl = some (.lst slotsV) ∧ H kd = some (.lst (vn kindsL)) ∧ H ln = some (.lst []) ∧ H gd = some (.lst []) ∧
  (∀ n ∈ ds, n < 256) ∧ ∀ H', Keep c H H' → CodeK CC H' c ds → Q .non H'
theorem okf : OkS "f" := ⟨by decide +kernel, by decide +kernel⟩
theorem okN : ∀ z ∈ (["a", "b", "c"] : List Str), OkS z := by
  have h : (["a", "b", "c"] : List Str).all (fun z => Txt.isascii z && Txt.isidentifier z) = true := by decide +kernel
  intro z hz
  have := List.all_eq_true.mp h z hz
  simp only [Bool.and_eq_true] at this
  exact this
theorem okL : ∀ z ∈ (["p", "q", "r", "s"] : List Str), OkS z := by
  have h : (["p", "q", "r", "s"] : List Str).all (fun z => Txt.isascii z && Txt.isidentifier z) = true := by decide +kernel
  intro z hz
  have := List.all_eq_true.mp h z hz
  simp only [Bool.and_eq_true] at this
  exact this
section
variable {P : Program} {w : World} {K : PySem.W.Frag} {mg : Str → Option Value} {base : Heap} {f : Addr} {fd : FuncData}
abbrev sCode_init : Stmt := inClass (top 12) 0
theorem scCode_init : FnScope ["self", "argcount", "onlycount", "stacksize", "flags", "code", "constants", "names", "slots", "kinds", "name", "path", "line", "lines", "handlers"] ["self", "argcount", "onlycount", "stacksize", "flags", "code", "constants", "names", "slots", "kinds", "name", "path", "line", "lines", "handlers"] (defScope sCode_init) := ⟨rfl, rfl, rfl, by decide +kernel, rfl, by decide +kernel, by decide +kernel⟩

theorem ok_Code_init {CC MM : Addr} (T : Txt mg) (I : CodeT K mg CC) (F : FnP K "__init__" "Code.__init__" sCode_init f fd) (C_number_of : Cal P w K mg base 1 "number_of" ["value", "field"] spNumberOf) (C_bytes_of : Cal P w K mg base 1 "bytes_of" ["row", "field"] spBytesOf)
    (C_string_of : Cal P w K mg base 2 "string_of" ["value", "field"] spStringOf) (C_strings_of : Cal P w K mg base 2 "strings_of" ["row", "field"] spStringsOf) (C_depth_of : Cal P w K mg base 2 "depth_of" ["constants"] spDepthOf) (PM : MkP K MM) (gM : mg "Mark" = some (.ref MM)) :
    FnOk P w K mg base CX0 3 f fd ["self", "argcount", "onlycount", "stacksize", "flags", "code", "constants", "names", "slots", "kinds", "name", "path", "line", "lines", "handlers"] (spCodeInit CC) := by
  refine F.ok scCode_init (fun vs H Q E h => ?_) (fun cdv A outer s H vs Q E hr h => ?_)
  · obtain ⟨c, dx, d, cs, nm, sl, kd, ln, gd, ds, rfl, _⟩ := h
    rfl
  · obtain ⟨c, dx, d, cs, nm, sl, kd, ln, gd, ds, rfl, hc, a0, a1, a2, a3, a4, a5, a6, bd, k⟩ := h
    refine ⟨_, PSs.nox (pss_cons (ps_fld (pv 0) (pe_cal C_number_of (hr.mono (by decide)) rfl (pa_cons (pv 1) (pa_cons pe_str pa_nil))) rfl)
  (pss_cons (ps_fld (pv 0) (pe_cal C_number_of (hr.mono (by decide)) rfl (pa_cons (pv 2) (pa_cons pe_str pa_nil))) rfl)
  (pss_cons (ps_fld (pv 0) (pe_cal C_number_of (hr.mono (by decide)) rfl (pa_cons (pv 3) (pa_cons pe_str pa_nil))) rfl)
  (pss_cons (ps_fld (pv 0) (pe_cal C_number_of (hr.mono (by decide)) rfl (pa_cons (pv 4) (pa_cons pe_str pa_nil))) rfl)
  (pss_cons (ps_fld (pv 0) (pe_cal C_bytes_of (hr.mono (by decide)) rfl (pa_cons (pv 5) (pa_cons pe_str pa_nil))) rfl)
  (pss_cons (ps_fld (pv 0) (pe_cal C_depth_of (hr.mono (by decide)) rfl (pa_cons (pv 6) pa_nil)) rfl)
  (pss_cons (ps_fld (pv 0) (pe_callTy call_tuple_d (by rfl) T.b_tuple (by decide +kernel) (pa_cons (pv 6) pa_nil)) rfl)
  (pss_cons (ps_fld (pv 0) (pe_cal C_strings_of (hr.mono (by decide)) rfl (pa_cons (pv 7) (pa_cons pe_str pa_nil))) rfl)
  (pss_cons (ps_fld (pv 0) (pe_cal C_strings_of (hr.mono (by decide)) rfl (pa_cons (pv 8) (pa_cons pe_str pa_nil))) rfl)
  (pss_cons (ps_fld (pv 0) (pe_cal C_bytes_of (hr.mono (by decide)) rfl (pa_cons (pv 9) (pa_cons pe_str pa_nil))) rfl)
  (pss_cons (ps_if (pt_cmpR op_ne (pe_callB call_len_d (by rfl) T.b_len (by decide +kernel) (pa_cons (pe_fld (pv 0) rfl) pa_nil)) (pe_callB call_len_d (by rfl) T.b_len (by decide +kernel) (pa_cons (pe_fld (pv 0) rfl) pa_nil)) (nomark _))
    (pss_one ps_never)
    pss_nil)
  (pss_cons (ps_fld (pv 0) (pe_cal C_string_of (hr.mono (by decide)) rfl (pa_cons (pv 10) (pa_cons pe_str pa_nil))) rfl)
  (pss_cons (ps_fld (pv 0) (pe_cal C_string_of (hr.mono (by decide)) rfl (pa_cons (pv 11) (pa_cons pe_str pa_nil))) rfl)
  (pss_cons (ps_fld (pv 0) (pe_cal C_number_of (hr.mono (by decide)) rfl (pa_cons (pv 12) (pa_cons pe_str pa_nil))) rfl)
  (pss_cons (ps_fld (pv 0) (pe_cal C_bytes_of (hr.mono (by decide)) rfl (pa_cons (pv 13) (pa_cons pe_str pa_nil))) rfl)
  (pss_cons (ps_fld (pv 0) (pe_cal C_bytes_of (hr.mono (by decide)) rfl (pa_cons (pv 14) (pa_cons pe_str pa_nil))) rfl)
  (pss_one (ps_fld (pv 0) (pe_plain PM rfl gM) rfl)))))))))))))))))), ?_⟩
    show (_ : TS) _ [some (.ref c), some (.int 0), some (.int 0), some (.int 1), some (.int 0), some (.ref d), some (.ref cs), some (.ref nm), some (.ref sl), some (.ref kd), some (.str "f"), some (.str "f"), some (.int 1), some (.ref ln), some (.ref gd)] H
    have cl := I.cI.cl
    have of := eq_true okf
    have n0 := eq_true (I.na "argcount" (by decide))
    have n1 := eq_true (I.na "onlycount" (by decide))
    have n2 := eq_true (I.na "stacksize" (by decide))
    have n3 := eq_true (I.na "flags" (by decide))
    have n4 := eq_true (I.na "code" (by decide))
    have n5 := eq_true (I.na "depth" (by decide))
    have n6 := eq_true (I.na "constants" (by decide))
    have n7 := eq_true (I.na "names" (by decide))
    have n8 := eq_true (I.na "slots" (by decide))
    have n9 := eq_true (I.na "kinds" (by decide))
    have n10 := eq_true (I.na "name" (by decide))
    have n11 := eq_true (I.na "path" (by decide))
    have n12 := eq_true (I.na "line" (by decide))
    have n13 := eq_true (I.na "lines" (by decide))
    have n14 := eq_true (I.na "handlers" (by decide))
    have n15 := eq_true (I.na "identity" (by decide))
    have z0 : d ≠ c := by rintro rfl; rw [a0] at hc; cases hc
    have z1 : cs ≠ c := by rintro rfl; rw [a1] at hc; cases hc
    have z2 : nm ≠ c := by rintro rfl; rw [a2] at hc; cases hc
    have z3 : sl ≠ c := by rintro rfl; rw [a3] at hc; cases hc
    have z4 : kd ≠ c := by rintro rfl; rw [a4] at hc; cases hc
    have z5 : ln ≠ c := by rintro rfl; rw [a5] at hc; cases hc
    have z6 : gd ≠ c := by rintro rfl; rw [a6] at hc; cases hc
    have i0 : Ini CC c dx H [] H := ⟨Keep.refl c H, [], hc, Nat.le_refl _, fun f v h => by cases h⟩
    -- argcount
    refine seq_intro fun N e => ?_
    obtain ⟨kk, fs, hc, hl, lk⟩ := i0
    have l0 : fs.length < 1000 := Nat.lt_of_le_of_lt hl (by simp only [List.length_cons, List.length_nil]; decide)
    simp only [r_seq, r_next, r_brk, r_cont, r_asg, r_name, r_ret, r_retN, r_drop, r_ifs, r_never, r_var, r_c, r_op, r_un, r_if, r_tst, r_b, r_not, r_and, r_or, r_andV, r_orV, r_notV, r_nil, r_cons, r_tup, r_lst, r_cb, r_call, r_bm, r_bm0, r_sl, r_nopart, r_part, r_rev, r_gnil, r_gcons, r_gsub, r_par, r_aug, r_chain, r_I0, r_I, r_U, r_ixd, r_lend, r_tupd, r_listd, r_sld, r_app, r_ext, r_reverse, r_setl, r_cat, r_int1, r_eqS, r_neS, scal_ii, scal_bb, scal_ss, at0, at1, at2, sq_lst, sq_tup, isLst_lst, List.getElem?_cons_zero, List.getElem?_cons_succ, List.set_cons_zero, List.set_cons_succ, V.int.injEq, V.bl.injEq, V.ref.injEq, V.str.injEq, HO.lst.injEq, HO.tup.injEq, Option.some.injEq, exists_eq_left', exists_eq_left, List.cons.injEq, and_true, true_and, decide_eq_true_eq, reduceCtorEq, false_and, exists_false, or_false, false_or, exists_const, and_assoc, exists_and_left, List.append_nil, ix0, ix1, ix2, cm_mod, cdw1009, cdw2003, cdw7, cdw64, cdw2, cm104729, cm2, cm3, upd_same, List.length_cons, List.length_nil, Int.reduceLT, Int.reduceLE, Nat.reduceAdd, Nat.reduceLeDiff, Nat.reduceLT, Int.reduceToNat, r_for1, r_forL, r_forT, r_lcL, r_lc1, r_yes, r_gtupD, wipe_0, wipe_1, List.cons_append, List.nil_append, r_forS, r_ipI, ite_false, ite_true, Bool.not_true, Bool.not_false, decide_true, decide_false, r_isd, r_islt, cD_ty, cD_ref, tD_non, tD_bl, tD_int, tD_str, tD_ref, tH_lst, tH_tup, tH_dK, tH_ins, ki_self, ki_int_bool, ki_non_int, ki_str_int, ki_lt_lst, ki_lt_tup, r_fld, r_sfld, HO.ins.injEq, cx_K, r_spN, r_spS, hc, n0, l0, cl, of, (une z0), (une z1), (une z2), (une z3), (une z4), (une z5), (une z6)]
    rw [e]
    have i1 := Ini.store (CC := CC) (dx := dx) (f := "argcount") (y := .int 0) kk hl lk
    clear hc e N l0
    generalize L2.upd H c (.ins CC dx (putF "argcount" (.int 0) fs)) = H1 at i1 ⊢
    clear kk hl lk fs
    -- onlycount
    refine seq_intro fun N e => ?_
    obtain ⟨kk, fs, hc, hl, lk⟩ := i1
    have l0 : fs.length < 1000 := Nat.lt_of_le_of_lt hl (by simp only [List.length_cons, List.length_nil]; decide)
    simp only [r_seq, r_next, r_brk, r_cont, r_asg, r_name, r_ret, r_retN, r_drop, r_ifs, r_never, r_var, r_c, r_op, r_un, r_if, r_tst, r_b, r_not, r_and, r_or, r_andV, r_orV, r_notV, r_nil, r_cons, r_tup, r_lst, r_cb, r_call, r_bm, r_bm0, r_sl, r_nopart, r_part, r_rev, r_gnil, r_gcons, r_gsub, r_par, r_aug, r_chain, r_I0, r_I, r_U, r_ixd, r_lend, r_tupd, r_listd, r_sld, r_app, r_ext, r_reverse, r_setl, r_cat, r_int1, r_eqS, r_neS, scal_ii, scal_bb, scal_ss, at0, at1, at2, sq_lst, sq_tup, isLst_lst, List.getElem?_cons_zero, List.getElem?_cons_succ, List.set_cons_zero, List.set_cons_succ, V.int.injEq, V.bl.injEq, V.ref.injEq, V.str.injEq, HO.lst.injEq, HO.tup.injEq, Option.some.injEq, exists_eq_left', exists_eq_left, List.cons.injEq, and_true, true_and, decide_eq_true_eq, reduceCtorEq, false_and, exists_false, or_false, false_or, exists_const, and_assoc, exists_and_left, List.append_nil, ix0, ix1, ix2, cm_mod, cdw1009, cdw2003, cdw7, cdw64, cdw2, cm104729, cm2, cm3, upd_same, List.length_cons, List.length_nil, Int.reduceLT, Int.reduceLE, Nat.reduceAdd, Nat.reduceLeDiff, Nat.reduceLT, Int.reduceToNat, r_for1, r_forL, r_forT, r_lcL, r_lc1, r_yes, r_gtupD, wipe_0, wipe_1, List.cons_append, List.nil_append, r_forS, r_ipI, ite_false, ite_true, Bool.not_true, Bool.not_false, decide_true, decide_false, r_isd, r_islt, cD_ty, cD_ref, tD_non, tD_bl, tD_int, tD_str, tD_ref, tH_lst, tH_tup, tH_dK, tH_ins, ki_self, ki_int_bool, ki_non_int, ki_str_int, ki_lt_lst, ki_lt_tup, r_fld, r_sfld, HO.ins.injEq, cx_K, r_spN, r_spS, hc, n1, l0, cl, of, (une z0), (une z1), (une z2), (une z3), (une z4), (une z5), (une z6)]
    rw [e]
    have i2 := Ini.store (CC := CC) (dx := dx) (f := "onlycount") (y := .int 0) kk hl lk
    clear hc e N l0
    generalize L2.upd H1 c (.ins CC dx (putF "onlycount" (.int 0) fs)) = H2 at i2 ⊢
    clear kk hl lk fs
    -- stacksize
    refine seq_intro fun N e => ?_
    obtain ⟨kk, fs, hc, hl, lk⟩ := i2
    have l0 : fs.length < 1000 := Nat.lt_of_le_of_lt hl (by simp only [List.length_cons, List.length_nil]; decide)
    simp only [r_seq, r_next, r_brk, r_cont, r_asg, r_name, r_ret, r_retN, r_drop, r_ifs, r_never, r_var, r_c, r_op, r_un, r_if, r_tst, r_b, r_not, r_and, r_or, r_andV, r_orV, r_notV, r_nil, r_cons, r_tup, r_lst, r_cb, r_call, r_bm, r_bm0, r_sl, r_nopart, r_part, r_rev, r_gnil, r_gcons, r_gsub, r_par, r_aug, r_chain, r_I0, r_I, r_U, r_ixd, r_lend, r_tupd, r_listd, r_sld, r_app, r_ext, r_reverse, r_setl, r_cat, r_int1, r_eqS, r_neS, scal_ii, scal_bb, scal_ss, at0, at1, at2, sq_lst, sq_tup, isLst_lst, List.getElem?_cons_zero, List.getElem?_cons_succ, List.set_cons_zero, List.set_cons_succ, V.int.injEq, V.bl.injEq, V.ref.injEq, V.str.injEq, HO.lst.injEq, HO.tup.injEq, Option.some.injEq, exists_eq_left', exists_eq_left, List.cons.injEq, and_true, true_and, decide_eq_true_eq, reduceCtorEq, false_and, exists_false, or_false, false_or, exists_const, and_assoc, exists_and_left, List.append_nil, ix0, ix1, ix2, cm_mod, cdw1009, cdw2003, cdw7, cdw64, cdw2, cm104729, cm2, cm3, upd_same, List.length_cons, List.length_nil, Int.reduceLT, Int.reduceLE, Nat.reduceAdd, Nat.reduceLeDiff, Nat.reduceLT, Int.reduceToNat, r_for1, r_forL, r_forT, r_lcL, r_lc1, r_yes, r_gtupD, wipe_0, wipe_1, List.cons_append, List.nil_append, r_forS, r_ipI, ite_false, ite_true, Bool.not_true, Bool.not_false, decide_true, decide_false, r_isd, r_islt, cD_ty, cD_ref, tD_non, tD_bl, tD_int, tD_str, tD_ref, tH_lst, tH_tup, tH_dK, tH_ins, ki_self, ki_int_bool, ki_non_int, ki_str_int, ki_lt_lst, ki_lt_tup, r_fld, r_sfld, HO.ins.injEq, cx_K, r_spN, r_spS, hc, n2, l0, cl, of, (une z0), (une z1), (une z2), (une z3), (une z4), (une z5), (une z6)]
    rw [e]
    have i3 := Ini.store (CC := CC) (dx := dx) (f := "stacksize") (y := .int 1) kk hl lk
    clear hc e N l0
    generalize L2.upd H2 c (.ins CC dx (putF "stacksize" (.int 1) fs)) = H3 at i3 ⊢
    clear kk hl lk fs
    -- flags
    refine seq_intro fun N e => ?_
    obtain ⟨kk, fs, hc, hl, lk⟩ := i3
    have l0 : fs.length < 1000 := Nat.lt_of_le_of_lt hl (by simp only [List.length_cons, List.length_nil]; decide)
    simp only [r_seq, r_next, r_brk, r_cont, r_asg, r_name, r_ret, r_retN, r_drop, r_ifs, r_never, r_var, r_c, r_op, r_un, r_if, r_tst, r_b, r_not, r_and, r_or, r_andV, r_orV, r_notV, r_nil, r_cons, r_tup, r_lst, r_cb, r_call, r_bm, r_bm0, r_sl, r_nopart, r_part, r_rev, r_gnil, r_gcons, r_gsub, r_par, r_aug, r_chain, r_I0, r_I, r_U, r_ixd, r_lend, r_tupd, r_listd, r_sld, r_app, r_ext, r_reverse, r_setl, r_cat, r_int1, r_eqS, r_neS, scal_ii, scal_bb, scal_ss, at0, at1, at2, sq_lst, sq_tup, isLst_lst, List.getElem?_cons_zero, List.getElem?_cons_succ, List.set_cons_zero, List.set_cons_succ, V.int.injEq, V.bl.injEq, V.ref.injEq, V.str.injEq, HO.lst.injEq, HO.tup.injEq, Option.some.injEq, exists_eq_left', exists_eq_left, List.cons.injEq, and_true, true_and, decide_eq_true_eq, reduceCtorEq, false_and, exists_false, or_false, false_or, exists_const, and_assoc, exists_and_left, List.append_nil, ix0, ix1, ix2, cm_mod, cdw1009, cdw2003, cdw7, cdw64, cdw2, cm104729, cm2, cm3, upd_same, List.length_cons, List.length_nil, Int.reduceLT, Int.reduceLE, Nat.reduceAdd, Nat.reduceLeDiff, Nat.reduceLT, Int.reduceToNat, r_for1, r_forL, r_forT, r_lcL, r_lc1, r_yes, r_gtupD, wipe_0, wipe_1, List.cons_append, List.nil_append, r_forS, r_ipI, ite_false, ite_true, Bool.not_true, Bool.not_false, decide_true, decide_false, r_isd, r_islt, cD_ty, cD_ref, tD_non, tD_bl, tD_int, tD_str, tD_ref, tH_lst, tH_tup, tH_dK, tH_ins, ki_self, ki_int_bool, ki_non_int, ki_str_int, ki_lt_lst, ki_lt_tup, r_fld, r_sfld, HO.ins.injEq, cx_K, r_spN, r_spS, hc, n3, l0, cl, of, (une z0), (une z1), (une z2), (une z3), (une z4), (une z5), (une z6)]
    rw [e]
    have i4 := Ini.store (CC := CC) (dx := dx) (f := "flags") (y := .int 0) kk hl lk
    clear hc e N l0
    generalize L2.upd H3 c (.ins CC dx (putF "flags" (.int 0) fs)) = H4 at i4 ⊢
    clear kk hl lk fs
    -- code
    refine seq_intro fun N e => ?_
    have i4' := i4
    obtain ⟨kk, fs, hc, hl, lk⟩ := i4
    have b0 := kk d _ z0 a0
    have l0 : fs.length < 1000 := Nat.lt_of_le_of_lt hl (by simp only [List.length_cons, List.length_nil]; decide)
    simp only [r_seq, r_next, r_brk, r_cont, r_asg, r_name, r_ret, r_retN, r_drop, r_ifs, r_never, r_var, r_c, r_op, r_un, r_if, r_tst, r_b, r_not, r_and, r_or, r_andV, r_orV, r_notV, r_nil, r_cons, r_tup, r_lst, r_cb, r_call, r_bm, r_bm0, r_sl, r_nopart, r_part, r_rev, r_gnil, r_gcons, r_gsub, r_par, r_aug, r_chain, r_I0, r_I, r_U, r_ixd, r_lend, r_tupd, r_listd, r_sld, r_app, r_ext, r_reverse, r_setl, r_cat, r_int1, r_eqS, r_neS, scal_ii, scal_bb, scal_ss, at0, at1, at2, sq_lst, sq_tup, isLst_lst, List.getElem?_cons_zero, List.getElem?_cons_succ, List.set_cons_zero, List.set_cons_succ, V.int.injEq, V.bl.injEq, V.ref.injEq, V.str.injEq, HO.lst.injEq, HO.tup.injEq, Option.some.injEq, exists_eq_left', exists_eq_left, List.cons.injEq, and_true, true_and, decide_eq_true_eq, reduceCtorEq, false_and, exists_false, or_false, false_or, exists_const, and_assoc, exists_and_left, List.append_nil, ix0, ix1, ix2, cm_mod, cdw1009, cdw2003, cdw7, cdw64, cdw2, cm104729, cm2, cm3, upd_same, List.length_cons, List.length_nil, Int.reduceLT, Int.reduceLE, Nat.reduceAdd, Nat.reduceLeDiff, Nat.reduceLT, Int.reduceToNat, r_for1, r_forL, r_forT, r_lcL, r_lc1, r_yes, r_gtupD, wipe_0, wipe_1, List.cons_append, List.nil_append, r_forS, r_ipI, ite_false, ite_true, Bool.not_true, Bool.not_false, decide_true, decide_false, r_isd, r_islt, cD_ty, cD_ref, tD_non, tD_bl, tD_int, tD_str, tD_ref, tH_lst, tH_tup, tH_dK, tH_ins, ki_self, ki_int_bool, ki_non_int, ki_str_int, ki_lt_lst, ki_lt_tup, r_fld, r_sfld, HO.ins.injEq, cx_K, r_spB, r_spSs, b0]
    refine ⟨_, rfl, bd, fun p5 G hp sG hG => ?_⟩
    have hc1 := sG c _ hc
    simp only [r_seq, r_next, r_brk, r_cont, r_asg, r_name, r_ret, r_retN, r_drop, r_ifs, r_never, r_var, r_c, r_op, r_un, r_if, r_tst, r_b, r_not, r_and, r_or, r_andV, r_orV, r_notV, r_nil, r_cons, r_tup, r_lst, r_cb, r_call, r_bm, r_bm0, r_sl, r_nopart, r_part, r_rev, r_gnil, r_gcons, r_gsub, r_par, r_aug, r_chain, r_I0, r_I, r_U, r_ixd, r_lend, r_tupd, r_listd, r_sld, r_app, r_ext, r_reverse, r_setl, r_cat, r_int1, r_eqS, r_neS, scal_ii, scal_bb, scal_ss, at0, at1, at2, sq_lst, sq_tup, isLst_lst, List.getElem?_cons_zero, List.getElem?_cons_succ, List.set_cons_zero, List.set_cons_succ, V.int.injEq, V.bl.injEq, V.ref.injEq, V.str.injEq, HO.lst.injEq, HO.tup.injEq, Option.some.injEq, exists_eq_left', exists_eq_left, List.cons.injEq, and_true, true_and, decide_eq_true_eq, reduceCtorEq, false_and, exists_false, or_false, false_or, exists_const, and_assoc, exists_and_left, List.append_nil, ix0, ix1, ix2, cm_mod, cdw1009, cdw2003, cdw7, cdw64, cdw2, cm104729, cm2, cm3, upd_same, List.length_cons, List.length_nil, Int.reduceLT, Int.reduceLE, Nat.reduceAdd, Nat.reduceLeDiff, Nat.reduceLT, Int.reduceToNat, r_for1, r_forL, r_forT, r_lcL, r_lc1, r_yes, r_gtupD, wipe_0, wipe_1, List.cons_append, List.nil_append, r_forS, r_ipI, ite_false, ite_true, Bool.not_true, Bool.not_false, decide_true, decide_false, r_isd, r_islt, cD_ty, cD_ref, tD_non, tD_bl, tD_int, tD_str, tD_ref, tH_lst, tH_tup, tH_dK, tH_ins, ki_self, ki_int_bool, ki_non_int, ki_str_int, ki_lt_lst, ki_lt_tup, r_fld, r_sfld, HO.ins.injEq, cx_K, hc1, n4, l0, cl]
    rw [e]
    have iG := Ini.same i4' sG
    have x5 : p5 ≠ c := new_ne hc hp
    have q := Ini.store (CC := CC) (dx := dx) (f := "code") (y := .ref p5) (kk.trans (Keep.same sG)) hl lk
    have kp5 : Keep c G (L2.upd G c (.ins CC dx (putF "code" (.ref p5) fs))) := Keep.upd (Keep.refl c G)
    have t5 := kp5 p5 _ x5 hG
    have i5 := q
    clear hc e N l0 q kp5 iG hc1 i4' b0
    generalize L2.upd G c (.ins CC dx (putF "code" (.ref p5) fs)) = H5 at i5 t5 ⊢
    clear kk hl lk sG hG hp
    -- depth
    refine seq_intro fun N e => ?_
    have i5' := i5
    obtain ⟨kk, fs, hc, hl, lk⟩ := i5
    have b1 := kk cs _ z1 a1
    have l0 : fs.length < 1000 := Nat.lt_of_le_of_lt hl (by simp only [List.length_cons, List.length_nil]; decide)
    simp only [r_seq, r_next, r_brk, r_cont, r_asg, r_name, r_ret, r_retN, r_drop, r_ifs, r_never, r_var, r_c, r_op, r_un, r_if, r_tst, r_b, r_not, r_and, r_or, r_andV, r_orV, r_notV, r_nil, r_cons, r_tup, r_lst, r_cb, r_call, r_bm, r_bm0, r_sl, r_nopart, r_part, r_rev, r_gnil, r_gcons, r_gsub, r_par, r_aug, r_chain, r_I0, r_I, r_U, r_ixd, r_lend, r_tupd, r_listd, r_sld, r_app, r_ext, r_reverse, r_setl, r_cat, r_int1, r_eqS, r_neS, scal_ii, scal_bb, scal_ss, at0, at1, at2, sq_lst, sq_tup, isLst_lst, List.getElem?_cons_zero, List.getElem?_cons_succ, List.set_cons_zero, List.set_cons_succ, V.int.injEq, V.bl.injEq, V.ref.injEq, V.str.injEq, HO.lst.injEq, HO.tup.injEq, Option.some.injEq, exists_eq_left', exists_eq_left, List.cons.injEq, and_true, true_and, decide_eq_true_eq, reduceCtorEq, false_and, exists_false, or_false, false_or, exists_const, and_assoc, exists_and_left, List.append_nil, ix0, ix1, ix2, cm_mod, cdw1009, cdw2003, cdw7, cdw64, cdw2, cm104729, cm2, cm3, upd_same, List.length_cons, List.length_nil, Int.reduceLT, Int.reduceLE, Nat.reduceAdd, Nat.reduceLeDiff, Nat.reduceLT, Int.reduceToNat, r_for1, r_forL, r_forT, r_lcL, r_lc1, r_yes, r_gtupD, wipe_0, wipe_1, List.cons_append, List.nil_append, r_forS, r_ipI, ite_false, ite_true, Bool.not_true, Bool.not_false, decide_true, decide_false, r_isd, r_islt, cD_ty, cD_ref, tD_non, tD_bl, tD_int, tD_str, tD_ref, tH_lst, tH_tup, tH_dK, tH_ins, ki_self, ki_int_bool, ki_non_int, ki_str_int, ki_lt_lst, ki_lt_tup, r_fld, r_sfld, HO.ins.injEq, cx_K, r_spD, b1]
    refine fun G sG => ?_
    have hc1 := sG c _ hc
    simp only [r_seq, r_next, r_brk, r_cont, r_asg, r_name, r_ret, r_retN, r_drop, r_ifs, r_never, r_var, r_c, r_op, r_un, r_if, r_tst, r_b, r_not, r_and, r_or, r_andV, r_orV, r_notV, r_nil, r_cons, r_tup, r_lst, r_cb, r_call, r_bm, r_bm0, r_sl, r_nopart, r_part, r_rev, r_gnil, r_gcons, r_gsub, r_par, r_aug, r_chain, r_I0, r_I, r_U, r_ixd, r_lend, r_tupd, r_listd, r_sld, r_app, r_ext, r_reverse, r_setl, r_cat, r_int1, r_eqS, r_neS, scal_ii, scal_bb, scal_ss, at0, at1, at2, sq_lst, sq_tup, isLst_lst, List.getElem?_cons_zero, List.getElem?_cons_succ, List.set_cons_zero, List.set_cons_succ, V.int.injEq, V.bl.injEq, V.ref.injEq, V.str.injEq, HO.lst.injEq, HO.tup.injEq, Option.some.injEq, exists_eq_left', exists_eq_left, List.cons.injEq, and_true, true_and, decide_eq_true_eq, reduceCtorEq, false_and, exists_false, or_false, false_or, exists_const, and_assoc, exists_and_left, List.append_nil, ix0, ix1, ix2, cm_mod, cdw1009, cdw2003, cdw7, cdw64, cdw2, cm104729, cm2, cm3, upd_same, List.length_cons, List.length_nil, Int.reduceLT, Int.reduceLE, Nat.reduceAdd, Nat.reduceLeDiff, Nat.reduceLT, Int.reduceToNat, r_for1, r_forL, r_forT, r_lcL, r_lc1, r_yes, r_gtupD, wipe_0, wipe_1, List.cons_append, List.nil_append, r_forS, r_ipI, ite_false, ite_true, Bool.not_true, Bool.not_false, decide_true, decide_false, r_isd, r_islt, cD_ty, cD_ref, tD_non, tD_bl, tD_int, tD_str, tD_ref, tH_lst, tH_tup, tH_dK, tH_ins, ki_self, ki_int_bool, ki_non_int, ki_str_int, ki_lt_lst, ki_lt_tup, r_fld, r_sfld, HO.ins.injEq, cx_K, hc1, n5, l0, cl]
    rw [e]
    have i6 := Ini.store (CC := CC) (dx := dx) (f := "depth") (y := .int 1) (kk.trans (Keep.same sG)) hl lk
    have kp : Keep c G (L2.upd G c (.ins CC dx (putF "depth" (.int 1) fs))) := Keep.upd (Keep.refl c G)
    have t5 := kp p5 _ x5 (sG _ _ t5)
    clear hc e N l0 kp hc1 i5' b1
    generalize L2.upd G c (.ins CC dx (putF "depth" (.int 1) fs)) = H6 at i6 t5 ⊢
    clear kk hl lk sG
    -- constants
    refine seq_intro fun N e => ?_
    have i6' := i6
    obtain ⟨kk, fs, hc, hl, lk⟩ := i6
    have b1 := kk cs _ z1 a1
    have l0 : fs.length < 1000 := Nat.lt_of_le_of_lt hl (by simp only [List.length_cons, List.length_nil]; decide)
    simp only [r_seq, r_next, r_brk, r_cont, r_asg, r_name, r_ret, r_retN, r_drop, r_ifs, r_never, r_var, r_c, r_op, r_un, r_if, r_tst, r_b, r_not, r_and, r_or, r_andV, r_orV, r_notV, r_nil, r_cons, r_tup, r_lst, r_cb, r_call, r_bm, r_bm0, r_sl, r_nopart, r_part, r_rev, r_gnil, r_gcons, r_gsub, r_par, r_aug, r_chain, r_I0, r_I, r_U, r_ixd, r_lend, r_tupd, r_listd, r_sld, r_app, r_ext, r_reverse, r_setl, r_cat, r_int1, r_eqS, r_neS, scal_ii, scal_bb, scal_ss, at0, at1, at2, sq_lst, sq_tup, isLst_lst, List.getElem?_cons_zero, List.getElem?_cons_succ, List.set_cons_zero, List.set_cons_succ, V.int.injEq, V.bl.injEq, V.ref.injEq, V.str.injEq, HO.lst.injEq, HO.tup.injEq, Option.some.injEq, exists_eq_left', exists_eq_left, List.cons.injEq, and_true, true_and, decide_eq_true_eq, reduceCtorEq, false_and, exists_false, or_false, false_or, exists_const, and_assoc, exists_and_left, List.append_nil, ix0, ix1, ix2, cm_mod, cdw1009, cdw2003, cdw7, cdw64, cdw2, cm104729, cm2, cm3, upd_same, List.length_cons, List.length_nil, Int.reduceLT, Int.reduceLE, Nat.reduceAdd, Nat.reduceLeDiff, Nat.reduceLT, Int.reduceToNat, r_for1, r_forL, r_forT, r_lcL, r_lc1, r_yes, r_gtupD, wipe_0, wipe_1, List.cons_append, List.nil_append, r_forS, r_ipI, ite_false, ite_true, Bool.not_true, Bool.not_false, decide_true, decide_false, r_isd, r_islt, cD_ty, cD_ref, tD_non, tD_bl, tD_int, tD_str, tD_ref, tH_lst, tH_tup, tH_dK, tH_ins, ki_self, ki_int_bool, ki_non_int, ki_str_int, ki_lt_lst, ki_lt_tup, r_fld, r_sfld, HO.ins.injEq, cx_K, r_spB, r_spSs, b1]
    refine fun p7 hp => ?_
    have sG := Same.new' (Same.refl H6) (o := .tup [.non, .int 5]) hp
    have hG : L2.upd H6 p7 (.tup [.non, .int 5]) p7 = some (.tup [.non, .int 5]) := upd_same
    generalize L2.upd H6 p7 (.tup [.non, .int 5]) = G at sG hG ⊢
    have hc1 := sG c _ hc
    simp only [r_seq, r_next, r_brk, r_cont, r_asg, r_name, r_ret, r_retN, r_drop, r_ifs, r_never, r_var, r_c, r_op, r_un, r_if, r_tst, r_b, r_not, r_and, r_or, r_andV, r_orV, r_notV, r_nil, r_cons, r_tup, r_lst, r_cb, r_call, r_bm, r_bm0, r_sl, r_nopart, r_part, r_rev, r_gnil, r_gcons, r_gsub, r_par, r_aug, r_chain, r_I0, r_I, r_U, r_ixd, r_lend, r_tupd, r_listd, r_sld, r_app, r_ext, r_reverse, r_setl, r_cat, r_int1, r_eqS, r_neS, scal_ii, scal_bb, scal_ss, at0, at1, at2, sq_lst, sq_tup, isLst_lst, List.getElem?_cons_zero, List.getElem?_cons_succ, List.set_cons_zero, List.set_cons_succ, V.int.injEq, V.bl.injEq, V.ref.injEq, V.str.injEq, HO.lst.injEq, HO.tup.injEq, Option.some.injEq, exists_eq_left', exists_eq_left, List.cons.injEq, and_true, true_and, decide_eq_true_eq, reduceCtorEq, false_and, exists_false, or_false, false_or, exists_const, and_assoc, exists_and_left, List.append_nil, ix0, ix1, ix2, cm_mod, cdw1009, cdw2003, cdw7, cdw64, cdw2, cm104729, cm2, cm3, upd_same, List.length_cons, List.length_nil, Int.reduceLT, Int.reduceLE, Nat.reduceAdd, Nat.reduceLeDiff, Nat.reduceLT, Int.reduceToNat, r_for1, r_forL, r_forT, r_lcL, r_lc1, r_yes, r_gtupD, wipe_0, wipe_1, List.cons_append, List.nil_append, r_forS, r_ipI, ite_false, ite_true, Bool.not_true, Bool.not_false, decide_true, decide_false, r_isd, r_islt, cD_ty, cD_ref, tD_non, tD_bl, tD_int, tD_str, tD_ref, tH_lst, tH_tup, tH_dK, tH_ins, ki_self, ki_int_bool, ki_non_int, ki_str_int, ki_lt_lst, ki_lt_tup, r_fld, r_sfld, HO.ins.injEq, cx_K, hc1, n6, l0, cl]
    rw [e]
    have iG := Ini.same i6' sG
    have x7 : p7 ≠ c := new_ne hc hp
    have q := Ini.store (CC := CC) (dx := dx) (f := "constants") (y := .ref p7) (kk.trans (Keep.same sG)) hl lk
    have kp7 : Keep c G (L2.upd G c (.ins CC dx (putF "constants" (.ref p7) fs))) := Keep.upd (Keep.refl c G)
    have t5 := kp7 p5 _ x5 (sG _ _ t5)
    have t7 := kp7 p7 _ x7 hG
    have i7 := q
    clear hc e N l0 q kp7 iG hc1 i6' b1
    generalize L2.upd G c (.ins CC dx (putF "constants" (.ref p7) fs)) = H7 at i7 t5 t7 ⊢
    clear kk hl lk sG hG hp
    -- names
    refine seq_intro fun N e => ?_
    have i7' := i7
    obtain ⟨kk, fs, hc, hl, lk⟩ := i7
    have b2 := kk nm _ z2 a2
    have l0 : fs.length < 1000 := Nat.lt_of_le_of_lt hl (by simp only [List.length_cons, List.length_nil]; decide)
    simp only [r_seq, r_next, r_brk, r_cont, r_asg, r_name, r_ret, r_retN, r_drop, r_ifs, r_never, r_var, r_c, r_op, r_un, r_if, r_tst, r_b, r_not, r_and, r_or, r_andV, r_orV, r_notV, r_nil, r_cons, r_tup, r_lst, r_cb, r_call, r_bm, r_bm0, r_sl, r_nopart, r_part, r_rev, r_gnil, r_gcons, r_gsub, r_par, r_aug, r_chain, r_I0, r_I, r_U, r_ixd, r_lend, r_tupd, r_listd, r_sld, r_app, r_ext, r_reverse, r_setl, r_cat, r_int1, r_eqS, r_neS, scal_ii, scal_bb, scal_ss, at0, at1, at2, sq_lst, sq_tup, isLst_lst, List.getElem?_cons_zero, List.getElem?_cons_succ, List.set_cons_zero, List.set_cons_succ, V.int.injEq, V.bl.injEq, V.ref.injEq, V.str.injEq, HO.lst.injEq, HO.tup.injEq, Option.some.injEq, exists_eq_left', exists_eq_left, List.cons.injEq, and_true, true_and, decide_eq_true_eq, reduceCtorEq, false_and, exists_false, or_false, false_or, exists_const, and_assoc, exists_and_left, List.append_nil, ix0, ix1, ix2, cm_mod, cdw1009, cdw2003, cdw7, cdw64, cdw2, cm104729, cm2, cm3, upd_same, List.length_cons, List.length_nil, Int.reduceLT, Int.reduceLE, Nat.reduceAdd, Nat.reduceLeDiff, Nat.reduceLT, Int.reduceToNat, r_for1, r_forL, r_forT, r_lcL, r_lc1, r_yes, r_gtupD, wipe_0, wipe_1, List.cons_append, List.nil_append, r_forS, r_ipI, ite_false, ite_true, Bool.not_true, Bool.not_false, decide_true, decide_false, r_isd, r_islt, cD_ty, cD_ref, tD_non, tD_bl, tD_int, tD_str, tD_ref, tH_lst, tH_tup, tH_dK, tH_ins, ki_self, ki_int_bool, ki_non_int, ki_str_int, ki_lt_lst, ki_lt_tup, r_fld, r_sfld, HO.ins.injEq, cx_K, r_spB, r_spSs, b2]
    refine ⟨["a", "b", "c"], rfl, okN, fun p8 G hp sG hG => ?_⟩
    have hc1 := sG c _ hc
    simp only [r_seq, r_next, r_brk, r_cont, r_asg, r_name, r_ret, r_retN, r_drop, r_ifs, r_never, r_var, r_c, r_op, r_un, r_if, r_tst, r_b, r_not, r_and, r_or, r_andV, r_orV, r_notV, r_nil, r_cons, r_tup, r_lst, r_cb, r_call, r_bm, r_bm0, r_sl, r_nopart, r_part, r_rev, r_gnil, r_gcons, r_gsub, r_par, r_aug, r_chain, r_I0, r_I, r_U, r_ixd, r_lend, r_tupd, r_listd, r_sld, r_app, r_ext, r_reverse, r_setl, r_cat, r_int1, r_eqS, r_neS, scal_ii, scal_bb, scal_ss, at0, at1, at2, sq_lst, sq_tup, isLst_lst, List.getElem?_cons_zero, List.getElem?_cons_succ, List.set_cons_zero, List.set_cons_succ, V.int.injEq, V.bl.injEq, V.ref.injEq, V.str.injEq, HO.lst.injEq, HO.tup.injEq, Option.some.injEq, exists_eq_left', exists_eq_left, List.cons.injEq, and_true, true_and, decide_eq_true_eq, reduceCtorEq, false_and, exists_false, or_false, false_or, exists_const, and_assoc, exists_and_left, List.append_nil, ix0, ix1, ix2, cm_mod, cdw1009, cdw2003, cdw7, cdw64, cdw2, cm104729, cm2, cm3, upd_same, List.length_cons, List.length_nil, Int.reduceLT, Int.reduceLE, Nat.reduceAdd, Nat.reduceLeDiff, Nat.reduceLT, Int.reduceToNat, r_for1, r_forL, r_forT, r_lcL, r_lc1, r_yes, r_gtupD, wipe_0, wipe_1, List.cons_append, List.nil_append, r_forS, r_ipI, ite_false, ite_true, Bool.not_true, Bool.not_false, decide_true, decide_false, r_isd, r_islt, cD_ty, cD_ref, tD_non, tD_bl, tD_int, tD_str, tD_ref, tH_lst, tH_tup, tH_dK, tH_ins, ki_self, ki_int_bool, ki_non_int, ki_str_int, ki_lt_lst, ki_lt_tup, r_fld, r_sfld, HO.ins.injEq, cx_K, hc1, n7, l0, cl]
    rw [e]
    have iG := Ini.same i7' sG
    have x8 : p8 ≠ c := new_ne hc hp
    have q := Ini.store (CC := CC) (dx := dx) (f := "names") (y := .ref p8) (kk.trans (Keep.same sG)) hl lk
    have kp8 : Keep c G (L2.upd G c (.ins CC dx (putF "names" (.ref p8) fs))) := Keep.upd (Keep.refl c G)
    have t5 := kp8 p5 _ x5 (sG _ _ t5)
    have t7 := kp8 p7 _ x7 (sG _ _ t7)
    have t8 := kp8 p8 _ x8 hG
    have i8 := q
    clear hc e N l0 q kp8 iG hc1 i7' b2
    generalize L2.upd G c (.ins CC dx (putF "names" (.ref p8) fs)) = H8 at i8 t5 t7 t8 ⊢
    clear kk hl lk sG hG hp
    -- slots
    refine seq_intro fun N e => ?_
    have i8' := i8
    obtain ⟨kk, fs, hc, hl, lk⟩ := i8
    have b3 := kk sl _ z3 a3
    have l0 : fs.length < 1000 := Nat.lt_of_le_of_lt hl (by simp only [List.length_cons, List.length_nil]; decide)
    simp only [r_seq, r_next, r_brk, r_cont, r_asg, r_name, r_ret, r_retN, r_drop, r_ifs, r_never, r_var, r_c, r_op, r_un, r_if, r_tst, r_b, r_not, r_and, r_or, r_andV, r_orV, r_notV, r_nil, r_cons, r_tup, r_lst, r_cb, r_call, r_bm, r_bm0, r_sl, r_nopart, r_part, r_rev, r_gnil, r_gcons, r_gsub, r_par, r_aug, r_chain, r_I0, r_I, r_U, r_ixd, r_lend, r_tupd, r_listd, r_sld, r_app, r_ext, r_reverse, r_setl, r_cat, r_int1, r_eqS, r_neS, scal_ii, scal_bb, scal_ss, at0, at1, at2, sq_lst, sq_tup, isLst_lst, List.getElem?_cons_zero, List.getElem?_cons_succ, List.set_cons_zero, List.set_cons_succ, V.int.injEq, V.bl.injEq, V.ref.injEq, V.str.injEq, HO.lst.injEq, HO.tup.injEq, Option.some.injEq, exists_eq_left', exists_eq_left, List.cons.injEq, and_true, true_and, decide_eq_true_eq, reduceCtorEq, false_and, exists_false, or_false, false_or, exists_const, and_assoc, exists_and_left, List.append_nil, ix0, ix1, ix2, cm_mod, cdw1009, cdw2003, cdw7, cdw64, cdw2, cm104729, cm2, cm3, upd_same, List.length_cons, List.length_nil, Int.reduceLT, Int.reduceLE, Nat.reduceAdd, Nat.reduceLeDiff, Nat.reduceLT, Int.reduceToNat, r_for1, r_forL, r_forT, r_lcL, r_lc1, r_yes, r_gtupD, wipe_0, wipe_1, List.cons_append, List.nil_append, r_forS, r_ipI, ite_false, ite_true, Bool.not_true, Bool.not_false, decide_true, decide_false, r_isd, r_islt, cD_ty, cD_ref, tD_non, tD_bl, tD_int, tD_str, tD_ref, tH_lst, tH_tup, tH_dK, tH_ins, ki_self, ki_int_bool, ki_non_int, ki_str_int, ki_lt_lst, ki_lt_tup, r_fld, r_sfld, HO.ins.injEq, cx_K, r_spB, r_spSs, b3]
    refine ⟨["p", "q", "r", "s"], rfl, okL, fun p9 G hp sG hG => ?_⟩
    have hc1 := sG c _ hc
    simp only [r_seq, r_next, r_brk, r_cont, r_asg, r_name, r_ret, r_retN, r_drop, r_ifs, r_never, r_var, r_c, r_op, r_un, r_if, r_tst, r_b, r_not, r_and, r_or, r_andV, r_orV, r_notV, r_nil, r_cons, r_tup, r_lst, r_cb, r_call, r_bm, r_bm0, r_sl, r_nopart, r_part, r_rev, r_gnil, r_gcons, r_gsub, r_par, r_aug, r_chain, r_I0, r_I, r_U, r_ixd, r_lend, r_tupd, r_listd, r_sld, r_app, r_ext, r_reverse, r_setl, r_cat, r_int1, r_eqS, r_neS, scal_ii, scal_bb, scal_ss, at0, at1, at2, sq_lst, sq_tup, isLst_lst, List.getElem?_cons_zero, List.getElem?_cons_succ, List.set_cons_zero, List.set_cons_succ, V.int.injEq, V.bl.injEq, V.ref.injEq, V.str.injEq, HO.lst.injEq, HO.tup.injEq, Option.some.injEq, exists_eq_left', exists_eq_left, List.cons.injEq, and_true, true_and, decide_eq_true_eq, reduceCtorEq, false_and, exists_false, or_false, false_or, exists_const, and_assoc, exists_and_left, List.append_nil, ix0, ix1, ix2, cm_mod, cdw1009, cdw2003, cdw7, cdw64, cdw2, cm104729, cm2, cm3, upd_same, List.length_cons, List.length_nil, Int.reduceLT, Int.reduceLE, Nat.reduceAdd, Nat.reduceLeDiff, Nat.reduceLT, Int.reduceToNat, r_for1, r_forL, r_forT, r_lcL, r_lc1, r_yes, r_gtupD, wipe_0, wipe_1, List.cons_append, List.nil_append, r_forS, r_ipI, ite_false, ite_true, Bool.not_true, Bool.not_false, decide_true, decide_false, r_isd, r_islt, cD_ty, cD_ref, tD_non, tD_bl, tD_int, tD_str, tD_ref, tH_lst, tH_tup, tH_dK, tH_ins, ki_self, ki_int_bool, ki_non_int, ki_str_int, ki_lt_lst, ki_lt_tup, r_fld, r_sfld, HO.ins.injEq, cx_K, hc1, n8, l0, cl]
    rw [e]
    have iG := Ini.same i8' sG
    have x9 : p9 ≠ c := new_ne hc hp
    have q := Ini.store (CC := CC) (dx := dx) (f := "slots") (y := .ref p9) (kk.trans (Keep.same sG)) hl lk
    have kp9 : Keep c G (L2.upd G c (.ins CC dx (putF "slots" (.ref p9) fs))) := Keep.upd (Keep.refl c G)
    have t5 := kp9 p5 _ x5 (sG _ _ t5)
    have t7 := kp9 p7 _ x7 (sG _ _ t7)
    have t8 := kp9 p8 _ x8 (sG _ _ t8)
    have t9 := kp9 p9 _ x9 hG
    have i9 := q
    clear hc e N l0 q kp9 iG hc1 i8' b3
    generalize L2.upd G c (.ins CC dx (putF "slots" (.ref p9) fs)) = H9 at i9 t5 t7 t8 t9 ⊢
    clear kk hl lk sG hG hp
    -- kinds
    refine seq_intro fun N e => ?_
    have i9' := i9
    obtain ⟨kk, fs, hc, hl, lk⟩ := i9
    have b4 := kk kd _ z4 a4
    have l0 : fs.length < 1000 := Nat.lt_of_le_of_lt hl (by simp only [List.length_cons, List.length_nil]; decide)
    simp only [r_seq, r_next, r_brk, r_cont, r_asg, r_name, r_ret, r_retN, r_drop, r_ifs, r_never, r_var, r_c, r_op, r_un, r_if, r_tst, r_b, r_not, r_and, r_or, r_andV, r_orV, r_notV, r_nil, r_cons, r_tup, r_lst, r_cb, r_call, r_bm, r_bm0, r_sl, r_nopart, r_part, r_rev, r_gnil, r_gcons, r_gsub, r_par, r_aug, r_chain, r_I0, r_I, r_U, r_ixd, r_lend, r_tupd, r_listd, r_sld, r_app, r_ext, r_reverse, r_setl, r_cat, r_int1, r_eqS, r_neS, scal_ii, scal_bb, scal_ss, at0, at1, at2, sq_lst, sq_tup, isLst_lst, List.getElem?_cons_zero, List.getElem?_cons_succ, List.set_cons_zero, List.set_cons_succ, V.int.injEq, V.bl.injEq, V.ref.injEq, V.str.injEq, HO.lst.injEq, HO.tup.injEq, Option.some.injEq, exists_eq_left', exists_eq_left, List.cons.injEq, and_true, true_and, decide_eq_true_eq, reduceCtorEq, false_and, exists_false, or_false, false_or, exists_const, and_assoc, exists_and_left, List.append_nil, ix0, ix1, ix2, cm_mod, cdw1009, cdw2003, cdw7, cdw64, cdw2, cm104729, cm2, cm3, upd_same, List.length_cons, List.length_nil, Int.reduceLT, Int.reduceLE, Nat.reduceAdd, Nat.reduceLeDiff, Nat.reduceLT, Int.reduceToNat, r_for1, r_forL, r_forT, r_lcL, r_lc1, r_yes, r_gtupD, wipe_0, wipe_1, List.cons_append, List.nil_append, r_forS, r_ipI, ite_false, ite_true, Bool.not_true, Bool.not_false, decide_true, decide_false, r_isd, r_islt, cD_ty, cD_ref, tD_non, tD_bl, tD_int, tD_str, tD_ref, tH_lst, tH_tup, tH_dK, tH_ins, ki_self, ki_int_bool, ki_non_int, ki_str_int, ki_lt_lst, ki_lt_tup, r_fld, r_sfld, HO.ins.injEq, cx_K, r_spB, r_spSs, b4]
    refine ⟨kindsL, rfl, (by decide), fun p10 G hp sG hG => ?_⟩
    have hc1 := sG c _ hc
    simp only [r_seq, r_next, r_brk, r_cont, r_asg, r_name, r_ret, r_retN, r_drop, r_ifs, r_never, r_var, r_c, r_op, r_un, r_if, r_tst, r_b, r_not, r_and, r_or, r_andV, r_orV, r_notV, r_nil, r_cons, r_tup, r_lst, r_cb, r_call, r_bm, r_bm0, r_sl, r_nopart, r_part, r_rev, r_gnil, r_gcons, r_gsub, r_par, r_aug, r_chain, r_I0, r_I, r_U, r_ixd, r_lend, r_tupd, r_listd, r_sld, r_app, r_ext, r_reverse, r_setl, r_cat, r_int1, r_eqS, r_neS, scal_ii, scal_bb, scal_ss, at0, at1, at2, sq_lst, sq_tup, isLst_lst, List.getElem?_cons_zero, List.getElem?_cons_succ, List.set_cons_zero, List.set_cons_succ, V.int.injEq, V.bl.injEq, V.ref.injEq, V.str.injEq, HO.lst.injEq, HO.tup.injEq, Option.some.injEq, exists_eq_left', exists_eq_left, List.cons.injEq, and_true, true_and, decide_eq_true_eq, reduceCtorEq, false_and, exists_false, or_false, false_or, exists_const, and_assoc, exists_and_left, List.append_nil, ix0, ix1, ix2, cm_mod, cdw1009, cdw2003, cdw7, cdw64, cdw2, cm104729, cm2, cm3, upd_same, List.length_cons, List.length_nil, Int.reduceLT, Int.reduceLE, Nat.reduceAdd, Nat.reduceLeDiff, Nat.reduceLT, Int.reduceToNat, r_for1, r_forL, r_forT, r_lcL, r_lc1, r_yes, r_gtupD, wipe_0, wipe_1, List.cons_append, List.nil_append, r_forS, r_ipI, ite_false, ite_true, Bool.not_true, Bool.not_false, decide_true, decide_false, r_isd, r_islt, cD_ty, cD_ref, tD_non, tD_bl, tD_int, tD_str, tD_ref, tH_lst, tH_tup, tH_dK, tH_ins, ki_self, ki_int_bool, ki_non_int, ki_str_int, ki_lt_lst, ki_lt_tup, r_fld, r_sfld, HO.ins.injEq, cx_K, hc1, n9, l0, cl]
    rw [e]
    have iG := Ini.same i9' sG
    have x10 : p10 ≠ c := new_ne hc hp
    have q := Ini.store (CC := CC) (dx := dx) (f := "kinds") (y := .ref p10) (kk.trans (Keep.same sG)) hl lk
    have kp10 : Keep c G (L2.upd G c (.ins CC dx (putF "kinds" (.ref p10) fs))) := Keep.upd (Keep.refl c G)
    have t5 := kp10 p5 _ x5 (sG _ _ t5)
    have t7 := kp10 p7 _ x7 (sG _ _ t7)
    have t8 := kp10 p8 _ x8 (sG _ _ t8)
    have t9 := kp10 p9 _ x9 (sG _ _ t9)
    have t10 := kp10 p10 _ x10 hG
    have i10 := q
    clear hc e N l0 q kp10 iG hc1 i9' b4
    generalize L2.upd G c (.ins CC dx (putF "kinds" (.ref p10) fs)) = H10 at i10 t5 t7 t8 t9 t10 ⊢
    clear kk hl lk sG hG hp
    -- the test
    refine seq_intro fun N e => ?_
    have i10' := i10
    obtain ⟨kk, fs, hc, hl, lk⟩ := i10'
    have y9 := lk "slots" _ rfl
    have y10 := lk "kinds" _ rfl
    simp only [r_seq, r_next, r_brk, r_cont, r_asg, r_name, r_ret, r_retN, r_drop, r_ifs, r_never, r_var, r_c, r_op, r_un, r_if, r_tst, r_b, r_not, r_and, r_or, r_andV, r_orV, r_notV, r_nil, r_cons, r_tup, r_lst, r_cb, r_call, r_bm, r_bm0, r_sl, r_nopart, r_part, r_rev, r_gnil, r_gcons, r_gsub, r_par, r_aug, r_chain, r_I0, r_I, r_U, r_ixd, r_lend, r_tupd, r_listd, r_sld, r_app, r_ext, r_reverse, r_setl, r_cat, r_int1, r_eqS, r_neS, scal_ii, scal_bb, scal_ss, at0, at1, at2, sq_lst, sq_tup, isLst_lst, List.getElem?_cons_zero, List.getElem?_cons_succ, List.set_cons_zero, List.set_cons_succ, V.int.injEq, V.bl.injEq, V.ref.injEq, V.str.injEq, HO.lst.injEq, HO.tup.injEq, Option.some.injEq, exists_eq_left', exists_eq_left, List.cons.injEq, and_true, true_and, decide_eq_true_eq, reduceCtorEq, false_and, exists_false, or_false, false_or, exists_const, and_assoc, exists_and_left, List.append_nil, ix0, ix1, ix2, cm_mod, cdw1009, cdw2003, cdw7, cdw64, cdw2, cm104729, cm2, cm3, upd_same, List.length_cons, List.length_nil, Int.reduceLT, Int.reduceLE, Nat.reduceAdd, Nat.reduceLeDiff, Nat.reduceLT, Int.reduceToNat, r_for1, r_forL, r_forT, r_lcL, r_lc1, r_yes, r_gtupD, wipe_0, wipe_1, List.cons_append, List.nil_append, r_forS, r_ipI, ite_false, ite_true, Bool.not_true, Bool.not_false, decide_true, decide_false, r_isd, r_islt, cD_ty, cD_ref, tD_non, tD_bl, tD_int, tD_str, tD_ref, tH_lst, tH_tup, tH_dK, tH_ins, ki_self, ki_int_bool, ki_non_int, ki_str_int, ki_lt_lst, ki_lt_tup, r_fld, r_sfld, HO.ins.injEq, cx_K, hc, n8, n9, cl, y9, y10, t9, t10]
    rw [e, if_neg (by decide)]
    clear e N kk fs hc hl lk y9 y10
    -- name
    refine seq_intro fun N e => ?_
    obtain ⟨kk, fs, hc, hl, lk⟩ := i10
    have l0 : fs.length < 1000 := Nat.lt_of_le_of_lt hl (by simp only [List.length_cons, List.length_nil]; decide)
    simp only [r_seq, r_next, r_brk, r_cont, r_asg, r_name, r_ret, r_retN, r_drop, r_ifs, r_never, r_var, r_c, r_op, r_un, r_if, r_tst, r_b, r_not, r_and, r_or, r_andV, r_orV, r_notV, r_nil, r_cons, r_tup, r_lst, r_cb, r_call, r_bm, r_bm0, r_sl, r_nopart, r_part, r_rev, r_gnil, r_gcons, r_gsub, r_par, r_aug, r_chain, r_I0, r_I, r_U, r_ixd, r_lend, r_tupd, r_listd, r_sld, r_app, r_ext, r_reverse, r_setl, r_cat, r_int1, r_eqS, r_neS, scal_ii, scal_bb, scal_ss, at0, at1, at2, sq_lst, sq_tup, isLst_lst, List.getElem?_cons_zero, List.getElem?_cons_succ, List.set_cons_zero, List.set_cons_succ, V.int.injEq, V.bl.injEq, V.ref.injEq, V.str.injEq, HO.lst.injEq, HO.tup.injEq, Option.some.injEq, exists_eq_left', exists_eq_left, List.cons.injEq, and_true, true_and, decide_eq_true_eq, reduceCtorEq, false_and, exists_false, or_false, false_or, exists_const, and_assoc, exists_and_left, List.append_nil, ix0, ix1, ix2, cm_mod, cdw1009, cdw2003, cdw7, cdw64, cdw2, cm104729, cm2, cm3, upd_same, List.length_cons, List.length_nil, Int.reduceLT, Int.reduceLE, Nat.reduceAdd, Nat.reduceLeDiff, Nat.reduceLT, Int.reduceToNat, r_for1, r_forL, r_forT, r_lcL, r_lc1, r_yes, r_gtupD, wipe_0, wipe_1, List.cons_append, List.nil_append, r_forS, r_ipI, ite_false, ite_true, Bool.not_true, Bool.not_false, decide_true, decide_false, r_isd, r_islt, cD_ty, cD_ref, tD_non, tD_bl, tD_int, tD_str, tD_ref, tH_lst, tH_tup, tH_dK, tH_ins, ki_self, ki_int_bool, ki_non_int, ki_str_int, ki_lt_lst, ki_lt_tup, r_fld, r_sfld, HO.ins.injEq, cx_K, r_spN, r_spS, hc, n10, l0, cl, of, (une z0), (une z1), (une z2), (une z3), (une z4), (une z5), (une z6)]
    rw [e]
    have i11 := Ini.store (CC := CC) (dx := dx) (f := "name") (y := .str "f") kk hl lk
    have kp : Keep c H10 (L2.upd H10 c (.ins CC dx (putF "name" (.str "f") fs))) := Keep.upd (Keep.refl c H10)
    have t5 := kp p5 _ x5 t5
    have t7 := kp p7 _ x7 t7
    have t8 := kp p8 _ x8 t8
    have t9 := kp p9 _ x9 t9
    have t10 := kp p10 _ x10 t10
    clear hc e N l0 kp
    generalize L2.upd H10 c (.ins CC dx (putF "name" (.str "f") fs)) = H11 at i11 t5 t7 t8 t9 t10 ⊢
    clear kk hl lk fs
    -- path
    refine seq_intro fun N e => ?_
    obtain ⟨kk, fs, hc, hl, lk⟩ := i11
    have l0 : fs.length < 1000 := Nat.lt_of_le_of_lt hl (by simp only [List.length_cons, List.length_nil]; decide)
    simp only [r_seq, r_next, r_brk, r_cont, r_asg, r_name, r_ret, r_retN, r_drop, r_ifs, r_never, r_var, r_c, r_op, r_un, r_if, r_tst, r_b, r_not, r_and, r_or, r_andV, r_orV, r_notV, r_nil, r_cons, r_tup, r_lst, r_cb, r_call, r_bm, r_bm0, r_sl, r_nopart, r_part, r_rev, r_gnil, r_gcons, r_gsub, r_par, r_aug, r_chain, r_I0, r_I, r_U, r_ixd, r_lend, r_tupd, r_listd, r_sld, r_app, r_ext, r_reverse, r_setl, r_cat, r_int1, r_eqS, r_neS, scal_ii, scal_bb, scal_ss, at0, at1, at2, sq_lst, sq_tup, isLst_lst, List.getElem?_cons_zero, List.getElem?_cons_succ, List.set_cons_zero, List.set_cons_succ, V.int.injEq, V.bl.injEq, V.ref.injEq, V.str.injEq, HO.lst.injEq, HO.tup.injEq, Option.some.injEq, exists_eq_left', exists_eq_left, List.cons.injEq, and_true, true_and, decide_eq_true_eq, reduceCtorEq, false_and, exists_false, or_false, false_or, exists_const, and_assoc, exists_and_left, List.append_nil, ix0, ix1, ix2, cm_mod, cdw1009, cdw2003, cdw7, cdw64, cdw2, cm104729, cm2, cm3, upd_same, List.length_cons, List.length_nil, Int.reduceLT, Int.reduceLE, Nat.reduceAdd, Nat.reduceLeDiff, Nat.reduceLT, Int.reduceToNat, r_for1, r_forL, r_forT, r_lcL, r_lc1, r_yes, r_gtupD, wipe_0, wipe_1, List.cons_append, List.nil_append, r_forS, r_ipI, ite_false, ite_true, Bool.not_true, Bool.not_false, decide_true, decide_false, r_isd, r_islt, cD_ty, cD_ref, tD_non, tD_bl, tD_int, tD_str, tD_ref, tH_lst, tH_tup, tH_dK, tH_ins, ki_self, ki_int_bool, ki_non_int, ki_str_int, ki_lt_lst, ki_lt_tup, r_fld, r_sfld, HO.ins.injEq, cx_K, r_spN, r_spS, hc, n11, l0, cl, of, (une z0), (une z1), (une z2), (une z3), (une z4), (une z5), (une z6)]
    rw [e]
    have i12 := Ini.store (CC := CC) (dx := dx) (f := "path") (y := .str "f") kk hl lk
    have kp : Keep c H11 (L2.upd H11 c (.ins CC dx (putF "path" (.str "f") fs))) := Keep.upd (Keep.refl c H11)
    have t5 := kp p5 _ x5 t5
    have t7 := kp p7 _ x7 t7
    have t8 := kp p8 _ x8 t8
    have t9 := kp p9 _ x9 t9
    have t10 := kp p10 _ x10 t10
    clear hc e N l0 kp
    generalize L2.upd H11 c (.ins CC dx (putF "path" (.str "f") fs)) = H12 at i12 t5 t7 t8 t9 t10 ⊢
    clear kk hl lk fs
    -- line
    refine seq_intro fun N e => ?_
    obtain ⟨kk, fs, hc, hl, lk⟩ := i12
    have l0 : fs.length < 1000 := Nat.lt_of_le_of_lt hl (by simp only [List.length_cons, List.length_nil]; decide)
    simp only [r_seq, r_next, r_brk, r_cont, r_asg, r_name, r_ret, r_retN, r_drop, r_ifs, r_never, r_var, r_c, r_op, r_un, r_if, r_tst, r_b, r_not, r_and, r_or, r_andV, r_orV, r_notV, r_nil, r_cons, r_tup, r_lst, r_cb, r_call, r_bm, r_bm0, r_sl, r_nopart, r_part, r_rev, r_gnil, r_gcons, r_gsub, r_par, r_aug, r_chain, r_I0, r_I, r_U, r_ixd, r_lend, r_tupd, r_listd, r_sld, r_app, r_ext, r_reverse, r_setl, r_cat, r_int1, r_eqS, r_neS, scal_ii, scal_bb, scal_ss, at0, at1, at2, sq_lst, sq_tup, isLst_lst, List.getElem?_cons_zero, List.getElem?_cons_succ, List.set_cons_zero, List.set_cons_succ, V.int.injEq, V.bl.injEq, V.ref.injEq, V.str.injEq, HO.lst.injEq, HO.tup.injEq, Option.some.injEq, exists_eq_left', exists_eq_left, List.cons.injEq, and_true, true_and, decide_eq_true_eq, reduceCtorEq, false_and, exists_false, or_false, false_or, exists_const, and_assoc, exists_and_left, List.append_nil, ix0, ix1, ix2, cm_mod, cdw1009, cdw2003, cdw7, cdw64, cdw2, cm104729, cm2, cm3, upd_same, List.length_cons, List.length_nil, Int.reduceLT, Int.reduceLE, Nat.reduceAdd, Nat.reduceLeDiff, Nat.reduceLT, Int.reduceToNat, r_for1, r_forL, r_forT, r_lcL, r_lc1, r_yes, r_gtupD, wipe_0, wipe_1, List.cons_append, List.nil_append, r_forS, r_ipI, ite_false, ite_true, Bool.not_true, Bool.not_false, decide_true, decide_false, r_isd, r_islt, cD_ty, cD_ref, tD_non, tD_bl, tD_int, tD_str, tD_ref, tH_lst, tH_tup, tH_dK, tH_ins, ki_self, ki_int_bool, ki_non_int, ki_str_int, ki_lt_lst, ki_lt_tup, r_fld, r_sfld, HO.ins.injEq, cx_K, r_spN, r_spS, hc, n12, l0, cl, of, (une z0), (une z1), (une z2), (une z3), (une z4), (une z5), (une z6)]
    rw [e]
    have i13 := Ini.store (CC := CC) (dx := dx) (f := "line") (y := .int 1) kk hl lk
    have kp : Keep c H12 (L2.upd H12 c (.ins CC dx (putF "line" (.int 1) fs))) := Keep.upd (Keep.refl c H12)
    have t5 := kp p5 _ x5 t5
    have t7 := kp p7 _ x7 t7
    have t8 := kp p8 _ x8 t8
    have t9 := kp p9 _ x9 t9
    have t10 := kp p10 _ x10 t10
    clear hc e N l0 kp
    generalize L2.upd H12 c (.ins CC dx (putF "line" (.int 1) fs)) = H13 at i13 t5 t7 t8 t9 t10 ⊢
    clear kk hl lk fs
    -- lines
    refine seq_intro fun N e => ?_
    have i13' := i13
    obtain ⟨kk, fs, hc, hl, lk⟩ := i13
    have b5 := kk ln _ z5 a5
    have l0 : fs.length < 1000 := Nat.lt_of_le_of_lt hl (by simp only [List.length_cons, List.length_nil]; decide)
    simp only [r_seq, r_next, r_brk, r_cont, r_asg, r_name, r_ret, r_retN, r_drop, r_ifs, r_never, r_var, r_c, r_op, r_un, r_if, r_tst, r_b, r_not, r_and, r_or, r_andV, r_orV, r_notV, r_nil, r_cons, r_tup, r_lst, r_cb, r_call, r_bm, r_bm0, r_sl, r_nopart, r_part, r_rev, r_gnil, r_gcons, r_gsub, r_par, r_aug, r_chain, r_I0, r_I, r_U, r_ixd, r_lend, r_tupd, r_listd, r_sld, r_app, r_ext, r_reverse, r_setl, r_cat, r_int1, r_eqS, r_neS, scal_ii, scal_bb, scal_ss, at0, at1, at2, sq_lst, sq_tup, isLst_lst, List.getElem?_cons_zero, List.getElem?_cons_succ, List.set_cons_zero, List.set_cons_succ, V.int.injEq, V.bl.injEq, V.ref.injEq, V.str.injEq, HO.lst.injEq, HO.tup.injEq, Option.some.injEq, exists_eq_left', exists_eq_left, List.cons.injEq, and_true, true_and, decide_eq_true_eq, reduceCtorEq, false_and, exists_false, or_false, false_or, exists_const, and_assoc, exists_and_left, List.append_nil, ix0, ix1, ix2, cm_mod, cdw1009, cdw2003, cdw7, cdw64, cdw2, cm104729, cm2, cm3, upd_same, List.length_cons, List.length_nil, Int.reduceLT, Int.reduceLE, Nat.reduceAdd, Nat.reduceLeDiff, Nat.reduceLT, Int.reduceToNat, r_for1, r_forL, r_forT, r_lcL, r_lc1, r_yes, r_gtupD, wipe_0, wipe_1, List.cons_append, List.nil_append, r_forS, r_ipI, ite_false, ite_true, Bool.not_true, Bool.not_false, decide_true, decide_false, r_isd, r_islt, cD_ty, cD_ref, tD_non, tD_bl, tD_int, tD_str, tD_ref, tH_lst, tH_tup, tH_dK, tH_ins, ki_self, ki_int_bool, ki_non_int, ki_str_int, ki_lt_lst, ki_lt_tup, r_fld, r_sfld, HO.ins.injEq, cx_K, r_spB, r_spSs, b5]
    refine ⟨[], rfl, (fun n h => by cases h), fun p14 G hp sG hG => ?_⟩
    have hc1 := sG c _ hc
    simp only [r_seq, r_next, r_brk, r_cont, r_asg, r_name, r_ret, r_retN, r_drop, r_ifs, r_never, r_var, r_c, r_op, r_un, r_if, r_tst, r_b, r_not, r_and, r_or, r_andV, r_orV, r_notV, r_nil, r_cons, r_tup, r_lst, r_cb, r_call, r_bm, r_bm0, r_sl, r_nopart, r_part, r_rev, r_gnil, r_gcons, r_gsub, r_par, r_aug, r_chain, r_I0, r_I, r_U, r_ixd, r_lend, r_tupd, r_listd, r_sld, r_app, r_ext, r_reverse, r_setl, r_cat, r_int1, r_eqS, r_neS, scal_ii, scal_bb, scal_ss, at0, at1, at2, sq_lst, sq_tup, isLst_lst, List.getElem?_cons_zero, List.getElem?_cons_succ, List.set_cons_zero, List.set_cons_succ, V.int.injEq, V.bl.injEq, V.ref.injEq, V.str.injEq, HO.lst.injEq, HO.tup.injEq, Option.some.injEq, exists_eq_left', exists_eq_left, List.cons.injEq, and_true, true_and, decide_eq_true_eq, reduceCtorEq, false_and, exists_false, or_false, false_or, exists_const, and_assoc, exists_and_left, List.append_nil, ix0, ix1, ix2, cm_mod, cdw1009, cdw2003, cdw7, cdw64, cdw2, cm104729, cm2, cm3, upd_same, List.length_cons, List.length_nil, Int.reduceLT, Int.reduceLE, Nat.reduceAdd, Nat.reduceLeDiff, Nat.reduceLT, Int.reduceToNat, r_for1, r_forL, r_forT, r_lcL, r_lc1, r_yes, r_gtupD, wipe_0, wipe_1, List.cons_append, List.nil_append, r_forS, r_ipI, ite_false, ite_true, Bool.not_true, Bool.not_false, decide_true, decide_false, r_isd, r_islt, cD_ty, cD_ref, tD_non, tD_bl, tD_int, tD_str, tD_ref, tH_lst, tH_tup, tH_dK, tH_ins, ki_self, ki_int_bool, ki_non_int, ki_str_int, ki_lt_lst, ki_lt_tup, r_fld, r_sfld, HO.ins.injEq, cx_K, hc1, n13, l0, cl]
    rw [e]
    have iG := Ini.same i13' sG
    have x14 : p14 ≠ c := new_ne hc hp
    have q := Ini.store (CC := CC) (dx := dx) (f := "lines") (y := .ref p14) (kk.trans (Keep.same sG)) hl lk
    have kp14 : Keep c G (L2.upd G c (.ins CC dx (putF "lines" (.ref p14) fs))) := Keep.upd (Keep.refl c G)
    have t5 := kp14 p5 _ x5 (sG _ _ t5)
    have t7 := kp14 p7 _ x7 (sG _ _ t7)
    have t8 := kp14 p8 _ x8 (sG _ _ t8)
    have t9 := kp14 p9 _ x9 (sG _ _ t9)
    have t10 := kp14 p10 _ x10 (sG _ _ t10)
    have t14 := kp14 p14 _ x14 hG
    have i14 := q
    clear hc e N l0 q kp14 iG hc1 i13' b5
    generalize L2.upd G c (.ins CC dx (putF "lines" (.ref p14) fs)) = H14 at i14 t5 t7 t8 t9 t10 t14 ⊢
    clear kk hl lk sG hG hp
    -- handlers
    refine seq_intro fun N e => ?_
    have i14' := i14
    obtain ⟨kk, fs, hc, hl, lk⟩ := i14
    have b6 := kk gd _ z6 a6
    have l0 : fs.length < 1000 := Nat.lt_of_le_of_lt hl (by simp only [List.length_cons, List.length_nil]; decide)
    simp only [r_seq, r_next, r_brk, r_cont, r_asg, r_name, r_ret, r_retN, r_drop, r_ifs, r_never, r_var, r_c, r_op, r_un, r_if, r_tst, r_b, r_not, r_and, r_or, r_andV, r_orV, r_notV, r_nil, r_cons, r_tup, r_lst, r_cb, r_call, r_bm, r_bm0, r_sl, r_nopart, r_part, r_rev, r_gnil, r_gcons, r_gsub, r_par, r_aug, r_chain, r_I0, r_I, r_U, r_ixd, r_lend, r_tupd, r_listd, r_sld, r_app, r_ext, r_reverse, r_setl, r_cat, r_int1, r_eqS, r_neS, scal_ii, scal_bb, scal_ss, at0, at1, at2, sq_lst, sq_tup, isLst_lst, List.getElem?_cons_zero, List.getElem?_cons_succ, List.set_cons_zero, List.set_cons_succ, V.int.injEq, V.bl.injEq, V.ref.injEq, V.str.injEq, HO.lst.injEq, HO.tup.injEq, Option.some.injEq, exists_eq_left', exists_eq_left, List.cons.injEq, and_true, true_and, decide_eq_true_eq, reduceCtorEq, false_and, exists_false, or_false, false_or, exists_const, and_assoc, exists_and_left, List.append_nil, ix0, ix1, ix2, cm_mod, cdw1009, cdw2003, cdw7, cdw64, cdw2, cm104729, cm2, cm3, upd_same, List.length_cons, List.length_nil, Int.reduceLT, Int.reduceLE, Nat.reduceAdd, Nat.reduceLeDiff, Nat.reduceLT, Int.reduceToNat, r_for1, r_forL, r_forT, r_lcL, r_lc1, r_yes, r_gtupD, wipe_0, wipe_1, List.cons_append, List.nil_append, r_forS, r_ipI, ite_false, ite_true, Bool.not_true, Bool.not_false, decide_true, decide_false, r_isd, r_islt, cD_ty, cD_ref, tD_non, tD_bl, tD_int, tD_str, tD_ref, tH_lst, tH_tup, tH_dK, tH_ins, ki_self, ki_int_bool, ki_non_int, ki_str_int, ki_lt_lst, ki_lt_tup, r_fld, r_sfld, HO.ins.injEq, cx_K, r_spB, r_spSs, b6]
    refine ⟨[], rfl, (fun n h => by cases h), fun p15 G hp sG hG => ?_⟩
    have hc1 := sG c _ hc
    simp only [r_seq, r_next, r_brk, r_cont, r_asg, r_name, r_ret, r_retN, r_drop, r_ifs, r_never, r_var, r_c, r_op, r_un, r_if, r_tst, r_b, r_not, r_and, r_or, r_andV, r_orV, r_notV, r_nil, r_cons, r_tup, r_lst, r_cb, r_call, r_bm, r_bm0, r_sl, r_nopart, r_part, r_rev, r_gnil, r_gcons, r_gsub, r_par, r_aug, r_chain, r_I0, r_I, r_U, r_ixd, r_lend, r_tupd, r_listd, r_sld, r_app, r_ext, r_reverse, r_setl, r_cat, r_int1, r_eqS, r_neS, scal_ii, scal_bb, scal_ss, at0, at1, at2, sq_lst, sq_tup, isLst_lst, List.getElem?_cons_zero, List.getElem?_cons_succ, List.set_cons_zero, List.set_cons_succ, V.int.injEq, V.bl.injEq, V.ref.injEq, V.str.injEq, HO.lst.injEq, HO.tup.injEq, Option.some.injEq, exists_eq_left', exists_eq_left, List.cons.injEq, and_true, true_and, decide_eq_true_eq, reduceCtorEq, false_and, exists_false, or_false, false_or, exists_const, and_assoc, exists_and_left, List.append_nil, ix0, ix1, ix2, cm_mod, cdw1009, cdw2003, cdw7, cdw64, cdw2, cm104729, cm2, cm3, upd_same, List.length_cons, List.length_nil, Int.reduceLT, Int.reduceLE, Nat.reduceAdd, Nat.reduceLeDiff, Nat.reduceLT, Int.reduceToNat, r_for1, r_forL, r_forT, r_lcL, r_lc1, r_yes, r_gtupD, wipe_0, wipe_1, List.cons_append, List.nil_append, r_forS, r_ipI, ite_false, ite_true, Bool.not_true, Bool.not_false, decide_true, decide_false, r_isd, r_islt, cD_ty, cD_ref, tD_non, tD_bl, tD_int, tD_str, tD_ref, tH_lst, tH_tup, tH_dK, tH_ins, ki_self, ki_int_bool, ki_non_int, ki_str_int, ki_lt_lst, ki_lt_tup, r_fld, r_sfld, HO.ins.injEq, cx_K, hc1, n14, l0, cl]
    rw [e]
    have iG := Ini.same i14' sG
    have x15 : p15 ≠ c := new_ne hc hp
    have q := Ini.store (CC := CC) (dx := dx) (f := "handlers") (y := .ref p15) (kk.trans (Keep.same sG)) hl lk
    have kp15 : Keep c G (L2.upd G c (.ins CC dx (putF "handlers" (.ref p15) fs))) := Keep.upd (Keep.refl c G)
    have t5 := kp15 p5 _ x5 (sG _ _ t5)
    have t7 := kp15 p7 _ x7 (sG _ _ t7)
    have t8 := kp15 p8 _ x8 (sG _ _ t8)
    have t9 := kp15 p9 _ x9 (sG _ _ t9)
    have t10 := kp15 p10 _ x10 (sG _ _ t10)
    have t14 := kp15 p14 _ x14 (sG _ _ t14)
    have t15 := kp15 p15 _ x15 hG
    have i15 := q
    clear hc e N l0 q kp15 iG hc1 i14' b6
    generalize L2.upd G c (.ins CC dx (putF "handlers" (.ref p15) fs)) = H15 at i15 t5 t7 t8 t9 t10 t14 t15 ⊢
    clear kk hl lk sG hG hp
    -- identity
    have i15' := i15
    obtain ⟨kk, fs, hc, hl, lk⟩ := i15'
    have y0 := lk "argcount" _ rfl
    have y1 := lk "onlycount" _ rfl
    have y2 := lk "stacksize" _ rfl
    have y3 := lk "flags" _ rfl
    have y4 := lk "code" _ rfl
    have y5 := lk "depth" _ rfl
    have y6 := lk "constants" _ rfl
    have y7 := lk "names" _ rfl
    have y8 := lk "slots" _ rfl
    have y9 := lk "kinds" _ rfl
    have y10 := lk "name" _ rfl
    have y11 := lk "path" _ rfl
    have y12 := lk "line" _ rfl
    have y13 := lk "lines" _ rfl
    have y14 := lk "handlers" _ rfl
    have l0 : fs.length < 1000 := Nat.lt_of_le_of_lt hl (by simp only [List.length_cons, List.length_nil]; decide)
    simp only [r_seq, r_next, r_brk, r_cont, r_asg, r_name, r_ret, r_retN, r_drop, r_ifs, r_never, r_var, r_c, r_op, r_un, r_if, r_tst, r_b, r_not, r_and, r_or, r_andV, r_orV, r_notV, r_nil, r_cons, r_tup, r_lst, r_cb, r_call, r_bm, r_bm0, r_sl, r_nopart, r_part, r_rev, r_gnil, r_gcons, r_gsub, r_par, r_aug, r_chain, r_I0, r_I, r_U, r_ixd, r_lend, r_tupd, r_listd, r_sld, r_app, r_ext, r_reverse, r_setl, r_cat, r_int1, r_eqS, r_neS, scal_ii, scal_bb, scal_ss, at0, at1, at2, sq_lst, sq_tup, isLst_lst, List.getElem?_cons_zero, List.getElem?_cons_succ, List.set_cons_zero, List.set_cons_succ, V.int.injEq, V.bl.injEq, V.ref.injEq, V.str.injEq, HO.lst.injEq, HO.tup.injEq, Option.some.injEq, exists_eq_left', exists_eq_left, List.cons.injEq, and_true, true_and, decide_eq_true_eq, reduceCtorEq, false_and, exists_false, or_false, false_or, exists_const, and_assoc, exists_and_left, List.append_nil, ix0, ix1, ix2, cm_mod, cdw1009, cdw2003, cdw7, cdw64, cdw2, cm104729, cm2, cm3, upd_same, List.length_cons, List.length_nil, Int.reduceLT, Int.reduceLE, Nat.reduceAdd, Nat.reduceLeDiff, Nat.reduceLT, Int.reduceToNat, r_for1, r_forL, r_forT, r_lcL, r_lc1, r_yes, r_gtupD, wipe_0, wipe_1, List.cons_append, List.nil_append, r_forS, r_ipI, ite_false, ite_true, Bool.not_true, Bool.not_false, decide_true, decide_false, r_isd, r_islt, cD_ty, cD_ref, tD_non, tD_bl, tD_int, tD_str, tD_ref, tH_lst, tH_tup, tH_dK, tH_ins, ki_self, ki_int_bool, ki_non_int, ki_str_int, ki_lt_lst, ki_lt_tup, r_fld, r_sfld, HO.ins.injEq, cx_K, r_plain]
    intro m md hm hmd nm
    have hc1 : L2.upd (L2.upd H15 md (.own m)) m (.ins MM md []) c = some (.ins CC dx fs) := by rw [upd_ne (ne_new hc hm), upd_ne (ne_new hc hmd)]; exact hc
    simp only [r_seq, r_next, r_brk, r_cont, r_asg, r_name, r_ret, r_retN, r_drop, r_ifs, r_never, r_var, r_c, r_op, r_un, r_if, r_tst, r_b, r_not, r_and, r_or, r_andV, r_orV, r_notV, r_nil, r_cons, r_tup, r_lst, r_cb, r_call, r_bm, r_bm0, r_sl, r_nopart, r_part, r_rev, r_gnil, r_gcons, r_gsub, r_par, r_aug, r_chain, r_I0, r_I, r_U, r_ixd, r_lend, r_tupd, r_listd, r_sld, r_app, r_ext, r_reverse, r_setl, r_cat, r_int1, r_eqS, r_neS, scal_ii, scal_bb, scal_ss, at0, at1, at2, sq_lst, sq_tup, isLst_lst, List.getElem?_cons_zero, List.getElem?_cons_succ, List.set_cons_zero, List.set_cons_succ, V.int.injEq, V.bl.injEq, V.ref.injEq, V.str.injEq, HO.lst.injEq, HO.tup.injEq, Option.some.injEq, exists_eq_left', exists_eq_left, List.cons.injEq, and_true, true_and, decide_eq_true_eq, reduceCtorEq, false_and, exists_false, or_false, false_or, exists_const, and_assoc, exists_and_left, List.append_nil, ix0, ix1, ix2, cm_mod, cdw1009, cdw2003, cdw7, cdw64, cdw2, cm104729, cm2, cm3, upd_same, List.length_cons, List.length_nil, Int.reduceLT, Int.reduceLE, Nat.reduceAdd, Nat.reduceLeDiff, Nat.reduceLT, Int.reduceToNat, r_for1, r_forL, r_forT, r_lcL, r_lc1, r_yes, r_gtupD, wipe_0, wipe_1, List.cons_append, List.nil_append, r_forS, r_ipI, ite_false, ite_true, Bool.not_true, Bool.not_false, decide_true, decide_false, r_isd, r_islt, cD_ty, cD_ref, tD_non, tD_bl, tD_int, tD_str, tD_ref, tH_lst, tH_tup, tH_dK, tH_ins, ki_self, ki_int_bool, ki_non_int, ki_str_int, ki_lt_lst, ki_lt_tup, r_fld, r_sfld, HO.ins.injEq, cx_K, hc1, cl, l0, n15]
    have u := fun (b : Addr) (o : HO) (nb : b ≠ c) (e : H15 b = some o) (o3 : HO) => (show L2.upd (L2.upd (L2.upd H15 md (.own m)) m (.ins MM md [])) c o3 b = some o from by rw [upd_ne nb, upd_ne (ne_new e hm), upd_ne (ne_new e hmd)]; exact e)
    refine k _ (fun b o nb e => ?_) ⟨dx, _, p14, p5, p8, p9, p7, 1, upd_same, ?_, ?_, u _ _ x14 t14 _, ?_, u _ _ x5 t5 _, ?_, u _ _ x8 t8 _, ?_, u _ _ x9 t9 _, ?_, u _ _ x7 t7 _⟩
    · exact u b o nb (kk b o nb e) _
    · rw [lookup_putF, if_neg (by decide)]
      exact y13
    · rw [lookup_putF, if_neg (by decide)]
      exact y12
    · rw [lookup_putF, if_neg (by decide)]
      exact y4
    · rw [lookup_putF, if_neg (by decide)]
      exact y7
    · rw [lookup_putF, if_neg (by decide)]
      exact y8
    · rw [lookup_putF, if_neg (by decide)]
      exact y6
abbrev smade : Stmt := top 71
theorem scmade : FnScope ["_law_data"] ["_law_data"] (defScope smade) := ⟨rfl, rfl, rfl, by decide +kernel, rfl, by decide +kernel, by decide +kernel⟩

/-- a Code made by the law -/
def spMade (CC : Addr) : Sp := fun vs H Q _ => ∃ (d : Addr) (ds : List Nat), vs = [.ref d] ∧ H d = some (.lst (vn ds)) ∧ (∀ n ∈ ds, n < 256) ∧ ∀ c H', H c = none → Same H H' → CodeK CC H' c ds → Q (.ref c) H'
/-- the class Code as its callers see it -/
structure MkCode (P : Program) (w : World) (K : PySem.W.Frag) (mg : Str → Option Value) (base : Heap) (CC : Addr) : Prop where
  ex : ∃ f fd, Mk K CC f ∧ FnOk P w K mg base CX0 3 f fd ["self", "argcount", "onlycount", "stacksize", "flags", "code", "constants", "names", "slots", "kinds", "name", "path", "line", "lines", "handlers"] (spCodeInit CC) ∧ mg "Code" = some (.ref CC) ∧
    Binds K fd ["self", "argcount", "onlycount", "stacksize", "flags", "code", "constants", "names", "slots", "kinds", "name", "path", "line", "lines", "handlers"] []
theorem pe_mak {X : Cx} {CC : Addr} {e : Expr} {es : List Expr} {t : TA} {p pos : Pos} (M : MkCode X.prog X.w X.K X.mg X.base CC) (hr : Room 4 X.A) (hg : Gl X "Code") (ha : PA X (e :: es) t)
    (he : starEach (e :: es) X.env = (false, eval e X.env) :: starEach es X.env := by rfl) (hpl : (backTo pos (starEach es X.env)).any (·.1) = false := by rfl) :
    PE X (.Call (.Name "Code" p) (e :: es) [] pos) (tMake CC (spCodeInit CC) [] E0 t) := by
  obtain ⟨f, fd, M, F, m, b⟩ := M.ex
  exact pe_make M F hr hg m b .nil pass0 ha (by decide) he hpl
theorem r_make {C : Addr} {sp : Sp} {dvs : List V} {E : XK} {t : TA} {σ : L2.St} {H : Hp} {Q : VK} : tMake C sp dvs E t σ H Q = t σ H (fun vs H1 => ∀ x dx, H1 x = none → H1 dx = none → dx ≠ x → sp (.ref x :: (vs ++ dvs)) (L2.upd (L2.upd H1 dx (.own x)) x (.ins C dx [])) (fun v H2 => v = .non ∧ Q (.ref x) H2) E) := rfl
theorem ok_made {CC : Addr} (T : Txt mg) (F : FnP K "_law_made" "_law_made" smade f fd) (M_Code : MkCode P w K mg base CC) : FnOk P w K mg base CX0 5 f fd ["_law_data"] (spMade CC) := by
  refine F.ok scmade (fun vs H Q E h => ?_) (fun cdv A outer s H vs Q E hr h => ?_)
  · obtain ⟨d, ds, rfl, _⟩ := h
    rfl
  · obtain ⟨d, ds, rfl, a0, bd, k⟩ := h
    refine ⟨_, PSs.nox (pss_one (ps_ret (pe_mak M_Code hr rfl (pa_cons pe_int (pa_cons pe_int (pa_cons pe_int (pa_cons pe_int (pa_cons (pv 0) (pa_cons (pe_lst (pa_cons pe_non (pa_cons pe_int pa_nil))) (pa_cons (pe_lst (pa_cons pe_str (pa_cons pe_str (pa_cons pe_str pa_nil)))) (pa_cons (pe_lst (pa_cons pe_str (pa_cons pe_str (pa_cons pe_str (pa_cons pe_str pa_nil))))) (pa_cons (pe_op op_rep (pe_lst (pa_cons pe_int pa_nil)) pe_int) (pa_cons pe_str (pa_cons pe_str (pa_cons pe_int (pa_cons (pe_lst pa_nil) (pa_cons (pe_lst pa_nil) pa_nil))))))))))))))))), ?_⟩
    show (_ : TS) _ [some (.ref d)] H
    simp only [r_seq, r_next, r_brk, r_cont, r_asg, r_name, r_ret, r_retN, r_drop, r_ifs, r_never, r_var, r_c, r_op, r_un, r_if, r_tst, r_b, r_not, r_and, r_or, r_andV, r_orV, r_notV, r_nil, r_cons, r_tup, r_lst, r_cb, r_call, r_bm, r_bm0, r_sl, r_nopart, r_part, r_rev, r_gnil, r_gcons, r_gsub, r_par, r_aug, r_chain, r_I0, r_I, r_U, r_ixd, r_lend, r_tupd, r_listd, r_sld, r_app, r_ext, r_reverse, r_setl, r_cat, r_int1, r_eqS, r_neS, scal_ii, scal_bb, scal_ss, at0, at1, at2, sq_lst, sq_tup, isLst_lst, List.getElem?_cons_zero, List.getElem?_cons_succ, List.set_cons_zero, List.set_cons_succ, V.int.injEq, V.bl.injEq, V.ref.injEq, V.str.injEq, HO.lst.injEq, HO.tup.injEq, Option.some.injEq, exists_eq_left', exists_eq_left, List.cons.injEq, and_true, true_and, decide_eq_true_eq, reduceCtorEq, false_and, exists_false, or_false, false_or, exists_const, and_assoc, exists_and_left, List.append_nil, ix0, ix1, ix2, cm_mod, cdw1009, cdw2003, cdw7, cdw64, cdw2, cm104729, cm2, cm3, upd_same, List.length_cons, List.length_nil, Int.reduceLT, Int.reduceLE, Nat.reduceAdd, Nat.reduceLeDiff, Nat.reduceLT, Int.reduceToNat, r_for1, r_forL, r_forT, r_lcL, r_lc1, r_yes, r_gtupD, wipe_0, wipe_1, List.cons_append, List.nil_append, r_forS, r_ipI, ite_false, ite_true, Bool.not_true, Bool.not_false, decide_true, decide_false, r_isd, r_islt, cD_ty, cD_ref, tD_non, tD_bl, tD_int, tD_str, tD_ref, tH_lst, tH_tup, tH_dK, tH_ins, ki_self, ki_int_bool, ki_non_int, ki_str_int, ki_lt_lst, ki_lt_tup, r_fld, r_sfld, HO.ins.injEq, cx_K, r_make]
    refine ⟨szl (by decide : 2 ≤ 1000), fun p hp => ⟨szl (by decide : 3 ≤ 1000), fun p1 hp1 => ⟨szl (by decide : 4 ≤ 1000), fun p2 hp2 => ⟨szl (by decide : 1 ≤ 1000), fun p3 hp3 => ?_⟩⟩⟩⟩
    have s1 := Same.new' (o := .lst [.non, .int 5]) (Same.refl H) hp
    have q1 : L2.upd H p (.lst [.non, .int 5]) p = some (.lst [.non, .int 5]) := upd_same
    generalize L2.upd H p (.lst [.non, .int 5]) = G1 at *
    have s2 := Same.new' (o := .lst namesV) (Same.refl G1) hp1
    have q2 : L2.upd G1 p1 (.lst namesV) p1 = some (.lst namesV) := upd_same
    generalize L2.upd G1 p1 (.lst namesV) = G2 at *
    have s3 := Same.new' (o := .lst slotsV) (Same.refl G2) hp2
    have q3 : L2.upd G2 p2 (.lst slotsV) p2 = some (.lst slotsV) := upd_same
    generalize L2.upd G2 p2 (.lst slotsV) = G3 at *
    have s4 := Same.new' (o := .lst [.int 32]) (Same.refl G3) hp3
    have q4 : L2.upd G3 p3 (.lst [.int 32]) p3 = some (.lst [.int 32]) := upd_same
    generalize L2.upd G3 p3 (.lst [.int 32]) = G4 at *
    refine ⟨p3, 4, _, rfl, rfl, q4, by decide, by decide, Nat.le_trans (by decide : _ ≤ 1000) (by decide), fun p4 hp4 => ⟨Nat.zero_le _, fun p5 hp5 => ⟨Nat.zero_le _, fun p6 hp6 x dx hx hd nd => ?_⟩⟩⟩
    have s5 := Same.new' (o := .lst (List.replicate (4 : Int).toNat [V.int 32]).flatten) (Same.refl G4) hp4
    have q5 : L2.upd G4 p4 (.lst (List.replicate (4 : Int).toNat [V.int 32]).flatten) p4 = some (.lst (vn kindsL)) := upd_same
    generalize L2.upd G4 p4 (.lst (List.replicate (4 : Int).toNat [V.int 32]).flatten) = G5 at *
    have s6 := Same.new' (o := .lst []) (Same.refl G5) hp5
    have q6 : L2.upd G5 p5 (.lst []) p5 = some (.lst []) := upd_same
    generalize L2.upd G5 p5 (.lst []) = G6 at *
    have s7 := Same.new' (o := .lst []) (Same.refl G6) hp6
    have q7 : L2.upd G6 p6 (.lst []) p6 = some (.lst []) := upd_same
    generalize L2.upd G6 p6 (.lst []) = G7 at *
    have ww : ∀ b o, G7 b = some o → L2.upd (L2.upd G7 dx (.own x)) x (.ins CC dx []) b = some o := fun b o e => by
      rw [upd_ne (ne_new e hx), upd_ne (ne_new e hd)]
      exact e
    have sH : Same H G7 := fun b o e => s7 b o (s6 b o (s5 b o (s4 b o (s3 b o (s2 b o (s1 b o e))))))
    refine ⟨x, dx, d, p, p1, p2, p4, p5, p6, ds, rfl, upd_same, ww _ _ (sH _ _ a0), ww _ _ (s7 _ _ (s6 _ _ (s5 _ _ (s4 _ _ (s3 _ _ (s2 _ _ q1)))))), ww _ _ (s7 _ _ (s6 _ _ (s5 _ _ (s4 _ _ (s3 _ _ q2))))), ww _ _ (s7 _ _ (s6 _ _ (s5 _ _ (s4 _ _ q3)))), ww _ _ (s7 _ _ (s6 _ _ q5)), ww _ _ (s7 _ _ q6), ww _ _ q7, bd, fun H' kk ca => ⟨rfl, k x H' (sH.free hx) ?_ ca⟩⟩
    exact fun b o e => kk b o (ne_new (sH b o e) hx) (ww _ _ (sH b o e))
end
end C58

set_option maxHeartbeats 2000000
namespace C58
open PySem PySem.Spec PyProof.Rows L2
/-! ### several clauses «except x as n» -/
/-- the ends of a suite behind which slot i is empty -/
def offE (D : Ends) (i : Nat) : Ends := { nx := fun τ G => D.nx (τ.set i none) G, rt := D.rt, bk := fun τ G => D.bk (τ.set i none) G, ct := fun τ G => D.ct (τ.set i none) G }
/-- a clause: the class, the slot of the name, the suite's reading -/
abbrev Cla := Value × Nat × (Addr → Value → Option Addr → TS)
def wAses (K : PySem.W.Frag) (m : Nat) (Wout : WX) (D : Ends) : List Cla → WX
  | [] => Wout
  | q :: r => fun cls d σ H => ∃ b, PySem.W.exmOne K cls q.1 = some b ∧ (b = true → ∀ z, H z = none → σ.length = m → q.2.2 z cls d (offE D q.2.1) (σ.set q.2.1 (some (.ref z))) H) ∧ (b = false → wAses K m Wout D r cls d σ H)
inductive AsOk (X : Cx) : List ExceptHandler → List Cla → Prop
  | nil : AsOk X [] []
  | cons {x n : Str} {c : Value} {i : Nat} {ts : Addr → Value → Option Addr → TS} {b : Stmt} {bs : List Stmt} {p q : Pos} {hds : List ExceptHandler} {l : List Cla} (nm : Names X x c) (at_ : X.N[i]? = some n) (lc : X.env.kindOf n = some .local)
      (su : ∀ (z : Addr) (o : Obj) (cls : Value) (d : Option Addr) (pn : List (Addr × Obj)), Zc cls d o → (∃ vs, o.data = .fields vs) → PSs (X.suite z ((z, o) :: pn)) (b :: bs) (ts z cls d)) (r : AsOk X hds l) :
      AsOk X (.ExceptHandler (some (.Name x p)) (some n) (b :: bs) q :: hds) ((c, i, ts) :: l)
/-- where the clauses are looked at: z is caught and stands on the ground -/
structure Down (X : Cx) (pins : List (Addr × Obj)) (σ : L2.St) (H : Hp) (cls : Value) (d : Option Addr) (z : Addr) (B : Heap) (s0 s : Shared) : Prop where
  inv : L2.Inv X pins σ H s0
  nb : ∀ (b : Addr) (o : Obj), s0.heap.get? b = some o → ¬b ∈ frs X.stack → B.get? b = some o
  up : s0.heap.UpToSlots s.heap
  fl : HandSPX.FlyingZ B (X.env :: X.outer) z (Zc cls d) s.heap
  na : H z = none
  os : s.os = s0.os
  ag : AllBare s.gens
section
variable {X : Cx} {pins : List (Addr × Obj)} {σ : L2.St} {H : Hp} {cls : Value} {d : Option Addr} {z : Addr} {B : Heap} {s0 s : Shared}
theorem Down.now (g : Down X pins σ H cls d z B s0 s) : L2.Inv X pins σ H s := g.inv.landed g.nb g.fl.1 g.up g.os g.ag
theorem Down.far (g : Down X pins σ H cls d z B s0 s) {o : Obj} {vs : Array Value} (e : s.heap.get? z = some o) (q : o.data = .fields vs) : z ∉ frs (X.env :: X.outer) := by
  intro hm
  obtain ⟨_, o1, e1, no⟩ := g.fl.2.2.1.mem hm
  have := e.symm.trans e1
  cases this
  exact no _ q
theorem Down.inside (g : Down X pins σ H cls d z B s0 s) (hf : X.env.frame = some X.env.locals) {o : Obj} {vs : Array Value} (e : s.heap.get? z = some o) (q : o.data = .fields vs) : L2.Inv (X.suite z ((z, o) :: (X.pn ++ pins))) [] σ H s := by
  have f := g.far e q
  refine g.now.suite e q g.na (fun w => f ?_) (fun hm => f ?_)
  · exact List.mem_filterMap.mpr ⟨X.env, List.mem_cons_self, hf.trans (congrArg some w.symm)⟩
  · obtain ⟨v, hv, w⟩ := List.mem_filterMap.mp hm
    exact List.mem_filterMap.mpr ⟨v, List.mem_cons_of_mem _ hv, w⟩
/-- no clause is left: the exception goes on -/
theorem Down.on {D : Ends} {Wout : WX} (g : Down X pins σ H cls d z B s0 s) (hs : X.stack = X.env :: X.outer) (hf : X.env.frame = some X.env.locals) (tk : Takes X Wout) (w : Wout cls d σ H) :
    wpAny (model X.prog X.w) X.A (handleBy (.ref z) X.env []) (SP X pins D) X.xe s := by
  refine wpAny_handleBy_nil ?_
  obtain ⟨_, _, _, o, vs, tb, _, _, e, _, q, e1, _⟩ := id g.fl
  have out : wpAny (model X.prog X.w) X.A (setFlight (.ref z) X.env.frame) (fun _ t => wpAny (model X.prog X.w) X.A (throw (.ref z) : Sem Flow) (SP X pins D) X.xe t) X.xe s := by
    rw [hf]
    exact HandSPX.setFlight_upZ g.fl fun k hk uk => wpAny_throw (tk _ _ ⟨z, B, s0, pins, σ, H, cls, d, rfl, g.inv, g.nb, g.up.trans uk, .inr (.inr (hs ▸ hk)), g.na, g.os, g.ag, w⟩)
  unfold PySem.passOn
  refine wpAny_bind (wpAny_field e q e1 ?_)
  rw [if_neg (by simp)]
  first
    | exact wpAny_bind out
    | exact wpAny_bind (wpAny_pure (wpAny_bind out))
end
section
variable {X : Cx}
/-- the clauses, one after the other -/
theorem ases_go (hs : X.stack = X.env :: X.outer) (hf : X.env.frame = some X.env.locals) (hN : X.N.Nodup) {Wout : WX} (tk : Takes X Wout) {D : Ends} {pins : List (Addr × Obj)} {σ : L2.St} {H : Hp} {cls : Value} {d : Option Addr} {z : Addr} {B : Heap} {s0 s : Shared} (g : Down X pins σ H cls d z B s0 s) :
    ∀ {hds : List ExceptHandler} {l : List Cla}, AsOk X hds l → wAses X.K X.N.length Wout D l cls d σ H → wpAny (model X.prog X.w) X.A (handleBy (.ref z) X.env hds) (SP X pins D) X.xe s := by
  intro hds l hk
  have ok := g.inv.ok
  induction hk with
  | nil => exact g.on hs hf tk
  | @cons x n c i ts b bs p q hds l nm at_ lc su r ih =>
    rintro ⟨yes, e, h1, h2⟩
    obtain ⟨o, vs, eo, zo, qo⟩ := g.fl.there
    refine wpAny_handleBy_cons (codeAny_handlers_test ?_) (by intro w; cases w)
    have cl : PySem.W.Looks (model X.prog X.w) s.heap (typeOf (.ref z)) cls := fun _ _ _ _ k w => wpAny_typeOf_ref (k _ _ eo) (by rw [zo.1]; exact w)
    have inn := g.inside hf eo qo
    have named : ∀ {Q : Value → Shared → Prop} {E : Value → Shared → Prop}, Q c s → wpAny (model X.prog X.w) (X.A.mark (some (.ref z))) (eval (.Name x p) X.env) Q E s := by
      intro Q E w
      obtain ⟨g1, g2, g3 | ⟨g3, g4, g5⟩⟩ := nm
      · exact ld_glob (X := X.suite z ((z, o) :: (X.pn ++ pins))) inn g1 g3 w g2
      · exact ld_blt (X := X.suite z ((z, o) :: (X.pn ++ pins))) inn g1 g3 g4 w g5 g2
    refine named ((PySem.W.exm_one (M := model X.prog X.w) g.now.kIn cl e).here ?_)
    cases yes with
    | false => exact ih (h2 rfl)
    | true =>
      refine codeAny_handlers_suite_as (HandSPX.lands_againZ g.fl fun k fk uk => ?_)
      have g' : Down X pins σ H cls d z B s0 { s with heap := k } := ⟨g.inv, g.nb, g.up.trans uk, fk, g.na, g.os, g.ag⟩
      obtain ⟨o', vs', eo', zo', qo'⟩ := fk.there
      refine store_ok (X := X.suite z ((z, o') :: (X.pn ++ pins))) (v := .ref z) (g'.inside hf eo' qo') hN at_ (.inl lc) rfl (fun t it => ?_) (.inr lc)
      refine wpAny_mono ((su z o' cls d (X.pn ++ pins) zo' ⟨_, qo'⟩).run [] t _ H _ it (h1 rfl z g.na g.inv.len)) (fun f t' ht => ?_) (fun _ _ no => no.elim)
      have gone : ∀ {τ : L2.St} {G : Hp} {Q : Shared → Prop}, L2.Inv (X.suite z ((z, o') :: (X.pn ++ pins))) [] τ G t' → (∀ t1, L2.Inv X pins (τ.set i none) G t1 → Q t1) →
          wpAny (model X.prog X.w) X.A (do bindName X.env n .none; unbindBehindTheSuite X.env n q) (fun _ t1 => Q t1) X.xe t' := fun it' w => gone_ok (it'.unsuite ok) hN at_ lc w
      cases f with
      | ret u =>
        obtain ⟨_, _, _, it', ru, w⟩ := ht
        exact gone it' fun _ i1 => ⟨_, _, _, i1, ru, w⟩
      | next => obtain ⟨_, _, it', w⟩ := ht; exact gone it' fun _ i1 => ⟨_, _, i1, w⟩
      | brk => obtain ⟨_, _, it', w⟩ := ht; exact gone it' fun _ i1 => ⟨_, _, i1, w⟩
      | cont => obtain ⟨_, _, it', w⟩ := ht; exact gone it' fun _ i1 => ⟨_, _, i1, w⟩
/-- try: body / except x as n: .. / except y as n: .. -/
theorem ps_try_ases {body : List Stmt} {h1 : ExceptHandler} {hds : List ExceptHandler} {l : List Cla} {pos : Pos} {tb : WX → TS} {Wout : WX} (hs : X.stack = X.env :: X.outer) (hf : X.env.frame = some X.env.locals) (hN : X.N.Nodup) (tk : Takes X Wout)
    (hb : ∀ (W : WX) (pn : List (Addr × Obj)) (xe : Value → Shared → Prop), Takes (X.tr pn xe) W → PassesOwn (model X.prog X.w) X.A X.env xe → PSs (X.tr pn xe) body (tb W)) (hh : AsOk X (h1 :: hds) l) :
    PS X (.Try body (h1 :: hds) [] [] pos) (fun D σ H => tb (wAses X.K X.N.length Wout D l) D σ H) := by
  refine ⟨fun pins s σ H D I h => wpAny_Try_except ?_⟩
  have ok := I.ok
  have fr : X.A.frames = some (X.env :: X.outer) := ok.frames.trans (congrArg some hs)
  refine wpAny_mono ((hb (wAses X.K X.N.length Wout D l) (X.pn ++ pins) _ ?_ PassesOwn.looking).run [] s σ H D (I.toTry _) h) ?_ (fun _ _ w => w)
  · rintro u t ⟨z, B, s0, pins', σ', H', cls, d, rfl, I', nb, up, sky, na, os, ag, w⟩
    show wpAny (model X.prog X.w) X.A (noteFrame (.ref z) X.env) _ _ _
    have sky' : Sky B (X.env :: X.outer) z (Zc cls d) X.env.locals t.heap := hs ▸ sky
    exact Sky.land Zc.steady fr hf sky' fun k fk uk => ases_go (s := { t with heap := k }) hs hf hN tk ⟨I'.ofTry ok, nb, up.trans uk, fk, na, os, ag⟩ hh w
  · intro f t ht
    cases f with
    | next => obtain ⟨_, _, it, w⟩ := ht; exact wpAny_execs_nil ⟨_, _, it.ofTry ok, w⟩
    | brk => obtain ⟨_, _, it, w⟩ := ht; exact ⟨_, _, it.ofTry ok, w⟩
    | cont => obtain ⟨_, _, it, w⟩ := ht; exact ⟨_, _, it.ofTry ok, w⟩
    | ret u => obtain ⟨_, _, _, it, ru, w⟩ := ht; exact ⟨_, _, _, it.ofTry ok, ru, w⟩
end
/-! ### isinstance(e, c) of a caught exception with fields of its own -/
def rIsED (K : PySem.W.Frag) (D a dd : Addr) : List V → Hp → VK → Prop := fun vs H Q => ∃ (c : V) (cv : Value) (b : Bool) (fs : List (Str × V)), vs = [.ref a, c] ∧ clsD c = some cv ∧ PySem.W.kitOne K (.ref D) cv = some b ∧ H dd = some (.xd fs) ∧ Q (.bl b) H
theorem call_isED {X : Cx} {a D dd : Addr} {o : Obj} {pn : List (Addr × Obj)} (C : ExcC X.K D) (hz : Zc (.ref D) (some dd) o) (hf : ∃ vs, o.data = .fields vs) : CallR (X.suite a ((a, o) :: pn)) (.builtin "isinstance") (rIsED X.K D a dd) := by
  rintro pins s σ H xs us Q I r ⟨c, cv, b, fs, rfl, hc, e, hd, q⟩
  obtain ⟨u, us', rfl, ru, r⟩ : ∃ u us', us = u :: us' ∧ L2.RelV (.ref a) u ∧ Vals [c] us' := by cases r with | cons x y => exact ⟨_, _, rfl, x, y⟩
  obtain ⟨v, rfl, rv⟩ := vals1 r
  obtain rfl : u = Value.ref a := ru
  have ev : v = cv := by
    cases c with
    | ty n => cases hc; exact rv
    | ref A => cases hc; exact rv
    | _ => cases hc
  subst ev
  obtain ⟨g, _⟩ := I.pin (a, o) (List.mem_append_left _ List.mem_cons_self)
  obtain ⟨vs, hv⟩ := hf
  have hx : ObjOk X.prog X.w H s.heap dd (.xd fs) := I.hok dd _ hd
  obtain ⟨mA, hns, hr⟩ := hx
  obtain ⟨od, ho, _⟩ := lookIn_ns hns
  have J : PySem.W.InstAt s.heap a o D (some od) := ⟨g, hz.1, by unfold PySem.W.notCls; rw [hv] <;> rfl, by rw [hz.2]; exact ho⟩
  have cl : (PySem.W.clsIn X.K D).isSome = true := by
    obtain ⟨cd, h, _⟩ := PySem.W.any_some C.hd
    rw [h] <;> rfl
  exact PySem.W.kia_one (PySem.W.kitx_exc cl C.hg C.hk C.hs C.ha C.hn C.ht C.hm) I.kIn J e (fun z => nomatch z) fun tk => ⟨.bl b, H, I.kept (t' := tk) fun _ _ z => z, rfl, q⟩

/-- what is known of the exception NoCode -/
structure NoCodeT (K : PySem.W.Frag) (mg : Str → Option Value) (CN CE : Addr) : Prop where
  ex : ExcC K CN
  xf : XfC K CN
  no : PySem.W.findIn K (.ref CN) "field" = some none
  g_CodeError : mg "CodeError" = some (.ref CE)
  g_NoCode : mg "NoCode" = some (.ref CN)
  b_ValueError : mg "ValueError" = none
  i1 : PySem.W.kitOne K (.ref CN) (.ref CE) = some true
  i2 : PySem.W.kitOne K (.ref CN) (.type "ValueError") = some true
  em : PySem.W.exmOne K (.ref CN) (.ref CN) = some true
/-- the def that catches: what it makes of what it calls -/
def TTCaught (CN : Addr) : (XK → Hp → VK → Prop) → Hp → VK → Prop := fun tl H Q =>
  tl (fun cls d H' => cls = .ref CN ∧ ∃ (dd : Addr) (v : V), d = some dd ∧ H' dd = some (.xd [("field", v)]) ∧ ∀ p H'', H' p = none → Same H' H'' → H'' p = some (.tup [.str "code", v]) → Q (.ref p) H'') H (fun _ H1 => Q .non H1)
section
variable {X : Cx}
abbrev scaught : Stmt := top 70
theorem sccaught : FnScope ["_law_ask", "e"] ["_law_ask"] (defScope scaught) := ⟨rfl, rfl, rfl, by decide +kernel, rfl, by decide +kernel, by decide +kernel⟩

theorem r_isED {K : PySem.W.Frag} {D a dd : Addr} {vs : List V} {H : Hp} {Q : VK} : rIsED K D a dd vs H Q = ∃ (c : V) (cv : Value) (b : Bool) (fs : List (Str × V)), vs = [.ref a, c] ∧ clsD c = some cv ∧ PySem.W.kitOne K (.ref D) cv = some b ∧ H dd = some (.xd fs) ∧ Q (.bl b) H := rfl
theorem r_xf {a : Addr} {cls : Value} {d : Option Addr} {C : Addr} {f : Str} {te : TE} {σ : L2.St} {H : Hp} {Q : VK} : tXf a cls d C f te σ H Q = te σ H (fun x H1 => x = .ref a ∧ cls = .ref C ∧ ∃ (dd : Addr) (fs : List (Str × V)) (v : V), d = some dd ∧ H1 dd = some (.xd fs) ∧ fs.lookup f = some v ∧ Q v H1) := rfl
def trS (K : PySem.W.Frag) (CN CE z dd : Addr) : TS := tRet (tIf (tAnd (tB (tCB (rIsED K CN z dd) (tCons (tVar 1) (tCons (tC (.ref CE)) tNil)))) (tB (tCB (rIsED K CN z dd) (tCons (tVar 1) (tCons (tC (.ty "ValueError")) tNil)))))
  (tTup (tCons (tC (.str "code")) (tCons (tXf z (.ref CN) (some dd) CN "field" (tVar 1)) tNil))) (tC .non))
abbrev cau (X : Cx) (g : Addr) (cdg : Value) (s : Shared) (H : Hp) : Cx := (cxOf C8.CX0 X.prog X.w X.K X.mg X.base ["_law_ask", "e"] "_law_caught" (defScope scaught) g cdg X.A X.stack s H C8.E0).nox
theorem caught_gives {CN CE CT CR CB : Addr} {g : Addr} {cdg : Value} {q : Str} (T : Txt X.mg) (I : NoCodeT X.K X.mg CN CE) (gT : X.mg "NoTable" = some (.ref CT)) (gR : X.mg "NoRows" = some (.ref CR)) (gB : X.mg "NoBytes" = some (.ref CB)) :
    LamX.GivesTo X ["_law_ask", "e"] "_law_caught" (defScope scaught) g cdg (defBody scaught) "_law_ask" q (TTCaught CN) := by
  intro f c' s H Q tl act hc h
  have hN : (["_law_ask", "e"] : List Str).Nodup := by decide
  refine ⟨_, pss_cons (ps_try_ases (X := (cxOf C8.CX0 X.prog X.w X.K X.mg X.base ["_law_ask", "e"] "_law_caught" (defScope scaught) g cdg X.A X.stack s H C8.E0).nox)
    (tb := fun W D σ H => ∃ Ech : XK, (∀ cls d σ' H', Ech cls d H' → W cls d σ' H') ∧ σ[0]? = some (some (.ref f)) ∧ H c' = some (LamX.CodeO c' q) ∧ tl Ech H (fun _ H1 => D.nx σ H1))
    rfl rfl hN LamX.takes0 (fun W pn xe tk _ => ?_)
    (.cons (i := 1) (ts := fun z cls d D σ H => ∃ dd, cls = Value.ref CN ∧ d = some dd ∧ trS X.K CN CE z dd D σ H) ⟨rfl, by decide, .inl I.g_NoCode⟩ rfl rfl (fun z o cls d pn hz hf => ?_) (.cons (i := 1) ⟨rfl, by decide, .inl gT⟩ rfl rfl (fun z o cls d pn hz hf => pss_one ps_never)
      (.cons (i := 1) ⟨rfl, by decide, .inl gR⟩ rfl rfl (fun z o cls d pn hz hf => pss_one ps_never) (.cons (i := 1) ⟨rfl, by decide, .inl gB⟩ rfl rfl (fun z o cls d pn hz hf => pss_one ps_never) .nil)))))
    (pss_one (ps_ret pe_non)), ?_⟩
  · refine ⟨fun pins s' σ H' D I h' => ?_⟩
    obtain ⟨Ech, hW, h1, h2, h3⟩ := h'
    exact (pss_one (ps_expr (act W pn xe Ech _ _ tk hW))).run pins s' σ H' D I ⟨h1, h2, h3⟩
  · refine ⟨fun pins s' σ H' D J h' => ?_⟩
    obtain ⟨dd, rfl, rfl, h'⟩ := h'
    have is1 : CallR ((cau X g cdg s H).suite z ((z, o) :: pn)) (.builtin "isinstance") (rIsED X.K CN z dd) := call_isED (X := cau X g cdg s H) I.ex hz hf
    refine PSs.run ?_ pins s' σ H' D J h'
    exact pss_one (ps_ret (pe_ifExp (PW.pt (pw_and (pt_val (pe_callB is1 (by rfl) T.b_isinstance (by decide +kernel) (pa_cons (pv 1) (pa_cons (pe_glob (v := .ref _) rfl I.g_CodeError rfl) pa_nil)))) (pw_and1 (pt_val (pe_callB is1 (by rfl) T.b_isinstance (by decide +kernel) (pa_cons (pv 1) (pa_cons (pe_bltn (v := .ty "ValueError") (by rfl) I.b_ValueError (by decide +kernel) rfl) pa_nil)))))))
      (pe_tup (pa_cons pe_str (pa_cons (pe_xf (X := cau X g cdg s H) I.xf I.no hz hf (pv 1)) pa_nil))) pe_non))
  · refine ⟨_, ?_, rfl, hc, h⟩
    rintro cls d σ' H' ⟨rfl, dd, v, rfl, hd, k⟩
    refine ⟨true, I.em, fun _ z hz hl => ⟨dd, rfl, rfl, ?_⟩, fun e => nomatch e⟩
    obtain ⟨y0, y1, rfl⟩ : ∃ y0 y1, σ' = [y0, y1] := by
      match σ', hl with
      | [y0, y1], _ => exact ⟨y0, y1, rfl⟩
    show trS X.K CN CE z dd _ [y0, some (.ref z)] H'
    unfold trS
    have i1 := I.i1
    have i2 := I.i2
    simp only [r_seq, r_next, r_brk, r_cont, r_asg, r_name, r_ret, r_retN, r_drop, r_ifs, r_never, r_var, r_c, r_op, r_un, r_if, r_tst, r_b, r_not, r_and, r_or, r_andV, r_orV, r_notV, r_nil, r_cons, r_tup, r_lst, r_cb, r_call, r_bm, r_bm0, r_sl, r_nopart, r_part, r_rev, r_gnil, r_gcons, r_gsub, r_par, r_aug, r_chain, r_I0, r_I, r_U, r_ixd, r_lend, r_tupd, r_listd, r_sld, r_app, r_ext, r_reverse, r_setl, r_cat, r_int1, r_eqS, r_neS, scal_ii, scal_bb, scal_ss, at0, at1, at2, sq_lst, sq_tup, isLst_lst, List.getElem?_cons_zero, List.getElem?_cons_succ, List.set_cons_zero, List.set_cons_succ, V.int.injEq, V.bl.injEq, V.ref.injEq, V.str.injEq, HO.lst.injEq, HO.tup.injEq, Option.some.injEq, exists_eq_left', exists_eq_left, List.cons.injEq, and_true, true_and, decide_eq_true_eq, reduceCtorEq, false_and, exists_false, or_false, false_or, exists_const, and_assoc, exists_and_left, List.append_nil, ix0, ix1, ix2, cm_mod, cdw1009, cdw2003, cdw7, cdw64, cdw2, cm104729, cm2, cm3, upd_same, List.length_cons, List.length_nil, Int.reduceLT, Int.reduceLE, Nat.reduceAdd, Nat.reduceLeDiff, Nat.reduceLT, Int.reduceToNat, r_for1, r_forL, r_forT, r_lcL, r_lc1, r_yes, r_gtupD, wipe_0, wipe_1, List.cons_append, List.nil_append, r_forS, r_ipI, ite_false, ite_true, Bool.not_true, Bool.not_false, decide_true, decide_false, r_isd, r_islt, cD_ty, cD_ref, tD_non, tD_bl, tD_int, tD_str, tD_ref, tH_lst, tH_tup, tH_dK, tH_ins, ki_self, ki_int_bool, ki_non_int, ki_str_int, ki_lt_lst, ki_lt_tup, r_fld, r_sfld, HO.ins.injEq, cx_K, hd, i1, i2, r_isED, r_xf]
    exact ⟨_, rfl, _, rfl, _, rfl, v, rfl, szl (by decide), fun p hp => k p _ hp (Same.new' (Same.refl H') hp) upd_same⟩
end
end C58

set_option maxHeartbeats 2000000
namespace C58
open PySem PySem.Spec PyProof.Rows L2
/-! ### the end of a law, told of the very state in which it is called -/
section
variable {P : Program} {w : World} {K : PySem.W.Frag} {mg mb : Str → Option Value} {fa a : Addr} {cs : List (Addr × Addr)} {s : Shared} {vs : List Value} {ns : List Int}
/-- tracked: the tables of code objects, and the script where nothing written holds it -/
def trk (K : PySem.W.Frag) (T : List Addr) (a : Addr) (vs : List Value) (ns : List Int) : Hp := fun b =>
  if b ∈ T then some (.tbl #[]) else if b = a ∧ K.lookup a = none then some (.frz { cls := .type "list", data := .seq vs.toArray } (.lst (ns.map V.int))) else none
theorem trk_tab {T : List Addr} {b : Addr} (h : b ∈ T) : trk K T a vs ns b = some (.tbl #[]) := if_pos h
theorem trk_cases {T : List Addr} {b : Addr} {u : HO} (h : trk K T a vs ns b = some u) : (b ∈ T ∧ u = .tbl #[]) ∨ (b ∉ T ∧ b = a ∧ K.lookup a = none ∧ u = .frz { cls := .type "list", data := .seq vs.toArray } (.lst (ns.map V.int))) := by
  unfold trk at h
  split at h
  · exact .inl ⟨by assumption, (Option.some.inj h).symm⟩
  · split at h
    · rename_i n q
      exact .inr ⟨n, q.1, q.2, (Option.some.inj h).symm⟩
    · cases h
/-- what the law's run at callerA must do -/
def RunsAt (P : Program) (w : World) (K : PySem.W.Frag) (mg : Str → Option Value) (cs : List (Addr × Addr)) (fa a : Addr) (s : Shared) (ns : List Int) : Prop := ∀ (base : Heap) (H : Hp), K.In base → base.Ns mainGlobals mg → (∀ p ∈ cs, LamX.TabB base mg p.1 p.2) → Env0 P w K mg base callerA [] s H →
  (∀ p ∈ cs, H p.2 = some (.tbl #[])) → SqL K H a (ns.map V.int) → codeAny (model P w) callerA (.call (.ref fa) ⟨[.ref a], []⟩) (CR CX0 [] P w H s (fun v _ => v = .bl true) E0) s
theorem end_run (KX : K.In s.heap) (hns : s.heap.Ns mainGlobals mg) (hb : s.heap.Ns builtinsNs mb) (hbb : ∀ x : Str, x ≠ "__name__" → mb x = bootBuiltins x) (hlim : s.heap.NoLimit) (hg : s.gens = #[])
    (hT : ∀ p ∈ cs, s.heap.get? p.2 = some { cls := .none, data := .fields #[] }) (nT : ∀ p ∈ cs, K.lookup p.2 = none) (C : ∀ p ∈ cs, PySem.W.CodeHd s.heap p.1 p.2)
    (hbm : ∃ (bm : Addr) (ob : Obj), mg "__builtins__" = some (.ref bm) ∧ bm ≠ builtinsNs ∧ s.heap.get? bm = some ob ∧ ob.cls = .type "module" ∧ ob.dict = some builtinsNs ∧ ob.data = .plain)
    (ha : s.heap.get? a = some { cls := .type "list", data := .seq vs.toArray }) (hi : IntsAre vs ns) (hl : ns.length ≤ sizeLine) (R : RunsAt P w K mg cs fa a s ns) :
    codeAny (model P w) callerA (.call (.ref fa) ⟨[.ref a], []⟩) (fun r s' => r = .ok (.ret (.bool true)) ∧ OldK s.heap s'.heap ∧ s'.os = s.os ∧ AllBare s'.gens) s := by
  have lens := hi.length
  obtain ⟨T, eT⟩ : ∃ T, T = cs.map (·.2) := ⟨_, rfl⟩
  have inT : ∀ {b : Addr}, b ∈ T → ∃ p ∈ cs, p.2 = b := fun {b} h => by rw [eT] at h; obtain ⟨p, hp, e⟩ := List.mem_map.mp h; exact ⟨p, hp, e⟩
  have toT : ∀ p ∈ cs, p.2 ∈ T := fun p hp => by rw [eT]; exact List.mem_map_of_mem hp
  have tabO : ∀ {b : Addr}, b ∈ T → s.heap.get? b = some { cls := .none, data := .fields #[] } := fun h => by obtain ⟨p, hp, rfl⟩ := inT h; exact hT p hp
  have aT : a ∉ T := fun h => by
    have := ha.symm.trans (tabO h)
    cases congrArg Obj.data (Option.some.inj this)
  generalize eH : trk K T a vs ns = H
  have cas : ∀ {b u}, H b = some u → (b ∈ T ∧ u = .tbl #[]) ∨ (b ∉ T ∧ b = a ∧ K.lookup a = none ∧ u = .frz { cls := .type "list", data := .seq vs.toArray } (.lst (ns.map V.int))) := fun {b u} h => trk_cases (by rw [eH]; exact h)
  -- what is neither a row of values nor an empty row of fields is hidden from nobody
  have free : ∀ {b : Addr} {o : Obj}, s.heap.get? b = some o → (∀ xs n, o.data ≠ .seq xs n) → o.data ≠ .fields #[] → H b = none := fun {b o} e h1 h2 => by
    cases q : H b with
    | none => rfl
    | some u =>
      rcases cas q with ⟨h, _⟩ | ⟨_, rfl, _⟩
      · cases e.symm.trans (tabO h)
        exact absurd rfl h2
      · cases e.symm.trans ha
        exact absurd rfl (h1 _ _)
  have seen : ∀ {b : Addr} {o : Obj}, s.heap.get? b = some o → (∀ xs n, o.data ≠ .seq xs n) → o.data ≠ .fields #[] → (hidT s.heap H).get? b = some o := fun e h1 h2 => hidT_get e (free e h1 h2)
  have nsS : ∀ {b : Addr} {m : Str → Option Value}, s.heap.Ns b m → (hidT s.heap H).Ns b m := fun ⟨o, es, ep, e, d, r⟩ => ⟨o, es, ep, seen e (by rw [d]; intro _ _ z; cases z) (by rw [d]; intro z; cases z), d, r⟩
  have KB : K.In (hidT s.heap H) := fun b o e => hidT_get (KX b o e) (by
    cases q : H b with
    | none => rfl
    | some u =>
      rcases cas q with ⟨h, _⟩ | ⟨_, rfl, n, _⟩
      · obtain ⟨p, hp, rfl⟩ := inT h
        cases (nT p hp).symm.trans e
      · cases n.symm.trans e)
  have MM : L2.Mod K mg (hidT s.heap H) := ⟨KB, nsS hns, ⟨mb, nsS hb, hbb⟩, by obtain ⟨mc, h1, h2⟩ := hlim; exact ⟨mc, nsS h1, h2⟩⟩
  have OK : HOk P w H s.heap := fun b u q => by
    rcases cas q with ⟨h, rfl⟩ | ⟨_, rfl, _, rfl⟩
    · exact tabO h
    · exact ⟨ha, by rw [List.length_map]; exact hl, vs, _, vals_ints hi, ha⟩
  have SQ : SqL K H a (ns.map V.int) := by
    cases k : K.lookup a with
    | none => exact .inl (.inr ⟨_, by rw [← eH]; unfold trk; rw [if_neg aT, if_pos ⟨rfl, k⟩]⟩)
    | some o =>
      cases (KX a o k).symm.trans ha
      exact .inr ⟨_, vs.toArray, _, k, rfl, rfl, rfl, by rw [List.size_toArray, lens]; exact hl, by simpa using vals_ints hi⟩
  have TB : ∀ p ∈ cs, LamX.TabB (hidT s.heap H) mg p.1 p.2 := fun p hp => by
    refine ⟨?_, ?_, ?_⟩
    · obtain ⟨o, us, file, tf, flags, tg, inF, text, tt, e1, r1, r2, r3, r⟩ := C p hp
      exact ⟨o, us, file, tf, flags, tg, inF, text, tt, seen e1 (by rw [r2]; intro _ _ z; cases z) (by rw [r2]; intro z; cases z; simp at r3), r1, r2, r3, r⟩
    · obtain ⟨bm, ob, b1, b2, b3, b4, b5, b6⟩ := hbm
      refine ⟨bm, ob, b1, b2, ?_, ?_, seen b3 (by rw [b6]; intro _ _ z; cases z) (by rw [b6]; intro z; cases z), b4, b5, b6⟩
      · rintro rfl
        obtain ⟨o, es, ep, e, d, _⟩ := hns
        cases e.symm.trans b3
        cases d.symm.trans b6
      · rintro rfl
        cases (hT p hp).symm.trans b3
        cases b6
    · intro z
      obtain ⟨o, es, ep, e, d, _⟩ := hns
      rw [z] at e
      cases (hT p hp).symm.trans e
      cases d
  have E0' : Env0 P w K mg (hidT s.heap H) callerA [] s H := ⟨rfl, MM, fun b o e => of_hidT e, Nat.le_of_eq (hidT_size _ _), trivial, (fun b hb => by cases hb), OK, .of_eq hg⟩
  refine codeAny_mono (R _ H KB (nsS hns) TB E0' (fun p hp => by rw [← eH]; exact trk_tab (toT p hp)) SQ) fun r s' h => ?_
  cases r with
  | error e => exact False.elim h
  | ok fl =>
    cases fl with
    | ret u =>
      obtain ⟨v, H', os, bare, un, ok', rv, rfl⟩ := h
      obtain rfl : u = Value.bool true := rv
      have stay : ∀ {b : Addr} {o : Obj}, b ∉ T → s.heap.get? b = some o → s'.heap.get? b = some o := fun {b o} n e => by
        cases q : H b with
        | none => exact un.keep b o e q (by intro z; cases z) (by simp)
        | some u =>
          rcases cas q with ⟨h, _⟩ | ⟨_, rfl, _, rfl⟩
          · exact absurd h n
          · cases e.symm.trans ha
            exact (ok' _ _ (un.frzs _ _ _ q)).1
      have more : ∀ {b : Addr}, b ∈ T → ∃ xs : Array Value, s'.heap.get? b = some { cls := .none, data := .fields xs } := fun {b} h => by
        obtain ⟨xs, z⟩ := un.tbls b #[] (by rw [← eH]; exact trk_tab h)
        exact ⟨_, ok' b _ z⟩
      refine ⟨rfl, ⟨fun b o e => ?_, fun b o e => ?_⟩, os, bare⟩
      · rcases Classical.em (b ∈ T) with h | h
        · obtain ⟨xs, hx⟩ := more h
          cases (tabO h).symm.trans e
          obtain ⟨p, hp, rfl⟩ := inT h
          exact .inr (.inl ⟨((C p hp).tab (hT p hp)).isCodeTable, rfl, #[], xs, rfl, hx.trans (by rw [Array.empty_append])⟩)
        · exact .inl (stay h e)
      · rcases Classical.em (b ∈ T) with h | h
        · obtain ⟨xs, hx⟩ := more h
          exact ⟨_, hx⟩
        · exact ⟨o, stay h e⟩
    | _ => exact False.elim h
/-- the law's walk, from its run -/
theorem walk_run {l : PySem.W.OpenLaw} {n : Nat} {q : Program} {loose : List Str} {XP : (Str → Option Value) → Heap → Prop} {YP : World → Heap → Prop} {d : DefRec} (hn : l.most = some n) (hn2 : n ≤ sizeLine) (hdf : d.params.defaults = [])
    (F : ∀ (w : World) (mg : Str → Option Value) (fa : Addr) (h : Heap), YP w h → h.Ns mainGlobals mg → mg d.name = some (.ref fa) → ∃ (K : PySem.W.Frag) (cs : List (Addr × Addr)), K.In h ∧ (∀ p ∈ cs, h.get? p.2 = some { cls := .none, data := .fields #[] }) ∧
      (∀ p ∈ cs, K.lookup p.2 = none) ∧ (∀ p ∈ cs, PySem.W.CodeHd h p.1 p.2) ∧ ∀ (s : Shared) (a : Addr) (ns : List Int), ns.length ≤ n → (∀ z ∈ ns, Builtin.Int.intBits z ≤ 1048576) → RunsAt l.prog w K mg cs fa a s ns) :
    PySem.W.WalkO q loose XP YP l.row.toRowW d [] (fun f vs => PySem.call f vs) := by
  refine Att.attach_callB hn hdf fun w s0 s1 mg mb fa o pm cd doc a vs ns G Y ho hd hcd hmg hobj hints hlen hbits hg => ?_
  obtain ⟨K, cs, kx, hT, nT, C, R⟩ := F w mg fa _ Y G.T.g hmg
  exact end_run kx G.T.g G.T.b G.T.builtins G.T.nolimit hg hT nT C G.T.bmain hobj hints (Nat.le_trans hlen hn2) (R s1 a ns hlen hbits)
end

section
variable {X : Cx}
/-! ### the script + a written list -/
def rCatS (K : PySem.W.Frag) : R2 := fun x y H Q => ∃ l b xs zs, x = .ref l ∧ y = .ref b ∧ SqL K H l xs ∧ H b = some (.lst zs) ∧ xs.length + zs.length ≤ sizeLine ∧ ∀ p, H p = none → Q (.ref p) (L2.upd H p (.lst (xs ++ zs)))
theorem op_catS : OpR X (binaryOp .Add) (rCatS X.K) := by
  rintro pins s σ H x y v u Q I rx ry ⟨l, b, xs, zs, rfl, rfl, hs, hb, hz, q⟩
  cases rx
  cases ry
  obtain ⟨i1, r1, ⟨⟨c1, d1, t1, sl1⟩, n1, e1, k1, _, k2⟩, _⟩ := I.list hs
  obtain ⟨_, i2, n2, r2, l2, e2⟩ := I.lstM hb
  dsimp only at k1 k2
  subst k1 k2
  have l1 := r1.length
  refine concat_meets ⟨_, e1, rfl⟩ ⟨_, e2, rfl⟩ noFill_list_add seq_list_add PySem.F.slot_list_add PySem.F.entry_list_add (PySem.F.args_list_add_2 _ _) (list_addW l b i1.toArray i2.toArray n1 n2 d1 none sl1 #[] (by rw [List.size_toArray, List.size_toArray]; omega)) ⟨e1, e2, ?_⟩
  rw [show i1.toArray ++ i2.toArray = (i1 ++ i2).toArray from by simp]
  exact ⟨.ref _, _, I.lnew (t' := s.toks) (r1.append r2) (by rw [List.length_append]; omega), rfl, q _ I.fresh⟩
/-! ### repr of data -/
def rReprD (K : PySem.W.Frag) : List V → Hp → VK → Prop := fun vs H Q => ∃ (a : Addr) (d : PyData), vs = [.ref a] ∧ Dp K H (.ref a) d ∧ d.showable = true ∧ d.hasDict = false ∧ d.depth ≤ 10 ∧ d.shown.length ≤ sizeLine ∧ Q (.str d.shown) H
theorem call_repr_D (hg : X.A.guards = some []) (hu : X.A.units + 20 < cLine) : CallR X (.builtin "repr") (rReprD X.K) := by
  rintro pins s σ H xs us Q I r ⟨a, d, rfl, hd, h1, h2, h3, h4, q⟩
  obtain ⟨v, rfl, rv⟩ := vals1 r
  obtain ⟨as, rd⟩ := Dp.reads I d _ v hd rv
  obtain rfl : v = Value.ref a := rv
  exact repr_of_reads' rd h1 (fun z => by rw [h2] at z; cases z) hg (by omega) (fun _ _ e => e) (fun h' u tk k => ⟨.str d.shown, H, I.kept (t' := tk) k, ⟨_, rfl⟩, q⟩) h4
/-! ### a call by one keyword; a def that may raise -/
structure CalX (P : Program) (w : World) (K : PySem.W.Frag) (mg : Str → Option Value) (base : Heap) (k : Nat) (x y : Str) (sp : Sp) : Prop where
  ex : ∃ f fd, FnOk P w K mg base (L2.CX P w) k f fd [y] sp ∧ mg x = some (.ref f) ∧ PySem.W.keepIn K (.ref f) = true ∧ Binds K fd [y] [] ∧ KBn K fd [y] 0 [y] (fun _ ws => ws) (fun _ zs => zs)
theorem pe_calX {W : WX} {E : XK} {k : Nat} {x y : Str} {sp : Sp} {e : Expr} {t : TA} {p pos : Pos} (C : CalX X.prog X.w X.K X.mg X.base k x y sp) (hr : Room k X.A) (hg : Gl X x) (tk : Takes X W) (hW : ∀ cls d σ H, E cls d H → W cls d σ H) (ha : PA X [e] t)
    (hdb : (x == ("__debug__" : Str)) = false := by decide) (he : starEach [e] X.env = (false, eval e X.env) :: starEach [] X.env := by rfl) (hpl : (backTo pos (starEach [] X.env)).any (·.1) = false := by rfl) :
    PE X (.Call (.Name x p) [e] [] pos) (tCall sp [] E t) := by
  obtain ⟨f, fd, F, m, kp, b, _⟩ := C.ex
  exact pe_call F hr hg m kp b .nil (passes_call tk hW) ha hdb he hpl
def QK1 (sp : Sp) (Q : VK) (E : XK) : List V → Hp → Prop := fun zs H1 => match zs with
  | [v] => sp [v] H1 Q E
  | _ => False
theorem qk1 {sp : Sp} {Q : VK} {E : XK} {zs : List V} {H : Hp} (h : QK1 sp Q E zs H) : ∃ v, zs = [v] ∧ sp [v] H Q E := by
  match zs, h with
  | [v], h => exact ⟨v, rfl, h⟩
def tCallK1 (sp : Sp) (E : XK) (te : TE) : TE := fun σ H Q => te σ H fun v H1 => sp [v] H1 Q E
theorem pe_calXK {W : WX} {E : XK} {k : Nat} {x y : Str} {sp : Sp} {e : Expr} {te : TE} {p pos kpos : Pos} (C : CalX X.prog X.w X.K X.mg X.base k x y sp) (hr : Room k X.A) (hg : Gl X x) (tk : Takes X W) (hW : ∀ cls d σ H, E cls d H → W cls d σ H) (ha : PE X e te)
    (hall : (backToKw pos (keywordEach [⟨some y, e, kpos⟩] X.env)).all (·.1.isSome) = true := by rfl) (hks : (backToKw pos (keywordEach [⟨some y, e, kpos⟩] X.env)).filterMap (·.1) = [y] := by rfl) (hdb : (x == ("__debug__" : Str)) = false := by decide)
    (hpl : ((backTo pos (starEach [] X.env)).any (·.1) || (backToKw pos (keywordEach [⟨some y, e, kpos⟩] X.env)).any (·.1.isNone)) = false := by rfl) :
    PE X (.Call (.Name x p) [] [⟨some y, e, kpos⟩] pos) (tCallK1 sp E te) := by
  obtain ⟨f, fd, F, m, kp, _, b⟩ := C.ex
  refine ⟨fun pins s σ H Q I h => wpAny_Call_Name_kw (ld_glob I hg m (PySem.W.callWith_KW0 (h₀ := X.base) I.ok.mod.kin kp hall ?_ hpl) hdb)⟩
  refine thn ((pk_cons (nm := some y) (kpos := kpos) ha pk_nil).run pos pins s σ H (QK1 sp Q E) I h) fun ws s2 ⟨zs, H2, I2, rz, q⟩ => ⟨I2.kIn, ?_⟩
  obtain ⟨v, rfl, q⟩ := qk1 q
  rw [hks]
  exact run_fnN (us := []) (vs := []) (n := 0) F hr b (passes_call tk hW) I2 .nil rz rfl rfl q
structure CalK (P : Program) (w : World) (K : PySem.W.Frag) (mg : Str → Option Value) (base : Heap) (k : Nat) (x y : Str) (sp : Sp) : Prop where
  ex : ∃ f fd, FnOk P w K mg base CX0 k f fd [y] sp ∧ mg x = some (.ref f) ∧ PySem.W.keepIn K (.ref f) = true ∧ Binds K fd [y] [] ∧ KBn K fd [y] 0 [y] (fun _ ws => ws) (fun _ zs => zs)
theorem CalK.cal {P : Program} {w : World} {K : PySem.W.Frag} {mg : Str → Option Value} {base : Heap} {k : Nat} {x y : Str} {sp : Sp} (C : CalK P w K mg base k x y sp) : Cal P w K mg base k x [y] sp := by
  obtain ⟨f, fd, F, m, kp, b, _⟩ := C.ex
  exact ⟨⟨f, fd, F, m, kp, b⟩⟩
theorem pe_calK {k : Nat} {x y : Str} {sp : Sp} {e : Expr} {te : TE} {p pos kpos : Pos} (C : CalK X.prog X.w X.K X.mg X.base k x y sp) (hr : Room k X.A) (hg : Gl X x) (ha : PE X e te)
    (hall : (backToKw pos (keywordEach [⟨some y, e, kpos⟩] X.env)).all (·.1.isSome) = true := by rfl) (hks : (backToKw pos (keywordEach [⟨some y, e, kpos⟩] X.env)).filterMap (·.1) = [y] := by rfl) (hdb : (x == ("__debug__" : Str)) = false := by decide)
    (hpl : ((backTo pos (starEach [] X.env)).any (·.1) || (backToKw pos (keywordEach [⟨some y, e, kpos⟩] X.env)).any (·.1.isNone)) = false := by rfl) :
    PE X (.Call (.Name x p) [] [⟨some y, e, kpos⟩] pos) (tCallK1 sp E0 te) := by
  obtain ⟨f, fd, F, m, kp, _, b⟩ := C.ex
  refine ⟨fun pins s σ H Q I h => wpAny_Call_Name_kw (ld_glob I hg m (PySem.W.callWith_KW0 (h₀ := X.base) I.ok.mod.kin kp hall ?_ hpl) hdb)⟩
  refine thn ((pk_cons (nm := some y) (kpos := kpos) ha pk_nil).run pos pins s σ H (QK1 sp Q E0) I h) fun ws s2 ⟨zs, H2, I2, rz, q⟩ => ⟨I2.kIn, ?_⟩
  obtain ⟨v, rfl, q⟩ := qk1 q
  rw [hks]
  exact run_fnN (us := []) (vs := []) (n := 0) F hr b pass0 I2 .nil rz rfl rfl q
end
/-- one parameter, given by its name -/
theorem kw1 {K : PySem.W.Frag} {x qual : Str} {params : Arguments} {body : List Stmt} {scope : Scope} {f : Addr} {fd : FuncData} {p : Str} (F : FunD K x qual params body scope [] [] f fd)
    (h : ∀ (kV doc pm : Value) (an : Option Addr) (cdv ct w : Value), bindArgs (PySem.W.fnOf x qual params body scope .none kV doc pm an cdv ct) ⟨[], [(p, w)]⟩ = pure [(p, w)]) : KBn K fd [p] 0 [p] (fun _ ws => ws) (fun _ zs => zs) := by
  obtain ⟨oc, od, dV, kV, doc, pm, an, cdv, ct, osl, rfl, lk, hcd, hD, hK⟩ := F.ex
  rcases hD with ⟨_, rfl⟩ | ⟨e, _⟩
  · refine ⟨fun s us ws _ l1 l2 => ?_, fun _ r => r⟩
    match us, l1, ws, l2 with
    | [], _, [w], _ => exact .of_eq (h kV doc pm an cdv ct w)
  · exact absurd rfl e

theorem pe_cal0 {X : Cx} {k : Nat} {x : Str} {sp : Sp} {p pos : Pos} (C : Cal X.prog X.w X.K X.mg X.base k x [] sp) (hr : Room k X.A) (hg : Gl X x) (hdb : (x == ("__debug__" : Str)) = false := by decide) : PE X (.Call (.Name x p) [] [] pos) (tCall sp [] E0 tNil) := by
  obtain ⟨f, fd, F, m, kp, b⟩ := C.ex
  exact pe_call0 F hr hg m kp b .nil pass0 hdb
abbrev Nlaw : List Str := ["_law_script", "_law_table_here", "_law_cell", "_law_source", "_law_chunks", "_law_turn", "_law_at", "_law_tail", "_law_bad", "_law_odd", "_law_k"]
abbrev slaw : Stmt := top 74
theorem sclaw : FnScope ["_law_script", "_law_table_here", "_law_cell", "_law_source", "_law_chunks", "_law_turn", "_law_at", "_law_tail", "_law_bad", "_law_odd", "_law_k"] ["_law_script"] (defScope slaw) := ⟨rfl, rfl, rfl, by decide +kernel, rfl, by decide +kernel, by decide +kernel⟩

/-- what the law calls, and its own function object -/
structure LawT (P : Program) (w : World) (K : PySem.W.Frag) (mg : Str → Option Value) (base : Heap) (CC CN CE CT CR CB gC : Addr) (cdC : Value) : Prop where
  T : Txt mg
  I : CodeT K mg CC
  N : NoCodeT K mg CN CE
  gT : mg "NoTable" = some (.ref CT)
  gR : mg "NoRows" = some (.ref CR)
  gB : mg "NoBytes" = some (.ref CB)
  C_source_of : Cal P w K mg base 1 "_law_source_of" ["_law_cell"] spSrc
  C_next : Cal P w K mg base 1 "_law_next" ["_law_source", "_law_many"] spNext
  C_table : Cal P w K mg base 1 "_law_table" [] spTable
  C_good : Cal P w K mg base 3 "_law_good" ["_law_source", "_law_table_here"] spGood
  C_wrong : Cal P w K mg base 3 "_law_wrong" ["_law_source", "_law_table_here"] spWrong
  C_made : Cal P w K mg base 5 "_law_made" ["_law_data"] (spMade CC)
  CE_instr : CalE P w K mg base 4 "instructions" ["code"] (spInstr CC CN wdF kdF K)
  g_caught : mg "_law_caught" = some (.ref gC)
  k_caught : PySem.W.keepIn K (.ref gC) = true
  c_caught : PySem.W.codeIn K cdC "_law_caught" = true
  f_caught : ∃ (oc : Value) (od : Option Addr) (dV kV doc pm ct : Value) (an : Option Addr) (osl : Array (Option Value)), K.lookup gC = some ⟨oc, od, .func (PySem.W.fnOf "_law_caught" "_law_caught" (defArgs scaught) (defBody scaught) (defScope scaught) dV kV doc pm an cdC ct), osl⟩ ∧
    Binds K (PySem.W.fnOf "_law_caught" "_law_caught" (defArgs scaught) (defBody scaught) (defScope scaught) dV kV doc pm an cdC ct) ["_law_ask"] []
section
variable {P : Program} {w : World} {K : PySem.W.Frag} {mg : Str → Option Value} {base : Heap}
abbrev Xlaw (P : Program) (w : World) (K : PySem.W.Frag) (mg : Str → Option Value) (base : Heap) (fa co : Addr) (s : Shared) (H : Hp) : Cx := cxOf CX0 P w K mg base Nlaw "law" (defScope slaw) fa (.ref co) callerA [] s H E0
/-- the law's lambdas, handed to the def that catches -/
def tLamL (K : PySem.W.Frag) (CC CN Pt : Addr) (q : Str) (i : Nat) : TE := LamX.tLam [(Pt, q)] (TTCaught CN) (fun E => tCall (spInstr CC CN wdF kdF K) [] E (tCons (tVar i) tNil))
def tLamE (K : PySem.W.Frag) (CC CN Pt : Addr) (q : Str) : TE := LamX.tLam [(Pt, q)] (TTCaught CN) (fun E => tCall (spInstr CC CN wdF kdF K) [] E (tCons (tCall (spMade CC) [] E0 (tCons (tLst tNil) tNil)) tNil))
def t_cc : TE := tTup (tCons (tC (V.str "code")) (tCons (tC (V.str "code")) tNil))
def t_ask (K : PySem.W.Frag) (CC CN Pt : Addr) (q : Str) (i : Nat) : TS := tIfS (tTest (tOp (rNeD K) (tLamL K CC CN Pt q i) t_cc)) (tRet (tC (V.bl false))) tNext
def t_chunks : TS := tAsg (tLc (iRng1 (tCons (tOp (rI0 fun i j => .int (i + j)) (tC (V.int 1)) (tCall spNext [] E0 (tCons (tVar 3) (tCons (tC (V.int 12)) tNil)))) tNil)) (gName 10) tYes (tCall spGood [] E0 (tCons (tVar 3) (tCons (tVar 1) tNil))) [10]) (gName 4)
def t_first (K : PySem.W.Frag) (CC CN : Addr) : TS := tIfS (tTest (tOp (rI0 fun i j => V.bl (decide (i < j))) (tCB rLend (tCons (tCall (spInstr CC CN wdF kdF K) [] E0 (tCons (tCall (spMade CC) [] E0 (tCons (tCB rSumL (tCons (tVar 4) (tCons (tLst tNil) tNil))) tNil)) tNil)) tNil)) (tCB rLend (tCons (tVar 4) tNil)))) (tRet (tC (V.bl false))) tNext
def t_turn1 (K : PySem.W.Frag) (CC CN Pt : Addr) (q : Str) : TS := tSeq (tAsg (tCall spNext [] E0 (tCons (tVar 3) (tCons (tOp (rI0 fun i j => .int (i + j)) (tCB rLend (tCons (tVar 4) tNil)) (tC (V.int 1))) tNil))) (gName 6))
  (tSeq (tAsg (tCall (spMade CC) [] E0 (tCons (tCB rSumL (tCons (tOp rCat (tOp rCat (tSl rSld (tVar 4) tNoPart (tPart (tVar 6))) (tLst (tCons (tCall spWrong [] E0 (tCons (tVar 3) (tCons (tVar 1) tNil))) tNil))) (tSl rSld (tVar 4) (tPart (tVar 6)) tNoPart)) (tCons (tLst tNil) tNil))) tNil)) (gName 8)) (t_ask K CC CN Pt q 8))
def t_turns (K : PySem.W.Frag) (CC CN Pt : Addr) (q : Str) : TS := tFor (iRng1 (tCons (tC (V.int 8)) tNil)) (gName 5) (t_turn1 K CC CN Pt q)
def t_tail1 (K : PySem.W.Frag) (CC CN Pt : Addr) (q : Str) : TS := tSeq (tAsg (tCall (spMade CC) [] E0 (tCons (tOp rCat (tCB rSumL (tCons (tVar 4) (tCons (tLst tNil) tNil))) (tVar 7)) tNil)) (gName 8)) (t_ask K CC CN Pt q 8)
def t_tails (K : PySem.W.Frag) (CC CN Pt : Addr) (q : Str) : TS := tFor (iTup K (tTup (tCons (tLst (tNs [30])) (tCons (tLst (tNs [71])) (tCons (tLst (tNs [71, 1])) (tCons (tLst (tNs [71, 2, 71, 3])) (tCons (tLst (tNs [45, 0])) (tCons (tLst (tNs [45, 0, 0])) (tCons (tOp rCat (tLst (tNs [82, 0])) (tOp rRep (tLst (tNs [0])) (tC (V.int 16)))) (tCons (tLst (tNs [40, 0, 0, 0, 0])) tNil)))))))))) (gName 7) (t_tail1 K CC CN Pt q)
def t_odds (K : PySem.W.Frag) (CC CN Pt : Addr) (q : Str) : TS := tFor (iTup K (tTup (tCons (tC V.non) (tCons (tC (V.int 5)) (tCons (tC (V.str "ab")) (tCons (tLst tNil) (tCons (tLst (tNs [30, 0])) (tCons (tC (V.bl true)) (tCons tDNewK tNil))))))))) (gName 9) (t_ask K CC CN Pt q 9)
def t_cell (K : PySem.W.Frag) (CC CN Pt : Addr) (q : Str) : TS := tSeq (tAsg (tCall spSrc [] E0 (tCons (tVar 2) tNil)) (gName 3)) (tSeq t_chunks (tSeq (t_first K CC CN) (tSeq (t_turns K CC CN Pt q) (tSeq (t_tails K CC CN Pt q) (t_odds K CC CN Pt q)))))
def t_law (K : PySem.W.Frag) (CC CN Pt : Addr) (q : Str) : TS := tSeq (tAsg (tCall spTable [] E0 tNil) (gName 1)) (tSeq (tFor (iList K (tSl rSld (tOp (rCatS K) (tVar 0) (tLst (tCons (tC (V.int 0)) tNil))) tNoPart (tPart (tC (V.int 5))))) (gName 2) (t_cell K CC CN Pt q)) (tRet (tOp (rEqD K) (tLamE K CC CN Pt q) t_cc)))
/-- the reading of the law -/
theorem law_reads {CC CN CE CT CR CB gC fa co Pt : Addr} {cdC : Value} {s : Shared} {H : Hp} (L : LawT P w K mg base CC CN CE CT CR CB gC cdC) (TB : LamX.TabB base mg co Pt) (hr : Room 7 (Xlaw P w K mg base fa co s H).nox.A) (hgd : (Xlaw P w K mg base fa co s H).nox.A.guards = some []) :
    PSs (Xlaw P w K mg base fa co s H).nox (defBody slaw) (t_law (Xlaw P w K mg base fa co s H).nox.K CC CN Pt ((Xlaw P w K mg base fa co s H).nox.env.qual ++ "<lambda>")) := by
  have hu64 : (Xlaw P w K mg base fa co s H).nox.A.units + 64 < cLine := by have := hr.un; omega
  have T := L.T
  have C_source_of := L.C_source_of
  have C_next := L.C_next
  have C_good := L.C_good
  have C_wrong := L.C_wrong
  have C_made := L.C_made
  obtain ⟨oc, od, dV, kV, doc, pm, ct, an, osl, lkC, bC⟩ := L.f_caught
  unfold t_law t_cell t_chunks t_first t_turns t_turn1 t_tails t_tail1 t_odds t_ask t_cc tLamL tLamE
  exact (pss_cons (ps_set (i := 1) sclaw.nd rfl (Or.inr rfl) (pe_cal0 L.C_table (hr.mono (by decide)) rfl))
  (pss_cons (ps_for PassesOwn.never rfl (pi_list (pe_slice sl_d (pe_op op_catS (pv 0) (pe_lst (pa_cons pe_int pa_nil))) po_none (po_some pe_int))) (pg_name (i := 2) sclaw.nd rfl (Or.inl rfl))
    (pss_cons (ps_set (i := 3) sclaw.nd rfl (Or.inr rfl) (pe_cal C_source_of (hr.mono (by decide)) rfl (pa_cons (pv 2) pa_nil)))
  (pss_cons (ps_setLc (i := 4) (own := [("_law_k", 10)]) (g := gName 10) (tt := tYes) rfl sclaw.nd rfl rfl (sw_true rfl rfl rfl (by decide +kernel)) (pi_range1 rfl T.b_range (pa_cons (pe_op op_add pe_int (pe_cal C_next (hr.mono (by decide)) rfl (pa_cons (pv 3) (pa_cons pe_int pa_nil)))) pa_nil)) (blkOk_by (own := [("_law_k", 10)]) (N := ["_law_script", "_law_table_here", "_law_cell", "_law_source", "_law_chunks", "_law_turn", "_law_at", "_law_tail", "_law_bad", "_law_odd", "_law_k"]) (sc := defScope slaw) (by decide +kernel)) (fun _ _ _ _ _ => (pg_name (i := 10) sclaw.nd rfl (Or.inl rfl))) (fun _ _ _ _ _ => pts_nil) (fun _ _ _ _ _ => (pe_cal C_good (hr.mono (by decide)) rfl (pa_cons (pv 3) (pa_cons (pv 1) pa_nil)))))
  (pss_cons (ps_if (pt_cmpR op_lt (pe_callB call_len_d (by rfl) T.b_len (by decide +kernel) (pa_cons (pe_calE L.CE_instr (hr.mono (by decide)) rfl LamX.takes0 (fun _ _ _ _ z => z) (pa_cons (pe_cal C_made (hr.mono (by decide)) rfl (pa_cons (pe_callB (cr_sumL rfl) (by rfl) T.b_sum (by decide +kernel) (pa_cons (pv 4) (pa_cons (pe_lst pa_nil) pa_nil))) pa_nil)) pa_nil)) pa_nil)) (pe_callB call_len_d (by rfl) T.b_len (by decide +kernel) (pa_cons (pv 4) pa_nil)) (nomark _))
    (pss_one (ps_ret pe_bl))
    pss_nil)
  (pss_cons (ps_for PassesOwn.never rfl (pi_range1 rfl T.b_range (pa_cons pe_int pa_nil)) (pg_name (i := 5) sclaw.nd rfl (Or.inl rfl))
    (pss_cons (ps_set (i := 6) sclaw.nd rfl (Or.inl rfl) (pe_cal C_next (hr.mono (by decide)) rfl (pa_cons (pv 3) (pa_cons (pe_op op_add (pe_callB call_len_d (by rfl) T.b_len (by decide +kernel) (pa_cons (pv 4) pa_nil)) pe_int) pa_nil))))
  (pss_cons (ps_set (i := 8) sclaw.nd rfl (Or.inr rfl) (pe_cal C_made (hr.mono (by decide)) rfl (pa_cons (pe_callB (cr_sumL rfl) (by rfl) T.b_sum (by decide +kernel) (pa_cons (pe_op op_cat (pe_op op_cat (pe_slice sl_d (pv 4) po_none (po_some (pv 6))) (pe_lst (pa_cons (pe_cal C_wrong (hr.mono (by decide)) rfl (pa_cons (pv 3) (pa_cons (pv 1) pa_nil))) pa_nil))) (pe_slice sl_d (pv 4) (po_some (pv 6)) po_none)) (pa_cons (pe_lst pa_nil) pa_nil))) pa_nil)))
  (pss_one (ps_if (pt_cmpR (op_neD hu64) (LamX.pe_lamcall (k := 4) (T := [(Pt, (Xlaw P w K mg base fa co s H).nox.env.qual ++ "<lambda>")]) (t := fun E => tCall (spInstr CC CN wdF kdF K) [] E (tCons (tVar 8) tNil)) rfl L.g_caught L.k_caught lkC L.c_caught bC sccaught rfl (Or.inl rfl) (caught_gives (X := (Xlaw P w K mg base fa co s H).nox) L.T L.N L.gT L.gR L.gB) TB rfl (List.mem_singleton.mpr rfl) (fun p hp _ => by rw [List.mem_singleton.mp hp]) (hr.mono (by decide)) (show LamX.LamS (defScope slaw) _ from LamX.lamS_by (by decide +kernel)) rfl (fun _ _ _ _ _ => rfl) (fun A outer s H E f c' hr2 => pe_calE L.CE_instr hr2 rfl (takes_of rfl rfl rfl rfl) (fun _ _ _ _ z => z) (pa_cons (pv 8) pa_nil))) (pe_tup (pa_cons pe_str (pa_cons pe_str pa_nil))) (nomark _))
    (pss_one (ps_ret pe_bl))
    pss_nil)))))
  (pss_cons (ps_for PassesOwn.never rfl (pi_tup (pe_tup (pa_cons (pe_lst (pa_cons pe_int pa_nil)) (pa_cons (pe_lst (pa_cons pe_int pa_nil)) (pa_cons (pe_lst (pa_cons pe_int (pa_cons pe_int pa_nil))) (pa_cons (pe_lst (pa_cons pe_int (pa_cons pe_int (pa_cons pe_int (pa_cons pe_int pa_nil))))) (pa_cons (pe_lst (pa_cons pe_int (pa_cons pe_int pa_nil))) (pa_cons (pe_lst (pa_cons pe_int (pa_cons pe_int (pa_cons pe_int pa_nil)))) (pa_cons (pe_op op_cat (pe_lst (pa_cons pe_int (pa_cons pe_int pa_nil))) (pe_op op_rep (pe_lst (pa_cons pe_int pa_nil)) pe_int)) (pa_cons (pe_lst (pa_cons pe_int (pa_cons pe_int (pa_cons pe_int (pa_cons pe_int (pa_cons pe_int pa_nil)))))) pa_nil)))))))))) (pg_name (i := 7) sclaw.nd rfl (Or.inl rfl))
    (pss_cons (ps_set (i := 8) sclaw.nd rfl (Or.inr rfl) (pe_cal C_made (hr.mono (by decide)) rfl (pa_cons (pe_op op_cat (pe_callB (cr_sumL rfl) (by rfl) T.b_sum (by decide +kernel) (pa_cons (pv 4) (pa_cons (pe_lst pa_nil) pa_nil))) (pv 7)) pa_nil)))
  (pss_one (ps_if (pt_cmpR (op_neD hu64) (LamX.pe_lamcall (k := 4) (T := [(Pt, (Xlaw P w K mg base fa co s H).nox.env.qual ++ "<lambda>")]) (t := fun E => tCall (spInstr CC CN wdF kdF K) [] E (tCons (tVar 8) tNil)) rfl L.g_caught L.k_caught lkC L.c_caught bC sccaught rfl (Or.inl rfl) (caught_gives (X := (Xlaw P w K mg base fa co s H).nox) L.T L.N L.gT L.gR L.gB) TB rfl (List.mem_singleton.mpr rfl) (fun p hp _ => by rw [List.mem_singleton.mp hp]) (hr.mono (by decide)) (show LamX.LamS (defScope slaw) _ from LamX.lamS_by (by decide +kernel)) rfl (fun _ _ _ _ _ => rfl) (fun A outer s H E f c' hr2 => pe_calE L.CE_instr hr2 rfl (takes_of rfl rfl rfl rfl) (fun _ _ _ _ z => z) (pa_cons (pv 8) pa_nil))) (pe_tup (pa_cons pe_str (pa_cons pe_str pa_nil))) (nomark _))
    (pss_one (ps_ret pe_bl))
    pss_nil))))
  (pss_one (ps_for PassesOwn.never rfl (pi_tup (pe_tup (pa_cons pe_non (pa_cons pe_int (pa_cons pe_str (pa_cons (pe_lst pa_nil) (pa_cons (pe_lst (pa_cons pe_int (pa_cons pe_int pa_nil))) (pa_cons pe_bl (pa_cons pe_dnewK pa_nil))))))))) (pg_name (i := 9) sclaw.nd rfl (Or.inr rfl))
    (pss_one (ps_if (pt_cmpR (op_neD hu64) (LamX.pe_lamcall (k := 4) (T := [(Pt, (Xlaw P w K mg base fa co s H).nox.env.qual ++ "<lambda>")]) (t := fun E => tCall (spInstr CC CN wdF kdF K) [] E (tCons (tVar 9) tNil)) rfl L.g_caught L.k_caught lkC L.c_caught bC sccaught rfl (Or.inl rfl) (caught_gives (X := (Xlaw P w K mg base fa co s H).nox) L.T L.N L.gT L.gR L.gB) TB rfl (List.mem_singleton.mpr rfl) (fun p hp _ => by rw [List.mem_singleton.mp hp]) (hr.mono (by decide)) (show LamX.LamS (defScope slaw) _ from LamX.lamS_by (by decide +kernel)) rfl (fun _ _ _ _ _ => rfl) (fun A outer s H E f c' hr2 => pe_calE L.CE_instr hr2 rfl (takes_of rfl rfl rfl rfl) (fun _ _ _ _ z => z) (pa_cons (pv 9) pa_nil))) (pe_tup (pa_cons pe_str (pa_cons pe_str pa_nil))) (nomark _))
    (pss_one (ps_ret pe_bl))
    pss_nil))))))))))
  (pss_one (ps_ret (pe_cmpR (op_eqD hu64) (LamX.pe_lamcall (k := 5) (T := [(Pt, (Xlaw P w K mg base fa co s H).nox.env.qual ++ "<lambda>")]) (t := fun E => tCall (spInstr CC CN wdF kdF K) [] E (tCons (tCall (spMade CC) [] E0 (tCons (tLst tNil) tNil)) tNil)) rfl L.g_caught L.k_caught lkC L.c_caught bC sccaught rfl (Or.inl rfl) (caught_gives (X := (Xlaw P w K mg base fa co s H).nox) L.T L.N L.gT L.gR L.gB) TB rfl (List.mem_singleton.mpr rfl) (fun p hp _ => by rw [List.mem_singleton.mp hp]) hr (show LamX.LamS (defScope slaw) _ from LamX.lamS_by (by decide +kernel)) rfl (fun _ _ _ _ _ => rfl) (fun A outer s H E f c' hr2 => pe_calE L.CE_instr (hr2.mono (by decide)) rfl (takes_of rfl rfl rfl rfl) (fun _ _ _ _ z => z) (pa_cons (pe_cal L.C_made hr2 rfl (pa_cons (pe_lst pa_nil) pa_nil)) pa_nil))) (pe_tup (pa_cons pe_str (pa_cons pe_str pa_nil))) (nomark _))))))
end
end C58

set_option maxHeartbeats 2000000
namespace C58
open PySem PySem.Spec PyProof.Rows L2
/-! ### the heap and the tables -/
theorem ExtN.same {H H' : Hp} (s : Same H H') : LamX.ExtN H H' := fun b o e _ => s b o e
theorem tabs_keep {T : List (Addr × Str)} {a : Addr} {H H' : Hp} (t : LamX.Tabs T H) (k : Keep a H H') (ha : ∃ xs, H a = some (.lst xs)) : LamX.Tabs T H' := by
  obtain ⟨xs, ha⟩ := ha
  intro p hp
  obtain ⟨ps, h1, h2, h3⟩ := t p hp
  have n1 : p.1 ≠ a := fun z => by rw [z, ha] at h1; cases h1
  refine ⟨ps, k _ _ n1 h1, h2, fun pos cv hc => ?_⟩
  obtain ⟨c, e1, e2⟩ := h3 pos cv hc
  have n2 : c ≠ a := fun z => by rw [z, ha] at e2; cases e2
  exact ⟨c, e1, k _ _ n2 e2⟩
theorem tabs_same {T : List (Addr × Str)} {H H' : Hp} (t : LamX.Tabs T H) (k : Same H H') : LamX.Tabs T H' := t.ext fun b o e => k b o e
theorem Same.trans' {H H1 H2 : Hp} (a : Same H H1) (b : Same H1 H2) : Same H H2 := fun c o e => b c o (a c o e)
theorem Src.lst {H : Hp} {a : Addr} (S : Src H a) : ∃ xs, H a = some (.lst xs) := let ⟨_, _, _, e⟩ := S; ⟨_, e⟩
theorem Src.same {H H' : Hp} {a : Addr} (S : Src H a) (s : Same H H') : Src H' a := let ⟨x, y, z, e⟩ := S; ⟨x, y, z, s _ _ e⟩
theorem Src.ext {H H' : Hp} {a : Addr} (S : Src H a) (s : LamX.ExtN H H') : Src H' a := let ⟨x, y, z, e⟩ := S; ⟨x, y, z, s _ _ e (fun _ q => by cases q)⟩
theorem CodeK.ext {CC : Addr} {H H' : Hp} {c : Addr} {all : List Nat} (C : CodeK CC H c all) (s : LamX.ExtN H H') : CodeK CC H' c all := by
  obtain ⟨dx, fs, t, u, n, v, k, first, h1, h2, h3, h4, h5, h6, h7, h8, h9, h10, h11, h12⟩ := C.ex
  exact ⟨dx, fs, t, u, n, v, k, first, s _ _ h1 (fun _ z => by cases z), h2, h3, s _ _ h4 (fun _ z => by cases z), h5, s _ _ h6 (fun _ z => by cases z), h7, s _ _ h8 (fun _ z => by cases z), h9, s _ _ h10 (fun _ z => by cases z), h11, s _ _ h12 (fun _ z => by cases z)⟩
/-- all but the source stays, tables of lambdas aside -/
def KeX (a : Addr) (H H' : Hp) : Prop := ∀ b o, b ≠ a → H b = some o → (∀ u, o ≠ .tbl u) → H' b = some o
theorem KeX.refl (a : Addr) (H : Hp) : KeX a H H := fun _ _ _ e _ => e
theorem KeX.trans {a : Addr} {H H1 H2 : Hp} (h : KeX a H H1) (k : KeX a H1 H2) : KeX a H H2 := fun b o n e u => k b o n (h b o n e u) u
theorem KeX.keep {a : Addr} {H H' : Hp} (k : Keep a H H') : KeX a H H' := fun b o n e _ => k b o n e
theorem KeX.ext {a : Addr} {H H' : Hp} (k : LamX.ExtN H H') : KeX a H H' := fun b o _ e u => k b o e u
theorem LawTab.kex {H H1 : Hp} {d a : Addr} {rs : List TR} (h : LawTab H d rs) (e : KeX a H H1) (S : Src H a) : LawTab H1 d rs := by
  obtain ⟨kvs, h1, p⟩ := h
  obtain ⟨x, y, z, q⟩ := S
  exact ⟨kvs, e _ _ (fun z => by rw [z, q] at h1; cases h1) h1 (fun _ z => by cases z), Paired.map' p fun u b ⟨g1, t, g2, g3⟩ => ⟨g1, t, g2, e _ _ (fun z => by rw [z, q] at g3; cases g3) g3 (fun _ z => by cases z)⟩⟩
theorem LawTab.ext {H H1 : Hp} {d : Addr} {rs : List TR} (h : LawTab H d rs) (e : LamX.ExtN H H1) : LawTab H1 d rs := by
  obtain ⟨kvs, h1, p⟩ := h
  exact ⟨kvs, e _ _ h1 (fun _ z => by cases z), Paired.map' p fun a b ⟨g1, t, g2, g3⟩ => ⟨g1, t, g2, e _ _ g3 (fun _ z => by cases z)⟩⟩
/-- the good pieces -/
def Chunks (a : Addr) (H : Hp) (F : Addr) (bss : List (List Nat)) : Prop := F ≠ a ∧ ∃ refs : List Addr, H F = some (.lst (refs.map V.ref)) ∧ Paired (fun r bs => r ≠ a ∧ H r = some (.lst (vn bs))) refs bss
theorem Chunks.kex {a F : Addr} {H H' : Hp} {bss : List (List Nat)} (h : Chunks a H F bss) (k : KeX a H H') : Chunks a H' F bss := by
  obtain ⟨Fa, refs, e, p⟩ := h
  exact ⟨Fa, refs, k _ _ Fa e (fun _ z => by cases z), Paired.map' p fun r bs ⟨ra, e⟩ => ⟨ra, k _ _ ra e (fun _ z => by cases z)⟩⟩
structure Sit (Pt : Addr) (q : Str) (a d F : Addr) (bss : List (List Nat)) (H : Hp) : Prop where
  src : Src H a
  ch : Chunks a H F bss
  tab : LawTab H d tabL
  tb : LamX.Tabs [(Pt, q)] H
section
variable {Pt a d F : Addr} {q : Str} {bss : List (List Nat)}
theorem Sit.keep {H H' : Hp} (S : Sit Pt q a d F bss H) (k : Keep a H H') (S' : Src H' a) : Sit Pt q a d F bss H' := ⟨S', S.ch.kex (KeX.keep k), S.tab.keep k S.src.lst, tabs_keep S.tb k S.src.lst⟩
theorem Sit.same {H H' : Hp} (S : Sit Pt q a d F bss H) (k : Same H H') : Sit Pt q a d F bss H' := S.keep (Keep.same k) (S.src.same k)
theorem Sit.ext {H H' : Hp} (S : Sit Pt q a d F bss H) (k : LamX.ExtN H H') (t : LamX.Tabs [(Pt, q)] H') : Sit Pt q a d F bss H' := ⟨S.src.ext k, S.ch.kex (KeX.ext k), S.tab.ext k, t⟩
end
theorem flat_vn (bss : List (List Nat)) : (bss.map vn).flatten = vn bss.flatten := by
  induction bss with
  | nil => rfl
  | cons b bss ih => rw [List.map_cons, List.flatten_cons, ih, List.flatten_cons, vn_app]
theorem flat_len {bss : List (List Nat)} (h : ∀ b ∈ bss, b.length ≤ 40) : bss.flatten.length ≤ 40 * bss.length := by
  induction bss with
  | nil => exact Nat.le_refl _
  | cons b bss ih =>
    have h1 := h b List.mem_cons_self
    have h2 := ih fun c hc => h c (List.mem_cons_of_mem _ hc)
    rw [List.flatten_cons, List.length_append, List.length_cons]
    omega
theorem flat_lt {bss : List (List Nat)} (h : ∀ b ∈ bss, ∀ x ∈ b, x < 256) : ∀ x ∈ bss.flatten, x < 256 := fun x hx => by
  obtain ⟨b, hb, hx⟩ := List.mem_flatten.mp hx
  exact h b hb x hx
/-! ### what the def that catches tells -/
theorem dp_code {K : PySem.W.Frag} {H : Hp} {p : Addr} (h : H p = some (.tup [.str "code", .str "code"])) : Dp K H (.ref p) (.tuple [.str "code", .str "code"]) := .tup (SqT.of h) (.cons (.str _) (.cons (.str _) .nil))
theorem cc_eqv : PyData.eqv (.tuple [.str "code", .str "code"]) (.tuple [.str "code", .str "code"]) = true := by decide +kernel
theorem ne_code {K : PySem.W.Frag} {H : Hp} {p q : Addr} {Q : VK} (hp : H p = some (.tup [.str "code", .str "code"])) (hq : H q = some (.tup [.str "code", .str "code"])) (k : Q (.bl false) H) : rNeD K (.ref p) (.ref q) H Q :=
  ⟨_, _, dp_code hp, dp_code hq, by decide +kernel, by decide +kernel, by rw [cc_eqv]; exact k⟩
theorem eq_code {K : PySem.W.Frag} {H : Hp} {p q : Addr} {Q : VK} (hp : H p = some (.tup [.str "code", .str "code"])) (hq : H q = some (.tup [.str "code", .str "code"])) (k : Q (.bl true) H) : rEqD K (.ref p) (.ref q) H Q :=
  ⟨_, _, dp_code hp, dp_code hq, by decide +kernel, by decide +kernel, by rw [cc_eqv]; exact k⟩
/-- what is asked raises NoCode("code") -/
def Raises (K : PySem.W.Frag) (CC CN : Addr) (H : Hp) (x : V) : Prop := ∀ H1 E, LamX.ExtN H H1 → (∀ d H', H1 d = none → Same H1 H' → H' d = some (.xd [("field", .str "code")]) → E (.ref CN) (some d) H') → ∀ Q', spInstr CC CN wdF kdF K [x] H1 Q' E
section
variable {K : PySem.W.Frag} {CC CN Pt : Addr} {q : Str} {D : Ends}
theorem ask_run {σ : L2.St} {H : Hp} {i : Nat} {x : V} (hσ : σ[i]? = some (some x)) (t : LamX.Tabs [(Pt, q)] H) (sp : Raises K CC CN H x) (k : ∀ H', LamX.ExtN H H' → LamX.Tabs [(Pt, q)] H' → D.nx σ H') : t_ask K CC CN Pt q i D σ H := by
  refine ⟨t, fun H1 e1 t1 => ⟨x, hσ, ?_⟩⟩
  simp only [r_nil, List.append_nil]
  refine sp H1 _ e1 (fun d H2 hd s2 hf => ⟨rfl, d, .str "code", rfl, hf, fun p H3 hp s3 h3 => ?_⟩) _
  refine ⟨szl (by decide), fun p2 hp2 => ?_⟩
  refine ne_code (by rw [upd_ne (ne_new h3 hp2)]; exact h3) upd_same ⟨false, rfl, ?_⟩
  have s4 : Same H1 (L2.upd H3 p2 (.tup [.str "code", .str "code"])) := Same.new' (fun b o e => s3 b o (s2 b o e)) hp2
  exact k _ (e1.trans (ExtN.same s4)) (tabs_same t1 s4)
theorem bad_raises {H : Hp} {c : Addr} {all : List Nat} (ck : CodeK CC H c all) (hl : all.length ≤ 1000) (hb : ∀ x ∈ all, x < 256) (hn : ¬ insOk wdF kdF all) : Raises K CC CN H (.ref c) := fun H1 E e k Q' =>
  ⟨_, rfl, .inr ⟨c, all, rfl, ck.ext e, hl, hb, fun ok => absurd ok hn, fun _ => k⟩⟩
def OddOk (CC : Addr) (x : V) (H : Hp) : Prop := ∃ n : String, n ∈ (["NoneType", "int", "bool", "str", "list", "tuple", "dict"] : List String) ∧ ∀ H1, LamX.ExtN H H1 → tyD CC H1 x = some (.type n)
theorem odd_raises {mg : Str → Option Value} {H : Hp} {x : V} (I : CodeT K mg CC) (ok : OddOk CC x H) : Raises K CC CN H x := fun H1 E e k Q' => by
  obtain ⟨n, hn, h⟩ := ok
  exact ⟨x, rfl, .inl ⟨.type n, h H1 e, I.no n hn, k⟩⟩
end
end C58

set_option maxHeartbeats 2000000
namespace C58
open PySem PySem.Spec PyProof.Rows L2
/-! ### the turns of the law -/
theorem sIx_nat2 (l d n : Nat) : HT.sIx l d (some (n : Int)) = min n l := by
  simp [HT.sIx]
  omega
theorem cut_take {xs : List V} {n : Nat} : cutV xs none (some (n : Int)) = xs.take n := by
  unfold cutV
  rw [sIx_nat2, HT.sIx_none, List.drop_zero, Nat.sub_zero]
  by_cases c : n ≤ xs.length
  · rw [Nat.min_eq_left c]
  · rw [Nat.min_eq_right (by omega), List.take_length, List.take_of_length_le (by omega)]
theorem cut_drop {xs : List V} {n : Nat} : cutV xs (some (n : Int)) none = xs.drop n := by
  unfold cutV
  rw [sIx_nat2, HT.sIx_none]
  by_cases c : n ≤ xs.length
  · rw [Nat.min_eq_left c]
    exact List.take_of_length_le (by rw [List.length_drop]; omega)
  · rw [Nat.min_eq_right (by omega), List.drop_length, List.take_nil, List.drop_of_length_le (by omega)]
theorem Paired.take' {α β : Type} {F : α → β → Prop} : ∀ {l1 : List α} {l2 : List β} (n : Nat), Paired F l1 l2 → Paired F (l1.take n) (l2.take n)
  | _, _, 0, _ => by rw [List.take_zero, List.take_zero]; exact .nil
  | _, _, n + 1, .nil => .nil
  | _, _, n + 1, .cons h t => .cons h (Paired.take' n t)
theorem Paired.drop' {α β : Type} {F : α → β → Prop} : ∀ {l1 : List α} {l2 : List β} (n : Nat), Paired F l1 l2 → Paired F (l1.drop n) (l2.drop n)
  | _, _, 0, h => h
  | _, _, n + 1, .nil => .nil
  | _, _, n + 1, .cons h t => Paired.drop' n t
theorem Paired.app' {α β : Type} {F : α → β → Prop} : ∀ {l1 m1 : List α} {l2 m2 : List β}, Paired F l1 l2 → Paired F m1 m2 → Paired F (l1 ++ m1) (l2 ++ m2)
  | _, _, _, _, .nil, h => h
  | _, _, _, _, .cons h t, k => .cons h (Paired.app' t k)
theorem Paired.mapr {α β γ : Type} {F : α → β → Prop} {G : α → γ → Prop} {g : β → γ} (h : ∀ a b, F a b → G a (g b)) : ∀ {l1 : List α} {l2 : List β}, Paired F l1 l2 → Paired G l1 (l2.map g)
  | _, _, .nil => .nil
  | _, _, .cons x t => .cons (h _ _ x) (Paired.mapr h t)
/-- sum(rows, []) -/
theorem sum_run {H : Hp} {p b : Addr} {refs : List Addr} {bss : List (List Nat)} {Q : VK} (hp : H p = some (.lst (refs.map V.ref))) (hb : H b = some (.lst [])) (ne : bss ≠ []) (pr : Paired (fun r bs => H r = some (.lst (vn bs))) refs bss) (hz : bss.flatten.length ≤ 1000)
    (k : ∀ s, H s = none → Q (.ref s) (L2.upd H s (.lst (vn bss.flatten)))) : rSumL [.ref p, .ref b] H Q := by
  have lr := Paired.length pr
  refine ⟨p, b, refs, [], bss.map vn, rfl, hp, fun z => ne ?_, hb, Paired.mapr (g := vn) (G := fun p (xs : List V) => H p = some (.lst xs)) (fun _ _ h => h) pr, ?_, fun s hs => ?_⟩
  · rw [z] at lr
    exact List.length_eq_zero_iff.mp lr.symm
  · rw [flat_vn, vn_len]
    exact Nat.le_trans (by simpa using hz : _ ≤ 1000) (by decide)
  · rw [flat_vn]
    exact k s hs
section
variable {K : PySem.W.Frag} {CC CN Pt a d F : Addr} {q : Str} {D : Ends} {bss : List (List Nat)} {s0 s2 s4 s5 s6 s7 s8 s9 s10 : Option V}
theorem chunks_run {H : Hp} (hS : Src H a) (ht : LawTab H d tabL) (k : ∀ F bss H', Keep a H H' → Src H' a → Chunks a H' F bss → bss ≠ [] → bss.length ≤ 12 → (∀ b ∈ bss, GoodB b) → D.nx [s0, some (.ref d), s2, some (.ref a), some (.ref F), s5, s6, s7, s8, s9, none] H') :
    t_chunks D [s0, some (.ref d), s2, some (.ref a), s4, s5, s6, s7, s8, s9, none] H := by
  unfold t_chunks
  simp only [r_seq, r_next, r_brk, r_cont, r_asg, r_name, r_ret, r_retN, r_drop, r_ifs, r_never, r_var, r_c, r_op, r_un, r_if, r_tst, r_b, r_not, r_and, r_or, r_andV, r_orV, r_notV, r_nil, r_cons, r_tup, r_lst, r_cb, r_call, r_bm, r_bm0, r_sl, r_nopart, r_part, r_rev, r_gnil, r_gcons, r_gsub, r_par, r_aug, r_chain, r_I0, r_I, r_U, r_ixd, r_lend, r_tupd, r_listd, r_sld, r_app, r_ext, r_reverse, r_setl, r_cat, r_int1, r_eqS, r_neS, scal_ii, scal_bb, scal_ss, at0, at1, at2, sq_lst, sq_tup, isLst_lst, List.getElem?_cons_zero, List.getElem?_cons_succ, List.set_cons_zero, List.set_cons_succ, V.int.injEq, V.bl.injEq, V.ref.injEq, V.str.injEq, HO.lst.injEq, HO.tup.injEq, Option.some.injEq, exists_eq_left', exists_eq_left, List.cons.injEq, and_true, true_and, decide_eq_true_eq, reduceCtorEq, false_and, exists_false, or_false, false_or, exists_const, and_assoc, exists_and_left, List.append_nil, ix0, ix1, ix2, cm_mod, cdw1009, cdw2003, cdw7, cdw64, cdw2, cm104729, cm2, cm3, upd_same, List.length_cons, List.length_nil, Int.reduceLT, Int.reduceLE, Nat.reduceAdd, Nat.reduceLeDiff, Nat.reduceLT, Int.reduceToNat, r_for1, r_forL, r_forT, r_lcL, r_lc1, r_yes, r_gtupD, wipe_0, wipe_1, List.cons_append, List.nil_append, r_forS, r_ipI, ite_false, ite_true, Bool.not_true, Bool.not_false, decide_true, decide_false, r_isd, r_islt, cD_ty, cD_ref, tD_non, tD_bl, tD_int, tD_str, tD_ref, tH_lst, tH_tup, tH_dK, tH_ins, ki_self, ki_int_bool, ki_non_int, ki_str_int, ki_lt_lst, ki_lt_tup, r_fld, r_sfld, HO.ins.injEq, cx_K]
  refine ⟨a, 12, rfl, hS, by decide, by decide, fun r H1 r0 r1 k1 S1 => ?_⟩
  refine ⟨r, rfl, by omega, by omega, fun F hF => ?_⟩
  have Fa : F ≠ a := S1.ne hF
  have ht1 := ht.keep k1 hS.lst
  refine cp_rng (n := (1 + r).toNat) (fun i H' => Keep a H1 H' ∧ Src H' a ∧ ∃ bss refs, bss.length = i ∧ H' F = some (.lst (refs.map V.ref)) ∧ Paired (fun p bs => p ≠ a ∧ p ≠ F ∧ H' p = some (.lst (vn bs))) refs bss ∧ ∀ b ∈ bss, GoodB b) ⟨(Keep.refl a H1).new hF, S1.new hF, [], [], rfl, upd_same, .nil, fun b h => by cases h⟩ ?_ ?_
  · rintro i H2 hi ⟨k2, S2, bss, refs, hl, h2, pr, hg⟩
    refine ⟨rfl, ?_⟩
    simp only [r_seq, r_next, r_brk, r_cont, r_asg, r_name, r_ret, r_retN, r_drop, r_ifs, r_never, r_var, r_c, r_op, r_un, r_if, r_tst, r_b, r_not, r_and, r_or, r_andV, r_orV, r_notV, r_nil, r_cons, r_tup, r_lst, r_cb, r_call, r_bm, r_bm0, r_sl, r_nopart, r_part, r_rev, r_gnil, r_gcons, r_gsub, r_par, r_aug, r_chain, r_I0, r_I, r_U, r_ixd, r_lend, r_tupd, r_listd, r_sld, r_app, r_ext, r_reverse, r_setl, r_cat, r_int1, r_eqS, r_neS, scal_ii, scal_bb, scal_ss, at0, at1, at2, sq_lst, sq_tup, isLst_lst, List.getElem?_cons_zero, List.getElem?_cons_succ, List.set_cons_zero, List.set_cons_succ, V.int.injEq, V.bl.injEq, V.ref.injEq, V.str.injEq, HO.lst.injEq, HO.tup.injEq, Option.some.injEq, exists_eq_left', exists_eq_left, List.cons.injEq, and_true, true_and, decide_eq_true_eq, reduceCtorEq, false_and, exists_false, or_false, false_or, exists_const, and_assoc, exists_and_left, List.append_nil, ix0, ix1, ix2, cm_mod, cdw1009, cdw2003, cdw7, cdw64, cdw2, cm104729, cm2, cm3, upd_same, List.length_cons, List.length_nil, Int.reduceLT, Int.reduceLE, Nat.reduceAdd, Nat.reduceLeDiff, Nat.reduceLT, Int.reduceToNat, r_for1, r_forL, r_forT, r_lcL, r_lc1, r_yes, r_gtupD, wipe_0, wipe_1, List.cons_append, List.nil_append, r_forS, r_ipI, ite_false, ite_true, Bool.not_true, Bool.not_false, decide_true, decide_false, r_isd, r_islt, cD_ty, cD_ref, tD_non, tD_bl, tD_int, tD_str, tD_ref, tH_lst, tH_tup, tH_dK, tH_ins, ki_self, ki_int_bool, ki_non_int, ki_str_int, ki_lt_lst, ki_lt_tup, r_fld, r_sfld, HO.ins.injEq, cx_K]
    refine ⟨a, d, rfl, S2, ht1.keep k2 S1.lst, fun p bs H3 gb hp pa k3 S3 h3 => ⟨refs.map V.ref, k3 _ _ Fa h2, Nat.lt_of_le_of_lt (by rw [List.length_map, Paired.length pr]; omega : _ ≤ 1000) (by decide), ?_⟩⟩
    have pF : p ≠ F := new_ne h2 hp
    refine ⟨fun b o nb e => ?_, ?_, bss ++ [bs], by rw [List.length_append, hl]; rfl, refs ++ [p], ?_, Paired.snoc' (Paired.map' pr fun x y ⟨xa, xF, e⟩ => ⟨xa, xF, ?_⟩) ⟨pa, pF, ?_⟩, fun b h => ?_⟩
    · rw [upd_ne (ne_new e hF)]
      exact k3 b o nb (k2 b o nb e)
    · obtain ⟨x, y, z, e⟩ := S3
      exact ⟨x, y, z, by rw [upd_ne Fa.symm]; exact e⟩
    · rw [List.map_append]
      rfl
    · rw [upd_ne xF]
      exact k3 _ _ xa e
    · rw [upd_ne pF]
      exact h3
    · rcases List.mem_append.mp h with h | h
      · exact hg b h
      · rw [List.mem_singleton.mp h]
        exact gb
  · rintro H2 ⟨k2, S2, bss, refs, hl, h2, pr, hg⟩
    exact k F bss H2 (k1.trans k2) S2 ⟨Fa, refs, h2, Paired.map' pr fun x y ⟨xa, _, e⟩ => ⟨xa, e⟩⟩ (fun z => by rw [z] at hl; simp at hl; omega) (by omega) hg
theorem ofirst_run {H : Hp} (S : Sit Pt q a d F bss H) (ne : bss ≠ []) (hl : bss.length ≤ 12) (hg : ∀ b ∈ bss, GoodB b) (k : ∀ H', Same H H' → D.nx [s0, some (.ref d), s2, some (.ref a), some (.ref F), s5, s6, s7, s8, s9, s10] H') :
    t_first K CC CN D [s0, some (.ref d), s2, some (.ref a), some (.ref F), s5, s6, s7, s8, s9, s10] H := by
  obtain ⟨Fa, refs, eF, pF⟩ := S.ch
  have fl := flat_len (fun b hb => (hg b hb).len)
  unfold t_first
  simp only [r_seq, r_next, r_brk, r_cont, r_asg, r_name, r_ret, r_retN, r_drop, r_ifs, r_never, r_var, r_c, r_op, r_un, r_if, r_tst, r_b, r_not, r_and, r_or, r_andV, r_orV, r_notV, r_nil, r_cons, r_tup, r_lst, r_cb, r_call, r_bm, r_bm0, r_sl, r_nopart, r_part, r_rev, r_gnil, r_gcons, r_gsub, r_par, r_aug, r_chain, r_I0, r_I, r_U, r_ixd, r_lend, r_tupd, r_listd, r_sld, r_app, r_ext, r_reverse, r_setl, r_cat, r_int1, r_eqS, r_neS, scal_ii, scal_bb, scal_ss, at0, at1, at2, sq_lst, sq_tup, isLst_lst, List.getElem?_cons_zero, List.getElem?_cons_succ, List.set_cons_zero, List.set_cons_succ, V.int.injEq, V.bl.injEq, V.ref.injEq, V.str.injEq, HO.lst.injEq, HO.tup.injEq, Option.some.injEq, exists_eq_left', exists_eq_left, List.cons.injEq, and_true, true_and, decide_eq_true_eq, reduceCtorEq, false_and, exists_false, or_false, false_or, exists_const, and_assoc, exists_and_left, List.append_nil, ix0, ix1, ix2, cm_mod, cdw1009, cdw2003, cdw7, cdw64, cdw2, cm104729, cm2, cm3, upd_same, List.length_cons, List.length_nil, Int.reduceLT, Int.reduceLE, Nat.reduceAdd, Nat.reduceLeDiff, Nat.reduceLT, Int.reduceToNat, r_for1, r_forL, r_forT, r_lcL, r_lc1, r_yes, r_gtupD, wipe_0, wipe_1, List.cons_append, List.nil_append, r_forS, r_ipI, ite_false, ite_true, Bool.not_true, Bool.not_false, decide_true, decide_false, r_isd, r_islt, cD_ty, cD_ref, tD_non, tD_bl, tD_int, tD_str, tD_ref, tH_lst, tH_tup, tH_dK, tH_ins, ki_self, ki_int_bool, ki_non_int, ki_str_int, ki_lt_lst, ki_lt_tup, r_fld, r_sfld, HO.ins.injEq, cx_K]
  refine ⟨Nat.zero_le _, fun e he => sum_run (by rw [upd_ne (ne_new eF he)]; exact eF) upd_same ne (Paired.map' pF fun r bs h => by rw [upd_ne (ne_new h.2 he)]; exact h.2) (by omega) fun p hp => ?_⟩
  have sA : Same H (L2.upd (L2.upd H e (.lst [])) p (.lst (vn bss.flatten))) := Same.new' (Same.new' (Same.refl H) he) hp
  have fb := flat_lt fun b hb => (hg b hb).lt
  refine ⟨p, bss.flatten, rfl, upd_same, fb, fun c H1 hc s1 ck => ⟨_, rfl, .inr ⟨c, bss.flatten, rfl, ck, by omega, fb, fun ok F' H2 xs hF' s2 hx hl2 => ?_, fun nok => absurd (ok_good hg ne).1 nok⟩⟩⟩
  have sB : Same H H2 := fun b o q => s2 b o (s1 b o (sA b o q))
  refine ⟨F', rfl, xs, by rw [hx]; rfl, refs.map V.ref, by rw [sB _ _ eF]; rfl, ?_⟩
  rw [(ok_good hg ne).2] at hl2
  rw [if_neg (by rw [List.length_map, Paired.length pF]; omega)]
  exact k H2 sB
theorem turn1_run {H : Hp} (S : Sit Pt q a d F bss H) (ne : bss ≠ []) (hl : bss.length ≤ 12) (hg : ∀ b ∈ bss, GoodB b) (k : ∀ s6 s8 H', KeX a H H' → Sit Pt q a d F bss H' → D.nx [s0, some (.ref d), s2, some (.ref a), some (.ref F), s5, s6, s7, s8, s9, s10] H') :
    t_turn1 K CC CN Pt q D [s0, some (.ref d), s2, some (.ref a), some (.ref F), s5, s6, s7, s8, s9, s10] H := by
  obtain ⟨Fa, refs, eF, pF⟩ := S.ch
  have lr := Paired.length pF
  unfold t_turn1
  simp only [r_seq, r_next, r_brk, r_cont, r_asg, r_name, r_ret, r_retN, r_drop, r_ifs, r_never, r_var, r_c, r_op, r_un, r_if, r_tst, r_b, r_not, r_and, r_or, r_andV, r_orV, r_notV, r_nil, r_cons, r_tup, r_lst, r_cb, r_call, r_bm, r_bm0, r_sl, r_nopart, r_part, r_rev, r_gnil, r_gcons, r_gsub, r_par, r_aug, r_chain, r_I0, r_I, r_U, r_ixd, r_lend, r_tupd, r_listd, r_sld, r_app, r_ext, r_reverse, r_setl, r_cat, r_int1, r_eqS, r_neS, scal_ii, scal_bb, scal_ss, at0, at1, at2, sq_lst, sq_tup, isLst_lst, List.getElem?_cons_zero, List.getElem?_cons_succ, List.set_cons_zero, List.set_cons_succ, V.int.injEq, V.bl.injEq, V.ref.injEq, V.str.injEq, HO.lst.injEq, HO.tup.injEq, Option.some.injEq, exists_eq_left', exists_eq_left, List.cons.injEq, and_true, true_and, decide_eq_true_eq, reduceCtorEq, false_and, exists_false, or_false, false_or, exists_const, and_assoc, exists_and_left, List.append_nil, ix0, ix1, ix2, cm_mod, cdw1009, cdw2003, cdw7, cdw64, cdw2, cm104729, cm2, cm3, upd_same, List.length_cons, List.length_nil, Int.reduceLT, Int.reduceLE, Nat.reduceAdd, Nat.reduceLeDiff, Nat.reduceLT, Int.reduceToNat, r_for1, r_forL, r_forT, r_lcL, r_lc1, r_yes, r_gtupD, wipe_0, wipe_1, List.cons_append, List.nil_append, r_forS, r_ipI, ite_false, ite_true, Bool.not_true, Bool.not_false, decide_true, decide_false, r_isd, r_islt, cD_ty, cD_ref, tD_non, tD_bl, tD_int, tD_str, tD_ref, tH_lst, tH_tup, tH_dK, tH_ins, ki_self, ki_int_bool, ki_non_int, ki_str_int, ki_lt_lst, ki_lt_tup, r_fld, r_sfld, HO.ins.injEq, cx_K, eF]
  refine ⟨a, _, rfl, S.src, by omega, by rw [List.length_map, lr]; omega, fun r H1 r0 r1 k1 S1 => ?_⟩
  rw [List.length_map, lr] at r1
  obtain ⟨n, rfl⟩ : ∃ n : Nat, r = (n : Int) := ⟨r.toNat, by omega⟩
  have T1 := S.keep k1 S1
  have eF1 := k1 _ _ Fa eF
  simp only [r_seq, r_next, r_brk, r_cont, r_asg, r_name, r_ret, r_retN, r_drop, r_ifs, r_never, r_var, r_c, r_op, r_un, r_if, r_tst, r_b, r_not, r_and, r_or, r_andV, r_orV, r_notV, r_nil, r_cons, r_tup, r_lst, r_cb, r_call, r_bm, r_bm0, r_sl, r_nopart, r_part, r_rev, r_gnil, r_gcons, r_gsub, r_par, r_aug, r_chain, r_I0, r_I, r_U, r_ixd, r_lend, r_tupd, r_listd, r_sld, r_app, r_ext, r_reverse, r_setl, r_cat, r_int1, r_eqS, r_neS, scal_ii, scal_bb, scal_ss, at0, at1, at2, sq_lst, sq_tup, isLst_lst, List.getElem?_cons_zero, List.getElem?_cons_succ, List.set_cons_zero, List.set_cons_succ, V.int.injEq, V.bl.injEq, V.ref.injEq, V.str.injEq, HO.lst.injEq, HO.tup.injEq, Option.some.injEq, exists_eq_left', exists_eq_left, List.cons.injEq, and_true, true_and, decide_eq_true_eq, reduceCtorEq, false_and, exists_false, or_false, false_or, exists_const, and_assoc, exists_and_left, List.append_nil, ix0, ix1, ix2, cm_mod, cdw1009, cdw2003, cdw7, cdw64, cdw2, cm104729, cm2, cm3, upd_same, List.length_cons, List.length_nil, Int.reduceLT, Int.reduceLE, Nat.reduceAdd, Nat.reduceLeDiff, Nat.reduceLT, Int.reduceToNat, r_for1, r_forL, r_forT, r_lcL, r_lc1, r_yes, r_gtupD, wipe_0, wipe_1, List.cons_append, List.nil_append, r_forS, r_ipI, ite_false, ite_true, Bool.not_true, Bool.not_false, decide_true, decide_false, r_isd, r_islt, cD_ty, cD_ref, tD_non, tD_bl, tD_int, tD_str, tD_ref, tH_lst, tH_tup, tH_dK, tH_ins, ki_self, ki_int_bool, ki_non_int, ki_str_int, ki_lt_lst, ki_lt_tup, r_fld, r_sfld, HO.ins.injEq, cx_K, eF1, cut_take, cut_drop]
  intro p hp
  have pa : p ≠ a := S1.ne hp
  refine ⟨a, d, rfl, S1.new hp, T1.tab.same (Same.new' (Same.refl H1) hp), fun w bs H2 bb wa k2 S2 h2 => ?_⟩
  have kA : Keep a H1 H2 := ((Keep.refl a H1).new hp).trans k2
  have T2 := T1.keep kA S2
  have qp := k2 p _ pa upd_same
  have qF := kA _ _ Fa eF1
  have pF2 : Paired (fun r bs => r ≠ a ∧ H2 r = some (.lst (vn bs))) refs bss := Paired.map' pF fun x y ⟨xa, e⟩ => ⟨xa, kA _ _ xa (k1 _ _ xa e)⟩
  have tl : ((refs.map V.ref).take n).length ≤ 12 := by rw [List.length_take, List.length_map]; omega
  have dl : ((refs.map V.ref).drop n).length ≤ 12 := by rw [List.length_drop, List.length_map]; omega
  refine ⟨szl (by decide : 1 ≤ 1000), fun p1 hp1 => ?_⟩
  have s1' := Same.new' (o := .lst [.ref w]) (Same.refl H2) hp1
  refine ⟨_, s1' _ _ qp, Nat.le_trans (by omega : _ ≤ 1000) (by decide), fun p2 hp2 => ?_⟩
  have s2' := Same.new' (o := .lst ((refs.map V.ref).take n ++ [.ref w])) s1' hp2
  refine ⟨_, s2' _ _ qF, fun p3 hp3 => ?_⟩
  have s3' := Same.new' (o := .lst ((refs.map V.ref).drop n)) s2' hp3
  refine ⟨_, by rw [upd_ne (ne_new upd_same hp3)]; exact upd_same, Nat.le_trans (by rw [List.length_append, List.length_singleton]; omega : _ ≤ 1000) (by decide), fun p4 hp4 => ⟨Nat.zero_le _, fun p5 hp5 => ?_⟩⟩
  have s4' := Same.new' (o := .lst ((refs.map V.ref).take n ++ [.ref w] ++ (refs.map V.ref).drop n)) s3' hp4
  have s5' := Same.new' (o := .lst []) s4' hp5
  have q4 : L2.upd (L2.upd (L2.upd (L2.upd (L2.upd H2 p1 (.lst [.ref w])) p2 (.lst ((refs.map V.ref).take n ++ [.ref w]))) p3 (.lst ((refs.map V.ref).drop n))) p4 (.lst ((refs.map V.ref).take n ++ [.ref w] ++ (refs.map V.ref).drop n))) p5 (.lst []) p4 = some (.lst ((refs.take n ++ [w] ++ refs.drop n).map V.ref)) := by
    rw [upd_ne (ne_new upd_same hp5), upd_same]
    simp [List.map_take, List.map_drop]
  have q5 : L2.upd (L2.upd (L2.upd (L2.upd (L2.upd H2 p1 (.lst [.ref w])) p2 (.lst ((refs.map V.ref).take n ++ [.ref w]))) p3 (.lst ((refs.map V.ref).drop n))) p4 (.lst ((refs.map V.ref).take n ++ [.ref w] ++ (refs.map V.ref).drop n))) p5 (.lst []) p5 = some (.lst []) := upd_same
  generalize L2.upd (L2.upd (L2.upd (L2.upd (L2.upd H2 p1 (.lst [.ref w])) p2 (.lst ((refs.map V.ref).take n ++ [.ref w]))) p3 (.lst ((refs.map V.ref).drop n))) p4 (.lst ((refs.map V.ref).take n ++ [.ref w] ++ (refs.map V.ref).drop n))) p5 (.lst []) = G at *
  have pG : Paired (fun r bs => G r = some (.lst (vn bs))) (refs.take n ++ [w] ++ refs.drop n) (bss.take n ++ [bs] ++ bss.drop n) :=
    Paired.app' (Paired.app' (Paired.take' n (Paired.map' pF2 fun x y h => s5' _ _ h.2)) (.cons (s5' _ _ h2) .nil)) (Paired.drop' n (Paired.map' pF2 fun x y h => s5' _ _ h.2))
  have mem : ∀ b ∈ bss.take n ++ [bs] ++ bss.drop n, b.length ≤ 40 ∧ ∀ x ∈ b, x < 256 := fun b hb => by
    rcases List.mem_append.mp hb with hb | hb
    · rcases List.mem_append.mp hb with hb | hb
      · exact ⟨(hg b (List.mem_of_mem_take hb)).len, (hg b (List.mem_of_mem_take hb)).lt⟩
      · rw [List.mem_singleton.mp hb]
        exact ⟨bb.len, bb.lt⟩
    · exact ⟨(hg b (List.mem_of_mem_drop hb)).len, (hg b (List.mem_of_mem_drop hb)).lt⟩
  have fl := flat_len fun b hb => (mem b hb).1
  have ll : (bss.take n ++ [bs] ++ bss.drop n).length ≤ 13 := by
    rw [List.length_append, List.length_append, List.length_take, List.length_drop, List.length_singleton]
    omega
  have fb := flat_lt fun b hb => (mem b hb).2
  have fe : (bss.take n ++ [bs] ++ bss.drop n).flatten = (bss.take n).flatten ++ (bs ++ (bss.drop n).flatten) := by simp
  refine sum_run q4 q5 (by simp) pG (by omega) fun s hs => ⟨s, _, rfl, upd_same, fb, fun c H3 hc s3 ck => ?_⟩
  have sC : Same H2 H3 := fun b o e => s3 b o (Same.new' (Same.refl G) hs b o (s5' b o e))
  have T3 := T2.same sC
  refine ask_run rfl T3.tb (bad_raises ck (by omega) fb ?_) fun H4 e4 t4 => ?_
  · rw [fe]
    exact ok_bad (fun b hb => hg b (List.mem_of_mem_take hb)) bb.ne (bb.ex _)
  · exact k _ _ H4 (((KeX.keep k1).trans (KeX.keep kA)).trans ((KeX.keep (Keep.same sC)).trans (KeX.ext e4))) (T3.ext e4 t4)
theorem turns_run {H : Hp} (S : Sit Pt q a d F bss H) (ne : bss ≠ []) (hl : bss.length ≤ 12) (hg : ∀ b ∈ bss, GoodB b) (k : ∀ s5 s6 s8 H', KeX a H H' → Sit Pt q a d F bss H' → D.nx [s0, some (.ref d), s2, some (.ref a), some (.ref F), s5, s6, s7, s8, s9, s10] H') :
    t_turns K CC CN Pt q D [s0, some (.ref d), s2, some (.ref a), some (.ref F), s5, s6, s7, s8, s9, s10] H := by
  unfold t_turns
  refine ⟨8, rfl, by decide, by decide, lp_rng (n := 8) (fun i σ H' => (∃ s5 s6 s8, σ = [s0, some (.ref d), s2, some (.ref a), some (.ref F), s5, s6, s7, s8, s9, s10]) ∧ KeX a H H' ∧ Sit Pt q a d F bss H') ⟨⟨_, _, _, rfl⟩, KeX.refl a H, S⟩ ?_ ?_⟩
  · rintro i σ H1 hi ⟨⟨s5, s6, s8, rfl⟩, k1, S1⟩
    show t_turn1 K CC CN Pt q _ [s0, some (.ref d), s2, some (.ref a), some (.ref F), some (.int (i : Int)), s6, s7, s8, s9, s10] H1
    exact turn1_run S1 ne hl hg fun s6 s8 H2 k2 S2 => ⟨⟨_, _, _, rfl⟩, k1.trans k2, S2⟩
  · rintro σ H1 ⟨⟨s5, s6, s8, rfl⟩, k1, S1⟩
    exact k s5 s6 s8 H1 k1 S1
end
end C58

set_option maxHeartbeats 2000000
namespace C58
open PySem PySem.Spec PyProof.Rows L2
/-! ### tails -/
def TlV (H : Hp) (v : V) : Prop := ∃ (p : Addr) (bs : List Nat), v = .ref p ∧ H p = some (.lst (vn bs)) ∧ bs ≠ [] ∧ bs.length ≤ 20 ∧ (∀ x ∈ bs, x < 256) ∧ BadAt bs []
theorem TlV.same {H H' : Hp} {v : V} (h : TlV H v) (s : Same H H') : TlV H' v := by
  obtain ⟨p, bs, e, hp, r⟩ := h
  exact ⟨p, bs, e, s _ _ hp, r⟩
theorem TlV.kex {a : Addr} {H H' : Hp} {v : V} (h : TlV H v) (s : KeX a H H') (na : v ≠ .ref a) : TlV H' v := by
  obtain ⟨p, bs, rfl, hp, r⟩ := h
  exact ⟨p, bs, rfl, s _ _ (fun z => na (by rw [z])) hp (fun _ z => by cases z), r⟩
def ET (σ : L2.St) (te : TE) : Prop := ∀ H Q, (∀ v H', Same H H' → (∀ p, v = .ref p → H p = none) → TlV H' v → Q v H') → te σ H Q
def AT (σ : L2.St) (ta : TA) (n : Nat) : Prop := ∀ H QA, (∀ vs H', Same H H' → vs.length = n → (∀ v ∈ vs, TlV H' v ∧ ∀ p, v = .ref p → H p = none) → QA vs H') → ta σ H QA
section
variable {σ : L2.St}
theorem at_nil : AT σ tNil 0 := fun H QA q => q [] H (Same.refl H) rfl fun v h => by cases h
theorem at_cons {te : TE} {ta : TA} {n : Nat} (h : ET σ te) (k : AT σ ta n) : AT σ (tCons te ta) (n + 1) := fun H QA q => h H _ fun v H1 s1 f1 b => k H1 _ fun vs H2 s2 l bs =>
  q (v :: vs) H2 (Same.trans' s1 s2) (by rw [List.length_cons, l]) fun u hu => by
    rcases List.mem_cons.mp hu with rfl | hu
    · exact ⟨b.same s2, f1⟩
    · exact ⟨(bs u hu).1, fun p e => s1.free ((bs u hu).2 p e)⟩
theorem et_ns {ns : List Nat} (ne : ns ≠ []) (l : ns.length ≤ 20) (lt : ∀ x ∈ ns, x < 256) (b : BadAt ns []) : ET σ (tLst (tNs ns)) := fun H Q q => by
  show tNs ns σ H _
  rw [r_ns]
  exact ⟨szl (by rw [vn_len]; omega), fun p hp => q _ _ (Same.new' (Same.refl H) hp) (fun p' e => by cases e; exact hp) ⟨p, ns, rfl, upd_same, ne, l, lt, b⟩⟩
theorem et_rep {ws xs : List Nat} {k : Nat} (hk : k ≤ 20) (lw : ws.length ≤ 20) (lx : xs.length ≤ 20) (ne : ws ++ (List.replicate k xs).flatten ≠ []) (l : (ws ++ (List.replicate k xs).flatten).length ≤ 20) (lt : ∀ x ∈ ws ++ (List.replicate k xs).flatten, x < 256) (b : BadAt (ws ++ (List.replicate k xs).flatten) []) :
    ET σ (tOp rCat (tLst (tNs ws)) (tOp rRep (tLst (tNs xs)) (tC (.int (k : Int))))) := fun H Q q => by
  show tNs ws σ H _
  rw [r_ns]
  have hm : xs.length * k ≤ 400 := Nat.mul_le_mul lx hk
  refine ⟨szl (by rw [vn_len]; omega), fun p hp => ?_⟩
  have qp : L2.upd H p (.lst (vn ws)) p = some (.lst (vn ws)) := upd_same
  have sp := Same.new' (o := .lst (vn ws)) (Same.refl H) hp
  generalize L2.upd H p (.lst (vn ws)) = G at *
  show tNs xs σ G _
  rw [r_ns]
  refine ⟨szl (by rw [vn_len]; omega), fun p1 hp1 => ⟨p1, (k : Int), vn xs, rfl, rfl, upd_same, by omega, by omega, Nat.le_trans (by rw [vn_len, Int.toNat_natCast]; omega : _ ≤ 1000) (by decide), fun p2 hp2 => ?_⟩⟩
  have qp1 : L2.upd G p1 (.lst (vn xs)) p = some (.lst (vn ws)) := by rw [upd_ne (ne_new qp hp1)]; exact qp
  have q2 : L2.upd (L2.upd G p1 (.lst (vn xs))) p2 (.lst (List.replicate (k : Int).toNat (vn xs)).flatten) p2 = some (.lst (vn (List.replicate k xs).flatten)) := by rw [upd_same, Int.toNat_natCast, rep_vnk]
  have qp2 : L2.upd (L2.upd G p1 (.lst (vn xs))) p2 (.lst (List.replicate (k : Int).toNat (vn xs)).flatten) p = some (.lst (vn ws)) := by rw [upd_ne (ne_new qp1 hp2)]; exact qp1
  have s2 := Same.new' (o := .lst (List.replicate (k : Int).toNat (vn xs)).flatten) (Same.new' (o := .lst (vn xs)) sp hp1) hp2
  refine ⟨p, p2, _, _, rfl, rfl, qp2, q2, Nat.le_trans (by rw [vn_len, vn_len, ← List.length_append]; omega : _ ≤ 1000) (by decide), fun p3 hp3 => ?_⟩
  rw [← vn_app]
  exact q _ _ (Same.new' s2 hp3) (fun p' e => by cases e; exact s2.free hp3) ⟨p3, _, rfl, upd_same, ne, l, lt, b⟩
end
section
variable {K : PySem.W.Frag} {CC CN Pt a d F : Addr} {q : Str} {D : Ends} {bss : List (List Nat)} {s0 s2 s4 s5 s6 s7 s8 s9 s10 : Option V}
theorem tail1_run {H : Hp} {v : V} (S : Sit Pt q a d F bss H) (ne : bss ≠ []) (hl : bss.length ≤ 12) (hg : ∀ b ∈ bss, GoodB b) (tv : TlV H v) (k : ∀ s8 H', LamX.ExtN H H' → LamX.Tabs [(Pt, q)] H' → D.nx [s0, some (.ref d), s2, some (.ref a), some (.ref F), s5, s6, some v, s8, s9, s10] H') :
    t_tail1 K CC CN Pt q D [s0, some (.ref d), s2, some (.ref a), some (.ref F), s5, s6, some v, s8, s9, s10] H := by
  obtain ⟨Fa, refs, eF, pF⟩ := S.ch
  obtain ⟨t, bs, rfl, ht, bne, bl, blt, bad⟩ := tv
  have fl := flat_len (fun b hb => (hg b hb).len)
  unfold t_tail1
  simp only [r_seq, r_next, r_brk, r_cont, r_asg, r_name, r_ret, r_retN, r_drop, r_ifs, r_never, r_var, r_c, r_op, r_un, r_if, r_tst, r_b, r_not, r_and, r_or, r_andV, r_orV, r_notV, r_nil, r_cons, r_tup, r_lst, r_cb, r_call, r_bm, r_bm0, r_sl, r_nopart, r_part, r_rev, r_gnil, r_gcons, r_gsub, r_par, r_aug, r_chain, r_I0, r_I, r_U, r_ixd, r_lend, r_tupd, r_listd, r_sld, r_app, r_ext, r_reverse, r_setl, r_cat, r_int1, r_eqS, r_neS, scal_ii, scal_bb, scal_ss, at0, at1, at2, sq_lst, sq_tup, isLst_lst, List.getElem?_cons_zero, List.getElem?_cons_succ, List.set_cons_zero, List.set_cons_succ, V.int.injEq, V.bl.injEq, V.ref.injEq, V.str.injEq, HO.lst.injEq, HO.tup.injEq, Option.some.injEq, exists_eq_left', exists_eq_left, List.cons.injEq, and_true, true_and, decide_eq_true_eq, reduceCtorEq, false_and, exists_false, or_false, false_or, exists_const, and_assoc, exists_and_left, List.append_nil, ix0, ix1, ix2, cm_mod, cdw1009, cdw2003, cdw7, cdw64, cdw2, cm104729, cm2, cm3, upd_same, List.length_cons, List.length_nil, Int.reduceLT, Int.reduceLE, Nat.reduceAdd, Nat.reduceLeDiff, Nat.reduceLT, Int.reduceToNat, r_for1, r_forL, r_forT, r_lcL, r_lc1, r_yes, r_gtupD, wipe_0, wipe_1, List.cons_append, List.nil_append, r_forS, r_ipI, ite_false, ite_true, Bool.not_true, Bool.not_false, decide_true, decide_false, r_isd, r_islt, cD_ty, cD_ref, tD_non, tD_bl, tD_int, tD_str, tD_ref, tH_lst, tH_tup, tH_dK, tH_ins, ki_self, ki_int_bool, ki_non_int, ki_str_int, ki_lt_lst, ki_lt_tup, r_fld, r_sfld, HO.ins.injEq, cx_K]
  refine ⟨Nat.zero_le _, fun e he => sum_run (by rw [upd_ne (ne_new eF he)]; exact eF) upd_same ne (Paired.map' pF fun r bs h => by rw [upd_ne (ne_new h.2 he)]; exact h.2) (by omega) fun p hp => ?_⟩
  have sA : Same H (L2.upd (L2.upd H e (.lst [])) p (.lst (vn bss.flatten))) := Same.new' (Same.new' (Same.refl H) he) hp
  have fb := flat_lt fun b hb => (hg b hb).lt
  refine ⟨p, rfl, _, upd_same, _, sA _ _ ht, Nat.le_trans (by rw [vn_len, vn_len]; omega : _ ≤ 1000) (by decide), fun p2 hp2 => ?_⟩
  rw [← vn_app]
  refine ⟨p2, bss.flatten ++ bs, rfl, upd_same, fun x hx => ?_, fun c H1 hc s1 ck => ?_⟩
  · rcases List.mem_append.mp hx with h | h
    · exact fb x h
    · exact blt x h
  have sB : Same H H1 := fun b o q => s1 b o (Same.new' sA hp2 b o q)
  refine ask_run rfl (tabs_same S.tb sB) (bad_raises ck (by rw [List.length_append]; omega) (fun x hx => ?_) ?_) fun H2 e2 t2 => k _ H2 ((ExtN.same sB).trans e2) t2
  · rcases List.mem_append.mp hx with h | h
    · exact fb x h
    · exact blt x h
  · have := ok_bad hg bne bad
    rwa [List.append_nil] at this
theorem tails_run {H : Hp} (S : Sit Pt q a d F bss H) (ne : bss ≠ []) (hl : bss.length ≤ 12) (hg : ∀ b ∈ bss, GoodB b) (k : ∀ s7 s8 H', LamX.ExtN H H' → LamX.Tabs [(Pt, q)] H' → D.nx [s0, some (.ref d), s2, some (.ref a), some (.ref F), s5, s6, s7, s8, s9, s10] H') :
    t_tails K CC CN Pt q D [s0, some (.ref d), s2, some (.ref a), some (.ref F), s5, s6, s7, s8, s9, s10] H := by
  unfold t_tails
  rw [r_forT, r_tup]
  have key : AT [s0, some (.ref d), s2, some (.ref a), some (.ref F), s5, s6, s7, s8, s9, s10] (tCons (tLst (tNs [30])) (tCons (tLst (tNs [71])) (tCons (tLst (tNs [71, 1])) (tCons (tLst (tNs [71, 2, 71, 3])) (tCons (tLst (tNs [45, 0])) (tCons (tLst (tNs [45, 0, 0])) (tCons (tOp rCat (tLst (tNs [82, 0])) (tOp rRep (tLst (tNs [0])) (tC (V.int ((16 : Nat) : Int))))) (tCons (tLst (tNs [40, 0, 0, 0, 0])) tNil)))))))) 8 :=
    at_cons (et_ns (by decide) (by decide) (by decide) tl_1) (at_cons (et_ns (by decide) (by decide) (by decide) tl_2) (at_cons (et_ns (by decide) (by decide) (by decide) tl_3) (at_cons (et_ns (by decide) (by decide) (by decide) tl_4) (at_cons (et_ns (by decide) (by decide) (by decide) tl_5) (at_cons (et_ns (by decide) (by decide) (by decide) tl_6)
      (at_cons (et_rep (ws := [82, 0]) (xs := [0]) (k := 16) (by decide) (by decide) (by decide) (by decide) (by decide) (by decide) tl_7) (at_cons (et_ns (by decide) (by decide) (by decide) tl_8) at_nil)))))))
  refine key H _ fun vs H1 s1 l bs => ⟨szl (by omega), fun TT hT => ⟨TT, rfl, ⟨_, SqT.of upd_same⟩, ?_⟩⟩
  have sT := Same.new' (o := .tup vs) (Same.refl H1) hT
  have qT : L2.upd H1 TT (.tup vs) TT = some (.tup vs) := upd_same
  have bs' : ∀ v ∈ vs, TlV (L2.upd H1 TT (.tup vs)) v := fun v hv => (bs v hv).1.same sT
  generalize L2.upd H1 TT (.tup vs) = G at *
  have S2 := (S.same s1).same sT
  refine lp_tup (xs := vs) (fun i σ H' => (∃ s7 s8, σ = [s0, some (.ref d), s2, some (.ref a), some (.ref F), s5, s6, s7, s8, s9, s10]) ∧ LamX.ExtN G H' ∧ LamX.Tabs [(Pt, q)] H') ⟨⟨_, _, rfl⟩, LamX.ExtN.refl G, S2.tb⟩ (fun i σ H' _ ⟨_, e, _⟩ => SqT.of (e _ _ qT (fun _ z => by cases z))) ?_ ?_
  · rintro i x σ H' hx ⟨⟨s7, s8, rfl⟩, e, t1⟩
    obtain ⟨p, bs2, rfl, hp, r⟩ := bs' x (List.mem_of_getElem? hx)
    show t_tail1 K CC CN Pt q _ [s0, some (.ref d), s2, some (.ref a), some (.ref F), s5, s6, some (.ref p), s8, s9, s10] H'
    exact tail1_run (S2.ext e t1) ne hl hg ⟨p, bs2, rfl, e _ _ hp (fun _ z => by cases z), r⟩ fun s8 H2 e2 t2 => ⟨⟨_, _, rfl⟩, e.trans e2, t2⟩
  · rintro σ H' ⟨⟨s7, s8, rfl⟩, e, t1⟩
    exact k s7 s8 H' ((ExtN.same (Same.trans' s1 sT)).trans e) t1
/-! ### what is no code -/
theorem odd_lit {x : V} {H : Hp} {n : String} (hn : n ∈ (["NoneType", "int", "bool", "str", "list", "tuple", "dict"] : List String)) (h : ∀ H1 : Hp, tyD CC H1 x = some (.type n)) : OddOk CC x H := ⟨n, hn, fun H1 _ => h H1⟩
theorem odd_lst {b : Addr} {xs : List V} {H : Hp} (h : H b = some (.lst xs)) : OddOk CC (.ref b) H := ⟨"list", by decide, fun H1 e => by
  show tyH CC (H1 b) = _
  rw [e b _ h (fun _ z => by cases z)]
  rfl⟩
theorem odd_dct {b : Addr} {kvs : List (Key × V)} {H : Hp} (h : H b = some (.dK kvs)) : OddOk CC (.ref b) H := ⟨"dict", by decide, fun H1 e => by
  show tyH CC (H1 b) = _
  rw [e b _ h (fun _ z => by cases z)]
  rfl⟩
theorem OddOk.ext {x : V} {H H1 : Hp} (h : OddOk CC x H) (e : LamX.ExtN H H1) : OddOk CC x H1 := by
  obtain ⟨n, hn, k⟩ := h
  exact ⟨n, hn, fun H2 e2 => k H2 (e.trans e2)⟩
theorem odds_run {mg : Str → Option Value} {H : Hp} (I : CodeT K mg CC) (t : LamX.Tabs [(Pt, q)] H) (k : ∀ s9 H', LamX.ExtN H H' → LamX.Tabs [(Pt, q)] H' → D.nx [s0, some (.ref d), s2, some (.ref a), some (.ref F), s5, s6, s7, s8, s9, s10] H') :
    t_odds K CC CN Pt q D [s0, some (.ref d), s2, some (.ref a), some (.ref F), s5, s6, s7, s8, s9, s10] H := by
  unfold t_odds
  refine ⟨Nat.zero_le _, fun e1 h1 => ?_⟩
  have s1 := Same.new' (o := .lst []) (Same.refl H) h1
  have q1 : L2.upd H e1 (.lst []) e1 = some (.lst []) := upd_same
  generalize L2.upd H e1 (.lst []) = G1 at *
  refine ⟨szl (by decide), fun e2 h2 => ?_⟩
  have s2' := Same.new' (o := .lst [V.int 30, V.int 0]) (Same.refl G1) h2
  have q2 : L2.upd G1 e2 (.lst [V.int 30, V.int 0]) e2 = some (.lst [V.int 30, V.int 0]) := upd_same
  change ∀ p, L2.upd G1 e2 (.lst [V.int 30, V.int 0]) p = none → _
  generalize L2.upd G1 e2 (.lst [V.int 30, V.int 0]) = G2 at *
  intro e3 h3
  have s3' := Same.new' (o := .dK []) (Same.refl G2) h3
  have q3 : L2.upd G2 e3 (.dK []) e3 = some (.dK []) := upd_same
  generalize L2.upd G2 e3 (.dK []) = G3 at *
  refine ⟨szl (by simp only [List.length_cons, List.length_nil]; decide), fun TT hT => ⟨TT, rfl, ⟨_, SqT.of upd_same⟩, ?_⟩⟩
  have s4' := Same.new' (o := .tup [.non, .int 5, .str "ab", .ref e1, .ref e2, .bl true, .ref e3]) (Same.refl G3) hT
  have q4 : L2.upd G3 TT (.tup [.non, .int 5, .str "ab", .ref e1, .ref e2, .bl true, .ref e3]) TT = some (.tup [.non, .int 5, .str "ab", .ref e1, .ref e2, .bl true, .ref e3]) := upd_same
  change LoopR _ _ _ _ _ (L2.upd G3 TT (.tup [.non, .int 5, .str "ab", .ref e1, .ref e2, .bl true, .ref e3]))
  generalize L2.upd G3 TT (.tup [.non, .int 5, .str "ab", .ref e1, .ref e2, .bl true, .ref e3]) = G at *
  have sA : Same H G := fun b o e => s4' b o (s3' b o (s2' b o (s1 b o e)))
  have ok : ∀ x ∈ [V.non, .int 5, .str "ab", .ref e1, .ref e2, .bl true, .ref e3], OddOk CC x G := by
    intro x hx
    simp only [List.mem_cons, List.not_mem_nil, or_false] at hx
    rcases hx with rfl | rfl | rfl | rfl | rfl | rfl | rfl
    · exact odd_lit (n := "NoneType") (by decide) fun _ => rfl
    · exact odd_lit (n := "int") (by decide) fun _ => rfl
    · exact odd_lit (n := "str") (by decide) fun _ => rfl
    · exact odd_lst (s4' _ _ (s3' _ _ (s2' _ _ q1)))
    · exact odd_lst (s4' _ _ (s3' _ _ q2))
    · exact odd_lit (n := "bool") (by decide) fun _ => rfl
    · exact odd_dct (s4' _ _ q3)
  refine lp_tup (xs := [.non, .int 5, .str "ab", .ref e1, .ref e2, .bl true, .ref e3]) (fun i σ H' => (∃ v, σ = [s0, some (.ref d), s2, some (.ref a), some (.ref F), s5, s6, s7, s8, v, s10]) ∧ LamX.ExtN G H' ∧ LamX.Tabs [(Pt, q)] H') ⟨⟨_, rfl⟩, LamX.ExtN.refl G, tabs_same t sA⟩ (fun i σ H' _ ⟨_, e, _⟩ => SqT.of (e _ _ q4 (fun _ z => by cases z))) ?_ ?_
  · rintro i x σ H' hx ⟨⟨v, rfl⟩, e, t1⟩
    show t_ask K CC CN Pt q 9 _ [s0, some (.ref d), s2, some (.ref a), some (.ref F), s5, s6, s7, s8, some x, s10] H'
    exact ask_run rfl t1 (odd_raises I ((ok x (List.mem_of_getElem? hx)).ext e)) fun H2 e2 t2 => ⟨⟨_, rfl⟩, e.trans e2, t2⟩
  · rintro σ H' ⟨⟨v, rfl⟩, e, t1⟩
    exact k v H' ((ExtN.same sA).trans e) t1
/-! ### a number of the script -/
theorem cell_run {mg : Str → Option Value} {H : Hp} {n : Int} {s3 : Option V} (I : CodeT K mg CC) (ht : LawTab H d tabL) (t : LamX.Tabs [(Pt, q)] H)
    (k : ∀ s3 s4 s5 s6 s7 s8 s9 H', LamX.ExtN H H' → LamX.Tabs [(Pt, q)] H' → D.nx [s0, some (.ref d), some (.int n), s3, s4, s5, s6, s7, s8, s9, none] H') :
    t_cell K CC CN Pt q D [s0, some (.ref d), some (.int n), s3, s4, s5, s6, s7, s8, s9, none] H := by
  unfold t_cell
  refine ⟨_, rfl, n, rfl, fun a H1 ha s1 src => ?_⟩
  refine chunks_run src (ht.same s1) fun F bss H2 k2 S2 ch ne hl hg => ?_
  have S : Sit Pt q a d F bss H2 := ⟨S2, ch, (ht.same s1).keep k2 src.lst, tabs_keep (tabs_same t s1) k2 src.lst⟩
  refine ofirst_run S ne hl hg fun H3 s3' => ?_
  refine turns_run (S.same s3') ne hl hg fun s5 s6 s8 H4 k4 S4 => ?_
  refine tails_run S4 ne hl hg fun s7 s8 H5 e5 t5 => ?_
  refine odds_run I t5 fun s9 H6 e6 t6 => k _ _ _ _ _ _ _ H6 (fun b o e hu => ?_) t6
  have ba : b ≠ a := ne_new e ha
  exact e6 b o (e5 b o (k4 b o ba (s3' b o (k2 b o ba (s1 b o e))) hu) hu) hu
theorem law_run {mg : Str → Option Value} {H : Hp} {ns : List Int} (I : CodeT K mg CC) (t : LamX.Tabs [(Pt, q)] H) (hS : SqL K H a (ns.map V.int)) (hn : ns.length ≤ 1000) :
    t_law K CC CN Pt q { nx := fun _ H' => (fun v (_ : Hp) => v = V.bl true) .non H', rt := fun v _ => v = .bl true } (L2.start Nlaw [.ref a]) H := by
  have sqL_same : ∀ {H H' : Hp} {a : Addr} {xs : List V}, SqL K H a xs → Same H H' → SqL K H' a xs := fun h s => by
    rcases h with (h | ⟨o, h⟩) | h
    · exact .inl (.inl (s _ _ h))
    · exact .inl (.inr ⟨o, s _ _ h⟩)
    · exact .inr h
  unfold t_law
  refine ⟨rfl, fun d Hd hd sd ld => ?_⟩
  have tD := tabs_same t sd
  refine ⟨_, rfl, szl (by decide), fun p0 h0 => ⟨a, p0, _, _, rfl, rfl, sqL_same hS (Same.trans' sd (Same.new' (Same.refl Hd) h0)), upd_same, Nat.le_trans (by rw [List.length_map, List.length_singleton]; omega : _ ≤ 1001) (by decide), fun p1 h1 => ⟨5, rfl, p1, _, rfl, upd_same, fun p2 h2 => ⟨p2, rfl, ⟨_, SqL.of upd_same⟩, ?_⟩⟩⟩⟩
  have s1 := Same.new' (o := .lst [.int 0]) (Same.refl Hd) h0
  generalize L2.upd Hd p0 (.lst [.int 0]) = G1 at *
  have s2 := Same.new' (o := .lst (ns.map V.int ++ [.int 0])) (Same.refl G1) h1
  generalize L2.upd G1 p1 (.lst (ns.map V.int ++ [.int 0])) = G2 at *
  have isInt : ∀ x ∈ cutV (ns.map V.int ++ [.int 0]) none (some 5), ∃ n : Int, x = .int n := by
    intro x hx
    unfold cutV at hx
    have h := List.mem_of_mem_drop (List.mem_of_mem_take hx)
    rcases List.mem_append.mp h with h | h
    · obtain ⟨n, _, e⟩ := List.mem_map.mp h
      exact ⟨n, e.symm⟩
    · exact ⟨0, List.mem_singleton.mp h⟩
  generalize cutV (ns.map V.int ++ [.int 0]) none (some 5) = xs at *
  have s3 := Same.new' (o := .lst xs) (Same.refl G2) h2
  have q3 : L2.upd G2 p2 (.lst xs) p2 = some (.lst xs) := upd_same
  have t3 : LamX.Tabs [(Pt, q)] (L2.upd G2 p2 (.lst xs)) := tabs_same (tabs_same (tabs_same tD s1) s2) s3
  have l3 : LawTab (L2.upd G2 p2 (.lst xs)) d tabL := ((ld.same s1).same s2).same s3
  generalize L2.upd G2 p2 (.lst xs) = G3 at *
  refine lp_list (xs := xs) (fun i σ H' => (∃ v2 v3 v4 v5 v6 v7 v8 v9, σ = [some (.ref a), some (.ref d), v2, v3, v4, v5, v6, v7, v8, v9, none]) ∧ LamX.ExtN G3 H' ∧ LamX.Tabs [(Pt, q)] H') ⟨⟨_, _, _, _, _, _, _, _, rfl⟩, LamX.ExtN.refl G3, t3⟩ (fun i σ H' _ ⟨_, e, _⟩ => SqL.of (e _ _ q3 (fun _ z => by cases z))) ?_ ?_
  · rintro i x σ H' hx ⟨⟨v2, v3, v4, v5, v6, v7, v8, v9, rfl⟩, e, t'⟩
    obtain ⟨n, rfl⟩ := isInt x (List.mem_of_getElem? hx)
    show t_cell K CC CN Pt q _ [some (.ref a), some (.ref d), some (.int n), v3, v4, v5, v6, v7, v8, v9, none] H'
    exact cell_run I (l3.ext e) t' fun w3 w4 w5 w6 w7 w8 w9 H2 e2 t2 => ⟨⟨_, _, _, _, _, _, _, _, rfl⟩, e.trans e2, t2⟩
  · rintro σ H' ⟨_, e, t'⟩
    refine ⟨t', fun H1 e1 t1 => ?_⟩
    refine ⟨Nat.zero_le _, fun p hp => ⟨p, [], rfl, upd_same, (fun x h => by cases h), fun c H2 hc s2' ck => ?_⟩⟩
    refine ⟨_, rfl, .inr ⟨c, [], rfl, ck, Nat.zero_le _, (fun x h => by cases h), fun ok => absurd ok ok_nil, fun _ dd H3 hd s3' hf => ⟨rfl, dd, .str "code", rfl, hf, fun pp H4 hpp s4' h4 => ?_⟩⟩⟩
    refine ⟨szl (by decide), fun pq hpq => ?_⟩
    exact eq_code (by rw [upd_ne (ne_new h4 hpq)]; exact h4) upd_same rfl
end
/-- the law runs well -/
theorem law_runs {P : Program} {w : World} {K : PySem.W.Frag} {mg : Str → Option Value} {CC CN CE CT CR CB gC fa co Pt a : Addr} {cdC : Value} {s : Shared} {ns : List Int} {oc : Value} {od : Option Addr} {dV kV doc pm ct : Value} {an : Option Addr} {osl : Array (Option Value)}
    (L : ∀ base, LawT P w K mg base CC CN CE CT CR CB gC cdC) (lk : K.lookup fa = some ⟨oc, od, .func (PySem.W.fnOf "law" "law" (defArgs slaw) (defBody slaw) (defScope slaw) dV kV doc pm an (.ref co) ct), osl⟩) (hcd : PySem.W.codeIn K (.ref co) "law" = true)
    (bind : ∀ (s : Shared) (v : Value), BindsTo s (PySem.W.fnOf "law" "law" (defArgs slaw) (defBody slaw) (defScope slaw) dV kV doc pm an (.ref co) ct) ⟨[v], []⟩ [("_law_script", v)]) (hn : ns.length ≤ 1000) : RunsAt P w K mg [(co, Pt)] fa a s ns := by
  intro base H KB nsB TB e0 hT hS
  refine LamX.run_ofS (N := Nlaw) (ps := ["_law_script"]) (us := [.ref a]) (vs := [.ref a]) lk hcd sclaw (k := 7) ⟨rfl, by decide, by decide⟩ e0 (bind s (.ref a)) (.cons rfl .nil) rfl fun hr => ?_
  refine ⟨_, (law_reads (L base) (TB _ (List.mem_singleton.mpr rfl)) hr rfl).nox, ?_⟩
  exact law_run (L base).I (fun p hp => by rw [List.mem_singleton.mp hp]; exact LamX.TabS.nil (hT _ (List.mem_singleton.mpr rfl))) hS hn
end C58

set_option maxHeartbeats 4000000
namespace C58
open PySem PySem.Spec PyProof.Rows L2
/-! ### the exception's __init__ -/
section
variable {P : Program} {w : World} {K : PySem.W.Frag} {mg : Str → Option Value} {base : Heap} {f : Addr} {fd : FuncData}
abbrev sNoCode_init : Stmt := inClass (top 2) 0
theorem scNoCode_init : FnScope ["self", "field"] ["self", "field"] (defScope sNoCode_init) := ⟨rfl, rfl, rfl, by decide +kernel, rfl, by decide +kernel, by decide +kernel⟩

theorem ok_NoCode_init {CN : Addr} (ox : OexC K CN) (no : PySem.W.findIn K (.ref CN) "field" = some none) (F : FnP K "__init__" "NoCode.__init__" sNoCode_init f fd) : FnOk P w K mg base CX0 1 f fd ["self", "field"] (spXInit CN "field") := by
  refine F.ok scNoCode_init (fun vs H Q E h => ?_) (fun cdv A outer s H vs Q E hr h => ?_)
  · obtain ⟨a, v, rfl, _⟩ := h
    rfl
  · obtain ⟨a, v, rfl, ha, k⟩ := h
    refine ⟨_, PSs.nox (pss_one (ps_ost (pv 0) (pv 1))), ?_⟩
    exact ⟨v, rfl, .ref a, rfl, a, CN, rfl, ox, no, .inl ⟨ha, fun d hd nd => k d hd nd⟩⟩
end
/-! ### what the head's facts say -/
theorem oexB_ok {K : PySem.W.Frag} {C : Addr} (h : oexB K C = true) : ∃ nm q N bs bm sn sub ab col dd k0 k1 k2 k3 k5, K.lookup C = some (excClassObj nm q C N bs bm true sn sub ab col dd k0 k1 k2 k3 k5 "ValueError.__new__") ∧ PySem.HandSPX.refsVE bm = true := by
  unfold oexB at h
  split at h
  · rename_i t dd cd sl e
    rw [Bool.and_eq_true] at h
    obtain ⟨ht, h⟩ := h
    split at h
    · rename_i D bm y0 y1 y2 y3 n y5 em es
      simp only [Bool.and_eq_true, decide_eq_true_eq, Bool.not_eq_true'] at h
      obtain ⟨h1, h2, h3, h4, h5⟩ := h
      have ht := of_decide_eq_true ht
      obtain ⟨nm, bs, mro, ns, qn, hd, sn, sub, ab, col, del⟩ := cd
      obtain ⟨l⟩ := sl
      dsimp only at em es h3 h4
      subst em es h1 h2 h3 h4 ht
      exact ⟨_, _, _, _, bm, _, _, _, _, _, _, _, _, _, _, e, h5⟩
    · cases h
  · cases h
theorem excB_ok {K : PySem.W.Frag} {D : Addr} (h : excB K D = true) : ExcC K D ∧ XfC K D ∧ PySem.W.typeIn K (.ref D) = some (.type "type") ∧ PySem.W.keepIn K (.ref D) = true ∧ PySem.W.findIn K (.ref D) "__setattr__" = some (some (.builtin "object.__setattr__")) := by
  unfold excB at h
  simp only [Bool.and_eq_true, decide_eq_true_eq] at h
  obtain ⟨h1, h2, h3, h4, h5, h6, h7, h8, h9, h10, h11⟩ := h
  exact ⟨⟨He.eqO_ok h1, He.eqO_ok h2, h3, h4, He.eqO_ok h5, He.eqO_ok h6, h7, h8⟩, ⟨He.eqO_ok h1, He.eqO_ok h2, h3, h4⟩, h9, h10, He.eqO_ok h11⟩
theorem tupIn_ok {K : PySem.W.Frag} {a : Addr} {us : List Value} {xs : List V} (h : tupIn K a = some us) (r : Vals xs us) (z : us.length ≤ 1000) (H : Hp) : SqT K H a xs := by
  unfold tupIn at h
  split at h
  · rename_i t dd its n sl e
    split at h
    · rename_i ht
      cases h
      exact .inr ⟨_, its, n, e, by rw [ht], rfl, Nat.le_trans (by simpa using z) (by decide), r⟩
    · cases h
  · cases h
theorem dicB_ok {K : PySem.W.Frag} {d : Addr} {f : List DictEntry → Bool} (h : dicB K d f = true) : ∃ es n, K.lookup d = some ⟨.type "dict", none, .dict es n, #[]⟩ ∧ f es.toList = true ∧ (d == sysModules) = false := by
  unfold dicB at h
  rw [Bool.and_eq_true] at h
  obtain ⟨h0, h⟩ := h
  split at h
  · rename_i c es n sl e
    simp only [Bool.and_eq_true, decide_eq_true_eq] at h
    obtain ⟨h1, h2, h3⟩ := h
    have es0 : sl = #[] := Array.eq_empty_of_size_eq_zero h2
    rw [h1, es0] at e
    exact ⟨es, n, e, h3, by simpa using h0⟩
  · cases h
theorem getI_cons {i : Int} {v : Value} {L : List (Int × Value)} {k : Int} : getI ((i, v) :: L) k = if i = k then some v else getI L k := by
  unfold getI
  rw [List.find?_cons]
  by_cases c : i = k
  · rw [if_pos c, decide_eq_true c]
    rfl
  · rw [if_neg c, decide_eq_false c]
theorem zip_ok {K : PySem.W.Frag} : ∀ {es : List DictEntry} {ps : List (Nat × Str × Nat)}, zipB K es ps = true → ∃ L, es.map keyI = L.map some ∧ ∀ n : Nat, (((ps.find? fun p => decide (p.1 = n)).map (·.2)) = none → getI L (n : Int) = none) ∧
    ∀ w u, ((ps.find? fun p => decide (p.1 = n)).map (·.2)) = some (w, u) → ∃ t, getI L (n : Int) = some (.ref t) ∧ ∀ H : Hp, SqT K H t [.str w, .int (u : Int)]
  | [], [], _ => ⟨[], rfl, fun n => ⟨fun _ => rfl, fun w u h => by cases h⟩⟩
  | [], _ :: _, h => by cases h
  | _ :: _, [], h => by cases h
  | e :: es, p :: ps, h => by
    have h2 : (entB K p e && zipB K es ps) = true := h
    rw [Bool.and_eq_true] at h2
    obtain ⟨h3, h4⟩ := h2
    obtain ⟨L, g1, g2⟩ := zip_ok h4
    unfold entB at h3
    split at h3
    · rename_i i tk t ek ev
      simp only [Bool.and_eq_true, decide_eq_true_eq] at h3
      obtain ⟨a1, a2, a3⟩ := h3
      split at a3
      · rename_i z tz u tu et
        simp only [Bool.and_eq_true, decide_eq_true_eq] at a3
        obtain ⟨a4, a5⟩ := a3
        have ky : keyI e = some (i, .ref t) := by
          unfold keyI
          rw [ek]
          dsimp only
          rw [if_pos a2, ev]
        refine ⟨(i, .ref t) :: L, by rw [List.map_cons, List.map_cons, g1, ky], fun n => ?_⟩
        rw [getI_cons, List.find?_cons]
        by_cases c : p.1 = n
        · rw [decide_eq_true c, if_pos (by rw [a1, c])]
          refine ⟨(fun q => by cases q), fun w' u' q => ?_⟩
          have q2 : p.2 = (w', u') := Option.some.inj q
          refine ⟨t, rfl, tupIn_ok et (.cons ⟨tz, ?_⟩ (.cons ⟨tu, ?_⟩ .nil)) (by show 2 ≤ 1000; omega)⟩
          · rw [a4, q2]
          · rw [a5, q2]
        · rw [decide_eq_false c, if_neg (fun q => c (by omega))]
          exact g2 n
      · cases a3
    · cases h3
theorem words_ok {K : PySem.W.Frag} {mg : Str → Option Value} {d : Addr} (h : dicB K d (fun es => zipB K es ZW) = true) (g : mg "WORDS" = some (.ref d)) : ∃ L, WordsT K mg d L wdF := by
  obtain ⟨es, n, e, h2, lo⟩ := dicB_ok h
  obtain ⟨L, g1, g2⟩ := zip_ok h2
  refine ⟨L, ⟨⟨es, n, e, g1⟩, lo⟩, g, fun n q => (g2 n).1 q, fun n w u q => ?_⟩
  have m := wdF_mem q
  have := List.all_eq_true.mp wd_fact _ m
  simp only [Bool.and_eq_true, decide_eq_true_eq] at this
  exact ⟨this.1.1, this.1.2, (g2 n).2 w u q⟩
theorem ents_ok : ∀ {es : List DictEntry}, es.all entT = true → ∃ L, es.map keyI = L.map some ∧ ∀ k u, getI L k = some u → ∃ z t, u = .str z t ∧ z.length ≤ 50
  | [], _ => ⟨[], rfl, fun k u h => by cases h⟩
  | e :: es, h => by
    rw [List.all_cons, Bool.and_eq_true] at h
    obtain ⟨h1, h2⟩ := h
    obtain ⟨L, g1, g2⟩ := ents_ok h2
    unfold entT at h1
    split at h1
    · rename_i i tk z tz ek ev
      simp only [Bool.and_eq_true, decide_eq_true_eq] at h1
      have ky : keyI e = some (i, .str z tz) := by
        unfold keyI
        rw [ek]
        dsimp only
        rw [if_pos h1.1, ev]
      refine ⟨(i, .str z tz) :: L, by rw [List.map_cons, List.map_cons, g1, ky], fun k u q => ?_⟩
      rw [getI_cons] at q
      split at q
      · cases q
        exact ⟨z, tz, rfl, h1.2⟩
      · exact g2 k u q
    · cases h1
theorem texts_ok {K : PySem.W.Frag} {mg : Str → Option Value} {x : Str} {d : Addr} (h : dicB K d (·.all entT) = true) (g : mg x = some (.ref d)) : ∃ L, TextsT K mg x d L := by
  obtain ⟨es, n, e, h2, lo⟩ := dicB_ok h
  obtain ⟨L, g1, g2⟩ := ents_ok h2
  exact ⟨L, ⟨⟨es, n, e, g1⟩, lo⟩, g, g2⟩
/-! ### what tells a meaning, by its address -/
def SF (K : PySem.W.Frag) (CC : Addr) : Addr → Option Sp := fun f => ((List.range 11).find? fun i => He.ga K (fnNames.getD i "") == f).map fun i => spOf CC 100 (gI (i + 2))
theorem dist_ne : ∀ {l : List Addr}, distB l = true → ∀ {i j : Nat} {x y : Addr}, j < i → l[j]? = some x → l[i]? = some y → (x == y) = false
  | [], _, i, j, x, y, _, h, _ => by cases h
  | a :: r, h, 0, j, x, y, lt, _, _ => absurd lt (Nat.not_lt_zero _)
  | a :: r, h, i + 1, 0, x, y, _, hx, hy => by
    have h2 : ((r.all fun b => !(a == b)) && distB r) = true := h
    rw [Bool.and_eq_true] at h2
    cases hx
    have := List.all_eq_true.mp h2.1 y (List.mem_of_getElem? (show r[i]? = some y from hy))
    simpa using this
  | a :: r, h, i + 1, j + 1, x, y, lt, hx, hy => by
    have h2 : ((r.all fun b => !(a == b)) && distB r) = true := h
    rw [Bool.and_eq_true] at h2
    exact dist_ne h2.2 (Nat.lt_of_succ_lt_succ lt) hx hy
theorem SF_at {K : PySem.W.Frag} {CC : Addr} (h : distB (fnNames.map (He.ga K)) = true) {i : Nat} (hi : i < 11) : SF K CC (He.ga K (fnNames.getD i "")) = some (spOf CC 100 (gI (i + 2))) := by
  have e : (List.range 11).find? (fun j => He.ga K (fnNames.getD j "") == He.ga K (fnNames.getD i "")) = some i := by
    rw [List.find?_range_eq_some]
    refine ⟨by simp, by simpa using hi, fun j hj => ?_⟩
    have at' : ∀ k, k < 11 → (fnNames.map (He.ga K))[k]? = some (He.ga K (fnNames.getD k "")) := fun k hk => by
      have lk : fnNames[k]? = some (fnNames.getD k "") := by
        rw [List.getD_eq_getElem?_getD]
        have : k < fnNames.length := hk
        rw [List.getElem?_eq_getElem this]
        rfl
      rw [List.getElem?_map, lk]
      rfl
    show (!(He.ga K (fnNames.getD j "") == He.ga K (fnNames.getD i ""))) = true
    rw [dist_ne h hj (at' j (by omega)) (at' i hi)]
    rfl
  unfold SF
  rw [e]
  rfl
theorem SF_of {K : PySem.W.Frag} {CC f : Addr} {sp : Sp} (h : SF K CC f = some sp) : ∃ i, i < 11 ∧ f = He.ga K (fnNames.getD i "") ∧ sp = spOf CC 100 (gI (i + 2)) := by
  unfold SF at h
  cases e : (List.range 11).find? fun i => He.ga K (fnNames.getD i "") == f with
  | none => rw [e] at h; cases h
  | some i =>
    rw [e] at h
    rw [List.find?_range_eq_some] at e
    exact ⟨i, by simpa using e.2.1, (eq_of_beq e.1).symm, (Option.some.inj h).symm⟩
theorem zki_eq (z : Str) : zki z = kiF z := rfl
theorem ZW_eq : ZW = WDL := rfl
theorem kdF_of (z : Str) : kdF z = mkOf (kiF z) := rfl
theorem mean_ok {K : PySem.W.Frag} {w : World} {mg : Str → Option Value} {CC : Addr} (hg : exG K = true) (hd : distB (fnNames.map (He.ga K)) = true) (kL : ∃ es n, KDict K w (He.ga K "LEADING") es n) (kM : ∃ es n, KDict K w (He.ga K "MEANINGS") es n) (gL : mg "LEADING" = some (.ref (He.ga K "LEADING"))) (gM : mg "MEANINGS" = some (.ref (He.ga K "MEANINGS"))) (hk : KIL.all (fun p => decide (p.2 < 13)) = true) :
    MeanT K w mg CC (He.ga K "LEADING") (He.ga K "MEANINGS") wordsL kdF (SF K CC) := by
  unfold exG at hg
  simp only [Bool.and_eq_true] at hg
  obtain ⟨h1, h2, h3⟩ := hg
  rw [ZW_eq] at h1 h2
  have hl : ∀ z ∈ wordsL, leadB K (He.ga K "LEADING") z = true ∧ meanB K (He.ga K "MEANINGS") z = true := fun z hz => by
    obtain ⟨p, hp, rfl⟩ := List.mem_map.mp hz
    exact ⟨List.all_eq_true.mp h1 p hp, List.all_eq_true.mp h2 p hp⟩
  have klt : ∀ z, kiF z < 13 := fun z => by
    unfold kiF
    cases e : KIL.find? fun p => decide (p.1 = z) with
    | none => exact (by decide : 0 < 13)
    | some p => exact of_decide_eq_true (List.all_eq_true.mp hk p (List.mem_of_find?_eq_some e))
  refine ⟨⟨kL, gL, fun z hz => ?_⟩, ⟨kM, gM, fun z hz => ?_⟩, fun z hz => ?_, fun z hz hn => ?_, fun z hz g hf => ?_⟩
  · have := (hl z hz).1
    unfold leadB at this
    split at this
    · rename_i r e
      exact ⟨r, e⟩
    · cases this
  · have := (hl z hz).2
    unfold meanB at this
    split at this
    · rename_i e
      exact ⟨_, e⟩
    · rename_i f e
      exact ⟨_, e⟩
    · cases this
  · have := (hl z hz).1
    unfold leadB at this
    split at this
    · rename_i r e
      refine ⟨r, e, ?_⟩
      rw [eq_of_beq this, zki_eq, kdF_of]
      match kiF z with
      | 0 => rfl
      | 1 => rfl
      | k + 2 => rfl
    · cases this
  · have := (hl z hz).2
    rw [kdF_of] at hn
    have k0 : kiF z = 0 := by
      match h : kiF z with
      | 0 => rfl
      | 1 => rw [h] at hn; cases hn
      | k + 2 => rw [h] at hn; cases hn
    unfold meanB at this
    rw [zki_eq, k0] at this
    split at this
    · rename_i e
      exact e
    · simp at this
    · cases this
  · have := (hl z hz).2
    rw [kdF_of] at hf
    have lt := klt z
    match h : kiF z with
    | 0 => rw [h] at hf; cases hf
    | 1 => rw [h] at hf; cases hf
    | k + 2 =>
      rw [h] at hf lt
      have eg : gI (k + 2) = g := MK.fn.inj hf
      unfold meanB at this
      rw [zki_eq, h] at this
      split at this
      · simp at this
        omega
      · rename_i f e
        simp only [Bool.and_eq_true, beq_iff_eq] at this
        refine ⟨f, e, ?_⟩
        have e2 : f = He.ga K (fnNames.getD k "") := this.2
        rw [e2, SF_at hd (by omega), eg]
      · cases this
theorem told_up {b : Bool} {v : V} (h : Told 10 b v) : Told 100 b v := by
  unfold Told at h ⊢
  split at h
  · rename_i c
    rw [if_pos c]
    obtain ⟨z, e, l⟩ := h
    exact ⟨z, e, by omega⟩
  · rename_i c
    rw [if_neg c]
    exact h
theorem of_up {CC : Addr} {g : Nat → Bool} : ∀ vs H Q E, spOf CC 100 g vs H Q E → spOf CC 10 g vs H Q E := fun vs H Q E ⟨c, all, n, e, hc, k⟩ => ⟨c, all, n, e, hc, fun v H' s t => k v H' s (told_up t)⟩
end C58

set_option maxHeartbeats 4000000
namespace C58
open PySem PySem.Spec PyProof.Rows L2
abbrev Pk : Program := PySem.Challenge.pw_codewalk_k58_instructions_that_cannot_be
theorem kil_lt : KIL.all (fun p => decide (p.2 < 13)) = true := by decide +kernel
theorem k58_at {w : World} {mg : Str → Option Value} {fa : Addr} {h : Heap} (Y : hkk.says w h) (G : h.Ns mainGlobals mg) (hmg : mg "law" = some (.ref fa)) : ∃ (K : PySem.W.Frag) (cs : List (Addr × Addr)), K.In h ∧ (∀ p ∈ cs, h.get? p.2 = some { cls := .none, data := .fields #[] }) ∧
    (∀ p ∈ cs, K.lookup p.2 = none) ∧ (∀ p ∈ cs, PySem.W.CodeHd h p.1 p.2) ∧ ∀ (s : Shared) (a : Addr) (ns : List Int), ns.length ≤ 1000 → RunsAt Pk w K mg cs fa a s ns := by
  obtain ⟨K, X, c⟩ := Y
  have cd := c.t.d
  obtain ⟨fd_number_of, F_number_of⟩ := cd.def_ 0 (d := d_number_of) rfl
  obtain ⟨fd_bytes_of, F_bytes_of⟩ := cd.def_ 1 (d := d_bytes_of) rfl
  obtain ⟨fd_string_of, F_string_of⟩ := cd.def_ 2 (d := d_string_of) rfl
  obtain ⟨fd_strings_of, F_strings_of⟩ := cd.def_ 3 (d := d_strings_of) rfl
  obtain ⟨fd_is_string, F_is_string⟩ := cd.def_ 4 (d := d_is_string) rfl
  obtain ⟨fd_is_constant, F_is_constant⟩ := cd.def_ 5 (d := d_is_constant) rfl
  obtain ⟨fd_depth_of, F_depth_of⟩ := cd.def_ 6 (d := d_depth_of) rfl
  obtain ⟨fd_Code_init, F_Code_init⟩ := cd.def_ 7 (d := d_Code_init) rfl
  obtain ⟨fd_NoCode_init, F_NoCode_init⟩ := cd.def_ 8 (d := d_NoCode_init) rfl
  obtain ⟨fd_behind_extension, F_behind_extension⟩ := cd.def_ 9 (d := d_behind_extension) rfl
  obtain ⟨fd_cut, F_cut⟩ := cd.def_ 10 (d := d_cut) rfl
  obtain ⟨fd_lines_of_units, F_lines_of_units⟩ := cd.def_ 11 (d := d_lines_of_units) rfl
  obtain ⟨fd_lines_of, F_lines_of⟩ := cd.def_ 12 (d := d_lines_of) rfl
  obtain ⟨fd_of_constant, F_of_constant⟩ := cd.def_ 13 (d := d_of_constant) rfl
  obtain ⟨fd_of_name, F_of_name⟩ := cd.def_ 14 (d := d_of_name) rfl
  obtain ⟨fd_of_attribute, F_of_attribute⟩ := cd.def_ 15 (d := d_of_attribute) rfl
  obtain ⟨fd_of_global, F_of_global⟩ := cd.def_ 16 (d := d_of_global) rfl
  obtain ⟨fd_of_local, F_of_local⟩ := cd.def_ 17 (d := d_of_local) rfl
  obtain ⟨fd_of_locals, F_of_locals⟩ := cd.def_ 18 (d := d_of_locals) rfl
  obtain ⟨fd_of_operator, F_of_operator⟩ := cd.def_ 19 (d := d_of_operator) rfl
  obtain ⟨fd_of_comparison, F_of_comparison⟩ := cd.def_ 20 (d := d_of_comparison) rfl
  obtain ⟨fd_of_opposite, F_of_opposite⟩ := cd.def_ 21 (d := d_of_opposite) rfl
  obtain ⟨fd_of_intrinsic, F_of_intrinsic⟩ := cd.def_ 22 (d := d_of_intrinsic) rfl
  obtain ⟨fd_of_function_attribute, F_of_function_attribute⟩ := cd.def_ 23 (d := d_of_function_attribute) rfl
  obtain ⟨fd_target_of, F_target_of⟩ := cd.def_ 24 (d := d_target_of) rfl
  obtain ⟨fd_meaning_of, F_meaning_of⟩ := cd.def_ 25 (d := d_meaning_of) rfl
  obtain ⟨fd_instructions, F_instructions⟩ := cd.def_ 26 (d := d_instructions) rfl
  obtain ⟨fd_source_of, F_source_of⟩ := cd.def_ 27 (d := d_source_of) rfl
  obtain ⟨fd_next, F_next⟩ := cd.def_ 28 (d := d_next) rfl
  obtain ⟨fd_one, F_one⟩ := cd.def_ 29 (d := d_one) rfl
  obtain ⟨fd_table, F_table⟩ := cd.def_ 30 (d := d_table) rfl
  obtain ⟨fd_packed, F_packed⟩ := cd.def_ 31 (d := d_packed) rfl
  obtain ⟨fd_caught, F_caught⟩ := cd.def_ 32 (d := d_caught) rfl
  obtain ⟨fd_made, F_made⟩ := cd.def_ 33 (d := d_made) rfl
  obtain ⟨fd_good, F_good⟩ := cd.def_ 34 (d := d_good) rfl
  obtain ⟨fd_wrong, F_wrong⟩ := cd.def_ 35 (d := d_wrong) rfl
  obtain ⟨fd_law, F_law⟩ := cd.def_ 36 (d := d_law) rfl
  have g_number_of := He.glo_ok X G (cd.fact 0 (f := .glo "number_of") rfl)
  have g_bytes_of := He.glo_ok X G (cd.fact 1 (f := .glo "bytes_of") rfl)
  have g_string_of := He.glo_ok X G (cd.fact 2 (f := .glo "string_of") rfl)
  have g_strings_of := He.glo_ok X G (cd.fact 3 (f := .glo "strings_of") rfl)
  have g_is_string := He.glo_ok X G (cd.fact 4 (f := .glo "is_string") rfl)
  have g_is_constant := He.glo_ok X G (cd.fact 5 (f := .glo "is_constant") rfl)
  have g_depth_of := He.glo_ok X G (cd.fact 6 (f := .glo "depth_of") rfl)
  have g_behind_extension := He.glo_ok X G (cd.fact 7 (f := .glo "behind_extension") rfl)
  have g_cut := He.glo_ok X G (cd.fact 8 (f := .glo "cut") rfl)
  have g_lines_of_units := He.glo_ok X G (cd.fact 9 (f := .glo "lines_of_units") rfl)
  have g_lines_of := He.glo_ok X G (cd.fact 10 (f := .glo "lines_of") rfl)
  have g_of_constant := He.glo_ok X G (cd.fact 11 (f := .glo "of_constant") rfl)
  have g_of_name := He.glo_ok X G (cd.fact 12 (f := .glo "of_name") rfl)
  have g_of_attribute := He.glo_ok X G (cd.fact 13 (f := .glo "of_attribute") rfl)
  have g_of_global := He.glo_ok X G (cd.fact 14 (f := .glo "of_global") rfl)
  have g_of_local := He.glo_ok X G (cd.fact 15 (f := .glo "of_local") rfl)
  have g_of_locals := He.glo_ok X G (cd.fact 16 (f := .glo "of_locals") rfl)
  have g_of_operator := He.glo_ok X G (cd.fact 17 (f := .glo "of_operator") rfl)
  have g_of_comparison := He.glo_ok X G (cd.fact 18 (f := .glo "of_comparison") rfl)
  have g_of_opposite := He.glo_ok X G (cd.fact 19 (f := .glo "of_opposite") rfl)
  have g_of_intrinsic := He.glo_ok X G (cd.fact 20 (f := .glo "of_intrinsic") rfl)
  have g_of_function_attribute := He.glo_ok X G (cd.fact 21 (f := .glo "of_function_attribute") rfl)
  have g_target_of := He.glo_ok X G (cd.fact 22 (f := .glo "target_of") rfl)
  have g_meaning_of := He.glo_ok X G (cd.fact 23 (f := .glo "meaning_of") rfl)
  have g_instructions := He.glo_ok X G (cd.fact 24 (f := .glo "instructions") rfl)
  have g_source_of := He.glo_ok X G (cd.fact 25 (f := .glo "_law_source_of") rfl)
  have g_next := He.glo_ok X G (cd.fact 26 (f := .glo "_law_next") rfl)
  have g_one := He.glo_ok X G (cd.fact 27 (f := .glo "_law_one") rfl)
  have g_table := He.glo_ok X G (cd.fact 28 (f := .glo "_law_table") rfl)
  have g_packed := He.glo_ok X G (cd.fact 29 (f := .glo "_law_packed") rfl)
  have g_caught := He.glo_ok X G (cd.fact 30 (f := .glo "_law_caught") rfl)
  have g_made := He.glo_ok X G (cd.fact 31 (f := .glo "_law_made") rfl)
  have g_good := He.glo_ok X G (cd.fact 32 (f := .glo "_law_good") rfl)
  have g_wrong := He.glo_ok X G (cd.fact 33 (f := .glo "_law_wrong") rfl)
  have g_law := He.glo_ok X G (cd.fact 34 (f := .glo "law") rfl)
  have g_Code := He.glo_ok X G (cd.fact 35 (f := .glo "Code") rfl)
  have g_Known := He.glo_ok X G (cd.fact 36 (f := .glo "Known") rfl)
  have g_Mark := He.glo_ok X G (cd.fact 37 (f := .glo "Mark") rfl)
  have g_NoCode := He.glo_ok X G (cd.fact 38 (f := .glo "NoCode") rfl)
  have g_CodeError := He.glo_ok X G (cd.fact 39 (f := .glo "CodeError") rfl)
  have g_NoTable := He.glo_ok X G (cd.fact 40 (f := .glo "NoTable") rfl)
  have g_NoRows := He.glo_ok X G (cd.fact 41 (f := .glo "NoRows") rfl)
  have g_NoBytes := He.glo_ok X G (cd.fact 42 (f := .glo "NoBytes") rfl)
  have g_WORDS := He.glo_ok X G (cd.fact 43 (f := .glo "WORDS") rfl)
  have g_LEADING := He.glo_ok X G (cd.fact 44 (f := .glo "LEADING") rfl)
  have g_MEANINGS := He.glo_ok X G (cd.fact 45 (f := .glo "MEANINGS") rfl)
  have g_BACKWARD := He.glo_ok X G (cd.fact 46 (f := .glo "BACKWARD") rfl)
  have g_OPERATOR_SIGNS := He.glo_ok X G (cd.fact 47 (f := .glo "OPERATOR_SIGNS") rfl)
  have g_COMPARISON_SIGNS := He.glo_ok X G (cd.fact 48 (f := .glo "COMPARISON_SIGNS") rfl)
  have g_INTRINSICS := He.glo_ok X G (cd.fact 49 (f := .glo "INTRINSICS") rfl)
  have g_ATTRIBUTES := He.glo_ok X G (cd.fact 50 (f := .glo "ATTRIBUTES") rfl)
  have B_number_of : Binds K fd_number_of ["value", "field"] [] := F_number_of.bindsN fun _ _ _ _ _ _ us hl => match us, hl with | [_, _], _ => rfl
  have B_bytes_of : Binds K fd_bytes_of ["row", "field"] [] := F_bytes_of.bindsN fun _ _ _ _ _ _ us hl => match us, hl with | [_, _], _ => rfl
  have B_string_of : Binds K fd_string_of ["value", "field"] [] := F_string_of.bindsN fun _ _ _ _ _ _ us hl => match us, hl with | [_, _], _ => rfl
  have B_strings_of : Binds K fd_strings_of ["row", "field"] [] := F_strings_of.bindsN fun _ _ _ _ _ _ us hl => match us, hl with | [_, _], _ => rfl
  have B_is_string : Binds K fd_is_string ["value"] [] := F_is_string.bindsN fun _ _ _ _ _ _ us hl => match us, hl with | [_], _ => rfl
  have B_is_constant : Binds K fd_is_constant ["value"] [] := F_is_constant.bindsN fun _ _ _ _ _ _ us hl => match us, hl with | [_], _ => rfl
  have B_depth_of : Binds K fd_depth_of ["constants"] [] := F_depth_of.bindsN fun _ _ _ _ _ _ us hl => match us, hl with | [_], _ => rfl
  have B_Code_init : Binds K fd_Code_init ["self", "argcount", "onlycount", "stacksize", "flags", "code", "constants", "names", "slots", "kinds", "name", "path", "line", "lines", "handlers"] [] := F_Code_init.bindsN fun _ _ _ _ _ _ us hl => match us, hl with | [_, _, _, _, _, _, _, _, _, _, _, _, _, _, _], _ => rfl
  have B_NoCode_init : Binds K fd_NoCode_init ["self", "field"] [] := F_NoCode_init.bindsN fun _ _ _ _ _ _ us hl => match us, hl with | [_, _], _ => rfl
  have B_behind_extension : Binds K fd_behind_extension ["data", "at"] [] := F_behind_extension.bindsN fun _ _ _ _ _ _ us hl => match us, hl with | [_, _], _ => rfl
  have B_cut : Binds K fd_cut ["data"] [] := F_cut.bindsN fun _ _ _ _ _ _ us hl => match us, hl with | [_], _ => rfl
  have B_lines_of_units : Binds K fd_lines_of_units ["code"] [] := F_lines_of_units.bindsN fun _ _ _ _ _ _ us hl => match us, hl with | [_], _ => rfl
  have B_lines_of : Binds K fd_lines_of ["code"] [] := F_lines_of.bindsN fun _ _ _ _ _ _ us hl => match us, hl with | [_], _ => rfl
  have B_of_constant : Binds K fd_of_constant ["code", "argument"] [] := F_of_constant.bindsN fun _ _ _ _ _ _ us hl => match us, hl with | [_, _], _ => rfl
  have B_of_name : Binds K fd_of_name ["code", "argument"] [] := F_of_name.bindsN fun _ _ _ _ _ _ us hl => match us, hl with | [_, _], _ => rfl
  have B_of_attribute : Binds K fd_of_attribute ["code", "argument"] [] := F_of_attribute.bindsN fun _ _ _ _ _ _ us hl => match us, hl with | [_, _], _ => rfl
  have B_of_global : Binds K fd_of_global ["code", "argument"] [] := F_of_global.bindsN fun _ _ _ _ _ _ us hl => match us, hl with | [_, _], _ => rfl
  have B_of_local : Binds K fd_of_local ["code", "argument"] [] := F_of_local.bindsN fun _ _ _ _ _ _ us hl => match us, hl with | [_, _], _ => rfl
  have B_of_locals : Binds K fd_of_locals ["code", "argument"] [] := F_of_locals.bindsN fun _ _ _ _ _ _ us hl => match us, hl with | [_, _], _ => rfl
  have B_of_operator : Binds K fd_of_operator ["code", "argument"] [] := F_of_operator.bindsN fun _ _ _ _ _ _ us hl => match us, hl with | [_, _], _ => rfl
  have B_of_comparison : Binds K fd_of_comparison ["code", "argument"] [] := F_of_comparison.bindsN fun _ _ _ _ _ _ us hl => match us, hl with | [_, _], _ => rfl
  have B_of_opposite : Binds K fd_of_opposite ["code", "argument"] [] := F_of_opposite.bindsN fun _ _ _ _ _ _ us hl => match us, hl with | [_, _], _ => rfl
  have B_of_intrinsic : Binds K fd_of_intrinsic ["code", "argument"] [] := F_of_intrinsic.bindsN fun _ _ _ _ _ _ us hl => match us, hl with | [_, _], _ => rfl
  have B_of_function_attribute : Binds K fd_of_function_attribute ["code", "argument"] [] := F_of_function_attribute.bindsN fun _ _ _ _ _ _ us hl => match us, hl with | [_, _], _ => rfl
  have B_target_of : Binds K fd_target_of ["word", "argument", "end"] [] := F_target_of.bindsN fun _ _ _ _ _ _ us hl => match us, hl with | [_, _, _], _ => rfl
  have B_meaning_of : Binds K fd_meaning_of ["code", "word", "argument", "end"] [] := F_meaning_of.bindsN fun _ _ _ _ _ _ us hl => match us, hl with | [_, _, _, _], _ => rfl
  have B_instructions : Binds K fd_instructions ["code"] [] := F_instructions.bindsN fun _ _ _ _ _ _ us hl => match us, hl with | [_], _ => rfl
  have B_source_of : Binds K fd_source_of ["_law_cell"] [] := F_source_of.bindsN fun _ _ _ _ _ _ us hl => match us, hl with | [_], _ => rfl
  have B_next : Binds K fd_next ["_law_source", "_law_many"] [] := F_next.bindsN fun _ _ _ _ _ _ us hl => match us, hl with | [_, _], _ => rfl
  have B_one : Binds K fd_one ["_law_source", "_law_some"] [] := F_one.bindsN fun _ _ _ _ _ _ us hl => match us, hl with | [_, _], _ => rfl
  have B_table : Binds K fd_table [] [] := F_table.bindsN fun _ _ _ _ _ _ us hl => match us, hl with | [], _ => rfl
  have B_packed : Binds K fd_packed ["_law_table_here", "_law_word", "_law_number"] [] := F_packed.bindsN fun _ _ _ _ _ _ us hl => match us, hl with | [_, _, _], _ => rfl
  have B_caught : Binds K fd_caught ["_law_ask"] [] := F_caught.bindsN fun _ _ _ _ _ _ us hl => match us, hl with | [_], _ => rfl
  have B_made : Binds K fd_made ["_law_data"] [] := F_made.bindsN fun _ _ _ _ _ _ us hl => match us, hl with | [_], _ => rfl
  have B_good : Binds K fd_good ["_law_source", "_law_table_here"] [] := F_good.bindsN fun _ _ _ _ _ _ us hl => match us, hl with | [_, _], _ => rfl
  have B_wrong : Binds K fd_wrong ["_law_source", "_law_table_here"] [] := F_wrong.bindsN fun _ _ _ _ _ _ us hl => match us, hl with | [_, _], _ => rfl
  have B_law : Binds K fd_law ["_law_script"] [] := F_law.bindsN fun _ _ _ _ _ _ us hl => match us, hl with | [_], _ => rfl
  have T : Txt mg := ⟨He.free_ok X G (cd.fact 51 (f := .free "len") rfl), He.free_ok X G (cd.fact 52 (f := .free "int") rfl), He.free_ok X G (cd.fact 53 (f := .free "range") rfl), He.free_ok X G (cd.fact 54 (f := .free "tuple") rfl), He.free_ok X G (cd.fact 55 (f := .free "list") rfl), He.free_ok X G (cd.fact 56 (f := .free "isinstance") rfl), He.free_ok X G (cd.fact 57 (f := .free "bool") rfl), He.free_ok X G (cd.fact 58 (f := .free "str") rfl), He.free_ok X G (cd.fact 59 (f := .free "max") rfl), He.free_ok X G (cd.fact 60 (f := .free "reversed") rfl), He.free_ok X G (cd.fact 61 (f := .free "repr") rfl), He.int_ok X G (cd.fact 69 (f := .int "GREATEST" 2147483647) rfl), He.int_ok X G (cd.fact 70 (f := .int "DEEPEST" 100) rfl), He.int_ok X G (cd.fact 71 (f := .int "BARRED" 37) rfl), He.int_ok X G (cd.fact 72 (f := .int "BEGINS" 128) rfl), He.int_ok X G (cd.fact 73 (f := .int "GOES_ON" 64) rfl), He.free_ok X G (cd.fact 62 (f := .free "min") rfl), He.int_ok X G (cd.fact 74 (f := .int "WITH_LINE" 232) rfl), He.int_ok X G (cd.fact 75 (f := .int "WITHOUT_LINE" 248) rfl), He.int_ok X G (cd.fact 76 (f := .int "MOST_UNITS" 8) rfl), He.free_ok X G (cd.fact 63 (f := .free "enumerate") rfl), He.free_ok X G (cd.fact 64 (f := .free "any") rfl), He.free_ok X G (cd.fact 65 (f := .free "zip") rfl), He.free_ok X G (cd.fact 66 (f := .free "sum") rfl)⟩
  have T2 : Txt2 mg := ⟨He.int_ok X G (cd.fact 77 (f := .int "EXTENDED_ARG" 71) rfl), He.int_ok X G (cd.fact 78 (f := .int "MOST_EXTENDED" 3) rfl), He.int_ok X G (cd.fact 79 (f := .int "FIRST_WITH_ARGUMENT" 45) rfl), He.int_ok X G (cd.fact 80 (f := .int "TRUTH" 16) rfl)⟩
  have mo := c.more
  unfold exB exA exF at mo
  simp only [Bool.and_eq_true, decide_eq_true_eq] at mo
  obtain ⟨⟨mk, mm, m1, m2, m3, m4, m5, m5b, m6, m7, m8⟩, ⟨x1, x2, x3, x4, x5, x6⟩, xg⟩ := mo
  obtain ⟨eC, eF, eT, eK, eS⟩ := excB_ok m3
  unfold kitB at m1
  simp only [Bool.and_eq_true, decide_eq_true_eq] at m1
  obtain ⟨m11, m12, m13⟩ := m1
  unfold kitB at mk
  simp only [Bool.and_eq_true, decide_eq_true_eq] at mk
  obtain ⟨mk1, mk2, mk3⟩ := mk
  unfold mkpB at mm
  simp only [Bool.and_eq_true, decide_eq_true_eq] at mm
  obtain ⟨mm1, mm2, mm3⟩ := mm
  have PM : MkP K (He.ga K "Mark") := ⟨mm1, He.eqO_ok mm2, mm3⟩
  have IK : KnownT K mg (He.ga K "Known") := ⟨⟨He.cls_ok (cd.fact 82 (f := .cls "Known") rfl), He.eqO_ok mk1, eC.hn, eC.ht, mk2⟩, g_Known, of_decide_eq_true (List.all_eq_true.mp mk3 "list" (by decide))⟩
  have cls := He.cls_ok (cd.fact 81 (f := .cls "Code") rfl)
  have I : CodeT K mg (He.ga K "Code") := by
    refine ⟨⟨cls, He.eqO_ok m11, eC.hn, eC.ht, m12⟩, g_Code, fun t ht => of_decide_eq_true (List.all_eq_true.mp m13 t ht), fun f hf => ?_⟩
    simp only [List.mem_cons, List.not_mem_nil, or_false] at hf
    rcases hf with rfl | rfl | rfl | rfl | rfl | rfl | rfl | rfl | rfl | rfl | rfl | rfl | rfl | rfl | rfl | rfl
    · exact He.noat_ok (cd.fact 85 (f := .noat "Code" "argcount") rfl)
    · exact He.noat_ok (cd.fact 86 (f := .noat "Code" "onlycount") rfl)
    · exact He.noat_ok (cd.fact 87 (f := .noat "Code" "stacksize") rfl)
    · exact He.noat_ok (cd.fact 88 (f := .noat "Code" "flags") rfl)
    · exact He.noat_ok (cd.fact 89 (f := .noat "Code" "code") rfl)
    · exact He.noat_ok (cd.fact 90 (f := .noat "Code" "depth") rfl)
    · exact He.noat_ok (cd.fact 91 (f := .noat "Code" "constants") rfl)
    · exact He.noat_ok (cd.fact 92 (f := .noat "Code" "names") rfl)
    · exact He.noat_ok (cd.fact 93 (f := .noat "Code" "slots") rfl)
    · exact He.noat_ok (cd.fact 94 (f := .noat "Code" "kinds") rfl)
    · exact He.noat_ok (cd.fact 95 (f := .noat "Code" "name") rfl)
    · exact He.noat_ok (cd.fact 96 (f := .noat "Code" "path") rfl)
    · exact He.noat_ok (cd.fact 97 (f := .noat "Code" "line") rfl)
    · exact He.noat_ok (cd.fact 98 (f := .noat "Code" "lines") rfl)
    · exact He.noat_ok (cd.fact 99 (f := .noat "Code" "handlers") rfl)
    · exact He.noat_ok (cd.fact 100 (f := .noat "Code" "identity") rfl)
  have NT : NoCodeT K mg (He.ga K "NoCode") (He.ga K "CodeError") := ⟨eC, eF, He.eqO_ok m4, g_CodeError, g_NoCode, He.free_ok X G (cd.fact 68 (f := .free "ValueError") rfl), m5, m5b, He.exm_ok (cd.fact 84 (f := .exm "NoCode" "NoCode" true) rfl)⟩
  have ox : OexC K (He.ga K "NoCode") := ⟨oexB_ok m2, eS, eC.hs, eT, eK⟩
  obtain ⟨en0, nn0, kn0⟩ := c.t.tab 0
  obtain ⟨en1, nn1, kn1⟩ := c.t.tab 1
  obtain ⟨en2, nn2, kn2⟩ := c.t.tab 2
  obtain ⟨LW, WT⟩ := words_ok x1 g_WORDS
  obtain ⟨LO, TO⟩ := texts_ok x2 g_OPERATOR_SIGNS
  obtain ⟨LC, TC⟩ := texts_ok x3 g_COMPARISON_SIGNS
  obtain ⟨LI, TI⟩ := texts_ok x4 g_INTRINSICS
  obtain ⟨LA, TA'⟩ := texts_ok x5 g_ATTRIBUTES
  have M : MeanT K w mg (He.ga K "Code") (He.ga K "LEADING") (He.ga K "MEANINGS") wordsL kdF (SF K (He.ga K "Code")) := mean_ok xg x6 ⟨en0, nn0, ⟨kn0.at_, kn0.lit, kn0.low⟩⟩ ⟨en1, nn1, ⟨kn1.at_, kn1.lit, kn1.low⟩⟩ g_LEADING g_MEANINGS kil_lt
  have TB : SetT K w mg "BACKWARD" (He.ga K "BACKWARD") wordsL := by
    refine ⟨⟨en2, nn2, ⟨kn2.at_, kn2.lit, kn2.low⟩⟩, g_BACKWARD, fun z hz => ?_⟩
    unfold exG at xg
    simp only [Bool.and_eq_true] at xg
    obtain ⟨p, hp, rfl⟩ := List.mem_map.mp hz
    exact Option.isSome_iff_exists.mp (List.all_eq_true.mp xg.2.2 p hp)
  have cal : ∀ {base : Heap} {k : Nat} {x : Str} {ps : List Str} {sp : Sp} {f : Addr} {fd : FuncData}, FnOk Pk w K mg base CX0 k f fd ps sp → mg x = some (.ref f) → PySem.W.keepIn K (.ref f) = true → Binds K fd ps [] → Cal Pk w K mg base k x ps sp := fun F g kp b => ⟨⟨_, _, F, g, kp, b⟩⟩
  have calE : ∀ {base : Heap} {k : Nat} {x : Str} {ps : List Str} {sp : Sp} {f : Addr} {fd : FuncData}, FnOk Pk w K mg base (CX Pk w) k f fd ps sp → mg x = some (.ref f) → PySem.W.keepIn K (.ref f) = true → Binds K fd ps [] → CalE Pk w K mg base k x ps sp := fun F g kp b => ⟨⟨_, _, F, g, kp, b⟩⟩
  obtain ⟨oc, od, dV, kV, doc, pm, an, cdC, ct, osl, rfl, lkC, hcC, _, _⟩ := F_caught.ex
  have law : ∀ base, LawT Pk w K mg base (He.ga K "Code") (He.ga K "NoCode") (He.ga K "CodeError") (He.ga K "NoTable") (He.ga K "NoRows") (He.ga K "NoBytes") (He.ga K "_law_caught") cdC := fun base => by
    have O_source_of := ok_source_of (P := Pk) (w := w) (base := base) T F_source_of
    have C_source_of := cal (base := base) O_source_of g_source_of F_source_of.kp B_source_of
    have O_next := ok_next (P := Pk) (w := w) (base := base) T F_next
    have C_next := cal (base := base) O_next g_next F_next.kp B_next
    have O_one := ok_one (P := Pk) (w := w) (base := base) T F_one C_next
    have C_one := cal (base := base) O_one g_one F_one.kp B_one
    have O_table := ok_table (P := Pk) (w := w) (base := base) T F_table
    have C_table := cal (base := base) O_table g_table F_table.kp B_table
    have O_packed := ok_packed (P := Pk) (w := w) (base := base) T F_packed
    have C_packed := cal (base := base) O_packed g_packed F_packed.kp B_packed
    have O_good := ok_good' (P := Pk) (w := w) (base := base) T (He.free_ok X G (cd.fact 67 (f := .free "sorted") rfl)) F_good C_next C_one C_packed
    have C_good := cal (base := base) O_good g_good F_good.kp B_good
    have O_wrong := ok_wrong (P := Pk) (w := w) (base := base) T F_wrong C_next C_one C_packed
    have C_wrong := cal (base := base) O_wrong g_wrong F_wrong.kp B_wrong
    have O_number_of := ok_number_of (P := Pk) (w := w) (base := base) T I F_number_of
    have C_number_of := cal (base := base) O_number_of g_number_of F_number_of.kp B_number_of
    have O_bytes_of := ok_bytes_of (P := Pk) (w := w) (base := base) T I IK F_bytes_of
    have C_bytes_of := cal (base := base) O_bytes_of g_bytes_of F_bytes_of.kp B_bytes_of
    have O_is_string := ok_is_string (P := Pk) (w := w) (base := base) T I F_is_string
    have C_is_string := cal (base := base) O_is_string g_is_string F_is_string.kp B_is_string
    have O_string_of := ok_string_of (P := Pk) (w := w) (base := base) T I F_string_of C_is_string
    have C_string_of := cal (base := base) O_string_of g_string_of F_string_of.kp B_string_of
    have O_strings_of := ok_strings_of (P := Pk) (w := w) (base := base) T I F_strings_of C_is_string
    have C_strings_of := cal (base := base) O_strings_of g_strings_of F_strings_of.kp B_strings_of
    have O_is_constant := ok_is_constant (P := Pk) (w := w) (base := base) T I F_is_constant
    have C_is_constant := cal (base := base) O_is_constant g_is_constant F_is_constant.kp B_is_constant
    have O_depth_of := ok_depth_of (P := Pk) (w := w) (base := base) T I F_depth_of C_is_constant
    have C_depth_of := cal (base := base) O_depth_of g_depth_of F_depth_of.kp B_depth_of
    have O_behind_extension := ok_behind_extension (P := Pk) (w := w) (base := base) T T2 F_behind_extension
    have C_behind_extension := cal (base := base) O_behind_extension g_behind_extension F_behind_extension.kp B_behind_extension
    have O_cut := ok_cut (P := Pk) (w := w) (base := base) T T2 WT F_cut C_behind_extension
    have C_cut := cal (base := base) O_cut g_cut F_cut.kp B_cut
    have O_lines_of_units := ok_lines_of_units (P := Pk) (w := w) (base := base) T I F_lines_of_units
    have C_lines_of_units := cal (base := base) O_lines_of_units g_lines_of_units F_lines_of_units.kp B_lines_of_units
    have O_lines_of := ok_lines_of (P := Pk) (w := w) (base := base) T I g_NoTable F_lines_of C_lines_of_units
    have C_lines_of := cal (base := base) O_lines_of g_lines_of F_lines_of.kp B_lines_of
    have O_of_name := ok_of_name (P := Pk) (w := w) (base := base) T I F_of_name
    have C_of_name := cal (base := base) O_of_name g_of_name F_of_name.kp B_of_name
    have O_of_local := ok_of_local (P := Pk) (w := w) (base := base) T I F_of_local
    have C_of_local := cal (base := base) O_of_local g_of_local F_of_local.kp B_of_local
    have O_of_attribute := ok_of_attribute (P := Pk) (w := w) (base := base) (CC := He.ga K "Code") T F_of_attribute C_of_name
    have C_of_attribute := cal (base := base) O_of_attribute g_of_attribute F_of_attribute.kp B_of_attribute
    have O_of_global := ok_of_global (P := Pk) (w := w) (base := base) (CC := He.ga K "Code") T F_of_global C_of_name
    have C_of_global := cal (base := base) O_of_global g_of_global F_of_global.kp B_of_global
    have O_of_operator := ok_of_operator (P := Pk) (w := w) (base := base) (CC := He.ga K "Code") T TO F_of_operator
    have C_of_operator := cal (base := base) O_of_operator g_of_operator F_of_operator.kp B_of_operator
    have O_of_intrinsic := ok_of_intrinsic (P := Pk) (w := w) (base := base) (CC := He.ga K "Code") T TI F_of_intrinsic
    have C_of_intrinsic := cal (base := base) O_of_intrinsic g_of_intrinsic F_of_intrinsic.kp B_of_intrinsic
    have O_of_function_attribute := ok_of_function_attribute (P := Pk) (w := w) (base := base) (CC := He.ga K "Code") T TA' F_of_function_attribute
    have C_of_function_attribute := cal (base := base) O_of_function_attribute g_of_function_attribute F_of_function_attribute.kp B_of_function_attribute
    have O_of_opposite := ok_of_opposite (P := Pk) (w := w) (base := base) (CC := He.ga K "Code") T F_of_opposite
    have C_of_opposite := cal (base := base) O_of_opposite g_of_opposite F_of_opposite.kp B_of_opposite
    have O_of_comparison := ok_of_comparison (P := Pk) (w := w) (base := base) (CC := He.ga K "Code") T T2.g_TRUTH TC F_of_comparison
    have C_of_comparison := cal (base := base) O_of_comparison g_of_comparison F_of_comparison.kp B_of_comparison
    have O_of_locals := ok_of_locals (P := Pk) (w := w) (base := base) (CC := He.ga K "Code") T F_of_locals C_of_local
    have C_of_locals := cal (base := base) O_of_locals g_of_locals F_of_locals.kp B_of_locals
    have O_of_constant := ok_of_constant (P := Pk) (w := w) (base := base) T I F_of_constant
    have C_of_constant := cal (base := base) O_of_constant g_of_constant F_of_constant.kp B_of_constant
    have O_target_of := ok_target_of (P := Pk) (w := w) (base := base) T TB F_target_of
    have C_target_of := cal (base := base) O_target_of g_target_of F_target_of.kp B_target_of
    have hS : ∀ f sp, SF K (He.ga K "Code") f = some sp → Held Pk w K mg base 2 f sp := fun f sp hf => by
      obtain ⟨i, hi, rfl, rfl⟩ := SF_of hf
      match i, hi with
      | 0, _ => exact ⟨⟨fd_of_constant, ["code", "argument"], O_of_constant.mono (by decide), F_of_constant.kp, B_of_constant⟩⟩
      | 1, _ => exact ⟨⟨fd_of_name, ["code", "argument"], (O_of_name.imp of_up).mono (by decide), F_of_name.kp, B_of_name⟩⟩
      | 2, _ => exact ⟨⟨fd_of_attribute, ["code", "argument"], O_of_attribute, F_of_attribute.kp, B_of_attribute⟩⟩
      | 3, _ => exact ⟨⟨fd_of_global, ["code", "argument"], O_of_global, F_of_global.kp, B_of_global⟩⟩
      | 4, _ => exact ⟨⟨fd_of_local, ["code", "argument"], (O_of_local.imp of_up).mono (by decide), F_of_local.kp, B_of_local⟩⟩
      | 5, _ => exact ⟨⟨fd_of_locals, ["code", "argument"], O_of_locals, F_of_locals.kp, B_of_locals⟩⟩
      | 6, _ => exact ⟨⟨fd_of_operator, ["code", "argument"], O_of_operator.mono (by decide), F_of_operator.kp, B_of_operator⟩⟩
      | 7, _ => exact ⟨⟨fd_of_comparison, ["code", "argument"], O_of_comparison.mono (by decide), F_of_comparison.kp, B_of_comparison⟩⟩
      | 8, _ => exact ⟨⟨fd_of_opposite, ["code", "argument"], O_of_opposite.mono (by decide), F_of_opposite.kp, B_of_opposite⟩⟩
      | 9, _ => exact ⟨⟨fd_of_intrinsic, ["code", "argument"], O_of_intrinsic.mono (by decide), F_of_intrinsic.kp, B_of_intrinsic⟩⟩
      | 10, _ => exact ⟨⟨fd_of_function_attribute, ["code", "argument"], O_of_function_attribute.mono (by decide), F_of_function_attribute.kp, B_of_function_attribute⟩⟩
    have XN : Exn Pk w K mg base "NoCode" (He.ga K "NoCode") "field" := ⟨ox, g_NoCode, _, _, He.eqO_ok m7, m6, ok_NoCode_init ox (He.eqO_ok m4) F_NoCode_init, B_NoCode_init⟩
    have MC : MkCode Pk w K mg base (He.ga K "Code") := ⟨⟨_, _, He.mkr_ok (cd.fact 83 (f := .mkr "Code") rfl), ok_Code_init T I F_Code_init C_number_of C_bytes_of C_string_of C_strings_of C_depth_of PM g_Mark, g_Code, B_Code_init⟩⟩
    have C_made := cal (base := base) (ok_made T F_made MC) g_made F_made.kp B_made
    have E_mean := calE (base := base) (ok_meaning_of T M hS XN F_meaning_of C_target_of) g_meaning_of F_meaning_of.kp B_meaning_of
    have E_instr := calE (base := base) (ok_instructions wd_hu wd_71 wd_45 T T2 I m8 XN F_instructions C_cut C_lines_of E_mean) g_instructions F_instructions.kp B_instructions
    exact ⟨T, I, NT, g_NoTable, g_NoRows, g_NoBytes, C_source_of, C_next, C_table, C_good, C_wrong, C_made, E_instr, g_caught, F_caught.kp, hcC, _, _, _, _, _, _, _, _, _, lkC, B_caught⟩
  have bl := fun s v => F_law.bindsA (ps := ["_law_script"]) (fun _ _ _ _ _ _ us hl => match us, hl with | [_], _ => rfl) s [v] rfl
  obtain ⟨oc2, od2, dV2, kV2, doc2, pm2, an2, cdL, ct2, osl2, rfl, lkL, hcL, _, _⟩ := F_law.ex
  obtain ⟨co, rfl⟩ := He.codeIn_ref hcL
  have eco : He.codeOf K ("law", none) = co := He.codeOf_eq (p := ("law", none)) lkL rfl
  have eT2 : He.cT K ("law", none) = (co, He.tabOf K co) := by unfold He.cT; rw [eco]
  have hd := c.hd ("law", none) (List.mem_singleton.mpr rfl)
  have ou := c.out ("law", none) (List.mem_singleton.mpr rfl)
  have em := c.empty ("law", none) (List.mem_singleton.mpr rfl)
  rw [eT2] at hd ou em
  have efa : fa = He.ga K "law" := by
    have := hmg.symm.trans g_law
    cases this
    rfl
  subst efa
  refine ⟨K, [(co, He.tabOf K co)], X, fun p hp => ?_, fun p hp => ?_, fun p hp => ?_, fun s a ns hn => law_runs law lkL hcL bl hn⟩
  · rw [List.mem_singleton.mp hp]
    exact em
  · rw [List.mem_singleton.mp hp]
    exact ou
  · rw [List.mem_singleton.mp hp]
    exact PySem.W.codeHd_of_K X hd
end C58
open PySem PySem.W PySem.Calls PyProof.Rows
theorem PySem.Challenge.cw_codewalk_k58_instructions_that_cannot_be_holds : PySem.Challenge.rw_codewalk_k58_instructions_that_cannot_be.Holds := by
  w_on; o_law
  refine HandSHeadRun.head_any (r := OpenLaw.row PySem.Challenge.rw_codewalk_k58_instructions_that_cannot_be) (q := view (OpenLaw.row PySem.Challenge.rw_codewalk_k58_instructions_that_cannot_be).prog [74]) (H := C58.hkk) (ob := C58.obk) (M := 16000) (loose := C58.loose) (d := HandSHeadRun.topDef (OpenLaw.row PySem.Challenge.rw_codewalk_k58_instructions_that_cannot_be).prog 74) (kwd := []) C58.obk_eq
    (by kernel_rfl) (fun s => by kernel_rfl) C58.runk (by kernel_rfl) (by kernel_rfl) (by kernel_rfl) (by rfl) (by first | assumption | decide +kernel) (by decide +kernel) ⟨rfl, rfl, rfl, rfl, rfl, by decide +kernel⟩ ?hw ?hc
  case hw => w_witness2
  case hc =>
    refine C58.walk_run (l := PySem.Challenge.rw_codewalk_k58_instructions_that_cannot_be) (n := 63) rfl (by decide) (by kernel_rfl) ?_
    intro w mg fa h Y G hmg0
    have hmg : mg ("law" : PySem.Str) = some (.ref fa) := by
      have e : (HandSHeadRun.topDef (OpenLaw.row PySem.Challenge.rw_codewalk_k58_instructions_that_cannot_be).prog 74).name = ("law" : PySem.Str) := by kernel_rfl
      rw [← e]
      exact hmg0
    obtain ⟨K, cs, h1, h2, h3, h4, h5⟩ := C58.k58_at Y G hmg
    exact ⟨K, cs, h1, h2, h3, h4, fun s a ns hl _ => h5 s a ns (Nat.le_trans hl (by decide))⟩
