import PyProof.Rows.All
import Wide.All
import OpenK.AllK
import Wide.FinOn
import HandS.ExcInit
import HandS.ExcField
import HandS.ExcIs
import HandS.Words
import HandS.Head0
import HandS.Head1
import HandS.Head2
import HandS.HeadHook4
import PySem.Challenge.RW_codewalk_k57_instructions_told_as_dis_te
import HandS.ForMost
import HandS.Wide
import HandS.Defaults
import HandS.IsInst
import HandS.Style
import HandS.ForExc
import HandS.Zip
import HandS.WideBits
import HandS.Star
import HandS.TryOnly
import HandS.Lambda
import PyProof.EnumMake
import PyProof.Draws
import KE.GoesMore
import HandS.FStr
import HandS.CallLocal
import HandS.RaiseMore
import PyProof.ReprRoads
import PyProof.Rows.SeqMore
import HandS.Dict
import PyProof.ReprLen
import HandS.MapJoin
import HandS.Codes
import HandS.SortInts
import HandS.SortOrd
import HandS.SortRule
import KE.KxIndex
import HandS.Rev
import HandS.RevTup
import KE.KBytesIn
import KE.KStrBytes
import PyProof.ReprBulk
import HandS.HeadWalk
import HandS.EndTab
set_option Elab.async false
set_option linter.all false
set_option maxRecDepth 100000
set_option maxHeartbeats 4000000
namespace C57
open PySem PySem.Spec PyProof.Rows L2
def ztop (i : Nat) : Stmt := PySem.Challenge.pw_codewalk_k57_instructions_told_as_dis_te.main.body.getD i (.Pass ⟨0, 0, 0, 0⟩)
def zinClass (s : Stmt) (j : Nat) : Stmt := match s with
  | .ClassDef _ _ _ body _ _ _ _ _ _ _ => body.getD j (.Pass ⟨0, 0, 0, 0⟩)
  | _ => .Pass ⟨0, 0, 0, 0⟩
/-! ### the program's tables -/
def ZW : List (Nat × Str × Nat) := ([(2, "BEFORE_WITH", 1), (4, "BINARY_SLICE", 1), (5, "BINARY_SUBSCR", 2), (7, "CHECK_EXC_MATCH", 1), (8, "CLEANUP_THROW", 1), (9, "DELETE_SUBSCR", 1), (11, "END_FOR", 1), (12, "END_SEND", 1), (19, "GET_ITER", 1), (21, "GET_YIELD_FROM_ITER", 1), (23, "LOAD_ASSERTION_ERROR", 1), (24, "LOAD_BUILD_CLASS", 1), (25, "LOAD_LOCALS", 1), (26, "MAKE_FUNCTION", 1), (30, "NOP", 1), (31, "POP_EXCEPT", 1), (32, "POP_TOP", 1), (33, "PUSH_EXC_INFO", 1), (34, "PUSH_NULL", 1), (35, "RETURN_GENERATOR", 1)] : List (Nat × Str × Nat)) ++ ([(36, "RETURN_VALUE", 1), (38, "STORE_SLICE", 1), (39, "STORE_SUBSCR", 2), (40, "TO_BOOL", 4), (41, "UNARY_INVERT", 1), (42, "UNARY_NEGATIVE", 1), (43, "UNARY_NOT", 1), (44, "WITH_EXCEPT_START", 1), (45, "BINARY_OP", 2), (46, "BUILD_CONST_KEY_MAP", 1), (47, "BUILD_LIST", 1), (48, "BUILD_MAP", 1), (52, "BUILD_TUPLE", 1), (53, "CALL", 4), (54, "CALL_FUNCTION_EX", 1), (55, "CALL_INTRINSIC_1", 1), (57, "CALL_KW", 1), (58, "COMPARE_OP", 2), (59, "CONTAINS_OP", 2), (61, "COPY", 1)] : List (Nat × Str × Nat)) ++ ([(62, "COPY_FREE_VARS", 1), (63, "DELETE_ATTR", 1), (64, "DELETE_DEREF", 1), (65, "DELETE_FAST", 1), (66, "DELETE_GLOBAL", 1), (67, "DELETE_NAME", 1), (68, "DICT_MERGE", 1), (72, "FOR_ITER", 2), (76, "IS_OP", 1), (77, "JUMP_BACKWARD", 2), (78, "JUMP_BACKWARD_NO_INTERRUPT", 1), (79, "JUMP_FORWARD", 1), (80, "LIST_APPEND", 1), (81, "LIST_EXTEND", 1), (82, "LOAD_ATTR", 10), (83, "LOAD_CONST", 1), (84, "LOAD_DEREF", 1), (85, "LOAD_FAST", 1), (87, "LOAD_FAST_CHECK", 1), (88, "LOAD_FAST_LOAD_FAST", 1)] : List (Nat × Str × Nat)) ++ ([(89, "LOAD_FROM_DICT_OR_DEREF", 1), (91, "LOAD_GLOBAL", 5), (92, "LOAD_NAME", 1), (94, "MAKE_CELL", 1), (95, "MAP_ADD", 1), (97, "POP_JUMP_IF_FALSE", 2), (98, "POP_JUMP_IF_NONE", 2), (99, "POP_JUMP_IF_NOT_NONE", 2), (100, "POP_JUMP_IF_TRUE", 2), (101, "RAISE_VARARGS", 1), (102, "RERAISE", 1), (103, "RETURN_CONST", 1), (104, "SEND", 2), (106, "SET_FUNCTION_ATTRIBUTE", 1), (108, "STORE_ATTR", 5), (109, "STORE_DEREF", 1), (110, "STORE_FAST", 1), (111, "STORE_FAST_LOAD_FAST", 1), (112, "STORE_FAST_STORE_FAST", 1), (113, "STORE_GLOBAL", 1)] : List (Nat × Str × Nat)) ++ ([(114, "STORE_NAME", 1), (115, "SWAP", 1), (116, "UNPACK_EX", 1), (117, "UNPACK_SEQUENCE", 2), (118, "YIELD_VALUE", 1), (149, "RESUME", 1)] : List (Nat × Str × Nat))
def ZK : List (Str × Nat) := ([("BINARY_OP", 8), ("CALL_INTRINSIC_1", 11), ("COMPARE_OP", 9), ("CONTAINS_OP", 10), ("DELETE_ATTR", 3), ("DELETE_DEREF", 6), ("DELETE_FAST", 6), ("DELETE_GLOBAL", 3), ("DELETE_NAME", 3), ("FOR_ITER", 1), ("IS_OP", 10), ("JUMP_BACKWARD", 1), ("JUMP_BACKWARD_NO_INTERRUPT", 1), ("JUMP_FORWARD", 1), ("LOAD_ATTR", 4), ("LOAD_CONST", 2), ("LOAD_DEREF", 6), ("LOAD_FAST", 6), ("LOAD_FAST_CHECK", 6), ("LOAD_FAST_LOAD_FAST", 7)] : List (Str × Nat)) ++ ([("LOAD_FROM_DICT_OR_DEREF", 6), ("LOAD_GLOBAL", 5), ("LOAD_NAME", 3), ("MAKE_CELL", 6), ("POP_JUMP_IF_FALSE", 1), ("POP_JUMP_IF_NONE", 1), ("POP_JUMP_IF_NOT_NONE", 1), ("POP_JUMP_IF_TRUE", 1), ("RETURN_CONST", 2), ("SEND", 1), ("SET_FUNCTION_ATTRIBUTE", 12), ("STORE_ATTR", 3), ("STORE_DEREF", 6), ("STORE_FAST", 6), ("STORE_FAST_LOAD_FAST", 7), ("STORE_FAST_STORE_FAST", 7), ("STORE_GLOBAL", 3), ("STORE_NAME", 3)] : List (Str × Nat))
def zki (z : Str) : Nat := ((ZK.find? fun p => decide (p.1 = z)).map (·.2)).getD 0
def fnNames : List Str := ["of_constant", "of_name", "of_attribute", "of_global", "of_local", "of_locals", "of_operator", "of_comparison", "of_opposite", "of_intrinsic", "of_function_attribute"]
def oexB (K : PySem.W.Frag) (C : Addr) : Bool := match K.lookup C with
  | some ⟨.type t, _, .cls cd, sl⟩ => decide (t = "type") && (match cd.mro, sl.toList with
    | .ref D :: bm, [_, _, _, _, some (.builtin n), _] => decide (D = C) && (decide (n = "ValueError.__new__") && (!cd.hasDel && (cd.hasDict && PySem.HandSPX.refsVE bm)))
    | _, _ => false)
  | _ => false
def excB (K : PySem.W.Frag) (D : Addr) : Bool := He.eqO (PySem.W.findIn K (.ref D) "__getattribute__") (some (some (.builtin "BaseException.__getattribute__"))) && (He.eqO (PySem.W.findIn K (.ref D) "__getattr__") (some none) && (decide (PySem.W.subIn K (.ref D) (.type "BaseException") = some true) &&
  (PySem.W.hasDictIn K D && (He.eqO (PySem.W.findIn K (.ref D) "__class__") (some (some (.builtin "object.__class__"))) && (He.eqO (PySem.W.specialIn K (.builtin "object.__class__") "__get__") (some (some (.builtin "getset_descriptor.__get__"))) &&
  (decide (PySem.W.takesIn K (.builtin "object.__class__") = some true) && (decide (PySem.W.mroIn K D (.type "object") = some true) && (decide (PySem.W.typeIn K (.ref D) = some (.type "type")) && (PySem.W.keepIn K (.ref D) && He.eqO (PySem.W.findIn K (.ref D) "__setattr__") (some (some (.builtin "object.__setattr__"))))))))))))
def kitB (K : PySem.W.Frag) (C : Addr) : Bool := He.eqO (PySem.W.findIn K (.ref C) "__class__") (some (some (.builtin "object.__class__"))) && (decide (PySem.W.mroIn K C (.type "object") = some true) && (["NoneType", "int", "bool", "str", "list", "tuple", "dict"] : List String).all fun t => decide (PySem.W.kitOne K (.type t) (.ref C) = some false))
def mkpB (K : PySem.W.Frag) (C : Addr) : Bool := PySem.W.makesIn K C && (He.eqO (PySem.W.findIn K (.ref C) "__init__") (some (some (.builtin "object.__init__"))) && PySem.W.keepIn K (.ref C))
def tupIn (K : PySem.W.Frag) (a : Addr) : Option (List Value) := match K.lookup a with
  | some ⟨.type t, _, .seq its _, _⟩ => if t = "tuple" then some its.toList else none
  | _ => none
def entB (K : PySem.W.Frag) (p : Nat × Str × Nat) (e : DictEntry) : Bool := match e.key, e.val with
  | .int i _, .ref t => decide (i = (p.1 : Int)) && (decide (e.hash = hashInt i) && (match tupIn K t with
    | some [.str z _, .int u _] => decide (z = p.2.1) && decide (u = (p.2.2 : Int))
    | _ => false))
  | _, _ => false
def zipB (K : PySem.W.Frag) : List DictEntry → List (Nat × Str × Nat) → Bool
  | [], [] => true
  | e :: es, p :: ps => entB K p e && zipB K es ps
  | _, _ => false
def ZTO : List (Int × Str) := ([(0, "+"), (1, "&"), (2, "//"), (3, "<<"), (5, "*"), (6, "mod"), (7, "|"), (8, "**"), (9, ">>"), (10, "-"), (12, "^"), (13, "+="), (14, "&="), (15, "//="), (16, "<<="), (18, "*="), (19, "mod="), (20, "|="), (21, "**="), (22, ">>="), (23, "-="), (25, "^=")] : List (Int × Str))
def ZTC : List (Int × Str) := ([(2, "<"), (42, "<="), (72, "=="), (103, "!="), (132, ">"), (172, ">=")] : List (Int × Str))
def ZTI : List (Int × Str) := ([(3, "INTRINSIC_STOPITERATION_ERROR"), (6, "INTRINSIC_LIST_TO_TUPLE")] : List (Int × Str))
def ZTA : List (Int × Str) := ([(1, "defaults"), (2, "kwdefaults"), (8, "closure")] : List (Int × Str))
def ZBK : List Str := (["JUMP_BACKWARD", "JUMP_BACKWARD_NO_INTERRUPT"] : List Str)
def zbk (z : Str) : Bool := ZBK.any fun y => y == z
def entT (p : Int × Str) (e : DictEntry) : Bool := match e.key, e.val with
  | .int i _, .str z _ => decide (i = p.1) && (decide (e.hash = hashInt i) && decide (z = p.2))
  | _, _ => false
def zipT : List DictEntry → List (Int × Str) → Bool
  | [], [] => true
  | e :: es, p :: ps => entT p e && zipT es ps
  | _, _ => false
def dicB (K : PySem.W.Frag) (d : Addr) (f : List DictEntry → Bool) : Bool := (!(d == sysModules)) && (match K.lookup d with
  | some ⟨.type c, none, .dict es _, sl⟩ => decide (c = "dict") && (decide (sl.size = 0) && f es.toList)
  | _ => false)
def distB : List Addr → Bool
  | [] => true
  | a :: r => (r.all fun b => !(a == b)) && distB r
def leadB (K : PySem.W.Frag) (d : Addr) (z : Str) : Bool := match PySem.W.nsIn K d z with
  | some r => r.isSome == (zki z == 1)
  | none => false
def backB (K : PySem.W.Frag) (d : Addr) (z : Str) : Bool := match PySem.W.nsIn K d z with
  | some r => r.isSome == zbk z
  | none => false
def meanB (K : PySem.W.Frag) (d : Addr) (z : Str) : Bool := match PySem.W.nsIn K d z with
  | some none => decide (zki z < 2)
  | some (some (.ref f)) => decide (2 ≤ zki z) && (f == He.ga K (fnNames.getD (zki z - 2) ""))
  | _ => false
def exN (K : PySem.W.Frag) (n f : Str) : Bool := oexB K (He.ga K n) && (excB K (He.ga K n) && (He.eqO (PySem.W.findIn K (.ref (He.ga K n)) f) (some none) && (decide (PySem.W.typeIn K (.ref (He.ma K (He.ga K n) "__init__")) = some (.type "function")) && He.eqO (PySem.W.findIn K (.ref (He.ga K n)) "__init__") (some (some (.ref (He.ma K (He.ga K n) "__init__")))))))
def exA (K : PySem.W.Frag) : Bool := kitB K (He.ga K "Known") && (mkpB K (He.ga K "Mark") && (kitB K (He.ga K "Code") && (exN K "NoCode" "field" && (exN K "NoTable" "at" && decide (PySem.W.kitOne K (.ref (He.ga K "Code")) (.ref (He.ga K "Code")) = some true)))))
def exF (K : PySem.W.Frag) : Bool := dicB K (He.ga K "WORDS") (fun es => zipB K es ZW) && (dicB K (He.ga K "OPERATOR_SIGNS") (fun es => zipT es ZTO) && (dicB K (He.ga K "COMPARISON_SIGNS") (fun es => zipT es ZTC) && (dicB K (He.ga K "INTRINSICS") (fun es => zipT es ZTI) && (dicB K (He.ga K "ATTRIBUTES") (fun es => zipT es ZTA) && distB (fnNames.map (He.ga K))))))
def exG (K : PySem.W.Frag) : Bool := ZW.all (fun p => leadB K (He.ga K "LEADING") p.2.1) && (ZW.all (fun p => meanB K (He.ga K "MEANINGS") p.2.1) && ZW.all (fun p => backB K (He.ga K "BACKWARD") p.2.1))
def exB (K : PySem.W.Frag) : Bool := exA K && (exF K && exG K)
abbrev znumber_of : Stmt := ztop 13
abbrev zbytes_of : Stmt := ztop 14
abbrev zstring_of : Stmt := ztop 15
abbrev zstrings_of : Stmt := ztop 16
abbrev zis_string : Stmt := ztop 17
abbrev zis_constant : Stmt := ztop 19
abbrev zdepth_of : Stmt := ztop 18
abbrev zCode_init : Stmt := zinClass (ztop 10) 0
abbrev zNoCode_init : Stmt := zinClass (ztop 2) 0
abbrev zNoTable_init : Stmt := zinClass (ztop 3) 0
abbrev zbehind_extension : Stmt := ztop 34
abbrev zcut : Stmt := ztop 33
abbrev zsigned_number : Stmt := ztop 57
abbrev zlines_of_units : Stmt := ztop 56
abbrev zlines_of : Stmt := ztop 60
abbrev zof_constant : Stmt := ztop 38
abbrev zof_name : Stmt := ztop 39
abbrev zof_attribute : Stmt := ztop 40
abbrev zof_global : Stmt := ztop 41
abbrev zof_local : Stmt := ztop 42
abbrev zof_locals : Stmt := ztop 43
abbrev zof_operator : Stmt := ztop 44
abbrev zof_comparison : Stmt := ztop 45
abbrev zof_opposite : Stmt := ztop 46
abbrev zof_intrinsic : Stmt := ztop 47
abbrev zof_function_attribute : Stmt := ztop 48
abbrev ztarget_of : Stmt := ztop 30
abbrev zmeaning_of : Stmt := ztop 61
abbrev zinstructions : Stmt := ztop 59
abbrev zsource_of : Stmt := ztop 63
abbrev znext : Stmt := ztop 64
abbrev zone : Stmt := ztop 65
abbrev ztable : Stmt := ztop 66
abbrev zpacked : Stmt := ztop 67
abbrev zgreat : Stmt := ztop 68
abbrev zpieces : Stmt := ztop 69
abbrev zmarked : Stmt := ztop 70
abbrev zljoined : Stmt := ztop 71
abbrev zentry : Stmt := ztop 72
abbrev zlline_bytes : Stmt := ztop 73
abbrev ztold_op : Stmt := ztop 74
abbrev ztold_num : Stmt := ztop 75
abbrev zdrawn : Stmt := ztop 76
abbrev zlmean : Stmt := ztop 77
abbrev zline_at : Stmt := ztop 78
abbrev ztold : Stmt := ztop 79
abbrev zlines : Stmt := ztop 80
abbrev zlaw : Stmt := ztop 81
def d_number_of : He.DefD := ⟨("number_of", none), "number_of", "number_of", defArgs znumber_of, defBody znumber_of, defScope znumber_of, [], []⟩
def d_bytes_of : He.DefD := ⟨("bytes_of", none), "bytes_of", "bytes_of", defArgs zbytes_of, defBody zbytes_of, defScope zbytes_of, [], []⟩
def d_string_of : He.DefD := ⟨("string_of", none), "string_of", "string_of", defArgs zstring_of, defBody zstring_of, defScope zstring_of, [], []⟩
def d_strings_of : He.DefD := ⟨("strings_of", none), "strings_of", "strings_of", defArgs zstrings_of, defBody zstrings_of, defScope zstrings_of, [], []⟩
def d_is_string : He.DefD := ⟨("is_string", none), "is_string", "is_string", defArgs zis_string, defBody zis_string, defScope zis_string, [], []⟩
def d_is_constant : He.DefD := ⟨("is_constant", none), "is_constant", "is_constant", defArgs zis_constant, defBody zis_constant, defScope zis_constant, [], []⟩
def d_depth_of : He.DefD := ⟨("depth_of", none), "depth_of", "depth_of", defArgs zdepth_of, defBody zdepth_of, defScope zdepth_of, [], []⟩
def d_Code_init : He.DefD := ⟨("Code", some "__init__"), "__init__", "Code.__init__", defArgs zCode_init, defBody zCode_init, defScope zCode_init, [], []⟩
def d_NoCode_init : He.DefD := ⟨("NoCode", some "__init__"), "__init__", "NoCode.__init__", defArgs zNoCode_init, defBody zNoCode_init, defScope zNoCode_init, [], []⟩
def d_NoTable_init : He.DefD := ⟨("NoTable", some "__init__"), "__init__", "NoTable.__init__", defArgs zNoTable_init, defBody zNoTable_init, defScope zNoTable_init, [], []⟩
def d_behind_extension : He.DefD := ⟨("behind_extension", none), "behind_extension", "behind_extension", defArgs zbehind_extension, defBody zbehind_extension, defScope zbehind_extension, [], []⟩
def d_cut : He.DefD := ⟨("cut", none), "cut", "cut", defArgs zcut, defBody zcut, defScope zcut, [], []⟩
def d_signed_number : He.DefD := ⟨("signed_number", none), "signed_number", "signed_number", defArgs zsigned_number, defBody zsigned_number, defScope zsigned_number, [], []⟩
def d_lines_of_units : He.DefD := ⟨("lines_of_units", none), "lines_of_units", "lines_of_units", defArgs zlines_of_units, defBody zlines_of_units, defScope zlines_of_units, [], []⟩
def d_lines_of : He.DefD := ⟨("lines_of", none), "lines_of", "lines_of", defArgs zlines_of, defBody zlines_of, defScope zlines_of, [], []⟩
def d_of_constant : He.DefD := ⟨("of_constant", none), "of_constant", "of_constant", defArgs zof_constant, defBody zof_constant, defScope zof_constant, [], []⟩
def d_of_name : He.DefD := ⟨("of_name", none), "of_name", "of_name", defArgs zof_name, defBody zof_name, defScope zof_name, [], []⟩
def d_of_attribute : He.DefD := ⟨("of_attribute", none), "of_attribute", "of_attribute", defArgs zof_attribute, defBody zof_attribute, defScope zof_attribute, [], []⟩
def d_of_global : He.DefD := ⟨("of_global", none), "of_global", "of_global", defArgs zof_global, defBody zof_global, defScope zof_global, [], []⟩
def d_of_local : He.DefD := ⟨("of_local", none), "of_local", "of_local", defArgs zof_local, defBody zof_local, defScope zof_local, [], []⟩
def d_of_locals : He.DefD := ⟨("of_locals", none), "of_locals", "of_locals", defArgs zof_locals, defBody zof_locals, defScope zof_locals, [], []⟩
def d_of_operator : He.DefD := ⟨("of_operator", none), "of_operator", "of_operator", defArgs zof_operator, defBody zof_operator, defScope zof_operator, [], []⟩
def d_of_comparison : He.DefD := ⟨("of_comparison", none), "of_comparison", "of_comparison", defArgs zof_comparison, defBody zof_comparison, defScope zof_comparison, [], []⟩
def d_of_opposite : He.DefD := ⟨("of_opposite", none), "of_opposite", "of_opposite", defArgs zof_opposite, defBody zof_opposite, defScope zof_opposite, [], []⟩
def d_of_intrinsic : He.DefD := ⟨("of_intrinsic", none), "of_intrinsic", "of_intrinsic", defArgs zof_intrinsic, defBody zof_intrinsic, defScope zof_intrinsic, [], []⟩
def d_of_function_attribute : He.DefD := ⟨("of_function_attribute", none), "of_function_attribute", "of_function_attribute", defArgs zof_function_attribute, defBody zof_function_attribute, defScope zof_function_attribute, [], []⟩
def d_target_of : He.DefD := ⟨("target_of", none), "target_of", "target_of", defArgs ztarget_of, defBody ztarget_of, defScope ztarget_of, [], []⟩
def d_meaning_of : He.DefD := ⟨("meaning_of", none), "meaning_of", "meaning_of", defArgs zmeaning_of, defBody zmeaning_of, defScope zmeaning_of, [], []⟩
def d_instructions : He.DefD := ⟨("instructions", none), "instructions", "instructions", defArgs zinstructions, defBody zinstructions, defScope zinstructions, [], []⟩
def d_source_of : He.DefD := ⟨("_law_source_of", none), "_law_source_of", "_law_source_of", defArgs zsource_of, defBody zsource_of, defScope zsource_of, [], []⟩
def d_next : He.DefD := ⟨("_law_next", none), "_law_next", "_law_next", defArgs znext, defBody znext, defScope znext, [], []⟩
def d_one : He.DefD := ⟨("_law_one", none), "_law_one", "_law_one", defArgs zone, defBody zone, defScope zone, [], []⟩
def d_table : He.DefD := ⟨("_law_table", none), "_law_table", "_law_table", defArgs ztable, defBody ztable, defScope ztable, [], []⟩
def d_packed : He.DefD := ⟨("_law_packed", none), "_law_packed", "_law_packed", defArgs zpacked, defBody zpacked, defScope zpacked, [], []⟩
def d_great : He.DefD := ⟨("_law_great", none), "_law_great", "_law_great", defArgs zgreat, defBody zgreat, defScope zgreat, [], []⟩
def d_pieces : He.DefD := ⟨("_law_pieces", none), "_law_pieces", "_law_pieces", defArgs zpieces, defBody zpieces, defScope zpieces, [], []⟩
def d_marked : He.DefD := ⟨("_law_marked", none), "_law_marked", "_law_marked", defArgs zmarked, defBody zmarked, defScope zmarked, [], []⟩
def d_ljoined : He.DefD := ⟨("_law_joined", none), "_law_joined", "_law_joined", defArgs zljoined, defBody zljoined, defScope zljoined, [], []⟩
def d_entry : He.DefD := ⟨("_law_entry", none), "_law_entry", "_law_entry", defArgs zentry, defBody zentry, defScope zentry, [], []⟩
def d_lline_bytes : He.DefD := ⟨("_law_line_bytes", none), "_law_line_bytes", "_law_line_bytes", defArgs zlline_bytes, defBody zlline_bytes, defScope zlline_bytes, [], []⟩
def d_told_op : He.DefD := ⟨("_law_told_operator", none), "_law_told_operator", "_law_told_operator", defArgs ztold_op, defBody ztold_op, defScope ztold_op, [], []⟩
def d_told_num : He.DefD := ⟨("_law_told_number", none), "_law_told_number", "_law_told_number", defArgs ztold_num, defBody ztold_num, defScope ztold_num, [], []⟩
def d_drawn : He.DefD := ⟨("_law_drawn", none), "_law_drawn", "_law_drawn", defArgs zdrawn, defBody zdrawn, defScope zdrawn, [], []⟩
def d_lmean : He.DefD := ⟨("_law_meaning", none), "_law_meaning", "_law_meaning", defArgs zlmean, defBody zlmean, defScope zlmean, [], []⟩
def d_line_at : He.DefD := ⟨("_law_line_at", none), "_law_line_at", "_law_line_at", defArgs zline_at, defBody zline_at, defScope zline_at, [], []⟩
def d_told : He.DefD := ⟨("_law_told", none), "_law_told", "_law_told", defArgs ztold, defBody ztold, defScope ztold, [], []⟩
def d_lines : He.DefD := ⟨("_law_lines", none), "_law_lines", "_law_lines", defArgs zlines, defBody zlines, defScope zlines, [], []⟩
def d_law : He.DefD := ⟨("law", none), "law", "law", defArgs zlaw, defBody zlaw, defScope zlaw, [], []⟩
def fns : List He.DefD := [d_number_of, d_bytes_of, d_string_of, d_strings_of, d_is_string, d_is_constant, d_depth_of, d_Code_init, d_NoCode_init, d_NoTable_init, d_behind_extension, d_cut, d_signed_number, d_lines_of_units, d_lines_of, d_of_constant, d_of_name, d_of_attribute, d_of_global, d_of_local, d_of_locals, d_of_operator, d_of_comparison, d_of_opposite, d_of_intrinsic, d_of_function_attribute, d_target_of, d_meaning_of, d_instructions, d_source_of, d_next, d_one, d_table, d_packed, d_great, d_pieces, d_marked, d_ljoined, d_entry, d_lline_bytes, d_told_op, d_told_num, d_drawn, d_lmean, d_line_at, d_told, d_lines, d_law]
def fas : List He.Fa := [.glo "number_of", .glo "bytes_of", .glo "string_of", .glo "strings_of", .glo "is_string", .glo "is_constant", .glo "depth_of", .glo "behind_extension", .glo "cut", .glo "signed_number", .glo "lines_of_units", .glo "lines_of", .glo "of_constant", .glo "of_name", .glo "of_attribute", .glo "of_global", .glo "of_local", .glo "of_locals", .glo "of_operator", .glo "of_comparison", .glo "of_opposite", .glo "of_intrinsic", .glo "of_function_attribute", .glo "target_of", .glo "meaning_of", .glo "instructions", .glo "_law_source_of", .glo "_law_next", .glo "_law_one", .glo "_law_table", .glo "_law_packed", .glo "_law_great", .glo "_law_pieces", .glo "_law_marked", .glo "_law_joined", .glo "_law_entry", .glo "_law_line_bytes", .glo "_law_told_operator", .glo "_law_told_number", .glo "_law_drawn", .glo "_law_meaning", .glo "_law_line_at", .glo "_law_told", .glo "_law_lines", .glo "law", .glo "Code", .glo "Known", .glo "Mark", .glo "NoCode", .glo "NoTable", .glo "WORDS", .glo "LEADING", .glo "MEANINGS", .glo "BACKWARD", .glo "OPERATOR_SIGNS", .glo "COMPARISON_SIGNS", .glo "INTRINSICS", .glo "ATTRIBUTES", .free "len", .free "int", .free "range", .free "tuple", .free "list", .free "isinstance", .free "bool", .free "str", .free "max", .free "reversed", .free "repr", .free "min", .free "enumerate", .free "any", .free "zip", .free "sum", .free "sorted", .int "GREATEST" 2147483647, .int "DEEPEST" 100, .int "BARRED" 37, .int "BEGINS" 128, .int "GOES_ON" 64, .int "WITH_LINE" 232, .int "WITHOUT_LINE" 248, .int "MOST_UNITS" 8, .int "EXTENDED_ARG" 71, .int "MOST_EXTENDED" 3, .int "FIRST_WITH_ARGUMENT" 45, .int "TRUTH" 16, .cls "Code", .cls "Known", .mkr "Code", .exm "NoTable" "NoTable" true, .noat "Code" "argcount", .noat "Code" "onlycount", .noat "Code" "stacksize", .noat "Code" "flags", .noat "Code" "code", .noat "Code" "depth", .noat "Code" "constants", .noat "Code" "names", .noat "Code" "slots", .noat "Code" "kinds", .noat "Code" "name", .noat "Code" "path", .noat "Code" "line", .noat "Code" "lines", .noat "Code" "handlers", .noat "Code" "identity"]
def tabs : List He.Tab := [(fun K => He.ga K "LEADING", (["FOR_ITER", "JUMP", "JUMP_BACKWARD", "JUMP_BACKWARD_NO_INTERRUPT", "JUMP_FORWARD", "JUMP_NO_INTERRUPT", "POP_JUMP_IF_FALSE", "POP_JUMP_IF_NONE", "POP_JUMP_IF_NOT_NONE", "POP_JUMP_IF_TRUE", "SEND"] : List Str)), (fun K => He.ga K "MEANINGS", (["LOAD_CONST", "RETURN_CONST", "DELETE_ATTR", "DELETE_GLOBAL", "DELETE_NAME", "LOAD_NAME", "STORE_ATTR", "STORE_GLOBAL", "STORE_NAME", "LOAD_ATTR", "LOAD_GLOBAL", "DELETE_DEREF", "DELETE_FAST", "LOAD_DEREF", "LOAD_FAST", "LOAD_FAST_CHECK", "LOAD_FROM_DICT_OR_DEREF", "MAKE_CELL", "STORE_DEREF", "STORE_FAST", "LOAD_FAST_LOAD_FAST", "STORE_FAST_LOAD_FAST", "STORE_FAST_STORE_FAST", "BINARY_OP", "COMPARE_OP", "IS_OP", "CONTAINS_OP", "CALL_INTRINSIC_1", "SET_FUNCTION_ATTRIBUTE"] : List Str)), (fun K => He.ga K "BACKWARD", (["JUMP_BACKWARD", "JUMP_BACKWARD_NO_INTERRUPT"] : List Str))]
abbrev Rk : PySem.W.OpenRow := PySem.W.OpenLaw.row PySem.Challenge.rw_codewalk_k57_instructions_told_as_dis_te
def tfs : List He.Defn := []
/-! ### a head's hook that looks at the objects of the top in their order, one by one -/
def asY (n : Nat) : List Addr := mainGlobals :: List.range' 11 (n - 11)
def obsY (fa : List He.Fa) (fn : List He.DefD) (ts : List He.Tab) (tf : List He.Defn) (ex : PySem.W.Frag → Bool) (g : Addr → Option Obj) (n : Nat) : He.AlX := (He.obsT fa fn ts (He.frT g (asY n)), ex (He.frT g (asY n)) && He.tabsB g tf (He.frT g (asY n)))
theorem saysY_of {as : List Addr} {fa : List He.Fa} {fn : List He.DefD} {ts : List He.Tab} {tf : List He.Defn} {ex : PySem.W.Frag → Bool} {w : World} {h : Heap} (e1 : He.obsT fa fn ts (He.frT h.get? as) = He.valT fn ts w) (e2 : (ex (He.frT h.get? as) && He.tabsB h.get? tf (He.frT h.get? as)) = true) :
    He.SaysX fa fn ts tf ex w h (He.frT h.get? as) := by
  obtain ⟨h1, h2⟩ := He.ba e2
  have key : ∀ p ∈ tf, PySem.W.codeHdIn (He.frT h.get? as) (He.cT (He.frT h.get? as) p).1 (He.cT (He.frT h.get? as) p).2 = true ∧ ∃ o, h.get? (He.cT (He.frT h.get? as) p).2 = some o ∧ He.emptyTab o = true := fun p hp => by
    obtain ⟨h3, h4⟩ := He.ba (List.all_eq_true.mp h2 p hp)
    refine ⟨h3, ?_⟩
    cases q : h.get? (He.cT (He.frT h.get? as) p).2 with
    | none =>
      rw [q] at h4
      cases h4
    | some o =>
      rw [q] at h4
      exact ⟨o, rfl, h4⟩
  exact ⟨e1, h1, fun p hp => (key p hp).1, fun p hp => by
    obtain ⟨_, o, q, z⟩ := key p hp
    exact He.frT_none q z, fun p hp => by
    obtain ⟨_, o, q, z⟩ := key p hp
    rw [q, He.emptyTab_eq z]⟩
def hookY (fa : List He.Fa) (fn : List He.DefD) (ts : List He.Tab) (tf : List He.Defn) (ex : PySem.W.Frag → Bool) : PySem.W.Hook where
  α := He.AlX
  obs := fun s => obsY fa fn ts tf ex s.heap.get? s.heap.objs.size
  val := fun w => He.valX fn ts w
  says := fun w h => ∃ K : PySem.W.Frag, K.In h ∧ He.SaysX fa fn ts tf ex w h K
  of := fun _ _ e => ⟨_, He.frT_in, saysY_of (congrArg (fun z : He.AlX => z.1) e) (congrArg (fun z : He.AlX => z.2) e)⟩
  keeps := fun _ _ _ ⟨K, hK, c⟩ k => ⟨K, PySem.W.Frag.In.keeps hK k, ⟨c.t, c.more, c.hd, c.out, fun p hp => k _ _ (c.empty p hp)⟩⟩
theorem obsY_eq {fa : List He.Fa} {fn : List He.DefD} {ts : List He.Tab} {tf : List He.Defn} {ex : PySem.W.Frag → Bool} {s : PySem.W.SharedT} : obsY fa fn ts tf ex (HandSHeadRun.getT s) s.n = (hookY fa fn ts tf ex).obs s.abs := by
  have e : HandSHeadRun.getT s = s.abs.heap.get? := funext (HandSHeadRun.getT_eq s)
  have z : s.abs.heap.objs.size = s.n := PySem.W.absHeap_size _ _ _
  show obsY fa fn ts tf ex (HandSHeadRun.getT s) s.n = obsY fa fn ts tf ex s.abs.heap.get? s.abs.heap.objs.size
  rw [z, e]

abbrev hkk : PySem.W.Hook := hookY fas fns tabs tfs exB
def obk (s : PySem.W.SharedT) : He.AlX := obsY fas fns tabs tfs exB (HandSHeadRun.getT s) s.n
theorem obk_eq (s : PySem.W.SharedT) : obk s = hkk.obs s.abs := obsY_eq
def loose : List Str := (["CodeError", "NoCode", "NoTable", "GREATEST", "DEEPEST", "BARRED", "Known", "Mark", "Code", "are_equal", "is_same_constant", "number_of", "bytes_of", "string_of", "strings_of", "is_string", "depth_of", "is_constant", "told_constants", "WORDS"] : List Str) ++ (["EXTENDED_ARG", "FIRST_WITH_ARGUMENT", "OPERATOR_SIGNS", "COMPARISON_SIGNS", "TRUTH", "LEADING", "BACKWARD", "target_of", "MOST_EXTENDED", "cut", "behind_extension", "INTRINSICS", "ATTRIBUTES", "of_constant", "of_name", "of_attribute", "of_global", "of_local", "of_locals", "of_operator"] : List Str) ++ (["of_comparison", "of_opposite", "of_intrinsic", "of_function_attribute", "MEANINGS", "BEGINS", "GOES_ON", "WITH_LINE", "WITHOUT_LINE", "MOST_UNITS", "lines_of_units", "signed_number", "instructions", "lines_of", "meaning_of", "_law_source_of", "_law_next", "_law_one", "_law_table", "_law_packed"] : List Str) ++ (["_law_great", "_law_pieces", "_law_marked", "_law_joined", "_law_entry", "_law_line_bytes", "_law_told_operator", "_law_told_number", "_law_drawn", "_law_meaning", "_law_line_at", "_law_told", "_law_lines"] : List Str)
/-- a dict display asks the world about one row: both answers are the same run -/
def fixW (w : World) (b : Bool) : World := { w with params := { w.params with followText := fun s => if s = "special-get-raises" then b else w.params.followText s } }
theorem fixW_eq (w : World) : fixW w (w.params.followText "special-get-raises") = w := by
  have e : (fun s => if s = "special-get-raises" then w.params.followText "special-get-raises" else w.params.followText s) = w.params.followText := by
    funext s
    split
    · rename_i h
      rw [h]
    · rfl
  unfold fixW
  rw [e]
abbrev K_ (s : PySem.W.SharedT) : PySem.W.Frag := He.frT (HandSHeadRun.getT s) (asY s.n)
noncomputable abbrev endW (w : World) (os : OsState) : Option PySem.W.SharedT := HandSHeadRun.endF (HandSHeadRun.stepQ (HandSHeadRun.denQ HandSHeadRun.tabQ) Rk.prog w) 16000 Rk.prog w os
open PySem.W PySem.Calls HandSHeadRun in
theorem run1T (w : World) (os : OsState) : (endW (fixW w true) os).map (fun s => ((HandSHeadRun.looksF Rk.prog (boot_heap (fixW w true).params) s.abs, HandSHeadRun.seenQ (PySem.W.view Rk.prog [81]) loose (importedModules Rk.prog.main.body) (fun s => xlAt (PySem.W.view Rk.prog [81]) [] s && recOk Rk.toRowW.records s) s.abs), He.obsT fas fns tabs (K_ s))) = some ((true, openGood (PySem.W.view Rk.prog [81]) loose), (He.valT fns tabs (fixW w true))) := by
  kernel_rfl
open PySem.W PySem.Calls HandSHeadRun in
theorem run2T (w : World) (os : OsState) : (endW (fixW w true) os).map (fun s => (exA (K_ s) && He.tabsB (HandSHeadRun.getT s) tfs (K_ s)) && (exF (K_ s) && exG (K_ s))) = some true := by
  kernel_rfl
open PySem.W PySem.Calls HandSHeadRun in
theorem run1F (w : World) (os : OsState) : (endW (fixW w false) os).map (fun s => ((HandSHeadRun.looksF Rk.prog (boot_heap (fixW w false).params) s.abs, HandSHeadRun.seenQ (PySem.W.view Rk.prog [81]) loose (importedModules Rk.prog.main.body) (fun s => xlAt (PySem.W.view Rk.prog [81]) [] s && recOk Rk.toRowW.records s) s.abs), He.obsT fas fns tabs (K_ s))) = some ((true, openGood (PySem.W.view Rk.prog [81]) loose), (He.valT fns tabs (fixW w false))) := by
  kernel_rfl
open PySem.W PySem.Calls HandSHeadRun in
theorem run2F (w : World) (os : OsState) : (endW (fixW w false) os).map (fun s => (exA (K_ s) && He.tabsB (HandSHeadRun.getT s) tfs (K_ s)) && (exF (K_ s) && exG (K_ s))) = some true := by
  kernel_rfl
theorem comb {α β γ δ : Type} {o : Option α} {f : α → β} {g : α → γ} {x y1 y2 z : α → Bool} {b : β} {c : γ} {d : α → δ} {dv : δ} (h1 : o.map (fun s => ((f s, g s), d s)) = some ((b, c), dv)) (h3 : o.map (fun s => (x s && z s) && (y1 s && y2 s)) = some true) :
    o.map (fun s => (f s, g s, (d s, (x s && (y1 s && y2 s)) && z s))) = some (b, c, (dv, true)) := by
  cases o with
  | none => cases h3
  | some s =>
    have e1 : ((f s, g s), d s) = ((b, c), dv) := Option.some.inj h1
    have e3 : ((x s && z s) && (y1 s && y2 s)) = true := Option.some.inj h3
    rw [Bool.and_eq_true, Bool.and_eq_true, Bool.and_eq_true] at e3
    obtain ⟨⟨e5, e6⟩, e4, e7⟩ := e3
    cases e1
    show some (f s, g s, (d s, (x s && (y1 s && y2 s)) && z s)) = _
    rw [e4, e5, e6, e7]
    rfl
theorem runk (w : World) : HandSHeadRun.RunEq Rk (PySem.W.view Rk.prog [81]) hkk obk 16000 loose w := by
  have h : ∀ b, HandSHeadRun.RunEq Rk (PySem.W.view Rk.prog [81]) hkk obk 16000 loose (fixW w b) := fun b => by
    cases b
    · exact fun os => comb (run1F w os) (run2F w os)
    · exact fun os => comb (run1T w os) (run2T w os)
  have h2 := h (w.params.followText "special-get-raises")
  rw [fixW_eq] at h2
  exact h2
end C57

set_option maxHeartbeats 1000000
namespace C57
open PySem PySem.Spec PyProof.Rows L2
def top (i : Nat) : Stmt := PySem.Challenge.pw_codewalk_k57_instructions_told_as_dis_te.main.body.getD i (.Pass ⟨0, 0, 0, 0⟩)
abbrev FnP (K : PySem.W.Frag) (x q : Str) (st : Stmt) (f : Addr) (fd : FuncData) : Prop := FunD K x q (defArgs st) (defBody st) (defScope st) [] [] f fd
/-- a def of the program as its callers see it -/
structure Cal (P : Program) (w : World) (K : PySem.W.Frag) (mg : Str → Option Value) (base : Heap) (k : Nat) (x : Str) (ps : List Str) (sp : Sp) : Prop where
  ex : ∃ f fd, FnOk P w K mg base CX0 k f fd ps sp ∧ mg x = some (.ref f) ∧ PySem.W.keepIn K (.ref f) = true ∧ Binds K fd ps []
theorem pe_cal {X : Cx} {k : Nat} {x : Str} {ps : List Str} {sp : Sp} {e : Expr} {es : List Expr} {t : TA} {p pos : Pos} (C : Cal X.prog X.w X.K X.mg X.base k x ps sp) (hr : Room k X.A) (hg : Gl X x) (ha : PA X (e :: es) t)
    (hdb : (x == ("__debug__" : Str)) = false := by decide) (he : starEach (e :: es) X.env = (false, eval e X.env) :: starEach es X.env := by rfl) (hpl : (backTo pos (starEach es X.env)).any (·.1) = false := by rfl) :
    PE X (.Call (.Name x p) (e :: es) [] pos) (tCall sp [] E0 t) := by
  obtain ⟨f, fd, F, m, kp, b⟩ := C.ex
  exact pe_call F hr hg m kp b .nil pass0 ha hdb he hpl
theorem pe_gi {X : Cx} {x : Str} {n : Int} {pos : Pos} (h : ∃ t, X.mg x = some (.int n t)) (hg : Gl X x := by rfl) (hdb : (x == ("__debug__" : Str)) = false := by decide) : PE X (.Name x pos) (tC (.int n)) := by
  obtain ⟨t, h⟩ := h
  exact pe_glob hg h ⟨t, rfl⟩ hdb
/-! ### own rules in a form that simp can reckon: each reading names what it finds in the heap by an equation -/
section
variable {X : Cx}
theorem OpR.imp' {g : Value → Value → Sem Value} {r r' : R2} (h : OpR X g r) (i : ∀ x y H Q, r' x y H Q → r x y H Q) : OpR X g r' := fun pins s σ H x y v u Q I rx ry q => h pins s σ H x y v u Q I rx ry (i _ _ _ _ q)
theorem IxR.imp' {r r' : R2} (h : IxR X r) (i : ∀ x y H Q, r' x y H Q → r x y H Q) : IxR X r' := fun e1 e2 pins s σ H x y v u Q I rx ry q => h e1 e2 pins s σ H x y v u Q I rx ry (i _ _ _ _ q)
theorem CallR.imp' {g : Value} {r r' : List V → Hp → VK → Prop} (h : CallR X g r) (i : ∀ xs H Q, r' xs H Q → r xs H Q) : CallR X g r' := fun pins s σ H xs us Q I rx q => h pins s σ H xs us Q I rx (i _ _ _ q)
theorem SlR.imp' {r r' : V → Option Int → Option Int → Hp → VK → Prop} (h : L2.SlR X r) (i : ∀ x a b H Q, r' x a b H Q → r x a b H Q) : L2.SlR X r' := fun pins s σ H x v vl vu lo hi sl Q I rx hs pl pu q => h pins s σ H x v vl vu lo hi sl Q I rx hs pl pu (i _ _ _ _ _ q)
theorem PE.weak {e : Expr} {t t' : TE} (h : PE X e t) (i : ∀ σ H Q, t' σ H Q → t σ H Q) : PE X e t' := ⟨fun pins s σ H Q I q => h.run pins s σ H Q I (i _ _ _ q)⟩
/-- the monotone closure of a reading -/
def mcl (te : TE) : TE := fun σ H Q => ∃ Q0 : VK, te σ H Q0 ∧ ∀ v H', Q0 v H' → Q v H'
theorem PE.mcl {e : Expr} {te : TE} (h : PE X e te) : PE X e (mcl te) := ⟨fun pins s σ H Q I q => by
  obtain ⟨Q0, q0, m⟩ := q
  exact thn (h.run pins s σ H Q0 I q0) fun u s1 ⟨v, H1, I1, r1, q1⟩ => ⟨v, H1, I1, r1, m _ _ q1⟩⟩
theorem pip_of {op : Operator} {r : R2} (h : OpR X (inplaceOp op) r) : PIp X op r := fun pins s σ H x y v u Q I rx ry q => h pins s σ H x y v u Q I rx ry q
/-- what a list or a tuple holds -/
def sq : Option HO → Option (List V)
  | some (.lst xs) => some xs
  | some (.tup xs) => some xs
  | _ => none
@[simp] theorem sq_lst {xs : List V} : sq (some (.lst xs)) = some xs := rfl
@[simp] theorem sq_tup {xs : List V} : sq (some (.tup xs)) = some xs := rfl
theorem sq_cases {o : Option HO} {xs : List V} (h : sq o = some xs) : o = some (.lst xs) ∨ o = some (.tup xs) := by
  unfold sq at h
  split at h
  · exact .inl (by rw [Option.some.inj h])
  · exact .inr (by rw [Option.some.inj h])
  · cases h
def rIxd : R2 := fun x y H Q => ∃ p i xs v, x = .ref p ∧ y = .int i ∧ sq (H p) = some xs ∧ atI xs i = some v ∧ Q v H
theorem ix_d : IxR X rIxd := IxR.imp' (IxR.or (ix_list (X := X)) (ix_tup (X := X))) fun x y H Q ⟨p, i, xs, v, e1, e2, h, ha, q⟩ => by
  rcases sq_cases h with h | h
  · exact .inl ⟨p, xs, i, v, e1, e2, SqL.of h, ha, q⟩
  · exact .inr ⟨p, xs, i, v, e1, e2, SqT.of h, ha, q⟩
def rLend : List V → Hp → VK → Prop := fun vs H Q => ∃ p xs, vs = [.ref p] ∧ sq (H p) = some xs ∧ Q (.int xs.length) H
theorem call_len_d : CallR X (.builtin "len") rLend := CallR.imp' (call_len_seq (X := X)) fun vs H Q ⟨p, xs, e, h, q⟩ => by
  rcases sq_cases h with h | h
  · exact ⟨p, xs, e, .inl (SqL.of h), q⟩
  · exact ⟨p, xs, e, .inr (SqT.of h), q⟩
/-- tuple(list), list(list), list(tuple) -/
def rTupd : List V → Hp → VK → Prop := fun vs H Q => ∃ p xs, vs = [.ref p] ∧ H p = some (.lst xs) ∧ ∀ l, H l = none → Q (.ref l) (upd H l (.tup xs))
theorem call_tuple_d : CallR X (.type "tuple") rTupd := CallR.imp' (call_tuple_of (X := X)) fun vs H Q ⟨p, xs, e, h, q⟩ => ⟨p, xs, e, .inl ⟨SqL.of h, q⟩⟩
def rListd : List V → Hp → VK → Prop := fun vs H Q => ∃ p xs, vs = [.ref p] ∧ sq (H p) = some xs ∧ ∀ l, H l = none → Q (.ref l) (upd H l (.lst xs))
theorem call_list_d : CallR X (.type "list") rListd := CallR.imp' (call_list_of (X := X)) fun vs H Q ⟨p, xs, e, h, q⟩ => by
  rcases sq_cases h with h | h
  · exact ⟨p, xs, e, .inl (SqL.of h), q⟩
  · exact ⟨p, xs, e, .inr (SqT.of h), q⟩
def rSld : V → Option Int → Option Int → Hp → VK → Prop := fun x lo hi H Q => ∃ a xs, x = .ref a ∧ H a = some (.lst xs) ∧ ∀ p, H p = none → Q (.ref p) (upd H p (.lst (cutV xs lo hi)))
theorem sl_d : L2.SlR X rSld := SlR.imp' (sl_list (X := X)) fun x lo hi H Q ⟨a, xs, e, h, q⟩ => ⟨a, xs, e, SqL.of h, q⟩
def tRevD (te : TE) : TE := fun σ H Q => te σ H fun x H1 => ∃ a xs, x = .ref a ∧ H1 a = some (.lst xs) ∧ ∀ p, H1 p = none → Q (.ref p) (upd H1 p (.lst xs.reverse))
theorem pe_revD {e : Expr} {te : TE} {k : Nat} {p1 p2 p3 pos : Pos} (he : PE X e te) : PE X (.Subscript e (.Slice none none (some (.UnaryOp .USub (.Constant (.int 1) k p1) p2)) p3) pos) (tRevD te) :=
  PE.weak (pe_revL (PE.mcl he)) fun σ H Q q => ⟨_, q, fun v H' ⟨a, xs, e, h, k⟩ => ⟨a, xs, e, SqL.of h, k⟩⟩
theorem PG.weak {tg : Expr} {t t' : TG} (h : PG X tg t) (i : ∀ v σ H Q, t' v σ H Q → t v σ H Q) : PG X tg t' := ⟨fun pins s σ H v u Q I r q => h.run pins s σ H v u Q I r (i _ _ _ _ q)⟩
/-- a, b, .. = a tuple that stands in the heap -/
def gTupD (n : Nat) (t : TGs) : TG := fun v σ H Q => ∃ a xs, v = .ref a ∧ H a = some (.tup xs) ∧ xs.length = n ∧ t xs σ H Q
theorem pg_tupD {es : List Expr} {k : Nat} {t : TGs} {n : Nat} {pos : Pos} (hc : X.calm = true) (h : PGs X es t)
    (hn : (assignEach es X.env).length = n := by rfl) (hst : (assignEach es X.env).findIdx? (·.1) = none := by rfl) : PG X (.Tuple es k pos) (gTupD n t) :=
  PG.weak (pg_tup hc h hn hst) fun v σ H Q ⟨a, xs, e, h, l, q⟩ => ⟨a, xs, e, SqT.of h, l, q⟩
def isLst : Option HO → Bool
  | some (.lst _) => true
  | _ => false
@[simp] theorem isLst_lst {xs : List V} : isLst (some (.lst xs)) = true := rfl
theorem tyV_lst {K : PySem.W.Frag} {H : Hp} {a : Addr} (h : isLst (H a) = true) : tyV K "list" (.ref a) H = True := by
  refine eq_true ?_
  cases e : H a with
  | none =>
    rw [e] at h
    cases h
  | some o =>
    rw [e] at h
    cases o with
    | lst xs => exact .inl ⟨rfl, xs, SqL.of e⟩
    | _ => cases h
end
/-! ### statements and expressions, one step each -/
section
variable {X : Cx} {σ : L2.St} {H : Hp} {Q : VK} {D : Ends} {QT : Bool → Hp → Prop} {QA : List V → Hp → Prop} {QO : Option Int → Hp → Prop}
theorem r_seq {t u : TS} : tSeq t u D σ H = t { D with nx := u D } σ H := rfl
theorem r_next : tNext D σ H = D.nx σ H := rfl
theorem r_brk : tBreak D σ H = D.bk σ H := rfl
theorem r_cont : tCont D σ H = D.ct σ H := rfl
theorem r_asg {te : TE} {g : TG} : tAsg te g D σ H = te σ H (fun x H1 => g x σ H1 D.nx) := rfl
theorem r_name {i : Nat} {v : V} {Q : L2.St → Hp → Prop} : gName i v σ H Q = Q (σ.set i (some v)) H := rfl
theorem r_ret {te : TE} : tRet te D σ H = te σ H D.rt := rfl
theorem r_retN : tRetN D σ H = D.rt .non H := rfl
theorem r_drop {te : TE} : tDrop te D σ H = te σ H (fun _ H1 => D.nx σ H1) := rfl
theorem r_ifs {c : TT} {t u : TS} : tIfS c t u D σ H = c σ H (fun b H1 => if b = true then t D σ H1 else u D σ H1) := rfl
theorem r_never : tNever D σ H = False := rfl
theorem r_var {i : Nat} : tVar i σ H Q = ∃ v, σ[i]? = some (some v) ∧ Q v H := rfl
theorem r_c {v : V} : tC v σ H Q = Q v H := rfl
theorem r_op {r : R2} {ta tb : TE} : tOp r ta tb σ H Q = ta σ H (fun x H1 => tb σ H1 fun y H2 => r x y H2 Q) := rfl
theorem r_un {r : V → Hp → VK → Prop} {ta : TE} : tUn r ta σ H Q = ta σ H (fun x H1 => r x H1 Q) := rfl
theorem r_if {c : TT} {ta tb : TE} : tIf c ta tb σ H Q = c σ H (fun b H1 => if b = true then ta σ H1 Q else tb σ H1 Q) := rfl
theorem r_tst {t : TE} : tTest t σ H QT = t σ H (fun x H' => ∃ k, x = .bl k ∧ QT k H') := rfl
theorem r_b {t : TE} : tB t σ H QT = t σ H (fun x H' => ∃ k, x = .bl k ∧ QT k H') := rfl
theorem r_not {t : TT} : tNot t σ H QT = t σ H (fun c H1 => QT (!c) H1) := rfl
theorem r_and {t u : TT} : tAnd t u σ H QT = t σ H (fun c H1 => if c = true then u σ H1 QT else QT false H1) := rfl
theorem r_or {t u : TT} : tOr t u σ H QT = t σ H (fun c H1 => if c = true then QT true H1 else u σ H1 QT) := rfl
theorem r_andV {ta tb : TE} : tAndV ta tb σ H Q = ta σ H (fun x H1 => ∃ c, x = .bl c ∧ if c = true then tb σ H1 Q else Q (.bl false) H1) := rfl
theorem r_orV {ta tb : TE} : tOrV ta tb σ H Q = ta σ H (fun x H1 => ∃ c, x = .bl c ∧ if c = true then Q (.bl true) H1 else tb σ H1 Q) := rfl
theorem r_notV {ta : TE} : tNotV ta σ H Q = ta σ H (fun x H1 => ∃ c, x = .bl c ∧ Q (.bl (!c)) H1) := rfl
theorem r_nil : tNil σ H QA = QA [] H := rfl
theorem r_cons {ta : TE} {tr : TA} : tCons ta tr σ H QA = ta σ H (fun x H1 => tr σ H1 fun xs H2 => QA (x :: xs) H2) := rfl
theorem r_tup {t : TA} : tTup t σ H Q = t σ H (fun xs H1 => xs.length ≤ sizeLine ∧ ∀ p, H1 p = none → Q (.ref p) (upd H1 p (.tup xs))) := (rfl)
theorem r_lst {t : TA} : tLst t σ H Q = t σ H (fun xs H1 => xs.length ≤ sizeLine ∧ ∀ p, H1 p = none → Q (.ref p) (upd H1 p (.lst xs))) := (rfl)
theorem r_cb {r : List V → Hp → VK → Prop} {t : TA} : tCB r t σ H Q = t σ H (fun vs H1 => r vs H1 Q) := rfl
theorem r_call {sp : Sp} {dvs : List V} {E : XK} {t : TA} : tCall sp dvs E t σ H Q = t σ H (fun vs H1 => sp (vs ++ dvs) H1 Q E) := rfl
theorem r_bm {K : PySem.W.Frag} {T : String} {r : V → List V → Hp → VK → Prop} {to : TE} {t : TA} : tBM K T r to t σ H Q = to σ H (fun x H1 => tyV K T x H1 ∧ t σ H1 fun xs H2 => r x xs H2 Q) := rfl
theorem r_bm0 {K : PySem.W.Frag} {T : String} {r : V → List V → Hp → VK → Prop} {to : TE} : tBM0 K T r to σ H Q = to σ H (fun x H1 => tyV K T x H1 ∧ r x [] H1 Q) := rfl
theorem r_sl {r : V → Option Int → Option Int → Hp → VK → Prop} {te : TE} {tl th : TO} : L2.tSl r te tl th σ H Q = te σ H (fun x H1 => tl σ H1 fun l H2 => th σ H2 fun u H3 => r x l u H3 Q) := rfl
theorem r_nopart : tNoPart σ H QO = QO none H := rfl
theorem r_part {te : TE} : tPart te σ H QO = te σ H (fun x H1 => ∃ i, x = .int i ∧ QO (some i) H1) := rfl
theorem r_rev {te : TE} : tRevD te σ H Q = te σ H (fun x H1 => ∃ a xs, x = .ref a ∧ H1 a = some (.lst xs) ∧ ∀ p, H1 p = none → Q (.ref p) (upd H1 p (.lst xs.reverse))) := rfl
theorem r_gtup {K : PySem.W.Frag} {n : Nat} {t : TGs} {v : V} {Q : L2.St → Hp → Prop} : gTup K n t v σ H Q = ∃ a xs, v = .ref a ∧ SqT K H a xs ∧ xs.length = n ∧ t xs σ H Q := rfl
theorem r_gtupD {n : Nat} {t : TGs} {v : V} {Q : L2.St → Hp → Prop} : gTupD n t v σ H Q = ∃ a xs, v = .ref a ∧ H a = some (.tup xs) ∧ xs.length = n ∧ t xs σ H Q := rfl
theorem r_gnil {vs : List V} {Q : L2.St → Hp → Prop} : gNil vs σ H Q = (vs = [] ∧ Q σ H) := rfl
theorem r_gcons {t : TG} {u : TGs} {vs : List V} {Q : L2.St → Hp → Prop} : gCons t u vs σ H Q = ∃ v r, vs = v :: r ∧ t v σ H (fun σ' H' => u r σ' H' Q) := rfl
theorem r_gsub {to ti : TE} {t : TSet} {v : V} {Q : L2.St → Hp → Prop} : gSub to ti t v σ H Q = to σ H (fun o H1 => ti σ H1 fun i H2 => t o i v H2 fun H3 => Q σ H3) := rfl
theorem r_par {i j : Nat} {ta : TA} : tPar i j ta D σ H = ta σ H (fun vs H1 => ∃ v w, vs = [v, w] ∧ D.nx ((σ.set i (some v)).set j (some w)) H1) := rfl
theorem r_aug {i : Nat} {te : TE} {ti : TIp} : tAug i te ti D σ H = ∃ x, σ[i]? = some (some x) ∧ te σ H (fun y H1 => ti x y H1 fun z H2 => D.nx (σ.set i (some z)) H2) := rfl
theorem r_chain {r r' : R2} {ta tb tc : TE} : tChain r r' ta tb tc σ H Q = ta σ H (fun x H1 => tb σ H1 fun y H2 => r x y H2 fun z H3 => ∃ k, z = .bl k ∧ (if k = true then tc σ H3 fun w' H4 => r' y w' H4 Q else Q (.bl false) H3)) := rfl
theorem r_I0 {g : Int → Int → V} {x y : V} : rI0 g x y H Q = ∃ i j, x = .int i ∧ y = .int j ∧ Q (g i j) H := rfl
theorem r_I {C : Int → Int → Prop} {g : Int → Int → V} {x y : V} : rI C g x y H Q = ∃ i j, x = .int i ∧ y = .int j ∧ C i j ∧ Q (g i j) H := rfl
theorem r_ipI {f : Int → Int → Int} {x y : V} : ipI f x y H Q = ∃ i j, x = .int i ∧ y = .int j ∧ Q (.int (f i j)) H := rfl
theorem r_U {g : Int → V} {x : V} : rU g x H Q = ∃ i, x = .int i ∧ Q (g i) H := rfl
theorem r_ixd {x y : V} : rIxd x y H Q = ∃ p i xs v, x = .ref p ∧ y = .int i ∧ sq (H p) = some xs ∧ atI xs i = some v ∧ Q v H := rfl
theorem r_lend {vs : List V} : rLend vs H Q = ∃ p xs, vs = [.ref p] ∧ sq (H p) = some xs ∧ Q (.int xs.length) H := rfl
theorem r_tupd {vs : List V} : rTupd vs H Q = ∃ p xs, vs = [.ref p] ∧ H p = some (.lst xs) ∧ ∀ l, H l = none → Q (.ref l) (upd H l (.tup xs)) := rfl
theorem r_listd {vs : List V} : rListd vs H Q = ∃ p xs, vs = [.ref p] ∧ sq (H p) = some xs ∧ ∀ l, H l = none → Q (.ref l) (upd H l (.lst xs)) := rfl
theorem r_sld {x : V} {lo hi : Option Int} : rSld x lo hi H Q = ∃ a xs, x = .ref a ∧ H a = some (.lst xs) ∧ ∀ p, H p = none → Q (.ref p) (upd H p (.lst (cutV xs lo hi))) := rfl
theorem r_app {x : V} {vs : List V} : rAppend x vs H Q = ∃ l xs y, x = .ref l ∧ vs = [y] ∧ H l = some (.lst xs) ∧ xs.length < sizeLine ∧ Q .non (upd H l (.lst (xs ++ [y]))) := rfl
theorem r_ext {x : V} {vs : List V} : rExtend x vs H Q = ∃ l b xs zs, x = .ref l ∧ vs = [.ref b] ∧ H l = some (.lst xs) ∧ H b = some (.lst zs) ∧ xs.length + zs.length ≤ sizeLine ∧ Q .non (upd H l (.lst (xs ++ zs))) := rfl
theorem r_reverse {x : V} {vs : List V} : rReverse x vs H Q = ∃ l xs, x = .ref l ∧ vs = [] ∧ H l = some (.lst xs) ∧ Q .non (upd H l (.lst xs.reverse)) := rfl
theorem r_setl {o i v : V} {Q : Hp → Prop} : rSetL o i v H Q = ∃ p xs k j, o = .ref p ∧ i = .int k ∧ H p = some (.lst xs) ∧ ixN xs.length k = some j ∧ Q (upd H p (.lst (xs.set j v))) := rfl
theorem r_cat {x y : V} : rCat x y H Q = ∃ l b xs zs, x = .ref l ∧ y = .ref b ∧ H l = some (.lst xs) ∧ H b = some (.lst zs) ∧ xs.length + zs.length ≤ sizeLine ∧ ∀ p, H p = none → Q (.ref p) (upd H p (.lst (xs ++ zs))) := rfl
theorem r_int1 {xs : List V} : (fun xs H Q => (∃ i, xs = [V.int i] ∧ Q (V.int i) H) ∨ ∃ k, xs = [V.bl k] ∧ Q (V.int (if k = true then 1 else 0)) H : List V → Hp → VK → Prop) xs H Q = ((∃ i, xs = [V.int i] ∧ Q (V.int i) H) ∨ ∃ k, xs = [V.bl k] ∧ Q (V.int (if k = true then 1 else 0)) H) := rfl
theorem r_eqS {x y : V} : rEq x y H Q = (scal x y = true ∧ Q (.bl (decide (x = y))) H) := rfl
theorem r_neS {x y : V} : rNe x y H Q = (scal x y = true ∧ Q (.bl (!decide (x = y))) H) := rfl
theorem scal_ii {i j : Int} : scal (.int i) (.int j) = true := rfl
theorem scal_bb {i j : Bool} : scal (.bl i) (.bl j) = true := rfl
theorem scal_ss {i j : Str} : scal (.str i) (.str j) = true := rfl
theorem at0 {x : V} {xs : List V} : atI (x :: xs) 0 = some x := by
  unfold atI ixN
  rw [if_pos (by decide), if_pos (by simp)]
  rfl
theorem at1 {x y : V} {xs : List V} : atI (x :: y :: xs) 1 = some y := by
  unfold atI ixN
  rw [if_pos (by decide), if_pos (by rw [List.length_cons, List.length_cons]; omega)]
  rfl
theorem at2 {x y z : V} {xs : List V} : atI (x :: y :: z :: xs) 2 = some z := by
  unfold atI ixN
  rw [if_pos (by decide), if_pos (by rw [List.length_cons, List.length_cons, List.length_cons]; omega)]
  rfl
theorem atn {xs : List V} {i : Nat} {v : V} (h : xs[i]? = some v) : atI xs (i : Int) = some v := by
  have hi : i < xs.length := (List.getElem?_eq_some_iff.mp h).1
  unfold atI ixN
  rw [if_pos (Int.natCast_nonneg i), if_pos (by omega)]
  simpa using h
theorem ixn {n i : Nat} (h : i < n) : ixN n (i : Int) = some i := by
  unfold ixN
  rw [if_pos (Int.natCast_nonneg i), if_pos (by omega)]
  simp
theorem ix0 {n : Nat} : ixN (n + 1) 0 = some 0 := by
  unfold ixN
  rw [if_pos (by decide), if_pos (by omega)]
  rfl
theorem ix1 {n : Nat} : ixN (n + 1 + 1) 1 = some 1 := by
  unfold ixN
  rw [if_pos (by decide), if_pos (by omega)]
  rfl
theorem ix2 {n : Nat} : ixN (n + 1 + 1 + 1) 2 = some 2 := by
  unfold ixN
  rw [if_pos (by decide), if_pos (by omega)]
  rfl
theorem cm_l {i j : Int} (h : -(2 ^ 64) < i ∧ i < 2 ^ 64) : CMul i j = True := eq_true (.inl h)
theorem cm_r {i j : Int} (h : -(2 ^ 64) < j ∧ j < 2 ^ 64) : CMul i j = True := eq_true (.inr h)
theorem cm_mod {t j : Int} : CMul (t % 2147483647) j = True := eq_true (.inl ⟨by omega, by omega⟩)
theorem cdw {i j : Int} (h : 0 < j ∧ j < 2 ^ 200) : CDivW i j = True := eq_true (wide_div (b := 200) h.1 (by omega) (by decide) (by decide))
theorem cdw1009 {i : Int} : CDivW i 1009 = True := cdw (by decide)
theorem cdw2003 {i : Int} : CDivW i 2003 = True := cdw (by decide)
theorem cdw7 {i : Int} : CDivW i 7 = True := cdw (by decide)
theorem cdw64 {i : Int} : CDivW i 64 = True := cdw (by decide)
theorem cdw2 {i : Int} : CDivW i 2 = True := cdw (by decide)
theorem cm104729 {i : Int} : CMul 104729 i = True := cm_l (by decide)
theorem cm2 {i : Int} : CMul 2 i = True := cm_l (by decide)
theorem cm3 {i : Int} : CMul 3 i = True := cm_l (by decide)
theorem sz_lit {xs : List V} (h : xs.length ≤ 1000) : (xs.length ≤ sizeLine) = True := eq_true (Nat.le_trans h (by decide))
/-- while by a word of the slots and the heap, a test whose answer is known -/
theorem while_d {c : TT} {tb : TS} (Pv : L2.St → Hp → Prop) (m : L2.St → Hp → Nat) (h0 : Pv σ H)
    (hs : ∀ σ H, Pv σ H → ∃ b, (∀ Q : Bool → Hp → Prop, Q b H → c σ H Q) ∧ (b = true → tb { D with nx := fun σ' H' => Pv σ' H' ∧ m σ' H' < m σ H, ct := fun σ' H' => Pv σ' H' ∧ m σ' H' < m σ H, bk := D.nx } σ H) ∧ (b = false → D.nx σ H)) : tWhile c tb D σ H := by
  refine ⟨fun k σ H => k = m σ H ∧ Pv σ H, ⟨_, rfl, h0⟩, ?_⟩
  rintro k σ H ⟨rfl, p⟩
  obtain ⟨b, hc, h1, h2⟩ := hs σ H p
  refine hc _ ?_
  cases b with
  | true => exact ⟨_, fun σ' H' ⟨p', l⟩ => ⟨_, l, rfl, p'⟩, h1 rfl⟩
  | false => exact h2 rfl
end
/-! ### heaps -/
theorem upd_at {H : Hp} {a b : Addr} {o : HO} : L2.upd H a o b = if b = a then some o else H b := rfl
theorem une {a b : Addr} (h : b ≠ a) : ∀ (H : Hp) (o : HO), L2.upd H a o b = H b := fun H o => upd_ne h
theorem ne_new {H : Hp} {a p : Addr} {o : HO} (h : H a = some o) (hp : H p = none) : a ≠ p := ne_of_none h hp
theorem new_ne {H : Hp} {a p : Addr} {o : HO} (h : H a = some o) (hp : H p = none) : p ≠ a := (ne_of_none h hp).symm
theorem Same.new' {H H1 : Hp} {p : Addr} {o : HO} (h : Same H H1) (hp : H1 p = none) : Same H (L2.upd H1 p o) := fun b u e => by
  have e1 := h b u e
  rw [upd_ne (ne_of_none e1 hp)]
  exact e1
/-! ### loops -/
/-- what a loop over J asks -/
def LoopR (J : It) (g : TG) (tb : TS) (D : Ends) (σ : L2.St) (H1 : Hp) : Prop := ∃ W : Nat → Nat → L2.St → Hp → Prop, (∃ m, W 0 m σ H1) ∧ ∀ i m σ H, W i m σ H →
  (J.stop i H ∧ D.nx σ H) ∨ (J.go i H ∧ ∃ N : L2.St → Hp → Prop, (∀ σ' H', N σ' H' → ∃ m', m' < m ∧ W (i + 1) m' σ' H') ∧ ∀ x H', J.yld i H x H' → g x σ H' fun σ2 H2 => tb { D with nx := N, ct := N, bk := D.nx } σ2 H2)
section
variable {K : PySem.W.Frag} {σ : L2.St} {H : Hp} {D : Ends} {g : TG} {tb : TS}
theorem r_for1 {ta : TA} : tFor (iRng1 ta) g tb D σ H = ta σ H (fun vs H1 => ∃ j : Int, vs = [.int j] ∧ -(2 ^ 62) ≤ j ∧ j < 2 ^ 62 ∧ LoopR (Itr 0 j.toNat) g tb D σ H1) := rfl
theorem r_forL {tl : TE} : tFor (iList K tl) g tb D σ H = tl σ H (fun x H1 => ∃ a, x = .ref a ∧ (∃ xs, SqL K H1 a xs) ∧ LoopR (Itl K a) g tb D σ H1) := rfl
theorem r_forT {tl : TE} : tFor (iTup K tl) g tb D σ H = tl σ H (fun x H1 => ∃ a, x = .ref a ∧ (∃ xs, SqT K H1 a xs) ∧ LoopR (Itt K a) g tb D σ H1) := rfl
theorem lp_rng {n : Nat} (Pv : Nat → L2.St → Hp → Prop) (h0 : Pv 0 σ H)
    (hs : ∀ (i : Nat) σ H, i < n → Pv i σ H → g (.int (i : Int)) σ H fun σ2 H2 => tb { D with nx := Pv (i + 1), ct := Pv (i + 1), bk := D.nx } σ2 H2) (hd : ∀ σ H, Pv n σ H → D.nx σ H) : LoopR (Itr 0 n) g tb D σ H :=
  for_range Pv h0 (fun i σ H hi p => by
    have q := hs i σ H hi p
    rw [Int.zero_add]
    exact q) hd
theorem lp_list {a : Addr} {xs : List V} (Pv : Nat → L2.St → Hp → Prop) (h0 : Pv 0 σ H) (hl : ∀ i σ H, i ≤ xs.length → Pv i σ H → SqL K H a xs)
    (hs : ∀ i x σ H, xs[i]? = some x → Pv i σ H → g x σ H fun σ2 H2 => tb { D with nx := Pv (i + 1), ct := Pv (i + 1), bk := D.nx } σ2 H2) (hd : ∀ σ H, Pv xs.length σ H → D.nx σ H) : LoopR (Itl K a) g tb D σ H := for_list Pv h0 hl hs hd
theorem lp_tup {a : Addr} {xs : List V} (Pv : Nat → L2.St → Hp → Prop) (h0 : Pv 0 σ H) (hl : ∀ i σ H, i ≤ xs.length → Pv i σ H → SqT K H a xs)
    (hs : ∀ i x σ H, xs[i]? = some x → Pv i σ H → g x σ H fun σ2 H2 => tb { D with nx := Pv (i + 1), ct := Pv (i + 1), bk := D.nx } σ2 H2) (hd : ∀ σ H, Pv xs.length σ H → D.nx σ H) : LoopR (Itt K a) g tb D σ H := for_tup Pv h0 hl hs hd
/-- an empty list, an empty tuple -/
theorem lp_nil {a : Addr} (hl : SqL K H a []) (hd : D.nx σ H) : LoopR (Itl K a) g tb D σ H := for_list (xs := []) (fun i s h => s = σ ∧ h = H) ⟨rfl, rfl⟩ (fun i s h _ ⟨_, e⟩ => by rw [e]; exact hl) (fun i x s h e => by cases e) fun s h ⟨e1, e2⟩ => by rw [e1, e2]; exact hd
theorem lp_nilT {a : Addr} (hl : SqT K H a []) (hd : D.nx σ H) : LoopR (Itt K a) g tb D σ H := for_tup (xs := []) (fun i s h => s = σ ∧ h = H) ⟨rfl, rfl⟩ (fun i s h _ ⟨_, e⟩ => by rw [e]; exact hl) (fun i x s h e => by cases e) fun s h ⟨e1, e2⟩ => by rw [e1, e2]; exact hd
/-- a list comprehension over J: what is kept from turn to turn -/
def CompR (J : It) (g : TG) (tt : TT) (te : TE) (vs : List Nat) (σ : L2.St) (Q : VK) (D : Addr) (H0 : Hp) : Prop := ∃ W : Nat → Nat → Hp → Prop, (∃ m, W 0 m H0) ∧ ∀ i m H, W i m H →
  (J.stop i H ∧ Q (.ref D) H) ∨ (J.go i H ∧ ∃ Nx : Hp → Prop, (∀ H', Nx H' → ∃ m', m' < m ∧ W (i + 1) m' H') ∧ ∀ x H', J.yld i H x H' → g x (wipe σ vs) H' fun σ2 H2 => wipe σ2 vs = wipe σ vs ∧ tt σ2 H2 fun b H3 =>
    if b = true then te σ2 H3 fun y H4 => ∃ acc, H4 D = some (.lst acc) ∧ acc.length < sizeLine ∧ Nx (upd H4 D (.lst (acc ++ [y]))) else Nx H3)
theorem r_lcL {tl : TE} {tt : TT} {te : TE} {vs : List Nat} {Q : VK} : tLc (iList K tl) g tt te vs σ H Q = tl σ H (fun x H1 => ∃ a, x = .ref a ∧ (∃ xs, SqL K H1 a xs) ∧ ∀ D, H1 D = none → CompR (Itl K a) g tt te vs σ Q D (upd H1 D (.lst []))) := rfl
theorem r_lc1 {ta : TA} {tt : TT} {te : TE} {vs : List Nat} {Q : VK} : tLc (iRng1 ta) g tt te vs σ H Q = ta σ H (fun us H1 => ∃ j : Int, us = [.int j] ∧ -(2 ^ 62) ≤ j ∧ j < 2 ^ 62 ∧ ∀ D, H1 D = none → CompR (Itr 0 j.toNat) g tt te vs σ Q D (upd H1 D (.lst []))) := rfl
theorem cp_list {a : Addr} {xs : List V} {tt : TT} {te : TE} {vs : List Nat} {A : Addr} {H1 : Hp} {Q : VK} (Pv : Nat → Hp → Prop) (h0 : Pv 0 (upd H1 A (.lst []))) (hl : ∀ i H, i ≤ xs.length → Pv i H → SqL K H a xs)
    (hs : ∀ i x H, xs[i]? = some x → Pv i H → g x (wipe σ vs) H fun σ2 H2 => wipe σ2 vs = wipe σ vs ∧ tt σ2 H2 fun b H3 =>
      if b = true then te σ2 H3 fun y H4 => ∃ acc, H4 A = some (.lst acc) ∧ acc.length < sizeLine ∧ Pv (i + 1) (upd H4 A (.lst (acc ++ [y]))) else Pv (i + 1) H3) (hd : ∀ H, Pv xs.length H → Q (.ref A) H) :
    CompR (Itl K a) g tt te vs σ Q A (upd H1 A (.lst [])) := lc_list Pv h0 hl hs hd
theorem r_yes {QT : Bool → Hp → Prop} : tYes σ H QT = QT true H := rfl
end
theorem wipe_0 {σ : L2.St} : wipe σ [] = σ := rfl
theorem wipe_1 {σ : L2.St} {v : Nat} {vs : List Nat} : wipe σ (v :: vs) = (wipe σ vs).set v none := rfl
theorem cut_init (xs : List V) (x : V) : cutV (xs ++ [x]) none (some (-1)) = xs := by
  have e : HT.sIx (xs ++ [x]).length (xs ++ [x]).length (some (-1)) = xs.length := by
    simp [HT.sIx]
    omega
  unfold cutV
  rw [e, HT.sIx_none, List.drop_zero, Nat.sub_zero, List.take_left']
  rfl
theorem cut_last (xs : List V) (x : V) : cutV (xs ++ [x]) (some (-1)) none = [x] := by
  have e : HT.sIx (xs ++ [x]).length 0 (some (-1)) = xs.length := by
    simp [HT.sIx]
    omega
  unfold cutV
  rw [e, HT.sIx_none, List.drop_left', List.take_of_length_le]
  · rw [List.length_append]
    simp
  · rfl
theorem tyl {K : PySem.W.Frag} {H : Hp} {a : Addr} {xs : List V} (h : H a = some (.lst xs)) : tyV K "list" (.ref a) H := of_eq_true (tyV_lst (by rw [h]; rfl))
theorem szl {n : Nat} (h : n ≤ 1000) : n ≤ sizeLine := Nat.le_trans h (by decide)
theorem szlt {n : Nat} (h : n ≤ 1000) : n < sizeLine := Nat.lt_of_le_of_lt h (by decide)
/-- a loop over a written tuple, turn by turn -/
def UnrT (T : Addr) (all : List V) (g : TG) (tb : TS) (D : Ends) : List V → L2.St → Hp → Prop
  | [], σ, H => D.nx σ H
  | x :: xs, σ, H => g x σ H fun σ2 H2 => tb { D with nx := fun σ' H' => H' T = some (.tup all) ∧ UnrT T all g tb D xs σ' H', ct := fun σ' H' => H' T = some (.tup all) ∧ UnrT T all g tb D xs σ' H', bk := D.nx } σ2 H2
theorem unr_nil {T : Addr} {all : List V} {g : TG} {tb : TS} {D : Ends} {σ : L2.St} {H : Hp} : UnrT T all g tb D [] σ H = D.nx σ H := rfl
theorem unr_cons {T : Addr} {all : List V} {g : TG} {tb : TS} {D : Ends} {x : V} {xs : List V} {σ : L2.St} {H : Hp} : UnrT T all g tb D (x :: xs) σ H = g x σ H fun σ2 H2 => tb { D with nx := fun σ' H' => H' T = some (.tup all) ∧ UnrT T all g tb D xs σ' H', ct := fun σ' H' => H' T = some (.tup all) ∧ UnrT T all g tb D xs σ' H', bk := D.nx } σ2 H2 := rfl
theorem lp_unrT {K : PySem.W.Frag} {T : Addr} {all : List V} {g : TG} {tb : TS} {D : Ends} {σ : L2.St} {H : Hp} (h : H T = some (.tup all)) (u : UnrT T all g tb D all σ H) : LoopR (Itt K T) g tb D σ H := by
  refine lp_tup (xs := all) (fun i σ' H' => H' T = some (.tup all) ∧ UnrT T all g tb D (all.drop i) σ' H') ⟨h, u⟩ (fun i s h' _ q => SqT.of q.1) (fun i x s h' e q => ?_) fun s h' q => ?_
  · have e1 : all.drop i = x :: all.drop (i + 1) := by
      obtain ⟨hi, e2⟩ := List.getElem?_eq_some_iff.mp e
      rw [List.drop_eq_getElem_cons hi, e2]
    obtain ⟨_, q2⟩ := q
    rw [e1] at q2
    exact q2
  · obtain ⟨_, q2⟩ := q
    rw [List.drop_length] at q2
    exact q2
theorem Paired.snoc' {α β : Type} {F : α → β → Prop} : ∀ {l1 : List α} {l2 : List β} {a : α} {b : β}, Paired F l1 l2 → F a b → Paired F (l1 ++ [a]) (l2 ++ [b])
  | _, _, _, _, .nil, h => .cons h .nil
  | _, _, _, _, .cons r t, h => .cons r (Paired.snoc' t h)
theorem Paired.map' {α β : Type} {F G : α → β → Prop} {l1 : List α} {l2 : List β} (p : Paired F l1 l2) (h : ∀ a b, F a b → G a b) : Paired G l1 l2 := Paired.mapP p h
theorem cut_tail (x : V) (xs : List V) : cutV (x :: xs) (some 1) none = xs := by
  have e : HT.sIx (x :: xs).length 0 (some 1) = 1 := by
    simp [HT.sIx]
  unfold cutV
  rw [e, HT.sIx_none]
  simp
/-- for x in a name that holds a list or a tuple -/
def iSeqV (K : PySem.W.Frag) (i : Nat) : TI := fun σ H R => ∃ a, σ[i]? = some (some (.ref a)) ∧ (((∃ xs, H a = some (.lst xs)) ∧ R (Itl K a) H) ∨ ((∃ xs, H a = some (.tup xs)) ∧ R (Itt K a) H))
theorem pi_seqV {X : Cx} (i : Nat) {x : Str} {tg : Expr} {pos : Pos} (hN : X.N[i]? = some x := by rfl) (hv : Vis X.env.scope x := by first | exact Or.inl rfl | exact Or.inr (Or.inl rfl) | exact Or.inr (Or.inr rfl)) (hd : (x == ("__debug__" : Str)) = false := by decide)
    (hcd : (x == ("__classdict__" : Str)) = false := by decide) : PI X tg (.Name x pos) (iSeqV X.K i) := ⟨fun pins s σ H R I h => by
  obtain ⟨a, h0, ⟨⟨xs, e⟩, q⟩ | ⟨⟨xs, e⟩, q⟩⟩ := h
  · exact (pi_list (pe_var hN hv hd hcd)).run pins s σ H R I ⟨_, h0, a, rfl, ⟨_, SqL.of e⟩, q⟩
  · exact (pi_tup (pe_var hN hv hd hcd)).run pins s σ H R I ⟨_, h0, a, rfl, ⟨_, SqT.of e⟩, q⟩⟩
theorem r_forS {K : PySem.W.Frag} {i : Nat} {g : TG} {tb : TS} {D : Ends} {σ : L2.St} {H : Hp} : tFor (iSeqV K i) g tb D σ H = ∃ a, σ[i]? = some (some (.ref a)) ∧ (((∃ xs, H a = some (.lst xs)) ∧ LoopR (Itl K a) g tb D σ H) ∨ ((∃ xs, H a = some (.tup xs)) ∧ LoopR (Itt K a) g tb D σ H)) := rfl
theorem lp_seq {K : PySem.W.Frag} {g : TG} {tb : TS} {D : Ends} {σ : L2.St} {H : Hp} {a : Addr} {xs : List V} (h : sq (H a) = some xs) (Pv : Nat → L2.St → Hp → Prop) (h0 : Pv 0 σ H) (hl : ∀ i σ H', Pv i σ H' → H' a = H a)
    (hs : ∀ i x σ H, xs[i]? = some x → Pv i σ H → g x σ H fun σ2 H2 => tb { D with nx := Pv (i + 1), ct := Pv (i + 1), bk := D.nx } σ2 H2) (hd : ∀ σ H, Pv xs.length σ H → D.nx σ H) :
    ((∃ xs, H a = some (.lst xs)) ∧ LoopR (Itl K a) g tb D σ H) ∨ ((∃ xs, H a = some (.tup xs)) ∧ LoopR (Itt K a) g tb D σ H) := by
  rcases sq_cases h with e | e
  · exact .inl ⟨⟨_, e⟩, lp_list Pv h0 (fun i s h' _ q => SqL.of (by rw [hl i s h' q, e])) hs hd⟩
  · exact .inr ⟨⟨_, e⟩, lp_tup Pv h0 (fun i s h' _ q => SqT.of (by rw [hl i s h' q, e])) hs hd⟩
theorem Paired.at' {α β : Type} {F : α → β → Prop} : ∀ {l1 : List α} {l2 : List β} {i : Nat}, Paired F l1 l2 → (h1 : i < l1.length) → (h2 : i < l2.length) → F l1[i] l2[i]
  | _, _, 0, .cons r _, _, _ => r
  | _, _, i + 1, .cons _ t, h1, h2 => Paired.at' (i := i) t (by simpa using h1) (by simpa using h2)

/-! ### isinstance, in a form that simp can reckon -/
structure ClsI (K : PySem.W.Frag) (C : Addr) : Prop where
  cl : Cls K C
  ha : PySem.W.findIn K (.ref C) "__class__" = some (some (.builtin "object.__class__"))
  hn : PySem.W.specialIn K (.builtin "object.__class__") "__get__" = some (some (.builtin "getset_descriptor.__get__"))
  htk : PySem.W.takesIn K (.builtin "object.__class__") = some true
  hm : PySem.W.mroIn K C (.type "object") = some true
/-- what stands there, by its class (of own classes C alone) -/
def tyH (C : Addr) : Option HO → Option Value
  | some (.lst _) => some (.type "list")
  | some (.tup _) => some (.type "tuple")
  | some (.dK _) => some (.type "dict")
  | some (.ins D _ _) => if D = C then some (.ref C) else none
  | _ => none
def tyD (C : Addr) (H : Hp) : V → Option Value
  | .non => some (.type "NoneType")
  | .bl _ => some (.type "bool")
  | .int _ => some (.type "int")
  | .str _ => some (.type "str")
  | .ref a => tyH C (H a)
  | _ => none
theorem tyD_ok {K : PySem.W.Frag} {C : Addr} {H : Hp} {x : V} {t : Value} (c : ClsI K C) (h : tyD C H x = some t) : TyX K H x t := by
  cases x with
  | non => cases h; exact .base .non
  | bl b => cases h; exact .base (.bl b)
  | int i => cases h; exact .base (.int i)
  | str s => cases h; exact .base (.str s)
  | ref a =>
    have h2 : tyH C (H a) = some t := h
    cases e : H a with
    | none =>
      rw [e] at h2
      cases h2
    | some o =>
      rw [e] at h2
      cases o with
      | lst xs => cases h2; exact .base (.lst e)
      | tup xs => cases h2; exact .base (.tup e)
      | dK kvs => cases h2; exact .base (.dK e)
      | ins D dx fs =>
        have h3 : (if D = C then some (Value.ref C) else none) = some t := h2
        by_cases q : D = C
        · rw [if_pos q] at h3
          cases h3
          subst q
          exact .base (.ins e c.cl c.ha c.hn c.htk c.hm)
        · rw [if_neg q] at h3
          cases h3
      | _ => cases h2
  | _ => cases h
def clsD : V → Option Value
  | .ty n => some (.type n)
  | .ref C => some (.ref C)
  | _ => none
theorem clsD_ok {c : V} {u : Value} (h : clsD c = some u) : ClsV c u := by
  cases c with
  | ty n => cases h; exact .ty n
  | ref C => cases h; exact .own C
  | _ => cases h
def rIsD (K : PySem.W.Frag) (C : Addr) : List V → Hp → VK → Prop := fun vs H Q => ∃ x c t u b, vs = [x, c] ∧ clsD c = some u ∧ tyD C H x = some t ∧ PySem.W.kitOne K t u = some b ∧ Q (.bl b) H
theorem call_is_d {X : Cx} {C : Addr} (c : ClsI X.K C) : CallR X (.builtin "isinstance") (rIsD X.K C) := CallR.imp' (call_isi (X := X)) fun vs H Q ⟨x, d, t, u, b, e, h1, h2, h3, q⟩ => ⟨x, d, t, u, b, e, clsD_ok h1, tyD_ok c h2, h3, q⟩
/-- isinstance(x, (list, tuple)) -/
def rIsLT (K : PySem.W.Frag) (C : Addr) : List V → Hp → VK → Prop := fun vs H Q => ∃ x tp t b, vs = [x, .ref tp] ∧ H tp = some (.tup [.ty "list", .ty "tuple"]) ∧ tyD C H x = some t ∧ PySem.W.kitAny K t [.type "list", .type "tuple"] = some b ∧ Q (.bl b) H
theorem call_is_lt {X : Cx} {C : Addr} (c : ClsI X.K C) : CallR X (.builtin "isinstance") (rIsLT X.K C) := CallR.imp' (call_isiT (X := X)) fun vs H Q ⟨x, tp, t, b, e, h1, h2, h3, q⟩ =>
  ⟨x, tp, _, t, _, b, e, h1, .cons (.ty "list") (.cons (.ty "tuple") .nil), tyD_ok c h2, h3, q⟩
section
variable {K : PySem.W.Frag} {C : Addr} {H : Hp} {Q : VK} {σ : L2.St} {D : Ends}
theorem r_isd {vs : List V} : rIsD K C vs H Q = ∃ x c t u b, vs = [x, c] ∧ clsD c = some u ∧ tyD C H x = some t ∧ PySem.W.kitOne K t u = some b ∧ Q (.bl b) H := rfl
theorem r_islt {vs : List V} : rIsLT K C vs H Q = ∃ x tp t b, vs = [x, .ref tp] ∧ H tp = some (.tup [.ty "list", .ty "tuple"]) ∧ tyD C H x = some t ∧ PySem.W.kitAny K t [.type "list", .type "tuple"] = some b ∧ Q (.bl b) H := rfl
theorem cD_ty {n : String} : clsD (.ty n) = some (.type n) := rfl
theorem cD_ref {a : Addr} : clsD (.ref a) = some (.ref a) := rfl
theorem tD_non : tyD C H .non = some (.type "NoneType") := rfl
theorem tD_bl {b : Bool} : tyD C H (.bl b) = some (.type "bool") := rfl
theorem tD_int {i : Int} : tyD C H (.int i) = some (.type "int") := rfl
theorem tD_str {s : Str} : tyD C H (.str s) = some (.type "str") := rfl
theorem tD_ref {a : Addr} : tyD C H (.ref a) = tyH C (H a) := rfl
theorem tH_lst {xs : List V} : tyH C (some (.lst xs)) = some (.type "list") := rfl
theorem tH_tup {xs : List V} : tyH C (some (.tup xs)) = some (.type "tuple") := rfl
theorem tH_dK {kvs : List (Key × V)} : tyH C (some (.dK kvs)) = some (.type "dict") := rfl
theorem tH_ins {dx : Addr} {fs : List (Str × V)} : tyH C (some (.ins C dx fs)) = some (.ref C) := if_pos rfl
theorem ki_self {t : Value} : PySem.W.kitOne K t t = some true := by
  unfold PySem.W.kitOne
  rw [if_pos (by simp)]
theorem ki_int_bool : PySem.W.kitOne K (.type "int") (.type "bool") = some false := kit_ty (by decide +kernel)
theorem ki_non_int : PySem.W.kitOne K (.type "NoneType") (.type "int") = some false := kit_ty (by decide +kernel)
theorem ki_str_int : PySem.W.kitOne K (.type "str") (.type "int") = some false := kit_ty (by decide +kernel)
theorem ki_lt_lst : PySem.W.kitAny K (.type "list") [.type "list", .type "tuple"] = some true := by
  unfold PySem.W.kitAny
  rw [ki_self]
theorem ki_lt_tup : PySem.W.kitAny K (.type "tuple") [.type "list", .type "tuple"] = some true := by
  have e : PySem.W.kitOne K (.type "tuple") (.type "list") = some false := kit_ty (by decide +kernel)
  unfold PySem.W.kitAny
  rw [e]
  unfold PySem.W.kitAny
  rw [ki_self]
theorem r_fld {ta : TE} {f : Str} : tFld K ta f σ H Q = ta σ H (fun x H1 => ∃ a C dx fs v, x = .ref a ∧ H1 a = some (.ins C dx fs) ∧ Cls K C ∧ NoAttr K C f ∧ fs.lookup f = some v ∧ Q v H1) := rfl
theorem r_sfld {ta tv : TE} {f : Str} : sFld K ta tv f D σ H = tv σ H (fun y H1 => ta σ H1 fun x H2 => ∃ a C dx fs, x = .ref a ∧ H2 a = some (.ins C dx fs) ∧ Cls K C ∧ NoAttr K C f ∧ fs.length < 1000 ∧ D.nx σ (upd H2 a (.ins C dx (putF f y fs)))) := rfl
end
theorem cx_K {CX : CXT} {P : Program} {w : World} {K : PySem.W.Frag} {mg : Str → Option Value} {base : Heap} {N : List Str} {q : Str} {sc : Scope} {f : Addr} {cd : Value} {A : Around} {outer : List Env} {s : Shared} {H : Hp} {E : XK} : (cxOf CX P w K mg base N q sc f cd A outer s H E).K = K := rfl
/-! ### own exceptions with one field -/
def spXInit (C : Addr) (f : Str) : Sp := fun vs H Q _ => ∃ (a : Addr) (v : V), vs = [.ref a, v] ∧ H a = some (exo a C none) ∧ ∀ d, H d = none → d ≠ a → Q .non (upd (upd H d (exd d [(f, v)])) a (exo a C (some d)))
structure Exn (P : Program) (w : World) (K : PySem.W.Frag) (mg : Str → Option Value) (base : Heap) (x : Str) (C : Addr) (f : Str) : Prop where
  ox : OexC K C
  gl : mg x = some (.ref C)
  ex : ∃ fI fd, PySem.W.findIn K (.ref C) "__init__" = some (some (.ref fI)) ∧ PySem.W.typeIn K (.ref fI) = some (.type "function") ∧ FnOk P w K mg base CX0 1 fI fd ["self", f] (spXInit C f) ∧ Binds K fd ["self", f] []
theorem pmk_x {X : Cx} {x f : Str} {C : Addr} {e : Expr} {te : TE} {p pos : Pos} (N : Exn X.prog X.w X.K X.mg X.base x C f) (hr : Room 2 X.A) (hg : Gl X x) (ha : PE X e te)
    (hs : starEach [e] X.env = (false, eval e X.env) :: starEach [] X.env := by rfl) (hdb : (x == ("__debug__" : Str)) = false := by decide) (hpl : (backTo pos (starEach [] X.env)).any (·.1) = false := by rfl) :
    PMk X (.Call (.Name x p) [e] [] pos) (tMkO C (spXInit C f) [] (tCons te tNil)) := by
  obtain ⟨fI, fd, iC, tI, F, b⟩ := N.ex
  exact pmk_oex N.ox iC tI F hr b .nil pass0 hg N.gl (pa_cons ha pa_nil hs) hdb hs hpl
/-- what a raise of such an exception asks -/
theorem raise_x {C : Addr} {f : Str} {te : TE} {σ : L2.St} {H : Hp} {E : XK} {v : V} (h : ∀ Q : VK, Q v H → te σ H Q) (k : ∀ d H', H d = none → Same H H' → H' d = some (.xd [(f, v)]) → E (.ref C) (some d) H') : tMkO C (spXInit C f) [] (tCons te tNil) σ H E := by
  refine h _ ⟨by show 1 ≤ 1000; decide, fun a ha => ⟨a, v, rfl, upd_same, fun d hd da => ⟨rfl, d, [(f, v)], upd_same, ?_, ?_, ?_⟩⟩⟩
  · rw [upd_ne da, upd_same]
  · rw [upd_ne da] at hd
    exact hd
  · rw [upd_ne da] at hd
    refine k d _ hd (fun b o e => ?_) upd_same
    have ba : b ≠ a := ne_new e ha
    have bd : b ≠ d := ne_new e hd
    rw [upd_ne bd, del_ne ba, upd_ne ba, upd_ne bd, upd_ne ba]
    exact e

/-! ### the source of choices -/
def Src (H : Hp) (a : Addr) : Prop := ∃ x y z : Int, H a = some (.lst [.int x, .int y, .int z])
/-- all but a stays -/
def Keep (a : Addr) (H H' : Hp) : Prop := ∀ b o, b ≠ a → H b = some o → H' b = some o
theorem Keep.refl (a : Addr) (H : Hp) : Keep a H H := fun _ _ _ h => h
theorem Keep.trans {a : Addr} {H H1 H2 : Hp} (h : Keep a H H1) (k : Keep a H1 H2) : Keep a H H2 := fun b o n e => k b o n (h b o n e)
theorem Keep.upd {a : Addr} {H H1 : Hp} {o : HO} (h : Keep a H H1) : Keep a H (upd H1 a o) := fun b u n e => by
  rw [upd_ne n]
  exact h b u n e
theorem Keep.new {a p : Addr} {H H1 : Hp} {o : HO} (h : Keep a H H1) (hp : H1 p = none) : Keep a H (L2.upd H1 p o) := fun b u n e => by
  have e1 := h b u n e
  rw [upd_ne (ne_of_none e1 hp)]
  exact e1
theorem Keep.same {a : Addr} {H H1 : Hp} (h : Same H H1) : Keep a H H1 := fun b o _ e => h b o e
theorem Src.new {H : Hp} {a p : Addr} {o : HO} (h : Src H a) (hp : H p = none) : Src (L2.upd H p o) a := by
  obtain ⟨x, y, z, e⟩ := h
  exact ⟨x, y, z, by rw [upd_ne (ne_new e hp)]; exact e⟩
theorem Src.ne {H : Hp} {a p : Addr} (h : Src H a) (hp : H p = none) : p ≠ a := by
  obtain ⟨x, y, z, e⟩ := h
  exact new_ne e hp
structure Txt (mg : Str → Option Value) : Prop where
  b_len : mg "len" = none
  b_int : mg "int" = none
  b_range : mg "range" = none
  b_tuple : mg "tuple" = none
  b_list : mg "list" = none
  b_isinstance : mg "isinstance" = none
  b_bool : mg "bool" = none
  b_str : mg "str" = none
  b_max : mg "max" = none
  b_reversed : mg "reversed" = none
  b_repr : mg "repr" = none
  g_GREATEST : ∃ t, mg "GREATEST" = some (.int 2147483647 t)
  g_DEEPEST : ∃ t, mg "DEEPEST" = some (.int 100 t)
  g_BARRED : ∃ t, mg "BARRED" = some (.int 37 t)
  g_BEGINS : ∃ t, mg "BEGINS" = some (.int 128 t)
  g_GOES_ON : ∃ t, mg "GOES_ON" = some (.int 64 t)
  b_min : mg "min" = none
  g_WITH_LINE : ∃ t, mg "WITH_LINE" = some (.int 232 t)
  g_WITHOUT_LINE : ∃ t, mg "WITHOUT_LINE" = some (.int 248 t)
  g_MOST_UNITS : ∃ t, mg "MOST_UNITS" = some (.int 8 t)
  b_enumerate : mg "enumerate" = none
  b_any : mg "any" = none
  b_zip : mg "zip" = none
  b_sum : mg "sum" = none
def spSrc : Sp := fun vs H Q _ => ∃ n : Int, vs = [.int n] ∧ ∀ p H', H p = none → Same H H' → Src H' p → Q (.ref p) H'
def spNext : Sp := fun vs H Q _ => ∃ (a : Addr) (m : Int), vs = [.ref a, .int m] ∧ Src H a ∧ 0 < m ∧ m < 2 ^ 200 ∧ ∀ (r : Int) H', 0 ≤ r → r < m → Keep a H H' → Src H' a → Q (.int r) H'
def spOne : Sp := fun vs H Q _ => ∃ (a b : Addr) (xs : List V), vs = [.ref a, .ref b] ∧ Src H a ∧ b ≠ a ∧ H b = some (.lst xs) ∧ xs ≠ [] ∧ xs.length ≤ 1000 ∧ ∀ v H', v ∈ xs → Keep a H H' → Src H' a → Q v H'
section
variable {P : Program} {w : World} {K : PySem.W.Frag} {mg : Str → Option Value} {base : Heap} {f : Addr} {fd : FuncData}
abbrev ssource_of : Stmt := top 63
theorem scsource_of : FnScope ["_law_cell"] ["_law_cell"] (defScope ssource_of) := ⟨rfl, rfl, rfl, by decide +kernel, rfl, by decide +kernel, by decide +kernel⟩

abbrev snext : Stmt := top 64
theorem scnext : FnScope ["_law_source", "_law_many", "_law_found", "_law_prime", "_law_number"] ["_law_source", "_law_many"] (defScope snext) := ⟨rfl, rfl, rfl, by decide +kernel, rfl, by decide +kernel, by decide +kernel⟩

abbrev sone : Stmt := top 65
theorem scone : FnScope ["_law_source", "_law_some"] ["_law_source", "_law_some"] (defScope sone) := ⟨rfl, rfl, rfl, by decide +kernel, rfl, by decide +kernel, by decide +kernel⟩

theorem ok_source_of (T : Txt mg) (F : FnP K "_law_source_of" "_law_source_of" ssource_of f fd) : FnOk P w K mg base CX0 1 f fd ["_law_cell"] spSrc := by
  refine F.ok scsource_of (fun vs H Q E h => ?_) (fun cdv A outer s H vs Q E hr h => ?_)
  · obtain ⟨n, rfl, _⟩ := h
    rfl
  · obtain ⟨n, rfl, k⟩ := h
    refine ⟨_, PSs.nox (pss_cons (ps_set (i := 0) scsource_of.nd rfl (Or.inl rfl) (pe_ifExp (pt_cmpR op_ge (pv 0) pe_int (nomark _)) (pv 0) (pe_op op_sub (pe_op op_sub pe_int (pe_op op_mul pe_int (pv 0))) pe_int)))
  (pss_one (ps_ret (pe_lst (pa_cons (pe_op op_mul (pv 0) (pe_callTy call_int1 (by rfl) T.b_int (by decide +kernel) (pa_cons (pe_cmpR op_ge (pv 0) (pe_op op_pow pe_int pe_int) (nomark _)) pa_nil))) (pa_cons (pe_op op_mod (pe_callTy call_int1 (by rfl) T.b_int (by decide +kernel) (pa_cons (pv 0) pa_nil)) pe_int) (pa_cons pe_int pa_nil))))))), ?_⟩
    show (_ : TS) _ [some (.int n)] H
    simp only [r_seq, r_next, r_brk, r_cont, r_asg, r_name, r_ret, r_retN, r_drop, r_ifs, r_never, r_var, r_c, r_op, r_un, r_if, r_tst, r_b, r_not, r_and, r_or, r_andV, r_orV, r_notV, r_nil, r_cons, r_tup, r_lst, r_cb, r_call, r_bm, r_bm0, r_sl, r_nopart, r_part, r_rev, r_gnil, r_gcons, r_gsub, r_par, r_aug, r_chain, r_I0, r_I, r_U, r_ixd, r_lend, r_tupd, r_listd, r_sld, r_app, r_ext, r_reverse, r_setl, r_cat, r_int1, r_eqS, r_neS, scal_ii, scal_bb, scal_ss, at0, at1, at2, sq_lst, sq_tup, isLst_lst, List.getElem?_cons_zero, List.getElem?_cons_succ, List.set_cons_zero, List.set_cons_succ, V.int.injEq, V.bl.injEq, V.ref.injEq, V.str.injEq, HO.lst.injEq, HO.tup.injEq, Option.some.injEq, exists_eq_left', exists_eq_left, List.cons.injEq, and_true, true_and, decide_eq_true_eq, reduceCtorEq, false_and, exists_false, or_false, false_or, exists_const, and_assoc, exists_and_left, List.append_nil, ix0, ix1, ix2, cm_mod, cdw1009, cdw2003, cdw7, cdw64, cdw2, cm104729, cm2, cm3, upd_same, List.length_cons, List.length_nil, Int.reduceLT, Int.reduceLE, Nat.reduceAdd, Nat.reduceLeDiff, Nat.reduceLT, Int.reduceToNat, r_for1, r_forL, r_forT, r_lcL, r_lc1, r_yes, r_gtupD, wipe_0, wipe_1, List.cons_append, List.nil_append, r_forS, r_ipI, ite_false, ite_true, Bool.not_true, Bool.not_false, decide_true, decide_false, r_isd, r_islt, cD_ty, cD_ref, tD_non, tD_bl, tD_int, tD_str, tD_ref, tH_lst, tH_tup, tH_dK, tH_ins, ki_self, ki_int_bool, ki_non_int, ki_str_int, ki_lt_lst, ki_lt_tup, r_fld, r_sfld, HO.ins.injEq, cx_K]
    have k' : ∀ x y z : Int, ∀ p, H p = none → Q (.ref p) (upd H p (.lst [.int x, .int y, .int z])) := fun x y z p hp =>
      k p _ hp (Same.new' (Same.refl H) hp) ⟨x, y, z, upd_same⟩
    have c1 : CPow 10 18 := ⟨by decide, by decide, by decide⟩
    have c2 : ∀ (i : Int) (c : Prop) [Decidable c], CMul i (if c then 1 else 0) := fun i c _ => .inr (by split <;> decide)
    have c3 : CMul 3 n := .inl (by decide)
    exact ite2 (fun _ => ⟨c1, c2 _ _, Nat.le_trans (by decide : 3 ≤ 1000) (by decide), k' _ _ _⟩) (fun _ => ⟨c1, c2 _ _, Nat.le_trans (by decide : 3 ≤ 1000) (by decide), k' _ _ _⟩)
theorem ok_next (T : Txt mg) (F : FnP K "_law_next" "_law_next" snext f fd) : FnOk P w K mg base CX0 1 f fd ["_law_source", "_law_many"] spNext := by
  refine F.ok scnext (fun vs H Q E h => ?_) (fun cdv A outer s H vs Q E hr h => ?_)
  · obtain ⟨a, m, rfl, _⟩ := h
    rfl
  · obtain ⟨a, m, rfl, ⟨x, y, z, hS⟩, m0, m1, k⟩ := h
    refine ⟨_, PSs.nox (pss_cons (ps_if (pt_cmpR op_gt (pe_ix ix_d (pv 0) pe_int (fun _ _ => rfl)) pe_int (nomark _))
    (pss_cons (ps_set (i := 2) scnext.nd rfl (Or.inl rfl) (pe_op op_mod (pe_callTy call_int1 (by rfl) T.b_int (by decide +kernel) (pa_cons (pe_ix ix_d (pv 0) pe_int (fun _ _ => rfl)) pa_nil)) (pv 1)))
  (pss_cons (ps_asg (pe_op op_fdivW (pe_ix ix_d (pv 0) pe_int (fun _ _ => rfl)) (pv 1)) (pg_sub (pv 0) pe_int set_list))
  (pss_one (ps_ret (pv 2)))))
    pss_nil)
  (pss_cons (ps_asg (pe_op op_add (pe_ix ix_d (pv 0) pe_int (fun _ _ => rfl)) pe_int) (pg_sub (pv 0) pe_int set_list))
  (pss_cons (ps_set (i := 3) scnext.nd rfl (Or.inl rfl) pe_int)
  (pss_cons (ps_set (i := 4) scnext.nd rfl (Or.inl rfl) (pe_op op_mod (pe_callTy call_int1 (by rfl) T.b_int (by decide +kernel) (pa_cons (pe_op op_add (pe_op op_add (pe_ix ix_d (pv 0) pe_int (fun _ _ => rfl)) (pe_op op_mul pe_int (pe_ix ix_d (pv 0) pe_int (fun _ _ => rfl)))) pe_int) pa_nil)) (pv 3)))
  (pss_cons (ps_set (i := 4) scnext.nd rfl (Or.inl rfl) (pe_op op_mod (pe_callTy call_int1 (by rfl) T.b_int (by decide +kernel) (pa_cons (pe_op op_mul (pv 4) pe_int) pa_nil)) (pv 3)))
  (pss_cons (ps_set (i := 4) scnext.nd rfl (Or.inl rfl) (pe_op op_mod (pe_callTy call_int1 (by rfl) T.b_int (by decide +kernel) (pa_cons (pe_op op_mul (pv 4) (pe_op op_add (pe_op op_fdivW (pv 4) pe_int) pe_int)) pa_nil)) (pv 3)))
  (pss_cons (ps_set (i := 4) scnext.nd rfl (Or.inl rfl) (pe_op op_mod (pe_callTy call_int1 (by rfl) T.b_int (by decide +kernel) (pa_cons (pe_op op_mul (pv 4) (pe_op op_add (pe_op op_fdivW (pv 4) pe_int) pe_int)) pa_nil)) pe_int))
  (pss_one (ps_ret (pe_op op_mod (pe_callTy call_int1 (by rfl) T.b_int (by decide +kernel) (pa_cons (pe_op op_fdivW (pv 4) pe_int) pa_nil)) (pv 1))))))))))), ?_⟩
    show (_ : TS) _ [some (.ref a), some (.int m), none, none, none] H
    have hC : ∀ i, CDivW i m := fun i => of_eq_true (cdw ⟨m0, m1⟩)
    have kk : ∀ (e : Int) (u v t : Int), Q (.int (e % m)) (upd H a (.lst [.int u, .int v, .int t])) := fun e u v t => k _ _ (Int.emod_nonneg _ (by omega)) (Int.emod_lt_of_pos _ m0) (Keep.upd (Keep.refl a H)) ⟨u, v, t, upd_same⟩
    simp only [r_seq, r_next, r_brk, r_cont, r_asg, r_name, r_ret, r_retN, r_drop, r_ifs, r_never, r_var, r_c, r_op, r_un, r_if, r_tst, r_b, r_not, r_and, r_or, r_andV, r_orV, r_notV, r_nil, r_cons, r_tup, r_lst, r_cb, r_call, r_bm, r_bm0, r_sl, r_nopart, r_part, r_rev, r_gnil, r_gcons, r_gsub, r_par, r_aug, r_chain, r_I0, r_I, r_U, r_ixd, r_lend, r_tupd, r_listd, r_sld, r_app, r_ext, r_reverse, r_setl, r_cat, r_int1, r_eqS, r_neS, scal_ii, scal_bb, scal_ss, at0, at1, at2, sq_lst, sq_tup, isLst_lst, List.getElem?_cons_zero, List.getElem?_cons_succ, List.set_cons_zero, List.set_cons_succ, V.int.injEq, V.bl.injEq, V.ref.injEq, V.str.injEq, HO.lst.injEq, HO.tup.injEq, Option.some.injEq, exists_eq_left', exists_eq_left, List.cons.injEq, and_true, true_and, decide_eq_true_eq, reduceCtorEq, false_and, exists_false, or_false, false_or, exists_const, and_assoc, exists_and_left, List.append_nil, ix0, ix1, ix2, cm_mod, cdw1009, cdw2003, cdw7, cdw64, cdw2, cm104729, cm2, cm3, upd_same, List.length_cons, List.length_nil, Int.reduceLT, Int.reduceLE, Nat.reduceAdd, Nat.reduceLeDiff, Nat.reduceLT, Int.reduceToNat, r_for1, r_forL, r_forT, r_lcL, r_lc1, r_yes, r_gtupD, wipe_0, wipe_1, List.cons_append, List.nil_append, r_forS, r_ipI, ite_false, ite_true, Bool.not_true, Bool.not_false, decide_true, decide_false, r_isd, r_islt, cD_ty, cD_ref, tD_non, tD_bl, tD_int, tD_str, tD_ref, tH_lst, tH_tup, tH_dK, tH_ins, ki_self, ki_int_bool, ki_non_int, ki_str_int, ki_lt_lst, ki_lt_tup, r_fld, r_sfld, HO.ins.injEq, cx_K, hS, m0, hC]
    exact ite2 (fun _ => kk _ _ _ _) (fun _ => kk _ _ _ _)
theorem ok_one (T : Txt mg) (F : FnP K "_law_one" "_law_one" sone f fd) (C_next : Cal P w K mg base 1 "_law_next" ["_law_source", "_law_many"] spNext) : FnOk P w K mg base CX0 2 f fd ["_law_source", "_law_some"] spOne := by
  refine F.ok scone (fun vs H Q E h => ?_) (fun cdv A outer s H vs Q E hr h => ?_)
  · obtain ⟨a, b, xs, rfl, _⟩ := h
    rfl
  · obtain ⟨a, b, xs, rfl, hS, hb, hx, h0, h1, k⟩ := h
    refine ⟨_, PSs.nox (pss_one (ps_ret (pe_ix ix_d (pv 1) (pe_cal C_next (hr.mono (by decide)) rfl (pa_cons (pv 0) (pa_cons (pe_callB call_len_d (by rfl) T.b_len (by decide +kernel) (pa_cons (pv 1) pa_nil)) pa_nil))) (fun _ _ => rfl)))), ?_⟩
    show (_ : TS) _ [some (.ref a), some (.ref b)] H
    simp only [r_seq, r_next, r_brk, r_cont, r_asg, r_name, r_ret, r_retN, r_drop, r_ifs, r_never, r_var, r_c, r_op, r_un, r_if, r_tst, r_b, r_not, r_and, r_or, r_andV, r_orV, r_notV, r_nil, r_cons, r_tup, r_lst, r_cb, r_call, r_bm, r_bm0, r_sl, r_nopart, r_part, r_rev, r_gnil, r_gcons, r_gsub, r_par, r_aug, r_chain, r_I0, r_I, r_U, r_ixd, r_lend, r_tupd, r_listd, r_sld, r_app, r_ext, r_reverse, r_setl, r_cat, r_int1, r_eqS, r_neS, scal_ii, scal_bb, scal_ss, at0, at1, at2, sq_lst, sq_tup, isLst_lst, List.getElem?_cons_zero, List.getElem?_cons_succ, List.set_cons_zero, List.set_cons_succ, V.int.injEq, V.bl.injEq, V.ref.injEq, V.str.injEq, HO.lst.injEq, HO.tup.injEq, Option.some.injEq, exists_eq_left', exists_eq_left, List.cons.injEq, and_true, true_and, decide_eq_true_eq, reduceCtorEq, false_and, exists_false, or_false, false_or, exists_const, and_assoc, exists_and_left, List.append_nil, ix0, ix1, ix2, cm_mod, cdw1009, cdw2003, cdw7, cdw64, cdw2, cm104729, cm2, cm3, upd_same, List.length_cons, List.length_nil, Int.reduceLT, Int.reduceLE, Nat.reduceAdd, Nat.reduceLeDiff, Nat.reduceLT, Int.reduceToNat, r_for1, r_forL, r_forT, r_lcL, r_lc1, r_yes, r_gtupD, wipe_0, wipe_1, List.cons_append, List.nil_append, r_forS, r_ipI, ite_false, ite_true, Bool.not_true, Bool.not_false, decide_true, decide_false, r_isd, r_islt, cD_ty, cD_ref, tD_non, tD_bl, tD_int, tD_str, tD_ref, tH_lst, tH_tup, tH_dK, tH_ins, ki_self, ki_int_bool, ki_non_int, ki_str_int, ki_lt_lst, ki_lt_tup, r_fld, r_sfld, HO.ins.injEq, cx_K, hx]
    have hl : 0 < xs.length := List.length_pos_iff.mpr h0
    refine ⟨a, _, rfl, hS, by omega, by omega, fun r H1 r0 r1 k1 s1 => ?_⟩
    have hx1 := k1 b _ hb hx
    obtain ⟨i, rfl⟩ : ∃ i : Nat, r = i := ⟨r.toNat, by omega⟩
    have hi : i < xs.length := by omega
    have e1 : atI xs (i : Int) = some xs[i] := atn (List.getElem?_eq_getElem hi)
    simp only [r_seq, r_next, r_brk, r_cont, r_asg, r_name, r_ret, r_retN, r_drop, r_ifs, r_never, r_var, r_c, r_op, r_un, r_if, r_tst, r_b, r_not, r_and, r_or, r_andV, r_orV, r_notV, r_nil, r_cons, r_tup, r_lst, r_cb, r_call, r_bm, r_bm0, r_sl, r_nopart, r_part, r_rev, r_gnil, r_gcons, r_gsub, r_par, r_aug, r_chain, r_I0, r_I, r_U, r_ixd, r_lend, r_tupd, r_listd, r_sld, r_app, r_ext, r_reverse, r_setl, r_cat, r_int1, r_eqS, r_neS, scal_ii, scal_bb, scal_ss, at0, at1, at2, sq_lst, sq_tup, isLst_lst, List.getElem?_cons_zero, List.getElem?_cons_succ, List.set_cons_zero, List.set_cons_succ, V.int.injEq, V.bl.injEq, V.ref.injEq, V.str.injEq, HO.lst.injEq, HO.tup.injEq, Option.some.injEq, exists_eq_left', exists_eq_left, List.cons.injEq, and_true, true_and, decide_eq_true_eq, reduceCtorEq, false_and, exists_false, or_false, false_or, exists_const, and_assoc, exists_and_left, List.append_nil, ix0, ix1, ix2, cm_mod, cdw1009, cdw2003, cdw7, cdw64, cdw2, cm104729, cm2, cm3, upd_same, List.length_cons, List.length_nil, Int.reduceLT, Int.reduceLE, Nat.reduceAdd, Nat.reduceLeDiff, Nat.reduceLT, Int.reduceToNat, r_for1, r_forL, r_forT, r_lcL, r_lc1, r_yes, r_gtupD, wipe_0, wipe_1, List.cons_append, List.nil_append, r_forS, r_ipI, ite_false, ite_true, Bool.not_true, Bool.not_false, decide_true, decide_false, r_isd, r_islt, cD_ty, cD_ref, tD_non, tD_bl, tD_int, tD_str, tD_ref, tH_lst, tH_tup, tH_dK, tH_ins, ki_self, ki_int_bool, ki_non_int, ki_str_int, ki_lt_lst, ki_lt_tup, r_fld, r_sfld, HO.ins.injEq, cx_K, hx1, e1]
    exact k _ _ (List.getElem_mem hi) k1 s1
end
end C57

set_option maxHeartbeats 1000000
namespace C57
/-! ### zip of four lists -/
namespace Z4
open PySem PySem.Spec PyProof.Rows L2
section
variable {prog : Program} {w : World} {A : Around} {E : Value → Shared → Prop} {s : Shared}
theorem nn {x y : Nat} (h : x ≠ y) : @Ne Addr x y := h
def Rw (h : Heap) (T : Addr) (ts : Array Value) : Prop := h.get? T = some { cls := .type "tuple", data := .seq ts }
theorem put_rw {T : Addr} {ts : Array Value} {j : Nat} {x : Value} {Q : Unit → Shared → Prop} (hT : Rw s.heap T ts) (sz : ts.size = 4) (q : ∀ g, Rw g T (ts.setIfInBounds j x) → Heap.SameBut T s.heap g → Q () { s with heap := g }) :
    wpAny (model prog w) A (updateSeq T (·.setIfInBounds j x)) Q E s := by
  refine wpAny_updateSeq hT rfl (q _ ?_ (Heap.SameBut.update ..)) (by rw [sz]; decide) (by simp only [Array.size_setIfInBounds]; rw [sz]; decide)
  unfold Rw
  rw [Heap.get?_update_self _ hT rfl]
  simp [Obj.mapSeq]
/-- the four iterators at n .. n + 3, their tuple, the row that is handed out, the zip itself -/
structure St (h : Heap) (n a b c d : Nat) (xa xb xc xd : Array Value) (f0 : Value) (ts : Array Value) (k1 k2 k3 k4 : Nat) : Prop where
  lt : a < n ∧ b < n ∧ c < n ∧ d < n
  z : IsZip h (n + 6) (n + 4) (n + 5) f0
  ti : Rw h (n + 4) #[.ref n, .ref (n + 1), .ref (n + 2), .ref (n + 3)]
  to : Rw h (n + 5) ts
  sz : ts.size = 4
  i1 : h.IsListIter n a k1
  i2 : h.IsListIter (n + 1) b k2
  i3 : h.IsListIter (n + 2) c k3
  i4 : h.IsListIter (n + 3) d k4
  la : h.IsList a xa
  lb : h.IsList b xb
  lc : h.IsList c xc
  ld : h.IsList d xd
variable {h g : Heap} {n a b c d : Nat} {xa xb xc xd : Array Value} {f0 f1 : Value} {ts us : Array Value} {k1 k2 k3 k4 : Nat}
theorem St.zip (S : St h n a b c d xa xb xc xd f0 ts k1 k2 k3 k4) (new : IsZip g (n + 6) (n + 4) (n + 5) f1) (m : Heap.SameBut (n + 6) h g) : St g n a b c d xa xb xc xd f1 ts k1 k2 k3 k4 := by
  have lt := S.lt
  exact ⟨S.lt, new, m.extBut _ _ (nn (by omega)) S.ti, m.extBut _ _ (nn (by omega)) S.to, S.sz, S.i1.extBut m.extBut (nn (by omega)), S.i2.extBut m.extBut (nn (by omega)), S.i3.extBut m.extBut (nn (by omega)), S.i4.extBut m.extBut (nn (by omega)), S.la.extBut m.extBut (nn (by omega)), S.lb.extBut m.extBut (nn (by omega)), S.lc.extBut m.extBut (nn (by omega)), S.ld.extBut m.extBut (nn (by omega))⟩
theorem St.row (S : St h n a b c d xa xb xc xd f0 ts k1 k2 k3 k4) (new : Rw g (n + 5) us) (sz : us.size = 4) (m : Heap.SameBut (n + 5) h g) : St g n a b c d xa xb xc xd f0 us k1 k2 k3 k4 := by
  have lt := S.lt
  exact ⟨S.lt, m.extBut _ _ (nn (by omega)) S.z, m.extBut _ _ (nn (by omega)) S.ti, new, sz, S.i1.extBut m.extBut (nn (by omega)), S.i2.extBut m.extBut (nn (by omega)), S.i3.extBut m.extBut (nn (by omega)), S.i4.extBut m.extBut (nn (by omega)), S.la.extBut m.extBut (nn (by omega)), S.lb.extBut m.extBut (nn (by omega)), S.lc.extBut m.extBut (nn (by omega)), S.ld.extBut m.extBut (nn (by omega))⟩
theorem St.it1 (S : St h n a b c d xa xb xc xd f0 ts k1 k2 k3 k4) (new : g.IsListIter (n) a (k1 + 1)) (m : Heap.SameBut (n) h g) : St g n a b c d xa xb xc xd f0 ts (k1 + 1) k2 k3 k4 := by
  have lt := S.lt
  exact ⟨S.lt, m.extBut _ _ (nn (by omega)) S.z, m.extBut _ _ (nn (by omega)) S.ti, m.extBut _ _ (nn (by omega)) S.to, S.sz, new, S.i2.extBut m.extBut (nn (by omega)), S.i3.extBut m.extBut (nn (by omega)), S.i4.extBut m.extBut (nn (by omega)), S.la.extBut m.extBut (nn (by omega)), S.lb.extBut m.extBut (nn (by omega)), S.lc.extBut m.extBut (nn (by omega)), S.ld.extBut m.extBut (nn (by omega))⟩
theorem St.it2 (S : St h n a b c d xa xb xc xd f0 ts k1 k2 k3 k4) (new : g.IsListIter (n + 1) b (k2 + 1)) (m : Heap.SameBut (n + 1) h g) : St g n a b c d xa xb xc xd f0 ts k1 (k2 + 1) k3 k4 := by
  have lt := S.lt
  exact ⟨S.lt, m.extBut _ _ (nn (by omega)) S.z, m.extBut _ _ (nn (by omega)) S.ti, m.extBut _ _ (nn (by omega)) S.to, S.sz, S.i1.extBut m.extBut (nn (by omega)), new, S.i3.extBut m.extBut (nn (by omega)), S.i4.extBut m.extBut (nn (by omega)), S.la.extBut m.extBut (nn (by omega)), S.lb.extBut m.extBut (nn (by omega)), S.lc.extBut m.extBut (nn (by omega)), S.ld.extBut m.extBut (nn (by omega))⟩
theorem St.it3 (S : St h n a b c d xa xb xc xd f0 ts k1 k2 k3 k4) (new : g.IsListIter (n + 2) c (k3 + 1)) (m : Heap.SameBut (n + 2) h g) : St g n a b c d xa xb xc xd f0 ts k1 k2 (k3 + 1) k4 := by
  have lt := S.lt
  exact ⟨S.lt, m.extBut _ _ (nn (by omega)) S.z, m.extBut _ _ (nn (by omega)) S.ti, m.extBut _ _ (nn (by omega)) S.to, S.sz, S.i1.extBut m.extBut (nn (by omega)), S.i2.extBut m.extBut (nn (by omega)), new, S.i4.extBut m.extBut (nn (by omega)), S.la.extBut m.extBut (nn (by omega)), S.lb.extBut m.extBut (nn (by omega)), S.lc.extBut m.extBut (nn (by omega)), S.ld.extBut m.extBut (nn (by omega))⟩
theorem St.it4 (S : St h n a b c d xa xb xc xd f0 ts k1 k2 k3 k4) (new : g.IsListIter (n + 3) d (k4 + 1)) (m : Heap.SameBut (n + 3) h g) : St g n a b c d xa xb xc xd f0 ts k1 k2 k3 (k4 + 1) := by
  have lt := S.lt
  exact ⟨S.lt, m.extBut _ _ (nn (by omega)) S.z, m.extBut _ _ (nn (by omega)) S.ti, m.extBut _ _ (nn (by omega)) S.to, S.sz, S.i1.extBut m.extBut (nn (by omega)), S.i2.extBut m.extBut (nn (by omega)), S.i3.extBut m.extBut (nn (by omega)), new, S.la.extBut m.extBut (nn (by omega)), S.lb.extBut m.extBut (nn (by omega)), S.lc.extBut m.extBut (nn (by omega)), S.ld.extBut m.extBut (nn (by omega))⟩
theorem St.push (S : St h n a b c d xa xb xc xd f0 ts k1 k2 k3 k4) (o : Obj) : St (h.push o) n a b c d xa xb xc xd f0 ts k1 k2 k3 k4 :=
  ⟨S.lt, Heap.get?_push_of_some _ S.z, Heap.get?_push_of_some _ S.ti, Heap.get?_push_of_some _ S.to, S.sz, S.i1.at fun _ e => Heap.get?_push_of_some _ e, S.i2.at fun _ e => Heap.get?_push_of_some _ e, S.i3.at fun _ e => Heap.get?_push_of_some _ e, S.i4.at fun _ e => Heap.get?_push_of_some _ e, S.la.push _, S.lb.push _, S.lc.push _, S.ld.push _⟩
/-- out of the zip's own objects -/
def Out (n : Nat) (h g : Heap) : Prop := ∀ (y : Nat) (o : Obj), (y < n ∨ n + 6 < y) → h.get? y = some o → g.get? y = some o
theorem Out.but {b : Nat} (hb : n ≤ b ∧ b ≤ n + 6) {h0 : Heap} (k : Out n h0 h) (m : Heap.SameBut b h g) : Out n h0 g := fun y o q e => m.extBut _ _ (nn (by omega)) (k y o q e)
theorem rows4 {u1 u2 u3 u4 : Value} (sz : ts.size = 4) : (((ts.setIfInBounds 0 u1).setIfInBounds 1 u2).setIfInBounds 2 u3).setIfInBounds 3 u4 = #[u1, u2, u3, u4] := by
  obtain ⟨l⟩ := ts
  match l, sz with
  | [_, _, _, _], _ => rfl
theorem next_item {u1 u2 u3 u4 : Value} {Q : Value → Shared → Prop} (S : St s.heap n a b c d xa xb xc xd .none ts k1 k2 k3 k4) (e1 : xa[k1]? = some u1) (e2 : xb[k2]? = some u2) (e3 : xc[k3]? = some u3) (e4 : xd[k4]? = some u4)
    (q : ∀ g, St g n a b c d xa xb xc xd (rawInt s.heap.objs.size) #[u1, u2, u3, u4] (k1 + 1) (k2 + 1) (k3 + 1) (k4 + 1) → Rw g s.heap.objs.size #[u1, u2, u3, u4] → g.objs.size = s.heap.objs.size + 1 → Out n s.heap g → Q (.ref s.heap.objs.size) { s with heap := g }) :
    wpAny (model prog w) A (Builtin.«zip.__next__» ⟨[.ref (n + 6)], []⟩) (fun fin t => ∃ v, fin = .done (.ret v) ∧ Q v t) E s := by
  show wpAny _ _ (field (.ref (n + 6)) 2 >>= _) _ _ _
  refine wpAny_bind (wpAny_field S.z rfl (x := .bool false) rfl ?_)
  show wpAny _ _ (field (.ref (n + 6)) 3 >>= _) _ _ _
  refine wpAny_bind (wpAny_field S.z rfl (x := .ref (n + 4)) rfl ?_)
  refine wpAny_bind (wpAny_seqItems S.ti rfl ?_)
  show wpAny _ _ (Builtin.SmallTypes.ownedTupleIsFree (.ref (n + 6)) >>= _) _ _ _
  refine (wpAny_bind ?_)
  unfold Builtin.SmallTypes.ownedTupleIsFree
  refine wpAny_bind (wpAny_field S.z rfl (x := .none) rfl (wpAny_pure ?_))
  simp only [if_true]
  refine (wpAny_bind (wpAny_rule ?_))
  refine wpAny_bind (wpAny_field S.z rfl (x := .ref (n + 5)) rfl ?_)
  refine wpAny_bind (wpAny_setField_rec S.z (by simp) fun g0 z0 m0 => ?_)
  have S0 : St g0 n a b c d xa xb xc xd .ellipsis ts k1 k2 k3 k4 := S.zip z0 m0
  have K0 : Out n s.heap g0 := Out.but (by omega) (fun _ _ _ e => e) m0
  have Z0 : g0.objs.size = s.heap.objs.size := m0.1
  refine (wpAny_bind ?_)
  simp only [List.zipIdx_cons, List.zipIdx_nil, List.forIn_cons, List.forIn_nil]
  refine (wpAny_bind (wpAny_bind (wpAny_onRaise ?_)))
  show wpAny _ _ (Builtin.SmallTypes.nextOf (.ref n) >>= _) _ _ _
  refine wpAny_bind (wpAny_nextOf_list_item S0.i1 S0.la e1 fun g1 w1 m1 => wpAny_pure ?_)
  have S1 := S0.it1 w1 m1
  refine wpAny_bind (wpAny_seqItems S1.to rfl (wpAny_bind (put_rw S1.to S1.sz fun g2 w2 m2 => ?_)))
  have S2 := S1.row w2 (by simp [S1.sz]) m2
  refine (wpAny_bind (wpAny_letGo (wpAny_pure ?_)))
  have K2 : Out n s.heap g2 := Out.but (by omega) (Out.but (by omega) K0 m1) m2
  have Z2 : g2.objs.size = s.heap.objs.size := by rw [m2.1, m1.1, Z0]
  refine (wpAny_bind (wpAny_bind (wpAny_onRaise ?_)))
  show wpAny _ _ (Builtin.SmallTypes.nextOf (.ref (n + 1)) >>= _) _ _ _
  refine wpAny_bind (wpAny_nextOf_list_item S2.i2 S2.lb e2 fun g3 w3 m3 => wpAny_pure ?_)
  have S3 := S2.it2 w3 m3
  refine wpAny_bind (wpAny_seqItems S3.to rfl (wpAny_bind (put_rw S3.to S3.sz fun g4 w4 m4 => ?_)))
  have S4 := S3.row w4 (by simp [S3.sz]) m4
  refine (wpAny_bind (wpAny_letGo (wpAny_pure ?_)))
  have K4 : Out n s.heap g4 := Out.but (by omega) (Out.but (by omega) K2 m3) m4
  have Z4 : g4.objs.size = s.heap.objs.size := by rw [m4.1, m3.1, Z2]
  refine (wpAny_bind (wpAny_bind (wpAny_onRaise ?_)))
  show wpAny _ _ (Builtin.SmallTypes.nextOf (.ref (n + 2)) >>= _) _ _ _
  refine wpAny_bind (wpAny_nextOf_list_item S4.i3 S4.lc e3 fun g5 w5 m5 => wpAny_pure ?_)
  have S5 := S4.it3 w5 m5
  refine wpAny_bind (wpAny_seqItems S5.to rfl (wpAny_bind (put_rw S5.to S5.sz fun g6 w6 m6 => ?_)))
  have S6 := S5.row w6 (by simp [S5.sz]) m6
  refine (wpAny_bind (wpAny_letGo (wpAny_pure ?_)))
  have K6 : Out n s.heap g6 := Out.but (by omega) (Out.but (by omega) K4 m5) m6
  have Z6 : g6.objs.size = s.heap.objs.size := by rw [m6.1, m5.1, Z4]
  refine (wpAny_bind (wpAny_bind (wpAny_onRaise ?_)))
  show wpAny _ _ (Builtin.SmallTypes.nextOf (.ref (n + 3)) >>= _) _ _ _
  refine wpAny_bind (wpAny_nextOf_list_item S6.i4 S6.ld e4 fun g7 w7 m7 => wpAny_pure ?_)
  have S7 := S6.it4 w7 m7
  refine wpAny_bind (wpAny_seqItems S7.to rfl (wpAny_bind (put_rw S7.to S7.sz fun g8 w8 m8 => ?_)))
  have S8 := S7.row w8 (by simp [S7.sz]) m8
  refine (wpAny_bind (wpAny_letGo (wpAny_pure (wpAny_pure ?_))))
  have K8 : Out n s.heap g8 := Out.but (by omega) (Out.but (by omega) K6 m7) m8
  have Z8 : g8.objs.size = s.heap.objs.size := by rw [m8.1, m7.1, Z6]
  rw [rows4 S.sz] at w8 S8
  refine wpAny_bind (wpAny_seqItems S8.to rfl (wpAny_bind (wpAny_newTuple ?_)))
  have zl : n + 6 < g8.objs.size := Heap.lt_size S8.z
  show wpAny _ _ (Builtin.SmallTypes.ownedTupleHandOut (.ref (n + 6)) (.ref g8.objs.size) >>= _) _ _ _
  refine (wpAny_bind ?_)
  unfold Builtin.SmallTypes.ownedTupleHandOut
  have P8 := S8.push { cls := .type "tuple", data := .seq #[u1, u2, u3, u4] }
  refine wpAny_bind (wpAny_setField_rec P8.z (by simp) fun g9 w9 m9 => ?_)
  have S9 : St g9 n a b c d xa xb xc xd (rawInt g8.objs.size) _ _ _ _ _ := P8.zip w9 m9
  refine wpAny_setField_rec S9.z (by simp) fun g10 w10 m10 => ?_
  have S10 : St g10 n a b c d xa xb xc xd (rawInt g8.objs.size) _ _ _ _ _ := S9.zip w10 m10
  have R8 : Rw (g8.push { cls := .type "tuple", data := .seq #[u1, u2, u3, u4] }) g8.objs.size #[u1, u2, u3, u4] := Heap.get?_push_size _ rfl
  have R10 : Rw g10 g8.objs.size #[u1, u2, u3, u4] := m10.extBut _ _ (nn (by omega)) (m9.extBut _ _ (nn (by omega)) R8)
  have K10 : Out n s.heap g10 := Out.but (by omega) (Out.but (by omega) (fun y o q e => Heap.get?_push_of_some _ (K8 y o q e)) m9) m10
  have Z10 : g10.objs.size = s.heap.objs.size + 1 := by rw [m10.1, m9.1, Heap.size_push, Z8]
  rw [Z8] at S10 R10
  refine wpAny_pure ⟨_, rfl, ?_⟩
  show Q (.ref g8.objs.size) _
  rw [Z8]
  exact q g10 S10 R10 Z10 K10
theorem next_end {Q : Fin → Shared → Prop} (hh : A.handled = none) (S : St s.heap n a b c d xa xb xc xd .none ts k1 k2 k3 k4) (e1 : xa[k1]? = none)
    (q : ∀ g e, Out n s.heap g → (∃ o, g.get? e = some o ∧ o.cls = .type "StopIteration") → E (.ref e) { s with heap := g }) :
    wpAny (model prog w) A (Builtin.«zip.__next__» ⟨[.ref (n + 6)], []⟩) Q E s := by
  show wpAny _ _ (field (.ref (n + 6)) 2 >>= _) _ _ _
  refine wpAny_bind (wpAny_field S.z rfl (x := .bool false) rfl ?_)
  show wpAny _ _ (field (.ref (n + 6)) 3 >>= _) _ _ _
  refine wpAny_bind (wpAny_field S.z rfl (x := .ref (n + 4)) rfl ?_)
  refine wpAny_bind (wpAny_seqItems S.ti rfl ?_)
  show wpAny _ _ (Builtin.SmallTypes.ownedTupleIsFree (.ref (n + 6)) >>= _) _ _ _
  refine (wpAny_bind ?_)
  unfold Builtin.SmallTypes.ownedTupleIsFree
  refine wpAny_bind (wpAny_field S.z rfl (x := .none) rfl (wpAny_pure ?_))
  simp only [if_true]
  refine (wpAny_bind (wpAny_rule ?_))
  refine wpAny_bind (wpAny_field S.z rfl (x := .ref (n + 5)) rfl ?_)
  refine wpAny_bind (wpAny_setField_rec S.z (by simp) fun g0 z0 m0 => ?_)
  have S0 : St g0 n a b c d xa xb xc xd .ellipsis ts k1 k2 k3 k4 := S.zip z0 m0
  have K0 : Out n s.heap g0 := Out.but (by omega) (fun _ _ _ e => e) m0
  have Z0 : g0.objs.size = s.heap.objs.size := m0.1
  refine (wpAny_bind ?_)
  simp only [List.zipIdx_cons, List.zipIdx_nil, List.forIn_cons, List.forIn_nil]
  refine (wpAny_bind (wpAny_bind (wpAny_onRaise ?_)))
  show wpAny _ _ (Builtin.SmallTypes.nextOf (.ref n) >>= _) _ _ _
  refine wpAny_bind (wpAny_nextOf_list_end hh S0.i1 S0.la e1 fun g1 e m1 he => ?_)
  obtain ⟨oe, h1, h2⟩ := he
  have z1 : IsZip g1 (n + 6) (n + 4) (n + 5) .ellipsis := m1 _ _ (nn (by omega)) S0.z
  have ne : e ≠ n + 6 := fun x => by subst x; rw [z1] at h1; cases h1; simp at h2
  exact wpAny_setField_rec z1 (by simp) fun g2 _ m2 => q g2 e (fun y o p x => m2.extBut _ _ (nn (by omega)) (m1 _ _ (nn (by omega)) (K0 y o p x))) ⟨oe, m2.extBut _ _ ne h1, h2⟩
theorem py_item {u1 u2 u3 u4 : Value} {Q : Option Value → Shared → Prop} (S : St s.heap n a b c d xa xb xc xd .none ts k1 k2 k3 k4) (e1 : xa[k1]? = some u1) (e2 : xb[k2]? = some u2) (e3 : xc[k3]? = some u3) (e4 : xd[k4]? = some u4)
    (q : ∀ g, St g n a b c d xa xb xc xd (rawInt s.heap.objs.size) #[u1, u2, u3, u4] (k1 + 1) (k2 + 1) (k3 + 1) (k4 + 1) → Rw g s.heap.objs.size #[u1, u2, u3, u4] → g.objs.size = s.heap.objs.size + 1 → Out n s.heap g → Q (some (.ref s.heap.objs.size)) { s with heap := g }) :
    wpAny (model prog w) A (pyNext (.ref (n + 6))) Q E s := by
  have ty : s.TypeIs (.ref (n + 6)) "zip" := ⟨_, S.z, rfl⟩
  unfold pyNext
  exact wpAny_bind (wpAny_attempt (wpAny_callSpecial?_slot (name := Str.ofString "__next__") ty F.slot_zip_next (wpAny_call_entry F.slot_zip_next ty F.entry_zip_next (next_item S e1 e2 e3 e4 fun g p1 p2 p3 p4 => wpAny_pure (q g p1 p2 p3 p4)) (F.args_zip_next_1 _))))
theorem py_end {Q : Option Value → Shared → Prop} (hh : A.handled = none) (S : St s.heap n a b c d xa xb xc xd .none ts k1 k2 k3 k4) (e1 : xa[k1]? = none) (q : ∀ g, Out n s.heap g → Q none { s with heap := g }) : wpAny (model prog w) A (pyNext (.ref (n + 6))) Q E s := by
  have ty : s.TypeIs (.ref (n + 6)) "zip" := ⟨_, S.z, rfl⟩
  unfold pyNext
  refine wpAny_bind (wpAny_attempt (wpAny_callSpecial?_slot (name := Str.ofString "__next__") ty F.slot_zip_next (wpAny_call_entry F.slot_zip_next ty F.entry_zip_next (next_end hh S e1 fun g e k he => ?_) (F.args_zip_next_1 _))))
  obtain ⟨oe, h1, h2⟩ := he
  exact wpAny_bind (wpAny_isInstance (T := "StopIteration") (b := true) ⟨oe, h1, h2⟩ isSubtype_stop (wpAny_pure (q g k)))
end
end Z4

namespace Z4
open PySem PySem.Spec PyProof.Rows L2
theorem zip_type (u v x y : Value) : checkTypeCall "zip" ⟨[u, v, x, y], []⟩ = pure () := by kernel_rfl
theorem zip_new (u v x y : Value) : checkBuiltinCall "zip.__new__" ⟨[.type "zip", u, v, x, y], []⟩ = pure () := by kernel_rfl
theorem obj_init5 (u v x y z : Value) : argsOk "object.__init__" ⟨[u, v, x, y, z], []⟩ := by
  unfold argsOk
  rw [signature?_of (id := "object.__init__") (n := "__tini__".toList) (o := "tcejbo".toList) (by kernel_rfl) F.owner_object]
  kernel_rfl
abbrev itO (a : Addr) : Obj := { cls := .type "list_iterator", data := .fields #[.ref a, .int 0 0] }
abbrev g1 (h : Heap) (a : Addr) : Heap := h.push (itO a)
abbrev g2 (h : Heap) (a b : Addr) : Heap := (g1 h a).push (itO b)
abbrev g3 (h : Heap) (a b c : Addr) : Heap := (g2 h a b).push (itO c)
abbrev g4 (h : Heap) (a b c d : Addr) : Heap := (g3 h a b c).push (itO d)
abbrev g5 (h : Heap) (a b c d : Addr) : Heap := (g4 h a b c d).push { cls := .type "tuple", data := .seq #[.ref h.objs.size, .ref (g1 h a).objs.size, .ref (g2 h a b).objs.size, .ref (g3 h a b c).objs.size] }
abbrev g6 (h : Heap) (a b c d : Addr) : Heap := (g5 h a b c d).push { cls := .type "tuple", data := .seq #[.none, .none, .none, .none] }
abbrev g7 (h : Heap) (a b c d : Addr) : Heap := (g6 h a b c d).push { cls := .type "zip", data := .fields #[.none, .bool false, .bool false, .ref (g4 h a b c d).objs.size, .ref (g5 h a b c d).objs.size] }
theorem meets4 (a b c d : Addr) (xa xb xc xd : Array Value) :
    Meets (Builtin.«zip.__new__» ⟨[.type "zip", .ref a, .ref b, .ref c, .ref d], []⟩) (fun _ R s => s.heap.IsList a xa ∧ s.heap.IsList b xb ∧ s.heap.IsList c xc ∧ s.heap.IsList d xd ∧ R (.ok (.ret (.ref (g6 s.heap a b c d).objs.size))) { s with heap := g7 s.heap a b c d }) :=
  .of_wp fun prog w A R s h => by
    obtain ⟨hp, g, dr, tk, os⟩ := s
    obtain ⟨h1, h2, h3, h4, h⟩ := h
    have hsub := sub_zip
    have p1 : Heap.IsList (Shared.heap ⟨hp, g, dr, tk, os⟩) a xa := h1
    have p2 : Heap.IsList (Shared.heap ⟨g1 hp a, g, dr, tk, os⟩) b xb := Heap.IsList.push h2 _
    have p3 : Heap.IsList (Shared.heap ⟨g2 hp a b, g, dr, tk, os⟩) c xc := Heap.IsList.push (Heap.IsList.push h3 _) _
    have p4 : Heap.IsList (Shared.heap ⟨g3 hp a b c, g, dr, tk, os⟩) d xd := Heap.IsList.push (Heap.IsList.push (Heap.IsList.push h4 _) _) _
    wp_walk using wpAny_pyIter_list p1, wpAny_pyIter_list p2, wpAny_pyIter_list p3, wpAny_pyIter_list p4
    exact ⟨_, rfl, h⟩
section
variable {prog : Program} {w : World} {A : Around} {E : Value → Shared → Prop} {s : Shared}
theorem call4 {a b c d : Addr} {xa xb xc xd : Array Value} {Q : Value → Shared → Prop} (h1 : s.heap.IsList a xa) (h2 : s.heap.IsList b xb) (h3 : s.heap.IsList c xc) (h4 : s.heap.IsList d xd)
    (q : ∀ g, St g s.heap.objs.size a b c d xa xb xc xd .none #[.none, .none, .none, .none] 0 0 0 0 → (∀ y o, s.heap.get? y = some o → g.get? y = some o) → Q (.ref (s.heap.objs.size + 6)) { s with heap := g }) :
    wpAny (model prog w) A (call (.type "zip") [.ref a, .ref b, .ref c, .ref d]) Q E s := by
  refine callType_new F.called_zip (by decide) (zip_type _ _ _ _) (zip_new _ _ _ _) (fun _ => obj_init5 _ _ _ _ _) F.entry_zip_new (meets4 a b c d xa xb xc xd) ⟨h1, h2, h3, h4, ?_⟩
  have y1 : (g1 s.heap a).objs.size = s.heap.objs.size + 1 := Heap.size_push ..
  have y2 : (g2 s.heap a b).objs.size = s.heap.objs.size + 2 := by rw [Heap.size_push, y1]
  have y3 : (g3 s.heap a b c).objs.size = s.heap.objs.size + 3 := by rw [Heap.size_push, y2]
  have y4 : (g4 s.heap a b c d).objs.size = s.heap.objs.size + 4 := by rw [Heap.size_push, y3]
  have y5 : (g5 s.heap a b c d).objs.size = s.heap.objs.size + 5 := by rw [Heap.size_push, y4]
  have y6 : (g6 s.heap a b c d).objs.size = s.heap.objs.size + 6 := by rw [Heap.size_push, y5]
  have u7 : ∀ {y o}, (g6 s.heap a b c d).get? y = some o → (g7 s.heap a b c d).get? y = some o := fun e => Heap.get?_push_of_some _ e
  have u6 : ∀ {y o}, (g5 s.heap a b c d).get? y = some o → (g7 s.heap a b c d).get? y = some o := fun e => u7 (Heap.get?_push_of_some _ e)
  have u5 : ∀ {y o}, (g4 s.heap a b c d).get? y = some o → (g7 s.heap a b c d).get? y = some o := fun e => u6 (Heap.get?_push_of_some _ e)
  have u4 : ∀ {y o}, (g3 s.heap a b c).get? y = some o → (g7 s.heap a b c d).get? y = some o := fun e => u5 (Heap.get?_push_of_some _ e)
  have u3 : ∀ {y o}, (g2 s.heap a b).get? y = some o → (g7 s.heap a b c d).get? y = some o := fun e => u4 (Heap.get?_push_of_some _ e)
  have u2 : ∀ {y o}, (g1 s.heap a).get? y = some o → (g7 s.heap a b c d).get? y = some o := fun e => u3 (Heap.get?_push_of_some _ e)
  have u1 : ∀ {y o}, s.heap.get? y = some o → (g7 s.heap a b c d).get? y = some o := fun e => u2 (Heap.get?_push_of_some _ e)
  have f7 : (g7 s.heap a b c d).get? (g6 s.heap a b c d).objs.size = some _ := Heap.get?_push_size _ rfl
  have f6 := u7 (Heap.get?_push_size (g5 s.heap a b c d) (o := { cls := .type "tuple", data := .seq #[.none, .none, .none, .none] }) rfl)
  have f5 := u6 (Heap.get?_push_size (g4 s.heap a b c d) (o := { cls := .type "tuple", data := .seq #[.ref s.heap.objs.size, .ref (g1 s.heap a).objs.size, .ref (g2 s.heap a b).objs.size, .ref (g3 s.heap a b c).objs.size] }) rfl)
  have f4 := u5 (Heap.get?_push_size (g3 s.heap a b c) (o := itO d) rfl)
  have f3 := u4 (Heap.get?_push_size (g2 s.heap a b) (o := itO c) rfl)
  have f2 := u3 (Heap.get?_push_size (g1 s.heap a) (o := itO b) rfl)
  have f1 := u2 (Heap.get?_push_size s.heap (o := itO a) rfl)
  have lt : ∀ {y : Addr} {xs : Array Value}, s.heap.IsList y xs → (show Nat from y) < s.heap.objs.size := fun ⟨_, e, _⟩ => Heap.lt_size e
  show _ ∧ _
  rw [y4, y5, y6] at f7
  rw [y4, y1, y2, y3] at f5
  rw [y5] at f6
  rw [y3] at f4
  rw [y2] at f3
  rw [y1] at f2
  rw [y6]
  have keepL : ∀ {y : Addr} {xs : Array Value}, s.heap.IsList y xs → (g7 s.heap a b c d).IsList y xs := fun ⟨o, e, r⟩ => ⟨o, u1 e, r⟩
  exact ⟨⟨_, f7, rfl⟩, q _ ⟨⟨lt h1, lt h2, lt h3, lt h4⟩, f7, f5, f6, rfl, ⟨_, f1, rfl, rfl⟩, ⟨_, f2, rfl, rfl⟩, ⟨_, f3, rfl, rfl⟩, ⟨_, f4, rfl, rfl⟩, keepL h1, keepL h2, keepL h3, keepL h4⟩ fun y o e => u1 e⟩
end
end Z4

namespace Z4
open PySem PySem.Spec PyProof.Rows L2
/-- the four lists as they stand at each turn, the items in new rows -/
def It4 (K : PySem.W.Frag) (a b c d : Addr) : It :=
  ⟨fun i H => ∃ (xs ys zs ws : List V) (x y z w : V), (SqL K H a xs ∧ SqL K H b ys ∧ SqL K H c zs ∧ SqL K H d ws) ∧ xs[i]? = some x ∧ ys[i]? = some y ∧ zs[i]? = some z ∧ ws[i]? = some w,
    fun i H v H' => ∃ T x y z w, v = .ref T ∧ H T = none ∧ H' = upd H T (.tup [x, y, z, w]) ∧ (∀ xs, SqL K H a xs → xs[i]? = some x) ∧ (∀ xs, SqL K H b xs → xs[i]? = some y) ∧ (∀ xs, SqL K H c xs → xs[i]? = some z) ∧ ∀ xs, SqL K H d xs → xs[i]? = some w,
    fun i H => ∃ xs ys zs ws : List V, (SqL K H a xs ∧ SqL K H b ys ∧ SqL K H c zs ∧ SqL K H d ws) ∧ xs.length ≤ i⟩
structure St0 (n a b c d : Nat) (k : Nat) (h : Heap) : Prop where
  z : IsZip h (n + 6) (n + 4) (n + 5) .none
  ti : Rw h (n + 4) #[.ref n, .ref (n + 1), .ref (n + 2), .ref (n + 3)]
  to : ∃ ts, Rw h (n + 5) ts ∧ ts.size = 4
  i1 : h.IsListIter n a k
  i2 : h.IsListIter (n + 1) b k
  i3 : h.IsListIter (n + 2) c k
  i4 : h.IsListIter (n + 3) d k
abbrev fp7 (n : Nat) : List Addr := [n + 6, n + 4, n + 5, n, n + 1, n + 2, n + 3]
theorem out7 {n c : Nat} (h : c ∉ fp7 n) : c < n ∨ n + 6 < c := by
  simp only [fp7, List.mem_cons, List.not_mem_nil, or_false, not_or] at h
  obtain ⟨h0, h1, h2, h3, h4, h5, h6⟩ := h
  have q : ∀ {x y : Nat}, ¬ @Eq Addr x y → x ≠ y := fun h => h
  have := q h0
  have := q h1
  have := q h2
  have := q h3
  have := q h4
  have := q h5
  have := q h6
  omega
theorem iter_obj {h : Heap} {i l : Addr} {k : Nat} (S : h.IsListIter i l k) : ∃ o, h.get? i = some o ∧ ∀ v, o.data ≠ .cell v := by
  obtain ⟨o, e, _, e2⟩ := S
  exact ⟨o, e, fun v q => by rw [e2] at q; cases q⟩
theorem St0.obj {n a b c d k : Nat} {h : Heap} (S : St0 n a b c d k h) : ∀ y ∈ fp7 n, ∃ o, h.get? y = some o ∧ ∀ v, o.data ≠ .cell v := by
  intro y hy
  obtain ⟨ts, e, _⟩ := S.to
  simp only [fp7, List.mem_cons, List.not_mem_nil, or_false] at hy
  rcases hy with rfl | rfl | rfl | rfl | rfl | rfl | rfl
  · exact ⟨_, S.z, fun v q => nomatch q⟩
  · exact ⟨_, S.ti, fun v q => nomatch q⟩
  · exact ⟨_, e, fun v q => nomatch q⟩
  · exact iter_obj S.i1
  · exact iter_obj S.i2
  · exact iter_obj S.i3
  · exact iter_obj S.i4
theorem St0.keep {n a b c d k : Nat} {h g : Heap} (S : St0 n a b c d k h) (q : ∀ y ∈ fp7 n, ∀ o, h.get? y = some o → g.get? y = some o) : St0 n a b c d k g := by
  obtain ⟨ts, e, sz⟩ := S.to
  exact ⟨q _ (by simp) _ S.z, q _ (by simp) _ S.ti, ⟨ts, q _ (by simp) _ e, sz⟩, S.i1.at fun o => q _ (by simp) o, S.i2.at fun o => q _ (by simp) o, S.i3.at fun o => q _ (by simp) o, S.i4.at fun o => q _ (by simp) o⟩
theorem turn4 {P : Program} {w : World} {K : PySem.W.Frag} {elts : List Expr} {kk : Nat} {tpos : Pos} {n a b c d : Nat} (lt : a < n ∧ b < n ∧ c < n ∧ d < n) : Turn P w K (.Tuple elts kk tpos) (It4 K a b c d) (fp7 n) (n + 6) (St0 n a b c d) where
  mem := by simp
  obj := fun i h st => St0.obj st
  keep := fun i h h' st k => St0.keep st k
  item := by
    intro X hP hw hK hc i pins s σ H E I hf st hg
    subst hP hw hK
    obtain ⟨xs, ys, zs, ws, x, y, z, v, ⟨q1, q2, q3, q4⟩, e1, e2, e3, e4⟩ := hg
    obtain ⟨t1, v1, p1, _⟩ := I.list q1
    obtain ⟨t2, v2, p2, _⟩ := I.list q2
    obtain ⟨t3, v3, p3, _⟩ := I.list q3
    obtain ⟨t4, v4, p4, _⟩ := I.list q4
    obtain ⟨u1, f1, r1⟩ := v1.get e1
    obtain ⟨u2, f2, r2⟩ := v2.get e2
    obtain ⟨u3, f3, r3⟩ := v3.get e3
    obtain ⟨u4, f4, r4⟩ := v4.get e4
    obtain ⟨ts, et, sz⟩ := st.to
    have S : St s.heap n a b c d t1.toArray t2.toArray t3.toArray t4.toArray .none ts i i i i := ⟨lt, st.z, st.ti, et, sz, st.i1, st.i2, st.i3, st.i4, p1.isList, p2.isList, p3.isList, p4.isList⟩
    have zl : n + 6 < s.heap.objs.size := Heap.lt_size st.z
    refine py_item S (u1 := u1) (u2 := u2) (u3 := u3) (u4 := u4) (by simpa using f1) (by simpa using f2) (by simpa using f3) (by simpa using f4) fun g S1 R1 Z1 K1 => ?_
    refine ⟨_, rfl, wpAny_letOwnedTupleGo_zip (s := { s with heap := g }) S1.z fun g2 z2 m2 => ?_⟩
    have S2 := S1.zip z2 m2
    have R2 : Rw g2 s.heap.objs.size #[u1, u2, u3, u4] := m2.extBut _ _ (nn (by omega)) R1
    have new : ObjOk X.prog X.w (upd H s.heap.objs.size (.tup [x, y, z, v])) g2 s.heap.objs.size (.tup [x, y, z, v]) := ⟨by show 4 ≤ sizeLine; decide, [u1, u2, u3, u4], .cons r1 (.cons r2 (.cons r3 (.cons r4 .nil))), ⟨_, R2, rfl, _, rfl⟩⟩
    have I1 : Inv X pins σ (upd H s.heap.objs.size (.tup [x, y, z, v])) { s with heap := g2 } :=
      I.turnedNew (t' := s.toks) (ch := fp7 n) (fun y o hb q => (m2.2 y (fun e => hb (by rw [e]; simp))).trans (K1 y o (out7 hb) q)) hf (Nat.le_refl _) new
    refine ⟨.ref s.heap.objs.size, _, I1, rfl, ⟨_, x, y, z, v, rfl, I.hok.fresh (Nat.le_refl _), rfl, fun l hl => by rw [I.list_inj hl q1]; exact e1, fun l hl => by rw [I.list_inj hl q2]; exact e2, fun l hl => by rw [I.list_inj hl q3]; exact e3, fun l hl => by rw [I.list_inj hl q4]; exact e4⟩, ⟨S2.z, S2.ti, ⟨_, S2.to, S2.sz⟩, S2.i1, S2.i2, S2.i3, S2.i4⟩, fun y hy => ?_⟩
    obtain ⟨o, e, _⟩ := St0.obj st y hy
    rw [upd_ne (Nat.ne_of_lt (Heap.lt_size e))]
    exact (hf y hy).1
  done := by
    intro X hP hw hK hc i pins s σ H E I hf st hg
    subst hP hw hK
    obtain ⟨xs, ys, zs, ws, ⟨q1, q2, q3, q4⟩, e1⟩ := hg
    obtain ⟨t1, v1, p1, _⟩ := I.list q1
    obtain ⟨t2, v2, p2, _⟩ := I.list q2
    obtain ⟨t3, v3, p3, _⟩ := I.list q3
    obtain ⟨t4, v4, p4, _⟩ := I.list q4
    obtain ⟨ts, et, sz⟩ := st.to
    have S : St s.heap n a b c d t1.toArray t2.toArray t3.toArray t4.toArray .none ts i i i i := ⟨lt, st.z, st.ti, et, sz, st.i1, st.i2, st.i3, st.i4, p1.isList, p2.isList, p3.isList, p4.isList⟩
    have l1 := v1.length
    exact py_end (I.ok.hd hc) S (by simp; omega) fun g k => ⟨rfl, I.turnedL (t' := s.toks) (ch := fp7 n) (fun y o hb q => k y o (out7 hb) q) hf⟩
  self := fun A i s Q E st h => wpAny_pyIter_zip st.z h
def iZip4 (K : PySem.W.Frag) (ta : TA) : TI := fun σ H R => ta σ H fun vs H1 => ∃ a b c d xs ys zs ws, vs = [.ref a, .ref b, .ref c, .ref d] ∧ SqL K H1 a xs ∧ SqL K H1 b ys ∧ SqL K H1 c zs ∧ SqL K H1 d ws ∧ R (It4 K a b c d) H1
theorem pi_zip4 {X : Cx} {e1 e2 e3 e4 : Expr} {ta : TA} {p pos tpos : Pos} {elts : List Expr} {kk : Nat} (hg : Gl X "zip") (hm : X.mg "zip" = none) (ha : PA X [e1, e2, e3, e4] ta)
    (hs : starEach [e1, e2, e3, e4] X.env = (false, eval e1 X.env) :: starEach [e2, e3, e4] X.env := by rfl) (hpl : (backTo pos (starEach [e2, e3, e4] X.env)).any (·.1) = false := by rfl) :
    PI X (.Tuple elts kk tpos) (.Call (.Name "zip" p) [e1, e2, e3, e4] [] pos) (iZip4 X.K ta) := by
  refine ⟨fun pins s σ H R I h => ?_⟩
  refine Call_ (ld_blt I hg hm PyProof.Rows.boot_zip (PyProof.Rows.callWith_type1 (thn (ha.run pos pins s σ H _ I h) fun us s1 ⟨vs, H1, I1, r1, q⟩ => ?_) hs hpl))
  obtain ⟨a, b, c, d, xs, ys, zs, ws, ex, q1, q2, q3, q4, q⟩ := q
  subst ex
  cases r1 with
  | cons r1 rr =>
  cases rr with
  | cons r2 rr =>
  cases rr with
  | cons r3 rr =>
  cases rr with
  | cons r4 rr =>
  cases rr
  cases r1
  cases r2
  cases r3
  cases r4
  obtain ⟨t1, v1, p1, _⟩ := I1.list q1
  obtain ⟨t2, v2, p2, _⟩ := I1.list q2
  obtain ⟨t3, v3, p3, _⟩ := I1.list q3
  obtain ⟨t4, v4, p4, _⟩ := I1.list q4
  refine call4 p1.isList p2.isList p3.isList p4.isList fun g S k => wpAny_pyIter_zip S.z ?_
  have I2 : Inv X pins σ H1 { s1 with heap := g } := I1.kept (t' := s1.toks) k
  refine ⟨s1.heap.objs.size + 6, fp7 s1.heap.objs.size, _, _, H1, rfl, I2, turn4 S.lt, ⟨S.z, S.ti, ⟨_, S.to, S.sz⟩, S.i1, S.i2, S.i3, S.i4⟩, fun y hy => ?_, q⟩
  have le : s1.heap.objs.size ≤ y := by
    simp only [fp7, List.mem_cons, List.not_mem_nil, or_false] at hy
    rcases hy with rfl | rfl | rfl | rfl | rfl | rfl | rfl
    · exact Nat.le_add_right _ _
    · exact Nat.le_add_right _ _
    · exact Nat.le_add_right _ _
    · exact Nat.le_refl _
    · exact Nat.le_add_right _ _
    · exact Nat.le_add_right _ _
    · exact Nat.le_add_right _ _
  exact I1.fpOk le (I1.hok.fresh le)
end Z4

end C57

set_option maxHeartbeats 1000000
namespace C57
open PySem PySem.Spec PyProof.Rows L2
/-! ### a loop over zip of four lists -/
theorem lp_zip4 {K : PySem.W.Frag} {a b c d : Addr} {xs ys zs ws : List V} {g : TG} {tb : TS} {D : Ends} {σ : L2.St} {H : Hp} (l1 : ys.length = xs.length) (l2 : zs.length = xs.length) (l3 : ws.length = xs.length) (Pv : Nat → L2.St → Hp → Prop) (h0 : Pv 0 σ H)
    (hq : ∀ i σ H, Pv i σ H → SqL K H a xs ∧ SqL K H b ys ∧ SqL K H c zs ∧ SqL K H d ws)
    (hs : ∀ (i : Nat) (h : i < xs.length) (T : Addr) (σ : L2.St) (H : Hp), Pv i σ H → H T = none → g (.ref T) σ (L2.upd H T (.tup [xs[i], ys[i]'(by omega), zs[i]'(by omega), ws[i]'(by omega)])) fun σ2 H2 => tb { D with nx := Pv (i + 1), ct := Pv (i + 1), bk := D.nx } σ2 H2) (hd : ∀ σ H, Pv xs.length σ H → D.nx σ H) :
    LoopR (Z4.It4 K a b c d) g tb D σ H := by
  refine ⟨fun i m σ H => m = xs.length - i ∧ i ≤ xs.length ∧ Pv i σ H, ⟨_, rfl, Nat.zero_le _, h0⟩, ?_⟩
  rintro i m σ H ⟨rfl, hi, p⟩
  obtain ⟨q1, q2, q3, q4⟩ := hq i σ H p
  by_cases lt : i < xs.length
  · have e1 : xs[i]? = some xs[i] := List.getElem?_eq_getElem lt
    have e2 : ys[i]? = some (ys[i]'(by omega)) := List.getElem?_eq_getElem (by omega)
    have e3 : zs[i]? = some (zs[i]'(by omega)) := List.getElem?_eq_getElem (by omega)
    have e4 : ws[i]? = some (ws[i]'(by omega)) := List.getElem?_eq_getElem (by omega)
    refine .inr ⟨⟨xs, ys, zs, ws, _, _, _, _, ⟨q1, q2, q3, q4⟩, e1, e2, e3, e4⟩, Pv (i + 1), fun σ' H' p' => ⟨_, by omega, rfl, lt, p'⟩, fun v H' y => ?_⟩
    obtain ⟨T, x', y', z', w', rfl, hT, rfl, f1, f2, f3, f4⟩ := y
    obtain rfl : x' = xs[i] := Option.some.inj ((f1 _ q1).symm.trans e1)
    obtain rfl : y' = ys[i]'(by omega) := Option.some.inj ((f2 _ q2).symm.trans e2)
    obtain rfl : z' = zs[i]'(by omega) := Option.some.inj ((f3 _ q3).symm.trans e3)
    obtain rfl : w' = ws[i]'(by omega) := Option.some.inj ((f4 _ q4).symm.trans e4)
    exact hs i lt T σ H p hT
  · have e : i = xs.length := by omega
    subst e
    exact .inl ⟨⟨xs, ys, zs, ws, ⟨q1, q2, q3, q4⟩, Nat.le_refl _⟩, hd σ H p⟩
theorem r_forZ {K : PySem.W.Frag} {ta : TA} {g : TG} {tb : TS} {D : Ends} {σ : L2.St} {H : Hp} : tFor (Z4.iZip4 K ta) g tb D σ H = ta σ H (fun vs H1 => ∃ a b c d xs ys zs ws, vs = [.ref a, .ref b, .ref c, .ref d] ∧ SqL K H1 a xs ∧ SqL K H1 b ys ∧ SqL K H1 c zs ∧ SqL K H1 d ws ∧ LoopR (Z4.It4 K a b c d) g tb D σ H1) := rfl
/-! ### a written dict of the module with whole-number keys -/
def keyI (e : DictEntry) : Option (Int × Value) := match e.key with
  | .int i _ => if e.hash = hashInt i then some (i, e.val) else none
  | _ => none
structure IDict (K : PySem.W.Frag) (d : Addr) (L : List (Int × Value)) : Prop where
  ex : ∃ es n, K.lookup d = some ⟨.type "dict", none, .dict es n, #[]⟩ ∧ es.toList.map keyI = L.map some
  low : (d == sysModules) = false
def getI (L : List (Int × Value)) (k : Int) : Option Value := (L.find? fun p => decide (p.1 = k)).map (·.2)
theorem keyI_ok {e : DictEntry} {i : Int} {v : Value} (h : keyI e = some (i, v)) : (∃ t, e.key = .int i t) ∧ e.hash = hashInt i ∧ e.val = v := by
  unfold keyI at h
  split at h
  · rename_i j t q
    split at h
    · rename_i hh
      cases h
      exact ⟨⟨t, q⟩, hh, rfl⟩
    · cases h
  · cases h
theorem keysI : ∀ {l : List DictEntry} {L : List (Int × Value)}, l.map keyI = L.map some → (∀ e ∈ l, ∃ k, Value.isInt k e.key = true ∧ e.hash = hashInt k) ∧ ∀ k, (l.find? fun e => Value.isInt k e.key).map (·.val) = getI L k
  | [], [], _ => ⟨(fun e h => by cases h), fun k => rfl⟩
  | [], _ :: _, h => by cases h
  | _ :: _, [], h => by cases h
  | e :: l, (i, v) :: L, h => by
    have h1 : keyI e :: l.map keyI = some (i, v) :: L.map some := h
    injection h1 with h2 h3
    obtain ⟨⟨t, q⟩, hh, ev⟩ := keyI_ok h2
    obtain ⟨g1, g2⟩ := keysI h3
    have ki : ∀ k : Int, Value.isInt k e.key = decide (i = k) := fun k => by
      rw [q]
      by_cases c : i = k
      · subst c
        simp [Value.isInt]
      · simp [Value.isInt, c]
        try omega
    refine ⟨fun x hx => ?_, fun k => ?_⟩
    · rcases List.mem_cons.mp hx with rfl | hx
      · exact ⟨i, by rw [ki]; exact decide_eq_true rfl, hh⟩
      · exact g1 x hx
    · unfold getI
      rw [List.find?_cons, List.find?_cons, ki]
      by_cases c : i = k
      · rw [decide_eq_true c]
        show some e.val = some v
        rw [ev]
      · rw [decide_eq_false c]
        exact g2 k
theorem IDict.mapOf {prog : Program} {w : World} {K : PySem.W.Frag} {d : Addr} {L : List (Int × Value)} {h : Heap} (D : IDict K d L) (X : K.In h) : h.MapOf (intKind prog w) d (getI L) := by
  obtain ⟨es, n, hl, e⟩ := D.ex
  obtain ⟨l⟩ := es
  obtain ⟨g1, g2⟩ := keysI (show l.map keyI = L.map some from e)
  refine ⟨_, ⟨l⟩, n, X _ _ hl, ⟨rfl, rfl, rfl⟩, rfl, fun x hx => g1 x (by simpa using hx), fun k => ?_⟩
  unfold findBy
  rw [List.find?_toArray]
  exact g2 k
section
variable {X : Cx} {d : Addr} {L : List (Int × Value)}
def rInI (d : Addr) (L : List (Int × Value)) : R2 := fun x y H Q => ∃ k, x = .int k ∧ y = .ref d ∧ Q (.bl (getI L k).isSome) H
def rNiI (d : Addr) (L : List (Int × Value)) : R2 := fun x y H Q => ∃ k, x = .int k ∧ y = .ref d ∧ Q (.bl (!(getI L k).isSome)) H
def rIxI (d : Addr) (L : List (Int × Value)) : R2 := fun x y H Q => ∃ (k : Int) (u : Value) (v : V), x = .ref d ∧ y = .int k ∧ getI L k = some u ∧ RelV v u ∧ Q v H
theorem op_inI (D : IDict X.K d L) : OpR X (compareOp .In) (rInI d L) := by
  intro pins s σ H x y v u Q I rx ry h
  obtain ⟨k, rfl, rfl, q⟩ := h
  obtain ⟨t, rfl⟩ := rx
  cases ry
  exact wpAny_in_of (PySem.intKind_is X.prog X.w k t) D.low (D.mapOf I.kIn) ⟨.bl (getI L k).isSome, H, I.tok _, rfl, q⟩
theorem op_niI (D : IDict X.K d L) : OpR X (compareOp .NotIn) (rNiI d L) := by
  intro pins s σ H x y v u Q I rx ry h
  obtain ⟨k, rfl, rfl, q⟩ := h
  obtain ⟨t, rfl⟩ := rx
  cases ry
  exact wpAny_notIn_of (PySem.intKind_is X.prog X.w k t) D.low (D.mapOf I.kIn) ⟨.bl (!(getI L k).isSome), H, I.tok _, rfl, q⟩
theorem ix_I (D : IDict X.K d L) : IxR X (rIxI d L) := by
  intro value slice pins s σ H x y v u Q I rx ry h hs
  obtain ⟨k, z, r, rfl, rfl, e, ru, q⟩ := h
  obtain rfl : v = Value.ref d := rx
  obtain ⟨t, rfl⟩ := ry
  have hm := D.mapOf (prog := X.prog) (w := X.w) I.kIn
  exact tail_any hm.typeIs slot_dict_getitem.lookup (wpAny_getItem_of (PySem.intKind_is X.prog X.w k t) hm e ⟨r, H, I.tok _, ru, q⟩) hs
end

end C57

set_option maxHeartbeats 1000000
namespace C57
open PySem PySem.Spec PyProof.Rows L2
/-! ### any of a tuple of numbers -/
theorem any_ints {prog : Program} {w : World} {A : Around} {E : Value → Shared → Prop} {s : Shared} {l : Addr} {its : List Value} {ns : List Int} {Q : Value → Shared → Prop} (hh : A.handled = none) (hl : s.heap.IsTuple l its.toArray) (hi : IntsAre its ns)
    (q : ∀ g tk, (∀ b o, s.heap.get? b = some o → g.get? b = some o) → Q (.bool (ns.any fun n => n != 0)) { s with heap := g, toks := tk }) : wpAny (model prog w) A (call (.builtin "any") [.ref l]) Q E s := by
  have hlt : (show Nat from l) < s.heap.objs.size := by
    obtain ⟨_, e, _⟩ := hl
    exact Heap.lt_size e
  have hlen := hi.length
  have at' : ∀ (i : Nat) (v : Value), its.toArray[i]? = some v → ∃ t, v = Value.int (ns.getD i 0) t := by
    intro i v e
    have e' : its[i]? = some v := by simpa using e
    have key : ∀ {us : List Value} {ms : List Int}, IntsAre us ms → ∀ (j : Nat) (u : Value), us[j]? = some u → ∃ t, u = Value.int (ms.getD j 0) t := by
      intro us ms h
      induction h with
      | nil => intro j u e; cases j <;> cases e
      | cons => intro j u e; cases j with
        | zero => cases e; exact ⟨_, rfl⟩
        | succ j => rename_i ih; exact ih j u e
    exact key hi i v e'
  refine PySem.call_any_walk (wpAny_pyIter_tuple hl ?_)
  refine ⟨_, _, _, _, _, _, fun i => ns.getD i 0 != 0, rfl, Walks.tuple (A := A.in1) hh _ l (Nat.ne_of_lt hlt) its.toArray, ⟨⟨_, Heap.get?_push_size _ rfl, rfl, rfl⟩, hl.push _⟩, ?_, fun g tk k => ?_⟩
  · intro i v s' Q' E' hv hq
    obtain ⟨t, rfl⟩ := at' i v hv
    exact truthy_int hq
  · have e : (List.range its.toArray.size).any (fun i => ns.getD i 0 != 0) = ns.any fun n => n != 0 := by
      rw [List.size_toArray, hlen]
      clear at' hi hlen q k
      induction ns with
      | nil => rfl
      | cons n ns ih =>
        rw [List.length_cons, List.range_succ_eq_map, List.any_cons, List.any_map, List.any_cons]
        congr 1
    rw [e]
    refine q g tk fun b o x => k b o (fun hm => ?_) (Heap.get?_push_of_some _ x)
    rw [List.mem_singleton.mp hm] at x
    exact Nat.lt_irrefl _ (Heap.lt_size x)
section
variable {X : Cx}
def rAnyT (K : PySem.W.Frag) : List V → Hp → VK → Prop := fun vs H Q => ∃ (a : Addr) (ns : List Int), vs = [V.ref a] ∧ SqT K H a (ns.map V.int) ∧ Q (.bl (ns.any fun n => n != 0)) H
theorem cr_anyT (hc : X.calm = true) : CallR X (.builtin "any") (rAnyT X.K) := by
  intro pins s σ H vs us Q I r h
  obtain ⟨a, ns, rfl, hs, q⟩ := h
  obtain ⟨its, rv, hl, _⟩ := I.tuple hs
  rw [Vals.ref1 r]
  exact any_ints (I.ok.hd hc) hl rv.ints fun g tk k => ⟨.bl (ns.any fun n => n != 0), H, I.kept k, rfl, q⟩
end

end C57

set_option maxHeartbeats 1000000
namespace C57
open PySem PySem.Spec PyProof.Rows L2
/-! ### sum of lists -/
theorem sum_args2 (a b : Value) : argsOk "sum" ⟨[a, b], []⟩ := by
  unfold argsOk
  kernel_rfl
theorem no_list_bytes : isSubtype (.type "list") (.type "bytes") = pure false := by
  rw [isSubtype_type]
  kernel_rfl
theorem no_list_barray : isSubtype (.type "list") (.type "bytearray") = pure false := by
  rw [isSubtype_type]
  kernel_rfl
def LsIn (h : Heap) (S I : Addr) (u : Value) (ps : List Value) : Prop := ∃ p n, u = .ref p ∧ p ≠ S ∧ p ≠ I ∧ h.get? p = some { cls := .type "list", data := .seq ps.toArray n }
section
variable {prog : Program} {w : World} {A : Around}
theorem sum_loop {R : Result → Shared → Prop} (hh : A.in1.handled = none) {I l S : Addr} {items : List Value} {pss : List (List Value)} (lI : l ≠ I) (SI : S ≠ I) (Sl : S ≠ l) (hlen : pss.length = items.length) :
    ∀ (k i : Nat) (s : Shared) (t : Addr) (acc : List Value) (nt c : Nat), items.length - i = k → i ≤ items.length → s.heap.IsListIter I l i ∧ s.heap.IsList l items.toArray → s.heap.get? S = some { cls := .type "list", data := .seq #[.ref t] c } →
    s.heap.get? t = some { cls := .type "list", data := .seq acc.toArray nt } → t ≠ S → t ≠ I → (∀ j u ps, i ≤ j → items[j]? = some u → pss[j]? = some ps → LsIn s.heap S I u ps) → acc.length + (pss.drop i).flatten.length ≤ sizeLine →
    (∀ g tk u nu, (∀ b o, b ≠ I → b ≠ S → s.heap.get? b = some o → g.get? b = some o) → g.get? u = some { cls := .type "list", data := .seq (acc ++ (pss.drop i).flatten).toArray nu } → (s.heap.objs.size ≤ (show Nat from u) ∨ (i = items.length ∧ u = t)) → R (.ok (.ret (.ref u))) { s with heap := g, toks := tk }) →
    codeAny (model prog w) A (.builtin "sum.loop" ⟨[.ref I, .ref S, rawInt 2, rawInt 0], []⟩) R s := by
  intro k
  induction k with
  | zero =>
    intro i s t acc nt c hk hi st hS ht tS tI hp hz hR
    have e : i = items.length := by omega
    subst e
    refine codeAny_builtin F.entry_sum_loop ?_
    rw [Around.under_plainId F.plain_sum_loop _]
    show wpAny _ A.in1 (seqItems? (.ref S) >>= _) _ _ s
    refine wpAny_bind (wpAny_seqItems hS rfl ?_)
    show wpAny _ A.in1 (tryCatch (pyNext (.ref I)) _ >>= _) _ _ s
    refine wpAny_bind (wpAny_tryCatch (wpAny_pyNext_list_end hh st.1 st.2 (by simp) fun g m => ?_))
    have e2 : (pss.drop items.length).flatten = [] := by rw [List.drop_of_length_le (by omega)]; rfl
    rw [e2, List.append_nil] at hR
    exact wpAny_pure (hR g s.toks t nt (fun b o hb _ e => m b o hb e) (m t _ tI ht) (.inr ⟨rfl, rfl⟩))
  | succ k ih =>
    intro i s t acc nt c hk hi st hS ht tS tI hp hz hR
    have lt : i < items.length := by omega
    have ex : items[i]? = some items[i] := List.getElem?_eq_getElem lt
    have ey : pss[i]? = some (pss[i]'(by omega)) := List.getElem?_eq_getElem (by omega)
    obtain ⟨p, n, eu, pS, pI, hpp⟩ := hp i _ _ (Nat.le_refl _) ex ey
    have ed : pss.drop i = pss[i]'(by omega) :: pss.drop (i + 1) := List.drop_eq_getElem_cons (by omega)
    generalize pss[i]'(by omega) = ps at *
    refine codeAny_builtin F.entry_sum_loop ?_
    rw [Around.under_plainId F.plain_sum_loop _]
    show wpAny _ A.in1 (seqItems? (.ref S) >>= _) _ _ s
    refine wpAny_bind (wpAny_seqItems hS rfl ?_)
    show wpAny _ A.in1 (tryCatch (pyNext (.ref I)) _ >>= _) _ _ s
    refine wpAny_bind (wpAny_tryCatch (wpAny_pyNext_list_item st.1 st.2 (x := .ref p) (by rw [← eu]; simpa using ex) fun g i1 m => ?_))
    have ht1 := m.extBut _ _ tI ht
    have hp1 := m.extBut _ _ pI hpp
    have hS1 := m.extBut _ _ SI hS
    rw [ed, List.flatten_cons, List.length_append] at hz
    show wpAny _ A.in1 ((holding [.ref p] (binaryOp .Add (.ref t) (.ref p))).attempt >>= _) _ _ _
    refine wpAny_bind (wpAny_attempt (wpAny_holding (P.add_list ht1 hp1 ?_ (by simp only [List.size_toArray]; omega))))
    have Sl1 : (show Nat from S) < g.objs.size := Heap.lt_size hS1
    have hS2 : (g.push { cls := .type "list", data := .seq (acc.toArray ++ ps.toArray) }).get? S = some { cls := .type "list", data := .seq #[.ref t] c } := Heap.get?_push_of_some _ hS1
    have hT2 : (g.push { cls := .type "list", data := .seq (acc.toArray ++ ps.toArray) }).get? g.objs.size = some { cls := .type "list", data := .seq (acc ++ ps).toArray } := by
      rw [show (acc ++ ps).toArray = acc.toArray ++ ps.toArray from by simp]
      exact Heap.get?_push_size _ rfl
    have keep2 : ∀ b o, g.get? b = some o → (g.push { cls := .type "list", data := .seq (acc.toArray ++ ps.toArray) }).get? b = some o := fun b o e => Heap.get?_push_of_some _ e
    generalize hg2 : g.push { cls := .type "list", data := .seq (acc.toArray ++ ps.toArray) } = g2 at *
    refine wpAny_bind (wpAny_updateSeq hS2 rfl ?_)
    have hS3 : (g2.update S (Obj.mapSeq fun _ => #[.ref g.objs.size])).get? S = some { cls := .type "list", data := .seq #[.ref g.objs.size] c } := by
      rw [Heap.get?_update_self _ hS2 rfl]
      rfl
    have m3 : Heap.SameBut S g2 (g2.update S (Obj.mapSeq fun _ => #[.ref g.objs.size])) := Heap.SameBut.update ..
    generalize g2.update S (Obj.mapSeq fun _ => #[.ref g.objs.size]) = g3 at *
    refine wpAny_bind (wpAny_letGo ?_)
    show wpAny _ A.in1 (updateSeq S (fun _ => #[.ref g.objs.size]) >>= _) _ _ _
    refine wpAny_bind (wpAny_updateSeq hS3 rfl ?_)
    have hS4 : (g3.update S (Obj.mapSeq fun _ => #[.ref g.objs.size])).get? S = some { cls := .type "list", data := .seq #[.ref g.objs.size] c } := by
      rw [Heap.get?_update_self _ hS3 rfl]
      rfl
    have m4 : Heap.SameBut S g3 (g3.update S (Obj.mapSeq fun _ => #[.ref g.objs.size])) := Heap.SameBut.update ..
    generalize g3.update S (Obj.mapSeq fun _ => #[.ref g.objs.size]) = g4 at *
    have keep4 : ∀ b o, b ≠ S → g2.get? b = some o → g4.get? b = some o := fun b o n e => m4.extBut _ _ n (m3.extBut _ _ n e)
    have all : ∀ b o, b ≠ I → b ≠ S → s.heap.get? b = some o → g4.get? b = some o := fun b o n1 n2 e => keep4 b o n2 (keep2 b o (m.extBut _ _ n1 e))
    have TS : g.objs.size ≠ S := Nat.ne_of_gt Sl1
    have TI : g.objs.size ≠ I := by
      obtain ⟨_, e, _⟩ := i1
      exact Nat.ne_of_gt (Heap.lt_size e)
    have sz4 : g4.objs.size = g.objs.size + 1 := by rw [m4.1, m3.1, ← hg2, Heap.size_push]
    refine wpAny_pure ⟨plainId_quiet F.plain_sum_loop _, ih (i + 1) _ g.objs.size (acc ++ ps) _ c (by omega) lt ⟨i1.at fun o e => keep4 _ _ (Ne.symm SI) (keep2 _ _ e), ?_⟩ hS4 (keep4 _ _ TS hT2) TS TI ?_ ?_ ?_⟩
    · obtain ⟨o, e, r⟩ := st.2
      exact ⟨o, all _ _ lI (Ne.symm Sl) e, r⟩
    · intro j u qs hj e1 e2
      obtain ⟨p', n', a1, a2, a3, a4⟩ := hp j u qs (by omega) e1 e2
      exact ⟨p', n', a1, a2, a3, all _ _ a3 a2 a4⟩
    · rw [List.length_append]
      omega
    · intro g5 tk u nu k5 e5 q5
      rw [List.append_assoc] at e5
      refine hR g5 tk u nu (fun b o n1 n2 e => k5 b o n1 n2 (all b o n1 n2 e)) (by rw [ed, List.flatten_cons]; exact e5) ?_
      have sg : g.objs.size = s.heap.objs.size := m.1
      rcases q5 with q | ⟨_, rfl⟩
      · have q' : g4.objs.size ≤ (show Nat from u) := q
        exact .inl (by omega)
      · exact .inl (Nat.le_of_eq sg.symm)
/-- sum(rows, start) of at least one row -/
theorem sum_rows {E : Value → Shared → Prop} {s : Shared} {Q : Value → Shared → Prop} (hh : A.handled = none) {l b : Addr} {items acc : List Value} {pss : List (List Value)} {nb : Nat} (hlen : pss.length = items.length) (ne : items ≠ []) (hl : s.heap.IsList l items.toArray) (hb : s.heap.get? b = some { cls := .type "list", data := .seq acc.toArray nb })
    (hp : ∀ (j : Nat) (u : Value) (ps : List Value), items[j]? = some u → pss[j]? = some ps → ∃ (p : Addr) (n : Nat), u = Value.ref p ∧ s.heap.get? p = some { cls := .type "list", data := .seq ps.toArray n }) (hz : acc.length + pss.flatten.length ≤ sizeLine)
    (q : ∀ g tk u nu, (∀ b o, s.heap.get? b = some o → g.get? b = some o) → g.get? u = some { cls := .type "list", data := .seq (acc ++ pss.flatten).toArray nu } → s.heap.objs.size ≤ (show Nat from u) → Q (.ref u) { s with heap := g, toks := tk }) :
    wpAny (model prog w) A (call (.builtin "sum") [.ref l, .ref b]) Q E s := by
  have ll : (show Nat from l) < s.heap.objs.size := by
    obtain ⟨_, e, _⟩ := hl
    exact Heap.lt_size e
  have lb : (show Nat from b) < s.heap.objs.size := Heap.lt_size hb
  refine call_function_tree F.kind_sum F.plain_sum F.entry_sum (sum_args2 _ _) ?_
  unfold Builtin.«sum»
  simp only [List.length_cons, List.length_nil]
  rw [if_neg (by decide)]
  refine wpAny_bind (wpAny_of_eq (show Builtin.Builtins.bindParams "sum" ["start"] 0 { pos := [.ref b] } = pure [some (.ref b)] from rfl) ?_)
  refine wpAny_bind (wpAny_pyIter_list hl ?_)
  refine wpAny_bind (wpAny_pure ?_)
  have ty : ∀ s' : Shared, s'.heap.get? b = some { cls := .type "list", data := .seq acc.toArray nb } → s'.TypeIs (.ref b) "list" := fun s' e => ⟨_, e, rfl⟩
  have hb1 : (s.heap.push { cls := .type "list_iterator", data := .fields #[.ref l, .int 0 0] }).get? b = some { cls := .type "list", data := .seq acc.toArray nb } := Heap.get?_push_of_some _ hb
  simp only [List.forIn_cons, List.forIn_nil]
  refine wpAny_bind (wpAny_bind (wpAny_bind (wpAny_isInstance (T := "list") (b := false) (ty _ hb1) F.sub_list_str ?_)))
  simp only [Bool.false_eq_true, if_false]
  refine wpAny_pure (wpAny_bind (wpAny_bind (wpAny_isInstance (T := "list") (b := false) (ty _ hb1) no_list_bytes ?_)))
  simp only [Bool.false_eq_true, if_false]
  refine wpAny_pure (wpAny_bind (wpAny_bind (wpAny_isInstance (T := "list") (b := false) (ty _ hb1) no_list_barray ?_)))
  simp only [Bool.false_eq_true, if_false]
  refine wpAny_pure (wpAny_pure ?_)
  refine wpAny_bind (wpAny_newObj_type ?_)
  have hs1 : (s.heap.push { cls := .type "list_iterator", data := .fields #[.ref l, .int 0 0] }).objs.size = s.heap.objs.size + 1 := Heap.size_push ..
  have up : ∀ y o, s.heap.get? y = some o → ((s.heap.push { cls := .type "list_iterator", data := .fields #[.ref l, .int 0 0] }).push { cls := .type "list", data := .seq #[.ref b] }).get? y = some o := fun y o e => Heap.get?_push_of_some _ (Heap.get?_push_of_some _ e)
  have it0 : (s.heap.push { cls := .type "list_iterator", data := .fields #[.ref l, .int 0 0] }).IsListIter s.heap.objs.size l 0 := ⟨_, Heap.get?_push_size _ rfl, rfl, rfl⟩
  have ne' : ∀ {b : Addr} {o : Obj}, s.heap.get? b = some o → b ≠ (s.heap.push { cls := .type "list_iterator", data := .fields #[.ref l, .int 0 0] }).objs.size ∧ b ≠ s.heap.objs.size := fun {b o} e => by
    have lt : (show Nat from b) < s.heap.objs.size := Heap.lt_size e
    exact ⟨by rw [hs1]; exact Nat.ne_of_lt (Nat.lt_succ_of_lt lt), Nat.ne_of_lt lt⟩
  have l0 : 0 < items.length := List.length_pos_iff.mpr ne
  refine wpAny_pure ⟨plainId_quiet F.plain_sum_loop _, sum_loop (I := s.heap.objs.size) (l := l) (S := (s.heap.push { cls := .type "list_iterator", data := .fields #[.ref l, .int 0 0] }).objs.size) hh (Nat.ne_of_lt ll) (by rw [hs1]; exact Nat.succ_ne_self _) (by rw [hs1]; exact Nat.ne_of_gt (Nat.lt_succ_of_lt ll)) hlen items.length 0 _ b acc nb 0 (Nat.sub_zero _) (Nat.zero_le _)
    ⟨it0.at fun o e => Heap.get?_push_of_some _ e, Heap.IsList.push (Heap.IsList.push hl _) _⟩ (Heap.get?_push_size _ rfl) (up b _ hb) (ne' hb).1 (ne' hb).2 (fun j u ps _ e1 e2 => ?_) hz fun g tk u nu k e q' => ?_⟩
  · obtain ⟨p, n, a1, a2⟩ := hp j u ps e1 e2
    exact ⟨p, n, a1, (ne' a2).1, (ne' a2).2, up _ _ a2⟩
  · refine q g tk u nu (fun y o x => k y o (ne' x).2 (ne' x).1 (up y o x)) e ?_
    rcases q' with q' | ⟨q', _⟩
    · have e9 : ((s.heap.push { cls := .type "list_iterator", data := .fields #[.ref l, .int 0 0] }).push { cls := .type "list", data := .seq #[.ref b] }).objs.size = s.heap.objs.size + 2 := by rw [Heap.size_push, hs1]
      have q2 : ((s.heap.push { cls := .type "list_iterator", data := .fields #[.ref l, .int 0 0] }).push { cls := .type "list", data := .seq #[.ref b] }).objs.size ≤ (show Nat from u) := q'
      omega
    · omega
end
section
variable {X : Cx}
def rSumL : List V → Hp → VK → Prop := fun vs H Q => ∃ (a b : Addr) (refs : List Addr) (acc : List V) (xss : List (List V)), vs = [V.ref a, V.ref b] ∧ H a = some (.lst (refs.map V.ref)) ∧ refs ≠ [] ∧ H b = some (.lst acc) ∧ Paired (fun p xs => H p = some (.lst xs)) refs xss ∧ acc.length + xss.flatten.length ≤ sizeLine ∧
  ∀ p, H p = none → Q (.ref p) (L2.upd H p (.lst (acc ++ xss.flatten)))
theorem refs_vals : ∀ {refs : List Addr} {its : List Value}, Vals (refs.map V.ref) its → its = refs.map Value.ref
  | [], _, .nil => rfl
  | p :: refs, _, .cons r t => by
    cases r
    rw [refs_vals t]
    rfl
theorem rows_vals {pins : List (Addr × Obj)} {σ : L2.St} {H : Hp} {s : Shared} (I : Inv X pins σ H s) : ∀ {refs : List Addr} {xss : List (List V)}, Paired (fun p xs => H p = some (.lst xs)) refs xss →
    ∃ pss : List (List Value), pss.length = refs.length ∧ Vals xss.flatten pss.flatten ∧ ∀ (j : Nat) (p : Addr) (ps : List Value), refs[j]? = some p → pss[j]? = some ps → ∃ n : Nat, s.heap.get? p = some { cls := .type "list", data := .seq ps.toArray n }
  | _, _, .nil => ⟨[], rfl, .nil, fun j p ps e => by cases j <;> cases e⟩
  | _, _, .cons h t => by
    obtain ⟨_, its, n, rv, hl, e⟩ := I.lstM h
    obtain ⟨pss, g1, g2, g3⟩ := rows_vals I t
    refine ⟨its :: pss, by rw [List.length_cons, List.length_cons, g1], ?_, fun j p ps e1 e2 => ?_⟩
    · rw [List.flatten_cons, List.flatten_cons]
      exact rv.append g2
    · cases j with
      | zero =>
        cases e1
        cases e2
        exact ⟨n, e⟩
      | succ j => exact g3 j p ps e1 e2
theorem cr_sumL (hc : X.calm = true) : CallR X (.builtin "sum") rSumL := by
  intro pins s σ H vs us Q I r h
  obtain ⟨a, b, refs, acc, xss, rfl, ha, ne, hb, hP, hz, q⟩ := h
  obtain ⟨_, its, n, rv, hl, e⟩ := I.lstM ha
  obtain ⟨_, its2, n2, rv2, hl2, e2⟩ := I.lstM hb
  cases r with
  | cons r1 rr =>
  cases rr with
  | cons r2 rr =>
  cases rr
  cases r1
  cases r2
  obtain ⟨pss, g1, g2, g3⟩ := rows_vals I hP
  have ei := refs_vals rv
  subst ei
  have lz : its2.length + pss.flatten.length ≤ sizeLine := by
    have := rv2.length
    have := g2.length
    omega
  refine sum_rows (I.ok.hd hc) (by rw [g1, List.length_map]) (by intro z; exact ne (List.map_eq_nil_iff.mp z)) ⟨_, e, rfl, n, rfl⟩ e2 (fun j u ps e1 e3 => ?_) lz fun g tk u nu k eu le => ?_
  · rw [List.getElem?_map] at e1
    cases er : refs[j]? with
    | none => rw [er] at e1; cases e1
    | some p =>
      rw [er] at e1
      obtain ⟨m, em⟩ := g3 j p ps er e3
      exact ⟨p, m, (Option.some.inj e1).symm, em⟩
  · have new : ObjOk X.prog X.w (L2.upd H u (.lst (acc ++ xss.flatten))) g u (.lst (acc ++ xss.flatten)) := ⟨by rw [List.length_append]; exact hz, _, nu, rv2.append g2, eu⟩
    exact ⟨.ref u, _, I.turnedNew (t' := tk) (ch := []) (fun y o _ x => k y o x) (fun y hy => by cases hy) le new, rfl, q u (I.hok.fresh le)⟩
end

end C57

set_option maxHeartbeats 1000000
namespace C57
open PySem PySem.Spec PyProof.Rows L2
/-! ### get of a written dict with whole-number keys -/
def tIGet2 (d : Addr) (L : List (Int × Value)) (ty tx : TE) : TE := fun σ H Q => ty σ H fun y H2 => tx σ H2 fun z H3 => ∃ k : Int, y = .int k ∧ ((∃ u v, getI L k = some u ∧ RelV v u ∧ Q v H3) ∨ (getI L k = none ∧ Q z H3))
def tIGet1 (d : Addr) (L : List (Int × Value)) (ty : TE) : TE := fun σ H Q => ty σ H fun y H2 => ∃ k : Int, y = .int k ∧ ((∃ u v, getI L k = some u ∧ RelV v u ∧ Q v H2) ∨ (getI L k = none ∧ Q .non H2))
section
variable {X : Cx} {o e f : Expr} {apos cpos : Pos} {d : Addr} {L : List (Int × Value)} {ty tx : TE}
theorem pe_iget2 (D : IDict X.K d L) (ho : PE X o (tC (.ref d))) (he : PE X e ty) (hf : PE X f tx) (m : M2 X o "get" apos e f cpos) : PE X (.Call (.Attribute o "get" apos) [e, f] [] cpos) (tIGet2 d L ty tx) := by
  obtain ⟨es, n, hl, ek⟩ := D.ex
  refine ⟨fun pins s σ H Q I h => ?_⟩
  refine wpAny_Call_method m.base m.few m.line PySem.F.plainAttrs_dict PySem.F.slot_dict_get PySem.F.type_dict_get (thn (ho.run pins s σ H (fun x H1 => x = .ref d ∧ tIGet2 d L ty tx σ H1 Q) I ⟨rfl, h⟩) fun u s1 ⟨x, H1, I1, rx, ex, q1⟩ => ?_)
  subst ex
  obtain rfl : u = Value.ref d := rx
  have hm := D.mapOf (prog := X.prog) (w := X.w) I1.kIn
  refine ⟨hm.typeIs, (fun b q => by cases q; exact ⟨_, I1.kIn _ _ hl, rfl⟩), ?_⟩
  rw [m.trees]
  refine Calls.callWith_builtin rfl (Calls.evalArgs_plain (Calls.spliced_cons (thn (he.run pins s1 σ H1 _ I1 q1) fun iv s2 ⟨y, H2, I2, ry, q2⟩ =>
    Calls.spliced_cons (thn (hf.run pins s2 σ H2 _ I2 q2) fun fv s3 ⟨z, H3, I3, rz, k, ez, q3⟩ => Calls.spliced_nil ?_))))
  subst ez
  obtain ⟨t, rfl⟩ := (show ∃ t, iv = Value.int k t from ry)
  have hm3 := D.mapOf (prog := X.prog) (w := X.w) I3.kIn
  refine call_meetsIn PySem.F.slot_dict_get hm3.typeIs PySem.F.entry_dict_get (PySem.F.args_dict_get_3 _ _ _) (meets_dict_get_default (intKind X.prog X.w) d (PySem.intKind_is X.prog X.w k t) D.low fv) ⟨_, hm3, ?_⟩
  rcases q3 with ⟨u, v, e1, ru, q⟩ | ⟨e1, q⟩
  · rw [e1]
    exact ⟨v, H3, I3.tok _, ru, q⟩
  · rw [e1]
    exact ⟨z, H3, I3.tok _, rz, q⟩
theorem pe_iget1 (D : IDict X.K d L) (ho : PE X o (tC (.ref d))) (he : PE X e ty) (m : M1 X o "get" apos e cpos) : PE X (.Call (.Attribute o "get" apos) [e] [] cpos) (tIGet1 d L ty) := by
  obtain ⟨es, n, hl, ek⟩ := D.ex
  refine ⟨fun pins s σ H Q I h => ?_⟩
  refine wpAny_Call_method m.base m.few m.line PySem.F.plainAttrs_dict PySem.F.slot_dict_get PySem.F.type_dict_get (thn (ho.run pins s σ H (fun x H1 => x = .ref d ∧ tIGet1 d L ty σ H1 Q) I ⟨rfl, h⟩) fun u s1 ⟨x, H1, I1, rx, ex, q1⟩ => ?_)
  subst ex
  obtain rfl : u = Value.ref d := rx
  have hm := D.mapOf (prog := X.prog) (w := X.w) I1.kIn
  refine ⟨hm.typeIs, (fun b q => by cases q; exact ⟨_, I1.kIn _ _ hl, rfl⟩), ?_⟩
  rw [m.trees]
  refine Calls.callWith_builtin rfl (Calls.evalArgs_plain (Calls.spliced_cons (thn (he.run pins s1 σ H1 _ I1 q1) fun iv s2 ⟨y, H2, I2, ry, k, ez, q3⟩ => Calls.spliced_nil ?_)))
  subst ez
  obtain ⟨t, rfl⟩ := (show ∃ t, iv = Value.int k t from ry)
  have hm3 := D.mapOf (prog := X.prog) (w := X.w) I2.kIn
  refine call_meetsIn PySem.F.slot_dict_get hm3.typeIs PySem.F.entry_dict_get (PySem.F.args_dict_get_2 _ _) (meets_dict_get (intKind X.prog X.w) d (PySem.intKind_is X.prog X.w k t) D.low) ⟨_, hm3, ?_⟩
  rcases q3 with ⟨u, v, e1, ru, q⟩ | ⟨e1, q⟩
  · rw [e1]
    exact ⟨v, H2, I2.tok _, ru, q⟩
  · rw [e1]
    exact ⟨.non, H2, I2.tok _, rfl, q⟩
end

end C57

set_option maxHeartbeats 1000000
namespace C57
open PySem PySem.Spec PyProof.Rows L2
def vn (xs : List Nat) : List V := xs.map fun d : Nat => V.int (d : Int)
theorem vn_app {xs ys : List Nat} : vn (xs ++ ys) = vn xs ++ vn ys := by
  unfold vn
  rw [List.map_append]
theorem vn_len {xs : List Nat} : (vn xs).length = xs.length := by
  unfold vn
  rw [List.length_map]
theorem vn_at {all : List Nat} {i : Nat} (h : i < all.length) : atI (vn all) (i : Int) = some (.int ((all.getD i 0 : Nat) : Int)) := atn (by
  unfold vn
  rw [List.getElem?_map, List.getD_eq_getElem?_getD, List.getElem?_eq_getElem h]
  rfl)
theorem b256 {all : List Nat} (h : ∀ x ∈ all, x < 256) (i : Nat) : all.getD i 0 < 256 := by
  rw [List.getD_eq_getElem?_getD]
  cases e : all[i]? with
  | none => decide
  | some x => exact h x (List.mem_of_getElem? e)
/-! ### the begin of an instruction, behind what extends its argument -/
def extF (all : List Nat) : Nat → Nat → Nat → Nat × Nat
  | 0, i, a => (i, a)
  | n + 1, i, a => if i + 1 < all.length ∧ all.getD i 0 = 71 then extF all n (i + 2) ((a + all.getD (i + 1) 0) * 256) else (i, a)
structure Txt2 (mg : Str → Option Value) : Prop where
  g_EXTENDED_ARG : ∃ t, mg "EXTENDED_ARG" = some (.int 71 t)
  g_MOST_EXTENDED : ∃ t, mg "MOST_EXTENDED" = some (.int 3 t)
  g_FIRST : ∃ t, mg "FIRST_WITH_ARGUMENT" = some (.int 45 t)
  g_TRUTH : ∃ t, mg "TRUTH" = some (.int 16 t)
def spExt : Sp := fun vs H Q _ => ∃ (t : Addr) (all : List Nat) (i : Nat), vs = [.ref t, .int (i : Int)] ∧ H t = some (.tup (vn all)) ∧ all.length ≤ 4000 ∧ (∀ x ∈ all, x < 256) ∧
  ∀ p H', H p = none → Same H H' → H' p = some (.tup [.int (((extF all all.length i 0).1 : Nat) : Int), .int (((extF all all.length i 0).2 : Nat) : Int)]) → Q (.ref p) H'
def lvExt (H : Hp) (t : Addr) (all : List Nat) (i : Nat) (σ : L2.St) (H' : Hp) : Prop := ∃ j a n m : Nat, σ = [some (.ref t), some (.int (j : Int)), some (.int (a : Int))] ∧ H' = H ∧ all.length - j ≤ n ∧ extF all n j a = extF all all.length i 0 ∧ i ≤ j ∧ 2 * m ≤ j ∧ ∃ y, a = 256 * y ∧ y < 2 ^ (8 * m)
def msExt (m : Nat) (σ : L2.St) : Nat := match σ with
  | _ :: some (.int a) :: _ => m - a.toNat
  | _ => 0
section
variable {P : Program} {w : World} {K : PySem.W.Frag} {mg : Str → Option Value} {base : Heap} {f : Addr} {fd : FuncData}
abbrev sbehind_extension : Stmt := top 34
theorem scbehind_extension : FnScope ["data", "at", "argument"] ["data", "at"] (defScope sbehind_extension) := ⟨rfl, rfl, rfl, by decide +kernel, rfl, by decide +kernel, by decide +kernel⟩

theorem ok_behind_extension (T : Txt mg) (T2 : Txt2 mg) (F : FnP K "behind_extension" "behind_extension" sbehind_extension f fd) : FnOk P w K mg base CX0 1 f fd ["data", "at"] spExt := by
  refine F.ok scbehind_extension (fun vs H Q E h => ?_) (fun cdv A outer s H vs Q E hr h => ?_)
  · obtain ⟨t, all, i, rfl, _⟩ := h
    rfl
  · obtain ⟨t, all, i, rfl, ht, hl, hb, k⟩ := h
    refine ⟨_, PSs.nox (pss_cons (ps_set (i := 2) scbehind_extension.nd rfl (Or.inl rfl) pe_int)
  (pss_cons (ps_while PassesOwn.never (PW.pt (pw_and (pt_cmpR op_lt (pe_op op_add (pv 1) pe_int) (pe_callB call_len_d (by rfl) T.b_len (by decide +kernel) (pa_cons (pv 0) pa_nil)) (nomark _)) (pw_and1 (pt_cmpR op_eq (pe_ix ix_d (pv 0) (pv 1) (fun _ _ => rfl)) (pe_gi T2.g_EXTENDED_ARG) (nomark _)))))
    (pss_cons (ps_set (i := 2) scbehind_extension.nd rfl (Or.inl rfl) (pe_op op_shlW (pe_op op_or (pv 2) (pe_ix ix_d (pv 0) (pe_op op_add (pv 1) pe_int) (fun _ _ => rfl))) pe_int))
  (pss_one (ps_aug (i := 1) scbehind_extension.nd rfl (.inl rfl) pe_int ip_add))))
  (pss_one (ps_ret (pe_tup (pa_cons (pv 1) (pa_cons (pv 2) pa_nil))))))), ?_⟩
    show (_ : TS) _ [some (.ref t), some (.int (i : Int)), none] H
    simp only [r_seq, r_next, r_brk, r_cont, r_asg, r_name, r_ret, r_retN, r_drop, r_ifs, r_never, r_var, r_c, r_op, r_un, r_if, r_tst, r_b, r_not, r_and, r_or, r_andV, r_orV, r_notV, r_nil, r_cons, r_tup, r_lst, r_cb, r_call, r_bm, r_bm0, r_sl, r_nopart, r_part, r_rev, r_gnil, r_gcons, r_gsub, r_par, r_aug, r_chain, r_I0, r_I, r_U, r_ixd, r_lend, r_tupd, r_listd, r_sld, r_app, r_ext, r_reverse, r_setl, r_cat, r_int1, r_eqS, r_neS, scal_ii, scal_bb, scal_ss, at0, at1, at2, sq_lst, sq_tup, isLst_lst, List.getElem?_cons_zero, List.getElem?_cons_succ, List.set_cons_zero, List.set_cons_succ, V.int.injEq, V.bl.injEq, V.ref.injEq, V.str.injEq, HO.lst.injEq, HO.tup.injEq, Option.some.injEq, exists_eq_left', exists_eq_left, List.cons.injEq, and_true, true_and, decide_eq_true_eq, reduceCtorEq, false_and, exists_false, or_false, false_or, exists_const, and_assoc, exists_and_left, List.append_nil, ix0, ix1, ix2, cm_mod, cdw1009, cdw2003, cdw7, cdw64, cdw2, cm104729, cm2, cm3, upd_same, List.length_cons, List.length_nil, Int.reduceLT, Int.reduceLE, Nat.reduceAdd, Nat.reduceLeDiff, Nat.reduceLT, Int.reduceToNat, r_for1, r_forL, r_forT, r_lcL, r_lc1, r_yes, r_gtupD, wipe_0, wipe_1, List.cons_append, List.nil_append, r_forS, r_ipI, ite_false, ite_true, Bool.not_true, Bool.not_false, decide_true, decide_false, r_isd, r_islt, cD_ty, cD_ref, tD_non, tD_bl, tD_int, tD_str, tD_ref, tH_lst, tH_tup, tH_dK, tH_ins, ki_self, ki_int_bool, ki_non_int, ki_str_int, ki_lt_lst, ki_lt_tup, r_fld, r_sfld, HO.ins.injEq, cx_K, ht]
    refine while_d (lvExt H t all i) (fun σ _ => msExt (all.length + 1) σ) ⟨i, 0, all.length, 0, rfl, rfl, by omega, rfl, Nat.le_refl _, by simp, 0, rfl, by simp⟩ ?_
    rintro σ H1 ⟨j, a, n, m, rfl, rfl, hn, e, hij, hm, y, rfl, hy⟩
    by_cases c : j + 1 < all.length
    · have e1 := vn_at (show j < all.length by omega)
      have c1 : ((j : Int) + 1 < ((vn all).length : Int)) = True := eq_true (by rw [vn_len]; omega)
      have c2 : (V.int ((all.getD j 0 : Nat) : Int) = V.int 71) = (all.getD j 0 = 71) := propext ⟨fun q => by injection q with q; omega, fun q => by rw [q]; rfl⟩
      refine ⟨decide (all.getD j 0 = 71), fun QT q => ?_, fun cc => ?_, fun cc => ?_⟩
      · simp only [r_seq, r_next, r_brk, r_cont, r_asg, r_name, r_ret, r_retN, r_drop, r_ifs, r_never, r_var, r_c, r_op, r_un, r_if, r_tst, r_b, r_not, r_and, r_or, r_andV, r_orV, r_notV, r_nil, r_cons, r_tup, r_lst, r_cb, r_call, r_bm, r_bm0, r_sl, r_nopart, r_part, r_rev, r_gnil, r_gcons, r_gsub, r_par, r_aug, r_chain, r_I0, r_I, r_U, r_ixd, r_lend, r_tupd, r_listd, r_sld, r_app, r_ext, r_reverse, r_setl, r_cat, r_int1, r_eqS, r_neS, scal_ii, scal_bb, scal_ss, at0, at1, at2, sq_lst, sq_tup, isLst_lst, List.getElem?_cons_zero, List.getElem?_cons_succ, List.set_cons_zero, List.set_cons_succ, V.int.injEq, V.bl.injEq, V.ref.injEq, V.str.injEq, HO.lst.injEq, HO.tup.injEq, Option.some.injEq, exists_eq_left', exists_eq_left, List.cons.injEq, and_true, true_and, decide_eq_true_eq, reduceCtorEq, false_and, exists_false, or_false, false_or, exists_const, and_assoc, exists_and_left, List.append_nil, ix0, ix1, ix2, cm_mod, cdw1009, cdw2003, cdw7, cdw64, cdw2, cm104729, cm2, cm3, upd_same, List.length_cons, List.length_nil, Int.reduceLT, Int.reduceLE, Nat.reduceAdd, Nat.reduceLeDiff, Nat.reduceLT, Int.reduceToNat, r_for1, r_forL, r_forT, r_lcL, r_lc1, r_yes, r_gtupD, wipe_0, wipe_1, List.cons_append, List.nil_append, r_forS, r_ipI, ite_false, ite_true, Bool.not_true, Bool.not_false, decide_true, decide_false, r_isd, r_islt, cD_ty, cD_ref, tD_non, tD_bl, tD_int, tD_str, tD_ref, tH_lst, tH_tup, tH_dK, tH_ins, ki_self, ki_int_bool, ki_non_int, ki_str_int, ki_lt_lst, ki_lt_tup, r_fld, r_sfld, HO.ins.injEq, cx_K, ht, e1, c1, c2]
        exact q
      · have cc' := of_decide_eq_true cc
        have e2 : atI (vn all) ((j : Int) + 1) = some (.int ((all.getD (j + 1) 0 : Nat) : Int)) := vn_at c
        have x256 := b256 hb (j + 1)
        generalize hx : all.getD (j + 1) 0 = x at *
        have e3 : Builtin.bitOr ((256 * y : Nat) : Int) (x : Int) = ((256 * y + x : Nat) : Int) := by
          rw [show (((256 * y : Nat) : Nat) : Int) = (y : Int) * 2 ^ 8 from by omega, Bits.bitOr_join' (by omega) (by omega) (by omega)]
          omega
        have hlt : 256 * y + x < 2 ^ (8 * (m + 1)) := by
          rw [show 8 * (m + 1) = 8 * m + 8 from by omega, Nat.pow_add]
          omega
        have e4 : CShl ((256 * y + x : Nat) : Int) 8 := shl_ok (n := 8 * (m + 1)) (j := 8) (by rw [Int.natAbs_natCast]; exact hlt) (by omega)
        simp only [r_seq, r_next, r_brk, r_cont, r_asg, r_name, r_ret, r_retN, r_drop, r_ifs, r_never, r_var, r_c, r_op, r_un, r_if, r_tst, r_b, r_not, r_and, r_or, r_andV, r_orV, r_notV, r_nil, r_cons, r_tup, r_lst, r_cb, r_call, r_bm, r_bm0, r_sl, r_nopart, r_part, r_rev, r_gnil, r_gcons, r_gsub, r_par, r_aug, r_chain, r_I0, r_I, r_U, r_ixd, r_lend, r_tupd, r_listd, r_sld, r_app, r_ext, r_reverse, r_setl, r_cat, r_int1, r_eqS, r_neS, scal_ii, scal_bb, scal_ss, at0, at1, at2, sq_lst, sq_tup, isLst_lst, List.getElem?_cons_zero, List.getElem?_cons_succ, List.set_cons_zero, List.set_cons_succ, V.int.injEq, V.bl.injEq, V.ref.injEq, V.str.injEq, HO.lst.injEq, HO.tup.injEq, Option.some.injEq, exists_eq_left', exists_eq_left, List.cons.injEq, and_true, true_and, decide_eq_true_eq, reduceCtorEq, false_and, exists_false, or_false, false_or, exists_const, and_assoc, exists_and_left, List.append_nil, ix0, ix1, ix2, cm_mod, cdw1009, cdw2003, cdw7, cdw64, cdw2, cm104729, cm2, cm3, upd_same, List.length_cons, List.length_nil, Int.reduceLT, Int.reduceLE, Nat.reduceAdd, Nat.reduceLeDiff, Nat.reduceLT, Int.reduceToNat, r_for1, r_forL, r_forT, r_lcL, r_lc1, r_yes, r_gtupD, wipe_0, wipe_1, List.cons_append, List.nil_append, r_forS, r_ipI, ite_false, ite_true, Bool.not_true, Bool.not_false, decide_true, decide_false, r_isd, r_islt, cD_ty, cD_ref, tD_non, tD_bl, tD_int, tD_str, tD_ref, tH_lst, tH_tup, tH_dK, tH_ins, ki_self, ki_int_bool, ki_non_int, ki_str_int, ki_lt_lst, ki_lt_tup, r_fld, r_sfld, HO.ins.injEq, cx_K, ht, e2, e3, e4]
        refine ⟨⟨j + 2, (256 * y + x) * 256, n - 1, m + 1, ?_, rfl, by omega, ?_, by omega, by omega, 256 * y + x, by omega, hlt⟩, ?_⟩
        · rw [show (j : Int) + 2 = ((j + 2 : Nat) : Int) from by omega, show ((256 * y + x : Nat) : Int) * 2 ^ 8 = (((256 * y + x) * 256 : Nat) : Int) from by omega]
        · rw [← e]
          obtain ⟨n', rfl⟩ : ∃ n', n = n' + 1 := ⟨n - 1, by omega⟩
          rw [extF, if_pos ⟨c, cc'⟩, Nat.add_sub_cancel, hx]
        · show all.length + 1 - ((j : Int) + 2).toNat < all.length + 1 - (j : Int).toNat
          omega
      · have cc' := of_decide_eq_false cc
        have e9 : extF all n j (256 * y) = (j, 256 * y) := by
          cases n with
          | zero => rfl
          | succ n => rw [extF, if_neg (fun q => cc' q.2)]
        rw [e9] at e
        simp only [r_seq, r_next, r_brk, r_cont, r_asg, r_name, r_ret, r_retN, r_drop, r_ifs, r_never, r_var, r_c, r_op, r_un, r_if, r_tst, r_b, r_not, r_and, r_or, r_andV, r_orV, r_notV, r_nil, r_cons, r_tup, r_lst, r_cb, r_call, r_bm, r_bm0, r_sl, r_nopart, r_part, r_rev, r_gnil, r_gcons, r_gsub, r_par, r_aug, r_chain, r_I0, r_I, r_U, r_ixd, r_lend, r_tupd, r_listd, r_sld, r_app, r_ext, r_reverse, r_setl, r_cat, r_int1, r_eqS, r_neS, scal_ii, scal_bb, scal_ss, at0, at1, at2, sq_lst, sq_tup, isLst_lst, List.getElem?_cons_zero, List.getElem?_cons_succ, List.set_cons_zero, List.set_cons_succ, V.int.injEq, V.bl.injEq, V.ref.injEq, V.str.injEq, HO.lst.injEq, HO.tup.injEq, Option.some.injEq, exists_eq_left', exists_eq_left, List.cons.injEq, and_true, true_and, decide_eq_true_eq, reduceCtorEq, false_and, exists_false, or_false, false_or, exists_const, and_assoc, exists_and_left, List.append_nil, ix0, ix1, ix2, cm_mod, cdw1009, cdw2003, cdw7, cdw64, cdw2, cm104729, cm2, cm3, upd_same, List.length_cons, List.length_nil, Int.reduceLT, Int.reduceLE, Nat.reduceAdd, Nat.reduceLeDiff, Nat.reduceLT, Int.reduceToNat, r_for1, r_forL, r_forT, r_lcL, r_lc1, r_yes, r_gtupD, wipe_0, wipe_1, List.cons_append, List.nil_append, r_forS, r_ipI, ite_false, ite_true, Bool.not_true, Bool.not_false, decide_true, decide_false, r_isd, r_islt, cD_ty, cD_ref, tD_non, tD_bl, tD_int, tD_str, tD_ref, tH_lst, tH_tup, tH_dK, tH_ins, ki_self, ki_int_bool, ki_non_int, ki_str_int, ki_lt_lst, ki_lt_tup, r_fld, r_sfld, HO.ins.injEq, cx_K]
        refine ⟨szl (by decide : 2 ≤ 1000), fun p hp => k p _ hp (Same.new' (Same.refl H1) hp) (by rw [← e]; exact upd_same)⟩
    · have c1 : ((j : Int) + 1 < ((vn all).length : Int)) = False := eq_false (by rw [vn_len]; omega)
      refine ⟨false, fun QT q => ?_, fun cc => (by cases cc), fun _ => ?_⟩
      · simp only [r_seq, r_next, r_brk, r_cont, r_asg, r_name, r_ret, r_retN, r_drop, r_ifs, r_never, r_var, r_c, r_op, r_un, r_if, r_tst, r_b, r_not, r_and, r_or, r_andV, r_orV, r_notV, r_nil, r_cons, r_tup, r_lst, r_cb, r_call, r_bm, r_bm0, r_sl, r_nopart, r_part, r_rev, r_gnil, r_gcons, r_gsub, r_par, r_aug, r_chain, r_I0, r_I, r_U, r_ixd, r_lend, r_tupd, r_listd, r_sld, r_app, r_ext, r_reverse, r_setl, r_cat, r_int1, r_eqS, r_neS, scal_ii, scal_bb, scal_ss, at0, at1, at2, sq_lst, sq_tup, isLst_lst, List.getElem?_cons_zero, List.getElem?_cons_succ, List.set_cons_zero, List.set_cons_succ, V.int.injEq, V.bl.injEq, V.ref.injEq, V.str.injEq, HO.lst.injEq, HO.tup.injEq, Option.some.injEq, exists_eq_left', exists_eq_left, List.cons.injEq, and_true, true_and, decide_eq_true_eq, reduceCtorEq, false_and, exists_false, or_false, false_or, exists_const, and_assoc, exists_and_left, List.append_nil, ix0, ix1, ix2, cm_mod, cdw1009, cdw2003, cdw7, cdw64, cdw2, cm104729, cm2, cm3, upd_same, List.length_cons, List.length_nil, Int.reduceLT, Int.reduceLE, Nat.reduceAdd, Nat.reduceLeDiff, Nat.reduceLT, Int.reduceToNat, r_for1, r_forL, r_forT, r_lcL, r_lc1, r_yes, r_gtupD, wipe_0, wipe_1, List.cons_append, List.nil_append, r_forS, r_ipI, ite_false, ite_true, Bool.not_true, Bool.not_false, decide_true, decide_false, r_isd, r_islt, cD_ty, cD_ref, tD_non, tD_bl, tD_int, tD_str, tD_ref, tH_lst, tH_tup, tH_dK, tH_ins, ki_self, ki_int_bool, ki_non_int, ki_str_int, ki_lt_lst, ki_lt_tup, r_fld, r_sfld, HO.ins.injEq, cx_K, ht, c1]
        exact q
      · have e9 : extF all n j (256 * y) = (j, 256 * y) := by
          cases n with
          | zero => rfl
          | succ n => rw [extF, if_neg (fun q => c q.1)]
        rw [e9] at e
        simp only [r_seq, r_next, r_brk, r_cont, r_asg, r_name, r_ret, r_retN, r_drop, r_ifs, r_never, r_var, r_c, r_op, r_un, r_if, r_tst, r_b, r_not, r_and, r_or, r_andV, r_orV, r_notV, r_nil, r_cons, r_tup, r_lst, r_cb, r_call, r_bm, r_bm0, r_sl, r_nopart, r_part, r_rev, r_gnil, r_gcons, r_gsub, r_par, r_aug, r_chain, r_I0, r_I, r_U, r_ixd, r_lend, r_tupd, r_listd, r_sld, r_app, r_ext, r_reverse, r_setl, r_cat, r_int1, r_eqS, r_neS, scal_ii, scal_bb, scal_ss, at0, at1, at2, sq_lst, sq_tup, isLst_lst, List.getElem?_cons_zero, List.getElem?_cons_succ, List.set_cons_zero, List.set_cons_succ, V.int.injEq, V.bl.injEq, V.ref.injEq, V.str.injEq, HO.lst.injEq, HO.tup.injEq, Option.some.injEq, exists_eq_left', exists_eq_left, List.cons.injEq, and_true, true_and, decide_eq_true_eq, reduceCtorEq, false_and, exists_false, or_false, false_or, exists_const, and_assoc, exists_and_left, List.append_nil, ix0, ix1, ix2, cm_mod, cdw1009, cdw2003, cdw7, cdw64, cdw2, cm104729, cm2, cm3, upd_same, List.length_cons, List.length_nil, Int.reduceLT, Int.reduceLE, Nat.reduceAdd, Nat.reduceLeDiff, Nat.reduceLT, Int.reduceToNat, r_for1, r_forL, r_forT, r_lcL, r_lc1, r_yes, r_gtupD, wipe_0, wipe_1, List.cons_append, List.nil_append, r_forS, r_ipI, ite_false, ite_true, Bool.not_true, Bool.not_false, decide_true, decide_false, r_isd, r_islt, cD_ty, cD_ref, tD_non, tD_bl, tD_int, tD_str, tD_ref, tH_lst, tH_tup, tH_dK, tH_ins, ki_self, ki_int_bool, ki_non_int, ki_str_int, ki_lt_lst, ki_lt_tup, r_fld, r_sfld, HO.ins.injEq, cx_K]
        refine ⟨szl (by decide : 2 ≤ 1000), fun p hp => k p _ hp (Same.new' (Same.refl H1) hp) (by rw [← e]; exact upd_same)⟩
end
end C57

set_option maxHeartbeats 1000000
namespace C57
open PySem PySem.Spec PyProof.Rows L2
/-! ### bytes cut to instructions -/
abbrev WD := Nat → Option (Str × Nat)
/-- the written table of words: at each number its row, or none -/
structure WordsT (K : PySem.W.Frag) (mg : Str → Option Value) (D : Addr) (L : List (Int × Value)) (wd : WD) : Prop where
  d : IDict K D L
  g : mg "WORDS" = some (.ref D)
  no : ∀ n : Nat, wd n = none → getI L (n : Int) = none
  yes : ∀ (n : Nat) (w : Str) (u : Nat), wd n = some (w, u) → 1 ≤ u ∧ u ≤ 10 ∧ ∃ t, getI L (n : Int) = some (.ref t) ∧ ∀ H : Hp, SqT K H t [.str w, .int (u : Int)]
def nz (xs : List Nat) : Bool := xs.any fun x => x != 0
def nextF (wd : WD) (all : List Nat) (b : Nat) : Option (Str × Nat × Nat) :=
  let r := if (wd (all.getD b 0)).isSome then (b, 0) else extF all all.length b 0
  if (wd (all.getD b 0)).isNone ∧ (¬ (b < r.1 ∧ r.1 ≤ b + 6) ∨ all.getD (b + 1) 0 = 0 ∨ all.length ≤ r.1) then none
  else match wd (all.getD r.1 0) with
    | none => none
    | some (w, u) => if all.length < r.1 + 2 * u ∨ (1 < u ∧ nz ((all.drop (r.1 + 2)).take (2 * u - 2)) = true) then none else some (w, r.2 + all.getD (r.1 + 1) 0, r.1 + 2 * u)
def cutF (wd : WD) (all : List Nat) : Nat → Nat → List (Nat × Str × Nat) × Option Nat
  | 0, _ => ([], none)
  | n + 1, b => if b < all.length then (match nextF wd all b with
    | none => ([], some b)
    | some (w, a, e) => ((b, w, a) :: (cutF wd all n e).1, (cutF wd all n e).2)) else ([], none)
theorem r_par3 {i j l : Nat} {ta : TA} {D : Ends} {σ : L2.St} {H : Hp} : tPar3 i j l ta D σ H = ta σ H (fun vs H1 => ∃ u v w, vs = [u, v, w] ∧ D.nx (((σ.set i (some u)).set j (some v)).set l (some w)) H1) := rfl
def wrongF (wd : WD) (all : List Nat) : Option Nat := if all = [] then some 0 else (cutF wd all all.length 0).2
def wrV : Option Nat → V
  | none => .non
  | some b => .int (b : Int)
/-- the three lists -/
structure Cuts (H : Hp) (B W A : Addr) (ls : List (Nat × Str × Nat)) : Prop where
  b : H B = some (.lst (vn (ls.map (·.1))))
  w : H W = some (.lst (ls.map fun x => V.str x.2.1))
  a : H A = some (.lst (vn (ls.map (·.2.2))))
def spCut (wd : WD) : Sp := fun vs H Q _ => ∃ (t : Addr) (all : List Nat), vs = [.ref t] ∧ H t = some (.tup (vn all)) ∧ all.length ≤ 4000 ∧ (∀ x ∈ all, x < 256) ∧
  ∀ p B W A H', H p = none → Same H H' → H' p = some (.tup [.ref B, .ref W, .ref A, wrV (wrongF wd all)]) → Cuts H' B W A (cutF wd all all.length 0).1 → Q (.ref p) H'
def lvCut (wd : WD) (H : Hp) (t B W A : Addr) (all : List Nat) (σ : L2.St) (H' : Hp) : Prop := ∃ (b n : Nat) (ls : List (Nat × Str × Nat)) (v7 v8 v9 v10 v11 : Option V), σ = [some (.ref t), some (.ref B), some (.ref W), some (.ref A), some (.int (all.length : Int)), some (.int (b : Int)), some (wrV (if all = [] then some 0 else none)), v7, v8, v9, v10, v11] ∧
  Same H H' ∧ Cuts H' B W A ls ∧ all.length - b ≤ n ∧ ls.length ≤ b ∧ (ls ++ (cutF wd all n b).1, (cutF wd all n b).2) = cutF wd all all.length 0
def msCut (m : Nat) (σ : L2.St) : Nat := match σ with
  | _ :: _ :: _ :: _ :: _ :: some (.int a) :: _ => m - a.toNat
  | _ => 0
/-! ### the reading of a turn -/
def t_look (D : Addr) (L : List (Int × Value)) : TS := tIfS (tTest (tOp (rNiI D L) (tOp rIxd (tVar 0) (tVar 7)) (tC (V.ref D))))
  (tSeq (tAsg (tCall spExt [] E0 (tCons (tVar 0) (tCons (tVar 7) tNil))) (gTupD 2 (gCons (gName 7) (gCons (gName 8) gNil))))
    (tIfS (tOr (tNot (tTest (tChain (rI0 fun i j => V.bl (decide (i < j))) (rI0 fun i j => V.bl (decide (i ≤ j))) (tC (V.int 0)) (tOp (rI0 fun i j => V.int (i - j)) (tVar 7) (tVar 5)) (tOp (rI CMul fun i j => V.int (i * j)) (tC (V.int 2)) (tC (V.int 3))))))
      (tOr (tTest (tOp rEq (tOp rIxd (tVar 0) (tOp (rI0 fun i j => V.int (i + j)) (tVar 5) (tC (V.int 1)))) (tC (V.int 0))))
        (tOr (tTest (tOp (rI0 fun i j => V.bl (decide (j ≤ i))) (tVar 7) (tVar 4))) (tTest (tOp (rNiI D L) (tOp rIxd (tVar 0) (tVar 7)) (tC (V.ref D)))))))
      (tSeq (tAsg (tVar 5) (gName 6)) tBreak) tNext)) tNext
def t_row (K : PySem.W.Frag) (D : Addr) (L : List (Int × Value)) : TS := tAsg (tOp (rIxI D L) (tC (V.ref D)) (tOp rIxd (tVar 0) (tVar 7))) (gTup K 2 (gCons (gName 9) (gCons (gName 10) gNil)))
def t_end : TS := tAsg (tOp (rI0 fun i j => V.int (i + j)) (tVar 7) (tOp (rI CMul fun i j => V.int (i * j)) (tC (V.int 2)) (tVar 10))) (gName 11)
def t_bad (K : PySem.W.Frag) : TS := tIfS (tOr (tTest (tOp (rI0 fun i j => V.bl (decide (j < i))) (tVar 11) (tVar 4))) (tAnd (tTest (tOp (rI0 fun i j => V.bl (decide (j < i))) (tVar 10) (tC (V.int 1))))
    (tB (tCB (rAnyT K) (tCons (tSl (rSlT K) (tVar 0) (tPart (tOp (rI0 fun i j => V.int (i + j)) (tVar 7) (tC (V.int 2)))) (tPart (tVar 11))) tNil)))))
  (tSeq (tAsg (tVar 5) (gName 6)) tBreak) tNext
def t_put (K : PySem.W.Frag) : TS := tSeq (tDrop (tBM K "list" rAppend (tVar 1) (tCons (tVar 5) tNil))) (tSeq (tDrop (tBM K "list" rAppend (tVar 2) (tCons (tVar 9) tNil)))
  (tSeq (tDrop (tBM K "list" rAppend (tVar 3) (tCons (tOp (rI0 fun i j => V.int (Builtin.bitOr i j)) (tVar 8) (tOp rIxd (tVar 0) (tOp (rI0 fun i j => V.int (i + j)) (tVar 7) (tC (V.int 1))))) tNil))) (tAsg (tVar 11) (gName 5))))
def t_step (K : PySem.W.Frag) (D : Addr) (L : List (Int × Value)) : TS := tSeq (tAsg (tVar 5) (gName 7)) (tSeq (tAsg (tC (V.int 0)) (gName 8)) (tSeq (t_look D L) (tSeq (t_row K D L) (tSeq t_end (tSeq (t_bad K) (t_put K))))))
theorem WordsT.some' {K : PySem.W.Frag} {mg : Str → Option Value} {D : Addr} {L : List (Int × Value)} {wd : WD} (W : WordsT K mg D L wd) (n : Nat) : (getI L (n : Int)).isSome = (wd n).isSome := by
  cases e : wd n with
  | none => rw [W.no n e]; rfl
  | some p =>
    obtain ⟨w, u⟩ := p
    obtain ⟨_, _, t, e2, _⟩ := W.yes n w u e
    rw [e2]
    rfl
section
variable {K : PySem.W.Frag} {mg : Str → Option Value} {Dw : Addr} {L : List (Int × Value)} {wd : WD} {D : Ends} {s1 s2 s3 s6 s8 s9 s10 s11 : Option V} {t : Addr} {all : List Nat} {b : Nat} {H : Hp}
def firstF (wd : WD) (all : List Nat) (b : Nat) : Nat × Nat := if (wd (all.getD b 0)).isSome then (b, 0) else extF all all.length b 0
theorem r_niI {d : Addr} {x y : V} {H : Hp} {Q : VK} : rNiI d L x y H Q = ∃ k, x = .int k ∧ y = .ref d ∧ Q (.bl (!(getI L k).isSome)) H := rfl
theorem extF_gt {n i a : Nat} (h : i < (extF all n i a).1) : i + 1 < all.length := by
  cases n with
  | zero => exact absurd h (Nat.lt_irrefl _)
  | succ n =>
    rw [extF] at h
    split at h
    · rename_i q
      exact q.1
    · exact absurd h (Nat.lt_irrefl _)
theorem extF_ge : ∀ {n i a : Nat}, 256 ∣ a → i ≤ (extF all n i a).1 ∧ 256 ∣ (extF all n i a).2
  | 0, i, a, h => ⟨Nat.le_refl _, h⟩
  | n + 1, i, a, h => by
    rw [extF]
    split
    · obtain ⟨h1, h2⟩ := extF_ge (n := n) (i := i + 2) (a := (a + all.getD (i + 1) 0) * 256) ⟨a + all.getD (i + 1) 0, Nat.mul_comm _ _⟩
      exact ⟨by omega, h2⟩
    · exact ⟨Nat.le_refl _, h⟩
theorem firstF_ge : b ≤ (firstF wd all b).1 ∧ 256 ∣ (firstF wd all b).2 := by
  unfold firstF
  split
  · exact ⟨Nat.le_refl _, ⟨0, rfl⟩⟩
  · exact extF_ge ⟨0, rfl⟩
theorem nextF_eq : nextF wd all b = (if (wd (all.getD b 0)).isNone ∧ (¬ (b < (firstF wd all b).1 ∧ (firstF wd all b).1 ≤ b + 6) ∨ all.getD (b + 1) 0 = 0 ∨ all.length ≤ (firstF wd all b).1) then none else match wd (all.getD (firstF wd all b).1 0) with
      | none => none
      | some (w, u) => if all.length < (firstF wd all b).1 + 2 * u ∨ (1 < u ∧ nz ((all.drop ((firstF wd all b).1 + 2)).take (2 * u - 2)) = true) then none else some (w, (firstF wd all b).2 + all.getD ((firstF wd all b).1 + 1) 0, (firstF wd all b).1 + 2 * u)) := rfl
theorem look_run (WT : WordsT K mg Dw L wd) (ht : H t = some (.tup (vn all))) (hl : all.length ≤ 4000) (hb : ∀ x ∈ all, x < 256) (hbl : b < all.length)
    (bad : ∀ s7 s8 H', Same H H' → nextF wd all b = none → D.bk [some (.ref t), s1, s2, s3, some (.int (all.length : Int)), some (.int (b : Int)), some (.int (b : Int)), s7, s8, s9, s10, s11] H')
    (ok : ∀ (i a : Nat) H', Same H H' → i < all.length → firstF wd all b = (i, a) → (wd (all.getD i 0)).isSome = true → ¬ ((wd (all.getD b 0)).isNone ∧ (¬ (b < i ∧ i ≤ b + 6) ∨ all.getD (b + 1) 0 = 0 ∨ all.length ≤ i)) → D.nx [some (.ref t), s1, s2, s3, some (.int (all.length : Int)), some (.int (b : Int)), s6, some (.int (i : Int)), some (.int (a : Int)), s9, s10, s11] H') :
    t_look Dw L D [some (.ref t), s1, s2, s3, some (.int (all.length : Int)), some (.int (b : Int)), s6, some (.int (b : Int)), some (.int ((0 : Nat) : Int)), s9, s10, s11] H := by
  unfold t_look
  have e1 := vn_at hbl
  simp only [r_seq, r_next, r_brk, r_cont, r_asg, r_name, r_ret, r_retN, r_drop, r_ifs, r_never, r_var, r_c, r_op, r_un, r_if, r_tst, r_b, r_not, r_and, r_or, r_andV, r_orV, r_notV, r_nil, r_cons, r_tup, r_lst, r_cb, r_call, r_bm, r_bm0, r_sl, r_nopart, r_part, r_rev, r_gnil, r_gcons, r_gsub, r_par, r_aug, r_chain, r_I0, r_I, r_U, r_ixd, r_lend, r_tupd, r_listd, r_sld, r_app, r_ext, r_reverse, r_setl, r_cat, r_int1, r_eqS, r_neS, scal_ii, scal_bb, scal_ss, at0, at1, at2, sq_lst, sq_tup, isLst_lst, List.getElem?_cons_zero, List.getElem?_cons_succ, List.set_cons_zero, List.set_cons_succ, V.int.injEq, V.bl.injEq, V.ref.injEq, V.str.injEq, HO.lst.injEq, HO.tup.injEq, Option.some.injEq, exists_eq_left', exists_eq_left, List.cons.injEq, and_true, true_and, decide_eq_true_eq, reduceCtorEq, false_and, exists_false, or_false, false_or, exists_const, and_assoc, exists_and_left, List.append_nil, ix0, ix1, ix2, cm_mod, cdw1009, cdw2003, cdw7, cdw64, cdw2, cm104729, cm2, cm3, upd_same, List.length_cons, List.length_nil, Int.reduceLT, Int.reduceLE, Nat.reduceAdd, Nat.reduceLeDiff, Nat.reduceLT, Int.reduceToNat, r_for1, r_forL, r_forT, r_lcL, r_lc1, r_yes, r_gtupD, wipe_0, wipe_1, List.cons_append, List.nil_append, r_forS, r_ipI, ite_false, ite_true, Bool.not_true, Bool.not_false, decide_true, decide_false, r_isd, r_islt, cD_ty, cD_ref, tD_non, tD_bl, tD_int, tD_str, tD_ref, tH_lst, tH_tup, tH_dK, tH_ins, ki_self, ki_int_bool, ki_non_int, ki_str_int, ki_lt_lst, ki_lt_tup, r_fld, r_sfld, HO.ins.injEq, cx_K, ht, e1, r_niI]
  rw [WT.some']
  by_cases hw : (wd (all.getD b 0)).isSome = true
  · rw [hw]
    exact ok b 0 H (Same.refl H) hbl (by unfold firstF; rw [if_pos hw]) hw (fun q => by rw [Option.isNone_iff_eq_none] at q; rw [q.1] at hw; cases hw)
  · have hn : (wd (all.getD b 0)).isNone = true := by
      cases e : wd (all.getD b 0) with
      | none => rfl
      | some x => exact absurd (by rw [e]; rfl) hw
    have hw' : (wd (all.getD b 0)).isSome = false := by
      cases e : (wd (all.getD b 0)).isSome with
      | false => rfl
      | true => exact absurd e hw
    rw [hw']
    rw [if_pos (by rfl)]
    refine ⟨t, all, b, rfl, ht, hl, hb, fun p H1 hp k1 h1 => ⟨p, rfl, _, h1, rfl, _, _, rfl, _, _, rfl, rfl, ?_⟩⟩
    have gt := extF_gt (all := all) (n := all.length) (i := b) (a := 0)
    have fi : firstF wd all b = extF all all.length b 0 := by unfold firstF; rw [if_neg hw]
    have nx : nextF wd all b = (if (wd (all.getD b 0)).isNone ∧ (¬ (b < (firstF wd all b).1 ∧ (firstF wd all b).1 ≤ b + 6) ∨ all.getD (b + 1) 0 = 0 ∨ all.length ≤ (firstF wd all b).1) then none else match wd (all.getD (firstF wd all b).1 0) with
      | none => none
      | some (w, u) => if all.length < (firstF wd all b).1 + 2 * u ∨ (1 < u ∧ nz ((all.drop ((firstF wd all b).1 + 2)).take (2 * u - 2)) = true) then none else some (w, (firstF wd all b).2 + all.getD ((firstF wd all b).1 + 1) 0, (firstF wd all b).1 + 2 * u)) := rfl
    rw [fi] at nx
    obtain ⟨i, a, er⟩ : ∃ i a, extF all all.length b 0 = (i, a) := ⟨_, _, rfl⟩
    rw [er] at fi nx gt ⊢
    dsimp only at gt nx ⊢
    have ht1 := k1 _ _ ht
    refine ⟨_, rfl, ?_⟩
    by_cases c1 : b < i
    · rw [if_pos (show 0 < (i : Int) - (b : Int) by omega)]
      by_cases c2 : i ≤ b + 6
      · rw [if_neg (by rw [show decide ((i : Int) - (b : Int) ≤ 2 * 3) = true from decide_eq_true (by omega)]; decide)]
        refine ⟨vn all, by rw [ht1]; rfl, _, vn_at (gt c1), rfl, ?_⟩
        by_cases c3 : all.getD (b + 1) 0 = 0
        · rw [if_pos (by rw [c3]; rfl)]
          exact bad _ _ H1 k1 (by rw [nx, if_pos ⟨hn, .inr (.inl c3)⟩])
        · rw [if_neg (fun q : V.int ((all.getD (b + 1) 0 : Nat) : Int) = V.int 0 => c3 (Int.ofNat.inj (V.int.inj q)))]
          refine ⟨_, rfl, ?_⟩
          by_cases c4 : all.length ≤ i
          · rw [if_pos (by omega)]
            exact bad _ _ H1 k1 (by rw [nx, if_pos ⟨hn, .inr (.inr c4)⟩])
          · rw [if_neg (by omega)]
            have ng : ¬ ((wd (all.getD b 0)).isNone = true ∧ (¬ (b < i ∧ i ≤ b + 6) ∨ all.getD (b + 1) 0 = 0 ∨ all.length ≤ i)) := by
              rintro ⟨_, q | q | q⟩
              · exact q ⟨c1, c2⟩
              · exact c3 q
              · exact c4 q
            rw [if_neg ng] at nx
            refine ⟨_, rfl, vn all, by rw [ht1]; rfl, _, vn_at (by omega), _, rfl, ?_⟩
            rw [WT.some']
            cases e : wd (all.getD i 0) with
            | none =>
              rw [e] at nx
              rw [if_pos (by rfl)]
              exact bad _ _ H1 k1 nx
            | some x =>
              rw [if_neg (by simp)]
              exact ok i a H1 k1 (by omega) fi (by rw [e]; rfl) ng
      · rw [if_pos (by rw [show decide ((i : Int) - (b : Int) ≤ 2 * 3) = false from decide_eq_false (by omega)]; rfl)]
        exact bad _ _ H1 k1 (by rw [nx, if_pos ⟨hn, .inl fun q => c2 q.2⟩])
    · rw [if_neg (show ¬ (0 < (i : Int) - (b : Int)) by omega)]
      exact bad _ _ H1 k1 (by rw [nx, if_pos ⟨hn, .inl fun q => c1 q.1⟩])
end
section
variable {K : PySem.W.Frag} {mg : Str → Option Value} {Dw : Addr} {L : List (Int × Value)} {wd : WD} {D : Ends} {s1 s2 s3 s6 s9 s10 s11 : Option V} {t : Addr} {all : List Nat} {b i a u : Nat} {w : Str} {H : Hp}
theorem sIx_nat (l d n : Nat) : HT.sIx l d (some (n : Int)) = min n l := by
  simp [HT.sIx]
  omega
theorem any_nz (xs : List Nat) : ((xs.map fun d : Nat => (d : Int)).any fun n => n != 0) = nz xs := by
  unfold nz
  rw [List.any_map]
  congr 1
  funext d
  show ((d : Int) != 0) = (d != 0)
  cases d with
  | zero => rfl
  | succ d =>
    have : ((d + 1 : Nat) : Int) ≠ 0 := by omega
    simp [this]
    omega
theorem r_ixI {d : Addr} {x y : V} {H : Hp} {Q : VK} : rIxI d L x y H Q = ∃ (k : Int) (u : Value) (v : V), x = .ref d ∧ y = .int k ∧ getI L k = some u ∧ RelV v u ∧ Q v H := rfl
theorem row_run (WT : WordsT K mg Dw L wd) (ht : H t = some (.tup (vn all))) (hi : i < all.length) (hw : wd (all.getD i 0) = some (w, u))
    (k : D.nx [some (.ref t), s1, s2, s3, some (.int (all.length : Int)), some (.int (b : Int)), s6, some (.int (i : Int)), some (.int (a : Int)), some (.str w), some (.int (u : Int)), s11] H) :
    t_row K Dw L D [some (.ref t), s1, s2, s3, some (.int (all.length : Int)), some (.int (b : Int)), s6, some (.int (i : Int)), some (.int (a : Int)), s9, s10, s11] H := by
  unfold t_row
  have e1 := vn_at hi
  obtain ⟨_, _, p, e2, sq⟩ := WT.yes _ _ _ hw
  simp only [r_seq, r_next, r_brk, r_cont, r_asg, r_name, r_ret, r_retN, r_drop, r_ifs, r_never, r_var, r_c, r_op, r_un, r_if, r_tst, r_b, r_not, r_and, r_or, r_andV, r_orV, r_notV, r_nil, r_cons, r_tup, r_lst, r_cb, r_call, r_bm, r_bm0, r_sl, r_nopart, r_part, r_rev, r_gnil, r_gcons, r_gsub, r_par, r_aug, r_chain, r_I0, r_I, r_U, r_ixd, r_lend, r_tupd, r_listd, r_sld, r_app, r_ext, r_reverse, r_setl, r_cat, r_int1, r_eqS, r_neS, scal_ii, scal_bb, scal_ss, at0, at1, at2, sq_lst, sq_tup, isLst_lst, List.getElem?_cons_zero, List.getElem?_cons_succ, List.set_cons_zero, List.set_cons_succ, V.int.injEq, V.bl.injEq, V.ref.injEq, V.str.injEq, HO.lst.injEq, HO.tup.injEq, Option.some.injEq, exists_eq_left', exists_eq_left, List.cons.injEq, and_true, true_and, decide_eq_true_eq, reduceCtorEq, false_and, exists_false, or_false, false_or, exists_const, and_assoc, exists_and_left, List.append_nil, ix0, ix1, ix2, cm_mod, cdw1009, cdw2003, cdw7, cdw64, cdw2, cm104729, cm2, cm3, upd_same, List.length_cons, List.length_nil, Int.reduceLT, Int.reduceLE, Nat.reduceAdd, Nat.reduceLeDiff, Nat.reduceLT, Int.reduceToNat, r_for1, r_forL, r_forT, r_lcL, r_lc1, r_yes, r_gtupD, wipe_0, wipe_1, List.cons_append, List.nil_append, r_forS, r_ipI, ite_false, ite_true, Bool.not_true, Bool.not_false, decide_true, decide_false, r_isd, r_islt, cD_ty, cD_ref, tD_non, tD_bl, tD_int, tD_str, tD_ref, tH_lst, tH_tup, tH_dK, tH_ins, ki_self, ki_int_bool, ki_non_int, ki_str_int, ki_lt_lst, ki_lt_tup, r_fld, r_sfld, HO.ins.injEq, cx_K, ht, e1]
  exact ⟨_, .ref p, .ref p, rfl, rfl, e2, rfl, p, _, rfl, sq H, rfl, .str w, _, rfl, .int (u : Int), _, rfl, rfl, k⟩
theorem cend_run (k : D.nx [some (.ref t), s1, s2, s3, some (.int (all.length : Int)), some (.int (b : Int)), s6, some (.int (i : Int)), some (.int (a : Int)), some (.str w), some (.int (u : Int)), some (.int ((i + 2 * u : Nat) : Int))] H) :
    t_end D [some (.ref t), s1, s2, s3, some (.int (all.length : Int)), some (.int (b : Int)), s6, some (.int (i : Int)), some (.int (a : Int)), some (.str w), some (.int (u : Int)), s11] H := by
  unfold t_end
  have c2 : CMul 2 (u : Int) := .inl (by decide)
  have e : (i : Int) + 2 * (u : Int) = ((i + 2 * u : Nat) : Int) := by omega
  simp only [r_seq, r_next, r_brk, r_cont, r_asg, r_name, r_ret, r_retN, r_drop, r_ifs, r_never, r_var, r_c, r_op, r_un, r_if, r_tst, r_b, r_not, r_and, r_or, r_andV, r_orV, r_notV, r_nil, r_cons, r_tup, r_lst, r_cb, r_call, r_bm, r_bm0, r_sl, r_nopart, r_part, r_rev, r_gnil, r_gcons, r_gsub, r_par, r_aug, r_chain, r_I0, r_I, r_U, r_ixd, r_lend, r_tupd, r_listd, r_sld, r_app, r_ext, r_reverse, r_setl, r_cat, r_int1, r_eqS, r_neS, scal_ii, scal_bb, scal_ss, at0, at1, at2, sq_lst, sq_tup, isLst_lst, List.getElem?_cons_zero, List.getElem?_cons_succ, List.set_cons_zero, List.set_cons_succ, V.int.injEq, V.bl.injEq, V.ref.injEq, V.str.injEq, HO.lst.injEq, HO.tup.injEq, Option.some.injEq, exists_eq_left', exists_eq_left, List.cons.injEq, and_true, true_and, decide_eq_true_eq, reduceCtorEq, false_and, exists_false, or_false, false_or, exists_const, and_assoc, exists_and_left, List.append_nil, ix0, ix1, ix2, cm_mod, cdw1009, cdw2003, cdw7, cdw64, cdw2, cm104729, cm2, cm3, upd_same, List.length_cons, List.length_nil, Int.reduceLT, Int.reduceLE, Nat.reduceAdd, Nat.reduceLeDiff, Nat.reduceLT, Int.reduceToNat, r_for1, r_forL, r_forT, r_lcL, r_lc1, r_yes, r_gtupD, wipe_0, wipe_1, List.cons_append, List.nil_append, r_forS, r_ipI, ite_false, ite_true, Bool.not_true, Bool.not_false, decide_true, decide_false, r_isd, r_islt, cD_ty, cD_ref, tD_non, tD_bl, tD_int, tD_str, tD_ref, tH_lst, tH_tup, tH_dK, tH_ins, ki_self, ki_int_bool, ki_non_int, ki_str_int, ki_lt_lst, ki_lt_tup, r_fld, r_sfld, HO.ins.injEq, cx_K, c2, e]
  exact k
theorem bad_run (ht : H t = some (.tup (vn all))) (hi : i < all.length) (hu : 1 ≤ u)
    (bad : all.length < i + 2 * u ∨ (1 < u ∧ nz ((all.drop (i + 2)).take (2 * u - 2)) = true) → ∀ H', Same H H' → D.bk [some (.ref t), s1, s2, s3, some (.int (all.length : Int)), some (.int (b : Int)), some (.int (b : Int)), some (.int (i : Int)), some (.int (a : Int)), some (.str w), some (.int (u : Int)), some (.int ((i + 2 * u : Nat) : Int))] H')
    (ok : ¬ (all.length < i + 2 * u ∨ (1 < u ∧ nz ((all.drop (i + 2)).take (2 * u - 2)) = true)) → ∀ H', Same H H' → D.nx [some (.ref t), s1, s2, s3, some (.int (all.length : Int)), some (.int (b : Int)), s6, some (.int (i : Int)), some (.int (a : Int)), some (.str w), some (.int (u : Int)), some (.int ((i + 2 * u : Nat) : Int))] H') :
    t_bad K D [some (.ref t), s1, s2, s3, some (.int (all.length : Int)), some (.int (b : Int)), s6, some (.int (i : Int)), some (.int (a : Int)), some (.str w), some (.int (u : Int)), some (.int ((i + 2 * u : Nat) : Int))] H := by
  unfold t_bad
  simp only [r_seq, r_next, r_brk, r_cont, r_asg, r_name, r_ret, r_retN, r_drop, r_ifs, r_never, r_var, r_c, r_op, r_un, r_if, r_tst, r_b, r_not, r_and, r_or, r_andV, r_orV, r_notV, r_nil, r_cons, r_tup, r_lst, r_cb, r_call, r_bm, r_bm0, r_sl, r_nopart, r_part, r_rev, r_gnil, r_gcons, r_gsub, r_par, r_aug, r_chain, r_I0, r_I, r_U, r_ixd, r_lend, r_tupd, r_listd, r_sld, r_app, r_ext, r_reverse, r_setl, r_cat, r_int1, r_eqS, r_neS, scal_ii, scal_bb, scal_ss, at0, at1, at2, sq_lst, sq_tup, isLst_lst, List.getElem?_cons_zero, List.getElem?_cons_succ, List.set_cons_zero, List.set_cons_succ, V.int.injEq, V.bl.injEq, V.ref.injEq, V.str.injEq, HO.lst.injEq, HO.tup.injEq, Option.some.injEq, exists_eq_left', exists_eq_left, List.cons.injEq, and_true, true_and, decide_eq_true_eq, reduceCtorEq, false_and, exists_false, or_false, false_or, exists_const, and_assoc, exists_and_left, List.append_nil, ix0, ix1, ix2, cm_mod, cdw1009, cdw2003, cdw7, cdw64, cdw2, cm104729, cm2, cm3, upd_same, List.length_cons, List.length_nil, Int.reduceLT, Int.reduceLE, Nat.reduceAdd, Nat.reduceLeDiff, Nat.reduceLT, Int.reduceToNat, r_for1, r_forL, r_forT, r_lcL, r_lc1, r_yes, r_gtupD, wipe_0, wipe_1, List.cons_append, List.nil_append, r_forS, r_ipI, ite_false, ite_true, Bool.not_true, Bool.not_false, decide_true, decide_false, r_isd, r_islt, cD_ty, cD_ref, tD_non, tD_bl, tD_int, tD_str, tD_ref, tH_lst, tH_tup, tH_dK, tH_ins, ki_self, ki_int_bool, ki_non_int, ki_str_int, ki_lt_lst, ki_lt_tup, r_fld, r_sfld, HO.ins.injEq, cx_K, ht]
  by_cases c1 : all.length < i + 2 * u
  · rw [if_pos (by omega)]
    exact bad (.inl c1) H (Same.refl H)
  · rw [if_neg (by omega)]
    by_cases c2 : 1 < u
    · rw [if_pos (by omega)]
      have ec : cutV (vn all) (some ((i : Int) + 2)) (some ((i + 2 * u : Nat) : Int)) = vn ((all.drop (i + 2)).take (2 * u - 2)) := by
        rw [show (i : Int) + 2 = ((i + 2 : Nat) : Int) from by omega]
        unfold cutV
        rw [sIx_nat, sIx_nat, vn_len, Nat.min_eq_left (by omega), Nat.min_eq_left (by omega), show i + 2 * u - (i + 2) = 2 * u - 2 from by omega]
        simp [vn]
      refine ⟨t, vn all, rfl, SqT.of ht, fun q => ?_, fun p hp => ?_⟩
      · have := q.1
        rw [show (i : Int) + 2 = ((i + 2 : Nat) : Int) from by omega, sIx_nat, vn_len] at this
        omega
      · rw [ec]
        refine ⟨p, ((all.drop (i + 2)).take (2 * u - 2)).map (fun d : Nat => (d : Int)), rfl, SqT.of (by rw [upd_same]; simp [vn]; rfl), _, rfl, ?_⟩
        rw [any_nz]
        cases e : nz ((all.drop (i + 2)).take (2 * u - 2)) with
        | true =>
          rw [if_pos rfl]
          exact bad (.inr ⟨c2, e⟩) _ (Same.new' (Same.refl H) hp)
        | false =>
          rw [if_neg (by decide)]
          refine ok (fun q => ?_) _ (Same.new' (Same.refl H) hp)
          rcases q with q | ⟨_, q⟩
          · exact c1 q
          · rw [e] at q
            cases q
    · rw [if_neg (by omega)]
      refine ok (fun q => ?_) H (Same.refl H)
      rcases q with q | ⟨q, _⟩
      · exact c1 q
      · exact c2 q
theorem put_run {B W A : Addr} {ls : List (Nat × Str × Nat)} (ht : H t = some (.tup (vn all))) (hi : i + 1 < all.length) (hb : ∀ x ∈ all, x < 256) (ha : 256 ∣ a) (c : Cuts H B W A ls) (hl : ls.length ≤ 5000) (ds : B ≠ W ∧ B ≠ A ∧ W ≠ A)
    (k : ∀ H', (∀ y o, y ≠ B → y ≠ W → y ≠ A → H y = some o → H' y = some o) → Cuts H' B W A (ls ++ [(b, w, a + all.getD (i + 1) 0)]) → D.nx [some (.ref t), some (.ref B), some (.ref W), some (.ref A), some (.int (all.length : Int)), some (.int ((i + 2 * u : Nat) : Int)), s6, some (.int (i : Int)), some (.int (a : Int)), some (.str w), some (.int (u : Int)), some (.int ((i + 2 * u : Nat) : Int))] H') :
    t_put K D [some (.ref t), some (.ref B), some (.ref W), some (.ref A), some (.int (all.length : Int)), some (.int (b : Int)), s6, some (.int (i : Int)), some (.int (a : Int)), some (.str w), some (.int (u : Int)), some (.int ((i + 2 * u : Nat) : Int))] H := by
  unfold t_put
  obtain ⟨c1, c2, c3⟩ := c
  obtain ⟨BW, BA, WA⟩ := ds
  have nt : ∀ {y : Addr} {xs : List V}, H y = some (.lst xs) → t ≠ y := fun h z => by rw [z, h] at ht; cases ht
  have lsz : ∀ {α : Type} (f : Nat × Str × Nat → α), (ls.map f).length < sizeLine := fun f => Nat.lt_of_le_of_lt (by rw [List.length_map]; omega : _ ≤ 5000) (by decide)
  simp only [r_seq, r_next, r_brk, r_cont, r_asg, r_name, r_ret, r_retN, r_drop, r_ifs, r_never, r_var, r_c, r_op, r_un, r_if, r_tst, r_b, r_not, r_and, r_or, r_andV, r_orV, r_notV, r_nil, r_cons, r_tup, r_lst, r_cb, r_call, r_bm, r_bm0, r_sl, r_nopart, r_part, r_rev, r_gnil, r_gcons, r_gsub, r_par, r_aug, r_chain, r_I0, r_I, r_U, r_ixd, r_lend, r_tupd, r_listd, r_sld, r_app, r_ext, r_reverse, r_setl, r_cat, r_int1, r_eqS, r_neS, scal_ii, scal_bb, scal_ss, at0, at1, at2, sq_lst, sq_tup, isLst_lst, List.getElem?_cons_zero, List.getElem?_cons_succ, List.set_cons_zero, List.set_cons_succ, V.int.injEq, V.bl.injEq, V.ref.injEq, V.str.injEq, HO.lst.injEq, HO.tup.injEq, Option.some.injEq, exists_eq_left', exists_eq_left, List.cons.injEq, and_true, true_and, decide_eq_true_eq, reduceCtorEq, false_and, exists_false, or_false, false_or, exists_const, and_assoc, exists_and_left, List.append_nil, ix0, ix1, ix2, cm_mod, cdw1009, cdw2003, cdw7, cdw64, cdw2, cm104729, cm2, cm3, upd_same, List.length_cons, List.length_nil, Int.reduceLT, Int.reduceLE, Nat.reduceAdd, Nat.reduceLeDiff, Nat.reduceLT, Int.reduceToNat, r_for1, r_forL, r_forT, r_lcL, r_lc1, r_yes, r_gtupD, wipe_0, wipe_1, List.cons_append, List.nil_append, r_forS, r_ipI, ite_false, ite_true, Bool.not_true, Bool.not_false, decide_true, decide_false, r_isd, r_islt, cD_ty, cD_ref, tD_non, tD_bl, tD_int, tD_str, tD_ref, tH_lst, tH_tup, tH_dK, tH_ins, ki_self, ki_int_bool, ki_non_int, ki_str_int, ki_lt_lst, ki_lt_tup, r_fld, r_sfld, HO.ins.injEq, cx_K, c1]
  have w1 : L2.upd H B (.lst (vn (ls.map (·.1)) ++ [V.int (b : Int)])) W = some (.lst (ls.map fun x => V.str x.2.1)) := by rw [upd_ne BW.symm]; exact c2
  have a2 : L2.upd (L2.upd H B (.lst (vn (ls.map (·.1)) ++ [V.int (b : Int)]))) W (.lst ((ls.map fun x => V.str x.2.1) ++ [V.str w])) A = some (.lst (vn (ls.map (·.2.2)))) := by rw [upd_ne WA.symm, upd_ne BA.symm]; exact c3
  have t2 : sq (L2.upd (L2.upd H B (.lst (vn (ls.map (·.1)) ++ [V.int (b : Int)]))) W (.lst ((ls.map fun x => V.str x.2.1) ++ [V.str w])) t) = some (vn all) := by rw [upd_ne (nt c2), upd_ne (nt c1), ht]; rfl
  have e3 : Builtin.bitOr (a : Int) ((all.getD (i + 1) 0 : Nat) : Int) = ((a + all.getD (i + 1) 0 : Nat) : Int) := by
    have := b256 hb (i + 1)
    obtain ⟨y, rfl⟩ := ha
    rw [show ((256 * y : Nat) : Int) = (y : Int) * 2 ^ 8 from by omega, Bits.bitOr_join' (by omega) (by omega) (by omega)]
    omega
  refine ⟨tyl c1, by rw [vn_len]; exact lsz _, tyl w1, _, w1, lsz _, tyl a2, _, t2, _, vn_at hi, _, rfl, _, a2, by rw [vn_len]; exact lsz _, ?_⟩
  rw [e3]
  refine k _ (fun y o n1 n2 n3 e => by rw [upd_ne n3, upd_ne n2, upd_ne n1]; exact e) ⟨?_, ?_, ?_⟩
  · rw [upd_ne BA, upd_ne BW, upd_same]
    simp [vn]
  · rw [upd_ne WA, upd_same]
    simp
  · rw [upd_same]
    simp [vn]
end
section
variable {P : Program} {w : World} {K : PySem.W.Frag} {mg : Str → Option Value} {base : Heap} {f : Addr} {fd : FuncData}
abbrev scut : Stmt := top 33
theorem sccut : FnScope ["data", "begins", "words", "arguments", "size", "begin", "wrong", "at", "argument", "word", "units", "end"] ["data"] (defScope scut) := ⟨rfl, rfl, rfl, by decide +kernel, rfl, by decide +kernel, by decide +kernel⟩

theorem ok_cut {D : Addr} {L : List (Int × Value)} {wd : WD} (T : Txt mg) (T2 : Txt2 mg) (WT : WordsT K mg D L wd) (F : FnP K "cut" "cut" scut f fd) (C_behind_extension : Cal P w K mg base 1 "behind_extension" ["data", "at"] spExt) : FnOk P w K mg base CX0 2 f fd ["data"] (spCut wd) := by
  refine F.ok sccut (fun vs H Q E h => ?_) (fun cdv A outer s H vs Q E hr h => ?_)
  · obtain ⟨t, all, rfl, _⟩ := h
    rfl
  · obtain ⟨t, all, rfl, ht, hl, hb, k⟩ := h
    refine ⟨_, PSs.nox (pss_cons (ps_par3 (i := 1) (j := 2) (l := 3) (by rfl) sccut.nd rfl rfl rfl (by decide) (by decide) (by decide) rfl rfl rfl (pa_cons (pe_lst pa_nil) (pa_cons (pe_lst pa_nil) (pa_cons (pe_lst pa_nil) pa_nil))) (by rfl))
  (pss_cons (ps_set (i := 4) sccut.nd rfl (Or.inl rfl) (pe_callB call_len_d (by rfl) T.b_len (by decide +kernel) (pa_cons (pv 0) pa_nil)))
  (pss_cons (ps_set (i := 5) sccut.nd rfl (Or.inl rfl) pe_int)
  (pss_cons (ps_set (i := 6) sccut.nd rfl (Or.inl rfl) (pe_ifExp (pt_truth (pv 0) (by intro _; rfl)) pe_non pe_int))
  (pss_cons (ps_while PassesOwn.never (pt_cmpR op_lt (pv 5) (pv 4) (nomark _))
    (pss_cons (ps_set (i := 7) sccut.nd rfl (Or.inl rfl) (pv 5))
  (pss_cons (ps_set (i := 8) sccut.nd rfl (Or.inl rfl) pe_int)
  (pss_cons (ps_if (pt_cmpR (op_niI WT.d) (pe_ix ix_d (pv 0) (pv 7) (fun _ _ => rfl)) (pe_glob rfl WT.g (show RelV (V.ref D) (Value.ref D) from rfl) (by decide)) (by rfl))
    (pss_cons (ps_asg (pe_cal C_behind_extension (hr.mono (by decide)) rfl (pa_cons (pv 0) (pa_cons (pv 7) pa_nil))) (pg_tupD (n := 2) rfl (pgs_cons (pg_name (i := 7) sccut.nd rfl (Or.inl rfl)) (pgs_cons (pg_name (i := 8) sccut.nd rfl (Or.inl rfl)) pgs_nil))))
  (pss_one (ps_if (PW.pt (pw_or (pt_not (pt_chain op_lt op_le pe_int (pe_op op_sub (pv 7) (pv 5)) (pe_op op_mul pe_int (pe_gi T2.g_MOST_EXTENDED)))) (pw_or (pt_cmpR op_eq (pe_ix ix_d (pv 0) (pe_op op_add (pv 5) pe_int) (fun _ _ => rfl)) pe_int (nomark _)) (pw_or (pt_cmpR op_ge (pv 7) (pv 4) (nomark _)) (pw_or1 (pt_cmpR (op_niI WT.d) (pe_ix ix_d (pv 0) (pv 7) (fun _ _ => rfl)) (pe_glob rfl WT.g (show RelV (V.ref D) (Value.ref D) from rfl) (by decide)) (by rfl)))))))
    (pss_cons (ps_set (i := 6) sccut.nd rfl (Or.inl rfl) (pv 5))
  (pss_one ps_break))
    pss_nil)))
    pss_nil)
  (pss_cons (ps_asg (pe_ix (ix_I WT.d) (pe_glob rfl WT.g (show RelV (V.ref D) (Value.ref D) from rfl) (by decide)) (pe_ix ix_d (pv 0) (pv 7) (fun _ _ => rfl)) (fun _ _ => rfl)) (pg_tup (n := 2) rfl (pgs_cons (pg_name (i := 9) sccut.nd rfl (Or.inl rfl)) (pgs_cons (pg_name (i := 10) sccut.nd rfl (Or.inl rfl)) pgs_nil))))
  (pss_cons (ps_set (i := 11) sccut.nd rfl (Or.inl rfl) (pe_op op_add (pv 7) (pe_op op_mul pe_int (pv 10))))
  (pss_cons (ps_if (PW.pt (pw_or (pt_cmpR op_gt (pv 11) (pv 4) (nomark _)) (pw_or1 (PW.pt (pw_and (pt_cmpR op_gt (pv 10) pe_int (nomark _)) (pw_and1 (pt_val (pe_callB (cr_anyT rfl) (by rfl) T.b_any (by decide +kernel) (pa_cons (pe_slice sl_tup (pv 0) (po_some (pe_op op_add (pv 7) pe_int)) (po_some (pv 11))) pa_nil)))))))))
    (pss_cons (ps_set (i := 6) sccut.nd rfl (Or.inl rfl) (pv 5))
  (pss_one ps_break))
    pss_nil)
  (pss_cons (ps_expr (pe_bm PySem.F.plainAttrs_list PySem.F.slot_list_append PySem.F.type_list_append mt_append (pv 1) (pa_cons (pv 5) pa_nil)))
  (pss_cons (ps_expr (pe_bm PySem.F.plainAttrs_list PySem.F.slot_list_append PySem.F.type_list_append mt_append (pv 2) (pa_cons (pv 9) pa_nil)))
  (pss_cons (ps_expr (pe_bm PySem.F.plainAttrs_list PySem.F.slot_list_append PySem.F.type_list_append mt_append (pv 3) (pa_cons (pe_op op_or (pv 8) (pe_ix ix_d (pv 0) (pe_op op_add (pv 7) pe_int) (fun _ _ => rfl))) pa_nil)))
  (pss_one (ps_set (i := 5) sccut.nd rfl (Or.inl rfl) (pv 11)))))))))))))
  (pss_one (ps_ret (pe_tup (pa_cons (pv 1) (pa_cons (pv 2) (pa_cons (pv 3) (pa_cons (pv 6) pa_nil)))))))))))), ?_⟩
    show (_ : TS) _ [some (.ref t), none, none, none, none, none, none, none, none, none, none, none] H
    simp only [r_seq, r_next, r_brk, r_cont, r_asg, r_name, r_ret, r_retN, r_drop, r_ifs, r_never, r_var, r_c, r_op, r_un, r_if, r_tst, r_b, r_not, r_and, r_or, r_andV, r_orV, r_notV, r_nil, r_cons, r_tup, r_lst, r_cb, r_call, r_bm, r_bm0, r_sl, r_nopart, r_part, r_rev, r_gnil, r_gcons, r_gsub, r_par, r_aug, r_chain, r_I0, r_I, r_U, r_ixd, r_lend, r_tupd, r_listd, r_sld, r_app, r_ext, r_reverse, r_setl, r_cat, r_int1, r_eqS, r_neS, scal_ii, scal_bb, scal_ss, at0, at1, at2, sq_lst, sq_tup, isLst_lst, List.getElem?_cons_zero, List.getElem?_cons_succ, List.set_cons_zero, List.set_cons_succ, V.int.injEq, V.bl.injEq, V.ref.injEq, V.str.injEq, HO.lst.injEq, HO.tup.injEq, Option.some.injEq, exists_eq_left', exists_eq_left, List.cons.injEq, and_true, true_and, decide_eq_true_eq, reduceCtorEq, false_and, exists_false, or_false, false_or, exists_const, and_assoc, exists_and_left, List.append_nil, ix0, ix1, ix2, cm_mod, cdw1009, cdw2003, cdw7, cdw64, cdw2, cm104729, cm2, cm3, upd_same, List.length_cons, List.length_nil, Int.reduceLT, Int.reduceLE, Nat.reduceAdd, Nat.reduceLeDiff, Nat.reduceLT, Int.reduceToNat, r_for1, r_forL, r_forT, r_lcL, r_lc1, r_yes, r_gtupD, wipe_0, wipe_1, List.cons_append, List.nil_append, r_forS, r_ipI, ite_false, ite_true, Bool.not_true, Bool.not_false, decide_true, decide_false, r_isd, r_islt, cD_ty, cD_ref, tD_non, tD_bl, tD_int, tD_str, tD_ref, tH_lst, tH_tup, tH_dK, tH_ins, ki_self, ki_int_bool, ki_non_int, ki_str_int, ki_lt_lst, ki_lt_tup, r_fld, r_sfld, HO.ins.injEq, cx_K, r_par3]
    refine ⟨szl (by decide), fun B hB => ⟨szl (by decide), fun W hW => ⟨szl (by decide), fun A hA => ?_⟩⟩⟩
    have BW : B ≠ W := new_ne upd_same hW |>.symm
    have BA : B ≠ A := fun z => by rw [← z, upd_ne BW, upd_same] at hA; cases hA
    have WA : W ≠ A := fun z => by rw [← z, upd_same] at hA; cases hA
    have hB0 : H B = none := hB
    have hW0 : H W = none := by rw [upd_ne BW.symm] at hW; exact hW
    have hA0 : H A = none := by rw [upd_ne WA.symm, upd_ne BA.symm] at hA; exact hA
    have s0 : Same H (L2.upd (L2.upd (L2.upd H B (.lst [])) W (.lst [])) A (.lst [])) := Same.new' (Same.new' (Same.new' (Same.refl H) hB) hW) hA
    have cu : Cuts (L2.upd (L2.upd (L2.upd H B (.lst [])) W (.lst [])) A (.lst [])) B W A [] := ⟨by rw [upd_ne BA, upd_ne BW, upd_same]; rfl, by rw [upd_ne WA, upd_same]; rfl, by rw [upd_same]; rfl⟩
    generalize L2.upd (L2.upd (L2.upd H B (.lst [])) W (.lst [])) A (.lst []) = G at *
    have tG := s0 _ _ ht
    refine ⟨vn all, by rw [tG]; rfl, _, .inr (.inl ⟨_, SqT.of tG, rfl⟩), ?_⟩
    have goal : tWhile (tTest (tOp (rI0 fun i j => V.bl (decide (i < j))) (tVar 5) (tVar 4))) (t_step K D L) { nx := tRet (tTup (tCons (tVar 1) (tCons (tVar 2) (tCons (tVar 3) (tCons (tVar 6) tNil))))) { nx := fun x H' => Q V.non H', rt := Q }, rt := Q }
        [some (.ref t), some (.ref B), some (.ref W), some (.ref A), some (.int ((vn all).length : Int)), some (.int 0), some (wrV (if all = [] then some 0 else none)), none, none, none, none, none] G := by
      rw [vn_len]
      refine while_d (lvCut wd H t B W A all) (fun σ _ => msCut (all.length + 1) σ) ⟨0, all.length, [], _, _, _, _, _, rfl, s0, cu, by omega, Nat.le_refl _, rfl⟩ ?_
      rintro σ H1 ⟨b, n, ls, v7, v8, v9, v10, v11, rfl, k1, c1, hn, hls, inv⟩
      have fin : ∀ (wr : Option Nat) (r7 r8 r9 r10 r11 : Option V) H2, Same H H2 → Cuts H2 B W A (cutF wd all all.length 0).1 → wr = wrongF wd all → (tRet (tTup (tCons (tVar 1) (tCons (tVar 2) (tCons (tVar 3) (tCons (tVar 6) tNil))))) : TS) { nx := fun x H' => Q V.non H', rt := Q } [some (.ref t), some (.ref B), some (.ref W), some (.ref A), some (.int (all.length : Int)), some (.int (b : Int)), some (wrV wr), r7, r8, r9, r10, r11] H2 := by
        intro wr r7 r8 r9 r10 r11 H2 k2 c2 ew
        simp only [r_seq, r_next, r_brk, r_cont, r_asg, r_name, r_ret, r_retN, r_drop, r_ifs, r_never, r_var, r_c, r_op, r_un, r_if, r_tst, r_b, r_not, r_and, r_or, r_andV, r_orV, r_notV, r_nil, r_cons, r_tup, r_lst, r_cb, r_call, r_bm, r_bm0, r_sl, r_nopart, r_part, r_rev, r_gnil, r_gcons, r_gsub, r_par, r_aug, r_chain, r_I0, r_I, r_U, r_ixd, r_lend, r_tupd, r_listd, r_sld, r_app, r_ext, r_reverse, r_setl, r_cat, r_int1, r_eqS, r_neS, scal_ii, scal_bb, scal_ss, at0, at1, at2, sq_lst, sq_tup, isLst_lst, List.getElem?_cons_zero, List.getElem?_cons_succ, List.set_cons_zero, List.set_cons_succ, V.int.injEq, V.bl.injEq, V.ref.injEq, V.str.injEq, HO.lst.injEq, HO.tup.injEq, Option.some.injEq, exists_eq_left', exists_eq_left, List.cons.injEq, and_true, true_and, decide_eq_true_eq, reduceCtorEq, false_and, exists_false, or_false, false_or, exists_const, and_assoc, exists_and_left, List.append_nil, ix0, ix1, ix2, cm_mod, cdw1009, cdw2003, cdw7, cdw64, cdw2, cm104729, cm2, cm3, upd_same, List.length_cons, List.length_nil, Int.reduceLT, Int.reduceLE, Nat.reduceAdd, Nat.reduceLeDiff, Nat.reduceLT, Int.reduceToNat, r_for1, r_forL, r_forT, r_lcL, r_lc1, r_yes, r_gtupD, wipe_0, wipe_1, List.cons_append, List.nil_append, r_forS, r_ipI, ite_false, ite_true, Bool.not_true, Bool.not_false, decide_true, decide_false, r_isd, r_islt, cD_ty, cD_ref, tD_non, tD_bl, tD_int, tD_str, tD_ref, tH_lst, tH_tup, tH_dK, tH_ins, ki_self, ki_int_bool, ki_non_int, ki_str_int, ki_lt_lst, ki_lt_tup, r_fld, r_sfld, HO.ins.injEq, cx_K]
        refine ⟨szl (by decide : 4 ≤ 1000), fun p hp => k p B W A _ (k2.free hp) (Same.new' k2 hp) (by rw [upd_same, ew]) ⟨?_, ?_, ?_⟩⟩
        · rw [upd_ne (ne_new c2.b hp)]; exact c2.b
        · rw [upd_ne (ne_new c2.w hp)]; exact c2.w
        · rw [upd_ne (ne_new c2.a hp)]; exact c2.a
      by_cases c : b < all.length
      · refine ⟨true, fun QT q => ?_, fun _ => ?_, fun cc => (by cases cc)⟩
        · simp only [r_seq, r_next, r_brk, r_cont, r_asg, r_name, r_ret, r_retN, r_drop, r_ifs, r_never, r_var, r_c, r_op, r_un, r_if, r_tst, r_b, r_not, r_and, r_or, r_andV, r_orV, r_notV, r_nil, r_cons, r_tup, r_lst, r_cb, r_call, r_bm, r_bm0, r_sl, r_nopart, r_part, r_rev, r_gnil, r_gcons, r_gsub, r_par, r_aug, r_chain, r_I0, r_I, r_U, r_ixd, r_lend, r_tupd, r_listd, r_sld, r_app, r_ext, r_reverse, r_setl, r_cat, r_int1, r_eqS, r_neS, scal_ii, scal_bb, scal_ss, at0, at1, at2, sq_lst, sq_tup, isLst_lst, List.getElem?_cons_zero, List.getElem?_cons_succ, List.set_cons_zero, List.set_cons_succ, V.int.injEq, V.bl.injEq, V.ref.injEq, V.str.injEq, HO.lst.injEq, HO.tup.injEq, Option.some.injEq, exists_eq_left', exists_eq_left, List.cons.injEq, and_true, true_and, decide_eq_true_eq, reduceCtorEq, false_and, exists_false, or_false, false_or, exists_const, and_assoc, exists_and_left, List.append_nil, ix0, ix1, ix2, cm_mod, cdw1009, cdw2003, cdw7, cdw64, cdw2, cm104729, cm2, cm3, upd_same, List.length_cons, List.length_nil, Int.reduceLT, Int.reduceLE, Nat.reduceAdd, Nat.reduceLeDiff, Nat.reduceLT, Int.reduceToNat, r_for1, r_forL, r_forT, r_lcL, r_lc1, r_yes, r_gtupD, wipe_0, wipe_1, List.cons_append, List.nil_append, r_forS, r_ipI, ite_false, ite_true, Bool.not_true, Bool.not_false, decide_true, decide_false, r_isd, r_islt, cD_ty, cD_ref, tD_non, tD_bl, tD_int, tD_str, tD_ref, tH_lst, tH_tup, tH_dK, tH_ins, ki_self, ki_int_bool, ki_non_int, ki_str_int, ki_lt_lst, ki_lt_tup, r_fld, r_sfld, HO.ins.injEq, cx_K]
          rw [decide_eq_true (by omega)]
          exact q
        · obtain ⟨n', rfl⟩ : ∃ n', n = n' + 1 := ⟨n - 1, by omega⟩
          have ane : all ≠ [] := fun z => by rw [z] at c; cases c
          have wrong : ∀ s7 s8 s9 s10 s11 H2, Same H1 H2 → nextF wd all b = none → (tRet (tTup (tCons (tVar 1) (tCons (tVar 2) (tCons (tVar 3) (tCons (tVar 6) tNil))))) : TS) { nx := fun x H' => Q V.non H', rt := Q } [some (.ref t), some (.ref B), some (.ref W), some (.ref A), some (.int (all.length : Int)), some (.int (b : Int)), some (.int (b : Int)), s7, s8, s9, s10, s11] H2 := by
            intro s7 s8 s9 s10 s11 H2 k2 nx
            rw [cutF, if_pos c, nx] at inv
            have i1 : ls = (cutF wd all all.length 0).1 := by rw [← inv]; simp
            have i2 : some b = (cutF wd all all.length 0).2 := by rw [← inv]
            refine fin (some b) s7 s8 s9 s10 s11 H2 (fun y o e => k2 y o (k1 y o e)) (by rw [← i1]; exact ⟨k2 _ _ c1.b, k2 _ _ c1.w, k2 _ _ c1.a⟩) ?_
            unfold wrongF
            rw [if_neg ane]
            exact i2
          unfold t_step
          simp only [r_seq, r_next, r_brk, r_cont, r_asg, r_name, r_ret, r_retN, r_drop, r_ifs, r_never, r_var, r_c, r_op, r_un, r_if, r_tst, r_b, r_not, r_and, r_or, r_andV, r_orV, r_notV, r_nil, r_cons, r_tup, r_lst, r_cb, r_call, r_bm, r_bm0, r_sl, r_nopart, r_part, r_rev, r_gnil, r_gcons, r_gsub, r_par, r_aug, r_chain, r_I0, r_I, r_U, r_ixd, r_lend, r_tupd, r_listd, r_sld, r_app, r_ext, r_reverse, r_setl, r_cat, r_int1, r_eqS, r_neS, scal_ii, scal_bb, scal_ss, at0, at1, at2, sq_lst, sq_tup, isLst_lst, List.getElem?_cons_zero, List.getElem?_cons_succ, List.set_cons_zero, List.set_cons_succ, V.int.injEq, V.bl.injEq, V.ref.injEq, V.str.injEq, HO.lst.injEq, HO.tup.injEq, Option.some.injEq, exists_eq_left', exists_eq_left, List.cons.injEq, and_true, true_and, decide_eq_true_eq, reduceCtorEq, false_and, exists_false, or_false, false_or, exists_const, and_assoc, exists_and_left, List.append_nil, ix0, ix1, ix2, cm_mod, cdw1009, cdw2003, cdw7, cdw64, cdw2, cm104729, cm2, cm3, upd_same, List.length_cons, List.length_nil, Int.reduceLT, Int.reduceLE, Nat.reduceAdd, Nat.reduceLeDiff, Nat.reduceLT, Int.reduceToNat, r_for1, r_forL, r_forT, r_lcL, r_lc1, r_yes, r_gtupD, wipe_0, wipe_1, List.cons_append, List.nil_append, r_forS, r_ipI, ite_false, ite_true, Bool.not_true, Bool.not_false, decide_true, decide_false, r_isd, r_islt, cD_ty, cD_ref, tD_non, tD_bl, tD_int, tD_str, tD_ref, tH_lst, tH_tup, tH_dK, tH_ins, ki_self, ki_int_bool, ki_non_int, ki_str_int, ki_lt_lst, ki_lt_tup, r_fld, r_sfld, HO.ins.injEq, cx_K]
          refine look_run WT (k1 _ _ ht) hl hb c (fun s7 s8 H2 k2 nx => wrong _ _ _ _ _ H2 k2 nx) (fun i a H2 k2 hi fi hw ng => ?_)
          obtain ⟨⟨w', u⟩, ew⟩ := Option.isSome_iff_exists.mp hw
          obtain ⟨u1, u2, _⟩ := WT.yes _ _ _ ew
          have nx : nextF wd all b = (if all.length < i + 2 * u ∨ (1 < u ∧ nz ((all.drop (i + 2)).take (2 * u - 2)) = true) then none else some (w', a + all.getD (i + 1) 0, i + 2 * u)) := by
            rw [nextF_eq, fi]
            dsimp only
            rw [if_neg ng, ew]
          have fge := firstF_ge (wd := wd) (all := all) (b := b)
          rw [fi] at fge
          obtain ⟨ge, dv⟩ := fge
          dsimp only at ge dv
          refine row_run WT (k2 _ _ (k1 _ _ ht)) hi ew (cend_run (bad_run (k2 _ _ (k1 _ _ ht)) hi u1 (fun q H3 k3 => ?_) (fun q H3 k3 => ?_)))
          · exact wrong _ _ _ _ _ H3 (fun y o e => k3 y o (k2 y o e)) (by rw [nx, if_pos q])
          · rw [if_neg q] at nx
            have q1 : ¬ all.length < i + 2 * u := fun z => q (.inl z)
            refine put_run (k3 _ _ (k2 _ _ (k1 _ _ ht))) (by omega) hb dv ⟨k3 _ _ (k2 _ _ c1.b), k3 _ _ (k2 _ _ c1.w), k3 _ _ (k2 _ _ c1.a)⟩ (by omega) ⟨BW, BA, WA⟩ fun H4 k4 c4 => ⟨⟨i + 2 * u, n', _, _, _, _, _, _, rfl, fun y o e => ?_, c4, by omega, ?_, ?_⟩, ?_⟩
            · exact k4 y o (ne_new e hB0) (ne_new e hW0) (ne_new e hA0) (k3 _ _ (k2 _ _ (k1 _ _ e)))
            · rw [List.length_append, List.length_singleton]
              omega
            · rw [← inv, cutF, if_pos c, nx]
              simp
            · show all.length + 1 - ((i + 2 * u : Nat) : Int).toNat < all.length + 1 - (b : Int).toNat
              omega
      · refine ⟨false, fun QT q => ?_, fun cc => (by cases cc), fun _ => ?_⟩
        · simp only [r_seq, r_next, r_brk, r_cont, r_asg, r_name, r_ret, r_retN, r_drop, r_ifs, r_never, r_var, r_c, r_op, r_un, r_if, r_tst, r_b, r_not, r_and, r_or, r_andV, r_orV, r_notV, r_nil, r_cons, r_tup, r_lst, r_cb, r_call, r_bm, r_bm0, r_sl, r_nopart, r_part, r_rev, r_gnil, r_gcons, r_gsub, r_par, r_aug, r_chain, r_I0, r_I, r_U, r_ixd, r_lend, r_tupd, r_listd, r_sld, r_app, r_ext, r_reverse, r_setl, r_cat, r_int1, r_eqS, r_neS, scal_ii, scal_bb, scal_ss, at0, at1, at2, sq_lst, sq_tup, isLst_lst, List.getElem?_cons_zero, List.getElem?_cons_succ, List.set_cons_zero, List.set_cons_succ, V.int.injEq, V.bl.injEq, V.ref.injEq, V.str.injEq, HO.lst.injEq, HO.tup.injEq, Option.some.injEq, exists_eq_left', exists_eq_left, List.cons.injEq, and_true, true_and, decide_eq_true_eq, reduceCtorEq, false_and, exists_false, or_false, false_or, exists_const, and_assoc, exists_and_left, List.append_nil, ix0, ix1, ix2, cm_mod, cdw1009, cdw2003, cdw7, cdw64, cdw2, cm104729, cm2, cm3, upd_same, List.length_cons, List.length_nil, Int.reduceLT, Int.reduceLE, Nat.reduceAdd, Nat.reduceLeDiff, Nat.reduceLT, Int.reduceToNat, r_for1, r_forL, r_forT, r_lcL, r_lc1, r_yes, r_gtupD, wipe_0, wipe_1, List.cons_append, List.nil_append, r_forS, r_ipI, ite_false, ite_true, Bool.not_true, Bool.not_false, decide_true, decide_false, r_isd, r_islt, cD_ty, cD_ref, tD_non, tD_bl, tD_int, tD_str, tD_ref, tH_lst, tH_tup, tH_dK, tH_ins, ki_self, ki_int_bool, ki_non_int, ki_str_int, ki_lt_lst, ki_lt_tup, r_fld, r_sfld, HO.ins.injEq, cx_K]
          rw [decide_eq_false (by omega)]
          exact q
        · have e0 : cutF wd all n b = ([], none) := by
            cases n with
            | zero => rfl
            | succ n => rw [cutF, if_neg c]
          rw [e0] at inv
          have i1 : ls = (cutF wd all all.length 0).1 := by rw [← inv]; simp
          have i2 : none = (cutF wd all all.length 0).2 := by rw [← inv]
          refine fin _ v7 v8 v9 v10 v11 H1 k1 (by rw [← i1]; exact c1) ?_
          unfold wrongF
          rw [← i2]
    split
    · rename_i q
      have ne : all ≠ [] := fun z => by rw [z] at q; cases q
      rw [if_neg ne] at goal
      exact goal
    · rename_i q
      have ne : all = [] := by
        cases all with
        | nil => rfl
        | cons x xs => exact absurd rfl q
      rw [if_pos ne] at goal
      exact goal
end
end C57

set_option maxHeartbeats 1000000
namespace C57
open PySem PySem.Spec PyProof.Rows L2
/-! ### numbers in pieces of six bits -/
def rest (n : Nat) : List Nat := if h : n < 64 then [] else (n / 64 % 64) :: rest (n / 64)
termination_by n
decreasing_by omega
def low (n : Nat) : List Nat := (n % 64) :: rest n
theorem rest_lt {n : Nat} (h : n < 64) : rest n = [] := by
  rw [rest, dif_pos h]
theorem rest_ge {n : Nat} (h : ¬ n < 64) : rest n = low (n / 64) := by
  rw [rest, dif_neg h, low]
theorem rest_len : ∀ (k n : Nat), n < 64 ^ (k + 1) → (rest n).length ≤ k
  | 0, n, h => by rw [rest_lt (by simpa using h)]; exact Nat.le_refl _
  | k + 1, n, h => by
    by_cases c : n < 64
    · rw [rest_lt c]
      exact Nat.zero_le _
    · rw [rest_ge c, low, List.length_cons]
      have := rest_len k (n / 64) (by rw [Nat.pow_succ] at h; omega)
      omega
def spPieces : Sp := fun vs H Q _ => ∃ n : Nat, vs = [.int (n : Int)] ∧ n < 64 ^ 60 ∧ ∀ p H', H p = none → Same H H' → H' p = some (.lst (vn (low n))) → Q (.ref p) H'
def lvPieces (H : Hp) (p : Addr) (n : Nat) (i : Nat) (σ : L2.St) (H' : Hp) : Prop := ∃ (m : Nat) (ds : List Nat) (v : Option V), σ = [some (.int (m : Int)), some (.ref p), v] ∧ Same H H' ∧ H' p = some (.lst (vn ds)) ∧ ds ++ rest m = low n ∧ m = n / 64 ^ i ∧ ds.length ≤ 1 + i
section
variable {P : Program} {w : World} {K : PySem.W.Frag} {mg : Str → Option Value} {base : Heap} {f : Addr} {fd : FuncData}
abbrev spieces : Stmt := top 69
theorem scpieces : FnScope ["_law_number", "_law_found", "_law_k"] ["_law_number"] (defScope spieces) := ⟨rfl, rfl, rfl, by decide +kernel, rfl, by decide +kernel, by decide +kernel⟩

abbrev smarked : Stmt := top 70
theorem scmarked : FnScope ["_law_some", "_law_piece"] ["_law_some"] (defScope smarked) := ⟨rfl, rfl, rfl, by decide +kernel, rfl, by decide +kernel, by decide +kernel⟩

theorem ok_pieces (T : Txt mg) (F : FnP K "_law_pieces" "_law_pieces" spieces f fd) : FnOk P w K mg base CX0 1 f fd ["_law_number"] spPieces := by
  refine F.ok scpieces (fun vs H Q E h => ?_) (fun cdv A outer s H vs Q E hr h => ?_)
  · obtain ⟨n, rfl, _⟩ := h
    rfl
  · obtain ⟨n, rfl, hn, k⟩ := h
    refine ⟨_, PSs.nox (pss_cons (ps_set (i := 1) scpieces.nd rfl (Or.inl rfl) (pe_lst (pa_cons (pe_op op_mod (pe_callTy call_int1 (by rfl) T.b_int (by decide +kernel) (pa_cons (pv 0) pa_nil)) pe_int) pa_nil)))
  (pss_cons (ps_for PassesOwn.never rfl (pi_range1 rfl T.b_range (pa_cons pe_int pa_nil)) (pg_name (i := 2) scpieces.nd rfl (Or.inl rfl))
    (pss_cons (ps_set (i := 0) scpieces.nd rfl (Or.inl rfl) (pe_op op_fdivW (pv 0) pe_int))
  (pss_one (ps_if (pt_cmpR op_gt (pv 0) pe_int (nomark _))
    (pss_one (ps_expr (pe_bm PySem.F.plainAttrs_list PySem.F.slot_list_append PySem.F.type_list_append mt_append (pv 1) (pa_cons (pe_op op_mod (pe_callTy call_int1 (by rfl) T.b_int (by decide +kernel) (pa_cons (pv 0) pa_nil)) pe_int) pa_nil))))
    pss_nil))))
  (pss_one (ps_ret (pv 1))))), ?_⟩
    show (_ : TS) _ [some (.int (n : Int)), none, none] H
    simp only [r_seq, r_next, r_brk, r_cont, r_asg, r_name, r_ret, r_retN, r_drop, r_ifs, r_never, r_var, r_c, r_op, r_un, r_if, r_tst, r_b, r_not, r_and, r_or, r_andV, r_orV, r_notV, r_nil, r_cons, r_tup, r_lst, r_cb, r_call, r_bm, r_bm0, r_sl, r_nopart, r_part, r_rev, r_gnil, r_gcons, r_gsub, r_par, r_aug, r_chain, r_I0, r_I, r_U, r_ixd, r_lend, r_tupd, r_listd, r_sld, r_app, r_ext, r_reverse, r_setl, r_cat, r_int1, r_eqS, r_neS, scal_ii, scal_bb, scal_ss, at0, at1, at2, sq_lst, sq_tup, isLst_lst, List.getElem?_cons_zero, List.getElem?_cons_succ, List.set_cons_zero, List.set_cons_succ, V.int.injEq, V.bl.injEq, V.ref.injEq, V.str.injEq, HO.lst.injEq, HO.tup.injEq, Option.some.injEq, exists_eq_left', exists_eq_left, List.cons.injEq, and_true, true_and, decide_eq_true_eq, reduceCtorEq, false_and, exists_false, or_false, false_or, exists_const, and_assoc, exists_and_left, List.append_nil, ix0, ix1, ix2, cm_mod, cdw1009, cdw2003, cdw7, cdw64, cdw2, cm104729, cm2, cm3, upd_same, List.length_cons, List.length_nil, Int.reduceLT, Int.reduceLE, Nat.reduceAdd, Nat.reduceLeDiff, Nat.reduceLT, Int.reduceToNat, r_for1, r_forL, r_forT, r_lcL, r_lc1, r_yes, r_gtupD, wipe_0, wipe_1, List.cons_append, List.nil_append, r_forS, r_ipI, ite_false, ite_true, Bool.not_true, Bool.not_false, decide_true, decide_false, r_isd, r_islt, cD_ty, cD_ref, tD_non, tD_bl, tD_int, tD_str, tD_ref, tH_lst, tH_tup, tH_dK, tH_ins, ki_self, ki_int_bool, ki_non_int, ki_str_int, ki_lt_lst, ki_lt_tup, r_fld, r_sfld, HO.ins.injEq, cx_K]
    refine ⟨by decide, fun p hp => ⟨by decide, by decide, lp_rng (n := 60) (lvPieces H p n)
      ⟨n, [n % 64], none, rfl, Same.new' (Same.refl H) hp, by rw [upd_same]; simp [vn], by rw [low]; rfl, by simp, by simp⟩ ?_ ?_⟩⟩
    · rintro i σ H1 hi ⟨m, ds, v, rfl, s1, h1, e1, em, hl⟩
      have hm : (0 : Int) < (m : Int) / 64 ↔ ¬ m < 64 := by omega
      have hd : ((m : Int) / 64 % 64) = ((m / 64 % 64 : Nat) : Int) := by omega
      have em' : m / 64 = n / 64 ^ (i + 1) := by rw [em, Nat.div_div_eq_div_mul, Nat.pow_succ]
      have pne : ∀ {b : Addr} {o : HO}, H b = some o → b ≠ p := fun e => ne_new e hp
      simp only [r_seq, r_next, r_brk, r_cont, r_asg, r_name, r_ret, r_retN, r_drop, r_ifs, r_never, r_var, r_c, r_op, r_un, r_if, r_tst, r_b, r_not, r_and, r_or, r_andV, r_orV, r_notV, r_nil, r_cons, r_tup, r_lst, r_cb, r_call, r_bm, r_bm0, r_sl, r_nopart, r_part, r_rev, r_gnil, r_gcons, r_gsub, r_par, r_aug, r_chain, r_I0, r_I, r_U, r_ixd, r_lend, r_tupd, r_listd, r_sld, r_app, r_ext, r_reverse, r_setl, r_cat, r_int1, r_eqS, r_neS, scal_ii, scal_bb, scal_ss, at0, at1, at2, sq_lst, sq_tup, isLst_lst, List.getElem?_cons_zero, List.getElem?_cons_succ, List.set_cons_zero, List.set_cons_succ, V.int.injEq, V.bl.injEq, V.ref.injEq, V.str.injEq, HO.lst.injEq, HO.tup.injEq, Option.some.injEq, exists_eq_left', exists_eq_left, List.cons.injEq, and_true, true_and, decide_eq_true_eq, reduceCtorEq, false_and, exists_false, or_false, false_or, exists_const, and_assoc, exists_and_left, List.append_nil, ix0, ix1, ix2, cm_mod, cdw1009, cdw2003, cdw7, cdw64, cdw2, cm104729, cm2, cm3, upd_same, List.length_cons, List.length_nil, Int.reduceLT, Int.reduceLE, Nat.reduceAdd, Nat.reduceLeDiff, Nat.reduceLT, Int.reduceToNat, r_for1, r_forL, r_forT, r_lcL, r_lc1, r_yes, r_gtupD, wipe_0, wipe_1, List.cons_append, List.nil_append, r_forS, r_ipI, ite_false, ite_true, Bool.not_true, Bool.not_false, decide_true, decide_false, r_isd, r_islt, cD_ty, cD_ref, tD_non, tD_bl, tD_int, tD_str, tD_ref, tH_lst, tH_tup, tH_dK, tH_ins, ki_self, ki_int_bool, ki_non_int, ki_str_int, ki_lt_lst, ki_lt_tup, r_fld, r_sfld, HO.ins.injEq, cx_K, h1, tyV_lst]
      refine ite2 (fun c => ⟨by rw [vn_len]; exact Nat.lt_of_le_of_lt (by omega : ds.length ≤ 100) (by decide), m / 64, ds ++ [m / 64 % 64], _, by rw [Int.natCast_ediv]; rfl, ?_, ?_, ?_, em', by simp; omega⟩) (fun c => ⟨m / 64, ds, _, by rw [Int.natCast_ediv]; rfl, s1, h1, ?_, em', by omega⟩)
      · exact fun b o e => by
          rw [upd_ne (pne e)]
          exact s1 b o e
      · rw [upd_same, vn_app, hd]
        rfl
      · rw [← e1, rest_ge (hm.mp c), low]
        simp
      · rw [← e1, rest_lt (n := m) (by omega), rest_lt (by omega)]
    · rintro σ H1 ⟨m, ds, v, rfl, s1, h1, e1, em, hl⟩
      simp only [r_seq, r_next, r_brk, r_cont, r_asg, r_name, r_ret, r_retN, r_drop, r_ifs, r_never, r_var, r_c, r_op, r_un, r_if, r_tst, r_b, r_not, r_and, r_or, r_andV, r_orV, r_notV, r_nil, r_cons, r_tup, r_lst, r_cb, r_call, r_bm, r_bm0, r_sl, r_nopart, r_part, r_rev, r_gnil, r_gcons, r_gsub, r_par, r_aug, r_chain, r_I0, r_I, r_U, r_ixd, r_lend, r_tupd, r_listd, r_sld, r_app, r_ext, r_reverse, r_setl, r_cat, r_int1, r_eqS, r_neS, scal_ii, scal_bb, scal_ss, at0, at1, at2, sq_lst, sq_tup, isLst_lst, List.getElem?_cons_zero, List.getElem?_cons_succ, List.set_cons_zero, List.set_cons_succ, V.int.injEq, V.bl.injEq, V.ref.injEq, V.str.injEq, HO.lst.injEq, HO.tup.injEq, Option.some.injEq, exists_eq_left', exists_eq_left, List.cons.injEq, and_true, true_and, decide_eq_true_eq, reduceCtorEq, false_and, exists_false, or_false, false_or, exists_const, and_assoc, exists_and_left, List.append_nil, ix0, ix1, ix2, cm_mod, cdw1009, cdw2003, cdw7, cdw64, cdw2, cm104729, cm2, cm3, upd_same, List.length_cons, List.length_nil, Int.reduceLT, Int.reduceLE, Nat.reduceAdd, Nat.reduceLeDiff, Nat.reduceLT, Int.reduceToNat, r_for1, r_forL, r_forT, r_lcL, r_lc1, r_yes, r_gtupD, wipe_0, wipe_1, List.cons_append, List.nil_append, r_forS, r_ipI, ite_false, ite_true, Bool.not_true, Bool.not_false, decide_true, decide_false, r_isd, r_islt, cD_ty, cD_ref, tD_non, tD_bl, tD_int, tD_str, tD_ref, tH_lst, tH_tup, tH_dK, tH_ins, ki_self, ki_int_bool, ki_non_int, ki_str_int, ki_lt_lst, ki_lt_tup, r_fld, r_sfld, HO.ins.injEq, cx_K]
      have : m < 64 := by rw [em]; exact Nat.lt_of_lt_of_le (Nat.div_lt_of_lt_mul (by rw [Nat.mul_one]; exact hn)) (by decide : 1 ≤ 64)
      rw [rest_lt this, List.append_nil] at e1
      exact k p _ hp s1 (by rw [h1, e1])
end
end C57

set_option maxHeartbeats 1000000
namespace C57
open PySem PySem.Spec PyProof.Rows L2
def up (ds : List Nat) : List Nat := ds.map (· + 64)
theorem up_app {xs ys : List Nat} : up (xs ++ ys) = up xs ++ up ys := by
  unfold up
  rw [List.map_append]
/-- a number's pieces, the highest first, marked -/
def mk (n : Nat) : List Nat := up (rest n).reverse ++ [n % 64]
def spMarked : Sp := fun vs H Q _ => ∃ (a : Addr) (ds : List Nat) (d : Nat), vs = [.ref a] ∧ H a = some (.lst (vn (ds ++ [d]))) ∧ ds.length ≤ 100 ∧ ∀ p H', H p = none → Same H H' → H' p = some (.lst (vn (up ds ++ [d]))) → Q (.ref p) H'
def lvMarked (H : Hp) (p D : Addr) (ds : List Nat) (i : Nat) (H' : Hp) : Prop := Same H H' ∧ H' p = some (.lst (vn ds)) ∧ H' D = some (.lst (vn (up (ds.take i))))
section
variable {P : Program} {w : World} {K : PySem.W.Frag} {mg : Str → Option Value} {base : Heap} {f : Addr} {fd : FuncData}
theorem ok_marked (T : Txt mg) (F : FnP K "_law_marked" "_law_marked" smarked f fd) : FnOk P w K mg base CX0 1 f fd ["_law_some"] spMarked := by
  refine F.ok scmarked (fun vs H Q E h => ?_) (fun cdv A outer s H vs Q E hr h => ?_)
  · obtain ⟨a, ds, d, rfl, _⟩ := h
    rfl
  · obtain ⟨a, ds, d, rfl, ha, hl, k⟩ := h
    refine ⟨_, PSs.nox (pss_one (ps_ret (pe_op op_cat (pe_lc (own := [("_law_piece", 1)]) (g := gName 1) (tt := tYes) rfl scmarked.nd (pi_list (pe_slice sl_d (pv 0) po_none (po_some (pe_un un_neg pe_int)))) (blkOk_by (own := [("_law_piece", 1)]) (N := ["_law_some", "_law_piece"]) (sc := defScope smarked) (by decide +kernel)) (fun _ _ _ _ _ => (pg_name (i := 1) scmarked.nd rfl (Or.inl rfl))) (fun _ _ _ _ _ => pts_nil) (fun _ _ _ _ _ => (pe_op op_add (pv 1) pe_int))) (pe_slice sl_d (pv 0) (po_some (pe_un un_neg pe_int)) po_none)))), ?_⟩
    show (_ : TS) _ [some (.ref a), none] H
    have hv : vn (ds ++ [d]) = vn ds ++ [.int (d : Int)] := by rw [vn_app]; rfl
    simp only [r_seq, r_next, r_brk, r_cont, r_asg, r_name, r_ret, r_retN, r_drop, r_ifs, r_never, r_var, r_c, r_op, r_un, r_if, r_tst, r_b, r_not, r_and, r_or, r_andV, r_orV, r_notV, r_nil, r_cons, r_tup, r_lst, r_cb, r_call, r_bm, r_bm0, r_sl, r_nopart, r_part, r_rev, r_gnil, r_gcons, r_gsub, r_par, r_aug, r_chain, r_I0, r_I, r_U, r_ixd, r_lend, r_tupd, r_listd, r_sld, r_app, r_ext, r_reverse, r_setl, r_cat, r_int1, r_eqS, r_neS, scal_ii, scal_bb, scal_ss, at0, at1, at2, sq_lst, sq_tup, isLst_lst, List.getElem?_cons_zero, List.getElem?_cons_succ, List.set_cons_zero, List.set_cons_succ, V.int.injEq, V.bl.injEq, V.ref.injEq, V.str.injEq, HO.lst.injEq, HO.tup.injEq, Option.some.injEq, exists_eq_left', exists_eq_left, List.cons.injEq, and_true, true_and, decide_eq_true_eq, reduceCtorEq, false_and, exists_false, or_false, false_or, exists_const, and_assoc, exists_and_left, List.append_nil, ix0, ix1, ix2, cm_mod, cdw1009, cdw2003, cdw7, cdw64, cdw2, cm104729, cm2, cm3, upd_same, List.length_cons, List.length_nil, Int.reduceLT, Int.reduceLE, Nat.reduceAdd, Nat.reduceLeDiff, Nat.reduceLT, Int.reduceToNat, r_for1, r_forL, r_forT, r_lcL, r_lc1, r_yes, r_gtupD, wipe_0, wipe_1, List.cons_append, List.nil_append, r_forS, r_ipI, ite_false, ite_true, Bool.not_true, Bool.not_false, decide_true, decide_false, r_isd, r_islt, cD_ty, cD_ref, tD_non, tD_bl, tD_int, tD_str, tD_ref, tH_lst, tH_tup, tH_dK, tH_ins, ki_self, ki_int_bool, ki_non_int, ki_str_int, ki_lt_lst, ki_lt_tup, r_fld, r_sfld, HO.ins.injEq, cx_K, ha, hv, cut_init]
    intro p hp
    have ap : a ≠ p := ne_new ha hp
    refine ⟨⟨_, SqL.of upd_same⟩, fun D hD => ?_⟩
    have Dp : D ≠ p := fun e => by
      rw [e, upd_same] at hD
      cases hD
    have HD : H D = none := by
      rw [upd_ne Dp] at hD
      exact hD
    have aD : a ≠ D := ne_new ha HD
    refine cp_list (xs := vn ds) (lvMarked H p D ds) ⟨Same.new' (Same.new' (Same.refl H) hp) hD, by rw [upd_ne Dp.symm, upd_same], by rw [upd_same]; rfl⟩ (fun i H' _ ⟨_, h, _⟩ => SqL.of h) ?_ ?_
    · rintro i x H1 hx ⟨s1, h1, h2⟩
      have hi : i < ds.length := by
        have := (List.getElem?_eq_some_iff.mp hx).1
        rwa [vn_len] at this
      obtain rfl : x = .int ((ds[i] : Nat) : Int) := by
        unfold vn at hx
        rw [List.getElem?_map, List.getElem?_eq_getElem hi] at hx
        exact (Option.some.inj hx).symm
      have e64 : ((ds[i] : Nat) : Int) + 64 = ((ds[i] + 64 : Nat) : Int) := by omega
      simp only [r_seq, r_next, r_brk, r_cont, r_asg, r_name, r_ret, r_retN, r_drop, r_ifs, r_never, r_var, r_c, r_op, r_un, r_if, r_tst, r_b, r_not, r_and, r_or, r_andV, r_orV, r_notV, r_nil, r_cons, r_tup, r_lst, r_cb, r_call, r_bm, r_bm0, r_sl, r_nopart, r_part, r_rev, r_gnil, r_gcons, r_gsub, r_par, r_aug, r_chain, r_I0, r_I, r_U, r_ixd, r_lend, r_tupd, r_listd, r_sld, r_app, r_ext, r_reverse, r_setl, r_cat, r_int1, r_eqS, r_neS, scal_ii, scal_bb, scal_ss, at0, at1, at2, sq_lst, sq_tup, isLst_lst, List.getElem?_cons_zero, List.getElem?_cons_succ, List.set_cons_zero, List.set_cons_succ, V.int.injEq, V.bl.injEq, V.ref.injEq, V.str.injEq, HO.lst.injEq, HO.tup.injEq, Option.some.injEq, exists_eq_left', exists_eq_left, List.cons.injEq, and_true, true_and, decide_eq_true_eq, reduceCtorEq, false_and, exists_false, or_false, false_or, exists_const, and_assoc, exists_and_left, List.append_nil, ix0, ix1, ix2, cm_mod, cdw1009, cdw2003, cdw7, cdw64, cdw2, cm104729, cm2, cm3, upd_same, List.length_cons, List.length_nil, Int.reduceLT, Int.reduceLE, Nat.reduceAdd, Nat.reduceLeDiff, Nat.reduceLT, Int.reduceToNat, r_for1, r_forL, r_forT, r_lcL, r_lc1, r_yes, r_gtupD, wipe_0, wipe_1, List.cons_append, List.nil_append, r_forS, r_ipI, ite_false, ite_true, Bool.not_true, Bool.not_false, decide_true, decide_false, r_isd, r_islt, cD_ty, cD_ref, tD_non, tD_bl, tD_int, tD_str, tD_ref, tH_lst, tH_tup, tH_dK, tH_ins, ki_self, ki_int_bool, ki_non_int, ki_str_int, ki_lt_lst, ki_lt_tup, r_fld, r_sfld, HO.ins.injEq, cx_K, h2, e64, List.map_cons, List.map_nil]
      refine ⟨by rw [vn_len]; exact Nat.lt_of_le_of_lt (by simp [up]; omega : _ ≤ 100) (by decide), fun b o e => ?_, ?_, ?_⟩
      · rw [upd_ne (ne_new e HD)]
        exact s1 b o e
      · rw [upd_ne Dp.symm]
        exact h1
      · rw [upd_same, List.take_succ_eq_append_getElem hi, up_app, vn_app]
        rfl
    · rintro H1 ⟨s1, h1, h2⟩
      rw [vn_len, List.take_length] at h2
      have ha1 := s1 a _ ha
      simp only [r_seq, r_next, r_brk, r_cont, r_asg, r_name, r_ret, r_retN, r_drop, r_ifs, r_never, r_var, r_c, r_op, r_un, r_if, r_tst, r_b, r_not, r_and, r_or, r_andV, r_orV, r_notV, r_nil, r_cons, r_tup, r_lst, r_cb, r_call, r_bm, r_bm0, r_sl, r_nopart, r_part, r_rev, r_gnil, r_gcons, r_gsub, r_par, r_aug, r_chain, r_I0, r_I, r_U, r_ixd, r_lend, r_tupd, r_listd, r_sld, r_app, r_ext, r_reverse, r_setl, r_cat, r_int1, r_eqS, r_neS, scal_ii, scal_bb, scal_ss, at0, at1, at2, sq_lst, sq_tup, isLst_lst, List.getElem?_cons_zero, List.getElem?_cons_succ, List.set_cons_zero, List.set_cons_succ, V.int.injEq, V.bl.injEq, V.ref.injEq, V.str.injEq, HO.lst.injEq, HO.tup.injEq, Option.some.injEq, exists_eq_left', exists_eq_left, List.cons.injEq, and_true, true_and, decide_eq_true_eq, reduceCtorEq, false_and, exists_false, or_false, false_or, exists_const, and_assoc, exists_and_left, List.append_nil, ix0, ix1, ix2, cm_mod, cdw1009, cdw2003, cdw7, cdw64, cdw2, cm104729, cm2, cm3, upd_same, List.length_cons, List.length_nil, Int.reduceLT, Int.reduceLE, Nat.reduceAdd, Nat.reduceLeDiff, Nat.reduceLT, Int.reduceToNat, r_for1, r_forL, r_forT, r_lcL, r_lc1, r_yes, r_gtupD, wipe_0, wipe_1, List.cons_append, List.nil_append, r_forS, r_ipI, ite_false, ite_true, Bool.not_true, Bool.not_false, decide_true, decide_false, r_isd, r_islt, cD_ty, cD_ref, tD_non, tD_bl, tD_int, tD_str, tD_ref, tH_lst, tH_tup, tH_dK, tH_ins, ki_self, ki_int_bool, ki_non_int, ki_str_int, ki_lt_lst, ki_lt_tup, r_fld, r_sfld, HO.ins.injEq, cx_K, ha1, h2, hv, cut_last]
      intro p2 hp2
      have Dp2 : D ≠ p2 := ne_new h2 hp2
      simp only [r_seq, r_next, r_brk, r_cont, r_asg, r_name, r_ret, r_retN, r_drop, r_ifs, r_never, r_var, r_c, r_op, r_un, r_if, r_tst, r_b, r_not, r_and, r_or, r_andV, r_orV, r_notV, r_nil, r_cons, r_tup, r_lst, r_cb, r_call, r_bm, r_bm0, r_sl, r_nopart, r_part, r_rev, r_gnil, r_gcons, r_gsub, r_par, r_aug, r_chain, r_I0, r_I, r_U, r_ixd, r_lend, r_tupd, r_listd, r_sld, r_app, r_ext, r_reverse, r_setl, r_cat, r_int1, r_eqS, r_neS, scal_ii, scal_bb, scal_ss, at0, at1, at2, sq_lst, sq_tup, isLst_lst, List.getElem?_cons_zero, List.getElem?_cons_succ, List.set_cons_zero, List.set_cons_succ, V.int.injEq, V.bl.injEq, V.ref.injEq, V.str.injEq, HO.lst.injEq, HO.tup.injEq, Option.some.injEq, exists_eq_left', exists_eq_left, List.cons.injEq, and_true, true_and, decide_eq_true_eq, reduceCtorEq, false_and, exists_false, or_false, false_or, exists_const, and_assoc, exists_and_left, List.append_nil, ix0, ix1, ix2, cm_mod, cdw1009, cdw2003, cdw7, cdw64, cdw2, cm104729, cm2, cm3, upd_same, List.length_cons, List.length_nil, Int.reduceLT, Int.reduceLE, Nat.reduceAdd, Nat.reduceLeDiff, Nat.reduceLT, Int.reduceToNat, r_for1, r_forL, r_forT, r_lcL, r_lc1, r_yes, r_gtupD, wipe_0, wipe_1, List.cons_append, List.nil_append, r_forS, r_ipI, ite_false, ite_true, Bool.not_true, Bool.not_false, decide_true, decide_false, r_isd, r_islt, cD_ty, cD_ref, tD_non, tD_bl, tD_int, tD_str, tD_ref, tH_lst, tH_tup, tH_dK, tH_ins, ki_self, ki_int_bool, ki_non_int, ki_str_int, ki_lt_lst, ki_lt_tup, r_fld, r_sfld, HO.ins.injEq, cx_K, une Dp2, h2]
      refine ⟨by rw [vn_len]; exact Nat.le_trans (by simp [up]; omega : _ ≤ 1000) (by decide), fun p3 hp3 => ?_⟩
      have s2 : Same H (upd (upd H1 p2 (.lst [.int (d : Int)])) p3 (.lst (vn (up ds) ++ [.int (d : Int)]))) := Same.new' (Same.new' s1 hp2) hp3
      refine k p3 _ ?_ s2 (by rw [upd_same, vn_app]; rfl)
      exact (Same.new' s1 hp2).free hp3
end
end C57

set_option maxHeartbeats 1000000
namespace C57
open PySem PySem.Spec PyProof.Rows L2
/-! ### rows of lines -/
structure LR where
  lo : Nat
  hi : Nat
  ln : Option Int
def lnV : Option Int → V
  | none => .non
  | some i => .int i
def lv (R : LR) : List V := [.int (R.lo : Int), .int (R.hi : Int), lnV R.ln]
def LRows (H : Hp) (F : Addr) (Rs : List LR) : Prop := ∃ refs : List Addr, H F = some (.lst (refs.map V.ref)) ∧ Paired (fun r R => H r = some (.tup (lv R))) refs Rs
def LRowsS (H : Hp) (F : Addr) (Rs : List LR) : Prop := ∃ refs : List Addr, sq (H F) = some (refs.map V.ref) ∧ Paired (fun r R => H r = some (.tup (lv R))) refs Rs
/-- one row more, joined to the last one if the line is the same -/
def jstep (acc : List LR) (R : LR) : List LR := match acc.getLast? with
  | some q => if q.ln = R.ln then acc.dropLast ++ [⟨q.lo, R.hi, R.ln⟩] else acc ++ [R]
  | none => [R]
def joinL (Rs : List LR) : List LR := Rs.foldl jstep []
theorem jstep_nil (R : LR) : jstep [] R = [R] := rfl
theorem jstep_snoc (acc : List LR) (q R : LR) : jstep (acc ++ [q]) R = if q.ln = R.ln then acc ++ [⟨q.lo, R.hi, R.ln⟩] else acc ++ [q] ++ [R] := by
  unfold jstep
  rw [List.getLast?_concat]
  simp
theorem joinL_snoc (Rs : List LR) (R : LR) : joinL (Rs ++ [R]) = jstep (joinL Rs) R := by
  unfold joinL
  rw [List.foldl_append]
  rfl
theorem jstep_len (acc : List LR) (R : LR) : (jstep acc R).length ≤ acc.length + 1 := by
  rcases List.eq_nil_or_concat acc with rfl | ⟨xs, q, rfl⟩
  · simp [jstep_nil]
  · rw [List.concat_eq_append, jstep_snoc]
    split <;> simp
theorem fold_len : ∀ (Rs acc : List LR), (Rs.foldl jstep acc).length ≤ acc.length + Rs.length
  | [], acc => by simp
  | R :: Rs, acc => by
    have h1 := fold_len Rs (jstep acc R)
    have h2 := jstep_len acc R
    rw [List.foldl_cons, List.length_cons]
    omega
theorem joinL_len (Rs : List LR) : (joinL Rs).length ≤ Rs.length := by
  have := fold_len Rs []
  simpa [joinL] using this
/-- two rows of one line that follow one another count as one -/
theorem jstep_two (acc : List LR) (lo mid hi : Nat) (l : Option Int) : jstep (jstep acc ⟨lo, mid, l⟩) ⟨mid, hi, l⟩ = jstep acc ⟨lo, hi, l⟩ := by
  rcases List.eq_nil_or_concat acc with rfl | ⟨xs, q, rfl⟩
  · rw [jstep_nil, jstep_nil]
    rw [show ([⟨lo, mid, l⟩] : List LR) = [] ++ [⟨lo, mid, l⟩] from rfl, jstep_snoc]
    simp
  · rw [List.concat_eq_append, jstep_snoc, jstep_snoc]
    by_cases e : q.ln = l
    · rw [if_pos e, if_pos e, jstep_snoc, if_pos rfl]
    · rw [if_neg e, if_neg e, jstep_snoc, if_pos rfl]
def lnD : Option Int → PyData
  | none => .none
  | some i => .int i
theorem dp_ln {K : PySem.W.Frag} {H : Hp} (l : Option Int) : Dp K H (lnV l) (lnD l) := by
  cases l with
  | none => exact .non
  | some i => exact .int i
theorem shaped_ln (l : Option Int) : SeqAt.shaped (lnD l) = true := by
  cases l <;> rfl
theorem eqv_ln (a b : Option Int) : PyData.eqv (lnD a) (lnD b) = decide (a = b) := by
  cases a with
  | none => cases b <;> simp [lnD, PyData.eqv]
  | some i => cases b with
    | none => simp [lnD, PyData.eqv]
    | some j =>
      simp only [lnD, PyData.eqv, Option.some.injEq]
      rfl
theorem eq_ln {K : PySem.W.Frag} {H : Hp} {a b : Option Int} {Q : VK} (k : Q (.bl (decide (a = b))) H) : rEqD K (lnV a) (lnV b) H Q := ⟨_, _, dp_ln a, dp_ln b, shaped_ln a, shaped_ln b, by rw [eqv_ln]; exact k⟩
theorem ix_last (n : Nat) : ixN (n + 1) (-1) = some n := by
  unfold ixN
  rw [if_neg (by decide), if_pos (by omega)]
  congr 1
  omega
theorem at_last {xs : List V} {x : V} : atI (xs ++ [x]) (-1) = some x := by
  unfold atI
  rw [List.length_append, List.length_singleton, ix_last]
  simp
theorem set_last {xs : List V} {x y : V} : (xs ++ [x]).set xs.length y = xs ++ [y] := by
  rw [List.set_append_right _ _ (Nat.le_refl _)]
  simp
theorem LRows.same {H H' : Hp} {F : Addr} {Rs : List LR} (r : LRows H F Rs) (s : Same H H') : LRows H' F Rs := by
  obtain ⟨refs, e, p⟩ := r
  exact ⟨refs, s _ _ e, Paired.map' p fun a b h => s _ _ h⟩
theorem LRows.s {H : Hp} {F : Addr} {Rs : List LR} (r : LRows H F Rs) : LRowsS H F Rs := by
  obtain ⟨refs, e, p⟩ := r
  exact ⟨refs, by rw [e]; rfl, p⟩
def spJoined : Sp := fun vs H Q _ => ∃ (a : Addr) (Rs : List LR), vs = [.ref a] ∧ LRowsS H a Rs ∧ Rs.length ≤ 100000 ∧ ∀ F H', H F = none → Same H H' → LRows H' F (joinL Rs) → Q (.ref F) H'
def lvJoined (H : Hp) (a F : Addr) (Rs : List LR) (i : Nat) (σ : L2.St) (H' : Hp) : Prop := ∃ v1 v2 v3 : Option V, σ = [some (.ref a), some (.ref F), v1, v2, v3] ∧ Same H H' ∧ LRows H' F (joinL (Rs.take i))
/-- the step on the heap: the found list is written, a new tuple is laid -/
theorem rows_put {H0 H : Hp} {F t : Addr} {l : List V} {refs : List Addr} {acc : List LR} {R : LR} (nF : H0 F = none) (s : Same H0 H) (hF : H F = some (.lst l)) (p : Paired (fun r R => H r = some (.tup (lv R))) refs acc) (ht : H t = none) :
    Same H0 (L2.upd (L2.upd H t (.tup (lv R))) F (.lst (refs.map V.ref ++ [.ref t]))) ∧ LRows (L2.upd (L2.upd H t (.tup (lv R))) F (.lst (refs.map V.ref ++ [.ref t]))) F (acc ++ [R]) := by
  have tF : t ≠ F := new_ne hF ht
  have st : ∀ r (Q : LR), H r = some (.tup (lv Q)) → L2.upd (L2.upd H t (.tup (lv R))) F (.lst (refs.map V.ref ++ [.ref t])) r = some (.tup (lv Q)) := fun r Q e => by
    have rF : r ≠ F := fun z => by rw [z, hF] at e; cases e
    rw [upd_ne rF, upd_ne (ne_new e ht)]
    exact e
  refine ⟨fun b o e => ?_, refs ++ [t], by rw [upd_same, List.map_append]; rfl, Paired.snoc' (Paired.map' p fun a b h => st a b h) ?_⟩
  · rw [upd_ne (ne_new e nF), upd_ne (ne_new (s b o e) ht)]
    exact s b o e
  · rw [upd_ne tF]
    exact upd_same
theorem Paired.snocR {α β : Type} {F : α → β → Prop} : ∀ {l : List α} {ys : List β} {y : β}, Paired F l (ys ++ [y]) → ∃ xs x, l = xs ++ [x] ∧ Paired F xs ys ∧ F x y
  | _, [], _, .cons h .nil => ⟨[], _, rfl, .nil, h⟩
  | _, _ :: _, _, .cons h t => by
    obtain ⟨xs, x, rfl, p, e⟩ := Paired.snocR t
    exact ⟨_ :: xs, x, rfl, .cons h p, e⟩
end C57

set_option maxHeartbeats 1000000
namespace C57
open PySem PySem.Spec PyProof.Rows L2
theorem hu64 {k : Nat} {A : Around} (hr : Room k A) : A.units + 64 < cLine := by
  have := hr.un
  omega
theorem nextJ {Rs : List LR} {i : Nat} (h : i < Rs.length) : joinL (Rs.take (i + 1)) = jstep (joinL (Rs.take i)) Rs[i] := by
  rw [← joinL_snoc, List.take_append_getElem h]
section
variable {P : Program} {w : World} {K : PySem.W.Frag} {mg : Str → Option Value} {base : Heap} {f : Addr} {fd : FuncData}
abbrev sljoined : Stmt := top 71
theorem scljoined : FnScope ["_law_some", "_law_found", "_law_low", "_law_high", "_law_line"] ["_law_some"] (defScope sljoined) := ⟨rfl, rfl, rfl, by decide +kernel, rfl, by decide +kernel, by decide +kernel⟩

end
/-- rows as data -/
def lrD (R : LR) : PyData := .tuple [.int (R.lo : Int), .int (R.hi : Int), lnD R.ln]
theorem dp_lr {K : PySem.W.Frag} {H : Hp} {r : Addr} {R : LR} (h : H r = some (.tup (lv R))) : Dp K H (.ref r) (lrD R) := .tup (SqT.of h) (.cons (.int _) (.cons (.int _) (.cons (dp_ln _) .nil)))
theorem dp_lrs {K : PySem.W.Frag} {H : Hp} : ∀ {refs : List Addr} {Rs : List LR}, Paired (fun r R => H r = some (.tup (lv R))) refs Rs → DpAll K H (refs.map V.ref) (Rs.map lrD)
  | _, _, .nil => .nil
  | _, _, .cons h t => .cons (dp_lr h) (dp_lrs t)
theorem lay_ln (l : Option Int) : PyData.canLay0 (lnD l) = true := by cases l <;> simp [lnD, PyData.canLay0]
theorem dep_ln (l : Option Int) : PyData.depth (lnD l) = 0 := by cases l <;> simp [lnD, PyData.depth]
theorem lay_lrs : ∀ Rs : List LR, PyData.canLayAll0 (Rs.map lrD) = true
  | [] => by simp [PyData.canLayAll0]
  | R :: Rs => by
    simp only [List.map_cons, lrD, PyData.canLayAll0, PyData.canLay0, lay_ln, lay_lrs Rs]
    rfl
theorem dep_lrs : ∀ Rs : List LR, PyData.depthAll (Rs.map lrD) ≤ 1
  | [] => by simp [PyData.depthAll]
  | R :: Rs => by
    have := dep_lrs Rs
    simp only [List.map_cons, lrD, PyData.depthAll, PyData.depth, dep_ln]
    exact Nat.max_le.mpr ⟨by decide, this⟩
theorem shaped_lrs (Rs : List LR) : SeqAt.shaped (.list (Rs.map lrD)) = true := by
  have := dep_lrs Rs
  unfold SeqAt.shaped
  rw [Bool.and_eq_true]
  exact ⟨by simp only [PyData.canLay0, lay_lrs], decide_eq_true (by simp only [PyData.depth]; omega)⟩
theorem ne_none {K : PySem.W.Frag} {H : Hp} {F e : Addr} {refs : List Addr} {Rs : List LR} {Q : VK} (hF : H F = some (.lst (refs.map V.ref))) (p : Paired (fun r R => H r = some (.tup (lv R))) refs Rs) (he : H e = some (.lst [])) (k : Q (.bl (!Rs.isEmpty)) H) : rNeD K (.ref F) (.ref e) H Q := by
  refine ⟨.list (Rs.map lrD), .list [], .lst (SqL.of hF) (dp_lrs p), .lst (SqL.of he) .nil, shaped_lrs Rs, by decide, ?_⟩
  rw [show PyData.eqv (.list (Rs.map lrD)) (.list []) = Rs.isEmpty from by cases Rs <;> simp [PyData.eqv, PyData.eqvAll]]
  exact k
def spJoinedL : Sp := fun vs H Q _ => ∃ (a : Addr) (Rs : List LR), vs = [.ref a] ∧ LRows H a Rs ∧ Rs.length ≤ 100000 ∧ ∀ F H', H F = none → Same H H' → LRows H' F (joinL Rs) → Q (.ref F) H'
section
variable {P : Program} {w : World} {K : PySem.W.Frag} {mg : Str → Option Value} {base : Heap} {f : Addr} {fd : FuncData}
theorem ok_ljoined (T : Txt mg) (F : FnP K "_law_joined" "_law_joined" sljoined f fd) : FnOk P w K mg base CX0 1 f fd ["_law_some"] spJoinedL := by
  refine F.ok scljoined (fun vs H Q E h => ?_) (fun cdv A outer s H vs Q E hr h => ?_)
  · obtain ⟨a, Rs, rfl, _⟩ := h
    rfl
  · obtain ⟨a, Rs, rfl, ⟨refs, ha, hP⟩, hl, k⟩ := h
    refine ⟨_, PSs.nox (pss_cons (ps_set (i := 1) scljoined.nd rfl (Or.inl rfl) (pe_lst pa_nil))
  (pss_cons (ps_for PassesOwn.never rfl (pi_list (pv 0)) (pg_tupD (n := 3) rfl (pgs_cons (pg_name (i := 2) scljoined.nd rfl (Or.inl rfl)) (pgs_cons (pg_name (i := 3) scljoined.nd rfl (Or.inl rfl)) (pgs_cons (pg_name (i := 4) scljoined.nd rfl (Or.inl rfl)) pgs_nil))))
    (pss_one (ps_if (PW.pt (pw_and (pt_cmpR (op_neD (hu64 hr)) (pv 1) (pe_lst pa_nil) (nomark _)) (pw_and1 (pt_cmpR (op_eqD (hu64 hr)) (pe_ix ix_d (pe_ix ix_d (pv 1) (pe_un un_neg pe_int) (fun _ _ => rfl)) pe_int (fun _ _ => rfl)) (pv 4) (nomark _)))))
    (pss_one (ps_asg (pe_tup (pa_cons (pe_ix ix_d (pe_ix ix_d (pv 1) (pe_un un_neg pe_int) (fun _ _ => rfl)) pe_int (fun _ _ => rfl)) (pa_cons (pv 3) (pa_cons (pv 4) pa_nil)))) (pg_sub (pv 1) (pe_un un_neg pe_int) set_list)))
    (pss_one (ps_expr (pe_bm PySem.F.plainAttrs_list PySem.F.slot_list_append PySem.F.type_list_append mt_append (pv 1) (pa_cons (pe_tup (pa_cons (pv 2) (pa_cons (pv 3) (pa_cons (pv 4) pa_nil)))) pa_nil)))))))
  (pss_one (ps_ret (pv 1))))), ?_⟩
    show (_ : TS) _ [some (.ref a), none, none, none, none] H
    simp only [r_seq, r_next, r_brk, r_cont, r_asg, r_name, r_ret, r_retN, r_drop, r_ifs, r_never, r_var, r_c, r_op, r_un, r_if, r_tst, r_b, r_not, r_and, r_or, r_andV, r_orV, r_notV, r_nil, r_cons, r_tup, r_lst, r_cb, r_call, r_bm, r_bm0, r_sl, r_nopart, r_part, r_rev, r_gnil, r_gcons, r_gsub, r_par, r_aug, r_chain, r_I0, r_I, r_U, r_ixd, r_lend, r_tupd, r_listd, r_sld, r_app, r_ext, r_reverse, r_setl, r_cat, r_int1, r_eqS, r_neS, scal_ii, scal_bb, scal_ss, at0, at1, at2, sq_lst, sq_tup, isLst_lst, List.getElem?_cons_zero, List.getElem?_cons_succ, List.set_cons_zero, List.set_cons_succ, V.int.injEq, V.bl.injEq, V.ref.injEq, V.str.injEq, HO.lst.injEq, HO.tup.injEq, Option.some.injEq, exists_eq_left', exists_eq_left, List.cons.injEq, and_true, true_and, decide_eq_true_eq, reduceCtorEq, false_and, exists_false, or_false, false_or, exists_const, and_assoc, exists_and_left, List.append_nil, ix0, ix1, ix2, cm_mod, cdw1009, cdw2003, cdw7, cdw64, cdw2, cm104729, cm2, cm3, upd_same, List.length_cons, List.length_nil, Int.reduceLT, Int.reduceLE, Nat.reduceAdd, Nat.reduceLeDiff, Nat.reduceLT, Int.reduceToNat, r_for1, r_forL, r_forT, r_lcL, r_lc1, r_yes, r_gtupD, wipe_0, wipe_1, List.cons_append, List.nil_append, r_forS, r_ipI, ite_false, ite_true, Bool.not_true, Bool.not_false, decide_true, decide_false, r_isd, r_islt, cD_ty, cD_ref, tD_non, tD_bl, tD_int, tD_str, tD_ref, tH_lst, tH_tup, tH_dK, tH_ins, ki_self, ki_int_bool, ki_non_int, ki_str_int, ki_lt_lst, ki_lt_tup, r_fld, r_sfld, HO.ins.injEq, cx_K]
    refine ⟨szl (by decide), fun F hF => ?_⟩
    have aF : a ≠ F := fun z => by
      rw [z, hF] at ha
      cases ha
    have ha1 : L2.upd H F (.lst []) a = some (.lst (refs.map V.ref)) := by rw [upd_ne aF]; exact ha
    refine ⟨⟨_, SqL.of ha1⟩, lp_list (xs := refs.map V.ref) (lvJoined H a F Rs) ⟨none, none, none, rfl, Same.new' (Same.refl H) hF, [], by rw [upd_same]; rfl, by rw [List.take_zero]; exact .nil⟩ ?_ ?_ ?_⟩
    · rintro i σ H1 _ ⟨_, _, _, _, s1, _⟩
      exact SqL.of (s1 _ _ ha)
    · rintro i x σ H1 hx ⟨v1, v2, v3, rfl, s1, accR, hacc, pacc⟩
      have hir : i < refs.length := by
        have := (List.getElem?_eq_some_iff.mp hx).1
        rwa [List.length_map] at this
      have hiR : i < Rs.length := by rw [← Paired.length hP]; exact hir
      obtain rfl : x = .ref refs[i] := by
        rw [List.getElem?_map, List.getElem?_eq_getElem hir] at hx
        exact (Option.some.inj hx).symm
      have hrow : H1 refs[i] = some (.tup (lv Rs[i])) := s1 _ _ (Paired.at' hP hir hiR)
      have nx := nextJ hiR
      obtain ⟨R, hRe⟩ : ∃ R, R = Rs[i] := ⟨_, rfl⟩
      rw [← hRe] at hrow nx
      have la : (joinL (Rs.take i)).length ≤ 100000 := Nat.le_trans (joinL_len _) (by rw [List.length_take]; omega)
      obtain ⟨acc, hac⟩ : ∃ acc, acc = joinL (Rs.take i) := ⟨_, rfl⟩
      rw [← hac] at pacc nx la
      have lr := Paired.length pacc
      simp only [r_seq, r_next, r_brk, r_cont, r_asg, r_name, r_ret, r_retN, r_drop, r_ifs, r_never, r_var, r_c, r_op, r_un, r_if, r_tst, r_b, r_not, r_and, r_or, r_andV, r_orV, r_notV, r_nil, r_cons, r_tup, r_lst, r_cb, r_call, r_bm, r_bm0, r_sl, r_nopart, r_part, r_rev, r_gnil, r_gcons, r_gsub, r_par, r_aug, r_chain, r_I0, r_I, r_U, r_ixd, r_lend, r_tupd, r_listd, r_sld, r_app, r_ext, r_reverse, r_setl, r_cat, r_int1, r_eqS, r_neS, scal_ii, scal_bb, scal_ss, at0, at1, at2, sq_lst, sq_tup, isLst_lst, List.getElem?_cons_zero, List.getElem?_cons_succ, List.set_cons_zero, List.set_cons_succ, V.int.injEq, V.bl.injEq, V.ref.injEq, V.str.injEq, HO.lst.injEq, HO.tup.injEq, Option.some.injEq, exists_eq_left', exists_eq_left, List.cons.injEq, and_true, true_and, decide_eq_true_eq, reduceCtorEq, false_and, exists_false, or_false, false_or, exists_const, and_assoc, exists_and_left, List.append_nil, ix0, ix1, ix2, cm_mod, cdw1009, cdw2003, cdw7, cdw64, cdw2, cm104729, cm2, cm3, upd_same, List.length_cons, List.length_nil, Int.reduceLT, Int.reduceLE, Nat.reduceAdd, Nat.reduceLeDiff, Nat.reduceLT, Int.reduceToNat, r_for1, r_forL, r_forT, r_lcL, r_lc1, r_yes, r_gtupD, wipe_0, wipe_1, List.cons_append, List.nil_append, r_forS, r_ipI, ite_false, ite_true, Bool.not_true, Bool.not_false, decide_true, decide_false, r_isd, r_islt, cD_ty, cD_ref, tD_non, tD_bl, tD_int, tD_str, tD_ref, tH_lst, tH_tup, tH_dK, tH_ins, ki_self, ki_int_bool, ki_non_int, ki_str_int, ki_lt_lst, ki_lt_tup, r_fld, r_sfld, HO.ins.injEq, cx_K, hrow, lv, hacc]
      refine ⟨Nat.zero_le _, fun e he => ?_⟩
      have s2 := Same.new' (o := .lst []) (Same.refl H1) he
      refine ne_none (s2 _ _ hacc) (Paired.map' pacc fun a b h => s2 _ _ h) upd_same ?_
      have hacc := s2 _ _ hacc
      have pacc := Paired.map' pacc fun a b h => s2 _ _ h
      have s1 : Same H (L2.upd H1 e (.lst [])) := fun b o q => s2 b o (s1 b o q)
      clear he
      generalize L2.upd H1 e (.lst []) = H1 at *
      have app : ∀ {t : Addr}, H1 t = none → lvJoined H a F Rs (i + 1) [some (.ref a), some (.ref F), some (.int (R.lo : Int)), some (.int (R.hi : Int)), some (lnV R.ln)] (L2.upd (L2.upd H1 t (.tup [.int (R.lo : Int), .int (R.hi : Int), lnV R.ln])) F (.lst (accR.map V.ref ++ [.ref t]))) ∨ ¬ (jstep acc R = acc ++ [R]) := by
        intro t ht
        by_cases c : jstep acc R = acc ++ [R]
        · obtain ⟨p1, p2⟩ := rows_put (R := R) hF s1 hacc pacc ht
          exact .inl ⟨_, _, _, rfl, p1, by rw [nx, c]; exact p2⟩
        · exact .inr c
      rcases List.eq_nil_or_concat acc with rfl | ⟨xs, q, rfl⟩
      · obtain rfl : accR = [] := List.length_eq_zero_iff.mp lr
        simp only [r_seq, r_next, r_brk, r_cont, r_asg, r_name, r_ret, r_retN, r_drop, r_ifs, r_never, r_var, r_c, r_op, r_un, r_if, r_tst, r_b, r_not, r_and, r_or, r_andV, r_orV, r_notV, r_nil, r_cons, r_tup, r_lst, r_cb, r_call, r_bm, r_bm0, r_sl, r_nopart, r_part, r_rev, r_gnil, r_gcons, r_gsub, r_par, r_aug, r_chain, r_I0, r_I, r_U, r_ixd, r_lend, r_tupd, r_listd, r_sld, r_app, r_ext, r_reverse, r_setl, r_cat, r_int1, r_eqS, r_neS, scal_ii, scal_bb, scal_ss, at0, at1, at2, sq_lst, sq_tup, isLst_lst, List.getElem?_cons_zero, List.getElem?_cons_succ, List.set_cons_zero, List.set_cons_succ, V.int.injEq, V.bl.injEq, V.ref.injEq, V.str.injEq, HO.lst.injEq, HO.tup.injEq, Option.some.injEq, exists_eq_left', exists_eq_left, List.cons.injEq, and_true, true_and, decide_eq_true_eq, reduceCtorEq, false_and, exists_false, or_false, false_or, exists_const, and_assoc, exists_and_left, List.append_nil, ix0, ix1, ix2, cm_mod, cdw1009, cdw2003, cdw7, cdw64, cdw2, cm104729, cm2, cm3, upd_same, List.length_cons, List.length_nil, Int.reduceLT, Int.reduceLE, Nat.reduceAdd, Nat.reduceLeDiff, Nat.reduceLT, Int.reduceToNat, r_for1, r_forL, r_forT, r_lcL, r_lc1, r_yes, r_gtupD, wipe_0, wipe_1, List.cons_append, List.nil_append, r_forS, r_ipI, ite_false, ite_true, Bool.not_true, Bool.not_false, decide_true, decide_false, r_isd, r_islt, cD_ty, cD_ref, tD_non, tD_bl, tD_int, tD_str, tD_ref, tH_lst, tH_tup, tH_dK, tH_ins, ki_self, ki_int_bool, ki_non_int, ki_str_int, ki_lt_lst, ki_lt_tup, r_fld, r_sfld, HO.ins.injEq, cx_K, List.isEmpty_nil]
        refine ⟨tyl hacc, szl (by decide), fun t ht => ⟨_, by rw [upd_ne (ne_new hacc ht)]; exact hacc, by decide, ?_⟩⟩
        exact (app ht).resolve_right fun z => z (jstep_nil R)
      · rw [List.concat_eq_append] at pacc nx la app
        obtain ⟨rs, rq, rfl, prs, hq⟩ := Paired.snocR pacc
        have hq1 : H1 rq = some (.tup [.int (q.lo : Int), .int (q.hi : Int), lnV q.ln]) := hq
        have eA : (rs ++ [rq]).map V.ref = rs.map V.ref ++ [.ref rq] := by simp
        have hacc' := hacc
        rw [eA] at hacc'
        rw [show (xs.concat q).isEmpty = false from by simp]
        simp only [r_seq, r_next, r_brk, r_cont, r_asg, r_name, r_ret, r_retN, r_drop, r_ifs, r_never, r_var, r_c, r_op, r_un, r_if, r_tst, r_b, r_not, r_and, r_or, r_andV, r_orV, r_notV, r_nil, r_cons, r_tup, r_lst, r_cb, r_call, r_bm, r_bm0, r_sl, r_nopart, r_part, r_rev, r_gnil, r_gcons, r_gsub, r_par, r_aug, r_chain, r_I0, r_I, r_U, r_ixd, r_lend, r_tupd, r_listd, r_sld, r_app, r_ext, r_reverse, r_setl, r_cat, r_int1, r_eqS, r_neS, scal_ii, scal_bb, scal_ss, at0, at1, at2, sq_lst, sq_tup, isLst_lst, List.getElem?_cons_zero, List.getElem?_cons_succ, List.set_cons_zero, List.set_cons_succ, V.int.injEq, V.bl.injEq, V.ref.injEq, V.str.injEq, HO.lst.injEq, HO.tup.injEq, Option.some.injEq, exists_eq_left', exists_eq_left, List.cons.injEq, and_true, true_and, decide_eq_true_eq, reduceCtorEq, false_and, exists_false, or_false, false_or, exists_const, and_assoc, exists_and_left, List.append_nil, ix0, ix1, ix2, cm_mod, cdw1009, cdw2003, cdw7, cdw64, cdw2, cm104729, cm2, cm3, upd_same, List.length_cons, List.length_nil, Int.reduceLT, Int.reduceLE, Nat.reduceAdd, Nat.reduceLeDiff, Nat.reduceLT, Int.reduceToNat, r_for1, r_forL, r_forT, r_lcL, r_lc1, r_yes, r_gtupD, wipe_0, wipe_1, List.cons_append, List.nil_append, r_forS, r_ipI, ite_false, ite_true, Bool.not_true, Bool.not_false, decide_true, decide_false, r_isd, r_islt, cD_ty, cD_ref, tD_non, tD_bl, tD_int, tD_str, tD_ref, tH_lst, tH_tup, tH_dK, tH_ins, ki_self, ki_int_bool, ki_non_int, ki_str_int, ki_lt_lst, ki_lt_tup, r_fld, r_sfld, HO.ins.injEq, cx_K, eA, at_last, hq1, hacc']
        refine eq_ln ?_
        by_cases c : q.ln = R.ln
        · simp only [r_seq, r_next, r_brk, r_cont, r_asg, r_name, r_ret, r_retN, r_drop, r_ifs, r_never, r_var, r_c, r_op, r_un, r_if, r_tst, r_b, r_not, r_and, r_or, r_andV, r_orV, r_notV, r_nil, r_cons, r_tup, r_lst, r_cb, r_call, r_bm, r_bm0, r_sl, r_nopart, r_part, r_rev, r_gnil, r_gcons, r_gsub, r_par, r_aug, r_chain, r_I0, r_I, r_U, r_ixd, r_lend, r_tupd, r_listd, r_sld, r_app, r_ext, r_reverse, r_setl, r_cat, r_int1, r_eqS, r_neS, scal_ii, scal_bb, scal_ss, at0, at1, at2, sq_lst, sq_tup, isLst_lst, List.getElem?_cons_zero, List.getElem?_cons_succ, List.set_cons_zero, List.set_cons_succ, V.int.injEq, V.bl.injEq, V.ref.injEq, V.str.injEq, HO.lst.injEq, HO.tup.injEq, Option.some.injEq, exists_eq_left', exists_eq_left, List.cons.injEq, and_true, true_and, decide_eq_true_eq, reduceCtorEq, false_and, exists_false, or_false, false_or, exists_const, and_assoc, exists_and_left, List.append_nil, ix0, ix1, ix2, cm_mod, cdw1009, cdw2003, cdw7, cdw64, cdw2, cm104729, cm2, cm3, upd_same, List.length_cons, List.length_nil, Int.reduceLT, Int.reduceLE, Nat.reduceAdd, Nat.reduceLeDiff, Nat.reduceLT, Int.reduceToNat, r_for1, r_forL, r_forT, r_lcL, r_lc1, r_yes, r_gtupD, wipe_0, wipe_1, List.cons_append, List.nil_append, r_forS, r_ipI, ite_false, ite_true, Bool.not_true, Bool.not_false, decide_true, decide_false, r_isd, r_islt, cD_ty, cD_ref, tD_non, tD_bl, tD_int, tD_str, tD_ref, tH_lst, tH_tup, tH_dK, tH_ins, ki_self, ki_int_bool, ki_non_int, ki_str_int, ki_lt_lst, ki_lt_tup, r_fld, r_sfld, HO.ins.injEq, cx_K, c, eA, at_last, hq1, hacc']
          refine ⟨szl (by decide), fun t ht => ⟨_, by rw [upd_ne (ne_new hacc' ht)]; exact hacc', rs.length, by rw [List.length_append, List.length_map, List.length_singleton]; exact ix_last _, ?_⟩⟩
          have es : (rs.map V.ref ++ [V.ref rq]).set rs.length (.ref t) = rs.map V.ref ++ [V.ref t] := by
            have := set_last (xs := rs.map V.ref) (x := V.ref rq) (y := V.ref t)
            rwa [List.length_map] at this
          rw [es]
          obtain ⟨p1, p2⟩ := rows_put (R := ⟨q.lo, R.hi, R.ln⟩) hF s1 hacc' prs ht
          exact ⟨_, _, _, rfl, p1, by rw [nx, jstep_snoc, if_pos c]; exact p2⟩
        · simp only [r_seq, r_next, r_brk, r_cont, r_asg, r_name, r_ret, r_retN, r_drop, r_ifs, r_never, r_var, r_c, r_op, r_un, r_if, r_tst, r_b, r_not, r_and, r_or, r_andV, r_orV, r_notV, r_nil, r_cons, r_tup, r_lst, r_cb, r_call, r_bm, r_bm0, r_sl, r_nopart, r_part, r_rev, r_gnil, r_gcons, r_gsub, r_par, r_aug, r_chain, r_I0, r_I, r_U, r_ixd, r_lend, r_tupd, r_listd, r_sld, r_app, r_ext, r_reverse, r_setl, r_cat, r_int1, r_eqS, r_neS, scal_ii, scal_bb, scal_ss, at0, at1, at2, sq_lst, sq_tup, isLst_lst, List.getElem?_cons_zero, List.getElem?_cons_succ, List.set_cons_zero, List.set_cons_succ, V.int.injEq, V.bl.injEq, V.ref.injEq, V.str.injEq, HO.lst.injEq, HO.tup.injEq, Option.some.injEq, exists_eq_left', exists_eq_left, List.cons.injEq, and_true, true_and, decide_eq_true_eq, reduceCtorEq, false_and, exists_false, or_false, false_or, exists_const, and_assoc, exists_and_left, List.append_nil, ix0, ix1, ix2, cm_mod, cdw1009, cdw2003, cdw7, cdw64, cdw2, cm104729, cm2, cm3, upd_same, List.length_cons, List.length_nil, Int.reduceLT, Int.reduceLE, Nat.reduceAdd, Nat.reduceLeDiff, Nat.reduceLT, Int.reduceToNat, r_for1, r_forL, r_forT, r_lcL, r_lc1, r_yes, r_gtupD, wipe_0, wipe_1, List.cons_append, List.nil_append, r_forS, r_ipI, ite_false, ite_true, Bool.not_true, Bool.not_false, decide_true, decide_false, r_isd, r_islt, cD_ty, cD_ref, tD_non, tD_bl, tD_int, tD_str, tD_ref, tH_lst, tH_tup, tH_dK, tH_ins, ki_self, ki_int_bool, ki_non_int, ki_str_int, ki_lt_lst, ki_lt_tup, r_fld, r_sfld, HO.ins.injEq, cx_K, c, eA, at_last, hq1, hacc']
          refine ⟨tyl hacc, szl (by decide), fun t ht => ⟨_, by rw [upd_ne (ne_new hacc ht)]; exact hacc, Nat.lt_of_le_of_lt (by rw [List.length_map, Paired.length pacc]; exact la) (by decide), ?_⟩⟩
          exact (app ht).resolve_right fun z => z (by rw [jstep_snoc, if_neg c])
    · rintro σ H1 ⟨v1, v2, v3, rfl, s1, r1⟩
      rw [List.length_map, Paired.length hP, List.take_length] at r1
      simp only [r_seq, r_next, r_brk, r_cont, r_asg, r_name, r_ret, r_retN, r_drop, r_ifs, r_never, r_var, r_c, r_op, r_un, r_if, r_tst, r_b, r_not, r_and, r_or, r_andV, r_orV, r_notV, r_nil, r_cons, r_tup, r_lst, r_cb, r_call, r_bm, r_bm0, r_sl, r_nopart, r_part, r_rev, r_gnil, r_gcons, r_gsub, r_par, r_aug, r_chain, r_I0, r_I, r_U, r_ixd, r_lend, r_tupd, r_listd, r_sld, r_app, r_ext, r_reverse, r_setl, r_cat, r_int1, r_eqS, r_neS, scal_ii, scal_bb, scal_ss, at0, at1, at2, sq_lst, sq_tup, isLst_lst, List.getElem?_cons_zero, List.getElem?_cons_succ, List.set_cons_zero, List.set_cons_succ, V.int.injEq, V.bl.injEq, V.ref.injEq, V.str.injEq, HO.lst.injEq, HO.tup.injEq, Option.some.injEq, exists_eq_left', exists_eq_left, List.cons.injEq, and_true, true_and, decide_eq_true_eq, reduceCtorEq, false_and, exists_false, or_false, false_or, exists_const, and_assoc, exists_and_left, List.append_nil, ix0, ix1, ix2, cm_mod, cdw1009, cdw2003, cdw7, cdw64, cdw2, cm104729, cm2, cm3, upd_same, List.length_cons, List.length_nil, Int.reduceLT, Int.reduceLE, Nat.reduceAdd, Nat.reduceLeDiff, Nat.reduceLT, Int.reduceToNat, r_for1, r_forL, r_forT, r_lcL, r_lc1, r_yes, r_gtupD, wipe_0, wipe_1, List.cons_append, List.nil_append, r_forS, r_ipI, ite_false, ite_true, Bool.not_true, Bool.not_false, decide_true, decide_false, r_isd, r_islt, cD_ty, cD_ref, tD_non, tD_bl, tD_int, tD_str, tD_ref, tH_lst, tH_tup, tH_dK, tH_ins, ki_self, ki_int_bool, ki_non_int, ki_str_int, ki_lt_lst, ki_lt_tup, r_fld, r_sfld, HO.ins.injEq, cx_K]
      exact k F H1 hF s1 r1
end
end C57

set_option maxHeartbeats 1000000
namespace C57
open PySem PySem.Spec PyProof.Rows L2
/-! ### signed numbers -/
theorem bor64 (x : Int) : Builtin.bitOr (x % 64) 64 = x % 64 + 64 := Bits.bitOr_join (a := x % 64) (b := 1) (k := 6) (by omega) (by omega) (by decide)
theorem shr6 (x : Int) : x / 2 ^ (Int.toNat 6) = x / 64 := rfl
def zig (n : Int) : Nat := if 0 ≤ n then (2 * n).toNat else (1 - 2 * n).toNat
def litM (m : Nat) : List Nat := if h : m < 64 then [m] else (m % 64 + 64) :: litM (m / 64)
termination_by m
decreasing_by omega
theorem litM_lt {m : Nat} (h : m < 64) : litM m = [m] := by
  rw [litM]
  exact dif_pos h
theorem litM_ge {m : Nat} (h : ¬ m < 64) : litM m = (m % 64 + 64) :: litM (m / 64) := by
  rw [litM]
  exact dif_neg h
theorem litM_low : ∀ m : Nat, ∃ ds d, low m = ds ++ [d] ∧ up ds ++ [d] = litM m ∧ ds.length ≤ (rest m).length := by
  intro m
  induction m using Nat.strongRecOn with
  | _ m ih =>
    by_cases c : m < 64
    · exact ⟨[], m % 64, by unfold low; rw [rest_lt c]; rfl, by rw [litM_lt c, Nat.mod_eq_of_lt c]; rfl, Nat.zero_le _⟩
    · obtain ⟨ds, d, e1, e2, e3⟩ := ih (m / 64) (by omega)
      refine ⟨m % 64 :: ds, d, ?_, ?_, ?_⟩
      · unfold low
        rw [rest_ge c, e1]
        rfl
      · rw [litM_ge c, ← e2]
        rfl
      · rw [rest_ge c, e1]
        simp
theorem litM_len {m : Nat} (h : m < 2 ^ 62) : (litM m).length ≤ 12 := by
  obtain ⟨ds, d, _, e2, e3⟩ := litM_low m
  have := rest_len 10 m (Nat.lt_of_lt_of_le h (by decide))
  rw [← e2, List.length_append]
  unfold up
  rw [List.length_map, List.length_singleton]
  omega
theorem zig_pos {n : Int} (h : 0 ≤ n) : 2 * n = ((zig n : Nat) : Int) := by
  unfold zig
  rw [if_pos h]
  omega
theorem zig_neg {n : Int} (h : ¬ 0 ≤ n) : 1 - 2 * n = ((zig n : Nat) : Int) := by
  unfold zig
  rw [if_neg h]
  omega
theorem zig_lt {n : Int} (h1 : -(2 ^ 60) < n) (h2 : n < 2 ^ 60) : zig n < 2 ^ 62 := by
  unfold zig
  split <;> omega
def spSigned : Sp := fun vs H Q _ => ∃ n : Int, vs = [.int n] ∧ -(2 ^ 60) < n ∧ n < 2 ^ 60 ∧ ∀ p H', H p = none → Same H H' → H' p = some (.lst (vn (litM (zig n)))) → Q (.ref p) H'
def entryL (u : Nat) : Option Int → List Nat
  | none => [248 + u - 1]
  | some n => (232 + u - 1) :: litM (zig n)
def spEntry : Sp := fun vs H Q _ => ∃ (u : Nat) (more : Option Int), vs = [.int (u : Int), lnV more] ∧ 1 ≤ u ∧ u ≤ 8 ∧ (∀ n, more = some n → -(2 ^ 60) < n ∧ n < 2 ^ 60) ∧ ∀ p H', H p = none → Same H H' → H' p = some (.lst (vn (entryL u more))) → Q (.ref p) H'
def lvSigned (H : Hp) (p : Addr) (m0 : Nat) (n : Int) (σ : L2.St) (H' : Hp) : Prop := ∃ (m : Nat) (ds : List Nat), σ = [some (.int n), some (.int (m : Int)), some (.ref p)] ∧ Same H H' ∧ H' p = some (.lst (vn ds)) ∧ ds ++ litM m = litM m0
def msSigned (σ : L2.St) : Nat := match σ with
  | _ :: some (.int a) :: _ => a.toNat
  | _ => 0
section
variable {P : Program} {w : World} {K : PySem.W.Frag} {mg : Str → Option Value} {base : Heap} {f : Addr} {fd : FuncData}
abbrev sentry : Stmt := top 72
theorem scentry : FnScope ["_law_units", "_law_more", "_law_number"] ["_law_units", "_law_more"] (defScope sentry) := ⟨rfl, rfl, rfl, by decide +kernel, rfl, by decide +kernel, by decide +kernel⟩

theorem ok_entry (T : Txt mg) (F : FnP K "_law_entry" "_law_entry" sentry f fd) (C_pieces : Cal P w K mg base 1 "_law_pieces" ["_law_number"] spPieces) (C_marked : Cal P w K mg base 1 "_law_marked" ["_law_some"] spMarked) : FnOk P w K mg base CX0 2 f fd ["_law_units", "_law_more"] spEntry := by
  refine F.ok scentry (fun vs H Q E h => ?_) (fun cdv A outer s H vs Q E hr h => ?_)
  · obtain ⟨u, more, rfl, _⟩ := h
    rfl
  · obtain ⟨u, more, rfl, h1, h8, hm, k⟩ := h
    refine ⟨_, PSs.nox (pss_cons (ps_if (pt_cmpR op_isN (pv 1) pe_non (nomark _))
    (pss_one (ps_ret (pe_lst (pa_cons (pe_op op_sub (pe_op op_add pe_int (pv 0)) pe_int) pa_nil))))
    pss_nil)
  (pss_cons (ps_set (i := 2) scentry.nd rfl (Or.inl rfl) (pe_ifExp (pt_cmpR op_ge (pv 1) pe_int (nomark _)) (pe_op op_mul pe_int (pv 1)) (pe_op op_sub pe_int (pe_op op_mul pe_int (pv 1)))))
  (pss_one (ps_ret (pe_op op_cat (pe_lst (pa_cons (pe_op op_sub (pe_op op_add pe_int (pv 0)) pe_int) pa_nil)) (pe_cal C_marked (hr.mono (by decide)) rfl (pa_cons (pe_cal C_pieces (hr.mono (by decide)) rfl (pa_cons (pv 2) pa_nil)) pa_nil))))))), ?_⟩
    show (_ : TS) _ [some (.int (u : Int)), some (lnV more), none] H
    have e1 : (248 : Int) + (u : Int) - 1 = ((248 + u - 1 : Nat) : Int) := by omega
    have e2 : (232 : Int) + (u : Int) - 1 = ((232 + u - 1 : Nat) : Int) := by omega
    cases more with
    | none =>
      simp only [r_seq, r_next, r_brk, r_cont, r_asg, r_name, r_ret, r_retN, r_drop, r_ifs, r_never, r_var, r_c, r_op, r_un, r_if, r_tst, r_b, r_not, r_and, r_or, r_andV, r_orV, r_notV, r_nil, r_cons, r_tup, r_lst, r_cb, r_call, r_bm, r_bm0, r_sl, r_nopart, r_part, r_rev, r_gnil, r_gcons, r_gsub, r_par, r_aug, r_chain, r_I0, r_I, r_U, r_ixd, r_lend, r_tupd, r_listd, r_sld, r_app, r_ext, r_reverse, r_setl, r_cat, r_int1, r_eqS, r_neS, scal_ii, scal_bb, scal_ss, at0, at1, at2, sq_lst, sq_tup, isLst_lst, List.getElem?_cons_zero, List.getElem?_cons_succ, List.set_cons_zero, List.set_cons_succ, V.int.injEq, V.bl.injEq, V.ref.injEq, V.str.injEq, HO.lst.injEq, HO.tup.injEq, Option.some.injEq, exists_eq_left', exists_eq_left, List.cons.injEq, and_true, true_and, decide_eq_true_eq, reduceCtorEq, false_and, exists_false, or_false, false_or, exists_const, and_assoc, exists_and_left, List.append_nil, ix0, ix1, ix2, cm_mod, cdw1009, cdw2003, cdw7, cdw64, cdw2, cm104729, cm2, cm3, upd_same, List.length_cons, List.length_nil, Int.reduceLT, Int.reduceLE, Nat.reduceAdd, Nat.reduceLeDiff, Nat.reduceLT, Int.reduceToNat, r_for1, r_forL, r_forT, r_lcL, r_lc1, r_yes, r_gtupD, wipe_0, wipe_1, List.cons_append, List.nil_append, r_forS, r_ipI, ite_false, ite_true, Bool.not_true, Bool.not_false, decide_true, decide_false, r_isd, r_islt, cD_ty, cD_ref, tD_non, tD_bl, tD_int, tD_str, tD_ref, tH_lst, tH_tup, tH_dK, tH_ins, ki_self, ki_int_bool, ki_non_int, ki_str_int, ki_lt_lst, ki_lt_tup, r_fld, r_sfld, HO.ins.injEq, cx_K, lnV, e1]
      exact ⟨szl (by decide), fun p hp => k p _ hp (Same.new' (Same.refl H) hp) upd_same⟩
    | some n =>
      obtain ⟨n1, n2⟩ := hm n rfl
      simp only [r_seq, r_next, r_brk, r_cont, r_asg, r_name, r_ret, r_retN, r_drop, r_ifs, r_never, r_var, r_c, r_op, r_un, r_if, r_tst, r_b, r_not, r_and, r_or, r_andV, r_orV, r_notV, r_nil, r_cons, r_tup, r_lst, r_cb, r_call, r_bm, r_bm0, r_sl, r_nopart, r_part, r_rev, r_gnil, r_gcons, r_gsub, r_par, r_aug, r_chain, r_I0, r_I, r_U, r_ixd, r_lend, r_tupd, r_listd, r_sld, r_app, r_ext, r_reverse, r_setl, r_cat, r_int1, r_eqS, r_neS, scal_ii, scal_bb, scal_ss, at0, at1, at2, sq_lst, sq_tup, isLst_lst, List.getElem?_cons_zero, List.getElem?_cons_succ, List.set_cons_zero, List.set_cons_succ, V.int.injEq, V.bl.injEq, V.ref.injEq, V.str.injEq, HO.lst.injEq, HO.tup.injEq, Option.some.injEq, exists_eq_left', exists_eq_left, List.cons.injEq, and_true, true_and, decide_eq_true_eq, reduceCtorEq, false_and, exists_false, or_false, false_or, exists_const, and_assoc, exists_and_left, List.append_nil, ix0, ix1, ix2, cm_mod, cdw1009, cdw2003, cdw7, cdw64, cdw2, cm104729, cm2, cm3, upd_same, List.length_cons, List.length_nil, Int.reduceLT, Int.reduceLE, Nat.reduceAdd, Nat.reduceLeDiff, Nat.reduceLT, Int.reduceToNat, r_for1, r_forL, r_forT, r_lcL, r_lc1, r_yes, r_gtupD, wipe_0, wipe_1, List.cons_append, List.nil_append, r_forS, r_ipI, ite_false, ite_true, Bool.not_true, Bool.not_false, decide_true, decide_false, r_isd, r_islt, cD_ty, cD_ref, tD_non, tD_bl, tD_int, tD_str, tD_ref, tH_lst, tH_tup, tH_dK, tH_ins, ki_self, ki_int_bool, ki_non_int, ki_str_int, ki_lt_lst, ki_lt_tup, r_fld, r_sfld, HO.ins.injEq, cx_K, lnV, e2]
      have fin : ∀ (p : Addr), H p = none → spPieces [V.int ((zig n : Nat) : Int)] (L2.upd H p (.lst [V.int ((232 + u - 1 : Nat) : Int)])) (fun x H1 => spMarked [x] H1 (fun y H2 => ∃ x, y = V.ref x ∧ ∃ x_1, H2 p = some (HO.lst x_1) ∧ ∃ x_2, H2 x = some (HO.lst x_2) ∧ x_1.length + x_2.length ≤ sizeLine ∧ ∀ (p : Addr), H2 p = none → Q (V.ref p) (L2.upd H2 p (HO.lst (x_1 ++ x_2)))) E0) E0 := by
        intro p hp
        have zl := zig_lt n1 n2
        obtain ⟨ds, d, q1, q2, q3⟩ := litM_low (zig n)
        have r1 := rest_len 10 (zig n) (Nat.lt_of_lt_of_le zl (by decide))
        have ll := litM_len zl
        refine ⟨zig n, rfl, Nat.lt_trans zl (by decide), fun p1 H1 hp1 s1 h1' => ⟨p1, ds, d, rfl, by rw [← q1]; exact h1', by omega, fun p2 H2 hp2 s2 h2 => ⟨p2, rfl, _, s2 _ _ (s1 _ _ upd_same), _, h2, szl (by rw [q2, vn_len, List.length_singleton]; omega), fun p3 hp3 => ?_⟩⟩⟩
        have sA : Same H H2 := fun b o e => s2 b o (s1 b o (by rw [upd_ne (ne_new e hp)]; exact e))
        refine k p3 _ ?_ (Same.new' sA hp3) (by rw [upd_same, q2]; rfl)
        cases e : H p3 with
        | none => rfl
        | some o =>
          have := sA _ _ e
          rw [hp3] at this
          cases this
      split
      · rename_i c
        rw [zig_pos c]
        exact ⟨szl (by decide), fin⟩
      · rename_i c
        rw [zig_neg c]
        exact ⟨szl (by decide), fin⟩
end
end C57

set_option maxHeartbeats 1000000
namespace C57
open PySem PySem.Spec PyProof.Rows L2
/-! ### a star in a list display; a list times a number -/
def tStarD (te : TE) (t : TA) : TA := fun σ H Q => te σ H fun x H1 => ∃ p xs, x = .ref p ∧ sq (H1 p) = some xs ∧ t σ H1 fun ys H2 => Q (xs ++ ys) H2
section
variable {X : Cx}
theorem PA.weak {es : List Expr} {t t' : TA} (h : PA X es t) (i : ∀ σ H Q, t' σ H Q → t σ H Q) : PA X es t' := ⟨fun pos pins s σ H Q I q => h.run pos pins s σ H Q I (i _ _ _ q)⟩
theorem pa_starD {e : Expr} {es : List Expr} {te : TE} {t : TA} {p : Pos} (he : PE X e te) (hr : PA X es t) (hs : starEach (.Starred e p :: es) X.env = (true, eval e X.env) :: starEach es X.env := by rfl) : PA X (.Starred e p :: es) (tStarD te t) :=
  PA.weak (StX.pa_star (PE.mcl he) hr hs) fun σ H Q q => ⟨_, q, fun v H' ⟨a, xs, e1, h, k⟩ => ⟨a, xs, e1, (by
    rcases sq_cases h with h | h
    · exact .inr (SqL.of h)
    · exact .inl (SqT.of h)), k⟩⟩
theorem r_starD {te : TE} {t : TA} {σ : L2.St} {H : Hp} {QA : List V → Hp → Prop} : tStarD te t σ H QA = te σ H (fun x H1 => ∃ p xs, x = .ref p ∧ sq (H1 p) = some xs ∧ t σ H1 fun ys H2 => QA (xs ++ ys) H2) := rfl
theorem r_rep {x y : V} {H : Hp} {Q : VK} : rRep x y H Q = ∃ l k xs, x = .ref l ∧ y = .int k ∧ H l = some (.lst xs) ∧ -(2 ^ 63) ≤ k ∧ k < 2 ^ 63 ∧ xs.length * k.toNat ≤ sizeLine ∧ ∀ p, H p = none → Q (.ref p) (upd H p (.lst (List.replicate k.toNat xs).flatten)) := rfl
end

/-! ### the bytes of rows -/
/-- c units of line l, cur being the line told last -/
def lineB (c : Nat) (l : Option Int) (cur : Int) : List Nat := if h : c = 0 then [] else entryL (min c 8) (l.map (· - cur)) ++ lineB (c - min c 8) l (l.getD cur)
termination_by c
decreasing_by omega
theorem lineB_0 (l : Option Int) (cur : Int) : lineB 0 l cur = [] := by
  rw [lineB]
  rfl
theorem lineB_pos {c : Nat} (h : c ≠ 0) (l : Option Int) (cur : Int) : lineB c l cur = entryL (min c 8) (l.map (· - cur)) ++ lineB (c - min c 8) l (l.getD cur) := by
  rw [lineB]
  exact dif_neg h
def units (R : LR) : Nat := (R.hi - R.lo) / 2
def bytesL : List LR → Int → List Nat
  | [], _ => []
  | R :: Rs, cur => lineB (units R) R.ln cur ++ bytesL Rs (R.ln.getD cur)
/-- the line told last behind these rows -/
def curL (Rs : List LR) (cur : Int) : Int := Rs.foldl (fun c R => R.ln.getD c) cur
theorem bytesL_snoc : ∀ (Rs : List LR) (R : LR) (cur : Int), bytesL (Rs ++ [R]) cur = bytesL Rs cur ++ lineB (units R) R.ln (curL Rs cur)
  | [], R, cur => by simp [bytesL, curL]
  | Q :: Rs, R, cur => by
    show lineB (units Q) Q.ln cur ++ bytesL (Rs ++ [R]) (Q.ln.getD cur) = _
    rw [bytesL_snoc Rs R]
    simp [bytesL, curL]
theorem bytesL_app : ∀ (Rs Qs : List LR) (cur : Int), bytesL (Rs ++ Qs) cur = bytesL Rs cur ++ bytesL Qs (curL Rs cur)
  | [], Qs, cur => by simp [bytesL, curL]
  | R :: Rs, Qs, cur => by
    show lineB (units R) R.ln cur ++ bytesL (Rs ++ Qs) (R.ln.getD cur) = _
    rw [bytesL_app Rs Qs]
    simp [bytesL, curL]
theorem curL_snoc (Rs : List LR) (R : LR) (cur : Int) : curL (Rs ++ [R]) cur = R.ln.getD (curL Rs cur) := by
  unfold curL
  rw [List.foldl_append]
  rfl
def LOk (R : LR) : Prop := R.lo + 2 ≤ R.hi ∧ R.hi < 2 ^ 60 ∧ ∀ i, R.ln = some i → -(2 ^ 50) < i ∧ i < 2 ^ 50
theorem curL_ok {cur : Int} (h : -(2 ^ 50) < cur ∧ cur < 2 ^ 50) : ∀ {Rs : List LR}, (∀ R ∈ Rs, LOk R) → -(2 ^ 50) < curL Rs cur ∧ curL Rs cur < 2 ^ 50 := by
  intro Rs
  unfold curL
  induction Rs generalizing cur with
  | nil => exact fun _ => h
  | cons R Rs ih =>
    intro ok
    refine ih ?_ fun Q hq => ok Q (List.mem_cons_of_mem _ hq)
    show -(2 ^ 50) < R.ln.getD cur ∧ R.ln.getD cur < 2 ^ 50
    cases e : R.ln with
    | none => exact h
    | some i => exact (ok R List.mem_cons_self).2.2 i e
theorem lineB_none (cur : Int) : ∀ w u : Nat, 1 ≤ u → (u - 1) / 8 = w → lineB u none cur = (List.replicate w [255]).flatten ++ [248 + (u - 8 * w - 1)]
  | 0, u, h1, hw => by
    have h8 : u ≤ 8 := by omega
    rw [lineB_pos (by omega), Nat.min_eq_left h8, Nat.sub_self, lineB_0]
    show [248 + u - 1] ++ [] = _
    rw [show 248 + u - 1 = 248 + (u - 8 * 0 - 1) from by omega]
    rfl
  | w + 1, u, h1, hw => by
    have h8 : 8 < u := by omega
    rw [lineB_pos (by omega), Nat.min_eq_right (by omega)]
    show [248 + 8 - 1] ++ lineB (u - 8) none cur = _
    rw [lineB_none cur w (u - 8) (by omega) (by omega), List.replicate_succ, show u - 8 - 8 * w - 1 = u - 8 * (w + 1) - 1 from by omega]
    rfl
theorem lineB_same (l : Int) : ∀ w u : Nat, 1 ≤ u → (u - 1) / 8 = w → lineB u (some l) l = (List.replicate w [239, 0]).flatten ++ [232 + (u - 8 * w - 1), 0]
  | 0, u, h1, hw => by
    have h8 : u ≤ 8 := by omega
    rw [lineB_pos (by omega), Nat.min_eq_left h8, Nat.sub_self, lineB_0]
    show (232 + u - 1) :: litM (zig (l - l)) ++ [] = _
    rw [show 232 + u - 1 = 232 + (u - 8 * 0 - 1) from by omega, Int.sub_self, show zig 0 = 0 from rfl, litM_lt (by decide)]
    rfl
  | w + 1, u, h1, hw => by
    have h8 : 8 < u := by omega
    rw [lineB_pos (by omega), Nat.min_eq_right (by omega)]
    show ((232 + 8 - 1) :: litM (zig (l - l))) ++ lineB (u - 8) (some l) l = _
    rw [lineB_same l w (u - 8) (by omega) (by omega), List.replicate_succ, show u - 8 - 8 * w - 1 = u - 8 * (w + 1) - 1 from by omega, Int.sub_self, show zig 0 = 0 from rfl, litM_lt (by decide)]
    rfl
theorem lineB_one (l cur : Int) {u : Nat} (h1 : 1 ≤ u) (h8 : u ≤ 8) : lineB u (some l) cur = (232 + (u - 1)) :: litM (zig (l - cur)) := by
  rw [lineB_pos (by omega), Nat.min_eq_left h8, Nat.sub_self, lineB_0, List.append_nil, show 232 + (u - 1) = 232 + u - 1 from by omega]
  rfl
theorem lineB_more (l cur : Int) {u : Nat} (h8 : 8 < u) : lineB u (some l) cur = 239 :: (litM (zig (l - cur)) ++ lineB (u - 8) (some l) l) := by
  rw [lineB_pos (by omega), Nat.min_eq_right (by omega)]
  rfl
theorem vn_rep (w : Nat) (xs : List Nat) : (List.replicate w (vn xs)).flatten = vn (List.replicate w xs).flatten := by
  induction w with
  | zero => rfl
  | succ w ih => rw [List.replicate_succ, List.replicate_succ, List.flatten_cons, List.flatten_cons, vn_app, ih]
theorem rep_len (w : Nat) (xs : List Nat) : (List.replicate w xs).flatten.length = w * xs.length := by
  induction w with
  | zero => simp
  | succ w ih => rw [List.replicate_succ, List.flatten_cons, List.length_append, ih, Nat.succ_mul, Nat.add_comm]
/-- what stands for a line that is greater by so much -/
def PcsAt (H : Hp) (x : V) : Option Int → Int → Prop
  | none, _ => x = .non
  | some j, cur => ∃ p, x = .ref p ∧ H p = some (.lst (vn (litM (zig (j - cur))))) ∧ -(2 ^ 60) < j - cur ∧ j - cur < 2 ^ 60
def spEntries : Sp := fun vs H Q _ => ∃ (u : Nat) (x : V) (l : Option Int) (cur : Int), vs = [.int (u : Int), x] ∧ 1 ≤ u ∧ PcsAt H x l cur ∧ (lineB u l cur).length ≤ 2000000 ∧ ∀ p H', H p = none → Same H H' → H' p = some (.lst (vn (lineB u l cur))) → Q (.ref p) H'
def lvLB (H : Hp) (a F : Addr) (Js : List LR) (cur : Int) (i : Nat) (σ : L2.St) (H' : Hp) : Prop := ∃ v1 v2 v3 v4 v5 : Option V, σ = [some (.ref a), some (.int (curL (Js.take i) cur)), some (.ref F), v1, v2, v3, v4, v5] ∧ Keep F H H' ∧ H' F = some (.lst (vn (bytesL (Js.take i) cur)))
end C57

set_option maxHeartbeats 1000000
namespace C57
open PySem PySem.Spec PyProof.Rows L2
def spLLB : Sp := fun vs H Q _ => ∃ (a : Addr) (Rs : List LR) (cur : Int), vs = [.ref a, .int cur] ∧ LRows H a Rs ∧ Rs.length ≤ 100000 ∧ (∀ R ∈ joinL Rs, LOk R) ∧ -(2 ^ 50) < cur ∧ cur < 2 ^ 50 ∧ (bytesL (joinL Rs) cur).length ≤ 2000000 ∧
  ∀ p H', H p = none → Same H H' → H' p = some (.lst (vn (bytesL (joinL Rs) cur))) → Q (.ref p) H'
/-- behind k turns of the inner loop -/
def lvLK (H : Hp) (a F : Addr) (pre : List Nat) (R : LR) (cur : Int) (k : Nat) (σ : L2.St) (H' : Hp) : Prop := ∃ (cu : Int) (ds : List Nat) (v : Option V), σ = [some (.ref a), some (.int cu), some (.ref F), some (.int (R.lo : Int)), some (.int (R.hi : Int)), some (lnV R.ln), some (.int ((units R : Nat) : Int)), v] ∧
  Keep F H H' ∧ H' F = some (.lst (vn ds)) ∧ ds ++ lineB (units R - 8 * k) R.ln cu = pre ++ lineB (units R) R.ln cur ∧ (cu = cur ∨ R.ln = some cu) ∧ (0 < k → cu = R.ln.getD cur)
section
variable {P : Program} {w : World} {K : PySem.W.Frag} {mg : Str → Option Value} {base : Heap} {f : Addr} {fd : FuncData}
abbrev slline_bytes : Stmt := top 73
theorem sclline_bytes : FnScope ["_law_some", "_law_line", "_law_found", "_law_low", "_law_high", "_law_here", "_law_many", "_law_k"] ["_law_some", "_law_line"] (defScope slline_bytes) := ⟨rfl, rfl, rfl, by decide +kernel, rfl, by decide +kernel, by decide +kernel⟩

theorem ok_lline_bytes (T : Txt mg) (F : FnP K "_law_line_bytes" "_law_line_bytes" slline_bytes f fd) (C_joined : Cal P w K mg base 1 "_law_joined" ["_law_some"] spJoinedL) (C_entry : Cal P w K mg base 2 "_law_entry" ["_law_units", "_law_more"] spEntry) : FnOk P w K mg base CX0 3 f fd ["_law_some", "_law_line"] spLLB := by
  refine F.ok sclline_bytes (fun vs H Q E h => ?_) (fun cdv A outer s H vs Q E hr h => ?_)
  · obtain ⟨a, Rs, cur, rfl, _⟩ := h
    rfl
  · obtain ⟨a, Rs, cur, rfl, ha, hl, hok, c1, c2, hz, k⟩ := h
    refine ⟨_, PSs.nox (pss_cons (ps_set (i := 2) sclline_bytes.nd rfl (Or.inl rfl) (pe_lst pa_nil))
  (pss_cons (ps_for PassesOwn.never rfl (pi_list (pe_cal C_joined (hr.mono (by decide)) rfl (pa_cons (pv 0) pa_nil))) (pg_tupD (n := 3) rfl (pgs_cons (pg_name (i := 3) sclline_bytes.nd rfl (Or.inl rfl)) (pgs_cons (pg_name (i := 4) sclline_bytes.nd rfl (Or.inl rfl)) (pgs_cons (pg_name (i := 5) sclline_bytes.nd rfl (Or.inl rfl)) pgs_nil))))
    (pss_cons (ps_set (i := 6) sclline_bytes.nd rfl (Or.inl rfl) (pe_op op_fdivW (pe_op op_sub (pv 4) (pv 3)) pe_int))
  (pss_one (ps_for PassesOwn.never rfl (pi_range1 rfl T.b_range (pa_cons (pe_op op_fdivW (pe_op op_add (pv 6) pe_int) pe_int) pa_nil)) (pg_name (i := 7) sclline_bytes.nd rfl (Or.inl rfl))
    (pss_cons (ps_expr (pe_bm PySem.F.plainAttrs_list PySem.F.slot_list_extend PySem.F.type_list_extend mt_extend (pv 2) (pa_cons (pe_cal C_entry (hr.mono (by decide)) rfl (pa_cons (pe_callB (call_min2 rfl) (by rfl) T.b_min (by decide +kernel) (pa_cons pe_int (pa_cons (pe_op op_sub (pv 6) (pe_op op_mul pe_int (pv 7))) pa_nil))) (pa_cons (pe_ifExp (pt_cmpR op_isN (pv 5) pe_non (nomark _)) pe_non (pe_op op_sub (pv 5) (pv 1))) pa_nil))) pa_nil)))
  (pss_one (ps_set (i := 1) sclline_bytes.nd rfl (Or.inl rfl) (pe_ifExp (pt_cmpR op_isN (pv 5) pe_non (nomark _)) (pv 1) (pv 5)))))))))
  (pss_one (ps_ret (pv 2))))), ?_⟩
    show (_ : TS) _ [some (.ref a), some (.int cur), none, none, none, none, none, none] H
    simp only [r_seq, r_next, r_brk, r_cont, r_asg, r_name, r_ret, r_retN, r_drop, r_ifs, r_never, r_var, r_c, r_op, r_un, r_if, r_tst, r_b, r_not, r_and, r_or, r_andV, r_orV, r_notV, r_nil, r_cons, r_tup, r_lst, r_cb, r_call, r_bm, r_bm0, r_sl, r_nopart, r_part, r_rev, r_gnil, r_gcons, r_gsub, r_par, r_aug, r_chain, r_I0, r_I, r_U, r_ixd, r_lend, r_tupd, r_listd, r_sld, r_app, r_ext, r_reverse, r_setl, r_cat, r_int1, r_eqS, r_neS, scal_ii, scal_bb, scal_ss, at0, at1, at2, sq_lst, sq_tup, isLst_lst, List.getElem?_cons_zero, List.getElem?_cons_succ, List.set_cons_zero, List.set_cons_succ, V.int.injEq, V.bl.injEq, V.ref.injEq, V.str.injEq, HO.lst.injEq, HO.tup.injEq, Option.some.injEq, exists_eq_left', exists_eq_left, List.cons.injEq, and_true, true_and, decide_eq_true_eq, reduceCtorEq, false_and, exists_false, or_false, false_or, exists_const, and_assoc, exists_and_left, List.append_nil, ix0, ix1, ix2, cm_mod, cdw1009, cdw2003, cdw7, cdw64, cdw2, cm104729, cm2, cm3, upd_same, List.length_cons, List.length_nil, Int.reduceLT, Int.reduceLE, Nat.reduceAdd, Nat.reduceLeDiff, Nat.reduceLT, Int.reduceToNat, r_for1, r_forL, r_forT, r_lcL, r_lc1, r_yes, r_gtupD, wipe_0, wipe_1, List.cons_append, List.nil_append, r_forS, r_ipI, ite_false, ite_true, Bool.not_true, Bool.not_false, decide_true, decide_false, r_isd, r_islt, cD_ty, cD_ref, tD_non, tD_bl, tD_int, tD_str, tD_ref, tH_lst, tH_tup, tH_dK, tH_ins, ki_self, ki_int_bool, ki_non_int, ki_str_int, ki_lt_lst, ki_lt_tup, r_fld, r_sfld, HO.ins.injEq, cx_K]
    refine ⟨szl (by decide), fun F hF => ⟨a, Rs, rfl, ?_, hl, fun J H1 hJ s1 r1 => ?_⟩⟩
    · obtain ⟨refs, e, p⟩ := ha
      have aF : a ≠ F := fun z => by
        rw [z, hF] at e
        cases e
      exact ⟨refs, by rw [upd_ne aF]; exact e, Paired.map' p fun x y h => by rw [upd_ne (ne_new h hF)]; exact h⟩
    have hF1 : H1 F = some (.lst []) := s1 _ _ upd_same
    have sH : ∀ {H' : Hp}, Keep F H1 H' → Same H H' := fun kk b o e => kk b o (ne_new e hF) (s1 b o (by rw [upd_ne (ne_new e hF)]; exact e))
    obtain ⟨refs, eJ, pJ⟩ := r1
    have lr := Paired.length pJ
    have JF : J ≠ F := fun z => by
      subst z
      rw [upd_same] at hJ
      cases hJ
    refine ⟨J, rfl, ⟨_, SqL.of eJ⟩, lp_list (xs := refs.map V.ref) (lvLB H1 a F (joinL Rs) cur) ⟨_, _, _, _, _, rfl, Keep.refl F H1, hF1⟩ (fun i σ H' _ ⟨_, _, _, _, _, _, kk, _⟩ => SqL.of (kk _ _ JF eJ)) ?_ ?_⟩
    · rintro i x σ H2 hx ⟨v1, v2, v3, v4, v5, rfl, kk, h2⟩
      have hir : i < refs.length := by
        have := (List.getElem?_eq_some_iff.mp hx).1
        rwa [List.length_map] at this
      have hiR : i < (joinL Rs).length := by rw [← lr]; exact hir
      obtain rfl : x = .ref refs[i] := by
        rw [List.getElem?_map, List.getElem?_eq_getElem hir] at hx
        exact (Option.some.inj hx).symm
      have h0 := Paired.at' pJ hir hiR
      have rF : refs[i] ≠ F := fun z => by rw [z, hF1] at h0; cases h0
      have hrow := kk _ _ rF h0
      have ok := hok _ (List.getElem_mem hiR)
      have cok := curL_ok ⟨c1, c2⟩ (Rs := (joinL Rs).take i) fun Q hq => hok Q (List.mem_of_mem_take hq)
      have eb : bytesL ((joinL Rs).take (i + 1)) cur = bytesL ((joinL Rs).take i) cur ++ lineB (units (joinL Rs)[i]) (joinL Rs)[i].ln (curL ((joinL Rs).take i) cur) := by rw [← List.take_append_getElem hiR, bytesL_snoc]
      have ec : curL ((joinL Rs).take (i + 1)) cur = (joinL Rs)[i].ln.getD (curL ((joinL Rs).take i) cur) := by rw [← List.take_append_getElem hiR, curL_snoc]
      have lz : (bytesL ((joinL Rs).take (i + 1)) cur).length ≤ 2000000 := by
        have e := bytesL_app ((joinL Rs).take (i + 1)) ((joinL Rs).drop (i + 1)) cur
        rw [List.take_append_drop] at e
        rw [e, List.length_append] at hz
        omega
      obtain ⟨R, hRe⟩ : ∃ R, R = (joinL Rs)[i] := ⟨_, rfl⟩
      rw [← hRe] at hrow ok eb ec
      obtain ⟨o1, o2, o3⟩ := id ok
      have hu : ((R.hi : Int) - (R.lo : Int)) / 2 = ((units R : Nat) : Int) := by unfold units; omega
      have hu1 : 1 ≤ units R := by unfold units; omega
      rw [eb] at lz
      generalize bytesL ((joinL Rs).take i) cur = pre at *
      generalize curL ((joinL Rs).take i) cur = cu0 at *
      simp only [r_seq, r_next, r_brk, r_cont, r_asg, r_name, r_ret, r_retN, r_drop, r_ifs, r_never, r_var, r_c, r_op, r_un, r_if, r_tst, r_b, r_not, r_and, r_or, r_andV, r_orV, r_notV, r_nil, r_cons, r_tup, r_lst, r_cb, r_call, r_bm, r_bm0, r_sl, r_nopart, r_part, r_rev, r_gnil, r_gcons, r_gsub, r_par, r_aug, r_chain, r_I0, r_I, r_U, r_ixd, r_lend, r_tupd, r_listd, r_sld, r_app, r_ext, r_reverse, r_setl, r_cat, r_int1, r_eqS, r_neS, scal_ii, scal_bb, scal_ss, at0, at1, at2, sq_lst, sq_tup, isLst_lst, List.getElem?_cons_zero, List.getElem?_cons_succ, List.set_cons_zero, List.set_cons_succ, V.int.injEq, V.bl.injEq, V.ref.injEq, V.str.injEq, HO.lst.injEq, HO.tup.injEq, Option.some.injEq, exists_eq_left', exists_eq_left, List.cons.injEq, and_true, true_and, decide_eq_true_eq, reduceCtorEq, false_and, exists_false, or_false, false_or, exists_const, and_assoc, exists_and_left, List.append_nil, ix0, ix1, ix2, cm_mod, cdw1009, cdw2003, cdw7, cdw64, cdw2, cm104729, cm2, cm3, upd_same, List.length_cons, List.length_nil, Int.reduceLT, Int.reduceLE, Nat.reduceAdd, Nat.reduceLeDiff, Nat.reduceLT, Int.reduceToNat, r_for1, r_forL, r_forT, r_lcL, r_lc1, r_yes, r_gtupD, wipe_0, wipe_1, List.cons_append, List.nil_append, r_forS, r_ipI, ite_false, ite_true, Bool.not_true, Bool.not_false, decide_true, decide_false, r_isd, r_islt, cD_ty, cD_ref, tD_non, tD_bl, tD_int, tD_str, tD_ref, tH_lst, tH_tup, tH_dK, tH_ins, ki_self, ki_int_bool, ki_non_int, ki_str_int, ki_lt_lst, ki_lt_tup, r_fld, r_sfld, HO.ins.injEq, cx_K, hrow, lv, hu]
      have hn : (((units R : Nat) : Int) + 7) / 8 = (((units R + 7) / 8 : Nat) : Int) := by omega
      have hub : units R < 2 ^ 60 := by unfold units; omega
      rw [hn, Int.toNat_natCast]
      refine ⟨of_eq_true (cdw (by decide)), by omega, by omega, lp_rng (n := (units R + 7) / 8) (lvLK H1 a F pre R cu0) ⟨cu0, pre, _, rfl, kk, h2, rfl, .inl rfl, fun z => absurd z (Nat.lt_irrefl 0)⟩ ?_ ?_⟩
      · rintro t σ H3 ht ⟨cu, ds, v, rfl, k3, h3, e3, b3, z3⟩
        obtain ⟨c, hc⟩ : ∃ c, c = units R - 8 * t := ⟨_, rfl⟩
        have c0 : c ≠ 0 := by omega
        have hcI : ((units R : Nat) : Int) - 8 * (t : Int) = (c : Int) := by omega
        have hm : (if (c : Int) < (8 : Int) then (c : Int) else (8 : Int)) = ((min c 8 : Nat) : Int) := by split <;> omega
        have hc2 : units R - 8 * (t + 1) = c - min c 8 := by omega
        have c8 : CMul 8 (t : Int) := .inl (by decide)
        rw [← hc] at e3
        have ldz : ds.length ≤ 2000000 := by
          rw [← e3, List.length_append] at lz
          omega
        simp only [r_seq, r_next, r_brk, r_cont, r_asg, r_name, r_ret, r_retN, r_drop, r_ifs, r_never, r_var, r_c, r_op, r_un, r_if, r_tst, r_b, r_not, r_and, r_or, r_andV, r_orV, r_notV, r_nil, r_cons, r_tup, r_lst, r_cb, r_call, r_bm, r_bm0, r_sl, r_nopart, r_part, r_rev, r_gnil, r_gcons, r_gsub, r_par, r_aug, r_chain, r_I0, r_I, r_U, r_ixd, r_lend, r_tupd, r_listd, r_sld, r_app, r_ext, r_reverse, r_setl, r_cat, r_int1, r_eqS, r_neS, scal_ii, scal_bb, scal_ss, at0, at1, at2, sq_lst, sq_tup, isLst_lst, List.getElem?_cons_zero, List.getElem?_cons_succ, List.set_cons_zero, List.set_cons_succ, V.int.injEq, V.bl.injEq, V.ref.injEq, V.str.injEq, HO.lst.injEq, HO.tup.injEq, Option.some.injEq, exists_eq_left', exists_eq_left, List.cons.injEq, and_true, true_and, decide_eq_true_eq, reduceCtorEq, false_and, exists_false, or_false, false_or, exists_const, and_assoc, exists_and_left, List.append_nil, ix0, ix1, ix2, cm_mod, cdw1009, cdw2003, cdw7, cdw64, cdw2, cm104729, cm2, cm3, upd_same, List.length_cons, List.length_nil, Int.reduceLT, Int.reduceLE, Nat.reduceAdd, Nat.reduceLeDiff, Nat.reduceLT, Int.reduceToNat, r_for1, r_forL, r_forT, r_lcL, r_lc1, r_yes, r_gtupD, wipe_0, wipe_1, List.cons_append, List.nil_append, r_forS, r_ipI, ite_false, ite_true, Bool.not_true, Bool.not_false, decide_true, decide_false, r_isd, r_islt, cD_ty, cD_ref, tD_non, tD_bl, tD_int, tD_str, tD_ref, tH_lst, tH_tup, tH_dK, tH_ins, ki_self, ki_int_bool, ki_non_int, ki_str_int, ki_lt_lst, ki_lt_tup, r_fld, r_sfld, HO.ins.injEq, cx_K, hcI, hm, c8]
        refine ⟨tyl h3, ?_⟩
        have e4 : ∀ {l : Option Int}, R.ln = l → (ds ++ entryL (min c 8) (l.map (· - cu))) ++ lineB (units R - 8 * (t + 1)) l (l.getD cu) = pre ++ lineB (units R) l cu0 := by
          rintro l rfl
          rw [hc2, ← e3, lineB_pos c0 R.ln cu, List.append_assoc]
        cases e : R.ln with
        | none =>
          have e5 := e4 e
          rw [e] at b3
          rw [if_pos (show lnV none = V.non from rfl)]
          refine ⟨min c 8, none, rfl, by omega, by omega, (fun n z => by cases z), fun p H4 hp s4 h4 => ⟨p, rfl, _, s4 F _ h3, _, h4, Nat.le_trans (by rw [vn_len, vn_len]; show ds.length + 1 ≤ 2000001; omega) (by decide : 2000001 ≤ sizeLine), ?_⟩⟩
          rw [if_pos (show lnV none = V.non from rfl)]
          unfold lvLK
          rw [e]
          exact ⟨cu, _, _, rfl, (k3.trans (Keep.same s4)).upd, by rw [upd_same, ← vn_app]; rfl, e5, b3, fun _ => b3.resolve_right fun z => by cases z⟩
        | some j =>
          have e5 := e4 e
          rw [e] at b3
          rw [if_neg (show ¬ lnV (some j) = V.non from fun z => by cases z)]
          have jb := o3 j e
          have cb : -(2 ^ 50) < cu ∧ cu < 2 ^ 50 := by
            rcases b3 with z | z
            · rw [z]
              exact cok
            · exact o3 cu (by rw [e, z])
          have d1 : -(2 ^ 60) < j - cu := by omega
          have d2 : j - cu < 2 ^ 60 := by omega
          have ll := litM_len (zig_lt d1 d2)
          refine ⟨j, rfl, min c 8, some (j - cu), rfl, by omega, by omega, (fun n z => by cases z; exact ⟨d1, d2⟩), fun p H4 hp s4 h4 => ⟨p, rfl, _, s4 F _ h3, _, h4, Nat.le_trans (by rw [vn_len, vn_len]; show ds.length + (litM (zig (j - cu))).length.succ ≤ 2000013; omega) (by decide : 2000013 ≤ sizeLine), ?_⟩⟩
          rw [if_neg (show ¬ lnV (some j) = V.non from fun z => by cases z)]
          unfold lvLK
          rw [e]
          exact ⟨j, _, _, rfl, (k3.trans (Keep.same s4)).upd, by rw [upd_same, ← vn_app]; rfl, e5, .inr rfl, fun _ => rfl⟩
      · rintro σ H3 ⟨cu, ds, v, rfl, k3, h3, e3, b3, z3⟩
        rw [show units R - 8 * ((units R + 7) / 8) = 0 from by omega, lineB_0, List.append_nil] at e3
        have ee : curL ((joinL Rs).take (i + 1)) cur = cu := by rw [ec, z3 (by omega)]
        show lvLB H1 a F (joinL Rs) cur (i + 1) _ H3
        unfold lvLB
        rw [ee, eb, ← e3]
        exact ⟨_, _, _, _, _, rfl, k3, h3⟩
    · rintro σ H2 ⟨v1, v2, v3, v4, v5, rfl, kk, h2⟩
      rw [List.length_map, lr, List.take_length] at h2
      simp only [r_seq, r_next, r_brk, r_cont, r_asg, r_name, r_ret, r_retN, r_drop, r_ifs, r_never, r_var, r_c, r_op, r_un, r_if, r_tst, r_b, r_not, r_and, r_or, r_andV, r_orV, r_notV, r_nil, r_cons, r_tup, r_lst, r_cb, r_call, r_bm, r_bm0, r_sl, r_nopart, r_part, r_rev, r_gnil, r_gcons, r_gsub, r_par, r_aug, r_chain, r_I0, r_I, r_U, r_ixd, r_lend, r_tupd, r_listd, r_sld, r_app, r_ext, r_reverse, r_setl, r_cat, r_int1, r_eqS, r_neS, scal_ii, scal_bb, scal_ss, at0, at1, at2, sq_lst, sq_tup, isLst_lst, List.getElem?_cons_zero, List.getElem?_cons_succ, List.set_cons_zero, List.set_cons_succ, V.int.injEq, V.bl.injEq, V.ref.injEq, V.str.injEq, HO.lst.injEq, HO.tup.injEq, Option.some.injEq, exists_eq_left', exists_eq_left, List.cons.injEq, and_true, true_and, decide_eq_true_eq, reduceCtorEq, false_and, exists_false, or_false, false_or, exists_const, and_assoc, exists_and_left, List.append_nil, ix0, ix1, ix2, cm_mod, cdw1009, cdw2003, cdw7, cdw64, cdw2, cm104729, cm2, cm3, upd_same, List.length_cons, List.length_nil, Int.reduceLT, Int.reduceLE, Nat.reduceAdd, Nat.reduceLeDiff, Nat.reduceLT, Int.reduceToNat, r_for1, r_forL, r_forT, r_lcL, r_lc1, r_yes, r_gtupD, wipe_0, wipe_1, List.cons_append, List.nil_append, r_forS, r_ipI, ite_false, ite_true, Bool.not_true, Bool.not_false, decide_true, decide_false, r_isd, r_islt, cD_ty, cD_ref, tD_non, tD_bl, tD_int, tD_str, tD_ref, tH_lst, tH_tup, tH_dK, tH_ins, ki_self, ki_int_bool, ki_non_int, ki_str_int, ki_lt_lst, ki_lt_tup, r_fld, r_sfld, HO.ins.injEq, cx_K]
      exact k F _ hF (sH kk) h2
end
end C57

set_option maxHeartbeats 1000000
namespace C57
open PySem PySem.Spec PyProof.Rows L2
/-- the number that m stands for -/
def zag (m : Nat) : Int := if m % 2 = 0 then ((m / 2 : Nat) : Int) else -((m / 2 : Nat) : Int)
theorem zag_zig (n : Int) : zag (zig n) = n := by
  unfold zag zig
  split <;> split <;> omega
theorem zig_ne1 (n : Int) : zig n ≠ 1 := by
  unfold zig
  split <;> omega
def spSignedN : Sp := fun vs H Q _ => ∃ (t : Addr) (pre post : List Nat) (n : Int), vs = [.ref t, .int (pre.length : Int)] ∧ H t = some (.tup (vn (pre ++ (litM (zig n) ++ post)))) ∧ -(2 ^ 60) < n ∧ n < 2 ^ 60 ∧
  ∀ p H', H p = none → Same H H' → H' p = some (.tup [.int n, .int ((pre.length + (litM (zig n)).length : Nat) : Int)]) → Q (.ref p) H'
/-- behind i pieces: found is what they say, r what is left -/
def lvSN (H : Hp) (t : Addr) (pre : List Nat) (m : Nat) (σ : L2.St) (H' : Hp) : Prop := ∃ (i r fo : Nat) (go : Bool), σ = [some (.ref t), some (.int ((pre.length + i : Nat) : Int)), some (.int (pre.length : Int)), some (.int (fo : Int)), some (.bl go)] ∧ H' = H ∧ m = fo + 64 ^ i * r ∧ fo < 64 ^ i ∧
  (go = true → (litM m).drop i = litM r ∧ i + (litM r).length = (litM m).length ∧ (0 < i → 1 ≤ r)) ∧ (go = false → r = 0 ∧ i = (litM m).length)
def msSN (k : Nat) (σ : L2.St) : Nat := match σ with
  | [_, some (.int a), some (.int b), _, _] => k - (a - b).toNat
  | _ => 0
theorem bit64z {z : Nat} (h : z < 128) : (Builtin.bitAnd (z : Int) 64 = 0) = (z < 64) := by
  have : ∀ z : Fin 128, decide (Builtin.bitAnd ((z.val : Nat) : Int) 64 = 0) = decide (z.val < 64) := by decide +kernel
  have e := this ⟨z, h⟩
  exact propext (by simpa using e)
section
variable {P : Program} {w : World} {K : PySem.W.Frag} {mg : Str → Option Value} {base : Heap} {f : Addr} {fd : FuncData}
abbrev ssigned_number : Stmt := top 57
theorem scsigned_number : FnScope ["table", "at", "first", "found", "goes_on"] ["table", "at"] (defScope ssigned_number) := ⟨rfl, rfl, rfl, by decide +kernel, rfl, by decide +kernel, by decide +kernel⟩

theorem ok_signed_number (T : Txt mg) (F : FnP K "signed_number" "signed_number" ssigned_number f fd) : FnOk P w K mg base CX0 1 f fd ["table", "at"] spSignedN := by
  refine F.ok scsigned_number (fun vs H Q E h => ?_) (fun cdv A outer s H vs Q E hr h => ?_)
  · obtain ⟨t, pre, post, n, rfl, _⟩ := h
    rfl
  · obtain ⟨t, pre, post, n, rfl, ht, n1, n2, k⟩ := h
    refine ⟨_, PSs.nox (pss_cons (ps_set (i := 2) scsigned_number.nd rfl (Or.inl rfl) (pv 1))
  (pss_cons (ps_set (i := 3) scsigned_number.nd rfl (Or.inl rfl) pe_int)
  (pss_cons (ps_set (i := 4) scsigned_number.nd rfl (Or.inl rfl) pe_bl)
  (pss_cons (ps_while PassesOwn.never (pt_val (pv 4))
    (pss_cons (ps_if (PW.pt (pw_or (pt_cmpR op_eq (pv 1) (pe_callB call_len_d (by rfl) T.b_len (by decide +kernel) (pa_cons (pv 0) pa_nil)) (nomark _)) (pw_or1 (pt_cmpR op_ge (pe_ix ix_d (pv 0) (pv 1) (fun _ _ => rfl)) (pe_gi T.g_BEGINS) (nomark _)))))
    (pss_one ps_never)
    pss_nil)
  (pss_cons (ps_set (i := 4) scsigned_number.nd rfl (Or.inl rfl) (pe_cmpR op_ne (pe_op op_and (pe_ix ix_d (pv 0) (pv 1) (fun _ _ => rfl)) (pe_gi T.g_GOES_ON)) pe_int (nomark _)))
  (pss_cons (ps_if (PW.pt (pw_and (pt_not (pt_val (pv 4))) (pw_and (pt_cmpR op_eq (pe_ix ix_d (pv 0) (pv 1) (fun _ _ => rfl)) pe_int (nomark _)) (pw_and1 (pt_cmpR op_gt (pv 1) (pv 2) (nomark _))))))
    (pss_one ps_never)
    pss_nil)
  (pss_cons (ps_aug (i := 3) scsigned_number.nd rfl (.inl rfl) (pe_op op_shl (pe_op op_and (pe_ix ix_d (pv 0) (pv 1) (fun _ _ => rfl)) pe_int) (pe_op op_mul pe_int (pe_op op_sub (pv 1) (pv 2)))) (pip_of iop_or))
  (pss_one (ps_aug (i := 1) scsigned_number.nd rfl (.inl rfl) pe_int ip_add)))))))
  (pss_cons (ps_if (pt_cmpR op_eq (pv 3) pe_int (nomark _))
    (pss_one ps_never)
    pss_nil)
  (pss_one (ps_ret (pe_tup (pa_cons (pe_ifExp (pt_truth (pe_op op_and (pv 3) pe_int) (by intro _; rfl)) (pe_un un_neg (pe_op op_shr (pv 3) pe_int)) (pe_op op_shr (pv 3) pe_int)) (pa_cons (pv 1) pa_nil)))))))))), ?_⟩
    show (_ : TS) _ [some (.ref t), some (.int (pre.length : Int)), none, none, none] H
    simp only [r_seq, r_next, r_brk, r_cont, r_asg, r_name, r_ret, r_retN, r_drop, r_ifs, r_never, r_var, r_c, r_op, r_un, r_if, r_tst, r_b, r_not, r_and, r_or, r_andV, r_orV, r_notV, r_nil, r_cons, r_tup, r_lst, r_cb, r_call, r_bm, r_bm0, r_sl, r_nopart, r_part, r_rev, r_gnil, r_gcons, r_gsub, r_par, r_aug, r_chain, r_I0, r_I, r_U, r_ixd, r_lend, r_tupd, r_listd, r_sld, r_app, r_ext, r_reverse, r_setl, r_cat, r_int1, r_eqS, r_neS, scal_ii, scal_bb, scal_ss, at0, at1, at2, sq_lst, sq_tup, isLst_lst, List.getElem?_cons_zero, List.getElem?_cons_succ, List.set_cons_zero, List.set_cons_succ, V.int.injEq, V.bl.injEq, V.ref.injEq, V.str.injEq, HO.lst.injEq, HO.tup.injEq, Option.some.injEq, exists_eq_left', exists_eq_left, List.cons.injEq, and_true, true_and, decide_eq_true_eq, reduceCtorEq, false_and, exists_false, or_false, false_or, exists_const, and_assoc, exists_and_left, List.append_nil, ix0, ix1, ix2, cm_mod, cdw1009, cdw2003, cdw7, cdw64, cdw2, cm104729, cm2, cm3, upd_same, List.length_cons, List.length_nil, Int.reduceLT, Int.reduceLE, Nat.reduceAdd, Nat.reduceLeDiff, Nat.reduceLT, Int.reduceToNat, r_for1, r_forL, r_forT, r_lcL, r_lc1, r_yes, r_gtupD, wipe_0, wipe_1, List.cons_append, List.nil_append, r_forS, r_ipI, ite_false, ite_true, Bool.not_true, Bool.not_false, decide_true, decide_false, r_isd, r_islt, cD_ty, cD_ref, tD_non, tD_bl, tD_int, tD_str, tD_ref, tH_lst, tH_tup, tH_dK, tH_ins, ki_self, ki_int_bool, ki_non_int, ki_str_int, ki_lt_lst, ki_lt_tup, r_fld, r_sfld, HO.ins.injEq, cx_K]
    have zl := zig_lt n1 n2
    have ll := litM_len zl
    refine while_d (lvSN H t pre (zig n)) (fun σ _ => msSN ((litM (zig n)).length + 1) σ) ⟨0, zig n, 0, true, rfl, rfl, by simp, by simp, fun _ => ⟨rfl, by simp, fun z => absurd z (Nat.lt_irrefl 0)⟩, fun z => by cases z⟩ ?_
    rintro σ H1 ⟨i, r, fo, go, rfl, rfl, hm, hf, hg1, hg0⟩
    refine ⟨go, fun QT q => ?_, fun c => ?_, fun c => ?_⟩
    · simp only [r_seq, r_next, r_brk, r_cont, r_asg, r_name, r_ret, r_retN, r_drop, r_ifs, r_never, r_var, r_c, r_op, r_un, r_if, r_tst, r_b, r_not, r_and, r_or, r_andV, r_orV, r_notV, r_nil, r_cons, r_tup, r_lst, r_cb, r_call, r_bm, r_bm0, r_sl, r_nopart, r_part, r_rev, r_gnil, r_gcons, r_gsub, r_par, r_aug, r_chain, r_I0, r_I, r_U, r_ixd, r_lend, r_tupd, r_listd, r_sld, r_app, r_ext, r_reverse, r_setl, r_cat, r_int1, r_eqS, r_neS, scal_ii, scal_bb, scal_ss, at0, at1, at2, sq_lst, sq_tup, isLst_lst, List.getElem?_cons_zero, List.getElem?_cons_succ, List.set_cons_zero, List.set_cons_succ, V.int.injEq, V.bl.injEq, V.ref.injEq, V.str.injEq, HO.lst.injEq, HO.tup.injEq, Option.some.injEq, exists_eq_left', exists_eq_left, List.cons.injEq, and_true, true_and, decide_eq_true_eq, reduceCtorEq, false_and, exists_false, or_false, false_or, exists_const, and_assoc, exists_and_left, List.append_nil, ix0, ix1, ix2, cm_mod, cdw1009, cdw2003, cdw7, cdw64, cdw2, cm104729, cm2, cm3, upd_same, List.length_cons, List.length_nil, Int.reduceLT, Int.reduceLE, Nat.reduceAdd, Nat.reduceLeDiff, Nat.reduceLT, Int.reduceToNat, r_for1, r_forL, r_forT, r_lcL, r_lc1, r_yes, r_gtupD, wipe_0, wipe_1, List.cons_append, List.nil_append, r_forS, r_ipI, ite_false, ite_true, Bool.not_true, Bool.not_false, decide_true, decide_false, r_isd, r_islt, cD_ty, cD_ref, tD_non, tD_bl, tD_int, tD_str, tD_ref, tH_lst, tH_tup, tH_dK, tH_ins, ki_self, ki_int_bool, ki_non_int, ki_str_int, ki_lt_lst, ki_lt_tup, r_fld, r_sfld, HO.ins.injEq, cx_K]
      exact q
    · obtain ⟨g1, g2, g3⟩ := hg1 c
      obtain ⟨z, hz⟩ : ∃ z, z = if r < 64 then r else r % 64 + 64 := ⟨_, rfl⟩
      have hzl : ∃ l, litM r = z :: l := by
        by_cases q : r < 64
        · rw [if_pos q] at hz
          exact ⟨[], by rw [litM_lt q, hz]⟩
        · rw [if_neg q] at hz
          exact ⟨_, by rw [litM_ge q, hz]⟩
      obtain ⟨l, hl⟩ := hzl
      have hlen1 : 1 ≤ (litM r).length := by rw [hl]; simp
      have hget : (litM (zig n))[i]? = some z := by
        have e : (litM (zig n))[i]? = ((litM (zig n)).drop i)[0]? := by simp
        rw [e, g1, hl]
        rfl
      have z128 : z < 128 := by
        rw [hz]
        split <;> omega
      have e1 : atI (vn (pre ++ (litM (zig n) ++ post))) ((pre.length + i : Nat) : Int) = some (.int (z : Int)) := by
        refine atn ?_
        unfold vn
        rw [List.getElem?_map, List.getElem?_append_right (by omega), Nat.add_sub_cancel_left, List.getElem?_append_left (by omega), hget]
        rfl
      have hlen : (((pre.length + i : Nat) : Int) = ((vn (pre ++ (litM (zig n) ++ post))).length : Int)) = False := eq_false (by
        rw [vn_len, List.length_append, List.length_append]
        omega)
      have e3 : (128 ≤ (z : Int)) = False := eq_false (by omega)
      have e4 : (Builtin.bitAnd (z : Int) 64 = 0) = (r < 64) := by
        rw [bit64z z128]
        refine propext ?_
        rw [hz]
        split <;> omega
      have e5 : Builtin.bitAnd (z : Int) 63 = ((r % 64 : Nat) : Int) := by
        rw [bitAnd_m6, hz]
        split <;> omega
      have ei : ((pre.length + i : Nat) : Int) - (pre.length : Int) = (i : Int) := by omega
      have gi : ((pre.length : Int) < ((pre.length + i : Nat) : Int)) = (0 < i) := propext (by omega)
      have e6 : CPow ((r % 64 : Nat) : Int) (6 * (i : Int)) := ⟨by omega, by omega, by
        have : r % 64 < 64 := Nat.mod_lt _ (by decide)
        have h2 : (64 : Nat) < 2 ^ 64 := by decide
        omega⟩
      have c6 : CMul 6 (i : Int) := .inl (by decide)
      have e7 : Builtin.bitOr (fo : Int) (((r % 64 : Nat) : Int) * 2 ^ (6 * (i : Int)).toNat) = ((fo + 64 ^ i * (r % 64) : Nat) : Int) := by
        have t6 : (6 * (i : Int)).toNat = 6 * i := by omega
        have p6 : (2 : Int) ^ (6 * i) = ((64 ^ i : Nat) : Int) := by
          rw [Int.pow_mul]
          push_cast
          rfl
        rw [t6, Bits.bitOr_join (by omega) (by rw [p6]; exact_mod_cast hf) (by omega), p6]
        push_cast
        rw [Int.mul_comm]
      have e8 : ((pre.length + i : Nat) : Int) + 1 = ((pre.length + (i + 1) : Nat) : Int) := by omega
      simp only [r_seq, r_next, r_brk, r_cont, r_asg, r_name, r_ret, r_retN, r_drop, r_ifs, r_never, r_var, r_c, r_op, r_un, r_if, r_tst, r_b, r_not, r_and, r_or, r_andV, r_orV, r_notV, r_nil, r_cons, r_tup, r_lst, r_cb, r_call, r_bm, r_bm0, r_sl, r_nopart, r_part, r_rev, r_gnil, r_gcons, r_gsub, r_par, r_aug, r_chain, r_I0, r_I, r_U, r_ixd, r_lend, r_tupd, r_listd, r_sld, r_app, r_ext, r_reverse, r_setl, r_cat, r_int1, r_eqS, r_neS, scal_ii, scal_bb, scal_ss, at0, at1, at2, sq_lst, sq_tup, isLst_lst, List.getElem?_cons_zero, List.getElem?_cons_succ, List.set_cons_zero, List.set_cons_succ, V.int.injEq, V.bl.injEq, V.ref.injEq, V.str.injEq, HO.lst.injEq, HO.tup.injEq, Option.some.injEq, exists_eq_left', exists_eq_left, List.cons.injEq, and_true, true_and, decide_eq_true_eq, reduceCtorEq, false_and, exists_false, or_false, false_or, exists_const, and_assoc, exists_and_left, List.append_nil, ix0, ix1, ix2, cm_mod, cdw1009, cdw2003, cdw7, cdw64, cdw2, cm104729, cm2, cm3, upd_same, List.length_cons, List.length_nil, Int.reduceLT, Int.reduceLE, Nat.reduceAdd, Nat.reduceLeDiff, Nat.reduceLT, Int.reduceToNat, r_for1, r_forL, r_forT, r_lcL, r_lc1, r_yes, r_gtupD, wipe_0, wipe_1, List.cons_append, List.nil_append, r_forS, r_ipI, ite_false, ite_true, Bool.not_true, Bool.not_false, decide_true, decide_false, r_isd, r_islt, cD_ty, cD_ref, tD_non, tD_bl, tD_int, tD_str, tD_ref, tH_lst, tH_tup, tH_dK, tH_ins, ki_self, ki_int_bool, ki_non_int, ki_str_int, ki_lt_lst, ki_lt_tup, r_fld, r_sfld, HO.ins.injEq, cx_K, ht, e1, hlen, e3, e4, e5, ei, gi, e6, c6, e7, e8]
      have G : lvSN H1 t pre (zig n) [some (.ref t), some (.int ((pre.length + (i + 1) : Nat) : Int)), some (.int (pre.length : Int)), some (.int ((fo + 64 ^ i * (r % 64) : Nat) : Int)), some (.bl (!decide (r < 64)))] H1 ∧ msSN ((litM (zig n)).length + 1) [some (.ref t), some (.int ((pre.length + (i + 1) : Nat) : Int)), some (.int (pre.length : Int)), some (.int ((fo + 64 ^ i * (r % 64) : Nat) : Int)), some (.bl (!decide (r < 64)))] < msSN ((litM (zig n)).length + 1) [some (.ref t), some (.int ((pre.length + i : Nat) : Int)), some (.int (pre.length : Int)), some (.int (fo : Int)), some (.bl go)] := by
        have em : 64 ^ i * r = 64 ^ i * (r % 64) + 64 ^ (i + 1) * (r / 64) := by
          conv => lhs; rw [← Nat.mod_add_div r 64]
          rw [Nat.mul_add, Nat.pow_succ, Nat.mul_assoc]
        have ef : 64 ^ i * (r % 64) ≤ 64 ^ i * 63 := Nat.mul_le_mul_left _ (by omega)
        refine ⟨⟨i + 1, r / 64, _, _, rfl, rfl, by omega, by rw [Nat.pow_succ]; omega, fun q => ?_, fun q => ?_⟩, ?_⟩
        · have q64 : ¬ r < 64 := by simpa using q
          rw [litM_ge q64] at g1 g2
          refine ⟨?_, ?_, fun _ => by omega⟩
          · rw [← List.drop_drop, g1]
            rfl
          · rw [List.length_cons] at g2
            omega
        · have q64 : r < 64 := by simpa using q
          rw [litM_lt q64, List.length_singleton] at g2
          exact ⟨by omega, by omega⟩
        · show (litM (zig n)).length + 1 - (((pre.length + (i + 1) : Nat) : Int) - (pre.length : Int)).toNat < (litM (zig n)).length + 1 - (((pre.length + i : Nat) : Int) - (pre.length : Int)).toNat
          omega
      refine ite2 (fun h0 => ite2 (fun h1 => ite2 (fun h2 => ?_) fun _ => G) fun _ => G) fun _ => G
      have r64 : r < 64 := by simpa using h0
      rw [if_pos r64] at hz
      have := g3 h2
      omega
    · obtain ⟨r0, hi⟩ := hg0 c
      subst r0
      have ef : fo = zig n := by omega
      subst ef hi
      have n1' : (((zig n : Nat) : Int) = 1) = False := eq_false (by have := zig_ne1 n; omega)
      simp only [r_seq, r_next, r_brk, r_cont, r_asg, r_name, r_ret, r_retN, r_drop, r_ifs, r_never, r_var, r_c, r_op, r_un, r_if, r_tst, r_b, r_not, r_and, r_or, r_andV, r_orV, r_notV, r_nil, r_cons, r_tup, r_lst, r_cb, r_call, r_bm, r_bm0, r_sl, r_nopart, r_part, r_rev, r_gnil, r_gcons, r_gsub, r_par, r_aug, r_chain, r_I0, r_I, r_U, r_ixd, r_lend, r_tupd, r_listd, r_sld, r_app, r_ext, r_reverse, r_setl, r_cat, r_int1, r_eqS, r_neS, scal_ii, scal_bb, scal_ss, at0, at1, at2, sq_lst, sq_tup, isLst_lst, List.getElem?_cons_zero, List.getElem?_cons_succ, List.set_cons_zero, List.set_cons_succ, V.int.injEq, V.bl.injEq, V.ref.injEq, V.str.injEq, HO.lst.injEq, HO.tup.injEq, Option.some.injEq, exists_eq_left', exists_eq_left, List.cons.injEq, and_true, true_and, decide_eq_true_eq, reduceCtorEq, false_and, exists_false, or_false, false_or, exists_const, and_assoc, exists_and_left, List.append_nil, ix0, ix1, ix2, cm_mod, cdw1009, cdw2003, cdw7, cdw64, cdw2, cm104729, cm2, cm3, upd_same, List.length_cons, List.length_nil, Int.reduceLT, Int.reduceLE, Nat.reduceAdd, Nat.reduceLeDiff, Nat.reduceLT, Int.reduceToNat, r_for1, r_forL, r_forT, r_lcL, r_lc1, r_yes, r_gtupD, wipe_0, wipe_1, List.cons_append, List.nil_append, r_forS, r_ipI, ite_false, ite_true, Bool.not_true, Bool.not_false, decide_true, decide_false, r_isd, r_islt, cD_ty, cD_ref, tD_non, tD_bl, tD_int, tD_str, tD_ref, tH_lst, tH_tup, tH_dK, tH_ins, ki_self, ki_int_bool, ki_non_int, ki_str_int, ki_lt_lst, ki_lt_tup, r_fld, r_sfld, HO.ins.injEq, cx_K, n1', bitAnd_m1]
      have hz := zag_zig n
      unfold zag at hz
      refine ⟨(((zig n : Nat) : Int) % 2 != 0), rfl, ?_⟩
      by_cases q : zig n % 2 = 0
      · rw [if_pos q] at hz
        have v : ((zig n : Nat) : Int) / 2 ^ 1 = n := by omega
        rw [show (((zig n : Nat) : Int) % 2 != 0) = false from by rw [show ((zig n : Nat) : Int) % 2 = 0 from by omega]; rfl, if_neg (by decide), v]
        exact ⟨szl (by decide), fun p hp => k p _ hp (Same.new' (Same.refl H1) hp) upd_same⟩
      · rw [if_neg q] at hz
        have v : -(((zig n : Nat) : Int) / 2 ^ 1) = n := by omega
        rw [show (((zig n : Nat) : Int) % 2 != 0) = true from by rw [show ((zig n : Nat) : Int) % 2 = 1 from by omega]; rfl, if_pos rfl, v]
        exact ⟨szl (by decide), fun p hp => k p _ hp (Same.new' (Same.refl H1) hp) upd_same⟩
end
end C57

set_option maxHeartbeats 1000000
namespace C57
open PySem PySem.Spec PyProof.Rows L2
theorem rep_non (k : Nat) : (List.replicate k [V.non]).flatten = List.replicate k V.non := by
  induction k with
  | zero => rfl
  | succ k ih =>
    rw [List.replicate_succ, List.flatten_cons, ih, List.replicate_succ]
    rfl
/-- what is known of the class Code -/
structure CodeT (K : PySem.W.Frag) (mg : Str → Option Value) (C : Addr) : Prop where
  cI : ClsI K C
  g_Code : mg "Code" = some (.ref C)
  no : ∀ t ∈ ["NoneType", "int", "bool", "str", "list", "tuple", "dict"], PySem.W.kitOne K (.type t) (.ref C) = some false
  na : ∀ f ∈ (["argcount", "onlycount", "stacksize", "flags", "code", "depth", "constants", "names", "slots", "kinds", "name", "path", "line", "lines", "handlers", "identity"] : List Str), NoAttr K C f
end C57

set_option maxHeartbeats 1000000
namespace C57
open PySem PySem.Spec PyProof.Rows L2
/-! ### reading a table of lines -/
abbrev Ent : Type := Nat × Option Int
def entsB (es : List Ent) : List Nat := (es.map fun e => entryL e.1 e.2).flatten
/-- where the entries end, and the line that they leave -/
def endB (es : List Ent) (b : Nat) : Nat := es.foldl (fun b e => b + 2 * e.1) b
def stepLn (l : Int) (e : Ent) : Int := l + e.2.getD 0
def endL (es : List Ent) (l : Int) : Int := es.foldl stepLn l
def rowOf (e : Ent) (b : Nat) (l : Int) : LR := ⟨b, b + 2 * e.1, e.2.map (l + ·)⟩
def rowsOf : List Ent → Nat → Int → List LR
  | [], _, _ => []
  | e :: es, b, l => rowOf e b l :: rowsOf es (b + 2 * e.1) (stepLn l e)
theorem rowsOf_snoc : ∀ (es : List Ent) (e : Ent) (b : Nat) (l : Int), rowsOf (es ++ [e]) b l = rowsOf es b l ++ [rowOf e (endB es b) (endL es l)]
  | [], e, b, l => rfl
  | x :: es, e, b, l => by
    show rowOf x b l :: rowsOf (es ++ [e]) (b + 2 * x.1) (stepLn l x) = _
    rw [rowsOf_snoc es e]
    rfl
theorem endB_snoc (es : List Ent) (e : Ent) (b : Nat) : endB (es ++ [e]) b = endB es b + 2 * e.1 := by
  unfold endB
  rw [List.foldl_append]
  rfl
theorem endL_snoc (es : List Ent) (e : Ent) (l : Int) : endL (es ++ [e]) l = stepLn (endL es l) e := by
  unfold endL
  rw [List.foldl_append]
  rfl
theorem entsB_snoc (es : List Ent) (e : Ent) : entsB (es ++ [e]) = entsB es ++ entryL e.1 e.2 := by
  unfold entsB
  rw [List.map_append, List.flatten_append]
  simp
theorem entsB_app (es fs : List Ent) : entsB (es ++ fs) = entsB es ++ entsB fs := by
  unfold entsB
  rw [List.map_append, List.flatten_append]
theorem rowsOf_len : ∀ (es : List Ent) (b : Nat) (l : Int), (rowsOf es b l).length = es.length
  | [], _, _ => rfl
  | e :: es, b, l => by
    show (rowsOf es _ _).length + 1 = es.length + 1
    rw [rowsOf_len es]
def EntOk (e : Ent) : Prop := 1 ≤ e.1 ∧ e.1 ≤ 8 ∧ ∀ n, e.2 = some n → -(2 ^ 60) < n ∧ n < 2 ^ 60
theorem entryL_pos (u : Nat) (m : Option Int) : 0 < (entryL u m).length := by
  cases m <;> simp [entryL]
def spLineRows (CC CN : Addr) : Sp := fun vs H Q E =>
  (∃ (c dx : Addr) (fs : List (Str × V)) (t : Addr) (first : Int) (es : List Ent), vs = [.ref c] ∧ H c = some (.ins CC dx fs) ∧ fs.lookup ("lines" : Str) = some (.ref t) ∧ fs.lookup ("line" : Str) = some (.int first) ∧ H t = some (.tup (vn (entsB es))) ∧ es.length ≤ 100000 ∧ (∀ e ∈ es, EntOk e) ∧
    ∀ F H', H F = none → Same H H' → LRows H' F (joinL (rowsOf es 0 first)) → Q (.ref F) H') ∨
  ∃ (x : V) (n : String), vs = [x] ∧ tyD CC H x = some (.type n) ∧ n ∈ ["NoneType", "int", "bool", "str", "list", "tuple", "dict"] ∧ ∀ d H', H d = none → Same H H' → H' d = some (.xd [("field", .str "code")]) → E (.ref CN) (some d) H'
/-! ### the line of each unit -/
def unitsL : List Ent → Int → List (Option Int)
  | [], _ => []
  | e :: es, l => List.replicate e.1 (e.2.map (l + ·)) ++ unitsL es (stepLn l e)
theorem unitsL_snoc : ∀ (es : List Ent) (e : Ent) (l : Int), unitsL (es ++ [e]) l = unitsL es l ++ List.replicate e.1 (e.2.map (endL es l + ·))
  | [], e, l => by
    show List.replicate e.1 (e.2.map (l + ·)) ++ [] = [] ++ List.replicate e.1 (e.2.map (l + ·))
    simp
  | x :: es, e, l => by
    show List.replicate x.1 (x.2.map (l + ·)) ++ unitsL (es ++ [e]) (stepLn l x) = (List.replicate x.1 (x.2.map (l + ·)) ++ unitsL es (stepLn l x)) ++ _
    rw [unitsL_snoc es e, List.append_assoc]
    rfl
theorem unitsL_len : ∀ {es : List Ent} (l : Int), (∀ e ∈ es, EntOk e) → (unitsL es l).length ≤ 8 * es.length
  | [], l, _ => Nat.le_refl _
  | e :: es, l, h => by
    have h1 := unitsL_len (stepLn l e) fun x hx => h x (List.mem_cons_of_mem _ hx)
    have h2 := (h e List.mem_cons_self).2.1
    show (List.replicate e.1 (e.2.map (l + ·)) ++ unitsL es (stepLn l e)).length ≤ 8 * (es.length + 1)
    rw [List.length_append, List.length_replicate]
    omega
def lvs (us : List (Option Int)) : List V := us.map lnV
def unitRows : List (Option Int) → Nat → List LR
  | [], _ => []
  | x :: r, b => ⟨b, b + 2, x⟩ :: unitRows r (b + 2)
theorem unitRows_app : ∀ (xs ys : List (Option Int)) (b : Nat), unitRows (xs ++ ys) b = unitRows xs b ++ unitRows ys (b + 2 * xs.length)
  | [], ys, b => rfl
  | x :: xs, ys, b => by
    show (⟨b, b + 2, x⟩ : LR) :: unitRows (xs ++ ys) (b + 2) = (⟨b, b + 2, x⟩ : LR) :: (unitRows xs (b + 2) ++ unitRows ys (b + 2 * (xs.length + 1)))
    rw [unitRows_app xs ys, show b + 2 + 2 * xs.length = b + 2 * (xs.length + 1) from by omega]
theorem rep_fold (x : Option Int) (b : Nat) (acc : List LR) : ∀ n : Nat, (unitRows (List.replicate (n + 1) x) b).foldl jstep acc = jstep acc ⟨b, b + 2 * (n + 1), x⟩
  | 0 => rfl
  | n + 1 => by
    rw [List.replicate_succ', unitRows_app, List.foldl_append, rep_fold x b acc n, List.length_replicate]
    exact jstep_two acc b (b + 2 * (n + 1)) (b + 2 * (n + 1) + 2) x
theorem units_fold : ∀ (es : List Ent) (b : Nat) (l : Int) (acc : List LR), (∀ e ∈ es, EntOk e) → (unitRows (unitsL es l) b).foldl jstep acc = (rowsOf es b l).foldl jstep acc
  | [], b, l, acc, _ => rfl
  | e :: es, b, l, acc, h => by
    have h1 := (h e List.mem_cons_self).1
    show (unitRows (List.replicate e.1 (e.2.map (l + ·)) ++ unitsL es (stepLn l e)) b).foldl jstep acc = (rowsOf es (b + 2 * e.1) (stepLn l e)).foldl jstep (jstep acc (rowOf e b l))
    obtain ⟨n, hn⟩ : ∃ n, e.1 = n + 1 := ⟨e.1 - 1, by omega⟩
    rw [unitRows_app, List.foldl_append, List.length_replicate, units_fold es _ _ _ fun x hx => h x (List.mem_cons_of_mem _ hx)]
    unfold rowOf
    rw [hn, rep_fold]
theorem units_join {es : List Ent} (l : Int) (h : ∀ e ∈ es, EntOk e) : joinL (unitRows (unitsL es l) 0) = joinL (rowsOf es 0 l) := units_fold es 0 l [] h
theorem units_next {us : List (Option Int)} {i : Nat} (h : i < us.length) : joinL (unitRows (us.take (i + 1)) 0) = jstep (joinL (unitRows (us.take i) 0)) ⟨2 * i, 2 * i + 2, us[i]⟩ := by
  rw [← List.take_append_getElem h, unitRows_app, List.length_take, Nat.min_eq_left (Nat.le_of_lt h), Nat.zero_add]
  exact joinL_snoc _ _
theorem lvs_rep (n : Nat) (x : Option Int) : (List.replicate n [lnV x]).flatten = lvs (List.replicate n x) := by
  induction n with
  | zero => rfl
  | succ n ih => rw [List.replicate_succ, List.flatten_cons, ih, List.replicate_succ]; rfl
theorem lvs_app (xs ys : List (Option Int)) : lvs (xs ++ ys) = lvs xs ++ lvs ys := List.map_append
theorem ne_ln {K : PySem.W.Frag} {H : Hp} {a b : Option Int} {Q : VK} (k : Q (.bl (!decide (a = b))) H) : rNeD K (lnV a) (lnV b) H Q := ⟨_, _, dp_ln a, dp_ln b, shaped_ln a, shaped_ln b, by rw [eqv_ln]; exact k⟩
def spUnits (CC : Addr) : Sp := fun vs H Q _ => ∃ (c dx : Addr) (fs : List (Str × V)) (t : Addr) (first : Int) (es : List Ent), vs = [.ref c] ∧ H c = some (.ins CC dx fs) ∧ fs.lookup ("lines" : Str) = some (.ref t) ∧ fs.lookup ("line" : Str) = some (.int first) ∧ H t = some (.tup (vn (entsB es))) ∧ es.length ≤ 100000 ∧ (∀ e ∈ es, EntOk e) ∧
    ∀ F H', H F = none → Same H H' → H' F = some (.lst (lvs (unitsL es first))) → Q (.ref F) H'
def lvLU (H : Hp) (c t F : Addr) (es : List Ent) (first : Int) (σ : L2.St) (H' : Hp) : Prop := ∃ (i : Nat) (v1 v2 : Option V), i ≤ es.length ∧ σ = [some (.ref c), some (.ref t), some (.int (endL (es.take i) first)), some (.ref F), some (.int ((entsB (es.take i)).length : Int)), v1, v2] ∧
  Same H H' ∧ H' F = some (.lst (lvs (unitsL (es.take i) first)))
def msLU (m : Nat) (σ : L2.St) : Nat := match σ with
  | _ :: _ :: _ :: _ :: some (.int a) :: _ => m - a.toNat
  | _ => 0
theorem zig_even {d : Int} {z : Nat} (h : zig d = z) (e : z % 2 = 0) : ((z : Nat) : Int) / 2 = d := by
  have q := zag_zig d
  rw [h] at q
  unfold zag at q
  rw [if_pos e] at q
  omega
section
variable {P : Program} {w : World} {K : PySem.W.Frag} {mg : Str → Option Value} {base : Heap} {f : Addr} {fd : FuncData}
abbrev slines_of_units : Stmt := top 56
theorem sclines_of_units : FnScope ["code", "table", "line", "found", "at", "first", "more"] ["code"] (defScope slines_of_units) := ⟨rfl, rfl, rfl, by decide +kernel, rfl, by decide +kernel, by decide +kernel⟩

theorem ok_lines_of_units {CC : Addr} (T : Txt mg) (I : CodeT K mg CC) (F : FnP K "lines_of_units" "lines_of_units" slines_of_units f fd)
    (C_signed_number : Cal P w K mg base 1 "signed_number" ["table", "at"] spSignedN) : FnOk P w K mg base CX0 2 f fd ["code"] (spUnits CC) := by
  refine F.ok sclines_of_units (fun vs H Q E h => ?_) (fun cdv A outer s H vs Q E hr h => ?_)
  · obtain ⟨c, dx, fs, t, first, es, rfl, _⟩ := h
    rfl
  · refine ⟨_, PSs.nox (pss_cons (ps_set (i := 1) sclines_of_units.nd rfl (Or.inl rfl) (pe_fld (pv 0) rfl))
  (pss_cons (ps_set (i := 2) sclines_of_units.nd rfl (Or.inl rfl) (pe_fld (pv 0) rfl))
  (pss_cons (ps_set (i := 3) sclines_of_units.nd rfl (Or.inl rfl) (pe_lst pa_nil))
  (pss_cons (ps_set (i := 4) sclines_of_units.nd rfl (Or.inl rfl) pe_int)
  (pss_cons (ps_while PassesOwn.never (pt_cmpR op_lt (pv 4) (pe_callB call_len_d (by rfl) T.b_len (by decide +kernel) (pa_cons (pv 1) pa_nil)) (nomark _))
    (pss_cons (ps_set (i := 5) sclines_of_units.nd rfl (Or.inl rfl) (pe_ix ix_d (pv 1) (pv 4) (fun _ _ => rfl)))
  (pss_cons (ps_aug (i := 4) sclines_of_units.nd rfl (.inl rfl) pe_int ip_add)
  (pss_cons (ps_if (pt_cmpR op_ge (pv 5) (pe_gi T.g_WITHOUT_LINE) (nomark _))
    (pss_cons (ps_expr (pe_bm PySem.F.plainAttrs_list PySem.F.slot_list_extend PySem.F.type_list_extend mt_extend (pv 3) (pa_cons (pe_op op_rep (pe_lst (pa_cons pe_non pa_nil)) (pe_op op_add (pe_op op_sub (pv 5) (pe_gi T.g_WITHOUT_LINE)) pe_int)) pa_nil)))
  (pss_one ps_continue))
    pss_nil)
  (pss_cons (ps_if (pt_not (pt_chain op_le op_lt (pe_gi T.g_WITH_LINE) (pv 5) (pe_op op_add (pe_gi T.g_WITH_LINE) (pe_gi T.g_MOST_UNITS))))
    (pss_one ps_never)
    pss_nil)
  (pss_cons (ps_if (PW.pt (pw_and (pt_cmpR op_lt (pv 4) (pe_callB call_len_d (by rfl) T.b_len (by decide +kernel) (pa_cons (pv 1) pa_nil)) (nomark _)) (pw_and (pt_cmpR op_lt (pe_ix ix_d (pv 1) (pv 4) (fun _ _ => rfl)) (pe_gi T.g_GOES_ON) (nomark _)) (pw_and1 (pt_not (pt_truth (pe_op op_and (pe_ix ix_d (pv 1) (pv 4) (fun _ _ => rfl)) pe_int) (by intro _; rfl)))))))
    (pss_cons (ps_aug (i := 2) sclines_of_units.nd rfl (.inl rfl) (pe_op op_shr (pe_ix ix_d (pv 1) (pv 4) (fun _ _ => rfl)) pe_int) ip_add)
  (pss_one (ps_aug (i := 4) sclines_of_units.nd rfl (.inl rfl) pe_int ip_add)))
    (pss_cons (ps_asg (pe_cal C_signed_number (hr.mono (by decide)) rfl (pa_cons (pv 1) (pa_cons (pv 4) pa_nil))) (pg_tupD (n := 2) rfl (pgs_cons (pg_name (i := 6) sclines_of_units.nd rfl (Or.inl rfl)) (pgs_cons (pg_name (i := 4) sclines_of_units.nd rfl (Or.inl rfl)) pgs_nil))))
  (pss_one (ps_aug (i := 2) sclines_of_units.nd rfl (.inl rfl) (pv 6) ip_add))))
  (pss_one (ps_expr (pe_bm PySem.F.plainAttrs_list PySem.F.slot_list_extend PySem.F.type_list_extend mt_extend (pv 3) (pa_cons (pe_op op_rep (pe_lst (pa_cons (pv 2) pa_nil)) (pe_op op_add (pe_op op_sub (pv 5) (pe_gi T.g_WITH_LINE)) pe_int)) pa_nil))))))))))
  (pss_one (ps_ret (pv 3)))))))), ?_⟩
    obtain ⟨c, dx, fs, t, first, es, rfl, hc, hl, hf, ht, hz, hok, k⟩ := h
    show (_ : TS) _ [some (.ref c), none, none, none, none, none, none] H
    have na := I.na "lines" (by decide)
    have nb := I.na "line" (by decide)
    have cl := I.cI.cl
    simp only [r_seq, r_next, r_brk, r_cont, r_asg, r_name, r_ret, r_retN, r_drop, r_ifs, r_never, r_var, r_c, r_op, r_un, r_if, r_tst, r_b, r_not, r_and, r_or, r_andV, r_orV, r_notV, r_nil, r_cons, r_tup, r_lst, r_cb, r_call, r_bm, r_bm0, r_sl, r_nopart, r_part, r_rev, r_gnil, r_gcons, r_gsub, r_par, r_aug, r_chain, r_I0, r_I, r_U, r_ixd, r_lend, r_tupd, r_listd, r_sld, r_app, r_ext, r_reverse, r_setl, r_cat, r_int1, r_eqS, r_neS, scal_ii, scal_bb, scal_ss, at0, at1, at2, sq_lst, sq_tup, isLst_lst, List.getElem?_cons_zero, List.getElem?_cons_succ, List.set_cons_zero, List.set_cons_succ, V.int.injEq, V.bl.injEq, V.ref.injEq, V.str.injEq, HO.lst.injEq, HO.tup.injEq, Option.some.injEq, exists_eq_left', exists_eq_left, List.cons.injEq, and_true, true_and, decide_eq_true_eq, reduceCtorEq, false_and, exists_false, or_false, false_or, exists_const, and_assoc, exists_and_left, List.append_nil, ix0, ix1, ix2, cm_mod, cdw1009, cdw2003, cdw7, cdw64, cdw2, cm104729, cm2, cm3, upd_same, List.length_cons, List.length_nil, Int.reduceLT, Int.reduceLE, Nat.reduceAdd, Nat.reduceLeDiff, Nat.reduceLT, Int.reduceToNat, r_for1, r_forL, r_forT, r_lcL, r_lc1, r_yes, r_gtupD, wipe_0, wipe_1, List.cons_append, List.nil_append, r_forS, r_ipI, ite_false, ite_true, Bool.not_true, Bool.not_false, decide_true, decide_false, r_isd, r_islt, cD_ty, cD_ref, tD_non, tD_bl, tD_int, tD_str, tD_ref, tH_lst, tH_tup, tH_dK, tH_ins, ki_self, ki_int_bool, ki_non_int, ki_str_int, ki_lt_lst, ki_lt_tup, r_fld, r_sfld, HO.ins.injEq, cx_K, hc, hl, hf, na, nb, cl]
    refine ⟨szl (by decide), fun F hF => ?_⟩
    have FH : ∀ {b : Addr} {o : HO}, H b = some o → b ≠ F := fun e => ne_new e hF
    refine while_d (lvLU H c t F es first) (fun σ _ => msLU (entsB es).length σ) ⟨0, none, none, Nat.zero_le _, rfl, Same.new' (Same.refl H) hF, by rw [upd_same]; rfl⟩ ?_
    rintro σ H1 ⟨i, v1, v2, hi, rfl, s1, hacc⟩
    have ht1 := s1 t _ ht
    have hsplit : entsB es = entsB (es.take i) ++ entsB (es.drop i) := by
      conv => lhs; rw [← List.take_append_drop i es]
      rw [entsB_app]
    refine ⟨decide (i < es.length), fun QT q => ?_, fun cc => ?_, fun cc => ?_⟩
    · have e : decide (((entsB (es.take i)).length : Int) < ((vn (entsB es)).length : Int)) = decide (i < es.length) := decide_eq_decide.mpr (by
        rw [vn_len, hsplit, List.length_append]
        constructor
        · intro h
          by_cases c2 : i < es.length
          · exact c2
          · rw [List.drop_of_length_le (by omega)] at h
            simp [entsB] at h
        · intro h
          have : 0 < (entsB (es.drop i)).length := by
            rw [List.drop_eq_getElem_cons h]
            unfold entsB
            rw [List.map_cons, List.flatten_cons, List.length_append]
            have := entryL_pos es[i].1 es[i].2
            omega
          omega)
      simp only [r_seq, r_next, r_brk, r_cont, r_asg, r_name, r_ret, r_retN, r_drop, r_ifs, r_never, r_var, r_c, r_op, r_un, r_if, r_tst, r_b, r_not, r_and, r_or, r_andV, r_orV, r_notV, r_nil, r_cons, r_tup, r_lst, r_cb, r_call, r_bm, r_bm0, r_sl, r_nopart, r_part, r_rev, r_gnil, r_gcons, r_gsub, r_par, r_aug, r_chain, r_I0, r_I, r_U, r_ixd, r_lend, r_tupd, r_listd, r_sld, r_app, r_ext, r_reverse, r_setl, r_cat, r_int1, r_eqS, r_neS, scal_ii, scal_bb, scal_ss, at0, at1, at2, sq_lst, sq_tup, isLst_lst, List.getElem?_cons_zero, List.getElem?_cons_succ, List.set_cons_zero, List.set_cons_succ, V.int.injEq, V.bl.injEq, V.ref.injEq, V.str.injEq, HO.lst.injEq, HO.tup.injEq, Option.some.injEq, exists_eq_left', exists_eq_left, List.cons.injEq, and_true, true_and, decide_eq_true_eq, reduceCtorEq, false_and, exists_false, or_false, false_or, exists_const, and_assoc, exists_and_left, List.append_nil, ix0, ix1, ix2, cm_mod, cdw1009, cdw2003, cdw7, cdw64, cdw2, cm104729, cm2, cm3, upd_same, List.length_cons, List.length_nil, Int.reduceLT, Int.reduceLE, Nat.reduceAdd, Nat.reduceLeDiff, Nat.reduceLT, Int.reduceToNat, r_for1, r_forL, r_forT, r_lcL, r_lc1, r_yes, r_gtupD, wipe_0, wipe_1, List.cons_append, List.nil_append, r_forS, r_ipI, ite_false, ite_true, Bool.not_true, Bool.not_false, decide_true, decide_false, r_isd, r_islt, cD_ty, cD_ref, tD_non, tD_bl, tD_int, tD_str, tD_ref, tH_lst, tH_tup, tH_dK, tH_ins, ki_self, ki_int_bool, ki_non_int, ki_str_int, ki_lt_lst, ki_lt_tup, r_fld, r_sfld, HO.ins.injEq, cx_K, ht1, e]
      exact q
    · have c0 : i < es.length := of_decide_eq_true cc
      obtain ⟨e, hE⟩ : ∃ e, e = es[i] := ⟨_, rfl⟩
      have ok := hok e (by rw [hE]; exact List.getElem_mem c0)
      have tk : es.take (i + 1) = es.take i ++ [e] := by rw [hE, List.take_append_getElem c0]
      have nL : endL (es.take (i + 1)) first = stepLn (endL (es.take i) first) e := by rw [tk, endL_snoc]
      have nE : entsB (es.take (i + 1)) = entsB (es.take i) ++ entryL e.1 e.2 := by rw [tk, entsB_snoc]
      have nU : unitsL (es.take (i + 1)) first = unitsL (es.take i) first ++ List.replicate e.1 (e.2.map (endL (es.take i) first + ·)) := by rw [tk, unitsL_snoc]
      have ul : (unitsL (es.take i) first).length ≤ 800000 := by
        have := unitsL_len first (es := es.take i) fun x hx => hok x (List.mem_of_mem_take hx)
        rw [List.length_take] at this
        omega
      obtain ⟨post, hpost⟩ : ∃ post, post = entsB (es.drop (i + 1)) := ⟨_, rfl⟩
      have hw : entsB es = entsB (es.take i) ++ (entryL e.1 e.2 ++ post) := by
        rw [hsplit, List.drop_eq_getElem_cons c0, ← hE, hpost]
        rfl
      have fin : ∀ (v1 v2 : Option V) (H2 : Hp), Same H H2 → H2 F = some (.lst (lvs (unitsL (es.take i) first) ++ lvs (List.replicate e.1 (e.2.map (endL (es.take i) first + ·))))) → lvLU H c t F es first [some (.ref c), some (.ref t), some (.int (stepLn (endL (es.take i) first) e)), some (.ref F), some (.int ((entsB (es.take i) ++ entryL e.1 e.2).length : Int)), v1, v2] H2 :=
        fun v1 v2 H2 q1 q2 => ⟨i + 1, v1, v2, c0, by rw [nL, nE], q1, by rw [nU, lvs_app]; exact q2⟩
      have fin2 : (entsB es).length - ((entsB (es.take i) ++ entryL e.1 e.2).length : Int).toNat < (entsB es).length - ((entsB (es.take i)).length : Int).toNat := by
        have p0 := entryL_pos e.1 e.2
        rw [hw, List.length_append, List.length_append, List.length_append]
        omega
      clear nL nE nU hsplit
      have lul : (lvs (unitsL (es.take i) first)).length ≤ 800000 := by unfold lvs; rw [List.length_map]; exact ul
      generalize endL (es.take i) first = l0 at *
      generalize entsB (es.take i) = pre at *
      generalize lvs (unitsL (es.take i) first) = acc at *
      obtain ⟨u, m⟩ := e
      obtain ⟨o1, o2, o3⟩ := ok
      dsimp only at o1 o2 o3 fin
      -- the last step: the lines of an entry's units
      have ext : ∀ (x : Option Int) (v1 v2 : Option V) (H2 : Hp), Same H1 H2 → x = m.map (l0 + ·) → ∀ q, H2 q = none → ∀ r, L2.upd H2 q (.lst [lnV x]) r = none → 
          ∃ xs, L2.upd (L2.upd H2 q (.lst [lnV x])) r (.lst (lvs (List.replicate u x))) F = some (.lst xs) ∧ xs.length + (lvs (List.replicate u x)).length ≤ sizeLine ∧
          lvLU H c t F es first [some (.ref c), some (.ref t), some (.int (stepLn l0 (u, m))), some (.ref F), some (.int ((pre ++ entryL u m).length : Int)), v1, v2] (L2.upd (L2.upd (L2.upd H2 q (.lst [lnV x])) r (.lst (lvs (List.replicate u x)))) F (.lst (xs ++ lvs (List.replicate u x)))) := by
        rintro x v1 v2 H2 s2 rfl q hq r hr
        have sx := Same.new' (o := .lst (lvs (List.replicate u (m.map (l0 + ·))))) (Same.new' (o := .lst [lnV (m.map (l0 + ·))]) s2 hq) hr
        refine ⟨_, sx _ _ hacc, ?_, fin _ _ _ (fun b o e => ?_) upd_same⟩
        · have : (lvs (List.replicate u (m.map (l0 + ·)))).length = u := by unfold lvs; rw [List.length_map, List.length_replicate]
          exact Nat.le_trans (by omega : _ ≤ 800008) (by decide)
        · rw [upd_ne (FH e)]
          exact sx _ _ (s1 _ _ e)
      cases m with
      | none =>
        have e1 : atI (vn (entsB es)) (pre.length : Int) = some (.int ((248 + u - 1 : Nat) : Int)) := by
          refine atn ?_
          unfold vn
          rw [List.getElem?_map, hw, List.getElem?_append_right (Nat.le_refl _), Nat.sub_self]
          rfl
        have k1 : ((248 + u - 1 : Nat) : Int) - 248 + 1 = (u : Int) := by omega
        have k2 : ((248 : Int) ≤ ((248 + u - 1 : Nat) : Int)) = True := eq_true (by omega)
        have kp : ((pre.length : Nat) : Int) + 1 = ((pre ++ entryL u none).length : Int) := by rw [List.length_append]; rfl
        simp only [r_seq, r_next, r_brk, r_cont, r_asg, r_name, r_ret, r_retN, r_drop, r_ifs, r_never, r_var, r_c, r_op, r_un, r_if, r_tst, r_b, r_not, r_and, r_or, r_andV, r_orV, r_notV, r_nil, r_cons, r_tup, r_lst, r_cb, r_call, r_bm, r_bm0, r_sl, r_nopart, r_part, r_rev, r_gnil, r_gcons, r_gsub, r_par, r_aug, r_chain, r_I0, r_I, r_U, r_ixd, r_lend, r_tupd, r_listd, r_sld, r_app, r_ext, r_reverse, r_setl, r_cat, r_int1, r_eqS, r_neS, scal_ii, scal_bb, scal_ss, at0, at1, at2, sq_lst, sq_tup, isLst_lst, List.getElem?_cons_zero, List.getElem?_cons_succ, List.set_cons_zero, List.set_cons_succ, V.int.injEq, V.bl.injEq, V.ref.injEq, V.str.injEq, HO.lst.injEq, HO.tup.injEq, Option.some.injEq, exists_eq_left', exists_eq_left, List.cons.injEq, and_true, true_and, decide_eq_true_eq, reduceCtorEq, false_and, exists_false, or_false, false_or, exists_const, and_assoc, exists_and_left, List.append_nil, ix0, ix1, ix2, cm_mod, cdw1009, cdw2003, cdw7, cdw64, cdw2, cm104729, cm2, cm3, upd_same, List.length_cons, List.length_nil, Int.reduceLT, Int.reduceLE, Nat.reduceAdd, Nat.reduceLeDiff, Nat.reduceLT, Int.reduceToNat, r_for1, r_forL, r_forT, r_lcL, r_lc1, r_yes, r_gtupD, wipe_0, wipe_1, List.cons_append, List.nil_append, r_forS, r_ipI, ite_false, ite_true, Bool.not_true, Bool.not_false, decide_true, decide_false, r_isd, r_islt, cD_ty, cD_ref, tD_non, tD_bl, tD_int, tD_str, tD_ref, tH_lst, tH_tup, tH_dK, tH_ins, ki_self, ki_int_bool, ki_non_int, ki_str_int, ki_lt_lst, ki_lt_tup, r_fld, r_sfld, HO.ins.injEq, cx_K, ht1, e1, k1, k2, kp, r_rep]
        refine ⟨tyl hacc, szl (by decide), fun q hq => ⟨by omega, by omega, Nat.le_trans (by omega : _ ≤ 8) (by decide), fun r hr => ?_⟩⟩
        rw [Int.toNat_natCast, show ([V.non] : List V) = [lnV none] from rfl, lvs_rep]
        obtain ⟨xs, x1, x2, x3⟩ := ext none _ _ H1 (Same.refl H1) rfl q hq r hr
        have ks : stepLn l0 (u, none) = l0 := Int.add_zero _
        rw [ks] at x3
        exact ⟨xs, x1, x2, x3, fin2⟩
      | some d =>
        obtain ⟨d1, d2⟩ := o3 d rfl
        have e1 : atI (vn (entsB es)) (pre.length : Int) = some (.int ((232 + u - 1 : Nat) : Int)) := by
          refine atn ?_
          unfold vn
          rw [List.getElem?_map, hw, List.getElem?_append_right (Nat.le_refl _), Nat.sub_self]
          rfl
        have k2 : ((248 : Int) ≤ ((232 + u - 1 : Nat) : Int)) = False := eq_false (by omega)
        have k3 : ((232 : Int) ≤ ((232 + u - 1 : Nat) : Int)) = True := eq_true (by omega)
        have k4 : (((232 + u - 1 : Nat) : Int) < 232 + 8) = True := eq_true (by omega)
        have k4' : (((232 + u - 1 : Nat) : Int) < 240) = True := eq_true (by omega)
        have k1 : ((232 + u - 1 : Nat) : Int) - 232 + 1 = (u : Int) := by omega
        have kp : ((pre.length : Nat) : Int) + 1 = ((pre ++ [232 + u - 1]).length : Int) := by rw [List.length_append]; rfl
        have kq : (pre ++ [232 + u - 1]).length + (litM (zig d)).length = (pre ++ entryL u (some d)).length := by
          rw [List.length_append, List.length_append]
          show pre.length + 1 + _ = pre.length + ((litM (zig d)).length + 1)
          omega
        have hw2 : entsB es = (pre ++ [232 + u - 1]) ++ (litM (zig d) ++ post) := by rw [hw, List.append_assoc]; rfl
        obtain ⟨z, zs, hz1⟩ : ∃ z zs, litM (zig d) = z :: zs := by
          by_cases q : zig d < 64
          · exact ⟨_, _, litM_lt q⟩
          · exact ⟨_, _, litM_ge q⟩
        have e2 : atI (vn (entsB es)) ((pre ++ [232 + u - 1]).length : Int) = some (.int (z : Int)) := by
          refine atn ?_
          unfold vn
          rw [List.getElem?_map, hw2, List.getElem?_append_right (Nat.le_refl _), Nat.sub_self, hz1]
          rfl
        have hlen : (((pre ++ [232 + u - 1]).length : Int) < ((vn (entsB es)).length : Int)) = True := eq_true (by
          rw [vn_len, hw2, hz1]
          simp only [List.length_append, List.length_cons]
          omega)
        have ks : stepLn l0 (u, some d) = l0 + d := rfl
        rw [ks] at ext
        have last : ∀ (w1 w2 : Option V) (H2 : Hp), Same H1 H2 → tyV K "list" (V.ref F) H2 ∧ 1 ≤ sizeLine ∧ ∀ (q : Addr), H2 q = none → -2 ^ 63 ≤ (u : Int) ∧ (u : Int) < 2 ^ 63 ∧ 1 * ((u : Int)).toNat ≤ sizeLine ∧ ∀ r : Addr, L2.upd H2 q (HO.lst [V.int (l0 + d)]) r = none →
            ∃ x, L2.upd (L2.upd H2 q (HO.lst [V.int (l0 + d)])) r (HO.lst (List.replicate ((u : Int)).toNat [V.int (l0 + d)]).flatten) F = some (HO.lst x) ∧ x.length + (List.replicate ((u : Int)).toNat [V.int (l0 + d)]).flatten.length ≤ sizeLine ∧
              lvLU H c t F es first [some (V.ref c), some (V.ref t), some (V.int (l0 + d)), some (V.ref F), some (V.int ((pre ++ entryL u (some d)).length : Int)), w1, w2] (L2.upd (L2.upd (L2.upd H2 q (HO.lst [V.int (l0 + d)])) r (HO.lst (List.replicate ((u : Int)).toNat [V.int (l0 + d)]).flatten)) F (HO.lst (x ++ (List.replicate ((u : Int)).toNat [V.int (l0 + d)]).flatten))) ∧
              msLU (entsB es).length [some (V.ref c), some (V.ref t), some (V.int (l0 + d)), some (V.ref F), some (V.int ((pre ++ entryL u (some d)).length : Int)), w1, w2] < msLU (entsB es).length [some (V.ref c), some (V.ref t), some (V.int l0), some (V.ref F), some (V.int (pre.length : Int)), v1, v2] := by
          intro w1 w2 H2 s2
          refine ⟨tyl (s2 _ _ hacc), szl (by decide), fun q hq => ⟨by omega, by omega, Nat.le_trans (by omega : _ ≤ 8) (by decide), fun r hr => ?_⟩⟩
          rw [Int.toNat_natCast, show ([V.int (l0 + d)] : List V) = [lnV (some (l0 + d))] from rfl, lvs_rep]
          obtain ⟨xs, x1, x2, x3⟩ := ext (some (l0 + d)) w1 w2 H2 s2 rfl q hq r hr
          exact ⟨xs, x1, x2, x3, fin2⟩
        simp only [r_seq, r_next, r_brk, r_cont, r_asg, r_name, r_ret, r_retN, r_drop, r_ifs, r_never, r_var, r_c, r_op, r_un, r_if, r_tst, r_b, r_not, r_and, r_or, r_andV, r_orV, r_notV, r_nil, r_cons, r_tup, r_lst, r_cb, r_call, r_bm, r_bm0, r_sl, r_nopart, r_part, r_rev, r_gnil, r_gcons, r_gsub, r_par, r_aug, r_chain, r_I0, r_I, r_U, r_ixd, r_lend, r_tupd, r_listd, r_sld, r_app, r_ext, r_reverse, r_setl, r_cat, r_int1, r_eqS, r_neS, scal_ii, scal_bb, scal_ss, at0, at1, at2, sq_lst, sq_tup, isLst_lst, List.getElem?_cons_zero, List.getElem?_cons_succ, List.set_cons_zero, List.set_cons_succ, V.int.injEq, V.bl.injEq, V.ref.injEq, V.str.injEq, HO.lst.injEq, HO.tup.injEq, Option.some.injEq, exists_eq_left', exists_eq_left, List.cons.injEq, and_true, true_and, decide_eq_true_eq, reduceCtorEq, false_and, exists_false, or_false, false_or, exists_const, and_assoc, exists_and_left, List.append_nil, ix0, ix1, ix2, cm_mod, cdw1009, cdw2003, cdw7, cdw64, cdw2, cm104729, cm2, cm3, upd_same, List.length_cons, List.length_nil, Int.reduceLT, Int.reduceLE, Nat.reduceAdd, Nat.reduceLeDiff, Nat.reduceLT, Int.reduceToNat, r_for1, r_forL, r_forT, r_lcL, r_lc1, r_yes, r_gtupD, wipe_0, wipe_1, List.cons_append, List.nil_append, r_forS, r_ipI, ite_false, ite_true, Bool.not_true, Bool.not_false, decide_true, decide_false, r_isd, r_islt, cD_ty, cD_ref, tD_non, tD_bl, tD_int, tD_str, tD_ref, tH_lst, tH_tup, tH_dK, tH_ins, ki_self, ki_int_bool, ki_non_int, ki_str_int, ki_lt_lst, ki_lt_tup, r_fld, r_sfld, HO.ins.injEq, cx_K, ht1, e1, e2, k1, k2, k3, k4, k4', kp, hlen, r_rep]
        have slow : ∀ {Qx : VK}, (∀ p0 H2, Same H1 H2 → H2 p0 = some (.tup [.int d, .int ((pre ++ entryL u (some d)).length : Int)]) → Qx (.ref p0) H2) → spSignedN [V.ref t, V.int ((pre ++ [232 + u - 1]).length : Int)] H1 Qx E0 := fun kx =>
          ⟨t, pre ++ [232 + u - 1], post, d, rfl, by rw [ht1, hw2], d1, d2, fun p0 H2 hp0 s2 h2 => kx p0 H2 s2 (by rw [kq] at h2; exact h2)⟩
        by_cases q : (z : Int) < 64
        · rw [if_pos q]
          have hz9 : zig d = z ∧ zs = [] := by
            by_cases q2 : zig d < 64
            · rw [litM_lt q2] at hz1
              cases hz1
              exact ⟨rfl, rfl⟩
            · rw [litM_ge q2] at hz1
              cases hz1
              omega
          refine ⟨(Builtin.bitAnd (z : Int) 1 != 0), rfl, ?_⟩
          rw [bitAnd_m1]
          by_cases par : z % 2 = 0
          · have e8 := zig_even hz9.1 par
            rw [show ((z : Int) % 2 != 0) = false from by rw [show (z : Int) % 2 = 0 from by omega]; rfl, if_pos (by decide), show (z : Int) / 2 ^ 1 = d from by omega]
            have e7 : ((pre ++ [232 + u - 1]).length : Int) + 1 = ((pre ++ entryL u (some d)).length : Int) := by
              rw [← kq, hz1, hz9.2]
              rfl
            rw [e7]
            exact last _ _ H1 (Same.refl H1)
          · rw [show ((z : Int) % 2 != 0) = true from by rw [show (z : Int) % 2 = 1 from by omega]; rfl, if_neg (by decide)]
            exact slow fun p0 H2 s2 h2 => ⟨p0, rfl, _, h2, rfl, _, _, rfl, _, _, rfl, rfl, d, rfl, last _ _ H2 s2⟩
        · rw [if_neg q]
          exact slow fun p0 H2 s2 h2 => ⟨p0, rfl, _, h2, rfl, _, _, rfl, _, _, rfl, rfl, d, rfl, last _ _ H2 s2⟩
    · have c0 : i = es.length := by
        have := of_decide_eq_false cc
        omega
      rw [c0, List.take_length] at hacc
      simp only [r_seq, r_next, r_brk, r_cont, r_asg, r_name, r_ret, r_retN, r_drop, r_ifs, r_never, r_var, r_c, r_op, r_un, r_if, r_tst, r_b, r_not, r_and, r_or, r_andV, r_orV, r_notV, r_nil, r_cons, r_tup, r_lst, r_cb, r_call, r_bm, r_bm0, r_sl, r_nopart, r_part, r_rev, r_gnil, r_gcons, r_gsub, r_par, r_aug, r_chain, r_I0, r_I, r_U, r_ixd, r_lend, r_tupd, r_listd, r_sld, r_app, r_ext, r_reverse, r_setl, r_cat, r_int1, r_eqS, r_neS, scal_ii, scal_bb, scal_ss, at0, at1, at2, sq_lst, sq_tup, isLst_lst, List.getElem?_cons_zero, List.getElem?_cons_succ, List.set_cons_zero, List.set_cons_succ, V.int.injEq, V.bl.injEq, V.ref.injEq, V.str.injEq, HO.lst.injEq, HO.tup.injEq, Option.some.injEq, exists_eq_left', exists_eq_left, List.cons.injEq, and_true, true_and, decide_eq_true_eq, reduceCtorEq, false_and, exists_false, or_false, false_or, exists_const, and_assoc, exists_and_left, List.append_nil, ix0, ix1, ix2, cm_mod, cdw1009, cdw2003, cdw7, cdw64, cdw2, cm104729, cm2, cm3, upd_same, List.length_cons, List.length_nil, Int.reduceLT, Int.reduceLE, Nat.reduceAdd, Nat.reduceLeDiff, Nat.reduceLT, Int.reduceToNat, r_for1, r_forL, r_forT, r_lcL, r_lc1, r_yes, r_gtupD, wipe_0, wipe_1, List.cons_append, List.nil_append, r_forS, r_ipI, ite_false, ite_true, Bool.not_true, Bool.not_false, decide_true, decide_false, r_isd, r_islt, cD_ty, cD_ref, tD_non, tD_bl, tD_int, tD_str, tD_ref, tH_lst, tH_tup, tH_dK, tH_ins, ki_self, ki_int_bool, ki_non_int, ki_str_int, ki_lt_lst, ki_lt_tup, r_fld, r_sfld, HO.ins.injEq, cx_K]
      exact k F H1 hF s1 hacc
end
end C57

set_option maxHeartbeats 1000000
namespace C57
open PySem PySem.Spec PyProof.Rows L2
/-! ### defs that are promised only where no text of a container is just being made -/
structure FnG (P : Program) (w : World) (K : PySem.W.Frag) (mg : Str → Option Value) (base : Heap) (CX : CXT) (k : Nat) (f : Addr) (fd : FuncData) (ps : List Str) (sp : Sp) : Prop where
  len : ∀ (vs : List V) (H : Hp) (Q : VK) (E : XK), sp vs H Q E → vs.length = ps.length
  run : ∀ {A : Around} {outer : List Env} {s : Shared} {H : Hp} {as : Args} {us : List Value} {vs : List V} {Q : VK} {E : XK}, A.guards = some [] → Room k A → Env0 P w K mg base A outer s H → BindsTo s fd as (ps.zip us) → Vals vs us → sp vs H Q E →
      codeAny (model P w) A (.call (.ref f) as) (CR CX outer P w H s Q E) s
section
variable {P : Program} {w : World} {K : PySem.W.Frag} {mg : Str → Option Value} {base : Heap} {CX : CXT} {j k : Nat} {f : Addr} {fd : FuncData} {ps : List Str} {sp : Sp}
theorem FnG.of (F : FnOk P w K mg base CX k f fd ps sp) : FnG P w K mg base CX k f fd ps sp := ⟨F.len, fun _ r e b v h => F.run _ _ _ _ _ _ _ _ _ r e b v h⟩
theorem FnG.mono (F : FnG P w K mg base CX j f fd ps sp) (h : j ≤ k) : FnG P w K mg base CX k f fd ps sp := ⟨F.len, fun g r e b v q => F.run g (Room.mono r h) e b v q⟩
theorem FnG.imp {sp' : Sp} (F : FnG P w K mg base CX k f fd ps sp) (h : ∀ vs H Q E, sp' vs H Q E → sp vs H Q E) : FnG P w K mg base CX k f fd ps sp' := ⟨fun vs H Q E q => F.len vs H Q E (h vs H Q E q), fun g r e b v q => F.run g r e b v (h _ _ _ _ q)⟩
theorem okG {x q : Str} {st : Stmt} {N : List Str} (F : FnP K x q st f fd) (S : FnScope N ps (defScope st)) (len : ∀ vs H Q E, sp vs H Q E → vs.length = ps.length)
    (body : ∀ (cdv : Value) (A : Around) (outer : List Env) (s : Shared) (H : Hp) (vs : List V) (Q : VK) (E : XK), A.guards = some [] → Room k (A.deeper (envOfC q (defScope st) s.heap.objs.size f cdv)) → sp vs H Q E →
      ∃ t, PSs (cxOf CX P w K mg base N q (defScope st) f cdv A outer s H E) (defBody st) t ∧ t { nx := fun _ H' => Q .non H', rt := Q } (L2.start N vs) H) : FnG P w K mg base CX (k + 1) f fd ps sp := by
  obtain ⟨oc, od, dV, kV, doc, pm, an, cdv, ct, osl, e, lk, hcd, _, _⟩ := F.ex
  subst e
  exact ⟨len, fun g r e b v h => LamX.run_ofS lk hcd S r e b v (len _ _ _ _ h) fun r2 => body _ _ _ _ _ _ _ _ g r2 h⟩
end
section
variable {X : Cx} {CX : CXT} {k i : Nat} {f : Addr} {fd : FuncData} {ps : List Str} {sp : Sp} {E : XK} {x : Str} {e : Expr} {es : List Expr} {t : TA} {p pos : Pos}
theorem run_fnG {pins : List (Addr × Obj)} {σ : L2.St} {H : Hp} {s : Shared} {Q : VK} {us : List Value} {vs : List V} (F : FnG X.prog X.w X.K X.mg X.base CX k f fd ps sp) (gd : X.A.guards = some []) (hr : Room k X.A) (hb : Binds X.K fd ps []) (hx : Passes CX X E)
    (I : Inv X pins σ H s) (rv : Vals vs us) (h : sp vs H Q E) : wpAny (model X.prog X.w) X.A (call (.ref f) us) (EP X pins σ Q) X.xe s := by
  have el : us.length = ps.length := rv.length.symm.trans (F.len _ _ _ _ h)
  have bb : BindsTo s fd ⟨us, []⟩ (ps.zip us) := by
    have := hb s us I.kIn (by rw [List.append_nil]; exact el)
    rwa [List.append_nil] at this
  refine wpAny_call (codeAny_mono (F.run gd hr I.env0 bb rv h) fun res s2 hq => ?_)
  match res, hq with
  | .error e, hq => exact hx pins σ H s e s2 I hq
  | .ok (.ret u), hq => exact I.after hq
  | .ok .next, hq => exact hq.elim
  | .ok .brk, hq => exact hq.elim
  | .ok .cont, hq => exact hq.elim
structure CalG (P : Program) (w : World) (K : PySem.W.Frag) (mg : Str → Option Value) (base : Heap) (CX : CXT) (k : Nat) (x : Str) (ps : List Str) (sp : Sp) : Prop where
  ex : ∃ f fd, FnG P w K mg base CX k f fd ps sp ∧ mg x = some (.ref f) ∧ PySem.W.keepIn K (.ref f) = true ∧ Binds K fd ps []
theorem pe_calG (C : CalG X.prog X.w X.K X.mg X.base CX k x ps sp) (gd : X.A.guards = some []) (hr : Room k X.A) (hg : Gl X x) (hx : Passes CX X E) (ha : PA X (e :: es) t) (hdb : (x == ("__debug__" : Str)) = false := by decide)
    (he : starEach (e :: es) X.env = (false, eval e X.env) :: starEach es X.env := by rfl) (hpl : (backTo pos (starEach es X.env)).any (·.1) = false := by rfl) : PE X (.Call (.Name x p) (e :: es) [] pos) (tCall sp [] E t) := by
  obtain ⟨f, fd, F, m, kp, b⟩ := C.ex
  constructor
  intro pins s σ H Q I h
  apply wpAny_Call_Name_kw
  refine ld_glob I hg m ?_ hdb
  refine PySem.W.callWith_K (h₀ := X.base) I.ok.mod.kin kp (thn (ha.run pos pins s σ H _ I h) ?_) he hpl
  rintro us s1 ⟨vs, H1, I1, rv, q⟩
  refine ⟨I1.kIn, run_fnG F gd hr b hx I1 rv ?_⟩
  have q' : sp (vs ++ []) H1 Q E := q
  rwa [List.append_nil] at q'
structure HeldG (P : Program) (w : World) (K : PySem.W.Frag) (mg : Str → Option Value) (base : Heap) (k : Nat) (f : Addr) (sp : Sp) : Prop where
  ex : ∃ fd ps, FnG P w K mg base (fun _ _ _ _ _ _ => False) k f fd ps sp ∧ PySem.W.keepIn K (.ref f) = true ∧ Binds K fd ps []
theorem pe_callAG {S : Addr → Option Sp} (B : ∀ f sp, S f = some sp → HeldG X.prog X.w X.K X.mg X.base k f sp) (gd : X.A.guards = some []) (hr : Room k X.A) (hN : X.N[i]? = some x) (hv : Vis X.env.scope x) (ha : PA X (e :: es) t)
    (hdb : (x == ("__debug__" : Str)) = false := by decide) (hcd : (x == ("__classdict__" : Str)) = false := by decide) (he : starEach (e :: es) X.env = (false, eval e X.env) :: starEach es X.env := by rfl)
    (hpl : (backTo pos (starEach es X.env)).any (·.1) = false := by rfl) : PE X (.Call (.Name x p) (e :: es) [] pos) (L2.tCallA i S t) := by
  constructor
  intro pins s σ H Q I h
  obtain ⟨f, sp, h1, h2, h3⟩ := h
  obtain ⟨fd, ps, F, kp, b⟩ := (B f sp h2).ex
  apply wpAny_Call_Name_kw
  refine thn ((pe_var (pos := p) hN hv hdb hcd).run pins s σ H (fun y G => y = .ref f ∧ G = H) I ⟨.ref f, h1, rfl, rfl⟩) ?_
  rintro u s1 ⟨y, G, I1, r1, rfl, rfl⟩
  cases r1
  refine PySem.W.callWith_K (h₀ := X.base) I.ok.mod.kin kp (thn (ha.run pos pins s1 σ _ _ I1 h3) ?_) he hpl
  rintro us s2 ⟨vs, H2, I2, rv, q⟩
  exact ⟨I2.kIn, run_fnG F gd hr b (fun _ _ _ _ _ _ _ z => z.elim) I2 rv q⟩
end

section
variable {X : Cx}
/-! ### the script + a written list -/
def rCatS (K : PySem.W.Frag) : R2 := fun x y H Q => ∃ l b xs zs, x = .ref l ∧ y = .ref b ∧ SqL K H l xs ∧ H b = some (.lst zs) ∧ xs.length + zs.length ≤ sizeLine ∧ ∀ p, H p = none → Q (.ref p) (L2.upd H p (.lst (xs ++ zs)))
theorem op_catS : OpR X (binaryOp .Add) (rCatS X.K) := by
  rintro pins s σ H x y v u Q I rx ry ⟨l, b, xs, zs, rfl, rfl, hs, hb, hz, q⟩
  cases rx
  cases ry
  obtain ⟨i1, r1, ⟨⟨c1, d1, t1, sl1⟩, n1, e1, k1, _, k2⟩, _⟩ := I.list hs
  obtain ⟨_, i2, n2, r2, l2, e2⟩ := I.lstM hb
  dsimp only at k1 k2
  subst k1 k2
  have l1 := r1.length
  refine concat_meets ⟨_, e1, rfl⟩ ⟨_, e2, rfl⟩ noFill_list_add seq_list_add PySem.F.slot_list_add PySem.F.entry_list_add (PySem.F.args_list_add_2 _ _) (list_addW l b i1.toArray i2.toArray n1 n2 d1 none sl1 #[] (by rw [List.size_toArray, List.size_toArray]; omega)) ⟨e1, e2, ?_⟩
  rw [show i1.toArray ++ i2.toArray = (i1 ++ i2).toArray from by simp]
  exact ⟨.ref _, _, I.lnew (t' := s.toks) (r1.append r2) (by rw [List.length_append]; omega), rfl, q _ I.fresh⟩
/-! ### repr of data -/
def rReprD (K : PySem.W.Frag) : List V → Hp → VK → Prop := fun vs H Q => ∃ (a : Addr) (d : PyData), vs = [.ref a] ∧ Dp K H (.ref a) d ∧ d.showable = true ∧ d.hasDict = false ∧ d.depth ≤ 10 ∧ d.shown.length ≤ sizeLine ∧ Q (.str d.shown) H
theorem call_repr_D (hg : X.A.guards = some []) (hu : X.A.units + 20 < cLine) : CallR X (.builtin "repr") (rReprD X.K) := by
  rintro pins s σ H xs us Q I r ⟨a, d, rfl, hd, h1, h2, h3, h4, q⟩
  obtain ⟨v, rfl, rv⟩ := vals1 r
  obtain ⟨as, rd⟩ := Dp.reads I d _ v hd rv
  obtain rfl : v = Value.ref a := rv
  exact repr_of_reads' rd h1 (fun z => by rw [h2] at z; cases z) hg (by omega) (fun _ _ e => e) (fun h' u tk k => ⟨.str d.shown, H, I.kept (t' := tk) k, ⟨_, rfl⟩, q⟩) h4
/-! ### a call by one keyword; a def that may raise -/
structure CalX (P : Program) (w : World) (K : PySem.W.Frag) (mg : Str → Option Value) (base : Heap) (k : Nat) (x y : Str) (sp : Sp) : Prop where
  ex : ∃ f fd, FnOk P w K mg base (L2.CX P w) k f fd [y] sp ∧ mg x = some (.ref f) ∧ PySem.W.keepIn K (.ref f) = true ∧ Binds K fd [y] [] ∧ KBn K fd [y] 0 [y] (fun _ ws => ws) (fun _ zs => zs)
theorem pe_calX {W : WX} {E : XK} {k : Nat} {x y : Str} {sp : Sp} {e : Expr} {t : TA} {p pos : Pos} (C : CalX X.prog X.w X.K X.mg X.base k x y sp) (hr : Room k X.A) (hg : Gl X x) (tk : Takes X W) (hW : ∀ cls d σ H, E cls d H → W cls d σ H) (ha : PA X [e] t)
    (hdb : (x == ("__debug__" : Str)) = false := by decide) (he : starEach [e] X.env = (false, eval e X.env) :: starEach [] X.env := by rfl) (hpl : (backTo pos (starEach [] X.env)).any (·.1) = false := by rfl) :
    PE X (.Call (.Name x p) [e] [] pos) (tCall sp [] E t) := by
  obtain ⟨f, fd, F, m, kp, b, _⟩ := C.ex
  exact pe_call F hr hg m kp b .nil (passes_call tk hW) ha hdb he hpl
def QK1 (sp : Sp) (Q : VK) (E : XK) : List V → Hp → Prop := fun zs H1 => match zs with
  | [v] => sp [v] H1 Q E
  | _ => False
theorem qk1 {sp : Sp} {Q : VK} {E : XK} {zs : List V} {H : Hp} (h : QK1 sp Q E zs H) : ∃ v, zs = [v] ∧ sp [v] H Q E := by
  match zs, h with
  | [v], h => exact ⟨v, rfl, h⟩
def tCallK1 (sp : Sp) (E : XK) (te : TE) : TE := fun σ H Q => te σ H fun v H1 => sp [v] H1 Q E
theorem pe_calXK {W : WX} {E : XK} {k : Nat} {x y : Str} {sp : Sp} {e : Expr} {te : TE} {p pos kpos : Pos} (C : CalX X.prog X.w X.K X.mg X.base k x y sp) (hr : Room k X.A) (hg : Gl X x) (tk : Takes X W) (hW : ∀ cls d σ H, E cls d H → W cls d σ H) (ha : PE X e te)
    (hall : (backToKw pos (keywordEach [⟨some y, e, kpos⟩] X.env)).all (·.1.isSome) = true := by rfl) (hks : (backToKw pos (keywordEach [⟨some y, e, kpos⟩] X.env)).filterMap (·.1) = [y] := by rfl) (hdb : (x == ("__debug__" : Str)) = false := by decide)
    (hpl : ((backTo pos (starEach [] X.env)).any (·.1) || (backToKw pos (keywordEach [⟨some y, e, kpos⟩] X.env)).any (·.1.isNone)) = false := by rfl) :
    PE X (.Call (.Name x p) [] [⟨some y, e, kpos⟩] pos) (tCallK1 sp E te) := by
  obtain ⟨f, fd, F, m, kp, _, b⟩ := C.ex
  refine ⟨fun pins s σ H Q I h => wpAny_Call_Name_kw (ld_glob I hg m (PySem.W.callWith_KW0 (h₀ := X.base) I.ok.mod.kin kp hall ?_ hpl) hdb)⟩
  refine thn ((pk_cons (nm := some y) (kpos := kpos) ha pk_nil).run pos pins s σ H (QK1 sp Q E) I h) fun ws s2 ⟨zs, H2, I2, rz, q⟩ => ⟨I2.kIn, ?_⟩
  obtain ⟨v, rfl, q⟩ := qk1 q
  rw [hks]
  exact run_fnN (us := []) (vs := []) (n := 0) F hr b (passes_call tk hW) I2 .nil rz rfl rfl q
structure CalK (P : Program) (w : World) (K : PySem.W.Frag) (mg : Str → Option Value) (base : Heap) (k : Nat) (x y : Str) (sp : Sp) : Prop where
  ex : ∃ f fd, FnOk P w K mg base CX0 k f fd [y] sp ∧ mg x = some (.ref f) ∧ PySem.W.keepIn K (.ref f) = true ∧ Binds K fd [y] [] ∧ KBn K fd [y] 0 [y] (fun _ ws => ws) (fun _ zs => zs)
theorem CalK.cal {P : Program} {w : World} {K : PySem.W.Frag} {mg : Str → Option Value} {base : Heap} {k : Nat} {x y : Str} {sp : Sp} (C : CalK P w K mg base k x y sp) : Cal P w K mg base k x [y] sp := by
  obtain ⟨f, fd, F, m, kp, b, _⟩ := C.ex
  exact ⟨⟨f, fd, F, m, kp, b⟩⟩
theorem pe_calK {k : Nat} {x y : Str} {sp : Sp} {e : Expr} {te : TE} {p pos kpos : Pos} (C : CalK X.prog X.w X.K X.mg X.base k x y sp) (hr : Room k X.A) (hg : Gl X x) (ha : PE X e te)
    (hall : (backToKw pos (keywordEach [⟨some y, e, kpos⟩] X.env)).all (·.1.isSome) = true := by rfl) (hks : (backToKw pos (keywordEach [⟨some y, e, kpos⟩] X.env)).filterMap (·.1) = [y] := by rfl) (hdb : (x == ("__debug__" : Str)) = false := by decide)
    (hpl : ((backTo pos (starEach [] X.env)).any (·.1) || (backToKw pos (keywordEach [⟨some y, e, kpos⟩] X.env)).any (·.1.isNone)) = false := by rfl) :
    PE X (.Call (.Name x p) [] [⟨some y, e, kpos⟩] pos) (tCallK1 sp E0 te) := by
  obtain ⟨f, fd, F, m, kp, _, b⟩ := C.ex
  refine ⟨fun pins s σ H Q I h => wpAny_Call_Name_kw (ld_glob I hg m (PySem.W.callWith_KW0 (h₀ := X.base) I.ok.mod.kin kp hall ?_ hpl) hdb)⟩
  refine thn ((pk_cons (nm := some y) (kpos := kpos) ha pk_nil).run pos pins s σ H (QK1 sp Q E0) I h) fun ws s2 ⟨zs, H2, I2, rz, q⟩ => ⟨I2.kIn, ?_⟩
  obtain ⟨v, rfl, q⟩ := qk1 q
  rw [hks]
  exact run_fnN (us := []) (vs := []) (n := 0) F hr b pass0 I2 .nil rz rfl rfl q
end
/-- one parameter, given by its name -/
theorem kw1 {K : PySem.W.Frag} {x qual : Str} {params : Arguments} {body : List Stmt} {scope : Scope} {f : Addr} {fd : FuncData} {p : Str} (F : FunD K x qual params body scope [] [] f fd)
    (h : ∀ (kV doc pm : Value) (an : Option Addr) (cdv ct w : Value), bindArgs (PySem.W.fnOf x qual params body scope .none kV doc pm an cdv ct) ⟨[], [(p, w)]⟩ = pure [(p, w)]) : KBn K fd [p] 0 [p] (fun _ ws => ws) (fun _ zs => zs) := by
  obtain ⟨oc, od, dV, kV, doc, pm, an, cdv, ct, osl, rfl, lk, hcd, hD, hK⟩ := F.ex
  rcases hD with ⟨_, rfl⟩ | ⟨e, _⟩
  · refine ⟨fun s us ws _ l1 l2 => ?_, fun _ r => r⟩
    match us, l1, ws, l2 with
    | [], _, [w], _ => exact .of_eq (h kV doc pm an cdv ct w)
  · exact absurd rfl e

/-! ### repr of any data -/
def rReprAny (K : PySem.W.Frag) : List V → Hp → VK → Prop := fun vs H Q => ∃ (x : V) (d : PyData), vs = [x] ∧ Dp K H x d ∧ d.showable = true ∧ d.hasDict = false ∧ d.depth ≤ 10 ∧ d.shown.length ≤ sizeLine ∧ Q (.str d.shown) H
theorem call_repr_any {X : Cx} (hg : X.A.guards = some []) (hu : X.A.units + 20 < cLine) : CallR X (.builtin "repr") (rReprAny X.K) := by
  rintro pins s σ H xs us Q I r ⟨x, d, rfl, hd, h1, h2, h3, h4, q⟩
  cases hd with
  | non =>
    cases r with
    | cons r1 rr =>
    cases rr
    cases r1
    exact PySem.P.repr_of_none ⟨.str _, H, I.tok _, ⟨_, rfl⟩, q⟩
  | bl b =>
    cases r with
    | cons r1 rr =>
    cases rr
    cases r1
    exact PySem.P.repr_of_bool ⟨.str _, H, I.tok _, ⟨_, rfl⟩, q⟩
  | int i =>
    obtain ⟨u, rfl, t, rfl⟩ := vals1 r
    exact PySem.P.repr_of_int (of_decide_eq_true h1) ⟨.str _, H, I.tok _, ⟨_, rfl⟩, q⟩
  | str z =>
    obtain ⟨u, rfl, t, rfl⟩ := vals1 r
    exact PySem.P.repr_of_str ⟨.str _, H, I.tok _, ⟨_, rfl⟩, q⟩ h4
  | lst a b => exact call_repr_D hg hu pins s σ H _ us Q I r ⟨_, _, rfl, .lst a b, h1, h2, h3, h4, q⟩
  | tup a b => exact call_repr_D hg hu pins s σ H _ us Q I r ⟨_, _, rfl, .tup a b, h1, h2, h3, h4, q⟩

end C57

set_option maxHeartbeats 1000000
namespace C57
open PySem PySem.Spec PyProof.Rows L2 StrLaws
/-! ### what arguments mean -/
/-- the texts of a code's tables -/
structure Tb where
  cs : List Str
  ns : List Str
  ss : List Str
structure TbOk (T : Tb) : Prop where
  ln : T.ns.length ≤ 1000 ∧ T.ss.length ≤ 1000 ∧ T.cs.length ≤ 1000
  n : ∀ z ∈ T.ns, z.length ≤ 100
  s : ∀ z ∈ T.ss, z.length ≤ 100
  c : ∀ z ∈ T.cs, z.length ≤ 1000
def codeText (z : Str) : Str := Str.empty ++ Str.ofString "<code " ++ z ++ Str.ofString ">"
/-- a constant, and how it is told -/
def ConstAt (K : PySem.W.Frag) (CC : Addr) (H : Hp) (v : V) (t : Str) : Prop := (∃ (a dx : Addr) (fs : List (Str × V)) (z : Str), v = .ref a ∧ H a = some (.ins CC dx fs) ∧ fs.lookup ("path" : Str) = some (.str z) ∧ z.length ≤ 100 ∧ t = codeText z) ∨
  ((∃ T, tyD CC H v = some T ∧ PySem.W.kitOne K T (.ref CC) = some false) ∧ ∃ d, Dp K H v d ∧ d.showable = true ∧ d.hasDict = false ∧ d.depth ≤ 10 ∧ d.shown.length ≤ 1000 ∧ t = d.shown)
structure CodeG (K : PySem.W.Frag) (CC : Addr) (H : Hp) (c : Addr) (all ls : List Nat) (T : Tb) : Prop where
  ex : ∃ (dx : Addr) (fs : List (Str × V)) (t u n s k : Addr) (ks : List V), H c = some (.ins CC dx fs) ∧ fs.lookup ("lines" : Str) = some (.ref t) ∧ fs.lookup ("line" : Str) = some (.int 3) ∧ H t = some (.tup (vn ls)) ∧ fs.lookup ("code" : Str) = some (.ref u) ∧ H u = some (.tup (vn all)) ∧
    fs.lookup ("names" : Str) = some (.ref n) ∧ H n = some (.tup (T.ns.map V.str)) ∧ fs.lookup ("slots" : Str) = some (.ref s) ∧ H s = some (.tup (T.ss.map V.str)) ∧ fs.lookup ("constants" : Str) = some (.ref k) ∧ H k = some (.tup ks) ∧ Paired (ConstAt K CC H) ks T.cs
  ok : TbOk T
mutual
theorem Dp.same' {K : PySem.W.Frag} {H H' : Hp} (s : Same H H') : ∀ {v : V} {d : PyData}, Dp K H v d → Dp K H' v d
  | _, _, .non => .non
  | _, _, .bl b => .bl b
  | _, _, .int i => .int i
  | _, _, .str z => .str z
  | _, _, .lst h t => .lst (by
    rcases h with (h | ⟨o, h⟩) | h
    · exact .inl (.inl (s _ _ h))
    · exact .inl (.inr ⟨o, s _ _ h⟩)
    · exact .inr h) (DpAll.same' s t)
  | _, _, .tup h t => .tup (by
    rcases h with (h | ⟨o, h⟩) | h
    · exact .inl (.inl (s _ _ h))
    · exact .inl (.inr ⟨o, s _ _ h⟩)
    · exact .inr h) (DpAll.same' s t)
theorem DpAll.same' {K : PySem.W.Frag} {H H' : Hp} (s : Same H H') : ∀ {vs : List V} {ds : List PyData}, DpAll K H vs ds → DpAll K H' vs ds
  | _, _, .nil => .nil
  | _, _, .cons h t => .cons (Dp.same' s h) (DpAll.same' s t)
end
theorem tyD_same {CC : Addr} {H H' : Hp} {v : V} {T : Value} (s : Same H H') (h : tyD CC H v = some T) : tyD CC H' v = some T := by
  cases v with
  | ref a =>
    have h2 : tyH CC (H a) = some T := h
    show tyH CC (H' a) = some T
    cases e : H a with
    | none => rw [e] at h2; cases h2
    | some o => rw [s a o e, ← e]; exact h2
  | _ => exact h
theorem ConstAt.same {K : PySem.W.Frag} {CC : Addr} {H H' : Hp} {v : V} {t : Str} (h : ConstAt K CC H v t) (s : Same H H') : ConstAt K CC H' v t := by
  rcases h with ⟨a, dx, fs, z, e, h1, h2⟩ | ⟨⟨T, h1, h2⟩, d, h3, h4⟩
  · exact .inl ⟨a, dx, fs, z, e, s _ _ h1, h2⟩
  · exact .inr ⟨⟨T, tyD_same s h1, h2⟩, d, Dp.same' s h3, h4⟩
theorem CodeG.same {K : PySem.W.Frag} {CC : Addr} {H H' : Hp} {c : Addr} {all ls : List Nat} {T : Tb} (C : CodeG K CC H c all ls T) (s : Same H H') : CodeG K CC H' c all ls T := by
  obtain ⟨⟨dx, fs, t, u, n, v, k, ks, h1, h2, h3, h4, h5, h6, h7, h8, h9, h10, h11, h12, h13⟩, ok⟩ := C
  exact ⟨⟨dx, fs, t, u, n, v, k, ks, s _ _ h1, h2, h3, s _ _ h4, h5, s _ _ h6, h7, s _ _ h8, h9, s _ _ h10, h11, s _ _ h12, Paired.map' h13 fun a b h => h.same s⟩, ok⟩
def spOfG (K : PySem.W.Frag) (CC : Addr) (T : Tb) (mean : Nat → Option Str) : Sp := fun vs H Q _ => ∃ (c : Addr) (all ls : List Nat) (n : Nat) (z : Str), vs = [.ref c, .int (n : Int)] ∧ CodeG K CC H c all ls T ∧ mean n = some z ∧ ∀ H', Same H H' → Q (.str z) H'
def sufA (z : Str) : Str := Str.empty ++ z ++ Str.ofString " + NULL|self"
def sufG (z : Str) : Str := Str.empty ++ z ++ Str.ofString " + NULL"
def pairT (z y : Str) : Str := Str.empty ++ z ++ Str.ofString ", " ++ y
def mName (T : Tb) (n : Nat) : Option Str := T.ns[n]?
def mLoc (T : Tb) (n : Nat) : Option Str := T.ss[n]?
def mConst (T : Tb) (n : Nat) : Option Str := T.cs[n]?
def mAttr (f : Str → Str) (T : Tb) (n : Nat) : Option Str := (T.ns[n / 2]?).map fun z => if n % 2 = 1 then f z else z
def mPair (T : Tb) (n : Nat) : Option Str := match T.ss[n / 16]?, T.ss[n % 16]? with
  | some z, some y => some (pairT z y)
  | _, _ => none
theorem bit1 (n : Nat) : ((Builtin.bitAnd (n : Int) 1 != 0) = true) ↔ n % 2 = 1 := by
  rw [show (1 : Int) = 2 ^ 1 - 1 from rfl, Bits.bitAnd_mask 1 (by omega)]
  simp
  omega
theorem bigS {m : Nat} (h : m ≤ 2000) : m ≤ sizeLine := Nat.le_trans h (by decide)
section
variable {P : Program} {w : World} {K : PySem.W.Frag} {mg : Str → Option Value} {base : Heap} {f : Addr} {fd : FuncData}
abbrev sof_constant : Stmt := top 38
theorem scof_constant : FnScope ["code", "argument", "constant"] ["code", "argument"] (defScope sof_constant) := ⟨rfl, rfl, rfl, by decide +kernel, rfl, by decide +kernel, by decide +kernel⟩

abbrev sof_name : Stmt := top 39
theorem scof_name : FnScope ["code", "argument"] ["code", "argument"] (defScope sof_name) := ⟨rfl, rfl, rfl, by decide +kernel, rfl, by decide +kernel, by decide +kernel⟩

abbrev sof_local : Stmt := top 42
theorem scof_local : FnScope ["code", "argument"] ["code", "argument"] (defScope sof_local) := ⟨rfl, rfl, rfl, by decide +kernel, rfl, by decide +kernel, by decide +kernel⟩

abbrev sof_attribute : Stmt := top 40
theorem scof_attribute : FnScope ["code", "argument", "name"] ["code", "argument"] (defScope sof_attribute) := ⟨rfl, rfl, rfl, by decide +kernel, rfl, by decide +kernel, by decide +kernel⟩

abbrev sof_global : Stmt := top 41
theorem scof_global : FnScope ["code", "argument", "name"] ["code", "argument"] (defScope sof_global) := ⟨rfl, rfl, rfl, by decide +kernel, rfl, by decide +kernel, by decide +kernel⟩

abbrev sof_locals : Stmt := top 43
theorem scof_locals : FnScope ["code", "argument", "first", "second"] ["code", "argument"] (defScope sof_locals) := ⟨rfl, rfl, rfl, by decide +kernel, rfl, by decide +kernel, by decide +kernel⟩

theorem r_fmt {te : TE} {σ : L2.St} {H : Hp} {Q : VK} : tFmt te σ H Q = te σ H (fun x H1 => (∃ y : Str, x = .str y ∧ y.length ≤ sizeLine ∧ Q (.str y) H1) ∨ ∃ i : Int, x = .int i ∧ i.natAbs.log2 < 1920 ∧ Q (.str (toString i)) H1) := rfl
theorem ok_of_name {CC : Addr} {Tt : Tb} (T : Txt mg) (I : CodeT K mg CC) (F : FnP K "of_name" "of_name" sof_name f fd) : FnOk P w K mg base CX0 1 f fd ["code", "argument"] (spOfG K CC Tt (mName Tt)) := by
  refine F.ok scof_name (fun vs H Q E h => ?_) (fun cdv A outer s H vs Q E hr h => ?_)
  · obtain ⟨c, all, ls, n, z, rfl, _⟩ := h
    rfl
  · obtain ⟨c, all, ls, n, z, rfl, hc, hm, k⟩ := h
    obtain ⟨⟨dx, fs, t, u, nm, v, kk, ks, h1, h2, h3, h4, h5, h6, h7, h8, h9, h10, h11, h12, h13⟩, ok⟩ := hc
    refine ⟨_, PSs.nox (pss_one (ps_ret (pe_ifExp (pt_cmpR op_lt (pv 1) (pe_callB call_len_d (by rfl) T.b_len (by decide +kernel) (pa_cons (pe_fld (pv 0) rfl) pa_nil)) (nomark _)) (pe_ix ix_d (pe_fld (pv 0) rfl) (pv 1) (fun _ _ => rfl)) pe_non))), ?_⟩
    show (_ : TS) _ [some (.ref c), some (.int (n : Int))] H
    have na := I.na "names" (by decide)
    have cl := I.cI.cl
    unfold mName at hm
    have lt : n < Tt.ns.length := (List.getElem?_eq_some_iff.mp hm).1
    simp only [r_seq, r_next, r_brk, r_cont, r_asg, r_name, r_ret, r_retN, r_drop, r_ifs, r_never, r_var, r_c, r_op, r_un, r_if, r_tst, r_b, r_not, r_and, r_or, r_andV, r_orV, r_notV, r_nil, r_cons, r_tup, r_lst, r_cb, r_call, r_bm, r_bm0, r_sl, r_nopart, r_part, r_rev, r_gnil, r_gcons, r_gsub, r_par, r_aug, r_chain, r_I0, r_I, r_U, r_ixd, r_lend, r_tupd, r_listd, r_sld, r_app, r_ext, r_reverse, r_setl, r_cat, r_int1, r_eqS, r_neS, scal_ii, scal_bb, scal_ss, at0, at1, at2, sq_lst, sq_tup, isLst_lst, List.getElem?_cons_zero, List.getElem?_cons_succ, List.set_cons_zero, List.set_cons_succ, V.int.injEq, V.bl.injEq, V.ref.injEq, V.str.injEq, HO.lst.injEq, HO.tup.injEq, Option.some.injEq, exists_eq_left', exists_eq_left, List.cons.injEq, and_true, true_and, decide_eq_true_eq, reduceCtorEq, false_and, exists_false, or_false, false_or, exists_const, and_assoc, exists_and_left, List.append_nil, ix0, ix1, ix2, cm_mod, cdw1009, cdw2003, cdw7, cdw64, cdw2, cm104729, cm2, cm3, upd_same, List.length_cons, List.length_nil, Int.reduceLT, Int.reduceLE, Nat.reduceAdd, Nat.reduceLeDiff, Nat.reduceLT, Int.reduceToNat, r_for1, r_forL, r_forT, r_lcL, r_lc1, r_yes, r_gtupD, wipe_0, wipe_1, List.cons_append, List.nil_append, r_forS, r_ipI, ite_false, ite_true, Bool.not_true, Bool.not_false, decide_true, decide_false, r_isd, r_islt, cD_ty, cD_ref, tD_non, tD_bl, tD_int, tD_str, tD_ref, tH_lst, tH_tup, tH_dK, tH_ins, ki_self, ki_int_bool, ki_non_int, ki_str_int, ki_lt_lst, ki_lt_tup, r_fld, r_sfld, HO.ins.injEq, cx_K, h1, h7, h8, na, cl]
    rw [if_pos (by rw [List.length_map]; omega)]
    exact ⟨.str z, atn (by rw [List.getElem?_map, hm]; rfl), k H (Same.refl H)⟩
theorem ok_of_local {CC : Addr} {Tt : Tb} (T : Txt mg) (I : CodeT K mg CC) (F : FnP K "of_local" "of_local" sof_local f fd) : FnOk P w K mg base CX0 1 f fd ["code", "argument"] (spOfG K CC Tt (mLoc Tt)) := by
  refine F.ok scof_local (fun vs H Q E h => ?_) (fun cdv A outer s H vs Q E hr h => ?_)
  · obtain ⟨c, all, ls, n, z, rfl, _⟩ := h
    rfl
  · obtain ⟨c, all, ls, n, z, rfl, hc, hm, k⟩ := h
    obtain ⟨⟨dx, fs, t, u, nm, v, kk, ks, h1, h2, h3, h4, h5, h6, h7, h8, h9, h10, h11, h12, h13⟩, ok⟩ := hc
    refine ⟨_, PSs.nox (pss_one (ps_ret (pe_ifExp (pt_cmpR op_lt (pv 1) (pe_callB call_len_d (by rfl) T.b_len (by decide +kernel) (pa_cons (pe_fld (pv 0) rfl) pa_nil)) (nomark _)) (pe_ix ix_d (pe_fld (pv 0) rfl) (pv 1) (fun _ _ => rfl)) pe_non))), ?_⟩
    show (_ : TS) _ [some (.ref c), some (.int (n : Int))] H
    have na := I.na "slots" (by decide)
    have cl := I.cI.cl
    unfold mLoc at hm
    have lt : n < Tt.ss.length := (List.getElem?_eq_some_iff.mp hm).1
    simp only [r_seq, r_next, r_brk, r_cont, r_asg, r_name, r_ret, r_retN, r_drop, r_ifs, r_never, r_var, r_c, r_op, r_un, r_if, r_tst, r_b, r_not, r_and, r_or, r_andV, r_orV, r_notV, r_nil, r_cons, r_tup, r_lst, r_cb, r_call, r_bm, r_bm0, r_sl, r_nopart, r_part, r_rev, r_gnil, r_gcons, r_gsub, r_par, r_aug, r_chain, r_I0, r_I, r_U, r_ixd, r_lend, r_tupd, r_listd, r_sld, r_app, r_ext, r_reverse, r_setl, r_cat, r_int1, r_eqS, r_neS, scal_ii, scal_bb, scal_ss, at0, at1, at2, sq_lst, sq_tup, isLst_lst, List.getElem?_cons_zero, List.getElem?_cons_succ, List.set_cons_zero, List.set_cons_succ, V.int.injEq, V.bl.injEq, V.ref.injEq, V.str.injEq, HO.lst.injEq, HO.tup.injEq, Option.some.injEq, exists_eq_left', exists_eq_left, List.cons.injEq, and_true, true_and, decide_eq_true_eq, reduceCtorEq, false_and, exists_false, or_false, false_or, exists_const, and_assoc, exists_and_left, List.append_nil, ix0, ix1, ix2, cm_mod, cdw1009, cdw2003, cdw7, cdw64, cdw2, cm104729, cm2, cm3, upd_same, List.length_cons, List.length_nil, Int.reduceLT, Int.reduceLE, Nat.reduceAdd, Nat.reduceLeDiff, Nat.reduceLT, Int.reduceToNat, r_for1, r_forL, r_forT, r_lcL, r_lc1, r_yes, r_gtupD, wipe_0, wipe_1, List.cons_append, List.nil_append, r_forS, r_ipI, ite_false, ite_true, Bool.not_true, Bool.not_false, decide_true, decide_false, r_isd, r_islt, cD_ty, cD_ref, tD_non, tD_bl, tD_int, tD_str, tD_ref, tH_lst, tH_tup, tH_dK, tH_ins, ki_self, ki_int_bool, ki_non_int, ki_str_int, ki_lt_lst, ki_lt_tup, r_fld, r_sfld, HO.ins.injEq, cx_K, h1, h9, h10, na, cl]
    rw [if_pos (by rw [List.length_map]; omega)]
    exact ⟨.str z, atn (by rw [List.getElem?_map, hm]; rfl), k H (Same.refl H)⟩
theorem ok_of_attribute {CC : Addr} {Tt : Tb} (T : Txt mg) (F : FnP K "of_attribute" "of_attribute" sof_attribute f fd) (C_of_name : Cal P w K mg base 1 "of_name" ["code", "argument"] (spOfG K CC Tt (mName Tt))) : FnOk P w K mg base CX0 2 f fd ["code", "argument"] (spOfG K CC Tt (mAttr sufA Tt)) := by
  refine F.ok scof_attribute (fun vs H Q E h => ?_) (fun cdv A outer s H vs Q E hr h => ?_)
  · obtain ⟨c, all, ls, n, z, rfl, _⟩ := h
    rfl
  · obtain ⟨c, all, ls, n, z, rfl, hc, hm, k⟩ := h
    refine ⟨_, PSs.nox (pss_cons (ps_set (i := 2) scof_attribute.nd rfl (Or.inl rfl) (pe_cal C_of_name (hr.mono (by decide)) rfl (pa_cons (pv 0) (pa_cons (pe_op op_shr (pv 1) pe_int) pa_nil))))
  (pss_one (ps_ret (pe_ifExp (PW.pt (pw_and (pt_truth (pe_op op_and (pv 1) pe_int) (by intro _; rfl)) (pw_and1 (pt_cmpR op_notN (pv 2) pe_non (nomark _))))) (pe_joined (.cons (pe_fmt (pv 2)) (.cons pe_str .nil))) (pv 2))))), ?_⟩
    show (_ : TS) _ [some (.ref c), some (.int (n : Int)), none] H
    simp only [r_seq, r_next, r_brk, r_cont, r_asg, r_name, r_ret, r_retN, r_drop, r_ifs, r_never, r_var, r_c, r_op, r_un, r_if, r_tst, r_b, r_not, r_and, r_or, r_andV, r_orV, r_notV, r_nil, r_cons, r_tup, r_lst, r_cb, r_call, r_bm, r_bm0, r_sl, r_nopart, r_part, r_rev, r_gnil, r_gcons, r_gsub, r_par, r_aug, r_chain, r_I0, r_I, r_U, r_ixd, r_lend, r_tupd, r_listd, r_sld, r_app, r_ext, r_reverse, r_setl, r_cat, r_int1, r_eqS, r_neS, scal_ii, scal_bb, scal_ss, at0, at1, at2, sq_lst, sq_tup, isLst_lst, List.getElem?_cons_zero, List.getElem?_cons_succ, List.set_cons_zero, List.set_cons_succ, V.int.injEq, V.bl.injEq, V.ref.injEq, V.str.injEq, HO.lst.injEq, HO.tup.injEq, Option.some.injEq, exists_eq_left', exists_eq_left, List.cons.injEq, and_true, true_and, decide_eq_true_eq, reduceCtorEq, false_and, exists_false, or_false, false_or, exists_const, and_assoc, exists_and_left, List.append_nil, ix0, ix1, ix2, cm_mod, cdw1009, cdw2003, cdw7, cdw64, cdw2, cm104729, cm2, cm3, upd_same, List.length_cons, List.length_nil, Int.reduceLT, Int.reduceLE, Nat.reduceAdd, Nat.reduceLeDiff, Nat.reduceLT, Int.reduceToNat, r_for1, r_forL, r_forT, r_lcL, r_lc1, r_yes, r_gtupD, wipe_0, wipe_1, List.cons_append, List.nil_append, r_forS, r_ipI, ite_false, ite_true, Bool.not_true, Bool.not_false, decide_true, decide_false, r_isd, r_islt, cD_ty, cD_ref, tD_non, tD_bl, tD_int, tD_str, tD_ref, tH_lst, tH_tup, tH_dK, tH_ins, ki_self, ki_int_bool, ki_non_int, ki_str_int, ki_lt_lst, ki_lt_tup, r_fld, r_sfld, HO.ins.injEq, cx_K, r_fmt, tJs]
    have e2 : (n : Int) / 2 ^ 1 = ((n / 2 : Nat) : Int) := by omega
    rw [e2]
    unfold mAttr at hm
    cases e : Tt.ns[n / 2]? with
    | none => rw [e] at hm; cases hm
    | some y =>
      rw [e] at hm
      have yl := hc.ok.n y (List.mem_of_getElem? e)
      refine ⟨c, all, ls, n / 2, y, rfl, hc, e, fun H1 s1 => ⟨_, rfl, ?_⟩⟩
      have l1 : (Str.empty ++ y).length = y.length := by rw [strLen_append]; exact Nat.zero_add _
      have l2 : (Str.empty ++ y ++ Str.ofString " + NULL|self").length = y.length + 12 := by rw [strLen_append, l1]; rfl
      have b1 := bit1 n
      by_cases c1 : n % 2 = 1
      · rw [if_pos (b1.mpr c1), if_pos (by simp)]
        rw [show z = sufA y from by simpa [c1] using hm.symm] at k
        exact .inl ⟨y, rfl, bigS (by omega), bigS (by omega), bigS (by omega), k H1 s1⟩
      · rw [if_neg (fun q => c1 (b1.mp q))]
        rw [show z = y from by simpa [c1] using hm.symm] at k
        exact k H1 s1
theorem ok_of_global {CC : Addr} {Tt : Tb} (T : Txt mg) (F : FnP K "of_global" "of_global" sof_global f fd) (C_of_name : Cal P w K mg base 1 "of_name" ["code", "argument"] (spOfG K CC Tt (mName Tt))) : FnOk P w K mg base CX0 2 f fd ["code", "argument"] (spOfG K CC Tt (mAttr sufG Tt)) := by
  refine F.ok scof_global (fun vs H Q E h => ?_) (fun cdv A outer s H vs Q E hr h => ?_)
  · obtain ⟨c, all, ls, n, z, rfl, _⟩ := h
    rfl
  · obtain ⟨c, all, ls, n, z, rfl, hc, hm, k⟩ := h
    refine ⟨_, PSs.nox (pss_cons (ps_set (i := 2) scof_global.nd rfl (Or.inl rfl) (pe_cal C_of_name (hr.mono (by decide)) rfl (pa_cons (pv 0) (pa_cons (pe_op op_shr (pv 1) pe_int) pa_nil))))
  (pss_one (ps_ret (pe_ifExp (PW.pt (pw_and (pt_truth (pe_op op_and (pv 1) pe_int) (by intro _; rfl)) (pw_and1 (pt_cmpR op_notN (pv 2) pe_non (nomark _))))) (pe_joined (.cons (pe_fmt (pv 2)) (.cons pe_str .nil))) (pv 2))))), ?_⟩
    show (_ : TS) _ [some (.ref c), some (.int (n : Int)), none] H
    simp only [r_seq, r_next, r_brk, r_cont, r_asg, r_name, r_ret, r_retN, r_drop, r_ifs, r_never, r_var, r_c, r_op, r_un, r_if, r_tst, r_b, r_not, r_and, r_or, r_andV, r_orV, r_notV, r_nil, r_cons, r_tup, r_lst, r_cb, r_call, r_bm, r_bm0, r_sl, r_nopart, r_part, r_rev, r_gnil, r_gcons, r_gsub, r_par, r_aug, r_chain, r_I0, r_I, r_U, r_ixd, r_lend, r_tupd, r_listd, r_sld, r_app, r_ext, r_reverse, r_setl, r_cat, r_int1, r_eqS, r_neS, scal_ii, scal_bb, scal_ss, at0, at1, at2, sq_lst, sq_tup, isLst_lst, List.getElem?_cons_zero, List.getElem?_cons_succ, List.set_cons_zero, List.set_cons_succ, V.int.injEq, V.bl.injEq, V.ref.injEq, V.str.injEq, HO.lst.injEq, HO.tup.injEq, Option.some.injEq, exists_eq_left', exists_eq_left, List.cons.injEq, and_true, true_and, decide_eq_true_eq, reduceCtorEq, false_and, exists_false, or_false, false_or, exists_const, and_assoc, exists_and_left, List.append_nil, ix0, ix1, ix2, cm_mod, cdw1009, cdw2003, cdw7, cdw64, cdw2, cm104729, cm2, cm3, upd_same, List.length_cons, List.length_nil, Int.reduceLT, Int.reduceLE, Nat.reduceAdd, Nat.reduceLeDiff, Nat.reduceLT, Int.reduceToNat, r_for1, r_forL, r_forT, r_lcL, r_lc1, r_yes, r_gtupD, wipe_0, wipe_1, List.cons_append, List.nil_append, r_forS, r_ipI, ite_false, ite_true, Bool.not_true, Bool.not_false, decide_true, decide_false, r_isd, r_islt, cD_ty, cD_ref, tD_non, tD_bl, tD_int, tD_str, tD_ref, tH_lst, tH_tup, tH_dK, tH_ins, ki_self, ki_int_bool, ki_non_int, ki_str_int, ki_lt_lst, ki_lt_tup, r_fld, r_sfld, HO.ins.injEq, cx_K, r_fmt, tJs]
    have e2 : (n : Int) / 2 ^ 1 = ((n / 2 : Nat) : Int) := by omega
    rw [e2]
    unfold mAttr at hm
    cases e : Tt.ns[n / 2]? with
    | none => rw [e] at hm; cases hm
    | some y =>
      rw [e] at hm
      have yl := hc.ok.n y (List.mem_of_getElem? e)
      refine ⟨c, all, ls, n / 2, y, rfl, hc, e, fun H1 s1 => ⟨_, rfl, ?_⟩⟩
      have l1 : (Str.empty ++ y).length = y.length := by rw [strLen_append]; exact Nat.zero_add _
      have l2 : (Str.empty ++ y ++ Str.ofString " + NULL").length = y.length + 7 := by rw [strLen_append, l1]; rfl
      have b1 := bit1 n
      by_cases c1 : n % 2 = 1
      · rw [if_pos (b1.mpr c1), if_pos (by simp)]
        rw [show z = sufG y from by simpa [c1] using hm.symm] at k
        exact .inl ⟨y, rfl, bigS (by omega), bigS (by omega), bigS (by omega), k H1 s1⟩
      · rw [if_neg (fun q => c1 (b1.mp q))]
        rw [show z = y from by simpa [c1] using hm.symm] at k
        exact k H1 s1
theorem ok_of_locals {CC : Addr} {Tt : Tb} (T : Txt mg) (F : FnP K "of_locals" "of_locals" sof_locals f fd) (C_of_local : Cal P w K mg base 1 "of_local" ["code", "argument"] (spOfG K CC Tt (mLoc Tt))) : FnOk P w K mg base CX0 2 f fd ["code", "argument"] (spOfG K CC Tt (mPair Tt)) := by
  refine F.ok scof_locals (fun vs H Q E h => ?_) (fun cdv A outer s H vs Q E hr h => ?_)
  · obtain ⟨c, all, ls, n, z, rfl, _⟩ := h
    rfl
  · obtain ⟨c, all, ls, n, z, rfl, hc, hm, k⟩ := h
    refine ⟨_, PSs.nox (pss_cons (ps_par (i := 2) (j := 3) (by rfl) scof_locals.nd rfl rfl (by decide) rfl rfl (pa_cons (pe_cal C_of_local (hr.mono (by decide)) rfl (pa_cons (pv 0) (pa_cons (pe_op op_shr (pv 1) pe_int) pa_nil))) (pa_cons (pe_cal C_of_local (hr.mono (by decide)) rfl (pa_cons (pv 0) (pa_cons (pe_op op_and (pv 1) pe_int) pa_nil))) pa_nil)) (by rfl))
  (pss_one (ps_ret (pe_ifExp (PW.pt (pw_or (pt_cmpR op_isN (pv 2) pe_non (nomark _)) (pw_or1 (pt_cmpR op_isN (pv 3) pe_non (nomark _))))) pe_non (pe_joined (.cons (pe_fmt (pv 2)) (.cons pe_str (.cons (pe_fmt (pv 3)) .nil)))))))), ?_⟩
    show (_ : TS) _ [some (.ref c), some (.int (n : Int)), none, none] H
    simp only [r_seq, r_next, r_brk, r_cont, r_asg, r_name, r_ret, r_retN, r_drop, r_ifs, r_never, r_var, r_c, r_op, r_un, r_if, r_tst, r_b, r_not, r_and, r_or, r_andV, r_orV, r_notV, r_nil, r_cons, r_tup, r_lst, r_cb, r_call, r_bm, r_bm0, r_sl, r_nopart, r_part, r_rev, r_gnil, r_gcons, r_gsub, r_par, r_aug, r_chain, r_I0, r_I, r_U, r_ixd, r_lend, r_tupd, r_listd, r_sld, r_app, r_ext, r_reverse, r_setl, r_cat, r_int1, r_eqS, r_neS, scal_ii, scal_bb, scal_ss, at0, at1, at2, sq_lst, sq_tup, isLst_lst, List.getElem?_cons_zero, List.getElem?_cons_succ, List.set_cons_zero, List.set_cons_succ, V.int.injEq, V.bl.injEq, V.ref.injEq, V.str.injEq, HO.lst.injEq, HO.tup.injEq, Option.some.injEq, exists_eq_left', exists_eq_left, List.cons.injEq, and_true, true_and, decide_eq_true_eq, reduceCtorEq, false_and, exists_false, or_false, false_or, exists_const, and_assoc, exists_and_left, List.append_nil, ix0, ix1, ix2, cm_mod, cdw1009, cdw2003, cdw7, cdw64, cdw2, cm104729, cm2, cm3, upd_same, List.length_cons, List.length_nil, Int.reduceLT, Int.reduceLE, Nat.reduceAdd, Nat.reduceLeDiff, Nat.reduceLT, Int.reduceToNat, r_for1, r_forL, r_forT, r_lcL, r_lc1, r_yes, r_gtupD, wipe_0, wipe_1, List.cons_append, List.nil_append, r_forS, r_ipI, ite_false, ite_true, Bool.not_true, Bool.not_false, decide_true, decide_false, r_isd, r_islt, cD_ty, cD_ref, tD_non, tD_bl, tD_int, tD_str, tD_ref, tH_lst, tH_tup, tH_dK, tH_ins, ki_self, ki_int_bool, ki_non_int, ki_str_int, ki_lt_lst, ki_lt_tup, r_fld, r_sfld, HO.ins.injEq, cx_K, r_fmt, tJs]
    have e1 : (n : Int) / 2 ^ 4 = ((n / 16 : Nat) : Int) := by omega
    have e2 : Builtin.bitAnd (n : Int) 15 = ((n % 16 : Nat) : Int) := by
      rw [show (15 : Int) = 2 ^ 4 - 1 from rfl, Bits.bitAnd_mask 4 (by omega)]
      omega
    rw [e1, e2]
    unfold mPair at hm
    cases q1 : Tt.ss[n / 16]? with
    | none => rw [q1] at hm; cases hm
    | some z1 =>
      cases q2 : Tt.ss[n % 16]? with
      | none => rw [q1, q2] at hm; cases hm
      | some z2 =>
        rw [q1, q2] at hm
        have hm : some (pairT z1 z2) = some z := hm
        cases hm
        refine ⟨c, all, ls, n / 16, z1, rfl, hc, q1, fun H1 s1 => ⟨c, all, ls, n % 16, z2, rfl, hc.same s1, q2, fun H2 s2 => ?_⟩⟩
        have s12 : Same H H2 := fun y o e => s2 y o (s1 y o e)
        dsimp only
        have l1 := hc.ok.s z1 (List.mem_of_getElem? q1)
        have l2 := hc.ok.s z2 (List.mem_of_getElem? q2)
        rw [if_neg (show ¬ (V.str z1 = V.non) from nofun), if_neg (show ¬ (V.str z2 = V.non) from nofun)]
        have a1 : (Str.empty ++ z1).length = z1.length := by rw [strLen_append]; exact Nat.zero_add _
        have a2 : (Str.empty ++ z1 ++ Str.ofString ", ").length = z1.length + 2 := by rw [strLen_append, a1]; rfl
        have a3 : (Str.empty ++ z1 ++ Str.ofString ", " ++ z2).length = z1.length + 2 + z2.length := by rw [strLen_append, a2]
        exact .inl ⟨z1, rfl, bigS (by omega), bigS (by omega), bigS (by omega), .inl ⟨z2, rfl, bigS (by omega), bigS (by omega), k H2 s12⟩⟩
theorem ok_of_constant {CC : Addr} {Tt : Tb} (T : Txt mg) (I : CodeT K mg CC) (yes : PySem.W.kitOne K (.ref CC) (.ref CC) = some true) (F : FnP K "of_constant" "of_constant" sof_constant f fd) : FnG P w K mg base CX0 1 f fd ["code", "argument"] (spOfG K CC Tt (mConst Tt)) := by
  refine okG F scof_constant (fun vs H Q E h => ?_) (fun cdv A outer s H vs Q E gd hr h => ?_)
  · obtain ⟨c, all, ls, n, z, rfl, _⟩ := h
    rfl
  · obtain ⟨c, all, ls, n, z, rfl, hc, hm, k⟩ := h
    have hu20 : (cxOf CX0 P w K mg base ["code", "argument", "constant"] "of_constant" (defScope sof_constant) f cdv A outer s H E).nox.A.units + 20 < cLine := by
      have := hr.un
      show (A.deeper _).units + 20 < cLine
      omega
    refine ⟨_, PSs.nox (pss_cons (ps_if (pt_cmpR op_ge (pv 1) (pe_callB call_len_d (by rfl) T.b_len (by decide +kernel) (pa_cons (pe_fld (pv 0) rfl) pa_nil)) (nomark _))
    (pss_one (ps_ret pe_non))
    pss_nil)
  (pss_cons (ps_set (i := 2) scof_constant.nd rfl (Or.inl rfl) (pe_ix ix_d (pe_fld (pv 0) rfl) (pv 1) (fun _ _ => rfl)))
  (pss_one (ps_ret (pe_ifExp (pt_val (pe_callB (call_is_d I.cI) (by rfl) T.b_isinstance (by decide +kernel) (pa_cons (pv 2) (pa_cons (pe_glob (v := .ref _) rfl I.g_Code rfl) pa_nil)))) (pe_joined (.cons pe_str (.cons (pe_fmt (pe_fld (pv 2) rfl)) (.cons pe_str .nil)))) (pe_callB (call_repr_any gd hu20) (by rfl) T.b_repr (by decide +kernel) (pa_cons (pv 2) pa_nil))))))), ?_⟩
    obtain ⟨⟨dx, fs, t, u, nm, v, kk, ks, h1, h2, h3, h4, h5, h6, h7, h8, h9, h10, h11, h12, h13⟩, ok⟩ := hc
    show (_ : TS) _ [some (.ref c), some (.int (n : Int)), none] H
    have na := I.na "constants" (by decide)
    have np := I.na "path" (by decide)
    have cl := I.cI.cl
    simp only [r_seq, r_next, r_brk, r_cont, r_asg, r_name, r_ret, r_retN, r_drop, r_ifs, r_never, r_var, r_c, r_op, r_un, r_if, r_tst, r_b, r_not, r_and, r_or, r_andV, r_orV, r_notV, r_nil, r_cons, r_tup, r_lst, r_cb, r_call, r_bm, r_bm0, r_sl, r_nopart, r_part, r_rev, r_gnil, r_gcons, r_gsub, r_par, r_aug, r_chain, r_I0, r_I, r_U, r_ixd, r_lend, r_tupd, r_listd, r_sld, r_app, r_ext, r_reverse, r_setl, r_cat, r_int1, r_eqS, r_neS, scal_ii, scal_bb, scal_ss, at0, at1, at2, sq_lst, sq_tup, isLst_lst, List.getElem?_cons_zero, List.getElem?_cons_succ, List.set_cons_zero, List.set_cons_succ, V.int.injEq, V.bl.injEq, V.ref.injEq, V.str.injEq, HO.lst.injEq, HO.tup.injEq, Option.some.injEq, exists_eq_left', exists_eq_left, List.cons.injEq, and_true, true_and, decide_eq_true_eq, reduceCtorEq, false_and, exists_false, or_false, false_or, exists_const, and_assoc, exists_and_left, List.append_nil, ix0, ix1, ix2, cm_mod, cdw1009, cdw2003, cdw7, cdw64, cdw2, cm104729, cm2, cm3, upd_same, List.length_cons, List.length_nil, Int.reduceLT, Int.reduceLE, Nat.reduceAdd, Nat.reduceLeDiff, Nat.reduceLT, Int.reduceToNat, r_for1, r_forL, r_forT, r_lcL, r_lc1, r_yes, r_gtupD, wipe_0, wipe_1, List.cons_append, List.nil_append, r_forS, r_ipI, ite_false, ite_true, Bool.not_true, Bool.not_false, decide_true, decide_false, r_isd, r_islt, cD_ty, cD_ref, tD_non, tD_bl, tD_int, tD_str, tD_ref, tH_lst, tH_tup, tH_dK, tH_ins, ki_self, ki_int_bool, ki_non_int, ki_str_int, ki_lt_lst, ki_lt_tup, r_fld, r_sfld, HO.ins.injEq, cx_K, h1, h11, h12, na, cl, r_fmt, tJs]
    unfold mConst at hm
    have lt : n < ks.length := by rw [Paired.length h13]; exact (List.getElem?_eq_some_iff.mp hm).1
    rw [if_neg (by omega)]
    have eq1 : ks[n]? = some ks[n] := List.getElem?_eq_getElem lt
    have ca : ConstAt K CC H ks[n] z := by
      have := Paired.at' h13 lt (by rw [← Paired.length h13]; exact lt)
      rwa [(List.getElem?_eq_some_iff.mp hm).2] at this
    generalize ks[n] = x at eq1 ca
    refine ⟨x, atn eq1, ?_⟩
    rcases ca with ⟨a, dx2, fs2, y, rfl, g1, g2, yl, rfl⟩ | ⟨⟨T', g1, g2⟩, d, g3, g4, g5, g6, g7, rfl⟩
    · have l1 : (Str.empty ++ Str.ofString "<code ").length = 6 := by rw [strLen_append]; rfl
      have l2 : (Str.empty ++ Str.ofString "<code " ++ y).length = 6 + y.length := by rw [strLen_append, l1]
      have l3 : (Str.empty ++ Str.ofString "<code " ++ y ++ Str.ofString ">").length = 6 + y.length + 1 := by rw [strLen_append, l2]; rfl
      refine ⟨.ref CC, by simp [tyD, tyH, g1], true, yes, ?_⟩
      rw [if_pos rfl]
      exact ⟨bigS (by omega), a, rfl, CC, dx2, fs2, g1, cl, np, .str y, g2, .inl ⟨y, rfl, bigS (by omega), bigS (by omega), bigS (by omega), k H (Same.refl H)⟩⟩
    · refine ⟨T', g1, false, g2, ?_⟩
      rw [if_neg (by decide)]
      exact ⟨x, d, rfl, g3, g4, g5, g6, Nat.le_trans g7 (by decide), k H (Same.refl H)⟩
end
end C57

set_option maxHeartbeats 1000000
namespace C57
open PySem PySem.Spec PyProof.Rows L2 StrLaws
/-! ### tables of texts, each with what it says -/
def OPL : List (Int × Str) := ([(0, "+"), (1, "&"), (2, "//"), (3, "<<"), (5, "*"), (6, "mod"), (7, "|"), (8, "**"), (9, ">>"), (10, "-"), (12, "^"), (13, "+="), (14, "&="), (15, "//="), (16, "<<="), (18, "*="), (19, "mod="), (20, "|="), (21, "**="), (22, ">>="), (23, "-="), (25, "^=")] : List (Int × Str))
def CML : List (Int × Str) := ([(2, "<"), (42, "<="), (72, "=="), (103, "!="), (132, ">"), (172, ">=")] : List (Int × Str))
def INL : List (Int × Str) := ([(3, "INTRINSIC_STOPITERATION_ERROR"), (6, "INTRINSIC_LIST_TO_TUPLE")] : List (Int × Str))
def ATL : List (Int × Str) := ([(1, "defaults"), (2, "kwdefaults"), (8, "closure")] : List (Int × Str))
def lkT (l : List (Int × Str)) (k : Int) : Option Str := (l.find? fun p => decide (p.1 = k)).map (·.2)
def SaysT (L : List (Int × Value)) (k : Int) : Option Str → Prop
  | none => getI L k = none
  | some z => ∃ t, getI L k = some (.str z t)
structure TextsX (K : PySem.W.Frag) (mg : Str → Option Value) (x : Str) (D : Addr) (L : List (Int × Value)) (TL : List (Int × Str)) : Prop where
  d : IDict K D L
  g : mg x = some (.ref D)
  get : ∀ k : Int, SaysT L k (lkT TL k)
theorem pe_ref {X : Cx} {x : Str} {D : Addr} {pos : Pos} (h : X.mg x = some (.ref D)) (hg : Gl X x := by rfl) (hdb : (x == ("__debug__" : Str)) = false := by decide) : PE X (.Name x pos) (tC (.ref D)) := pe_glob hg h (show RelV (V.ref D) (Value.ref D) from rfl) hdb
theorem r_iget2 {d : Addr} {L : List (Int × Value)} {ty tx : TE} {σ : L2.St} {H : Hp} {Q : VK} : tIGet2 d L ty tx σ H Q = ty σ H (fun y H2 => tx σ H2 fun z H3 => ∃ k : Int, y = .int k ∧ ((∃ u v, getI L k = some u ∧ RelV v u ∧ Q v H3) ∨ (getI L k = none ∧ Q z H3))) := rfl
theorem r_inI {d : Addr} {L : List (Int × Value)} {x y : V} {H : Hp} {Q : VK} : rInI d L x y H Q = ∃ k, x = .int k ∧ y = .ref d ∧ Q (.bl (getI L k).isSome) H := rfl
theorem r_iget1 {d : Addr} {L : List (Int × Value)} {ty : TE} {σ : L2.St} {H : Hp} {Q : VK} : tIGet1 d L ty σ H Q = ty σ H (fun y H2 => ∃ k : Int, y = .int k ∧ ((∃ u v, getI L k = some u ∧ RelV v u ∧ Q v H2) ∨ (getI L k = none ∧ Q .non H2))) := rfl
def mText (l : List (Int × Str)) (n : Nat) : Option Str := some ((lkT l (n : Int)).getD "")
def mOpp (n : Nat) : Option Str := some (if n = 1 then "not" else "")
def boolT (z : Str) : Str := Str.empty ++ Str.ofString "bool(" ++ z ++ Str.ofString ")"
def cmpT (n : Int) : Str := match lkT CML n with
  | some z => z
  | none => match lkT CML (n - 16) with
    | some z => boolT z
    | none => ""
def mCmp (n : Nat) : Option Str := some (cmpT (n : Int))
theorem cml_short : CML.all (fun p => decide (p.2.length ≤ 50)) = true := by decide +kernel
theorem lkT_short {l : List (Int × Str)} (h : l.all (fun p => decide (p.2.length ≤ 50)) = true) {k : Int} {z : Str} (e : lkT l k = some z) : z.length ≤ 50 := by
  unfold lkT at e
  cases q : l.find? fun p => decide (p.1 = k) with
  | none => rw [q] at e; cases e
  | some p =>
    rw [q] at e
    cases e
    exact of_decide_eq_true (List.all_eq_true.mp h p (List.mem_of_find?_eq_some q))
section
variable {P : Program} {w : World} {K : PySem.W.Frag} {mg : Str → Option Value} {base : Heap} {f : Addr} {fd : FuncData}
abbrev sof_operator : Stmt := top 44
theorem scof_operator : FnScope ["code", "argument"] ["code", "argument"] (defScope sof_operator) := ⟨rfl, rfl, rfl, by decide +kernel, rfl, by decide +kernel, by decide +kernel⟩

theorem ok_of_operator {CC D : Addr} {L : List (Int × Value)} {Tt : Tb} (T : Txt mg) (TT : TextsX K mg "OPERATOR_SIGNS" D L OPL) (F : FnP K "of_operator" "of_operator" sof_operator f fd) : FnOk P w K mg base CX0 1 f fd ["code", "argument"] (spOfG K CC Tt (mText OPL)) := by
  refine F.ok scof_operator (fun vs H Q E h => ?_) (fun cdv A outer s H vs Q E hr h => ?_)
  · obtain ⟨c, all, ls, n, z, rfl, _⟩ := h
    rfl
  · obtain ⟨c, all, ls, n, z, rfl, hc, hm, k⟩ := h
    refine ⟨_, PSs.nox (pss_one (ps_ret (pe_iget2 TT.d (pe_ref TT.g) (pv 1) pe_str ⟨rfl, rfl, rfl, rfl⟩))), ?_⟩
    show (_ : TS) _ [some (.ref c), some (.int (n : Int))] H
    simp only [r_seq, r_next, r_brk, r_cont, r_asg, r_name, r_ret, r_retN, r_drop, r_ifs, r_never, r_var, r_c, r_op, r_un, r_if, r_tst, r_b, r_not, r_and, r_or, r_andV, r_orV, r_notV, r_nil, r_cons, r_tup, r_lst, r_cb, r_call, r_bm, r_bm0, r_sl, r_nopart, r_part, r_rev, r_gnil, r_gcons, r_gsub, r_par, r_aug, r_chain, r_I0, r_I, r_U, r_ixd, r_lend, r_tupd, r_listd, r_sld, r_app, r_ext, r_reverse, r_setl, r_cat, r_int1, r_eqS, r_neS, scal_ii, scal_bb, scal_ss, at0, at1, at2, sq_lst, sq_tup, isLst_lst, List.getElem?_cons_zero, List.getElem?_cons_succ, List.set_cons_zero, List.set_cons_succ, V.int.injEq, V.bl.injEq, V.ref.injEq, V.str.injEq, HO.lst.injEq, HO.tup.injEq, Option.some.injEq, exists_eq_left', exists_eq_left, List.cons.injEq, and_true, true_and, decide_eq_true_eq, reduceCtorEq, false_and, exists_false, or_false, false_or, exists_const, and_assoc, exists_and_left, List.append_nil, ix0, ix1, ix2, cm_mod, cdw1009, cdw2003, cdw7, cdw64, cdw2, cm104729, cm2, cm3, upd_same, List.length_cons, List.length_nil, Int.reduceLT, Int.reduceLE, Nat.reduceAdd, Nat.reduceLeDiff, Nat.reduceLT, Int.reduceToNat, r_for1, r_forL, r_forT, r_lcL, r_lc1, r_yes, r_gtupD, wipe_0, wipe_1, List.cons_append, List.nil_append, r_forS, r_ipI, ite_false, ite_true, Bool.not_true, Bool.not_false, decide_true, decide_false, r_isd, r_islt, cD_ty, cD_ref, tD_non, tD_bl, tD_int, tD_str, tD_ref, tH_lst, tH_tup, tH_dK, tH_ins, ki_self, ki_int_bool, ki_non_int, ki_str_int, ki_lt_lst, ki_lt_tup, r_fld, r_sfld, HO.ins.injEq, cx_K, r_iget2]
    unfold mText at hm
    cases hm
    have g := TT.get n
    cases e : lkT OPL (n : Int) with
    | none =>
      rw [e] at g k
      exact .inr ⟨g, k H (Same.refl H)⟩
    | some y =>
      rw [e] at g k
      obtain ⟨t, g⟩ := g
      exact .inl ⟨_, g, .str y, ⟨t, rfl⟩, k H (Same.refl H)⟩
abbrev sof_intrinsic : Stmt := top 47
theorem scof_intrinsic : FnScope ["code", "argument"] ["code", "argument"] (defScope sof_intrinsic) := ⟨rfl, rfl, rfl, by decide +kernel, rfl, by decide +kernel, by decide +kernel⟩

theorem ok_of_intrinsic {CC D : Addr} {L : List (Int × Value)} {Tt : Tb} (T : Txt mg) (TT : TextsX K mg "INTRINSICS" D L INL) (F : FnP K "of_intrinsic" "of_intrinsic" sof_intrinsic f fd) : FnOk P w K mg base CX0 1 f fd ["code", "argument"] (spOfG K CC Tt (mText INL)) := by
  refine F.ok scof_intrinsic (fun vs H Q E h => ?_) (fun cdv A outer s H vs Q E hr h => ?_)
  · obtain ⟨c, all, ls, n, z, rfl, _⟩ := h
    rfl
  · obtain ⟨c, all, ls, n, z, rfl, hc, hm, k⟩ := h
    refine ⟨_, PSs.nox (pss_one (ps_ret (pe_iget2 TT.d (pe_ref TT.g) (pv 1) pe_str ⟨rfl, rfl, rfl, rfl⟩))), ?_⟩
    show (_ : TS) _ [some (.ref c), some (.int (n : Int))] H
    simp only [r_seq, r_next, r_brk, r_cont, r_asg, r_name, r_ret, r_retN, r_drop, r_ifs, r_never, r_var, r_c, r_op, r_un, r_if, r_tst, r_b, r_not, r_and, r_or, r_andV, r_orV, r_notV, r_nil, r_cons, r_tup, r_lst, r_cb, r_call, r_bm, r_bm0, r_sl, r_nopart, r_part, r_rev, r_gnil, r_gcons, r_gsub, r_par, r_aug, r_chain, r_I0, r_I, r_U, r_ixd, r_lend, r_tupd, r_listd, r_sld, r_app, r_ext, r_reverse, r_setl, r_cat, r_int1, r_eqS, r_neS, scal_ii, scal_bb, scal_ss, at0, at1, at2, sq_lst, sq_tup, isLst_lst, List.getElem?_cons_zero, List.getElem?_cons_succ, List.set_cons_zero, List.set_cons_succ, V.int.injEq, V.bl.injEq, V.ref.injEq, V.str.injEq, HO.lst.injEq, HO.tup.injEq, Option.some.injEq, exists_eq_left', exists_eq_left, List.cons.injEq, and_true, true_and, decide_eq_true_eq, reduceCtorEq, false_and, exists_false, or_false, false_or, exists_const, and_assoc, exists_and_left, List.append_nil, ix0, ix1, ix2, cm_mod, cdw1009, cdw2003, cdw7, cdw64, cdw2, cm104729, cm2, cm3, upd_same, List.length_cons, List.length_nil, Int.reduceLT, Int.reduceLE, Nat.reduceAdd, Nat.reduceLeDiff, Nat.reduceLT, Int.reduceToNat, r_for1, r_forL, r_forT, r_lcL, r_lc1, r_yes, r_gtupD, wipe_0, wipe_1, List.cons_append, List.nil_append, r_forS, r_ipI, ite_false, ite_true, Bool.not_true, Bool.not_false, decide_true, decide_false, r_isd, r_islt, cD_ty, cD_ref, tD_non, tD_bl, tD_int, tD_str, tD_ref, tH_lst, tH_tup, tH_dK, tH_ins, ki_self, ki_int_bool, ki_non_int, ki_str_int, ki_lt_lst, ki_lt_tup, r_fld, r_sfld, HO.ins.injEq, cx_K, r_iget2]
    unfold mText at hm
    cases hm
    have g := TT.get n
    cases e : lkT INL (n : Int) with
    | none =>
      rw [e] at g k
      exact .inr ⟨g, k H (Same.refl H)⟩
    | some y =>
      rw [e] at g k
      obtain ⟨t, g⟩ := g
      exact .inl ⟨_, g, .str y, ⟨t, rfl⟩, k H (Same.refl H)⟩
abbrev sof_function_attribute : Stmt := top 48
theorem scof_function_attribute : FnScope ["code", "argument"] ["code", "argument"] (defScope sof_function_attribute) := ⟨rfl, rfl, rfl, by decide +kernel, rfl, by decide +kernel, by decide +kernel⟩

theorem ok_of_function_attribute {CC D : Addr} {L : List (Int × Value)} {Tt : Tb} (T : Txt mg) (TT : TextsX K mg "ATTRIBUTES" D L ATL) (F : FnP K "of_function_attribute" "of_function_attribute" sof_function_attribute f fd) : FnOk P w K mg base CX0 1 f fd ["code", "argument"] (spOfG K CC Tt (mText ATL)) := by
  refine F.ok scof_function_attribute (fun vs H Q E h => ?_) (fun cdv A outer s H vs Q E hr h => ?_)
  · obtain ⟨c, all, ls, n, z, rfl, _⟩ := h
    rfl
  · obtain ⟨c, all, ls, n, z, rfl, hc, hm, k⟩ := h
    refine ⟨_, PSs.nox (pss_one (ps_ret (pe_iget2 TT.d (pe_ref TT.g) (pv 1) pe_str ⟨rfl, rfl, rfl, rfl⟩))), ?_⟩
    show (_ : TS) _ [some (.ref c), some (.int (n : Int))] H
    simp only [r_seq, r_next, r_brk, r_cont, r_asg, r_name, r_ret, r_retN, r_drop, r_ifs, r_never, r_var, r_c, r_op, r_un, r_if, r_tst, r_b, r_not, r_and, r_or, r_andV, r_orV, r_notV, r_nil, r_cons, r_tup, r_lst, r_cb, r_call, r_bm, r_bm0, r_sl, r_nopart, r_part, r_rev, r_gnil, r_gcons, r_gsub, r_par, r_aug, r_chain, r_I0, r_I, r_U, r_ixd, r_lend, r_tupd, r_listd, r_sld, r_app, r_ext, r_reverse, r_setl, r_cat, r_int1, r_eqS, r_neS, scal_ii, scal_bb, scal_ss, at0, at1, at2, sq_lst, sq_tup, isLst_lst, List.getElem?_cons_zero, List.getElem?_cons_succ, List.set_cons_zero, List.set_cons_succ, V.int.injEq, V.bl.injEq, V.ref.injEq, V.str.injEq, HO.lst.injEq, HO.tup.injEq, Option.some.injEq, exists_eq_left', exists_eq_left, List.cons.injEq, and_true, true_and, decide_eq_true_eq, reduceCtorEq, false_and, exists_false, or_false, false_or, exists_const, and_assoc, exists_and_left, List.append_nil, ix0, ix1, ix2, cm_mod, cdw1009, cdw2003, cdw7, cdw64, cdw2, cm104729, cm2, cm3, upd_same, List.length_cons, List.length_nil, Int.reduceLT, Int.reduceLE, Nat.reduceAdd, Nat.reduceLeDiff, Nat.reduceLT, Int.reduceToNat, r_for1, r_forL, r_forT, r_lcL, r_lc1, r_yes, r_gtupD, wipe_0, wipe_1, List.cons_append, List.nil_append, r_forS, r_ipI, ite_false, ite_true, Bool.not_true, Bool.not_false, decide_true, decide_false, r_isd, r_islt, cD_ty, cD_ref, tD_non, tD_bl, tD_int, tD_str, tD_ref, tH_lst, tH_tup, tH_dK, tH_ins, ki_self, ki_int_bool, ki_non_int, ki_str_int, ki_lt_lst, ki_lt_tup, r_fld, r_sfld, HO.ins.injEq, cx_K, r_iget2]
    unfold mText at hm
    cases hm
    have g := TT.get n
    cases e : lkT ATL (n : Int) with
    | none =>
      rw [e] at g k
      exact .inr ⟨g, k H (Same.refl H)⟩
    | some y =>
      rw [e] at g k
      obtain ⟨t, g⟩ := g
      exact .inl ⟨_, g, .str y, ⟨t, rfl⟩, k H (Same.refl H)⟩
abbrev sof_opposite : Stmt := top 46
theorem scof_opposite : FnScope ["code", "argument"] ["code", "argument"] (defScope sof_opposite) := ⟨rfl, rfl, rfl, by decide +kernel, rfl, by decide +kernel, by decide +kernel⟩

theorem ok_of_opposite {CC : Addr} {Tt : Tb} (T : Txt mg) (F : FnP K "of_opposite" "of_opposite" sof_opposite f fd) : FnOk P w K mg base CX0 1 f fd ["code", "argument"] (spOfG K CC Tt mOpp) := by
  refine F.ok scof_opposite (fun vs H Q E h => ?_) (fun cdv A outer s H vs Q E hr h => ?_)
  · obtain ⟨c, all, ls, n, z, rfl, _⟩ := h
    rfl
  · obtain ⟨c, all, ls, n, z, rfl, hc, hm, k⟩ := h
    refine ⟨_, PSs.nox (pss_one (ps_ret (pe_ifExp (pt_cmpR op_eq (pv 1) pe_int (nomark _)) pe_str pe_str))), ?_⟩
    show (_ : TS) _ [some (.ref c), some (.int (n : Int))] H
    simp only [r_seq, r_next, r_brk, r_cont, r_asg, r_name, r_ret, r_retN, r_drop, r_ifs, r_never, r_var, r_c, r_op, r_un, r_if, r_tst, r_b, r_not, r_and, r_or, r_andV, r_orV, r_notV, r_nil, r_cons, r_tup, r_lst, r_cb, r_call, r_bm, r_bm0, r_sl, r_nopart, r_part, r_rev, r_gnil, r_gcons, r_gsub, r_par, r_aug, r_chain, r_I0, r_I, r_U, r_ixd, r_lend, r_tupd, r_listd, r_sld, r_app, r_ext, r_reverse, r_setl, r_cat, r_int1, r_eqS, r_neS, scal_ii, scal_bb, scal_ss, at0, at1, at2, sq_lst, sq_tup, isLst_lst, List.getElem?_cons_zero, List.getElem?_cons_succ, List.set_cons_zero, List.set_cons_succ, V.int.injEq, V.bl.injEq, V.ref.injEq, V.str.injEq, HO.lst.injEq, HO.tup.injEq, Option.some.injEq, exists_eq_left', exists_eq_left, List.cons.injEq, and_true, true_and, decide_eq_true_eq, reduceCtorEq, false_and, exists_false, or_false, false_or, exists_const, and_assoc, exists_and_left, List.append_nil, ix0, ix1, ix2, cm_mod, cdw1009, cdw2003, cdw7, cdw64, cdw2, cm104729, cm2, cm3, upd_same, List.length_cons, List.length_nil, Int.reduceLT, Int.reduceLE, Nat.reduceAdd, Nat.reduceLeDiff, Nat.reduceLT, Int.reduceToNat, r_for1, r_forL, r_forT, r_lcL, r_lc1, r_yes, r_gtupD, wipe_0, wipe_1, List.cons_append, List.nil_append, r_forS, r_ipI, ite_false, ite_true, Bool.not_true, Bool.not_false, decide_true, decide_false, r_isd, r_islt, cD_ty, cD_ref, tD_non, tD_bl, tD_int, tD_str, tD_ref, tH_lst, tH_tup, tH_dK, tH_ins, ki_self, ki_int_bool, ki_non_int, ki_str_int, ki_lt_lst, ki_lt_tup, r_fld, r_sfld, HO.ins.injEq, cx_K]
    unfold mOpp at hm
    cases hm
    by_cases c1 : n = 1
    · rw [if_pos (by rw [c1]; rfl)]
      rw [if_pos c1] at k
      exact k H (Same.refl H)
    · rw [if_neg (fun q => c1 (by omega))]
      rw [if_neg c1] at k
      exact k H (Same.refl H)
abbrev sof_comparison : Stmt := top 45
theorem scof_comparison : FnScope ["code", "argument", "sign"] ["code", "argument"] (defScope sof_comparison) := ⟨rfl, rfl, rfl, by decide +kernel, rfl, by decide +kernel, by decide +kernel⟩

theorem ok_of_comparison {CC D : Addr} {L : List (Int × Value)} {Tt : Tb} (T : Txt mg) (gTr : ∃ t, mg "TRUTH" = some (.int 16 t)) (TT : TextsX K mg "COMPARISON_SIGNS" D L CML) (F : FnP K "of_comparison" "of_comparison" sof_comparison f fd) : FnOk P w K mg base CX0 1 f fd ["code", "argument"] (spOfG K CC Tt mCmp) := by
  refine F.ok scof_comparison (fun vs H Q E h => ?_) (fun cdv A outer s H vs Q E hr h => ?_)
  · obtain ⟨c, all, ls, n, z, rfl, _⟩ := h
    rfl
  · obtain ⟨c, all, ls, n, z, rfl, hc, hm, k⟩ := h
    refine ⟨_, PSs.nox (pss_cons (ps_if (pt_cmpR (op_inI TT.d) (pv 1) (pe_ref TT.g) (by rfl))
    (pss_one (ps_ret (pe_ix (ix_I TT.d) (pe_ref TT.g) (pv 1) (fun _ _ => rfl))))
    pss_nil)
  (pss_cons (ps_set (i := 2) scof_comparison.nd rfl (Or.inl rfl) (pe_iget1 TT.d (pe_ref TT.g) (pe_op op_sub (pv 1) (pe_gi gTr)) ⟨rfl, rfl, rfl, rfl⟩))
  (pss_one (ps_ret (pe_ifExp (pt_cmpR op_isN (pv 2) pe_non (nomark _)) pe_str (pe_joined (.cons pe_str (.cons (pe_fmt (pv 2)) (.cons pe_str .nil))))))))), ?_⟩
    show (_ : TS) _ [some (.ref c), some (.int (n : Int)), none] H
    simp only [r_seq, r_next, r_brk, r_cont, r_asg, r_name, r_ret, r_retN, r_drop, r_ifs, r_never, r_var, r_c, r_op, r_un, r_if, r_tst, r_b, r_not, r_and, r_or, r_andV, r_orV, r_notV, r_nil, r_cons, r_tup, r_lst, r_cb, r_call, r_bm, r_bm0, r_sl, r_nopart, r_part, r_rev, r_gnil, r_gcons, r_gsub, r_par, r_aug, r_chain, r_I0, r_I, r_U, r_ixd, r_lend, r_tupd, r_listd, r_sld, r_app, r_ext, r_reverse, r_setl, r_cat, r_int1, r_eqS, r_neS, scal_ii, scal_bb, scal_ss, at0, at1, at2, sq_lst, sq_tup, isLst_lst, List.getElem?_cons_zero, List.getElem?_cons_succ, List.set_cons_zero, List.set_cons_succ, V.int.injEq, V.bl.injEq, V.ref.injEq, V.str.injEq, HO.lst.injEq, HO.tup.injEq, Option.some.injEq, exists_eq_left', exists_eq_left, List.cons.injEq, and_true, true_and, decide_eq_true_eq, reduceCtorEq, false_and, exists_false, or_false, false_or, exists_const, and_assoc, exists_and_left, List.append_nil, ix0, ix1, ix2, cm_mod, cdw1009, cdw2003, cdw7, cdw64, cdw2, cm104729, cm2, cm3, upd_same, List.length_cons, List.length_nil, Int.reduceLT, Int.reduceLE, Nat.reduceAdd, Nat.reduceLeDiff, Nat.reduceLT, Int.reduceToNat, r_for1, r_forL, r_forT, r_lcL, r_lc1, r_yes, r_gtupD, wipe_0, wipe_1, List.cons_append, List.nil_append, r_forS, r_ipI, ite_false, ite_true, Bool.not_true, Bool.not_false, decide_true, decide_false, r_isd, r_islt, cD_ty, cD_ref, tD_non, tD_bl, tD_int, tD_str, tD_ref, tH_lst, tH_tup, tH_dK, tH_ins, ki_self, ki_int_bool, ki_non_int, ki_str_int, ki_lt_lst, ki_lt_tup, r_fld, r_sfld, HO.ins.injEq, cx_K, r_iget1, r_inI, r_ixI, r_fmt, tJs]
    unfold mCmp cmpT at hm
    cases hm
    have g := TT.get n
    cases e : lkT CML (n : Int) with
    | some y =>
      rw [e] at g k
      obtain ⟨t, g⟩ := g
      rw [g, if_pos (by simp)]
      exact ⟨_, rfl, .str y, ⟨t, rfl⟩, k H (Same.refl H)⟩
    | none =>
      rw [e] at g k
      have g : getI L (n : Int) = none := g
      rw [g, if_neg (by simp)]
      have g2 := TT.get ((n : Int) - 16)
      cases e2 : lkT CML ((n : Int) - 16) with
      | some y =>
        dsimp only at k
        rw [e2] at g2 k
        obtain ⟨t, g2⟩ := g2
        have yl := lkT_short cml_short e2
        have l1 : (Str.empty ++ Str.ofString "bool(").length = 5 := by rw [strLen_append]; rfl
        have l2 : (Str.empty ++ Str.ofString "bool(" ++ y).length = 5 + y.length := by rw [strLen_append, l1]
        have l3 : (Str.empty ++ Str.ofString "bool(" ++ y ++ Str.ofString ")").length = 6 + y.length := by rw [strLen_append, l2, show (Str.ofString ")").length = 1 from rfl]; omega
        refine .inl ⟨_, g2, .str y, ⟨t, rfl⟩, ?_⟩
        rw [if_neg (by simp)]
        exact ⟨bigS (by omega), .inl ⟨y, rfl, bigS (by omega), bigS (by omega), bigS (by omega), k H (Same.refl H)⟩⟩
      | none =>
        dsimp only at k
        rw [e2] at g2 k
        exact .inr ⟨g2, k H (Same.refl H)⟩
end
end C57

set_option maxHeartbeats 2000000
namespace C57
open PySem PySem.Spec PyProof.Rows L2 StrLaws
/-! ### the tables, and bytes that are wrong -/
def WDL : List (Nat × Str × Nat) := ([(2, "BEFORE_WITH", 1), (4, "BINARY_SLICE", 1), (5, "BINARY_SUBSCR", 2), (7, "CHECK_EXC_MATCH", 1), (8, "CLEANUP_THROW", 1), (9, "DELETE_SUBSCR", 1), (11, "END_FOR", 1), (12, "END_SEND", 1), (19, "GET_ITER", 1), (21, "GET_YIELD_FROM_ITER", 1), (23, "LOAD_ASSERTION_ERROR", 1), (24, "LOAD_BUILD_CLASS", 1), (25, "LOAD_LOCALS", 1), (26, "MAKE_FUNCTION", 1), (30, "NOP", 1), (31, "POP_EXCEPT", 1), (32, "POP_TOP", 1), (33, "PUSH_EXC_INFO", 1), (34, "PUSH_NULL", 1), (35, "RETURN_GENERATOR", 1)] : List (Nat × Str × Nat)) ++ ([(36, "RETURN_VALUE", 1), (38, "STORE_SLICE", 1), (39, "STORE_SUBSCR", 2), (40, "TO_BOOL", 4), (41, "UNARY_INVERT", 1), (42, "UNARY_NEGATIVE", 1), (43, "UNARY_NOT", 1), (44, "WITH_EXCEPT_START", 1), (45, "BINARY_OP", 2), (46, "BUILD_CONST_KEY_MAP", 1), (47, "BUILD_LIST", 1), (48, "BUILD_MAP", 1), (52, "BUILD_TUPLE", 1), (53, "CALL", 4), (54, "CALL_FUNCTION_EX", 1), (55, "CALL_INTRINSIC_1", 1), (57, "CALL_KW", 1), (58, "COMPARE_OP", 2), (59, "CONTAINS_OP", 2), (61, "COPY", 1)] : List (Nat × Str × Nat)) ++ ([(62, "COPY_FREE_VARS", 1), (63, "DELETE_ATTR", 1), (64, "DELETE_DEREF", 1), (65, "DELETE_FAST", 1), (66, "DELETE_GLOBAL", 1), (67, "DELETE_NAME", 1), (68, "DICT_MERGE", 1), (72, "FOR_ITER", 2), (76, "IS_OP", 1), (77, "JUMP_BACKWARD", 2), (78, "JUMP_BACKWARD_NO_INTERRUPT", 1), (79, "JUMP_FORWARD", 1), (80, "LIST_APPEND", 1), (81, "LIST_EXTEND", 1), (82, "LOAD_ATTR", 10), (83, "LOAD_CONST", 1), (84, "LOAD_DEREF", 1), (85, "LOAD_FAST", 1), (87, "LOAD_FAST_CHECK", 1), (88, "LOAD_FAST_LOAD_FAST", 1)] : List (Nat × Str × Nat)) ++ ([(89, "LOAD_FROM_DICT_OR_DEREF", 1), (91, "LOAD_GLOBAL", 5), (92, "LOAD_NAME", 1), (94, "MAKE_CELL", 1), (95, "MAP_ADD", 1), (97, "POP_JUMP_IF_FALSE", 2), (98, "POP_JUMP_IF_NONE", 2), (99, "POP_JUMP_IF_NOT_NONE", 2), (100, "POP_JUMP_IF_TRUE", 2), (101, "RAISE_VARARGS", 1), (102, "RERAISE", 1), (103, "RETURN_CONST", 1), (104, "SEND", 2), (106, "SET_FUNCTION_ATTRIBUTE", 1), (108, "STORE_ATTR", 5), (109, "STORE_DEREF", 1), (110, "STORE_FAST", 1), (111, "STORE_FAST_LOAD_FAST", 1), (112, "STORE_FAST_STORE_FAST", 1), (113, "STORE_GLOBAL", 1)] : List (Nat × Str × Nat)) ++ ([(114, "STORE_NAME", 1), (115, "SWAP", 1), (116, "UNPACK_EX", 1), (117, "UNPACK_SEQUENCE", 2), (118, "YIELD_VALUE", 1), (149, "RESUME", 1)] : List (Nat × Str × Nat))
def KIL : List (Str × Nat) := ([("BINARY_OP", 8), ("CALL_INTRINSIC_1", 11), ("COMPARE_OP", 9), ("CONTAINS_OP", 10), ("DELETE_ATTR", 3), ("DELETE_DEREF", 6), ("DELETE_FAST", 6), ("DELETE_GLOBAL", 3), ("DELETE_NAME", 3), ("FOR_ITER", 1), ("IS_OP", 10), ("JUMP_BACKWARD", 1), ("JUMP_BACKWARD_NO_INTERRUPT", 1), ("JUMP_FORWARD", 1), ("LOAD_ATTR", 4), ("LOAD_CONST", 2), ("LOAD_DEREF", 6), ("LOAD_FAST", 6), ("LOAD_FAST_CHECK", 6), ("LOAD_FAST_LOAD_FAST", 7)] : List (Str × Nat)) ++ ([("LOAD_FROM_DICT_OR_DEREF", 6), ("LOAD_GLOBAL", 5), ("LOAD_NAME", 3), ("MAKE_CELL", 6), ("POP_JUMP_IF_FALSE", 1), ("POP_JUMP_IF_NONE", 1), ("POP_JUMP_IF_NOT_NONE", 1), ("POP_JUMP_IF_TRUE", 1), ("RETURN_CONST", 2), ("SEND", 1), ("SET_FUNCTION_ATTRIBUTE", 12), ("STORE_ATTR", 3), ("STORE_DEREF", 6), ("STORE_FAST", 6), ("STORE_FAST_LOAD_FAST", 7), ("STORE_FAST_STORE_FAST", 7), ("STORE_GLOBAL", 3), ("STORE_NAME", 3)] : List (Str × Nat))
def wdF : WD := fun n => (WDL.find? fun p => decide (p.1 = n)).map (·.2)
def wordsL : List Str := WDL.map (·.2.1)
def kiF (z : Str) : Nat := ((KIL.find? fun p => decide (p.1 = z)).map (·.2)).getD 0
theorem wd_fact : WDL.all (fun p => decide (1 ≤ p.2.2 ∧ p.2.2 ≤ 10) && (decide (p.1 < 45) → kiF p.2.1 == 0)) = true := by decide +kernel
theorem wdF_mem {n : Nat} {w : Str} {u : Nat} (h : wdF n = some (w, u)) : (n, w, u) ∈ WDL := by
  unfold wdF at h
  cases e : WDL.find? fun p => decide (p.1 = n) with
  | none => rw [e] at h; cases h
  | some p =>
    rw [e] at h
    have h1 : p.1 = n := of_decide_eq_true (List.find?_some (p := fun p : Nat × Str × Nat => decide (p.1 = n)) e)
    have h2 : p.2 = (w, u) := Option.some.inj h
    rw [← h1, ← h2]
    exact List.mem_of_find?_eq_some e
theorem wd_hu : ∀ n w u, wdF n = some (w, u) → 1 ≤ u ∧ w ∈ wordsL := fun n w u h => by
  have m := wdF_mem h
  have := List.all_eq_true.mp wd_fact _ m
  simp only [Bool.and_eq_true, decide_eq_true_eq] at this
  exact ⟨this.1.1, List.mem_map_of_mem (f := fun p : Nat × Str × Nat => p.2.1) m⟩
theorem wd_45 : ∀ n w u, wdF n = some (w, u) → n < 45 → kiF w = 0 := fun n w u h lt => by
  have m := wdF_mem h
  have := List.all_eq_true.mp wd_fact _ m
  simp only [Bool.and_eq_true, decide_eq_true_eq] at this
  exact eq_of_beq (this.2 lt)
theorem wd_71 : wdF 71 = none := by decide +kernel
/-! ### bytes behind each other -/
def exb (es : List Nat) : List Nat := (es.map fun x => [71, x]).flatten
theorem exb_len (es : List Nat) : (exb es).length = 2 * es.length := by
  induction es with
  | nil => rfl
  | cons x es ih =>
    show ([71, x] ++ exb es).length = _
    rw [List.length_append, ih, List.length_cons, List.length_cons, List.length_cons, List.length_nil]
    omega
def foldE (es : List Nat) (a : Nat) : Nat := es.foldl (fun a x => (a + x) * 256) a
theorem getD_pre (pre l : List Nat) (i : Nat) : (pre ++ l).getD (pre.length + i) 0 = l.getD i 0 := by
  simp [List.getD_eq_getElem?_getD, List.getElem?_append_right]
theorem extF_stop {all : List Nat} {i a : Nat} (h : ¬ (i + 1 < all.length ∧ all.getD i 0 = 71)) : ∀ n, extF all n i a = (i, a)
  | 0 => rfl
  | n + 1 => by rw [extF, if_neg h]
theorem ext_all {tl : List Nat} (ht : ¬ (2 ≤ tl.length ∧ tl.getD 0 0 = 71)) : ∀ (es pre : List Nat) (n a : Nat), es.length ≤ n → extF (pre ++ (exb es ++ tl)) n pre.length a = (pre.length + 2 * es.length, foldE es a)
  | [], pre, n, a, h => by
    show extF (pre ++ tl) n pre.length a = (pre.length, a)
    refine extF_stop (fun q => ht ?_) n
    obtain ⟨q1, q2⟩ := q
    rw [List.length_append] at q1
    have := getD_pre pre tl 0
    rw [Nat.add_zero, q2] at this
    exact ⟨by omega, this.symm⟩
  | x :: es, pre, 0, a, h => absurd h (Nat.not_succ_le_zero _)
  | x :: es, pre, n + 1, a, h => by
    have e : pre ++ (exb (x :: es) ++ tl) = (pre ++ [71, x]) ++ (exb es ++ tl) := by
      show pre ++ (([71, x] ++ exb es) ++ tl) = _
      simp [List.append_assoc]
    have g0 : (pre ++ (exb (x :: es) ++ tl)).getD pre.length 0 = 71 := getD_pre pre _ 0
    have g1 : (pre ++ (exb (x :: es) ++ tl)).getD (pre.length + 1) 0 = x := getD_pre pre _ 1
    have l2 : pre.length + 1 < (pre ++ (exb (x :: es) ++ tl)).length := by
      rw [List.length_append, List.length_append, exb_len, List.length_cons]
      omega
    rw [extF, if_pos ⟨l2, g0⟩, g1, e]
    have := ext_all ht es (pre ++ [71, x]) n ((a + x) * 256) (by rw [List.length_cons] at h; omega)
    rw [List.length_append, show ([71, x] : List Nat).length = 2 from rfl] at this
    rw [this, List.length_cons]
    refine Prod.ext ?_ rfl
    show pre.length + 2 + 2 * es.length = pre.length + 2 * (es.length + 1)
    omega
/-- what is told of the piece at the begin: es extend it, tl follows -/
def nx (es tl : List Nat) (b : Nat) : Option (Str × Nat × Nat) :=
  if (es ≠ [] ∧ (3 < es.length ∨ es.getD 0 0 = 0 ∨ tl = [])) then none
  else match wdF (tl.getD 0 0) with
    | none => none
    | some (w, u) => if tl.length < 2 * u ∨ (1 < u ∧ nz ((tl.drop 2).take (2 * u - 2)) = true) then none else some (w, foldE es 0 + tl.getD 1 0, b + 2 * es.length + 2 * u)
theorem nextF_nx {pre es tl : List Nat} (ht : ¬ (2 ≤ tl.length ∧ tl.getD 0 0 = 71)) : nextF wdF (pre ++ (exb es ++ tl)) pre.length = nx es tl pre.length := by
  have ff : firstF wdF (pre ++ (exb es ++ tl)) pre.length = (pre.length + 2 * es.length, foldE es 0) := by
    unfold firstF
    cases es with
    | nil =>
      split
      · rfl
      · exact ext_all ht [] pre _ 0 (Nat.zero_le _)
    | cons x es =>
      have g0 : (pre ++ (exb (x :: es) ++ tl)).getD pre.length 0 = 71 := getD_pre pre _ 0
      rw [g0, wd_71, if_neg (by decide)]
      refine ext_all ht (x :: es) pre _ 0 ?_
      rw [List.length_append, List.length_append, exb_len]
      omega
  have gt : ∀ i, (pre ++ (exb es ++ tl)).getD (pre.length + 2 * es.length + i) 0 = tl.getD i 0 := fun i => by
    have := getD_pre (pre ++ exb es) tl i
    rw [List.length_append, exb_len, List.append_assoc] at this
    exact this
  have dr : (pre ++ (exb es ++ tl)).drop (pre.length + 2 * es.length + 2) = tl.drop 2 := by
    have e : pre ++ (exb es ++ tl) = (pre ++ exb es) ++ tl := (List.append_assoc _ _ _).symm
    have l : pre.length + 2 * es.length = (pre ++ exb es).length := by rw [List.length_append, exb_len]
    rw [e, l, List.drop_append]
    simp
  have ln : (pre ++ (exb es ++ tl)).length = pre.length + 2 * es.length + tl.length := by
    rw [List.length_append, List.length_append, exb_len]
    omega
  rw [nextF_eq, ff]
  dsimp only
  have g0 := gt 0
  rw [Nat.add_zero] at g0
  rw [g0, gt 1, dr, ln]
  unfold nx
  cases es with
  | nil =>
    have g00 : (pre ++ (exb [] ++ tl)).getD pre.length 0 = tl.getD 0 0 := g0
    rw [g00]
    rw [if_neg (show ¬ (([] : List Nat) ≠ [] ∧ _) from fun q => q.1 rfl)]
    cases e : wdF (tl.getD 0 0) with
    | none =>
      rw [if_pos ⟨rfl, .inl (by simp)⟩]
    | some p =>
      obtain ⟨w, u⟩ := p
      rw [if_neg (by simp)]
      dsimp only
      have : (pre.length + 2 * ([] : List Nat).length + tl.length < pre.length + 2 * ([] : List Nat).length + 2 * u) = (tl.length < 2 * u) := propext (by omega)
      simp only [this]
  | cons x es =>
    have g00 : (pre ++ (exb (x :: es) ++ tl)).getD pre.length 0 = 71 := getD_pre pre _ 0
    have g01 : (pre ++ (exb (x :: es) ++ tl)).getD (pre.length + 1) 0 = x := getD_pre pre _ 1
    rw [g00, g01, wd_71]
    have c1 : ((none : Option (Str × Nat)).isNone = true ∧ (¬ (pre.length < pre.length + 2 * (x :: es).length ∧ pre.length + 2 * (x :: es).length ≤ pre.length + 6) ∨ x = 0 ∨ pre.length + 2 * (x :: es).length + tl.length ≤ pre.length + 2 * (x :: es).length)) ↔ ((x :: es) ≠ [] ∧ (3 < (x :: es).length ∨ (x :: es).getD 0 0 = 0 ∨ tl = [])) := by
      have t0 : tl = [] ↔ tl.length = 0 := List.length_eq_zero_iff.symm
      rw [t0]
      simp only [List.length_cons, Option.isNone_none, true_and, ne_eq, reduceCtorEq, not_false_eq_true, List.getD_cons_zero]
      constructor
      · rintro (q | q | q)
        · exact .inl (by omega)
        · exact .inr (.inl q)
        · exact .inr (.inr (by omega))
      · rintro (q | q | q)
        · exact .inl (by omega)
        · exact .inr (.inl q)
        · exact .inr (.inr (by omega))
    by_cases c : ((x :: es) ≠ [] ∧ (3 < (x :: es).length ∨ (x :: es).getD 0 0 = 0 ∨ tl = []))
    · rw [if_pos c, if_pos (c1.mpr c)]
    · rw [if_neg c, if_neg (fun z => c (c1.mp z))]
      cases e : wdF (tl.getD 0 0) with
      | none => rfl
      | some p =>
        obtain ⟨w, u⟩ := p
        dsimp only
        have : (pre.length + 2 * (x :: es).length + tl.length < pre.length + 2 * (x :: es).length + 2 * u) = (tl.length < 2 * u) := propext (by omega)
        simp only [this]
end C57

set_option maxHeartbeats 1000000
namespace C57
open PySem PySem.Spec PyProof.Rows L2 StrLaws
/-! ### what a word's argument means -/
def BKL : List Str := (["JUMP_BACKWARD", "JUMP_BACKWARD_NO_INTERRUPT"] : List Str)
def bkB (z : Str) : Bool := BKL.any fun y => y == z
def tgt (z : Str) (n e : Nat) : Int := if bkB z = true then (e : Int) - 2 * (n : Int) else (e : Int) + 2 * (n : Int)
def toT (i : Int) : Str := Str.empty ++ Str.ofString "to " ++ Str.ofString (toString i)
def mOf (k : Nat) (T : Tb) : Nat → Option Str := match k with
  | 2 => mConst T
  | 3 => mName T
  | 4 => mAttr sufA T
  | 5 => mAttr sufG T
  | 6 => mLoc T
  | 7 => mPair T
  | 8 => mText OPL
  | 9 => mCmp
  | 10 => mOpp
  | 11 => mText INL
  | 12 => mText ATL
  | _ => fun _ => none
def meanF (T : Tb) (z : Str) (n e : Nat) : Option Str := if kiF z = 0 then some "" else if kiF z = 1 then some (toT (tgt z n e)) else mOf (kiF z) T n
def spOfE (K : PySem.W.Frag) (CC : Addr) (mean : Tb → Nat → Option Str) : Sp := fun vs H Q E => ∃ T, spOfG K CC T (mean T) vs H Q E
/-- a table with text keys, asked for these words alone -/
structure SetX (K : PySem.W.Frag) (w : World) (mg : Str → Option Value) (x : Str) (D : Addr) (ws : List Str) (f : Str → Bool) : Prop where
  kd : ∃ es n, KDict K w D es n
  g : mg x = some (.ref D)
  ok : ∀ z ∈ ws, ∃ r, PySem.W.nsIn K D z = some r ∧ r.isSome = f z
structure MeanX (K : PySem.W.Frag) (w : World) (mg : Str → Option Value) (CC : Addr) (DL DM : Addr) (S : Addr → Option Sp) : Prop where
  l : SetX K w mg "LEADING" DL wordsL fun z => decide (kiF z = 1)
  km : ∃ es n, KDict K w DM es n
  gm : mg "MEANINGS" = some (.ref DM)
  no : ∀ z ∈ wordsL, kiF z = 0 → PySem.W.nsIn K DM z = some none
  fn : ∀ z ∈ wordsL, 2 ≤ kiF z → ∃ f, PySem.W.nsIn K DM z = some (some (.ref f)) ∧ S f = some (spOfE K CC (mOf (kiF z)))
theorem pe_never {X : Cx} {e : Expr} : PE X e (fun _ _ _ => False) := ⟨fun pins s σ H Q I h => (show False from h).elim⟩
def rInT (K : PySem.W.Frag) (D : Addr) : R2 := fun x y H Q => ∃ (z : Str) (r : Option Value), x = .str z ∧ y = .ref D ∧ PySem.W.nsIn K D z = some r ∧ Q (.bl r.isSome) H
theorem op_inT {X : Cx} {D : Addr} (h : ∃ es n, KDict X.K X.w D es n) : OpR X (compareOp .In) (rInT X.K D) := by
  obtain ⟨es, n, h⟩ := h
  exact op_in_kd h
theorem r_inT {K : PySem.W.Frag} {D : Addr} {x y : V} {H : Hp} {Q : VK} : rInT K D x y H Q = ∃ (z : Str) (r : Option Value), x = .str z ∧ y = .ref D ∧ PySem.W.nsIn K D z = some r ∧ Q (.bl r.isSome) H := rfl
def rNiT (K : PySem.W.Frag) (D : Addr) : R2 := fun x y H Q => ∃ (z : Str) (r : Option Value), x = .str z ∧ y = .ref D ∧ PySem.W.nsIn K D z = some r ∧ Q (.bl (!r.isSome)) H
theorem op_niT {X : Cx} {D : Addr} (h : ∃ es n, KDict X.K X.w D es n) : OpR X (compareOp .NotIn) (rNiT X.K D) := by
  obtain ⟨es, n, h⟩ := h
  exact op_notIn_kd h
theorem r_niT {K : PySem.W.Frag} {D : Addr} {x y : V} {H : Hp} {Q : VK} : rNiT K D x y H Q = ∃ (z : Str) (r : Option Value), x = .str z ∧ y = .ref D ∧ PySem.W.nsIn K D z = some r ∧ Q (.bl (!r.isSome)) H := rfl
theorem text_short {i : Int} (h : i.natAbs < 2 ^ 1000) : (Str.ofString (toString i)).length ≤ 303 := by
  have e := PySem.int_text_length_le10 (a := i) (k := 302) (by decide) (Nat.lt_trans h (by decide +kernel))
  rw [PySem.ofString_length]
  omega
def spTarget : Sp := fun vs H Q _ => ∃ (z : Str) (n e : Nat), vs = [.str z, .int (n : Int), .int (e : Int)] ∧ z ∈ wordsL ∧ Q (.int (tgt z n e)) H
def spMeanG (K : PySem.W.Frag) (CC : Addr) : Sp := fun vs H Q _ => ∃ (c : Addr) (all ls : List Nat) (T : Tb) (z : Str) (n e : Nat) (t : Str), vs = [.ref c, .str z, .int (n : Int), .int (e : Int)] ∧ z ∈ wordsL ∧ CodeG K CC H c all ls T ∧ 2 * n + e < 2 ^ 1000 ∧ meanF T z n e = some t ∧ ∀ H', Same H H' → Q (.str t) H'
section
variable {P : Program} {w : World} {K : PySem.W.Frag} {mg : Str → Option Value} {base : Heap} {f : Addr} {fd : FuncData}
abbrev starget_of : Stmt := top 30
theorem sctarget_of : FnScope ["word", "argument", "end"] ["word", "argument", "end"] (defScope starget_of) := ⟨rfl, rfl, rfl, by decide +kernel, rfl, by decide +kernel, by decide +kernel⟩

abbrev smeaning_of : Stmt := top 61
theorem scmeaning_of : FnScope ["code", "word", "argument", "end", "tell", "meaning"] ["code", "word", "argument", "end"] (defScope smeaning_of) := ⟨rfl, rfl, rfl, by decide +kernel, rfl, by decide +kernel, by decide +kernel⟩

theorem ok_target_of {D : Addr} (T : Txt mg) (TB : SetX K w mg "BACKWARD" D wordsL bkB) (F : FnP K "target_of" "target_of" starget_of f fd) : FnOk P w K mg base CX0 1 f fd ["word", "argument", "end"] spTarget := by
  refine F.ok sctarget_of (fun vs H Q E h => ?_) (fun cdv A outer s H vs Q E hr h => ?_)
  · obtain ⟨z, n, e, rfl, _⟩ := h
    rfl
  · obtain ⟨z, n, e, rfl, hz, k⟩ := h
    obtain ⟨r, er, rb⟩ := TB.ok z hz
    refine ⟨_, PSs.nox (pss_one (ps_ret (pe_ifExp (pt_cmpR (op_inT TB.kd) (pv 0) (pe_ref TB.g) (by rfl)) (pe_op op_sub (pv 2) (pe_op op_mul pe_int (pv 1))) (pe_op op_add (pv 2) (pe_op op_mul pe_int (pv 1)))))), ?_⟩
    show (_ : TS) _ [some (.str z), some (.int (n : Int)), some (.int (e : Int))] H
    have c2 : CMul 2 (n : Int) := .inl (by decide)
    simp only [r_seq, r_next, r_brk, r_cont, r_asg, r_name, r_ret, r_retN, r_drop, r_ifs, r_never, r_var, r_c, r_op, r_un, r_if, r_tst, r_b, r_not, r_and, r_or, r_andV, r_orV, r_notV, r_nil, r_cons, r_tup, r_lst, r_cb, r_call, r_bm, r_bm0, r_sl, r_nopart, r_part, r_rev, r_gnil, r_gcons, r_gsub, r_par, r_aug, r_chain, r_I0, r_I, r_U, r_ixd, r_lend, r_tupd, r_listd, r_sld, r_app, r_ext, r_reverse, r_setl, r_cat, r_int1, r_eqS, r_neS, scal_ii, scal_bb, scal_ss, at0, at1, at2, sq_lst, sq_tup, isLst_lst, List.getElem?_cons_zero, List.getElem?_cons_succ, List.set_cons_zero, List.set_cons_succ, V.int.injEq, V.bl.injEq, V.ref.injEq, V.str.injEq, HO.lst.injEq, HO.tup.injEq, Option.some.injEq, exists_eq_left', exists_eq_left, List.cons.injEq, and_true, true_and, decide_eq_true_eq, reduceCtorEq, false_and, exists_false, or_false, false_or, exists_const, and_assoc, exists_and_left, List.append_nil, ix0, ix1, ix2, cm_mod, cdw1009, cdw2003, cdw7, cdw64, cdw2, cm104729, cm2, cm3, upd_same, List.length_cons, List.length_nil, Int.reduceLT, Int.reduceLE, Nat.reduceAdd, Nat.reduceLeDiff, Nat.reduceLT, Int.reduceToNat, r_for1, r_forL, r_forT, r_lcL, r_lc1, r_yes, r_gtupD, wipe_0, wipe_1, List.cons_append, List.nil_append, r_forS, r_ipI, ite_false, ite_true, Bool.not_true, Bool.not_false, decide_true, decide_false, r_isd, r_islt, cD_ty, cD_ref, tD_non, tD_bl, tD_int, tD_str, tD_ref, tH_lst, tH_tup, tH_dK, tH_ins, ki_self, ki_int_bool, ki_non_int, ki_str_int, ki_lt_lst, ki_lt_tup, r_fld, r_sfld, HO.ins.injEq, cx_K, r_inT, c2]
    refine ⟨r, er, ?_⟩
    unfold tgt at k
    rw [rb]
    by_cases c : bkB z = true
    · rw [if_pos c] at k ⊢
      exact k
    · rw [if_neg c] at k ⊢
      exact k
theorem ok_meaning_of {CC CN DL DM : Addr} {S : Addr → Option Sp} (T : Txt mg) (M : MeanX K w mg CC DL DM S) (hS : ∀ f sp, S f = some sp → HeldG P w K mg base 2 f sp) (X_NoCode : Exn P w K mg base "NoCode" CN "field")
    (F : FnP K "meaning_of" "meaning_of" smeaning_of f fd) (C_target_of : Cal P w K mg base 1 "target_of" ["word", "argument", "end"] spTarget) : FnG P w K mg base (CX P w) 3 f fd ["code", "word", "argument", "end"] (spMeanG K CC) := by
  refine okG F scmeaning_of (fun vs H Q E h => ?_) (fun cdv A outer s H vs Q E gd hr h => ?_)
  · obtain ⟨c, all, ls, Tt, z, n, e, t, rfl, _⟩ := h
    rfl
  · refine ⟨_, (pss_cons (ps_if (pt_cmpR (op_inT M.l.kd) (pv 1) (pe_ref M.l.g) (by rfl))
    (pss_one (ps_ret (pe_joined (.cons pe_str (.cons (pe_fmt (pe_cal C_target_of (hr.mono (by decide)) rfl (pa_cons (pv 1) (pa_cons (pv 2) (pa_cons (pv 3) pa_nil))))) .nil)))))
    pss_nil)
  (pss_cons (ps_if (pt_cmpR (op_niT M.km) (pv 1) (pe_ref M.gm) (by rfl))
    (pss_one (ps_ret pe_str))
    pss_nil)
  (pss_cons (ps_set (i := 4) scmeaning_of.nd rfl (Or.inl rfl) (pe_ix ix_kdict (pe_ref M.gm) (pv 1) (fun _ _ => rfl)))
  (pss_cons (ps_set (i := 5) scmeaning_of.nd rfl (Or.inl rfl) (pe_callAG hS gd (hr.mono (by decide)) (i := 4) rfl (Or.inl rfl) (pa_cons (pv 0) (pa_cons (pv 2) pa_nil))))
  (pss_cons (ps_if (pt_cmpR op_isN (pv 5) pe_non (nomark _))
    (pss_one (ps_raise rfl (takes_of rfl rfl rfl rfl) (pmk_x X_NoCode (hr.mono (by decide)) rfl pe_str)))
    pss_nil)
  (pss_one (ps_ret (pv 5)))))))), ?_⟩
    obtain ⟨c, all, ls, Tt, z, n, e, t, rfl, hz, hc, hb, hm, k⟩ := h
    show (_ : TS) _ [some (.ref c), some (.str z), some (.int (n : Int)), some (.int (e : Int)), none, none] H
    simp only [r_seq, r_next, r_brk, r_cont, r_asg, r_name, r_ret, r_retN, r_drop, r_ifs, r_never, r_var, r_c, r_op, r_un, r_if, r_tst, r_b, r_not, r_and, r_or, r_andV, r_orV, r_notV, r_nil, r_cons, r_tup, r_lst, r_cb, r_call, r_bm, r_bm0, r_sl, r_nopart, r_part, r_rev, r_gnil, r_gcons, r_gsub, r_par, r_aug, r_chain, r_I0, r_I, r_U, r_ixd, r_lend, r_tupd, r_listd, r_sld, r_app, r_ext, r_reverse, r_setl, r_cat, r_int1, r_eqS, r_neS, scal_ii, scal_bb, scal_ss, at0, at1, at2, sq_lst, sq_tup, isLst_lst, List.getElem?_cons_zero, List.getElem?_cons_succ, List.set_cons_zero, List.set_cons_succ, V.int.injEq, V.bl.injEq, V.ref.injEq, V.str.injEq, HO.lst.injEq, HO.tup.injEq, Option.some.injEq, exists_eq_left', exists_eq_left, List.cons.injEq, and_true, true_and, decide_eq_true_eq, reduceCtorEq, false_and, exists_false, or_false, false_or, exists_const, and_assoc, exists_and_left, List.append_nil, ix0, ix1, ix2, cm_mod, cdw1009, cdw2003, cdw7, cdw64, cdw2, cm104729, cm2, cm3, upd_same, List.length_cons, List.length_nil, Int.reduceLT, Int.reduceLE, Nat.reduceAdd, Nat.reduceLeDiff, Nat.reduceLT, Int.reduceToNat, r_for1, r_forL, r_forT, r_lcL, r_lc1, r_yes, r_gtupD, wipe_0, wipe_1, List.cons_append, List.nil_append, r_forS, r_ipI, ite_false, ite_true, Bool.not_true, Bool.not_false, decide_true, decide_false, r_isd, r_islt, cD_ty, cD_ref, tD_non, tD_bl, tD_int, tD_str, tD_ref, tH_lst, tH_tup, tH_dK, tH_ins, ki_self, ki_int_bool, ki_non_int, ki_str_int, ki_lt_lst, ki_lt_tup, r_fld, r_sfld, HO.ins.injEq, cx_K, r_inT, r_niT, r_fmt, tJs]
    obtain ⟨r, er, rl⟩ := M.l.ok z hz
    refine ⟨r, er, ?_⟩
    unfold meanF at hm
    by_cases k1 : kiF z = 1
    · rw [if_neg (by omega), if_pos k1] at hm
      cases hm
      rw [if_pos (by rw [rl, k1]; rfl)]
      have a1 : (Str.empty ++ Str.ofString "to ").length = 3 := by rw [strLen_append]; rfl
      have hi : (tgt z n e).natAbs < 2 ^ 1000 := by
        refine Nat.lt_of_le_of_lt ?_ hb
        unfold tgt
        split <;> omega
      have ts := text_short hi
      refine ⟨bigS (by omega), z, n, e, rfl, hz, .inr ⟨tgt z n e, rfl, ?_, ?_, ?_⟩⟩
      · rcases Nat.eq_zero_or_pos (tgt z n e).natAbs with q | q
        · rw [q]
          decide
        · exact (Nat.log2_lt (by omega)).mpr (Nat.lt_trans hi (by decide +kernel))
      · exact bigS (by rw [strLen_append, a1]; omega)
      · exact k H (Same.refl H)
    · rw [if_neg (by rw [rl]; simp [k1])]
      by_cases k0 : kiF z = 0
      · rw [if_pos k0] at hm
        cases hm
        refine ⟨none, M.no z hz k0, ?_⟩
        rw [if_pos (by rfl)]
        exact k H (Same.refl H)
      · rw [if_neg k0, if_neg k1] at hm
        obtain ⟨f', ef, eS⟩ := M.fn z hz (by omega)
        obtain ⟨es, n', D⟩ := M.km
        refine ⟨some (.ref f'), ef, ?_⟩
        rw [if_neg (by simp)]
        refine ⟨DM, z, .ref f', rfl, rfl, ⟨es, n', .ref f', D.at_, D.lit, ef, rfl⟩, f', _, rfl, eS, _, rfl, _, rfl, Tt, c, all, ls, n, t, rfl, hc, hm, fun H1 s1 => ?_⟩
        dsimp only
        rw [if_neg (show ¬ (V.str t = V.non) from nofun)]
        exact k H1 s1
end
end C57

set_option maxHeartbeats 1000000
namespace C57
open PySem PySem.Spec PyProof.Rows L2
/-! ### the line of each unit, where the table tells it -/
def spBad7 (CC CT : Addr) : Sp := fun vs H Q E => ∃ (c dx : Addr) (fs : List (Str × V)) (t : Addr) (first : Int), vs = [.ref c] ∧ H c = some (.ins CC dx fs) ∧ fs.lookup ("lines" : Str) = some (.ref t) ∧ fs.lookup ("line" : Str) = some (.int first) ∧ H t = some (.tup (vn [7])) ∧
  ∀ d H', H d = none → Same H H' → H' d = some (.xd [("at", .int 0)]) → E (.ref CT) (some d) H'
def spU (CC CT : Addr) : Sp := fun vs H Q E => spUnits CC vs H Q E ∨ spBad7 CC CT vs H Q E
def TabU (ls : List Nat) (us : List (Option Int)) : Prop := (∃ es, ls = entsB es ∧ es.length ≤ 10000 ∧ (∀ e ∈ es, EntOk e) ∧ us = unitsL es 3) ∨ (ls = [7] ∧ us = [])
def linesV (us : List (Option Int)) (m : Nat) : List V := lvs us ++ List.replicate (m - us.length) V.non
def spLinesOf (CC : Addr) : Sp := fun vs H Q _ => ∃ (c dx : Addr) (fs : List (Str × V)) (t u : Addr) (all ls : List Nat) (us : List (Option Int)), vs = [.ref c] ∧ H c = some (.ins CC dx fs) ∧ fs.lookup ("lines" : Str) = some (.ref t) ∧ fs.lookup ("line" : Str) = some (.int 3) ∧ H t = some (.tup (vn ls)) ∧
  fs.lookup ("code" : Str) = some (.ref u) ∧ H u = some (.tup (vn all)) ∧ all.length ≤ 4000 ∧ TabU ls us ∧ ∀ F H', H F = none → Same H H' → H' F = some (.lst (linesV us (all.length / 2))) → Q (.ref F) H'
theorem FnOk.lift {P : Program} {w : World} {K : PySem.W.Frag} {mg : Str → Option Value} {base : Heap} {k : Nat} {f : Addr} {fd : FuncData} {ps : List Str} {sp : Sp} (F : FnOk P w K mg base CX0 k f fd ps sp) : FnOk P w K mg base (L2.CX P w) k f fd ps sp :=
  ⟨F.len, fun A outer s H as us vs Q E hr e b v h => codeAny_mono (F.run A outer s H as us vs Q E hr e b v h) fun r s2 hq => by
    match r, hq with
    | .error x, hq => exact (show False from hq).elim
    | .ok (.ret u), hq => exact hq
    | .ok .next, hq => exact hq
    | .ok .brk, hq => exact hq
    | .ok .cont, hq => exact hq⟩
theorem FnOk.or {P : Program} {w : World} {K : PySem.W.Frag} {mg : Str → Option Value} {base : Heap} {CX : CXT} {k : Nat} {f : Addr} {fd : FuncData} {ps : List Str} {sp sp' : Sp} (F : FnOk P w K mg base CX k f fd ps sp) (G : FnOk P w K mg base CX k f fd ps sp') : FnOk P w K mg base CX k f fd ps (fun vs H Q E => sp vs H Q E ∨ sp' vs H Q E) :=
  ⟨fun vs H Q E h => h.elim (F.len vs H Q E) (G.len vs H Q E), fun A outer s H as us vs Q E hr e b v h => h.elim (F.run A outer s H as us vs Q E hr e b v) (G.run A outer s H as us vs Q E hr e b v)⟩
section
variable {P : Program} {w : World} {K : PySem.W.Frag} {mg : Str → Option Value} {base : Heap} {f : Addr} {fd : FuncData}
abbrev slines_of : Stmt := top 60
theorem sclines_of : FnScope ["code", "found"] ["code"] (defScope slines_of) := ⟨rfl, rfl, rfl, by decide +kernel, rfl, by decide +kernel, by decide +kernel⟩

theorem ok_bad7 {CC CT : Addr} (T : Txt mg) (I : CodeT K mg CC) (X_NoTable : Exn P w K mg base "NoTable" CT "at") (F : FnP K "lines_of_units" "lines_of_units" slines_of_units f fd) : FnOk P w K mg base (CX P w) 3 f fd ["code"] (spBad7 CC CT) := by
  refine F.ok sclines_of_units (fun vs H Q E h => ?_) (fun cdv A outer s H vs Q E hr h => ?_)
  · obtain ⟨c, dx, fs, t, first, rfl, _⟩ := h
    rfl
  · refine ⟨_, (pss_cons (ps_set (i := 1) sclines_of_units.nd rfl (Or.inl rfl) (pe_fld (pv 0) rfl))
  (pss_cons (ps_set (i := 2) sclines_of_units.nd rfl (Or.inl rfl) (pe_fld (pv 0) rfl))
  (pss_cons (ps_set (i := 3) sclines_of_units.nd rfl (Or.inl rfl) (pe_lst pa_nil))
  (pss_cons (ps_set (i := 4) sclines_of_units.nd rfl (Or.inl rfl) pe_int)
  (pss_cons (ps_while (passes_of rfl) (pt_cmpR op_lt (pv 4) (pe_callB call_len_d (by rfl) T.b_len (by decide +kernel) (pa_cons (pv 1) pa_nil)) (nomark _))
    (pss_cons (ps_set (i := 5) sclines_of_units.nd rfl (Or.inl rfl) (pe_ix ix_d (pv 1) (pv 4) (fun _ _ => rfl)))
  (pss_cons (ps_aug (i := 4) sclines_of_units.nd rfl (.inl rfl) pe_int ip_add)
  (pss_cons (ps_if (pt_cmpR op_ge (pv 5) (pe_gi T.g_WITHOUT_LINE) (nomark _))
    (pss_cons ps_never
  (pss_one ps_continue))
    pss_nil)
  (pss_cons (ps_if (pt_not (pt_chain op_le op_lt (pe_gi T.g_WITH_LINE) (pv 5) (pe_op op_add (pe_gi T.g_WITH_LINE) (pe_gi T.g_MOST_UNITS))))
    (pss_one (ps_raise rfl (takes_of rfl rfl rfl rfl) (pmk_x X_NoTable (hr.mono (by decide)) rfl (pe_op op_sub (pv 4) pe_int))))
    pss_nil)
  pss_never)))))
  (pss_one (ps_ret (pv 3)))))))), ?_⟩
    obtain ⟨c, dx, fs, t, first, rfl, hc, hl, hf, ht, k⟩ := h
    show (_ : TS) _ [some (.ref c), none, none, none, none, none, none] H
    have na := I.na "lines" (by decide)
    have nb := I.na "line" (by decide)
    have cl := I.cI.cl
    simp only [r_seq, r_next, r_brk, r_cont, r_asg, r_name, r_ret, r_retN, r_drop, r_ifs, r_never, r_var, r_c, r_op, r_un, r_if, r_tst, r_b, r_not, r_and, r_or, r_andV, r_orV, r_notV, r_nil, r_cons, r_tup, r_lst, r_cb, r_call, r_bm, r_bm0, r_sl, r_nopart, r_part, r_rev, r_gnil, r_gcons, r_gsub, r_par, r_aug, r_chain, r_I0, r_I, r_U, r_ixd, r_lend, r_tupd, r_listd, r_sld, r_app, r_ext, r_reverse, r_setl, r_cat, r_int1, r_eqS, r_neS, scal_ii, scal_bb, scal_ss, at0, at1, at2, sq_lst, sq_tup, isLst_lst, List.getElem?_cons_zero, List.getElem?_cons_succ, List.set_cons_zero, List.set_cons_succ, V.int.injEq, V.bl.injEq, V.ref.injEq, V.str.injEq, HO.lst.injEq, HO.tup.injEq, Option.some.injEq, exists_eq_left', exists_eq_left, List.cons.injEq, and_true, true_and, decide_eq_true_eq, reduceCtorEq, false_and, exists_false, or_false, false_or, exists_const, and_assoc, exists_and_left, List.append_nil, ix0, ix1, ix2, cm_mod, cdw1009, cdw2003, cdw7, cdw64, cdw2, cm104729, cm2, cm3, upd_same, List.length_cons, List.length_nil, Int.reduceLT, Int.reduceLE, Nat.reduceAdd, Nat.reduceLeDiff, Nat.reduceLT, Int.reduceToNat, r_for1, r_forL, r_forT, r_lcL, r_lc1, r_yes, r_gtupD, wipe_0, wipe_1, List.cons_append, List.nil_append, r_forS, r_ipI, ite_false, ite_true, Bool.not_true, Bool.not_false, decide_true, decide_false, r_isd, r_islt, cD_ty, cD_ref, tD_non, tD_bl, tD_int, tD_str, tD_ref, tH_lst, tH_tup, tH_dK, tH_ins, ki_self, ki_int_bool, ki_non_int, ki_str_int, ki_lt_lst, ki_lt_tup, r_fld, r_sfld, HO.ins.injEq, cx_K, hc, hl, hf, na, nb, cl]
    refine ⟨szl (by decide), fun F hF => ?_⟩
    have ht1 : L2.upd H F (.lst []) t = some (.tup (vn [7])) := by rw [upd_ne (ne_new ht hF)]; exact ht
    have sF := Same.new' (o := .lst []) (Same.refl H) hF
    generalize L2.upd H F (.lst []) = G at *
    refine while_d (fun σ H' => σ = [some (.ref c), some (.ref t), some (.int first), some (.ref F), some (.int 0), none, none] ∧ H' = G) (fun _ _ => 0) ⟨rfl, rfl⟩ ?_
    rintro σ H1 ⟨rfl, rfl⟩
    refine ⟨true, fun QT q => ?_, fun _ => ?_, fun z => by cases z⟩
    · simp only [r_seq, r_next, r_brk, r_cont, r_asg, r_name, r_ret, r_retN, r_drop, r_ifs, r_never, r_var, r_c, r_op, r_un, r_if, r_tst, r_b, r_not, r_and, r_or, r_andV, r_orV, r_notV, r_nil, r_cons, r_tup, r_lst, r_cb, r_call, r_bm, r_bm0, r_sl, r_nopart, r_part, r_rev, r_gnil, r_gcons, r_gsub, r_par, r_aug, r_chain, r_I0, r_I, r_U, r_ixd, r_lend, r_tupd, r_listd, r_sld, r_app, r_ext, r_reverse, r_setl, r_cat, r_int1, r_eqS, r_neS, scal_ii, scal_bb, scal_ss, at0, at1, at2, sq_lst, sq_tup, isLst_lst, List.getElem?_cons_zero, List.getElem?_cons_succ, List.set_cons_zero, List.set_cons_succ, V.int.injEq, V.bl.injEq, V.ref.injEq, V.str.injEq, HO.lst.injEq, HO.tup.injEq, Option.some.injEq, exists_eq_left', exists_eq_left, List.cons.injEq, and_true, true_and, decide_eq_true_eq, reduceCtorEq, false_and, exists_false, or_false, false_or, exists_const, and_assoc, exists_and_left, List.append_nil, ix0, ix1, ix2, cm_mod, cdw1009, cdw2003, cdw7, cdw64, cdw2, cm104729, cm2, cm3, upd_same, List.length_cons, List.length_nil, Int.reduceLT, Int.reduceLE, Nat.reduceAdd, Nat.reduceLeDiff, Nat.reduceLT, Int.reduceToNat, r_for1, r_forL, r_forT, r_lcL, r_lc1, r_yes, r_gtupD, wipe_0, wipe_1, List.cons_append, List.nil_append, r_forS, r_ipI, ite_false, ite_true, Bool.not_true, Bool.not_false, decide_true, decide_false, r_isd, r_islt, cD_ty, cD_ref, tD_non, tD_bl, tD_int, tD_str, tD_ref, tH_lst, tH_tup, tH_dK, tH_ins, ki_self, ki_int_bool, ki_non_int, ki_str_int, ki_lt_lst, ki_lt_tup, r_fld, r_sfld, HO.ins.injEq, cx_K, ht1]
      exact q
    · have a0 : atI (vn [7]) 0 = some (.int 7) := rfl
      simp only [r_seq, r_next, r_brk, r_cont, r_asg, r_name, r_ret, r_retN, r_drop, r_ifs, r_never, r_var, r_c, r_op, r_un, r_if, r_tst, r_b, r_not, r_and, r_or, r_andV, r_orV, r_notV, r_nil, r_cons, r_tup, r_lst, r_cb, r_call, r_bm, r_bm0, r_sl, r_nopart, r_part, r_rev, r_gnil, r_gcons, r_gsub, r_par, r_aug, r_chain, r_I0, r_I, r_U, r_ixd, r_lend, r_tupd, r_listd, r_sld, r_app, r_ext, r_reverse, r_setl, r_cat, r_int1, r_eqS, r_neS, scal_ii, scal_bb, scal_ss, at0, at1, at2, sq_lst, sq_tup, isLst_lst, List.getElem?_cons_zero, List.getElem?_cons_succ, List.set_cons_zero, List.set_cons_succ, V.int.injEq, V.bl.injEq, V.ref.injEq, V.str.injEq, HO.lst.injEq, HO.tup.injEq, Option.some.injEq, exists_eq_left', exists_eq_left, List.cons.injEq, and_true, true_and, decide_eq_true_eq, reduceCtorEq, false_and, exists_false, or_false, false_or, exists_const, and_assoc, exists_and_left, List.append_nil, ix0, ix1, ix2, cm_mod, cdw1009, cdw2003, cdw7, cdw64, cdw2, cm104729, cm2, cm3, upd_same, List.length_cons, List.length_nil, Int.reduceLT, Int.reduceLE, Nat.reduceAdd, Nat.reduceLeDiff, Nat.reduceLT, Int.reduceToNat, r_for1, r_forL, r_forT, r_lcL, r_lc1, r_yes, r_gtupD, wipe_0, wipe_1, List.cons_append, List.nil_append, r_forS, r_ipI, ite_false, ite_true, Bool.not_true, Bool.not_false, decide_true, decide_false, r_isd, r_islt, cD_ty, cD_ref, tD_non, tD_bl, tD_int, tD_str, tD_ref, tH_lst, tH_tup, tH_dK, tH_ins, ki_self, ki_int_bool, ki_non_int, ki_str_int, ki_lt_lst, ki_lt_tup, r_fld, r_sfld, HO.ins.injEq, cx_K, ht1, a0]
      refine raise_x (v := .int 0) (fun Q q => ⟨_, rfl, _, _, rfl, rfl, q⟩) fun d H' hd k2 hx => k d H' (sF.free hd) (fun y o e => k2 y o (sF y o e)) hx
/-- what is told of the lines of a code -/
theorem ok_lines_of {CC CT : Addr} (T : Txt mg) (I : CodeT K mg CC) (gT : mg "NoTable" = some (.ref CT)) (eT : PySem.W.exmOne K (.ref CT) (.ref CT) = some true) (F : FnP K "lines_of" "lines_of" slines_of f fd) {fu : Addr} {fdu : FuncData} (FU : FnOk P w K mg base (L2.CX P w) 3 fu fdu ["code"] (spU CC CT)) (gU : mg "lines_of_units" = some (.ref fu)) (kU : PySem.W.keepIn K (.ref fu) = true) (bU : Binds K fdu ["code"] []) : FnOk P w K mg base CX0 4 f fd ["code"] (spLinesOf CC) := by
  refine F.ok sclines_of (fun vs H Q E h => ?_) (fun cdv A outer s H vs Q E hr h => ?_)
  · obtain ⟨c, dx, fs, t, u, all, ls, us, rfl, _⟩ := h
    rfl
  · obtain ⟨c, dx, fs, t, u, all, ls, us, rfl, hc, hl, hf, ht, hcd, hu, hz, tb, k⟩ := h
    refine ⟨_, PSs.nox (pss_cons (ps_try_only (tb := fun W => tAsg (tCallS (spU CC CT) (WE W) (tCons (tVar 0) tNil)) (gName 1)) (ts := fun _ _ _ => tAsg (tLst tNil) (gName 1)) rfl rfl ⟨rfl, by decide, .inl gT⟩ LamX.takes0 (fun W pn xe tk _ => pss_one (ps_asg (pe_callS FU (hr.mono (by decide)) rfl gU kU bU (fun σ => passAt tk σ) (pa_cons (pv 0) pa_nil)) (pg_name (i := 1) sclines_of.nd rfl (Or.inl rfl)))) (fun a oe cls d pn _ _ => pss_one (ps_asg (pe_lst pa_nil) (pg_name (i := 1) sclines_of.nd rfl (Or.inl rfl)))))
  (pss_one (ps_ret (pe_op op_cat (pv 1) (pe_op op_rep (pe_lst (pa_cons pe_non pa_nil)) (pe_op op_sub (pe_op op_fdivW (pe_callB call_len_d (by rfl) T.b_len (by decide +kernel) (pa_cons (pe_fld (pv 0) rfl) pa_nil)) pe_int) (pe_callB call_len_d (by rfl) T.b_len (by decide +kernel) (pa_cons (pv 1) pa_nil)))))))), ?_⟩
    show (_ : TS) _ [some (.ref c), none] H
    have na := I.na "code" (by decide)
    have cl := I.cI.cl
    have rest : ∀ (F1 : Addr) (H1 : Hp), Same H H1 → H1 F1 = some (.lst (lvs us)) → us.length ≤ 80000 → (tRet (tOp rCat (tVar 1) (tOp rRep (tLst (tCons (tC V.non) tNil)) (tOp (rI0 fun i j => V.int (i - j)) (tOp (rI CDivW fun i j => V.int (i / j)) (tCB rLend (tCons (tFld K (tVar 0) "code") tNil)) (tC (V.int 2))) (tCB rLend (tCons (tVar 1) tNil))))) : TS)
        { nx := fun _ H' => Q V.non H', rt := Q } [some (.ref c), some (.ref F1)] H1 := by
      intro F1 H1 s1 h1 hus
      have hc1 := s1 _ _ hc
      have lu : (lvs us).length = us.length := List.length_map ..
      simp only [r_seq, r_next, r_brk, r_cont, r_asg, r_name, r_ret, r_retN, r_drop, r_ifs, r_never, r_var, r_c, r_op, r_un, r_if, r_tst, r_b, r_not, r_and, r_or, r_andV, r_orV, r_notV, r_nil, r_cons, r_tup, r_lst, r_cb, r_call, r_bm, r_bm0, r_sl, r_nopart, r_part, r_rev, r_gnil, r_gcons, r_gsub, r_par, r_aug, r_chain, r_I0, r_I, r_U, r_ixd, r_lend, r_tupd, r_listd, r_sld, r_app, r_ext, r_reverse, r_setl, r_cat, r_int1, r_eqS, r_neS, scal_ii, scal_bb, scal_ss, at0, at1, at2, sq_lst, sq_tup, isLst_lst, List.getElem?_cons_zero, List.getElem?_cons_succ, List.set_cons_zero, List.set_cons_succ, V.int.injEq, V.bl.injEq, V.ref.injEq, V.str.injEq, HO.lst.injEq, HO.tup.injEq, Option.some.injEq, exists_eq_left', exists_eq_left, List.cons.injEq, and_true, true_and, decide_eq_true_eq, reduceCtorEq, false_and, exists_false, or_false, false_or, exists_const, and_assoc, exists_and_left, List.append_nil, ix0, ix1, ix2, cm_mod, cdw1009, cdw2003, cdw7, cdw64, cdw2, cm104729, cm2, cm3, upd_same, List.length_cons, List.length_nil, Int.reduceLT, Int.reduceLE, Nat.reduceAdd, Nat.reduceLeDiff, Nat.reduceLT, Int.reduceToNat, r_for1, r_forL, r_forT, r_lcL, r_lc1, r_yes, r_gtupD, wipe_0, wipe_1, List.cons_append, List.nil_append, r_forS, r_ipI, ite_false, ite_true, Bool.not_true, Bool.not_false, decide_true, decide_false, r_isd, r_islt, cD_ty, cD_ref, tD_non, tD_bl, tD_int, tD_str, tD_ref, tH_lst, tH_tup, tH_dK, tH_ins, ki_self, ki_int_bool, ki_non_int, ki_str_int, ki_lt_lst, ki_lt_tup, r_fld, r_sfld, HO.ins.injEq, cx_K]
      refine ⟨szl (by decide : 1 ≤ 1000), fun p hp => ?_⟩
      have s2 : Same H _ := Same.new' (o := .lst [V.non]) s1 hp
      have h2 : L2.upd H1 p (.lst [V.non]) F1 = some (.lst (lvs us)) := by rw [upd_ne (ne_new h1 hp)]; exact h1
      refine ⟨CC, dx, fs, s2 _ _ hc, cl, na, .ref u, hcd, u, rfl, vn all, by rw [s2 _ _ hu]; rfl, lvs us, by rw [h2]; rfl, ?_⟩
      have ek : (((vn all).length : Int) / 2 - ((lvs us).length : Int)).toNat = all.length / 2 - us.length := by
        rw [vn_len, lu]
        omega
      refine ⟨p, _, [V.non], rfl, rfl, upd_same, by rw [vn_len, lu]; omega, by rw [vn_len, lu]; omega, ?_, fun p2 hp2 => ⟨p2, rfl, lvs us, by rw [upd_ne (ne_new h2 hp2)]; exact h2, _, upd_same, ?_, fun p3 hp3 => ?_⟩⟩
      · rw [ek]
        exact Nat.le_trans (by simp; omega : _ ≤ 5000) (by decide)
      · rw [ek, rep_non, List.length_replicate, lu]
        exact Nat.le_trans (by omega : _ ≤ 90000) (by decide)
      · have s3 := Same.new' (o := .lst (List.replicate (((vn all).length : Int) / 2 - ((lvs us).length : Int)).toNat [V.non]).flatten) s2 hp2
        refine k p3 _ (s3.free hp3) (Same.new' s3 hp3) ?_
        rw [upd_same, ek, rep_non]
        rfl
    refine ⟨.ref c, rfl, ?_⟩
    rcases tb with ⟨es, rfl, el, eo, rfl⟩ | ⟨rfl, rfl⟩
    · exact .inl ⟨c, dx, fs, t, 3, es, rfl, hc, hl, hf, ht, by omega, eo, fun F1 H1 hF1 s1 h1 => rest F1 H1 s1 h1 (Nat.le_trans (unitsL_len 3 eo) (by omega))⟩
    · exact .inr ⟨c, dx, fs, t, 3, rfl, hc, hl, hf, ht, fun d H1 hd s1 hx => ⟨true, eT, fun _ a ha => ⟨Nat.zero_le _, fun p hp => rest p _ (Same.new' s1 hp) upd_same (Nat.zero_le _)⟩, fun z => nomatch z⟩⟩
end
end C57

set_option maxHeartbeats 2000000
namespace C57
open PySem PySem.Spec PyProof.Rows L2 StrLaws
/-! ### a packed instruction -/
def exts (a : Nat) : List Nat := (if 16777216 ≤ a then [71, a / 16777216 % 256] else []) ++ ((if 65536 ≤ a then [71, a / 65536 % 256] else []) ++ (if 256 ≤ a then [71, a / 256 % 256] else []))
def packN (num a c : Nat) : List Nat := exts a ++ ([num, a % 256] ++ List.replicate (2 * c) 0)
def exL (n : Nat) : List Nat := (if 16777216 ≤ n then [n / 16777216 % 256] else []) ++ ((if 65536 ≤ n then [n / 65536 % 256] else []) ++ (if 256 ≤ n then [n / 256 % 256] else []))
theorem exts_es {n : Nat} (h : n < 4294967296) : exts n = exb (exL n) ∧ (exL n).length ≤ 3 ∧ (exL n ≠ [] → (exL n).getD 0 0 ≠ 0) ∧ foldE (exL n) 0 + n % 256 = n ∧ ∀ x ∈ exL n, x < 256 := by
  unfold exts exL
  by_cases c1 : 256 ≤ n
  · by_cases c2 : 65536 ≤ n
    · by_cases c3 : 16777216 ≤ n
      · rw [if_pos c1, if_pos c2, if_pos c3, if_pos c3, if_pos c2, if_pos c1]
        refine ⟨rfl, Nat.le_refl 3, fun _ => ?_, ?_, ?_⟩
        · show n / 16777216 % 256 ≠ 0
          omega
        · show (((0 + n / 16777216 % 256) * 256 + n / 65536 % 256) * 256 + n / 256 % 256) * 256 + n % 256 = n
          omega
        · intro x hx
          simp only [List.cons_append, List.nil_append, List.mem_cons, List.not_mem_nil, or_false] at hx
          omega
      · rw [if_pos c1, if_pos c2, if_neg c3, if_neg c3, if_pos c2, if_pos c1]
        refine ⟨rfl, by simp, fun _ => ?_, ?_, ?_⟩
        · show n / 65536 % 256 ≠ 0
          omega
        · show ((0 + n / 65536 % 256) * 256 + n / 256 % 256) * 256 + n % 256 = n
          omega
        · intro x hx
          simp only [List.cons_append, List.nil_append, List.mem_cons, List.not_mem_nil, or_false] at hx
          omega
    · rw [if_pos c1, if_neg c2, if_neg (by omega), if_neg (by omega), if_neg c2, if_pos c1]
      refine ⟨rfl, by simp, fun _ => ?_, ?_, ?_⟩
      · show n / 256 % 256 ≠ 0
        omega
      · show (0 + n / 256 % 256) * 256 + n % 256 = n
        omega
      · intro x hx
        simp only [List.nil_append, List.mem_cons, List.not_mem_nil, or_false] at hx
        omega
  · rw [if_neg c1, if_neg (by omega), if_neg (by omega), if_neg (by omega), if_neg (by omega), if_neg c1]
    refine ⟨rfl, by simp, fun q => absurd rfl q, ?_, fun x hx => by cases hx⟩
    show 0 + n % 256 = n
    omega
theorem nz_zero (k : Nat) : nz (List.replicate k 0) = false := by
  unfold nz
  simp
theorem pack_next {num n c : Nat} {w : Str} (hw : wdF num = some (w, c + 1)) (h71 : num ≠ 71) (hn : n < 4294967296) (pre post : List Nat) : nextF wdF (pre ++ (packN num n c ++ post)) pre.length = some (w, n, pre.length + (packN num n c).length) := by
  obtain ⟨e1, e2, e3, e4, _⟩ := exts_es hn
  generalize exL n = es at e1 e2 e3 e4
  have ea : packN num n c ++ post = exb es ++ (num :: n % 256 :: (List.replicate (2 * c) 0 ++ post)) := by
    unfold packN
    rw [e1, List.append_assoc, List.append_assoc]
    rfl
  have el : (packN num n c).length = 2 * es.length + (2 * c + 2) := by
    unfold packN
    rw [e1, List.length_append, exb_len, List.length_append, List.length_replicate]
    show _ + (2 + 2 * c) = _
    omega
  rw [ea, nextF_nx (tl := num :: n % 256 :: (List.replicate (2 * c) 0 ++ post)) (fun q => h71 q.2), el]
  unfold nx
  rw [if_neg, show (num :: n % 256 :: (List.replicate (2 * c) 0 ++ post)).getD 0 0 = num from rfl, hw]
  · dsimp only
    rw [if_neg, show (num :: n % 256 :: (List.replicate (2 * c) 0 ++ post)).getD 1 0 = n % 256 from rfl, e4]
    · rw [show pre.length + 2 * es.length + 2 * (c + 1) = pre.length + (2 * es.length + (2 * c + 2)) from by omega]
    · rintro (q | ⟨_, q⟩)
      · rw [List.length_cons, List.length_cons, List.length_append, List.length_replicate] at q
        omega
      · have ed : ((num :: n % 256 :: (List.replicate (2 * c) 0 ++ post)).drop 2).take (2 * (c + 1) - 2) = List.replicate (2 * c) 0 := by
          show (List.replicate (2 * c) 0 ++ post).take _ = _
          rw [show 2 * (c + 1) - 2 = 2 * c from by omega]
          exact List.take_left' (List.length_replicate ..)
        rw [ed, nz_zero] at q
        cases q
  · rintro ⟨q, q2 | q2 | q2⟩
    · omega
    · exact e3 q q2
    · cases q2
theorem packN_lt {num n c : Nat} (h : num < 256) (hn : n < 4294967296) : ∀ x ∈ packN num n c, x < 256 := by
  obtain ⟨e1, _, _, _, e5⟩ := exts_es hn
  have eb : ∀ (es : List Nat), (∀ x ∈ es, x < 256) → ∀ x ∈ exb es, x < 256 := by
    intro es
    induction es with
    | nil => exact fun _ x h => by cases h
    | cons y es ih =>
      intro h x hx
      rcases List.mem_append.mp (show x ∈ [71, y] ++ exb es from hx) with hx | hx
      · simp only [List.mem_cons, List.not_mem_nil, or_false] at hx
        have := h y List.mem_cons_self
        omega
      · exact ih (fun z hz => h z (List.mem_cons_of_mem _ hz)) x hx
  intro x hx
  unfold packN at hx
  rw [e1] at hx
  rcases List.mem_append.mp hx with hx | hx
  · exact eb (exL n) e5 x hx
  · rcases List.mem_append.mp hx with hx | hx
    · simp only [List.mem_cons, List.not_mem_nil, or_false] at hx
      omega
    · have := List.eq_of_mem_replicate hx
      omega
theorem packN_len {num n c : Nat} (hc : c ≤ 10) (hn : n < 4294967296) : (packN num n c).length ≤ 40 := by
  obtain ⟨e1, e2, _⟩ := exts_es hn
  unfold packN
  rw [e1, List.length_append, exb_len, List.length_append, List.length_replicate]
  show _ + (2 + 2 * c) ≤ 40
  omega
theorem packN_ne {num n c : Nat} : packN num n c ≠ [] := by
  unfold packN
  intro z
  have := (List.append_eq_nil_iff.mp z).2
  cases this
/-! ### bytes put together of instructions, cut again -/
structure Pk where
  num : Nat
  n : Nat
  c : Nat
  w : Str
def Pk.bytes (p : Pk) : List Nat := packN p.num p.n p.c
structure Pk.Ok (p : Pk) : Prop where
  w : wdF p.num = some (p.w, p.c + 1)
  ne : p.num ≠ 71
  lt : p.num < 256
  c : p.c ≤ 10
  n : p.n < 4294967296
def cutsOf : List Pk → Nat → List (Nat × Str × Nat)
  | [], _ => []
  | p :: ps, b => (b, p.w, p.n) :: cutsOf ps (b + p.bytes.length)
theorem cut_exact : ∀ (ps : List Pk) (pre : List Nat) (n : Nat), (∀ p ∈ ps, p.Ok) → (pre ++ (ps.map Pk.bytes).flatten).length ≤ pre.length + n → cutF wdF (pre ++ (ps.map Pk.bytes).flatten) n pre.length = (cutsOf ps pre.length, none)
  | [], pre, n, _, _ => by
    show cutF wdF (pre ++ []) n pre.length = ([], none)
    rw [List.append_nil]
    cases n with
    | zero => rfl
    | succ n => rw [cutF, if_neg (Nat.lt_irrefl _)]
  | p :: ps, pre, n, ok, h => by
    have op := ok p List.mem_cons_self
    have bl : 0 < p.bytes.length := List.length_pos_iff.mpr packN_ne
    have e1 : pre ++ ((p :: ps).map Pk.bytes).flatten = pre ++ (p.bytes ++ (ps.map Pk.bytes).flatten) := rfl
    have nx := pack_next op.w op.ne op.n pre (ps.map Pk.bytes).flatten
    have e2 : pre ++ (p.bytes ++ (ps.map Pk.bytes).flatten) = (pre ++ p.bytes) ++ (ps.map Pk.bytes).flatten := (List.append_assoc _ _ _).symm
    have lp : (pre ++ p.bytes).length = pre.length + p.bytes.length := List.length_append
    have l1 : (pre ++ (p.bytes ++ (ps.map Pk.bytes).flatten)).length = pre.length + (p.bytes.length + (ps.map Pk.bytes).flatten.length) := by rw [List.length_append, List.length_append]
    rw [e1] at h ⊢
    obtain ⟨n, rfl⟩ : ∃ k, n = k + 1 := ⟨n - 1, by omega⟩
    have ih := cut_exact ps (pre ++ p.bytes) n (fun q hq => ok q (List.mem_cons_of_mem _ hq)) (by rw [← e2]; omega)
    rw [cutF, if_pos (by omega)]
    rw [show nextF wdF (pre ++ (p.bytes ++ (ps.map Pk.bytes).flatten)) pre.length = some (p.w, p.n, pre.length + p.bytes.length) from nx]
    dsimp only
    rw [e2, ← lp, ih, lp]
    rfl
end C57

set_option maxHeartbeats 2000000
namespace C57
open PySem PySem.Spec PyProof.Rows L2
/-! ### the rows that are told -/
structure IRow where
  off : Nat
  w : Str
  a : Option Nat
  m : Str
  l : Option Int
def aV : Option Nat → V
  | none => .non
  | some k => .int (k : Int)
def irV (R : IRow) : List V := [.int (R.off : Int), .str R.w, aV R.a, .str R.m, lnV R.l]
def IRows (H : Hp) (F : Addr) (Rs : List IRow) : Prop := ∃ refs : List Addr, H F = some (.lst (refs.map V.ref)) ∧ Paired (fun r R => r ≠ F ∧ H r = some (.tup (irV R))) refs Rs
abbrev LF := Nat → Option Int
def lineOf (us : List (Option Int)) : LF := fun b => us.getD (b / 2) none
def extR (lf : LF) : List Nat → Nat → List IRow
  | [], _ => []
  | x :: es, b => ⟨b, "EXTENDED_ARG", some x, "", lf b⟩ :: extR lf es (b + 2)
def lastR (T : Tb) (lf : LF) (p : Pk) (b : Nat) : IRow := ⟨b + 2 * (exL p.n).length, p.w, if p.num < 45 then none else some p.n, if p.num < 45 then "" else (meanF T p.w p.n (b + p.bytes.length)).getD "", lf (b + 2 * (exL p.n).length)⟩
def rowsP (T : Tb) (lf : LF) : List Pk → Nat → List IRow
  | [], _ => []
  | p :: ps, b => extR lf (exL p.n) b ++ (lastR T lf p b :: rowsP T lf ps (b + p.bytes.length))
def offs (ps : List Pk) (i : Nat) : Nat := ((ps.take i).map Pk.bytes).flatten.length
theorem extR_snoc (lf : LF) : ∀ (es : List Nat) (x b : Nat), extR lf (es ++ [x]) b = extR lf es b ++ [⟨b + 2 * es.length, "EXTENDED_ARG", some x, "", lf (b + 2 * es.length)⟩]
  | [], x, b => rfl
  | y :: es, x, b => by
    show _ :: extR lf (es ++ [x]) (b + 2) = _ :: (extR lf es (b + 2) ++ _)
    rw [extR_snoc lf es x (b + 2), List.length_cons, show b + 2 + 2 * es.length = b + 2 * (es.length + 1) from by omega]
theorem rowsP_snoc (T : Tb) (lf : LF) : ∀ (ps : List Pk) (p : Pk) (b : Nat), rowsP T lf (ps ++ [p]) b = rowsP T lf ps b ++ (extR lf (exL p.n) (b + (ps.map Pk.bytes).flatten.length) ++ [lastR T lf p (b + (ps.map Pk.bytes).flatten.length)])
  | [], p, b => rfl
  | q :: ps, p, b => by
    show extR lf (exL q.n) b ++ (lastR T lf q b :: rowsP T lf (ps ++ [p]) (b + q.bytes.length)) = (extR lf (exL q.n) b ++ (lastR T lf q b :: rowsP T lf ps (b + q.bytes.length))) ++ _
    rw [rowsP_snoc T lf ps p, List.map_cons, List.flatten_cons, List.length_append, show b + q.bytes.length + (ps.map Pk.bytes).flatten.length = b + (q.bytes.length + (ps.map Pk.bytes).flatten.length) from by omega]
    simp
theorem rowsP_len (T : Tb) (lf : LF) : ∀ (ps : List Pk) (b : Nat), (∀ p ∈ ps, p.Ok) → (rowsP T lf ps b).length ≤ 4 * ps.length
  | [], b, _ => Nat.le_refl _
  | p :: ps, b, ok => by
    have h1 := rowsP_len T lf ps (b + p.bytes.length) fun q hq => ok q (List.mem_cons_of_mem _ hq)
    have h2 := (exts_es (ok p List.mem_cons_self).n).2.1
    have h3 : ∀ (es : List Nat) (b : Nat), (extR lf es b).length = es.length := by
      intro es
      induction es with
      | nil => exact fun _ => rfl
      | cons x es ih =>
        intro b
        show (extR lf es (b + 2)).length + 1 = es.length + 1
        rw [ih]
    show (extR lf (exL p.n) b ++ _).length ≤ 4 * (ps.length + 1)
    rw [List.length_append, h3, List.length_cons]
    omega
theorem IRows.snoc {H : Hp} {F p : Addr} {refs : List Addr} {Rs : List IRow} {R : IRow} (hF : H F = some (.lst (refs.map V.ref))) (pr : Paired (fun r R => r ≠ F ∧ H r = some (.tup (irV R))) refs Rs) (hp : H p = none) :
    IRows (L2.upd (L2.upd H p (.tup (irV R))) F (.lst (refs.map V.ref ++ [.ref p]))) F (Rs ++ [R]) := by
  have pF : p ≠ F := new_ne hF hp
  refine ⟨refs ++ [p], by rw [upd_same, List.map_append]; rfl, Paired.snoc' (Paired.map' pr fun r Q h => ⟨h.1, ?_⟩) ⟨pF, ?_⟩⟩
  · rw [upd_ne h.1, upd_ne (ne_new h.2 hp)]
    exact h.2
  · rw [upd_ne pF, upd_same]
/-! ### the bytes of one instruction -/
theorem exb_at : ∀ (es tl : List Nat) (j : Nat), j < es.length → (exb es ++ tl).getD (2 * j) 0 = 71 ∧ (exb es ++ tl).getD (2 * j + 1) 0 = es.getD j 0
  | [], tl, j, h => absurd h (Nat.not_lt_zero _)
  | x :: es, tl, 0, h => ⟨rfl, rfl⟩
  | x :: es, tl, j + 1, h => by
    have ih := exb_at es tl j (by rw [List.length_cons] at h; omega)
    have e : exb (x :: es) ++ tl = 71 :: x :: (exb es ++ tl) := rfl
    rw [e, show 2 * (j + 1) = 2 * j + 1 + 1 from by omega, show 2 * j + 1 + 1 + 1 = (2 * j + 1) + 1 + 1 from rfl]
    exact ih
theorem exb_tl : ∀ (es tl : List Nat), (exb es ++ tl).getD (2 * es.length) 0 = tl.getD 0 0
  | [], tl => rfl
  | x :: es, tl => by
    have ih := exb_tl es tl
    have e : exb (x :: es) ++ tl = 71 :: x :: (exb es ++ tl) := rfl
    rw [e, List.length_cons, show 2 * (es.length + 1) = 2 * es.length + 1 + 1 from by omega]
    exact ih
/-- where the bytes of p stand -/
structure PAt (all : List Nat) (b : Nat) (p : Pk) : Prop where
  ext : ∀ j, j < (exL p.n).length → all.getD (b + 2 * j) 0 = 71 ∧ all.getD (b + 2 * j + 1) 0 = (exL p.n).getD j 0
  num : all.getD (b + 2 * (exL p.n).length) 0 = p.num
  le : b + 2 * (exL p.n).length + 2 ≤ all.length
theorem pat_of {p : Pk} (ok : p.Ok) (pre post : List Nat) : PAt (pre ++ (p.bytes ++ post)) pre.length p := by
  obtain ⟨e1, e2, e3, e4, _⟩ := exts_es ok.n
  have ea : p.bytes ++ post = exb (exL p.n) ++ (p.num :: p.n % 256 :: (List.replicate (2 * p.c) 0 ++ post)) := by
    unfold Pk.bytes packN
    rw [e1, List.append_assoc, List.append_assoc]
    rfl
  rw [ea]
  refine ⟨fun j hj => ?_, ?_, ?_⟩
  · obtain ⟨h1, h2⟩ := exb_at (exL p.n) (p.num :: p.n % 256 :: (List.replicate (2 * p.c) 0 ++ post)) j hj
    rw [getD_pre, show pre.length + 2 * j + 1 = pre.length + (2 * j + 1) from by omega, getD_pre]
    exact ⟨h1, h2⟩
  · rw [getD_pre, exb_tl]
    rfl
  · rw [List.length_append, List.length_append, exb_len, List.length_cons, List.length_cons]
    omega
theorem cutsOf_len : ∀ (ps : List Pk) (b : Nat), (cutsOf ps b).length = ps.length
  | [], b => rfl
  | p :: ps, b => by
    show (cutsOf ps _).length + 1 = ps.length + 1
    rw [cutsOf_len ps]
theorem cutsOf_get : ∀ (ps : List Pk) (b i : Nat) (h : i < ps.length), (cutsOf ps b)[i]? = some (b + offs ps i, ps[i].w, ps[i].n)
  | p :: ps, b, 0, h => rfl
  | p :: ps, b, i + 1, h => by
    have ih := cutsOf_get ps (b + p.bytes.length) i (by rw [List.length_cons] at h; omega)
    show (cutsOf ps (b + p.bytes.length))[i]? = _
    rw [ih]
    have e : offs (p :: ps) (i + 1) = p.bytes.length + offs ps i := by
      unfold offs
      rw [List.take_succ_cons, List.map_cons, List.flatten_cons, List.length_append]
    rw [e, Nat.add_assoc]
    rfl
theorem offs_succ {ps : List Pk} {i : Nat} (h : i < ps.length) : offs ps (i + 1) = offs ps i + ps[i].bytes.length := by
  unfold offs
  rw [List.take_succ_eq_append_getElem h, List.map_append, List.flatten_append, List.length_append]
  simp
theorem offs_all (ps : List Pk) : offs ps ps.length = (ps.map Pk.bytes).flatten.length := by
  unfold offs
  rw [List.take_length]
theorem split_at {ps : List Pk} {i : Nat} (h : i < ps.length) : ∃ pre post : List Nat, (ps.map Pk.bytes).flatten = pre ++ (ps[i].bytes ++ post) ∧ pre.length = offs ps i := by
  refine ⟨((ps.take i).map Pk.bytes).flatten, ((ps.drop (i + 1)).map Pk.bytes).flatten, ?_, rfl⟩
  have e : ps = ps.take i ++ (ps[i] :: ps.drop (i + 1)) := by
    rw [← List.drop_eq_getElem_cons h, List.take_append_drop]
  conv => lhs; rw [e]
  rw [List.map_append, List.flatten_append, List.map_cons, List.flatten_cons]
theorem lines_at {us : List (Option Int)} {m u b : Nat} (h : u < m) (e : u = b / 2) : atI (linesV us m) (u : Int) = some (lnV (lineOf us b)) := by
  subst e
  refine atn ?_
  unfold linesV lineOf lvs
  rw [List.getD_eq_getElem?_getD]
  by_cases c : b / 2 < us.length
  · rw [List.getElem?_append_left (by rw [List.length_map]; exact c), List.getElem?_map, List.getElem?_eq_getElem c]
    rfl
  · rw [List.getElem?_append_right (by rw [List.length_map]; omega), List.length_map, List.getElem?_replicate, if_pos (by omega), List.getElem?_eq_none (by omega)]
    rfl
end C57

set_option maxHeartbeats 2000000
namespace C57
open PySem PySem.Spec PyProof.Rows L2 StrLaws
/-! ### a def that may raise, as its callers see it -/
structure CalE (P : Program) (w : World) (K : PySem.W.Frag) (mg : Str → Option Value) (base : Heap) (k : Nat) (x : Str) (ps : List Str) (sp : Sp) : Prop where
  ex : ∃ f fd, FnOk P w K mg base (L2.CX P w) k f fd ps sp ∧ mg x = some (.ref f) ∧ PySem.W.keepIn K (.ref f) = true ∧ Binds K fd ps []
theorem pe_calE {X : Cx} {W : WX} {E : XK} {k : Nat} {x : Str} {ps : List Str} {sp : Sp} {e : Expr} {es : List Expr} {t : TA} {p pos : Pos} (C : CalE X.prog X.w X.K X.mg X.base k x ps sp) (hr : Room k X.A) (hg : Gl X x) (tk : Takes X W) (hW : ∀ cls d σ H, E cls d H → W cls d σ H) (ha : PA X (e :: es) t)
    (hdb : (x == ("__debug__" : Str)) = false := by decide) (he : starEach (e :: es) X.env = (false, eval e X.env) :: starEach es X.env := by rfl) (hpl : (backTo pos (starEach es X.env)).any (·.1) = false := by rfl) :
    PE X (.Call (.Name x p) (e :: es) [] pos) (tCall sp [] E t) := by
  obtain ⟨f, fd, F, m, kp, b⟩ := C.ex
  exact pe_call F hr hg m kp b .nil (passes_call tk hW) ha hdb he hpl

/-! ### one instruction, told -/
def t_ext (K : PySem.W.Frag) : TS := tWhile (tTest (tOp rEq (tVar 13) (tC (V.int 71))))
  (tSeq (tDrop (tBM K "list" rAppend (tVar 7) (tCons (tTup (tCons (tVar 8) (tCons (tC (V.str (Str.ofString "EXTENDED_ARG"))) (tCons (tOp rIxd (tVar 1) (tOp (rI0 fun i j => V.int (i + j)) (tVar 8) (tC (V.int 1)))) (tCons (tC (V.str (Str.ofString ""))) (tCons (tVar 12) tNil)))))) tNil)))
    (tSeq (tAug 8 (tC (V.int 2)) (ipI fun i j => i + j)) (tSeq (tAsg (tOp rIxd (tVar 1) (tVar 8)) (gName 13)) (tAsg (tOp rIxd (tVar 6) (tOp (rI CDivW fun i j => V.int (i / j)) (tVar 8) (tC (V.int 2)))) (gName 12)))))
/-- all but the list at T stays -/
abbrev Stay (T : Addr) (H H' : Hp) : Prop := Keep T H H'
theorem vn_at' {all : List Nat} {i n : Nat} (h : i < all.length) (e : all.getD i 0 = n) : atI (vn all) (i : Int) = some (.int (n : Int)) := by rw [vn_at h, e]
section
variable {K : PySem.W.Frag} {c u B W A Lr Td : Addr} {all : List Nat} {us : List (Option Int)} {p : Pk} {b : Nat} {wv av ev : Option V} {Rs : List IRow} {H : Hp}
theorem ext_run {Dn : Ends} (hu : H u = some (.tup (vn all))) (hL : H Lr = some (.lst (linesV us (all.length / 2)))) (hT : IRows H Td Rs) (PA : PAt all b p) (hm : (exL p.n).length ≤ 3) (h71 : p.num ≠ 71) (hl : all.length ≤ 4000) (hz : Rs.length ≤ 5000) (LT : Lr ≠ Td)
    (k : ∀ H', Stay Td H H' → IRows H' Td (Rs ++ extR (lineOf us) (exL p.n) b) → Dn.nx [some (.ref c), some (.ref u), some (.ref B), some (.ref W), some (.ref A), some .non, some (.ref Lr), some (.ref Td), some (.int ((b + 2 * (exL p.n).length : Nat) : Int)), wv, av, ev, some (lnV (lineOf us (b + 2 * (exL p.n).length))), some (.int (p.num : Int))] H') :
    t_ext K Dn [some (.ref c), some (.ref u), some (.ref B), some (.ref W), some (.ref A), some .non, some (.ref Lr), some (.ref Td), some (.int (b : Int)), wv, av, ev, some (lnV (lineOf us b)), some (.int ((all.getD b 0 : Nat) : Int))] H := by
  obtain ⟨q1, q2, q3⟩ := PA
  generalize exL p.n = es at *
  unfold t_ext
  refine while_d (fun σ H' => ∃ j, j ≤ es.length ∧ σ = [some (.ref c), some (.ref u), some (.ref B), some (.ref W), some (.ref A), some .non, some (.ref Lr), some (.ref Td), some (.int ((b + 2 * j : Nat) : Int)), wv, av, ev, some (lnV (lineOf us (b + 2 * j))), some (.int ((all.getD (b + 2 * j) 0 : Nat) : Int))] ∧ Stay Td H H' ∧ IRows H' Td (Rs ++ extR (lineOf us) (es.take j) b))
    (fun σ _ => match σ with | _ :: _ :: _ :: _ :: _ :: _ :: _ :: _ :: some (.int a) :: _ => 5000 - a.toNat | _ => 0) ⟨0, Nat.zero_le _, rfl, Keep.refl Td H, by rw [List.take_zero]; show IRows H Td (Rs ++ []); rw [List.append_nil]; exact hT⟩ ?_
  rintro σ H1 ⟨j, hj, rfl, k1, refs, e1, pr⟩
  have c2 : (V.int ((all.getD (b + 2 * j) 0 : Nat) : Int) = V.int 71) = (all.getD (b + 2 * j) 0 = 71) := propext ⟨fun q => Int.ofNat.inj (V.int.inj q), fun q => by rw [q]; rfl⟩
  refine ⟨decide (all.getD (b + 2 * j) 0 = 71), fun QT q => ?_, fun cc => ?_, fun cc => ?_⟩
  · simp only [r_seq, r_next, r_brk, r_cont, r_asg, r_name, r_ret, r_retN, r_drop, r_ifs, r_never, r_var, r_c, r_op, r_un, r_if, r_tst, r_b, r_not, r_and, r_or, r_andV, r_orV, r_notV, r_nil, r_cons, r_tup, r_lst, r_cb, r_call, r_bm, r_bm0, r_sl, r_nopart, r_part, r_rev, r_gnil, r_gcons, r_gsub, r_par, r_aug, r_chain, r_I0, r_I, r_U, r_ixd, r_lend, r_tupd, r_listd, r_sld, r_app, r_ext, r_reverse, r_setl, r_cat, r_int1, r_eqS, r_neS, scal_ii, scal_bb, scal_ss, at0, at1, at2, sq_lst, sq_tup, isLst_lst, List.getElem?_cons_zero, List.getElem?_cons_succ, List.set_cons_zero, List.set_cons_succ, V.int.injEq, V.bl.injEq, V.ref.injEq, V.str.injEq, HO.lst.injEq, HO.tup.injEq, Option.some.injEq, exists_eq_left', exists_eq_left, List.cons.injEq, and_true, true_and, decide_eq_true_eq, reduceCtorEq, false_and, exists_false, or_false, false_or, exists_const, and_assoc, exists_and_left, List.append_nil, ix0, ix1, ix2, cm_mod, cdw1009, cdw2003, cdw7, cdw64, cdw2, cm104729, cm2, cm3, upd_same, List.length_cons, List.length_nil, Int.reduceLT, Int.reduceLE, Nat.reduceAdd, Nat.reduceLeDiff, Nat.reduceLT, Int.reduceToNat, r_for1, r_forL, r_forT, r_lcL, r_lc1, r_yes, r_gtupD, wipe_0, wipe_1, List.cons_append, List.nil_append, r_forS, r_ipI, ite_false, ite_true, Bool.not_true, Bool.not_false, decide_true, decide_false, r_isd, r_islt, cD_ty, cD_ref, tD_non, tD_bl, tD_int, tD_str, tD_ref, tH_lst, tH_tup, tH_dK, tH_ins, ki_self, ki_int_bool, ki_non_int, ki_str_int, ki_lt_lst, ki_lt_tup, r_fld, r_sfld, HO.ins.injEq, cx_K, c2]
    exact q
  · have jl : j < es.length := by
      by_cases q : j < es.length
      · exact q
      · have e : j = es.length := by omega
        rw [e, q2] at cc
        exact absurd (of_decide_eq_true cc) h71
    obtain ⟨_, d2⟩ := q1 j jl
    have hu' : ∀ o, H u = some o → u ≠ Td := fun o e z => by
      obtain ⟨r0, e0, _⟩ := hT
      rw [z, e0] at hu
      cases hu
    have uT := hu' _ hu
    have ut := k1 u _ uT hu
    have Lt := k1 Lr _ LT hL
    have e2 : atI (vn all) (((b + 2 * j : Nat) : Int) + 1) = some (.int ((es.getD j 0 : Nat) : Int)) := vn_at' (i := b + 2 * j + 1) (by omega) d2
    have ec : ((b + 2 * j : Nat) : Int) + 2 = ((b + 2 * (j + 1) : Nat) : Int) := by omega
    have e4 : atI (vn all) ((b + 2 * (j + 1) : Nat) : Int) = some (.int ((all.getD (b + 2 * (j + 1)) 0 : Nat) : Int)) := vn_at (by omega)
    have ed : ((b + 2 * (j + 1) : Nat) : Int) / 2 = (((b + 2 * (j + 1)) / 2 : Nat) : Int) := by omega
    have e5 := lines_at (us := us) (m := all.length / 2) (u := (b + 2 * (j + 1)) / 2) (b := b + 2 * (j + 1)) (by omega) rfl
    have lr := Paired.length pr
    have le : (extR (lineOf us) (es.take j) b).length ≤ 3 := by
      have h3 : ∀ (es : List Nat) (b : Nat), (extR (lineOf us) es b).length = es.length := by
        intro es
        induction es with
        | nil => exact fun _ => rfl
        | cons x es ih =>
          intro b
          show (extR (lineOf us) es (b + 2)).length + 1 = es.length + 1
          rw [ih]
      rw [h3, List.length_take]
      omega
    rw [List.length_append] at lr
    simp only [r_seq, r_next, r_brk, r_cont, r_asg, r_name, r_ret, r_retN, r_drop, r_ifs, r_never, r_var, r_c, r_op, r_un, r_if, r_tst, r_b, r_not, r_and, r_or, r_andV, r_orV, r_notV, r_nil, r_cons, r_tup, r_lst, r_cb, r_call, r_bm, r_bm0, r_sl, r_nopart, r_part, r_rev, r_gnil, r_gcons, r_gsub, r_par, r_aug, r_chain, r_I0, r_I, r_U, r_ixd, r_lend, r_tupd, r_listd, r_sld, r_app, r_ext, r_reverse, r_setl, r_cat, r_int1, r_eqS, r_neS, scal_ii, scal_bb, scal_ss, at0, at1, at2, sq_lst, sq_tup, isLst_lst, List.getElem?_cons_zero, List.getElem?_cons_succ, List.set_cons_zero, List.set_cons_succ, V.int.injEq, V.bl.injEq, V.ref.injEq, V.str.injEq, HO.lst.injEq, HO.tup.injEq, Option.some.injEq, exists_eq_left', exists_eq_left, List.cons.injEq, and_true, true_and, decide_eq_true_eq, reduceCtorEq, false_and, exists_false, or_false, false_or, exists_const, and_assoc, exists_and_left, List.append_nil, ix0, ix1, ix2, cm_mod, cdw1009, cdw2003, cdw7, cdw64, cdw2, cm104729, cm2, cm3, upd_same, List.length_cons, List.length_nil, Int.reduceLT, Int.reduceLE, Nat.reduceAdd, Nat.reduceLeDiff, Nat.reduceLT, Int.reduceToNat, r_for1, r_forL, r_forT, r_lcL, r_lc1, r_yes, r_gtupD, wipe_0, wipe_1, List.cons_append, List.nil_append, r_forS, r_ipI, ite_false, ite_true, Bool.not_true, Bool.not_false, decide_true, decide_false, r_isd, r_islt, cD_ty, cD_ref, tD_non, tD_bl, tD_int, tD_str, tD_ref, tH_lst, tH_tup, tH_dK, tH_ins, ki_self, ki_int_bool, ki_non_int, ki_str_int, ki_lt_lst, ki_lt_tup, r_fld, r_sfld, HO.ins.injEq, cx_K, e1, ut, e2]
    refine ⟨tyl e1, szl (by decide : 5 ≤ 1000), fun q hq => ⟨refs.map V.ref, by rw [upd_ne (ne_new e1 hq)]; exact e1, Nat.lt_of_le_of_lt (by rw [List.length_map]; omega : _ ≤ 200000) (by decide), vn all, by rw [upd_ne uT, upd_ne (ne_new ut hq), ut]; rfl, _, by rw [ec]; exact e4, _, by rw [upd_ne LT, upd_ne (ne_new Lt hq), Lt]; rfl, _, by rw [ec, ed]; exact e5, ?_⟩⟩
    refine ⟨⟨j + 1, jl, ec, rfl, rfl, fun y o ny e => ?_, ?_⟩, by omega⟩
    · rw [upd_ne ny, upd_ne (ne_new (k1 y o ny e) hq)]
      exact k1 y o ny e
    · have tk : es.take (j + 1) = es.take j ++ [es.getD j 0] := by
        rw [List.take_succ_eq_append_getElem jl, List.getD_eq_getElem?_getD, List.getElem?_eq_getElem jl]
        rfl
      rw [tk, extR_snoc, ← List.append_assoc, List.length_take, Nat.min_eq_left (Nat.le_of_lt jl)]
      exact IRows.snoc (R := ⟨b + 2 * j, "EXTENDED_ARG", some (es.getD j 0), "", lineOf us (b + 2 * j)⟩) e1 pr hq
  · have cc' := of_decide_eq_false cc
    have e : j = es.length := by
      by_cases q : j < es.length
      · exact absurd (q1 j q).1 cc'
      · omega
    subst e
    rw [List.take_length] at pr
    rw [q2]
    exact k H1 k1 ⟨refs, e1, pr⟩
def t_turn (K : PySem.W.Frag) (CC : Addr) (E : XK) : TS := tSeq (tAsg (tOp rIxd (tVar 6) (tOp (rI CDivW fun i j => V.int (i / j)) (tVar 8) (tC (V.int 2)))) (gName 12)) (tSeq (tAsg (tOp rIxd (tVar 1) (tVar 8)) (gName 13)) (tSeq (t_ext K)
  (tIfS (tTest (tOp (rI0 fun i j => V.bl (decide (i < j))) (tVar 13) (tC (V.int 45))))
    (tDrop (tBM K "list" rAppend (tVar 7) (tCons (tTup (tCons (tVar 8) (tCons (tVar 9) (tCons (tC V.non) (tCons (tC (V.str (Str.ofString ""))) (tCons (tVar 12) tNil)))))) tNil)))
    (tDrop (tBM K "list" rAppend (tVar 7) (tCons (tTup (tCons (tVar 8) (tCons (tVar 9) (tCons (tVar 10) (tCons (tCall (spMeanG K CC) [] E (tCons (tVar 0) (tCons (tVar 9) (tCons (tVar 10) (tCons (tVar 11) tNil))))) (tCons (tVar 12) tNil)))))) tNil))))))
theorem turn_run {Dn : Ends} {E : XK} {CC : Addr} {ls : List Nat} {T : Tb} {v12 v13 : Option V} {H0 : Hp} (ok : p.Ok) (hc : CodeG K CC H0 c all ls T) (S0 : Same H0 H) (hT0 : H0 Td = none) (hu : H u = some (.tup (vn all))) (hL : H Lr = some (.lst (linesV us (all.length / 2)))) (hT : IRows H Td Rs) (PA : PAt all b p) (he : b + p.bytes.length ≤ all.length)
    (hl : all.length ≤ 4000) (hz : Rs.length ≤ 4000) (LT : Lr ≠ Td) (hm : 45 ≤ p.num → ∃ t, meanF T p.w p.n (b + p.bytes.length) = some t)
    (k : ∀ v8 v12 v13 H', Stay Td H H' → IRows H' Td (Rs ++ (extR (lineOf us) (exL p.n) b ++ [lastR T (lineOf us) p b])) → Dn.nx [some (.ref c), some (.ref u), some (.ref B), some (.ref W), some (.ref A), some .non, some (.ref Lr), some (.ref Td), v8, some (.str p.w), some (.int (p.n : Int)), some (.int ((b + p.bytes.length : Nat) : Int)), v12, v13] H') :
    t_turn K CC E Dn [some (.ref c), some (.ref u), some (.ref B), some (.ref W), some (.ref A), some .non, some (.ref Lr), some (.ref Td), some (.int (b : Int)), some (.str p.w), some (.int (p.n : Int)), some (.int ((b + p.bytes.length : Nat) : Int)), v12, v13] H := by
  unfold t_turn
  have le := PA.le
  have hes := (exts_es ok.n).2.1
  have e1 : atI (vn all) (b : Int) = some (.int ((all.getD b 0 : Nat) : Int)) := vn_at (by omega)
  have ed : (b : Int) / 2 = ((b / 2 : Nat) : Int) := by omega
  have e5 := lines_at (us := us) (m := all.length / 2) (u := b / 2) (b := b) (by omega) rfl
  simp only [r_seq, r_next, r_brk, r_cont, r_asg, r_name, r_ret, r_retN, r_drop, r_ifs, r_never, r_var, r_c, r_op, r_un, r_if, r_tst, r_b, r_not, r_and, r_or, r_andV, r_orV, r_notV, r_nil, r_cons, r_tup, r_lst, r_cb, r_call, r_bm, r_bm0, r_sl, r_nopart, r_part, r_rev, r_gnil, r_gcons, r_gsub, r_par, r_aug, r_chain, r_I0, r_I, r_U, r_ixd, r_lend, r_tupd, r_listd, r_sld, r_app, r_ext, r_reverse, r_setl, r_cat, r_int1, r_eqS, r_neS, scal_ii, scal_bb, scal_ss, at0, at1, at2, sq_lst, sq_tup, isLst_lst, List.getElem?_cons_zero, List.getElem?_cons_succ, List.set_cons_zero, List.set_cons_succ, V.int.injEq, V.bl.injEq, V.ref.injEq, V.str.injEq, HO.lst.injEq, HO.tup.injEq, Option.some.injEq, exists_eq_left', exists_eq_left, List.cons.injEq, and_true, true_and, decide_eq_true_eq, reduceCtorEq, false_and, exists_false, or_false, false_or, exists_const, and_assoc, exists_and_left, List.append_nil, ix0, ix1, ix2, cm_mod, cdw1009, cdw2003, cdw7, cdw64, cdw2, cm104729, cm2, cm3, upd_same, List.length_cons, List.length_nil, Int.reduceLT, Int.reduceLE, Nat.reduceAdd, Nat.reduceLeDiff, Nat.reduceLT, Int.reduceToNat, r_for1, r_forL, r_forT, r_lcL, r_lc1, r_yes, r_gtupD, wipe_0, wipe_1, List.cons_append, List.nil_append, r_forS, r_ipI, ite_false, ite_true, Bool.not_true, Bool.not_false, decide_true, decide_false, r_isd, r_islt, cD_ty, cD_ref, tD_non, tD_bl, tD_int, tD_str, tD_ref, tH_lst, tH_tup, tH_dK, tH_ins, ki_self, ki_int_bool, ki_non_int, ki_str_int, ki_lt_lst, ki_lt_tup, r_fld, r_sfld, HO.ins.injEq, cx_K, hL, hu, e1, ed, e5]
  refine ext_run hu hL hT PA hes ok.ne hl (by omega) LT fun H' st hT' => ?_
  have sH : Same H0 H' := fun y o q => st y o (fun z => by rw [z, hT0] at q; cases q) (S0 y o q)
  obtain ⟨refs, e2, pr⟩ := hT'
  have lr := Paired.length pr
  have el : (Rs ++ extR (lineOf us) (exL p.n) b).length ≤ 4010 := by
    have h3 : ∀ (es : List Nat) (b : Nat), (extR (lineOf us) es b).length = es.length := by
      intro es
      induction es with
      | nil => exact fun _ => rfl
      | cons x es ih =>
        intro b
        show (extR (lineOf us) es (b + 2)).length + 1 = es.length + 1
        rw [ih]
    rw [List.length_append, h3]
    omega
  simp only [r_seq, r_next, r_brk, r_cont, r_asg, r_name, r_ret, r_retN, r_drop, r_ifs, r_never, r_var, r_c, r_op, r_un, r_if, r_tst, r_b, r_not, r_and, r_or, r_andV, r_orV, r_notV, r_nil, r_cons, r_tup, r_lst, r_cb, r_call, r_bm, r_bm0, r_sl, r_nopart, r_part, r_rev, r_gnil, r_gcons, r_gsub, r_par, r_aug, r_chain, r_I0, r_I, r_U, r_ixd, r_lend, r_tupd, r_listd, r_sld, r_app, r_ext, r_reverse, r_setl, r_cat, r_int1, r_eqS, r_neS, scal_ii, scal_bb, scal_ss, at0, at1, at2, sq_lst, sq_tup, isLst_lst, List.getElem?_cons_zero, List.getElem?_cons_succ, List.set_cons_zero, List.set_cons_succ, V.int.injEq, V.bl.injEq, V.ref.injEq, V.str.injEq, HO.lst.injEq, HO.tup.injEq, Option.some.injEq, exists_eq_left', exists_eq_left, List.cons.injEq, and_true, true_and, decide_eq_true_eq, reduceCtorEq, false_and, exists_false, or_false, false_or, exists_const, and_assoc, exists_and_left, List.append_nil, ix0, ix1, ix2, cm_mod, cdw1009, cdw2003, cdw7, cdw64, cdw2, cm104729, cm2, cm3, upd_same, List.length_cons, List.length_nil, Int.reduceLT, Int.reduceLE, Nat.reduceAdd, Nat.reduceLeDiff, Nat.reduceLT, Int.reduceToNat, r_for1, r_forL, r_forT, r_lcL, r_lc1, r_yes, r_gtupD, wipe_0, wipe_1, List.cons_append, List.nil_append, r_forS, r_ipI, ite_false, ite_true, Bool.not_true, Bool.not_false, decide_true, decide_false, r_isd, r_islt, cD_ty, cD_ref, tD_non, tD_bl, tD_int, tD_str, tD_ref, tH_lst, tH_tup, tH_dK, tH_ins, ki_self, ki_int_bool, ki_non_int, ki_str_int, ki_lt_lst, ki_lt_tup, r_fld, r_sfld, HO.ins.injEq, cx_K]
  have fin : ∀ {H2 : Hp} {q : Addr} {t : Str} {a : Option Nat}, Stay Td H' H2 → H2 Td = some (.lst (refs.map V.ref)) → Paired (fun r R => r ≠ Td ∧ H2 r = some (.tup (irV R))) refs (Rs ++ extR (lineOf us) (exL p.n) b) → H2 q = none → (if p.num < 45 then none else some p.n) = a → (if p.num < 45 then Str.ofString "" else (meanF T p.w p.n (b + p.bytes.length)).getD (Str.ofString "")) = t → ∀ v8 v12 v13,
      Dn.nx [some (.ref c), some (.ref u), some (.ref B), some (.ref W), some (.ref A), some .non, some (.ref Lr), some (.ref Td), v8, some (.str p.w), some (.int (p.n : Int)), some (.int ((b + p.bytes.length : Nat) : Int)), v12, v13]
        (L2.upd (L2.upd H2 q (.tup [.int ((b + 2 * (exL p.n).length : Nat) : Int), .str p.w, aV a, .str t, lnV (lineOf us (b + 2 * (exL p.n).length))])) Td (.lst (refs.map V.ref ++ [.ref q]))) := fun {H2 q t a} k2 f2 pr2 hq ea et v8 v12 v13 => by
    refine k v8 v12 v13 _ (fun y o ny e => ?_) ?_
    · have e3 := k2 y o ny (st y o ny e)
      rw [upd_ne ny, upd_ne (ne_new e3 hq)]
      exact e3
    · rw [← List.append_assoc]
      have := IRows.snoc (R := lastR T (lineOf us) p b) f2 pr2 hq
      have eR : irV (lastR T (lineOf us) p b) = [.int ((b + 2 * (exL p.n).length : Nat) : Int), .str p.w, aV a, .str t, lnV (lineOf us (b + 2 * (exL p.n).length))] := by
        unfold lastR irV
        rw [← ea, ← et]
      rw [eR] at this
      exact this
  by_cases c45 : p.num < 45
  · rw [if_pos (by omega)]
    refine ⟨tyl e2, szl (by decide : 5 ≤ 1000), fun q hq => ⟨refs.map V.ref, by rw [upd_ne (ne_new e2 hq)]; exact e2, Nat.lt_of_le_of_lt (by rw [List.length_map]; omega : _ ≤ 200000) (by decide), ?_⟩⟩
    exact fin (a := none) (t := "") (Keep.refl Td H') e2 pr hq (by rw [if_pos c45]) (by rw [if_pos c45]) _ _ _
  · rw [if_neg (by omega)]
    obtain ⟨t, ht⟩ := hm (by omega)
    have b40 : 2 * p.n + (b + p.bytes.length) < 2 ^ 40 := by have := ok.n; omega
    refine ⟨tyl e2, c, all, ls, T, p.w, p.n, b + p.bytes.length, t, rfl, (wd_hu _ _ _ ok.w).2, hc.same sH, Nat.lt_trans b40 (Nat.pow_lt_pow_right (by decide) (by decide)), ht, fun H2 s2 => ?_⟩
    have h2 := s2 _ _ e2
    refine ⟨szl (by decide : 5 ≤ 1000), fun q hq => ⟨refs.map V.ref, by rw [upd_ne (ne_new h2 hq)]; exact h2, Nat.lt_of_le_of_lt (by rw [List.length_map]; omega : _ ≤ 200000) (by decide), ?_⟩⟩
    exact fin (a := some p.n) (t := t) (Keep.same s2) h2 (Paired.map' pr fun r R h => ⟨h.1, s2 _ _ h.2⟩) hq (by rw [if_neg c45]) (by rw [if_neg c45, ht]; rfl) _ _ _
end
end C57

set_option maxHeartbeats 2000000
namespace C57
open PySem PySem.Spec PyProof.Rows L2 StrLaws
/-! ### all instructions of a code, told -/
def spInstrG (K : PySem.W.Frag) (CC : Addr) : Sp := fun vs H Q _ => ∃ (c : Addr) (ps : List Pk) (ls : List Nat) (us : List (Option Int)) (T : Tb), vs = [.ref c] ∧ CodeG K CC H c (ps.map Pk.bytes).flatten ls T ∧ ps ≠ [] ∧ (∀ p ∈ ps, p.Ok) ∧ (ps.map Pk.bytes).flatten.length ≤ 4000 ∧ ps.length ≤ 900 ∧ TabU ls us ∧
  (∀ i (h : i < ps.length), 45 ≤ ps[i].num → ∃ t, meanF T ps[i].w ps[i].n (offs ps (i + 1)) = some t) ∧ ∀ F H', H F = none → Same H H' → IRows H' F (rowsP T (lineOf us) ps 0) → Q (.ref F) H'
theorem wrong_none {ps : List Pk} (ok : ∀ p ∈ ps, p.Ok) (ne : ps ≠ []) : (cutF wdF (ps.map Pk.bytes).flatten (ps.map Pk.bytes).flatten.length 0).1 = cutsOf ps 0 ∧ wrongF wdF (ps.map Pk.bytes).flatten = none := by
  have := cut_exact ps [] (ps.map Pk.bytes).flatten.length ok (by simp)
  simp only [List.nil_append, List.length_nil] at this
  refine ⟨by rw [this], ?_⟩
  unfold wrongF
  rw [if_neg, this]
  intro z
  cases ps with
  | nil => exact ne rfl
  | cons p ps =>
    rw [List.map_cons, List.flatten_cons] at z
    exact packN_ne (List.append_eq_nil_iff.mp z).1
theorem flat_b {ps : List Pk} (ok : ∀ p ∈ ps, p.Ok) : ∀ x ∈ (ps.map Pk.bytes).flatten, x < 256 := fun x hx => by
  obtain ⟨l, hl, hx⟩ := List.mem_flatten.mp hx
  obtain ⟨p, hp, rfl⟩ := List.mem_map.mp hl
  exact packN_lt (ok p hp).lt (ok p hp).n x hx
theorem cutV_one (xs : List V) : cutV xs (some 1) none = xs.tail := by
  cases xs with
  | nil => rfl
  | cons x xs => exact cut_tail x xs
section
variable {P : Program} {w : World} {K : PySem.W.Frag} {mg : Str → Option Value} {base : Heap} {f : Addr} {fd : FuncData}
abbrev sinstructions : Stmt := top 59
theorem scinstructions : FnScope ["code", "data", "begins", "words", "arguments", "wrong", "lines", "told", "begin", "word", "argument", "end", "line", "number"] ["code"] (defScope sinstructions) := ⟨rfl, rfl, rfl, by decide +kernel, rfl, by decide +kernel, by decide +kernel⟩

theorem ok_instructions {CC CN : Addr} (T : Txt mg) (T2 : Txt2 mg) (I : CodeT K mg CC) (yes : PySem.W.kitOne K (.ref CC) (.ref CC) = some true) (X_NoCode : Exn P w K mg base "NoCode" CN "field") (F : FnP K "instructions" "instructions" sinstructions f fd)
    (C_cut : Cal P w K mg base 2 "cut" ["data"] (spCut wdF)) (C_lines_of : Cal P w K mg base 4 "lines_of" ["code"] (spLinesOf CC)) (G_meaning : CalG P w K mg base (CX P w) 3 "meaning_of" ["code", "word", "argument", "end"] (spMeanG K CC)) : FnG P w K mg base (CX P w) 5 f fd ["code"] (spInstrG K CC) := by
  refine okG F scinstructions (fun vs H Q E h => ?_) (fun cdv A outer s H vs Q E gd hr h => ?_)
  · obtain ⟨c, ps, ls, us, Tt, rfl, _⟩ := h
    rfl
  · refine ⟨_, (pss_cons (ps_if (pt_not (pt_val (pe_callB (call_is_d I.cI) (by rfl) T.b_isinstance (by decide +kernel) (pa_cons (pv 0) (pa_cons (pe_glob (v := .ref _) rfl I.g_Code rfl) pa_nil)))))
    (pss_one (ps_raise rfl (takes_of rfl rfl rfl rfl) (pmk_x X_NoCode (hr.mono (by decide)) rfl pe_str)))
    pss_nil)
  (pss_cons (ps_set (i := 1) scinstructions.nd rfl (Or.inl rfl) (pe_fld (pv 0) rfl))
  (pss_cons (ps_asg (pe_cal C_cut (hr.mono (by decide)) rfl (pa_cons (pv 1) pa_nil)) (pg_tupD (n := 4) rfl (pgs_cons (pg_name (i := 2) scinstructions.nd rfl (Or.inl rfl)) (pgs_cons (pg_name (i := 3) scinstructions.nd rfl (Or.inl rfl)) (pgs_cons (pg_name (i := 4) scinstructions.nd rfl (Or.inl rfl)) (pgs_cons (pg_name (i := 5) scinstructions.nd rfl (Or.inl rfl)) pgs_nil))))))
  (pss_cons (ps_if (pt_cmpR op_notN (pv 5) pe_non (nomark _))
    (pss_one (ps_raise rfl (takes_of rfl rfl rfl rfl) (pmk_x X_NoCode (hr.mono (by decide)) rfl pe_str)))
    pss_nil)
  (pss_cons (ps_set (i := 6) scinstructions.nd rfl (Or.inl rfl) (pe_cal C_lines_of (hr.mono (by decide)) rfl (pa_cons (pv 0) pa_nil)))
  (pss_cons (ps_set (i := 7) scinstructions.nd rfl (Or.inl rfl) (pe_lst pa_nil))
  (pss_cons (ps_for (passes_of rfl) rfl (Z4.pi_zip4 rfl T.b_zip (pa_cons (pv 2) (pa_cons (pv 3) (pa_cons (pv 4) (pa_cons (pe_lst (pa_starD (pe_slice sl_d (pv 2) (po_some pe_int) po_none) (pa_cons (pe_callB call_len_d (by rfl) T.b_len (by decide +kernel) (pa_cons (pv 1) pa_nil)) pa_nil))) pa_nil))))) (pg_tupD (n := 4) rfl (pgs_cons (pg_name (i := 8) scinstructions.nd rfl (Or.inl rfl)) (pgs_cons (pg_name (i := 9) scinstructions.nd rfl (Or.inl rfl)) (pgs_cons (pg_name (i := 10) scinstructions.nd rfl (Or.inl rfl)) (pgs_cons (pg_name (i := 11) scinstructions.nd rfl (Or.inl rfl)) pgs_nil)))))
    (pss_cons (ps_set (i := 12) scinstructions.nd rfl (Or.inl rfl) (pe_ix ix_d (pv 6) (pe_op op_fdivW (pv 8) pe_int) (fun _ _ => rfl)))
  (pss_cons (ps_set (i := 13) scinstructions.nd rfl (Or.inl rfl) (pe_ix ix_d (pv 1) (pv 8) (fun _ _ => rfl)))
  (pss_cons (ps_while (passes_of rfl) (pt_cmpR op_eq (pv 13) (pe_gi T2.g_EXTENDED_ARG) (nomark _))
    (pss_cons (ps_expr (pe_bm PySem.F.plainAttrs_list PySem.F.slot_list_append PySem.F.type_list_append mt_append (pv 7) (pa_cons (pe_tup (pa_cons (pv 8) (pa_cons pe_str (pa_cons (pe_ix ix_d (pv 1) (pe_op op_add (pv 8) pe_int) (fun _ _ => rfl)) (pa_cons pe_str (pa_cons (pv 12) pa_nil)))))) pa_nil)))
  (pss_cons (ps_aug (i := 8) scinstructions.nd rfl (.inl rfl) pe_int ip_add)
  (pss_cons (ps_set (i := 13) scinstructions.nd rfl (Or.inl rfl) (pe_ix ix_d (pv 1) (pv 8) (fun _ _ => rfl)))
  (pss_one (ps_set (i := 12) scinstructions.nd rfl (Or.inl rfl) (pe_ix ix_d (pv 6) (pe_op op_fdivW (pv 8) pe_int) (fun _ _ => rfl))))))))
  (pss_one (ps_if (pt_cmpR op_lt (pv 13) (pe_gi T2.g_FIRST) (nomark _))
    (pss_one (ps_expr (pe_bm PySem.F.plainAttrs_list PySem.F.slot_list_append PySem.F.type_list_append mt_append (pv 7) (pa_cons (pe_tup (pa_cons (pv 8) (pa_cons (pv 9) (pa_cons pe_non (pa_cons pe_str (pa_cons (pv 12) pa_nil)))))) pa_nil))))
    (pss_one (ps_expr (pe_bm PySem.F.plainAttrs_list PySem.F.slot_list_append PySem.F.type_list_append mt_append (pv 7) (pa_cons (pe_tup (pa_cons (pv 8) (pa_cons (pv 9) (pa_cons (pv 10) (pa_cons (pe_calG G_meaning gd (hr.mono (by decide)) rfl (passes_call (takes_of rfl rfl rfl rfl) (fun _ _ _ _ z => z)) (pa_cons (pv 0) (pa_cons (pv 9) (pa_cons (pv 10) (pa_cons (pv 11) pa_nil))))) (pa_cons (pv 12) pa_nil)))))) pa_nil))))))))))
  (pss_one (ps_ret (pv 7)))))))))), ?_⟩
    obtain ⟨c, ps, ls, us, Tt, rfl, hc, ne, ok, hl, hps, tb, hm, k⟩ := h
    have hb := flat_b ok
    obtain ⟨hcut, hw⟩ := wrong_none ok ne
    obtain ⟨all, hall⟩ : ∃ all, all = (ps.map Pk.bytes).flatten := ⟨_, rfl⟩
    rw [← hall] at hc hl hb hcut hw
    show (_ : TS) _ [some (.ref c), none, none, none, none, none, none, none, none, none, none, none, none, none] H
    obtain ⟨⟨dx, fs, t, u, nm, v, kk, ks, h1, h2, h3, h4, h5, h6, h7, h8, h9, h10, h11, h12, h13⟩, tok⟩ := id hc
    have na := I.na "code" (by decide)
    have cl := I.cI.cl
    simp only [r_seq, r_next, r_brk, r_cont, r_asg, r_name, r_ret, r_retN, r_drop, r_ifs, r_never, r_var, r_c, r_op, r_un, r_if, r_tst, r_b, r_not, r_and, r_or, r_andV, r_orV, r_notV, r_nil, r_cons, r_tup, r_lst, r_cb, r_call, r_bm, r_bm0, r_sl, r_nopart, r_part, r_rev, r_gnil, r_gcons, r_gsub, r_par, r_aug, r_chain, r_I0, r_I, r_U, r_ixd, r_lend, r_tupd, r_listd, r_sld, r_app, r_ext, r_reverse, r_setl, r_cat, r_int1, r_eqS, r_neS, scal_ii, scal_bb, scal_ss, at0, at1, at2, sq_lst, sq_tup, isLst_lst, List.getElem?_cons_zero, List.getElem?_cons_succ, List.set_cons_zero, List.set_cons_succ, V.int.injEq, V.bl.injEq, V.ref.injEq, V.str.injEq, HO.lst.injEq, HO.tup.injEq, Option.some.injEq, exists_eq_left', exists_eq_left, List.cons.injEq, and_true, true_and, decide_eq_true_eq, reduceCtorEq, false_and, exists_false, or_false, false_or, exists_const, and_assoc, exists_and_left, List.append_nil, ix0, ix1, ix2, cm_mod, cdw1009, cdw2003, cdw7, cdw64, cdw2, cm104729, cm2, cm3, upd_same, List.length_cons, List.length_nil, Int.reduceLT, Int.reduceLE, Nat.reduceAdd, Nat.reduceLeDiff, Nat.reduceLT, Int.reduceToNat, r_for1, r_forL, r_forT, r_lcL, r_lc1, r_yes, r_gtupD, wipe_0, wipe_1, List.cons_append, List.nil_append, r_forS, r_ipI, ite_false, ite_true, Bool.not_true, Bool.not_false, decide_true, decide_false, r_isd, r_islt, cD_ty, cD_ref, tD_non, tD_bl, tD_int, tD_str, tD_ref, tH_lst, tH_tup, tH_dK, tH_ins, ki_self, ki_int_bool, ki_non_int, ki_str_int, ki_lt_lst, ki_lt_tup, r_fld, r_sfld, HO.ins.injEq, cx_K]
    refine ⟨.ref CC, by simp [tyD, tyH, h1], true, yes, ?_⟩
    rw [if_neg (by decide)]
    refine ⟨CC, dx, fs, h1, cl, na, .ref u, h5, u, all, rfl, h6, hl, hb, fun p B W A H1 hp s1 hp1 cu => ⟨p, rfl, _, hp1, rfl, _, _, rfl, _, _, rfl, _, _, rfl, _, _, rfl, rfl, ?_⟩⟩
    rw [hw, if_neg (by simp [wrV])]
    refine ⟨c, dx, fs, t, u, all, ls, us, rfl, s1 _ _ h1, h2, h3, s1 _ _ h4, h5, s1 _ _ h6, hl, tb, fun Lr H2 hL s2 hlr => ⟨szl (by decide), fun Td hT => ?_⟩⟩
    have s12 : Same H H2 := fun y o e => s2 y o (s1 y o e)
    have s3 : Same H2 _ := Same.new' (o := .lst []) (Same.refl H2) hT
    rw [hcut] at cu
    have bB := s3 _ _ (s2 _ _ cu.b)
    have bW := s3 _ _ (s2 _ _ cu.w)
    have bA := s3 _ _ (s2 _ _ cu.a)
    have bu := s3 _ _ (s12 _ _ h6)
    have bL := s3 _ _ hlr
    have bT : L2.upd H2 Td (.lst []) Td = some (.lst []) := upd_same
    have sG : Same H (L2.upd H2 Td (.lst [])) := fun y o e => s3 y o (s12 y o e)
    have hT0 : H Td = none := s12.free hT
    have LT : Lr ≠ Td := ne_new hlr hT
    have nB : B ≠ Td := ne_new (s2 _ _ cu.b) hT
    have nW : W ≠ Td := ne_new (s2 _ _ cu.w) hT
    have nA : A ≠ Td := ne_new (s2 _ _ cu.a) hT
    generalize L2.upd H2 Td (.lst []) = G at *
    simp only [r_seq, r_next, r_brk, r_cont, r_asg, r_name, r_ret, r_retN, r_drop, r_ifs, r_never, r_var, r_c, r_op, r_un, r_if, r_tst, r_b, r_not, r_and, r_or, r_andV, r_orV, r_notV, r_nil, r_cons, r_tup, r_lst, r_cb, r_call, r_bm, r_bm0, r_sl, r_nopart, r_part, r_rev, r_gnil, r_gcons, r_gsub, r_par, r_aug, r_chain, r_I0, r_I, r_U, r_ixd, r_lend, r_tupd, r_listd, r_sld, r_app, r_ext, r_reverse, r_setl, r_cat, r_int1, r_eqS, r_neS, scal_ii, scal_bb, scal_ss, at0, at1, at2, sq_lst, sq_tup, isLst_lst, List.getElem?_cons_zero, List.getElem?_cons_succ, List.set_cons_zero, List.set_cons_succ, V.int.injEq, V.bl.injEq, V.ref.injEq, V.str.injEq, HO.lst.injEq, HO.tup.injEq, Option.some.injEq, exists_eq_left', exists_eq_left, List.cons.injEq, and_true, true_and, decide_eq_true_eq, reduceCtorEq, false_and, exists_false, or_false, false_or, exists_const, and_assoc, exists_and_left, List.append_nil, ix0, ix1, ix2, cm_mod, cdw1009, cdw2003, cdw7, cdw64, cdw2, cm104729, cm2, cm3, upd_same, List.length_cons, List.length_nil, Int.reduceLT, Int.reduceLE, Nat.reduceAdd, Nat.reduceLeDiff, Nat.reduceLT, Int.reduceToNat, r_for1, r_forL, r_forT, r_lcL, r_lc1, r_yes, r_gtupD, wipe_0, wipe_1, List.cons_append, List.nil_append, r_forS, r_ipI, ite_false, ite_true, Bool.not_true, Bool.not_false, decide_true, decide_false, r_isd, r_islt, cD_ty, cD_ref, tD_non, tD_bl, tD_int, tD_str, tD_ref, tH_lst, tH_tup, tH_dK, tH_ins, ki_self, ki_int_bool, ki_non_int, ki_str_int, ki_lt_lst, ki_lt_tup, r_fld, r_sfld, HO.ins.injEq, cx_K, r_forZ, r_starD, bB, bu]
    obtain ⟨cs, hcs⟩ : ∃ cs, cs = cutsOf ps 0 := ⟨_, rfl⟩
    have csl : cs.length = ps.length := by rw [hcs, cutsOf_len]
    have csg : ∀ i (h : i < ps.length), cs[i]? = some (offs ps i, ps[i].w, ps[i].n) := fun i h => by rw [hcs, cutsOf_get ps 0 i h, Nat.zero_add]
    rw [← hcs] at bB bW bA ⊢
    clear hcs
    intro p1 hp1'
    have s4 := Same.new' (o := .lst (cutV (vn (cs.map (·.1))) (some 1) none)) (Same.refl G) hp1'
    refine ⟨vn all, by rw [s4 _ _ bu]; rfl, ?_, fun p2 hp2 => ?_⟩
    · rw [cutV_one, List.length_append, List.length_tail, vn_len, List.length_map]
      exact Nat.le_trans (by simp; omega : _ ≤ 2000) (by decide)
    have s5 := Same.new' (o := .lst (cutV (vn (cs.map (·.1))) (some 1) none ++ [.int ((vn all).length : Int)])) (Same.refl (L2.upd G p1 (.lst (cutV (vn (cs.map (·.1))) (some 1) none)))) hp2
    have q5 : L2.upd (L2.upd G p1 (.lst (cutV (vn (cs.map (·.1))) (some 1) none))) p2 (.lst (cutV (vn (cs.map (·.1))) (some 1) none ++ [.int ((vn all).length : Int)])) p2 = some (.lst (cutV (vn (cs.map (·.1))) (some 1) none ++ [.int ((vn all).length : Int)])) := upd_same
    have np : p2 ≠ Td := (ne_new (s4 _ _ bT) hp2).symm
    have bB2 := s5 _ _ (s4 _ _ bB)
    have bW2 := s5 _ _ (s4 _ _ bW)
    have bA2 := s5 _ _ (s4 _ _ bA)
    have bu2 := s5 _ _ (s4 _ _ bu)
    have bL2 := s5 _ _ (s4 _ _ bL)
    have bT2 := s5 _ _ (s4 _ _ bT)
    have sG2 : Same H _ := fun y o e => s5 y o (s4 y o (sG y o e))
    rw [cutV_one] at *
    generalize L2.upd (L2.upd G p1 (.lst (vn (cs.map (·.1))).tail)) p2 (.lst ((vn (cs.map (·.1))).tail ++ [.int ((vn all).length : Int)])) = G2 at *
    have cl0 : 0 < ps.length := List.length_pos_iff.mpr ne
    have key : LoopR (Z4.It4 K B W A p2) (gTupD 4 (gCons (gName 8) (gCons (gName 9) (gCons (gName 10) (gCons (gName 11) gNil))))) (t_turn K CC E) { nx := tRet (tVar 7) { nx := fun x H' => Q V.non H', rt := Q }, rt := Q }
        [some (.ref c), some (.ref u), some (.ref B), some (.ref W), some (.ref A), some .non, some (.ref Lr), some (.ref Td), none, none, none, none, none, none] G2 := by
      refine lp_zip4 (xs := vn (cs.map (·.1))) (ys := cs.map fun x => V.str x.2.1) (zs := vn (cs.map (·.2.2))) (ws := (vn (cs.map (·.1))).tail ++ [.int ((vn all).length : Int)]) ?_ ?_ ?_
        (fun i σ H' => (∃ v8 v9 v10 v11 v12 v13, σ = [some (.ref c), some (.ref u), some (.ref B), some (.ref W), some (.ref A), some .non, some (.ref Lr), some (.ref Td), v8, v9, v10, v11, v12, v13]) ∧ Stay Td G2 H' ∧ IRows H' Td (rowsP Tt (lineOf us) (ps.take i) 0))
        ⟨⟨_, _, _, _, _, _, rfl⟩, Keep.refl Td G2, [], bT2, .nil⟩ ?_ ?_ ?_
      · rw [vn_len, List.length_map, List.length_map]
      · rw [vn_len, vn_len, List.length_map, List.length_map]
      · rw [List.length_append, List.length_tail, vn_len, List.length_map, List.length_singleton]
        omega
      · rintro i σ H' ⟨_, st, _⟩
        exact ⟨SqL.of (st _ _ nB bB2), SqL.of (st _ _ nW bW2), SqL.of (st _ _ nA bA2), SqL.of (st _ _ np q5)⟩
      · rintro i hi TT σ H' ⟨⟨v8, v9, v10, v11, v12, v13, rfl⟩, st, hR⟩ hT'
        have hi' : i < ps.length := by rw [vn_len, List.length_map] at hi; omega
        have hic : i < cs.length := by omega
        have ci : cs[i] = (offs ps i, ps[i].w, ps[i].n) := by
          have := csg i hi'
          rw [List.getElem?_eq_getElem hic] at this
          exact Option.some.inj this
        have x0 : (vn (cs.map (·.1)))[i] = .int ((offs ps i : Nat) : Int) := by simp [vn, ci]
        have x1 : (cs.map fun x => V.str x.2.1)[i]'(by rw [List.length_map]; exact hic) = .str ps[i].w := by simp [ci]
        have x2 : (vn (cs.map (·.2.2)))[i]'(by rw [vn_len, List.length_map]; exact hic) = .int ((ps[i].n : Nat) : Int) := by simp [vn, ci]
        have x3 : ((vn (cs.map (·.1))).tail ++ [.int ((vn all).length : Int)])[i]'(by rw [List.length_append, List.length_tail, vn_len, List.length_map, List.length_singleton]; omega) = .int ((offs ps (i + 1) : Nat) : Int) := by
          by_cases c1 : i + 1 < ps.length
          · have e2 : ((vn (cs.map (·.1))).tail ++ [V.int ((vn all).length : Int)])[i]? = some (.int ((offs ps (i + 1) : Nat) : Int)) := by
              rw [List.getElem?_append_left (by rw [List.length_tail, vn_len, List.length_map]; omega), List.getElem?_tail]
              unfold vn
              rw [List.getElem?_map, List.getElem?_map, csg (i + 1) c1]
              rfl
            exact Option.some.inj ((List.getElem?_eq_getElem _).symm.trans e2)
          · have e3 : i = (vn (cs.map (·.1))).tail.length := by rw [List.length_tail, vn_len, List.length_map]; omega
            have e2 : ((vn (cs.map (·.1))).tail ++ [V.int ((vn all).length : Int)])[i]? = some (.int ((offs ps (i + 1) : Nat) : Int)) := by
              rw [List.getElem?_append_right (by omega), e3, Nat.sub_self, vn_len, hall, ← offs_all, show ps.length = i + 1 from by omega, ← e3]
              rfl
            exact Option.some.inj ((List.getElem?_eq_getElem _).symm.trans e2)
        rw [x0, x1, x2, x3, offs_succ hi']
        have sT := Same.new' (o := .tup [.int ((offs ps i : Nat) : Int), .str ps[i].w, .int ((ps[i].n : Nat) : Int), .int ((offs ps i + ps[i].bytes.length : Nat) : Int)]) (Same.refl H') hT'
        have tT : L2.upd H' TT (.tup [.int ((offs ps i : Nat) : Int), .str ps[i].w, .int ((ps[i].n : Nat) : Int), .int ((offs ps i + ps[i].bytes.length : Nat) : Int)]) TT = some (.tup [.int ((offs ps i : Nat) : Int), .str ps[i].w, .int ((ps[i].n : Nat) : Int), .int ((offs ps i + ps[i].bytes.length : Nat) : Int)]) := upd_same
        generalize L2.upd H' TT (.tup [.int ((offs ps i : Nat) : Int), .str ps[i].w, .int ((ps[i].n : Nat) : Int), .int ((offs ps i + ps[i].bytes.length : Nat) : Int)]) = G3 at *
        simp only [r_seq, r_next, r_brk, r_cont, r_asg, r_name, r_ret, r_retN, r_drop, r_ifs, r_never, r_var, r_c, r_op, r_un, r_if, r_tst, r_b, r_not, r_and, r_or, r_andV, r_orV, r_notV, r_nil, r_cons, r_tup, r_lst, r_cb, r_call, r_bm, r_bm0, r_sl, r_nopart, r_part, r_rev, r_gnil, r_gcons, r_gsub, r_par, r_aug, r_chain, r_I0, r_I, r_U, r_ixd, r_lend, r_tupd, r_listd, r_sld, r_app, r_ext, r_reverse, r_setl, r_cat, r_int1, r_eqS, r_neS, scal_ii, scal_bb, scal_ss, at0, at1, at2, sq_lst, sq_tup, isLst_lst, List.getElem?_cons_zero, List.getElem?_cons_succ, List.set_cons_zero, List.set_cons_succ, V.int.injEq, V.bl.injEq, V.ref.injEq, V.str.injEq, HO.lst.injEq, HO.tup.injEq, Option.some.injEq, exists_eq_left', exists_eq_left, List.cons.injEq, and_true, true_and, decide_eq_true_eq, reduceCtorEq, false_and, exists_false, or_false, false_or, exists_const, and_assoc, exists_and_left, List.append_nil, ix0, ix1, ix2, cm_mod, cdw1009, cdw2003, cdw7, cdw64, cdw2, cm104729, cm2, cm3, upd_same, List.length_cons, List.length_nil, Int.reduceLT, Int.reduceLE, Nat.reduceAdd, Nat.reduceLeDiff, Nat.reduceLT, Int.reduceToNat, r_for1, r_forL, r_forT, r_lcL, r_lc1, r_yes, r_gtupD, wipe_0, wipe_1, List.cons_append, List.nil_append, r_forS, r_ipI, ite_false, ite_true, Bool.not_true, Bool.not_false, decide_true, decide_false, r_isd, r_islt, cD_ty, cD_ref, tD_non, tD_bl, tD_int, tD_str, tD_ref, tH_lst, tH_tup, tH_dK, tH_ins, ki_self, ki_int_bool, ki_non_int, ki_str_int, ki_lt_lst, ki_lt_tup, r_fld, r_sfld, HO.ins.injEq, cx_K, tT]
        have sH' : Same H H' := fun y o q => st y o (fun z => by rw [z, hT0] at q; cases q) (sG2 y o q)
        have u1 : u ≠ Td := fun z => by rw [z, hT0] at h6; cases h6
        obtain ⟨pre, post, ea, pl⟩ := split_at hi'
        have okp := ok ps[i] (List.getElem_mem hi')
        have PA : PAt all (offs ps i) ps[i] := by
          rw [hall, ea, ← pl]
          exact pat_of okp pre post
        have he : offs ps i + ps[i].bytes.length ≤ all.length := by
          rw [hall, ea, ← pl, List.length_append, List.length_append]
          omega
        obtain ⟨refs, er, pr⟩ := hR
        have rl := rowsP_len Tt (lineOf us) (ps.take i) 0 fun q hq => ok q (List.mem_of_mem_take hq)
        have tl : (ps.take i).length ≤ 900 := by rw [List.length_take]; omega
        have R3 : IRows G3 Td (rowsP Tt (lineOf us) (ps.take i) 0) := ⟨refs, sT _ _ er, Paired.map' pr fun r R h => ⟨h.1, sT _ _ h.2⟩⟩
        refine turn_run okp hc (fun y o q => sT y o (sH' y o q)) hT0 (sT _ _ (st _ _ u1 bu2)) (sT _ _ (st _ _ LT bL2)) R3 PA he hl (by omega) LT (fun h45 => ?_) (fun w8 w12 w13 H4 st2 hR4 => ⟨⟨_, _, _, _, _, _, rfl⟩, fun y o ny q => st2 y o ny (sT y o (st y o ny q)), ?_⟩)
        · have := hm i hi' h45
          rwa [offs_succ hi'] at this
        · rw [List.take_succ_eq_append_getElem hi', rowsP_snoc, Nat.zero_add]
          exact hR4
      · rintro σ H' ⟨⟨v8, v9, v10, v11, v12, v13, rfl⟩, st, hR⟩
        simp only [r_seq, r_next, r_brk, r_cont, r_asg, r_name, r_ret, r_retN, r_drop, r_ifs, r_never, r_var, r_c, r_op, r_un, r_if, r_tst, r_b, r_not, r_and, r_or, r_andV, r_orV, r_notV, r_nil, r_cons, r_tup, r_lst, r_cb, r_call, r_bm, r_bm0, r_sl, r_nopart, r_part, r_rev, r_gnil, r_gcons, r_gsub, r_par, r_aug, r_chain, r_I0, r_I, r_U, r_ixd, r_lend, r_tupd, r_listd, r_sld, r_app, r_ext, r_reverse, r_setl, r_cat, r_int1, r_eqS, r_neS, scal_ii, scal_bb, scal_ss, at0, at1, at2, sq_lst, sq_tup, isLst_lst, List.getElem?_cons_zero, List.getElem?_cons_succ, List.set_cons_zero, List.set_cons_succ, V.int.injEq, V.bl.injEq, V.ref.injEq, V.str.injEq, HO.lst.injEq, HO.tup.injEq, Option.some.injEq, exists_eq_left', exists_eq_left, List.cons.injEq, and_true, true_and, decide_eq_true_eq, reduceCtorEq, false_and, exists_false, or_false, false_or, exists_const, and_assoc, exists_and_left, List.append_nil, ix0, ix1, ix2, cm_mod, cdw1009, cdw2003, cdw7, cdw64, cdw2, cm104729, cm2, cm3, upd_same, List.length_cons, List.length_nil, Int.reduceLT, Int.reduceLE, Nat.reduceAdd, Nat.reduceLeDiff, Nat.reduceLT, Int.reduceToNat, r_for1, r_forL, r_forT, r_lcL, r_lc1, r_yes, r_gtupD, wipe_0, wipe_1, List.cons_append, List.nil_append, r_forS, r_ipI, ite_false, ite_true, Bool.not_true, Bool.not_false, decide_true, decide_false, r_isd, r_islt, cD_ty, cD_ref, tD_non, tD_bl, tD_int, tD_str, tD_ref, tH_lst, tH_tup, tH_dK, tH_ins, ki_self, ki_int_bool, ki_non_int, ki_str_int, ki_lt_lst, ki_lt_tup, r_fld, r_sfld, HO.ins.injEq, cx_K]
        rw [vn_len, List.length_map, csl, List.take_length] at hR
        exact k Td H' hT0 (fun y o q => st y o (fun z => by rw [z, hT0] at q; cases q) (sG2 y o q)) hR
    exact ⟨_, SqL.of bB2, _, SqL.of bW2, _, SqL.of bA2, _, SqL.of q5, key⟩
end
end C57

set_option maxHeartbeats 1000000
namespace C57
open PySem PySem.Spec PyProof.Rows L2
section
variable {P : Program} {w : World} {K : PySem.W.Frag} {mg : Str → Option Value} {base : Heap} {f : Addr} {fd : FuncData}
abbrev stable : Stmt := top 66
theorem sctable : FnScope ["_law_some", "_law_words", "_law_found", "_law_k"] [] (defScope stable) := ⟨rfl, rfl, rfl, by decide +kernel, rfl, by decide +kernel, by decide +kernel⟩

end
/-! ### a written list of texts, kept closed -/
def csts : List Expr → Option (List Str)
  | [] => some []
  | .Constant (.str z) _ _ :: es => (csts es).map (z :: ·)
  | _ => none
def tStrs : List Str → TA
  | [] => tNil
  | y :: ys => tCons (tC (.str y)) (tStrs ys)
theorem pa_strs {X : Cx} : ∀ {es : List Expr} {ys : List Str}, csts es = some ys → PA X es (tStrs ys)
  | [], _, h => by
    cases h
    exact pa_nil
  | .Constant (.str z) k p :: es, ys, h => by
    have h2 : (csts es).map (z :: ·) = some ys := h
    cases e : csts es with
    | none => rw [e] at h2; cases h2
    | some zs =>
      rw [e] at h2
      cases h2
      exact pa_cons pe_str (pa_strs e)
theorem r_strs {σ : L2.St} {H : Hp} {QA : List V → Hp → Prop} : ∀ {ys : List Str}, tStrs ys σ H QA = QA (ys.map V.str) H := by
  intro ys
  induction ys generalizing QA with
  | nil => rfl
  | cons y ys ih =>
    show tStrs ys σ H (fun xs H2 => QA (V.str y :: xs) H2) = _
    rw [ih]
    rfl
/-! ### the law's table -/
def stTab : Stmt := (defBody stable).getD 0 (.Pass ⟨0, 0, 0, 0⟩)
def exTab : List Expr := match stTab with
  | .Assign _ (.List es _) _ => es
  | _ => []
def LT : List Str := (csts exTab).getD []
def JL : List Nat := TL.joinL [32] (LT.map TL.tl)
def WL : List (List Nat) := TL.spl [32] 0 [] JL
def WS : List Str := WL.map SX.S
abbrev TR : Type := Str × Int × Int × Str
def quads : List Str → List TR
  | a :: b :: c :: d :: r => (a, (PySem.intText? b).getD 0, (PySem.intText? c).getD 0, d) :: quads r
  | _ => []
def tabL : List TR := quads WS
def quadsOk : List Str → Bool
  | _ :: b :: c :: _ :: r => decide (b.length ≤ 640) && (decide (c.length ≤ 640) && ((PySem.intText? b).isSome && ((PySem.intText? c).isSome && quadsOk r)))
  | [] => true
  | _ => false
theorem quads_at : ∀ {ws : List Str}, quadsOk ws = true → ∀ {k : Nat} {r : TR}, (quads ws)[k]? = some r → ∃ b c, ws[4 * k]? = some r.1 ∧ ws[4 * k + 1]? = some b ∧ ws[4 * k + 2]? = some c ∧ ws[4 * k + 3]? = some r.2.2.2 ∧
    PySem.intText? b = some r.2.1 ∧ PySem.intText? c = some r.2.2.1 ∧ b.length ≤ 640 ∧ c.length ≤ 640
  | a :: b :: c :: d :: ws, h, 0, r, e => by
    have h2 : (decide (b.length ≤ 640) && (decide (c.length ≤ 640) && ((PySem.intText? b).isSome && ((PySem.intText? c).isSome && quadsOk ws)))) = true := h
    simp only [Bool.and_eq_true, decide_eq_true_eq] at h2
    obtain ⟨h1, h3, h4, h5, _⟩ := h2
    have e2 : some (a, (PySem.intText? b).getD 0, (PySem.intText? c).getD 0, d) = some r := e
    cases e2
    refine ⟨b, c, rfl, rfl, rfl, rfl, ?_, ?_, h1, h3⟩
    · cases z : PySem.intText? b with
      | none => rw [z] at h4; cases h4
      | some n => rfl
    · cases z : PySem.intText? c with
      | none => rw [z] at h5; cases h5
      | some n => rfl
  | a :: b :: c :: d :: ws, h, k + 1, r, e => by
    have h2 : (decide (b.length ≤ 640) && (decide (c.length ≤ 640) && ((PySem.intText? b).isSome && ((PySem.intText? c).isSome && quadsOk ws)))) = true := h
    simp only [Bool.and_eq_true, decide_eq_true_eq] at h2
    obtain ⟨_, _, _, _, h6⟩ := h2
    exact quads_at h6 (k := k) e
  | [], _, k, r, e => by cases e
theorem quads_len : ∀ {ws : List Str}, quadsOk ws = true → ws.length = 4 * (quads ws).length
  | a :: b :: c :: d :: ws, h => by
    have h2 : (decide (b.length ≤ 640) && (decide (c.length ≤ 640) && ((PySem.intText? b).isSome && ((PySem.intText? c).isSome && quadsOk ws)))) = true := h
    simp only [Bool.and_eq_true, decide_eq_true_eq] at h2
    have := quads_len h2.2.2.2.2
    show ws.length + 1 + 1 + 1 + 1 = 4 * ((quads ws).length + 1)
    omega
  | [], _ => rfl
theorem LT_ok : csts exTab = some LT := by
  unfold LT
  have h : (csts exTab).isSome = true := by decide +kernel
  cases e : csts exTab with
  | none => rw [e] at h; cases h
  | some l => rfl
theorem chk1 : decide (LT.length ≤ 100) = true := by decide +kernel
theorem chk2 : decide (JL.length ≤ 5000) = true := by decide +kernel
theorem chk3 : quadsOk WS = true := by decide +kernel
theorem chk4 : decide (tabL.length ≤ 100 ∧ 0 < tabL.length) = true := by decide +kernel
/-- what a sort of argument says of the word that has it -/
def sortOk (z s : Str) (k : Nat) (num : Int) : Bool :=
  if s = "c" then k == 2 else if s = "n" then k == 3 else if s = "m" then (k == 4 && z == "LOAD_ATTR") || (k == 5 && z == "LOAD_GLOBAL") else if s = "l" then k == 6 else if s = "p" then k == 7 else if s = "o" then k == 8 && z == "BINARY_OP"
  else if s = "x" then k == 9 && z == "COMPARE_OP" else if s = "j" then k == 1 else if s = "k" then (k == 0 && ((["IS_OP", "CONTAINS_OP", "CALL_INTRINSIC_1", "SET_FUNCTION_ATTRIBUTE"] : List Str).all fun y => !(z == y))) || ((k == 10 && (z == "IS_OP" || z == "CONTAINS_OP")) || ((k == 11 && z == "CALL_INTRINSIC_1") || (k == 12 && z == "SET_FUNCTION_ATTRIBUTE")))
  else s == "-" && k == 0
def rowTest (r : TR) : Bool := (wdF r.2.1.toNat == some (r.1, r.2.2.1.toNat + 1)) && (decide (0 < r.2.1 ∧ r.2.1 ≠ 71 ∧ r.2.1 < 256 ∧ 0 ≤ r.2.2.1 ∧ r.2.2.1 ≤ 10) && (sortOk r.1 r.2.2.2 (kiF r.1) r.2.1 && ((r.2.2.2 == ("-" : Str)) == decide (r.2.1 < 45))))
theorem chk5 : tabL.all rowTest = true := by decide +kernel
theorem chk6 : (tabL.map (·.1)).Nodup := by decide +kernel
theorem chk7 : decide ((LT.map (·.length)).sum ≤ 5000) = true := by decide +kernel
theorem WS_is : Txt.split (Txt.join " " LT) " " = WS := by
  have e1 : Txt.join " " LT = SX.S JL := by
    show Builtin.Str.glued " " LT = _
    rw [StrLaws.glued_eq_join]
    refine TL.ext_tl ?_
    rw [TL.tl_join]
    rfl
  have e2 : (" " : Str) = SX.S [32] := by decide +kernel
  rw [e1, e2, SX.split_S (by decide) (by decide)]
  rfl
end C57

set_option maxHeartbeats 1000000
namespace C57
open PySem PySem.Spec PyProof.Rows L2
/-! ### range with a step; zeros -/
theorem r_for3 {K : PySem.W.Frag} {ta : TA} {g : TG} {tb : TS} {D : Ends} {σ : L2.St} {H : Hp} : tFor (iRng3 ta) g tb D σ H = ta σ H (fun vs H1 => ∃ (i j c : Int) (n : Nat), vs = [.int i, .int j, .int c] ∧ RgC i j c n ∧ LoopR (Itc i c n) g tb D σ H1) := rfl
theorem lp_rngC {lo c : Int} {n : Nat} {g : TG} {tb : TS} {D : Ends} {σ : L2.St} {H : Hp} (Pv : Nat → L2.St → Hp → Prop) (h0 : Pv 0 σ H)
    (hs : ∀ i σ H, i < n → Pv i σ H → g (.int (lo + (i : Nat) * c)) σ H fun σ2 H2 => tb { D with nx := Pv (i + 1), ct := Pv (i + 1), bk := D.nx } σ2 H2) (hd : ∀ σ H, Pv n σ H → D.nx σ H) : LoopR (Itc lo c n) g tb D σ H := for_rangeC Pv h0 hs hd
theorem rep_vn (k : Nat) : (List.replicate k [V.int 0]).flatten = vn (List.replicate k 0) := by
  induction k with
  | zero => rfl
  | succ k ih =>
    rw [List.replicate_succ, List.flatten_cons, ih, List.replicate_succ]
    rfl

def trV (r : TR) : List V := [.int r.2.1, .int r.2.2.1, .str r.2.2.2]
/-- the entries of the law's table -/
def EntR (H : Hp) (kv : Key × V) (r : TR) : Prop := kv.1 = Sum.inr r.1 ∧ ∃ t, kv.2 = .ref t ∧ H t = some (.tup (trV r))
def LawTab (H : Hp) (d : Addr) (rs : List TR) : Prop := ∃ kvs : List (Key × V), H d = some (.dK kvs) ∧ Paired (EntR H) kvs rs
theorem LawTab.same {H H' : Hp} {d : Addr} {rs : List TR} (h : LawTab H d rs) (s : Same H H') : LawTab H' d rs := by
  obtain ⟨kvs, e, p⟩ := h
  exact ⟨kvs, s _ _ e, Paired.map' p fun a b ⟨h1, t, h2, h3⟩ => ⟨h1, t, h2, s _ _ h3⟩⟩
theorem LawTab.keep {H H' : Hp} {d a : Addr} {rs : List TR} (h : LawTab H d rs) (s : Keep a H H') (ha : ∃ xs, H a = some (.lst xs)) : LawTab H' d rs := by
  obtain ⟨kvs, e, p⟩ := h
  obtain ⟨xs, ha⟩ := ha
  exact ⟨kvs, s _ _ (fun z => by rw [z, ha] at e; cases e) e, Paired.map' p fun x b ⟨h1, t, h2, h3⟩ => ⟨h1, t, h2, s _ _ (fun z => by rw [z, ha] at h3; cases h3) h3⟩⟩
theorem val_none {H : Hp} {x : Str} : ∀ {kvs : List (Key × V)} {rs : List TR}, Paired (EntR H) kvs rs → x ∉ rs.map (·.1) → valV kvs (Sum.inr x : Key) = none
  | _, _, .nil, _ => rfl
  | _, _, .cons (a := kv) (b := r) (l₁ := kvs) (l₂ := rs) h t, hx => by
    rw [List.map_cons, List.mem_cons, not_or] at hx
    rw [valV_neg (p := kv) (fun z => hx.1 (by rw [h.1] at z; exact (Sum.inr.inj z).symm))]
    exact val_none t hx.2
theorem val_some {H : Hp} {r : TR} : ∀ {kvs : List (Key × V)} {rs : List TR}, Paired (EntR H) kvs rs → (rs.map (·.1)).Nodup → r ∈ rs → ∃ t, valV kvs (Sum.inr r.1 : Key) = some (.ref t) ∧ H t = some (.tup (trV r))
  | _, _, .nil, _, h => by cases h
  | _, _, .cons (a := kv) (b := q) (l₁ := kvs) (l₂ := rs) h t, hn, hr => by
    rw [List.map_cons, List.nodup_cons] at hn
    rcases List.mem_cons.mp hr with rfl | hr
    · obtain ⟨h1, u, h2, h3⟩ := h
      exact ⟨u, by rw [valV_pos (p := kv) h1, h2], h3⟩
    · rw [valV_neg (p := kv) (fun z => hn.1 (by rw [h.1] at z; rw [Sum.inr.inj z]; exact List.mem_map_of_mem hr))]
      exact val_some t hn.2 hr
def spTable : Sp := fun vs H Q _ => vs = [] ∧ ∀ d H', H d = none → Same H H' → LawTab H' d tabL → Q (.ref d) H'
def lvTable (H : Hp) (p0 wd d : Addr) (i : Nat) (σ : L2.St) (H' : Hp) : Prop := ∃ v : Option V, σ = [some (.ref p0), some (.ref wd), some (.ref d), v] ∧ Same H H' ∧ H' wd = some (.lst (WS.map V.str)) ∧ LawTab H' d (tabL.take i)
section
variable {P : Program} {w : World} {K : PySem.W.Frag} {mg : Str → Option Value} {base : Heap} {f : Addr} {fd : FuncData}
theorem r_m1 {r : V → List V → Hp → VK → Prop} {to te : TE} {σ : L2.St} {H : Hp} {Q : VK} : tM1 r to te σ H Q = to σ H (fun x H1 => (∃ a, x = .str a) ∧ te σ H1 fun y H2 => r x [y] H2 Q) := rfl
theorem r_dnew {σ : L2.St} {H : Hp} {Q : VK} : tDNewK σ H Q = ∀ p, H p = none → Q (.ref p) (L2.upd H p (.dK [])) := rfl
theorem r_sput {td ty tv : TE} {D : Ends} {σ : L2.St} {H : Hp} : sDPut td ty tv D σ H = tv σ H (fun v H1 => td σ H1 fun x H2 => ty σ H2 fun y H3 => ∃ a H4, x = .ref a ∧ DPut H3 a y v H4 ∧ D.nx σ H4) := rfl
/-! ### the first statement, by its shape alone -/
def shapeT : Stmt → Bool
  | .Assign [.Name x _] (.List _ _) _ => x == "_law_some"
  | _ => false
def exOf : Stmt → List Expr
  | .Assign _ (.List es _) _ => es
  | _ => []
theorem shapeT_ok {st : Stmt} (h : shapeT st = true) : ∃ p1 p2 p3, st = .Assign [.Name "_law_some" p1] (.List (exOf st) p2) p3 := by
  unfold shapeT at h
  split at h
  · rename_i x p1 es p2 p3
    have e : x = "_law_some" := by simpa using h
    subst e
    exact ⟨p1, p2, p3, rfl⟩
  · cases h
theorem exTab_is : exTab = exOf stTab := by
  unfold exTab exOf
  rfl
theorem shape_tab : shapeT stTab = true := by decide +kernel
theorem tab_ps {X : Cx} (hN : X.N.Nodup) (hi : X.N[0]? = some ("_law_some" : Str)) (hx : Loc X.env.scope "_law_some") (hf : X.fn ("_law_some" : Str) = true ∨ X.env.scope.names.lookup ("_law_some" : Str) = some NameKind.local) : PS X stTab (tAsg (tLst (tStrs LT)) (gName 0)) := by
  obtain ⟨p1, p2, p3, e⟩ := shapeT_ok shape_tab
  have h := LT_ok
  rw [exTab_is] at h
  rw [e]
  generalize exOf stTab = es at *
  exact ps_set (i := 0) hN hi hx (pe_lst (pa_strs h)) rfl hf
theorem body_tab : defBody stable = stTab :: (defBody stable).tail := by
  have h : (defBody stable).isEmpty = false := by decide +kernel
  unfold stTab
  generalize defBody stable = b at *
  cases b with
  | nil => cases h
  | cons x y => rfl
theorem pss_first {X : Cx} {b : List Stmt} {st : Stmt} {rest : List Stmt} {t u : TS} (e : b = st :: rest) (h : PS X st t) (k : PSs X rest u) : PSs X b (tSeq t u) := by
  rw [e]
  exact pss_cons h k
theorem rg4 {t : Nat} (h : t ≤ 100) : RgC 0 ((4 * t : Nat) : Int) 4 t := by
  have e : ∀ t : Fin 101, Builtin.Range.small 0 ((4 * t.val : Nat) : Int) 4 = true ∧ Builtin.Range.rangeSize 0 ((4 * t.val : Nat) : Int) 4 = t.val := by decide +kernel
  obtain ⟨h1, h2⟩ := e ⟨t, by omega⟩
  exact ⟨by decide, by decide, h1, h2⟩
theorem ok_table (T : Txt mg) (F : FnP K "_law_table" "_law_table" stable f fd) : FnOk P w K mg base CX0 1 f fd [] spTable := by
  refine F.ok sctable (fun vs H Q E h => ?_) (fun cdv A outer s H vs Q E hr h => ?_)
  · obtain ⟨rfl, _⟩ := h
    rfl
  · obtain ⟨rfl, k⟩ := h
    refine ⟨_, PSs.nox (pss_first body_tab (tab_ps sctable.nd rfl (Or.inl rfl) (.inr rfl)) (pss_cons (ps_par (i := 1) (j := 2) (by rfl) sctable.nd rfl rfl (by decide) rfl rfl (pa_cons (pe_splitAny (pe_join pe_str (pv 0)) pe_str) (pa_cons pe_dnewK pa_nil)) (by rfl))
  (pss_cons (ps_for PassesOwn.never rfl (pi_range3 rfl T.b_range (pa_cons pe_int (pa_cons (pe_callB call_len_d (by rfl) T.b_len (by decide +kernel) (pa_cons (pv 1) pa_nil)) (pa_cons pe_int pa_nil)))) (pg_name (i := 3) sctable.nd rfl (Or.inl rfl))
    (pss_one (ps_dput (hu_of hr) (pv 2) (pe_ix ix_d (pv 1) (pv 3) (fun _ _ => rfl)) (pe_tup (pa_cons (pe_callTy call_int_str (by rfl) T.b_int (by decide +kernel) (pa_cons (pe_ix ix_d (pv 1) (pe_op op_add (pv 3) pe_int) (fun _ _ => rfl)) pa_nil)) (pa_cons (pe_callTy call_int_str (by rfl) T.b_int (by decide +kernel) (pa_cons (pe_ix ix_d (pv 1) (pe_op op_add (pv 3) pe_int) (fun _ _ => rfl)) pa_nil)) (pa_cons (pe_ix ix_d (pv 1) (pe_op op_add (pv 3) pe_int) (fun _ _ => rfl)) pa_nil)))) rfl)))
  (pss_one (ps_ret (pv 2)))))), ?_⟩
    show (_ : TS) _ [none, none, none, none] H
    obtain ⟨L, hL⟩ : ∃ L, L = LT := ⟨_, rfl⟩
    rw [← hL]
    simp only [r_seq, r_next, r_brk, r_cont, r_asg, r_name, r_ret, r_retN, r_drop, r_ifs, r_never, r_var, r_c, r_op, r_un, r_if, r_tst, r_b, r_not, r_and, r_or, r_andV, r_orV, r_notV, r_nil, r_cons, r_tup, r_lst, r_cb, r_call, r_bm, r_bm0, r_sl, r_nopart, r_part, r_rev, r_gnil, r_gcons, r_gsub, r_par, r_aug, r_chain, r_I0, r_I, r_U, r_ixd, r_lend, r_tupd, r_listd, r_sld, r_app, r_ext, r_reverse, r_setl, r_cat, r_int1, r_eqS, r_neS, scal_ii, scal_bb, scal_ss, at0, at1, at2, sq_lst, sq_tup, isLst_lst, List.getElem?_cons_zero, List.getElem?_cons_succ, List.set_cons_zero, List.set_cons_succ, V.int.injEq, V.bl.injEq, V.ref.injEq, V.str.injEq, HO.lst.injEq, HO.tup.injEq, Option.some.injEq, exists_eq_left', exists_eq_left, List.cons.injEq, and_true, true_and, decide_eq_true_eq, reduceCtorEq, false_and, exists_false, or_false, false_or, exists_const, and_assoc, exists_and_left, List.append_nil, ix0, ix1, ix2, cm_mod, cdw1009, cdw2003, cdw7, cdw64, cdw2, cm104729, cm2, cm3, upd_same, List.length_cons, List.length_nil, Int.reduceLT, Int.reduceLE, Nat.reduceAdd, Nat.reduceLeDiff, Nat.reduceLT, Int.reduceToNat, r_for1, r_forL, r_forT, r_lcL, r_lc1, r_yes, r_gtupD, wipe_0, wipe_1, List.cons_append, List.nil_append, r_forS, r_ipI, ite_false, ite_true, Bool.not_true, Bool.not_false, decide_true, decide_false, r_isd, r_islt, cD_ty, cD_ref, tD_non, tD_bl, tD_int, tD_str, tD_ref, tH_lst, tH_tup, tH_dK, tH_ins, ki_self, ki_int_bool, ki_non_int, ki_str_int, ki_lt_lst, ki_lt_tup, r_fld, r_sfld, HO.ins.injEq, cx_K, r_for3, r_m1, r_dnew, r_sput, r_strs]
    have c1 := of_decide_eq_true chk1
    have c7 := of_decide_eq_true chk7
    have c2 := of_decide_eq_true chk2
    have hsp := WS_is
    obtain ⟨W, hW⟩ : ∃ W, W = WS := ⟨_, rfl⟩
    have wl : W.length = 4 * tabL.length := by rw [hW]; exact quads_len chk3
    have wt := (of_decide_eq_true chk4).1
    have wat : ∀ {i : Nat} {r : TR}, tabL[i]? = some r → ∃ b c, W[4 * i]? = some r.1 ∧ W[4 * i + 1]? = some b ∧ W[4 * i + 2]? = some c ∧ W[4 * i + 3]? = some r.2.2.2 ∧ PySem.intText? b = some r.2.1 ∧ PySem.intText? c = some r.2.2.1 ∧ b.length ≤ 640 ∧ c.length ≤ 640 := fun e => by
      rw [hW]
      exact quads_at chk3 e
    rw [← hL, ← hW] at hsp
    rw [← hL] at c1 c7
    have jl : (Txt.join " " L).length ≤ 16000 := by
      show (Builtin.Str.glued " " L).length ≤ _
      rw [StrLaws.glued_eq_join]
      refine Nat.le_trans (StrLaws.join_length_le " " L) ?_
      have : (" " : Str).length = 1 := by decide +kernel
      rw [this]
      omega
    refine ⟨szl (by rw [List.length_map]; omega), fun p hp => ⟨⟨_, rfl⟩, L, .inl (SqL.of upd_same), ?_, ⟨_, rfl⟩, .inl ⟨_, _, rfl, rfl, by decide +kernel, ?_, fun wd hwd => ?_⟩⟩⟩
    · have : (" " : Str).length = 1 := by decide +kernel
      rw [this]
      omega
    · exact Nat.le_trans (by omega : _ ≤ 17000) (by decide)
    rw [hsp]
    clear hsp jl
    intro d hd
    have s1 : Same H (L2.upd (L2.upd (L2.upd H p (.lst (L.map V.str))) wd (.lst (W.map V.str))) d (.dK [])) := Same.new' (Same.new' (Same.new' (Same.refl H) hp) hwd) hd
    have q1 : L2.upd (L2.upd (L2.upd H p (.lst (L.map V.str))) wd (.lst (W.map V.str))) d (.dK []) wd = some (.lst (W.map V.str)) := by
      rw [upd_ne (ne_new upd_same hd)]
      exact upd_same
    have q2 : L2.upd (L2.upd (L2.upd H p (.lst (L.map V.str))) wd (.lst (W.map V.str))) d (.dK []) d = some (.dK []) := upd_same
    have dH : H d = none := (Same.new' (Same.new' (Same.refl H) hp) hwd).free hd
    have dw : wd ≠ d := ne_new upd_same hd
    generalize L2.upd (L2.upd (L2.upd H p (.lst (L.map V.str))) wd (.lst (W.map V.str))) d (.dK []) = G at *
    refine ⟨wd, rfl, _, by rw [q1]; rfl, tabL.length, ?_, lp_rngC (lvTable H p wd d) ⟨none, rfl, s1, by rw [q1, hW], [], q2, by rw [List.take_zero]; exact .nil⟩ ?_ ?_⟩
    · rw [List.length_map, wl]
      exact rg4 wt
    · rintro i σ H1 hi ⟨v, rfl, s2, h2, kvs, h3, pk⟩
      rw [← hW] at h2
      obtain ⟨r, hr2⟩ : ∃ r, tabL[i]? = some r := ⟨_, List.getElem?_eq_getElem hi⟩
      obtain ⟨b, c, w0, w1, w2, w3, i1, i2, l1, l2⟩ := wat hr2
      have at' : ∀ {j : Nat} {x : Str}, W[j]? = some x → atI (W.map V.str) (j : Int) = some (.str x) := fun e => atn (by rw [List.getElem?_map, e]; rfl)
      have e0 : 0 + (i : Int) * 4 = ((4 * i : Nat) : Int) := by omega
      have e1 : ((4 * i : Nat) : Int) + 1 = ((4 * i + 1 : Nat) : Int) := by omega
      have e2 : ((4 * i : Nat) : Int) + 2 = ((4 * i + 2 : Nat) : Int) := by omega
      have e3 : ((4 * i : Nat) : Int) + 3 = ((4 * i + 3 : Nat) : Int) := by omega
      have a0 := at' w0
      have a1 := at' w1
      have a2 := at' w2
      have a3 := at' w3
      have tk : tabL.take (i + 1) = tabL.take i ++ [r] := by
        rw [List.take_succ, hr2]
        rfl
      have lk := Paired.length pk
      rw [List.length_take] at lk
      have nd := chk6
      rw [e0]
      simp only [r_seq, r_next, r_brk, r_cont, r_asg, r_name, r_ret, r_retN, r_drop, r_ifs, r_never, r_var, r_c, r_op, r_un, r_if, r_tst, r_b, r_not, r_and, r_or, r_andV, r_orV, r_notV, r_nil, r_cons, r_tup, r_lst, r_cb, r_call, r_bm, r_bm0, r_sl, r_nopart, r_part, r_rev, r_gnil, r_gcons, r_gsub, r_par, r_aug, r_chain, r_I0, r_I, r_U, r_ixd, r_lend, r_tupd, r_listd, r_sld, r_app, r_ext, r_reverse, r_setl, r_cat, r_int1, r_eqS, r_neS, scal_ii, scal_bb, scal_ss, at0, at1, at2, sq_lst, sq_tup, isLst_lst, List.getElem?_cons_zero, List.getElem?_cons_succ, List.set_cons_zero, List.set_cons_succ, V.int.injEq, V.bl.injEq, V.ref.injEq, V.str.injEq, HO.lst.injEq, HO.tup.injEq, Option.some.injEq, exists_eq_left', exists_eq_left, List.cons.injEq, and_true, true_and, decide_eq_true_eq, reduceCtorEq, false_and, exists_false, or_false, false_or, exists_const, and_assoc, exists_and_left, List.append_nil, ix0, ix1, ix2, cm_mod, cdw1009, cdw2003, cdw7, cdw64, cdw2, cm104729, cm2, cm3, upd_same, List.length_cons, List.length_nil, Int.reduceLT, Int.reduceLE, Nat.reduceAdd, Nat.reduceLeDiff, Nat.reduceLT, Int.reduceToNat, r_for1, r_forL, r_forT, r_lcL, r_lc1, r_yes, r_gtupD, wipe_0, wipe_1, List.cons_append, List.nil_append, r_forS, r_ipI, ite_false, ite_true, Bool.not_true, Bool.not_false, decide_true, decide_false, r_isd, r_islt, cD_ty, cD_ref, tD_non, tD_bl, tD_int, tD_str, tD_ref, tH_lst, tH_tup, tH_dK, tH_ins, ki_self, ki_int_bool, ki_non_int, ki_str_int, ki_lt_lst, ki_lt_tup, r_fld, r_sfld, HO.ins.injEq, cx_K, r_sput, h2, e1, e2, e3, a0, a1, a2, a3]
      refine ⟨_, i1, l1, _, i2, l2, szl (by decide : 3 ≤ 1000), fun t ht => ?_⟩
      have hwt : wd ≠ t := ne_new h2 ht
      rw [upd_ne hwt]
      refine ⟨_, by rw [h2]; rfl, _, a0, _, .inl ⟨kvs, Sum.inr r.1, by rw [upd_ne (ne_new h3 ht)]; exact h3, rfl, Nat.lt_of_le_of_lt (by omega : _ ≤ 1000) (by decide), rfl⟩, ?_⟩
      have td : t ≠ d := new_ne h3 ht
      have nk : valV kvs (Sum.inr r.1 : Key) = none := by
        refine val_none pk fun hm => ?_
        have e := List.take_append_drop (i + 1) tabL
        rw [tk] at e
        rw [← e, List.map_append, List.map_append, List.nodup_append, List.nodup_append] at nd
        exact nd.1.2.2 r.1 hm r.1 (by simp) rfl
      rw [putK_new _ nk]
      refine ⟨_, rfl, fun b o e => ?_, ?_, kvs ++ [(Sum.inr r.1, .ref t)], upd_same, ?_⟩
      · rw [upd_ne (ne_new e dH), upd_ne (ne_new (s2 b o e) ht)]
        exact s2 b o e
      · rw [upd_ne dw, upd_ne hwt, ← hW]
        exact h2
      · rw [tk]
        refine Paired.snoc' (Paired.map' pk fun x y ⟨g1, u, g2, g3⟩ => ⟨g1, u, g2, ?_⟩) ⟨rfl, t, rfl, by rw [upd_ne td]; exact upd_same⟩
        have ud : u ≠ d := fun z => by rw [z, h3] at g3; cases g3
        rw [upd_ne ud, upd_ne (ne_new g3 ht)]
        exact g3
    · rintro σ H1 ⟨v, rfl, s2, h2, h3⟩
      rw [List.take_length] at h3
      simp only [r_seq, r_next, r_brk, r_cont, r_asg, r_name, r_ret, r_retN, r_drop, r_ifs, r_never, r_var, r_c, r_op, r_un, r_if, r_tst, r_b, r_not, r_and, r_or, r_andV, r_orV, r_notV, r_nil, r_cons, r_tup, r_lst, r_cb, r_call, r_bm, r_bm0, r_sl, r_nopart, r_part, r_rev, r_gnil, r_gcons, r_gsub, r_par, r_aug, r_chain, r_I0, r_I, r_U, r_ixd, r_lend, r_tupd, r_listd, r_sld, r_app, r_ext, r_reverse, r_setl, r_cat, r_int1, r_eqS, r_neS, scal_ii, scal_bb, scal_ss, at0, at1, at2, sq_lst, sq_tup, isLst_lst, List.getElem?_cons_zero, List.getElem?_cons_succ, List.set_cons_zero, List.set_cons_succ, V.int.injEq, V.bl.injEq, V.ref.injEq, V.str.injEq, HO.lst.injEq, HO.tup.injEq, Option.some.injEq, exists_eq_left', exists_eq_left, List.cons.injEq, and_true, true_and, decide_eq_true_eq, reduceCtorEq, false_and, exists_false, or_false, false_or, exists_const, and_assoc, exists_and_left, List.append_nil, ix0, ix1, ix2, cm_mod, cdw1009, cdw2003, cdw7, cdw64, cdw2, cm104729, cm2, cm3, upd_same, List.length_cons, List.length_nil, Int.reduceLT, Int.reduceLE, Nat.reduceAdd, Nat.reduceLeDiff, Nat.reduceLT, Int.reduceToNat, r_for1, r_forL, r_forT, r_lcL, r_lc1, r_yes, r_gtupD, wipe_0, wipe_1, List.cons_append, List.nil_append, r_forS, r_ipI, ite_false, ite_true, Bool.not_true, Bool.not_false, decide_true, decide_false, r_isd, r_islt, cD_ty, cD_ref, tD_non, tD_bl, tD_int, tD_str, tD_ref, tH_lst, tH_tup, tH_dK, tH_ins, ki_self, ki_int_bool, ki_non_int, ki_str_int, ki_lt_lst, ki_lt_tup, r_fld, r_sfld, HO.ins.injEq, cx_K]
      exact k d H1 dH s2 h3
end
end C57

set_option maxHeartbeats 2000000
namespace C57
open PySem PySem.Spec PyProof.Rows L2
/-! ### sorted of a dict with text keys, any number of them -/
def sv : Value → List Nat
  | .str x _ => x.cps.toList
  | _ => []
def ltSv (v u : Value) : Bool := decide (sv v < sv u)
theorem swo_sv : SrtO.Swo ltSv := by
  refine ⟨fun x y h => ?_, fun x y z h1 h2 => ?_⟩
  · have a := of_decide_eq_true (p := sv x < sv y) h
    exact decide_eq_false (p := sv y < sv x) (List.lt_asymm a)
  · have a := of_decide_eq_false (p := sv y < sv x) h1
    have b := of_decide_eq_false (p := sv z < sv y) h2
    have c : sv x ≤ sv z := List.le_trans (show sv x ≤ sv y from a) (show sv y ≤ sv z from b)
    exact decide_eq_false (p := sv z < sv x) c
theorem strs_mem : ∀ {vs : List Value} {ns : List Str}, StrsAre vs ns → ∀ v ∈ vs, ∃ i t, v = Value.str i t
  | _, _, .nil, v, h => absurd h (by simp)
  | _, _, .cons n t r, v, h => by
    rcases List.mem_cons.mp h with e | h
    · exact ⟨n, t, e⟩
    · exact strs_mem r v h
def strOf : Value → Str
  | .str x _ => x
  | _ => ⟨#[]⟩
theorem strs_of : ∀ {vs : List Value}, (∀ v ∈ vs, ∃ i t, v = Value.str i t) → StrsAre vs (vs.map strOf)
  | [], _ => .nil
  | v :: vs, h => by
    obtain ⟨i, t, e⟩ := h v List.mem_cons_self
    subst e
    exact .cons i t (strs_of fun u hu => h u (List.mem_cons_of_mem _ hu))
theorem of_strs : ∀ {vs : List Value} {ns : List Str}, StrsAre vs ns → vs.map strOf = ns
  | _, _, .nil => rfl
  | _, _, .cons n t r => congrArg (n :: ·) (of_strs r)
section
variable {prog : Program} {w : World} {A : Around} {E : Value → Shared → Prop} {s : Shared}
theorem str_cmp {vs : List Value} {ns : List Str} (hI : StrsAre vs ns) : SrtO.Cmp prog w A s oneType' (fun p => p.1 ∈ vs) (SrtO.lt2 ltSv) := by
  intro p q hm hm'
  obtain ⟨a, t, e⟩ := strs_mem hI _ hm
  obtain ⟨b, u, e'⟩ := strs_mem hI _ hm'
  show wpAny (model prog w) A (keyLt' oneType' p.1 q.1) (fun r s' => s' = s ∧ r = ltSv p.1 q.1) (fun _ _ => False) s
  rw [e, e', keyLt'_oneType]
  exact oneLt_str ⟨rfl, rfl⟩
theorem strs_sortable {a : Addr} {vs : List Value} {ns : List Str} (hI : StrsAre vs ns) (h2 : 2 ≤ vs.length) : SrtO.SortableO prog w A s a vs ltSv := by
  intro h' _
  refine ⟨oneType', fun Q E hq => ?_, str_cmp hI⟩
  match vs, hI, h2 with
  | v1 :: v2 :: rest, hI, _ =>
    rw [keyKind_strs hI]
    exact wpAny_pure hq
  | [], _, h => exact absurd h (by decide)
  | [v], _, h => exact absurd h (by simp)
end
def rSortDn : List V → Hp → VK → Prop := fun xs H Q => ∃ (a : Addr) (kvs : List (Key × V)) (ks : List Str), xs = [.ref a] ∧ H a = some (.dK kvs) ∧ kvs.map (·.1) = ks.map Sum.inr ∧ ks.length ≤ 1000 ∧ ∀ (ys : List Str) p, ys.Perm ks → H p = none → Q (.ref p) (L2.upd H p (.lst (ys.map V.str)))
theorem call_sortedDn {X : Cx} (hcalm : X.calm = true) : CallR X (.builtin "sorted") rSortDn := by
  intro pins s σ H xs us Q I r q
  obtain ⟨a, kvs, ks, ex, hd, hks, h64, q⟩ := q
  subst ex
  obtain ⟨u, eu, rx⟩ := vals1 r
  subst eu
  cases rx
  obtain ⟨z, lo, vs, rel, dd⟩ := dk_rd I.hok (.inl hd)
  obtain ⟨ep, hat⟩ := dd.dictAt
  have hkeys : vs.map (·.1) = ks.map Sum.inr := rel.keys.symm.trans hks
  have hl : vs.length = ks.length := by
    have e := congrArg List.length hkeys
    rw [List.length_map, List.length_map] at e
    exact e
  have h16 : vs.length ≤ sizeLine := by rw [hl]; exact Nat.le_trans h64 (by decide)
  refine Calls.call_function_entry PyProof.Rows.kind_sorted PyProof.Rows.plain_sorted PyProof.Rows.entry_sorted (PyProof.Rows.args_sorted1 _) ?_
  unfold Builtin.«sorted»
  refine wpAny_bind (m := checkCount "sorted" 1 1 _) (wpAny_pure ?_)
  refine wpAny_bind (PySem.W.kdu_collect (A := X.A.in1) (PySem.W.kdl_dict (knd := mixKind X.prog X.w) (kvs := vs) (ep := ep) lo) (I.ok.hd hcalm) hat h16 fun h' tk acc hk hacc => ?_)
  have hal : acc.toList.length = ks.length := by rw [Array.length_toList, hacc.1, hl]
  have hS : StrsAre acc.toList ks := strs_at hal fun j v e => by
    obtain ⟨k, x, e1, e2⟩ := hacc.2 j v (by rw [← Array.getElem?_toList]; exact e)
    have e3 : (vs.map (·.1))[j]? = some k := by rw [List.getElem?_map, e1]; all_goals rfl
    rw [hkeys, List.getElem?_map] at e3
    cases e4 : ks[j]? with
    | none => rw [e4] at e3; cases e3
    | some y =>
      rw [e4] at e3
      have e5 : Sum.inr y = k := Option.some.inj e3
      subst e5
      obtain ⟨t, ev⟩ := Value.isStrOf_shape (x := y) (v := v) e2
      exact ⟨y, t, rfl, ev⟩
  have I1 : Inv X pins σ H { s with heap := h', toks := tk } := I.kept hk
  have hz1 : acc.toList.length ≤ sizeLine := by rw [hal]; exact Nat.le_trans h64 (by decide)
  refine wpAny_bind (wpAny_newList ?_ hz1)
  have hoL : (h'.push (seqObj "list" acc.toList.toArray 0)).get? h'.objs.size = some (seqObj "list" acc.toList.toArray 0) := Heap.get?_push_size _ rfl
  show wpAny _ _ _ _ _ { s with heap := h'.push (seqObj "list" acc.toList.toArray 0), toks := tk }
  refine wpAny_bind (wpAny_holding (wpAny_call_entry PyProof.Rows.slot_list_sort ⟨_, hoL, rfl⟩ PyProof.Rows.entry_list_sort
    (SrtO.list_sort_ord swo_sv (s := { s with heap := h'.push (seqObj "list" acc.toList.toArray 0), toks := tk }) hoL hz1 (fun h2 => strs_sortable hS h2) fun out h1 h2 => ⟨_, rfl, ?_⟩)
    (PyProof.Rows.args_list_sort _)))
  have g1 : StrsAre out (out.map strOf) := strs_of fun v hv => strs_mem hS v (h2.perm.mem_iff.mp hv)
  have g2 : (out.map strOf).Perm ks := by
    have q := h2.perm.map strOf
    rw [of_strs hS] at q
    exact q
  obtain ⟨e', he'⟩ := PyProof.Rows.sortedHeap_at (vs := acc.toList) (out := out.toArray) hoL
  have hlen : ((out.map strOf).map V.str).length ≤ sizeLine := by
    rw [List.length_map, g2.length_eq]
    exact Nat.le_trans h64 (by decide)
  refine wpAny_pure ⟨_, rfl, .ref h'.objs.size, L2.upd H h'.objs.size (.lst ((out.map strOf).map V.str)), I1.laid (t' := tk) (fun b u e => ?_) (Nat.le_refl _)
    (show ObjOk X.prog X.w _ _ _ (.lst ((out.map strOf).map V.str)) from ⟨hlen, out, e', vals_of_strs g1, he'⟩), rfl, q _ _ g2 (I1.hok.fresh (Nat.le_refl _))⟩
  have hb : b < h'.objs.size := Heap.lt_size e
  rw [PyProof.Rows.sortedHeap_old (Nat.ne_of_lt hb) (by rw [size_push']; exact Nat.lt_succ_of_lt hb)]
  exact Heap.get?_push_of_some _ e

/-! ### facts of the table's rows -/
theorem tab_fact {r : TR} (h : r ∈ tabL) : wdF r.2.1.toNat = some (r.1, r.2.2.1.toNat + 1) ∧ ((r.2.1.toNat : Nat) : Int) = r.2.1 ∧ ((r.2.2.1.toNat : Nat) : Int) = r.2.2.1 ∧ r.2.1.toNat ≠ 71 ∧ r.2.1.toNat < 256 ∧ r.2.2.1.toNat ≤ 10 ∧ sortOk r.1 r.2.2.2 (kiF r.1) r.2.1 = true ∧ (r.2.2.2 = "-" ↔ r.2.1 < 45) := by
  have h1 := List.all_eq_true.mp chk5 r h
  unfold rowTest at h1
  simp only [Bool.and_eq_true, beq_iff_eq, decide_eq_true_eq] at h1
  obtain ⟨e1, ⟨e2, e3, e4, e5, e6⟩, e7, e8⟩ := h1
  refine ⟨e1, by omega, by omega, by omega, by omega, by omega, e7, ?_⟩
  have e9 : (r.2.2.2 == ("-" : Str)) = decide (r.2.1 < 45) := e8
  constructor
  · intro z
    rw [z, beq_self_eq_true] at e9
    exact of_decide_eq_true e9.symm
  · intro z
    rw [decide_eq_true z] at e9
    exact eq_of_beq e9
theorem exts_len (a : Nat) : (exts a).length ≤ 6 := by
  unfold exts
  split <;> split <;> split <;> simp
def bytesOf (r : TR) (n : Nat) : List Nat := packN r.2.1.toNat n r.2.2.1.toNat
def spPacked : Sp := fun vs H Q _ => ∃ (d : Addr) (r : TR) (n : Nat), vs = [.ref d, .str r.1, .int (n : Int)] ∧ r ∈ tabL ∧ LawTab H d tabL ∧ n < 4294967296 ∧ ∀ p H', H p = none → Same H H' → H' p = some (.lst (vn (bytesOf r n))) → Q (.ref p) H'
theorem LawTab.get {H : Hp} {d : Addr} {r : TR} (h : LawTab H d tabL) (hr : r ∈ tabL) : ∃ t, DGet H d (.str r.1) (some (.ref t)) ∧ H t = some (.tup (trV r)) := by
  obtain ⟨kvs, e, p⟩ := h
  obtain ⟨t, h1, h2⟩ := val_some p chk6 hr
  refine ⟨t, ?_, h2⟩
  have := DGet.k (k := (Sum.inr r.1 : Key)) e
  rw [h1] at this
  exact this
def pl : List Nat := [16777216, 65536, 256]
def pc (n p : Nat) : List Nat := if p ≤ n then [71, n / p % 256] else []
def pex (n i : Nat) : List Nat := ((pl.take i).map (pc n)).flatten
theorem pex_all (n : Nat) : pex n 3 = exts n := by
  show pc n 16777216 ++ (pc n 65536 ++ (pc n 256 ++ [])) = exts n
  rw [List.append_nil]
  rfl
theorem pc_len (n p : Nat) : (pc n p).length ≤ 2 := by
  unfold pc
  split <;> simp
theorem pex_len (n i : Nat) : (pex n i).length ≤ 6 := by
  match i with
  | 0 => exact Nat.zero_le _
  | 1 =>
    have := pc_len n 16777216
    show (pc n 16777216 ++ []).length ≤ 6
    rw [List.append_nil]
    omega
  | 2 =>
    have := pc_len n 16777216
    have := pc_len n 65536
    show (pc n 16777216 ++ (pc n 65536 ++ [])).length ≤ 6
    rw [List.append_nil, List.length_append]
    omega
  | i + 3 =>
    have e : pex n (i + 3) = exts n := by
      rw [← pex_all]
      unfold pex
      rw [List.take_of_length_le (by show 3 ≤ i + 3; omega)]
      rfl
    rw [e]
    exact exts_len n
def lvPk (H : Hp) (d p : Addr) (x : Str) (n : Nat) (i : Nat) (σ : L2.St) (H' : Hp) : Prop := ∃ v : Option V, σ = [some (.ref d), some (.str x), some (.int (n : Int)), some (.ref p), v] ∧ Keep p H H' ∧ H' p = some (.lst (vn (pex n i)))
section
variable {P : Program} {w : World} {K : PySem.W.Frag} {mg : Str → Option Value} {base : Heap} {f : Addr} {fd : FuncData}
abbrev spacked : Stmt := top 67
theorem scpacked : FnScope ["_law_table_here", "_law_word", "_law_number", "_law_found", "_law_place"] ["_law_table_here", "_law_word", "_law_number"] (defScope spacked) := ⟨rfl, rfl, rfl, by decide +kernel, rfl, by decide +kernel, by decide +kernel⟩

theorem r_dget {td ty : TE} {σ : L2.St} {H : Hp} {Q : VK} : tDGet td ty σ H Q = td σ H (fun x H1 => ty σ H1 fun y H2 => ∃ a v, x = .ref a ∧ DGet H2 a y (some v) ∧ Q v H2) := rfl
theorem ok_packed (T : Txt mg) (F : FnP K "_law_packed" "_law_packed" spacked f fd) : FnOk P w K mg base CX0 1 f fd ["_law_table_here", "_law_word", "_law_number"] spPacked := by
  refine F.ok scpacked (fun vs H Q E h => ?_) (fun cdv A outer s H vs Q E hr h => ?_)
  · obtain ⟨d, r, n, rfl, _⟩ := h
    rfl
  · obtain ⟨d, r, n, rfl, hm, ht, hn, k⟩ := h
    refine ⟨_, PSs.nox (pss_cons (ps_set (i := 3) scpacked.nd rfl (Or.inl rfl) (pe_lst pa_nil))
  (pss_cons (ps_for PassesOwn.never rfl (pi_tup (pe_tup (pa_cons pe_int (pa_cons pe_int (pa_cons pe_int pa_nil))))) (pg_name (i := 4) scpacked.nd rfl (Or.inl rfl))
    (pss_one (ps_if (pt_cmpR op_ge (pv 2) (pv 4) (nomark _))
    (pss_one (ps_expr (pe_bm PySem.F.plainAttrs_list PySem.F.slot_list_extend PySem.F.type_list_extend mt_extend (pv 3) (pa_cons (pe_lst (pa_cons pe_int (pa_cons (pe_op op_mod (pe_callTy call_int1 (by rfl) T.b_int (by decide +kernel) (pa_cons (pe_op op_fdivW (pv 2) (pv 4)) pa_nil)) pe_int) pa_nil))) pa_nil))))
    pss_nil)))
  (pss_one (ps_ret (pe_op op_cat (pe_op op_cat (pv 3) (pe_lst (pa_cons (pe_ix ix_d (pe_dget (hu_of hr) (pv 0) (pv 1) (fun _ _ => rfl)) pe_int (fun _ _ => rfl)) (pa_cons (pe_op op_mod (pe_callTy call_int1 (by rfl) T.b_int (by decide +kernel) (pa_cons (pv 2) pa_nil)) pe_int) pa_nil)))) (pe_op op_rep (pe_lst (pa_cons pe_int pa_nil)) (pe_op op_mul pe_int (pe_ix ix_d (pe_dget (hu_of hr) (pv 0) (pv 1) (fun _ _ => rfl)) pe_int (fun _ _ => rfl))))))))), ?_⟩
    show (_ : TS) _ [some (.ref d), some (.str r.1), some (.int (n : Int)), none, none] H
    simp only [r_seq, r_next, r_brk, r_cont, r_asg, r_name, r_ret, r_retN, r_drop, r_ifs, r_never, r_var, r_c, r_op, r_un, r_if, r_tst, r_b, r_not, r_and, r_or, r_andV, r_orV, r_notV, r_nil, r_cons, r_tup, r_lst, r_cb, r_call, r_bm, r_bm0, r_sl, r_nopart, r_part, r_rev, r_gnil, r_gcons, r_gsub, r_par, r_aug, r_chain, r_I0, r_I, r_U, r_ixd, r_lend, r_tupd, r_listd, r_sld, r_app, r_ext, r_reverse, r_setl, r_cat, r_int1, r_eqS, r_neS, scal_ii, scal_bb, scal_ss, at0, at1, at2, sq_lst, sq_tup, isLst_lst, List.getElem?_cons_zero, List.getElem?_cons_succ, List.set_cons_zero, List.set_cons_succ, V.int.injEq, V.bl.injEq, V.ref.injEq, V.str.injEq, HO.lst.injEq, HO.tup.injEq, Option.some.injEq, exists_eq_left', exists_eq_left, List.cons.injEq, and_true, true_and, decide_eq_true_eq, reduceCtorEq, false_and, exists_false, or_false, false_or, exists_const, and_assoc, exists_and_left, List.append_nil, ix0, ix1, ix2, cm_mod, cdw1009, cdw2003, cdw7, cdw64, cdw2, cm104729, cm2, cm3, upd_same, List.length_cons, List.length_nil, Int.reduceLT, Int.reduceLE, Nat.reduceAdd, Nat.reduceLeDiff, Nat.reduceLT, Int.reduceToNat, r_for1, r_forL, r_forT, r_lcL, r_lc1, r_yes, r_gtupD, wipe_0, wipe_1, List.cons_append, List.nil_append, r_forS, r_ipI, ite_false, ite_true, Bool.not_true, Bool.not_false, decide_true, decide_false, r_isd, r_islt, cD_ty, cD_ref, tD_non, tD_bl, tD_int, tD_str, tD_ref, tH_lst, tH_tup, tH_dK, tH_ins, ki_self, ki_int_bool, ki_non_int, ki_str_int, ki_lt_lst, ki_lt_tup, r_fld, r_sfld, HO.ins.injEq, cx_K, r_dget]
    refine ⟨Nat.zero_le _, fun p hp => ⟨szl (by decide : 3 ≤ 1000), fun tt htt => ?_⟩⟩
    have s1 : Same H (L2.upd (L2.upd H p (.lst [])) tt (.tup (vn pl))) := Same.new' (Same.new' (Same.refl H) hp) htt
    have q1 : L2.upd (L2.upd H p (.lst [])) tt (.tup (vn pl)) tt = some (.tup (vn pl)) := upd_same
    have q2 : L2.upd (L2.upd H p (.lst [])) tt (.tup (vn pl)) p = some (.lst []) := by
      rw [upd_ne (ne_new upd_same htt)]
      exact upd_same
    have tp : tt ≠ p := new_ne upd_same htt
    show (∃ xs, SqT K (L2.upd (L2.upd H p (.lst [])) tt (.tup (vn pl))) tt xs) ∧ _
    change _ ∧ LoopR _ _ _ _ _ (L2.upd (L2.upd H p (.lst [])) tt (.tup (vn pl)))
    generalize L2.upd (L2.upd H p (.lst [])) tt (.tup (vn pl)) = G at *
    refine ⟨⟨_, SqT.of q1⟩, lp_tup (xs := vn pl) (lvPk G d p r.1 n) ⟨none, rfl, Keep.refl p G, q2⟩ (fun i σ H' _ ⟨_, _, kk, _⟩ => SqT.of (kk _ _ tp q1)) ?_ ?_⟩
    · rintro i x σ H1 hx ⟨v, rfl, kk, h1⟩
      have hi : i < pl.length := by
        have := (List.getElem?_eq_some_iff.mp hx).1
        rwa [vn_len] at this
      obtain rfl : x = .int ((pl[i] : Nat) : Int) := by
        unfold vn at hx
        rw [List.getElem?_map, List.getElem?_eq_getElem hi] at hx
        exact (Option.some.inj hx).symm
      have nx : pex n (i + 1) = pex n i ++ pc n pl[i] := by
        unfold pex
        rw [List.take_succ_eq_append_getElem hi, List.map_append, List.flatten_append]
        simp
      have pp : 0 < pl[i] ∧ pl[i] < 2 ^ 30 := by
        have := List.getElem_mem hi
        unfold pl at this
        simp only [List.mem_cons, List.not_mem_nil, or_false] at this
        rcases this with e | e | e <;> rw [show pl[i] = _ from e] <;> decide
      have lx := pex_len n i
      generalize pl[i] = q at *
      have cd : CDivW (n : Int) (q : Int) = True := cdw (by have := pp.2; omega)
      simp only [r_seq, r_next, r_brk, r_cont, r_asg, r_name, r_ret, r_retN, r_drop, r_ifs, r_never, r_var, r_c, r_op, r_un, r_if, r_tst, r_b, r_not, r_and, r_or, r_andV, r_orV, r_notV, r_nil, r_cons, r_tup, r_lst, r_cb, r_call, r_bm, r_bm0, r_sl, r_nopart, r_part, r_rev, r_gnil, r_gcons, r_gsub, r_par, r_aug, r_chain, r_I0, r_I, r_U, r_ixd, r_lend, r_tupd, r_listd, r_sld, r_app, r_ext, r_reverse, r_setl, r_cat, r_int1, r_eqS, r_neS, scal_ii, scal_bb, scal_ss, at0, at1, at2, sq_lst, sq_tup, isLst_lst, List.getElem?_cons_zero, List.getElem?_cons_succ, List.set_cons_zero, List.set_cons_succ, V.int.injEq, V.bl.injEq, V.ref.injEq, V.str.injEq, HO.lst.injEq, HO.tup.injEq, Option.some.injEq, exists_eq_left', exists_eq_left, List.cons.injEq, and_true, true_and, decide_eq_true_eq, reduceCtorEq, false_and, exists_false, or_false, false_or, exists_const, and_assoc, exists_and_left, List.append_nil, ix0, ix1, ix2, cm_mod, cdw1009, cdw2003, cdw7, cdw64, cdw2, cm104729, cm2, cm3, upd_same, List.length_cons, List.length_nil, Int.reduceLT, Int.reduceLE, Nat.reduceAdd, Nat.reduceLeDiff, Nat.reduceLT, Int.reduceToNat, r_for1, r_forL, r_forT, r_lcL, r_lc1, r_yes, r_gtupD, wipe_0, wipe_1, List.cons_append, List.nil_append, r_forS, r_ipI, ite_false, ite_true, Bool.not_true, Bool.not_false, decide_true, decide_false, r_isd, r_islt, cD_ty, cD_ref, tD_non, tD_bl, tD_int, tD_str, tD_ref, tH_lst, tH_tup, tH_dK, tH_ins, ki_self, ki_int_bool, ki_non_int, ki_str_int, ki_lt_lst, ki_lt_tup, r_fld, r_sfld, HO.ins.injEq, cx_K, cd, h1]
      by_cases c : q ≤ n
      · rw [if_pos (by omega)]
        refine ⟨tyl h1, szl (by decide : 2 ≤ 1000), fun t hht => ⟨_, by rw [upd_ne (ne_new h1 hht)]; exact h1, Nat.le_trans (by rw [vn_len]; omega : _ ≤ 1000) (by decide), ?_⟩⟩
        refine ⟨_, rfl, fun b o hb e => ?_, ?_⟩
        · rw [upd_ne hb, upd_ne (ne_new (kk b o hb e) hht)]
          exact kk b o hb e
        · rw [upd_same, nx, vn_app]
          unfold pc
          rw [if_pos c]
          rfl
      · rw [if_neg (by omega)]
        refine ⟨_, rfl, kk, ?_⟩
        rw [h1, nx]
        unfold pc
        rw [if_neg c, List.append_nil]
    · rintro σ H1 ⟨v, rfl, kk, h1⟩
      rw [vn_len, show pl.length = 3 from rfl, pex_all] at h1
      have sH : Same H H1 := fun b o e => kk b o (ne_new e hp) (s1 b o e)
      have ht1 := ht.same sH
      obtain ⟨t, hg, hrow⟩ := ht1.get hm
      obtain ⟨f1, f5, f6, f3, f4, f7, f8, f9⟩ := tab_fact hm
      have lx := exts_len n
      simp only [r_seq, r_next, r_brk, r_cont, r_asg, r_name, r_ret, r_retN, r_drop, r_ifs, r_never, r_var, r_c, r_op, r_un, r_if, r_tst, r_b, r_not, r_and, r_or, r_andV, r_orV, r_notV, r_nil, r_cons, r_tup, r_lst, r_cb, r_call, r_bm, r_bm0, r_sl, r_nopart, r_part, r_rev, r_gnil, r_gcons, r_gsub, r_par, r_aug, r_chain, r_I0, r_I, r_U, r_ixd, r_lend, r_tupd, r_listd, r_sld, r_app, r_ext, r_reverse, r_setl, r_cat, r_int1, r_eqS, r_neS, scal_ii, scal_bb, scal_ss, at0, at1, at2, sq_lst, sq_tup, isLst_lst, List.getElem?_cons_zero, List.getElem?_cons_succ, List.set_cons_zero, List.set_cons_succ, V.int.injEq, V.bl.injEq, V.ref.injEq, V.str.injEq, HO.lst.injEq, HO.tup.injEq, Option.some.injEq, exists_eq_left', exists_eq_left, List.cons.injEq, and_true, true_and, decide_eq_true_eq, reduceCtorEq, false_and, exists_false, or_false, false_or, exists_const, and_assoc, exists_and_left, List.append_nil, ix0, ix1, ix2, cm_mod, cdw1009, cdw2003, cdw7, cdw64, cdw2, cm104729, cm2, cm3, upd_same, List.length_cons, List.length_nil, Int.reduceLT, Int.reduceLE, Nat.reduceAdd, Nat.reduceLeDiff, Nat.reduceLT, Int.reduceToNat, r_for1, r_forL, r_forT, r_lcL, r_lc1, r_yes, r_gtupD, wipe_0, wipe_1, List.cons_append, List.nil_append, r_forS, r_ipI, ite_false, ite_true, Bool.not_true, Bool.not_false, decide_true, decide_false, r_isd, r_islt, cD_ty, cD_ref, tD_non, tD_bl, tD_int, tD_str, tD_ref, tH_lst, tH_tup, tH_dK, tH_ins, ki_self, ki_int_bool, ki_non_int, ki_str_int, ki_lt_lst, ki_lt_tup, r_fld, r_sfld, HO.ins.injEq, cx_K, r_dget, h1]
      have hrs : sq (H1 t) = some (trV r) := by rw [hrow]; rfl
      refine ⟨_, hg, t, rfl, _, hrs, _, at0, szl (by decide : 2 ≤ 1000), fun a1 ha1 => ⟨_, by rw [upd_ne (ne_new h1 ha1)]; exact h1, Nat.le_trans (by rw [vn_len]; omega : _ ≤ 1000) (by decide), fun a2 ha2 => ⟨szl (by decide : 1 ≤ 1000), fun a3 ha3 => ?_⟩⟩⟩
      have e1 : vn (exts n) ++ [V.int r.2.1, V.int ((n : Int) % 256)] = vn (exts n ++ [r.2.1.toNat, n % 256]) := by
        rw [vn_app, ← f5]
        rfl
      rw [e1] at ha3 ⊢
      have sA := Same.new' (o := .lst [V.int r.2.1, V.int ((n : Int) % 256)]) (Same.refl H1) ha1
      have sB := Same.new' (o := .lst (vn (exts n ++ [r.2.1.toNat, n % 256]))) sA ha2
      have sC := Same.new' (o := .lst [V.int 0]) sB ha3
      have q5 : L2.upd (L2.upd (L2.upd H1 a1 (.lst [V.int r.2.1, V.int ((n : Int) % 256)])) a2 (.lst (vn (exts n ++ [r.2.1.toNat, n % 256])))) a3 (.lst [V.int 0]) a2 = some (.lst (vn (exts n ++ [r.2.1.toNat, n % 256]))) := by
        rw [upd_ne (ne_new upd_same ha3)]
        exact upd_same
      have q6 : L2.upd (L2.upd (L2.upd H1 a1 (.lst [V.int r.2.1, V.int ((n : Int) % 256)])) a2 (.lst (vn (exts n ++ [r.2.1.toNat, n % 256])))) a3 (.lst [V.int 0]) a3 = some (.lst [V.int 0]) := upd_same
      obtain ⟨t2, hg2, hrow2⟩ := (ht1.same sC).get hm
      generalize L2.upd (L2.upd (L2.upd H1 a1 (.lst [V.int r.2.1, V.int ((n : Int) % 256)])) a2 (.lst (vn (exts n ++ [r.2.1.toNat, n % 256])))) a3 (.lst [V.int 0]) = G2 at *
      refine ⟨_, hg2, t2, rfl, _, by rw [hrow2]; rfl, _, at1, r.2.2.1, rfl, a3, 2 * r.2.2.1, _, rfl, rfl, q6, by omega, by omega, Nat.le_trans (by simp; omega : _ ≤ 1000) (by decide), fun a4 ha4 => ⟨a4, rfl, vn (exts n ++ [r.2.1.toNat, n % 256]), ?_, _, upd_same, ?_, fun a5 ha5 => ?_⟩⟩
      · rw [upd_ne (ne_new q5 ha4)]
        exact q5
      · rw [rep_vn, vn_len, vn_len, List.length_append, List.length_replicate]
        exact Nat.le_trans (by show (exts n).length + 2 + _ ≤ 1000; omega) (by decide : 1000 ≤ sizeLine)
      · have sD := Same.new' (o := .lst (List.replicate (2 * r.2.2.1).toNat [V.int 0]).flatten) (Same.refl G2) ha4
        have sF : Same H (L2.upd (L2.upd G2 a4 (.lst (List.replicate (2 * r.2.2.1).toNat [V.int 0]).flatten)) a5 (.lst (vn (exts n ++ [r.2.1.toNat, n % 256]) ++ (List.replicate (2 * r.2.2.1).toNat [V.int 0]).flatten))) := Same.new' (fun b o e => sD b o (sC b o (sH b o e))) ha5
        have sE : Same H (L2.upd G2 a4 (.lst (List.replicate (2 * r.2.2.1).toNat [V.int 0]).flatten)) := fun b o e => sD b o (sC b o (sH b o e))
        refine k a5 _ (sE.free ha5) sF ?_
        rw [upd_same, rep_vn, ← vn_app]
        unfold bytesOf packN
        rw [show (2 * r.2.2.1).toNat = 2 * r.2.2.1.toNat from by omega, List.append_assoc]
end
end C57

set_option maxHeartbeats 2000000
namespace C57
open PySem PySem.Spec PyProof.Rows L2
def spGreat : Sp := fun vs H Q _ => ∃ a : Addr, vs = [.ref a] ∧ Src H a ∧ ∀ (n : Nat) H', n < 4294967296 → Keep a H H' → Src H' a → Q (.int (n : Int)) H'
section
variable {P : Program} {w : World} {K : PySem.W.Frag} {mg : Str → Option Value} {base : Heap} {f : Addr} {fd : FuncData}
abbrev sgreat : Stmt := top 68
theorem scgreat : FnScope ["_law_source", "_law_near", "_law_some"] ["_law_source"] (defScope sgreat) := ⟨rfl, rfl, rfl, by decide +kernel, rfl, by decide +kernel, by decide +kernel⟩

theorem ok_great (T : Txt mg) (F : FnP K "_law_great" "_law_great" sgreat f fd) (C_next : Cal P w K mg base 1 "_law_next" ["_law_source", "_law_many"] spNext) (C_one : Cal P w K mg base 2 "_law_one" ["_law_source", "_law_some"] spOne) : FnOk P w K mg base CX0 3 f fd ["_law_source"] spGreat := by
  refine F.ok scgreat (fun vs H Q E h => ?_) (fun cdv A outer s H vs Q E hr h => ?_)
  · obtain ⟨a, rfl, _⟩ := h
    rfl
  · obtain ⟨a, rfl, hS, k⟩ := h
    refine ⟨_, PSs.nox (pss_cons (ps_set (i := 1) scgreat.nd rfl (Or.inl rfl) (pe_op op_add (pe_op op_sub (pe_cal C_one (hr.mono (by decide)) rfl (pa_cons (pv 0) (pa_cons (pe_lst (pa_cons pe_int (pa_cons pe_int (pa_cons pe_int (pa_cons pe_int (pa_cons pe_int pa_nil)))))) pa_nil))) pe_int) (pe_cal C_next (hr.mono (by decide)) rfl (pa_cons (pv 0) (pa_cons pe_int pa_nil)))))
  (pss_cons (ps_set (i := 2) scgreat.nd rfl (Or.inl rfl) (pe_lst (pa_cons (pe_cal C_next (hr.mono (by decide)) rfl (pa_cons (pv 0) (pa_cons pe_int pa_nil))) (pa_cons (pe_cal C_next (hr.mono (by decide)) rfl (pa_cons (pv 0) (pa_cons pe_int pa_nil))) (pa_cons (pe_callB (call_min2 rfl) (by rfl) T.b_min (by decide +kernel) (pa_cons (pv 1) (pa_cons pe_int pa_nil))) (pa_cons (pe_cal C_next (hr.mono (by decide)) rfl (pa_cons (pv 0) (pa_cons (pe_op op_pow pe_int pe_int) pa_nil))) pa_nil))))))
  (pss_one (ps_ret (pe_cal C_one (hr.mono (by decide)) rfl (pa_cons (pv 0) (pa_cons (pv 2) pa_nil))))))), ?_⟩
    show (_ : TS) _ [some (.ref a), none, none] H
    simp only [r_seq, r_next, r_brk, r_cont, r_asg, r_name, r_ret, r_retN, r_drop, r_ifs, r_never, r_var, r_c, r_op, r_un, r_if, r_tst, r_b, r_not, r_and, r_or, r_andV, r_orV, r_notV, r_nil, r_cons, r_tup, r_lst, r_cb, r_call, r_bm, r_bm0, r_sl, r_nopart, r_part, r_rev, r_gnil, r_gcons, r_gsub, r_par, r_aug, r_chain, r_I0, r_I, r_U, r_ixd, r_lend, r_tupd, r_listd, r_sld, r_app, r_ext, r_reverse, r_setl, r_cat, r_int1, r_eqS, r_neS, scal_ii, scal_bb, scal_ss, at0, at1, at2, sq_lst, sq_tup, isLst_lst, List.getElem?_cons_zero, List.getElem?_cons_succ, List.set_cons_zero, List.set_cons_succ, V.int.injEq, V.bl.injEq, V.ref.injEq, V.str.injEq, HO.lst.injEq, HO.tup.injEq, Option.some.injEq, exists_eq_left', exists_eq_left, List.cons.injEq, and_true, true_and, decide_eq_true_eq, reduceCtorEq, false_and, exists_false, or_false, false_or, exists_const, and_assoc, exists_and_left, List.append_nil, ix0, ix1, ix2, cm_mod, cdw1009, cdw2003, cdw7, cdw64, cdw2, cm104729, cm2, cm3, upd_same, List.length_cons, List.length_nil, Int.reduceLT, Int.reduceLE, Nat.reduceAdd, Nat.reduceLeDiff, Nat.reduceLT, Int.reduceToNat, r_for1, r_forL, r_forT, r_lcL, r_lc1, r_yes, r_gtupD, wipe_0, wipe_1, List.cons_append, List.nil_append, r_forS, r_ipI, ite_false, ite_true, Bool.not_true, Bool.not_false, decide_true, decide_false, r_isd, r_islt, cD_ty, cD_ref, tD_non, tD_bl, tD_int, tD_str, tD_ref, tH_lst, tH_tup, tH_dK, tH_ins, ki_self, ki_int_bool, ki_non_int, ki_str_int, ki_lt_lst, ki_lt_tup, r_fld, r_sfld, HO.ins.injEq, cx_K]
    refine ⟨szl (by decide : 5 ≤ 1000), fun p hp => ?_⟩
    refine ⟨a, p, _, rfl, hS.new hp, hS.ne hp, upd_same, by simp, (by simp : _ ≤ 1000), fun v H1 hv k1 S1 => ?_⟩
    obtain ⟨m, rfl, m0⟩ : ∃ m : Int, v = .int m ∧ 256 ≤ m := by
      simp only [List.mem_cons, List.not_mem_nil, or_false] at hv
      rcases hv with rfl | rfl | rfl | rfl | rfl <;> exact ⟨_, rfl, by decide⟩
    refine ⟨m, rfl, a, 5, rfl, S1, by decide, by decide, fun n1 H2 b1 b2 k2 S2 => ⟨n1, rfl, ?_⟩⟩
    refine ⟨a, 20, rfl, S2, by decide, by decide, fun n2 H3 b3 b4 k3 S3 => ⟨a, 256, rfl, S3, by decide, by decide, fun n3 H4 b5 b6 k4 S4 => ?_⟩⟩
    refine ⟨⟨by decide, by decide, by decide⟩, a, 1000000, rfl, S4, by decide, by decide, fun n4 H5 b7 b8 k5 S5 => ⟨szl (by decide : 4 ≤ 1000), fun q hq => ?_⟩⟩
    refine ⟨a, q, _, rfl, S5.new hq, S5.ne hq, upd_same, by simp, (by simp : _ ≤ 1000), fun v H6 hv k6 S6 => ?_⟩
    have kk : Keep a H H6 := (((((((Keep.refl a H).new hp).trans k1).trans k2).trans k3).trans k4).trans k5).new hq |>.trans k6
    have fin : ∀ i : Int, v = .int i → 0 ≤ i → i < 4294967296 → Q v H6 := fun i e i0 i1 => by
      rw [e, show i = ((i.toNat : Nat) : Int) from by omega]
      exact k _ H6 (by omega) kk S6
    simp only [List.mem_cons, List.not_mem_nil, or_false] at hv
    rcases hv with e | e | e | e
    · exact fin _ e (by omega) (by omega)
    · exact fin _ e (by omega) (by omega)
    · exact fin _ e (by split <;> omega) (by split <;> omega)
    · exact fin _ e (by omega) (by omega)
end
end C57

set_option maxHeartbeats 2000000
namespace C57
open PySem PySem.Spec PyProof.Rows L2
/-! ### a text so many times -/
def rMulS : R2 := fun x y H Q => ∃ (z : Str) (i : Int), x = .str z ∧ y = .int i ∧ z.length ≤ 16 ∧ -(2 ^ 63 : Int) ≤ i ∧ i ≤ ((1048576 : Nat) : Int) ∧ Q (.str (Txt.mul z i)) H
theorem op_mulS {X : Cx} : OpR X (binaryOp .Mult) rMulS := by
  intro pins s σ H x y v u Q I rx ry h
  obtain ⟨z, i, rfl, rfl, h1, h2, h3, q⟩ := h
  obtain ⟨t, rfl⟩ := rx
  obtain ⟨t', rfl⟩ := ry
  exact PySem.W.KXi.mul rfl h1 h2 h3 fun t' k _ _ => ⟨.str (Txt.mul z i), H, I.tok _, ⟨_, rfl⟩, q⟩
theorem mul_0 (z : Str) : Txt.mul z 0 = "" := rfl
theorem mul_1 (z : Str) : Txt.mul z 1 = z := rfl
/-! ### two texts behind each other -/
def rAddS : R2 := fun x y H Q => ∃ i j : Str, x = .str i ∧ y = .str j ∧ i.length + j.length ≤ sizeLine ∧ Q (.str (i ++ j)) H
theorem op_addS {X : Cx} : OpR X (binaryOp .Add) rAddS := op_add_str
theorem r_addS {x y : V} {H : Hp} {Q : VK} : rAddS x y H Q = ∃ i j : Str, x = .str i ∧ y = .str j ∧ i.length + j.length ≤ sizeLine ∧ Q (.str (i ++ j)) H := rfl
theorem r_mulS {x y : V} {H : Hp} {Q : VK} : rMulS x y H Q = ∃ (z : Str) (i : Int), x = .str z ∧ y = .int i ∧ z.length ≤ 16 ∧ -(2 ^ 63 : Int) ≤ i ∧ i ≤ ((1048576 : Nat) : Int) ∧ Q (.str (Txt.mul z i)) H := rfl

/-! ### what the law tells of operators and numbers -/
def sgL : List Str := ["+", "&", "//", "<<", "", "*", "mod", "|", "**", ">>", "-", "", "^"]
def opLaw (n : Nat) : Str := if n < 13 then sgL.getD n "" else if n < 26 ∧ sgL.getD (n - 13) "" ≠ "" then sgL.getD (n - 13) "" ++ "=" else ""
theorem opLaw_is : ∀ n, n < 30 → mText OPL n = some (opLaw n) := by
  have h : ∀ n : Fin 30, mText OPL n.val = some (opLaw n.val) := by decide +kernel
  exact fun n hn => h ⟨n, hn⟩
def XL : List Nat := [2, 42, 72, 103, 132, 172].flatMap fun x => [x, x + 16, x + 1, x + 256]
def cmN (n : Nat) : Str := (lkT CML ((n : Int) - 16 * ((n : Int) / 16 % 2))).getD ""
def cmLaw (n : Nat) : Str := if cmN n ≠ "" ∧ (n : Int) / 16 % 2 = 1 then ("bool(" ++ cmN n) ++ ")" else cmN n
theorem cmN_short (n : Nat) : (cmN n).length ≤ 50 := by
  unfold cmN
  cases e : lkT CML ((n : Int) - 16 * ((n : Int) / 16 % 2)) with
  | none => decide
  | some z => exact lkT_short cml_short e
theorem at_sg {n : Nat} (h : n < 13) : atI (sgL.map V.str) (n : Int) = some (.str (sgL.getD n "")) := atn (by
  rw [List.getElem?_map, List.getD_eq_getElem?_getD, List.getElem?_eq_getElem (show n < sgL.length from h)]
  rfl)
theorem sg_short (n : Nat) : (sgL.getD n "").length ≤ 50 := by
  by_cases h : n < 13
  · have e : ∀ n : Fin 13, (sgL.getD n.val "").length ≤ 50 := by decide +kernel
    exact e ⟨n, h⟩
  · rw [List.getD_eq_getElem?_getD, List.getElem?_eq_none (show sgL.length ≤ n from by have : sgL.length = 13 := rfl; omega)]
    decide
theorem cmLaw_is : ∀ n ∈ XL, mCmp n = some (cmLaw n) := by decide +kernel
def knownD : List (Key × V) := [(Sum.inl 2, .str "<"), (Sum.inl 42, .str "<="), (Sum.inl 72, .str "=="), (Sum.inl 103, .str "!="), (Sum.inl 132, .str ">"), (Sum.inl 172, .str ">=")]
theorem known_get (k : Int) : (valV (mergeK [] knownD) (Sum.inl k : Key)).getD (.str "") = .str ((lkT CML k).getD "") := by
  have inj : ∀ z : Int, ((Sum.inl k : Key) = Sum.inl z) = (k = z) := fun z => propext ⟨fun e => Sum.inl.inj e, fun e => by rw [e]⟩
  unfold mergeK knownD
  simp only [List.foldl_cons, List.foldl_nil, valV_put, valV_nil, inj]
  by_cases c6 : k = 172
  · subst c6
    rfl
  by_cases c5 : k = 132
  · subst c5
    rfl
  by_cases c4 : k = 103
  · subst c4
    rfl
  by_cases c3 : k = 72
  · subst c3
    rfl
  by_cases c2 : k = 42
  · subst c2
    rfl
  by_cases c1 : k = 2
  · subst c1
    rfl
  simp only [if_neg c1, if_neg c2, if_neg c3, if_neg c4, if_neg c5, if_neg c6]
  have e : lkT CML k = none := by
    unfold lkT
    rw [List.find?_eq_none.mpr (fun p hp => ?_)]
    · rfl
    · have h : CML.all (fun p => decide (p.1 ∈ ([2, 42, 72, 103, 132, 172] : List Int))) = true := by decide +kernel
      have := of_decide_eq_true (List.all_eq_true.mp h p hp)
      intro z
      have z := of_decide_eq_true z
      rw [z] at this
      simp only [List.mem_cons, List.not_mem_nil, or_false] at this
      omega
  rw [e]
  rfl
def spToldOp : Sp := fun vs H Q _ => ∃ (z : Str) (n : Nat), vs = [.str z, .int (n : Int)] ∧ ((z = "COMPARE_OP" ∧ n ∈ XL ∧ ∀ H', Same H H' → Q (.str (cmLaw n)) H') ∨ (z = "BINARY_OP" ∧ n < 30 ∧ ∀ H', Same H H' → Q (.str (opLaw n)) H'))
section
variable {P : Program} {w : World} {K : PySem.W.Frag} {mg : Str → Option Value} {base : Heap} {f : Addr} {fd : FuncData}
abbrev stold_op : Stmt := top 74
theorem sctold_op : FnScope ["_law_word", "_law_number", "_law_known", "_law_bit", "_law_name", "_law_some"] ["_law_word", "_law_number"] (defScope stold_op) := ⟨rfl, rfl, rfl, by decide +kernel, rfl, by decide +kernel, by decide +kernel⟩

theorem ok_told_op (T : Txt mg) (F : FnP K "_law_told_operator" "_law_told_operator" stold_op f fd) : FnOk P w K mg base CX0 1 f fd ["_law_word", "_law_number"] spToldOp := by
  refine F.ok sctold_op (fun vs H Q E h => ?_) (fun cdv A outer s H vs Q E hr h => ?_)
  · obtain ⟨z, n, rfl, _⟩ := h
    rfl
  · obtain ⟨z, n, rfl, h⟩ := h
    refine ⟨_, PSs.nox (pss_cons (ps_if (pt_cmpR op_eq (pv 0) pe_str (nomark _))
    (pss_cons (ps_set (i := 2) sctold_op.nd rfl (Or.inl rfl) (pe_disp (pps_cons pe_int pe_str (pps_cons pe_int pe_str (pps_cons pe_int pe_str (pps_cons pe_int pe_str (pps_cons pe_int pe_str (pps_cons pe_int pe_str pps_nil)))))) (by rfl) (by rfl) (fun z => by cases z) (by decide)))
  (pss_cons (ps_set (i := 3) sctold_op.nd rfl (Or.inl rfl) (pe_op op_mod (pe_callTy call_int1 (by rfl) T.b_int (by decide +kernel) (pa_cons (pe_op op_fdivW (pv 1) pe_int) pa_nil)) pe_int))
  (pss_cons (ps_set (i := 4) sctold_op.nd rfl (Or.inl rfl) (pe_dget2 (hu_of hr) (pv 2) (pe_op op_sub (pv 1) (pe_op op_mul pe_int (pv 3))) pe_str ⟨rfl, rfl, rfl, rfl⟩))
  (pss_one (ps_ret (pe_ifExp (PW.pt (pw_and (pt_cmpR op_ne (pv 4) pe_str (nomark _)) (pw_and1 (pt_cmpR op_eq (pv 3) pe_int (nomark _))))) (pe_op op_addS (pe_op op_addS pe_str (pv 4)) pe_str) (pv 4)))))))
    pss_nil)
  (pss_cons (ps_set (i := 5) sctold_op.nd rfl (Or.inl rfl) (pe_lst (pa_cons pe_str (pa_cons pe_str (pa_cons pe_str (pa_cons pe_str (pa_cons pe_str (pa_cons pe_str (pa_cons pe_str (pa_cons pe_str (pa_cons pe_str (pa_cons pe_str (pa_cons pe_str (pa_cons pe_str (pa_cons pe_str pa_nil)))))))))))))))
  (pss_cons (ps_if (pt_cmpR op_lt (pv 1) pe_int (nomark _))
    (pss_one (ps_ret (pe_ix ix_d (pv 5) (pv 1) (fun _ _ => rfl))))
    pss_nil)
  (pss_one (ps_ret (pe_ifExp (PW.pt (pw_and (pt_cmpR op_lt (pv 1) pe_int (nomark _)) (pw_and1 (pt_cmpR op_ne (pe_ix ix_d (pv 5) (pe_op op_sub (pv 1) pe_int) (fun _ _ => rfl)) pe_str (nomark _))))) (pe_op op_addS (pe_ix ix_d (pv 5) (pe_op op_sub (pv 1) pe_int) (fun _ _ => rfl)) pe_str) pe_str)))))), ?_⟩
    show (_ : TS) _ [some (.str z), some (.int (n : Int)), none, none, none, none] H
    rcases h with ⟨rfl, hn, k⟩ | ⟨rfl, hn, k⟩
    · simp only [r_seq, r_next, r_brk, r_cont, r_asg, r_name, r_ret, r_retN, r_drop, r_ifs, r_never, r_var, r_c, r_op, r_un, r_if, r_tst, r_b, r_not, r_and, r_or, r_andV, r_orV, r_notV, r_nil, r_cons, r_tup, r_lst, r_cb, r_call, r_bm, r_bm0, r_sl, r_nopart, r_part, r_rev, r_gnil, r_gcons, r_gsub, r_par, r_aug, r_chain, r_I0, r_I, r_U, r_ixd, r_lend, r_tupd, r_listd, r_sld, r_app, r_ext, r_reverse, r_setl, r_cat, r_int1, r_eqS, r_neS, scal_ii, scal_bb, scal_ss, at0, at1, at2, sq_lst, sq_tup, isLst_lst, List.getElem?_cons_zero, List.getElem?_cons_succ, List.set_cons_zero, List.set_cons_succ, V.int.injEq, V.bl.injEq, V.ref.injEq, V.str.injEq, HO.lst.injEq, HO.tup.injEq, Option.some.injEq, exists_eq_left', exists_eq_left, List.cons.injEq, and_true, true_and, decide_eq_true_eq, reduceCtorEq, false_and, exists_false, or_false, false_or, exists_const, and_assoc, exists_and_left, List.append_nil, ix0, ix1, ix2, cm_mod, cdw1009, cdw2003, cdw7, cdw64, cdw2, cm104729, cm2, cm3, upd_same, List.length_cons, List.length_nil, Int.reduceLT, Int.reduceLE, Nat.reduceAdd, Nat.reduceLeDiff, Nat.reduceLT, Int.reduceToNat, r_for1, r_forL, r_forT, r_lcL, r_lc1, r_yes, r_gtupD, wipe_0, wipe_1, List.cons_append, List.nil_append, r_forS, r_ipI, ite_false, ite_true, Bool.not_true, Bool.not_false, decide_true, decide_false, r_isd, r_islt, cD_ty, cD_ref, tD_non, tD_bl, tD_int, tD_str, tD_ref, tH_lst, tH_tup, tH_dK, tH_ins, ki_self, ki_int_bool, ki_non_int, ki_str_int, ki_lt_lst, ki_lt_tup, r_fld, r_sfld, HO.ins.injEq, cx_K, r_addS]
      intro D hD
      refine ⟨upd_same, knownD, rfl, by decide, of_eq_true (cdw (by decide)), .ref D, rfl, D, rfl, .inl ⟨_, .inl upd_same⟩, ?_⟩
      have s1 : Same H (L2.upd (L2.upd H D (.dK [])) D (.dK (mergeK [] knownD))) := fun y o q => by
        rw [upd_ne (ne_new q hD), upd_ne (ne_new q hD)]
        exact q
      simp only [r_seq, r_next, r_brk, r_cont, r_asg, r_name, r_ret, r_retN, r_drop, r_ifs, r_never, r_var, r_c, r_op, r_un, r_if, r_tst, r_b, r_not, r_and, r_or, r_andV, r_orV, r_notV, r_nil, r_cons, r_tup, r_lst, r_cb, r_call, r_bm, r_bm0, r_sl, r_nopart, r_part, r_rev, r_gnil, r_gcons, r_gsub, r_par, r_aug, r_chain, r_I0, r_I, r_U, r_ixd, r_lend, r_tupd, r_listd, r_sld, r_app, r_ext, r_reverse, r_setl, r_cat, r_int1, r_eqS, r_neS, scal_ii, scal_bb, scal_ss, at0, at1, at2, sq_lst, sq_tup, isLst_lst, List.getElem?_cons_zero, List.getElem?_cons_succ, List.set_cons_zero, List.set_cons_succ, V.int.injEq, V.bl.injEq, V.ref.injEq, V.str.injEq, HO.lst.injEq, HO.tup.injEq, Option.some.injEq, exists_eq_left', exists_eq_left, List.cons.injEq, and_true, true_and, decide_eq_true_eq, reduceCtorEq, false_and, exists_false, or_false, false_or, exists_const, and_assoc, exists_and_left, List.append_nil, ix0, ix1, ix2, cm_mod, cdw1009, cdw2003, cdw7, cdw64, cdw2, cm104729, cm2, cm3, upd_same, List.length_cons, List.length_nil, Int.reduceLT, Int.reduceLE, Nat.reduceAdd, Nat.reduceLeDiff, Nat.reduceLT, Int.reduceToNat, r_for1, r_forL, r_forT, r_lcL, r_lc1, r_yes, r_gtupD, wipe_0, wipe_1, List.cons_append, List.nil_append, r_forS, r_ipI, ite_false, ite_true, Bool.not_true, Bool.not_false, decide_true, decide_false, r_isd, r_islt, cD_ty, cD_ref, tD_non, tD_bl, tD_int, tD_str, tD_ref, tH_lst, tH_tup, tH_dK, tH_ins, ki_self, ki_int_bool, ki_non_int, ki_str_int, ki_lt_lst, ki_lt_tup, r_fld, r_sfld, HO.ins.injEq, cx_K]
      refine ⟨of_eq_true (cm_l (by decide)), _, DGet.k (k := Sum.inl ((n : Int) - 16 * ((n : Int) / 16 % 2))) upd_same, ?_⟩
      rw [known_get]
      have k' := k _ s1
      have sh := cmN_short n
      unfold cmLaw at k'
      change scal (V.str (cmN n)) (V.str "") = true ∧ if (!decide (V.str (cmN n) = V.str "")) = true then if (n : Int) / 16 % 2 = 1 then ∃ x_1, V.str (cmN n) = V.str x_1 ∧ (Str.ofString "bool(").length + x_1.length ≤ sizeLine ∧
                    (Str.ofString "bool(" ++ x_1).length + (Str.ofString ")").length ≤ sizeLine ∧ Q (V.str (Str.ofString "bool(" ++ x_1 ++ Str.ofString ")")) _ else Q (V.str (cmN n)) _ else Q (V.str (cmN n)) _
      refine ⟨rfl, ?_⟩
      by_cases c1 : cmN n = ""
      · rw [if_neg (by rw [c1]; decide)]
        rwa [if_neg (fun z => z.1 c1)] at k'
      · rw [if_pos (by simp [c1])]
        by_cases c2 : (n : Int) / 16 % 2 = 1
        · rw [if_pos c2]
          rw [if_pos ⟨c1, c2⟩] at k'
          have l5 : (Str.ofString "bool(").length = 5 := by decide
          have l1 : (Str.ofString ")").length = 1 := by decide
          exact ⟨_, rfl, bigS (by omega), bigS (by rw [strLen_append]; omega), k'⟩
        · rw [if_neg c2]
          rwa [if_neg (fun z => c2 z.2)] at k'
    · simp only [r_seq, r_next, r_brk, r_cont, r_asg, r_name, r_ret, r_retN, r_drop, r_ifs, r_never, r_var, r_c, r_op, r_un, r_if, r_tst, r_b, r_not, r_and, r_or, r_andV, r_orV, r_notV, r_nil, r_cons, r_tup, r_lst, r_cb, r_call, r_bm, r_bm0, r_sl, r_nopart, r_part, r_rev, r_gnil, r_gcons, r_gsub, r_par, r_aug, r_chain, r_I0, r_I, r_U, r_ixd, r_lend, r_tupd, r_listd, r_sld, r_app, r_ext, r_reverse, r_setl, r_cat, r_int1, r_eqS, r_neS, scal_ii, scal_bb, scal_ss, at0, at1, at2, sq_lst, sq_tup, isLst_lst, List.getElem?_cons_zero, List.getElem?_cons_succ, List.set_cons_zero, List.set_cons_succ, V.int.injEq, V.bl.injEq, V.ref.injEq, V.str.injEq, HO.lst.injEq, HO.tup.injEq, Option.some.injEq, exists_eq_left', exists_eq_left, List.cons.injEq, and_true, true_and, decide_eq_true_eq, reduceCtorEq, false_and, exists_false, or_false, false_or, exists_const, and_assoc, exists_and_left, List.append_nil, ix0, ix1, ix2, cm_mod, cdw1009, cdw2003, cdw7, cdw64, cdw2, cm104729, cm2, cm3, upd_same, List.length_cons, List.length_nil, Int.reduceLT, Int.reduceLE, Nat.reduceAdd, Nat.reduceLeDiff, Nat.reduceLT, Int.reduceToNat, r_for1, r_forL, r_forT, r_lcL, r_lc1, r_yes, r_gtupD, wipe_0, wipe_1, List.cons_append, List.nil_append, r_forS, r_ipI, ite_false, ite_true, Bool.not_true, Bool.not_false, decide_true, decide_false, r_isd, r_islt, cD_ty, cD_ref, tD_non, tD_bl, tD_int, tD_str, tD_ref, tH_lst, tH_tup, tH_dK, tH_ins, ki_self, ki_int_bool, ki_non_int, ki_str_int, ki_lt_lst, ki_lt_tup, r_fld, r_sfld, HO.ins.injEq, cx_K, r_addS]
      rw [if_neg (by decide)]
      refine ⟨szl (by decide : 13 ≤ 1000), fun p hp => ?_⟩
      have k' := k _ (Same.new' (o := .lst (sgL.map V.str)) (Same.refl H) hp)
      unfold opLaw at k'
      by_cases c1 : n < 13
      · rw [if_pos (by omega)]
        rw [if_pos c1] at k'
        exact ⟨_, at_sg c1, k'⟩
      · rw [if_neg (by omega)]
        rw [if_neg c1] at k'
        by_cases c2 : n < 26
        · rw [if_pos (by omega)]
          have ei : (n : Int) - 13 = ((n - 13 : Nat) : Int) := by omega
          rw [ei]
          refine ⟨_, at_sg (n := n - 13) (by omega), rfl, ?_⟩
          by_cases c3 : sgL.getD (n - 13) "" = ""
          · rw [if_neg (by rw [c3]; decide)]
            rwa [if_neg (fun z => z.2 c3)] at k'
          · rw [if_pos (by simp only [V.str.injEq, c3]; rfl)]
            rw [if_pos ⟨c2, c3⟩] at k'
            have sh := sg_short (n - 13)
            have l1 : (Str.ofString "=").length = 1 := by decide
            exact ⟨_, at_sg (n := n - 13) (by omega), _, rfl, bigS (by omega), k'⟩
        · rw [if_neg (by omega)]
          rwa [if_neg (fun z => c2 z.1)] at k'
end
end C57

set_option maxHeartbeats 2000000
namespace C57
open PySem PySem.Spec PyProof.Rows L2
/-! ### what the law tells of other numbers -/
def nkB (z : Str) : Bool := ("IS_OP" : Str) == z || ("CONTAINS_OP" : Str) == z
def nuLaw (z : Str) (n : Nat) : Str := if nkB z = true then (if n = 1 then "not" else "") else if z = "CALL_INTRINSIC_1" then (lkT INL (n : Int)).getD "" else if z = "SET_FUNCTION_ATTRIBUTE" then (lkT ATL (n : Int)).getD "" else ""
def inlD : List (Key × V) := [(Sum.inl 3, .str "INTRINSIC_STOPITERATION_ERROR"), (Sum.inl 6, .str "INTRINSIC_LIST_TO_TUPLE")]
def atlD : List (Key × V) := [(Sum.inl 1, .str "defaults"), (Sum.inl 2, .str "kwdefaults"), (Sum.inl 8, .str "closure")]
theorem lk_none {l : List (Int × Str)} {ks : List Int} (h : l.all (fun p => decide (p.1 ∈ ks)) = true) {k : Int} (hk : k ∉ ks) : lkT l k = none := by
  unfold lkT
  rw [List.find?_eq_none.mpr (fun p hp => ?_)]
  · rfl
  · have := of_decide_eq_true (List.all_eq_true.mp h p hp)
    intro z
    have z := of_decide_eq_true z
    rw [z] at this
    exact hk this
theorem inl_get (k : Int) : (valV (mergeK [] inlD) (Sum.inl k : Key)).getD (.str "") = .str ((lkT INL k).getD "") := by
  have inj : ∀ z : Int, ((Sum.inl k : Key) = Sum.inl z) = (k = z) := fun z => propext ⟨fun e => Sum.inl.inj e, fun e => by rw [e]⟩
  unfold mergeK inlD
  simp only [List.foldl_cons, List.foldl_nil, valV_put, valV_nil, inj]
  by_cases c2 : k = 6
  · subst c2
    rfl
  by_cases c1 : k = 3
  · subst c1
    rfl
  simp only [if_neg c1, if_neg c2]
  rw [lk_none (ks := [3, 6]) (by decide +kernel) (by simp [c1, c2])]
  rfl
theorem atl_get (k : Int) : (valV (mergeK [] atlD) (Sum.inl k : Key)).getD (.str "") = .str ((lkT ATL k).getD "") := by
  have inj : ∀ z : Int, ((Sum.inl k : Key) = Sum.inl z) = (k = z) := fun z => propext ⟨fun e => Sum.inl.inj e, fun e => by rw [e]⟩
  unfold mergeK atlD
  simp only [List.foldl_cons, List.foldl_nil, valV_put, valV_nil, inj]
  by_cases c3 : k = 8
  · subst c3
    rfl
  by_cases c2 : k = 2
  · subst c2
    rfl
  by_cases c1 : k = 1
  · subst c1
    rfl
  simp only [if_neg c1, if_neg c2, if_neg c3]
  rw [lk_none (ks := [1, 2, 8]) (by decide +kernel) (by simp [c1, c2, c3])]
  rfl
theorem nk_is (z : Str) : inV (V.str z) [.str "IS_OP", .str "CONTAINS_OP"] = nkB z := by
  unfold nkB
  simp [inV, eqV]
def spToldNum : Sp := fun vs H Q _ => ∃ (z : Str) (n : Nat), vs = [.str z, .int (n : Int)] ∧ ∀ H', Same H H' → Q (.str (nuLaw z n)) H'
section
variable {P : Program} {w : World} {K : PySem.W.Frag} {mg : Str → Option Value} {base : Heap} {f : Addr} {fd : FuncData}
abbrev stold_num : Stmt := top 75
theorem sctold_num : FnScope ["_law_word", "_law_number"] ["_law_word", "_law_number"] (defScope stold_num) := ⟨rfl, rfl, rfl, by decide +kernel, rfl, by decide +kernel, by decide +kernel⟩

theorem ok_told_num (T : Txt mg) (F : FnP K "_law_told_number" "_law_told_number" stold_num f fd) : FnOk P w K mg base CX0 1 f fd ["_law_word", "_law_number"] spToldNum := by
  refine F.ok sctold_num (fun vs H Q E h => ?_) (fun cdv A outer s H vs Q E hr h => ?_)
  · obtain ⟨z, n, rfl, _⟩ := h
    rfl
  · obtain ⟨z, n, rfl, k⟩ := h
    refine ⟨_, PSs.nox (pss_cons (ps_if (pt_cmpR op_in_seq (pv 0) (pe_tup (pa_cons pe_str (pa_cons pe_str pa_nil))) (by rfl))
    (pss_one (ps_ret (pe_op op_mulS pe_str (pe_callTy call_int1 (by rfl) T.b_int (by decide +kernel) (pa_cons (pe_cmpR op_eq (pv 1) pe_int (nomark _)) pa_nil)))))
    pss_nil)
  (pss_cons (ps_if (pt_cmpR op_eq (pv 0) pe_str (nomark _))
    (pss_one (ps_ret (pe_dget2 (hu_of hr) (pe_disp (pps_cons pe_int pe_str (pps_cons pe_int pe_str pps_nil)) (by rfl) (by rfl) (fun z => by cases z) (by decide)) (pv 1) pe_str ⟨rfl, rfl, rfl, rfl⟩)))
    pss_nil)
  (pss_cons (ps_if (pt_cmpR op_eq (pv 0) pe_str (nomark _))
    (pss_one (ps_ret (pe_dget2 (hu_of hr) (pe_disp (pps_cons pe_int pe_str (pps_cons pe_int pe_str (pps_cons pe_int pe_str pps_nil))) (by rfl) (by rfl) (fun z => by cases z) (by decide)) (pv 1) pe_str ⟨rfl, rfl, rfl, rfl⟩)))
    pss_nil)
  (pss_one (ps_ret pe_str))))), ?_⟩
    show (_ : TS) _ [some (.str z), some (.int (n : Int))] H
    simp only [r_seq, r_next, r_brk, r_cont, r_asg, r_name, r_ret, r_retN, r_drop, r_ifs, r_never, r_var, r_c, r_op, r_un, r_if, r_tst, r_b, r_not, r_and, r_or, r_andV, r_orV, r_notV, r_nil, r_cons, r_tup, r_lst, r_cb, r_call, r_bm, r_bm0, r_sl, r_nopart, r_part, r_rev, r_gnil, r_gcons, r_gsub, r_par, r_aug, r_chain, r_I0, r_I, r_U, r_ixd, r_lend, r_tupd, r_listd, r_sld, r_app, r_ext, r_reverse, r_setl, r_cat, r_int1, r_eqS, r_neS, scal_ii, scal_bb, scal_ss, at0, at1, at2, sq_lst, sq_tup, isLst_lst, List.getElem?_cons_zero, List.getElem?_cons_succ, List.set_cons_zero, List.set_cons_succ, V.int.injEq, V.bl.injEq, V.ref.injEq, V.str.injEq, HO.lst.injEq, HO.tup.injEq, Option.some.injEq, exists_eq_left', exists_eq_left, List.cons.injEq, and_true, true_and, decide_eq_true_eq, reduceCtorEq, false_and, exists_false, or_false, false_or, exists_const, and_assoc, exists_and_left, List.append_nil, ix0, ix1, ix2, cm_mod, cdw1009, cdw2003, cdw7, cdw64, cdw2, cm104729, cm2, cm3, upd_same, List.length_cons, List.length_nil, Int.reduceLT, Int.reduceLE, Nat.reduceAdd, Nat.reduceLeDiff, Nat.reduceLT, Int.reduceToNat, r_for1, r_forL, r_forT, r_lcL, r_lc1, r_yes, r_gtupD, wipe_0, wipe_1, List.cons_append, List.nil_append, r_forS, r_ipI, ite_false, ite_true, Bool.not_true, Bool.not_false, decide_true, decide_false, r_isd, r_islt, cD_ty, cD_ref, tD_non, tD_bl, tD_int, tD_str, tD_ref, tH_lst, tH_tup, tH_dK, tH_ins, ki_self, ki_int_bool, ki_non_int, ki_str_int, ki_lt_lst, ki_lt_tup, r_fld, r_sfld, HO.ins.injEq, cx_K, r_mulS]
    refine ⟨szl (by decide : 2 ≤ 1000), fun p hp => ?_⟩
    have s1 : Same H _ := Same.new' (o := .tup [.str "IS_OP", .str "CONTAINS_OP"]) (Same.refl H) hp
    refine ⟨p, _, rfl, .inr (SqT.of upd_same), rfl, rfl, ?_⟩
    generalize L2.upd H p (.tup [.str "IS_OP", .str "CONTAINS_OP"]) = G at *
    refine ⟨nkB z, congrArg V.bl (nk_is z), ?_⟩
    have k' := k _ s1
    unfold nuLaw at k'
    by_cases c1 : nkB z = true
    · rw [if_pos c1]
      rw [if_pos c1] at k'
      by_cases c2 : n = 1
      · subst c2
        exact ⟨by decide, by decide, by decide, k'⟩
      · rw [if_neg c2] at k'
        rw [if_neg (show ¬ (n : Int) = 1 from by omega)]
        exact ⟨by decide, by decide, by decide, k'⟩
    · rw [if_neg c1]
      rw [if_neg c1] at k'
      by_cases c2 : z = "CALL_INTRINSIC_1"
      · rw [if_pos c2]
        intro D hD
        refine ⟨upd_same, inlD, rfl, by decide, D, rfl, .inl ⟨_, .inl upd_same⟩, ?_⟩
        have s2 : Same H (L2.upd (L2.upd G D (.dK [])) D (.dK (mergeK [] inlD))) := fun y o q => by
          have q1 := s1 y o q
          rw [upd_ne (ne_new q1 hD), upd_ne (ne_new q1 hD)]
          exact q1
        have k' := k _ s2
        unfold nuLaw at k'
        rw [if_neg c1, if_pos c2] at k'
        simp only [r_seq, r_next, r_brk, r_cont, r_asg, r_name, r_ret, r_retN, r_drop, r_ifs, r_never, r_var, r_c, r_op, r_un, r_if, r_tst, r_b, r_not, r_and, r_or, r_andV, r_orV, r_notV, r_nil, r_cons, r_tup, r_lst, r_cb, r_call, r_bm, r_bm0, r_sl, r_nopart, r_part, r_rev, r_gnil, r_gcons, r_gsub, r_par, r_aug, r_chain, r_I0, r_I, r_U, r_ixd, r_lend, r_tupd, r_listd, r_sld, r_app, r_ext, r_reverse, r_setl, r_cat, r_int1, r_eqS, r_neS, scal_ii, scal_bb, scal_ss, at0, at1, at2, sq_lst, sq_tup, isLst_lst, List.getElem?_cons_zero, List.getElem?_cons_succ, List.set_cons_zero, List.set_cons_succ, V.int.injEq, V.bl.injEq, V.ref.injEq, V.str.injEq, HO.lst.injEq, HO.tup.injEq, Option.some.injEq, exists_eq_left', exists_eq_left, List.cons.injEq, and_true, true_and, decide_eq_true_eq, reduceCtorEq, false_and, exists_false, or_false, false_or, exists_const, and_assoc, exists_and_left, List.append_nil, ix0, ix1, ix2, cm_mod, cdw1009, cdw2003, cdw7, cdw64, cdw2, cm104729, cm2, cm3, upd_same, List.length_cons, List.length_nil, Int.reduceLT, Int.reduceLE, Nat.reduceAdd, Nat.reduceLeDiff, Nat.reduceLT, Int.reduceToNat, r_for1, r_forL, r_forT, r_lcL, r_lc1, r_yes, r_gtupD, wipe_0, wipe_1, List.cons_append, List.nil_append, r_forS, r_ipI, ite_false, ite_true, Bool.not_true, Bool.not_false, decide_true, decide_false, r_isd, r_islt, cD_ty, cD_ref, tD_non, tD_bl, tD_int, tD_str, tD_ref, tH_lst, tH_tup, tH_dK, tH_ins, ki_self, ki_int_bool, ki_non_int, ki_str_int, ki_lt_lst, ki_lt_tup, r_fld, r_sfld, HO.ins.injEq, cx_K]
        refine ⟨_, DGet.k (k := Sum.inl (n : Int)) upd_same, ?_⟩
        rw [inl_get]
        exact k'
      · rw [if_neg c2]
        rw [if_neg c2] at k'
        by_cases c3 : z = "SET_FUNCTION_ATTRIBUTE"
        · rw [if_pos c3]
          intro D hD
          refine ⟨upd_same, atlD, rfl, by decide, D, rfl, .inl ⟨_, .inl upd_same⟩, ?_⟩
          have s2 : Same H (L2.upd (L2.upd G D (.dK [])) D (.dK (mergeK [] atlD))) := fun y o q => by
            have q1 := s1 y o q
            rw [upd_ne (ne_new q1 hD), upd_ne (ne_new q1 hD)]
            exact q1
          have k' := k _ s2
          unfold nuLaw at k'
          rw [if_neg c1, if_neg c2, if_pos c3] at k'
          simp only [r_seq, r_next, r_brk, r_cont, r_asg, r_name, r_ret, r_retN, r_drop, r_ifs, r_never, r_var, r_c, r_op, r_un, r_if, r_tst, r_b, r_not, r_and, r_or, r_andV, r_orV, r_notV, r_nil, r_cons, r_tup, r_lst, r_cb, r_call, r_bm, r_bm0, r_sl, r_nopart, r_part, r_rev, r_gnil, r_gcons, r_gsub, r_par, r_aug, r_chain, r_I0, r_I, r_U, r_ixd, r_lend, r_tupd, r_listd, r_sld, r_app, r_ext, r_reverse, r_setl, r_cat, r_int1, r_eqS, r_neS, scal_ii, scal_bb, scal_ss, at0, at1, at2, sq_lst, sq_tup, isLst_lst, List.getElem?_cons_zero, List.getElem?_cons_succ, List.set_cons_zero, List.set_cons_succ, V.int.injEq, V.bl.injEq, V.ref.injEq, V.str.injEq, HO.lst.injEq, HO.tup.injEq, Option.some.injEq, exists_eq_left', exists_eq_left, List.cons.injEq, and_true, true_and, decide_eq_true_eq, reduceCtorEq, false_and, exists_false, or_false, false_or, exists_const, and_assoc, exists_and_left, List.append_nil, ix0, ix1, ix2, cm_mod, cdw1009, cdw2003, cdw7, cdw64, cdw2, cm104729, cm2, cm3, upd_same, List.length_cons, List.length_nil, Int.reduceLT, Int.reduceLE, Nat.reduceAdd, Nat.reduceLeDiff, Nat.reduceLT, Int.reduceToNat, r_for1, r_forL, r_forT, r_lcL, r_lc1, r_yes, r_gtupD, wipe_0, wipe_1, List.cons_append, List.nil_append, r_forS, r_ipI, ite_false, ite_true, Bool.not_true, Bool.not_false, decide_true, decide_false, r_isd, r_islt, cD_ty, cD_ref, tD_non, tD_bl, tD_int, tD_str, tD_ref, tH_lst, tH_tup, tH_dK, tH_ins, ki_self, ki_int_bool, ki_non_int, ki_str_int, ki_lt_lst, ki_lt_tup, r_fld, r_sfld, HO.ins.injEq, cx_K]
          refine ⟨_, DGet.k (k := Sum.inl (n : Int)) upd_same, ?_⟩
          rw [atl_get]
          exact k'
        · rw [if_neg c3]
          rwa [if_neg c3] at k'
end
end C57

set_option maxHeartbeats 2000000
namespace C57
open PySem PySem.Spec PyProof.Rows L2
/-! ### the law's tables, and a number that is drawn -/
/-- a code among the wares is the law's own -/
def PathQ (CC : Addr) (H : Hp) (v : V) : Prop := ∀ (a dx : Addr) (fs : List (Str × V)), v = .ref a → H a = some (.ins CC dx fs) → fs.lookup ("path" : Str) = some (.str "p.q")
structure LTab (K : PySem.W.Frag) (CC : Addr) (H : Hp) (tb w n s : Addr) (T : Tb) : Prop where
  tb : H tb = some (.tup [.ref w, .ref n, .ref s])
  w : ∃ ks : List V, H w = some (.lst ks) ∧ Paired (fun v t => ConstAt K CC H v t ∧ PathQ CC H v) ks T.cs
  n : H n = some (.lst (T.ns.map V.str))
  s : H s = some (.lst (T.ss.map V.str))
/-- they stay, whatever is done to the source -/
def LTabs (K : PySem.W.Frag) (CC a : Addr) (H : Hp) (tb : Addr) (T : Tb) : Prop := (TbOk T ∧ 0 < T.cs.length ∧ 0 < T.ns.length ∧ 0 < T.ss.length) ∧ ∃ w n s, ∀ H', Keep a H H' → LTab K CC H' tb w n s T
theorem LTabs.keep {K : PySem.W.Frag} {CC a tb : Addr} {H H' : Hp} {T : Tb} (L : LTabs K CC a H tb T) (k : Keep a H H') : LTabs K CC a H' tb T := by
  obtain ⟨h, w, n, s, f⟩ := L
  exact ⟨h, w, n, s, fun H2 k2 => f H2 (k.trans k2)⟩
def NumG (T : Tb) (s : Str) (n : Nat) : Prop := (s = "c" → n < T.cs.length) ∧ (s = "n" → n < T.ns.length) ∧ (s = "m" → n / 2 < T.ns.length) ∧ (s = "l" → n < T.ss.length) ∧ (s = "p" → n / 16 < T.ss.length ∧ n % 16 < T.ss.length) ∧ (s = "o" → n < 30) ∧ (s = "x" → n ∈ XL) ∧ n < 4294967296
def spDrawn (K : PySem.W.Frag) (CC : Addr) : Sp := fun vs H Q _ => ∃ (a tb : Addr) (s : Str) (T : Tb), vs = [.ref a, .str s, .ref tb] ∧ Src H a ∧ LTabs K CC a H tb T ∧ ∀ (n : Nat) H', NumG T s n → Keep a H H' → Src H' a → Q (.int (n : Int)) H'
def tabD (w n s : Addr) : List (Key × V) := [(Sum.inr "c", .ref w), (Sum.inr "n", .ref n), (Sum.inr "l", .ref s)]
theorem cnl_is (z : Str) : inV (V.str z) [.str "c", .str "n", .str "l"] = true ↔ z = "c" ∨ z = "n" ∨ z = "l" := by
  simp only [inV, eqV, List.any_cons, List.any_nil, Bool.or_false, Bool.or_eq_true, beq_iff_eq]
  exact ⟨fun h => h.elim (fun e => .inl e.symm) fun h => h.elim (fun e => .inr (.inl e.symm)) fun e => .inr (.inr e.symm), fun h => h.elim (fun e => .inl e.symm) fun h => h.elim (fun e => .inr (.inl e.symm)) fun e => .inr (.inr e.symm)⟩
section
variable {P : Program} {w : World} {K : PySem.W.Frag} {mg : Str → Option Value} {base : Heap} {f : Addr} {fd : FuncData}
abbrev sdrawn : Stmt := top 76
theorem scdrawn : FnScope ["_law_source", "_law_sort", "_law_tables", "_law_wares", "_law_names", "_law_slots"] ["_law_source", "_law_sort", "_law_tables"] (defScope sdrawn) := ⟨rfl, rfl, rfl, by decide +kernel, rfl, by decide +kernel, by decide +kernel⟩

theorem ok_drawn {CC : Addr} (T : Txt mg) (F : FnP K "_law_drawn" "_law_drawn" sdrawn f fd) (C_next : Cal P w K mg base 1 "_law_next" ["_law_source", "_law_many"] spNext) (C_one : Cal P w K mg base 2 "_law_one" ["_law_source", "_law_some"] spOne)
    (C_great : Cal P w K mg base 3 "_law_great" ["_law_source"] spGreat) : FnOk P w K mg base CX0 4 f fd ["_law_source", "_law_sort", "_law_tables"] (spDrawn K CC) := by
  refine F.ok scdrawn (fun vs H Q E h => ?_) (fun cdv A outer s H vs Q E hr h => ?_)
  · obtain ⟨a, tb, z, Tt, rfl, _⟩ := h
    rfl
  · obtain ⟨a, tb, z, Tt, rfl, hS, ⟨⟨tok, l1, l2, l3⟩, wa, na, sa, hT⟩, k⟩ := h
    refine ⟨_, PSs.nox (pss_cons (ps_asg (pv 2) (pg_tupD (n := 3) rfl (pgs_cons (pg_name (i := 3) scdrawn.nd rfl (Or.inl rfl)) (pgs_cons (pg_name (i := 4) scdrawn.nd rfl (Or.inl rfl)) (pgs_cons (pg_name (i := 5) scdrawn.nd rfl (Or.inl rfl)) pgs_nil)))))
  (pss_cons (ps_if (pt_cmpR op_in_seq (pv 1) (pe_tup (pa_cons pe_str (pa_cons pe_str (pa_cons pe_str pa_nil)))) (by rfl))
    (pss_one (ps_ret (pe_cal C_next (hr.mono (by decide)) rfl (pa_cons (pv 0) (pa_cons (pe_callB call_len_d (by rfl) T.b_len (by decide +kernel) (pa_cons (pe_dget (hu_of hr) (pe_disp (pps_cons pe_str (pv 3) (pps_cons pe_str (pv 4) (pps_cons pe_str (pv 5) pps_nil))) (by rfl) (by rfl) (fun z => by cases z) (by decide)) (pv 1) (fun _ _ => rfl)) pa_nil)) pa_nil)))))
    pss_nil)
  (pss_cons (ps_if (pt_cmpR op_eq (pv 1) pe_str (nomark _))
    (pss_one (ps_ret (pe_cal C_next (hr.mono (by decide)) rfl (pa_cons (pv 0) (pa_cons (pe_op op_mul pe_int (pe_callB call_len_d (by rfl) T.b_len (by decide +kernel) (pa_cons (pv 4) pa_nil))) pa_nil)))))
    pss_nil)
  (pss_cons (ps_if (pt_cmpR op_eq (pv 1) pe_str (nomark _))
    (pss_one (ps_ret (pe_op op_add (pe_op op_mul pe_int (pe_cal C_next (hr.mono (by decide)) rfl (pa_cons (pv 0) (pa_cons (pe_callB (call_min2 rfl) (by rfl) T.b_min (by decide +kernel) (pa_cons pe_int (pa_cons (pe_callB call_len_d (by rfl) T.b_len (by decide +kernel) (pa_cons (pv 5) pa_nil)) pa_nil))) pa_nil)))) (pe_cal C_next (hr.mono (by decide)) rfl (pa_cons (pv 0) (pa_cons (pe_callB (call_min2 rfl) (by rfl) T.b_min (by decide +kernel) (pa_cons pe_int (pa_cons (pe_callB call_len_d (by rfl) T.b_len (by decide +kernel) (pa_cons (pv 5) pa_nil)) pa_nil))) pa_nil))))))
    pss_nil)
  (pss_cons (ps_if (pt_cmpR op_eq (pv 1) pe_str (nomark _))
    (pss_one (ps_ret (pe_cal C_next (hr.mono (by decide)) rfl (pa_cons (pv 0) (pa_cons pe_int pa_nil)))))
    pss_nil)
  (pss_cons (ps_if (pt_cmpR op_eq (pv 1) pe_str (nomark _))
    (pss_one (ps_ret (pe_op op_add (pe_cal C_one (hr.mono (by decide)) rfl (pa_cons (pv 0) (pa_cons (pe_lst (pa_cons pe_int (pa_cons pe_int (pa_cons pe_int (pa_cons pe_int (pa_cons pe_int (pa_cons pe_int pa_nil))))))) pa_nil))) (pe_cal C_one (hr.mono (by decide)) rfl (pa_cons (pv 0) (pa_cons (pe_lst (pa_cons pe_int (pa_cons pe_int (pa_cons pe_int (pa_cons pe_int pa_nil))))) pa_nil))))))
    pss_nil)
  (pss_one (ps_ret (pe_ifExp (pt_cmpR op_eq (pv 1) pe_str (nomark _)) pe_int (pe_cal C_one (hr.mono (by decide)) rfl (pa_cons (pv 0) (pa_cons (pe_lst (pa_cons (pe_cal C_great (hr.mono (by decide)) rfl (pa_cons (pv 0) pa_nil)) (pa_cons pe_int (pa_cons pe_int (pa_cons pe_int (pa_cons pe_int (pa_cons pe_int pa_nil))))))) pa_nil)))))))))))), ?_⟩
    show (_ : TS) _ [some (.ref a), some (.str z), some (.ref tb), none, none, none] H
    have h0 := hT H (Keep.refl a H)
    simp only [r_seq, r_next, r_brk, r_cont, r_asg, r_name, r_ret, r_retN, r_drop, r_ifs, r_never, r_var, r_c, r_op, r_un, r_if, r_tst, r_b, r_not, r_and, r_or, r_andV, r_orV, r_notV, r_nil, r_cons, r_tup, r_lst, r_cb, r_call, r_bm, r_bm0, r_sl, r_nopart, r_part, r_rev, r_gnil, r_gcons, r_gsub, r_par, r_aug, r_chain, r_I0, r_I, r_U, r_ixd, r_lend, r_tupd, r_listd, r_sld, r_app, r_ext, r_reverse, r_setl, r_cat, r_int1, r_eqS, r_neS, scal_ii, scal_bb, scal_ss, at0, at1, at2, sq_lst, sq_tup, isLst_lst, List.getElem?_cons_zero, List.getElem?_cons_succ, List.set_cons_zero, List.set_cons_succ, V.int.injEq, V.bl.injEq, V.ref.injEq, V.str.injEq, HO.lst.injEq, HO.tup.injEq, Option.some.injEq, exists_eq_left', exists_eq_left, List.cons.injEq, and_true, true_and, decide_eq_true_eq, reduceCtorEq, false_and, exists_false, or_false, false_or, exists_const, and_assoc, exists_and_left, List.append_nil, ix0, ix1, ix2, cm_mod, cdw1009, cdw2003, cdw7, cdw64, cdw2, cm104729, cm2, cm3, upd_same, List.length_cons, List.length_nil, Int.reduceLT, Int.reduceLE, Nat.reduceAdd, Nat.reduceLeDiff, Nat.reduceLT, Int.reduceToNat, r_for1, r_forL, r_forT, r_lcL, r_lc1, r_yes, r_gtupD, wipe_0, wipe_1, List.cons_append, List.nil_append, r_forS, r_ipI, ite_false, ite_true, Bool.not_true, Bool.not_false, decide_true, decide_false, r_isd, r_islt, cD_ty, cD_ref, tD_non, tD_bl, tD_int, tD_str, tD_ref, tH_lst, tH_tup, tH_dK, tH_ins, ki_self, ki_int_bool, ki_non_int, ki_str_int, ki_lt_lst, ki_lt_tup, r_fld, r_sfld, HO.ins.injEq, cx_K, h0.tb]
    refine ⟨szl (by decide : 3 ≤ 1000), fun p hp => ⟨p, _, rfl, .inr (SqT.of upd_same), rfl, rfl, inV (V.str z) [.str "c", .str "n", .str "l"], rfl, ?_⟩⟩
    have k1 : Keep a H (L2.upd H p (.tup [.str "c", .str "n", .str "l"])) := (Keep.refl a H).new hp
    have S1 := hS.new (o := .tup [.str "c", .str "n", .str "l"]) hp
    generalize L2.upd H p (.tup [.str "c", .str "n", .str "l"]) = G at *
    have u1 := tok.ln
    have u1a := u1.1
    have u1b := u1.2.1
    have u1c := u1.2.2
    by_cases c1 : inV (V.str z) [.str "c", .str "n", .str "l"] = true
    · rw [if_pos c1]
      intro D hD
      refine ⟨.ref wa, rfl, .ref na, rfl, .ref sa, rfl, upd_same, tabD wa na sa, rfl, (show 3 ≤ 15 by decide), ?_⟩
      have k2 : Keep a H (L2.upd (L2.upd G D (.dK [])) D (.dK (mergeK [] (tabD wa na sa)))) := fun y o ny q => by
        have q1 := k1 y o ny q
        rw [upd_ne (ne_new q1 hD), upd_ne (ne_new q1 hD)]
        exact q1
      have S2 : Src (L2.upd (L2.upd G D (.dK [])) D (.dK (mergeK [] (tabD wa na sa)))) a := by
        obtain ⟨x1, x2, x3, e⟩ := S1
        refine ⟨x1, x2, x3, ?_⟩
        rw [upd_ne (ne_new e hD), upd_ne (ne_new e hD)]
        exact e
      have q2 : L2.upd (L2.upd G D (.dK [])) D (.dK (mergeK [] (tabD wa na sa))) D = some (.dK (mergeK [] (tabD wa na sa))) := upd_same
      generalize L2.upd (L2.upd G D (.dK [])) D (.dK (mergeK [] (tabD wa na sa))) = G2 at *
      obtain ⟨_, ⟨ks, hk1, hk2⟩, hn2, hs2⟩ := hT G2 k2
      have hd := DGet.k (k := (Sum.inr z : Key)) q2
      have lk := Paired.length hk2
      rcases (cnl_is z).mp c1 with rfl | rfl | rfl
      · refine ⟨.str "c", rfl, D, .ref wa, rfl, hd, wa, rfl, ks, by rw [hk1]; rfl, a, _, rfl, S2, by omega, Int.lt_of_le_of_lt (by omega : _ ≤ (1000 : Int)) (by decide), fun r H3 b1 b2 k3 S3 => ?_⟩
        rw [show r = ((r.toNat : Nat) : Int) from by omega]
        exact k _ H3 ⟨fun _ => by omega, fun e => absurd e (by decide), fun e => absurd e (by decide), fun e => absurd e (by decide), fun e => absurd e (by decide), fun e => absurd e (by decide), fun e => absurd e (by decide), by omega⟩ (k2.trans k3) S3
      · refine ⟨.str "n", rfl, D, .ref na, rfl, hd, na, rfl, _, by rw [hn2]; rfl, a, _, rfl, S2, by rw [List.length_map]; omega, Int.lt_of_le_of_lt (by rw [List.length_map]; omega : _ ≤ (1000 : Int)) (by decide), fun r H3 b1 b2 k3 S3 => ?_⟩
        rw [List.length_map] at b2
        rw [show r = ((r.toNat : Nat) : Int) from by omega]
        exact k _ H3 ⟨fun e => absurd e (by decide), fun _ => by omega, fun e => absurd e (by decide), fun e => absurd e (by decide), fun e => absurd e (by decide), fun e => absurd e (by decide), fun e => absurd e (by decide), by omega⟩ (k2.trans k3) S3
      · refine ⟨.str "l", rfl, D, .ref sa, rfl, hd, sa, rfl, _, by rw [hs2]; rfl, a, _, rfl, S2, by rw [List.length_map]; omega, Int.lt_of_le_of_lt (by rw [List.length_map]; omega : _ ≤ (1000 : Int)) (by decide), fun r H3 b1 b2 k3 S3 => ?_⟩
        rw [List.length_map] at b2
        rw [show r = ((r.toNat : Nat) : Int) from by omega]
        exact k _ H3 ⟨fun e => absurd e (by decide), fun e => absurd e (by decide), fun e => absurd e (by decide), fun _ => by omega, fun e => absurd e (by decide), fun e => absurd e (by decide), fun e => absurd e (by decide), by omega⟩ (k2.trans k3) S3
    · rw [if_neg c1]
      have c1' := fun q => c1 ((cnl_is z).mpr q)
      have zc : z ≠ "c" := fun q => c1' (.inl q)
      have zn : z ≠ "n" := fun q => c1' (.inr (.inl q))
      have zl : z ≠ "l" := fun q => c1' (.inr (.inr q))
      obtain ⟨_, _, hn2, hs2⟩ := hT G k1
      by_cases c2 : z = "m"
      · subst c2
        rw [if_pos rfl]
        refine ⟨_, by rw [hn2]; rfl, a, _, rfl, S1, by rw [List.length_map]; omega, Int.lt_of_le_of_lt (by rw [List.length_map]; omega : _ ≤ (2000 : Int)) (by decide), fun r H3 b1 b2 k3 S3 => ?_⟩
        rw [List.length_map] at b2
        rw [show r = ((r.toNat : Nat) : Int) from by omega]
        exact k _ H3 ⟨fun e => absurd e (by decide), fun e => absurd e (by decide), fun _ => by omega, fun e => absurd e (by decide), fun e => absurd e (by decide), fun e => absurd e (by decide), fun e => absurd e (by decide), by omega⟩ (k1.trans k3) S3
      rw [if_neg c2]
      by_cases c3 : z = "p"
      · subst c3
        rw [if_pos rfl]
        have mn : ∀ m : Nat, 0 < m → 0 < (if (m : Int) < 16 then (m : Int) else 16) ∧ (if (m : Int) < 16 then (m : Int) else 16) ≤ 16 ∧ (if (m : Int) < 16 then (m : Int) else 16) ≤ m := fun m hm => by split <;> omega
        obtain ⟨m1, m2, m3⟩ := mn _ l3
        refine ⟨_, by rw [hs2]; rfl, a, _, rfl, S1, by rw [List.length_map]; exact m1, Int.lt_of_le_of_lt (by rw [List.length_map]; exact m2) (by decide), fun r H3 b1 b2 k3 S3 => ⟨r, rfl, .inl (by decide), ?_⟩⟩
        rw [List.length_map] at b2
        obtain ⟨_, _, _, hs3⟩ := hT H3 (k1.trans k3)
        refine ⟨_, by rw [hs3]; rfl, a, _, rfl, S3, by rw [List.length_map]; exact m1, Int.lt_of_le_of_lt (by rw [List.length_map]; exact m2) (by decide), fun r2 H4 b3 b4 k4 S4 => ⟨r2, rfl, ?_⟩⟩
        rw [List.length_map] at b4
        rw [show 16 * r + r2 = (((16 * r + r2).toNat : Nat) : Int) from by omega]
        exact k _ H4 ⟨fun e => absurd e (by decide), fun e => absurd e (by decide), fun e => absurd e (by decide), fun e => absurd e (by decide), fun _ => by omega, fun e => absurd e (by decide), fun e => absurd e (by decide), by omega⟩ ((k1.trans k3).trans k4) S4
      rw [if_neg c3]
      by_cases c4 : z = "o"
      · subst c4
        rw [if_pos rfl]
        refine ⟨a, 30, rfl, S1, by decide, by decide, fun r H3 b1 b2 k3 S3 => ?_⟩
        rw [show r = ((r.toNat : Nat) : Int) from by omega]
        exact k _ H3 ⟨fun e => absurd e (by decide), fun e => absurd e (by decide), fun e => absurd e (by decide), fun e => absurd e (by decide), fun e => absurd e (by decide), fun _ => by omega, fun e => absurd e (by decide), by omega⟩ (k1.trans k3) S3
      rw [if_neg c4]
      by_cases c5 : z = "x"
      · subst c5
        rw [if_pos rfl]
        refine ⟨szl (by decide : 6 ≤ 1000), fun q hq => ⟨a, q, _, rfl, S1.new hq, S1.ne hq, upd_same, by simp, (by simp : _ ≤ 1000), fun v H3 hv k3 S3 => ⟨szl (by decide : 4 ≤ 1000), fun q2 hq2 => ⟨a, q2, _, rfl, S3.new hq2, S3.ne hq2, upd_same, by simp, (by simp : _ ≤ 1000), fun v2 H4 hv2 k4 S4 => ?_⟩⟩⟩⟩
        have kf : Keep a H H4 := (((k1.new hq).trans k3).new hq2).trans k4
        have fin : ∀ i j : Nat, i + j ∈ XL → v = .int (i : Int) → v2 = .int (j : Int) → ∃ i, v = V.int i ∧ ∃ x, v2 = V.int x ∧ Q (V.int (i + x)) H4 := fun i j hx e1 e2 => by
          refine ⟨_, e1, _, e2, ?_⟩
          rw [← Int.natCast_add]
          have b : ∀ n ∈ XL, n < 4294967296 := by decide +kernel
          exact k _ H4 ⟨fun e => absurd e (by decide), fun e => absurd e (by decide), fun e => absurd e (by decide), fun e => absurd e (by decide), fun e => absurd e (by decide), fun e => absurd e (by decide), fun _ => hx, b _ hx⟩ kf S4
        have ex : ∃ i ∈ ([2, 42, 72, 103, 132, 172] : List Nat), v = .int (i : Int) := by
          simp only [List.mem_cons, List.not_mem_nil, or_false] at hv
          rcases hv with e | e | e | e | e | e <;> exact ⟨_, by decide, e⟩
        have ey : ∃ j ∈ ([0, 16, 1, 256] : List Nat), v2 = .int (j : Int) := by
          simp only [List.mem_cons, List.not_mem_nil, or_false] at hv2
          rcases hv2 with e | e | e | e <;> exact ⟨_, by decide, e⟩
        obtain ⟨i, hi, ei⟩ := ex
        obtain ⟨j, hj, ej⟩ := ey
        have al : ∀ i ∈ ([2, 42, 72, 103, 132, 172] : List Nat), ∀ j ∈ ([0, 16, 1, 256] : List Nat), i + j ∈ XL := by decide +kernel
        exact fin i j (al i hi j hj) ei ej
      rw [if_neg c5]
      have ok : ∀ n, n < 4294967296 → NumG Tt z n := fun n h => ⟨fun e => absurd e zc, fun e => absurd e zn, fun e => absurd e c2, fun e => absurd e zl, fun e => absurd e c3, fun e => absurd e c4, fun e => absurd e c5, h⟩
      by_cases c6 : z = "-"
      · rw [if_pos c6]
        exact k 0 G (ok 0 (by decide)) k1 S1
      · rw [if_neg c6]
        refine ⟨a, rfl, S1, fun n H3 hn k3 S3 => ⟨szl (by decide : 6 ≤ 1000), fun q hq => ⟨a, q, _, rfl, S3.new hq, S3.ne hq, upd_same, by simp, (by simp : _ ≤ 1000), fun v H4 hv k4 S4 => ?_⟩⟩⟩
        have kf : Keep a H H4 := ((k1.trans k3).new hq).trans k4
        have ex : ∃ m : Nat, m < 4294967296 ∧ v = .int (m : Int) := by
          simp only [List.mem_cons, List.not_mem_nil, or_false] at hv
          rcases hv with e | e | e | e | e | e
          · exact ⟨n, hn, e⟩
          · exact ⟨0, by decide, e⟩
          · exact ⟨1, by decide, e⟩
          · exact ⟨3, by decide, e⟩
          · exact ⟨6, by decide, e⟩
          · exact ⟨8, by decide, e⟩
        obtain ⟨m, hm, rfl⟩ := ex
        exact k m H4 (ok m hm) kf S4
end
end C57

set_option maxHeartbeats 2000000
namespace C57
open PySem PySem.Spec PyProof.Rows L2 StrLaws
/-! ### the meaning that the law tells -/
def inBk (z : Str) : Bool := !(Builtin.Str.occurrences z "BACKWARD" 0 z.length 1).isEmpty
theorem chk8 : tabL.all (fun r => inBk r.1 == bkB r.1) = true := by decide +kernel
theorem bk_is {r : TR} (h : r ∈ tabL) : inBk r.1 = bkB r.1 := eq_of_beq (List.all_eq_true.mp chk8 r h)
/-- what the sorts say -/
structure KiOf (r : TR) : Prop where
  c : r.2.2.2 = "c" → kiF r.1 = 2
  n : r.2.2.2 = "n" → kiF r.1 = 3
  m : r.2.2.2 = "m" → (kiF r.1 = 4 ∧ r.1 = "LOAD_ATTR") ∨ (kiF r.1 = 5 ∧ r.1 = "LOAD_GLOBAL")
  l : r.2.2.2 = "l" → kiF r.1 = 6
  p : r.2.2.2 = "p" → kiF r.1 = 7
  j : r.2.2.2 = "j" → kiF r.1 = 1
  o : r.2.2.2 = "o" → kiF r.1 = 8 ∧ r.1 = "BINARY_OP"
  x : r.2.2.2 = "x" → kiF r.1 = 9 ∧ r.1 = "COMPARE_OP"
  k : r.2.2.2 ≠ "c" → r.2.2.2 ≠ "n" → r.2.2.2 ≠ "m" → r.2.2.2 ≠ "l" → r.2.2.2 ≠ "p" → r.2.2.2 ≠ "j" → r.2.2.2 ≠ "o" → r.2.2.2 ≠ "x" → ∀ (T : Tb) (n : Nat) (u : Option Str), (if kiF r.1 = 0 then some ("" : Str) else if kiF r.1 = 1 then u else mOf (kiF r.1) T n) = some (nuLaw r.1 n)
def kindsOf (r : TR) : Bool := (kiF r.1 == 0 && ((["IS_OP", "CONTAINS_OP", "CALL_INTRINSIC_1", "SET_FUNCTION_ATTRIBUTE"] : List Str).all fun y => !(r.1 == y))) || ((kiF r.1 == 10 && (r.1 == "IS_OP" || r.1 == "CONTAINS_OP")) || ((kiF r.1 == 11 && r.1 == "CALL_INTRINSIC_1") || (kiF r.1 == 12 && r.1 == "SET_FUNCTION_ATTRIBUTE")))
def sortsL : List Str := ["c", "n", "m", "l", "p", "j", "o", "x"]
theorem chk9 : tabL.all (fun r => sortsL.contains r.2.2.2 || kindsOf r) = true := by decide +kernel
theorem nu_none {z : Str} {n : Nat} (h : (["IS_OP", "CONTAINS_OP", "CALL_INTRINSIC_1", "SET_FUNCTION_ATTRIBUTE"] : List Str).all (fun y => !(z == y)) = true) : nuLaw z n = "" := by
  simp only [List.all_cons, List.all_nil, Bool.and_true, Bool.and_eq_true, Bool.not_eq_true', beq_eq_false_iff_ne] at h
  obtain ⟨h1, h2, h3, h4⟩ := h
  unfold nuLaw nkB
  rw [if_neg (by simp [Ne.symm h1, Ne.symm h2]), if_neg h3, if_neg h4]
theorem kiF_of {r : TR} (hm : r ∈ tabL) : KiOf r := by
  have so := (tab_fact hm).2.2.2.2.2.2.1
  have k9 := List.all_eq_true.mp chk9 r hm
  unfold sortOk at so
  refine ⟨fun e => ?_, fun e => ?_, fun e => ?_, fun e => ?_, fun e => ?_, fun e => ?_, fun e => ?_, fun e => ?_, fun n1 n2 n3 n4 n5 n6 n7 n8 T n u => ?_⟩
  · rw [if_pos e] at so
    exact eq_of_beq so
  · rw [e, if_neg (by decide), if_pos rfl] at so
    exact eq_of_beq so
  · rw [e, if_neg (by decide), if_neg (by decide), if_pos rfl] at so
    simp only [Bool.or_eq_true, Bool.and_eq_true, beq_iff_eq] at so
    exact so
  · rw [e, if_neg (by decide), if_neg (by decide), if_neg (by decide), if_pos rfl] at so
    exact eq_of_beq so
  · rw [e, if_neg (by decide), if_neg (by decide), if_neg (by decide), if_neg (by decide), if_pos rfl] at so
    exact eq_of_beq so
  · rw [e, if_neg (by decide), if_neg (by decide), if_neg (by decide), if_neg (by decide), if_neg (by decide), if_neg (by decide), if_neg (by decide), if_pos rfl] at so
    exact eq_of_beq so
  · rw [e, if_neg (by decide), if_neg (by decide), if_neg (by decide), if_neg (by decide), if_neg (by decide), if_pos rfl] at so
    simp only [Bool.and_eq_true, beq_iff_eq] at so
    exact so
  · rw [e, if_neg (by decide), if_neg (by decide), if_neg (by decide), if_neg (by decide), if_neg (by decide), if_neg (by decide), if_pos rfl] at so
    simp only [Bool.and_eq_true, beq_iff_eq] at so
    exact so
  · have q : kindsOf r = true := by
      rcases Bool.or_eq_true_iff.mp k9 with h | h
      · exfalso
        unfold sortsL at h
        simp [n1, n2, n3, n4, n5, n6, n7, n8] at h
      · exact h
    unfold kindsOf at q
    simp only [Bool.or_eq_true, Bool.and_eq_true, beq_iff_eq] at q
    rcases q with ⟨q1, q2⟩ | ⟨q1, q2⟩ | ⟨q1, q2⟩ | ⟨q1, q2⟩
    · rw [if_pos q1, nu_none q2]
    · rw [q1]
      show some (if n = 1 then ("not" : Str) else "") = _
      have hk : nkB r.1 = true := by
        rcases q2 with q2 | q2 <;> rw [q2] <;> decide +kernel
      unfold nuLaw
      rw [if_pos hk]
    · rw [q1]
      show some _ = _
      unfold nuLaw
      rw [q2, if_neg (by decide +kernel), if_pos rfl]
    · rw [q1]
      show some _ = _
      unfold nuLaw
      rw [q2, if_neg (by decide +kernel), if_neg (by decide +kernel), if_pos rfl]
def spLMean (K : PySem.W.Frag) (CC : Addr) : Sp := fun vs H Q _ => ∃ (r : TR) (n high : Nat) (tb wa na sa : Addr) (T : Tb), vs = [.str r.1, .str r.2.2.2, .int (n : Int), .ref tb, .int (high : Int)] ∧ r ∈ tabL ∧ NumG T r.2.2.2 n ∧ LTab K CC H tb wa na sa T ∧ TbOk T ∧ high < 2 ^ 40 ∧
  ∀ t H', meanF T r.1 n high = some t → Same H H' → Q (.str t) H'
section
variable {P : Program} {w : World} {K : PySem.W.Frag} {mg : Str → Option Value} {base : Heap} {f : Addr} {fd : FuncData}
abbrev slmean : Stmt := top 77
theorem sclmean : FnScope ["_law_word", "_law_sort", "_law_number", "_law_tables", "_law_high", "_law_wares", "_law_names", "_law_slots", "_law_more"] ["_law_word", "_law_sort", "_law_number", "_law_tables", "_law_high"] (defScope slmean) := ⟨rfl, rfl, rfl, by decide +kernel, rfl, by decide +kernel, by decide +kernel⟩

theorem ok_lmean {CC : Addr} (T : Txt mg) (I : CodeT K mg CC) (yes : PySem.W.kitOne K (.ref CC) (.ref CC) = some true) (F : FnP K "_law_meaning" "_law_meaning" slmean f fd) (C_told_operator : Cal P w K mg base 1 "_law_told_operator" ["_law_word", "_law_number"] spToldOp)
    (C_told_number : Cal P w K mg base 1 "_law_told_number" ["_law_word", "_law_number"] spToldNum) : FnG P w K mg base CX0 2 f fd ["_law_word", "_law_sort", "_law_number", "_law_tables", "_law_high"] (spLMean K CC) := by
  refine okG F sclmean (fun vs H Q E h => ?_) (fun cdv A outer s H vs Q E gd hr h => ?_)
  · obtain ⟨r, n, high, tb, wa, na, sa, Tt, rfl, _⟩ := h
    rfl
  · obtain ⟨r, n, high, tb, wa, na, sa, Tt, rfl, hm, hn, hT, tok, hh, k⟩ := h
    have hu20 : (cxOf CX0 P w K mg base ["_law_word", "_law_sort", "_law_number", "_law_tables", "_law_high", "_law_wares", "_law_names", "_law_slots", "_law_more"] "_law_meaning" (defScope slmean) f cdv A outer s H E).nox.A.units + 20 < cLine := by
      have := hr.un
      show (A.deeper _).units + 20 < cLine
      omega
    refine ⟨_, PSs.nox (pss_cons (ps_asg (pv 3) (pg_tupD (n := 3) rfl (pgs_cons (pg_name (i := 5) sclmean.nd rfl (Or.inl rfl)) (pgs_cons (pg_name (i := 6) sclmean.nd rfl (Or.inl rfl)) (pgs_cons (pg_name (i := 7) sclmean.nd rfl (Or.inl rfl)) pgs_nil)))))
  (pss_cons (ps_if (pt_cmpR op_eq (pv 1) pe_str (nomark _))
    (pss_one (ps_ret (pe_ifExp (pt_val (pe_callB (call_is_d I.cI) (by rfl) T.b_isinstance (by decide +kernel) (pa_cons (pe_ix ix_d (pv 5) (pv 2) (fun _ _ => rfl)) (pa_cons (pe_glob (v := .ref _) rfl I.g_Code rfl) pa_nil)))) pe_str (pe_callB (call_repr_any gd hu20) (by rfl) T.b_repr (by decide +kernel) (pa_cons (pe_ix ix_d (pv 5) (pv 2) (fun _ _ => rfl)) pa_nil)))))
    pss_nil)
  (pss_cons (ps_if (pt_cmpR op_eq (pv 1) pe_str (nomark _))
    (pss_one (ps_ret (pe_ix ix_d (pv 6) (pv 2) (fun _ _ => rfl))))
    pss_nil)
  (pss_cons (ps_if (pt_cmpR op_eq (pv 1) pe_str (nomark _))
    (pss_cons (ps_set (i := 8) sclmean.nd rfl (Or.inl rfl) (pe_ifExp (pt_cmpR op_eq (pv 0) pe_str (nomark _)) pe_str pe_str))
  (pss_one (ps_ret (pe_op op_addS (pe_ix ix_d (pv 6) (pe_op op_fdivW (pv 2) pe_int) (fun _ _ => rfl)) (pe_op op_mulS (pv 8) (pe_op op_mod (pe_callTy call_int1 (by rfl) T.b_int (by decide +kernel) (pa_cons (pv 2) pa_nil)) pe_int))))))
    pss_nil)
  (pss_cons (ps_if (pt_cmpR op_eq (pv 1) pe_str (nomark _))
    (pss_one (ps_ret (pe_ix ix_d (pv 7) (pv 2) (fun _ _ => rfl))))
    pss_nil)
  (pss_cons (ps_if (pt_cmpR op_eq (pv 1) pe_str (nomark _))
    (pss_one (ps_ret (pe_op op_addS (pe_op op_addS (pe_ix ix_d (pv 7) (pe_op op_fdivW (pv 2) pe_int) (fun _ _ => rfl)) pe_str) (pe_ix ix_d (pv 7) (pe_op op_mod (pe_callTy call_int1 (by rfl) T.b_int (by decide +kernel) (pa_cons (pv 2) pa_nil)) pe_int) (fun _ _ => rfl)))))
    pss_nil)
  (pss_cons (ps_if (pt_cmpR op_eq (pv 1) pe_str (nomark _))
    (pss_one (ps_ret (pe_op op_addS pe_str (pe_callTy call_str_int (by rfl) T.b_str (by decide +kernel) (pa_cons (pe_ifExp (pt_cmpR op_in_str pe_str (pv 0) (by rfl)) (pe_op op_sub (pv 4) (pe_op op_mul pe_int (pv 2))) (pe_op op_add (pv 4) (pe_op op_mul pe_int (pv 2)))) pa_nil)))))
    pss_nil)
  (pss_one (ps_ret (pe_ifExp (pt_cmpR op_in_seq (pv 1) (pe_tup (pa_cons pe_str (pa_cons pe_str pa_nil))) (by rfl)) (pe_cal C_told_operator (hr.mono (by decide)) rfl (pa_cons (pv 0) (pa_cons (pv 2) pa_nil))) (pe_cal C_told_number (hr.mono (by decide)) rfl (pa_cons (pv 0) (pa_cons (pv 2) pa_nil))))))))))))), ?_⟩
    show (_ : TS) _ [some (.str r.1), some (.str r.2.2.2), some (.int (n : Int)), some (.ref tb), some (.int (high : Int)), none, none, none, none] H
    simp only [r_seq, r_next, r_brk, r_cont, r_asg, r_name, r_ret, r_retN, r_drop, r_ifs, r_never, r_var, r_c, r_op, r_un, r_if, r_tst, r_b, r_not, r_and, r_or, r_andV, r_orV, r_notV, r_nil, r_cons, r_tup, r_lst, r_cb, r_call, r_bm, r_bm0, r_sl, r_nopart, r_part, r_rev, r_gnil, r_gcons, r_gsub, r_par, r_aug, r_chain, r_I0, r_I, r_U, r_ixd, r_lend, r_tupd, r_listd, r_sld, r_app, r_ext, r_reverse, r_setl, r_cat, r_int1, r_eqS, r_neS, scal_ii, scal_bb, scal_ss, at0, at1, at2, sq_lst, sq_tup, isLst_lst, List.getElem?_cons_zero, List.getElem?_cons_succ, List.set_cons_zero, List.set_cons_succ, V.int.injEq, V.bl.injEq, V.ref.injEq, V.str.injEq, HO.lst.injEq, HO.tup.injEq, Option.some.injEq, exists_eq_left', exists_eq_left, List.cons.injEq, and_true, true_and, decide_eq_true_eq, reduceCtorEq, false_and, exists_false, or_false, false_or, exists_const, and_assoc, exists_and_left, List.append_nil, ix0, ix1, ix2, cm_mod, cdw1009, cdw2003, cdw7, cdw64, cdw2, cm104729, cm2, cm3, upd_same, List.length_cons, List.length_nil, Int.reduceLT, Int.reduceLE, Nat.reduceAdd, Nat.reduceLeDiff, Nat.reduceLT, Int.reduceToNat, r_for1, r_forL, r_forT, r_lcL, r_lc1, r_yes, r_gtupD, wipe_0, wipe_1, List.cons_append, List.nil_append, r_forS, r_ipI, ite_false, ite_true, Bool.not_true, Bool.not_false, decide_true, decide_false, r_isd, r_islt, cD_ty, cD_ref, tD_non, tD_bl, tD_int, tD_str, tD_ref, tH_lst, tH_tup, tH_dK, tH_ins, ki_self, ki_int_bool, ki_non_int, ki_str_int, ki_lt_lst, ki_lt_tup, r_fld, r_sfld, HO.ins.injEq, cx_K, hT.tb, r_addS, r_mulS]
    have kf := kiF_of hm
    have so := (tab_fact hm).2.2.2.2.2.2.1
    unfold meanF at k
    obtain ⟨ks, hk1, hk2⟩ := hT.w
    have hn1 := hT.n
    have hs1 := hT.s
    obtain ⟨g1, g2, g3, g4, g5, g6, g7, g8⟩ := hn
    have atS : ∀ {l : List Str} {i : Nat} {z : Str}, l[i]? = some z → atI (l.map V.str) (i : Int) = some (.str z) := fun e => atn (by rw [List.getElem?_map, e]; rfl)
    by_cases c1 : r.2.2.2 = "c"
    · rw [if_pos c1]
      have kz := kf.c c1
      have lt := g1 c1
      rw [if_neg (by omega), if_neg (by omega), kz] at k
      have ltk : n < ks.length := by rw [Paired.length hk2]; exact lt
      have eq1 : ks[n]? = some ks[n] := List.getElem?_eq_getElem ltk
      have et : Tt.cs[n]? = some Tt.cs[n] := List.getElem?_eq_getElem lt
      obtain ⟨ca, pq⟩ := Paired.at' hk2 ltk lt
      refine ⟨ks, by rw [hk1]; rfl, ks[n], atn eq1, ?_⟩
      generalize ks[n] = x at *
      rcases ca with ⟨a, dx2, fs2, y, rfl, q1, q2, yl, et2⟩ | ⟨⟨T', q1, q2⟩, d, q3, q4, q5, q6, q7, et2⟩
      · refine ⟨.ref CC, by simp [tyD, tyH, q1], true, yes, ?_⟩
        rw [if_pos rfl]
        have := pq a dx2 fs2 rfl q1
        rw [q2] at this
        have ey : y = "p.q" := V.str.inj (Option.some.inj this)
        refine k _ H ?_ (Same.refl H)
        show Tt.cs[n]? = _
        rw [et, et2, ey]
        exact congrArg some (by decide +kernel)
      · refine ⟨T', q1, false, q2, ?_⟩
        rw [if_neg (by decide)]
        refine ⟨ks, by rw [hk1]; rfl, x, atn eq1, x, d, rfl, q3, q4, q5, q6, Nat.le_trans q7 (by decide), k _ H ?_ (Same.refl H)⟩
        show Tt.cs[n]? = _
        rw [et, et2]
    rw [if_neg c1]
    by_cases c2 : r.2.2.2 = "n"
    · rw [if_pos c2]
      have kz := kf.n c2
      have lt := g2 c2
      rw [if_neg (by omega), if_neg (by omega), kz] at k
      have et : Tt.ns[n]? = some Tt.ns[n] := List.getElem?_eq_getElem lt
      exact ⟨_, by rw [hn1]; rfl, _, atS et, k _ H et (Same.refl H)⟩
    rw [if_neg c2]
    by_cases c3 : r.2.2.2 = "m"
    · rw [if_pos c3]
      have lt := g3 c3
      have et : Tt.ns[n / 2]? = some Tt.ns[n / 2] := List.getElem?_eq_getElem lt
      have zl := tok.n _ (List.mem_of_getElem? et)
      have ed : (n : Int) / 2 = ((n / 2 : Nat) : Int) := by omega
      have hb : (n : Int) % 2 = 0 ∧ n % 2 ≠ 1 ∨ (n : Int) % 2 = 1 ∧ n % 2 = 1 := by omega
      have l1 : (" + NULL" : Str).length = 7 := by decide +kernel
      have l2 : (" + NULL|self" : Str).length = 12 := by decide +kernel
      have l0 : ("" : Str).length = 0 := by decide +kernel
      have ea : ∀ z : Str, z ++ ("" : Str) = z := fun z => Str.append_empty z
      rcases kf.m c3 with ⟨kz, ez⟩ | ⟨kz, ez⟩
      · rw [if_neg (by omega), if_neg (by omega), kz] at k
        rw [if_neg (by rw [ez]; decide +kernel), ed]
        refine ⟨_, by rw [hn1]; rfl, _, atS et, by rw [show (Str.ofString " + NULL|self").length = 12 from l2]; decide, by omega, by omega, _, rfl, ?_⟩
        generalize Tt.ns[n / 2] = z at *
        rcases hb with ⟨h1, h2⟩ | ⟨h1, h2⟩
        · rw [h1, mul_0]
          refine ⟨bigS (by rw [l0]; omega), k _ H ?_ (Same.refl H)⟩
          show (Tt.ns[n / 2]?).map _ = _
          rw [et]
          show some (if n % 2 = 1 then sufA z else z) = _
          rw [if_neg h2, ea]
        · rw [h1, mul_1]
          refine ⟨bigS (by rw [show (Str.ofString " + NULL|self").length = 12 from l2]; omega), k _ H ?_ (Same.refl H)⟩
          show (Tt.ns[n / 2]?).map _ = _
          rw [et]
          show some (if n % 2 = 1 then sufA z else z) = _
          rw [if_pos h2]
          unfold sufA
          rw [Str.empty_append]
      · rw [if_neg (by omega), if_neg (by omega), kz] at k
        rw [if_pos ez, ed]
        refine ⟨_, by rw [hn1]; rfl, _, atS et, by rw [show (Str.ofString " + NULL").length = 7 from l1]; decide, by omega, by omega, _, rfl, ?_⟩
        generalize Tt.ns[n / 2] = z at *
        rcases hb with ⟨h1, h2⟩ | ⟨h1, h2⟩
        · rw [h1, mul_0]
          refine ⟨bigS (by rw [l0]; omega), k _ H ?_ (Same.refl H)⟩
          show (Tt.ns[n / 2]?).map _ = _
          rw [et]
          show some (if n % 2 = 1 then sufG z else z) = _
          rw [if_neg h2, ea]
        · rw [h1, mul_1]
          refine ⟨bigS (by rw [show (Str.ofString " + NULL").length = 7 from l1]; omega), k _ H ?_ (Same.refl H)⟩
          show (Tt.ns[n / 2]?).map _ = _
          rw [et]
          show some (if n % 2 = 1 then sufG z else z) = _
          rw [if_pos h2]
          unfold sufG
          rw [Str.empty_append]
    rw [if_neg c3]
    by_cases c4 : r.2.2.2 = "l"
    · rw [if_pos c4]
      have kz := kf.l c4
      have lt := g4 c4
      rw [if_neg (by omega), if_neg (by omega), kz] at k
      have et : Tt.ss[n]? = some Tt.ss[n] := List.getElem?_eq_getElem lt
      exact ⟨_, by rw [hs1]; rfl, _, atS et, k _ H et (Same.refl H)⟩
    rw [if_neg c4]
    by_cases c5 : r.2.2.2 = "p"
    · rw [if_pos c5]
      have kz := kf.p c5
      obtain ⟨lt, lt2⟩ := g5 c5
      rw [if_neg (by omega), if_neg (by omega), kz] at k
      have et : Tt.ss[n / 16]? = some Tt.ss[n / 16] := List.getElem?_eq_getElem lt
      have et2 : Tt.ss[n % 16]? = some Tt.ss[n % 16] := List.getElem?_eq_getElem lt2
      have zl := tok.s _ (List.mem_of_getElem? et)
      have zl2 := tok.s _ (List.mem_of_getElem? et2)
      have ed : (n : Int) / 16 = ((n / 16 : Nat) : Int) := by omega
      have em : (n : Int) % 16 = ((n % 16 : Nat) : Int) := by omega
      have l1 : (Str.ofString ", ").length = 2 := by decide +kernel
      rw [ed, em]
      refine ⟨of_eq_true (cdw (by decide)), _, by rw [hs1]; rfl, _, atS et, _, rfl, bigS (by rw [l1]; omega), _, by rw [hs1]; rfl, _, atS et2, _, rfl, bigS (by rw [strLen_append, l1]; omega), k _ H ?_ (Same.refl H)⟩
      show mPair Tt n = _
      unfold mPair
      rw [et, et2]
      show some (pairT _ _) = _
      unfold pairT
      rw [Str.empty_append]
    rw [if_neg c5]
    by_cases c6 : r.2.2.2 = "j"
    · rw [if_pos c6]
      have kz := kf.j c6
      rw [if_neg (by omega), if_pos kz] at k
      have bk := bk_is hm
      unfold inBk at bk
      have big : ∀ i : Int, i.natAbs < 2 ^ 60 → i.natAbs.log2 < 1920 ∧ (Str.ofString (toString i)).length ≤ 303 := fun i h => by
        refine ⟨?_, text_short (Nat.lt_trans h (by decide +kernel))⟩
        rcases Nat.eq_zero_or_pos i.natAbs with q | q
        · rw [q]
          decide
        · exact (Nat.log2_lt (by omega)).mpr (Nat.lt_trans h (by decide +kernel))
      have l1 : (Str.ofString "to ").length = 3 := by decide +kernel
      have kk : ∀ i : Int, tgt r.1 n high = i → Q (V.str (Str.ofString "to " ++ Str.ofString (toString i))) H := fun i e => by
        refine k _ H ?_ (Same.refl H)
        rw [e]
        unfold toT
        rw [Str.empty_append]
      unfold tgt at kk
      by_cases cb : bkB r.1 = true
      · rw [if_pos (by rw [← cb]; exact bk)]
        rw [if_pos cb] at kk
        obtain ⟨b1, b2⟩ := big ((high : Int) - 2 * (n : Int)) (by omega)
        exact ⟨b1, bigS (by omega), kk _ rfl⟩
      · rw [if_neg (by rw [show (!(Builtin.Str.occurrences r.1 (Str.ofString "BACKWARD") 0 r.1.length 1).isEmpty) = bkB r.1 from bk]; exact cb)]
        rw [if_neg cb] at kk
        obtain ⟨b1, b2⟩ := big ((high : Int) + 2 * (n : Int)) (by omega)
        exact ⟨b1, bigS (by omega), kk _ rfl⟩
    rw [if_neg c6]
    refine ⟨szl (by decide : 2 ≤ 1000), fun p hp => ?_⟩
    have s1 : Same H _ := Same.new' (o := .tup [.str "o", .str "x"]) (Same.refl H) hp
    refine ⟨p, _, rfl, .inr (SqT.of upd_same), rfl, rfl, ?_⟩
    generalize L2.upd H p (.tup [.str "o", .str "x"]) = G at *
    by_cases c7 : r.2.2.2 = "o"
    · obtain ⟨kz, ez⟩ := kf.o c7
      have lt := g6 c7
      rw [if_neg (by omega), if_neg (by omega), kz] at k
      refine ⟨true, by rw [c7]; decide +kernel, ?_⟩
      rw [if_pos rfl]
      exact ⟨r.1, n, rfl, .inr ⟨ez, lt, fun H' s2 => k _ H' (opLaw_is n lt) fun y o e => s2 y o (s1 y o e)⟩⟩
    by_cases c8 : r.2.2.2 = "x"
    · obtain ⟨kz, ez⟩ := kf.x c8
      have lt := g7 c8
      rw [if_neg (by omega), if_neg (by omega), kz] at k
      refine ⟨true, by rw [c8]; decide +kernel, ?_⟩
      rw [if_pos rfl]
      exact ⟨r.1, n, rfl, .inl ⟨ez, lt, fun H' s2 => k _ H' (cmLaw_is n lt) fun y o e => s2 y o (s1 y o e)⟩⟩
    refine ⟨false, by simp [inV, eqV, Ne.symm c7, Ne.symm c8], ?_⟩
    rw [if_neg (by decide)]
    refine ⟨r.1, n, rfl, fun H' s2 => k _ H' ?_ fun y o e => s2 y o (s1 y o e)⟩
    exact kf.k c1 c2 c3 c4 c5 c6 c7 c8 _ _ _
end
end C57

set_option maxHeartbeats 1000000
namespace C57
open PySem PySem.Spec PyProof.Rows L2
/-! ### rows that follow one another -/
def lastB : List LR → Nat → Nat
  | [], b => b
  | R :: Rs, _ => lastB Rs R.hi
theorem lastB_snoc : ∀ (Rs : List LR) (R : LR) (b : Nat), lastB (Rs ++ [R]) b = R.hi
  | [], R, b => rfl
  | Q :: Rs, R, b => lastB_snoc Rs R Q.hi
def GR (R : LR) : Prop := R.lo + 2 ≤ R.hi ∧ R.hi ≤ 20000 ∧ (R.hi - R.lo) % 2 = 0 ∧ ∀ i, R.ln = some i → 1 ≤ i ∧ i < 2 ^ 40
inductive Chn : Nat → List LR → Prop
  | nil (b : Nat) : Chn b []
  | cons {b : Nat} {R : LR} {Rs : List LR} (h1 : R.lo = b) (h2 : GR R) (t : Chn R.hi Rs) : Chn b (R :: Rs)
theorem Chn.snoc : ∀ {b : Nat} {Rs : List LR} {R : LR}, Chn b Rs → R.lo = lastB Rs b → GR R → Chn b (Rs ++ [R])
  | _, _, _, .nil b, h1, h2 => .cons h1 h2 (.nil _)
  | _, _, _, .cons a1 a2 t, h1, h2 => .cons a1 a2 (Chn.snoc t h1 h2)
theorem Chn.inv : ∀ {xs : List LR} {b : Nat} {q : LR}, Chn b (xs ++ [q]) → Chn b xs ∧ q.lo = lastB xs b ∧ GR q
  | [], b, q, .cons h1 h2 _ => ⟨.nil _, h1, h2⟩
  | x :: xs, b, q, .cons h1 h2 t => by
    obtain ⟨g1, g2, g3⟩ := Chn.inv (xs := xs) t
    exact ⟨.cons h1 h2 g1, g2, g3⟩
/-- a line for each unit -/
def expL : List LR → List (Option Int)
  | [] => []
  | R :: Rs => List.replicate (units R) R.ln ++ expL Rs
theorem expL_app : ∀ (Rs Qs : List LR), expL (Rs ++ Qs) = expL Rs ++ expL Qs
  | [], Qs => rfl
  | R :: Rs, Qs => by
    show List.replicate (units R) R.ln ++ expL (Rs ++ Qs) = List.replicate (units R) R.ln ++ expL Rs ++ expL Qs
    rw [expL_app Rs, List.append_assoc]
theorem Chn.jstep {acc : List LR} {R : LR} (h : Chn 0 acc) (e : R.lo = lastB acc 0) (g : GR R) : Chn 0 (jstep acc R) ∧ lastB (C57.jstep acc R) 0 = R.hi ∧ expL (C57.jstep acc R) = expL acc ++ expL [R] := by
  rcases List.eq_nil_or_concat acc with rfl | ⟨xs, q, rfl⟩
  · exact ⟨.cons e g (.nil _), rfl, rfl⟩
  · rw [List.concat_eq_append] at h e ⊢
    rw [lastB_snoc] at e
    rw [jstep_snoc]
    obtain ⟨g1, g2, g3⟩ := h.inv
    split
    · rename_i e2
      have a1 := g.1
      have a2 := g3.1
      have a3 := g.2.2.1
      have a4 := g3.2.2.1
      refine ⟨g1.snoc g2 ⟨?_, ?_, ?_, ?_⟩, lastB_snoc _ _ _, ?_⟩
      · show q.lo + 2 ≤ R.hi
        omega
      · exact g.2.1
      · show (R.hi - q.lo) % 2 = 0
        omega
      · exact g.2.2.2
      · rw [expL_app, expL_app, List.append_assoc]
        congr 1
        show List.replicate (units ⟨q.lo, R.hi, R.ln⟩) R.ln ++ [] = (List.replicate (units q) q.ln ++ []) ++ (List.replicate (units R) R.ln ++ [])
        rw [List.append_nil, List.append_nil, List.append_nil, e2, List.replicate_append_replicate]
        congr 1
        unfold units
        show (R.hi - q.lo) / 2 = (q.hi - q.lo) / 2 + (R.hi - R.lo) / 2
        omega
    · exact ⟨h.snoc (by rw [lastB_snoc]; exact e) g, lastB_snoc _ _ _, expL_app _ _⟩
theorem Chn.foldl : ∀ {Rs : List LR} {b : Nat} {acc : List LR}, Chn b Rs → Chn 0 acc → lastB acc 0 = b → Chn 0 (Rs.foldl C57.jstep acc) ∧ lastB (Rs.foldl C57.jstep acc) 0 = lastB Rs b ∧ expL (Rs.foldl C57.jstep acc) = expL acc ++ expL Rs
  | [], b, acc, _, h, e => ⟨h, e, (List.append_nil _).symm⟩
  | R :: Rs, b, acc, .cons h1 h2 t, h, e => by
    obtain ⟨g1, g2, g3⟩ := h.jstep (h1.trans e.symm) h2
    obtain ⟨k1, k2, k3⟩ := Chn.foldl (Rs := Rs) (b := R.hi) t g1 g2
    refine ⟨k1, k2, ?_⟩
    show expL (Rs.foldl C57.jstep (C57.jstep acc R)) = expL acc ++ (List.replicate (units R) R.ln ++ expL Rs)
    rw [k3, g3]
    show expL acc ++ (List.replicate (units R) R.ln ++ []) ++ expL Rs = _
    rw [List.append_nil, List.append_assoc]
theorem Chn.all : ∀ {b : Nat} {Rs : List LR}, Chn b Rs → ∀ R ∈ Rs, GR R
  | _, _, .nil b, R, h => by cases h
  | _, _, .cons h1 h2 t, R, h => by
    rcases List.mem_cons.mp h with rfl | h
    · exact h2
    · exact Chn.all t R h
theorem GR.lok {R : LR} (h : GR R) : LOk R := by
  refine ⟨h.1, by have := h.2.1; omega, fun i e => ?_⟩
  have := h.2.2.2 i e
  omega
theorem Chn.last : ∀ {b : Nat} {Rs : List LR}, Chn b Rs → b ≤ 20000 → lastB Rs b ≤ 20000
  | _, _, .nil b, h => h
  | _, _, .cons (R := R) (Rs := Rs) h1 h2 t, h => Chn.last (Rs := Rs) (b := R.hi) t h2.2.1
theorem chn_join {Rs : List LR} (h : Chn 0 Rs) : Chn 0 (joinL Rs) ∧ expL (joinL Rs) = expL Rs := by
  obtain ⟨h1, _, h3⟩ := Chn.foldl h (.nil 0) rfl
  exact ⟨h1, h3⟩
/-! ### the entries of rows -/
def lineE (c : Nat) (l : Option Int) (cur : Int) : List Ent := if h : c = 0 then [] else (min c 8, l.map (· - cur)) :: lineE (c - min c 8) l (l.getD cur)
termination_by c
decreasing_by omega
theorem lineE_0 (l : Option Int) (cur : Int) : lineE 0 l cur = [] := by
  rw [lineE]
  rfl
theorem lineE_pos {c : Nat} (h : c ≠ 0) (l : Option Int) (cur : Int) : lineE c l cur = (min c 8, l.map (· - cur)) :: lineE (c - min c 8) l (l.getD cur) := by
  rw [lineE]
  exact dif_neg h
theorem lineE_B (l : Option Int) : ∀ (c : Nat) (cur : Int), entsB (lineE c l cur) = lineB c l cur := by
  intro c
  induction c using Nat.strongRecOn with
  | _ c ih =>
    intro cur
    by_cases h : c = 0
    · subst h
      rw [lineE_0, lineB_0]
      rfl
    · rw [lineE_pos h, lineB_pos h, ← ih (c - min c 8) (by omega)]
      rfl
theorem lineE_len (l : Option Int) : ∀ (c : Nat) (cur : Int), (lineE c l cur).length ≤ c := by
  intro c
  induction c using Nat.strongRecOn with
  | _ c ih =>
    intro cur
    by_cases h : c = 0
    · subst h
      rw [lineE_0]
      exact Nat.le_refl 0
    · rw [lineE_pos h, List.length_cons]
      have := ih (c - min c 8) (by omega) (l.getD cur)
      omega
def CB (cu : Int) : Prop := 1 ≤ cu ∧ cu < 2 ^ 40
theorem lineE_ok {l : Option Int} (hl : ∀ i, l = some i → CB i) : ∀ (c : Nat) (cur : Int), CB cur → ∀ e ∈ lineE c l cur, EntOk e := by
  intro c
  induction c using Nat.strongRecOn with
  | _ c ih =>
    intro cur hc e he
    by_cases h : c = 0
    · subst h
      rw [lineE_0] at he
      cases he
    · rw [lineE_pos h] at he
      rcases List.mem_cons.mp he with rfl | he
      · refine ⟨by show 1 ≤ min c 8; omega, by show min c 8 ≤ 8; omega, fun n e => ?_⟩
        cases m : l with
        | none => rw [m] at e; cases e
        | some j =>
          rw [m] at e
          cases e
          have := hl j m
          unfold CB at *
          show -(2 ^ 60) < j - cur ∧ j - cur < 2 ^ 60
          omega
      · refine ih (c - min c 8) (by omega) (l.getD cur) ?_ e he
        cases m : l with
        | none => exact hc
        | some j => exact hl j m
/-- the lines of the units of one row -/
theorem lineE_units (l : Option Int) (tl : List Ent) : ∀ (c : Nat) (cur : Int), unitsL (lineE c l cur ++ tl) cur = List.replicate c l ++ unitsL tl (if c = 0 then cur else l.getD cur) := by
  intro c
  induction c using Nat.strongRecOn with
  | _ c ih =>
    intro cur
    by_cases h : c = 0
    · subst h
      rw [lineE_0, if_pos rfl]
      rfl
    · rw [lineE_pos h, if_neg h]
      have e1 : stepLn cur (min c 8, l.map (· - cur)) = l.getD cur := by
        unfold stepLn
        cases l with
        | none => exact Int.add_zero _
        | some j => show cur + (j - cur) = j; omega
      have e2 : (l.map (· - cur)).map (cur + ·) = l := by
        cases l with
        | none => rfl
        | some j => exact congrArg some (by show cur + (j - cur) = j; omega)
      show List.replicate (min c 8) ((l.map (· - cur)).map (cur + ·)) ++ unitsL (lineE (c - min c 8) l (l.getD cur) ++ tl) (stepLn cur (min c 8, l.map (· - cur))) = _
      rw [e1, e2, ih (c - min c 8) (by omega) (l.getD cur), ← List.append_assoc, List.replicate_append_replicate, show min c 8 + (c - min c 8) = c from by omega]
      congr 2
      split
      · rfl
      · cases l <;> rfl
def entsOf : List LR → Int → List Ent
  | [], _ => []
  | R :: Rs, cur => lineE (units R) R.ln cur ++ entsOf Rs (R.ln.getD cur)
theorem entsOf_B : ∀ (Rs : List LR) (cur : Int), entsB (entsOf Rs cur) = bytesL Rs cur
  | [], _ => rfl
  | R :: Rs, cur => by
    show entsB (lineE (units R) R.ln cur ++ entsOf Rs (R.ln.getD cur)) = lineB (units R) R.ln cur ++ bytesL Rs (R.ln.getD cur)
    rw [entsB_app, lineE_B, entsOf_B Rs]
theorem CB.getD {cu : Int} {R : LR} (h : CB cu) (g : GR R) : CB (R.ln.getD cu) := by
  cases m : R.ln with
  | none => exact h
  | some j => exact g.2.2.2 j m
theorem entsOf_ok : ∀ {b : Nat} {Rs : List LR} {cur : Int}, Chn b Rs → CB cur → ∀ e ∈ entsOf Rs cur, EntOk e
  | _, _, _, .nil b, _, e, he => by cases he
  | _, _, cur, .cons (R := R) (Rs := Rs) h1 h2 t, hc, e, he => by
    rcases List.mem_append.mp he with z | z
    · exact lineE_ok h2.2.2.2 _ _ hc e z
    · exact entsOf_ok t (hc.getD h2) e z
theorem entsOf_len : ∀ {b : Nat} {Rs : List LR} {cur : Int}, Chn b Rs → 2 * (entsOf Rs cur).length + b ≤ lastB Rs b
  | _, _, _, .nil b => by
    show 2 * 0 + b ≤ b
    omega
  | b, _, cur, .cons (R := R) (Rs := Rs) h1 h2 t => by
    have q1 := entsOf_len (cur := R.ln.getD cur) t
    have q2 := lineE_len R.ln (units R) cur
    show 2 * (lineE (units R) R.ln cur ++ entsOf Rs (R.ln.getD cur)).length + b ≤ lastB Rs R.hi
    rw [List.length_append]
    have := h2.1
    unfold units at q2 ⊢
    omega
theorem entsOf_units : ∀ {b : Nat} {Rs : List LR} {cur : Int}, Chn b Rs → unitsL (entsOf Rs cur) cur = expL Rs
  | _, _, _, .nil b => rfl
  | b, _, cur, .cons (R := R) (Rs := Rs) h1 h2 t => by
    show unitsL (lineE (units R) R.ln cur ++ entsOf Rs (R.ln.getD cur)) cur = List.replicate (units R) R.ln ++ expL Rs
    have hu : units R ≠ 0 := by
      have := h2.1
      unfold units
      omega
    rw [lineE_units, if_neg hu, entsOf_units (cur := R.ln.getD cur) t]
/-! ### all bytes are bytes -/
theorem litM_b : ∀ (m : Nat), ∀ x ∈ litM m, x < 128 := by
  intro m
  induction m using Nat.strongRecOn with
  | _ m ih =>
    intro x hx
    by_cases c : m < 64
    · rw [litM_lt c, List.mem_singleton] at hx
      omega
    · rw [litM_ge c] at hx
      rcases List.mem_cons.mp hx with rfl | hx
      · omega
      · exact ih (m / 64) (by omega) x hx
theorem entsB_b {es : List Ent} (h : ∀ e ∈ es, EntOk e) : ∀ x ∈ entsB es, x < 256 := by
  intro x hx
  obtain ⟨l, hl, hx⟩ := List.mem_flatten.mp hx
  obtain ⟨e, he, rfl⟩ := List.mem_map.mp hl
  obtain ⟨h1, h2, _⟩ := h e he
  cases m : e.2 with
  | none =>
    rw [m] at hx
    have := List.mem_singleton.mp hx
    omega
  | some n =>
    rw [m] at hx
    rcases List.mem_cons.mp hx with e | e
    · omega
    · have := litM_b _ x e
      omega
theorem entsB_len : ∀ {es : List Ent}, (∀ e ∈ es, EntOk e) → (entsB es).length ≤ 13 * es.length
  | [], _ => Nat.le_refl _
  | e :: es, h => by
    have h1 := entsB_len fun x hx => h x (List.mem_cons_of_mem _ hx)
    have h2 : (entryL e.1 e.2).length ≤ 13 := by
      obtain ⟨_, _, q⟩ := h e List.mem_cons_self
      cases m : e.2 with
      | none => exact (by decide : 1 ≤ 13)
      | some n =>
        obtain ⟨q1, q2⟩ := q n m
        have := litM_len (zig_lt q1 q2)
        show (_ :: litM (zig n)).length ≤ 13
        rw [List.length_cons]
        omega
    show (entryL e.1 e.2 ++ entsB es).length ≤ 13 * (es.length + 1)
    rw [List.length_append]
    omega
/-! ### the line of a place -/
def inR (b : Nat) (R : LR) : Bool := decide (R.lo ≤ b ∧ b < R.hi)
def lineAt (Rs : List LR) (b : Nat) : Option Int := ((Rs.filter (inR b)).map (·.ln)).headD none
theorem lineAt_lt : ∀ {c : Nat} {Rs : List LR}, Chn c Rs → ∀ b, b < c → Rs.filter (inR b) = []
  | _, _, .nil c, b, h => rfl
  | c, _, .cons (R := R) (Rs := Rs) h1 h2 t, b, h => by
    have := h2.1
    rw [List.filter_cons, if_neg (by unfold inR; simp; omega), lineAt_lt t b (by omega)]
theorem exp_at : ∀ {c : Nat} {Rs : List LR}, Chn c Rs → ∀ b, c ≤ b → (b - c) % 2 = 0 → lineAt Rs b = (expL Rs).getD ((b - c) / 2) none
  | _, _, .nil c, b, h, e => by
    show none = ([] : List (Option Int)).getD _ none
    rw [List.getD_nil]
  | c, _, .cons (R := R) (Rs := Rs) h1 h2 t, b, h, e => by
    have a1 := h2.1
    have a2 := h2.2.2.1
    show _ = (List.replicate (units R) R.ln ++ expL Rs).getD ((b - c) / 2) none
    rw [List.getD_eq_getElem?_getD]
    by_cases k : b < R.hi
    · have e1 : lineAt (R :: Rs) b = R.ln := by
        unfold lineAt
        rw [List.filter_cons, if_pos (by unfold inR; simp; omega)]
        rfl
      rw [e1, List.getElem?_append_left (by rw [List.length_replicate]; unfold units; omega), List.getElem?_replicate, if_pos (by unfold units; omega)]
      rfl
    · have e1 : lineAt (R :: Rs) b = lineAt Rs b := by
        unfold lineAt
        rw [List.filter_cons, if_neg (by unfold inR; simp; omega)]
      rw [e1, List.getElem?_append_right (by rw [List.length_replicate]; unfold units; omega), List.length_replicate, exp_at t b (by omega) (by omega), List.getD_eq_getElem?_getD]
      congr 2
      unfold units
      omega
/-- what the law leans on -/
theorem lines_facts {Rs : List LR} {line : Int} (h : Chn 0 Rs) (hc : CB line) : ∃ es, entsB es = bytesL (joinL Rs) line ∧ (∀ e ∈ es, EntOk e) ∧ es.length ≤ 10000 ∧ ∀ b, b % 2 = 0 → (unitsL es line).getD (b / 2) none = lineAt Rs b := by
  obtain ⟨c, ex⟩ := chn_join h
  have l1 := entsOf_len (cur := line) c
  have l2 := c.last (by decide)
  refine ⟨entsOf (joinL Rs) line, entsOf_B _ _, entsOf_ok c hc, by omega, fun b hb => ?_⟩
  rw [entsOf_units c, ex, exp_at h b (Nat.zero_le _) (by simpa using hb), Nat.sub_zero]
end C57

set_option maxHeartbeats 2000000
namespace C57
open PySem PySem.Spec PyProof.Rows L2 StrLaws
/-! ### the line of a place, and lines drawn -/
theorem dp_lns {K : PySem.W.Frag} {H : Hp} : ∀ us : List (Option Int), DpAll K H (lvs us) (us.map lnD)
  | [] => .nil
  | u :: us => .cons (dp_ln u) (dp_lns us)
theorem lay_lns : ∀ us : List (Option Int), PyData.canLayAll0 (us.map lnD) = true
  | [] => by simp [PyData.canLayAll0]
  | u :: us => by
    rw [List.map_cons]
    simp only [PyData.canLayAll0, lay_ln, lay_lns us, Bool.and_self]
theorem dep_lns : ∀ us : List (Option Int), PyData.depthAll (us.map lnD) = 0
  | [] => by simp [PyData.depthAll]
  | u :: us => by
    rw [List.map_cons]
    simp only [PyData.depthAll, dep_ln, dep_lns us]
    rfl
theorem shaped_lns (us : List (Option Int)) : SeqAt.shaped (.list (us.map lnD)) = true := by
  have := dep_lns us
  unfold SeqAt.shaped
  rw [Bool.and_eq_true]
  exact ⟨by simp only [PyData.canLay0, lay_lns], decide_eq_true (by simp only [PyData.depth]; omega)⟩
theorem ne_lns {K : PySem.W.Frag} {H : Hp} {F e : Addr} {us : List (Option Int)} {Q : VK} (hF : H F = some (.lst (lvs us))) (he : H e = some (.lst [])) (k : Q (.bl (!us.isEmpty)) H) : rNeD K (.ref F) (.ref e) H Q := by
  refine ⟨.list (us.map lnD), .list [], .lst (SqL.of hF) (dp_lns us), .lst (SqL.of he) .nil, shaped_lns us, shaped_lns [], ?_⟩
  cases us with
  | nil => exact k
  | cons u us => exact k
theorem LRows.push {H : Hp} {F t : Addr} {refs : List Addr} {Rs : List LR} {R : LR} (hF : H F = some (.lst (refs.map V.ref))) (pr : Paired (fun r R => H r = some (.tup (lv R))) refs Rs) (ht : H t = none) :
    LRows (L2.upd (L2.upd H t (.tup (lv R))) F (.lst (refs.map V.ref ++ [.ref t]))) F (Rs ++ [R]) := by
  have tF : t ≠ F := new_ne hF ht
  refine ⟨refs ++ [t], by rw [upd_same, List.map_append]; rfl, Paired.snoc' (Paired.map' pr fun r Q h => ?_) ?_⟩
  · have : r ≠ F := fun z => by rw [z, hF] at h; cases h
    rw [upd_ne this, upd_ne (ne_new h ht)]
    exact h
  · rw [upd_ne tF, upd_same]
theorem Src.lst {H : Hp} {a : Addr} (S : Src H a) : ∃ xs, H a = some (.lst xs) := let ⟨_, _, _, e⟩ := S; ⟨_, e⟩
def spLines : Sp := fun vs H Q _ => ∃ a : Addr, vs = [.ref a] ∧ Src H a ∧ ∀ (F : Addr) (Rs : List LR) H', H F = none → F ≠ a → Keep a H H' → Src H' a → LRows H' F Rs → Rs.length ≤ 8 → Chn 0 Rs → lastB Rs 0 ≤ 82 * Rs.length → Q (.ref F) H'
def lvLines (H : Hp) (a F : Addr) (i : Nat) (σ : L2.St) (H' : Hp) : Prop := ∃ (Rs : List LR) (v1 v2 : Option V), σ = [some (.ref a), some (.ref F), some (.int ((lastB Rs 0 : Nat) : Int)), v1, v2] ∧ Keep a H H' ∧ Src H' a ∧ LRows H' F Rs ∧ Rs.length = i ∧ Chn 0 Rs ∧ lastB Rs 0 ≤ 82 * i
def spLineAt : Sp := fun vs H Q _ => ∃ (F : Addr) (Rs : List LR) (b : Nat), vs = [.ref F, .int (b : Int)] ∧ LRows H F Rs ∧ Rs.length ≤ 100 ∧ ∀ H', Same H H' → Q (lnV (lineAt Rs b)) H'
section
variable {P : Program} {w : World} {K : PySem.W.Frag} {mg : Str → Option Value} {base : Heap} {f : Addr} {fd : FuncData}
abbrev sline_at : Stmt := top 78
theorem scline_at : FnScope ["_law_lines_here", "_law_at", "_law_found", "_law_low", "_law_high", "_law_line"] ["_law_lines_here", "_law_at"] (defScope sline_at) := ⟨rfl, rfl, rfl, by decide +kernel, rfl, by decide +kernel, by decide +kernel⟩

abbrev slines : Stmt := top 80
theorem sclines : FnScope ["_law_source", "_law_found", "_law_at", "_law_k", "_law_later"] ["_law_source"] (defScope slines) := ⟨rfl, rfl, rfl, by decide +kernel, rfl, by decide +kernel, by decide +kernel⟩

theorem ok_line_at (T : Txt mg) (F : FnP K "_law_line_at" "_law_line_at" sline_at f fd) : FnOk P w K mg base CX0 1 f fd ["_law_lines_here", "_law_at"] spLineAt := by
  refine F.ok scline_at (fun vs H Q E h => ?_) (fun cdv A outer s H vs Q E hr h => ?_)
  · obtain ⟨F, Rs, b, rfl, _⟩ := h
    rfl
  · obtain ⟨F, Rs, b, rfl, hF, hl, k⟩ := h
    refine ⟨_, PSs.nox (pss_cons (ps_setLc (i := 2) (own := [("_law_low", 3), ("_law_high", 4), ("_law_line", 5)]) rfl scline_at.nd rfl rfl (sw_true rfl rfl rfl (by decide +kernel)) (pi_list (pv 0)) (blkOk_by (own := [("_law_low", 3), ("_law_high", 4), ("_law_line", 5)]) (N := ["_law_lines_here", "_law_at", "_law_found", "_law_low", "_law_high", "_law_line"]) (sc := defScope sline_at) (by decide +kernel)) (fun _ _ _ _ _ => (pg_tupD (n := 3) rfl (pgs_cons (pg_name (i := 3) scline_at.nd rfl (Or.inl rfl)) (pgs_cons (pg_name (i := 4) scline_at.nd rfl (Or.inl rfl)) (pgs_cons (pg_name (i := 5) scline_at.nd rfl (Or.inl rfl)) pgs_nil))))) (fun _ _ _ _ _ => (pts_one (pt_chain op_le op_lt (pv 3) (pv 1) (pv 4)))) (fun _ _ _ _ _ => (pv 5)))
  (pss_one (ps_ret (pe_ifExp (pt_cmpR (op_neD (hu64 hr)) (pv 2) (pe_lst pa_nil) (nomark _)) (pe_ix ix_d (pv 2) pe_int (fun _ _ => rfl)) pe_non)))), ?_⟩
    show (_ : TS) _ [some (.ref F), some (.int (b : Int)), none, none, none, none] H
    obtain ⟨refs, hF, pr⟩ := hF
    simp only [r_seq, r_next, r_brk, r_cont, r_asg, r_name, r_ret, r_retN, r_drop, r_ifs, r_never, r_var, r_c, r_op, r_un, r_if, r_tst, r_b, r_not, r_and, r_or, r_andV, r_orV, r_notV, r_nil, r_cons, r_tup, r_lst, r_cb, r_call, r_bm, r_bm0, r_sl, r_nopart, r_part, r_rev, r_gnil, r_gcons, r_gsub, r_par, r_aug, r_chain, r_I0, r_I, r_U, r_ixd, r_lend, r_tupd, r_listd, r_sld, r_app, r_ext, r_reverse, r_setl, r_cat, r_int1, r_eqS, r_neS, scal_ii, scal_bb, scal_ss, at0, at1, at2, sq_lst, sq_tup, isLst_lst, List.getElem?_cons_zero, List.getElem?_cons_succ, List.set_cons_zero, List.set_cons_succ, V.int.injEq, V.bl.injEq, V.ref.injEq, V.str.injEq, HO.lst.injEq, HO.tup.injEq, Option.some.injEq, exists_eq_left', exists_eq_left, List.cons.injEq, and_true, true_and, decide_eq_true_eq, reduceCtorEq, false_and, exists_false, or_false, false_or, exists_const, and_assoc, exists_and_left, List.append_nil, ix0, ix1, ix2, cm_mod, cdw1009, cdw2003, cdw7, cdw64, cdw2, cm104729, cm2, cm3, upd_same, List.length_cons, List.length_nil, Int.reduceLT, Int.reduceLE, Nat.reduceAdd, Nat.reduceLeDiff, Nat.reduceLT, Int.reduceToNat, r_for1, r_forL, r_forT, r_lcL, r_lc1, r_yes, r_gtupD, wipe_0, wipe_1, List.cons_append, List.nil_append, r_forS, r_ipI, ite_false, ite_true, Bool.not_true, Bool.not_false, decide_true, decide_false, r_isd, r_islt, cD_ty, cD_ref, tD_non, tD_bl, tD_int, tD_str, tD_ref, tH_lst, tH_tup, tH_dK, tH_ins, ki_self, ki_int_bool, ki_non_int, ki_str_int, ki_lt_lst, ki_lt_tup, r_fld, r_sfld, HO.ins.injEq, cx_K, hF]
    have lr := Paired.length pr
    refine ⟨⟨_, SqL.of hF⟩, fun D hD => ?_⟩
    refine cp_list (xs := refs.map V.ref) (fun i H' => Same H H' ∧ H' D = some (.lst (lvs (((Rs.take i).filter (inR b)).map (·.ln))))) ⟨Same.new' (Same.refl H) hD, by rw [upd_same]; rfl⟩ (fun i H' _ h => SqL.of (h.1 _ _ hF)) ?_ ?_
    · rintro i x H1 hx ⟨s1, h1⟩
      obtain ⟨hi, rfl⟩ := List.getElem?_eq_some_iff.mp hx
      rw [List.length_map] at hi
      have hr2 := Paired.at' pr hi (by omega)
      have h2 := s1 _ _ hr2
      rw [List.getElem_map]
      generalize refs[i] = r at *
      have nx : ((Rs.take (i + 1)).filter (inR b)).map (·.ln) = ((Rs.take i).filter (inR b)).map (·.ln) ++ (if inR b Rs[i] = true then [Rs[i].ln] else []) := by
        rw [List.take_succ_eq_append_getElem (by omega : i < Rs.length), List.filter_append, List.map_append]
        congr 1
        by_cases c : inR b Rs[i] = true
        · rw [if_pos c, List.filter_cons, if_pos c]
          rfl
        · rw [if_neg c, List.filter_cons, if_neg c]
          rfl
      rw [nx]
      have acl : (lvs (((Rs.take i).filter (inR b)).map (·.ln))).length ≤ 1000 := by
        unfold lvs
        rw [List.length_map, List.length_map]
        have := List.length_filter_le (inR b) (Rs.take i)
        rw [List.length_take] at this
        omega
      generalize ((Rs.take i).filter (inR b)).map (·.ln) = acc at *
      generalize Rs[i] = R at *
      unfold lv at h2
      simp only [r_seq, r_next, r_brk, r_cont, r_asg, r_name, r_ret, r_retN, r_drop, r_ifs, r_never, r_var, r_c, r_op, r_un, r_if, r_tst, r_b, r_not, r_and, r_or, r_andV, r_orV, r_notV, r_nil, r_cons, r_tup, r_lst, r_cb, r_call, r_bm, r_bm0, r_sl, r_nopart, r_part, r_rev, r_gnil, r_gcons, r_gsub, r_par, r_aug, r_chain, r_I0, r_I, r_U, r_ixd, r_lend, r_tupd, r_listd, r_sld, r_app, r_ext, r_reverse, r_setl, r_cat, r_int1, r_eqS, r_neS, scal_ii, scal_bb, scal_ss, at0, at1, at2, sq_lst, sq_tup, isLst_lst, List.getElem?_cons_zero, List.getElem?_cons_succ, List.set_cons_zero, List.set_cons_succ, V.int.injEq, V.bl.injEq, V.ref.injEq, V.str.injEq, HO.lst.injEq, HO.tup.injEq, Option.some.injEq, exists_eq_left', exists_eq_left, List.cons.injEq, and_true, true_and, decide_eq_true_eq, reduceCtorEq, false_and, exists_false, or_false, false_or, exists_const, and_assoc, exists_and_left, List.append_nil, ix0, ix1, ix2, cm_mod, cdw1009, cdw2003, cdw7, cdw64, cdw2, cm104729, cm2, cm3, upd_same, List.length_cons, List.length_nil, Int.reduceLT, Int.reduceLE, Nat.reduceAdd, Nat.reduceLeDiff, Nat.reduceLT, Int.reduceToNat, r_for1, r_forL, r_forT, r_lcL, r_lc1, r_yes, r_gtupD, wipe_0, wipe_1, List.cons_append, List.nil_append, r_forS, r_ipI, ite_false, ite_true, Bool.not_true, Bool.not_false, decide_true, decide_false, r_isd, r_islt, cD_ty, cD_ref, tD_non, tD_bl, tD_int, tD_str, tD_ref, tH_lst, tH_tup, tH_dK, tH_ins, ki_self, ki_int_bool, ki_non_int, ki_str_int, ki_lt_lst, ki_lt_tup, r_fld, r_sfld, HO.ins.injEq, cx_K, h2, List.map_cons, List.map_nil]
      have pne : ∀ {c : Addr} {o : HO}, H c = some o → c ≠ D := fun e => ne_new e hD
      have c0 : inR b R = decide (R.lo ≤ b ∧ b < R.hi) := rfl
      by_cases c1 : R.lo ≤ b
      · rw [if_pos (by omega)]
        by_cases c2 : b < R.hi
        · rw [if_pos (by omega), if_pos (by rw [c0]; exact decide_eq_true ⟨c1, c2⟩)]
          refine ⟨_, h1, Nat.lt_of_le_of_lt acl (by decide), fun y o e => ?_, by unfold lvs; rw [List.map_append]; rfl⟩
          rw [upd_ne (pne e)]
          exact s1 _ _ e
        · rw [if_neg (by omega), if_neg (by rw [c0]; simp; omega), List.append_nil]
          exact ⟨s1, h1⟩
      · rw [if_neg (by omega), if_neg (by rw [c0]; simp; omega), List.append_nil]
        exact ⟨s1, h1⟩
    · rintro H1 ⟨s1, h1⟩
      rw [List.length_map, lr, List.take_length] at h1
      refine ⟨Nat.zero_le _, fun p hp => ne_lns (us := ((Rs.filter (inR b)).map (·.ln))) (by rw [upd_ne (ne_new h1 hp)]; exact h1) upd_same ⟨_, rfl, ?_⟩⟩
      have s2 := Same.new' (o := .lst []) s1 hp
      have h2 : L2.upd H1 p (.lst []) D = some (.lst (lvs ((Rs.filter (inR b)).map (·.ln)))) := by rw [upd_ne (ne_new h1 hp)]; exact h1
      have k' := k _ s2
      unfold lineAt at k'
      generalize (Rs.filter (inR b)).map (·.ln) = us at *
      cases us with
      | nil =>
        rw [if_neg (by decide)]
        exact k'
      | cons u us =>
        rw [if_pos (by rfl)]
        exact ⟨D, rfl, _, by rw [h2]; rfl, lnV u, (at0 : atI (lnV u :: lvs us) 0 = some (lnV u)), k'⟩
theorem ok_lines (T : Txt mg) (F : FnP K "_law_lines" "_law_lines" slines f fd) (C_next : Cal P w K mg base 1 "_law_next" ["_law_source", "_law_many"] spNext) (C_one : Cal P w K mg base 2 "_law_one" ["_law_source", "_law_some"] spOne) : FnOk P w K mg base CX0 3 f fd ["_law_source"] spLines := by
  refine F.ok sclines (fun vs H Q E h => ?_) (fun cdv A outer s H vs Q E hr h => ?_)
  · obtain ⟨a, rfl, _⟩ := h
    rfl
  · obtain ⟨a, rfl, hS, k⟩ := h
    refine ⟨_, PSs.nox (pss_cons (ps_par (i := 1) (j := 2) (by rfl) sclines.nd rfl rfl (by decide) rfl rfl (pa_cons (pe_lst pa_nil) (pa_cons pe_int pa_nil)) (by rfl))
  (pss_cons (ps_for PassesOwn.never rfl (pi_range1 rfl T.b_range (pa_cons (pe_cal C_next (hr.mono (by decide)) rfl (pa_cons (pv 0) (pa_cons pe_int pa_nil))) pa_nil)) (pg_name (i := 3) sclines.nd rfl (Or.inl rfl))
    (pss_cons (ps_set (i := 4) sclines.nd rfl (Or.inl rfl) (pe_op op_add (pe_op op_add (pv 2) pe_int) (pe_op op_mul pe_int (pe_cal C_next (hr.mono (by decide)) rfl (pa_cons (pv 0) (pa_cons pe_int pa_nil))))))
  (pss_cons (ps_expr (pe_bm PySem.F.plainAttrs_list PySem.F.slot_list_append PySem.F.type_list_append mt_append (pv 1) (pa_cons (pe_tup (pa_cons (pv 2) (pa_cons (pv 4) (pa_cons (pe_cal C_one (hr.mono (by decide)) rfl (pa_cons (pv 0) (pa_cons (pe_lst (pa_cons pe_non (pa_cons (pe_op op_add pe_int (pv 3)) (pa_cons (pe_op op_sub pe_int (pv 3)) pa_nil)))) pa_nil))) pa_nil)))) pa_nil)))
  (pss_one (ps_set (i := 2) sclines.nd rfl (Or.inl rfl) (pv 4))))))
  (pss_one (ps_ret (pv 1))))), ?_⟩
    show (_ : TS) _ [some (.ref a), none, none, none, none] H
    simp only [r_seq, r_next, r_brk, r_cont, r_asg, r_name, r_ret, r_retN, r_drop, r_ifs, r_never, r_var, r_c, r_op, r_un, r_if, r_tst, r_b, r_not, r_and, r_or, r_andV, r_orV, r_notV, r_nil, r_cons, r_tup, r_lst, r_cb, r_call, r_bm, r_bm0, r_sl, r_nopart, r_part, r_rev, r_gnil, r_gcons, r_gsub, r_par, r_aug, r_chain, r_I0, r_I, r_U, r_ixd, r_lend, r_tupd, r_listd, r_sld, r_app, r_ext, r_reverse, r_setl, r_cat, r_int1, r_eqS, r_neS, scal_ii, scal_bb, scal_ss, at0, at1, at2, sq_lst, sq_tup, isLst_lst, List.getElem?_cons_zero, List.getElem?_cons_succ, List.set_cons_zero, List.set_cons_succ, V.int.injEq, V.bl.injEq, V.ref.injEq, V.str.injEq, HO.lst.injEq, HO.tup.injEq, Option.some.injEq, exists_eq_left', exists_eq_left, List.cons.injEq, and_true, true_and, decide_eq_true_eq, reduceCtorEq, false_and, exists_false, or_false, false_or, exists_const, and_assoc, exists_and_left, List.append_nil, ix0, ix1, ix2, cm_mod, cdw1009, cdw2003, cdw7, cdw64, cdw2, cm104729, cm2, cm3, upd_same, List.length_cons, List.length_nil, Int.reduceLT, Int.reduceLE, Nat.reduceAdd, Nat.reduceLeDiff, Nat.reduceLT, Int.reduceToNat, r_for1, r_forL, r_forT, r_lcL, r_lc1, r_yes, r_gtupD, wipe_0, wipe_1, List.cons_append, List.nil_append, r_forS, r_ipI, ite_false, ite_true, Bool.not_true, Bool.not_false, decide_true, decide_false, r_isd, r_islt, cD_ty, cD_ref, tD_non, tD_bl, tD_int, tD_str, tD_ref, tH_lst, tH_tup, tH_dK, tH_ins, ki_self, ki_int_bool, ki_non_int, ki_str_int, ki_lt_lst, ki_lt_tup, r_fld, r_sfld, HO.ins.injEq, cx_K]
    refine ⟨Nat.zero_le _, fun F hF => ⟨a, 9, rfl, hS.new hF, by decide, by decide, fun r H1 r0 r1 k1 S1 => ⟨r, rfl, by omega, by omega, ?_⟩⟩⟩
    have Fa : F ≠ a := hS.ne hF
    have hF1 : H1 F = some (.lst []) := k1 F _ Fa upd_same
    have K1 : Keep a H H1 := ((Keep.refl a H).new hF).trans k1
    refine lp_rng (n := r.toNat) (lvLines H a F) ⟨[], none, none, rfl, K1, S1, ⟨[], hF1, .nil⟩, rfl, .nil _, by decide⟩ ?_ ?_
    · rintro i σ H2 hi ⟨Rs, v1, v2, rfl, K2, S2, ⟨refs, hF2, hP⟩, hl, hch, hb⟩
      simp only [r_seq, r_next, r_brk, r_cont, r_asg, r_name, r_ret, r_retN, r_drop, r_ifs, r_never, r_var, r_c, r_op, r_un, r_if, r_tst, r_b, r_not, r_and, r_or, r_andV, r_orV, r_notV, r_nil, r_cons, r_tup, r_lst, r_cb, r_call, r_bm, r_bm0, r_sl, r_nopart, r_part, r_rev, r_gnil, r_gcons, r_gsub, r_par, r_aug, r_chain, r_I0, r_I, r_U, r_ixd, r_lend, r_tupd, r_listd, r_sld, r_app, r_ext, r_reverse, r_setl, r_cat, r_int1, r_eqS, r_neS, scal_ii, scal_bb, scal_ss, at0, at1, at2, sq_lst, sq_tup, isLst_lst, List.getElem?_cons_zero, List.getElem?_cons_succ, List.set_cons_zero, List.set_cons_succ, V.int.injEq, V.bl.injEq, V.ref.injEq, V.str.injEq, HO.lst.injEq, HO.tup.injEq, Option.some.injEq, exists_eq_left', exists_eq_left, List.cons.injEq, and_true, true_and, decide_eq_true_eq, reduceCtorEq, false_and, exists_false, or_false, false_or, exists_const, and_assoc, exists_and_left, List.append_nil, ix0, ix1, ix2, cm_mod, cdw1009, cdw2003, cdw7, cdw64, cdw2, cm104729, cm2, cm3, upd_same, List.length_cons, List.length_nil, Int.reduceLT, Int.reduceLE, Nat.reduceAdd, Nat.reduceLeDiff, Nat.reduceLT, Int.reduceToNat, r_for1, r_forL, r_forT, r_lcL, r_lc1, r_yes, r_gtupD, wipe_0, wipe_1, List.cons_append, List.nil_append, r_forS, r_ipI, ite_false, ite_true, Bool.not_true, Bool.not_false, decide_true, decide_false, r_isd, r_islt, cD_ty, cD_ref, tD_non, tD_bl, tD_int, tD_str, tD_ref, tH_lst, tH_tup, tH_dK, tH_ins, ki_self, ki_int_bool, ki_non_int, ki_str_int, ki_lt_lst, ki_lt_tup, r_fld, r_sfld, HO.ins.injEq, cx_K]
      refine ⟨a, 40, rfl, S2, by decide, by decide, fun n1 H3 b1 b2 k3 S3 => ?_⟩
      have hF3 := k3 F _ Fa hF2
      refine ⟨n1, rfl, tyl hF3, szl (by decide : 3 ≤ 1000), fun p hp => ⟨a, p, _, rfl, S3.new hp, S3.ne hp, upd_same, by simp, (by simp : _ ≤ 1000), fun v H4 hv k4 S4 => ⟨szl (by decide : 3 ≤ 1000), fun q hq => ?_⟩⟩⟩
      obtain ⟨l, rfl, hll⟩ : ∃ l : Option Int, v = lnV l ∧ ∀ j, l = some j → 1 ≤ j ∧ j < 2 ^ 40 := by
        simp only [List.mem_cons, List.not_mem_nil, or_false] at hv
        rcases hv with e | e | e
        · exact ⟨none, e, fun j z => by cases z⟩
        · exact ⟨some (1 + (i : Int)), e, fun j z => by cases z; omega⟩
        · exact ⟨some (90 - (i : Int)), e, fun j z => by cases z; omega⟩
      have K4 : Keep a H2 H4 := (k3.new hp).trans k4
      have hF4 : H4 F = some (.lst (refs.map V.ref)) := K4 F _ Fa hF2
      have hP4 : Paired (fun r R => H4 r = some (.tup (lv R))) refs Rs := Paired.map' hP fun x R h => K4 x _ (fun z => by
        obtain ⟨y, h0⟩ := S2.lst
        rw [z, h0] at h
        cases h) h
      have lr := Paired.length hP4
      have eh : (lastB Rs 0 : Int) + 2 + 2 * n1 = ((lastB Rs 0 + 2 + 2 * n1.toNat : Nat) : Int) := by omega
      rw [eh]
      have ps := LRows.push (R := ⟨lastB Rs 0, lastB Rs 0 + 2 + 2 * n1.toNat, l⟩) hF4 hP4 hq
      refine ⟨refs.map V.ref, by rw [upd_ne (ne_new hF4 hq)]; exact hF4, Nat.lt_of_le_of_lt (by rw [List.length_map]; omega : _ ≤ 1000) (by decide), Rs ++ [⟨lastB Rs 0, lastB Rs 0 + 2 + 2 * n1.toNat, l⟩], _, _, by rw [lastB_snoc], ?_, ?_, (by exact ps), by rw [List.length_append, hl]; rfl, hch.snoc rfl ⟨?_, ?_, ?_, hll⟩, ?_⟩
      · intro y o ny e
        have e4 := (K2.trans K4) y o ny e
        rw [upd_ne (ne_new e hF), upd_ne (ne_new e4 hq)]
        exact e4
      · obtain ⟨x1, x2, x3, e⟩ := S4
        exact ⟨x1, x2, x3, by rw [upd_ne Fa.symm, upd_ne (ne_new e hq)]; exact e⟩
      · show lastB Rs 0 + 2 ≤ lastB Rs 0 + 2 + 2 * n1.toNat
        omega
      · show lastB Rs 0 + 2 + 2 * n1.toNat ≤ 20000
        omega
      · show (lastB Rs 0 + 2 + 2 * n1.toNat - lastB Rs 0) % 2 = 0
        omega
      · rw [lastB_snoc]
        show lastB Rs 0 + 2 + 2 * n1.toNat ≤ 82 * (i + 1)
        omega
    · rintro σ H2 ⟨Rs, v1, v2, rfl, K2, S2, hR, hl, hch, hb⟩
      simp only [r_seq, r_next, r_brk, r_cont, r_asg, r_name, r_ret, r_retN, r_drop, r_ifs, r_never, r_var, r_c, r_op, r_un, r_if, r_tst, r_b, r_not, r_and, r_or, r_andV, r_orV, r_notV, r_nil, r_cons, r_tup, r_lst, r_cb, r_call, r_bm, r_bm0, r_sl, r_nopart, r_part, r_rev, r_gnil, r_gcons, r_gsub, r_par, r_aug, r_chain, r_I0, r_I, r_U, r_ixd, r_lend, r_tupd, r_listd, r_sld, r_app, r_ext, r_reverse, r_setl, r_cat, r_int1, r_eqS, r_neS, scal_ii, scal_bb, scal_ss, at0, at1, at2, sq_lst, sq_tup, isLst_lst, List.getElem?_cons_zero, List.getElem?_cons_succ, List.set_cons_zero, List.set_cons_succ, V.int.injEq, V.bl.injEq, V.ref.injEq, V.str.injEq, HO.lst.injEq, HO.tup.injEq, Option.some.injEq, exists_eq_left', exists_eq_left, List.cons.injEq, and_true, true_and, decide_eq_true_eq, reduceCtorEq, false_and, exists_false, or_false, false_or, exists_const, and_assoc, exists_and_left, List.append_nil, ix0, ix1, ix2, cm_mod, cdw1009, cdw2003, cdw7, cdw64, cdw2, cm104729, cm2, cm3, upd_same, List.length_cons, List.length_nil, Int.reduceLT, Int.reduceLE, Nat.reduceAdd, Nat.reduceLeDiff, Nat.reduceLT, Int.reduceToNat, r_for1, r_forL, r_forT, r_lcL, r_lc1, r_yes, r_gtupD, wipe_0, wipe_1, List.cons_append, List.nil_append, r_forS, r_ipI, ite_false, ite_true, Bool.not_true, Bool.not_false, decide_true, decide_false, r_isd, r_islt, cD_ty, cD_ref, tD_non, tD_bl, tD_int, tD_str, tD_ref, tH_lst, tH_tup, tH_dK, tH_ins, ki_self, ki_int_bool, ki_non_int, ki_str_int, ki_lt_lst, ki_lt_tup, r_fld, r_sfld, HO.ins.injEq, cx_K]
      exact k F Rs H2 hF Fa K2 S2 hR (by omega) hch (by omega)
end
end C57

set_option maxHeartbeats 2000000
namespace C57
open PySem PySem.Spec PyProof.Rows L2 StrLaws
/-! ### what the law tells -/
theorem LTab.same {K : PySem.W.Frag} {CC tb w n s : Addr} {H H' : Hp} {T : Tb} (L : LTab K CC H tb w n s T) (e : Same H H') : LTab K CC H' tb w n s T := by
  obtain ⟨h1, ⟨ks, h2, h3⟩, h4, h5⟩ := L
  refine ⟨e _ _ h1, ⟨ks, e _ _ h2, Paired.map' h3 fun v t ⟨a1, a2⟩ => ⟨a1.same e, fun a dx fs ev q => ?_⟩⟩, e _ _ h4, e _ _ h5⟩
  subst ev
  rcases a1 with ⟨b, dx2, fs2, z, eb, q1, _⟩ | ⟨⟨T', q1, _⟩, _⟩
  · cases eb
    rw [e _ _ q1] at q
    rw [q] at q1
    exact a2 a dx fs rfl q1
  · have q2 : tyH CC (H a) = some T' := q1
    cases c : H a with
    | none => rw [c] at q2; cases q2
    | some o =>
      rw [e _ _ c] at q
      rw [q] at c
      exact a2 a dx fs rfl c
/-- what was drawn -/
abbrev Gv : Type := TR × Nat
def pkOf (g : Gv) : Pk := ⟨g.1.2.1.toNat, g.2, g.1.2.2.1.toNat, g.1.1⟩
def GOk (T : Tb) (g : Gv) : Prop := g.1 ∈ tabL ∧ NumG T g.1.2.2.2 g.2
theorem GOk.pk {T : Tb} {g : Gv} (h : GOk T g) : (pkOf g).Ok := by
  obtain ⟨f1, f5, f6, f3, f4, f7, f8, f9⟩ := tab_fact h.1
  exact ⟨f1, f3, f4, f7, h.2.2.2.2.2.2.2.2⟩
theorem pk_bytes (g : Gv) : (pkOf g).bytes = bytesOf g.1 g.2 := rfl
def GRows (H : Hp) (F : Addr) (Gs : List Gv) : Prop := ∃ refs : List Addr, H F = some (.lst (refs.map V.ref)) ∧ Paired (fun r g => H r = some (.tup [.str g.1.1, .int (g.2 : Int)])) refs Gs
def spTold (K : PySem.W.Frag) (CC : Addr) : Sp := fun vs H Q _ => ∃ (d tg tb wa na sa F : Addr) (Gs : List Gv) (T : Tb) (Rs : List LR), vs = [.ref d, .ref tg, .ref tb, .ref F] ∧ LawTab H d tabL ∧ GRows H tg Gs ∧ LTab K CC H tb wa na sa T ∧ TbOk T ∧ (∀ g ∈ Gs, GOk T g) ∧ Gs.length ≤ 40 ∧ LRows H F Rs ∧ Rs.length ≤ 100 ∧
  ∀ p F2 D H', Same H H' → H p = none → H F2 = none → H D = none → F2 ≠ D → H' p = some (.tup [.ref F2, .ref D]) → IRows H' F2 (rowsP T (lineAt Rs) (Gs.map pkOf) 0) → H' D = some (.lst (vn ((Gs.map pkOf).map Pk.bytes).flatten)) → Q (.ref p) H'
def t_lext (K : PySem.W.Frag) : TS := tDrop (tBM K "list" rAppend (tVar 4) (tCons (tTup (tCons (tVar 11) (tCons (tC (V.str (Str.ofString "EXTENDED_ARG"))) (tCons (tOp rIxd (tVar 5) (tOp (rI0 fun i j => V.int (i + j)) (tVar 11) (tC (V.int 1)))) (tCons (tC (V.str (Str.ofString ""))) (tCons (tCall spLineAt [] E0 (tCons (tVar 3) (tCons (tVar 11) tNil))) tNil)))))) tNil))
def t_lexts (K : PySem.W.Frag) : TS := tFor (iRng3 (tCons (tVar 8) (tCons (tOp (rI0 fun i j => V.int (i + j)) (tVar 8) (tVar 10)) (tCons (tC (V.int 2)) tNil)))) (gName 11) (t_lext K)
def t_llast (K : PySem.W.Frag) (CC : Addr) : TS := tSeq (tAsg (tOp rIxd (tDGet (tVar 0) (tVar 6)) (tC (V.int 2))) (gName 12))
  (tSeq (tAsg (tCall (spLMean K CC) [] E0 (tCons (tVar 6) (tCons (tVar 12) (tCons (tVar 7) (tCons (tVar 2) (tCons (tCB rLend (tCons (tVar 5) tNil)) tNil)))))) (gName 13))
  (tSeq (tAsg (tCall spLineAt [] E0 (tCons (tVar 3) (tCons (tOp (rI0 fun i j => V.int (i + j)) (tVar 8) (tVar 10)) tNil))) (gName 14))
  (tDrop (tBM K "list" rAppend (tVar 4) (tCons (tTup (tCons (tOp (rI0 fun i j => V.int (i + j)) (tVar 8) (tVar 10)) (tCons (tVar 6) (tCons (tIf (tTest (tOp rEq (tVar 12) (tC (V.str (Str.ofString "-"))))) (tC V.non) (tVar 7)) (tCons (tVar 13) (tCons (tVar 14) tNil)))))) tNil)))))
def t_lturn (K : PySem.W.Frag) (CC : Addr) : TS := tSeq (tPar 8 9 (tCons (tCB rLend (tCons (tVar 5) tNil)) (tCons (tCall spPacked [] E0 (tCons (tVar 0) (tCons (tVar 6) (tCons (tVar 7) tNil)))) tNil)))
  (tSeq (tDrop (tBM K "list" rExtend (tVar 5) (tCons (tVar 9) tNil)))
  (tSeq (tAsg (tOp (rI0 fun i j => V.int (i - j)) (tOp (rI0 fun i j => V.int (i - j)) (tCB rLend (tCons (tVar 9) tNil)) (tOp (rI CMul fun i j => V.int (i * j)) (tC (V.int 2)) (tOp rIxd (tDGet (tVar 0) (tVar 6)) (tC (V.int 1))))) (tC (V.int 2))) (gName 10))
  (tSeq (t_lexts K) (t_llast K CC))))
/-- what stands while it is told -/
structure LSit (H : Hp) (F2 D : Addr) (data : List Nat) (R : List IRow) (H' : Hp) : Prop where
  s : Same H H'
  r : IRows H' F2 R
  d : H' D = some (.lst (vn data))
theorem LSit.same {H H1 H2 : Hp} {F2 D : Addr} {data : List Nat} {R : List IRow} (S : LSit H F2 D data R H1) (s : Same H1 H2) : LSit H F2 D data R H2 := by
  obtain ⟨h1, ⟨refs, h2, h3⟩, h4⟩ := S
  exact ⟨fun y o e => s y o (h1 y o e), ⟨refs, s _ _ h2, Paired.map' h3 fun r Q h => ⟨h.1, s _ _ h.2⟩⟩, s _ _ h4⟩
theorem LSit.push {H H1 : Hp} {F2 D q : Addr} {data : List Nat} {R : List IRow} {X : IRow} {refs : List Addr} (S : LSit H F2 D data R H1) (n1 : H F2 = none) (n3 : F2 ≠ D) (hF : H1 F2 = some (.lst (refs.map V.ref))) (hq : H1 q = none) :
    LSit H F2 D data (R ++ [X]) (L2.upd (L2.upd H1 q (.tup (irV X))) F2 (.lst (refs.map V.ref ++ [.ref q]))) := by
  obtain ⟨h1, ⟨refs', h2, h3⟩, h4⟩ := S
  have er : refs'.map V.ref = refs.map V.ref := by rw [h2] at hF; exact HO.lst.inj (Option.some.inj hF)
  rw [← er]
  refine ⟨fun y o e => ?_, IRows.snoc h2 h3 hq, ?_⟩
  · have e1 := h1 y o e
    rw [upd_ne (ne_new e n1), upd_ne (ne_new e1 hq)]
    exact e1
  · rw [upd_ne n3.symm, upd_ne (ne_new h4 hq)]
    exact h4
theorem rg2 (b : Nat) {k : Nat} (hb : b ≤ 100000) (hk : k ≤ 3) : RgC (b : Int) ((b : Int) + ((2 * k : Nat) : Int)) 2 k := by
  have e : Builtin.Range.rangeSize (b : Int) ((b : Int) + ((2 * k : Nat) : Int)) 2 = (k : Int) := by
    unfold Builtin.Range.rangeSize
    rw [if_pos (by decide)]
    split <;> omega
  refine ⟨by decide, by decide, ?_, e⟩
  unfold Builtin.Range.small
  rw [e]
  have fl : ∀ i : Int, -(2 ^ 62) ≤ i → i < 2 ^ 62 → Builtin.Range.rangeFitsLong i = true := fun i h1 h2 => by
    unfold Builtin.Range.rangeFitsLong
    rw [Bool.and_eq_true, decide_eq_true_eq, decide_eq_true_eq]
    omega
  rw [fl _ (by omega) (by omega), fl _ (by omega) (by omega), fl _ (by omega) (by omega), fl _ (by omega) (by omega)]
  rw [if_pos (by decide), fl _ (by omega) (by omega), Bool.or_true]
  rfl
theorem extR_len (lf : LF) : ∀ (es : List Nat) (b : Nat), (extR lf es b).length = es.length
  | [], _ => rfl
  | x :: es, b => by
    show (extR lf es (b + 2)).length + 1 = es.length + 1
    rw [extR_len lf es]
section
variable {K : PySem.W.Frag} {CC d tg tb wa na sa F F2 D : Addr} {H : Hp} {T : Tb} {Rs : List LR} {Dn : Ends}
theorem lexts_run {w n : V} {v9 v11 v12 v13 v14 : Option V} {p : Pk} {b : Nat} {data : List Nat} {R : List IRow} {H1 : Hp} (ok : p.Ok) (PA : PAt data b p) (hF : LRows H F Rs) (hlr : Rs.length ≤ 100) (n1 : H F2 = none) (n3 : F2 ≠ D) (hz : R.length ≤ 4000) (hd : data.length ≤ 4000) (S : LSit H F2 D data R H1)
    (k : ∀ v11 H', LSit H F2 D data (R ++ extR (lineAt Rs) (exL p.n) b) H' → Dn.nx [some (.ref d), some (.ref tg), some (.ref tb), some (.ref F), some (.ref F2), some (.ref D), some w, some n, some (.int (b : Int)), v9, some (.int ((2 * (exL p.n).length : Nat) : Int)), v11, v12, v13, v14] H') :
    t_lexts K Dn [some (.ref d), some (.ref tg), some (.ref tb), some (.ref F), some (.ref F2), some (.ref D), some w, some n, some (.int (b : Int)), v9, some (.int ((2 * (exL p.n).length : Nat) : Int)), v11, v12, v13, v14] H1 := by
  obtain ⟨q1, q2, q3⟩ := PA
  have le := (exts_es ok.n).2.1
  generalize exL p.n = es at *
  unfold t_lexts
  simp only [r_seq, r_next, r_brk, r_cont, r_asg, r_name, r_ret, r_retN, r_drop, r_ifs, r_never, r_var, r_c, r_op, r_un, r_if, r_tst, r_b, r_not, r_and, r_or, r_andV, r_orV, r_notV, r_nil, r_cons, r_tup, r_lst, r_cb, r_call, r_bm, r_bm0, r_sl, r_nopart, r_part, r_rev, r_gnil, r_gcons, r_gsub, r_par, r_aug, r_chain, r_I0, r_I, r_U, r_ixd, r_lend, r_tupd, r_listd, r_sld, r_app, r_ext, r_reverse, r_setl, r_cat, r_int1, r_eqS, r_neS, scal_ii, scal_bb, scal_ss, at0, at1, at2, sq_lst, sq_tup, isLst_lst, List.getElem?_cons_zero, List.getElem?_cons_succ, List.set_cons_zero, List.set_cons_succ, V.int.injEq, V.bl.injEq, V.ref.injEq, V.str.injEq, HO.lst.injEq, HO.tup.injEq, Option.some.injEq, exists_eq_left', exists_eq_left, List.cons.injEq, and_true, true_and, decide_eq_true_eq, reduceCtorEq, false_and, exists_false, or_false, false_or, exists_const, and_assoc, exists_and_left, List.append_nil, ix0, ix1, ix2, cm_mod, cdw1009, cdw2003, cdw7, cdw64, cdw2, cm104729, cm2, cm3, upd_same, List.length_cons, List.length_nil, Int.reduceLT, Int.reduceLE, Nat.reduceAdd, Nat.reduceLeDiff, Nat.reduceLT, Int.reduceToNat, r_for1, r_forL, r_forT, r_lcL, r_lc1, r_yes, r_gtupD, wipe_0, wipe_1, List.cons_append, List.nil_append, r_forS, r_ipI, ite_false, ite_true, Bool.not_true, Bool.not_false, decide_true, decide_false, r_isd, r_islt, cD_ty, cD_ref, tD_non, tD_bl, tD_int, tD_str, tD_ref, tH_lst, tH_tup, tH_dK, tH_ins, ki_self, ki_int_bool, ki_non_int, ki_str_int, ki_lt_lst, ki_lt_tup, r_fld, r_sfld, HO.ins.injEq, cx_K, r_for3]
  refine ⟨es.length, rg2 b (by omega) le, lp_rngC (fun i σ H' => (∃ v, σ = [some (.ref d), some (.ref tg), some (.ref tb), some (.ref F), some (.ref F2), some (.ref D), some w, some n, some (.int (b : Int)), v9, some (.int ((2 * es.length : Nat) : Int)), v, v12, v13, v14]) ∧ LSit H F2 D data (R ++ extR (lineAt Rs) (es.take i) b) H') ⟨⟨_, rfl⟩, by rw [List.take_zero]; show LSit H F2 D data (R ++ []) H1; rw [List.append_nil]; exact S⟩ ?_ ?_⟩
  · rintro i σ H2 hi ⟨⟨v, rfl⟩, S2⟩
    obtain ⟨_, d2⟩ := q1 i hi
    have e0 : (b : Int) + (i : Int) * 2 = ((b + 2 * i : Nat) : Int) := by omega
    have e1 : ((b + 2 * i : Nat) : Int) + 1 = ((b + 2 * i + 1 : Nat) : Int) := by omega
    have e2 : atI (vn data) ((b + 2 * i + 1 : Nat) : Int) = some (.int ((es.getD i 0 : Nat) : Int)) := vn_at' (by omega) d2
    have hD := S2.d
    obtain ⟨refs, hf, pr⟩ := id S2.r
    have lr := Paired.length pr
    rw [List.length_append, extR_len, List.length_take] at lr
    rw [e0]
    unfold t_lext
    simp only [r_seq, r_next, r_brk, r_cont, r_asg, r_name, r_ret, r_retN, r_drop, r_ifs, r_never, r_var, r_c, r_op, r_un, r_if, r_tst, r_b, r_not, r_and, r_or, r_andV, r_orV, r_notV, r_nil, r_cons, r_tup, r_lst, r_cb, r_call, r_bm, r_bm0, r_sl, r_nopart, r_part, r_rev, r_gnil, r_gcons, r_gsub, r_par, r_aug, r_chain, r_I0, r_I, r_U, r_ixd, r_lend, r_tupd, r_listd, r_sld, r_app, r_ext, r_reverse, r_setl, r_cat, r_int1, r_eqS, r_neS, scal_ii, scal_bb, scal_ss, at0, at1, at2, sq_lst, sq_tup, isLst_lst, List.getElem?_cons_zero, List.getElem?_cons_succ, List.set_cons_zero, List.set_cons_succ, V.int.injEq, V.bl.injEq, V.ref.injEq, V.str.injEq, HO.lst.injEq, HO.tup.injEq, Option.some.injEq, exists_eq_left', exists_eq_left, List.cons.injEq, and_true, true_and, decide_eq_true_eq, reduceCtorEq, false_and, exists_false, or_false, false_or, exists_const, and_assoc, exists_and_left, List.append_nil, ix0, ix1, ix2, cm_mod, cdw1009, cdw2003, cdw7, cdw64, cdw2, cm104729, cm2, cm3, upd_same, List.length_cons, List.length_nil, Int.reduceLT, Int.reduceLE, Nat.reduceAdd, Nat.reduceLeDiff, Nat.reduceLT, Int.reduceToNat, r_for1, r_forL, r_forT, r_lcL, r_lc1, r_yes, r_gtupD, wipe_0, wipe_1, List.cons_append, List.nil_append, r_forS, r_ipI, ite_false, ite_true, Bool.not_true, Bool.not_false, decide_true, decide_false, r_isd, r_islt, cD_ty, cD_ref, tD_non, tD_bl, tD_int, tD_str, tD_ref, tH_lst, tH_tup, tH_dK, tH_ins, ki_self, ki_int_bool, ki_non_int, ki_str_int, ki_lt_lst, ki_lt_tup, r_fld, r_sfld, HO.ins.injEq, cx_K, hD, e1, e2]
    refine ⟨tyl hf, F, Rs, b + 2 * i, rfl, hF.same S2.s, hlr, fun H3 s3 => ⟨szl (by decide : 5 ≤ 1000), fun q hq => ?_⟩⟩
    have S3 := S2.same s3
    have hf3 := s3 _ _ hf
    refine ⟨refs.map V.ref, by rw [upd_ne (ne_new hf3 hq)]; exact hf3, Nat.lt_of_le_of_lt (by rw [List.length_map]; omega : _ ≤ 5000) (by decide), ⟨_, rfl⟩, ?_⟩
    have tk : es.take (i + 1) = es.take i ++ [es.getD i 0] := by
      rw [List.take_succ_eq_append_getElem hi, List.getD_eq_getElem?_getD, List.getElem?_eq_getElem hi]
      rfl
    rw [tk, extR_snoc, ← List.append_assoc, List.length_take, Nat.min_eq_left (Nat.le_of_lt hi)]
    exact LSit.push (X := ⟨b + 2 * i, "EXTENDED_ARG", some (es.getD i 0), "", lineAt Rs (b + 2 * i)⟩) S3 n1 n3 hf3 hq
  · rintro σ H2 ⟨⟨v, rfl⟩, S2⟩
    rw [List.take_length] at S2
    exact k v H2 S2
theorem lturn_run {g : Gv} {v8 v9 v10 v11 v12 v13 v14 : Option V} {pre : List Nat} {R : List IRow} {H1 : Hp} (gok : GOk T g) (hd : LawTab H d tabL) (hT : LTab K CC H tb wa na sa T) (tok : TbOk T) (hF : LRows H F Rs) (hlr : Rs.length ≤ 100) (n1 : H F2 = none) (n2 : H D = none) (n3 : F2 ≠ D) (hz : R.length ≤ 1000) (hp : pre.length ≤ 3000) (S : LSit H F2 D pre R H1)
    (k : ∀ v8 v9 v10 v11 v12 v13 v14 H', LSit H F2 D (pre ++ (pkOf g).bytes) (R ++ (extR (lineAt Rs) (exL (pkOf g).n) pre.length ++ [lastR T (lineAt Rs) (pkOf g) pre.length])) H' → Dn.nx [some (.ref d), some (.ref tg), some (.ref tb), some (.ref F), some (.ref F2), some (.ref D), some (.str g.1.1), some (.int (g.2 : Int)), v8, v9, v10, v11, v12, v13, v14] H') :
    t_lturn K CC Dn [some (.ref d), some (.ref tg), some (.ref tb), some (.ref F), some (.ref F2), some (.ref D), some (.str g.1.1), some (.int (g.2 : Int)), v8, v9, v10, v11, v12, v13, v14] H1 := by
  have ok := gok.pk
  obtain ⟨f1, f5, f6, f3, f4, f7, f8, f9⟩ := tab_fact gok.1
  have le := (exts_es ok.n).2.1
  have bl : (pkOf g).bytes.length = 2 * (exL (pkOf g).n).length + 2 + 2 * g.1.2.2.1.toNat := by
    unfold Pk.bytes packN
    rw [(exts_es ok.n).1, List.length_append, exb_len, List.length_append, List.length_replicate]
    show _ + (2 + 2 * g.1.2.2.1.toNat) = _
    omega
  have hD := S.d
  unfold t_lturn
  simp only [r_seq, r_next, r_brk, r_cont, r_asg, r_name, r_ret, r_retN, r_drop, r_ifs, r_never, r_var, r_c, r_op, r_un, r_if, r_tst, r_b, r_not, r_and, r_or, r_andV, r_orV, r_notV, r_nil, r_cons, r_tup, r_lst, r_cb, r_call, r_bm, r_bm0, r_sl, r_nopart, r_part, r_rev, r_gnil, r_gcons, r_gsub, r_par, r_aug, r_chain, r_I0, r_I, r_U, r_ixd, r_lend, r_tupd, r_listd, r_sld, r_app, r_ext, r_reverse, r_setl, r_cat, r_int1, r_eqS, r_neS, scal_ii, scal_bb, scal_ss, at0, at1, at2, sq_lst, sq_tup, isLst_lst, List.getElem?_cons_zero, List.getElem?_cons_succ, List.set_cons_zero, List.set_cons_succ, V.int.injEq, V.bl.injEq, V.ref.injEq, V.str.injEq, HO.lst.injEq, HO.tup.injEq, Option.some.injEq, exists_eq_left', exists_eq_left, List.cons.injEq, and_true, true_and, decide_eq_true_eq, reduceCtorEq, false_and, exists_false, or_false, false_or, exists_const, and_assoc, exists_and_left, List.append_nil, ix0, ix1, ix2, cm_mod, cdw1009, cdw2003, cdw7, cdw64, cdw2, cm104729, cm2, cm3, upd_same, List.length_cons, List.length_nil, Int.reduceLT, Int.reduceLE, Nat.reduceAdd, Nat.reduceLeDiff, Nat.reduceLT, Int.reduceToNat, r_for1, r_forL, r_forT, r_lcL, r_lc1, r_yes, r_gtupD, wipe_0, wipe_1, List.cons_append, List.nil_append, r_forS, r_ipI, ite_false, ite_true, Bool.not_true, Bool.not_false, decide_true, decide_false, r_isd, r_islt, cD_ty, cD_ref, tD_non, tD_bl, tD_int, tD_str, tD_ref, tH_lst, tH_tup, tH_dK, tH_ins, ki_self, ki_int_bool, ki_non_int, ki_str_int, ki_lt_lst, ki_lt_tup, r_fld, r_sfld, HO.ins.injEq, cx_K, hD, r_dget]
  refine ⟨d, g.1, g.2, rfl, gok.1, hd.same S.s, gok.2.2.2.2.2.2.2.2, fun p H2 hp1 s2 h2 => ?_⟩
  have S2 := S.same s2
  have hD2 := S2.d
  have h2' : H2 p = some (.lst (vn (pkOf g).bytes)) := h2
  have pD : p ≠ D := fun z => by rw [z, hD] at hp1; cases hp1
  have pF : p ≠ F2 := fun z => by
    obtain ⟨refs, e, _⟩ := S.r
    rw [z, e] at hp1
    cases hp1
  simp only [r_seq, r_next, r_brk, r_cont, r_asg, r_name, r_ret, r_retN, r_drop, r_ifs, r_never, r_var, r_c, r_op, r_un, r_if, r_tst, r_b, r_not, r_and, r_or, r_andV, r_orV, r_notV, r_nil, r_cons, r_tup, r_lst, r_cb, r_call, r_bm, r_bm0, r_sl, r_nopart, r_part, r_rev, r_gnil, r_gcons, r_gsub, r_par, r_aug, r_chain, r_I0, r_I, r_U, r_ixd, r_lend, r_tupd, r_listd, r_sld, r_app, r_ext, r_reverse, r_setl, r_cat, r_int1, r_eqS, r_neS, scal_ii, scal_bb, scal_ss, at0, at1, at2, sq_lst, sq_tup, isLst_lst, List.getElem?_cons_zero, List.getElem?_cons_succ, List.set_cons_zero, List.set_cons_succ, V.int.injEq, V.bl.injEq, V.ref.injEq, V.str.injEq, HO.lst.injEq, HO.tup.injEq, Option.some.injEq, exists_eq_left', exists_eq_left, List.cons.injEq, and_true, true_and, decide_eq_true_eq, reduceCtorEq, false_and, exists_false, or_false, false_or, exists_const, and_assoc, exists_and_left, List.append_nil, ix0, ix1, ix2, cm_mod, cdw1009, cdw2003, cdw7, cdw64, cdw2, cm104729, cm2, cm3, upd_same, List.length_cons, List.length_nil, Int.reduceLT, Int.reduceLE, Nat.reduceAdd, Nat.reduceLeDiff, Nat.reduceLT, Int.reduceToNat, r_for1, r_forL, r_forT, r_lcL, r_lc1, r_yes, r_gtupD, wipe_0, wipe_1, List.cons_append, List.nil_append, r_forS, r_ipI, ite_false, ite_true, Bool.not_true, Bool.not_false, decide_true, decide_false, r_isd, r_islt, cD_ty, cD_ref, tD_non, tD_bl, tD_int, tD_str, tD_ref, tH_lst, tH_tup, tH_dK, tH_ins, ki_self, ki_int_bool, ki_non_int, ki_str_int, ki_lt_lst, ki_lt_tup, r_fld, r_sfld, HO.ins.injEq, cx_K, hD2, h2']
  refine ⟨tyl hD2, Nat.le_trans (by rw [vn_len, vn_len]; omega : _ ≤ 4000) (by decide), ?_⟩
  have e1 : vn pre ++ vn (pkOf g).bytes = vn (pre ++ (pkOf g).bytes) := (vn_app ..).symm
  rw [e1]
  have hp0 : H p = none := by
    cases c : H p with
    | none => rfl
    | some o => rw [S.s _ _ c] at hp1; cases hp1
  have S3 : LSit H F2 D (pre ++ (pkOf g).bytes) R (L2.upd H2 D (.lst (vn (pre ++ (pkOf g).bytes)))) := by
    obtain ⟨a1, ⟨refs, a2, a3⟩, a4⟩ := S2
    refine ⟨fun y o e => ?_, ⟨refs, by rw [upd_ne n3]; exact a2, Paired.map' a3 fun r Q h => ⟨h.1, ?_⟩⟩, upd_same⟩
    · rw [upd_ne (ne_new e n2)]
      exact a1 y o e
    · have : r ≠ D := fun z => by rw [z, a4] at h; cases h.2
      rw [upd_ne this]
      exact h.2
  have h3 : L2.upd H2 D (.lst (vn (pre ++ (pkOf g).bytes))) p = some (.lst (vn (pkOf g).bytes)) := by rw [upd_ne pD]; exact h2'
  generalize L2.upd H2 D (.lst (vn (pre ++ (pkOf g).bytes))) = H3 at *
  have ht3 := hd.same S3.s
  obtain ⟨t, hg1, hrow⟩ := ht3.get gok.1
  have hrs : sq (H3 t) = some (trV g.1) := by rw [hrow]; rfl
  simp only [r_seq, r_next, r_brk, r_cont, r_asg, r_name, r_ret, r_retN, r_drop, r_ifs, r_never, r_var, r_c, r_op, r_un, r_if, r_tst, r_b, r_not, r_and, r_or, r_andV, r_orV, r_notV, r_nil, r_cons, r_tup, r_lst, r_cb, r_call, r_bm, r_bm0, r_sl, r_nopart, r_part, r_rev, r_gnil, r_gcons, r_gsub, r_par, r_aug, r_chain, r_I0, r_I, r_U, r_ixd, r_lend, r_tupd, r_listd, r_sld, r_app, r_ext, r_reverse, r_setl, r_cat, r_int1, r_eqS, r_neS, scal_ii, scal_bb, scal_ss, at0, at1, at2, sq_lst, sq_tup, isLst_lst, List.getElem?_cons_zero, List.getElem?_cons_succ, List.set_cons_zero, List.set_cons_succ, V.int.injEq, V.bl.injEq, V.ref.injEq, V.str.injEq, HO.lst.injEq, HO.tup.injEq, Option.some.injEq, exists_eq_left', exists_eq_left, List.cons.injEq, and_true, true_and, decide_eq_true_eq, reduceCtorEq, false_and, exists_false, or_false, false_or, exists_const, and_assoc, exists_and_left, List.append_nil, ix0, ix1, ix2, cm_mod, cdw1009, cdw2003, cdw7, cdw64, cdw2, cm104729, cm2, cm3, upd_same, List.length_cons, List.length_nil, Int.reduceLT, Int.reduceLE, Nat.reduceAdd, Nat.reduceLeDiff, Nat.reduceLT, Int.reduceToNat, r_for1, r_forL, r_forT, r_lcL, r_lc1, r_yes, r_gtupD, wipe_0, wipe_1, List.cons_append, List.nil_append, r_forS, r_ipI, ite_false, ite_true, Bool.not_true, Bool.not_false, decide_true, decide_false, r_isd, r_islt, cD_ty, cD_ref, tD_non, tD_bl, tD_int, tD_str, tD_ref, tH_lst, tH_tup, tH_dK, tH_ins, ki_self, ki_int_bool, ki_non_int, ki_str_int, ki_lt_lst, ki_lt_tup, r_fld, r_sfld, HO.ins.injEq, cx_K, r_dget, h3]
  refine ⟨_, hg1, t, rfl, _, hrs, _, at1, g.1.2.2.1, rfl, ?_⟩
  have em : ((vn (pkOf g).bytes).length : Int) - 2 * g.1.2.2.1 - 2 = ((2 * (exL (pkOf g).n).length : Nat) : Int) := by
    rw [vn_len]
    omega
  rw [em, vn_len]
  have PA : PAt (pre ++ (pkOf g).bytes) pre.length (pkOf g) := by
    have := pat_of ok pre []
    rwa [List.append_nil] at this
  have dl : (pre ++ (pkOf g).bytes).length ≤ 4000 := by rw [List.length_append]; omega
  refine lexts_run ok PA hF hlr n1 n3 (by omega) dl S3 fun w11 H4 S4 => ?_
  unfold t_llast
  have hD4 := S4.d
  obtain ⟨refs, hf4, pr4⟩ := id S4.r
  have ht4 := hd.same S4.s
  obtain ⟨t2, hg2, hrow2⟩ := ht4.get gok.1
  have hrs2 : sq (H4 t2) = some (trV g.1) := by rw [hrow2]; rfl
  simp only [r_seq, r_next, r_brk, r_cont, r_asg, r_name, r_ret, r_retN, r_drop, r_ifs, r_never, r_var, r_c, r_op, r_un, r_if, r_tst, r_b, r_not, r_and, r_or, r_andV, r_orV, r_notV, r_nil, r_cons, r_tup, r_lst, r_cb, r_call, r_bm, r_bm0, r_sl, r_nopart, r_part, r_rev, r_gnil, r_gcons, r_gsub, r_par, r_aug, r_chain, r_I0, r_I, r_U, r_ixd, r_lend, r_tupd, r_listd, r_sld, r_app, r_ext, r_reverse, r_setl, r_cat, r_int1, r_eqS, r_neS, scal_ii, scal_bb, scal_ss, at0, at1, at2, sq_lst, sq_tup, isLst_lst, List.getElem?_cons_zero, List.getElem?_cons_succ, List.set_cons_zero, List.set_cons_succ, V.int.injEq, V.bl.injEq, V.ref.injEq, V.str.injEq, HO.lst.injEq, HO.tup.injEq, Option.some.injEq, exists_eq_left', exists_eq_left, List.cons.injEq, and_true, true_and, decide_eq_true_eq, reduceCtorEq, false_and, exists_false, or_false, false_or, exists_const, and_assoc, exists_and_left, List.append_nil, ix0, ix1, ix2, cm_mod, cdw1009, cdw2003, cdw7, cdw64, cdw2, cm104729, cm2, cm3, upd_same, List.length_cons, List.length_nil, Int.reduceLT, Int.reduceLE, Nat.reduceAdd, Nat.reduceLeDiff, Nat.reduceLT, Int.reduceToNat, r_for1, r_forL, r_forT, r_lcL, r_lc1, r_yes, r_gtupD, wipe_0, wipe_1, List.cons_append, List.nil_append, r_forS, r_ipI, ite_false, ite_true, Bool.not_true, Bool.not_false, decide_true, decide_false, r_isd, r_islt, cD_ty, cD_ref, tD_non, tD_bl, tD_int, tD_str, tD_ref, tH_lst, tH_tup, tH_dK, tH_ins, ki_self, ki_int_bool, ki_non_int, ki_str_int, ki_lt_lst, ki_lt_tup, r_fld, r_sfld, HO.ins.injEq, cx_K, r_dget, hD4]
  refine ⟨_, hg2, t2, rfl, _, hrs2, _, at2, g.1, g.2, pre.length + (pkOf g).bytes.length, tb, wa, na, sa, T, by rw [vn_len, List.length_append], gok.1, gok.2, hT.same S4.s, tok, by omega, fun m H5 hm s5 => ?_⟩
  have S5 := S4.same s5
  have e0 : (pre.length : Int) + ((2 * (exL (pkOf g).n).length : Nat) : Int) = ((pre.length + 2 * (exL (pkOf g).n).length : Nat) : Int) := by omega
  dsimp only
  rw [e0]
  refine ⟨F, Rs, pre.length + 2 * (exL (pkOf g).n).length, rfl, hF.same S5.s, hlr, fun H6 s6 => ?_⟩
  have S6 := S5.same s6
  have hf6 := s6 _ _ (s5 _ _ hf4)
  have lr := Paired.length pr4
  rw [List.length_append, extR_len] at lr
  have fin : ∀ {q : Addr} {a : Option Nat}, H6 q = none → (if (pkOf g).num < 45 then none else some (pkOf g).n) = a → (if (pkOf g).num < 45 then Str.ofString "" else (meanF T (pkOf g).w (pkOf g).n (pre.length + (pkOf g).bytes.length)).getD (Str.ofString "")) = m → ∃ x_2,
      L2.upd H6 q (.tup [.int ((pre.length + 2 * (exL (pkOf g).n).length : Nat) : Int), .str g.1.1, aV a, .str m, lnV (lineAt Rs (pre.length + 2 * (exL (pkOf g).n).length))]) F2 = some (.lst x_2) ∧ x_2.length < sizeLine ∧
      Dn.nx [some (.ref d), some (.ref tg), some (.ref tb), some (.ref F), some (.ref F2), some (.ref D), some (.str g.1.1), some (.int (g.2 : Int)), some (.int (pre.length : Int)), some (.ref p), some (.int ((2 * (exL (pkOf g).n).length : Nat) : Int)), w11, some (.str g.1.2.2.2), some (.str m), some (lnV (lineAt Rs (pre.length + 2 * (exL (pkOf g).n).length)))]
        (L2.upd (L2.upd H6 q (.tup [.int ((pre.length + 2 * (exL (pkOf g).n).length : Nat) : Int), .str g.1.1, aV a, .str m, lnV (lineAt Rs (pre.length + 2 * (exL (pkOf g).n).length))])) F2 (.lst (x_2 ++ [.ref q]))) := fun {q a} hq ea em => by
    refine ⟨refs.map V.ref, by rw [upd_ne (ne_new hf6 hq)]; exact hf6, Nat.lt_of_le_of_lt (by rw [List.length_map]; omega : _ ≤ 5000) (by decide), k _ _ _ _ _ _ _ _ ?_⟩
    rw [← List.append_assoc]
    have := LSit.push (X := lastR T (lineAt Rs) (pkOf g) pre.length) S6 n1 n3 hf6 hq
    have eR : irV (lastR T (lineAt Rs) (pkOf g) pre.length) = [.int ((pre.length + 2 * (exL (pkOf g).n).length : Nat) : Int), .str g.1.1, aV a, .str m, lnV (lineAt Rs (pre.length + 2 * (exL (pkOf g).n).length))] := by
      unfold lastR irV
      rw [← ea, ← em]
      rfl
    rw [eR] at this
    exact this
  have n45 : g.1.2.1 < 45 ↔ (pkOf g).num < 45 := by
    show _ ↔ g.1.2.1.toNat < 45
    omega
  refine ⟨tyl hf6, rfl, ?_⟩
  by_cases c45 : g.1.2.2.2 = "-"
  · rw [if_pos (by rw [c45])]
    have c := n45.mp (f9.mp c45)
    refine ⟨szl (by decide : 5 ≤ 1000), fun q hq => fin (a := none) hq (by rw [if_pos c]) ?_⟩
    rw [if_pos c]
    unfold meanF at hm
    rw [if_pos (wd_45 _ _ _ f1 c)] at hm
    exact Option.some.inj hm
  · rw [if_neg (fun z => c45 (V.str.inj z))]
    have c : ¬ (pkOf g).num < 45 := fun z => c45 (f9.mpr (n45.mpr z))
    refine ⟨szl (by decide : 5 ≤ 1000), fun q hq => fin (a := some g.2) hq (by rw [if_neg c]; rfl) ?_⟩
    rw [if_neg c]
    show (meanF T g.1.1 g.2 _).getD _ = m
    rw [hm]
    rfl
end
end C57

set_option maxHeartbeats 2000000
namespace C57
open PySem PySem.Spec PyProof.Rows L2 StrLaws
/-! ### all that the law tells -/
theorem flatB_len : ∀ {ps : List Pk}, (∀ p ∈ ps, p.Ok) → (ps.map Pk.bytes).flatten.length ≤ 40 * ps.length
  | [], _ => Nat.le_refl _
  | p :: ps, h => by
    have h1 := flatB_len fun x hx => h x (List.mem_cons_of_mem _ hx)
    have op := h p List.mem_cons_self
    have h2 : p.bytes.length ≤ 40 := packN_len op.c op.n
    rw [List.map_cons, List.flatten_cons, List.length_append, List.length_cons]
    omega
section
variable {P : Program} {w : World} {K : PySem.W.Frag} {mg : Str → Option Value} {base : Heap} {f : Addr} {fd : FuncData}
abbrev stold : Stmt := top 79
theorem sctold : FnScope ["_law_table_here", "_law_given", "_law_tables", "_law_lines_here", "_law_found", "_law_data", "_law_word", "_law_number", "_law_low", "_law_packed_one", "_law_many", "_law_at", "_law_sort", "_law_means", "_law_line"] ["_law_table_here", "_law_given", "_law_tables", "_law_lines_here"] (defScope stold) := ⟨rfl, rfl, rfl, by decide +kernel, rfl, by decide +kernel, by decide +kernel⟩

theorem ok_told {CC : Addr} (T : Txt mg) (F : FnP K "_law_told" "_law_told" stold f fd) (C_packed : Cal P w K mg base 1 "_law_packed" ["_law_table_here", "_law_word", "_law_number"] spPacked) (C_line_at : Cal P w K mg base 1 "_law_line_at" ["_law_lines_here", "_law_at"] spLineAt)
    (G_meaning : CalG P w K mg base CX0 2 "_law_meaning" ["_law_word", "_law_sort", "_law_number", "_law_tables", "_law_high"] (spLMean K CC)) : FnG P w K mg base CX0 3 f fd ["_law_table_here", "_law_given", "_law_tables", "_law_lines_here"] (spTold K CC) := by
  refine okG F sctold (fun vs H Q E h => ?_) (fun cdv A outer s H vs Q E gd hr h => ?_)
  · obtain ⟨d, tg, tb, wa, na, sa, F, Gs, Tt, Rs, rfl, _⟩ := h
    rfl
  · obtain ⟨d, tg, tb, wa, na, sa, F, Gs, Tt, Rs, rfl, hd, hg, hT, tok, hG, hl, hF, hlr, k⟩ := h
    refine ⟨_, PSs.nox (pss_cons (ps_par (i := 4) (j := 5) (by rfl) sctold.nd rfl rfl (by decide) rfl rfl (pa_cons (pe_lst pa_nil) (pa_cons (pe_lst pa_nil) pa_nil)) (by rfl))
  (pss_cons (ps_for PassesOwn.never rfl (pi_list (pv 1)) (pg_tupD (n := 2) rfl (pgs_cons (pg_name (i := 6) sctold.nd rfl (Or.inl rfl)) (pgs_cons (pg_name (i := 7) sctold.nd rfl (Or.inl rfl)) pgs_nil)))
    (pss_cons (ps_par (i := 8) (j := 9) (by rfl) sctold.nd rfl rfl (by decide) rfl rfl (pa_cons (pe_callB call_len_d (by rfl) T.b_len (by decide +kernel) (pa_cons (pv 5) pa_nil)) (pa_cons (pe_cal C_packed (hr.mono (by decide)) rfl (pa_cons (pv 0) (pa_cons (pv 6) (pa_cons (pv 7) pa_nil)))) pa_nil)) (by rfl))
  (pss_cons (ps_expr (pe_bm PySem.F.plainAttrs_list PySem.F.slot_list_extend PySem.F.type_list_extend mt_extend (pv 5) (pa_cons (pv 9) pa_nil)))
  (pss_cons (ps_set (i := 10) sctold.nd rfl (Or.inl rfl) (pe_op op_sub (pe_op op_sub (pe_callB call_len_d (by rfl) T.b_len (by decide +kernel) (pa_cons (pv 9) pa_nil)) (pe_op op_mul pe_int (pe_ix ix_d (pe_dget (hu_of hr) (pv 0) (pv 6) (fun _ _ => rfl)) pe_int (fun _ _ => rfl)))) pe_int))
  (pss_cons (ps_for PassesOwn.never rfl (pi_range3 rfl T.b_range (pa_cons (pv 8) (pa_cons (pe_op op_add (pv 8) (pv 10)) (pa_cons pe_int pa_nil)))) (pg_name (i := 11) sctold.nd rfl (Or.inl rfl))
    (pss_one (ps_expr (pe_bm PySem.F.plainAttrs_list PySem.F.slot_list_append PySem.F.type_list_append mt_append (pv 4) (pa_cons (pe_tup (pa_cons (pv 11) (pa_cons pe_str (pa_cons (pe_ix ix_d (pv 5) (pe_op op_add (pv 11) pe_int) (fun _ _ => rfl)) (pa_cons pe_str (pa_cons (pe_cal C_line_at (hr.mono (by decide)) rfl (pa_cons (pv 3) (pa_cons (pv 11) pa_nil))) pa_nil)))))) pa_nil)))))
  (pss_cons (ps_set (i := 12) sctold.nd rfl (Or.inl rfl) (pe_ix ix_d (pe_dget (hu_of hr) (pv 0) (pv 6) (fun _ _ => rfl)) pe_int (fun _ _ => rfl)))
  (pss_cons (ps_set (i := 13) sctold.nd rfl (Or.inl rfl) (pe_calG G_meaning gd (hr.mono (by decide)) rfl (E := E0) (fun _ _ _ _ _ _ _ z => (show False from z).elim) (pa_cons (pv 6) (pa_cons (pv 12) (pa_cons (pv 7) (pa_cons (pv 2) (pa_cons (pe_callB call_len_d (by rfl) T.b_len (by decide +kernel) (pa_cons (pv 5) pa_nil)) pa_nil)))))))
  (pss_cons (ps_set (i := 14) sctold.nd rfl (Or.inl rfl) (pe_cal C_line_at (hr.mono (by decide)) rfl (pa_cons (pv 3) (pa_cons (pe_op op_add (pv 8) (pv 10)) pa_nil))))
  (pss_one (ps_expr (pe_bm PySem.F.plainAttrs_list PySem.F.slot_list_append PySem.F.type_list_append mt_append (pv 4) (pa_cons (pe_tup (pa_cons (pe_op op_add (pv 8) (pv 10)) (pa_cons (pv 6) (pa_cons (pe_ifExp (pt_cmpR op_eq (pv 12) pe_str (nomark _)) pe_non (pv 7)) (pa_cons (pv 13) (pa_cons (pv 14) pa_nil)))))) pa_nil))))))))))))
  (pss_one (ps_ret (pe_tup (pa_cons (pv 4) (pa_cons (pv 5) pa_nil))))))), ?_⟩
    show (_ : TS) _ [some (.ref d), some (.ref tg), some (.ref tb), some (.ref F), none, none, none, none, none, none, none, none, none, none, none] H
    simp only [r_seq, r_next, r_brk, r_cont, r_asg, r_name, r_ret, r_retN, r_drop, r_ifs, r_never, r_var, r_c, r_op, r_un, r_if, r_tst, r_b, r_not, r_and, r_or, r_andV, r_orV, r_notV, r_nil, r_cons, r_tup, r_lst, r_cb, r_call, r_bm, r_bm0, r_sl, r_nopart, r_part, r_rev, r_gnil, r_gcons, r_gsub, r_par, r_aug, r_chain, r_I0, r_I, r_U, r_ixd, r_lend, r_tupd, r_listd, r_sld, r_app, r_ext, r_reverse, r_setl, r_cat, r_int1, r_eqS, r_neS, scal_ii, scal_bb, scal_ss, at0, at1, at2, sq_lst, sq_tup, isLst_lst, List.getElem?_cons_zero, List.getElem?_cons_succ, List.set_cons_zero, List.set_cons_succ, V.int.injEq, V.bl.injEq, V.ref.injEq, V.str.injEq, HO.lst.injEq, HO.tup.injEq, Option.some.injEq, exists_eq_left', exists_eq_left, List.cons.injEq, and_true, true_and, decide_eq_true_eq, reduceCtorEq, false_and, exists_false, or_false, false_or, exists_const, and_assoc, exists_and_left, List.append_nil, ix0, ix1, ix2, cm_mod, cdw1009, cdw2003, cdw7, cdw64, cdw2, cm104729, cm2, cm3, upd_same, List.length_cons, List.length_nil, Int.reduceLT, Int.reduceLE, Nat.reduceAdd, Nat.reduceLeDiff, Nat.reduceLT, Int.reduceToNat, r_for1, r_forL, r_forT, r_lcL, r_lc1, r_yes, r_gtupD, wipe_0, wipe_1, List.cons_append, List.nil_append, r_forS, r_ipI, ite_false, ite_true, Bool.not_true, Bool.not_false, decide_true, decide_false, r_isd, r_islt, cD_ty, cD_ref, tD_non, tD_bl, tD_int, tD_str, tD_ref, tH_lst, tH_tup, tH_dK, tH_ins, ki_self, ki_int_bool, ki_non_int, ki_str_int, ki_lt_lst, ki_lt_tup, r_fld, r_sfld, HO.ins.injEq, cx_K]
    refine ⟨Nat.zero_le _, fun F2 hF2 => ⟨Nat.zero_le _, fun D hD => ?_⟩⟩
    have n3 : F2 ≠ D := ne_new upd_same hD
    have s1 : Same H (L2.upd (L2.upd H F2 (.lst [])) D (.lst [])) := Same.new' (Same.new' (Same.refl H) hF2) hD
    have n2 : H D = none := (Same.new' (Same.refl H) hF2).free hD
    have h1 : L2.upd (L2.upd H F2 (.lst [])) D (.lst []) F2 = some (.lst []) := by rw [upd_ne n3]; exact upd_same
    have h2 : L2.upd (L2.upd H F2 (.lst [])) D (.lst []) D = some (.lst []) := upd_same
    generalize L2.upd (L2.upd H F2 (.lst [])) D (.lst []) = G at *
    obtain ⟨refs, hg1, pg⟩ := hg
    have lr := Paired.length pg
    refine ⟨⟨_, SqL.of (s1 _ _ hg1)⟩, lp_list (tb := t_lturn K CC) (xs := refs.map V.ref) (fun i σ H' => (∃ v6 v7 v8 v9 v10 v11 v12 v13 v14, σ = [some (.ref d), some (.ref tg), some (.ref tb), some (.ref F), some (.ref F2), some (.ref D), v6, v7, v8, v9, v10, v11, v12, v13, v14]) ∧ LSit H F2 D (((Gs.take i).map pkOf).map Pk.bytes).flatten (rowsP Tt (lineAt Rs) ((Gs.take i).map pkOf) 0) H')
      ⟨⟨_, _, _, _, _, _, _, _, _, rfl⟩, s1, ⟨[], h1, .nil⟩, h2⟩ (fun i σ H' _ h => SqL.of (h.2.s _ _ hg1)) ?_ ?_⟩
    · rintro i x σ H1 hx ⟨⟨v6, v7, v8, v9, v10, v11, v12, v13, v14, rfl⟩, S⟩
      obtain ⟨hi, rfl⟩ := List.getElem?_eq_some_iff.mp hx
      rw [List.length_map] at hi
      have hi2 : i < Gs.length := by omega
      have hr2 := S.s _ _ (Paired.at' pg hi hi2)
      rw [List.getElem_map]
      generalize refs[i] = r at *
      have gok := hG Gs[i] (List.getElem_mem hi2)
      have oka : ∀ q ∈ (Gs.take i).map pkOf, q.Ok := fun q hq => by
        obtain ⟨g, hg, rfl⟩ := List.mem_map.mp hq
        exact (hG g (List.mem_of_mem_take hg)).pk
      have z1 := rowsP_len Tt (lineAt Rs) ((Gs.take i).map pkOf) 0 oka
      rw [List.length_map, List.length_take] at z1
      have z2 := flatB_len oka
      rw [List.length_map, List.length_take] at z2
      have nx : (Gs.take (i + 1)).map pkOf = (Gs.take i).map pkOf ++ [pkOf Gs[i]] := by
        rw [List.take_succ_eq_append_getElem hi2, List.map_append]
        rfl
      rw [nx, rowsP_snoc, List.map_append, List.flatten_append, Nat.zero_add]
      have e9 : ([pkOf Gs[i]].map Pk.bytes).flatten = (pkOf Gs[i]).bytes := by simp
      rw [e9]
      generalize Gs[i] = g at *
      generalize (((Gs.take i).map pkOf).map Pk.bytes).flatten = pre at *
      simp only [r_seq, r_next, r_brk, r_cont, r_asg, r_name, r_ret, r_retN, r_drop, r_ifs, r_never, r_var, r_c, r_op, r_un, r_if, r_tst, r_b, r_not, r_and, r_or, r_andV, r_orV, r_notV, r_nil, r_cons, r_tup, r_lst, r_cb, r_call, r_bm, r_bm0, r_sl, r_nopart, r_part, r_rev, r_gnil, r_gcons, r_gsub, r_par, r_aug, r_chain, r_I0, r_I, r_U, r_ixd, r_lend, r_tupd, r_listd, r_sld, r_app, r_ext, r_reverse, r_setl, r_cat, r_int1, r_eqS, r_neS, scal_ii, scal_bb, scal_ss, at0, at1, at2, sq_lst, sq_tup, isLst_lst, List.getElem?_cons_zero, List.getElem?_cons_succ, List.set_cons_zero, List.set_cons_succ, V.int.injEq, V.bl.injEq, V.ref.injEq, V.str.injEq, HO.lst.injEq, HO.tup.injEq, Option.some.injEq, exists_eq_left', exists_eq_left, List.cons.injEq, and_true, true_and, decide_eq_true_eq, reduceCtorEq, false_and, exists_false, or_false, false_or, exists_const, and_assoc, exists_and_left, List.append_nil, ix0, ix1, ix2, cm_mod, cdw1009, cdw2003, cdw7, cdw64, cdw2, cm104729, cm2, cm3, upd_same, List.length_cons, List.length_nil, Int.reduceLT, Int.reduceLE, Nat.reduceAdd, Nat.reduceLeDiff, Nat.reduceLT, Int.reduceToNat, r_for1, r_forL, r_forT, r_lcL, r_lc1, r_yes, r_gtupD, wipe_0, wipe_1, List.cons_append, List.nil_append, r_forS, r_ipI, ite_false, ite_true, Bool.not_true, Bool.not_false, decide_true, decide_false, r_isd, r_islt, cD_ty, cD_ref, tD_non, tD_bl, tD_int, tD_str, tD_ref, tH_lst, tH_tup, tH_dK, tH_ins, ki_self, ki_int_bool, ki_non_int, ki_str_int, ki_lt_lst, ki_lt_tup, r_fld, r_sfld, HO.ins.injEq, cx_K, hr2]
      refine lturn_run gok hd hT tok hF hlr hF2 n2 n3 (by omega) (by omega) S fun w8 w9 w10 w11 w12 w13 w14 H2 S2 => ?_
      exact ⟨⟨_, _, _, _, _, _, _, _, _, rfl⟩, S2⟩
    · rintro σ H1 ⟨⟨v6, v7, v8, v9, v10, v11, v12, v13, v14, rfl⟩, S⟩
      rw [List.length_map, lr, List.take_length] at S
      simp only [r_seq, r_next, r_brk, r_cont, r_asg, r_name, r_ret, r_retN, r_drop, r_ifs, r_never, r_var, r_c, r_op, r_un, r_if, r_tst, r_b, r_not, r_and, r_or, r_andV, r_orV, r_notV, r_nil, r_cons, r_tup, r_lst, r_cb, r_call, r_bm, r_bm0, r_sl, r_nopart, r_part, r_rev, r_gnil, r_gcons, r_gsub, r_par, r_aug, r_chain, r_I0, r_I, r_U, r_ixd, r_lend, r_tupd, r_listd, r_sld, r_app, r_ext, r_reverse, r_setl, r_cat, r_int1, r_eqS, r_neS, scal_ii, scal_bb, scal_ss, at0, at1, at2, sq_lst, sq_tup, isLst_lst, List.getElem?_cons_zero, List.getElem?_cons_succ, List.set_cons_zero, List.set_cons_succ, V.int.injEq, V.bl.injEq, V.ref.injEq, V.str.injEq, HO.lst.injEq, HO.tup.injEq, Option.some.injEq, exists_eq_left', exists_eq_left, List.cons.injEq, and_true, true_and, decide_eq_true_eq, reduceCtorEq, false_and, exists_false, or_false, false_or, exists_const, and_assoc, exists_and_left, List.append_nil, ix0, ix1, ix2, cm_mod, cdw1009, cdw2003, cdw7, cdw64, cdw2, cm104729, cm2, cm3, upd_same, List.length_cons, List.length_nil, Int.reduceLT, Int.reduceLE, Nat.reduceAdd, Nat.reduceLeDiff, Nat.reduceLT, Int.reduceToNat, r_for1, r_forL, r_forT, r_lcL, r_lc1, r_yes, r_gtupD, wipe_0, wipe_1, List.cons_append, List.nil_append, r_forS, r_ipI, ite_false, ite_true, Bool.not_true, Bool.not_false, decide_true, decide_false, r_isd, r_islt, cD_ty, cD_ref, tD_non, tD_bl, tD_int, tD_str, tD_ref, tH_lst, tH_tup, tH_dK, tH_ins, ki_self, ki_int_bool, ki_non_int, ki_str_int, ki_lt_lst, ki_lt_tup, r_fld, r_sfld, HO.ins.injEq, cx_K]
      refine ⟨szl (by decide : 2 ≤ 1000), fun p hp => ?_⟩
      have S2 := S.same (Same.new' (o := .tup [.ref F2, .ref D]) (Same.refl H1) hp)
      have hp0 : H p = none := by
        cases c : H p with
        | none => rfl
        | some o => rw [S.s _ _ c] at hp; cases hp
      exact k p F2 D _ S2.s hp0 hF2 n2 n3 upd_same S2.r S2.d
end
end C57

set_option maxHeartbeats 1000000
namespace C57
open PySem PySem.Spec PyProof.Rows L2
/-! ### list(reversed(a tuple)) -/
theorem nolen_rt : typeLookup (.type "reversed") "__len__" = pure none := by rw [typeLookup_type, builtinLookup_eq_fast]; kernel_rfl
theorem hint_rt : typeLookup (.type "reversed") "__length_hint__" = pure (some (.builtin "reversed.__length_hint__")) := by rw [typeLookup_type, builtinLookup_eq_fast]; kernel_rfl
theorem slot_rt_hint : Slot "reversed" "__length_hint__" "reversed.__length_hint__" :=
  .of (owner := "reversed") (n := "__length_hint__") (by rw [typeLookup_type, builtinLookup_eq_fast]; kernel_rfl) (by decide +kernel) (by decide +kernel) (by decide +kernel)
    (by first | exact .inl (by decide +kernel) | exact .inr (by decide +kernel)) (by rw [isSubtype_type]; kernel_rfl)
theorem entry_rt_hint : entryFor table "reversed.__length_hint__" = some Builtin.«reversed.__length_hint__» := entryFor_of_tree (by kernel_rfl)
theorem args_rt_hint (a : Value) : argsOk "reversed.__length_hint__" ⟨[a], []⟩ := by
  unfold argsOk; rw [signature?_of (id := "reversed.__length_hint__") (n := ['_', '_', 't', 'n', 'i', 'h', '_', 'h', 't', 'g', 'n', 'e', 'l', '_', '_']) (o := ['d', 'e', 's', 'r', 'e', 'v', 'e', 'r']) (by kernel_rfl) RT.owner_rt]; kernel_rfl
theorem bind_rt_hint (self : Value) : bindSpecial (.builtin "reversed.__length_hint__") self = pure (.builtin "reversed.__length_hint__", [self]) := by
  unfold bindSpecial
  rw [show typeOf (.builtin "reversed.__length_hint__") = pure (.type "method_descriptor") from by show builtinType _ = _; rw [builtinType_eq_fast]; kernel_rfl]
  rfl
section
variable {prog : Program} {w : World} {A : Around} {E : Value → Shared → Prop} {s : Shared}
theorem rt_len {it t : Addr} {i : Int} {items : Array Value} {Q : Value → Shared → Prop} (hit : RT.IsRt s.heap it t i) (ht : IsTup s.heap t items) (hz : items.size ≤ sizeLine) (hi : i + 1 ≤ (items.size : Int))
    (h : ∀ tk u, Q (.int (i + 1) u) { s with toks := tk }) : wpAny (model prog w) A (call (.builtin "reversed.__length_hint__") [.ref it]) Q E s := by
  obtain ⟨o, ho, hc, hd⟩ := id hit
  have hn := line63
  refine wpAny_call_entry slot_rt_hint hit.typeIs entry_rt_hint ?_ (args_rt_hint _)
  unfold Builtin.«reversed.__length_hint__»
  refine wpAny_bind (wpAny_of_eq (a := Value.ref it) rfl ?_)
  try dsimp only
  refine wpAny_bind (wpAny_field ho hd (x := .ref t) rfl ?_)
  try dsimp only
  rw [if_neg (by intro h; cases h)]
  refine wpAny_bind (PyProof.Rows.len_tuple ht (by omega) ?_)
  refine wpAny_bind (wpAny_of_eq (a := some ((items.size : Nat) : Int)) rfl ?_)
  try dsimp only
  refine wpAny_bind (wpAny_field (s := { s with toks := s.toks + 1 + 1 }) ho hd (x := rawInt i) rfl ?_)
  show wpAny _ _ (if ((items.size : Nat) : Int) < i + 1 then _ else _) _ _ _
  rw [if_neg (by omega)]
  refine wpAny_bind (wpAny_mkInt (wpAny_pure ?_))
  exact ⟨_, rfl, h _ _⟩
theorem rt_hint {it t : Addr} {i : Int} {items : Array Value} {Q : Bool → Shared → Prop} (hit : RT.IsRt s.heap it t i) (ht : IsTup s.heap t items) (hz : items.size ≤ sizeLine) (hi : i + 1 ≤ (items.size : Int)) (hi0 : 0 ≤ i + 1)
    (h : ∀ tk, Q (i + 1 != 0) { s with toks := tk }) : wpAny (model prog w) A (Builtin.List.listLengthHint (.ref it)) Q E s := by
  unfold Builtin.List.listLengthHint
  refine wpAny_bind (wpAny_specialOf hit.typeIs nolen_rt ?_)
  show wpAny _ _ (specialOf (Value.ref it) (Str.ofString "__length_hint__") >>= _) _ _ _
  refine wpAny_bind (wpAny_specialOf hit.typeIs hint_rt ?_)
  generalize hid : ("reversed.__length_hint__" : String) = id0
  wp_delta
  rw [show splitId id0 = some ("reversed", "__length_hint__") from by subst hid; decide +kernel]
  refine wpAny_bind (wpAny_isInstance (b := true) hit.typeIs (by rw [isSubtype_type]; kernel_rfl) ?_)
  subst hid
  try dsimp only
  rw [if_neg (by decide), if_neg (by decide +kernel)]
  refine wpAny_bind (wpAny_rule ?_)
  rw [bind_rt_hint]
  refine wpAny_bind (wpAny_pure ?_)
  refine wpAny_bind (wpAny_attempt (rt_len hit ht hz hi fun tk u => ?_))
  refine wpAny_bind (wpAny_of_eq (a := some (i + 1)) rfl ?_)
  have f1 : Builtin.List.listFitsIndex (i + 1) = true := by
    have hn := line63
    unfold Builtin.List.listFitsIndex
    simp
    omega
  have f2 : Builtin.List.listTooLong (i + 1).toNat = false := by
    have hn := sizeLine_eq
    unfold Builtin.List.listTooLong
    simp
    omega
  show wpAny _ _ (if (!Builtin.List.listFitsIndex (i + 1)) = true then _ else _) _ _ _
  rw [f1, if_neg (by decide)]
  show wpAny _ _ (if (i + 1 : Int) < 0 then _ else _) _ _ _
  rw [if_neg (by omega)]
  show wpAny _ _ (if Builtin.List.listTooLong (i + 1).toNat = true then _ else _) _ _ _
  rw [f2, if_neg (by decide)]
  exact wpAny_pure (h _)
end
section
variable {prog : Program} {w : World} {A : Around} {s : Shared} {R : Result → Shared → Prop}
theorem walks_rt {prog : Program} {w : World} {A : Around} (hh : A.handled = none) (I t : Addr) (hne : t ≠ I) (items : Array Value) (hz : items.size ≤ sizeLine) :
    Walks prog w A I [I, t] [I] items.size (fun i v => items[items.size - 1 - i]? = some v) (fun i h => i ≤ items.size ∧ RT.IsRt h I t ((items.size : Int) - 1 - (i : Int)) ∧ IsTup h t items) where
  sub := fun b hb => by simp at hb; simp [hb]
  frame := fun _ _ _ x hk => ⟨x.1, x.2.1.at fun o e => hk I (by simp) o e, let ⟨o, ho, r⟩ := x.2.2; ⟨o, hk t (by simp) o ho, r⟩⟩
  item := fun i s Q E hi x hQ => by
    have e : (items.size : Int) - 1 - (i : Int) = ((items.size - 1 - i : Nat) : Int) := by omega
    have hit := x.2.1
    rw [e] at hit
    have hx : items[items.size - 1 - i]? = some (items[items.size - 1 - i]'(by omega)) := Array.getElem?_eq_getElem (by omega)
    refine RT.next_rt_item hit x.2.2 hx hz fun h' hit' hs' => ?_
    have e2 : ((items.size - 1 - i : Nat) : Int) - 1 = (items.size : Int) - 1 - ((i + 1 : Nat) : Int) := by omega
    rw [e2] at hit'
    exact hQ _ h' (s.toks + 1) hx ⟨hi, hit', let ⟨o, ho, r⟩ := x.2.2; ⟨o, (hs'.2 t hne).trans ho, r⟩⟩ fun b o hb eo => hs'.extBut b o (fun h => hb (by simp [h])) eo
  done := fun s Q E x hQ => by
    have e : (items.size : Int) - 1 - (items.size : Int) = -1 := by omega
    have hit := x.2.1
    rw [e] at hit
    exact RT.next_rt_end hh hit fun h' he' => hQ h' s.toks fun b o hb eo => he' b o (fun h => hb (by simp [h])) eo
  self := fun _ _ _ _ x hQ => RT.iter_rt x.2.1 hQ
theorem extend_rt {I t : Addr} {items : Array Value} (hh : A.handled = none) (hne : t ≠ I) (hz : items.size ≤ sizeLine) (S : Addr) (res : Value) (c₀ : Nat) (hit : RT.IsRt s.heap I t ((items.size : Int) - 1)) (ht : IsTup s.heap t items) (hSI : S ≠ I) (hSt : S ≠ t)
    (hS : s.heap.get? S = some { cls := .type "list", data := .seq #[] c₀ })
    (hR : ∀ s' acc' c', (∃ tk, s' = { s with heap := s'.heap, toks := tk }) → (∀ b o, b ≠ S → b ≠ I → s.heap.get? b = some o → s'.heap.get? b = some o) → s'.heap.get? S = some { cls := .type "list", dict := none, data := .seq acc' c', slots := #[] } →
      ItemsOf (fun i v => items[items.size - 1 - i]? = some v) acc' items.size → R (.ok (.ret res)) s') :
    wpAny (model prog w) A.in1 (Builtin.List.listExtendWith (.ref S) (.ref I) res)
      (fun fin s' => match fin with | .done f => R (.ok f) s' | .again c' => c'.quiet = true ∧ codeAny (model prog w) A c' R s') (fun e s' => R (.error e) s') s := by
  have W := (walks_rt (prog := prog) (w := w) (A := A.in1) hh I t hne items hz).toS
  have hSf : S ∉ [I, t] := by simp only [List.mem_cons, List.not_mem_nil, or_false, not_or]; exact ⟨hSI, hSt⟩
  unfold Builtin.List.listExtendWith
  refine wpAny_bind (wpAny_typeOf hit.typeIs ?_)
  have h1 : Builtin.List.listSameRef (.ref S) (.ref I) = false := by simp [Builtin.List.listSameRef, hSI]
  have h2 : (Value.type "reversed" == Value.type "list") = false := by decide
  have h3 : (Value.type "reversed" == Value.type "tuple") = false := by decide
  simp only [h1, h2, h3, Bool.or_false, Bool.false_eq_true, if_false]
  refine wpAny_bind (RT.iter_rt hit ?_)
  refine wpAny_bind (wpAny_holding ?_)
  refine rt_hint hit ht hz (by omega) (by omega) fun tk => ?_
  have e0 : ((items.size : Nat) : Int) - 1 - ((0 : Nat) : Int) = (items.size : Int) - 1 := by omega
  by_cases h0 : items.size = 0
  · rw [show ((items.size : Int) - 1 + 1 != 0) = false from by simp [h0]]
    rw [if_neg (by decide +kernel)]
    refine wpAny_pure ⟨plainId_quiet F.plain_extend_loop _, codeAny_extend_loopS W hz _ hSf _ items.size 0 _ _ _ rfl (Nat.zero_le _) ⟨Nat.zero_le _, by rw [e0]; exact hit, ht⟩ hS (ItemsOf.nil _) fun s' acc' c' hm hS' hacc => ?_⟩
    exact hR s' acc' c' (by have e := Moved.eq_with hm; exact ⟨_, e⟩) (fun b o h1 h2 e => hm.heap b o (by simp [h1, h2]) e) hS' hacc
  · rw [show ((items.size : Int) - 1 + 1 != 0) = true from by rw [bne_iff_ne]; omega]
    rw [if_pos (by decide +kernel)]
    refine wpAny_bind (wpAny_rule ?_)
    refine wpAny_bind ?_
    show wpAny _ A.in1 (updateSeq S (·.push .none) >>= fun _ => updateSeq S (·.pop)) _ _ _
    refine wpAny_bind (wpAny_updateSeq hS rfl ?_)
    have hS₂ := Heap.get?_update_self (Obj.mapSeq (·.push Value.none)) hS rfl
    refine wpAny_updateSeq (hz := by seq_fits) hS₂ rfl ?_
    have hS₃ := Heap.get?_update_self (Obj.mapSeq (·.pop)) hS₂ rfl
    have oth : ∀ b o, b ≠ S → s.heap.get? b = some o → ((s.heap.update S (Obj.mapSeq (·.push Value.none))).update S (Obj.mapSeq (·.pop))).get? b = some o :=
      fun b o hb e => (Heap.get?_update_other _ _ (Ne.symm hb)).trans ((Heap.get?_update_other _ _ (Ne.symm hb)).trans e)
    refine wpAny_pure ⟨plainId_quiet F.plain_extend_loop _, codeAny_extend_loopS W hz _ hSf _ items.size 0 _ _ _ rfl (Nat.zero_le _)
      ⟨Nat.zero_le _, by rw [e0]; exact hit.at fun o e => oth I o (Ne.symm hSI) e, let ⟨o, ho, r⟩ := ht; ⟨o, oth t o (Ne.symm hSt) ho, r⟩⟩ hS₃ (ItemsOf.nil _) fun s' acc' c' hm hS' hacc => ?_⟩
    exact hR s' acc' c' (by have e := Moved.eq_with hm; exact ⟨_, e⟩) (fun b o h1 h2 e => hm.heap b o (by simp [h1, h2]) (oth b o h1 e)) hS' hacc
theorem init_rt {I t : Addr} {items : Array Value} (hh : A.handled = none) (hne : t ≠ I) (hz : items.size ≤ sizeLine) (S : Addr) (hit : RT.IsRt s.heap I t ((items.size : Int) - 1)) (ht : IsTup s.heap t items) (hSI : S ≠ I) (hSt : S ≠ t)
    (hS : s.heap.get? S = some { cls := .type "list", data := .seq #[] })
    (hR : ∀ s' acc' c', (∃ tk, s' = { s with heap := s'.heap, toks := tk }) → (∀ b o, b ≠ S → b ≠ I → s.heap.get? b = some o → s'.heap.get? b = some o) → s'.heap.get? S = some { cls := .type "list", dict := none, data := .seq acc' c', slots := #[] } →
      ItemsOf (fun i v => items[items.size - 1 - i]? = some v) acc' items.size → R (.ok (.ret .none)) s') :
    wpAny (model prog w) A.in1 (Builtin.«list.__init__» ⟨[.ref S, .ref I], []⟩)
      (fun fin s' => match fin with | .done f => R (.ok f) s' | .again c' => c'.quiet = true ∧ codeAny (model prog w) A c' R s') (fun e s' => R (.error e) s') s := by
  show wpAny _ A.in1 (do let old ← Builtin.List.listItems (.ref S); Builtin.List.listUpdate (.ref S) (fun _ => #[]); letGo old.toList.reverse; Builtin.List.listExtendWith (.ref S) (.ref I) .none) _ _ s
  refine wpAny_bind ?_
  unfold Builtin.List.listItems
  refine wpAny_bind (wpAny_seqItems hS rfl (wpAny_pure ?_))
  show wpAny _ A.in1 (updateSeq S (fun _ => #[]) >>= fun _ => letGo (#[] : Array Value).toList.reverse >>= fun _ => Builtin.List.listExtendWith (.ref S) (.ref I) .none) _ _ s
  refine wpAny_bind (wpAny_updateSeq hS rfl ?_)
  have hS₂ := Heap.get?_update_self (Obj.mapSeq (fun _ => (#[] : Array Value))) hS rfl
  have oth : ∀ b o, b ≠ S → s.heap.get? b = some o → (s.heap.update S (Obj.mapSeq (fun _ => (#[] : Array Value)))).get? b = some o :=
    fun b o hb e => (Heap.get?_update_other _ _ (Ne.symm hb)).trans e
  refine wpAny_bind (wpAny_letGo ?_)
  refine extend_rt (s := { s with heap := s.heap.update S (Obj.mapSeq (fun _ => (#[] : Array Value))) }) hh hne hz S .none _ (hit.at fun o e => oth I o (Ne.symm hSI) e) (let ⟨o, ho, r⟩ := ht; ⟨o, oth t o (Ne.symm hSt) ho, r⟩) hSI hSt hS₂ fun s' acc' c' ⟨tk, es⟩ hk hS' hacc => ?_
  exact hR s' acc' c' ⟨tk, es⟩ (fun b o h1 h2 e => hk b o h1 h2 (oth b o h1 e)) hS' hacc
end
section
variable {prog : Program} {w : World} {A : Around} {E : Value → Shared → Prop} {s : Shared}
theorem call_list_rt {I t : Addr} {items : Array Value} {Q : Value → Shared → Prop} (hh : A.handled = none) (hne : t ≠ I) (hz : items.size ≤ sizeLine) (hit : RT.IsRt s.heap I t ((items.size : Int) - 1)) (ht : IsTup s.heap t items)
    (hQ : ∀ (h' : Heap) (tk : Nat) (acc : Array Value) (c : Nat), (∀ b o, b ≠ I → s.heap.get? b = some o → h'.get? b = some o) → h'.get? s.heap.objs.size = some { cls := .type "list", dict := none, data := .seq acc c, slots := #[] } →
      ItemsOf (fun i v => items[items.size - 1 - i]? = some v) acc items.size → Q (.ref s.heap.objs.size) { s with heap := h', toks := tk }) :
    wpAny (model prog w) A (call (.type "list") [.ref I]) Q E s := by
  obtain ⟨oi, hoi, _⟩ := id hit
  obtain ⟨ot, hot, _⟩ := id ht
  have hSI : s.heap.objs.size ≠ I := Nat.ne_of_gt (Heap.lt_size hoi)
  have hSt : s.heap.objs.size ≠ t := Nat.ne_of_gt (Heap.lt_size hot)
  refine callType_codes (Q₁ := fun obj s₁ => obj = .ref s.heap.objs.size ∧ s₁ = { s with heap := s.heap.push { cls := .type "list", data := .seq #[] } }) F.called_list (F.typeCall_list_1 _) F.entry_list_init
    (code_list_new _ ⟨rfl, rfl⟩) fun obj s₁ h₁ => ?_
  obtain ⟨rfl, rfl⟩ := h₁
  have hS : (s.heap.push { cls := .type "list", data := .seq #[] }).get? s.heap.objs.size = some { cls := .type "list", data := .seq #[] } := Heap.get?_push_size _ rfl
  refine ⟨⟨_, hS, rfl⟩, F.args_list_init_2 _ _, init_rt (A := A.in1) (s := { s with heap := s.heap.push { cls := .type "list", data := .seq #[] } }) hh hne hz _ (hit.at fun o e => Heap.get?_push_of_some _ e) (let ⟨o, ho, r⟩ := ht; ⟨o, Heap.get?_push_of_some _ ho, r⟩) hSI hSt hS fun s' acc' c' ⟨tk, es⟩ hk hS' hacc => ?_⟩
  have q := hQ s'.heap tk acc' c' (fun b o hb e => hk b o (Nat.ne_of_lt (Heap.lt_size e)) hb (Heap.get?_push_of_some _ e)) hS' hacc
  rw [es]
  exact ⟨rfl, q⟩
end
section
variable {X : Cx}
/-- list(reversed(x)), x a tuple: a new list -/
def tListRev (te : TE) : TE := fun σ H Q => te σ H fun v H1 => ∃ (a : Addr) (xs : List V), v = .ref a ∧ H1 a = some (.tup xs) ∧ ∀ q, H1 q = none → Q (.ref q) (L2.upd H1 q (.lst xs.reverse))
theorem pe_listRevT {e : Expr} {te : TE} {p p2 pos pos2 : Pos} (hc : X.calm = true) (hg : Gl X "list") (hm : X.mg "list" = none) (hg2 : Gl X "reversed") (hm2 : X.mg "reversed" = none) (he : PE X e te)
    (hs : starEach [e] X.env = (false, eval e X.env) :: starEach [] X.env := by rfl)
    (hs2 : starEach [.Call (.Name "reversed" p2) [e] [] pos2] X.env = (false, eval (.Call (.Name "reversed" p2) [e] [] pos2) X.env) :: starEach [] X.env := by rfl) :
    PE X (.Call (.Name "list" p) [.Call (.Name "reversed" p2) [e] [] pos2] [] pos) (tListRev te) := by
  refine ⟨fun pins s σ H Q I h => ?_⟩
  refine Call_ (ld_blt I hg hm boot_list (PyProof.Rows.callWith_type1 (args_cons (Call_ (ld_blt I hg2 hm2 PyProof.Rows.boot_reversed (PyProof.Rows.callWith_type1 (args_cons (thn (he.run pins s σ H _ I h) fun u s1 ⟨v, H1, I1, r1, q1⟩ => args_nil ?_) hs) hs rfl))) hs2) hs2 rfl))
  obtain ⟨a, xs, ev, hq, q⟩ := q1
  subst ev
  obtain rfl : u = Value.ref a := r1
  obtain ⟨its, rv, p', hz⟩ := I1.tuple (SqT.of hq)
  have hl := rv.length
  have hn := line63
  have hz' : its.toArray.size ≤ sizeLine := by rw [List.size_toArray, ← hl]; exact hz
  refine RT.call_reversed_tup p' (fun A E Q k => PyProof.Rows.len_tuple p' (by omega) k) (args_nil ?_)
  have hit : RT.IsRt (s1.heap.push (RT.rtObj a ((its.toArray.size : Int) - 1))) s1.heap.objs.size a ((its.toArray.size : Int) - 1) := ⟨_, Heap.get?_push_size _ rfl, rfl, rfl⟩
  have pt : IsTup (s1.heap.push (RT.rtObj a ((its.toArray.size : Int) - 1))) a its.toArray := let ⟨o, ho, r⟩ := p'; ⟨o, Heap.get?_push_of_some _ ho, r⟩
  have hne : a ≠ s1.heap.objs.size := Nat.ne_of_lt p'.lt
  refine call_list_rt (s := { s1 with heap := s1.heap.push (RT.rtObj a ((its.toArray.size : Int) - 1)), toks := s1.toks + 1 + 1 }) (I1.ok.hd hc) hne hz' hit pt fun h' tk acc c hk hS hi => ?_
  have sz : (s1.heap.push (RT.rtObj a ((its.toArray.size : Int) - 1))).objs.size = s1.heap.objs.size + 1 := by simp [Heap.push]
  have hle : s1.heap.objs.size ≤ (s1.heap.push (RT.rtObj a ((its.toArray.size : Int) - 1))).objs.size := by rw [sz]; exact Nat.le_succ _
  have I3 := I1.laid (t' := tk) (h' := h') (a := (s1.heap.push (RT.rtObj a ((its.toArray.size : Int) - 1))).objs.size) (o := .lst xs.reverse) (fun b o e => hk b o (Nat.ne_of_lt (Heap.lt_size e)) (Heap.get?_push_of_some _ e)) hle
    (show ObjOk X.prog X.w _ h' _ (.lst xs.reverse) from ⟨by rw [List.length_reverse]; exact hz, acc.toList, c, RT.vals_rev rv hi, by rw [Array.toArray_toList]; exact hS⟩)
  exact ⟨.ref _, _, I3, rfl, q _ (I1.hok.fresh hle)⟩
end

/-! ### texts: isascii, isprintable, encode; a number in bytes -/
section
variable {X : Cx}
theorem mt_isascii : MtR X "str.isascii" (fun x xs H Q => ∃ a, x = .str a ∧ xs = [] ∧ True ∧ Q (.bl (Txt.isascii a)) H) :=
  mt0 (C := fun _ => True) (g := fun a => .bl (Txt.isascii a)) fun _ _ s _ _ h => PySem.SC.isascii (h _ s.toks rfl)
theorem mt_isprintable : MtR X "str.isprintable" (fun x xs H Q => ∃ a, x = .str a ∧ xs = [] ∧ True ∧ Q (.bl (Txt.isprintable a)) H) :=
  mt0 (C := fun _ => True) (g := fun a => .bl (Txt.isprintable a)) fun _ _ s _ _ h => PySem.SC.isprintable (h _ s.toks rfl)
theorem mt_encode : MtR X "str.encode" (fun x xs H Q => ∃ a, x = .str a ∧ xs = [] ∧ PySem.W.KSb.Asc a ∧ a.length ≤ 16777216 ∧ ∀ c, PySem.W.KBw.bInts c = PySem.W.KSb.codes a → Q (.byt c) H) := by
  intro pins s σ H x xs v us Q I rx rs h
  obtain ⟨a, rfl, rfl, h1, h2, h⟩ := h
  obtain ⟨t, rfl⟩ := rx
  cases rs
  exact PySem.W.KSb.encode_K h1 h2 fun c t' k e _ _ => ⟨.byt c, H, I.tok k, ⟨_, rfl⟩, h c e⟩
def rNotInI : R2 := fun x y H Q => ∃ (n : Int) (b : Array UInt8), x = .int n ∧ y = .byt b ∧ 0 ≤ n ∧ n < 256 ∧ Q (.bl (!(PySem.W.KBw.bInts b).contains n)) H
theorem op_notInI : OpR X (compareOp .NotIn) rNotInI := by
  intro pins s σ H x y v u Q I rx ry h
  obtain ⟨n, b, rfl, rfl, h0, h1, q⟩ := h
  obtain ⟨t, rfl⟩ := rx
  obtain ⟨t', rfl⟩ := ry
  exact PySem.W.KBi.notIn_K rfl h0 h1 ⟨.bl _, H, I, rfl, q⟩
theorem pe_isascii {o : Expr} {to : TE} {apos pos : Pos} (ho : PE X o to) (hbase : attributeBase o "isascii" X.env (eval o X.env) = eval o X.env := by rfl) (hline : (apos.endLine == pos.line) = true := by rfl) :
    PE X (.Call (.Attribute o "isascii" apos) [] [] pos) (tM0 (fun x xs H Q => ∃ a, x = .str a ∧ xs = [] ∧ True ∧ Q (.bl (Txt.isascii a)) H) to) := pe_m0 F.slot_str_isascii F.type_str_isascii mt_isascii ho hbase hline
theorem pe_isprintable {o : Expr} {to : TE} {apos pos : Pos} (ho : PE X o to) (hbase : attributeBase o "isprintable" X.env (eval o X.env) = eval o X.env := by rfl) (hline : (apos.endLine == pos.line) = true := by rfl) :
    PE X (.Call (.Attribute o "isprintable" apos) [] [] pos) (tM0 (fun x xs H Q => ∃ a, x = .str a ∧ xs = [] ∧ True ∧ Q (.bl (Txt.isprintable a)) H) to) := pe_m0 F.slot_str_isprintable F.type_str_isprintable mt_isprintable ho hbase hline
theorem pe_encode {o : Expr} {to : TE} {apos pos : Pos} (ho : PE X o to) (hbase : attributeBase o "encode" X.env (eval o X.env) = eval o X.env := by rfl) (hline : (apos.endLine == pos.line) = true := by rfl) :
    PE X (.Call (.Attribute o "encode" apos) [] [] pos) (tM0 (fun x xs H Q => ∃ a, x = .str a ∧ xs = [] ∧ PySem.W.KSb.Asc a ∧ a.length ≤ 16777216 ∧ ∀ c, PySem.W.KBw.bInts c = PySem.W.KSb.codes a → Q (.byt c) H) to) := pe_m0 F.slot_str_encode F.type_str_encode mt_encode ho hbase hline
theorem r_m0 {r : V → List V → Hp → VK → Prop} {to : TE} {σ : L2.St} {H : Hp} {Q : VK} : tM0 r to σ H Q = to σ H (fun x H1 => (∃ a, x = .str a) ∧ r x [] H1 Q) := rfl
theorem r_listrev {te : TE} {σ : L2.St} {H : Hp} {Q : VK} : tListRev te σ H Q = te σ H (fun v H1 => ∃ (a : Addr) (xs : List V), v = .ref a ∧ H1 a = some (.tup xs) ∧ ∀ q, H1 q = none → Q (.ref q) (L2.upd H1 q (.lst xs.reverse))) := rfl
theorem r_notInI {x y : V} {H : Hp} {Q : VK} : rNotInI x y H Q = ∃ (n : Int) (b : Array UInt8), x = .int n ∧ y = .byt b ∧ 0 ≤ n ∧ n < 256 ∧ Q (.bl (!(PySem.W.KBw.bInts b).contains n)) H := rfl

end

/-! ### x is True, x is False; isidentifier; C() of a class without an own __init__ -/
def rIsBl : R2 := fun x y H Q => ∃ c : Bool, y = .bl c ∧ Q (.bl (decide (x = .bl c))) H
section
variable {X : Cx}
theorem op_isB : OpR X (compareOp .Is) rIsBl := by
  intro pins s σ H x y v u Q I rx ry h
  obtain ⟨c, rfl, q⟩ := h
  cases (show u = Value.bool c from ry)
  have eq_ : ∀ {b : Bool}, plainIs v (.bool c) = true → (v == Value.bool c) = b → b = decide (x = .bl c) → wpAny (model X.prog X.w) X.A (compareOp .Is v (.bool c)) (EP X pins σ Q) X.xe s := fun h1 h2 h3 => by
    show wpAny _ _ ((isSame v (Value.bool c)) >>= fun z => pure (Value.bool z)) _ _ s
    refine wpAny_bind (wpAny_isSame_plain h1 (wpAny_pure ?_))
    rw [h2]
    exact ⟨.bl _, H, I, by rw [h3]; rfl, q⟩
  cases x with
  | ref a =>
    cases rx
    exact eq_ rfl rfl rfl
  | non => cases rx; exact eq_ rfl rfl rfl
  | bl b => cases rx; cases b <;> cases c <;> exact eq_ rfl rfl rfl
  | int i => obtain ⟨t, rfl⟩ := rx; exact eq_ rfl rfl rfl
  | str x => obtain ⟨t, rfl⟩ := rx; exact eq_ rfl rfl rfl
  | byt x => obtain ⟨t, rfl⟩ := rx; exact eq_ rfl rfl rfl
  | flt x => obtain ⟨t, rfl⟩ := rx; exact eq_ rfl rfl rfl
  | ty n => cases rx; exact eq_ rfl rfl rfl
theorem r_isBl {x y : V} {H : Hp} {Q : VK} : rIsBl x y H Q = ∃ c : Bool, y = .bl c ∧ Q (.bl (decide (x = .bl c))) H := rfl
theorem mt_isidentifier : MtR X "str.isidentifier" (fun x xs H Q => ∃ a, x = .str a ∧ xs = [] ∧ True ∧ Q (.bl (Txt.isidentifier a)) H) :=
  mt0 (C := fun _ => True) (g := fun a => .bl (Txt.isidentifier a)) fun _ _ s _ _ h => PySem.SC.isidentifier (h _ s.toks rfl)
theorem pe_isidentifier {o : Expr} {to : TE} {apos pos : Pos} (ho : PE X o to) (hbase : attributeBase o "isidentifier" X.env (eval o X.env) = eval o X.env := by rfl) (hline : (apos.endLine == pos.line) = true := by rfl) :
    PE X (.Call (.Attribute o "isidentifier" apos) [] [] pos) (tM0 (fun x xs H Q => ∃ a, x = .str a ∧ xs = [] ∧ True ∧ Q (.bl (Txt.isidentifier a)) H) to) := pe_m0 F.slot_str_isidentifier F.type_str_isidentifier mt_isidentifier ho hbase hline
/-- what a class without an own __init__ must have to be made -/
structure MkP (K : PySem.W.Frag) (C : Addr) : Prop where
  makes : PySem.W.makesIn K C = true
  init : PySem.W.findIn K (.ref C) "__init__" = some (some (.builtin "object.__init__"))
  kp : PySem.W.keepIn K (.ref C) = true
def tPlain (C : Addr) : TE := fun _ H Q => ∀ x dx, H x = none → H dx = none → dx ≠ x → Q (.ref x) (upd (upd H dx (.own x)) x (.ins C dx []))
theorem run_plain {C : Addr} {pins : List (Addr × Obj)} {σ : L2.St} {H : Hp} {s : Shared} {Q : VK} (M : MkP X.K C) (I : Inv X pins σ H s)
    (h : ∀ x dx, H x = none → H dx = none → dx ≠ x → Q (.ref x) (upd (upd H dx (.own x)) x (.ins C dx []))) :
    wpAny (model X.prog X.w) X.A (call (.ref C) []) (EP X pins σ Q) X.xe s := by
  have hq := h (s.heap.objs.size + 1) s.heap.objs.size (I.hok.fresh (Nat.le_succ _)) (I.hok.fresh (Nat.le_refl _)) (Nat.ne_of_lt (Nat.lt_succ_self _))
  have I2 := Inv.made (C := C) I
  refine wpAny_call (make_map0 I.kIn M.makes M.init (fun self => PySem.W.Looks.of_pure (PySem.W.oi_bind _)) ?_)
  obtain ⟨hh, g, d, t, os⟩ := s
  obtain ⟨_, _, _, ho, _⟩ := I2.hok (hh.objs.size + 1) _ upd_same
  have t1 : PySem.W.Looks (model X.prog X.w) ((hh.push PySem.W.emptyDict).push (PySem.W.instObj C hh.objs.size)) (typeOf (.ref (hh.objs.size + 1))) (.ref C) := (PySem.W.Looks.ld ho).andThen .now
  refine codeAny_call_builtin PySem.W.oi_plain PySem.W.entry_oi (@PySem.W.check_slot (model X.prog X.w) _ _ _ "object.__init__" "object" "__init__" (.ref (hh.objs.size + 1)) [] [] _ PySem.W.oi_kind PySem.W.oi_split (t1.andThen (PySem.W.makes_of (M := model X.prog X.w) I2.kIn M.makes).top) (PySem.W.oi_args _) ?_)
  rw [PySem.W.oi_run]
  exact wpAny_pure ⟨rfl, ⟨V.ref (hh.objs.size + 1), _, I2, rfl, hq⟩⟩
theorem pe_plain {C : Addr} {x : Str} {p pos : Pos} (M : MkP X.K C) (hg : Gl X x) (hm : X.mg x = some (.ref C)) (hdb : (x == ("__debug__" : Str)) = false := by decide) : PE X (.Call (.Name x p) [] [] pos) (tPlain C) := by
  refine ⟨fun pins s σ H Q I h => ?_⟩
  refine wpAny_Call_Name_kw (ld_glob I hg hm ?_ hdb)
  exact PySem.W.callWith_K0 I.kIn M.kp (run_plain M I h)
theorem r_plain {C : Addr} {σ : L2.St} {H : Hp} {Q : VK} : tPlain C σ H Q = ∀ x dx, H x = none → H dx = none → dx ≠ x → Q (.ref x) (upd (upd H dx (.own x)) x (.ins C dx [])) := rfl
end

/-! ### what a Code is made of -/
/-- what is known of the class Known: nothing that is handed in is one -/
structure KnownT (K : PySem.W.Frag) (mg : Str → Option Value) (C : Addr) : Prop where
  cI : ClsI K C
  g_Known : mg "Known" = some (.ref C)
  no : PySem.W.kitOne K (.type "list") (.ref C) = some false
/-- a text that a code may have -/
def OkS (z : Str) : Prop := Txt.isascii z = true ∧ z.length ≤ 100000 ∧ (Txt.isidentifier z = true ∨ (Txt.isprintable z = true ∧ PySem.W.KSb.Asc z ∧ (PySem.W.KSb.codes z).contains 37 = false))
def okSb (z : Str) : Bool := Txt.isascii z && (decide (z.length ≤ 100000) && (Txt.isidentifier z || (Txt.isprintable z && (z.cps.toList.all (fun c => decide (c < 128)) && !((PySem.W.KSb.codes z).contains 37)))))
theorem okS_b {z : Str} (h : okSb z = true) : OkS z := by
  unfold okSb at h
  simp only [Bool.and_eq_true, Bool.or_eq_true, decide_eq_true_eq, Bool.not_eq_true'] at h
  obtain ⟨h1, h2, h3⟩ := h
  refine ⟨h1, h2, h3.imp id fun ⟨q1, q2, q3⟩ => ⟨q1, fun c hc => ?_, q3⟩⟩
  exact of_decide_eq_true (List.all_eq_true.mp q2 c hc)
mutual
/-- a constant that nests at most so deep, and its size -/
inductive CV (H : Hp) : Nat → V → Nat → Prop
  | non (k : Nat) : CV H k .non 1
  | bl (k : Nat) (b : Bool) : CV H k (.bl b) 1
  | int (k : Nat) (i : Int) : CV H k (.int i) 1
  | str (k : Nat) (z : Str) (h : OkS z) : CV H k (.str z) 1
  | tup {k : Nat} {a : Addr} {xs : List V} {n : Nat} (h : H a = some (.tup xs)) (t : CVs H k xs n) : CV H (k + 1) (.ref a) (n + 1)
inductive CVs (H : Hp) : Nat → List V → Nat → Prop
  | nil (k : Nat) : CVs H k [] 0
  | cons {k : Nat} {x : V} {xs : List V} {n m : Nat} (h : CV H k x n) (t : CVs H k xs m) : CVs H k (x :: xs) (n + m)
end
mutual
theorem CV.same {H H' : Hp} (s : Same H H') : ∀ {k : Nat} {v : V} {n : Nat}, CV H k v n → CV H' k v n
  | _, _, _, .non k => .non k
  | _, _, _, .bl k b => .bl k b
  | _, _, _, .int k i => .int k i
  | _, _, _, .str k z h => .str k z h
  | _, _, _, .tup h t => .tup (s _ _ h) (CVs.same s t)
theorem CVs.same {H H' : Hp} (s : Same H H') : ∀ {k : Nat} {vs : List V} {n : Nat}, CVs H k vs n → CVs H' k vs n
  | _, _, _, .nil k => .nil k
  | _, _, _, .cons h t => .cons (CV.same s h) (CVs.same s t)
end
def spNumberOf : Sp := fun vs H Q _ => ∃ (n : Int) (f : Str), vs = [.int n, .str f] ∧ 0 ≤ n ∧ n ≤ 2147483647 ∧ Q (.int n) H
def spBytesOf : Sp := fun vs H Q _ => ∃ (a : Addr) (f : Str) (ns : List Nat), vs = [.ref a, .str f] ∧ H a = some (.lst (vn ns)) ∧ (∀ n ∈ ns, n < 256) ∧ ∀ p H', H p = none → Same H H' → H' p = some (.tup (vn ns)) → Q (.ref p) H'
def spStringOf : Sp := fun vs H Q _ => ∃ z f : Str, vs = [.str z, .str f] ∧ OkS z ∧ ∀ H', Same H H' → Q (.str z) H'
def spStringsOf : Sp := fun vs H Q _ => ∃ (a : Addr) (f : Str) (zs : List Str), vs = [.ref a, .str f] ∧ H a = some (.lst (zs.map V.str)) ∧ (∀ z ∈ zs, OkS z) ∧ ∀ p H', H p = none → Same H H' → H' p = some (.tup (zs.map V.str)) → Q (.ref p) H'
def spIsString : Sp := fun vs H Q _ => ∃ z : Str, vs = [.str z] ∧ OkS z ∧ ∀ H', Same H H' → Q (.bl true) H'
def spIsConst : Sp := fun vs H Q _ => ∃ (v : V) (n : Nat), vs = [v] ∧ CV H 100 v n ∧ n ≤ 100000 ∧ ∀ H', Same H H' → Q (.bl true) H'
section
variable {P : Program} {w : World} {K : PySem.W.Frag} {mg : Str → Option Value} {base : Heap} {f : Addr} {fd : FuncData}
abbrev snumber_of : Stmt := top 13
theorem scnumber_of : FnScope ["value", "field"] ["value", "field"] (defScope snumber_of) := ⟨rfl, rfl, rfl, by decide +kernel, rfl, by decide +kernel, by decide +kernel⟩

abbrev sbytes_of : Stmt := top 14
theorem scbytes_of : FnScope ["row", "field", "value"] ["row", "field"] (defScope sbytes_of) := ⟨rfl, rfl, rfl, by decide +kernel, rfl, by decide +kernel, by decide +kernel⟩

abbrev sstring_of : Stmt := top 15
theorem scstring_of : FnScope ["value", "field"] ["value", "field"] (defScope sstring_of) := ⟨rfl, rfl, rfl, by decide +kernel, rfl, by decide +kernel, by decide +kernel⟩

abbrev sstrings_of : Stmt := top 16
theorem scstrings_of : FnScope ["row", "field", "value"] ["row", "field"] (defScope sstrings_of) := ⟨rfl, rfl, rfl, by decide +kernel, rfl, by decide +kernel, by decide +kernel⟩

abbrev sis_string : Stmt := top 17
theorem scis_string : FnScope ["value"] ["value"] (defScope sis_string) := ⟨rfl, rfl, rfl, by decide +kernel, rfl, by decide +kernel, by decide +kernel⟩

theorem ok_number_of {CC : Addr} (T : Txt mg) (I : CodeT K mg CC) (F : FnP K "number_of" "number_of" snumber_of f fd) : FnOk P w K mg base CX0 1 f fd ["value", "field"] spNumberOf := by
  refine F.ok scnumber_of (fun vs H Q E h => ?_) (fun cdv A outer s H vs Q E hr h => ?_)
  · obtain ⟨n, f, rfl, _⟩ := h
    rfl
  · obtain ⟨n, f, rfl, h0, h1, k⟩ := h
    refine ⟨_, PSs.nox (pss_cons (ps_if (PW.pt (pw_or (pt_not (pt_val (pe_callB (call_is_d I.cI) (by rfl) T.b_isinstance (by decide +kernel) (pa_cons (pv 0) (pa_cons (pe_bltn (v := .ty "int") (by rfl) T.b_int (by decide +kernel) rfl) pa_nil))))) (pw_or (pt_cmpR op_isB (pv 0) pe_bl (nomark _)) (pw_or (pt_cmpR op_isB (pv 0) pe_bl (nomark _)) (pw_or1 (pt_not (pt_chain op_le op_le pe_int (pv 0) (pe_gi T.g_GREATEST))))))))
    (pss_one ps_never)
    pss_nil)
  (pss_one (ps_ret (pv 0)))), ?_⟩
    show (_ : TS) _ [some (.int n), some (.str f)] H
    simp only [r_seq, r_next, r_brk, r_cont, r_asg, r_name, r_ret, r_retN, r_drop, r_ifs, r_never, r_var, r_c, r_op, r_un, r_if, r_tst, r_b, r_not, r_and, r_or, r_andV, r_orV, r_notV, r_nil, r_cons, r_tup, r_lst, r_cb, r_call, r_bm, r_bm0, r_sl, r_nopart, r_part, r_rev, r_gnil, r_gcons, r_gsub, r_par, r_aug, r_chain, r_I0, r_I, r_U, r_ixd, r_lend, r_tupd, r_listd, r_sld, r_app, r_ext, r_reverse, r_setl, r_cat, r_int1, r_eqS, r_neS, scal_ii, scal_bb, scal_ss, at0, at1, at2, sq_lst, sq_tup, isLst_lst, List.getElem?_cons_zero, List.getElem?_cons_succ, List.set_cons_zero, List.set_cons_succ, V.int.injEq, V.bl.injEq, V.ref.injEq, V.str.injEq, HO.lst.injEq, HO.tup.injEq, Option.some.injEq, exists_eq_left', exists_eq_left, List.cons.injEq, and_true, true_and, decide_eq_true_eq, reduceCtorEq, false_and, exists_false, or_false, false_or, exists_const, and_assoc, exists_and_left, List.append_nil, ix0, ix1, ix2, cm_mod, cdw1009, cdw2003, cdw7, cdw64, cdw2, cm104729, cm2, cm3, upd_same, List.length_cons, List.length_nil, Int.reduceLT, Int.reduceLE, Nat.reduceAdd, Nat.reduceLeDiff, Nat.reduceLT, Int.reduceToNat, r_for1, r_forL, r_forT, r_lcL, r_lc1, r_yes, r_gtupD, wipe_0, wipe_1, List.cons_append, List.nil_append, r_forS, r_ipI, ite_false, ite_true, Bool.not_true, Bool.not_false, decide_true, decide_false, r_isd, r_islt, cD_ty, cD_ref, tD_non, tD_bl, tD_int, tD_str, tD_ref, tH_lst, tH_tup, tH_dK, tH_ins, ki_self, ki_int_bool, ki_non_int, ki_str_int, ki_lt_lst, ki_lt_tup, r_fld, r_sfld, HO.ins.injEq, cx_K, h0, h1, r_isBl]
    exact k
theorem ok_is_string {CC : Addr} (T : Txt mg) (I : CodeT K mg CC) (F : FnP K "is_string" "is_string" sis_string f fd) : FnOk P w K mg base CX0 1 f fd ["value"] spIsString := by
  refine F.ok scis_string (fun vs H Q E h => ?_) (fun cdv A outer s H vs Q E hr h => ?_)
  · obtain ⟨z, rfl, _⟩ := h
    rfl
  · obtain ⟨z, rfl, ⟨e1, e2, e3⟩, k⟩ := h
    refine ⟨_, PSs.nox (pss_cons (ps_if (PW.pt (pw_or (pt_not (pt_val (pe_callB (call_is_d I.cI) (by rfl) T.b_isinstance (by decide +kernel) (pa_cons (pv 0) (pa_cons (pe_bltn (v := .ty "str") (by rfl) T.b_str (by decide +kernel) rfl) pa_nil))))) (pw_or1 (pt_not (pt_val (pe_isascii (pv 0)))))))
    (pss_one (ps_ret pe_bl))
    pss_nil)
  (pss_one (ps_ret (pe_or (pe_isidentifier (pv 0)) (pe_one (pe_and (pe_isprintable (pv 0)) (pe_one (pe_cmpR op_notInI (pe_gi T.g_BARRED) (pe_encode (pv 0)) (by rfl))))))))), ?_⟩
    show (_ : TS) _ [some (.str z)] H
    simp only [r_seq, r_next, r_brk, r_cont, r_asg, r_name, r_ret, r_retN, r_drop, r_ifs, r_never, r_var, r_c, r_op, r_un, r_if, r_tst, r_b, r_not, r_and, r_or, r_andV, r_orV, r_notV, r_nil, r_cons, r_tup, r_lst, r_cb, r_call, r_bm, r_bm0, r_sl, r_nopart, r_part, r_rev, r_gnil, r_gcons, r_gsub, r_par, r_aug, r_chain, r_I0, r_I, r_U, r_ixd, r_lend, r_tupd, r_listd, r_sld, r_app, r_ext, r_reverse, r_setl, r_cat, r_int1, r_eqS, r_neS, scal_ii, scal_bb, scal_ss, at0, at1, at2, sq_lst, sq_tup, isLst_lst, List.getElem?_cons_zero, List.getElem?_cons_succ, List.set_cons_zero, List.set_cons_succ, V.int.injEq, V.bl.injEq, V.ref.injEq, V.str.injEq, HO.lst.injEq, HO.tup.injEq, Option.some.injEq, exists_eq_left', exists_eq_left, List.cons.injEq, and_true, true_and, decide_eq_true_eq, reduceCtorEq, false_and, exists_false, or_false, false_or, exists_const, and_assoc, exists_and_left, List.append_nil, ix0, ix1, ix2, cm_mod, cdw1009, cdw2003, cdw7, cdw64, cdw2, cm104729, cm2, cm3, upd_same, List.length_cons, List.length_nil, Int.reduceLT, Int.reduceLE, Nat.reduceAdd, Nat.reduceLeDiff, Nat.reduceLT, Int.reduceToNat, r_for1, r_forL, r_forT, r_lcL, r_lc1, r_yes, r_gtupD, wipe_0, wipe_1, List.cons_append, List.nil_append, r_forS, r_ipI, ite_false, ite_true, Bool.not_true, Bool.not_false, decide_true, decide_false, r_isd, r_islt, cD_ty, cD_ref, tD_non, tD_bl, tD_int, tD_str, tD_ref, tH_lst, tH_tup, tH_dK, tH_ins, ki_self, ki_int_bool, ki_non_int, ki_str_int, ki_lt_lst, ki_lt_tup, r_fld, r_sfld, HO.ins.injEq, cx_K, r_m0]
    rw [e1, if_neg (by decide)]
    refine ⟨⟨_, rfl⟩, ⟨_, rfl⟩, ?_⟩
    rcases e3 with e3 | ⟨e3, e4, e5⟩
    · rw [if_pos e3]
      exact k H (Same.refl H)
    · by_cases c : Txt.isidentifier z = true
      · rw [if_pos c]
        exact k H (Same.refl H)
      · rw [if_neg c, if_pos e3]
        refine ⟨⟨_, rfl⟩, ⟨_, rfl⟩, e4, Nat.le_trans e2 (by decide), fun cc hc => ⟨37, cc, rfl, rfl, by decide, by decide, ?_⟩⟩
        rw [hc, e5]
        exact k H (Same.refl H)
theorem ok_string_of {CC : Addr} (T : Txt mg) (I : CodeT K mg CC) (F : FnP K "string_of" "string_of" sstring_of f fd) (C_is_string : Cal P w K mg base 1 "is_string" ["value"] spIsString) : FnOk P w K mg base CX0 2 f fd ["value", "field"] spStringOf := by
  refine F.ok scstring_of (fun vs H Q E h => ?_) (fun cdv A outer s H vs Q E hr h => ?_)
  · obtain ⟨z, f, rfl, _⟩ := h
    rfl
  · obtain ⟨z, f, rfl, hz, k⟩ := h
    refine ⟨_, PSs.nox (pss_cons (ps_if (pt_not (pt_val (pe_cal C_is_string (hr.mono (by decide)) rfl (pa_cons (pv 0) pa_nil))))
    (pss_one ps_never)
    pss_nil)
  (pss_one (ps_ret (pv 0)))), ?_⟩
    show (_ : TS) _ [some (.str z), some (.str f)] H
    simp only [r_seq, r_next, r_brk, r_cont, r_asg, r_name, r_ret, r_retN, r_drop, r_ifs, r_never, r_var, r_c, r_op, r_un, r_if, r_tst, r_b, r_not, r_and, r_or, r_andV, r_orV, r_notV, r_nil, r_cons, r_tup, r_lst, r_cb, r_call, r_bm, r_bm0, r_sl, r_nopart, r_part, r_rev, r_gnil, r_gcons, r_gsub, r_par, r_aug, r_chain, r_I0, r_I, r_U, r_ixd, r_lend, r_tupd, r_listd, r_sld, r_app, r_ext, r_reverse, r_setl, r_cat, r_int1, r_eqS, r_neS, scal_ii, scal_bb, scal_ss, at0, at1, at2, sq_lst, sq_tup, isLst_lst, List.getElem?_cons_zero, List.getElem?_cons_succ, List.set_cons_zero, List.set_cons_succ, V.int.injEq, V.bl.injEq, V.ref.injEq, V.str.injEq, HO.lst.injEq, HO.tup.injEq, Option.some.injEq, exists_eq_left', exists_eq_left, List.cons.injEq, and_true, true_and, decide_eq_true_eq, reduceCtorEq, false_and, exists_false, or_false, false_or, exists_const, and_assoc, exists_and_left, List.append_nil, ix0, ix1, ix2, cm_mod, cdw1009, cdw2003, cdw7, cdw64, cdw2, cm104729, cm2, cm3, upd_same, List.length_cons, List.length_nil, Int.reduceLT, Int.reduceLE, Nat.reduceAdd, Nat.reduceLeDiff, Nat.reduceLT, Int.reduceToNat, r_for1, r_forL, r_forT, r_lcL, r_lc1, r_yes, r_gtupD, wipe_0, wipe_1, List.cons_append, List.nil_append, r_forS, r_ipI, ite_false, ite_true, Bool.not_true, Bool.not_false, decide_true, decide_false, r_isd, r_islt, cD_ty, cD_ref, tD_non, tD_bl, tD_int, tD_str, tD_ref, tH_lst, tH_tup, tH_dK, tH_ins, ki_self, ki_int_bool, ki_non_int, ki_str_int, ki_lt_lst, ki_lt_tup, r_fld, r_sfld, HO.ins.injEq, cx_K]
    exact ⟨z, rfl, hz, fun H1 s1 => ⟨true, rfl, k H1 s1⟩⟩
theorem ok_bytes_of {CC KC : Addr} (T : Txt mg) (I : CodeT K mg CC) (IK : KnownT K mg KC) (F : FnP K "bytes_of" "bytes_of" sbytes_of f fd) : FnOk P w K mg base CX0 1 f fd ["row", "field"] spBytesOf := by
  refine F.ok scbytes_of (fun vs H Q E h => ?_) (fun cdv A outer s H vs Q E hr h => ?_)
  · obtain ⟨a, f, ns, rfl, _⟩ := h
    rfl
  · obtain ⟨a, f, ns, rfl, ha, hb, k⟩ := h
    refine ⟨_, PSs.nox (pss_cons (ps_if (pt_val (pe_callB (call_is_d IK.cI) (by rfl) T.b_isinstance (by decide +kernel) (pa_cons (pv 0) (pa_cons (pe_glob (v := .ref _) rfl IK.g_Known rfl) pa_nil))))
    (pss_one (ps_ret (pe_callTy call_tuple_d (by rfl) T.b_tuple (by decide +kernel) (pa_cons (pe_fld (pv 0) rfl) pa_nil))))
    pss_nil)
  (pss_cons (ps_if (pt_not (pt_val (pe_callB (call_is_lt I.cI) (by rfl) T.b_isinstance (by decide +kernel) (pa_cons (pv 0) (pa_cons (pe_tup (pa_cons (pe_bltn (v := .ty "list") (by rfl) T.b_list (by decide +kernel) rfl) (pa_cons (pe_bltn (v := .ty "tuple") (by rfl) T.b_tuple (by decide +kernel) rfl) pa_nil))) pa_nil)))))
    (pss_one ps_never)
    pss_nil)
  (pss_cons (ps_for PassesOwn.never rfl (pi_list (pv 0)) (pg_name (i := 2) scbytes_of.nd rfl (Or.inl rfl))
    (pss_one (ps_if (PW.pt (pw_or (pt_not (pt_val (pe_callB (call_is_d I.cI) (by rfl) T.b_isinstance (by decide +kernel) (pa_cons (pv 2) (pa_cons (pe_bltn (v := .ty "int") (by rfl) T.b_int (by decide +kernel) rfl) pa_nil))))) (pw_or (pt_val (pe_callB (call_is_d I.cI) (by rfl) T.b_isinstance (by decide +kernel) (pa_cons (pv 2) (pa_cons (pe_bltn (v := .ty "bool") (by rfl) T.b_bool (by decide +kernel) rfl) pa_nil)))) (pw_or1 (pt_not (pt_chain op_le op_le pe_int (pv 2) pe_int))))))
    (pss_one ps_never)
    pss_nil)))
  (pss_one (ps_ret (pe_callTy call_tuple_d (by rfl) T.b_tuple (by decide +kernel) (pa_cons (pv 0) pa_nil))))))), ?_⟩
    show (_ : TS) _ [some (.ref a), some (.str f), none] H
    have nk := IK.no
    simp only [r_seq, r_next, r_brk, r_cont, r_asg, r_name, r_ret, r_retN, r_drop, r_ifs, r_never, r_var, r_c, r_op, r_un, r_if, r_tst, r_b, r_not, r_and, r_or, r_andV, r_orV, r_notV, r_nil, r_cons, r_tup, r_lst, r_cb, r_call, r_bm, r_bm0, r_sl, r_nopart, r_part, r_rev, r_gnil, r_gcons, r_gsub, r_par, r_aug, r_chain, r_I0, r_I, r_U, r_ixd, r_lend, r_tupd, r_listd, r_sld, r_app, r_ext, r_reverse, r_setl, r_cat, r_int1, r_eqS, r_neS, scal_ii, scal_bb, scal_ss, at0, at1, at2, sq_lst, sq_tup, isLst_lst, List.getElem?_cons_zero, List.getElem?_cons_succ, List.set_cons_zero, List.set_cons_succ, V.int.injEq, V.bl.injEq, V.ref.injEq, V.str.injEq, HO.lst.injEq, HO.tup.injEq, Option.some.injEq, exists_eq_left', exists_eq_left, List.cons.injEq, and_true, true_and, decide_eq_true_eq, reduceCtorEq, false_and, exists_false, or_false, false_or, exists_const, and_assoc, exists_and_left, List.append_nil, ix0, ix1, ix2, cm_mod, cdw1009, cdw2003, cdw7, cdw64, cdw2, cm104729, cm2, cm3, upd_same, List.length_cons, List.length_nil, Int.reduceLT, Int.reduceLE, Nat.reduceAdd, Nat.reduceLeDiff, Nat.reduceLT, Int.reduceToNat, r_for1, r_forL, r_forT, r_lcL, r_lc1, r_yes, r_gtupD, wipe_0, wipe_1, List.cons_append, List.nil_append, r_forS, r_ipI, ite_false, ite_true, Bool.not_true, Bool.not_false, decide_true, decide_false, r_isd, r_islt, cD_ty, cD_ref, tD_non, tD_bl, tD_int, tD_str, tD_ref, tH_lst, tH_tup, tH_dK, tH_ins, ki_self, ki_int_bool, ki_non_int, ki_str_int, ki_lt_lst, ki_lt_tup, r_fld, r_sfld, HO.ins.injEq, cx_K, ha, nk]
    refine ⟨szl (by decide), fun p hp => ?_⟩
    have pa := une (ne_new ha hp)
    have ha1 : L2.upd H p (.tup [.ty "list", .ty "tuple"]) a = some (.lst (vn ns)) := by rw [pa]; exact ha
    simp only [r_seq, r_next, r_brk, r_cont, r_asg, r_name, r_ret, r_retN, r_drop, r_ifs, r_never, r_var, r_c, r_op, r_un, r_if, r_tst, r_b, r_not, r_and, r_or, r_andV, r_orV, r_notV, r_nil, r_cons, r_tup, r_lst, r_cb, r_call, r_bm, r_bm0, r_sl, r_nopart, r_part, r_rev, r_gnil, r_gcons, r_gsub, r_par, r_aug, r_chain, r_I0, r_I, r_U, r_ixd, r_lend, r_tupd, r_listd, r_sld, r_app, r_ext, r_reverse, r_setl, r_cat, r_int1, r_eqS, r_neS, scal_ii, scal_bb, scal_ss, at0, at1, at2, sq_lst, sq_tup, isLst_lst, List.getElem?_cons_zero, List.getElem?_cons_succ, List.set_cons_zero, List.set_cons_succ, V.int.injEq, V.bl.injEq, V.ref.injEq, V.str.injEq, HO.lst.injEq, HO.tup.injEq, Option.some.injEq, exists_eq_left', exists_eq_left, List.cons.injEq, and_true, true_and, decide_eq_true_eq, reduceCtorEq, false_and, exists_false, or_false, false_or, exists_const, and_assoc, exists_and_left, List.append_nil, ix0, ix1, ix2, cm_mod, cdw1009, cdw2003, cdw7, cdw64, cdw2, cm104729, cm2, cm3, upd_same, List.length_cons, List.length_nil, Int.reduceLT, Int.reduceLE, Nat.reduceAdd, Nat.reduceLeDiff, Nat.reduceLT, Int.reduceToNat, r_for1, r_forL, r_forT, r_lcL, r_lc1, r_yes, r_gtupD, wipe_0, wipe_1, List.cons_append, List.nil_append, r_forS, r_ipI, ite_false, ite_true, Bool.not_true, Bool.not_false, decide_true, decide_false, r_isd, r_islt, cD_ty, cD_ref, tD_non, tD_bl, tD_int, tD_str, tD_ref, tH_lst, tH_tup, tH_dK, tH_ins, ki_self, ki_int_bool, ki_non_int, ki_str_int, ki_lt_lst, ki_lt_tup, r_fld, r_sfld, HO.ins.injEq, cx_K, ha1]
    refine ⟨⟨_, SqL.of ha1⟩, lp_list (xs := vn ns) (fun i σ H' => (∃ v, σ = [some (.ref a), some (.str f), v]) ∧ H' = L2.upd H p (.tup [.ty "list", .ty "tuple"])) ⟨⟨_, rfl⟩, rfl⟩ (fun i σ H' _ ⟨_, e⟩ => SqL.of (by rw [e]; exact ha1)) ?_ ?_⟩
    · rintro i x σ H' hx ⟨⟨v, rfl⟩, rfl⟩
      obtain ⟨n, hn, rfl⟩ : ∃ n ∈ ns, x = .int (n : Int) := by
        have := List.mem_of_getElem? hx
        unfold vn at this
        obtain ⟨n, hn, e⟩ := List.mem_map.mp this
        exact ⟨n, hn, e.symm⟩
      have hb1 := hb n hn
      have c1 : (0 : Int) ≤ (n : Int) := by omega
      have c2 : (n : Int) ≤ 255 := by omega
      simp only [r_seq, r_next, r_brk, r_cont, r_asg, r_name, r_ret, r_retN, r_drop, r_ifs, r_never, r_var, r_c, r_op, r_un, r_if, r_tst, r_b, r_not, r_and, r_or, r_andV, r_orV, r_notV, r_nil, r_cons, r_tup, r_lst, r_cb, r_call, r_bm, r_bm0, r_sl, r_nopart, r_part, r_rev, r_gnil, r_gcons, r_gsub, r_par, r_aug, r_chain, r_I0, r_I, r_U, r_ixd, r_lend, r_tupd, r_listd, r_sld, r_app, r_ext, r_reverse, r_setl, r_cat, r_int1, r_eqS, r_neS, scal_ii, scal_bb, scal_ss, at0, at1, at2, sq_lst, sq_tup, isLst_lst, List.getElem?_cons_zero, List.getElem?_cons_succ, List.set_cons_zero, List.set_cons_succ, V.int.injEq, V.bl.injEq, V.ref.injEq, V.str.injEq, HO.lst.injEq, HO.tup.injEq, Option.some.injEq, exists_eq_left', exists_eq_left, List.cons.injEq, and_true, true_and, decide_eq_true_eq, reduceCtorEq, false_and, exists_false, or_false, false_or, exists_const, and_assoc, exists_and_left, List.append_nil, ix0, ix1, ix2, cm_mod, cdw1009, cdw2003, cdw7, cdw64, cdw2, cm104729, cm2, cm3, upd_same, List.length_cons, List.length_nil, Int.reduceLT, Int.reduceLE, Nat.reduceAdd, Nat.reduceLeDiff, Nat.reduceLT, Int.reduceToNat, r_for1, r_forL, r_forT, r_lcL, r_lc1, r_yes, r_gtupD, wipe_0, wipe_1, List.cons_append, List.nil_append, r_forS, r_ipI, ite_false, ite_true, Bool.not_true, Bool.not_false, decide_true, decide_false, r_isd, r_islt, cD_ty, cD_ref, tD_non, tD_bl, tD_int, tD_str, tD_ref, tH_lst, tH_tup, tH_dK, tH_ins, ki_self, ki_int_bool, ki_non_int, ki_str_int, ki_lt_lst, ki_lt_tup, r_fld, r_sfld, HO.ins.injEq, cx_K, c1, c2]
      exact ⟨_, rfl⟩
    · rintro σ H' ⟨⟨v, rfl⟩, rfl⟩
      simp only [r_seq, r_next, r_brk, r_cont, r_asg, r_name, r_ret, r_retN, r_drop, r_ifs, r_never, r_var, r_c, r_op, r_un, r_if, r_tst, r_b, r_not, r_and, r_or, r_andV, r_orV, r_notV, r_nil, r_cons, r_tup, r_lst, r_cb, r_call, r_bm, r_bm0, r_sl, r_nopart, r_part, r_rev, r_gnil, r_gcons, r_gsub, r_par, r_aug, r_chain, r_I0, r_I, r_U, r_ixd, r_lend, r_tupd, r_listd, r_sld, r_app, r_ext, r_reverse, r_setl, r_cat, r_int1, r_eqS, r_neS, scal_ii, scal_bb, scal_ss, at0, at1, at2, sq_lst, sq_tup, isLst_lst, List.getElem?_cons_zero, List.getElem?_cons_succ, List.set_cons_zero, List.set_cons_succ, V.int.injEq, V.bl.injEq, V.ref.injEq, V.str.injEq, HO.lst.injEq, HO.tup.injEq, Option.some.injEq, exists_eq_left', exists_eq_left, List.cons.injEq, and_true, true_and, decide_eq_true_eq, reduceCtorEq, false_and, exists_false, or_false, false_or, exists_const, and_assoc, exists_and_left, List.append_nil, ix0, ix1, ix2, cm_mod, cdw1009, cdw2003, cdw7, cdw64, cdw2, cm104729, cm2, cm3, upd_same, List.length_cons, List.length_nil, Int.reduceLT, Int.reduceLE, Nat.reduceAdd, Nat.reduceLeDiff, Nat.reduceLT, Int.reduceToNat, r_for1, r_forL, r_forT, r_lcL, r_lc1, r_yes, r_gtupD, wipe_0, wipe_1, List.cons_append, List.nil_append, r_forS, r_ipI, ite_false, ite_true, Bool.not_true, Bool.not_false, decide_true, decide_false, r_isd, r_islt, cD_ty, cD_ref, tD_non, tD_bl, tD_int, tD_str, tD_ref, tH_lst, tH_tup, tH_dK, tH_ins, ki_self, ki_int_bool, ki_non_int, ki_str_int, ki_lt_lst, ki_lt_tup, r_fld, r_sfld, HO.ins.injEq, cx_K, ha1]
      exact fun l hl => k l _ (by rw [upd_at] at hl; split at hl; cases hl; exact hl) (Same.new' (Same.new' (Same.refl H) hp) hl) upd_same
theorem ok_strings_of {CC : Addr} (T : Txt mg) (I : CodeT K mg CC) (F : FnP K "strings_of" "strings_of" sstrings_of f fd) (C_is_string : Cal P w K mg base 1 "is_string" ["value"] spIsString) : FnOk P w K mg base CX0 2 f fd ["row", "field"] spStringsOf := by
  refine F.ok scstrings_of (fun vs H Q E h => ?_) (fun cdv A outer s H vs Q E hr h => ?_)
  · obtain ⟨a, f, zs, rfl, _⟩ := h
    rfl
  · obtain ⟨a, f, zs, rfl, ha, hz, k⟩ := h
    refine ⟨_, PSs.nox (pss_cons (ps_if (pt_not (pt_val (pe_callB (call_is_lt I.cI) (by rfl) T.b_isinstance (by decide +kernel) (pa_cons (pv 0) (pa_cons (pe_tup (pa_cons (pe_bltn (v := .ty "list") (by rfl) T.b_list (by decide +kernel) rfl) (pa_cons (pe_bltn (v := .ty "tuple") (by rfl) T.b_tuple (by decide +kernel) rfl) pa_nil))) pa_nil)))))
    (pss_one ps_never)
    pss_nil)
  (pss_cons (ps_for PassesOwn.never rfl (pi_list (pv 0)) (pg_name (i := 2) scstrings_of.nd rfl (Or.inl rfl))
    (pss_one (ps_if (pt_not (pt_val (pe_cal C_is_string (hr.mono (by decide)) rfl (pa_cons (pv 2) pa_nil))))
    (pss_one ps_never)
    pss_nil)))
  (pss_one (ps_ret (pe_callTy call_tuple_d (by rfl) T.b_tuple (by decide +kernel) (pa_cons (pv 0) pa_nil)))))), ?_⟩
    show (_ : TS) _ [some (.ref a), some (.str f), none] H
    simp only [r_seq, r_next, r_brk, r_cont, r_asg, r_name, r_ret, r_retN, r_drop, r_ifs, r_never, r_var, r_c, r_op, r_un, r_if, r_tst, r_b, r_not, r_and, r_or, r_andV, r_orV, r_notV, r_nil, r_cons, r_tup, r_lst, r_cb, r_call, r_bm, r_bm0, r_sl, r_nopart, r_part, r_rev, r_gnil, r_gcons, r_gsub, r_par, r_aug, r_chain, r_I0, r_I, r_U, r_ixd, r_lend, r_tupd, r_listd, r_sld, r_app, r_ext, r_reverse, r_setl, r_cat, r_int1, r_eqS, r_neS, scal_ii, scal_bb, scal_ss, at0, at1, at2, sq_lst, sq_tup, isLst_lst, List.getElem?_cons_zero, List.getElem?_cons_succ, List.set_cons_zero, List.set_cons_succ, V.int.injEq, V.bl.injEq, V.ref.injEq, V.str.injEq, HO.lst.injEq, HO.tup.injEq, Option.some.injEq, exists_eq_left', exists_eq_left, List.cons.injEq, and_true, true_and, decide_eq_true_eq, reduceCtorEq, false_and, exists_false, or_false, false_or, exists_const, and_assoc, exists_and_left, List.append_nil, ix0, ix1, ix2, cm_mod, cdw1009, cdw2003, cdw7, cdw64, cdw2, cm104729, cm2, cm3, upd_same, List.length_cons, List.length_nil, Int.reduceLT, Int.reduceLE, Nat.reduceAdd, Nat.reduceLeDiff, Nat.reduceLT, Int.reduceToNat, r_for1, r_forL, r_forT, r_lcL, r_lc1, r_yes, r_gtupD, wipe_0, wipe_1, List.cons_append, List.nil_append, r_forS, r_ipI, ite_false, ite_true, Bool.not_true, Bool.not_false, decide_true, decide_false, r_isd, r_islt, cD_ty, cD_ref, tD_non, tD_bl, tD_int, tD_str, tD_ref, tH_lst, tH_tup, tH_dK, tH_ins, ki_self, ki_int_bool, ki_non_int, ki_str_int, ki_lt_lst, ki_lt_tup, r_fld, r_sfld, HO.ins.injEq, cx_K, ha]
    refine ⟨szl (by decide), fun p hp => ?_⟩
    have sp := Same.new' (o := .tup [.ty "list", .ty "tuple"]) (Same.refl H) hp
    have ha1 := sp _ _ ha
    generalize L2.upd H p (.tup [.ty "list", .ty "tuple"]) = G at *
    simp only [r_seq, r_next, r_brk, r_cont, r_asg, r_name, r_ret, r_retN, r_drop, r_ifs, r_never, r_var, r_c, r_op, r_un, r_if, r_tst, r_b, r_not, r_and, r_or, r_andV, r_orV, r_notV, r_nil, r_cons, r_tup, r_lst, r_cb, r_call, r_bm, r_bm0, r_sl, r_nopart, r_part, r_rev, r_gnil, r_gcons, r_gsub, r_par, r_aug, r_chain, r_I0, r_I, r_U, r_ixd, r_lend, r_tupd, r_listd, r_sld, r_app, r_ext, r_reverse, r_setl, r_cat, r_int1, r_eqS, r_neS, scal_ii, scal_bb, scal_ss, at0, at1, at2, sq_lst, sq_tup, isLst_lst, List.getElem?_cons_zero, List.getElem?_cons_succ, List.set_cons_zero, List.set_cons_succ, V.int.injEq, V.bl.injEq, V.ref.injEq, V.str.injEq, HO.lst.injEq, HO.tup.injEq, Option.some.injEq, exists_eq_left', exists_eq_left, List.cons.injEq, and_true, true_and, decide_eq_true_eq, reduceCtorEq, false_and, exists_false, or_false, false_or, exists_const, and_assoc, exists_and_left, List.append_nil, ix0, ix1, ix2, cm_mod, cdw1009, cdw2003, cdw7, cdw64, cdw2, cm104729, cm2, cm3, upd_same, List.length_cons, List.length_nil, Int.reduceLT, Int.reduceLE, Nat.reduceAdd, Nat.reduceLeDiff, Nat.reduceLT, Int.reduceToNat, r_for1, r_forL, r_forT, r_lcL, r_lc1, r_yes, r_gtupD, wipe_0, wipe_1, List.cons_append, List.nil_append, r_forS, r_ipI, ite_false, ite_true, Bool.not_true, Bool.not_false, decide_true, decide_false, r_isd, r_islt, cD_ty, cD_ref, tD_non, tD_bl, tD_int, tD_str, tD_ref, tH_lst, tH_tup, tH_dK, tH_ins, ki_self, ki_int_bool, ki_non_int, ki_str_int, ki_lt_lst, ki_lt_tup, r_fld, r_sfld, HO.ins.injEq, cx_K, ha1]
    refine ⟨⟨_, SqL.of ha1⟩, lp_list (xs := zs.map V.str) (fun i σ H' => (∃ v, σ = [some (.ref a), some (.str f), v]) ∧ Same H H') ⟨⟨_, rfl⟩, sp⟩ (fun i σ H' _ ⟨_, e⟩ => SqL.of (e _ _ ha)) ?_ ?_⟩
    · rintro i x σ H' hx ⟨⟨v, rfl⟩, s1⟩
      obtain ⟨z, hn, rfl⟩ := List.mem_map.mp (List.mem_of_getElem? hx)
      simp only [r_seq, r_next, r_brk, r_cont, r_asg, r_name, r_ret, r_retN, r_drop, r_ifs, r_never, r_var, r_c, r_op, r_un, r_if, r_tst, r_b, r_not, r_and, r_or, r_andV, r_orV, r_notV, r_nil, r_cons, r_tup, r_lst, r_cb, r_call, r_bm, r_bm0, r_sl, r_nopart, r_part, r_rev, r_gnil, r_gcons, r_gsub, r_par, r_aug, r_chain, r_I0, r_I, r_U, r_ixd, r_lend, r_tupd, r_listd, r_sld, r_app, r_ext, r_reverse, r_setl, r_cat, r_int1, r_eqS, r_neS, scal_ii, scal_bb, scal_ss, at0, at1, at2, sq_lst, sq_tup, isLst_lst, List.getElem?_cons_zero, List.getElem?_cons_succ, List.set_cons_zero, List.set_cons_succ, V.int.injEq, V.bl.injEq, V.ref.injEq, V.str.injEq, HO.lst.injEq, HO.tup.injEq, Option.some.injEq, exists_eq_left', exists_eq_left, List.cons.injEq, and_true, true_and, decide_eq_true_eq, reduceCtorEq, false_and, exists_false, or_false, false_or, exists_const, and_assoc, exists_and_left, List.append_nil, ix0, ix1, ix2, cm_mod, cdw1009, cdw2003, cdw7, cdw64, cdw2, cm104729, cm2, cm3, upd_same, List.length_cons, List.length_nil, Int.reduceLT, Int.reduceLE, Nat.reduceAdd, Nat.reduceLeDiff, Nat.reduceLT, Int.reduceToNat, r_for1, r_forL, r_forT, r_lcL, r_lc1, r_yes, r_gtupD, wipe_0, wipe_1, List.cons_append, List.nil_append, r_forS, r_ipI, ite_false, ite_true, Bool.not_true, Bool.not_false, decide_true, decide_false, r_isd, r_islt, cD_ty, cD_ref, tD_non, tD_bl, tD_int, tD_str, tD_ref, tH_lst, tH_tup, tH_dK, tH_ins, ki_self, ki_int_bool, ki_non_int, ki_str_int, ki_lt_lst, ki_lt_tup, r_fld, r_sfld, HO.ins.injEq, cx_K]
      exact ⟨z, rfl, hz z hn, fun H2 s2 => ⟨true, rfl, ⟨_, rfl⟩, fun b o e => s2 b o (s1 b o e)⟩⟩
    · rintro σ H' ⟨⟨v, rfl⟩, s1⟩
      have ha2 := s1 _ _ ha
      simp only [r_seq, r_next, r_brk, r_cont, r_asg, r_name, r_ret, r_retN, r_drop, r_ifs, r_never, r_var, r_c, r_op, r_un, r_if, r_tst, r_b, r_not, r_and, r_or, r_andV, r_orV, r_notV, r_nil, r_cons, r_tup, r_lst, r_cb, r_call, r_bm, r_bm0, r_sl, r_nopart, r_part, r_rev, r_gnil, r_gcons, r_gsub, r_par, r_aug, r_chain, r_I0, r_I, r_U, r_ixd, r_lend, r_tupd, r_listd, r_sld, r_app, r_ext, r_reverse, r_setl, r_cat, r_int1, r_eqS, r_neS, scal_ii, scal_bb, scal_ss, at0, at1, at2, sq_lst, sq_tup, isLst_lst, List.getElem?_cons_zero, List.getElem?_cons_succ, List.set_cons_zero, List.set_cons_succ, V.int.injEq, V.bl.injEq, V.ref.injEq, V.str.injEq, HO.lst.injEq, HO.tup.injEq, Option.some.injEq, exists_eq_left', exists_eq_left, List.cons.injEq, and_true, true_and, decide_eq_true_eq, reduceCtorEq, false_and, exists_false, or_false, false_or, exists_const, and_assoc, exists_and_left, List.append_nil, ix0, ix1, ix2, cm_mod, cdw1009, cdw2003, cdw7, cdw64, cdw2, cm104729, cm2, cm3, upd_same, List.length_cons, List.length_nil, Int.reduceLT, Int.reduceLE, Nat.reduceAdd, Nat.reduceLeDiff, Nat.reduceLT, Int.reduceToNat, r_for1, r_forL, r_forT, r_lcL, r_lc1, r_yes, r_gtupD, wipe_0, wipe_1, List.cons_append, List.nil_append, r_forS, r_ipI, ite_false, ite_true, Bool.not_true, Bool.not_false, decide_true, decide_false, r_isd, r_islt, cD_ty, cD_ref, tD_non, tD_bl, tD_int, tD_str, tD_ref, tH_lst, tH_tup, tH_dK, tH_ins, ki_self, ki_int_bool, ki_non_int, ki_str_int, ki_lt_lst, ki_lt_tup, r_fld, r_sfld, HO.ins.injEq, cx_K, ha2]
      exact fun l hl => k l _ (s1.free hl) (Same.new' s1 hl) upd_same
end
end C57

set_option maxHeartbeats 2000000
namespace C57
open PySem PySem.Spec PyProof.Rows L2
/-- while by a word that may carry a number that falls -/
theorem while_w {σ : L2.St} {H : Hp} {D : Ends} {c : TT} {tb : TS} (W : Nat → L2.St → Hp → Prop) {m0 : Nat} (h0 : W m0 σ H)
    (hs : ∀ m σ H, W m σ H → ∃ b, (∀ Q : Bool → Hp → Prop, Q b H → c σ H Q) ∧ (b = true → tb { D with nx := fun σ' H' => ∃ m', m' < m ∧ W m' σ' H', ct := fun σ' H' => ∃ m', m' < m ∧ W m' σ' H', bk := D.nx } σ H) ∧ (b = false → D.nx σ H)) : tWhile c tb D σ H := by
  refine ⟨W, ⟨m0, h0⟩, ?_⟩
  intro m σ H p
  obtain ⟨b, hc, h1, h2⟩ := hs m σ H p
  refine hc _ ?_
  cases b with
  | true => exact ⟨_, fun σ' H' h => h, h1 rfl⟩
  | false => exact h2 rfl
mutual
theorem CV.pos {H : Hp} : ∀ {k : Nat} {v : V} {n : Nat}, CV H k v n → 1 ≤ n
  | _, _, _, .non k => Nat.le_refl 1
  | _, _, _, .bl k b => Nat.le_refl 1
  | _, _, _, .int k i => Nat.le_refl 1
  | _, _, _, .str k z h => Nat.le_refl 1
  | _, _, _, .tup h t => Nat.le_add_left 1 _
end
abbrev It3 : Type := V × Nat × Nat
theorem CVs.items {H : Hp} (a : Nat) : ∀ {k : Nat} {vs : List V} {n : Nat}, CVs H k vs n → ∃ its : List It3, its.map (·.1) = vs ∧ (∀ it ∈ its, it.2.1 = a ∧ CV H k it.1 it.2.2) ∧ (its.map (·.2.2)).sum = n
  | _, _, _, .nil k => ⟨[], rfl, (fun it (h : it ∈ []) => nomatch h), rfl⟩
  | _, _, _, .cons (x := x) (n := n) h t => by
    obtain ⟨its, h1, h2, h3⟩ := CVs.items a t
    refine ⟨(x, a, n) :: its, by rw [List.map_cons, h1], fun it hi => ?_, by rw [List.map_cons, List.sum_cons, h3]⟩
    rcases List.mem_cons.mp hi with rfl | hi
    · exact ⟨rfl, h⟩
    · exact h2 it hi
theorem items_len {its : List It3} (h : ∀ it ∈ its, 1 ≤ it.2.2) : its.length ≤ (its.map (·.2.2)).sum := by
  induction its with
  | nil => exact Nat.le_refl 0
  | cons it its ih =>
    have h1 := h it List.mem_cons_self
    have h2 := ih fun x hx => h x (List.mem_cons_of_mem _ hx)
    rw [List.map_cons, List.sum_cons, List.length_cons]
    omega
theorem pair_fst {α : Type} {a : Nat} {F : α → V → Prop} {G : α → It3 → Prop} (h : ∀ r (it : It3), it.2.1 = a → F r it.1 → G r it) : ∀ {rs : List α} {its : List It3}, Paired F rs (its.map (·.1)) → (∀ it ∈ its, it.2.1 = a) → Paired G rs its
  | [], [], _, _ => .nil
  | r :: rs, it :: its, .cons p q, e => .cons (h r it (e it List.mem_cons_self) p) (pair_fst h q fun x hx => e x (List.mem_cons_of_mem _ hx))
theorem Paired.app' {α β : Type} {F : α → β → Prop} : ∀ {l1 m1 : List α} {l2 m2 : List β}, Paired F l1 l2 → Paired F m1 m2 → Paired F (l1 ++ m1) (l2 ++ m2)
  | _, _, _, _, .nil, h => h
  | _, _, _, _, .cons h t, k => .cons h (Paired.app' t k)
theorem r_pop {x : V} {vs : List V} {H : Hp} {Q : VK} : rPop x vs H Q = ∃ l xs y, x = .ref l ∧ vs = [] ∧ H l = some (.lst xs) ∧ xs[xs.length - 1]? = some y ∧ Q y (L2.upd H l (.lst xs.dropLast)) := rfl
theorem r_lcT {K : PySem.W.Frag} {σ : L2.St} {H : Hp} {g : TG} {tl : TE} {tt : TT} {te : TE} {vs : List Nat} {Q : VK} : tLc (iTup K tl) g tt te vs σ H Q = tl σ H (fun x H1 => ∃ a, x = .ref a ∧ (∃ xs, SqT K H1 a xs) ∧ ∀ D, H1 D = none → CompR (Itt K a) g tt te vs σ Q D (L2.upd H1 D (.lst []))) := rfl
theorem cp_tup {K : PySem.W.Frag} {σ : L2.St} {g : TG} {a : Addr} {xs : List V} {tt : TT} {te : TE} {vs : List Nat} {A : Addr} {H1 : Hp} {Q : VK} (Pv : Nat → Hp → Prop) (h0 : Pv 0 (L2.upd H1 A (.lst []))) (hl : ∀ i H, i ≤ xs.length → Pv i H → SqT K H a xs)
    (hs : ∀ i x H, xs[i]? = some x → Pv i H → g x (wipe σ vs) H fun σ2 H2 => wipe σ2 vs = wipe σ vs ∧ tt σ2 H2 fun b H3 =>
      if b = true then te σ2 H3 fun y H4 => ∃ acc, H4 A = some (.lst acc) ∧ acc.length < sizeLine ∧ Pv (i + 1) (L2.upd H4 A (.lst (acc ++ [y]))) else Pv (i + 1) H3) (hd : ∀ H, Pv xs.length H → Q (.ref A) H) :
    CompR (Itt K a) g tt te vs σ Q A (L2.upd H1 A (.lst [])) := lc_tup Pv h0 hl hs hd
/-- what waits -/
def Wait (H : Hp) (W : Addr) (m : Nat) (σ : L2.St) (H' : Hp) : Prop := (∃ v0 v2, σ = [v0, some (.ref W), v2, none]) ∧ Same H H' ∧ ∃ (refs : List Addr) (its : List It3), H' W = some (.lst (refs.map V.ref)) ∧ Paired (fun r it => r ≠ W ∧ H' r = some (.tup [it.1, .int (it.2.1 : Int)])) refs its ∧ (∀ it ∈ its, it.2.1 ≤ 100 ∧ CV H (100 - it.2.1) it.1 it.2.2) ∧ m = (its.map (·.2.2)).sum ∧ m ≤ 100000
section
variable {K : PySem.W.Frag}
theorem ki_non_tup : PySem.W.kitOne K (.type "NoneType") (.type "tuple") = some false := kit_ty (by decide +kernel)
theorem ki_bl_tup : PySem.W.kitOne K (.type "bool") (.type "tuple") = some false := kit_ty (by decide +kernel)
theorem ki_int_tup : PySem.W.kitOne K (.type "int") (.type "tuple") = some false := kit_ty (by decide +kernel)
theorem ki_str_tup : PySem.W.kitOne K (.type "str") (.type "tuple") = some false := kit_ty (by decide +kernel)
theorem ki_tup_int : PySem.W.kitOne K (.type "tuple") (.type "int") = some false := kit_ty (by decide +kernel)
theorem ki_bl_int : PySem.W.kitOne K (.type "bool") (.type "int") = some true := kit_ty (by decide +kernel)
end
def t_cturn (K : PySem.W.Frag) (CC : Addr) : TS := tSeq (tAsg (tBM0 K "list" rPop (tVar 1)) (gTupD 2 (gCons (gName 0) (gCons (gName 2) gNil))))
  (tIfS (tAnd (tB (tCB (rIsD K CC) (tCons (tVar 0) (tCons (tC (V.ty "tuple")) tNil)))) (tTest (tOp (rI0 fun i j => V.bl (decide (i < j))) (tVar 2) (tC (V.int 100)))))
    (tDrop (tBM K "list" rExtend (tVar 1) (tCons (tLc (iTup K (tVar 0)) (gName 3) tYes (tTup (tCons (tVar 3) (tCons (tOp (rI0 fun i j => V.int (i + j)) (tVar 2) (tC (V.int 1))) tNil))) (List.map (fun x => x.snd) [((Str.ofString "inner", 3) : Str × Nat)])) tNil)))
    (tIfS (tAnd (tTest (tOp (fun x y H Q => y = V.non ∧ Q (V.bl !decide (x = V.non)) H) (tVar 0) (tC V.non))) (tAnd (tNot (tB (tCB (rIsD K CC) (tCons (tVar 0) (tCons (tC (V.ty "int")) tNil))))) (tNot (tB (tCall spIsString [] E0 (tCons (tVar 0) tNil))))))
      (tRet (tC (V.bl false))) tNext))
theorem cturn_run {K : PySem.W.Frag} {CC W : Addr} {H H1 : Hp} {m : Nat} {v0 v2 : Option V} {refs : List Addr} {its : List It3} {r : Addr} {it : It3} {Dn : Ends} (W0 : H W = none) (s1 : Same H H1) (h1 : H1 W = some (.lst ((refs ++ [r]).map V.ref))) (pr : Paired (fun r it => r ≠ W ∧ H1 r = some (.tup [it.1, .int (it.2.1 : Int)])) (refs ++ [r]) (its ++ [it]))
    (ok : ∀ it' ∈ its ++ [it], it'.2.1 ≤ 100 ∧ CV H (100 - it'.2.1) it'.1 it'.2.2) (em : m = ((its ++ [it]).map (·.2.2)).sum) (hm : m ≤ 100000) (k : ∀ m' σ H', m' < m → Wait H W m' σ H' → Dn.nx σ H') : t_cturn K CC Dn [v0, some (.ref W), v2, none] H1 := by
  obtain ⟨p1, rW, hr⟩ : Paired (fun r it => r ≠ W ∧ H1 r = some (.tup [it.1, .int (it.2.1 : Int)])) refs its ∧ r ≠ W ∧ H1 r = some (.tup [it.1, .int (it.2.1 : Int)]) := by
    obtain ⟨xs, x, e, q1, q2⟩ := Paired.snocR pr
    obtain ⟨e1, e2⟩ := List.append_inj' e rfl
    cases e2
    rw [e1]
    exact ⟨q1, q2⟩
  obtain ⟨it1, it2⟩ := ok it (by simp)
  rw [List.map_append, List.sum_append] at em
  have em2 : m = (its.map (·.2.2)).sum + it.2.2 := by rw [em]; simp
  have oki : ∀ it' ∈ its, it'.2.1 ≤ 100 ∧ CV H (100 - it'.2.1) it'.1 it'.2.2 := fun x hx => ok x (List.mem_append_left _ hx)
  have lr := Paired.length p1
  have ip : ∀ it' ∈ its, 1 ≤ it'.2.2 := fun x hx => (oki x hx).2.pos
  have il := items_len ip
  have pos := it2.pos
  unfold t_cturn
  have rl : ((refs ++ [r]).map V.ref)[((refs ++ [r]).map V.ref).length - 1]? = some (.ref r) := by simp
  have dl : ((refs ++ [r]).map V.ref).dropLast = refs.map V.ref := by simp
  obtain ⟨v, a, n⟩ := it
  have hr : H1 r = some (.tup [v, .int (a : Int)]) := hr
  have it2 : CV H (100 - a) v n := it2
  have hr2 : L2.upd H1 W (.lst (refs.map V.ref)) r = some (.tup [v, .int (a : Int)]) := by rw [upd_ne rW]; exact hr
  simp only [r_seq, r_next, r_brk, r_cont, r_asg, r_name, r_ret, r_retN, r_drop, r_ifs, r_never, r_var, r_c, r_op, r_un, r_if, r_tst, r_b, r_not, r_and, r_or, r_andV, r_orV, r_notV, r_nil, r_cons, r_tup, r_lst, r_cb, r_call, r_bm, r_bm0, r_sl, r_nopart, r_part, r_rev, r_gnil, r_gcons, r_gsub, r_par, r_aug, r_chain, r_I0, r_I, r_U, r_ixd, r_lend, r_tupd, r_listd, r_sld, r_app, r_ext, r_reverse, r_setl, r_cat, r_int1, r_eqS, r_neS, scal_ii, scal_bb, scal_ss, at0, at1, at2, sq_lst, sq_tup, isLst_lst, List.getElem?_cons_zero, List.getElem?_cons_succ, List.set_cons_zero, List.set_cons_succ, V.int.injEq, V.bl.injEq, V.ref.injEq, V.str.injEq, HO.lst.injEq, HO.tup.injEq, Option.some.injEq, exists_eq_left', exists_eq_left, List.cons.injEq, and_true, true_and, decide_eq_true_eq, reduceCtorEq, false_and, exists_false, or_false, false_or, exists_const, and_assoc, exists_and_left, List.append_nil, ix0, ix1, ix2, cm_mod, cdw1009, cdw2003, cdw7, cdw64, cdw2, cm104729, cm2, cm3, upd_same, List.length_cons, List.length_nil, Int.reduceLT, Int.reduceLE, Nat.reduceAdd, Nat.reduceLeDiff, Nat.reduceLT, Int.reduceToNat, r_for1, r_forL, r_forT, r_lcL, r_lc1, r_yes, r_gtupD, wipe_0, wipe_1, List.cons_append, List.nil_append, r_forS, r_ipI, ite_false, ite_true, Bool.not_true, Bool.not_false, decide_true, decide_false, r_isd, r_islt, cD_ty, cD_ref, tD_non, tD_bl, tD_int, tD_str, tD_ref, tH_lst, tH_tup, tH_dK, tH_ins, ki_self, ki_int_bool, ki_non_int, ki_str_int, ki_lt_lst, ki_lt_tup, r_fld, r_sfld, HO.ins.injEq, cx_K, r_pop, h1, rl, dl, hr2]
  refine ⟨tyl h1, ?_⟩
  have s2 : Same H (L2.upd H1 W (.lst (refs.map V.ref))) := fun y o e => by
    rw [upd_ne (ne_new e W0)]
    exact s1 y o e
  have h2 : L2.upd H1 W (.lst (refs.map V.ref)) W = some (.lst (refs.map V.ref)) := upd_same
  have p2 : Paired (fun r it => r ≠ W ∧ L2.upd H1 W (.lst (refs.map V.ref)) r = some (.tup [it.1, .int (it.2.1 : Int)])) refs its := Paired.map' p1 fun x y h => ⟨h.1, by rw [upd_ne h.1]; exact h.2⟩
  generalize L2.upd H1 W (.lst (refs.map V.ref)) = G at *
  have em3 : m = (its.map (·.2.2)).sum + n := em2
  have pos : 1 ≤ n := pos
  have la : a ≤ 100 := it1
  have leaf : ∀ v0 v2, Dn.nx [v0, some (.ref W), v2, none] G := fun v0 v2 => k (its.map (·.2.2)).sum _ G (by omega) ⟨⟨_, _, rfl⟩, s2, refs, its, h2, p2, oki, rfl, by omega⟩
  obtain ⟨q, hq⟩ : ∃ q, q = 100 - a := ⟨_, rfl⟩
  rw [← hq] at it2
  cases it2 with
  | non =>
    refine ⟨_, rfl, false, ki_non_tup, ?_⟩
    rw [if_neg (by decide), if_neg (by decide)]
    exact leaf _ _
  | bl _ b =>
    refine ⟨_, rfl, false, ki_bl_tup, ?_⟩
    rw [if_neg (by decide), if_pos (by simp)]
    refine ⟨_, rfl, true, ki_bl_int, ?_⟩
    rw [if_neg (by decide)]
    exact leaf _ _
  | int _ i =>
    refine ⟨_, rfl, false, ki_int_tup, ?_⟩
    rw [if_neg (by decide), if_pos (by simp)]
    refine ⟨_, rfl, true, ki_self, ?_⟩
    rw [if_neg (by decide)]
    exact leaf _ _
  | str _ z hz =>
    refine ⟨_, rfl, false, ki_str_tup, ?_⟩
    rw [if_neg (by decide), if_pos (by simp)]
    refine ⟨_, rfl, false, ki_str_int, ?_⟩
    rw [if_pos (by decide)]
    refine ⟨z, rfl, hz, fun H3 s3 => ⟨true, rfl, ?_⟩⟩
    rw [if_neg (by decide)]
    exact k (its.map (·.2.2)).sum _ H3 (by omega) ⟨⟨_, _, rfl⟩, fun y o e => s3 y o (s2 y o e), refs, its, s3 _ _ h2, Paired.map' p2 fun x y h => ⟨h.1, s3 _ _ h.2⟩, oki, rfl, by omega⟩
  | @tup q b xs n' ht t =>
    have hb := s2 _ _ ht
    obtain ⟨its2, j1, j2, j3⟩ := CVs.items (a + 1) t
    have j4 := items_len fun x hx => (j2 x hx).2.pos
    have j5 : its2.length = xs.length := by rw [← j1, List.length_map]
    rw [j3] at j4
    refine ⟨.type "tuple", by simp [tyD, tyH, hb], true, ki_self, ?_⟩
    rw [if_pos rfl, if_pos (by omega), r_lcT]
    refine ⟨tyl h2, .ref b, rfl, b, rfl, ⟨_, SqT.of hb⟩, fun D hD => ?_⟩
    have DW : W ≠ D := ne_new h2 hD
    refine cp_tup (xs := xs) (fun i H' => Same G H' ∧ ∃ qs : List Addr, H' D = some (.lst (qs.map V.ref)) ∧ Paired (fun q x => G q = none ∧ H' q = some (.tup [x, .int ((a + 1 : Nat) : Int)])) qs (xs.take i)) ⟨Same.new' (Same.refl G) hD, [], upd_same, .nil⟩ (fun i H' _ h => SqT.of (h.1 _ _ hb)) ?_ ?_
    · rintro i x H2 hx ⟨s3, qs, hq2, hp2⟩
      obtain ⟨hi, rfl⟩ := List.getElem?_eq_some_iff.mp hx
      have lq := Paired.length hp2
      rw [List.length_take] at lq
      simp only [r_seq, r_next, r_brk, r_cont, r_asg, r_name, r_ret, r_retN, r_drop, r_ifs, r_never, r_var, r_c, r_op, r_un, r_if, r_tst, r_b, r_not, r_and, r_or, r_andV, r_orV, r_notV, r_nil, r_cons, r_tup, r_lst, r_cb, r_call, r_bm, r_bm0, r_sl, r_nopart, r_part, r_rev, r_gnil, r_gcons, r_gsub, r_par, r_aug, r_chain, r_I0, r_I, r_U, r_ixd, r_lend, r_tupd, r_listd, r_sld, r_app, r_ext, r_reverse, r_setl, r_cat, r_int1, r_eqS, r_neS, scal_ii, scal_bb, scal_ss, at0, at1, at2, sq_lst, sq_tup, isLst_lst, List.getElem?_cons_zero, List.getElem?_cons_succ, List.set_cons_zero, List.set_cons_succ, V.int.injEq, V.bl.injEq, V.ref.injEq, V.str.injEq, HO.lst.injEq, HO.tup.injEq, Option.some.injEq, exists_eq_left', exists_eq_left, List.cons.injEq, and_true, true_and, decide_eq_true_eq, reduceCtorEq, false_and, exists_false, or_false, false_or, exists_const, and_assoc, exists_and_left, List.append_nil, ix0, ix1, ix2, cm_mod, cdw1009, cdw2003, cdw7, cdw64, cdw2, cm104729, cm2, cm3, upd_same, List.length_cons, List.length_nil, Int.reduceLT, Int.reduceLE, Nat.reduceAdd, Nat.reduceLeDiff, Nat.reduceLT, Int.reduceToNat, r_for1, r_forL, r_forT, r_lcL, r_lc1, r_yes, r_gtupD, wipe_0, wipe_1, List.cons_append, List.nil_append, r_forS, r_ipI, ite_false, ite_true, Bool.not_true, Bool.not_false, decide_true, decide_false, r_isd, r_islt, cD_ty, cD_ref, tD_non, tD_bl, tD_int, tD_str, tD_ref, tH_lst, tH_tup, tH_dK, tH_ins, ki_self, ki_int_bool, ki_non_int, ki_str_int, ki_lt_lst, ki_lt_tup, r_fld, r_sfld, HO.ins.injEq, cx_K, List.map_cons, List.map_nil]
      refine ⟨szl (by decide : 2 ≤ 1000), fun p hp => ⟨qs.map V.ref, by rw [upd_ne (ne_new hq2 hp)]; exact hq2, Nat.lt_of_le_of_lt (by rw [List.length_map]; omega : _ ≤ 100000) (by decide), fun y o e => ?_, qs ++ [p], by rw [List.map_append]; rfl, ?_⟩⟩
      · have e3 := s3 y o e
        rw [upd_ne (ne_new e hD), upd_ne (ne_new e3 hp)]
        exact e3
      · rw [List.take_succ_eq_append_getElem hi]
        have pD : p ≠ D := new_ne hq2 hp
        refine Paired.snoc' (Paired.map' hp2 fun x y h => ⟨h.1, ?_⟩) ⟨s3.free hp, ?_⟩
        · have xD : x ≠ D := fun z => by rw [z, hq2] at h; cases h.2
          rw [upd_ne xD, upd_ne (ne_new h.2 hp)]
          exact h.2
        · rw [upd_ne pD, upd_same, Int.natCast_add]
          rfl
    · rintro H2 ⟨s3, qs, hq2, hp2⟩
      rw [List.take_length] at hp2
      have lq := Paired.length hp2
      have s5 : Same H (L2.upd H2 W (.lst (refs.map V.ref ++ qs.map V.ref))) := fun y o e => by
        rw [upd_ne (ne_new e W0)]
        exact s3 _ _ (s2 _ _ e)
      refine ⟨D, rfl, _, s3 _ _ h2, _, hq2, Nat.le_trans (by rw [List.length_map, List.length_map]; omega : _ ≤ 200000) (by decide), ?_⟩
      have h6 : L2.upd H2 W (.lst (refs.map V.ref ++ qs.map V.ref)) W = some (.lst ((refs ++ qs).map V.ref)) := by rw [upd_same, List.map_append]
      have h7 : (its.map (·.2.2)).sum + n' = ((its ++ its2).map (·.2.2)).sum := by rw [List.map_append, List.sum_append, j3]
      refine k ((its.map (·.2.2)).sum + n') _ _ (by omega) ⟨⟨_, _, rfl⟩, s5, refs ++ qs, its ++ its2, h6, ?_, fun it' hi => ?_, h7, by omega⟩
      · refine Paired.app' (Paired.map' p2 fun x y h => ⟨h.1, by rw [upd_ne h.1]; exact s3 _ _ h.2⟩) ?_
        have z : Paired (fun r x => r ≠ W ∧ L2.upd H2 W (.lst (refs.map V.ref ++ qs.map V.ref)) r = some (.tup [x, .int ((a + 1 : Nat) : Int)])) qs (its2.map (·.1)) := by
          rw [j1]
          refine Paired.map' hp2 fun x y h => ?_
          have xW : x ≠ W := fun z => by rw [z, h2] at h; cases h.1
          exact ⟨xW, by rw [upd_ne xW]; exact h.2⟩
        exact pair_fst (fun r it h e => ⟨e.1, by rw [h]; exact e.2⟩) z (fun it h => (j2 it h).1)
      · rcases List.mem_append.mp hi with hi | hi
        · exact oki it' hi
        · obtain ⟨q1, q2⟩ := j2 it' hi
          rw [q1]
          exact ⟨by omega, by rw [show 100 - (a + 1) = q from by omega]; exact q2⟩
section
variable {P : Program} {w : World} {K : PySem.W.Frag} {mg : Str → Option Value} {base : Heap} {f : Addr} {fd : FuncData}
abbrev sis_constant : Stmt := top 19
theorem scis_constant : FnScope ["value", "waiting", "around", "inner"] ["value"] (defScope sis_constant) := ⟨rfl, rfl, rfl, by decide +kernel, rfl, by decide +kernel, by decide +kernel⟩

theorem ok_is_constant {CC : Addr} (T : Txt mg) (I : CodeT K mg CC) (F : FnP K "is_constant" "is_constant" sis_constant f fd) (C_is_string : Cal P w K mg base 1 "is_string" ["value"] spIsString) : FnOk P w K mg base CX0 2 f fd ["value"] spIsConst := by
  refine F.ok scis_constant (fun vs H Q E h => ?_) (fun cdv A outer s H vs Q E hr h => ?_)
  · obtain ⟨v, n, rfl, _⟩ := h
    rfl
  · obtain ⟨v, n, rfl, hv, hn, k⟩ := h
    refine ⟨_, PSs.nox (pss_cons (ps_if (PW.pt (pw_or (pt_cmpR op_isN (pv 0) pe_non (nomark _)) (pw_or1 (pt_val (pe_callB (call_is_d I.cI) (by rfl) T.b_isinstance (by decide +kernel) (pa_cons (pv 0) (pa_cons (pe_bltn (v := .ty "int") (by rfl) T.b_int (by decide +kernel) rfl) pa_nil)))))))
    (pss_one (ps_ret pe_bl))
    pss_nil)
  (pss_cons (ps_if (pt_not (pt_val (pe_callB (call_is_d I.cI) (by rfl) T.b_isinstance (by decide +kernel) (pa_cons (pv 0) (pa_cons (pe_bltn (v := .ty "tuple") (by rfl) T.b_tuple (by decide +kernel) rfl) pa_nil)))))
    (pss_one (ps_ret (pe_cal C_is_string (hr.mono (by decide)) rfl (pa_cons (pv 0) pa_nil))))
    pss_nil)
  (pss_cons (ps_set (i := 1) scis_constant.nd rfl (Or.inl rfl) (pe_lst (pa_cons (pe_tup (pa_cons (pv 0) (pa_cons pe_int pa_nil))) pa_nil)))
  (pss_cons (ps_while PassesOwn.never (pt_truth (pv 1) (by intro _; rfl))
    (pss_cons (ps_asg (pe_bm0 PySem.F.plainAttrs_list PySem.F.slot_list_pop PySem.F.type_list_pop mt_pop (pv 1)) (pg_tupD (n := 2) rfl (pgs_cons (pg_name (i := 0) scis_constant.nd rfl (Or.inl rfl)) (pgs_cons (pg_name (i := 2) scis_constant.nd rfl (Or.inr rfl)) pgs_nil))))
  (pss_one (ps_if (PW.pt (pw_and (pt_val (pe_callB (call_is_d I.cI) (by rfl) T.b_isinstance (by decide +kernel) (pa_cons (pv 0) (pa_cons (pe_bltn (v := .ty "tuple") (by rfl) T.b_tuple (by decide +kernel) rfl) pa_nil)))) (pw_and1 (pt_cmpR op_lt (pv 2) (pe_gi T.g_DEEPEST) (nomark _)))))
    (pss_one (ps_expr (pe_bm PySem.F.plainAttrs_list PySem.F.slot_list_extend PySem.F.type_list_extend mt_extend (pv 1) (pa_cons (pe_lc (own := [("inner", 3)]) (g := gName 3) (tt := tYes) rfl scis_constant.nd (pi_tup (pv 0)) (blkOk_by (own := [("inner", 3)]) (N := ["value", "waiting", "around", "inner"]) (sc := defScope sis_constant) (by decide +kernel)) (fun _ _ _ _ _ => (pg_name (i := 3) scis_constant.nd rfl (Or.inl rfl))) (fun _ _ _ _ _ => pts_nil) (fun _ _ _ _ _ => (pe_tup (pa_cons (pv 3) (pa_cons (pe_op op_add (pv 2) pe_int) pa_nil))))) pa_nil))))
    (pss_one (ps_if (PW.pt (pw_and (pt_cmpR op_notN (pv 0) pe_non (nomark _)) (pw_and (pt_not (pt_val (pe_callB (call_is_d I.cI) (by rfl) T.b_isinstance (by decide +kernel) (pa_cons (pv 0) (pa_cons (pe_bltn (v := .ty "int") (by rfl) T.b_int (by decide +kernel) rfl) pa_nil))))) (pw_and1 (pt_not (pt_val (pe_cal C_is_string (hr.mono (by decide)) rfl (pa_cons (pv 0) pa_nil))))))))
    (pss_one (ps_ret pe_bl))
    pss_nil))))))
  (pss_one (ps_ret pe_bl)))))), ?_⟩
    show (_ : TS) _ [some v, none, none, none] H
    simp only [r_seq, r_next, r_brk, r_cont, r_asg, r_name, r_ret, r_retN, r_drop, r_ifs, r_never, r_var, r_c, r_op, r_un, r_if, r_tst, r_b, r_not, r_and, r_or, r_andV, r_orV, r_notV, r_nil, r_cons, r_tup, r_lst, r_cb, r_call, r_bm, r_bm0, r_sl, r_nopart, r_part, r_rev, r_gnil, r_gcons, r_gsub, r_par, r_aug, r_chain, r_I0, r_I, r_U, r_ixd, r_lend, r_tupd, r_listd, r_sld, r_app, r_ext, r_reverse, r_setl, r_cat, r_int1, r_eqS, r_neS, scal_ii, scal_bb, scal_ss, at0, at1, at2, sq_lst, sq_tup, isLst_lst, List.getElem?_cons_zero, List.getElem?_cons_succ, List.set_cons_zero, List.set_cons_succ, V.int.injEq, V.bl.injEq, V.ref.injEq, V.str.injEq, HO.lst.injEq, HO.tup.injEq, Option.some.injEq, exists_eq_left', exists_eq_left, List.cons.injEq, and_true, true_and, decide_eq_true_eq, reduceCtorEq, false_and, exists_false, or_false, false_or, exists_const, and_assoc, exists_and_left, List.append_nil, ix0, ix1, ix2, cm_mod, cdw1009, cdw2003, cdw7, cdw64, cdw2, cm104729, cm2, cm3, upd_same, List.length_cons, List.length_nil, Int.reduceLT, Int.reduceLE, Nat.reduceAdd, Nat.reduceLeDiff, Nat.reduceLT, Int.reduceToNat, r_for1, r_forL, r_forT, r_lcL, r_lc1, r_yes, r_gtupD, wipe_0, wipe_1, List.cons_append, List.nil_append, r_forS, r_ipI, ite_false, ite_true, Bool.not_true, Bool.not_false, decide_true, decide_false, r_isd, r_islt, cD_ty, cD_ref, tD_non, tD_bl, tD_int, tD_str, tD_ref, tH_lst, tH_tup, tH_dK, tH_ins, ki_self, ki_int_bool, ki_non_int, ki_str_int, ki_lt_lst, ki_lt_tup, r_fld, r_sfld, HO.ins.injEq, cx_K]
    cases hv with
    | non =>
      rw [if_pos rfl]
      exact k H (Same.refl H)
    | bl _ b =>
      rw [if_neg (by simp)]
      refine ⟨_, rfl, true, ki_bl_int, ?_⟩
      rw [if_pos rfl]
      exact k H (Same.refl H)
    | int _ i =>
      rw [if_neg (by simp)]
      refine ⟨_, rfl, true, ki_self, ?_⟩
      rw [if_pos rfl]
      exact k H (Same.refl H)
    | str _ z hz =>
      rw [if_neg (by simp)]
      refine ⟨_, rfl, false, ki_str_int, ?_⟩
      rw [if_neg (by decide)]
      refine ⟨_, rfl, false, ki_str_tup, ?_⟩
      rw [if_pos (by decide)]
      exact ⟨z, rfl, hz, k⟩
    | @tup q b xs n' ht t =>
      rw [if_neg (by simp)]
      have hv : CV H 100 (.ref b) (n' + 1) := .tup ht t
      have et : tyD CC H (.ref b) = some (.type "tuple") := by simp [tyD, tyH, ht]
      refine ⟨_, et, false, ki_tup_int, ?_⟩
      rw [if_neg (by decide)]
      refine ⟨_, et, true, ki_self, ?_⟩
      rw [if_neg (by decide)]
      refine ⟨szl (by decide : 2 ≤ 1000), fun p hp => ⟨szl (by decide : 1 ≤ 1000), fun W hW => ?_⟩⟩
      have pW : p ≠ W := ne_new upd_same hW
      have W0 : H W = none := (Same.new' (Same.refl H) hp).free hW
      have s1 : Same H (L2.upd (L2.upd H p (.tup [.ref b, .int 0])) W (.lst [.ref p])) := Same.new' (Same.new' (Same.refl H) hp) hW
      refine while_w (tb := t_cturn K CC) (Wait H W) (m0 := n' + 1) ⟨⟨_, _, rfl⟩, s1, [p], [(.ref b, 0, n' + 1)], upd_same, .cons ⟨pW, by rw [upd_ne pW]; exact upd_same⟩ .nil, fun it hi => ?_, by simp, hn⟩ ?_
      · rw [List.mem_singleton.mp hi]
        exact ⟨Nat.zero_le _, hv⟩
      · rintro m σ H1 ⟨⟨v0, v2, rfl⟩, s2, refs, its, h2, pr, ok, em, hm⟩
        refine ⟨!(refs.map V.ref).isEmpty, fun QT q => ⟨.ref W, rfl, _, .inl ⟨_, SqL.of h2, rfl⟩, q⟩, fun hb => ?_, fun hb => ?_⟩
        · rcases List.eq_nil_or_concat refs with rfl | ⟨rs, r, rfl⟩
          · cases hb
          · rw [List.concat_eq_append] at *
            have ln := Paired.length pr
            rcases List.eq_nil_or_concat its with rfl | ⟨is, it, rfl⟩
            · simp at ln
            · rw [List.concat_eq_append] at *
              exact cturn_run W0 s2 h2 pr ok em hm fun m' σ H' lt w => ⟨m', lt, w⟩
        · simp only [r_seq, r_next, r_brk, r_cont, r_asg, r_name, r_ret, r_retN, r_drop, r_ifs, r_never, r_var, r_c, r_op, r_un, r_if, r_tst, r_b, r_not, r_and, r_or, r_andV, r_orV, r_notV, r_nil, r_cons, r_tup, r_lst, r_cb, r_call, r_bm, r_bm0, r_sl, r_nopart, r_part, r_rev, r_gnil, r_gcons, r_gsub, r_par, r_aug, r_chain, r_I0, r_I, r_U, r_ixd, r_lend, r_tupd, r_listd, r_sld, r_app, r_ext, r_reverse, r_setl, r_cat, r_int1, r_eqS, r_neS, scal_ii, scal_bb, scal_ss, at0, at1, at2, sq_lst, sq_tup, isLst_lst, List.getElem?_cons_zero, List.getElem?_cons_succ, List.set_cons_zero, List.set_cons_succ, V.int.injEq, V.bl.injEq, V.ref.injEq, V.str.injEq, HO.lst.injEq, HO.tup.injEq, Option.some.injEq, exists_eq_left', exists_eq_left, List.cons.injEq, and_true, true_and, decide_eq_true_eq, reduceCtorEq, false_and, exists_false, or_false, false_or, exists_const, and_assoc, exists_and_left, List.append_nil, ix0, ix1, ix2, cm_mod, cdw1009, cdw2003, cdw7, cdw64, cdw2, cm104729, cm2, cm3, upd_same, List.length_cons, List.length_nil, Int.reduceLT, Int.reduceLE, Nat.reduceAdd, Nat.reduceLeDiff, Nat.reduceLT, Int.reduceToNat, r_for1, r_forL, r_forT, r_lcL, r_lc1, r_yes, r_gtupD, wipe_0, wipe_1, List.cons_append, List.nil_append, r_forS, r_ipI, ite_false, ite_true, Bool.not_true, Bool.not_false, decide_true, decide_false, r_isd, r_islt, cD_ty, cD_ref, tD_non, tD_bl, tD_int, tD_str, tD_ref, tH_lst, tH_tup, tH_dK, tH_ins, ki_self, ki_int_bool, ki_non_int, ki_str_int, ki_lt_lst, ki_lt_tup, r_fld, r_sfld, HO.ins.injEq, cx_K]
          exact k H1 s2
end
end C57

set_option maxHeartbeats 2000000
namespace C57
open PySem PySem.Spec PyProof.Rows L2
/-- one constant, and how deep it makes a code -/
def ItemC (CC : Addr) (H : Hp) (x : V) (e : Nat) : Prop := (∃ n, CV H 100 x n ∧ n ≤ 100000 ∧ e = 0) ∨ ∃ (c dx : Addr) (fs : List (Str × V)) (d : Nat), x = .ref c ∧ H c = some (.ins CC dx fs) ∧ fs.lookup ("depth" : Str) = some (.int (d : Int)) ∧ e = d + 1
def depF (es : List Nat) : Nat := es.foldl max 1
theorem ItemC.same {CC : Addr} {H H' : Hp} {x : V} {e : Nat} (h : ItemC CC H x e) (s : Same H H') : ItemC CC H' x e := by
  rcases h with ⟨n, h1, h2, h3⟩ | ⟨c, dx, fs, d, h1, h2, h3, h4⟩
  · exact .inl ⟨n, h1.same s, h2, h3⟩
  · exact .inr ⟨c, dx, fs, d, h1, s _ _ h2, h3, h4⟩
def spDepthOf (CC : Addr) : Sp := fun vs H Q _ => ∃ (a : Addr) (xs : List V) (es : List Nat), vs = [.ref a] ∧ H a = some (.lst xs) ∧ Paired (ItemC CC H) xs es ∧ depF es ≤ 100 ∧ ∀ H', Same H H' → Q (.int (depF es : Int)) H'
section
variable {P : Program} {w : World} {K : PySem.W.Frag} {mg : Str → Option Value} {base : Heap} {f : Addr} {fd : FuncData}
abbrev sdepth_of : Stmt := top 18
theorem scdepth_of : FnScope ["constants", "depth", "value"] ["constants"] (defScope sdepth_of) := ⟨rfl, rfl, rfl, by decide +kernel, rfl, by decide +kernel, by decide +kernel⟩

theorem ok_depth_of {CC : Addr} (T : Txt mg) (I : CodeT K mg CC) (yes : PySem.W.kitOne K (.ref CC) (.ref CC) = some true) (F : FnP K "depth_of" "depth_of" sdepth_of f fd) (C_is_constant : Cal P w K mg base 2 "is_constant" ["value"] spIsConst) : FnOk P w K mg base CX0 3 f fd ["constants"] (spDepthOf CC) := by
  refine F.ok scdepth_of (fun vs H Q E h => ?_) (fun cdv A outer s H vs Q E hr h => ?_)
  · obtain ⟨a, xs, es, rfl, _⟩ := h
    rfl
  · obtain ⟨a, xs, es, rfl, ha, pr, hd, k⟩ := h
    refine ⟨_, PSs.nox (pss_cons (ps_if (pt_not (pt_val (pe_callB (call_is_lt I.cI) (by rfl) T.b_isinstance (by decide +kernel) (pa_cons (pv 0) (pa_cons (pe_tup (pa_cons (pe_bltn (v := .ty "list") (by rfl) T.b_list (by decide +kernel) rfl) (pa_cons (pe_bltn (v := .ty "tuple") (by rfl) T.b_tuple (by decide +kernel) rfl) pa_nil))) pa_nil)))))
    (pss_one ps_never)
    pss_nil)
  (pss_cons (ps_set (i := 1) scdepth_of.nd rfl (Or.inl rfl) pe_int)
  (pss_cons (ps_for PassesOwn.never rfl (pi_list (pv 0)) (pg_name (i := 2) scdepth_of.nd rfl (Or.inl rfl))
    (pss_one (ps_if (pt_val (pe_callB (call_is_d I.cI) (by rfl) T.b_isinstance (by decide +kernel) (pa_cons (pv 2) (pa_cons (pe_glob (v := .ref _) rfl I.g_Code rfl) pa_nil))))
    (pss_one (ps_set (i := 1) scdepth_of.nd rfl (Or.inl rfl) (pe_callB (call_max2 rfl) (by rfl) T.b_max (by decide +kernel) (pa_cons (pv 1) (pa_cons (pe_op op_add (pe_fld (pv 2) rfl) pe_int) pa_nil)))))
    (pss_one (ps_if (pt_not (pt_val (pe_cal C_is_constant (hr.mono (by decide)) rfl (pa_cons (pv 2) pa_nil))))
    (pss_one ps_never)
    pss_nil)))))
  (pss_cons (ps_if (pt_cmpR op_gt (pv 1) (pe_gi T.g_DEEPEST) (nomark _))
    (pss_one ps_never)
    pss_nil)
  (pss_one (ps_ret (pv 1))))))), ?_⟩
    show (_ : TS) _ [some (.ref a), none, none] H
    simp only [r_seq, r_next, r_brk, r_cont, r_asg, r_name, r_ret, r_retN, r_drop, r_ifs, r_never, r_var, r_c, r_op, r_un, r_if, r_tst, r_b, r_not, r_and, r_or, r_andV, r_orV, r_notV, r_nil, r_cons, r_tup, r_lst, r_cb, r_call, r_bm, r_bm0, r_sl, r_nopart, r_part, r_rev, r_gnil, r_gcons, r_gsub, r_par, r_aug, r_chain, r_I0, r_I, r_U, r_ixd, r_lend, r_tupd, r_listd, r_sld, r_app, r_ext, r_reverse, r_setl, r_cat, r_int1, r_eqS, r_neS, scal_ii, scal_bb, scal_ss, at0, at1, at2, sq_lst, sq_tup, isLst_lst, List.getElem?_cons_zero, List.getElem?_cons_succ, List.set_cons_zero, List.set_cons_succ, V.int.injEq, V.bl.injEq, V.ref.injEq, V.str.injEq, HO.lst.injEq, HO.tup.injEq, Option.some.injEq, exists_eq_left', exists_eq_left, List.cons.injEq, and_true, true_and, decide_eq_true_eq, reduceCtorEq, false_and, exists_false, or_false, false_or, exists_const, and_assoc, exists_and_left, List.append_nil, ix0, ix1, ix2, cm_mod, cdw1009, cdw2003, cdw7, cdw64, cdw2, cm104729, cm2, cm3, upd_same, List.length_cons, List.length_nil, Int.reduceLT, Int.reduceLE, Nat.reduceAdd, Nat.reduceLeDiff, Nat.reduceLT, Int.reduceToNat, r_for1, r_forL, r_forT, r_lcL, r_lc1, r_yes, r_gtupD, wipe_0, wipe_1, List.cons_append, List.nil_append, r_forS, r_ipI, ite_false, ite_true, Bool.not_true, Bool.not_false, decide_true, decide_false, r_isd, r_islt, cD_ty, cD_ref, tD_non, tD_bl, tD_int, tD_str, tD_ref, tH_lst, tH_tup, tH_dK, tH_ins, ki_self, ki_int_bool, ki_non_int, ki_str_int, ki_lt_lst, ki_lt_tup, r_fld, r_sfld, HO.ins.injEq, cx_K, ha]
    refine ⟨szl (by decide), fun p hp => ?_⟩
    have sp := Same.new' (o := .tup [.ty "list", .ty "tuple"]) (Same.refl H) hp
    have ha1 := sp _ _ ha
    generalize L2.upd H p (.tup [.ty "list", .ty "tuple"]) = G at *
    simp only [r_seq, r_next, r_brk, r_cont, r_asg, r_name, r_ret, r_retN, r_drop, r_ifs, r_never, r_var, r_c, r_op, r_un, r_if, r_tst, r_b, r_not, r_and, r_or, r_andV, r_orV, r_notV, r_nil, r_cons, r_tup, r_lst, r_cb, r_call, r_bm, r_bm0, r_sl, r_nopart, r_part, r_rev, r_gnil, r_gcons, r_gsub, r_par, r_aug, r_chain, r_I0, r_I, r_U, r_ixd, r_lend, r_tupd, r_listd, r_sld, r_app, r_ext, r_reverse, r_setl, r_cat, r_int1, r_eqS, r_neS, scal_ii, scal_bb, scal_ss, at0, at1, at2, sq_lst, sq_tup, isLst_lst, List.getElem?_cons_zero, List.getElem?_cons_succ, List.set_cons_zero, List.set_cons_succ, V.int.injEq, V.bl.injEq, V.ref.injEq, V.str.injEq, HO.lst.injEq, HO.tup.injEq, Option.some.injEq, exists_eq_left', exists_eq_left, List.cons.injEq, and_true, true_and, decide_eq_true_eq, reduceCtorEq, false_and, exists_false, or_false, false_or, exists_const, and_assoc, exists_and_left, List.append_nil, ix0, ix1, ix2, cm_mod, cdw1009, cdw2003, cdw7, cdw64, cdw2, cm104729, cm2, cm3, upd_same, List.length_cons, List.length_nil, Int.reduceLT, Int.reduceLE, Nat.reduceAdd, Nat.reduceLeDiff, Nat.reduceLT, Int.reduceToNat, r_for1, r_forL, r_forT, r_lcL, r_lc1, r_yes, r_gtupD, wipe_0, wipe_1, List.cons_append, List.nil_append, r_forS, r_ipI, ite_false, ite_true, Bool.not_true, Bool.not_false, decide_true, decide_false, r_isd, r_islt, cD_ty, cD_ref, tD_non, tD_bl, tD_int, tD_str, tD_ref, tH_lst, tH_tup, tH_dK, tH_ins, ki_self, ki_int_bool, ki_non_int, ki_str_int, ki_lt_lst, ki_lt_tup, r_fld, r_sfld, HO.ins.injEq, cx_K, ha1]
    have lx := Paired.length pr
    refine ⟨⟨_, SqL.of ha1⟩, lp_list (xs := xs) (fun i σ H' => (∃ v, σ = [some (.ref a), some (.int (depF (es.take i) : Int)), v]) ∧ Same H H') ⟨⟨_, rfl⟩, sp⟩ (fun i σ H' _ h => SqL.of (h.2 _ _ ha)) ?_ ?_⟩
    · rintro i x σ H1 hx ⟨⟨v, rfl⟩, s1⟩
      obtain ⟨hi, rfl⟩ := List.getElem?_eq_some_iff.mp hx
      have hi2 : i < es.length := by omega
      have it := (Paired.at' pr hi hi2).same s1
      have nx : depF (es.take (i + 1)) = max (depF (es.take i)) es[i] := by
        unfold depF
        rw [List.take_succ_eq_append_getElem hi2, List.foldl_append]
        rfl
      have pos : 1 ≤ depF (es.take i) := by
        unfold depF
        generalize es.take i = l
        have : ∀ (l : List Nat) (n : Nat), n ≤ l.foldl max n := by
          intro l
          induction l with
          | nil => exact fun n => Nat.le_refl n
          | cons x l ih => exact fun n => Nat.le_trans (Nat.le_max_left n x) (ih _)
        exact this l 1
      rw [nx]
      generalize es[i] = e at *
      generalize xs[i] = x at *
      have cl := I.cI.cl
      have na := I.na "depth" (by decide)
      simp only [r_seq, r_next, r_brk, r_cont, r_asg, r_name, r_ret, r_retN, r_drop, r_ifs, r_never, r_var, r_c, r_op, r_un, r_if, r_tst, r_b, r_not, r_and, r_or, r_andV, r_orV, r_notV, r_nil, r_cons, r_tup, r_lst, r_cb, r_call, r_bm, r_bm0, r_sl, r_nopart, r_part, r_rev, r_gnil, r_gcons, r_gsub, r_par, r_aug, r_chain, r_I0, r_I, r_U, r_ixd, r_lend, r_tupd, r_listd, r_sld, r_app, r_ext, r_reverse, r_setl, r_cat, r_int1, r_eqS, r_neS, scal_ii, scal_bb, scal_ss, at0, at1, at2, sq_lst, sq_tup, isLst_lst, List.getElem?_cons_zero, List.getElem?_cons_succ, List.set_cons_zero, List.set_cons_succ, V.int.injEq, V.bl.injEq, V.ref.injEq, V.str.injEq, HO.lst.injEq, HO.tup.injEq, Option.some.injEq, exists_eq_left', exists_eq_left, List.cons.injEq, and_true, true_and, decide_eq_true_eq, reduceCtorEq, false_and, exists_false, or_false, false_or, exists_const, and_assoc, exists_and_left, List.append_nil, ix0, ix1, ix2, cm_mod, cdw1009, cdw2003, cdw7, cdw64, cdw2, cm104729, cm2, cm3, upd_same, List.length_cons, List.length_nil, Int.reduceLT, Int.reduceLE, Nat.reduceAdd, Nat.reduceLeDiff, Nat.reduceLT, Int.reduceToNat, r_for1, r_forL, r_forT, r_lcL, r_lc1, r_yes, r_gtupD, wipe_0, wipe_1, List.cons_append, List.nil_append, r_forS, r_ipI, ite_false, ite_true, Bool.not_true, Bool.not_false, decide_true, decide_false, r_isd, r_islt, cD_ty, cD_ref, tD_non, tD_bl, tD_int, tD_str, tD_ref, tH_lst, tH_tup, tH_dK, tH_ins, ki_self, ki_int_bool, ki_non_int, ki_str_int, ki_lt_lst, ki_lt_tup, r_fld, r_sfld, HO.ins.injEq, cx_K]
      rcases it with ⟨n, h1, h2, rfl⟩ | ⟨c, dx, fs, d, rfl, h1, h2, rfl⟩
      · obtain ⟨t, h3, h4⟩ : ∃ t, tyD CC H1 x = some (.type t) ∧ PySem.W.kitOne K (.type t) (.ref CC) = some false := by
          cases h1 with
          | non => exact ⟨_, rfl, I.no "NoneType" (by decide)⟩
          | bl _ b => exact ⟨_, rfl, I.no "bool" (by decide)⟩
          | int _ i => exact ⟨_, rfl, I.no "int" (by decide)⟩
          | str _ z hz => exact ⟨_, rfl, I.no "str" (by decide)⟩
          | tup ht t => exact ⟨"tuple", by simp [tyD, tyH, ht], I.no "tuple" (by decide)⟩
        refine ⟨_, h3, false, h4, ?_⟩
        rw [if_neg (by decide)]
        refine ⟨x, n, rfl, h1, h2, fun H2 s2 => ⟨true, rfl, ?_⟩⟩
        rw [if_neg (by decide), Nat.max_eq_left (Nat.zero_le _)]
        exact ⟨rfl, ⟨_, rfl⟩, fun y o e => s2 y o (s1 y o e)⟩
      · refine ⟨.ref CC, by simp [tyD, tyH, h1], true, yes, ?_⟩
        rw [if_pos rfl]
        refine ⟨c, rfl, CC, dx, fs, h1, cl, na, _, h2, (d : Int), rfl, ?_, ⟨_, rfl⟩, s1⟩
        split <;> omega
    · rintro σ H1 ⟨⟨v, rfl⟩, s1⟩
      rw [lx, ← lx, lx, List.take_length]
      simp only [r_seq, r_next, r_brk, r_cont, r_asg, r_name, r_ret, r_retN, r_drop, r_ifs, r_never, r_var, r_c, r_op, r_un, r_if, r_tst, r_b, r_not, r_and, r_or, r_andV, r_orV, r_notV, r_nil, r_cons, r_tup, r_lst, r_cb, r_call, r_bm, r_bm0, r_sl, r_nopart, r_part, r_rev, r_gnil, r_gcons, r_gsub, r_par, r_aug, r_chain, r_I0, r_I, r_U, r_ixd, r_lend, r_tupd, r_listd, r_sld, r_app, r_ext, r_reverse, r_setl, r_cat, r_int1, r_eqS, r_neS, scal_ii, scal_bb, scal_ss, at0, at1, at2, sq_lst, sq_tup, isLst_lst, List.getElem?_cons_zero, List.getElem?_cons_succ, List.set_cons_zero, List.set_cons_succ, V.int.injEq, V.bl.injEq, V.ref.injEq, V.str.injEq, HO.lst.injEq, HO.tup.injEq, Option.some.injEq, exists_eq_left', exists_eq_left, List.cons.injEq, and_true, true_and, decide_eq_true_eq, reduceCtorEq, false_and, exists_false, or_false, false_or, exists_const, and_assoc, exists_and_left, List.append_nil, ix0, ix1, ix2, cm_mod, cdw1009, cdw2003, cdw7, cdw64, cdw2, cm104729, cm2, cm3, upd_same, List.length_cons, List.length_nil, Int.reduceLT, Int.reduceLE, Nat.reduceAdd, Nat.reduceLeDiff, Nat.reduceLT, Int.reduceToNat, r_for1, r_forL, r_forT, r_lcL, r_lc1, r_yes, r_gtupD, wipe_0, wipe_1, List.cons_append, List.nil_append, r_forS, r_ipI, ite_false, ite_true, Bool.not_true, Bool.not_false, decide_true, decide_false, r_isd, r_islt, cD_ty, cD_ref, tD_non, tD_bl, tD_int, tD_str, tD_ref, tH_lst, tH_tup, tH_dK, tH_ins, ki_self, ki_int_bool, ki_non_int, ki_str_int, ki_lt_lst, ki_lt_tup, r_fld, r_sfld, HO.ins.injEq, cx_K]
      rw [if_neg (by omega)]
      exact k H1 s1
end
end C57

set_option maxHeartbeats 4000000
namespace C57
open PySem PySem.Spec PyProof.Rows L2
/-- a method of a class of the text -/
def inClass (s : Stmt) (j : Nat) : Stmt := match s with
  | .ClassDef _ _ _ body _ _ _ _ _ _ _ => body.getD j (.Pass ⟨0, 0, 0, 0⟩)
  | _ => .Pass ⟨0, 0, 0, 0⟩
theorem lnF {f : Str} {v : V} {fs : List (Str × V)} {n : Nat} (h : fs.length ≤ n) : (putF f v fs).length ≤ n + 1 := Nat.le_trans (length_putF f v fs) (Nat.succ_le_succ h)
/-- one statement, what follows being kept closed -/
theorem seq_intro {t u : TS} {D : Ends} {σ : L2.St} {H : Hp} (h : ∀ N : L2.St → Hp → Prop, (∀ σ' H', N σ' H' = u D σ' H') → t { D with nx := N } σ H) : tSeq t u D σ H := h _ fun _ _ => rfl
/-- an instance that is being filled: all else stays, and what is known of its fields -/
def Ini (CC c dx : Addr) (H0 : Hp) (L : List (Str × V)) (Hk : Hp) : Prop := Keep c H0 Hk ∧ ∃ fs, Hk c = some (.ins CC dx fs) ∧ fs.length ≤ L.length ∧ ∀ f v, L.lookup f = some v → fs.lookup f = some v
theorem Ini.store {CC c dx : Addr} {H0 Hk : Hp} {L fs : List (Str × V)} {f : Str} {y : V} (kk : Keep c H0 Hk) (hl : fs.length ≤ L.length) (lk : ∀ f v, L.lookup f = some v → fs.lookup f = some v) :
    Ini CC c dx H0 ((f, y) :: L) (L2.upd Hk c (.ins CC dx (putF f y fs))) := by
  refine ⟨Keep.upd kk, _, upd_same, lnF hl, fun g v h => ?_⟩
  rw [lookup_putF]
  rw [List.lookup_cons] at h
  by_cases e : g = f
  · subst e
    rw [beq_self_eq_true] at h
    rw [if_pos rfl]
    exact h
  · rw [if_neg e]
    rw [show (g == f) = false from beq_eq_false_iff_ne.mpr e] at h
    exact lk g v h
theorem Ini.same {CC c dx : Addr} {H0 Hk H' : Hp} {L : List (Str × V)} (I : Ini CC c dx H0 L Hk) (s : Same Hk H') : Ini CC c dx H0 L H' := by
  obtain ⟨kk, fs, hc, hl, lk⟩ := I
  exact ⟨kk.trans (Keep.same s), fs, s c _ hc, hl, lk⟩
mutual
theorem CV.keep {H H' : Hp} {c CC dx : Addr} {fs : List (Str × V)} (hc : H c = some (.ins CC dx fs)) (s : Keep c H H') : ∀ {k : Nat} {v : V} {n : Nat}, CV H k v n → CV H' k v n
  | _, _, _, .non k => .non k
  | _, _, _, .bl k b => .bl k b
  | _, _, _, .int k i => .int k i
  | _, _, _, .str k z h => .str k z h
  | _, _, _, .tup (a := a) h t => .tup (s _ _ (fun (z : a = c) => by rw [z, hc] at h; cases h) h) (CVs.keep hc s t)
theorem CVs.keep {H H' : Hp} {c CC dx : Addr} {fs : List (Str × V)} (hc : H c = some (.ins CC dx fs)) (s : Keep c H H') : ∀ {k : Nat} {vs : List V} {n : Nat}, CVs H k vs n → CVs H' k vs n
  | _, _, _, .nil k => .nil k
  | _, _, _, .cons h t => .cons (CV.keep hc s h) (CVs.keep hc s t)
end
theorem ItemC.keep {CC c dx : Addr} {H H' : Hp} {x : V} {e : Nat} (hc : H c = some (.ins CC dx [])) (s : Keep c H H') (h : ItemC CC H x e) : ItemC CC H' x e := by
  rcases h with ⟨n, h1, h2, h3⟩ | ⟨c', dx', fs, d, h1, h2, h3, h4⟩
  · exact .inl ⟨n, h1.keep hc s, h2, h3⟩
  · refine .inr ⟨c', dx', fs, d, h1, s _ _ (fun z => ?_) h2, h3, h4⟩
    rw [z, hc] at h2
    cases h2
    cases h3
section
variable {H : Hp} {Q : VK} {E : XK}
theorem r_spN {n : Int} {f : Str} : spNumberOf [.int n, .str f] H Q E = (0 ≤ n ∧ n ≤ 2147483647 ∧ Q (.int n) H) := propext ⟨fun ⟨_, _, e, h⟩ => by cases e; exact h, fun h => ⟨_, _, rfl, h⟩⟩
theorem r_spS {z f : Str} : spStringOf [.str z, .str f] H Q E = (OkS z ∧ ∀ H', Same H H' → Q (.str z) H') := propext ⟨fun ⟨_, _, e, h⟩ => by cases e; exact h, fun h => ⟨_, _, rfl, h⟩⟩
theorem r_spB {a : Addr} {f : Str} : spBytesOf [.ref a, .str f] H Q E = ∃ ns, H a = some (.lst (vn ns)) ∧ (∀ n ∈ ns, n < 256) ∧ ∀ p H', H p = none → Same H H' → H' p = some (.tup (vn ns)) → Q (.ref p) H' := propext ⟨fun ⟨_, _, ns, e, h⟩ => by cases e; exact ⟨ns, h⟩, fun ⟨ns, h⟩ => ⟨_, _, ns, rfl, h⟩⟩
theorem r_spSs {a : Addr} {f : Str} : spStringsOf [.ref a, .str f] H Q E = ∃ zs : List Str, H a = some (.lst (zs.map V.str)) ∧ (∀ z ∈ zs, OkS z) ∧ ∀ p H', H p = none → Same H H' → H' p = some (.tup (zs.map V.str)) → Q (.ref p) H' := propext ⟨fun ⟨_, _, zs, e, h⟩ => by cases e; exact ⟨zs, h⟩, fun ⟨zs, h⟩ => ⟨_, _, zs, rfl, h⟩⟩
theorem r_spD {CC a : Addr} : spDepthOf CC [.ref a] H Q E = ∃ (xs : List V) (es : List Nat), H a = some (.lst xs) ∧ Paired (ItemC CC H) xs es ∧ depF es ≤ 100 ∧ ∀ H', Same H H' → Q (.int (depF es : Int)) H' := propext ⟨fun ⟨_, xs, es, e, h⟩ => by cases e; exact ⟨xs, es, h⟩, fun ⟨xs, es, h⟩ => ⟨_, xs, es, rfl, h⟩⟩
end
/-- the fields that are handed in -/
structure Fld where
  i0 : Int
  i1 : Int
  i2 : Int
  i3 : Int
  i4 : Int
  z1 : Str
  z2 : Str
  ds : List Nat
  kds : List Nat
  lns : List Nat
  gds : List Nat
  ks : List V
  es : List Nat
  zs : List Str
  ss : List Str
def Num (i : Int) : Prop := 0 ≤ i ∧ i ≤ 2147483647
structure Fld.Ok (X : Fld) : Prop where
  i0 : Num X.i0
  i1 : Num X.i1
  i2 : Num X.i2
  i3 : Num X.i3
  i4 : Num X.i4
  z1 : OkS X.z1
  z2 : OkS X.z2
  ds : ∀ n ∈ X.ds, n < 256
  kds : ∀ n ∈ X.kds, n < 256
  lns : ∀ n ∈ X.lns, n < 256
  gds : ∀ n ∈ X.gds, n < 256
  zs : ∀ z ∈ X.zs, OkS z
  ss : ∀ z ∈ X.ss, OkS z
  kl : X.kds.length = X.ss.length
  dp : depF X.es ≤ 100
/-- a code with these fields -/
structure CodeX (CC : Addr) (H : Hp) (c : Addr) (X : Fld) : Prop where
  ex : ∃ (dx : Addr) (fs : List (Str × V)) (u k n s kd t g m : Addr), H c = some (.ins CC dx fs) ∧ fs.lookup ("argcount" : Str) = some (.int X.i0) ∧ fs.lookup ("onlycount" : Str) = some (.int X.i1) ∧ fs.lookup ("stacksize" : Str) = some (.int X.i2) ∧ fs.lookup ("flags" : Str) = some (.int X.i3) ∧
    fs.lookup ("code" : Str) = some (.ref u) ∧ fs.lookup ("depth" : Str) = some (.int (depF X.es : Int)) ∧ fs.lookup ("constants" : Str) = some (.ref k) ∧ fs.lookup ("names" : Str) = some (.ref n) ∧ fs.lookup ("slots" : Str) = some (.ref s) ∧ fs.lookup ("kinds" : Str) = some (.ref kd) ∧
    fs.lookup ("name" : Str) = some (.str X.z1) ∧ fs.lookup ("path" : Str) = some (.str X.z2) ∧ fs.lookup ("line" : Str) = some (.int X.i4) ∧ fs.lookup ("lines" : Str) = some (.ref t) ∧ fs.lookup ("handlers" : Str) = some (.ref g) ∧ fs.lookup ("identity" : Str) = some (.ref m) ∧
    H u = some (.tup (vn X.ds)) ∧ H k = some (.tup X.ks) ∧ H n = some (.tup (X.zs.map V.str)) ∧ H s = some (.tup (X.ss.map V.str)) ∧ H kd = some (.tup (vn X.kds)) ∧ H t = some (.tup (vn X.lns)) ∧ H g = some (.tup (vn X.gds))
/-- where they are handed in -/
structure FldAt (CC : Addr) (H : Hp) (d cs nm sl kd ln gd : Addr) (X : Fld) : Prop where
  d : H d = some (.lst (vn X.ds))
  cs : H cs = some (.lst X.ks)
  nm : H nm = some (.lst (X.zs.map V.str))
  sl : H sl = some (.lst (X.ss.map V.str))
  kd : H kd = some (.lst (vn X.kds))
  ln : H ln = some (.lst (vn X.lns))
  gd : H gd = some (.lst (vn X.gds))
  it : Paired (ItemC CC H) X.ks X.es
theorem FldAt.same {CC : Addr} {H H' : Hp} {d cs nm sl kd ln gd : Addr} {X : Fld} (h : FldAt CC H d cs nm sl kd ln gd X) (s : Same H H') : FldAt CC H' d cs nm sl kd ln gd X :=
  ⟨s _ _ h.d, s _ _ h.cs, s _ _ h.nm, s _ _ h.sl, s _ _ h.kd, s _ _ h.ln, s _ _ h.gd, Paired.map' h.it fun x e q => q.same s⟩
def spCodeInit (CC : Addr) : Sp := fun vs H Q _ => ∃ (c dx d cs nm sl kd ln gd : Addr) (X : Fld),
  vs = [.ref c, .int X.i0, .int X.i1, .int X.i2, .int X.i3, .ref d, .ref cs, .ref nm, .ref sl, .ref kd, .str X.z1, .str X.z2, .int X.i4, .ref ln, .ref gd] ∧ H c = some (.ins CC dx []) ∧ X.Ok ∧ FldAt CC H d cs nm sl kd ln gd X ∧ ∀ H', Keep c H H' → CodeX CC H' c X → Q .non H'
section
variable {P : Program} {w : World} {K : PySem.W.Frag} {mg : Str → Option Value} {base : Heap} {f : Addr} {fd : FuncData}
abbrev sCode_init : Stmt := inClass (top 10) 0
theorem scCode_init : FnScope ["self", "argcount", "onlycount", "stacksize", "flags", "code", "constants", "names", "slots", "kinds", "name", "path", "line", "lines", "handlers"] ["self", "argcount", "onlycount", "stacksize", "flags", "code", "constants", "names", "slots", "kinds", "name", "path", "line", "lines", "handlers"] (defScope sCode_init) := ⟨rfl, rfl, rfl, by decide +kernel, rfl, by decide +kernel, by decide +kernel⟩

theorem ok_Code_init {CC MM : Addr} (T : Txt mg) (I : CodeT K mg CC) (F : FnP K "__init__" "Code.__init__" sCode_init f fd) (C_number_of : Cal P w K mg base 1 "number_of" ["value", "field"] spNumberOf) (C_bytes_of : Cal P w K mg base 1 "bytes_of" ["row", "field"] spBytesOf)
    (C_string_of : Cal P w K mg base 2 "string_of" ["value", "field"] spStringOf) (C_strings_of : Cal P w K mg base 2 "strings_of" ["row", "field"] spStringsOf) (C_depth_of : Cal P w K mg base 3 "depth_of" ["constants"] (spDepthOf CC)) (PM : MkP K MM) (gM : mg "Mark" = some (.ref MM)) :
    FnOk P w K mg base CX0 4 f fd ["self", "argcount", "onlycount", "stacksize", "flags", "code", "constants", "names", "slots", "kinds", "name", "path", "line", "lines", "handlers"] (spCodeInit CC) := by
  refine F.ok scCode_init (fun vs H Q E h => ?_) (fun cdv A outer s H vs Q E hr h => ?_)
  · obtain ⟨c, dx, d, cs, nm, sl, kd, ln, gd, X, rfl, _⟩ := h
    rfl
  · obtain ⟨c, dx, d, cs, nm, sl, kd, ln, gd, X, rfl, hc, ok, ⟨a0, a1, a2, a3, a4, a5, a6, aI⟩, k⟩ := h
    have hc0 := hc
    refine ⟨_, PSs.nox (pss_cons (ps_fld (pv 0) (pe_cal C_number_of (hr.mono (by decide)) rfl (pa_cons (pv 1) (pa_cons pe_str pa_nil))) rfl)
  (pss_cons (ps_fld (pv 0) (pe_cal C_number_of (hr.mono (by decide)) rfl (pa_cons (pv 2) (pa_cons pe_str pa_nil))) rfl)
  (pss_cons (ps_fld (pv 0) (pe_cal C_number_of (hr.mono (by decide)) rfl (pa_cons (pv 3) (pa_cons pe_str pa_nil))) rfl)
  (pss_cons (ps_fld (pv 0) (pe_cal C_number_of (hr.mono (by decide)) rfl (pa_cons (pv 4) (pa_cons pe_str pa_nil))) rfl)
  (pss_cons (ps_fld (pv 0) (pe_cal C_bytes_of (hr.mono (by decide)) rfl (pa_cons (pv 5) (pa_cons pe_str pa_nil))) rfl)
  (pss_cons (ps_fld (pv 0) (pe_cal C_depth_of (hr.mono (by decide)) rfl (pa_cons (pv 6) pa_nil)) rfl)
  (pss_cons (ps_fld (pv 0) (pe_callTy call_tuple_d (by rfl) T.b_tuple (by decide +kernel) (pa_cons (pv 6) pa_nil)) rfl)
  (pss_cons (ps_fld (pv 0) (pe_cal C_strings_of (hr.mono (by decide)) rfl (pa_cons (pv 7) (pa_cons pe_str pa_nil))) rfl)
  (pss_cons (ps_fld (pv 0) (pe_cal C_strings_of (hr.mono (by decide)) rfl (pa_cons (pv 8) (pa_cons pe_str pa_nil))) rfl)
  (pss_cons (ps_fld (pv 0) (pe_cal C_bytes_of (hr.mono (by decide)) rfl (pa_cons (pv 9) (pa_cons pe_str pa_nil))) rfl)
  (pss_cons (ps_if (pt_cmpR op_ne (pe_callB call_len_d (by rfl) T.b_len (by decide +kernel) (pa_cons (pe_fld (pv 0) rfl) pa_nil)) (pe_callB call_len_d (by rfl) T.b_len (by decide +kernel) (pa_cons (pe_fld (pv 0) rfl) pa_nil)) (nomark _))
    (pss_one ps_never)
    pss_nil)
  (pss_cons (ps_fld (pv 0) (pe_cal C_string_of (hr.mono (by decide)) rfl (pa_cons (pv 10) (pa_cons pe_str pa_nil))) rfl)
  (pss_cons (ps_fld (pv 0) (pe_cal C_string_of (hr.mono (by decide)) rfl (pa_cons (pv 11) (pa_cons pe_str pa_nil))) rfl)
  (pss_cons (ps_fld (pv 0) (pe_cal C_number_of (hr.mono (by decide)) rfl (pa_cons (pv 12) (pa_cons pe_str pa_nil))) rfl)
  (pss_cons (ps_fld (pv 0) (pe_cal C_bytes_of (hr.mono (by decide)) rfl (pa_cons (pv 13) (pa_cons pe_str pa_nil))) rfl)
  (pss_cons (ps_fld (pv 0) (pe_cal C_bytes_of (hr.mono (by decide)) rfl (pa_cons (pv 14) (pa_cons pe_str pa_nil))) rfl)
  (pss_one (ps_fld (pv 0) (pe_plain PM rfl gM) rfl)))))))))))))))))), ?_⟩
    show (_ : TS) _ [some (.ref c), some (.int X.i0), some (.int X.i1), some (.int X.i2), some (.int X.i3), some (.ref d), some (.ref cs), some (.ref nm), some (.ref sl), some (.ref kd), some (.str X.z1), some (.str X.z2), some (.int X.i4), some (.ref ln), some (.ref gd)] H
    obtain ⟨⟨o0, o0'⟩, ⟨o1, o1'⟩, ⟨o2, o2'⟩, ⟨o3, o3'⟩, ⟨o4, o4'⟩, oz1, oz2, ods, okds, olns, ogds, ozs, oss, okl, odp⟩ := ok
    have cl := I.cI.cl
    have n0 := eq_true (I.na "argcount" (by decide))
    have n1 := eq_true (I.na "onlycount" (by decide))
    have n2 := eq_true (I.na "stacksize" (by decide))
    have n3 := eq_true (I.na "flags" (by decide))
    have n4 := eq_true (I.na "code" (by decide))
    have n5 := eq_true (I.na "depth" (by decide))
    have n6 := eq_true (I.na "constants" (by decide))
    have n7 := eq_true (I.na "names" (by decide))
    have n8 := eq_true (I.na "slots" (by decide))
    have n9 := eq_true (I.na "kinds" (by decide))
    have n10 := eq_true (I.na "name" (by decide))
    have n11 := eq_true (I.na "path" (by decide))
    have n12 := eq_true (I.na "line" (by decide))
    have n13 := eq_true (I.na "lines" (by decide))
    have n14 := eq_true (I.na "handlers" (by decide))
    have n15 := eq_true (I.na "identity" (by decide))
    have z0 : d ≠ c := by rintro rfl; rw [a0] at hc; cases hc
    have z1 : cs ≠ c := by rintro rfl; rw [a1] at hc; cases hc
    have z2 : nm ≠ c := by rintro rfl; rw [a2] at hc; cases hc
    have z3 : sl ≠ c := by rintro rfl; rw [a3] at hc; cases hc
    have z4 : kd ≠ c := by rintro rfl; rw [a4] at hc; cases hc
    have z5 : ln ≠ c := by rintro rfl; rw [a5] at hc; cases hc
    have z6 : gd ≠ c := by rintro rfl; rw [a6] at hc; cases hc
    have i0 : Ini CC c dx H [] H := ⟨Keep.refl c H, [], hc, Nat.le_refl _, fun f v h => by cases h⟩
    clear hc
    -- argcount
    refine seq_intro fun N e => ?_
    obtain ⟨kk, fs, hc, hl, lk⟩ := i0
    have l0 : fs.length < 1000 := Nat.lt_of_le_of_lt hl (by simp only [List.length_cons, List.length_nil]; decide)
    simp only [r_seq, r_next, r_brk, r_cont, r_asg, r_name, r_ret, r_retN, r_drop, r_ifs, r_never, r_var, r_c, r_op, r_un, r_if, r_tst, r_b, r_not, r_and, r_or, r_andV, r_orV, r_notV, r_nil, r_cons, r_tup, r_lst, r_cb, r_call, r_bm, r_bm0, r_sl, r_nopart, r_part, r_rev, r_gnil, r_gcons, r_gsub, r_par, r_aug, r_chain, r_I0, r_I, r_U, r_ixd, r_lend, r_tupd, r_listd, r_sld, r_app, r_ext, r_reverse, r_setl, r_cat, r_int1, r_eqS, r_neS, scal_ii, scal_bb, scal_ss, at0, at1, at2, sq_lst, sq_tup, isLst_lst, List.getElem?_cons_zero, List.getElem?_cons_succ, List.set_cons_zero, List.set_cons_succ, V.int.injEq, V.bl.injEq, V.ref.injEq, V.str.injEq, HO.lst.injEq, HO.tup.injEq, Option.some.injEq, exists_eq_left', exists_eq_left, List.cons.injEq, and_true, true_and, decide_eq_true_eq, reduceCtorEq, false_and, exists_false, or_false, false_or, exists_const, and_assoc, exists_and_left, List.append_nil, ix0, ix1, ix2, cm_mod, cdw1009, cdw2003, cdw7, cdw64, cdw2, cm104729, cm2, cm3, upd_same, List.length_cons, List.length_nil, Int.reduceLT, Int.reduceLE, Nat.reduceAdd, Nat.reduceLeDiff, Nat.reduceLT, Int.reduceToNat, r_for1, r_forL, r_forT, r_lcL, r_lc1, r_yes, r_gtupD, wipe_0, wipe_1, List.cons_append, List.nil_append, r_forS, r_ipI, ite_false, ite_true, Bool.not_true, Bool.not_false, decide_true, decide_false, r_isd, r_islt, cD_ty, cD_ref, tD_non, tD_bl, tD_int, tD_str, tD_ref, tH_lst, tH_tup, tH_dK, tH_ins, ki_self, ki_int_bool, ki_non_int, ki_str_int, ki_lt_lst, ki_lt_tup, r_fld, r_sfld, HO.ins.injEq, cx_K, r_spN, hc, n0, l0, cl, o0, o0']
    rw [e]
    have i1 := Ini.store (CC := CC) (dx := dx) (f := "argcount") (y := .int X.i0) kk hl lk
    clear hc e N l0
    generalize L2.upd H c (.ins CC dx (putF "argcount" (.int X.i0) fs)) = H1 at i1 ⊢
    clear kk hl lk fs
    -- onlycount
    refine seq_intro fun N e => ?_
    obtain ⟨kk, fs, hc, hl, lk⟩ := i1
    have l0 : fs.length < 1000 := Nat.lt_of_le_of_lt hl (by simp only [List.length_cons, List.length_nil]; decide)
    simp only [r_seq, r_next, r_brk, r_cont, r_asg, r_name, r_ret, r_retN, r_drop, r_ifs, r_never, r_var, r_c, r_op, r_un, r_if, r_tst, r_b, r_not, r_and, r_or, r_andV, r_orV, r_notV, r_nil, r_cons, r_tup, r_lst, r_cb, r_call, r_bm, r_bm0, r_sl, r_nopart, r_part, r_rev, r_gnil, r_gcons, r_gsub, r_par, r_aug, r_chain, r_I0, r_I, r_U, r_ixd, r_lend, r_tupd, r_listd, r_sld, r_app, r_ext, r_reverse, r_setl, r_cat, r_int1, r_eqS, r_neS, scal_ii, scal_bb, scal_ss, at0, at1, at2, sq_lst, sq_tup, isLst_lst, List.getElem?_cons_zero, List.getElem?_cons_succ, List.set_cons_zero, List.set_cons_succ, V.int.injEq, V.bl.injEq, V.ref.injEq, V.str.injEq, HO.lst.injEq, HO.tup.injEq, Option.some.injEq, exists_eq_left', exists_eq_left, List.cons.injEq, and_true, true_and, decide_eq_true_eq, reduceCtorEq, false_and, exists_false, or_false, false_or, exists_const, and_assoc, exists_and_left, List.append_nil, ix0, ix1, ix2, cm_mod, cdw1009, cdw2003, cdw7, cdw64, cdw2, cm104729, cm2, cm3, upd_same, List.length_cons, List.length_nil, Int.reduceLT, Int.reduceLE, Nat.reduceAdd, Nat.reduceLeDiff, Nat.reduceLT, Int.reduceToNat, r_for1, r_forL, r_forT, r_lcL, r_lc1, r_yes, r_gtupD, wipe_0, wipe_1, List.cons_append, List.nil_append, r_forS, r_ipI, ite_false, ite_true, Bool.not_true, Bool.not_false, decide_true, decide_false, r_isd, r_islt, cD_ty, cD_ref, tD_non, tD_bl, tD_int, tD_str, tD_ref, tH_lst, tH_tup, tH_dK, tH_ins, ki_self, ki_int_bool, ki_non_int, ki_str_int, ki_lt_lst, ki_lt_tup, r_fld, r_sfld, HO.ins.injEq, cx_K, r_spN, hc, n1, l0, cl, o1, o1']
    rw [e]
    have i2 := Ini.store (CC := CC) (dx := dx) (f := "onlycount") (y := .int X.i1) kk hl lk
    clear hc e N l0
    generalize L2.upd H1 c (.ins CC dx (putF "onlycount" (.int X.i1) fs)) = H2 at i2 ⊢
    clear kk hl lk fs
    -- stacksize
    refine seq_intro fun N e => ?_
    obtain ⟨kk, fs, hc, hl, lk⟩ := i2
    have l0 : fs.length < 1000 := Nat.lt_of_le_of_lt hl (by simp only [List.length_cons, List.length_nil]; decide)
    simp only [r_seq, r_next, r_brk, r_cont, r_asg, r_name, r_ret, r_retN, r_drop, r_ifs, r_never, r_var, r_c, r_op, r_un, r_if, r_tst, r_b, r_not, r_and, r_or, r_andV, r_orV, r_notV, r_nil, r_cons, r_tup, r_lst, r_cb, r_call, r_bm, r_bm0, r_sl, r_nopart, r_part, r_rev, r_gnil, r_gcons, r_gsub, r_par, r_aug, r_chain, r_I0, r_I, r_U, r_ixd, r_lend, r_tupd, r_listd, r_sld, r_app, r_ext, r_reverse, r_setl, r_cat, r_int1, r_eqS, r_neS, scal_ii, scal_bb, scal_ss, at0, at1, at2, sq_lst, sq_tup, isLst_lst, List.getElem?_cons_zero, List.getElem?_cons_succ, List.set_cons_zero, List.set_cons_succ, V.int.injEq, V.bl.injEq, V.ref.injEq, V.str.injEq, HO.lst.injEq, HO.tup.injEq, Option.some.injEq, exists_eq_left', exists_eq_left, List.cons.injEq, and_true, true_and, decide_eq_true_eq, reduceCtorEq, false_and, exists_false, or_false, false_or, exists_const, and_assoc, exists_and_left, List.append_nil, ix0, ix1, ix2, cm_mod, cdw1009, cdw2003, cdw7, cdw64, cdw2, cm104729, cm2, cm3, upd_same, List.length_cons, List.length_nil, Int.reduceLT, Int.reduceLE, Nat.reduceAdd, Nat.reduceLeDiff, Nat.reduceLT, Int.reduceToNat, r_for1, r_forL, r_forT, r_lcL, r_lc1, r_yes, r_gtupD, wipe_0, wipe_1, List.cons_append, List.nil_append, r_forS, r_ipI, ite_false, ite_true, Bool.not_true, Bool.not_false, decide_true, decide_false, r_isd, r_islt, cD_ty, cD_ref, tD_non, tD_bl, tD_int, tD_str, tD_ref, tH_lst, tH_tup, tH_dK, tH_ins, ki_self, ki_int_bool, ki_non_int, ki_str_int, ki_lt_lst, ki_lt_tup, r_fld, r_sfld, HO.ins.injEq, cx_K, r_spN, hc, n2, l0, cl, o2, o2']
    rw [e]
    have i3 := Ini.store (CC := CC) (dx := dx) (f := "stacksize") (y := .int X.i2) kk hl lk
    clear hc e N l0
    generalize L2.upd H2 c (.ins CC dx (putF "stacksize" (.int X.i2) fs)) = H3 at i3 ⊢
    clear kk hl lk fs
    -- flags
    refine seq_intro fun N e => ?_
    obtain ⟨kk, fs, hc, hl, lk⟩ := i3
    have l0 : fs.length < 1000 := Nat.lt_of_le_of_lt hl (by simp only [List.length_cons, List.length_nil]; decide)
    simp only [r_seq, r_next, r_brk, r_cont, r_asg, r_name, r_ret, r_retN, r_drop, r_ifs, r_never, r_var, r_c, r_op, r_un, r_if, r_tst, r_b, r_not, r_and, r_or, r_andV, r_orV, r_notV, r_nil, r_cons, r_tup, r_lst, r_cb, r_call, r_bm, r_bm0, r_sl, r_nopart, r_part, r_rev, r_gnil, r_gcons, r_gsub, r_par, r_aug, r_chain, r_I0, r_I, r_U, r_ixd, r_lend, r_tupd, r_listd, r_sld, r_app, r_ext, r_reverse, r_setl, r_cat, r_int1, r_eqS, r_neS, scal_ii, scal_bb, scal_ss, at0, at1, at2, sq_lst, sq_tup, isLst_lst, List.getElem?_cons_zero, List.getElem?_cons_succ, List.set_cons_zero, List.set_cons_succ, V.int.injEq, V.bl.injEq, V.ref.injEq, V.str.injEq, HO.lst.injEq, HO.tup.injEq, Option.some.injEq, exists_eq_left', exists_eq_left, List.cons.injEq, and_true, true_and, decide_eq_true_eq, reduceCtorEq, false_and, exists_false, or_false, false_or, exists_const, and_assoc, exists_and_left, List.append_nil, ix0, ix1, ix2, cm_mod, cdw1009, cdw2003, cdw7, cdw64, cdw2, cm104729, cm2, cm3, upd_same, List.length_cons, List.length_nil, Int.reduceLT, Int.reduceLE, Nat.reduceAdd, Nat.reduceLeDiff, Nat.reduceLT, Int.reduceToNat, r_for1, r_forL, r_forT, r_lcL, r_lc1, r_yes, r_gtupD, wipe_0, wipe_1, List.cons_append, List.nil_append, r_forS, r_ipI, ite_false, ite_true, Bool.not_true, Bool.not_false, decide_true, decide_false, r_isd, r_islt, cD_ty, cD_ref, tD_non, tD_bl, tD_int, tD_str, tD_ref, tH_lst, tH_tup, tH_dK, tH_ins, ki_self, ki_int_bool, ki_non_int, ki_str_int, ki_lt_lst, ki_lt_tup, r_fld, r_sfld, HO.ins.injEq, cx_K, r_spN, hc, n3, l0, cl, o3, o3']
    rw [e]
    have i4 := Ini.store (CC := CC) (dx := dx) (f := "flags") (y := .int X.i3) kk hl lk
    clear hc e N l0
    generalize L2.upd H3 c (.ins CC dx (putF "flags" (.int X.i3) fs)) = H4 at i4 ⊢
    clear kk hl lk fs
    -- code
    refine seq_intro fun N e => ?_
    have j := i4
    obtain ⟨kk, fs, hc, hl, lk⟩ := i4
    have b := kk d _ z0 a0
    have l0 : fs.length < 1000 := Nat.lt_of_le_of_lt hl (by simp only [List.length_cons, List.length_nil]; decide)
    simp only [r_seq, r_next, r_brk, r_cont, r_asg, r_name, r_ret, r_retN, r_drop, r_ifs, r_never, r_var, r_c, r_op, r_un, r_if, r_tst, r_b, r_not, r_and, r_or, r_andV, r_orV, r_notV, r_nil, r_cons, r_tup, r_lst, r_cb, r_call, r_bm, r_bm0, r_sl, r_nopart, r_part, r_rev, r_gnil, r_gcons, r_gsub, r_par, r_aug, r_chain, r_I0, r_I, r_U, r_ixd, r_lend, r_tupd, r_listd, r_sld, r_app, r_ext, r_reverse, r_setl, r_cat, r_int1, r_eqS, r_neS, scal_ii, scal_bb, scal_ss, at0, at1, at2, sq_lst, sq_tup, isLst_lst, List.getElem?_cons_zero, List.getElem?_cons_succ, List.set_cons_zero, List.set_cons_succ, V.int.injEq, V.bl.injEq, V.ref.injEq, V.str.injEq, HO.lst.injEq, HO.tup.injEq, Option.some.injEq, exists_eq_left', exists_eq_left, List.cons.injEq, and_true, true_and, decide_eq_true_eq, reduceCtorEq, false_and, exists_false, or_false, false_or, exists_const, and_assoc, exists_and_left, List.append_nil, ix0, ix1, ix2, cm_mod, cdw1009, cdw2003, cdw7, cdw64, cdw2, cm104729, cm2, cm3, upd_same, List.length_cons, List.length_nil, Int.reduceLT, Int.reduceLE, Nat.reduceAdd, Nat.reduceLeDiff, Nat.reduceLT, Int.reduceToNat, r_for1, r_forL, r_forT, r_lcL, r_lc1, r_yes, r_gtupD, wipe_0, wipe_1, List.cons_append, List.nil_append, r_forS, r_ipI, ite_false, ite_true, Bool.not_true, Bool.not_false, decide_true, decide_false, r_isd, r_islt, cD_ty, cD_ref, tD_non, tD_bl, tD_int, tD_str, tD_ref, tH_lst, tH_tup, tH_dK, tH_ins, ki_self, ki_int_bool, ki_non_int, ki_str_int, ki_lt_lst, ki_lt_tup, r_fld, r_sfld, HO.ins.injEq, cx_K, r_spB, r_spSs, b]
    refine ⟨_, rfl, ods, fun pu G hp sG hG => ?_⟩
    have hc1 := sG c _ hc
    simp only [r_seq, r_next, r_brk, r_cont, r_asg, r_name, r_ret, r_retN, r_drop, r_ifs, r_never, r_var, r_c, r_op, r_un, r_if, r_tst, r_b, r_not, r_and, r_or, r_andV, r_orV, r_notV, r_nil, r_cons, r_tup, r_lst, r_cb, r_call, r_bm, r_bm0, r_sl, r_nopart, r_part, r_rev, r_gnil, r_gcons, r_gsub, r_par, r_aug, r_chain, r_I0, r_I, r_U, r_ixd, r_lend, r_tupd, r_listd, r_sld, r_app, r_ext, r_reverse, r_setl, r_cat, r_int1, r_eqS, r_neS, scal_ii, scal_bb, scal_ss, at0, at1, at2, sq_lst, sq_tup, isLst_lst, List.getElem?_cons_zero, List.getElem?_cons_succ, List.set_cons_zero, List.set_cons_succ, V.int.injEq, V.bl.injEq, V.ref.injEq, V.str.injEq, HO.lst.injEq, HO.tup.injEq, Option.some.injEq, exists_eq_left', exists_eq_left, List.cons.injEq, and_true, true_and, decide_eq_true_eq, reduceCtorEq, false_and, exists_false, or_false, false_or, exists_const, and_assoc, exists_and_left, List.append_nil, ix0, ix1, ix2, cm_mod, cdw1009, cdw2003, cdw7, cdw64, cdw2, cm104729, cm2, cm3, upd_same, List.length_cons, List.length_nil, Int.reduceLT, Int.reduceLE, Nat.reduceAdd, Nat.reduceLeDiff, Nat.reduceLT, Int.reduceToNat, r_for1, r_forL, r_forT, r_lcL, r_lc1, r_yes, r_gtupD, wipe_0, wipe_1, List.cons_append, List.nil_append, r_forS, r_ipI, ite_false, ite_true, Bool.not_true, Bool.not_false, decide_true, decide_false, r_isd, r_islt, cD_ty, cD_ref, tD_non, tD_bl, tD_int, tD_str, tD_ref, tH_lst, tH_tup, tH_dK, tH_ins, ki_self, ki_int_bool, ki_non_int, ki_str_int, ki_lt_lst, ki_lt_tup, r_fld, r_sfld, HO.ins.injEq, cx_K, hc1, n4, l0, cl]
    rw [e]
    have xpu : pu ≠ c := new_ne hc hp
    have i5 := Ini.store (CC := CC) (dx := dx) (f := "code") (y := .ref pu) (kk.trans (Keep.same sG)) hl lk
    have kp : Keep c G (L2.upd G c (.ins CC dx (putF "code" (.ref pu) fs))) := Keep.upd (Keep.refl c G)
    have tpu := kp pu _ xpu hG
    clear hc e N l0 hc1 j b kp
    generalize L2.upd G c (.ins CC dx (putF "code" (.ref pu) fs)) = H5 at i5 tpu ⊢
    clear kk hl lk sG hG hp
    -- depth
    refine seq_intro fun N e => ?_
    have j := i5
    obtain ⟨kk, fs, hc, hl, lk⟩ := i5
    have b1 := kk cs _ z1 a1
    have bI := Paired.map' aI fun x e q => ItemC.keep hc0 kk q
    have l0 : fs.length < 1000 := Nat.lt_of_le_of_lt hl (by simp only [List.length_cons, List.length_nil]; decide)
    simp only [r_seq, r_next, r_brk, r_cont, r_asg, r_name, r_ret, r_retN, r_drop, r_ifs, r_never, r_var, r_c, r_op, r_un, r_if, r_tst, r_b, r_not, r_and, r_or, r_andV, r_orV, r_notV, r_nil, r_cons, r_tup, r_lst, r_cb, r_call, r_bm, r_bm0, r_sl, r_nopart, r_part, r_rev, r_gnil, r_gcons, r_gsub, r_par, r_aug, r_chain, r_I0, r_I, r_U, r_ixd, r_lend, r_tupd, r_listd, r_sld, r_app, r_ext, r_reverse, r_setl, r_cat, r_int1, r_eqS, r_neS, scal_ii, scal_bb, scal_ss, at0, at1, at2, sq_lst, sq_tup, isLst_lst, List.getElem?_cons_zero, List.getElem?_cons_succ, List.set_cons_zero, List.set_cons_succ, V.int.injEq, V.bl.injEq, V.ref.injEq, V.str.injEq, HO.lst.injEq, HO.tup.injEq, Option.some.injEq, exists_eq_left', exists_eq_left, List.cons.injEq, and_true, true_and, decide_eq_true_eq, reduceCtorEq, false_and, exists_false, or_false, false_or, exists_const, and_assoc, exists_and_left, List.append_nil, ix0, ix1, ix2, cm_mod, cdw1009, cdw2003, cdw7, cdw64, cdw2, cm104729, cm2, cm3, upd_same, List.length_cons, List.length_nil, Int.reduceLT, Int.reduceLE, Nat.reduceAdd, Nat.reduceLeDiff, Nat.reduceLT, Int.reduceToNat, r_for1, r_forL, r_forT, r_lcL, r_lc1, r_yes, r_gtupD, wipe_0, wipe_1, List.cons_append, List.nil_append, r_forS, r_ipI, ite_false, ite_true, Bool.not_true, Bool.not_false, decide_true, decide_false, r_isd, r_islt, cD_ty, cD_ref, tD_non, tD_bl, tD_int, tD_str, tD_ref, tH_lst, tH_tup, tH_dK, tH_ins, ki_self, ki_int_bool, ki_non_int, ki_str_int, ki_lt_lst, ki_lt_tup, r_fld, r_sfld, HO.ins.injEq, cx_K, r_spS, r_spD, b1]
    refine ⟨X.es, bI, odp, fun G sG => ?_⟩
    have hc1 := sG c _ hc
    simp only [r_seq, r_next, r_brk, r_cont, r_asg, r_name, r_ret, r_retN, r_drop, r_ifs, r_never, r_var, r_c, r_op, r_un, r_if, r_tst, r_b, r_not, r_and, r_or, r_andV, r_orV, r_notV, r_nil, r_cons, r_tup, r_lst, r_cb, r_call, r_bm, r_bm0, r_sl, r_nopart, r_part, r_rev, r_gnil, r_gcons, r_gsub, r_par, r_aug, r_chain, r_I0, r_I, r_U, r_ixd, r_lend, r_tupd, r_listd, r_sld, r_app, r_ext, r_reverse, r_setl, r_cat, r_int1, r_eqS, r_neS, scal_ii, scal_bb, scal_ss, at0, at1, at2, sq_lst, sq_tup, isLst_lst, List.getElem?_cons_zero, List.getElem?_cons_succ, List.set_cons_zero, List.set_cons_succ, V.int.injEq, V.bl.injEq, V.ref.injEq, V.str.injEq, HO.lst.injEq, HO.tup.injEq, Option.some.injEq, exists_eq_left', exists_eq_left, List.cons.injEq, and_true, true_and, decide_eq_true_eq, reduceCtorEq, false_and, exists_false, or_false, false_or, exists_const, and_assoc, exists_and_left, List.append_nil, ix0, ix1, ix2, cm_mod, cdw1009, cdw2003, cdw7, cdw64, cdw2, cm104729, cm2, cm3, upd_same, List.length_cons, List.length_nil, Int.reduceLT, Int.reduceLE, Nat.reduceAdd, Nat.reduceLeDiff, Nat.reduceLT, Int.reduceToNat, r_for1, r_forL, r_forT, r_lcL, r_lc1, r_yes, r_gtupD, wipe_0, wipe_1, List.cons_append, List.nil_append, r_forS, r_ipI, ite_false, ite_true, Bool.not_true, Bool.not_false, decide_true, decide_false, r_isd, r_islt, cD_ty, cD_ref, tD_non, tD_bl, tD_int, tD_str, tD_ref, tH_lst, tH_tup, tH_dK, tH_ins, ki_self, ki_int_bool, ki_non_int, ki_str_int, ki_lt_lst, ki_lt_tup, r_fld, r_sfld, HO.ins.injEq, cx_K, hc1, n5, l0, cl]
    rw [e]
    have i6 := Ini.store (CC := CC) (dx := dx) (f := "depth") (y := .int (depF X.es : Int)) (kk.trans (Keep.same sG)) hl lk
    have kp : Keep c G (L2.upd G c (.ins CC dx (putF "depth" (.int (depF X.es : Int)) fs))) := Keep.upd (Keep.refl c G)
    have tpu := kp pu _ xpu (sG _ _ tpu)
    clear hc e N l0 hc1 j kp b1 bI
    generalize L2.upd G c (.ins CC dx (putF "depth" (.int (depF X.es : Int)) fs)) = H6 at i6 tpu ⊢
    clear kk hl lk sG
    -- constants
    refine seq_intro fun N e => ?_
    have j := i6
    obtain ⟨kk, fs, hc, hl, lk⟩ := i6
    have b := kk cs _ z1 a1
    have l0 : fs.length < 1000 := Nat.lt_of_le_of_lt hl (by simp only [List.length_cons, List.length_nil]; decide)
    simp only [r_seq, r_next, r_brk, r_cont, r_asg, r_name, r_ret, r_retN, r_drop, r_ifs, r_never, r_var, r_c, r_op, r_un, r_if, r_tst, r_b, r_not, r_and, r_or, r_andV, r_orV, r_notV, r_nil, r_cons, r_tup, r_lst, r_cb, r_call, r_bm, r_bm0, r_sl, r_nopart, r_part, r_rev, r_gnil, r_gcons, r_gsub, r_par, r_aug, r_chain, r_I0, r_I, r_U, r_ixd, r_lend, r_tupd, r_listd, r_sld, r_app, r_ext, r_reverse, r_setl, r_cat, r_int1, r_eqS, r_neS, scal_ii, scal_bb, scal_ss, at0, at1, at2, sq_lst, sq_tup, isLst_lst, List.getElem?_cons_zero, List.getElem?_cons_succ, List.set_cons_zero, List.set_cons_succ, V.int.injEq, V.bl.injEq, V.ref.injEq, V.str.injEq, HO.lst.injEq, HO.tup.injEq, Option.some.injEq, exists_eq_left', exists_eq_left, List.cons.injEq, and_true, true_and, decide_eq_true_eq, reduceCtorEq, false_and, exists_false, or_false, false_or, exists_const, and_assoc, exists_and_left, List.append_nil, ix0, ix1, ix2, cm_mod, cdw1009, cdw2003, cdw7, cdw64, cdw2, cm104729, cm2, cm3, upd_same, List.length_cons, List.length_nil, Int.reduceLT, Int.reduceLE, Nat.reduceAdd, Nat.reduceLeDiff, Nat.reduceLT, Int.reduceToNat, r_for1, r_forL, r_forT, r_lcL, r_lc1, r_yes, r_gtupD, wipe_0, wipe_1, List.cons_append, List.nil_append, r_forS, r_ipI, ite_false, ite_true, Bool.not_true, Bool.not_false, decide_true, decide_false, r_isd, r_islt, cD_ty, cD_ref, tD_non, tD_bl, tD_int, tD_str, tD_ref, tH_lst, tH_tup, tH_dK, tH_ins, ki_self, ki_int_bool, ki_non_int, ki_str_int, ki_lt_lst, ki_lt_tup, r_fld, r_sfld, HO.ins.injEq, cx_K, r_spB, r_spSs, b]
    refine fun pk hp => ?_
    have sG := Same.new' (Same.refl H6) (o := .tup X.ks) hp
    have hG : L2.upd H6 pk (.tup X.ks) pk = some (.tup X.ks) := upd_same
    generalize L2.upd H6 pk (.tup X.ks) = G at sG hG ⊢
    have hc1 := sG c _ hc
    simp only [r_seq, r_next, r_brk, r_cont, r_asg, r_name, r_ret, r_retN, r_drop, r_ifs, r_never, r_var, r_c, r_op, r_un, r_if, r_tst, r_b, r_not, r_and, r_or, r_andV, r_orV, r_notV, r_nil, r_cons, r_tup, r_lst, r_cb, r_call, r_bm, r_bm0, r_sl, r_nopart, r_part, r_rev, r_gnil, r_gcons, r_gsub, r_par, r_aug, r_chain, r_I0, r_I, r_U, r_ixd, r_lend, r_tupd, r_listd, r_sld, r_app, r_ext, r_reverse, r_setl, r_cat, r_int1, r_eqS, r_neS, scal_ii, scal_bb, scal_ss, at0, at1, at2, sq_lst, sq_tup, isLst_lst, List.getElem?_cons_zero, List.getElem?_cons_succ, List.set_cons_zero, List.set_cons_succ, V.int.injEq, V.bl.injEq, V.ref.injEq, V.str.injEq, HO.lst.injEq, HO.tup.injEq, Option.some.injEq, exists_eq_left', exists_eq_left, List.cons.injEq, and_true, true_and, decide_eq_true_eq, reduceCtorEq, false_and, exists_false, or_false, false_or, exists_const, and_assoc, exists_and_left, List.append_nil, ix0, ix1, ix2, cm_mod, cdw1009, cdw2003, cdw7, cdw64, cdw2, cm104729, cm2, cm3, upd_same, List.length_cons, List.length_nil, Int.reduceLT, Int.reduceLE, Nat.reduceAdd, Nat.reduceLeDiff, Nat.reduceLT, Int.reduceToNat, r_for1, r_forL, r_forT, r_lcL, r_lc1, r_yes, r_gtupD, wipe_0, wipe_1, List.cons_append, List.nil_append, r_forS, r_ipI, ite_false, ite_true, Bool.not_true, Bool.not_false, decide_true, decide_false, r_isd, r_islt, cD_ty, cD_ref, tD_non, tD_bl, tD_int, tD_str, tD_ref, tH_lst, tH_tup, tH_dK, tH_ins, ki_self, ki_int_bool, ki_non_int, ki_str_int, ki_lt_lst, ki_lt_tup, r_fld, r_sfld, HO.ins.injEq, cx_K, hc1, n6, l0, cl]
    rw [e]
    have xpk : pk ≠ c := new_ne hc hp
    have i7 := Ini.store (CC := CC) (dx := dx) (f := "constants") (y := .ref pk) (kk.trans (Keep.same sG)) hl lk
    have kp : Keep c G (L2.upd G c (.ins CC dx (putF "constants" (.ref pk) fs))) := Keep.upd (Keep.refl c G)
    have tpu := kp pu _ xpu (sG _ _ tpu)
    have tpk := kp pk _ xpk hG
    clear hc e N l0 hc1 j b kp
    generalize L2.upd G c (.ins CC dx (putF "constants" (.ref pk) fs)) = H7 at i7 tpu tpk ⊢
    clear kk hl lk sG hG hp
    -- names
    refine seq_intro fun N e => ?_
    have j := i7
    obtain ⟨kk, fs, hc, hl, lk⟩ := i7
    have b := kk nm _ z2 a2
    have l0 : fs.length < 1000 := Nat.lt_of_le_of_lt hl (by simp only [List.length_cons, List.length_nil]; decide)
    simp only [r_seq, r_next, r_brk, r_cont, r_asg, r_name, r_ret, r_retN, r_drop, r_ifs, r_never, r_var, r_c, r_op, r_un, r_if, r_tst, r_b, r_not, r_and, r_or, r_andV, r_orV, r_notV, r_nil, r_cons, r_tup, r_lst, r_cb, r_call, r_bm, r_bm0, r_sl, r_nopart, r_part, r_rev, r_gnil, r_gcons, r_gsub, r_par, r_aug, r_chain, r_I0, r_I, r_U, r_ixd, r_lend, r_tupd, r_listd, r_sld, r_app, r_ext, r_reverse, r_setl, r_cat, r_int1, r_eqS, r_neS, scal_ii, scal_bb, scal_ss, at0, at1, at2, sq_lst, sq_tup, isLst_lst, List.getElem?_cons_zero, List.getElem?_cons_succ, List.set_cons_zero, List.set_cons_succ, V.int.injEq, V.bl.injEq, V.ref.injEq, V.str.injEq, HO.lst.injEq, HO.tup.injEq, Option.some.injEq, exists_eq_left', exists_eq_left, List.cons.injEq, and_true, true_and, decide_eq_true_eq, reduceCtorEq, false_and, exists_false, or_false, false_or, exists_const, and_assoc, exists_and_left, List.append_nil, ix0, ix1, ix2, cm_mod, cdw1009, cdw2003, cdw7, cdw64, cdw2, cm104729, cm2, cm3, upd_same, List.length_cons, List.length_nil, Int.reduceLT, Int.reduceLE, Nat.reduceAdd, Nat.reduceLeDiff, Nat.reduceLT, Int.reduceToNat, r_for1, r_forL, r_forT, r_lcL, r_lc1, r_yes, r_gtupD, wipe_0, wipe_1, List.cons_append, List.nil_append, r_forS, r_ipI, ite_false, ite_true, Bool.not_true, Bool.not_false, decide_true, decide_false, r_isd, r_islt, cD_ty, cD_ref, tD_non, tD_bl, tD_int, tD_str, tD_ref, tH_lst, tH_tup, tH_dK, tH_ins, ki_self, ki_int_bool, ki_non_int, ki_str_int, ki_lt_lst, ki_lt_tup, r_fld, r_sfld, HO.ins.injEq, cx_K, r_spB, r_spSs, b]
    refine ⟨X.zs, rfl, ozs, fun pn G hp sG hG => ?_⟩
    have hc1 := sG c _ hc
    simp only [r_seq, r_next, r_brk, r_cont, r_asg, r_name, r_ret, r_retN, r_drop, r_ifs, r_never, r_var, r_c, r_op, r_un, r_if, r_tst, r_b, r_not, r_and, r_or, r_andV, r_orV, r_notV, r_nil, r_cons, r_tup, r_lst, r_cb, r_call, r_bm, r_bm0, r_sl, r_nopart, r_part, r_rev, r_gnil, r_gcons, r_gsub, r_par, r_aug, r_chain, r_I0, r_I, r_U, r_ixd, r_lend, r_tupd, r_listd, r_sld, r_app, r_ext, r_reverse, r_setl, r_cat, r_int1, r_eqS, r_neS, scal_ii, scal_bb, scal_ss, at0, at1, at2, sq_lst, sq_tup, isLst_lst, List.getElem?_cons_zero, List.getElem?_cons_succ, List.set_cons_zero, List.set_cons_succ, V.int.injEq, V.bl.injEq, V.ref.injEq, V.str.injEq, HO.lst.injEq, HO.tup.injEq, Option.some.injEq, exists_eq_left', exists_eq_left, List.cons.injEq, and_true, true_and, decide_eq_true_eq, reduceCtorEq, false_and, exists_false, or_false, false_or, exists_const, and_assoc, exists_and_left, List.append_nil, ix0, ix1, ix2, cm_mod, cdw1009, cdw2003, cdw7, cdw64, cdw2, cm104729, cm2, cm3, upd_same, List.length_cons, List.length_nil, Int.reduceLT, Int.reduceLE, Nat.reduceAdd, Nat.reduceLeDiff, Nat.reduceLT, Int.reduceToNat, r_for1, r_forL, r_forT, r_lcL, r_lc1, r_yes, r_gtupD, wipe_0, wipe_1, List.cons_append, List.nil_append, r_forS, r_ipI, ite_false, ite_true, Bool.not_true, Bool.not_false, decide_true, decide_false, r_isd, r_islt, cD_ty, cD_ref, tD_non, tD_bl, tD_int, tD_str, tD_ref, tH_lst, tH_tup, tH_dK, tH_ins, ki_self, ki_int_bool, ki_non_int, ki_str_int, ki_lt_lst, ki_lt_tup, r_fld, r_sfld, HO.ins.injEq, cx_K, hc1, n7, l0, cl]
    rw [e]
    have xpn : pn ≠ c := new_ne hc hp
    have i8 := Ini.store (CC := CC) (dx := dx) (f := "names") (y := .ref pn) (kk.trans (Keep.same sG)) hl lk
    have kp : Keep c G (L2.upd G c (.ins CC dx (putF "names" (.ref pn) fs))) := Keep.upd (Keep.refl c G)
    have tpu := kp pu _ xpu (sG _ _ tpu)
    have tpk := kp pk _ xpk (sG _ _ tpk)
    have tpn := kp pn _ xpn hG
    clear hc e N l0 hc1 j b kp
    generalize L2.upd G c (.ins CC dx (putF "names" (.ref pn) fs)) = H8 at i8 tpu tpk tpn ⊢
    clear kk hl lk sG hG hp
    -- slots
    refine seq_intro fun N e => ?_
    have j := i8
    obtain ⟨kk, fs, hc, hl, lk⟩ := i8
    have b := kk sl _ z3 a3
    have l0 : fs.length < 1000 := Nat.lt_of_le_of_lt hl (by simp only [List.length_cons, List.length_nil]; decide)
    simp only [r_seq, r_next, r_brk, r_cont, r_asg, r_name, r_ret, r_retN, r_drop, r_ifs, r_never, r_var, r_c, r_op, r_un, r_if, r_tst, r_b, r_not, r_and, r_or, r_andV, r_orV, r_notV, r_nil, r_cons, r_tup, r_lst, r_cb, r_call, r_bm, r_bm0, r_sl, r_nopart, r_part, r_rev, r_gnil, r_gcons, r_gsub, r_par, r_aug, r_chain, r_I0, r_I, r_U, r_ixd, r_lend, r_tupd, r_listd, r_sld, r_app, r_ext, r_reverse, r_setl, r_cat, r_int1, r_eqS, r_neS, scal_ii, scal_bb, scal_ss, at0, at1, at2, sq_lst, sq_tup, isLst_lst, List.getElem?_cons_zero, List.getElem?_cons_succ, List.set_cons_zero, List.set_cons_succ, V.int.injEq, V.bl.injEq, V.ref.injEq, V.str.injEq, HO.lst.injEq, HO.tup.injEq, Option.some.injEq, exists_eq_left', exists_eq_left, List.cons.injEq, and_true, true_and, decide_eq_true_eq, reduceCtorEq, false_and, exists_false, or_false, false_or, exists_const, and_assoc, exists_and_left, List.append_nil, ix0, ix1, ix2, cm_mod, cdw1009, cdw2003, cdw7, cdw64, cdw2, cm104729, cm2, cm3, upd_same, List.length_cons, List.length_nil, Int.reduceLT, Int.reduceLE, Nat.reduceAdd, Nat.reduceLeDiff, Nat.reduceLT, Int.reduceToNat, r_for1, r_forL, r_forT, r_lcL, r_lc1, r_yes, r_gtupD, wipe_0, wipe_1, List.cons_append, List.nil_append, r_forS, r_ipI, ite_false, ite_true, Bool.not_true, Bool.not_false, decide_true, decide_false, r_isd, r_islt, cD_ty, cD_ref, tD_non, tD_bl, tD_int, tD_str, tD_ref, tH_lst, tH_tup, tH_dK, tH_ins, ki_self, ki_int_bool, ki_non_int, ki_str_int, ki_lt_lst, ki_lt_tup, r_fld, r_sfld, HO.ins.injEq, cx_K, r_spB, r_spSs, b]
    refine ⟨X.ss, rfl, oss, fun ps G hp sG hG => ?_⟩
    have hc1 := sG c _ hc
    simp only [r_seq, r_next, r_brk, r_cont, r_asg, r_name, r_ret, r_retN, r_drop, r_ifs, r_never, r_var, r_c, r_op, r_un, r_if, r_tst, r_b, r_not, r_and, r_or, r_andV, r_orV, r_notV, r_nil, r_cons, r_tup, r_lst, r_cb, r_call, r_bm, r_bm0, r_sl, r_nopart, r_part, r_rev, r_gnil, r_gcons, r_gsub, r_par, r_aug, r_chain, r_I0, r_I, r_U, r_ixd, r_lend, r_tupd, r_listd, r_sld, r_app, r_ext, r_reverse, r_setl, r_cat, r_int1, r_eqS, r_neS, scal_ii, scal_bb, scal_ss, at0, at1, at2, sq_lst, sq_tup, isLst_lst, List.getElem?_cons_zero, List.getElem?_cons_succ, List.set_cons_zero, List.set_cons_succ, V.int.injEq, V.bl.injEq, V.ref.injEq, V.str.injEq, HO.lst.injEq, HO.tup.injEq, Option.some.injEq, exists_eq_left', exists_eq_left, List.cons.injEq, and_true, true_and, decide_eq_true_eq, reduceCtorEq, false_and, exists_false, or_false, false_or, exists_const, and_assoc, exists_and_left, List.append_nil, ix0, ix1, ix2, cm_mod, cdw1009, cdw2003, cdw7, cdw64, cdw2, cm104729, cm2, cm3, upd_same, List.length_cons, List.length_nil, Int.reduceLT, Int.reduceLE, Nat.reduceAdd, Nat.reduceLeDiff, Nat.reduceLT, Int.reduceToNat, r_for1, r_forL, r_forT, r_lcL, r_lc1, r_yes, r_gtupD, wipe_0, wipe_1, List.cons_append, List.nil_append, r_forS, r_ipI, ite_false, ite_true, Bool.not_true, Bool.not_false, decide_true, decide_false, r_isd, r_islt, cD_ty, cD_ref, tD_non, tD_bl, tD_int, tD_str, tD_ref, tH_lst, tH_tup, tH_dK, tH_ins, ki_self, ki_int_bool, ki_non_int, ki_str_int, ki_lt_lst, ki_lt_tup, r_fld, r_sfld, HO.ins.injEq, cx_K, hc1, n8, l0, cl]
    rw [e]
    have xps : ps ≠ c := new_ne hc hp
    have i9 := Ini.store (CC := CC) (dx := dx) (f := "slots") (y := .ref ps) (kk.trans (Keep.same sG)) hl lk
    have kp : Keep c G (L2.upd G c (.ins CC dx (putF "slots" (.ref ps) fs))) := Keep.upd (Keep.refl c G)
    have tpu := kp pu _ xpu (sG _ _ tpu)
    have tpk := kp pk _ xpk (sG _ _ tpk)
    have tpn := kp pn _ xpn (sG _ _ tpn)
    have tps := kp ps _ xps hG
    clear hc e N l0 hc1 j b kp
    generalize L2.upd G c (.ins CC dx (putF "slots" (.ref ps) fs)) = H9 at i9 tpu tpk tpn tps ⊢
    clear kk hl lk sG hG hp
    -- kinds
    refine seq_intro fun N e => ?_
    have j := i9
    obtain ⟨kk, fs, hc, hl, lk⟩ := i9
    have b := kk kd _ z4 a4
    have l0 : fs.length < 1000 := Nat.lt_of_le_of_lt hl (by simp only [List.length_cons, List.length_nil]; decide)
    simp only [r_seq, r_next, r_brk, r_cont, r_asg, r_name, r_ret, r_retN, r_drop, r_ifs, r_never, r_var, r_c, r_op, r_un, r_if, r_tst, r_b, r_not, r_and, r_or, r_andV, r_orV, r_notV, r_nil, r_cons, r_tup, r_lst, r_cb, r_call, r_bm, r_bm0, r_sl, r_nopart, r_part, r_rev, r_gnil, r_gcons, r_gsub, r_par, r_aug, r_chain, r_I0, r_I, r_U, r_ixd, r_lend, r_tupd, r_listd, r_sld, r_app, r_ext, r_reverse, r_setl, r_cat, r_int1, r_eqS, r_neS, scal_ii, scal_bb, scal_ss, at0, at1, at2, sq_lst, sq_tup, isLst_lst, List.getElem?_cons_zero, List.getElem?_cons_succ, List.set_cons_zero, List.set_cons_succ, V.int.injEq, V.bl.injEq, V.ref.injEq, V.str.injEq, HO.lst.injEq, HO.tup.injEq, Option.some.injEq, exists_eq_left', exists_eq_left, List.cons.injEq, and_true, true_and, decide_eq_true_eq, reduceCtorEq, false_and, exists_false, or_false, false_or, exists_const, and_assoc, exists_and_left, List.append_nil, ix0, ix1, ix2, cm_mod, cdw1009, cdw2003, cdw7, cdw64, cdw2, cm104729, cm2, cm3, upd_same, List.length_cons, List.length_nil, Int.reduceLT, Int.reduceLE, Nat.reduceAdd, Nat.reduceLeDiff, Nat.reduceLT, Int.reduceToNat, r_for1, r_forL, r_forT, r_lcL, r_lc1, r_yes, r_gtupD, wipe_0, wipe_1, List.cons_append, List.nil_append, r_forS, r_ipI, ite_false, ite_true, Bool.not_true, Bool.not_false, decide_true, decide_false, r_isd, r_islt, cD_ty, cD_ref, tD_non, tD_bl, tD_int, tD_str, tD_ref, tH_lst, tH_tup, tH_dK, tH_ins, ki_self, ki_int_bool, ki_non_int, ki_str_int, ki_lt_lst, ki_lt_tup, r_fld, r_sfld, HO.ins.injEq, cx_K, r_spB, r_spSs, b]
    refine ⟨_, rfl, okds, fun pd G hp sG hG => ?_⟩
    have hc1 := sG c _ hc
    simp only [r_seq, r_next, r_brk, r_cont, r_asg, r_name, r_ret, r_retN, r_drop, r_ifs, r_never, r_var, r_c, r_op, r_un, r_if, r_tst, r_b, r_not, r_and, r_or, r_andV, r_orV, r_notV, r_nil, r_cons, r_tup, r_lst, r_cb, r_call, r_bm, r_bm0, r_sl, r_nopart, r_part, r_rev, r_gnil, r_gcons, r_gsub, r_par, r_aug, r_chain, r_I0, r_I, r_U, r_ixd, r_lend, r_tupd, r_listd, r_sld, r_app, r_ext, r_reverse, r_setl, r_cat, r_int1, r_eqS, r_neS, scal_ii, scal_bb, scal_ss, at0, at1, at2, sq_lst, sq_tup, isLst_lst, List.getElem?_cons_zero, List.getElem?_cons_succ, List.set_cons_zero, List.set_cons_succ, V.int.injEq, V.bl.injEq, V.ref.injEq, V.str.injEq, HO.lst.injEq, HO.tup.injEq, Option.some.injEq, exists_eq_left', exists_eq_left, List.cons.injEq, and_true, true_and, decide_eq_true_eq, reduceCtorEq, false_and, exists_false, or_false, false_or, exists_const, and_assoc, exists_and_left, List.append_nil, ix0, ix1, ix2, cm_mod, cdw1009, cdw2003, cdw7, cdw64, cdw2, cm104729, cm2, cm3, upd_same, List.length_cons, List.length_nil, Int.reduceLT, Int.reduceLE, Nat.reduceAdd, Nat.reduceLeDiff, Nat.reduceLT, Int.reduceToNat, r_for1, r_forL, r_forT, r_lcL, r_lc1, r_yes, r_gtupD, wipe_0, wipe_1, List.cons_append, List.nil_append, r_forS, r_ipI, ite_false, ite_true, Bool.not_true, Bool.not_false, decide_true, decide_false, r_isd, r_islt, cD_ty, cD_ref, tD_non, tD_bl, tD_int, tD_str, tD_ref, tH_lst, tH_tup, tH_dK, tH_ins, ki_self, ki_int_bool, ki_non_int, ki_str_int, ki_lt_lst, ki_lt_tup, r_fld, r_sfld, HO.ins.injEq, cx_K, hc1, n9, l0, cl]
    rw [e]
    have xpd : pd ≠ c := new_ne hc hp
    have i10 := Ini.store (CC := CC) (dx := dx) (f := "kinds") (y := .ref pd) (kk.trans (Keep.same sG)) hl lk
    have kp : Keep c G (L2.upd G c (.ins CC dx (putF "kinds" (.ref pd) fs))) := Keep.upd (Keep.refl c G)
    have tpu := kp pu _ xpu (sG _ _ tpu)
    have tpk := kp pk _ xpk (sG _ _ tpk)
    have tpn := kp pn _ xpn (sG _ _ tpn)
    have tps := kp ps _ xps (sG _ _ tps)
    have tpd := kp pd _ xpd hG
    clear hc e N l0 hc1 j b kp
    generalize L2.upd G c (.ins CC dx (putF "kinds" (.ref pd) fs)) = H10 at i10 tpu tpk tpn tps tpd ⊢
    clear kk hl lk sG hG hp
    -- test
    refine seq_intro fun N e => ?_
    have j := i10
    obtain ⟨kk, fs, hc, hl, lk⟩ := j
    have y9 := lk "slots" _ rfl
    have y10 := lk "kinds" _ rfl
    have ln : ((vn X.kds).length : Int) = ((X.ss.map V.str).length : Int) := by rw [vn_len, List.length_map, okl]
    simp only [r_seq, r_next, r_brk, r_cont, r_asg, r_name, r_ret, r_retN, r_drop, r_ifs, r_never, r_var, r_c, r_op, r_un, r_if, r_tst, r_b, r_not, r_and, r_or, r_andV, r_orV, r_notV, r_nil, r_cons, r_tup, r_lst, r_cb, r_call, r_bm, r_bm0, r_sl, r_nopart, r_part, r_rev, r_gnil, r_gcons, r_gsub, r_par, r_aug, r_chain, r_I0, r_I, r_U, r_ixd, r_lend, r_tupd, r_listd, r_sld, r_app, r_ext, r_reverse, r_setl, r_cat, r_int1, r_eqS, r_neS, scal_ii, scal_bb, scal_ss, at0, at1, at2, sq_lst, sq_tup, isLst_lst, List.getElem?_cons_zero, List.getElem?_cons_succ, List.set_cons_zero, List.set_cons_succ, V.int.injEq, V.bl.injEq, V.ref.injEq, V.str.injEq, HO.lst.injEq, HO.tup.injEq, Option.some.injEq, exists_eq_left', exists_eq_left, List.cons.injEq, and_true, true_and, decide_eq_true_eq, reduceCtorEq, false_and, exists_false, or_false, false_or, exists_const, and_assoc, exists_and_left, List.append_nil, ix0, ix1, ix2, cm_mod, cdw1009, cdw2003, cdw7, cdw64, cdw2, cm104729, cm2, cm3, upd_same, List.length_cons, List.length_nil, Int.reduceLT, Int.reduceLE, Nat.reduceAdd, Nat.reduceLeDiff, Nat.reduceLT, Int.reduceToNat, r_for1, r_forL, r_forT, r_lcL, r_lc1, r_yes, r_gtupD, wipe_0, wipe_1, List.cons_append, List.nil_append, r_forS, r_ipI, ite_false, ite_true, Bool.not_true, Bool.not_false, decide_true, decide_false, r_isd, r_islt, cD_ty, cD_ref, tD_non, tD_bl, tD_int, tD_str, tD_ref, tH_lst, tH_tup, tH_dK, tH_ins, ki_self, ki_int_bool, ki_non_int, ki_str_int, ki_lt_lst, ki_lt_tup, r_fld, r_sfld, HO.ins.injEq, cx_K, hc, n8, n9, cl, y9, y10, tps, tpd, ln]
    rw [e]
    clear e N kk fs hc hl lk y9 y10 ln
    -- name
    refine seq_intro fun N e => ?_
    have j := i10
    obtain ⟨kk, fs, hc, hl, lk⟩ := i10
    have l0 : fs.length < 1000 := Nat.lt_of_le_of_lt hl (by simp only [List.length_cons, List.length_nil]; decide)
    simp only [r_seq, r_next, r_brk, r_cont, r_asg, r_name, r_ret, r_retN, r_drop, r_ifs, r_never, r_var, r_c, r_op, r_un, r_if, r_tst, r_b, r_not, r_and, r_or, r_andV, r_orV, r_notV, r_nil, r_cons, r_tup, r_lst, r_cb, r_call, r_bm, r_bm0, r_sl, r_nopart, r_part, r_rev, r_gnil, r_gcons, r_gsub, r_par, r_aug, r_chain, r_I0, r_I, r_U, r_ixd, r_lend, r_tupd, r_listd, r_sld, r_app, r_ext, r_reverse, r_setl, r_cat, r_int1, r_eqS, r_neS, scal_ii, scal_bb, scal_ss, at0, at1, at2, sq_lst, sq_tup, isLst_lst, List.getElem?_cons_zero, List.getElem?_cons_succ, List.set_cons_zero, List.set_cons_succ, V.int.injEq, V.bl.injEq, V.ref.injEq, V.str.injEq, HO.lst.injEq, HO.tup.injEq, Option.some.injEq, exists_eq_left', exists_eq_left, List.cons.injEq, and_true, true_and, decide_eq_true_eq, reduceCtorEq, false_and, exists_false, or_false, false_or, exists_const, and_assoc, exists_and_left, List.append_nil, ix0, ix1, ix2, cm_mod, cdw1009, cdw2003, cdw7, cdw64, cdw2, cm104729, cm2, cm3, upd_same, List.length_cons, List.length_nil, Int.reduceLT, Int.reduceLE, Nat.reduceAdd, Nat.reduceLeDiff, Nat.reduceLT, Int.reduceToNat, r_for1, r_forL, r_forT, r_lcL, r_lc1, r_yes, r_gtupD, wipe_0, wipe_1, List.cons_append, List.nil_append, r_forS, r_ipI, ite_false, ite_true, Bool.not_true, Bool.not_false, decide_true, decide_false, r_isd, r_islt, cD_ty, cD_ref, tD_non, tD_bl, tD_int, tD_str, tD_ref, tH_lst, tH_tup, tH_dK, tH_ins, ki_self, ki_int_bool, ki_non_int, ki_str_int, ki_lt_lst, ki_lt_tup, r_fld, r_sfld, HO.ins.injEq, cx_K, r_spS, r_spD]
    refine ⟨oz1, fun G sG => ?_⟩
    have hc1 := sG c _ hc
    simp only [r_seq, r_next, r_brk, r_cont, r_asg, r_name, r_ret, r_retN, r_drop, r_ifs, r_never, r_var, r_c, r_op, r_un, r_if, r_tst, r_b, r_not, r_and, r_or, r_andV, r_orV, r_notV, r_nil, r_cons, r_tup, r_lst, r_cb, r_call, r_bm, r_bm0, r_sl, r_nopart, r_part, r_rev, r_gnil, r_gcons, r_gsub, r_par, r_aug, r_chain, r_I0, r_I, r_U, r_ixd, r_lend, r_tupd, r_listd, r_sld, r_app, r_ext, r_reverse, r_setl, r_cat, r_int1, r_eqS, r_neS, scal_ii, scal_bb, scal_ss, at0, at1, at2, sq_lst, sq_tup, isLst_lst, List.getElem?_cons_zero, List.getElem?_cons_succ, List.set_cons_zero, List.set_cons_succ, V.int.injEq, V.bl.injEq, V.ref.injEq, V.str.injEq, HO.lst.injEq, HO.tup.injEq, Option.some.injEq, exists_eq_left', exists_eq_left, List.cons.injEq, and_true, true_and, decide_eq_true_eq, reduceCtorEq, false_and, exists_false, or_false, false_or, exists_const, and_assoc, exists_and_left, List.append_nil, ix0, ix1, ix2, cm_mod, cdw1009, cdw2003, cdw7, cdw64, cdw2, cm104729, cm2, cm3, upd_same, List.length_cons, List.length_nil, Int.reduceLT, Int.reduceLE, Nat.reduceAdd, Nat.reduceLeDiff, Nat.reduceLT, Int.reduceToNat, r_for1, r_forL, r_forT, r_lcL, r_lc1, r_yes, r_gtupD, wipe_0, wipe_1, List.cons_append, List.nil_append, r_forS, r_ipI, ite_false, ite_true, Bool.not_true, Bool.not_false, decide_true, decide_false, r_isd, r_islt, cD_ty, cD_ref, tD_non, tD_bl, tD_int, tD_str, tD_ref, tH_lst, tH_tup, tH_dK, tH_ins, ki_self, ki_int_bool, ki_non_int, ki_str_int, ki_lt_lst, ki_lt_tup, r_fld, r_sfld, HO.ins.injEq, cx_K, hc1, n10, l0, cl]
    rw [e]
    have i11 := Ini.store (CC := CC) (dx := dx) (f := "name") (y := .str X.z1) (kk.trans (Keep.same sG)) hl lk
    have kp : Keep c G (L2.upd G c (.ins CC dx (putF "name" (.str X.z1) fs))) := Keep.upd (Keep.refl c G)
    have tpu := kp pu _ xpu (sG _ _ tpu)
    have tpk := kp pk _ xpk (sG _ _ tpk)
    have tpn := kp pn _ xpn (sG _ _ tpn)
    have tps := kp ps _ xps (sG _ _ tps)
    have tpd := kp pd _ xpd (sG _ _ tpd)
    clear hc e N l0 hc1 j kp
    generalize L2.upd G c (.ins CC dx (putF "name" (.str X.z1) fs)) = H11 at i11 tpu tpk tpn tps tpd ⊢
    clear kk hl lk sG
    -- path
    refine seq_intro fun N e => ?_
    have j := i11
    obtain ⟨kk, fs, hc, hl, lk⟩ := i11
    have l0 : fs.length < 1000 := Nat.lt_of_le_of_lt hl (by simp only [List.length_cons, List.length_nil]; decide)
    simp only [r_seq, r_next, r_brk, r_cont, r_asg, r_name, r_ret, r_retN, r_drop, r_ifs, r_never, r_var, r_c, r_op, r_un, r_if, r_tst, r_b, r_not, r_and, r_or, r_andV, r_orV, r_notV, r_nil, r_cons, r_tup, r_lst, r_cb, r_call, r_bm, r_bm0, r_sl, r_nopart, r_part, r_rev, r_gnil, r_gcons, r_gsub, r_par, r_aug, r_chain, r_I0, r_I, r_U, r_ixd, r_lend, r_tupd, r_listd, r_sld, r_app, r_ext, r_reverse, r_setl, r_cat, r_int1, r_eqS, r_neS, scal_ii, scal_bb, scal_ss, at0, at1, at2, sq_lst, sq_tup, isLst_lst, List.getElem?_cons_zero, List.getElem?_cons_succ, List.set_cons_zero, List.set_cons_succ, V.int.injEq, V.bl.injEq, V.ref.injEq, V.str.injEq, HO.lst.injEq, HO.tup.injEq, Option.some.injEq, exists_eq_left', exists_eq_left, List.cons.injEq, and_true, true_and, decide_eq_true_eq, reduceCtorEq, false_and, exists_false, or_false, false_or, exists_const, and_assoc, exists_and_left, List.append_nil, ix0, ix1, ix2, cm_mod, cdw1009, cdw2003, cdw7, cdw64, cdw2, cm104729, cm2, cm3, upd_same, List.length_cons, List.length_nil, Int.reduceLT, Int.reduceLE, Nat.reduceAdd, Nat.reduceLeDiff, Nat.reduceLT, Int.reduceToNat, r_for1, r_forL, r_forT, r_lcL, r_lc1, r_yes, r_gtupD, wipe_0, wipe_1, List.cons_append, List.nil_append, r_forS, r_ipI, ite_false, ite_true, Bool.not_true, Bool.not_false, decide_true, decide_false, r_isd, r_islt, cD_ty, cD_ref, tD_non, tD_bl, tD_int, tD_str, tD_ref, tH_lst, tH_tup, tH_dK, tH_ins, ki_self, ki_int_bool, ki_non_int, ki_str_int, ki_lt_lst, ki_lt_tup, r_fld, r_sfld, HO.ins.injEq, cx_K, r_spS, r_spD]
    refine ⟨oz2, fun G sG => ?_⟩
    have hc1 := sG c _ hc
    simp only [r_seq, r_next, r_brk, r_cont, r_asg, r_name, r_ret, r_retN, r_drop, r_ifs, r_never, r_var, r_c, r_op, r_un, r_if, r_tst, r_b, r_not, r_and, r_or, r_andV, r_orV, r_notV, r_nil, r_cons, r_tup, r_lst, r_cb, r_call, r_bm, r_bm0, r_sl, r_nopart, r_part, r_rev, r_gnil, r_gcons, r_gsub, r_par, r_aug, r_chain, r_I0, r_I, r_U, r_ixd, r_lend, r_tupd, r_listd, r_sld, r_app, r_ext, r_reverse, r_setl, r_cat, r_int1, r_eqS, r_neS, scal_ii, scal_bb, scal_ss, at0, at1, at2, sq_lst, sq_tup, isLst_lst, List.getElem?_cons_zero, List.getElem?_cons_succ, List.set_cons_zero, List.set_cons_succ, V.int.injEq, V.bl.injEq, V.ref.injEq, V.str.injEq, HO.lst.injEq, HO.tup.injEq, Option.some.injEq, exists_eq_left', exists_eq_left, List.cons.injEq, and_true, true_and, decide_eq_true_eq, reduceCtorEq, false_and, exists_false, or_false, false_or, exists_const, and_assoc, exists_and_left, List.append_nil, ix0, ix1, ix2, cm_mod, cdw1009, cdw2003, cdw7, cdw64, cdw2, cm104729, cm2, cm3, upd_same, List.length_cons, List.length_nil, Int.reduceLT, Int.reduceLE, Nat.reduceAdd, Nat.reduceLeDiff, Nat.reduceLT, Int.reduceToNat, r_for1, r_forL, r_forT, r_lcL, r_lc1, r_yes, r_gtupD, wipe_0, wipe_1, List.cons_append, List.nil_append, r_forS, r_ipI, ite_false, ite_true, Bool.not_true, Bool.not_false, decide_true, decide_false, r_isd, r_islt, cD_ty, cD_ref, tD_non, tD_bl, tD_int, tD_str, tD_ref, tH_lst, tH_tup, tH_dK, tH_ins, ki_self, ki_int_bool, ki_non_int, ki_str_int, ki_lt_lst, ki_lt_tup, r_fld, r_sfld, HO.ins.injEq, cx_K, hc1, n11, l0, cl]
    rw [e]
    have i12 := Ini.store (CC := CC) (dx := dx) (f := "path") (y := .str X.z2) (kk.trans (Keep.same sG)) hl lk
    have kp : Keep c G (L2.upd G c (.ins CC dx (putF "path" (.str X.z2) fs))) := Keep.upd (Keep.refl c G)
    have tpu := kp pu _ xpu (sG _ _ tpu)
    have tpk := kp pk _ xpk (sG _ _ tpk)
    have tpn := kp pn _ xpn (sG _ _ tpn)
    have tps := kp ps _ xps (sG _ _ tps)
    have tpd := kp pd _ xpd (sG _ _ tpd)
    clear hc e N l0 hc1 j kp
    generalize L2.upd G c (.ins CC dx (putF "path" (.str X.z2) fs)) = H12 at i12 tpu tpk tpn tps tpd ⊢
    clear kk hl lk sG
    -- line
    refine seq_intro fun N e => ?_
    obtain ⟨kk, fs, hc, hl, lk⟩ := i12
    have l0 : fs.length < 1000 := Nat.lt_of_le_of_lt hl (by simp only [List.length_cons, List.length_nil]; decide)
    simp only [r_seq, r_next, r_brk, r_cont, r_asg, r_name, r_ret, r_retN, r_drop, r_ifs, r_never, r_var, r_c, r_op, r_un, r_if, r_tst, r_b, r_not, r_and, r_or, r_andV, r_orV, r_notV, r_nil, r_cons, r_tup, r_lst, r_cb, r_call, r_bm, r_bm0, r_sl, r_nopart, r_part, r_rev, r_gnil, r_gcons, r_gsub, r_par, r_aug, r_chain, r_I0, r_I, r_U, r_ixd, r_lend, r_tupd, r_listd, r_sld, r_app, r_ext, r_reverse, r_setl, r_cat, r_int1, r_eqS, r_neS, scal_ii, scal_bb, scal_ss, at0, at1, at2, sq_lst, sq_tup, isLst_lst, List.getElem?_cons_zero, List.getElem?_cons_succ, List.set_cons_zero, List.set_cons_succ, V.int.injEq, V.bl.injEq, V.ref.injEq, V.str.injEq, HO.lst.injEq, HO.tup.injEq, Option.some.injEq, exists_eq_left', exists_eq_left, List.cons.injEq, and_true, true_and, decide_eq_true_eq, reduceCtorEq, false_and, exists_false, or_false, false_or, exists_const, and_assoc, exists_and_left, List.append_nil, ix0, ix1, ix2, cm_mod, cdw1009, cdw2003, cdw7, cdw64, cdw2, cm104729, cm2, cm3, upd_same, List.length_cons, List.length_nil, Int.reduceLT, Int.reduceLE, Nat.reduceAdd, Nat.reduceLeDiff, Nat.reduceLT, Int.reduceToNat, r_for1, r_forL, r_forT, r_lcL, r_lc1, r_yes, r_gtupD, wipe_0, wipe_1, List.cons_append, List.nil_append, r_forS, r_ipI, ite_false, ite_true, Bool.not_true, Bool.not_false, decide_true, decide_false, r_isd, r_islt, cD_ty, cD_ref, tD_non, tD_bl, tD_int, tD_str, tD_ref, tH_lst, tH_tup, tH_dK, tH_ins, ki_self, ki_int_bool, ki_non_int, ki_str_int, ki_lt_lst, ki_lt_tup, r_fld, r_sfld, HO.ins.injEq, cx_K, r_spN, hc, n12, l0, cl, o4, o4']
    rw [e]
    have i13 := Ini.store (CC := CC) (dx := dx) (f := "line") (y := .int X.i4) kk hl lk
    have kp : Keep c H12 (L2.upd H12 c (.ins CC dx (putF "line" (.int X.i4) fs))) := Keep.upd (Keep.refl c H12)
    have tpu := kp pu _ xpu (tpu)
    have tpk := kp pk _ xpk (tpk)
    have tpn := kp pn _ xpn (tpn)
    have tps := kp ps _ xps (tps)
    have tpd := kp pd _ xpd (tpd)
    clear hc e N l0 kp
    generalize L2.upd H12 c (.ins CC dx (putF "line" (.int X.i4) fs)) = H13 at i13 tpu tpk tpn tps tpd ⊢
    clear kk hl lk fs
    -- lines
    refine seq_intro fun N e => ?_
    have j := i13
    obtain ⟨kk, fs, hc, hl, lk⟩ := i13
    have b := kk ln _ z5 a5
    have l0 : fs.length < 1000 := Nat.lt_of_le_of_lt hl (by simp only [List.length_cons, List.length_nil]; decide)
    simp only [r_seq, r_next, r_brk, r_cont, r_asg, r_name, r_ret, r_retN, r_drop, r_ifs, r_never, r_var, r_c, r_op, r_un, r_if, r_tst, r_b, r_not, r_and, r_or, r_andV, r_orV, r_notV, r_nil, r_cons, r_tup, r_lst, r_cb, r_call, r_bm, r_bm0, r_sl, r_nopart, r_part, r_rev, r_gnil, r_gcons, r_gsub, r_par, r_aug, r_chain, r_I0, r_I, r_U, r_ixd, r_lend, r_tupd, r_listd, r_sld, r_app, r_ext, r_reverse, r_setl, r_cat, r_int1, r_eqS, r_neS, scal_ii, scal_bb, scal_ss, at0, at1, at2, sq_lst, sq_tup, isLst_lst, List.getElem?_cons_zero, List.getElem?_cons_succ, List.set_cons_zero, List.set_cons_succ, V.int.injEq, V.bl.injEq, V.ref.injEq, V.str.injEq, HO.lst.injEq, HO.tup.injEq, Option.some.injEq, exists_eq_left', exists_eq_left, List.cons.injEq, and_true, true_and, decide_eq_true_eq, reduceCtorEq, false_and, exists_false, or_false, false_or, exists_const, and_assoc, exists_and_left, List.append_nil, ix0, ix1, ix2, cm_mod, cdw1009, cdw2003, cdw7, cdw64, cdw2, cm104729, cm2, cm3, upd_same, List.length_cons, List.length_nil, Int.reduceLT, Int.reduceLE, Nat.reduceAdd, Nat.reduceLeDiff, Nat.reduceLT, Int.reduceToNat, r_for1, r_forL, r_forT, r_lcL, r_lc1, r_yes, r_gtupD, wipe_0, wipe_1, List.cons_append, List.nil_append, r_forS, r_ipI, ite_false, ite_true, Bool.not_true, Bool.not_false, decide_true, decide_false, r_isd, r_islt, cD_ty, cD_ref, tD_non, tD_bl, tD_int, tD_str, tD_ref, tH_lst, tH_tup, tH_dK, tH_ins, ki_self, ki_int_bool, ki_non_int, ki_str_int, ki_lt_lst, ki_lt_tup, r_fld, r_sfld, HO.ins.injEq, cx_K, r_spB, r_spSs, b]
    refine ⟨_, rfl, olns, fun pt G hp sG hG => ?_⟩
    have hc1 := sG c _ hc
    simp only [r_seq, r_next, r_brk, r_cont, r_asg, r_name, r_ret, r_retN, r_drop, r_ifs, r_never, r_var, r_c, r_op, r_un, r_if, r_tst, r_b, r_not, r_and, r_or, r_andV, r_orV, r_notV, r_nil, r_cons, r_tup, r_lst, r_cb, r_call, r_bm, r_bm0, r_sl, r_nopart, r_part, r_rev, r_gnil, r_gcons, r_gsub, r_par, r_aug, r_chain, r_I0, r_I, r_U, r_ixd, r_lend, r_tupd, r_listd, r_sld, r_app, r_ext, r_reverse, r_setl, r_cat, r_int1, r_eqS, r_neS, scal_ii, scal_bb, scal_ss, at0, at1, at2, sq_lst, sq_tup, isLst_lst, List.getElem?_cons_zero, List.getElem?_cons_succ, List.set_cons_zero, List.set_cons_succ, V.int.injEq, V.bl.injEq, V.ref.injEq, V.str.injEq, HO.lst.injEq, HO.tup.injEq, Option.some.injEq, exists_eq_left', exists_eq_left, List.cons.injEq, and_true, true_and, decide_eq_true_eq, reduceCtorEq, false_and, exists_false, or_false, false_or, exists_const, and_assoc, exists_and_left, List.append_nil, ix0, ix1, ix2, cm_mod, cdw1009, cdw2003, cdw7, cdw64, cdw2, cm104729, cm2, cm3, upd_same, List.length_cons, List.length_nil, Int.reduceLT, Int.reduceLE, Nat.reduceAdd, Nat.reduceLeDiff, Nat.reduceLT, Int.reduceToNat, r_for1, r_forL, r_forT, r_lcL, r_lc1, r_yes, r_gtupD, wipe_0, wipe_1, List.cons_append, List.nil_append, r_forS, r_ipI, ite_false, ite_true, Bool.not_true, Bool.not_false, decide_true, decide_false, r_isd, r_islt, cD_ty, cD_ref, tD_non, tD_bl, tD_int, tD_str, tD_ref, tH_lst, tH_tup, tH_dK, tH_ins, ki_self, ki_int_bool, ki_non_int, ki_str_int, ki_lt_lst, ki_lt_tup, r_fld, r_sfld, HO.ins.injEq, cx_K, hc1, n13, l0, cl]
    rw [e]
    have xpt : pt ≠ c := new_ne hc hp
    have i14 := Ini.store (CC := CC) (dx := dx) (f := "lines") (y := .ref pt) (kk.trans (Keep.same sG)) hl lk
    have kp : Keep c G (L2.upd G c (.ins CC dx (putF "lines" (.ref pt) fs))) := Keep.upd (Keep.refl c G)
    have tpu := kp pu _ xpu (sG _ _ tpu)
    have tpk := kp pk _ xpk (sG _ _ tpk)
    have tpn := kp pn _ xpn (sG _ _ tpn)
    have tps := kp ps _ xps (sG _ _ tps)
    have tpd := kp pd _ xpd (sG _ _ tpd)
    have tpt := kp pt _ xpt hG
    clear hc e N l0 hc1 j b kp
    generalize L2.upd G c (.ins CC dx (putF "lines" (.ref pt) fs)) = H14 at i14 tpu tpk tpn tps tpd tpt ⊢
    clear kk hl lk sG hG hp
    -- handlers
    refine seq_intro fun N e => ?_
    have j := i14
    obtain ⟨kk, fs, hc, hl, lk⟩ := i14
    have b := kk gd _ z6 a6
    have l0 : fs.length < 1000 := Nat.lt_of_le_of_lt hl (by simp only [List.length_cons, List.length_nil]; decide)
    simp only [r_seq, r_next, r_brk, r_cont, r_asg, r_name, r_ret, r_retN, r_drop, r_ifs, r_never, r_var, r_c, r_op, r_un, r_if, r_tst, r_b, r_not, r_and, r_or, r_andV, r_orV, r_notV, r_nil, r_cons, r_tup, r_lst, r_cb, r_call, r_bm, r_bm0, r_sl, r_nopart, r_part, r_rev, r_gnil, r_gcons, r_gsub, r_par, r_aug, r_chain, r_I0, r_I, r_U, r_ixd, r_lend, r_tupd, r_listd, r_sld, r_app, r_ext, r_reverse, r_setl, r_cat, r_int1, r_eqS, r_neS, scal_ii, scal_bb, scal_ss, at0, at1, at2, sq_lst, sq_tup, isLst_lst, List.getElem?_cons_zero, List.getElem?_cons_succ, List.set_cons_zero, List.set_cons_succ, V.int.injEq, V.bl.injEq, V.ref.injEq, V.str.injEq, HO.lst.injEq, HO.tup.injEq, Option.some.injEq, exists_eq_left', exists_eq_left, List.cons.injEq, and_true, true_and, decide_eq_true_eq, reduceCtorEq, false_and, exists_false, or_false, false_or, exists_const, and_assoc, exists_and_left, List.append_nil, ix0, ix1, ix2, cm_mod, cdw1009, cdw2003, cdw7, cdw64, cdw2, cm104729, cm2, cm3, upd_same, List.length_cons, List.length_nil, Int.reduceLT, Int.reduceLE, Nat.reduceAdd, Nat.reduceLeDiff, Nat.reduceLT, Int.reduceToNat, r_for1, r_forL, r_forT, r_lcL, r_lc1, r_yes, r_gtupD, wipe_0, wipe_1, List.cons_append, List.nil_append, r_forS, r_ipI, ite_false, ite_true, Bool.not_true, Bool.not_false, decide_true, decide_false, r_isd, r_islt, cD_ty, cD_ref, tD_non, tD_bl, tD_int, tD_str, tD_ref, tH_lst, tH_tup, tH_dK, tH_ins, ki_self, ki_int_bool, ki_non_int, ki_str_int, ki_lt_lst, ki_lt_tup, r_fld, r_sfld, HO.ins.injEq, cx_K, r_spB, r_spSs, b]
    refine ⟨_, rfl, ogds, fun pg G hp sG hG => ?_⟩
    have hc1 := sG c _ hc
    simp only [r_seq, r_next, r_brk, r_cont, r_asg, r_name, r_ret, r_retN, r_drop, r_ifs, r_never, r_var, r_c, r_op, r_un, r_if, r_tst, r_b, r_not, r_and, r_or, r_andV, r_orV, r_notV, r_nil, r_cons, r_tup, r_lst, r_cb, r_call, r_bm, r_bm0, r_sl, r_nopart, r_part, r_rev, r_gnil, r_gcons, r_gsub, r_par, r_aug, r_chain, r_I0, r_I, r_U, r_ixd, r_lend, r_tupd, r_listd, r_sld, r_app, r_ext, r_reverse, r_setl, r_cat, r_int1, r_eqS, r_neS, scal_ii, scal_bb, scal_ss, at0, at1, at2, sq_lst, sq_tup, isLst_lst, List.getElem?_cons_zero, List.getElem?_cons_succ, List.set_cons_zero, List.set_cons_succ, V.int.injEq, V.bl.injEq, V.ref.injEq, V.str.injEq, HO.lst.injEq, HO.tup.injEq, Option.some.injEq, exists_eq_left', exists_eq_left, List.cons.injEq, and_true, true_and, decide_eq_true_eq, reduceCtorEq, false_and, exists_false, or_false, false_or, exists_const, and_assoc, exists_and_left, List.append_nil, ix0, ix1, ix2, cm_mod, cdw1009, cdw2003, cdw7, cdw64, cdw2, cm104729, cm2, cm3, upd_same, List.length_cons, List.length_nil, Int.reduceLT, Int.reduceLE, Nat.reduceAdd, Nat.reduceLeDiff, Nat.reduceLT, Int.reduceToNat, r_for1, r_forL, r_forT, r_lcL, r_lc1, r_yes, r_gtupD, wipe_0, wipe_1, List.cons_append, List.nil_append, r_forS, r_ipI, ite_false, ite_true, Bool.not_true, Bool.not_false, decide_true, decide_false, r_isd, r_islt, cD_ty, cD_ref, tD_non, tD_bl, tD_int, tD_str, tD_ref, tH_lst, tH_tup, tH_dK, tH_ins, ki_self, ki_int_bool, ki_non_int, ki_str_int, ki_lt_lst, ki_lt_tup, r_fld, r_sfld, HO.ins.injEq, cx_K, hc1, n14, l0, cl]
    rw [e]
    have xpg : pg ≠ c := new_ne hc hp
    have i15 := Ini.store (CC := CC) (dx := dx) (f := "handlers") (y := .ref pg) (kk.trans (Keep.same sG)) hl lk
    have kp : Keep c G (L2.upd G c (.ins CC dx (putF "handlers" (.ref pg) fs))) := Keep.upd (Keep.refl c G)
    have tpu := kp pu _ xpu (sG _ _ tpu)
    have tpk := kp pk _ xpk (sG _ _ tpk)
    have tpn := kp pn _ xpn (sG _ _ tpn)
    have tps := kp ps _ xps (sG _ _ tps)
    have tpd := kp pd _ xpd (sG _ _ tpd)
    have tpt := kp pt _ xpt (sG _ _ tpt)
    have tpg := kp pg _ xpg hG
    clear hc e N l0 hc1 j b kp
    generalize L2.upd G c (.ins CC dx (putF "handlers" (.ref pg) fs)) = H15 at i15 tpu tpk tpn tps tpd tpt tpg ⊢
    clear kk hl lk sG hG hp
    -- identity
    have j := i15
    obtain ⟨kk, fs, hc, hl, lk⟩ := j
    have y0 := lk "argcount" _ rfl
    have y1 := lk "onlycount" _ rfl
    have y2 := lk "stacksize" _ rfl
    have y3 := lk "flags" _ rfl
    have y4 := lk "code" _ rfl
    have y5 := lk "depth" _ rfl
    have y6 := lk "constants" _ rfl
    have y7 := lk "names" _ rfl
    have y8 := lk "slots" _ rfl
    have y9 := lk "kinds" _ rfl
    have y10 := lk "name" _ rfl
    have y11 := lk "path" _ rfl
    have y12 := lk "line" _ rfl
    have y13 := lk "lines" _ rfl
    have y14 := lk "handlers" _ rfl
    have l0 : fs.length < 1000 := Nat.lt_of_le_of_lt hl (by simp only [List.length_cons, List.length_nil]; decide)
    simp only [r_seq, r_next, r_brk, r_cont, r_asg, r_name, r_ret, r_retN, r_drop, r_ifs, r_never, r_var, r_c, r_op, r_un, r_if, r_tst, r_b, r_not, r_and, r_or, r_andV, r_orV, r_notV, r_nil, r_cons, r_tup, r_lst, r_cb, r_call, r_bm, r_bm0, r_sl, r_nopart, r_part, r_rev, r_gnil, r_gcons, r_gsub, r_par, r_aug, r_chain, r_I0, r_I, r_U, r_ixd, r_lend, r_tupd, r_listd, r_sld, r_app, r_ext, r_reverse, r_setl, r_cat, r_int1, r_eqS, r_neS, scal_ii, scal_bb, scal_ss, at0, at1, at2, sq_lst, sq_tup, isLst_lst, List.getElem?_cons_zero, List.getElem?_cons_succ, List.set_cons_zero, List.set_cons_succ, V.int.injEq, V.bl.injEq, V.ref.injEq, V.str.injEq, HO.lst.injEq, HO.tup.injEq, Option.some.injEq, exists_eq_left', exists_eq_left, List.cons.injEq, and_true, true_and, decide_eq_true_eq, reduceCtorEq, false_and, exists_false, or_false, false_or, exists_const, and_assoc, exists_and_left, List.append_nil, ix0, ix1, ix2, cm_mod, cdw1009, cdw2003, cdw7, cdw64, cdw2, cm104729, cm2, cm3, upd_same, List.length_cons, List.length_nil, Int.reduceLT, Int.reduceLE, Nat.reduceAdd, Nat.reduceLeDiff, Nat.reduceLT, Int.reduceToNat, r_for1, r_forL, r_forT, r_lcL, r_lc1, r_yes, r_gtupD, wipe_0, wipe_1, List.cons_append, List.nil_append, r_forS, r_ipI, ite_false, ite_true, Bool.not_true, Bool.not_false, decide_true, decide_false, r_isd, r_islt, cD_ty, cD_ref, tD_non, tD_bl, tD_int, tD_str, tD_ref, tH_lst, tH_tup, tH_dK, tH_ins, ki_self, ki_int_bool, ki_non_int, ki_str_int, ki_lt_lst, ki_lt_tup, r_fld, r_sfld, HO.ins.injEq, cx_K, r_plain]
    intro m md hm hmd nm
    have hc1 : L2.upd (L2.upd H15 md (.own m)) m (.ins MM md []) c = some (.ins CC dx fs) := by rw [upd_ne (ne_new hc hm), upd_ne (ne_new hc hmd)]; exact hc
    simp only [r_seq, r_next, r_brk, r_cont, r_asg, r_name, r_ret, r_retN, r_drop, r_ifs, r_never, r_var, r_c, r_op, r_un, r_if, r_tst, r_b, r_not, r_and, r_or, r_andV, r_orV, r_notV, r_nil, r_cons, r_tup, r_lst, r_cb, r_call, r_bm, r_bm0, r_sl, r_nopart, r_part, r_rev, r_gnil, r_gcons, r_gsub, r_par, r_aug, r_chain, r_I0, r_I, r_U, r_ixd, r_lend, r_tupd, r_listd, r_sld, r_app, r_ext, r_reverse, r_setl, r_cat, r_int1, r_eqS, r_neS, scal_ii, scal_bb, scal_ss, at0, at1, at2, sq_lst, sq_tup, isLst_lst, List.getElem?_cons_zero, List.getElem?_cons_succ, List.set_cons_zero, List.set_cons_succ, V.int.injEq, V.bl.injEq, V.ref.injEq, V.str.injEq, HO.lst.injEq, HO.tup.injEq, Option.some.injEq, exists_eq_left', exists_eq_left, List.cons.injEq, and_true, true_and, decide_eq_true_eq, reduceCtorEq, false_and, exists_false, or_false, false_or, exists_const, and_assoc, exists_and_left, List.append_nil, ix0, ix1, ix2, cm_mod, cdw1009, cdw2003, cdw7, cdw64, cdw2, cm104729, cm2, cm3, upd_same, List.length_cons, List.length_nil, Int.reduceLT, Int.reduceLE, Nat.reduceAdd, Nat.reduceLeDiff, Nat.reduceLT, Int.reduceToNat, r_for1, r_forL, r_forT, r_lcL, r_lc1, r_yes, r_gtupD, wipe_0, wipe_1, List.cons_append, List.nil_append, r_forS, r_ipI, ite_false, ite_true, Bool.not_true, Bool.not_false, decide_true, decide_false, r_isd, r_islt, cD_ty, cD_ref, tD_non, tD_bl, tD_int, tD_str, tD_ref, tH_lst, tH_tup, tH_dK, tH_ins, ki_self, ki_int_bool, ki_non_int, ki_str_int, ki_lt_lst, ki_lt_tup, r_fld, r_sfld, HO.ins.injEq, cx_K, hc1, cl, l0, n15]
    have u := fun (b : Addr) (o : HO) (nb : b ≠ c) (e : H15 b = some o) (o3 : HO) => (show L2.upd (L2.upd (L2.upd H15 md (.own m)) m (.ins MM md [])) c o3 b = some o from by rw [upd_ne nb, upd_ne (ne_new e hm), upd_ne (ne_new e hmd)]; exact e)
    refine k _ (fun b o nb e => u b o nb (kk b o nb e) _) ⟨dx, _, pu, pk, pn, ps, pd, pt, pg, m, upd_same, ?_, ?_, ?_, ?_, ?_, ?_, ?_, ?_, ?_, ?_, ?_, ?_, ?_, ?_, ?_, ?_, u _ _ xpu tpu _, u _ _ xpk tpk _, u _ _ xpn tpn _, u _ _ xps tps _, u _ _ xpd tpd _, u _ _ xpt tpt _, u _ _ xpg tpg _⟩
    · rw [lookup_putF, if_neg (by decide)]
      exact y0
    · rw [lookup_putF, if_neg (by decide)]
      exact y1
    · rw [lookup_putF, if_neg (by decide)]
      exact y2
    · rw [lookup_putF, if_neg (by decide)]
      exact y3
    · rw [lookup_putF, if_neg (by decide)]
      exact y4
    · rw [lookup_putF, if_neg (by decide)]
      exact y5
    · rw [lookup_putF, if_neg (by decide)]
      exact y6
    · rw [lookup_putF, if_neg (by decide)]
      exact y7
    · rw [lookup_putF, if_neg (by decide)]
      exact y8
    · rw [lookup_putF, if_neg (by decide)]
      exact y9
    · rw [lookup_putF, if_neg (by decide)]
      exact y10
    · rw [lookup_putF, if_neg (by decide)]
      exact y11
    · rw [lookup_putF, if_neg (by decide)]
      exact y12
    · rw [lookup_putF, if_neg (by decide)]
      exact y13
    · rw [lookup_putF, if_neg (by decide)]
      exact y14
    · rw [lookup_putF, if_pos rfl]
end
end C57

set_option maxHeartbeats 2000000
namespace C57
open PySem PySem.Spec PyProof.Rows L2 StrLaws
/-! ### rows shown -/
/-- a text of a bounded length, of letters that there are -/
structure Cok (n : Nat) (z : Str) : Prop where
  l : z.length ≤ n
  c : ∀ x ∈ z.cps.toList, x < 16 ^ 8
theorem Cok.mono {n m : Nat} {z : Str} (h : Cok n z) (q : n ≤ m) : Cok m z := ⟨Nat.le_trans h.l q, h.c⟩
theorem Cok.app {n m : Nat} {z y : Str} (h : Cok n z) (k : Cok m y) : Cok (n + m) (z ++ y) := by
  refine ⟨by rw [strLen_append]; exact Nat.add_le_add h.l k.l, fun x hx => ?_⟩
  rw [Str.cps_append, Array.toList_append] at hx
  rcases List.mem_append.mp hx with hx | hx
  · exact h.c x hx
  · exact k.c x hx
theorem Cok.of {n : Nat} {s : String} (h : s.length ≤ n) : Cok n (Str.ofString s) := by
  refine ⟨by rw [PySem.ofString_length]; exact h, fun x hx => ?_⟩
  have hx' : x ∈ (s.toList.map fun c : Char => c.toNat) := by
    rw [Str.ofString_eq_toList] at hx
    simpa using hx
  obtain ⟨c, _, rfl⟩ := List.mem_map.mp hx'
  have := c.toNat_val
  have h2 : c.toNat < 1114112 := by
    have := c.valid
    rcases this with h | ⟨_, h⟩
    · exact Nat.lt_trans h (by decide)
    · exact h
  exact Nat.lt_trans h2 (by decide)
theorem Cok.emp : Cok 0 Str.empty := ⟨Nat.le_refl 0, fun x hx => by simp [Str.empty] at hx⟩
def cokB (n : Nat) (z : Str) : Bool := decide (z.length ≤ n) && z.cps.toList.all fun x => decide (x < 16 ^ 8)
theorem cok_b {n : Nat} {z : Str} (h : cokB n z = true) : Cok n z := by
  unfold cokB at h
  rw [Bool.and_eq_true] at h
  exact ⟨of_decide_eq_true h.1, fun x hx => of_decide_eq_true (List.all_eq_true.mp h.2 x hx)⟩
/-- the tables' texts -/
structure TbC (T : Tb) : Prop where
  n : ∀ z ∈ T.ns, Cok 100 z
  s : ∀ z ∈ T.ss, Cok 100 z
  c : ∀ z ∈ T.cs, Cok 100 z
theorem lkT_cok {l : List (Int × Str)} (h : l.all (fun p => cokB 50 p.2) = true) (k : Int) : Cok 50 ((lkT l k).getD "") := by
  unfold lkT
  cases q : l.find? fun p => decide (p.1 = k) with
  | none => exact cok_b (by decide +kernel)
  | some p => exact cok_b (List.all_eq_true.mp h p (List.mem_of_find?_eq_some q))
theorem mOf_cok {T : Tb} (h : TbC T) {k n : Nat} {t : Str} (e : mOf k T n = some t) : Cok 400 t := by
  unfold mOf at e
  have tx : ∀ {l : List (Int × Str)}, l.all (fun p => cokB 50 p.2) = true → mText l n = some t → Cok 400 t := fun hl e => by
    unfold mText at e
    cases e
    exact (lkT_cok hl _).mono (by decide)
  have at' : ∀ {f : Str → Str}, (∀ z, Cok 100 z → Cok 400 (f z)) → mAttr f T n = some t → Cok 400 t := fun hf e => by
    unfold mAttr at e
    cases q : T.ns[n / 2]? with
    | none => rw [q] at e; cases e
    | some z =>
      rw [q] at e
      cases e
      have hz := h.n z (List.mem_of_getElem? q)
      split
      · exact hf z hz
      · exact hz.mono (by decide)
  split at e
  · exact (h.c t (List.mem_of_getElem? e)).mono (by decide)
  · exact (h.n t (List.mem_of_getElem? e)).mono (by decide)
  · exact at' (fun z hz => ((Cok.emp.app hz).app (Cok.of (n := 20) (by decide))).mono (by decide)) e
  · exact at' (fun z hz => ((Cok.emp.app hz).app (Cok.of (n := 20) (by decide))).mono (by decide)) e
  · exact (h.s t (List.mem_of_getElem? e)).mono (by decide)
  · unfold mPair at e
    cases q1 : T.ss[n / 16]? with
    | none => rw [q1] at e; cases e
    | some z1 =>
      cases q2 : T.ss[n % 16]? with
      | none => rw [q1, q2] at e; cases e
      | some z2 =>
        rw [q1, q2] at e
        cases e
        exact (((Cok.emp.app (h.s _ (List.mem_of_getElem? q1))).app (Cok.of (n := 20) (by decide))).app (h.s _ (List.mem_of_getElem? q2))).mono (by decide)
  · exact tx (by decide +kernel) e
  · unfold mCmp at e
    cases e
    unfold cmpT
    have hl : CML.all (fun p => cokB 50 p.2) = true := by decide +kernel
    have g : ∀ {k : Int} {z : Str}, lkT CML k = some z → Cok 50 z := fun q => by
      have := lkT_cok hl (l := CML)
      have := lkT_cok hl ‹_›
      rwa [q] at this
    split
    · rename_i q
      exact (g q).mono (by decide)
    · split
      · rename_i q
        exact (((Cok.emp.app (Cok.of (n := 20) (by decide))).app (g q)).app (Cok.of (n := 20) (by decide))).mono (by decide)
      · exact cok_b (by decide +kernel)
  · unfold mOpp at e
    cases e
    split
    · exact cok_b (by decide +kernel)
    · exact cok_b (by decide +kernel)
  · exact tx (by decide +kernel) e
  · exact tx (by decide +kernel) e
  · cases e
theorem mean_cok {T : Tb} (h : TbC T) {z : Str} {n e : Nat} {t : Str} (hb : 2 * n + e < 2 ^ 60) (q : meanF T z n e = some t) : Cok 400 t := by
  unfold meanF at q
  split at q
  · cases q
    exact cok_b (by decide +kernel)
  · split at q
    · cases q
      have hi : (tgt z n e).natAbs < 10 ^ 20 := by
        refine Nat.lt_of_le_of_lt ?_ (Nat.lt_trans hb (by decide))
        unfold tgt
        split <;> omega
      have e := PySem.int_text_length_le10 (a := tgt z n e) (k := 20) (by decide) hi
      exact ((Cok.emp.app (Cok.of (n := 20) (by decide))).app (Cok.of (n := 21) e)).mono (by decide)
    · exact mOf_cok h q
end C57

set_option maxHeartbeats 2000000
namespace C57
open PySem PySem.Spec PyProof.Rows L2 StrLaws
theorem log_nat {n : Nat} (h : n < 2 ^ 62) : ((n : Int)).natAbs.log2 < 62 := by
  rw [Int.natAbs_natCast]
  rcases Nat.eq_zero_or_pos n with e | e
  · subst e
    decide
  · exact (Nat.log2_lt (by omega)).mpr h
theorem sh_nat {n : Nat} (h : n < 2 ^ 62) : (PyData.int (n : Int)).leavesShort 64 = true := by
  have e := PySem.int_text_length_le10 (a := (n : Int)) (k := 20) (by decide) (by rw [Int.natAbs_natCast]; exact Nat.lt_trans h (by decide))
  simp only [PyData.leavesShort, decide_eq_true_eq]
  show (Str.ofString (toString (n : Int))).length ≤ 64
  rw [PySem.ofString_length]
  omega
theorem sb_nat {n : Nat} (h : n < 2 ^ 62) : (PyData.int (n : Int)).showable = true := by
  have := log_nat h
  simp only [PyData.showable, decide_eq_true_eq]
  omega
theorem ln_facts {l : Option Int} (h : ∀ i, l = some i → CB i) : (lnD l).showable = true ∧ (lnD l).hasDict = false ∧ (lnD l).depth = 0 ∧ (lnD l).bulk = 0 ∧ (lnD l).leavesShort 64 = true := by
  cases l with
  | none => exact ⟨by simp [lnD, PyData.showable], rfl, by simp [lnD, PyData.depth], by simp [lnD, PyData.bulk], by simp [lnD, PyData.leavesShort]⟩
  | some i =>
    obtain ⟨h1, h2⟩ := h i rfl
    obtain ⟨n, rfl⟩ : ∃ n : Nat, i = (n : Int) := ⟨i.toNat, by omega⟩
    have hn : n < 2 ^ 62 := by omega
    exact ⟨sb_nat hn, rfl, by simp [lnD, PyData.depth], by simp [lnD, PyData.bulk], sh_nat hn⟩
def aD : Option Nat → PyData
  | none => .none
  | some k => .int (k : Int)
theorem a_facts {a : Option Nat} (h : ∀ k, a = some k → k < 2 ^ 62) : (aD a).showable = true ∧ (aD a).hasDict = false ∧ (aD a).depth = 0 ∧ (aD a).bulk = 0 ∧ (aD a).leavesShort 64 = true := by
  cases a with
  | none => exact ⟨by simp [aD, PyData.showable], rfl, by simp [aD, PyData.depth], by simp [aD, PyData.bulk], by simp [aD, PyData.leavesShort]⟩
  | some k =>
    have hn := h k rfl
    exact ⟨sb_nat hn, rfl, by simp [aD, PyData.depth], by simp [aD, PyData.bulk], sh_nat hn⟩
theorem dp_a {K : PySem.W.Frag} {H : Hp} (a : Option Nat) : Dp K H (aV a) (aD a) := by
  cases a with
  | none => exact .non
  | some k => exact .int _
def irD (R : IRow) : PyData := .tuple [.int (R.off : Int), .str R.w, aD R.a, .str R.m, lnD R.l]
theorem dp_ir {K : PySem.W.Frag} {H : Hp} {r : Addr} {R : IRow} (h : H r = some (.tup (irV R))) : Dp K H (.ref r) (irD R) := .tup (SqT.of h) (.cons (.int _) (.cons (.str _) (.cons (dp_a _) (.cons (.str _) (.cons (dp_ln _) .nil)))))
theorem dp_irs {K : PySem.W.Frag} {H : Hp} {F : Addr} : ∀ {refs : List Addr} {Rs : List IRow}, Paired (fun r R => r ≠ F ∧ H r = some (.tup (irV R))) refs Rs → DpAll K H (refs.map V.ref) (Rs.map irD)
  | _, _, .nil => .nil
  | _, _, .cons h t => .cons (dp_ir h.2) (dp_irs t)
structure RokR (R : IRow) : Prop where
  off : R.off < 2 ^ 62
  w : Cok 60 R.w
  a : ∀ k, R.a = some k → k < 2 ^ 62
  m : Cok 400 R.m
  l : ∀ i, R.l = some i → CB i
theorem str_facts {n : Nat} {z : Str} (h : Cok n z) : (PyData.str z).showable = true ∧ (PyData.str z).bulk ≤ n ∧ (PyData.str z).leavesShort 64 = true := by
  refine ⟨by simp [PyData.showable], ?_, ?_⟩
  · simp only [PyData.bulk]
    exact h.l
  · simp only [PyData.leavesShort]
    exact List.all_eq_true.mpr fun x hx => decide_eq_true (h.c x hx)
theorem ir_facts {R : IRow} (h : RokR R) : (irD R).showable = true ∧ (irD R).hasDict = false ∧ (irD R).depth ≤ 1 ∧ (irD R).bulk ≤ 465 ∧ (irD R).leavesShort 64 = true := by
  obtain ⟨h1, h2, h3, h4, h5⟩ := h
  obtain ⟨l1, l2, l3, l4, l5⟩ := ln_facts h5
  obtain ⟨b1, b2, b3, b4, b5⟩ := a_facts h3
  obtain ⟨w1, w2, w3⟩ := str_facts h2
  obtain ⟨m1, m2, m3⟩ := str_facts h4
  unfold irD
  refine ⟨?_, ?_, ?_, ?_, ?_⟩
  · simp only [PyData.showable, PyData.showableAll, Bool.and_eq_true]
    exact ⟨sb_nat h1, trivial, b1, trivial, l1, trivial⟩
  · simp only [PyData.hasDict, PyData.hasDictAll, l2, b2]
    rfl
  · simp only [PyData.depth, PyData.depthAll, l3, b3]
    decide
  · rw [PyData.bulk]
    simp only [PyData.bulkAll]
    rw [l4, b4]
    have : (PyData.int (R.off : Int)).bulk = 0 := by simp only [PyData.bulk]
    omega
  · simp only [PyData.leavesShort, PyData.leavesShortAll, Bool.and_eq_true]
    exact ⟨sh_nat h1, w3, b5, m3, l5, trivial⟩
theorem irs_facts : ∀ {Rs : List IRow}, (∀ R ∈ Rs, RokR R) → PyData.showableAll (Rs.map irD) = true ∧ PyData.hasDictAll (Rs.map irD) = false ∧ PyData.depthAll (Rs.map irD) ≤ 1 ∧ PyData.bulkAll (Rs.map irD) ≤ 466 * Rs.length ∧ PyData.leavesShortAll 64 (Rs.map irD) = true
  | [], _ => ⟨rfl, rfl, by simp [PyData.depthAll], by simp [PyData.bulkAll], rfl⟩
  | R :: Rs, h => by
    obtain ⟨a1, a2, a3, a4, a5⟩ := ir_facts (h R List.mem_cons_self)
    obtain ⟨b1, b2, b3, b4, b5⟩ := irs_facts fun Q hq => h Q (List.mem_cons_of_mem _ hq)
    simp only [List.map_cons, PyData.showableAll, PyData.hasDictAll, PyData.depthAll, PyData.bulkAll, PyData.leavesShortAll, a1, a2, a5, b1, b2, b5, List.length_cons]
    refine ⟨rfl, rfl, ?_, ?_, rfl⟩
    · exact Nat.max_le.mpr ⟨a3, b3⟩
    · omega
theorem repr_irs {K : PySem.W.Frag} {H : Hp} {F : Addr} {Rs : List IRow} {Q : VK} (r : IRows H F Rs) (h : ∀ R ∈ Rs, RokR R) (hl : Rs.length ≤ 200) (q : Q (.str (PyData.list (Rs.map irD)).shown) H) : rReprD K [.ref F] H Q := by
  obtain ⟨b1, b2, b3, b4, b5⟩ := irs_facts h
  obtain ⟨refs, e, p⟩ := r
  refine ⟨F, _, rfl, .lst (SqL.of e) (dp_irs p), by simpa only [PyData.showable] using b1, by simpa only [PyData.hasDict] using b2, ?_, ?_, q⟩
  · simp only [PyData.depth]
    omega
  · have e := PyData.shown_le_bulk 64 (by decide) (.list (Rs.map irD)) (by simpa only [PyData.leavesShort] using b5)
    have e2 : (PyData.list (Rs.map irD)).bulk = PyData.bulkAll (Rs.map irD) := by simp only [PyData.bulk]
    have : sizeLine = 16777216 := by rw [sizeLine_eq]
    omega
theorem word_cok : tabL.all (fun r => cokB 60 r.1) = true := by decide +kernel
theorem extR_ok {lf : LF} (hl : ∀ b i, lf b = some i → CB i) : ∀ {es : List Nat} {b : Nat}, (∀ x ∈ es, x < 256) → b + 2 * es.length < 2 ^ 60 → ∀ R ∈ extR lf es b, RokR R
  | [], _, _, _, R, h => by cases h
  | x :: es, b, he, hb, R, h => by
    rw [List.length_cons] at hb
    rcases List.mem_cons.mp h with rfl | h
    · have wk : Cok 60 ("EXTENDED_ARG" : Str) := cok_b (by decide +kernel)
      have mk : Cok 400 ("" : Str) := cok_b (by decide +kernel)
      exact ⟨Nat.lt_of_le_of_lt (by omega : b ≤ 2 ^ 60) (by decide), wk, fun k e => by cases e; exact Nat.lt_trans (he x List.mem_cons_self) (by decide), mk, hl b⟩
    · exact extR_ok hl (fun y hy => he y (List.mem_cons_of_mem _ hy)) (by omega) R h
theorem rowsP_ok {T : Tb} (hT : TbC T) {lf : LF} (hl : ∀ b i, lf b = some i → CB i) : ∀ {gs : List Gv} {b : Nat}, (∀ g ∈ gs, GOk T g) → b + 40 * gs.length < 2 ^ 40 → ∀ R ∈ rowsP T lf (gs.map pkOf) b, RokR R
  | [], _, _, _, R, h => by cases h
  | g :: gs, b, hg, hb, R, h => by
    rw [List.length_cons] at hb
    have go := hg g List.mem_cons_self
    have ok := go.pk
    have bl : (pkOf g).bytes.length ≤ 40 := packN_len ok.c ok.n
    have el := (exts_es ok.n).2.1
    have wk : Cok 60 g.1.1 := cok_b (List.all_eq_true.mp word_cok _ go.1)
    have nlt := ok.n
    rcases List.mem_append.mp h with h | h
    · exact extR_ok hl (exts_es ok.n).2.2.2.2 (by omega) R h
    · rcases List.mem_cons.mp h with rfl | h
      · refine ⟨?_, wk, fun k e => ?_, ?_, fun i e => hl _ i e⟩
        · show b + 2 * (exL (pkOf g).n).length < 2 ^ 62
          omega
        · have e' : (if (pkOf g).num < 45 then none else some (pkOf g).n) = some k := e
          split at e'
          · cases e'
          · cases e'
            omega
        · show Cok 400 (if (pkOf g).num < 45 then "" else (meanF T (pkOf g).w (pkOf g).n (b + (pkOf g).bytes.length)).getD "")
          split
          · exact cok_b (by decide +kernel)
          · cases q : meanF T (pkOf g).w (pkOf g).n (b + (pkOf g).bytes.length) with
            | none => exact cok_b (by decide +kernel)
            | some t => exact mean_cok hT (by omega) q
      · exact rowsP_ok hT hl (fun y hy => hg y (List.mem_cons_of_mem _ hy)) (by omega) R h
/-- rows by lines that agree at even places -/
theorem extR_eq {lf lf' : LF} (h : ∀ b, b % 2 = 0 → lf b = lf' b) : ∀ (es : List Nat) (b : Nat), b % 2 = 0 → extR lf es b = extR lf' es b
  | [], _, _ => rfl
  | x :: es, b, hb => by
    show _ :: extR lf es (b + 2) = _ :: extR lf' es (b + 2)
    rw [extR_eq h es (b + 2) (by omega), h b hb]
theorem pk_even {p : Pk} (ok : p.Ok) : p.bytes.length % 2 = 0 := by
  unfold Pk.bytes packN
  rw [(exts_es ok.n).1, List.length_append, exb_len, List.length_append, List.length_replicate]
  show (_ + (2 + 2 * p.c)) % 2 = 0
  omega
theorem rowsP_eq {T : Tb} {lf lf' : LF} (h : ∀ b, b % 2 = 0 → lf b = lf' b) : ∀ {ps : List Pk} {b : Nat}, (∀ p ∈ ps, p.Ok) → b % 2 = 0 → rowsP T lf ps b = rowsP T lf' ps b
  | [], _, _, _ => rfl
  | p :: ps, b, ok, hb => by
    have e := pk_even (ok p List.mem_cons_self)
    show extR lf (exL p.n) b ++ (lastR T lf p b :: rowsP T lf ps (b + p.bytes.length)) = extR lf' (exL p.n) b ++ (lastR T lf' p b :: rowsP T lf' ps (b + p.bytes.length))
    rw [extR_eq h _ b hb, rowsP_eq h (fun q hq => ok q (List.mem_cons_of_mem _ hq)) (by omega)]
    unfold lastR
    rw [h _ (by omega)]
end C57

set_option maxHeartbeats 2000000
namespace C57
open PySem PySem.Spec PyProof.Rows L2
/-! ### the end of a law, told of the very state in which it is called -/
section
variable {P : Program} {w : World} {K : PySem.W.Frag} {mg mb : Str → Option Value} {fa a : Addr} {cs : List (Addr × Addr)} {s : Shared} {vs : List Value} {ns : List Int}
/-- tracked: the tables of code objects, and the script where nothing written holds it -/
def trk (K : PySem.W.Frag) (T : List Addr) (a : Addr) (vs : List Value) (ns : List Int) : Hp := fun b =>
  if b ∈ T then some (.tbl #[]) else if b = a ∧ K.lookup a = none then some (.frz { cls := .type "list", data := .seq vs.toArray } (.lst (ns.map V.int))) else none
theorem trk_tab {T : List Addr} {b : Addr} (h : b ∈ T) : trk K T a vs ns b = some (.tbl #[]) := if_pos h
theorem trk_cases {T : List Addr} {b : Addr} {u : HO} (h : trk K T a vs ns b = some u) : (b ∈ T ∧ u = .tbl #[]) ∨ (b ∉ T ∧ b = a ∧ K.lookup a = none ∧ u = .frz { cls := .type "list", data := .seq vs.toArray } (.lst (ns.map V.int))) := by
  unfold trk at h
  split at h
  · exact .inl ⟨by assumption, (Option.some.inj h).symm⟩
  · split at h
    · rename_i n q
      exact .inr ⟨n, q.1, q.2, (Option.some.inj h).symm⟩
    · cases h
/-- what the law's run at callerA must do -/
def RunsAt (P : Program) (w : World) (K : PySem.W.Frag) (mg : Str → Option Value) (cs : List (Addr × Addr)) (fa a : Addr) (s : Shared) (ns : List Int) : Prop := ∀ (base : Heap) (H : Hp), K.In base → base.Ns mainGlobals mg → (∀ p ∈ cs, LamX.TabB base mg p.1 p.2) → Env0 P w K mg base callerA [] s H →
  (∀ p ∈ cs, H p.2 = some (.tbl #[])) → SqL K H a (ns.map V.int) → codeAny (model P w) callerA (.call (.ref fa) ⟨[.ref a], []⟩) (CR CX0 [] P w H s (fun v _ => v = .bl true) E0) s
theorem end_run (KX : K.In s.heap) (hns : s.heap.Ns mainGlobals mg) (hb : s.heap.Ns builtinsNs mb) (hbb : ∀ x : Str, x ≠ "__name__" → mb x = bootBuiltins x) (hlim : s.heap.NoLimit) (hg : s.gens = #[])
    (hT : ∀ p ∈ cs, s.heap.get? p.2 = some { cls := .none, data := .fields #[] }) (nT : ∀ p ∈ cs, K.lookup p.2 = none) (C : ∀ p ∈ cs, PySem.W.CodeHd s.heap p.1 p.2)
    (hbm : ∃ (bm : Addr) (ob : Obj), mg "__builtins__" = some (.ref bm) ∧ bm ≠ builtinsNs ∧ s.heap.get? bm = some ob ∧ ob.cls = .type "module" ∧ ob.dict = some builtinsNs ∧ ob.data = .plain)
    (ha : s.heap.get? a = some { cls := .type "list", data := .seq vs.toArray }) (hi : IntsAre vs ns) (hl : ns.length ≤ sizeLine) (R : RunsAt P w K mg cs fa a s ns) :
    codeAny (model P w) callerA (.call (.ref fa) ⟨[.ref a], []⟩) (fun r s' => r = .ok (.ret (.bool true)) ∧ OldK s.heap s'.heap ∧ s'.os = s.os ∧ AllBare s'.gens) s := by
  have lens := hi.length
  obtain ⟨T, eT⟩ : ∃ T, T = cs.map (·.2) := ⟨_, rfl⟩
  have inT : ∀ {b : Addr}, b ∈ T → ∃ p ∈ cs, p.2 = b := fun {b} h => by rw [eT] at h; obtain ⟨p, hp, e⟩ := List.mem_map.mp h; exact ⟨p, hp, e⟩
  have toT : ∀ p ∈ cs, p.2 ∈ T := fun p hp => by rw [eT]; exact List.mem_map_of_mem hp
  have tabO : ∀ {b : Addr}, b ∈ T → s.heap.get? b = some { cls := .none, data := .fields #[] } := fun h => by obtain ⟨p, hp, rfl⟩ := inT h; exact hT p hp
  have aT : a ∉ T := fun h => by
    have := ha.symm.trans (tabO h)
    cases congrArg Obj.data (Option.some.inj this)
  generalize eH : trk K T a vs ns = H
  have cas : ∀ {b u}, H b = some u → (b ∈ T ∧ u = .tbl #[]) ∨ (b ∉ T ∧ b = a ∧ K.lookup a = none ∧ u = .frz { cls := .type "list", data := .seq vs.toArray } (.lst (ns.map V.int))) := fun {b u} h => trk_cases (by rw [eH]; exact h)
  -- what is neither a row of values nor an empty row of fields is hidden from nobody
  have free : ∀ {b : Addr} {o : Obj}, s.heap.get? b = some o → (∀ xs n, o.data ≠ .seq xs n) → o.data ≠ .fields #[] → H b = none := fun {b o} e h1 h2 => by
    cases q : H b with
    | none => rfl
    | some u =>
      rcases cas q with ⟨h, _⟩ | ⟨_, rfl, _⟩
      · cases e.symm.trans (tabO h)
        exact absurd rfl h2
      · cases e.symm.trans ha
        exact absurd rfl (h1 _ _)
  have seen : ∀ {b : Addr} {o : Obj}, s.heap.get? b = some o → (∀ xs n, o.data ≠ .seq xs n) → o.data ≠ .fields #[] → (hidT s.heap H).get? b = some o := fun e h1 h2 => hidT_get e (free e h1 h2)
  have nsS : ∀ {b : Addr} {m : Str → Option Value}, s.heap.Ns b m → (hidT s.heap H).Ns b m := fun ⟨o, es, ep, e, d, r⟩ => ⟨o, es, ep, seen e (by rw [d]; intro _ _ z; cases z) (by rw [d]; intro z; cases z), d, r⟩
  have KB : K.In (hidT s.heap H) := fun b o e => hidT_get (KX b o e) (by
    cases q : H b with
    | none => rfl
    | some u =>
      rcases cas q with ⟨h, _⟩ | ⟨_, rfl, n, _⟩
      · obtain ⟨p, hp, rfl⟩ := inT h
        cases (nT p hp).symm.trans e
      · cases n.symm.trans e)
  have MM : L2.Mod K mg (hidT s.heap H) := ⟨KB, nsS hns, ⟨mb, nsS hb, hbb⟩, by obtain ⟨mc, h1, h2⟩ := hlim; exact ⟨mc, nsS h1, h2⟩⟩
  have OK : HOk P w H s.heap := fun b u q => by
    rcases cas q with ⟨h, rfl⟩ | ⟨_, rfl, _, rfl⟩
    · exact tabO h
    · exact ⟨ha, by rw [List.length_map]; exact hl, vs, _, vals_ints hi, ha⟩
  have SQ : SqL K H a (ns.map V.int) := by
    cases k : K.lookup a with
    | none => exact .inl (.inr ⟨_, by rw [← eH]; unfold trk; rw [if_neg aT, if_pos ⟨rfl, k⟩]⟩)
    | some o =>
      cases (KX a o k).symm.trans ha
      exact .inr ⟨_, vs.toArray, _, k, rfl, rfl, rfl, by rw [List.size_toArray, lens]; exact hl, by simpa using vals_ints hi⟩
  have TB : ∀ p ∈ cs, LamX.TabB (hidT s.heap H) mg p.1 p.2 := fun p hp => by
    refine ⟨?_, ?_, ?_⟩
    · obtain ⟨o, us, file, tf, flags, tg, inF, text, tt, e1, r1, r2, r3, r⟩ := C p hp
      exact ⟨o, us, file, tf, flags, tg, inF, text, tt, seen e1 (by rw [r2]; intro _ _ z; cases z) (by rw [r2]; intro z; cases z; simp at r3), r1, r2, r3, r⟩
    · obtain ⟨bm, ob, b1, b2, b3, b4, b5, b6⟩ := hbm
      refine ⟨bm, ob, b1, b2, ?_, ?_, seen b3 (by rw [b6]; intro _ _ z; cases z) (by rw [b6]; intro z; cases z), b4, b5, b6⟩
      · rintro rfl
        obtain ⟨o, es, ep, e, d, _⟩ := hns
        cases e.symm.trans b3
        cases d.symm.trans b6
      · rintro rfl
        cases (hT p hp).symm.trans b3
        cases b6
    · intro z
      obtain ⟨o, es, ep, e, d, _⟩ := hns
      rw [z] at e
      cases (hT p hp).symm.trans e
      cases d
  have E0' : Env0 P w K mg (hidT s.heap H) callerA [] s H := ⟨rfl, MM, fun b o e => of_hidT e, Nat.le_of_eq (hidT_size _ _), trivial, (fun b hb => by cases hb), OK, .of_eq hg⟩
  refine codeAny_mono (R _ H KB (nsS hns) TB E0' (fun p hp => by rw [← eH]; exact trk_tab (toT p hp)) SQ) fun r s' h => ?_
  cases r with
  | error e => exact False.elim h
  | ok fl =>
    cases fl with
    | ret u =>
      obtain ⟨v, H', os, bare, un, ok', rv, rfl⟩ := h
      obtain rfl : u = Value.bool true := rv
      have stay : ∀ {b : Addr} {o : Obj}, b ∉ T → s.heap.get? b = some o → s'.heap.get? b = some o := fun {b o} n e => by
        cases q : H b with
        | none => exact un.keep b o e q (by intro z; cases z) (by simp)
        | some u =>
          rcases cas q with ⟨h, _⟩ | ⟨_, rfl, _, rfl⟩
          · exact absurd h n
          · cases e.symm.trans ha
            exact (ok' _ _ (un.frzs _ _ _ q)).1
      have more : ∀ {b : Addr}, b ∈ T → ∃ xs : Array Value, s'.heap.get? b = some { cls := .none, data := .fields xs } := fun {b} h => by
        obtain ⟨xs, z⟩ := un.tbls b #[] (by rw [← eH]; exact trk_tab h)
        exact ⟨_, ok' b _ z⟩
      refine ⟨rfl, ⟨fun b o e => ?_, fun b o e => ?_⟩, os, bare⟩
      · rcases Classical.em (b ∈ T) with h | h
        · obtain ⟨xs, hx⟩ := more h
          cases (tabO h).symm.trans e
          obtain ⟨p, hp, rfl⟩ := inT h
          exact .inr (.inl ⟨((C p hp).tab (hT p hp)).isCodeTable, rfl, #[], xs, rfl, hx.trans (by rw [Array.empty_append])⟩)
        · exact .inl (stay h e)
      · rcases Classical.em (b ∈ T) with h | h
        · obtain ⟨xs, hx⟩ := more h
          exact ⟨_, hx⟩
        · exact ⟨o, stay h e⟩
    | _ => exact False.elim h
/-- the law's walk, from its run -/
theorem walk_run {l : PySem.W.OpenLaw} {n : Nat} {q : Program} {loose : List Str} {XP : (Str → Option Value) → Heap → Prop} {YP : World → Heap → Prop} {d : DefRec} (hn : l.most = some n) (hn2 : n ≤ sizeLine) (hdf : d.params.defaults = [])
    (F : ∀ (w : World) (mg : Str → Option Value) (fa : Addr) (h : Heap), YP w h → h.Ns mainGlobals mg → mg d.name = some (.ref fa) → ∃ (K : PySem.W.Frag) (cs : List (Addr × Addr)), K.In h ∧ (∀ p ∈ cs, h.get? p.2 = some { cls := .none, data := .fields #[] }) ∧
      (∀ p ∈ cs, K.lookup p.2 = none) ∧ (∀ p ∈ cs, PySem.W.CodeHd h p.1 p.2) ∧ ∀ (s : Shared) (a : Addr) (ns : List Int), ns.length ≤ n → (∀ z ∈ ns, Builtin.Int.intBits z ≤ 1048576) → RunsAt l.prog w K mg cs fa a s ns) :
    PySem.W.WalkO q loose XP YP l.row.toRowW d [] (fun f vs => PySem.call f vs) := by
  refine Att.attach_callB hn hdf fun w s0 s1 mg mb fa o pm cd doc a vs ns G Y ho hd hcd hmg hobj hints hlen hbits hg => ?_
  obtain ⟨K, cs, kx, hT, nT, C, R⟩ := F w mg fa _ Y G.T.g hmg
  exact end_run kx G.T.g G.T.b G.T.builtins G.T.nolimit hg hT nT C G.T.bmain hobj hints (Nat.le_trans hlen hn2) (R s1 a ns hlen hbits)
end

/-! ### a def promised where no text of a container is being made, called by one keyword -/
structure CalGK (P : Program) (w : World) (K : PySem.W.Frag) (mg : Str → Option Value) (base : Heap) (k : Nat) (x y : Str) (sp : Sp) : Prop where
  ex : ∃ f fd, FnG P w K mg base (L2.CX P w) k f fd [y] sp ∧ mg x = some (.ref f) ∧ PySem.W.keepIn K (.ref f) = true ∧ Binds K fd [y] [] ∧ KBn K fd [y] 0 [y] (fun _ ws => ws) (fun _ zs => zs)
theorem CalGK.cal {P : Program} {w : World} {K : PySem.W.Frag} {mg : Str → Option Value} {base : Heap} {k : Nat} {x y : Str} {sp : Sp} (C : CalGK P w K mg base k x y sp) : CalG P w K mg base (L2.CX P w) k x [y] sp := by
  obtain ⟨f, fd, F, m, kp, b, _⟩ := C.ex
  exact ⟨⟨f, fd, F, m, kp, b⟩⟩
section
variable {X : Cx}
theorem run_fnGN {CX : CXT} {k n : Nat} {f : Addr} {fd : FuncData} {ps ks : List Str} {sp : Sp} {E : XK} {g : List Value → List Value → List Value} {gV : List V → List V → List V} {pins : List (Addr × Obj)} {σ : L2.St} {H : Hp} {s : Shared} {Q : VK} {us ws : List Value} {vs zs : List V} (F : FnG X.prog X.w X.K X.mg X.base CX k f fd ps sp) (gd : X.A.guards = some []) (hr : Room k X.A) (hb : KBn X.K fd ps n ks g gV) (hx : Passes CX X E)
    (I : Inv X pins σ H s) (r : Vals vs us) (rz : Vals zs ws) (l1 : vs.length = n) (l2 : zs.length = ks.length) (h : sp (gV vs zs) H Q E) : wpAny (model X.prog X.w) X.A (call (.ref f) us (ks.zip ws)) (EP X pins σ Q) X.xe s := by
  have r2 := hb.rel r rz
  refine wpAny_call (codeAny_mono (F.run gd hr I.env0 (hb.to s us ws I.kIn (r.length.symm.trans l1) (rz.length.symm.trans l2)) r2 h) fun r s' hq => ?_)
  match r, hq with
  | .error e, hq => exact hx pins σ H s e s' I hq
  | .ok (.ret u), hq => exact I.after hq
  | .ok .next, hq => exact False.elim hq
  | .ok .brk, hq => exact False.elim hq
  | .ok .cont, hq => exact False.elim hq
theorem pe_calGK {W : WX} {E : XK} {k : Nat} {x y : Str} {sp : Sp} {e : Expr} {te : TE} {p pos kpos : Pos} (C : CalGK X.prog X.w X.K X.mg X.base k x y sp) (gd : X.A.guards = some []) (hr : Room k X.A) (hg : Gl X x) (tk : Takes X W) (hW : ∀ cls d σ H, E cls d H → W cls d σ H) (ha : PE X e te)
    (hall : (backToKw pos (keywordEach [⟨some y, e, kpos⟩] X.env)).all (·.1.isSome) = true := by rfl) (hks : (backToKw pos (keywordEach [⟨some y, e, kpos⟩] X.env)).filterMap (·.1) = [y] := by rfl) (hdb : (x == ("__debug__" : Str)) = false := by decide)
    (hpl : ((backTo pos (starEach [] X.env)).any (·.1) || (backToKw pos (keywordEach [⟨some y, e, kpos⟩] X.env)).any (·.1.isNone)) = false := by rfl) :
    PE X (.Call (.Name x p) [] [⟨some y, e, kpos⟩] pos) (tCallK1 sp E te) := by
  obtain ⟨f, fd, F, m, kp, _, b⟩ := C.ex
  refine ⟨fun pins s σ H Q I h => wpAny_Call_Name_kw (ld_glob I hg m (PySem.W.callWith_KW0 (h₀ := X.base) I.ok.mod.kin kp hall ?_ hpl) hdb)⟩
  refine thn ((pk_cons (nm := some y) (kpos := kpos) ha pk_nil).run pos pins s σ H (QK1 sp Q E) I h) fun ws s2 ⟨zs, H2, I2, rz, q⟩ => ⟨I2.kIn, ?_⟩
  obtain ⟨v, rfl, q⟩ := qk1 q
  rw [hks]
  exact run_fnGN (us := []) (vs := []) (n := 0) F gd hr b (passes_call tk hW) I2 .nil rz rfl rfl q
end

theorem pe_cal0 {X : Cx} {k : Nat} {x : Str} {sp : Sp} {p pos : Pos} (C : Cal X.prog X.w X.K X.mg X.base k x [] sp) (hr : Room k X.A) (hg : Gl X x) (hdb : (x == ("__debug__" : Str)) = false := by decide) : PE X (.Call (.Name x p) [] [] pos) (tCall sp [] E0 tNil) := by
  obtain ⟨f, fd, F, m, kp, b⟩ := C.ex
  exact pe_call0 F hr hg m kp b .nil pass0 hdb
/-- the class Code as its callers see it -/
structure MkCode (P : Program) (w : World) (K : PySem.W.Frag) (mg : Str → Option Value) (base : Heap) (CC : Addr) : Prop where
  ex : ∃ f fd, Mk K CC f ∧ FnOk P w K mg base CX0 4 f fd ["self", "argcount", "onlycount", "stacksize", "flags", "code", "constants", "names", "slots", "kinds", "name", "path", "line", "lines", "handlers"] (spCodeInit CC) ∧ mg "Code" = some (.ref CC) ∧
    Binds K fd ["self", "argcount", "onlycount", "stacksize", "flags", "code", "constants", "names", "slots", "kinds", "name", "path", "line", "lines", "handlers"] []
theorem pe_mak {X : Cx} {CC : Addr} {e : Expr} {es : List Expr} {t : TA} {p pos : Pos} (M : MkCode X.prog X.w X.K X.mg X.base CC) (hr : Room 5 X.A) (hg : Gl X "Code") (ha : PA X (e :: es) t)
    (he : starEach (e :: es) X.env = (false, eval e X.env) :: starEach es X.env := by rfl) (hpl : (backTo pos (starEach es X.env)).any (·.1) = false := by rfl) :
    PE X (.Call (.Name "Code" p) (e :: es) [] pos) (tMake CC (spCodeInit CC) [] E0 t) := by
  obtain ⟨f, fd, M, F, m, b⟩ := M.ex
  exact pe_make M F hr hg m b .nil pass0 ha (by decide) he hpl
theorem r_make {C : Addr} {sp : Sp} {dvs : List V} {E : XK} {t : TA} {σ : L2.St} {H : Hp} {Q : VK} : tMake C sp dvs E t σ H Q = t σ H (fun vs H1 => ∀ x dx, H1 x = none → H1 dx = none → dx ≠ x → sp (.ref x :: (vs ++ dvs)) (L2.upd (L2.upd H1 dx (.own x)) x (.ins C dx [])) (fun v H2 => v = .non ∧ Q (.ref x) H2) E) := rfl
abbrev Nlaw : List Str := ["_law_script", "_law_table_here", "_law_cell", "_law_source", "_law_own", "_law_wares", "_law_k", "_law_names", "_law_slots", "_law_tables", "_law_given", "_law_word", "_law_lines_here", "_law_is_none", "_law_due", "_law_data", "_law_spans", "_law_made", "_law_found"]
abbrev slaw : Stmt := top 81
theorem sclaw : FnScope ["_law_script", "_law_table_here", "_law_cell", "_law_source", "_law_own", "_law_wares", "_law_k", "_law_names", "_law_slots", "_law_tables", "_law_given", "_law_word", "_law_lines_here", "_law_is_none", "_law_due", "_law_data", "_law_spans", "_law_made", "_law_found"] ["_law_script"] (defScope slaw) := ⟨rfl, rfl, rfl, by decide +kernel, rfl, by decide +kernel, by decide +kernel⟩

/-- what the law calls -/
structure LawT (P : Program) (w : World) (K : PySem.W.Frag) (mg : Str → Option Value) (base : Heap) (CC : Addr) : Prop where
  T : Txt mg
  I : CodeT K mg CC
  b_sorted : mg "sorted" = none
  M_Code : MkCode P w K mg base CC
  C_source_of : Cal P w K mg base 1 "_law_source_of" ["_law_cell"] spSrc
  C_next : Cal P w K mg base 1 "_law_next" ["_law_source", "_law_many"] spNext
  C_one : Cal P w K mg base 2 "_law_one" ["_law_source", "_law_some"] spOne
  C_table : Cal P w K mg base 1 "_law_table" [] spTable
  C_drawn : Cal P w K mg base 4 "_law_drawn" ["_law_source", "_law_sort", "_law_tables"] (spDrawn K CC)
  C_lines : Cal P w K mg base 3 "_law_lines" ["_law_source"] spLines
  C_line_bytes : Cal P w K mg base 3 "_law_line_bytes" ["_law_some", "_law_line"] spLLB
  G_told : CalG P w K mg base CX0 3 "_law_told" ["_law_table_here", "_law_given", "_law_tables", "_law_lines_here"] (spTold K CC)
  G_instr : CalGK P w K mg base 5 "instructions" "code" (spInstrG K CC)
section
variable {P : Program} {w : World} {K : PySem.W.Frag} {mg : Str → Option Value} {base : Heap}
abbrev Xlaw (P : Program) (w : World) (K : PySem.W.Frag) (mg : Str → Option Value) (base : Heap) (fa : Addr) (cdv : Value) (s : Shared) (H : Hp) : Cx := cxOf CX0 P w K mg base Nlaw "law" (defScope slaw) fa cdv callerA [] s H E0
def t_own (CC : Addr) : TS := tAsg (tMake CC (spCodeInit CC) [] E0 (tCons (tC (V.int 0)) (tCons (tC (V.int 0)) (tCons (tC (V.int 1)) (tCons (tC (V.int 0)) (tCons (tLst (tCons (tC (V.int 30)) (tCons (tC (V.int 0)) tNil))) (tCons (tLst tNil) (tCons (tLst tNil) (tCons (tLst tNil) (tCons (tLst tNil) (tCons (tC (V.str (Str.ofString "q"))) (tCons (tC (V.str (Str.ofString "p.q"))) (tCons (tC (V.int 1)) (tCons (tLst tNil) (tCons (tLst tNil) tNil))))))))))))))) (gName 4)
def t_wares : TS := tAsg (tOp rCat (tLst (tCons (tC V.non) (tCons (tC (V.bl true)) (tCons (tC (V.int 5)) (tCons (tOp (rI0 fun i j => V.int (i - j)) (tC (V.int 0)) (tC (V.int 7))) (tCons (tC (V.str (Str.ofString "ab"))) (tCons (tTup (tCons (tC (V.int 1)) (tCons (tTup (tCons (tC V.non) (tCons (tC (V.str (Str.ofString "x"))) tNil))) tNil))) (tCons (tVar 4) (tCons (tOp (rI CPow fun i j => V.int (i ^ j.toNat)) (tC (V.int 10)) (tC (V.int 40))) (tCons (tTup tNil) tNil))))))))))
  (tOp rRep (tLst (tCons (tC (V.int 0)) tNil)) (tCall spOne [] E0 (tCons (tVar 3) (tCons (tLst (tCons (tC (V.int 0)) (tCons (tC (V.int 300)) tNil))) tNil))))) (gName 5)
def t_strk (z : Str) : TE := tOp rAddS (tC (V.str z)) (tCB (fun xs H Q => ∃ i, xs = [V.int i] ∧ i.natAbs.log2 < 1920 ∧ Q (V.str (Str.ofString (toString i))) H) (tCons (tVar 6) tNil))
def t_names : TS := tAsg (tOp rCat (tLst (tCons (tC (V.str (Str.ofString "a"))) (tCons (tC (V.str (Str.ofString "b c"))) (tCons (tOp rAddS (tC (V.str (Str.ofString "__"))) (tC (V.str (Str.ofString "x__")))) tNil))))
  (tLc (iRng1 (tCons (tCall spOne [] E0 (tCons (tVar 3) (tCons (tLst (tCons (tC (V.int 0)) (tCons (tC (V.int 200)) tNil))) tNil))) tNil)) (gName 6) tYes (t_strk (Str.ofString "n")) [6])) (gName 7)
def t_slots : TS := tAsg (tOp rCat (tLst (tCons (tC (V.str (Str.ofString ".0"))) (tCons (tC (V.str (Str.ofString "p"))) (tCons (tC (V.str (Str.ofString "q"))) tNil))))
  (tLc (iRng1 (tCons (tCall spOne [] E0 (tCons (tVar 3) (tCons (tLst (tCons (tC (V.int 0)) (tCons (tC (V.int 5)) (tCons (tC (V.int 400)) tNil)))) tNil))) tNil)) (gName 6) tYes (t_strk (Str.ofString "s")) [6])) (gName 8)
def t_tabs : TS := tPar 9 10 (tCons (tTup (tCons (tVar 5) (tCons (tVar 7) (tCons (tVar 8) tNil)))) (tCons (tLst tNil) tNil))
def t_given (K : PySem.W.Frag) (CC : Addr) : TS := tSeq (tAsg (tCall spOne [] E0 (tCons (tVar 3) (tCons (tCB rSortDn (tCons (tVar 1) tNil)) tNil))) (gName 11))
  (tDrop (tBM K "list" rAppend (tVar 10) (tCons (tTup (tCons (tVar 11) (tCons (tCall (spDrawn K CC) [] E0 (tCons (tVar 3) (tCons (tOp rIxd (tDGet (tVar 1) (tVar 11)) (tC (V.int 2))) (tCons (tVar 9) tNil)))) tNil))) tNil)))
def t_givens (K : PySem.W.Frag) (CC : Addr) : TS := tFor (iRng1 (tCons (tOp (rI0 fun i j => V.int (i + j)) (tC (V.int 1)) (tCall spNext [] E0 (tCons (tVar 3) (tCons (tC (V.int 30)) tNil)))) tNil)) (gName 6) (t_given K CC)
def t_lines : TS := tAsg (tCall spLines [] E0 (tCons (tVar 3) tNil)) (gName 12)
def t_isn : TS := tAsg (tOp rEq (tCall spNext [] E0 (tCons (tVar 3) (tCons (tC (V.int 4)) tNil))) (tC (V.int 0))) (gName 13)
def t_told (K : PySem.W.Frag) (CC : Addr) : TS := tAsg (tCall (spTold K CC) [] E0 (tCons (tVar 1) (tCons (tVar 10) (tCons (tVar 9) (tCons (tIf (tB (tVar 13)) (tLst tNil) (tVar 12)) tNil))))) (gTupD 2 (gCons (gName 14) (gCons (gName 15) gNil)))
def t_spans : TS := tAsg (tIf (tB (tVar 13)) (tLst (tCons (tC (V.int 7)) tNil)) (tCall spLLB [] E0 (tCons (tVar 12) (tCons (tC (V.int 3)) tNil)))) (gName 16)
def t_made (CC : Addr) : TS := tAsg (tMake CC (spCodeInit CC) [] E0 (tCons (tC (V.int 0)) (tCons (tC (V.int 0)) (tCons (tC (V.int 1)) (tCons (tC (V.int 0)) (tCons (tVar 15) (tCons (tVar 5) (tCons (tVar 7) (tCons (tVar 8) (tCons (tOp rRep (tLst (tCons (tC (V.int 32)) tNil)) (tCB rLend (tCons (tVar 8) tNil))) (tCons (tC (V.str (Str.ofString "f"))) (tCons (tC (V.str (Str.ofString "f"))) (tCons (tC (V.int 3)) (tCons (tVar 16) (tCons (tLst (tCons (tC (V.int 1)) tNil)) tNil))))))))))))))) (gName 17)
def t_found (K : PySem.W.Frag) (CC : Addr) : TS := tSeq (tAsg (tCall (spInstrG K CC) [] E0 (tCons (tVar 17) tNil)) (gName 18))
  (tSeq (tIfS (tTest (tOp rNe (tCB (rReprD K) (tCons (tVar 18) tNil)) (tCB (rReprD K) (tCons (tVar 14) tNil)))) (tRet (tC (V.bl false))) tNext)
  (tSeq (tDrop (tBM K "list" rAppend (tVar 18) (tCons (tC V.non) tNil)))
  (tIfS (tTest (tOp rNe (tCB (rReprD K) (tCons (tCallK1 (spInstrG K CC) E0 (tVar 17)) tNil)) (tCB (rReprD K) (tCons (tVar 14) tNil)))) (tRet (tC (V.bl false))) tNext)))
def t_cell (K : PySem.W.Frag) (CC : Addr) : TS := tSeq (tAsg (tCall spSrc [] E0 (tCons (tVar 2) tNil)) (gName 3)) (tSeq (t_own CC) (tSeq t_wares (tSeq t_names (tSeq t_slots (tSeq t_tabs (tSeq (t_givens K CC) (tSeq t_lines (tSeq t_isn (tSeq (t_told K CC) (tSeq t_spans (tSeq (t_made CC) (t_found K CC))))))))))))
def t_law (K : PySem.W.Frag) (CC : Addr) : TS := tSeq (tAsg (tCall spTable [] E0 tNil) (gName 1)) (tSeq (tFor (iList K (tSl rSld (tOp (rCatS K) (tVar 0) (tLst (tCons (tC (V.int 0)) tNil))) tNoPart (tPart (tC (V.int 5))))) (gName 2) (t_cell K CC)) (tRet (tC (V.bl true))))
theorem law_reads {CC fa : Addr} {cdv : Value} {s : Shared} {H : Hp} (L : LawT P w K mg base CC) (hr : Room 5 (Xlaw P w K mg base fa cdv s H).nox.A) (hgd : (Xlaw P w K mg base fa cdv s H).nox.A.guards = some []) :
    PSs (Xlaw P w K mg base fa cdv s H).nox (defBody slaw) (t_law (Xlaw P w K mg base fa cdv s H).nox.K CC) := by
  have hu64 : (Xlaw P w K mg base fa cdv s H).nox.A.units + 64 < cLine := by have := hr.un; omega
  have hu20 : (Xlaw P w K mg base fa cdv s H).nox.A.units + 20 < cLine := by have := hr.un; omega
  have hso := L.b_sorted
  have T := L.T
  have I := L.I
  have M_Code := L.M_Code
  have C_source_of := L.C_source_of
  have C_next := L.C_next
  have C_one := L.C_one
  have C_drawn := L.C_drawn
  have C_lines := L.C_lines
  have C_line_bytes := L.C_line_bytes
  unfold t_law t_cell t_own t_wares t_names t_slots t_tabs t_givens t_given t_lines t_isn t_told t_spans t_made t_found t_strk
  exact (pss_cons (ps_set (i := 1) sclaw.nd rfl (Or.inl rfl) (pe_cal0 L.C_table (hr.mono (by decide)) rfl))
  (pss_cons (ps_for PassesOwn.never rfl (pi_list (pe_slice sl_d (pe_op op_catS (pv 0) (pe_lst (pa_cons pe_int pa_nil))) po_none (po_some pe_int))) (pg_name (i := 2) sclaw.nd rfl (Or.inl rfl))
    (pss_cons (ps_set (i := 3) sclaw.nd rfl (Or.inl rfl) (pe_cal C_source_of (hr.mono (by decide)) rfl (pa_cons (pv 2) pa_nil)))
  (pss_cons (ps_set (i := 4) sclaw.nd rfl (Or.inl rfl) (pe_mak M_Code hr rfl (pa_cons pe_int (pa_cons pe_int (pa_cons pe_int (pa_cons pe_int (pa_cons (pe_lst (pa_cons pe_int (pa_cons pe_int pa_nil))) (pa_cons (pe_lst pa_nil) (pa_cons (pe_lst pa_nil) (pa_cons (pe_lst pa_nil) (pa_cons (pe_lst pa_nil) (pa_cons pe_str (pa_cons pe_str (pa_cons pe_int (pa_cons (pe_lst pa_nil) (pa_cons (pe_lst pa_nil) pa_nil))))))))))))))))
  (pss_cons (ps_set (i := 5) sclaw.nd rfl (Or.inl rfl) (pe_op op_cat (pe_lst (pa_cons pe_non (pa_cons pe_bl (pa_cons pe_int (pa_cons (pe_op op_sub pe_int pe_int) (pa_cons pe_str (pa_cons (pe_tup (pa_cons pe_int (pa_cons (pe_tup (pa_cons pe_non (pa_cons pe_str pa_nil))) pa_nil))) (pa_cons (pv 4) (pa_cons (pe_op op_pow pe_int pe_int) (pa_cons (pe_tup pa_nil) pa_nil)))))))))) (pe_op op_rep (pe_lst (pa_cons pe_int pa_nil)) (pe_cal C_one (hr.mono (by decide)) rfl (pa_cons (pv 3) (pa_cons (pe_lst (pa_cons pe_int (pa_cons pe_int pa_nil))) pa_nil))))))
  (pss_cons (ps_set (i := 7) sclaw.nd rfl (Or.inl rfl) (pe_op op_cat (pe_lst (pa_cons pe_str (pa_cons pe_str (pa_cons (pe_op op_addS pe_str pe_str) pa_nil)))) (pe_lc (own := [("_law_k", 6)]) (g := gName 6) (tt := tYes) rfl sclaw.nd (pi_range1 rfl T.b_range (pa_cons (pe_cal C_one (hr.mono (by decide)) rfl (pa_cons (pv 3) (pa_cons (pe_lst (pa_cons pe_int (pa_cons pe_int pa_nil))) pa_nil))) pa_nil)) (blkOk_by (own := [("_law_k", 6)]) (N := ["_law_script", "_law_table_here", "_law_cell", "_law_source", "_law_own", "_law_wares", "_law_k", "_law_names", "_law_slots", "_law_tables", "_law_given", "_law_word", "_law_lines_here", "_law_is_none", "_law_due", "_law_data", "_law_spans", "_law_made", "_law_found"]) (sc := defScope slaw) (by decide +kernel)) (fun _ _ _ _ _ => (pg_name (i := 6) sclaw.nd rfl (Or.inl rfl))) (fun _ _ _ _ _ => pts_nil) (fun _ _ _ _ _ => (pe_op op_addS pe_str (pe_callTy call_str_int (by rfl) T.b_str (by decide +kernel) (pa_cons (pv 6) pa_nil)))))))
  (pss_cons (ps_set (i := 8) sclaw.nd rfl (Or.inl rfl) (pe_op op_cat (pe_lst (pa_cons pe_str (pa_cons pe_str (pa_cons pe_str pa_nil)))) (pe_lc (own := [("_law_k", 6)]) (g := gName 6) (tt := tYes) rfl sclaw.nd (pi_range1 rfl T.b_range (pa_cons (pe_cal C_one (hr.mono (by decide)) rfl (pa_cons (pv 3) (pa_cons (pe_lst (pa_cons pe_int (pa_cons pe_int (pa_cons pe_int pa_nil)))) pa_nil))) pa_nil)) (blkOk_by (own := [("_law_k", 6)]) (N := ["_law_script", "_law_table_here", "_law_cell", "_law_source", "_law_own", "_law_wares", "_law_k", "_law_names", "_law_slots", "_law_tables", "_law_given", "_law_word", "_law_lines_here", "_law_is_none", "_law_due", "_law_data", "_law_spans", "_law_made", "_law_found"]) (sc := defScope slaw) (by decide +kernel)) (fun _ _ _ _ _ => (pg_name (i := 6) sclaw.nd rfl (Or.inl rfl))) (fun _ _ _ _ _ => pts_nil) (fun _ _ _ _ _ => (pe_op op_addS pe_str (pe_callTy call_str_int (by rfl) T.b_str (by decide +kernel) (pa_cons (pv 6) pa_nil)))))))
  (pss_cons (ps_par (i := 9) (j := 10) (by rfl) sclaw.nd rfl rfl (by decide) rfl rfl (pa_cons (pe_tup (pa_cons (pv 5) (pa_cons (pv 7) (pa_cons (pv 8) pa_nil)))) (pa_cons (pe_lst pa_nil) pa_nil)) (by rfl))
  (pss_cons (ps_for PassesOwn.never rfl (pi_range1 rfl T.b_range (pa_cons (pe_op op_add pe_int (pe_cal C_next (hr.mono (by decide)) rfl (pa_cons (pv 3) (pa_cons pe_int pa_nil)))) pa_nil)) (pg_name (i := 6) sclaw.nd rfl (Or.inl rfl))
    (pss_cons (ps_set (i := 11) sclaw.nd rfl (Or.inl rfl) (pe_cal C_one (hr.mono (by decide)) rfl (pa_cons (pv 3) (pa_cons (pe_callB (call_sortedDn rfl) (by rfl) hso (by decide +kernel) (pa_cons (pv 1) pa_nil)) pa_nil))))
  (pss_one (ps_expr (pe_bm PySem.F.plainAttrs_list PySem.F.slot_list_append PySem.F.type_list_append mt_append (pv 10) (pa_cons (pe_tup (pa_cons (pv 11) (pa_cons (pe_cal C_drawn (hr.mono (by decide)) rfl (pa_cons (pv 3) (pa_cons (pe_ix ix_d (pe_dget (hu_of hr) (pv 1) (pv 11) (fun _ _ => rfl)) pe_int (fun _ _ => rfl)) (pa_cons (pv 9) pa_nil)))) pa_nil))) pa_nil))))))
  (pss_cons (ps_set (i := 12) sclaw.nd rfl (Or.inl rfl) (pe_cal C_lines (hr.mono (by decide)) rfl (pa_cons (pv 3) pa_nil)))
  (pss_cons (ps_set (i := 13) sclaw.nd rfl (Or.inl rfl) (pe_cmpR op_eq (pe_cal C_next (hr.mono (by decide)) rfl (pa_cons (pv 3) (pa_cons pe_int pa_nil))) pe_int (nomark _)))
  (pss_cons (ps_asg (pe_calG L.G_told hgd (hr.mono (by decide)) rfl (E := E0) (fun _ _ _ _ _ _ _ z => (show False from z).elim) (pa_cons (pv 1) (pa_cons (pv 10) (pa_cons (pv 9) (pa_cons (pe_ifExp (pt_val (pv 13)) (pe_lst pa_nil) (pv 12)) pa_nil))))) (pg_tupD (n := 2) rfl (pgs_cons (pg_name (i := 14) sclaw.nd rfl (Or.inl rfl)) (pgs_cons (pg_name (i := 15) sclaw.nd rfl (Or.inl rfl)) pgs_nil))))
  (pss_cons (ps_set (i := 16) sclaw.nd rfl (Or.inl rfl) (pe_ifExp (pt_val (pv 13)) (pe_lst (pa_cons pe_int pa_nil)) (pe_cal C_line_bytes (hr.mono (by decide)) rfl (pa_cons (pv 12) (pa_cons pe_int pa_nil)))))
  (pss_cons (ps_set (i := 17) sclaw.nd rfl (Or.inl rfl) (pe_mak M_Code hr rfl (pa_cons pe_int (pa_cons pe_int (pa_cons pe_int (pa_cons pe_int (pa_cons (pv 15) (pa_cons (pv 5) (pa_cons (pv 7) (pa_cons (pv 8) (pa_cons (pe_op op_rep (pe_lst (pa_cons pe_int pa_nil)) (pe_callB call_len_d (by rfl) T.b_len (by decide +kernel) (pa_cons (pv 8) pa_nil))) (pa_cons pe_str (pa_cons pe_str (pa_cons pe_int (pa_cons (pv 16) (pa_cons (pe_lst (pa_cons pe_int pa_nil)) pa_nil))))))))))))))))
  (pss_cons (ps_set (i := 18) sclaw.nd rfl (Or.inl rfl) (pe_calG L.G_instr.cal hgd (hr.mono (by decide)) rfl (passes_call LamX.takes0 (fun _ _ _ _ z => z)) (pa_cons (pv 17) pa_nil)))
  (pss_cons (ps_if (pt_cmpR op_ne (pe_callB (call_repr_D hgd hu20) (by rfl) T.b_repr (by decide +kernel) (pa_cons (pv 18) pa_nil)) (pe_callB (call_repr_D hgd hu20) (by rfl) T.b_repr (by decide +kernel) (pa_cons (pv 14) pa_nil)) (nomark _))
    (pss_one (ps_ret pe_bl))
    pss_nil)
  (pss_cons (ps_expr (pe_bm PySem.F.plainAttrs_list PySem.F.slot_list_append PySem.F.type_list_append mt_append (pv 18) (pa_cons pe_non pa_nil)))
  (pss_one (ps_if (pt_cmpR op_ne (pe_callB (call_repr_D hgd hu20) (by rfl) T.b_repr (by decide +kernel) (pa_cons (pe_calGK L.G_instr hgd (hr.mono (by decide)) rfl LamX.takes0 (fun _ _ _ _ z => z) (pv 17)) pa_nil)) (pe_callB (call_repr_D hgd hu20) (by rfl) T.b_repr (by decide +kernel) (pa_cons (pv 14) pa_nil)) (nomark _))
    (pss_one (ps_ret pe_bl))
    pss_nil))))))))))))))))))
  (pss_one (ps_ret pe_bl))))
end
end C57

set_option maxHeartbeats 2000000
namespace C57
open PySem PySem.Spec PyProof.Rows L2
/-! ### the law's own code, and its wares -/
/-- the law's own code -/
def OwnAt (CC : Addr) (H : Hp) (O : Addr) : Prop := ∃ (dx : Addr) (fs : List (Str × V)), H O = some (.ins CC dx fs) ∧ fs.lookup ("path" : Str) = some (.str "p.q") ∧ fs.lookup ("depth" : Str) = some (.int ((1 : Nat) : Int))
def XOwn : Fld := ⟨0, 0, 1, 0, 1, "q", "p.q", [30, 0], [], [], [], [], [], [], []⟩
theorem ok_q : okSb "q" = true := by decide +kernel
theorem ok_pq : okSb "p.q" = true := by decide +kernel
theorem ok_f : okSb "f" = true := by decide +kernel
theorem xown_ok : XOwn.Ok := ⟨⟨by decide, by decide⟩, ⟨by decide, by decide⟩, ⟨by decide, by decide⟩, ⟨by decide, by decide⟩, ⟨by decide, by decide⟩, okS_b ok_q, okS_b ok_pq, (by decide), (by decide), (by decide), (by decide), (fun z (h : z ∈ []) => nomatch h), (fun z (h : z ∈ []) => nomatch h), rfl, by decide⟩
section
variable {K : PySem.W.Frag} {CC a d : Addr} {D : Ends} {s0 s2 s4 s5 s6 s7 s8 s9 s10 s11 s12 s13 s14 s15 s16 s17 s18 : Option V}
theorem own_run {H : Hp} (k : ∀ O H', Same H H' → OwnAt CC H' O → D.nx [s0, some (.ref d), s2, some (.ref a), some (.ref O), s5, s6, s7, s8, s9, s10, s11, s12, s13, s14, s15, s16, s17, s18] H') :
    t_own CC D [s0, some (.ref d), s2, some (.ref a), s4, s5, s6, s7, s8, s9, s10, s11, s12, s13, s14, s15, s16, s17, s18] H := by
  unfold t_own
  simp only [r_seq, r_next, r_brk, r_cont, r_asg, r_name, r_ret, r_retN, r_drop, r_ifs, r_never, r_var, r_c, r_op, r_un, r_if, r_tst, r_b, r_not, r_and, r_or, r_andV, r_orV, r_notV, r_nil, r_cons, r_tup, r_lst, r_cb, r_call, r_bm, r_bm0, r_sl, r_nopart, r_part, r_rev, r_gnil, r_gcons, r_gsub, r_par, r_aug, r_chain, r_I0, r_I, r_U, r_ixd, r_lend, r_tupd, r_listd, r_sld, r_app, r_ext, r_reverse, r_setl, r_cat, r_int1, r_eqS, r_neS, scal_ii, scal_bb, scal_ss, at0, at1, at2, sq_lst, sq_tup, isLst_lst, List.getElem?_cons_zero, List.getElem?_cons_succ, List.set_cons_zero, List.set_cons_succ, V.int.injEq, V.bl.injEq, V.ref.injEq, V.str.injEq, HO.lst.injEq, HO.tup.injEq, Option.some.injEq, exists_eq_left', exists_eq_left, List.cons.injEq, and_true, true_and, decide_eq_true_eq, reduceCtorEq, false_and, exists_false, or_false, false_or, exists_const, and_assoc, exists_and_left, List.append_nil, ix0, ix1, ix2, cm_mod, cdw1009, cdw2003, cdw7, cdw64, cdw2, cm104729, cm2, cm3, upd_same, List.length_cons, List.length_nil, Int.reduceLT, Int.reduceLE, Nat.reduceAdd, Nat.reduceLeDiff, Nat.reduceLT, Int.reduceToNat, r_for1, r_forL, r_forT, r_lcL, r_lc1, r_yes, r_gtupD, wipe_0, wipe_1, List.cons_append, List.nil_append, r_forS, r_ipI, ite_false, ite_true, Bool.not_true, Bool.not_false, decide_true, decide_false, r_isd, r_islt, cD_ty, cD_ref, tD_non, tD_bl, tD_int, tD_str, tD_ref, tH_lst, tH_tup, tH_dK, tH_ins, ki_self, ki_int_bool, ki_non_int, ki_str_int, ki_lt_lst, ki_lt_tup, r_fld, r_sfld, HO.ins.injEq, cx_K, r_make]
  refine ⟨szl (by decide : 2 ≤ 1000), fun p0 h0 => ⟨Nat.zero_le _, fun p1 h1 => ⟨Nat.zero_le _, fun p2 h2 => ⟨Nat.zero_le _, fun p3 h3 => ⟨Nat.zero_le _, fun p4 h4 => ⟨Nat.zero_le _, fun p5 h5 => ⟨Nat.zero_le _, fun p6 h6 x dx hx hd nd => ?_⟩⟩⟩⟩⟩⟩⟩
  have s1 := Same.new' (o := .lst [.int 30, .int 0]) (Same.refl H) h0
  have q0 : L2.upd H p0 (.lst [.int 30, .int 0]) p0 = some (.lst [.int 30, .int 0]) := upd_same
  generalize L2.upd H p0 (.lst [.int 30, .int 0]) = G1 at *
  have s2' := Same.new' (o := .lst []) (Same.refl G1) h1
  have q1 : L2.upd G1 p1 (.lst []) p1 = some (.lst []) := upd_same
  generalize L2.upd G1 p1 (.lst []) = G2 at *
  have s3 := Same.new' (o := .lst []) (Same.refl G2) h2
  have q2 : L2.upd G2 p2 (.lst []) p2 = some (.lst []) := upd_same
  generalize L2.upd G2 p2 (.lst []) = G3 at *
  have s4' := Same.new' (o := .lst []) (Same.refl G3) h3
  have q3 : L2.upd G3 p3 (.lst []) p3 = some (.lst []) := upd_same
  generalize L2.upd G3 p3 (.lst []) = G4 at *
  have s5' := Same.new' (o := .lst []) (Same.refl G4) h4
  have q4 : L2.upd G4 p4 (.lst []) p4 = some (.lst []) := upd_same
  generalize L2.upd G4 p4 (.lst []) = G5 at *
  have s6' := Same.new' (o := .lst []) (Same.refl G5) h5
  have q5 : L2.upd G5 p5 (.lst []) p5 = some (.lst []) := upd_same
  generalize L2.upd G5 p5 (.lst []) = G6 at *
  have s7' := Same.new' (o := .lst []) (Same.refl G6) h6
  have q6 : L2.upd G6 p6 (.lst []) p6 = some (.lst []) := upd_same
  generalize L2.upd G6 p6 (.lst []) = G7 at *
  have ww : Same G7 (L2.upd (L2.upd G7 dx (.own x)) x (.ins CC dx [])) := fun b o e => by
    rw [upd_ne (ne_new e hx), upd_ne (ne_new e hd)]
    exact e
  have t6 : Same G6 _ := fun b o e => ww b o (s7' b o e)
  have t5 : Same G5 _ := fun b o e => t6 b o (s6' b o e)
  have t4 : Same G4 _ := fun b o e => t5 b o (s5' b o e)
  have t3 : Same G3 _ := fun b o e => t4 b o (s4' b o e)
  have t2 : Same G2 _ := fun b o e => t3 b o (s3 b o e)
  have t1 : Same G1 _ := fun b o e => t2 b o (s2' b o e)
  have t0 : Same H _ := fun b o e => t1 b o (s1 b o e)
  have sH : Same H G7 := fun b o e => s7' b o (s6' b o (s5' b o (s4' b o (s3 b o (s2' b o (s1 b o e))))))
  refine ⟨x, dx, p0, p1, p2, p3, p4, p5, p6, XOwn, rfl, upd_same, xown_ok, ⟨t1 _ _ q0, t2 _ _ q1, t3 _ _ q2, t4 _ _ q3, t5 _ _ q4, t6 _ _ q5, ww _ _ q6, .nil⟩, fun H' kk cx => ⟨rfl, k x H' (fun b o e => kk b o (ne_new (sH b o e) hx) (t0 b o e)) ?_⟩⟩
  obtain ⟨dx', fs, u, k', n, s, kd, t, g, m, h1, f0, f1, f2, f3, f4, f5, f6, f7, f8, f9, f10, f11, _⟩ := cx.ex
  exact ⟨dx', fs, h1, f11, f5⟩
end
end C57

set_option maxHeartbeats 2000000
namespace C57
open PySem PySem.Spec PyProof.Rows L2
/-! ### the wares -/
theorem rep_flat (x : V) (n : Nat) : (List.replicate n [x]).flatten = List.replicate n x := by
  induction n with
  | zero => rfl
  | succ n ih => rw [List.replicate_succ, List.flatten_cons, ih, List.replicate_succ]; rfl
def waresV (t1 O t2 : Addr) (r : Nat) : List V := [.non, .bl true, .int 5, .int (0 - 7), .str "ab", .ref t1, .ref O, .int (10 ^ 40), .ref t2] ++ List.replicate r (.int 0)
def WaresAt (H : Hp) (W O : Addr) (r : Nat) : Prop := r ≤ 300 ∧ ∃ t0 t1 t2 : Addr, H W = some (.lst (waresV t1 O t2 r)) ∧ H t1 = some (.tup [.int 1, .ref t0]) ∧ H t0 = some (.tup [.non, .str "x"]) ∧ H t2 = some (.tup [])
theorem Src.off {H : Hp} {a b : Addr} {o : HO} (S : Src H a) (h : H b = some o) (n : ∀ xs, o ≠ .lst xs) : b ≠ a := fun z => by
  obtain ⟨xs, e⟩ := S.lst
  rw [z, e] at h
  exact n xs (Option.some.inj h).symm
theorem WaresAt.keep {H H' : Hp} {a W O : Addr} {r : Nat} (h : WaresAt H W O r) (S : Src H a) (nW : W ≠ a) (k : Keep a H H') : WaresAt H' W O r := by
  obtain ⟨h0, t0, t1, t2, h1, h2, h3, h4⟩ := h
  exact ⟨h0, t0, t1, t2, k _ _ nW h1, k _ _ (S.off h2 fun _ z => by cases z) h2, k _ _ (S.off h3 fun _ z => by cases z) h3, k _ _ (S.off h4 fun _ z => by cases z) h4⟩
theorem WaresAt.same {H H' : Hp} {W O : Addr} {r : Nat} (h : WaresAt H W O r) (k : Same H H') : WaresAt H' W O r := by
  obtain ⟨h0, t0, t1, t2, h1, h2, h3, h4⟩ := h
  exact ⟨h0, t0, t1, t2, k _ _ h1, k _ _ h2, k _ _ h3, k _ _ h4⟩
section
variable {K : PySem.W.Frag} {CC a d : Addr} {D : Ends} {s0 s2 s4 s5 s6 s7 s8 s9 s10 s11 s12 s13 s14 s15 s16 s17 s18 : Option V}
theorem wares_run {H : Hp} {O : Addr} (hS : Src H a) (k : ∀ W r H', Keep a H H' → Src H' a → H W = none → W ≠ a → WaresAt H' W O r → D.nx [s0, some (.ref d), s2, some (.ref a), some (.ref O), some (.ref W), s6, s7, s8, s9, s10, s11, s12, s13, s14, s15, s16, s17, s18] H') :
    t_wares D [s0, some (.ref d), s2, some (.ref a), some (.ref O), s5, s6, s7, s8, s9, s10, s11, s12, s13, s14, s15, s16, s17, s18] H := by
  unfold t_wares
  simp only [r_seq, r_next, r_brk, r_cont, r_asg, r_name, r_ret, r_retN, r_drop, r_ifs, r_never, r_var, r_c, r_op, r_un, r_if, r_tst, r_b, r_not, r_and, r_or, r_andV, r_orV, r_notV, r_nil, r_cons, r_tup, r_lst, r_cb, r_call, r_bm, r_bm0, r_sl, r_nopart, r_part, r_rev, r_gnil, r_gcons, r_gsub, r_par, r_aug, r_chain, r_I0, r_I, r_U, r_ixd, r_lend, r_tupd, r_listd, r_sld, r_app, r_ext, r_reverse, r_setl, r_cat, r_int1, r_eqS, r_neS, scal_ii, scal_bb, scal_ss, at0, at1, at2, sq_lst, sq_tup, isLst_lst, List.getElem?_cons_zero, List.getElem?_cons_succ, List.set_cons_zero, List.set_cons_succ, V.int.injEq, V.bl.injEq, V.ref.injEq, V.str.injEq, HO.lst.injEq, HO.tup.injEq, Option.some.injEq, exists_eq_left', exists_eq_left, List.cons.injEq, and_true, true_and, decide_eq_true_eq, reduceCtorEq, false_and, exists_false, or_false, false_or, exists_const, and_assoc, exists_and_left, List.append_nil, ix0, ix1, ix2, cm_mod, cdw1009, cdw2003, cdw7, cdw64, cdw2, cm104729, cm2, cm3, upd_same, List.length_cons, List.length_nil, Int.reduceLT, Int.reduceLE, Nat.reduceAdd, Nat.reduceLeDiff, Nat.reduceLT, Int.reduceToNat, r_for1, r_forL, r_forT, r_lcL, r_lc1, r_yes, r_gtupD, wipe_0, wipe_1, List.cons_append, List.nil_append, r_forS, r_ipI, ite_false, ite_true, Bool.not_true, Bool.not_false, decide_true, decide_false, r_isd, r_islt, cD_ty, cD_ref, tD_non, tD_bl, tD_int, tD_str, tD_ref, tH_lst, tH_tup, tH_dK, tH_ins, ki_self, ki_int_bool, ki_non_int, ki_str_int, ki_lt_lst, ki_lt_tup, r_fld, r_sfld, HO.ins.injEq, cx_K]
  refine ⟨szl (by decide : 2 ≤ 1000), fun t0 h0 => ?_⟩
  have c1 := Same.new' (o := .tup [.non, .str "x"]) (Same.refl H) h0
  have q0 : L2.upd H t0 (.tup [.non, .str "x"]) t0 = some (.tup [.non, .str "x"]) := upd_same
  have S1 := hS.new (o := .tup [.non, .str "x"]) h0
  generalize L2.upd H t0 (.tup [.non, .str "x"]) = G1 at *
  refine ⟨szl (by decide : 2 ≤ 1000), fun t1 h1 => ⟨⟨by decide, by decide, by decide⟩, Nat.zero_le _, ?_⟩⟩
  have c2 := Same.new' (o := .tup [.int 1, .ref t0]) (Same.refl G1) h1
  have q1 : L2.upd G1 t1 (.tup [.int 1, .ref t0]) t1 = some (.tup [.int 1, .ref t0]) := upd_same
  have S2 := S1.new (o := .tup [.int 1, .ref t0]) h1
  generalize L2.upd G1 t1 (.tup [.int 1, .ref t0]) = G2 at *
  intro t2 h2
  have c3 := Same.new' (o := .tup []) (Same.refl G2) h2
  have q2 : L2.upd G2 t2 (.tup []) t2 = some (.tup []) := upd_same
  have S3 := S2.new (o := .tup []) h2
  generalize L2.upd G2 t2 (.tup []) = G3 at *
  refine ⟨szl (by decide : 9 ≤ 1000), fun p3 h3 => ?_⟩
  have c4 := Same.new' (o := .lst [.non, .bl true, .int 5, .int (0 - 7), .str "ab", .ref t1, .ref O, .int (10 ^ 40), .ref t2]) (Same.refl G3) h3
  have q3 : L2.upd G3 p3 (.lst [.non, .bl true, .int 5, .int (0 - 7), .str "ab", .ref t1, .ref O, .int (10 ^ 40), .ref t2]) p3 = some (.lst [.non, .bl true, .int 5, .int (0 - 7), .str "ab", .ref t1, .ref O, .int (10 ^ 40), .ref t2]) := upd_same
  have S4 := S3.new (o := .lst [.non, .bl true, .int 5, .int (0 - 7), .str "ab", .ref t1, .ref O, .int (10 ^ 40), .ref t2]) h3
  have na3 := S3.ne h3
  generalize L2.upd G3 p3 (.lst [.non, .bl true, .int 5, .int (0 - 7), .str "ab", .ref t1, .ref O, .int (10 ^ 40), .ref t2]) = G4 at *
  refine ⟨szl (by decide : 1 ≤ 1000), fun p4 h4 => ?_⟩
  have c5 := Same.new' (o := .lst [.int 0]) (Same.refl G4) h4
  have q4 : L2.upd G4 p4 (.lst [.int 0]) p4 = some (.lst [.int 0]) := upd_same
  have S5 := S4.new (o := .lst [.int 0]) h4
  have na4 := S4.ne h4
  generalize L2.upd G4 p4 (.lst [.int 0]) = G5 at *
  refine ⟨szl (by decide : 2 ≤ 1000), fun p5 h5 => ⟨a, p5, _, rfl, S5.new h5, S5.ne h5, upd_same, by simp, (by simp : _ ≤ 1000), fun v G7 hv k7 S7 => ?_⟩⟩
  have K7 : Keep a G5 G7 := ((Keep.refl a G5).new h5).trans k7
  have K3 : Keep a G3 G7 := ((Keep.same c4).trans (Keep.same c5)).trans K7
  obtain ⟨r, rfl, hr⟩ : ∃ r : Nat, v = .int (r : Int) ∧ r ≤ 300 := by
    simp only [List.mem_cons, List.not_mem_nil, or_false] at hv
    rcases hv with e | e
    · exact ⟨0, e, by decide⟩
    · exact ⟨300, e, by decide⟩
  have e3 := K7 _ _ na3 (c5 _ _ q3)
  have e4 := K7 _ _ na4 q4
  refine ⟨p4, (r : Int), [V.int 0], rfl, rfl, e4, by omega, by omega, Nat.le_trans (by rw [Int.toNat_natCast, List.length_singleton]; omega : _ ≤ 1000) (by decide), fun p6 h6 => ⟨p6, rfl, _, by rw [upd_ne (ne_new e3 h6)]; exact e3, _, upd_same, ?_, fun W hW => ?_⟩⟩
  · rw [rep_flat, List.length_replicate, Int.toNat_natCast]
    exact Nat.le_trans (by show 9 + r ≤ 1000; omega) (by decide)
  · rw [rep_flat, Int.toNat_natCast] at hW ⊢
    have c7 := Same.new' (o := .lst (List.replicate r (V.int 0))) (Same.refl G7) h6
    have S8 := S7.new (o := .lst (List.replicate r (V.int 0))) h6
    generalize L2.upd G7 p6 (.lst (List.replicate r (V.int 0))) = G8 at *
    have c8 := Same.new' (o := .lst (waresV t1 O t2 r)) (Same.refl G8) hW
    have K8 : Keep a G3 G8 := K3.trans (Keep.same c7)
    have KH : Keep a H G3 := ((Keep.same c1).trans (Keep.same c2)).trans (Keep.same c3)
    have W0 : H W = none := by
      cases c : H W with
      | none => rfl
      | some o =>
        have := K8 _ _ (S8.ne hW) (KH _ _ (S8.ne hW) c)
        rw [this] at hW
        cases hW
    refine k W r _ ((KH.trans K8).trans (Keep.same c8)) (S8.new hW) W0 (S8.ne hW) ⟨hr, t0, t1, t2, upd_same, ?_, ?_, ?_⟩
    · exact c8 _ _ (K8 _ _ (S3.off (c3 _ _ q1) fun _ z => by cases z) (c3 _ _ q1))
    · exact c8 _ _ (K8 _ _ (S3.off (c3 _ _ (c2 _ _ q0)) fun _ z => by cases z) (c3 _ _ (c2 _ _ q0)))
    · exact c8 _ _ (K8 _ _ (S3.off q2 fun _ z => by cases z) q2)
end
end C57

set_option maxHeartbeats 2000000
namespace C57
open PySem PySem.Spec PyProof.Rows L2
/-! ### names and slots -/
def numT (z : Str) (n : Nat) : List Str := (List.range n).map fun k : Nat => z ++ Str.ofString (toString ((k : Nat) : Int))
theorem numT_snoc (z : Str) (n : Nat) : numT z (n + 1) = numT z n ++ [z ++ Str.ofString (toString ((n : Nat) : Int))] := by
  unfold numT
  rw [List.range_succ, List.map_append]
  rfl
theorem cp_rng {n : Nat} {g : TG} {tt : TT} {te : TE} {vs : List Nat} {σ : L2.St} {A : Addr} {H1 : Hp} {Q : VK} (Pv : Nat → Hp → Prop) (h0 : Pv 0 (L2.upd H1 A (.lst [])))
    (hs : ∀ i H, i < n → Pv i H → g (.int (0 + (i : Nat))) (wipe σ vs) H fun σ2 H2 => wipe σ2 vs = wipe σ vs ∧ tt σ2 H2 fun b H3 =>
      if b = true then te σ2 H3 fun y H4 => ∃ acc, H4 A = some (.lst acc) ∧ acc.length < sizeLine ∧ Pv (i + 1) (L2.upd H4 A (.lst (acc ++ [y]))) else Pv (i + 1) H3) (hd : ∀ H, Pv n H → Q (.ref A) H) :
    CompR (Itr 0 n) g tt te vs σ Q A (L2.upd H1 A (.lst [])) := lc_range Pv h0 hs hd
section
variable {K : PySem.W.Frag} {CC a d : Addr} {D : Ends} {s0 s1 s2 s3 s4 s5 s6 s7 s8 s9 s10 s11 s12 s13 s14 s15 s16 s17 s18 : Option V}
theorem strk_run {z : Str} {n : Nat} {H : Hp} {F : Addr} {Q : VK} (hz : z.length ≤ 20) (hn : n ≤ 1000) (hF : H F = none) (k : ∀ H', Same H H' → H' F = some (.lst ((numT z n).map V.str)) → Q (.ref F) H') :
    CompR (Itr 0 n) (gName 6) tYes (t_strk z) [6] [s0, s1, s2, s3, s4, s5, s6, s7, s8, s9, s10, s11, s12, s13, s14, s15, s16, s17, s18] Q F (L2.upd H F (.lst [])) := by
  refine cp_rng (n := n) (fun i H' => Same H H' ∧ H' F = some (.lst ((numT z i).map V.str))) ⟨Same.new' (Same.refl H) hF, by rw [upd_same]; rfl⟩ ?_ ?_
  · rintro i H1 hi ⟨s1', h1⟩
    refine ⟨rfl, ?_⟩
    unfold t_strk
    simp only [r_seq, r_next, r_brk, r_cont, r_asg, r_name, r_ret, r_retN, r_drop, r_ifs, r_never, r_var, r_c, r_op, r_un, r_if, r_tst, r_b, r_not, r_and, r_or, r_andV, r_orV, r_notV, r_nil, r_cons, r_tup, r_lst, r_cb, r_call, r_bm, r_bm0, r_sl, r_nopart, r_part, r_rev, r_gnil, r_gcons, r_gsub, r_par, r_aug, r_chain, r_I0, r_I, r_U, r_ixd, r_lend, r_tupd, r_listd, r_sld, r_app, r_ext, r_reverse, r_setl, r_cat, r_int1, r_eqS, r_neS, scal_ii, scal_bb, scal_ss, at0, at1, at2, sq_lst, sq_tup, isLst_lst, List.getElem?_cons_zero, List.getElem?_cons_succ, List.set_cons_zero, List.set_cons_succ, V.int.injEq, V.bl.injEq, V.ref.injEq, V.str.injEq, HO.lst.injEq, HO.tup.injEq, Option.some.injEq, exists_eq_left', exists_eq_left, List.cons.injEq, and_true, true_and, decide_eq_true_eq, reduceCtorEq, false_and, exists_false, or_false, false_or, exists_const, and_assoc, exists_and_left, List.append_nil, ix0, ix1, ix2, cm_mod, cdw1009, cdw2003, cdw7, cdw64, cdw2, cm104729, cm2, cm3, upd_same, List.length_cons, List.length_nil, Int.reduceLT, Int.reduceLE, Nat.reduceAdd, Nat.reduceLeDiff, Nat.reduceLT, Int.reduceToNat, r_for1, r_forL, r_forT, r_lcL, r_lc1, r_yes, r_gtupD, wipe_0, wipe_1, List.cons_append, List.nil_append, r_forS, r_ipI, ite_false, ite_true, Bool.not_true, Bool.not_false, decide_true, decide_false, r_isd, r_islt, cD_ty, cD_ref, tD_non, tD_bl, tD_int, tD_str, tD_ref, tH_lst, tH_tup, tH_dK, tH_ins, ki_self, ki_int_bool, ki_non_int, ki_str_int, ki_lt_lst, ki_lt_tup, r_fld, r_sfld, HO.ins.injEq, cx_K]
    have e0 : (0 : Int) + (i : Int) = ((i : Nat) : Int) := by omega
    rw [e0]
    have tl := PySem.int_text_length_le10 (a := ((i : Nat) : Int)) (k := 20) (by decide) (by omega)
    have lg : ((i : Nat) : Int).natAbs.log2 < 1920 := by
      have : i < 2 ^ 62 := Nat.lt_of_lt_of_le (by omega : i < 1000) (by decide)
      have := log_nat this
      omega
    refine ⟨lg, z, _, rfl, rfl, bigS (by rw [PySem.ofString_length]; omega), _, h1, Nat.lt_of_le_of_lt (by rw [List.length_map]; unfold numT; rw [List.length_map, List.length_range]; omega : _ ≤ 1000) (by decide), fun y o e => ?_, ?_⟩
    · rw [upd_ne (ne_new e hF)]
      exact s1' y o e
    · rw [numT_snoc, List.map_append]
      rfl
  · rintro H1 ⟨s1', h1⟩
    exact k H1 s1' h1
def namesT (r : Nat) : List Str := (["a", "b c", ("__" : Str) ++ ("x__" : Str)] : List Str) ++ numT "n" r
def slotsT (r : Nat) : List Str := ([".0", "p", "q"] : List Str) ++ numT "s" r
theorem names_run {H : Hp} (hS : Src H a) (k : ∀ p r H', r ≤ 200 → Keep a H H' → Src H' a → H p = none → p ≠ a → H' p = some (.lst ((namesT r).map V.str)) → D.nx [s0, s1, s2, some (.ref a), s4, s5, s6, some (.ref p), s8, s9, s10, s11, s12, s13, s14, s15, s16, s17, s18] H') :
    t_names D [s0, s1, s2, some (.ref a), s4, s5, s6, s7, s8, s9, s10, s11, s12, s13, s14, s15, s16, s17, s18] H := by
  unfold t_names
  simp only [r_seq, r_next, r_brk, r_cont, r_asg, r_name, r_ret, r_retN, r_drop, r_ifs, r_never, r_var, r_c, r_op, r_un, r_if, r_tst, r_b, r_not, r_and, r_or, r_andV, r_orV, r_notV, r_nil, r_cons, r_tup, r_lst, r_cb, r_call, r_bm, r_bm0, r_sl, r_nopart, r_part, r_rev, r_gnil, r_gcons, r_gsub, r_par, r_aug, r_chain, r_I0, r_I, r_U, r_ixd, r_lend, r_tupd, r_listd, r_sld, r_app, r_ext, r_reverse, r_setl, r_cat, r_int1, r_eqS, r_neS, scal_ii, scal_bb, scal_ss, at0, at1, at2, sq_lst, sq_tup, isLst_lst, List.getElem?_cons_zero, List.getElem?_cons_succ, List.set_cons_zero, List.set_cons_succ, V.int.injEq, V.bl.injEq, V.ref.injEq, V.str.injEq, HO.lst.injEq, HO.tup.injEq, Option.some.injEq, exists_eq_left', exists_eq_left, List.cons.injEq, and_true, true_and, decide_eq_true_eq, reduceCtorEq, false_and, exists_false, or_false, false_or, exists_const, and_assoc, exists_and_left, List.append_nil, ix0, ix1, ix2, cm_mod, cdw1009, cdw2003, cdw7, cdw64, cdw2, cm104729, cm2, cm3, upd_same, List.length_cons, List.length_nil, Int.reduceLT, Int.reduceLE, Nat.reduceAdd, Nat.reduceLeDiff, Nat.reduceLT, Int.reduceToNat, r_for1, r_forL, r_forT, r_lcL, r_lc1, r_yes, r_gtupD, wipe_0, wipe_1, List.cons_append, List.nil_append, r_forS, r_ipI, ite_false, ite_true, Bool.not_true, Bool.not_false, decide_true, decide_false, r_isd, r_islt, cD_ty, cD_ref, tD_non, tD_bl, tD_int, tD_str, tD_ref, tH_lst, tH_tup, tH_dK, tH_ins, ki_self, ki_int_bool, ki_non_int, ki_str_int, ki_lt_lst, ki_lt_tup, r_fld, r_sfld, HO.ins.injEq, cx_K, r_addS]
  refine ⟨bigS (by decide), szl (by decide : 3 ≤ 1000), fun p3 h3 => ?_⟩
  have c4 := Same.new' (o := .lst [.str "a", .str "b c", .str (("__" : Str) ++ ("x__" : Str))]) (Same.refl H) h3
  have q3 : L2.upd H p3 (.lst [.str "a", .str "b c", .str (("__" : Str) ++ ("x__" : Str))]) p3 = some (.lst [.str "a", .str "b c", .str (("__" : Str) ++ ("x__" : Str))]) := upd_same
  have S4 := hS.new (o := .lst [.str "a", .str "b c", .str (("__" : Str) ++ ("x__" : Str))]) h3
  have na3 := hS.ne h3
  generalize L2.upd H p3 (.lst [.str "a", .str "b c", .str (("__" : Str) ++ ("x__" : Str))]) = G4 at *
  refine ⟨szl (by decide : 2 ≤ 1000), fun p5 h5 => ⟨a, p5, _, rfl, S4.new h5, S4.ne h5, upd_same, by simp, (by simp : _ ≤ 1000), fun v G7 hv k7 S7 => ?_⟩⟩
  have K7 : Keep a G4 G7 := ((Keep.refl a G4).new h5).trans k7
  obtain ⟨r, rfl, hr⟩ : ∃ r : Nat, v = .int (r : Int) ∧ r ≤ 200 := by
    simp only [List.mem_cons, List.not_mem_nil, or_false] at hv
    rcases hv with e | e
    · exact ⟨0, e, by decide⟩
    · exact ⟨200, e, by decide⟩
  have e3 := K7 _ _ na3 q3
  refine ⟨(r : Int), rfl, by omega, by omega, fun F hF => ?_⟩
  rw [Int.toNat_natCast]
  refine strk_run (by decide) (by omega) hF fun H8 c8 h8 => ⟨F, rfl, _, c8 _ _ e3, _, h8, Nat.le_trans (by rw [List.length_map]; unfold numT; rw [List.length_map, List.length_range]; show 3 + r ≤ 1000; omega) (by decide), fun p hp => ?_⟩
  have S8 : Src H8 a := by
    obtain ⟨x, y, z, e⟩ := S7
    exact ⟨x, y, z, c8 _ _ e⟩
  have K8 : Keep a H H8 := ((Keep.same c4).trans K7).trans (Keep.same c8)
  have p0 : H p = none := by
    cases c : H p with
    | none => rfl
    | some o =>
      rw [K8 _ _ (S8.ne hp) c] at hp
      cases hp
  refine k p r _ hr (K8.new hp) (S8.new hp) p0 (S8.ne hp) ?_
  rw [upd_same]
  unfold namesT
  rw [List.map_append]
  rfl
theorem slots_run {H : Hp} (hS : Src H a) (k : ∀ p r H', r ≤ 400 → Keep a H H' → Src H' a → H p = none → p ≠ a → H' p = some (.lst ((slotsT r).map V.str)) → D.nx [s0, s1, s2, some (.ref a), s4, s5, s6, s7, some (.ref p), s9, s10, s11, s12, s13, s14, s15, s16, s17, s18] H') :
    t_slots D [s0, s1, s2, some (.ref a), s4, s5, s6, s7, s8, s9, s10, s11, s12, s13, s14, s15, s16, s17, s18] H := by
  unfold t_slots
  simp only [r_seq, r_next, r_brk, r_cont, r_asg, r_name, r_ret, r_retN, r_drop, r_ifs, r_never, r_var, r_c, r_op, r_un, r_if, r_tst, r_b, r_not, r_and, r_or, r_andV, r_orV, r_notV, r_nil, r_cons, r_tup, r_lst, r_cb, r_call, r_bm, r_bm0, r_sl, r_nopart, r_part, r_rev, r_gnil, r_gcons, r_gsub, r_par, r_aug, r_chain, r_I0, r_I, r_U, r_ixd, r_lend, r_tupd, r_listd, r_sld, r_app, r_ext, r_reverse, r_setl, r_cat, r_int1, r_eqS, r_neS, scal_ii, scal_bb, scal_ss, at0, at1, at2, sq_lst, sq_tup, isLst_lst, List.getElem?_cons_zero, List.getElem?_cons_succ, List.set_cons_zero, List.set_cons_succ, V.int.injEq, V.bl.injEq, V.ref.injEq, V.str.injEq, HO.lst.injEq, HO.tup.injEq, Option.some.injEq, exists_eq_left', exists_eq_left, List.cons.injEq, and_true, true_and, decide_eq_true_eq, reduceCtorEq, false_and, exists_false, or_false, false_or, exists_const, and_assoc, exists_and_left, List.append_nil, ix0, ix1, ix2, cm_mod, cdw1009, cdw2003, cdw7, cdw64, cdw2, cm104729, cm2, cm3, upd_same, List.length_cons, List.length_nil, Int.reduceLT, Int.reduceLE, Nat.reduceAdd, Nat.reduceLeDiff, Nat.reduceLT, Int.reduceToNat, r_for1, r_forL, r_forT, r_lcL, r_lc1, r_yes, r_gtupD, wipe_0, wipe_1, List.cons_append, List.nil_append, r_forS, r_ipI, ite_false, ite_true, Bool.not_true, Bool.not_false, decide_true, decide_false, r_isd, r_islt, cD_ty, cD_ref, tD_non, tD_bl, tD_int, tD_str, tD_ref, tH_lst, tH_tup, tH_dK, tH_ins, ki_self, ki_int_bool, ki_non_int, ki_str_int, ki_lt_lst, ki_lt_tup, r_fld, r_sfld, HO.ins.injEq, cx_K, r_addS]
  refine ⟨szl (by decide : 3 ≤ 1000), fun p3 h3 => ?_⟩
  have c4 := Same.new' (o := .lst [.str ".0", .str "p", .str "q"]) (Same.refl H) h3
  have q3 : L2.upd H p3 (.lst [.str ".0", .str "p", .str "q"]) p3 = some (.lst [.str ".0", .str "p", .str "q"]) := upd_same
  have S4 := hS.new (o := .lst [.str ".0", .str "p", .str "q"]) h3
  have na3 := hS.ne h3
  generalize L2.upd H p3 (.lst [.str ".0", .str "p", .str "q"]) = G4 at *
  refine ⟨szl (by decide : 3 ≤ 1000), fun p5 h5 => ⟨a, p5, _, rfl, S4.new h5, S4.ne h5, upd_same, by simp, (by simp : _ ≤ 1000), fun v G7 hv k7 S7 => ?_⟩⟩
  have K7 : Keep a G4 G7 := ((Keep.refl a G4).new h5).trans k7
  obtain ⟨r, rfl, hr⟩ : ∃ r : Nat, v = .int (r : Int) ∧ r ≤ 400 := by
    simp only [List.mem_cons, List.not_mem_nil, or_false] at hv
    rcases hv with e | e | e
    · exact ⟨0, e, by decide⟩
    · exact ⟨5, e, by decide⟩
    · exact ⟨400, e, by decide⟩
  have e3 := K7 _ _ na3 q3
  refine ⟨(r : Int), rfl, by omega, by omega, fun F hF => ?_⟩
  rw [Int.toNat_natCast]
  refine strk_run (by decide) (by omega) hF fun H8 c8 h8 => ⟨F, rfl, _, c8 _ _ e3, _, h8, Nat.le_trans (by rw [List.length_map]; unfold numT; rw [List.length_map, List.length_range]; show 3 + r ≤ 1000; omega) (by decide), fun p hp => ?_⟩
  have S8 : Src H8 a := by
    obtain ⟨x, y, z, e⟩ := S7
    exact ⟨x, y, z, c8 _ _ e⟩
  have K8 : Keep a H H8 := ((Keep.same c4).trans K7).trans (Keep.same c8)
  have p0 : H p = none := by
    cases c : H p with
    | none => rfl
    | some o =>
      rw [K8 _ _ (S8.ne hp) c] at hp
      cases hp
  refine k p r _ hr (K8.new hp) (S8.new hp) p0 (S8.ne hp) ?_
  rw [upd_same]
  unfold slotsT
  rw [List.map_append]
  rfl
end
end C57

set_option maxHeartbeats 2000000
namespace C57
open PySem PySem.Spec PyProof.Rows L2
/-! ### the tables that the law makes -/
def d5 : PyData := .tuple [.int 1, .tuple [.none, .str "x"]]
def csL : List Str := [PyData.shown .none, PyData.shown (.bool true), PyData.shown (.int 5), PyData.shown (.int (0 - 7)), PyData.shown (.str "ab"), PyData.shown d5, codeText "p.q", PyData.shown (.int (10 ^ 40)), PyData.shown (.tuple [])]
def z0 : Str := PyData.shown (.int 0)
def csT (r : Nat) : List Str := csL ++ List.replicate r z0
def TT (r rn rs : Nat) : Tb := ⟨csT r, namesT rn, slotsT rs⟩
theorem csL_ok : csL.all (cokB 100) = true := by decide +kernel
theorem z0_ok : cokB 100 z0 = true := by decide +kernel
theorem csT_cok {r : Nat} {z : Str} (h : z ∈ csT r) : Cok 100 z := by
  rcases List.mem_append.mp h with h | h
  · exact cok_b (List.all_eq_true.mp csL_ok z h)
  · rw [List.eq_of_mem_replicate h]
    exact cok_b z0_ok
theorem numT_cok {z : Str} {n : Nat} (hz : Cok 20 z) (hn : n ≤ 1000) {y : Str} (h : y ∈ numT z n) : Cok 100 y := by
  unfold numT at h
  obtain ⟨k, hk, rfl⟩ := List.mem_map.mp h
  have hk := List.mem_range.mp hk
  have tl := PySem.int_text_length_le10 (a := ((k : Nat) : Int)) (k := 20) (by decide) (by omega)
  exact (hz.app (Cok.of tl)).mono (by decide)
theorem names_ok : (namesT 200).all okSb = true := by decide +kernel
theorem slots_ok : (slotsT 400).all okSb = true := by decide +kernel
theorem numT_sub {z y : Str} {n m : Nat} (h : n ≤ m) (q : y ∈ numT z n) : y ∈ numT z m := by
  unfold numT at q ⊢
  obtain ⟨k, hk, e⟩ := List.mem_map.mp q
  exact List.mem_map.mpr ⟨k, List.mem_range.mpr (Nat.lt_of_lt_of_le (List.mem_range.mp hk) h), e⟩
theorem namesT_okS {n : Nat} (h : n ≤ 200) : ∀ z ∈ namesT n, OkS z := fun z hz => okS_b (List.all_eq_true.mp names_ok z (by
  rcases List.mem_append.mp hz with q | q
  · exact List.mem_append_left _ q
  · exact List.mem_append_right _ (numT_sub h q)))
theorem slotsT_okS {n : Nat} (h : n ≤ 400) : ∀ z ∈ slotsT n, OkS z := fun z hz => okS_b (List.all_eq_true.mp slots_ok z (by
  rcases List.mem_append.mp hz with q | q
  · exact List.mem_append_left _ q
  · exact List.mem_append_right _ (numT_sub h q)))
theorem cok_l : (["a", "b c", ("__" : Str) ++ ("x__" : Str)] : List Str).all (cokB 100) = true := by decide +kernel
theorem cok_l2 : ([".0", "p", "q"] : List Str).all (cokB 100) = true := by decide +kernel
theorem cok_n : cokB 20 "n" = true := by decide +kernel
theorem cok_s : cokB 20 "s" = true := by decide +kernel
theorem tt_c {r rn rs : Nat} (h2 : rn ≤ 200) (h3 : rs ≤ 400) : TbC (TT r rn rs) := by
  refine ⟨fun z hz => ?_, fun z hz => ?_, fun z hz => csT_cok hz⟩
  · rcases List.mem_append.mp hz with q | q
    · exact cok_b (List.all_eq_true.mp cok_l z q)
    · exact numT_cok (cok_b cok_n) (by omega) q
  · rcases List.mem_append.mp hz with q | q
    · exact cok_b (List.all_eq_true.mp cok_l2 z q)
    · exact numT_cok (cok_b cok_s) (by omega) q
theorem numT_len (z : Str) (n : Nat) : (numT z n).length = n := by
  unfold numT
  rw [List.length_map, List.length_range]
theorem tt_len (r rn rs : Nat) : (TT r rn rs).cs.length = 9 + r ∧ (TT r rn rs).ns.length = 3 + rn ∧ (TT r rn rs).ss.length = 3 + rs := by
  refine ⟨?_, ?_, ?_⟩
  · show (csL ++ List.replicate r z0).length = _
    rw [List.length_append, List.length_replicate]
    rfl
  · show ((["a", "b c", ("__" : Str) ++ ("x__" : Str)] : List Str) ++ numT "n" rn).length = _
    rw [List.length_append, numT_len]
    rfl
  · show (([".0", "p", "q"] : List Str) ++ numT "s" rs).length = _
    rw [List.length_append, numT_len]
    rfl
theorem tt_ok {r rn rs : Nat} (h1 : r ≤ 300) (h2 : rn ≤ 200) (h3 : rs ≤ 400) : TbOk (TT r rn rs) := by
  obtain ⟨l1, l2, l3⟩ := tt_len r rn rs
  have c := tt_c (r := r) h2 h3
  exact ⟨⟨by omega, by omega, by omega⟩, fun z hz => (c.n z hz).l, fun z hz => (c.s z hz).l, fun z hz => Nat.le_trans (c.c z hz).l (by decide)⟩
theorem pair_rep {α β : Type} {F : α → β → Prop} {x : α} {y : β} (h : F x y) : ∀ n : Nat, Paired F (List.replicate n x) (List.replicate n y)
  | 0 => .nil
  | n + 1 => .cons h (pair_rep h n)
structure Tabs (CC a : Addr) (H : Hp) (O W N S : Addr) (r rn rs : Nat) : Prop where
  o : OwnAt CC H O
  w : WaresAt H W O r
  n : H N = some (.lst ((namesT rn).map V.str))
  s : H S = some (.lst ((slotsT rs).map V.str))
  nW : W ≠ a
  nN : N ≠ a
  nS : S ≠ a
  rn : rn ≤ 200
  rs : rs ≤ 400
theorem OwnAt.same {CC O : Addr} {H H' : Hp} (h : OwnAt CC H O) (k : Same H H') : OwnAt CC H' O := by
  obtain ⟨dx, fs, h1, h2⟩ := h
  exact ⟨dx, fs, k _ _ h1, h2⟩
theorem OwnAt.keep {CC O a : Addr} {H H' : Hp} (h : OwnAt CC H O) (S : Src H a) (k : Keep a H H') : OwnAt CC H' O := by
  obtain ⟨dx, fs, h1, h2⟩ := h
  exact ⟨dx, fs, k _ _ (S.off h1 fun _ z => by cases z) h1, h2⟩
theorem Tabs.keep {CC a O W N S : Addr} {H H' : Hp} {r rn rs : Nat} (h : Tabs CC a H O W N S r rn rs) (hS : Src H a) (k : Keep a H H') : Tabs CC a H' O W N S r rn rs :=
  ⟨h.o.keep hS k, h.w.keep hS h.nW k, k _ _ h.nN h.n, k _ _ h.nS h.s, h.nW, h.nN, h.nS, h.rn, h.rs⟩
section
variable {K : PySem.W.Frag} {mg : Str → Option Value} {CC a O W N S : Addr} {H : Hp} {r rn rs : Nat}
theorem sh_ok {d : PyData} (h1 : d.showable = true) (h2 : d.hasDict = false) (h3 : d.depth ≤ 10) (h4 : cokB 100 d.shown = true) {v : V} {T : Value} (hd : Dp K H v d) (ht : tyD CC H v = some T) (hk : PySem.W.kitOne K T (.ref CC) = some false) : ConstAt K CC H v d.shown :=
  .inr ⟨⟨T, ht, hk⟩, d, hd, h1, h2, h3, Nat.le_trans (cok_b h4).l (by decide), rfl⟩
theorem wares_pair (I : CodeT K mg CC) (ho : OwnAt CC H O) {t0 t1 t2 : Addr} (h1 : H t1 = some (.tup [.int 1, .ref t0])) (h0 : H t0 = some (.tup [.non, .str "x"])) (h2 : H t2 = some (.tup [])) : Paired (fun v t => ConstAt K CC H v t ∧ PathQ CC H v) (waresV t1 O t2 r) (csT r) := by
  have np : ∀ v : V, (∀ a, v ≠ .ref a) → PathQ CC H v := fun v h a dx fs e => absurd e (h a)
  have nt : ∀ {t : Addr} {xs : List V}, H t = some (.tup xs) → PathQ CC H (.ref t) := fun h a dx fs e q => by
    cases e
    rw [h] at q
    cases q
  obtain ⟨dx, fs, e1, e2, e3⟩ := ho
  have i1 := I.no "NoneType" (by decide)
  have i2 := I.no "bool" (by decide)
  have i3 := I.no "int" (by decide)
  have i4 := I.no "str" (by decide)
  have i5 := I.no "tuple" (by decide)
  refine Paired.app' (l1 := [V.non, V.bl true, V.int 5, V.int (0 - 7), V.str "ab", V.ref t1, V.ref O, V.int (10 ^ 40), V.ref t2]) (l2 := csL) ?_ (pair_rep ⟨sh_ok (by decide +kernel) (by decide +kernel) (by decide +kernel) (by decide +kernel) (.int 0) rfl i3, np _ fun a z => by cases z⟩ r)
  refine .cons ⟨sh_ok (by decide +kernel) (by decide +kernel) (by decide +kernel) (by decide +kernel) .non rfl i1, np _ fun a z => by cases z⟩ ?_
  refine .cons ⟨sh_ok (by decide +kernel) (by decide +kernel) (by decide +kernel) (by decide +kernel) (.bl true) rfl i2, np _ fun a z => by cases z⟩ ?_
  refine .cons ⟨sh_ok (by decide +kernel) (by decide +kernel) (by decide +kernel) (by decide +kernel) (.int 5) rfl i3, np _ fun a z => by cases z⟩ ?_
  refine .cons ⟨sh_ok (by decide +kernel) (by decide +kernel) (by decide +kernel) (by decide +kernel) (.int (0 - 7)) rfl i3, np _ fun a z => by cases z⟩ ?_
  refine .cons ⟨sh_ok (by decide +kernel) (by decide +kernel) (by decide +kernel) (by decide +kernel) (.str "ab") rfl i4, np _ fun a z => by cases z⟩ ?_
  refine .cons ⟨sh_ok (by decide +kernel) (by decide +kernel) (by decide +kernel) (by decide +kernel) (.tup (SqT.of h1) (.cons (.int 1) (.cons (.tup (SqT.of h0) (.cons .non (.cons (.str "x") .nil))) .nil))) (by simp [tyD, tyH, h1]) i5, nt h1⟩ ?_
  refine .cons ⟨.inl ⟨O, dx, fs, "p.q", rfl, e1, e2, by decide +kernel, rfl⟩, fun a dx' fs' e q => by cases e; rw [e1] at q; cases q; exact e2⟩ ?_
  refine .cons ⟨sh_ok (by decide +kernel) (by decide +kernel) (by decide +kernel) (by decide +kernel) (.int (10 ^ 40)) rfl i3, np _ fun a z => by cases z⟩ ?_
  exact .cons ⟨sh_ok (by decide +kernel) (by decide +kernel) (by decide +kernel) (by decide +kernel) (.tup (SqT.of h2) .nil) (by simp [tyD, tyH, h2]) i5, nt h2⟩ .nil
def esW (r : Nat) : List Nat := [0, 0, 0, 0, 0, 0, 2, 0, 0] ++ List.replicate r 0
theorem dep_w (r : Nat) : depF (esW r) = 2 := by
  unfold depF esW
  rw [List.foldl_append]
  show (List.replicate r 0).foldl max 2 = 2
  induction r with
  | zero => rfl
  | succ r ih =>
    rw [List.replicate_succ]
    exact ih
theorem ok_ab : okSb "ab" = true := by decide +kernel
theorem ok_x : okSb "x" = true := by decide +kernel
theorem wares_items (ho : OwnAt CC H O) {t0 t1 t2 : Addr} (h1 : H t1 = some (.tup [.int 1, .ref t0])) (h0 : H t0 = some (.tup [.non, .str "x"])) (h2 : H t2 = some (.tup [])) : Paired (ItemC CC H) (waresV t1 O t2 r) (esW r) := by
  obtain ⟨dx, fs, e1, e2, e3⟩ := ho
  have lf : ∀ {v : V} {n : Nat}, CV H 100 v n → n ≤ 100000 → ItemC CC H v 0 := fun h q => .inl ⟨_, h, q, rfl⟩
  refine Paired.app' (l1 := [V.non, V.bl true, V.int 5, V.int (0 - 7), V.str "ab", V.ref t1, V.ref O, V.int (10 ^ 40), V.ref t2]) (l2 := [0, 0, 0, 0, 0, 0, 2, 0, 0]) ?_ (pair_rep (lf (.int 100 0) (by decide)) r)
  refine .cons (lf (.non 100) (by decide)) (.cons (lf (.bl 100 true) (by decide)) (.cons (lf (.int 100 5) (by decide)) (.cons (lf (.int 100 (0 - 7)) (by decide)) (.cons (lf (.str 100 "ab" (okS_b ok_ab)) (by decide)) ?_))))
  refine .cons (lf (.tup (k := 99) h1 (.cons (.int 99 1) (.cons (.tup (k := 98) h0 (.cons (.non 98) (.cons (.str 98 "x" (okS_b ok_x)) (.nil 98)))) (.nil 99)))) (by decide)) ?_
  refine .cons (.inr ⟨O, dx, fs, 1, rfl, e1, e3, rfl⟩) (.cons (lf (.int 100 (10 ^ 40)) (by decide)) (.cons (lf (.tup (k := 99) h2 (.nil 99)) (by decide)) .nil))
theorem Tabs.ltabs {TB : Addr} (I : CodeT K mg CC) (h : Tabs CC a H O W N S r rn rs) (hS : Src H a) (ht : H TB = some (.tup [.ref W, .ref N, .ref S])) : LTabs K CC a H TB (TT r rn rs) := by
  obtain ⟨l1, l2, l3⟩ := tt_len r rn rs
  refine ⟨⟨tt_ok h.w.1 h.rn h.rs, by omega, by omega, by omega⟩, W, N, S, fun H' k => ?_⟩
  have h' := h.keep hS k
  obtain ⟨_, t0, t1, t2, q1, q2, q3, q4⟩ := h'.w
  exact ⟨k _ _ (hS.off ht fun _ z => by cases z) ht, ⟨_, q1, wares_pair I h'.o q2 q3 q4⟩, h'.n, h'.s⟩
end
end C57

set_option maxHeartbeats 2000000
namespace C57
open PySem PySem.Spec PyProof.Rows L2
/-! ### the tables together, and what is drawn from them -/
theorem keys_of {H : Hp} : ∀ {kvs : List (Key × V)} {rs : List TR}, Paired (EntR H) kvs rs → kvs.map (·.1) = (rs.map (·.1)).map Sum.inr
  | _, _, .nil => rfl
  | _, _, .cons h t => by rw [List.map_cons, List.map_cons, List.map_cons, h.1, keys_of t]
theorem free_keep {a p : Addr} {H H' : Hp} (S : Src H' a) (k : Keep a H H') (h : H' p = none) : H p = none := by
  cases c : H p with
  | none => rfl
  | some o =>
    rw [k _ _ (S.ne h) c] at h
    cases h
theorem Src.same {H H' : Hp} {a : Addr} (S : Src H a) (s : Same H H') : Src H' a := let ⟨x, y, z, e⟩ := S; ⟨x, y, z, s _ _ e⟩
theorem GRows.push {H : Hp} {F t : Addr} {refs : List Addr} {Gs : List Gv} {g : Gv} (hF : H F = some (.lst (refs.map V.ref))) (pr : Paired (fun r g => H r = some (.tup [.str g.1.1, .int (g.2 : Int)])) refs Gs) (ht : H t = none) :
    GRows (L2.upd (L2.upd H t (.tup [.str g.1.1, .int (g.2 : Int)])) F (.lst (refs.map V.ref ++ [.ref t]))) F (Gs ++ [g]) := by
  have tF : t ≠ F := new_ne hF ht
  refine ⟨refs ++ [t], by rw [upd_same, List.map_append]; rfl, Paired.snoc' (Paired.map' pr fun r Q h => ?_) ?_⟩
  · have : r ≠ F := fun z => by rw [z, hF] at h; cases h
    rw [upd_ne this, upd_ne (ne_new h ht)]
    exact h
  · rw [upd_ne tF, upd_same]
section
variable {K : PySem.W.Frag} {mg : Str → Option Value} {CC a d O W N S : Addr} {r rn rs : Nat} {D : Ends} {s0 s2 s6 s9 s10 s11 s12 s13 s14 s15 s16 s17 s18 : Option V}
theorem tabs_run {H : Hp} (hS : Src H a) (k : ∀ TB G H1 H', Same H H1 → Src H1 a → H1 TB = some (.tup [.ref W, .ref N, .ref S]) → H1 G = none → H' = L2.upd H1 G (.lst []) → D.nx [s0, some (.ref d), s2, some (.ref a), some (.ref O), some (.ref W), s6, some (.ref N), some (.ref S), some (.ref TB), some (.ref G), s11, s12, s13, s14, s15, s16, s17, s18] H') :
    t_tabs D [s0, some (.ref d), s2, some (.ref a), some (.ref O), some (.ref W), s6, some (.ref N), some (.ref S), s9, s10, s11, s12, s13, s14, s15, s16, s17, s18] H := by
  unfold t_tabs
  simp only [r_seq, r_next, r_brk, r_cont, r_asg, r_name, r_ret, r_retN, r_drop, r_ifs, r_never, r_var, r_c, r_op, r_un, r_if, r_tst, r_b, r_not, r_and, r_or, r_andV, r_orV, r_notV, r_nil, r_cons, r_tup, r_lst, r_cb, r_call, r_bm, r_bm0, r_sl, r_nopart, r_part, r_rev, r_gnil, r_gcons, r_gsub, r_par, r_aug, r_chain, r_I0, r_I, r_U, r_ixd, r_lend, r_tupd, r_listd, r_sld, r_app, r_ext, r_reverse, r_setl, r_cat, r_int1, r_eqS, r_neS, scal_ii, scal_bb, scal_ss, at0, at1, at2, sq_lst, sq_tup, isLst_lst, List.getElem?_cons_zero, List.getElem?_cons_succ, List.set_cons_zero, List.set_cons_succ, V.int.injEq, V.bl.injEq, V.ref.injEq, V.str.injEq, HO.lst.injEq, HO.tup.injEq, Option.some.injEq, exists_eq_left', exists_eq_left, List.cons.injEq, and_true, true_and, decide_eq_true_eq, reduceCtorEq, false_and, exists_false, or_false, false_or, exists_const, and_assoc, exists_and_left, List.append_nil, ix0, ix1, ix2, cm_mod, cdw1009, cdw2003, cdw7, cdw64, cdw2, cm104729, cm2, cm3, upd_same, List.length_cons, List.length_nil, Int.reduceLT, Int.reduceLE, Nat.reduceAdd, Nat.reduceLeDiff, Nat.reduceLT, Int.reduceToNat, r_for1, r_forL, r_forT, r_lcL, r_lc1, r_yes, r_gtupD, wipe_0, wipe_1, List.cons_append, List.nil_append, r_forS, r_ipI, ite_false, ite_true, Bool.not_true, Bool.not_false, decide_true, decide_false, r_isd, r_islt, cD_ty, cD_ref, tD_non, tD_bl, tD_int, tD_str, tD_ref, tH_lst, tH_tup, tH_dK, tH_ins, ki_self, ki_int_bool, ki_non_int, ki_str_int, ki_lt_lst, ki_lt_tup, r_fld, r_sfld, HO.ins.injEq, cx_K]
  refine ⟨szl (by decide : 3 ≤ 1000), fun TB hT => ⟨Nat.zero_le _, fun G hG => ?_⟩⟩
  exact k TB G _ _ (Same.new' (Same.refl H) hT) (hS.new hT) upd_same hG rfl
theorem given_run {H0 H1 : Hp} {TB G : Addr} {s6' : Option V} {Gs : List Gv} (I : CodeT K mg CC) (h0 : Tabs CC a H0 O W N S r rn rs) (hS0 : Src H0 a) (ht0 : LawTab H0 d tabL) (hTB : H0 TB = some (.tup [.ref W, .ref N, .ref S])) (hG0 : H0 G = none)
    (k1 : Keep a H0 H1) (S1 : Src H1 a) (hG : GRows H1 G Gs) (hl : Gs.length ≤ 100) (k : ∀ g s11' H', GOk (TT r rn rs) g → Keep a H0 H' → Src H' a → GRows H' G (Gs ++ [g]) → D.nx [s0, some (.ref d), s2, some (.ref a), some (.ref O), some (.ref W), s6', some (.ref N), some (.ref S), some (.ref TB), some (.ref G), s11', s12, s13, s14, s15, s16, s17, s18] H') :
    t_given K CC D [s0, some (.ref d), s2, some (.ref a), some (.ref O), some (.ref W), s6', some (.ref N), some (.ref S), some (.ref TB), some (.ref G), s11, s12, s13, s14, s15, s16, s17, s18] H1 := by
  unfold t_given
  have ht1 := ht0.keep k1 hS0.lst
  obtain ⟨kvs, e, pk⟩ := id ht1
  have wt := of_decide_eq_true chk4
  obtain ⟨refs, hG1, pG⟩ := hG
  have Ga : G ≠ a := fun z => by
    obtain ⟨xs, q⟩ := hS0.lst
    rw [z, q] at hG0
    cases hG0
  simp only [r_seq, r_next, r_brk, r_cont, r_asg, r_name, r_ret, r_retN, r_drop, r_ifs, r_never, r_var, r_c, r_op, r_un, r_if, r_tst, r_b, r_not, r_and, r_or, r_andV, r_orV, r_notV, r_nil, r_cons, r_tup, r_lst, r_cb, r_call, r_bm, r_bm0, r_sl, r_nopart, r_part, r_rev, r_gnil, r_gcons, r_gsub, r_par, r_aug, r_chain, r_I0, r_I, r_U, r_ixd, r_lend, r_tupd, r_listd, r_sld, r_app, r_ext, r_reverse, r_setl, r_cat, r_int1, r_eqS, r_neS, scal_ii, scal_bb, scal_ss, at0, at1, at2, sq_lst, sq_tup, isLst_lst, List.getElem?_cons_zero, List.getElem?_cons_succ, List.set_cons_zero, List.set_cons_succ, V.int.injEq, V.bl.injEq, V.ref.injEq, V.str.injEq, HO.lst.injEq, HO.tup.injEq, Option.some.injEq, exists_eq_left', exists_eq_left, List.cons.injEq, and_true, true_and, decide_eq_true_eq, reduceCtorEq, false_and, exists_false, or_false, false_or, exists_const, and_assoc, exists_and_left, List.append_nil, ix0, ix1, ix2, cm_mod, cdw1009, cdw2003, cdw7, cdw64, cdw2, cm104729, cm2, cm3, upd_same, List.length_cons, List.length_nil, Int.reduceLT, Int.reduceLE, Nat.reduceAdd, Nat.reduceLeDiff, Nat.reduceLT, Int.reduceToNat, r_for1, r_forL, r_forT, r_lcL, r_lc1, r_yes, r_gtupD, wipe_0, wipe_1, List.cons_append, List.nil_append, r_forS, r_ipI, ite_false, ite_true, Bool.not_true, Bool.not_false, decide_true, decide_false, r_isd, r_islt, cD_ty, cD_ref, tD_non, tD_bl, tD_int, tD_str, tD_ref, tH_lst, tH_tup, tH_dK, tH_ins, ki_self, ki_int_bool, ki_non_int, ki_str_int, ki_lt_lst, ki_lt_tup, r_fld, r_sfld, HO.ins.injEq, cx_K, r_dget]
  refine ⟨d, kvs, tabL.map (·.1), rfl, e, keys_of pk, by rw [List.length_map]; omega, fun ys p pm hp => ?_⟩
  have yl : ys.length = tabL.length := by rw [pm.length_eq, List.length_map]
  refine ⟨a, p, ys.map V.str, rfl, S1.new hp, S1.ne hp, upd_same, ?_, by rw [List.length_map]; omega, fun v H2 hv k2 S2 => ?_⟩
  · intro z
    have := congrArg List.length z
    rw [List.length_map, List.length_nil] at this
    omega
  obtain ⟨z, hz, rfl⟩ := List.mem_map.mp hv
  obtain ⟨t, hm, rfl⟩ := List.mem_map.mp (pm.mem_iff.mp hz)
  have K12 : Keep a H1 H2 := ((Keep.refl a H1).new hp).trans k2
  have K02 := k1.trans K12
  obtain ⟨u, hg, hrow⟩ := (ht0.keep K02 hS0.lst).get hm
  have hG2 := K12 _ _ Ga hG1
  refine ⟨tyl hG2, ?_⟩
  refine ⟨_, hg, u, rfl, _, by rw [hrow]; rfl, _, at2, a, TB, t.2.2.2, TT r rn rs, rfl, S2, (h0.ltabs I hS0 hTB).keep K02, fun n H3 hn k3 S3 => ⟨szl (by decide : 2 ≤ 1000), fun q hq => ?_⟩⟩
  have K13 := K12.trans k3
  have hG3 := K13 _ _ Ga hG1
  have pG3 : Paired (fun r g => H3 r = some (.tup [.str g.1.1, .int (g.2 : Int)])) refs Gs := Paired.map' pG fun x g h => K13 _ _ (S1.off h fun _ z => by cases z) h
  have lr := Paired.length pG
  have ps := GRows.push (g := (t, n)) hG3 pG3 hq
  refine ⟨refs.map V.ref, by rw [upd_ne (ne_new hG3 hq)]; exact hG3, Nat.lt_of_le_of_lt (by rw [List.length_map]; omega : _ ≤ 1000) (by decide), k (t, n) _ _ ⟨hm, hn⟩ (fun y o ny e => ?_) ?_ ps⟩
  · have e4 := (K02.trans k3) y o ny e
    rw [upd_ne (ne_new e hG0), upd_ne (ne_new e4 hq)]
    exact e4
  · obtain ⟨x1, x2, x3, e⟩ := S3
    exact ⟨x1, x2, x3, by rw [upd_ne Ga.symm, upd_ne (ne_new e hq)]; exact e⟩
theorem givens_run {H0 : Hp} {TB G : Addr} (I : CodeT K mg CC) (h0 : Tabs CC a H0 O W N S r rn rs) (hS0 : Src H0 a) (ht0 : LawTab H0 d tabL) (hTB : H0 TB = some (.tup [.ref W, .ref N, .ref S])) (hG0 : H0 G = none)
    (k : ∀ Gs s6' s11' H', (∀ g ∈ Gs, GOk (TT r rn rs) g) → Gs ≠ [] → Gs.length ≤ 30 → Keep a H0 H' → Src H' a → GRows H' G Gs → D.nx [s0, some (.ref d), s2, some (.ref a), some (.ref O), some (.ref W), s6', some (.ref N), some (.ref S), some (.ref TB), some (.ref G), s11', s12, s13, s14, s15, s16, s17, s18] H') :
    t_givens K CC D [s0, some (.ref d), s2, some (.ref a), some (.ref O), some (.ref W), s6, some (.ref N), some (.ref S), some (.ref TB), some (.ref G), s11, s12, s13, s14, s15, s16, s17, s18] (L2.upd H0 G (.lst [])) := by
  unfold t_givens
  simp only [r_seq, r_next, r_brk, r_cont, r_asg, r_name, r_ret, r_retN, r_drop, r_ifs, r_never, r_var, r_c, r_op, r_un, r_if, r_tst, r_b, r_not, r_and, r_or, r_andV, r_orV, r_notV, r_nil, r_cons, r_tup, r_lst, r_cb, r_call, r_bm, r_bm0, r_sl, r_nopart, r_part, r_rev, r_gnil, r_gcons, r_gsub, r_par, r_aug, r_chain, r_I0, r_I, r_U, r_ixd, r_lend, r_tupd, r_listd, r_sld, r_app, r_ext, r_reverse, r_setl, r_cat, r_int1, r_eqS, r_neS, scal_ii, scal_bb, scal_ss, at0, at1, at2, sq_lst, sq_tup, isLst_lst, List.getElem?_cons_zero, List.getElem?_cons_succ, List.set_cons_zero, List.set_cons_succ, V.int.injEq, V.bl.injEq, V.ref.injEq, V.str.injEq, HO.lst.injEq, HO.tup.injEq, Option.some.injEq, exists_eq_left', exists_eq_left, List.cons.injEq, and_true, true_and, decide_eq_true_eq, reduceCtorEq, false_and, exists_false, or_false, false_or, exists_const, and_assoc, exists_and_left, List.append_nil, ix0, ix1, ix2, cm_mod, cdw1009, cdw2003, cdw7, cdw64, cdw2, cm104729, cm2, cm3, upd_same, List.length_cons, List.length_nil, Int.reduceLT, Int.reduceLE, Nat.reduceAdd, Nat.reduceLeDiff, Nat.reduceLT, Int.reduceToNat, r_for1, r_forL, r_forT, r_lcL, r_lc1, r_yes, r_gtupD, wipe_0, wipe_1, List.cons_append, List.nil_append, r_forS, r_ipI, ite_false, ite_true, Bool.not_true, Bool.not_false, decide_true, decide_false, r_isd, r_islt, cD_ty, cD_ref, tD_non, tD_bl, tD_int, tD_str, tD_ref, tH_lst, tH_tup, tH_dK, tH_ins, ki_self, ki_int_bool, ki_non_int, ki_str_int, ki_lt_lst, ki_lt_tup, r_fld, r_sfld, HO.ins.injEq, cx_K]
  have Ga : G ≠ a := fun z => by
    obtain ⟨xs, q⟩ := hS0.lst
    rw [z, q] at hG0
    cases hG0
  refine ⟨a, 30, rfl, hS0.new hG0, by decide, by decide, fun n H1 b1 b2 k1 S1 => ?_⟩
  have hG1 : H1 G = some (.lst []) := k1 _ _ Ga upd_same
  have K1 : Keep a H0 H1 := ((Keep.refl a H0).new hG0).trans k1
  refine ⟨n, rfl, by omega, by omega, ?_⟩
  refine lp_rng (tb := t_given K CC) (n := (1 + n).toNat) (fun i σ H' => (∃ v6 v11, σ = [s0, some (.ref d), s2, some (.ref a), some (.ref O), some (.ref W), v6, some (.ref N), some (.ref S), some (.ref TB), some (.ref G), v11, s12, s13, s14, s15, s16, s17, s18]) ∧ ∃ Gs, Gs.length = i ∧ (∀ g ∈ Gs, GOk (TT r rn rs) g) ∧ Keep a H0 H' ∧ Src H' a ∧ GRows H' G Gs) ⟨⟨_, _, rfl⟩, [], rfl, (fun g (h : g ∈ []) => nomatch h), K1, S1, [], hG1, .nil⟩ ?_ ?_
  · rintro i σ H2 hi ⟨⟨v6, v11, rfl⟩, Gs, hl, hg, k2, S2, hG2⟩
    show t_given K CC _ [s0, some (.ref d), s2, some (.ref a), some (.ref O), some (.ref W), some (.int (i : Int)), some (.ref N), some (.ref S), some (.ref TB), some (.ref G), v11, s12, s13, s14, s15, s16, s17, s18] H2
    refine given_run (s6' := some (.int (i : Int))) I h0 hS0 ht0 hTB hG0 k2 S2 hG2 (by omega) fun g s11' H3 gok k3 S3 hG3 => ?_
    refine ⟨⟨_, _, rfl⟩, Gs ++ [g], by rw [List.length_append, hl]; rfl, fun x hx => ?_, k3, S3, hG3⟩
    rcases List.mem_append.mp hx with hx | hx
    · exact hg x hx
    · rw [List.mem_singleton.mp hx]
      exact gok
  · rintro σ H2 ⟨⟨v6, v11, rfl⟩, Gs, hl, hg, k2, S2, hG2⟩
    exact k Gs _ _ H2 hg (fun z => by rw [z] at hl; simp at hl; omega) (by omega) k2 S2 hG2
end
end C57

set_option maxHeartbeats 2000000
namespace C57
open PySem PySem.Spec PyProof.Rows L2 StrLaws
/-! ### facts for the end -/
theorem mean_some {T : Tb} {g : Gv} (h : GOk T g) (e : Nat) : ∃ t, meanF T g.1.1 g.2 e = some t := by
  obtain ⟨hm, g1, g2, g3, g4, g5, g6, g7, g8⟩ := h
  have kf := kiF_of hm
  unfold meanF
  by_cases k0 : kiF g.1.1 = 0
  · rw [if_pos k0]
    exact ⟨_, rfl⟩
  by_cases k1 : kiF g.1.1 = 1
  · rw [if_neg k0, if_pos k1]
    exact ⟨_, rfl⟩
  rw [if_neg k0, if_neg k1]
  by_cases c1 : g.1.2.2.2 = "c"
  · rw [kf.c c1]
    exact ⟨_, List.getElem?_eq_getElem (g1 c1)⟩
  by_cases c2 : g.1.2.2.2 = "n"
  · rw [kf.n c2]
    exact ⟨_, List.getElem?_eq_getElem (g2 c2)⟩
  by_cases c3 : g.1.2.2.2 = "m"
  · have lt := g3 c3
    have et : T.ns[g.2 / 2]? = some T.ns[g.2 / 2] := List.getElem?_eq_getElem lt
    have all : ∀ f : Str → Str, ∃ t, mAttr f T g.2 = some t := fun f => by
      unfold mAttr
      rw [et]
      exact ⟨_, rfl⟩
    rcases kf.m c3 with ⟨kz, _⟩ | ⟨kz, _⟩
    · rw [kz]
      exact all sufA
    · rw [kz]
      exact all sufG
  by_cases c4 : g.1.2.2.2 = "l"
  · rw [kf.l c4]
    exact ⟨_, List.getElem?_eq_getElem (g4 c4)⟩
  by_cases c5 : g.1.2.2.2 = "p"
  · obtain ⟨lt, lt2⟩ := g5 c5
    rw [kf.p c5]
    show ∃ t, mPair T g.2 = some t
    unfold mPair
    rw [List.getElem?_eq_getElem lt, List.getElem?_eq_getElem lt2]
    exact ⟨_, rfl⟩
  by_cases c6 : g.1.2.2.2 = "j"
  · exact absurd (kf.j c6) k1
  by_cases c7 : g.1.2.2.2 = "o"
  · rw [(kf.o c7).1]
    exact ⟨_, rfl⟩
  by_cases c8 : g.1.2.2.2 = "x"
  · rw [(kf.x c8).1]
    exact ⟨_, rfl⟩
  have := kf.k c1 c2 c3 c4 c5 c6 c7 c8 T g.2 none
  rw [if_neg k0, if_neg k1] at this
  exact ⟨_, this⟩
theorem lineAt_cb {Rs : List LR} (h : ∀ R ∈ Rs, GR R) : ∀ b i, lineAt Rs b = some i → CB i := by
  intro b i e
  unfold lineAt at e
  cases q : Rs.filter (inR b) with
  | nil =>
    rw [q] at e
    cases e
  | cons R l =>
    rw [q] at e
    have hR : R ∈ Rs := (List.mem_filter.mp (by rw [q]; exact List.mem_cons_self)).1
    exact (h R hR).2.2.2 i e
/-- a table of lines, and the rows of which it is -/
def LsOk (ls : List Nat) (Rs : List LR) : Prop := (∀ x ∈ ls, x < 256) ∧ ∃ us, TabU ls us ∧ ∀ b, b % 2 = 0 → lineOf us b = lineAt Rs b
theorem ls_none : LsOk [7] [] := ⟨by decide, [], .inr ⟨rfl, rfl⟩, fun b _ => by
  unfold lineOf
  rw [List.getD_nil]
  rfl⟩
theorem ls_some {Rs : List LR} (h : Chn 0 Rs) : LsOk (bytesL (joinL Rs) 3) Rs ∧ (bytesL (joinL Rs) 3).length ≤ 2000000 := by
  obtain ⟨es, e1, e2, e3, e4⟩ := lines_facts (line := 3) h ⟨by decide, by decide⟩
  have l := entsB_len e2
  rw [← e1]
  exact ⟨⟨entsB_b e2, _, .inl ⟨es, rfl, e3, e2, rfl⟩, e4⟩, by omega⟩
theorem LRows.keep {a F : Addr} {H H' : Hp} {Rs : List LR} (r : LRows H F Rs) (S : Src H a) (nF : F ≠ a) (k : Keep a H H') : LRows H' F Rs := by
  obtain ⟨refs, e, p⟩ := r
  exact ⟨refs, k _ _ nF e, Paired.map' p fun x R h => k _ _ (S.off h fun _ z => by cases z) h⟩
theorem GRows.keep {a F : Addr} {H H' : Hp} {Gs : List Gv} (r : GRows H F Gs) (S : Src H a) (nF : F ≠ a) (k : Keep a H H') : GRows H' F Gs := by
  obtain ⟨refs, e, p⟩ := r
  exact ⟨refs, k _ _ nF e, Paired.map' p fun x R h => k _ _ (S.off h fun _ z => by cases z) h⟩
theorem IRows.same {F : Addr} {H H' : Hp} {Rs : List IRow} (r : IRows H F Rs) (s : Same H H') : IRows H' F Rs := by
  obtain ⟨refs, e, p⟩ := r
  exact ⟨refs, s _ _ e, Paired.map' p fun x R h => ⟨h.1, s _ _ h.2⟩⟩
theorem Tabs.same {CC a O W N S : Addr} {H H' : Hp} {r rn rs : Nat} (h : Tabs CC a H O W N S r rn rs) (k : Same H H') : Tabs CC a H' O W N S r rn rs :=
  ⟨h.o.same k, h.w.same k, k _ _ h.n, k _ _ h.s, h.nW, h.nN, h.nS, h.rn, h.rs⟩
section
variable {K : PySem.W.Frag} {mg : Str → Option Value} {CC a d O W N S : Addr} {r rn rs : Nat} {D : Ends} {s0 s1 s2 s3 s4 s5 s6 s7 s8 s9 s10 s11 s12 s13 s14 s15 s16 s17 s18 : Option V}
theorem lines_run {H : Hp} (hS : Src H a) (k : ∀ L Rs H', Keep a H H' → Src H' a → L ≠ a → LRows H' L Rs → Rs.length ≤ 8 → Chn 0 Rs → D.nx [s0, s1, s2, some (.ref a), s4, s5, s6, s7, s8, s9, s10, s11, some (.ref L), s13, s14, s15, s16, s17, s18] H') :
    t_lines D [s0, s1, s2, some (.ref a), s4, s5, s6, s7, s8, s9, s10, s11, s12, s13, s14, s15, s16, s17, s18] H := by
  unfold t_lines
  simp only [r_seq, r_next, r_brk, r_cont, r_asg, r_name, r_ret, r_retN, r_drop, r_ifs, r_never, r_var, r_c, r_op, r_un, r_if, r_tst, r_b, r_not, r_and, r_or, r_andV, r_orV, r_notV, r_nil, r_cons, r_tup, r_lst, r_cb, r_call, r_bm, r_bm0, r_sl, r_nopart, r_part, r_rev, r_gnil, r_gcons, r_gsub, r_par, r_aug, r_chain, r_I0, r_I, r_U, r_ixd, r_lend, r_tupd, r_listd, r_sld, r_app, r_ext, r_reverse, r_setl, r_cat, r_int1, r_eqS, r_neS, scal_ii, scal_bb, scal_ss, at0, at1, at2, sq_lst, sq_tup, isLst_lst, List.getElem?_cons_zero, List.getElem?_cons_succ, List.set_cons_zero, List.set_cons_succ, V.int.injEq, V.bl.injEq, V.ref.injEq, V.str.injEq, HO.lst.injEq, HO.tup.injEq, Option.some.injEq, exists_eq_left', exists_eq_left, List.cons.injEq, and_true, true_and, decide_eq_true_eq, reduceCtorEq, false_and, exists_false, or_false, false_or, exists_const, and_assoc, exists_and_left, List.append_nil, ix0, ix1, ix2, cm_mod, cdw1009, cdw2003, cdw7, cdw64, cdw2, cm104729, cm2, cm3, upd_same, List.length_cons, List.length_nil, Int.reduceLT, Int.reduceLE, Nat.reduceAdd, Nat.reduceLeDiff, Nat.reduceLT, Int.reduceToNat, r_for1, r_forL, r_forT, r_lcL, r_lc1, r_yes, r_gtupD, wipe_0, wipe_1, List.cons_append, List.nil_append, r_forS, r_ipI, ite_false, ite_true, Bool.not_true, Bool.not_false, decide_true, decide_false, r_isd, r_islt, cD_ty, cD_ref, tD_non, tD_bl, tD_int, tD_str, tD_ref, tH_lst, tH_tup, tH_dK, tH_ins, ki_self, ki_int_bool, ki_non_int, ki_str_int, ki_lt_lst, ki_lt_tup, r_fld, r_sfld, HO.ins.injEq, cx_K]
  exact ⟨a, rfl, hS, fun F Rs H' hF Fa kk S' hR hl hc hb => k F Rs H' kk S' Fa hR hl hc⟩
theorem isn_run {H : Hp} (hS : Src H a) (k : ∀ (b : Bool) H', Keep a H H' → Src H' a → D.nx [s0, s1, s2, some (.ref a), s4, s5, s6, s7, s8, s9, s10, s11, s12, some (.bl b), s14, s15, s16, s17, s18] H') :
    t_isn D [s0, s1, s2, some (.ref a), s4, s5, s6, s7, s8, s9, s10, s11, s12, s13, s14, s15, s16, s17, s18] H := by
  unfold t_isn
  simp only [r_seq, r_next, r_brk, r_cont, r_asg, r_name, r_ret, r_retN, r_drop, r_ifs, r_never, r_var, r_c, r_op, r_un, r_if, r_tst, r_b, r_not, r_and, r_or, r_andV, r_orV, r_notV, r_nil, r_cons, r_tup, r_lst, r_cb, r_call, r_bm, r_bm0, r_sl, r_nopart, r_part, r_rev, r_gnil, r_gcons, r_gsub, r_par, r_aug, r_chain, r_I0, r_I, r_U, r_ixd, r_lend, r_tupd, r_listd, r_sld, r_app, r_ext, r_reverse, r_setl, r_cat, r_int1, r_eqS, r_neS, scal_ii, scal_bb, scal_ss, at0, at1, at2, sq_lst, sq_tup, isLst_lst, List.getElem?_cons_zero, List.getElem?_cons_succ, List.set_cons_zero, List.set_cons_succ, V.int.injEq, V.bl.injEq, V.ref.injEq, V.str.injEq, HO.lst.injEq, HO.tup.injEq, Option.some.injEq, exists_eq_left', exists_eq_left, List.cons.injEq, and_true, true_and, decide_eq_true_eq, reduceCtorEq, false_and, exists_false, or_false, false_or, exists_const, and_assoc, exists_and_left, List.append_nil, ix0, ix1, ix2, cm_mod, cdw1009, cdw2003, cdw7, cdw64, cdw2, cm104729, cm2, cm3, upd_same, List.length_cons, List.length_nil, Int.reduceLT, Int.reduceLE, Nat.reduceAdd, Nat.reduceLeDiff, Nat.reduceLT, Int.reduceToNat, r_for1, r_forL, r_forT, r_lcL, r_lc1, r_yes, r_gtupD, wipe_0, wipe_1, List.cons_append, List.nil_append, r_forS, r_ipI, ite_false, ite_true, Bool.not_true, Bool.not_false, decide_true, decide_false, r_isd, r_islt, cD_ty, cD_ref, tD_non, tD_bl, tD_int, tD_str, tD_ref, tH_lst, tH_tup, tH_dK, tH_ins, ki_self, ki_int_bool, ki_non_int, ki_str_int, ki_lt_lst, ki_lt_tup, r_fld, r_sfld, HO.ins.injEq, cx_K]
  exact ⟨a, 4, rfl, hS, by decide, by decide, fun n H' b1 b2 kk S' => ⟨rfl, k _ H' kk S'⟩⟩
end
end C57

set_option maxHeartbeats 2000000
namespace C57
open PySem PySem.Spec PyProof.Rows L2 StrLaws
/-- what stands behind the draws -/
structure Drawn (K : PySem.W.Frag) (CC a d O W N S TB G : Addr) (H : Hp) (r rn rs : Nat) (Gs : List Gv) : Prop where
  tabs : Tabs CC a H O W N S r rn rs
  lt : LTab K CC H TB W N S (TT r rn rs)
  lw : LawTab H d tabL
  gr : GRows H G Gs
  ok : ∀ g ∈ Gs, GOk (TT r rn rs) g
  ne : Gs ≠ []
  ln : Gs.length ≤ 30
theorem Drawn.same {K : PySem.W.Frag} {CC a d O W N S TB G : Addr} {H H' : Hp} {r rn rs : Nat} {Gs : List Gv} (h : Drawn K CC a d O W N S TB G H r rn rs Gs) (s : Same H H') : Drawn K CC a d O W N S TB G H' r rn rs Gs := by
  obtain ⟨h1, h2, h3, ⟨refs, h4, h5⟩, h6, h7, h8⟩ := h
  exact ⟨h1.same s, h2.same s, h3.same s, ⟨refs, s _ _ h4, Paired.map' h5 fun x g q => s _ _ q⟩, h6, h7, h8⟩
abbrev psOf (Gs : List Gv) : List Pk := Gs.map pkOf
def btOf (Gs : List Gv) : List Nat := ((psOf Gs).map Pk.bytes).flatten
theorem LRows.same' {F : Addr} {H H' : Hp} {Rs : List LR} (r : LRows H F Rs) (s : Same H H') : LRows H' F Rs := r.same s
section
variable {K : PySem.W.Frag} {mg : Str → Option Value} {CC a d O W N S TB G : Addr} {r rn rs : Nat} {Gs : List Gv} {D : Ends} {s0 s2 s4 s5 s6 s7 s8 s9 s10 s11 s12 s13 s14 s15 s16 s17 s18 : Option V}
theorem told_run {H : Hp} {L : Addr} {Rs : List LR} {b : Bool} (h : Drawn K CC a d O W N S TB G H r rn rs Gs) (hL : LRows H L Rs) (hl : Rs.length ≤ 8)
    (k : ∀ F2 Dt H', Same H H' → IRows H' F2 (rowsP (TT r rn rs) (lineAt (if b = true then [] else Rs)) (psOf Gs) 0) → H' Dt = some (.lst (vn (btOf Gs))) → D.nx [s0, some (.ref d), s2, some (.ref a), s4, s5, s6, s7, s8, some (.ref TB), some (.ref G), s11, some (.ref L), some (.bl b), some (.ref F2), some (.ref Dt), s16, s17, s18] H') :
    t_told K CC D [s0, some (.ref d), s2, some (.ref a), s4, s5, s6, s7, s8, some (.ref TB), some (.ref G), s11, some (.ref L), some (.bl b), s14, s15, s16, s17, s18] H := by
  unfold t_told
  have main : ∀ (F : Addr) (Rs' : List LR) (H1 : Hp), Same H H1 → LRows H1 F Rs' → Rs'.length ≤ 100 → Rs' = (if b = true then [] else Rs) → spTold K CC [.ref d, .ref G, .ref TB, .ref F] H1 (fun x H2 => ∃ a_1, x = V.ref a_1 ∧ ∃ xs, H2 a_1 = some (.tup xs) ∧ xs.length = 2 ∧ ∃ v r, xs = v :: r ∧ ∃ v1 r1, r = v1 :: r1 ∧ r1 = [] ∧
      D.nx [s0, some (.ref d), s2, some (.ref a), s4, s5, s6, s7, s8, some (.ref TB), some (.ref G), s11, some (.ref L), some (.bl b), some v, some v1, s16, s17, s18] H2) E0 := by
    intro F Rs' H1 s1 hF hlr er
    have h1 := h.same s1
    refine ⟨d, G, TB, W, N, S, F, Gs, TT r rn rs, Rs', rfl, h1.lw, h1.gr, h1.lt, tt_ok h1.tabs.w.1 h1.tabs.rn h1.tabs.rs, h1.ok, Nat.le_trans h1.ln (by decide), hF, hlr, fun p F2 Dt H' sm hp hF2 hD ne e1 e2 e3 => ?_⟩
    rw [er] at e2
    exact ⟨p, rfl, _, e1, rfl, _, _, rfl, _, _, rfl, rfl, k F2 Dt H' (fun y o e => sm y o (s1 y o e)) e2 e3⟩
  simp only [r_seq, r_next, r_brk, r_cont, r_asg, r_name, r_ret, r_retN, r_drop, r_ifs, r_never, r_var, r_c, r_op, r_un, r_if, r_tst, r_b, r_not, r_and, r_or, r_andV, r_orV, r_notV, r_nil, r_cons, r_tup, r_lst, r_cb, r_call, r_bm, r_bm0, r_sl, r_nopart, r_part, r_rev, r_gnil, r_gcons, r_gsub, r_par, r_aug, r_chain, r_I0, r_I, r_U, r_ixd, r_lend, r_tupd, r_listd, r_sld, r_app, r_ext, r_reverse, r_setl, r_cat, r_int1, r_eqS, r_neS, scal_ii, scal_bb, scal_ss, at0, at1, at2, sq_lst, sq_tup, isLst_lst, List.getElem?_cons_zero, List.getElem?_cons_succ, List.set_cons_zero, List.set_cons_succ, V.int.injEq, V.bl.injEq, V.ref.injEq, V.str.injEq, HO.lst.injEq, HO.tup.injEq, Option.some.injEq, exists_eq_left', exists_eq_left, List.cons.injEq, and_true, true_and, decide_eq_true_eq, reduceCtorEq, false_and, exists_false, or_false, false_or, exists_const, and_assoc, exists_and_left, List.append_nil, ix0, ix1, ix2, cm_mod, cdw1009, cdw2003, cdw7, cdw64, cdw2, cm104729, cm2, cm3, upd_same, List.length_cons, List.length_nil, Int.reduceLT, Int.reduceLE, Nat.reduceAdd, Nat.reduceLeDiff, Nat.reduceLT, Int.reduceToNat, r_for1, r_forL, r_forT, r_lcL, r_lc1, r_yes, r_gtupD, wipe_0, wipe_1, List.cons_append, List.nil_append, r_forS, r_ipI, ite_false, ite_true, Bool.not_true, Bool.not_false, decide_true, decide_false, r_isd, r_islt, cD_ty, cD_ref, tD_non, tD_bl, tD_int, tD_str, tD_ref, tH_lst, tH_tup, tH_dK, tH_ins, ki_self, ki_int_bool, ki_non_int, ki_str_int, ki_lt_lst, ki_lt_tup, r_fld, r_sfld, HO.ins.injEq, cx_K]
  cases b with
  | true =>
    rw [if_pos rfl]
    refine ⟨Nat.zero_le _, fun e he => ?_⟩
    exact main e [] _ (Same.new' (Same.refl H) he) ⟨[], upd_same, .nil⟩ (Nat.zero_le _) rfl
  | false =>
    rw [if_neg (by decide)]
    exact main L Rs H (Same.refl H) hL (by omega) rfl
theorem spans_run {H : Hp} {L : Addr} {Rs : List LR} {b : Bool} (hL : LRows H L Rs) (hl : Rs.length ≤ 8) (hc : Chn 0 Rs)
    (k : ∀ SP ls H', Same H H' → H' SP = some (.lst (vn ls)) → LsOk ls (if b = true then [] else Rs) → D.nx [s0, some (.ref d), s2, some (.ref a), s4, s5, s6, s7, s8, s9, s10, s11, some (.ref L), some (.bl b), s14, s15, some (.ref SP), s17, s18] H') :
    t_spans D [s0, some (.ref d), s2, some (.ref a), s4, s5, s6, s7, s8, s9, s10, s11, some (.ref L), some (.bl b), s14, s15, s16, s17, s18] H := by
  unfold t_spans
  simp only [r_seq, r_next, r_brk, r_cont, r_asg, r_name, r_ret, r_retN, r_drop, r_ifs, r_never, r_var, r_c, r_op, r_un, r_if, r_tst, r_b, r_not, r_and, r_or, r_andV, r_orV, r_notV, r_nil, r_cons, r_tup, r_lst, r_cb, r_call, r_bm, r_bm0, r_sl, r_nopart, r_part, r_rev, r_gnil, r_gcons, r_gsub, r_par, r_aug, r_chain, r_I0, r_I, r_U, r_ixd, r_lend, r_tupd, r_listd, r_sld, r_app, r_ext, r_reverse, r_setl, r_cat, r_int1, r_eqS, r_neS, scal_ii, scal_bb, scal_ss, at0, at1, at2, sq_lst, sq_tup, isLst_lst, List.getElem?_cons_zero, List.getElem?_cons_succ, List.set_cons_zero, List.set_cons_succ, V.int.injEq, V.bl.injEq, V.ref.injEq, V.str.injEq, HO.lst.injEq, HO.tup.injEq, Option.some.injEq, exists_eq_left', exists_eq_left, List.cons.injEq, and_true, true_and, decide_eq_true_eq, reduceCtorEq, false_and, exists_false, or_false, false_or, exists_const, and_assoc, exists_and_left, List.append_nil, ix0, ix1, ix2, cm_mod, cdw1009, cdw2003, cdw7, cdw64, cdw2, cm104729, cm2, cm3, upd_same, List.length_cons, List.length_nil, Int.reduceLT, Int.reduceLE, Nat.reduceAdd, Nat.reduceLeDiff, Nat.reduceLT, Int.reduceToNat, r_for1, r_forL, r_forT, r_lcL, r_lc1, r_yes, r_gtupD, wipe_0, wipe_1, List.cons_append, List.nil_append, r_forS, r_ipI, ite_false, ite_true, Bool.not_true, Bool.not_false, decide_true, decide_false, r_isd, r_islt, cD_ty, cD_ref, tD_non, tD_bl, tD_int, tD_str, tD_ref, tH_lst, tH_tup, tH_dK, tH_ins, ki_self, ki_int_bool, ki_non_int, ki_str_int, ki_lt_lst, ki_lt_tup, r_fld, r_sfld, HO.ins.injEq, cx_K]
  cases b with
  | true =>
    rw [if_pos rfl]
    exact ⟨szl (by decide : 1 ≤ 1000), fun p hp => k p [7] _ (Same.new' (Same.refl H) hp) upd_same ls_none⟩
  | false =>
    rw [if_neg (by decide)]
    obtain ⟨h1, h2⟩ := ls_some hc
    exact ⟨L, Rs, 3, rfl, hL, by omega, fun R hR => ((chn_join hc).1.all R hR).lok, by decide, by decide, h2, fun p H' hp s1 h3 => k p _ H' s1 h3 h1⟩
theorem rep32 (n : Nat) : (List.replicate n [V.int 32]).flatten = vn (List.replicate n 32) := by
  rw [rep_flat]
  unfold vn
  rw [List.map_replicate]
  rfl
def XMade (Gs : List Gv) (ls : List Nat) (t1 O t2 : Addr) (r rn rs : Nat) : Fld := ⟨0, 0, 1, 0, 3, "f", "f", btOf Gs, List.replicate (slotsT rs).length 32, ls, [1], waresV t1 O t2 r, esW r, namesT rn, slotsT rs⟩
theorem bt_lt {T : Tb} {Gs : List Gv} (h : ∀ g ∈ Gs, GOk T g) : ∀ x ∈ btOf Gs, x < 256 := flat_b fun p hp => by
  obtain ⟨g, hg, rfl⟩ := List.mem_map.mp hp
  exact (h g hg).pk
theorem made_run {H : Hp} {Dt SP : Addr} {ls : List Nat} (h : Drawn K CC a d O W N S TB G H r rn rs Gs) (hD : H Dt = some (.lst (vn (btOf Gs)))) (hS : H SP = some (.lst (vn ls))) (hls : ∀ x ∈ ls, x < 256)
    (k : ∀ c t1 t2 H', Same H H' → CodeX CC H' c (XMade Gs ls t1 O t2 r rn rs) → H' W = some (.lst (waresV t1 O t2 r)) → D.nx [s0, some (.ref d), s2, some (.ref a), s4, some (.ref W), s6, some (.ref N), some (.ref S), s9, s10, s11, s12, s13, s14, some (.ref Dt), some (.ref SP), some (.ref c), s18] H') :
    t_made CC D [s0, some (.ref d), s2, some (.ref a), s4, some (.ref W), s6, some (.ref N), some (.ref S), s9, s10, s11, s12, s13, s14, some (.ref Dt), some (.ref SP), s17, s18] H := by
  obtain ⟨hr3, t0, t1, t2, w1, w2, w3, w4⟩ := h.tabs.w
  have hs := h.tabs.s
  have l3 := (tt_len r rn rs).2.2
  have l3' : (slotsT rs).length ≤ 403 := by
    have := h.tabs.rs
    show (TT r rn rs).ss.length ≤ 403
    omega
  unfold t_made
  simp only [r_seq, r_next, r_brk, r_cont, r_asg, r_name, r_ret, r_retN, r_drop, r_ifs, r_never, r_var, r_c, r_op, r_un, r_if, r_tst, r_b, r_not, r_and, r_or, r_andV, r_orV, r_notV, r_nil, r_cons, r_tup, r_lst, r_cb, r_call, r_bm, r_bm0, r_sl, r_nopart, r_part, r_rev, r_gnil, r_gcons, r_gsub, r_par, r_aug, r_chain, r_I0, r_I, r_U, r_ixd, r_lend, r_tupd, r_listd, r_sld, r_app, r_ext, r_reverse, r_setl, r_cat, r_int1, r_eqS, r_neS, scal_ii, scal_bb, scal_ss, at0, at1, at2, sq_lst, sq_tup, isLst_lst, List.getElem?_cons_zero, List.getElem?_cons_succ, List.set_cons_zero, List.set_cons_succ, V.int.injEq, V.bl.injEq, V.ref.injEq, V.str.injEq, HO.lst.injEq, HO.tup.injEq, Option.some.injEq, exists_eq_left', exists_eq_left, List.cons.injEq, and_true, true_and, decide_eq_true_eq, reduceCtorEq, false_and, exists_false, or_false, false_or, exists_const, and_assoc, exists_and_left, List.append_nil, ix0, ix1, ix2, cm_mod, cdw1009, cdw2003, cdw7, cdw64, cdw2, cm104729, cm2, cm3, upd_same, List.length_cons, List.length_nil, Int.reduceLT, Int.reduceLE, Nat.reduceAdd, Nat.reduceLeDiff, Nat.reduceLT, Int.reduceToNat, r_for1, r_forL, r_forT, r_lcL, r_lc1, r_yes, r_gtupD, wipe_0, wipe_1, List.cons_append, List.nil_append, r_forS, r_ipI, ite_false, ite_true, Bool.not_true, Bool.not_false, decide_true, decide_false, r_isd, r_islt, cD_ty, cD_ref, tD_non, tD_bl, tD_int, tD_str, tD_ref, tH_lst, tH_tup, tH_dK, tH_ins, ki_self, ki_int_bool, ki_non_int, ki_str_int, ki_lt_lst, ki_lt_tup, r_fld, r_sfld, HO.ins.injEq, cx_K, r_make, hs]
  refine ⟨szl (by decide : 1 ≤ 1000), fun p1 h1 => ?_⟩
  have c1 := Same.new' (o := .lst [.int 32]) (Same.refl H) h1
  have q1 : L2.upd H p1 (.lst [.int 32]) p1 = some (.lst [.int 32]) := upd_same
  generalize L2.upd H p1 (.lst [.int 32]) = G1 at *
  refine ⟨_, by rw [c1 _ _ hs]; rfl, p1, _, [V.int 32], rfl, rfl, q1, by rw [List.length_map]; omega, by rw [List.length_map]; omega, Nat.le_trans (by rw [Int.toNat_natCast, List.length_map, List.length_singleton]; omega : _ ≤ 1000) (by decide), fun p2 h2 => ?_⟩
  rw [Int.toNat_natCast, List.length_map, rep32]
  have c2 := Same.new' (o := .lst (vn (List.replicate (slotsT rs).length 32))) (Same.refl G1) h2
  have q2 : L2.upd G1 p2 (.lst (vn (List.replicate (slotsT rs).length 32))) p2 = some (.lst (vn (List.replicate (slotsT rs).length 32))) := upd_same
  generalize L2.upd G1 p2 (.lst (vn (List.replicate (slotsT rs).length 32))) = G2 at *
  refine ⟨szl (by decide : 1 ≤ 1000), fun p3 h3 => ?_⟩
  have c3 := Same.new' (o := .lst [.int 1]) (Same.refl G2) h3
  have q3 : L2.upd G2 p3 (.lst [.int 1]) p3 = some (.lst [.int 1]) := upd_same
  generalize L2.upd G2 p3 (.lst [.int 1]) = G3 at *
  intro x dx hx hd nd
  have ww : Same G3 (L2.upd (L2.upd G3 dx (.own x)) x (.ins CC dx [])) := fun b o e => by
    rw [upd_ne (ne_new e hx), upd_ne (ne_new e hd)]
    exact e
  have sH : Same H G3 := fun y o e => c3 y o (c2 y o (c1 y o e))
  have sW : Same H (L2.upd (L2.upd G3 dx (.own x)) x (.ins CC dx [])) := fun y o e => ww y o (sH y o e)
  have hW := h.same sW
  obtain ⟨_, u0, u1, u2, v1, v2, v3, v4⟩ := hW.tabs.w
  have ok : (XMade Gs ls u1 O u2 r rn rs).Ok := by
    have y0 : Num 0 := ⟨by decide, by decide⟩
    have y1 : Num 1 := ⟨by decide, by decide⟩
    have y3 : Num 3 := ⟨by decide, by decide⟩
    have g1 : ∀ n ∈ ([1] : List Nat), n < 256 := by decide
    refine ⟨y0, y0, y1, y0, y3, okS_b ok_f, okS_b ok_f, bt_lt h.ok, fun n hn => ?_, hls, g1, namesT_okS h.tabs.rn, slotsT_okS h.tabs.rs, List.length_replicate .., ?_⟩
    · rw [List.eq_of_mem_replicate hn]
      decide
    · show depF (esW r) ≤ 100
      rw [dep_w]
      decide
  refine ⟨x, dx, Dt, W, N, S, p2, SP, p3, XMade Gs ls u1 O u2 r rn rs, rfl, upd_same, ok, ⟨sW _ _ hD, v1, hW.tabs.n, hW.tabs.s, ww _ _ (c3 _ _ q2), sW _ _ hS, ww _ _ q3, wares_items hW.tabs.o v2 v3 v4⟩, fun H' kk cx => ⟨rfl, ?_⟩⟩
  have sF : Same H H' := fun y o e => kk y o (ne_new (sH y o e) hx) (sW y o e)
  refine k x u1 u2 H' sF cx (kk _ _ (ne_new (sH _ _ w1) hx) v1)
theorem waresV_inj {t1 t2 u1 u2 : Addr} (h : waresV t1 O t2 r = waresV u1 O u2 r) : t1 = u1 ∧ t2 = u2 := by
  unfold waresV at h
  have h5 := congrArg (fun l : List V => l[5]?) h
  have h8 := congrArg (fun l : List V => l[8]?) h
  simp at h5 h8
  exact ⟨h5, h8⟩
theorem codeG_of {H : Hp} {c t1 t2 : Addr} {ls : List Nat} (I : CodeT K mg CC) (h : Drawn K CC a d O W N S TB G H r rn rs Gs) (cx : CodeX CC H c (XMade Gs ls t1 O t2 r rn rs)) (hW : H W = some (.lst (waresV t1 O t2 r))) : CodeG K CC H c (btOf Gs) ls (TT r rn rs) := by
  obtain ⟨dx, fs, u, k, n, s, kd, t, g, m, h1, f0, f1, f2, f3, f4, f5, f6, f7, f8, f9, f10, f11, f12, f13, f14, f15, m1, m2, m3, m4, m5, m6, m7⟩ := cx.ex
  obtain ⟨_, u0, u1, u2, v1, v2, v3, v4⟩ := h.tabs.w
  have e : waresV t1 O t2 r = waresV u1 O u2 r := by
    rw [hW] at v1
    exact HO.lst.inj (Option.some.inj v1)
  obtain ⟨rfl, rfl⟩ := waresV_inj e
  exact ⟨⟨dx, fs, t, u, n, s, k, _, h1, f13, f12, m6, f4, m1, f7, m3, f8, m4, f6, m2, Paired.map' (wares_pair I h.tabs.o v2 v3 v4) fun v t q => q.1⟩, tt_ok h.tabs.w.1 h.tabs.rn h.tabs.rs⟩
theorem found_run {H : Hp} {c F2 : Addr} {ls : List Nat} {Rs' : List LR} (hg : CodeG K CC H c (btOf Gs) ls (TT r rn rs)) (hok : ∀ g ∈ Gs, GOk (TT r rn rs) g) (hne : Gs ≠ []) (hln : Gs.length ≤ 30) (hrn : rn ≤ 200) (hrs : rs ≤ 400) (hls : LsOk ls Rs') (hRs : ∀ R ∈ Rs', GR R)
    (hF : IRows H F2 (rowsP (TT r rn rs) (lineAt Rs') (psOf Gs) 0)) (k : ∀ s18 H', Same H H' → D.nx [s0, some (.ref d), s2, some (.ref a), s4, s5, s6, s7, s8, s9, s10, s11, s12, s13, some (.ref F2), s15, s16, some (.ref c), s18] H') :
    t_found K CC D [s0, some (.ref d), s2, some (.ref a), s4, s5, s6, s7, s8, s9, s10, s11, s12, s13, some (.ref F2), s15, s16, some (.ref c), s18] H := by
  obtain ⟨_, us, tu, eq⟩ := hls
  have okp : ∀ p ∈ psOf Gs, p.Ok := fun p hp => by
    obtain ⟨g, hg, rfl⟩ := List.mem_map.mp hp
    exact (hok g hg).pk
  have pl : (psOf Gs).length = Gs.length := List.length_map ..
  have bl : (btOf Gs).length ≤ 1200 := by
    have := flatB_len okp
    show ((psOf Gs).map Pk.bytes).flatten.length ≤ 1200
    omega
  have er : rowsP (TT r rn rs) (lineOf us) (psOf Gs) 0 = rowsP (TT r rn rs) (lineAt Rs') (psOf Gs) 0 := rowsP_eq eq okp rfl
  have rl := rowsP_len (TT r rn rs) (lineAt Rs') (psOf Gs) 0 okp
  have rok : ∀ R ∈ rowsP (TT r rn rs) (lineAt Rs') (psOf Gs) 0, RokR R := rowsP_ok (tt_c hrn hrs) (lineAt_cb hRs) hok (by omega)
  have sp : ∀ {H1 : Hp} {Q : VK}, Same H H1 → (∀ F H', H1 F = none → Same H1 H' → IRows H' F (rowsP (TT r rn rs) (lineAt Rs') (psOf Gs) 0) → Q (.ref F) H') → spInstrG K CC [.ref c] H1 Q E0 := fun {H1 Q} s1 q =>
    ⟨c, psOf Gs, ls, us, TT r rn rs, rfl, hg.same s1, fun z => hne (List.map_eq_nil_iff.mp z), okp, Nat.le_trans bl (by decide), by omega, tu, fun i hi _ => by
      have hi2 : i < Gs.length := by omega
      have e : (psOf Gs)[i] = pkOf Gs[i] := List.getElem_map ..
      rw [e]
      exact mean_some (hok _ (List.getElem_mem hi2)) _, fun F H' hF s h => q F H' hF s (by rw [← er]; exact h)⟩
  generalize rowsP (TT r rn rs) (lineAt Rs') (psOf Gs) 0 = RR at *
  unfold t_found
  simp only [r_seq, r_next, r_brk, r_cont, r_asg, r_name, r_ret, r_retN, r_drop, r_ifs, r_never, r_var, r_c, r_op, r_un, r_if, r_tst, r_b, r_not, r_and, r_or, r_andV, r_orV, r_notV, r_nil, r_cons, r_tup, r_lst, r_cb, r_call, r_bm, r_bm0, r_sl, r_nopart, r_part, r_rev, r_gnil, r_gcons, r_gsub, r_par, r_aug, r_chain, r_I0, r_I, r_U, r_ixd, r_lend, r_tupd, r_listd, r_sld, r_app, r_ext, r_reverse, r_setl, r_cat, r_int1, r_eqS, r_neS, scal_ii, scal_bb, scal_ss, at0, at1, at2, sq_lst, sq_tup, isLst_lst, List.getElem?_cons_zero, List.getElem?_cons_succ, List.set_cons_zero, List.set_cons_succ, V.int.injEq, V.bl.injEq, V.ref.injEq, V.str.injEq, HO.lst.injEq, HO.tup.injEq, Option.some.injEq, exists_eq_left', exists_eq_left, List.cons.injEq, and_true, true_and, decide_eq_true_eq, reduceCtorEq, false_and, exists_false, or_false, false_or, exists_const, and_assoc, exists_and_left, List.append_nil, ix0, ix1, ix2, cm_mod, cdw1009, cdw2003, cdw7, cdw64, cdw2, cm104729, cm2, cm3, upd_same, List.length_cons, List.length_nil, Int.reduceLT, Int.reduceLE, Nat.reduceAdd, Nat.reduceLeDiff, Nat.reduceLT, Int.reduceToNat, r_for1, r_forL, r_forT, r_lcL, r_lc1, r_yes, r_gtupD, wipe_0, wipe_1, List.cons_append, List.nil_append, r_forS, r_ipI, ite_false, ite_true, Bool.not_true, Bool.not_false, decide_true, decide_false, r_isd, r_islt, cD_ty, cD_ref, tD_non, tD_bl, tD_int, tD_str, tD_ref, tH_lst, tH_tup, tH_dK, tH_ins, ki_self, ki_int_bool, ki_non_int, ki_str_int, ki_lt_lst, ki_lt_tup, r_fld, r_sfld, HO.ins.injEq, cx_K]
  refine sp (Same.refl H) fun F H1 hF0 s1 hR1 => ?_
  simp only [r_seq, r_next, r_brk, r_cont, r_asg, r_name, r_ret, r_retN, r_drop, r_ifs, r_never, r_var, r_c, r_op, r_un, r_if, r_tst, r_b, r_not, r_and, r_or, r_andV, r_orV, r_notV, r_nil, r_cons, r_tup, r_lst, r_cb, r_call, r_bm, r_bm0, r_sl, r_nopart, r_part, r_rev, r_gnil, r_gcons, r_gsub, r_par, r_aug, r_chain, r_I0, r_I, r_U, r_ixd, r_lend, r_tupd, r_listd, r_sld, r_app, r_ext, r_reverse, r_setl, r_cat, r_int1, r_eqS, r_neS, scal_ii, scal_bb, scal_ss, at0, at1, at2, sq_lst, sq_tup, isLst_lst, List.getElem?_cons_zero, List.getElem?_cons_succ, List.set_cons_zero, List.set_cons_succ, V.int.injEq, V.bl.injEq, V.ref.injEq, V.str.injEq, HO.lst.injEq, HO.tup.injEq, Option.some.injEq, exists_eq_left', exists_eq_left, List.cons.injEq, and_true, true_and, decide_eq_true_eq, reduceCtorEq, false_and, exists_false, or_false, false_or, exists_const, and_assoc, exists_and_left, List.append_nil, ix0, ix1, ix2, cm_mod, cdw1009, cdw2003, cdw7, cdw64, cdw2, cm104729, cm2, cm3, upd_same, List.length_cons, List.length_nil, Int.reduceLT, Int.reduceLE, Nat.reduceAdd, Nat.reduceLeDiff, Nat.reduceLT, Int.reduceToNat, r_for1, r_forL, r_forT, r_lcL, r_lc1, r_yes, r_gtupD, wipe_0, wipe_1, List.cons_append, List.nil_append, r_forS, r_ipI, ite_false, ite_true, Bool.not_true, Bool.not_false, decide_true, decide_false, r_isd, r_islt, cD_ty, cD_ref, tD_non, tD_bl, tD_int, tD_str, tD_ref, tH_lst, tH_tup, tH_dK, tH_ins, ki_self, ki_int_bool, ki_non_int, ki_str_int, ki_lt_lst, ki_lt_tup, r_fld, r_sfld, HO.ins.injEq, cx_K]
  refine repr_irs hR1 rok (by omega) (repr_irs (hF.same s1) rok (by omega) ?_)
  refine ⟨rfl, ?_⟩
  rw [if_neg (by simp)]
  obtain ⟨refs, eF, pF⟩ := id hR1
  have lr := Paired.length pF
  refine ⟨tyl eF, _, eF, Nat.lt_of_le_of_lt (by rw [List.length_map]; omega : _ ≤ 1000) (by decide), ?_⟩
  have s2' : Same H (L2.upd H1 F (.lst (refs.map V.ref ++ [V.non]))) := fun y o e => by
    rw [upd_ne (ne_new e hF0)]
    exact s1 y o e
  refine ⟨.ref c, rfl, sp s2' fun F3 H3 hF3 s3 hR3 => ?_⟩
  have s4' : Same H H3 := fun y o e => s3 y o (s2' y o e)
  refine repr_irs hR3 rok (by omega) (repr_irs (hF.same s4') rok (by omega) ?_)
  refine ⟨rfl, ?_⟩
  rw [if_neg (by simp)]
  exact k _ H3 s4'
end
end C57

set_option maxHeartbeats 2000000
namespace C57
open PySem PySem.Spec PyProof.Rows L2
/-! ### a cell, and the whole law -/
theorem same_of {H0 H1 H2 : Hp} {a : Addr} (s : Same H0 H1) (n : H0 a = none) (k : Keep a H1 H2) : Same H0 H2 := fun y o e => k y o (ne_new e n) (s y o e)
section
variable {K : PySem.W.Frag} {mg : Str → Option Value} {CC d : Addr} {D : Ends} {s0 s3 s4 s5 s6 s7 s8 s9 s10 s11 s12 s13 s14 s15 s16 s17 s18 : Option V}
theorem cell_run {H : Hp} {n : Int} (I : CodeT K mg CC) (ht : LawTab H d tabL) (k : ∀ s3 s4 s5 s6 s7 s8 s9 s10 s11 s12 s13 s14 s15 s16 s17 s18 H', Same H H' → D.nx [s0, some (.ref d), some (.int n), s3, s4, s5, s6, s7, s8, s9, s10, s11, s12, s13, s14, s15, s16, s17, s18] H') :
    t_cell K CC D [s0, some (.ref d), some (.int n), s3, s4, s5, s6, s7, s8, s9, s10, s11, s12, s13, s14, s15, s16, s17, s18] H := by
  unfold t_cell
  refine ⟨.int n, rfl, n, rfl, fun a H1 ha s1 S1 => ?_⟩
  refine own_run fun O H2 s2 hO => ?_
  have S2 := S1.same s2
  have sH2 : Same H H2 := fun y o e => s2 y o (s1 y o e)
  refine wares_run S2 fun W r H3 k3 S3 W0 nW hW => ?_
  have O3 := hO.keep S2 k3
  refine names_run S3 fun N rn H4 hrn k4 S4 N0 nN hN => ?_
  have O4 := O3.keep S3 k4
  have W4 := hW.keep S3 nW k4
  refine slots_run S4 fun S rs H5 hrs k5 S5 S0 nS hS => ?_
  have T5 : Tabs CC a H5 O W N S r rn rs := ⟨O4.keep S4 k5, W4.keep S4 nW k5, k5 _ _ nN hN, hS, nW, nN, nS, hrn, hrs⟩
  have sH5 : Same H H5 := same_of sH2 ha ((k3.trans k4).trans k5)
  refine tabs_run S5 fun TB G H6 H7 s6 S6 hTB hG e7 => ?_
  subst e7
  have T6 := T5.same s6
  have sH6 : Same H H6 := fun y o e => s6 y o (sH5 y o e)
  refine givens_run I T6 S6 (ht.same sH6) hTB hG fun Gs s6' s11' H8 hok hne hln k8 S8 hGs => ?_
  have Ga : G ≠ a := fun z => by
    obtain ⟨xs, q⟩ := S6.lst
    rw [z, q] at hG
    cases hG
  refine lines_run S8 fun L Rs H9 k9 S9 nL hL hl hc => ?_
  refine isn_run S9 fun b H10 k10 S10 => ?_
  have K10 : Keep a H6 H10 := (k8.trans k9).trans k10
  have sH10 : Same H H10 := same_of sH6 ha K10
  obtain ⟨_, w', n', ss', lt⟩ := (T6.ltabs I S6 hTB).keep K10
  have lt10 := lt H10 (Keep.refl a H10)
  have hTB10 := K10 _ _ (S6.off hTB fun _ z => by cases z) hTB
  have DR : Drawn K CC a d O W N S TB G H10 r rn rs Gs := by
    refine ⟨T6.keep S6 K10, ?_, ht.same sH10, (hGs.keep S8 Ga k9).keep S9 Ga k10, hok, hne, hln⟩
    have e := lt10.tb
    rw [hTB10] at e
    cases e
    exact lt10
  have L10 := hL.keep S9 nL k10
  refine told_run DR L10 hl fun F2 Dt H11 s11 hF2 hDt => ?_
  refine spans_run (L10.same' s11) hl hc fun SP ls H12 s12 hSP hls => ?_
  have s1012 : Same H10 H12 := fun y o e => s12 y o (s11 y o e)
  have DR12 := DR.same s1012
  refine made_run DR12 (s12 _ _ hDt) hSP hls.1 fun c t1 t2 H13 s13 cx hW13 => ?_
  have DR13 := DR12.same s13
  have gr : ∀ R ∈ (if b = true then [] else Rs), GR R := fun R hR => by
    split at hR
    · cases hR
    · exact hc.all R hR
  refine found_run (codeG_of I DR13 cx hW13) hok hne hln hrn hrs hls gr ((hF2.same s12).same s13) fun s18 H14 s14 => ?_
  exact k _ _ _ _ _ _ _ _ _ _ _ _ _ _ _ _ H14 fun y o e => s14 y o (s13 y o (s1012 y o (sH10 y o e)))
theorem law_run {a : Addr} {H : Hp} {ns : List Int} (I : CodeT K mg CC) (hS : SqL K H a (ns.map V.int)) (hn : ns.length ≤ 1000) :
    t_law K CC { nx := fun _ H' => (fun v (_ : Hp) => v = V.bl true) .non H', rt := fun v _ => v = .bl true } (L2.start Nlaw [.ref a]) H := by
  have sqL_same : ∀ {H H' : Hp} {a : Addr} {xs : List V}, SqL K H a xs → Same H H' → SqL K H' a xs := fun h s => by
    rcases h with (h | ⟨o, h⟩) | h
    · exact .inl (.inl (s _ _ h))
    · exact .inl (.inr ⟨o, s _ _ h⟩)
    · exact .inr h
  unfold t_law
  refine ⟨rfl, fun d Hd hd sd ld => ?_⟩
  refine ⟨_, rfl, szl (by decide), fun p0 h0 => ⟨a, p0, _, _, rfl, rfl, sqL_same hS (fun y o e => Same.new' (Same.refl Hd) h0 y o (sd y o e)), upd_same, Nat.le_trans (by rw [List.length_map, List.length_singleton]; omega : _ ≤ 1001) (by decide), fun p1 h1 => ⟨5, rfl, p1, _, rfl, upd_same, fun p2 h2 => ⟨p2, rfl, ⟨_, SqL.of upd_same⟩, ?_⟩⟩⟩⟩
  have s1 := Same.new' (o := .lst [.int 0]) (Same.refl Hd) h0
  generalize L2.upd Hd p0 (.lst [.int 0]) = G1 at *
  have s2 := Same.new' (o := .lst (ns.map V.int ++ [.int 0])) (Same.refl G1) h1
  generalize L2.upd G1 p1 (.lst (ns.map V.int ++ [.int 0])) = G2 at *
  have isInt : ∀ x ∈ cutV (ns.map V.int ++ [.int 0]) none (some 5), ∃ n : Int, x = .int n := by
    intro x hx
    unfold cutV at hx
    have h := List.mem_of_mem_drop (List.mem_of_mem_take hx)
    rcases List.mem_append.mp h with h | h
    · obtain ⟨n, _, e⟩ := List.mem_map.mp h
      exact ⟨n, e.symm⟩
    · exact ⟨0, List.mem_singleton.mp h⟩
  generalize cutV (ns.map V.int ++ [.int 0]) none (some 5) = xs at *
  have s3 := Same.new' (o := .lst xs) (Same.refl G2) h2
  have q3 : L2.upd G2 p2 (.lst xs) p2 = some (.lst xs) := upd_same
  have l3 : LawTab (L2.upd G2 p2 (.lst xs)) d tabL := ((ld.same s1).same s2).same s3
  generalize L2.upd G2 p2 (.lst xs) = G3 at *
  refine lp_list (xs := xs) (fun i σ H' => (∃ v2 v3 v4 v5 v6 v7 v8 v9 v10 v11 v12 v13 v14 v15 v16 v17 v18, σ = [some (.ref a), some (.ref d), v2, v3, v4, v5, v6, v7, v8, v9, v10, v11, v12, v13, v14, v15, v16, v17, v18]) ∧ Same G3 H') ⟨⟨_, _, _, _, _, _, _, _, _, _, _, _, _, _, _, _, _, rfl⟩, Same.refl G3⟩ (fun i σ H' _ h => SqL.of (h.2 _ _ q3)) ?_ ?_
  · rintro i x σ H' hx ⟨⟨v2, v3, v4, v5, v6, v7, v8, v9, v10, v11, v12, v13, v14, v15, v16, v17, v18, rfl⟩, e⟩
    obtain ⟨n, rfl⟩ := isInt x (List.mem_of_getElem? hx)
    show t_cell K CC _ [some (.ref a), some (.ref d), some (.int n), v3, v4, v5, v6, v7, v8, v9, v10, v11, v12, v13, v14, v15, v16, v17, v18] H'
    refine cell_run I (l3.same e) fun w3 w4 w5 w6 w7 w8 w9 w10 w11 w12 w13 w14 w15 w16 w17 w18 H2 e2 => ?_
    exact ⟨⟨_, _, _, _, _, _, _, _, _, _, _, _, _, _, _, _, _, rfl⟩, fun y o q => e2 y o (e y o q)⟩
  · rintro σ H' ⟨_, e⟩
    exact rfl
end
/-- the law runs well -/
theorem law_runs {P : Program} {w : World} {K : PySem.W.Frag} {mg : Str → Option Value} {CC fa a : Addr} {cdv : Value} {s : Shared} {ns : List Int} {oc : Value} {od : Option Addr} {dV kV doc pm ct : Value} {an : Option Addr} {osl : Array (Option Value)}
    (L : ∀ base, LawT P w K mg base CC) (lk : K.lookup fa = some ⟨oc, od, .func (PySem.W.fnOf "law" "law" (defArgs slaw) (defBody slaw) (defScope slaw) dV kV doc pm an cdv ct), osl⟩) (hcd : PySem.W.codeIn K cdv "law" = true)
    (bind : ∀ (s : Shared) (v : Value), BindsTo s (PySem.W.fnOf "law" "law" (defArgs slaw) (defBody slaw) (defScope slaw) dV kV doc pm an cdv ct) ⟨[v], []⟩ [("_law_script", v)]) (hn : ns.length ≤ 1000) : RunsAt P w K mg [] fa a s ns := by
  intro base H KB nsB TB e0 hT hS
  refine LamX.run_ofS (N := Nlaw) (ps := ["_law_script"]) (us := [.ref a]) (vs := [.ref a]) lk hcd sclaw (k := 5) ⟨rfl, by decide, by decide⟩ e0 (bind s (.ref a)) (.cons rfl .nil) rfl fun hr => ?_
  refine ⟨_, (law_reads (L base) hr rfl).nox, ?_⟩
  exact law_run (L base).I hS hn
end C57

set_option maxHeartbeats 4000000
namespace C57
open PySem PySem.Spec PyProof.Rows L2
/-! ### the exception's __init__ -/
section
variable {P : Program} {w : World} {K : PySem.W.Frag} {mg : Str → Option Value} {base : Heap} {f : Addr} {fd : FuncData}
abbrev sNoCode_init : Stmt := inClass (top 2) 0
theorem scNoCode_init : FnScope ["self", "field"] ["self", "field"] (defScope sNoCode_init) := ⟨rfl, rfl, rfl, by decide +kernel, rfl, by decide +kernel, by decide +kernel⟩

theorem ok_NoCode_init {CN : Addr} (ox : OexC K CN) (no : PySem.W.findIn K (.ref CN) "field" = some none) (F : FnP K "__init__" "NoCode.__init__" sNoCode_init f fd) : FnOk P w K mg base CX0 1 f fd ["self", "field"] (spXInit CN "field") := by
  refine F.ok scNoCode_init (fun vs H Q E h => ?_) (fun cdv A outer s H vs Q E hr h => ?_)
  · obtain ⟨a, v, rfl, _⟩ := h
    rfl
  · obtain ⟨a, v, rfl, ha, k⟩ := h
    refine ⟨_, PSs.nox (pss_one (ps_ost (pv 0) (pv 1))), ?_⟩
    exact ⟨v, rfl, .ref a, rfl, a, CN, rfl, ox, no, .inl ⟨ha, fun d hd nd => k d hd nd⟩⟩
abbrev sNoTable_init : Stmt := inClass (top 3) 0
theorem scNoTable_init : FnScope ["self", "at"] ["self", "at"] (defScope sNoTable_init) := ⟨rfl, rfl, rfl, by decide +kernel, rfl, by decide +kernel, by decide +kernel⟩

theorem ok_NoTable_init {CN : Addr} (ox : OexC K CN) (no : PySem.W.findIn K (.ref CN) "at" = some none) (F : FnP K "__init__" "NoTable.__init__" sNoTable_init f fd) : FnOk P w K mg base CX0 1 f fd ["self", "at"] (spXInit CN "at") := by
  refine F.ok scNoTable_init (fun vs H Q E h => ?_) (fun cdv A outer s H vs Q E hr h => ?_)
  · obtain ⟨a, v, rfl, _⟩ := h
    rfl
  · obtain ⟨a, v, rfl, ha, k⟩ := h
    refine ⟨_, PSs.nox (pss_one (ps_ost (pv 0) (pv 1))), ?_⟩
    exact ⟨v, rfl, .ref a, rfl, a, CN, rfl, ox, no, .inl ⟨ha, fun d hd nd => k d hd nd⟩⟩
end
/-! ### what the head's facts say -/
theorem oexB_ok {K : PySem.W.Frag} {C : Addr} (h : oexB K C = true) : ∃ nm q N bs bm sn sub ab col dd k0 k1 k2 k3 k5, K.lookup C = some (excClassObj nm q C N bs bm true sn sub ab col dd k0 k1 k2 k3 k5 "ValueError.__new__") ∧ PySem.HandSPX.refsVE bm = true := by
  unfold oexB at h
  split at h
  · rename_i t dd cd sl e
    rw [Bool.and_eq_true] at h
    obtain ⟨ht, h⟩ := h
    split at h
    · rename_i D bm y0 y1 y2 y3 n y5 em es
      simp only [Bool.and_eq_true, decide_eq_true_eq, Bool.not_eq_true'] at h
      obtain ⟨h1, h2, h3, h4, h5⟩ := h
      have ht := of_decide_eq_true ht
      obtain ⟨nm, bs, mro, ns, qn, hd, sn, sub, ab, col, del⟩ := cd
      obtain ⟨l⟩ := sl
      dsimp only at em es h3 h4
      subst em es h1 h2 h3 h4 ht
      exact ⟨_, _, _, _, bm, _, _, _, _, _, _, _, _, _, _, e, h5⟩
    · cases h
  · cases h
theorem excB_ok {K : PySem.W.Frag} {D : Addr} (h : excB K D = true) : ExcC K D ∧ XfC K D ∧ PySem.W.typeIn K (.ref D) = some (.type "type") ∧ PySem.W.keepIn K (.ref D) = true ∧ PySem.W.findIn K (.ref D) "__setattr__" = some (some (.builtin "object.__setattr__")) := by
  unfold excB at h
  simp only [Bool.and_eq_true, decide_eq_true_eq] at h
  obtain ⟨h1, h2, h3, h4, h5, h6, h7, h8, h9, h10, h11⟩ := h
  exact ⟨⟨He.eqO_ok h1, He.eqO_ok h2, h3, h4, He.eqO_ok h5, He.eqO_ok h6, h7, h8⟩, ⟨He.eqO_ok h1, He.eqO_ok h2, h3, h4⟩, h9, h10, He.eqO_ok h11⟩
theorem tupIn_ok {K : PySem.W.Frag} {a : Addr} {us : List Value} {xs : List V} (h : tupIn K a = some us) (r : Vals xs us) (z : us.length ≤ 1000) (H : Hp) : SqT K H a xs := by
  unfold tupIn at h
  split at h
  · rename_i t dd its n sl e
    split at h
    · rename_i ht
      cases h
      exact .inr ⟨_, its, n, e, by rw [ht], rfl, Nat.le_trans (by simpa using z) (by decide), r⟩
    · cases h
  · cases h
theorem dicB_ok {K : PySem.W.Frag} {d : Addr} {f : List DictEntry → Bool} (h : dicB K d f = true) : ∃ es n, K.lookup d = some ⟨.type "dict", none, .dict es n, #[]⟩ ∧ f es.toList = true ∧ (d == sysModules) = false := by
  unfold dicB at h
  rw [Bool.and_eq_true] at h
  obtain ⟨h0, h⟩ := h
  split at h
  · rename_i c es n sl e
    simp only [Bool.and_eq_true, decide_eq_true_eq] at h
    obtain ⟨h1, h2, h3⟩ := h
    have es0 : sl = #[] := Array.eq_empty_of_size_eq_zero h2
    rw [h1, es0] at e
    exact ⟨es, n, e, h3, by simpa using h0⟩
  · cases h
theorem getI_cons {i : Int} {v : Value} {L : List (Int × Value)} {k : Int} : getI ((i, v) :: L) k = if i = k then some v else getI L k := by
  unfold getI
  rw [List.find?_cons]
  by_cases c : i = k
  · rw [if_pos c, decide_eq_true c]
    rfl
  · rw [if_neg c, decide_eq_false c]
theorem zip_ok {K : PySem.W.Frag} : ∀ {es : List DictEntry} {ps : List (Nat × Str × Nat)}, zipB K es ps = true → ∃ L, es.map keyI = L.map some ∧ ∀ n : Nat, (((ps.find? fun p => decide (p.1 = n)).map (·.2)) = none → getI L (n : Int) = none) ∧
    ∀ w u, ((ps.find? fun p => decide (p.1 = n)).map (·.2)) = some (w, u) → ∃ t, getI L (n : Int) = some (.ref t) ∧ ∀ H : Hp, SqT K H t [.str w, .int (u : Int)]
  | [], [], _ => ⟨[], rfl, fun n => ⟨fun _ => rfl, fun w u h => by cases h⟩⟩
  | [], _ :: _, h => by cases h
  | _ :: _, [], h => by cases h
  | e :: es, p :: ps, h => by
    have h2 : (entB K p e && zipB K es ps) = true := h
    rw [Bool.and_eq_true] at h2
    obtain ⟨h3, h4⟩ := h2
    obtain ⟨L, g1, g2⟩ := zip_ok h4
    unfold entB at h3
    split at h3
    · rename_i i tk t ek ev
      simp only [Bool.and_eq_true, decide_eq_true_eq] at h3
      obtain ⟨a1, a2, a3⟩ := h3
      split at a3
      · rename_i z tz u tu et
        simp only [Bool.and_eq_true, decide_eq_true_eq] at a3
        obtain ⟨a4, a5⟩ := a3
        have ky : keyI e = some (i, .ref t) := by
          unfold keyI
          rw [ek]
          dsimp only
          rw [if_pos a2, ev]
        refine ⟨(i, .ref t) :: L, by rw [List.map_cons, List.map_cons, g1, ky], fun n => ?_⟩
        rw [getI_cons, List.find?_cons]
        by_cases c : p.1 = n
        · rw [decide_eq_true c, if_pos (by rw [a1, c])]
          refine ⟨(fun q => by cases q), fun w' u' q => ?_⟩
          have q2 : p.2 = (w', u') := Option.some.inj q
          refine ⟨t, rfl, tupIn_ok et (.cons ⟨tz, ?_⟩ (.cons ⟨tu, ?_⟩ .nil)) (by show 2 ≤ 1000; omega)⟩
          · rw [a4, q2]
          · rw [a5, q2]
        · rw [decide_eq_false c, if_neg (fun q => c (by omega))]
          exact g2 n
      · cases a3
    · cases h3
theorem words_ok {K : PySem.W.Frag} {mg : Str → Option Value} {d : Addr} (h : dicB K d (fun es => zipB K es ZW) = true) (g : mg "WORDS" = some (.ref d)) : ∃ L, WordsT K mg d L wdF := by
  obtain ⟨es, n, e, h2, lo⟩ := dicB_ok h
  obtain ⟨L, g1, g2⟩ := zip_ok h2
  refine ⟨L, ⟨⟨es, n, e, g1⟩, lo⟩, g, fun n q => (g2 n).1 q, fun n w u q => ?_⟩
  have m := wdF_mem q
  have := List.all_eq_true.mp wd_fact _ m
  simp only [Bool.and_eq_true, decide_eq_true_eq] at this
  exact ⟨this.1.1, this.1.2, (g2 n).2 w u q⟩
theorem zipT_ok : ∀ {es : List DictEntry} {ps : List (Int × Str)}, zipT es ps = true → ∃ L, es.map keyI = L.map some ∧ ∀ k : Int, SaysT L k (lkT ps k)
  | [], [], _ => ⟨[], rfl, fun k => rfl⟩
  | [], _ :: _, h => by cases h
  | _ :: _, [], h => by cases h
  | e :: es, p :: ps, h => by
    have h2 : (entT p e && zipT es ps) = true := h
    rw [Bool.and_eq_true] at h2
    obtain ⟨h3, h4⟩ := h2
    obtain ⟨L, g1, g2⟩ := zipT_ok h4
    unfold entT at h3
    split at h3
    · rename_i i tk z tz ek ev
      simp only [Bool.and_eq_true, decide_eq_true_eq] at h3
      obtain ⟨a1, a2, a3⟩ := h3
      have ky : keyI e = some (i, .str z tz) := by
        unfold keyI
        rw [ek]
        dsimp only
        rw [if_pos a2, ev]
      refine ⟨(i, .str z tz) :: L, by rw [List.map_cons, List.map_cons, g1, ky], fun k => ?_⟩
      unfold lkT
      rw [List.find?_cons]
      by_cases c : p.1 = k
      · rw [decide_eq_true c]
        show ∃ t, getI _ k = some (.str p.2 t)
        rw [getI_cons, if_pos (by rw [a1, c]), a3]
        exact ⟨tz, rfl⟩
      · rw [decide_eq_false c]
        have := g2 k
        unfold lkT at this
        show SaysT _ k ((List.find? (fun p => decide (p.1 = k)) ps).map (·.2))
        cases q : (List.find? (fun p => decide (p.1 = k)) ps).map (·.2) with
        | none =>
          rw [q] at this
          show getI _ k = none
          rw [getI_cons, if_neg (fun z => c (by omega))]
          exact this
        | some y =>
          rw [q] at this
          show ∃ t, getI _ k = some (.str y t)
          rw [getI_cons, if_neg (fun z => c (by omega))]
          exact this
    · cases h3
theorem texts_ok {K : PySem.W.Frag} {mg : Str → Option Value} {x : Str} {d : Addr} {ps : List (Int × Str)} (h : dicB K d (fun es => zipT es ps) = true) (g : mg x = some (.ref d)) : ∃ L, TextsX K mg x d L ps := by
  obtain ⟨es, n, e, h2, lo⟩ := dicB_ok h
  obtain ⟨L, g1, g2⟩ := zipT_ok h2
  exact ⟨L, ⟨⟨es, n, e, g1⟩, lo⟩, g, g2⟩
/-! ### what tells a meaning, by its address -/
def SF (K : PySem.W.Frag) (CC : Addr) : Addr → Option Sp := fun f => ((List.range 11).find? fun i => He.ga K (fnNames.getD i "") == f).map fun i => spOfE K CC (mOf (i + 2))
theorem dist_ne : ∀ {l : List Addr}, distB l = true → ∀ {i j : Nat} {x y : Addr}, j < i → l[j]? = some x → l[i]? = some y → (x == y) = false
  | [], _, i, j, x, y, _, h, _ => by cases h
  | a :: r, h, 0, j, x, y, lt, _, _ => absurd lt (Nat.not_lt_zero _)
  | a :: r, h, i + 1, 0, x, y, _, hx, hy => by
    have h2 : ((r.all fun b => !(a == b)) && distB r) = true := h
    rw [Bool.and_eq_true] at h2
    cases hx
    have := List.all_eq_true.mp h2.1 y (List.mem_of_getElem? (show r[i]? = some y from hy))
    simpa using this
  | a :: r, h, i + 1, j + 1, x, y, lt, hx, hy => by
    have h2 : ((r.all fun b => !(a == b)) && distB r) = true := h
    rw [Bool.and_eq_true] at h2
    exact dist_ne h2.2 (Nat.lt_of_succ_lt_succ lt) hx hy
theorem SF_at {K : PySem.W.Frag} {CC : Addr} (h : distB (fnNames.map (He.ga K)) = true) {i : Nat} (hi : i < 11) : SF K CC (He.ga K (fnNames.getD i "")) = some (spOfE K CC (mOf (i + 2))) := by
  have e : (List.range 11).find? (fun j => He.ga K (fnNames.getD j "") == He.ga K (fnNames.getD i "")) = some i := by
    rw [List.find?_range_eq_some]
    refine ⟨by simp, by simpa using hi, fun j hj => ?_⟩
    have at' : ∀ k, k < 11 → (fnNames.map (He.ga K))[k]? = some (He.ga K (fnNames.getD k "")) := fun k hk => by
      have lk : fnNames[k]? = some (fnNames.getD k "") := by
        rw [List.getD_eq_getElem?_getD]
        have : k < fnNames.length := hk
        rw [List.getElem?_eq_getElem this]
        rfl
      rw [List.getElem?_map, lk]
      rfl
    show (!(He.ga K (fnNames.getD j "") == He.ga K (fnNames.getD i ""))) = true
    rw [dist_ne h hj (at' j (by omega)) (at' i hi)]
    rfl
  unfold SF
  rw [e]
  rfl
theorem SF_of {K : PySem.W.Frag} {CC f : Addr} {sp : Sp} (h : SF K CC f = some sp) : ∃ i, i < 11 ∧ f = He.ga K (fnNames.getD i "") ∧ sp = spOfE K CC (mOf (i + 2)) := by
  unfold SF at h
  cases e : (List.range 11).find? fun i => He.ga K (fnNames.getD i "") == f with
  | none => rw [e] at h; cases h
  | some i =>
    rw [e] at h
    rw [List.find?_range_eq_some] at e
    exact ⟨i, by simpa using e.2.1, (eq_of_beq e.1).symm, (Option.some.inj h).symm⟩
theorem zki_eq (z : Str) : zki z = kiF z := rfl
theorem ZW_eq : ZW = WDL := rfl
theorem zbk_eq (z : Str) : zbk z = bkB z := rfl
theorem kil_lt : KIL.all (fun p => decide (p.2 < 13)) = true := by decide +kernel
theorem klt (z : Str) : kiF z < 13 := by
  unfold kiF
  cases e : KIL.find? fun p => decide (p.1 = z) with
  | none => exact (by decide : 0 < 13)
  | some p => exact of_decide_eq_true (List.all_eq_true.mp kil_lt p (List.mem_of_find?_eq_some e))
theorem mean_ok {K : PySem.W.Frag} {w : World} {mg : Str → Option Value} {CC : Addr} (hg : exG K = true) (hd : distB (fnNames.map (He.ga K)) = true) (kL : ∃ es n, KDict K w (He.ga K "LEADING") es n) (kM : ∃ es n, KDict K w (He.ga K "MEANINGS") es n) (gL : mg "LEADING" = some (.ref (He.ga K "LEADING"))) (gM : mg "MEANINGS" = some (.ref (He.ga K "MEANINGS"))) :
    MeanX K w mg CC (He.ga K "LEADING") (He.ga K "MEANINGS") (SF K CC) := by
  unfold exG at hg
  simp only [Bool.and_eq_true] at hg
  obtain ⟨h1, h2, h3⟩ := hg
  rw [ZW_eq] at h1 h2
  have hl : ∀ z ∈ wordsL, leadB K (He.ga K "LEADING") z = true ∧ meanB K (He.ga K "MEANINGS") z = true := fun z hz => by
    obtain ⟨p, hp, rfl⟩ := List.mem_map.mp hz
    exact ⟨List.all_eq_true.mp h1 p hp, List.all_eq_true.mp h2 p hp⟩
  refine ⟨⟨kL, gL, fun z hz => ?_⟩, kM, gM, fun z hz h0 => ?_, fun z hz h2' => ?_⟩
  · have := (hl z hz).1
    unfold leadB at this
    split at this
    · rename_i r e
      refine ⟨r, e, ?_⟩
      rw [eq_of_beq this, zki_eq]
      rfl
    · cases this
  · have := (hl z hz).2
    unfold meanB at this
    rw [zki_eq, h0] at this
    split at this
    · rename_i e
      exact e
    · simp at this
    · cases this
  · have := (hl z hz).2
    have lt := klt z
    unfold meanB at this
    rw [zki_eq] at this
    split at this
    · have := of_decide_eq_true this
      omega
    · rename_i f e
      simp only [Bool.and_eq_true, beq_iff_eq] at this
      refine ⟨f, e, ?_⟩
      rw [this.2, SF_at hd (by omega), show kiF z - 2 + 2 = kiF z from by omega]
    · cases this
theorem back_ok {K : PySem.W.Frag} {w : World} {mg : Str → Option Value} (hg : exG K = true) (kB : ∃ es n, KDict K w (He.ga K "BACKWARD") es n) (gB : mg "BACKWARD" = some (.ref (He.ga K "BACKWARD"))) : SetX K w mg "BACKWARD" (He.ga K "BACKWARD") wordsL bkB := by
  unfold exG at hg
  simp only [Bool.and_eq_true] at hg
  obtain ⟨h1, h2, h3⟩ := hg
  rw [ZW_eq] at h3
  refine ⟨kB, gB, fun z hz => ?_⟩
  obtain ⟨p, hp, rfl⟩ := List.mem_map.mp hz
  have := List.all_eq_true.mp h3 p hp
  unfold backB at this
  split at this
  · rename_i r e
    exact ⟨r, e, by rw [eq_of_beq this]; rfl⟩
  · cases this
/-- promises for all tables are one promise -/
theorem FnG.ex {P : Program} {w : World} {K : PySem.W.Frag} {mg : Str → Option Value} {base : Heap} {CX : CXT} {k : Nat} {f : Addr} {fd : FuncData} {ps : List Str} {sp : Tb → Sp} (F : ∀ T, FnG P w K mg base CX k f fd ps (sp T)) : FnG P w K mg base CX k f fd ps (fun vs H Q E => ∃ T, sp T vs H Q E) :=
  ⟨fun vs H Q E ⟨T, h⟩ => (F T).len vs H Q E h, fun gd hr e b v ⟨T, h⟩ => (F T).run gd hr e b v h⟩
end C57

set_option maxHeartbeats 4000000
namespace C57
open PySem PySem.Spec PyProof.Rows L2
abbrev Pg : Program := PySem.Challenge.pw_codewalk_k57_instructions_told_as_dis_te
theorem k57_at {w : World} {mg : Str → Option Value} {fa : Addr} {h : Heap} (Y : hkk.says w h) (G : h.Ns mainGlobals mg) (hmg : mg "law" = some (.ref fa)) : ∃ (K : PySem.W.Frag) (cs : List (Addr × Addr)), K.In h ∧ (∀ p ∈ cs, h.get? p.2 = some { cls := .none, data := .fields #[] }) ∧
    (∀ p ∈ cs, K.lookup p.2 = none) ∧ (∀ p ∈ cs, PySem.W.CodeHd h p.1 p.2) ∧ ∀ (s : Shared) (a : Addr) (ns : List Int), ns.length ≤ 1000 → RunsAt Pg w K mg cs fa a s ns := by
  obtain ⟨K, X, c⟩ := Y
  have cd := c.t.d
  obtain ⟨fd_number_of, F_number_of⟩ := cd.def_ 0 (d := d_number_of) rfl
  obtain ⟨fd_bytes_of, F_bytes_of⟩ := cd.def_ 1 (d := d_bytes_of) rfl
  obtain ⟨fd_string_of, F_string_of⟩ := cd.def_ 2 (d := d_string_of) rfl
  obtain ⟨fd_strings_of, F_strings_of⟩ := cd.def_ 3 (d := d_strings_of) rfl
  obtain ⟨fd_is_string, F_is_string⟩ := cd.def_ 4 (d := d_is_string) rfl
  obtain ⟨fd_is_constant, F_is_constant⟩ := cd.def_ 5 (d := d_is_constant) rfl
  obtain ⟨fd_depth_of, F_depth_of⟩ := cd.def_ 6 (d := d_depth_of) rfl
  obtain ⟨fd_Code_init, F_Code_init⟩ := cd.def_ 7 (d := d_Code_init) rfl
  obtain ⟨fd_NoCode_init, F_NoCode_init⟩ := cd.def_ 8 (d := d_NoCode_init) rfl
  obtain ⟨fd_NoTable_init, F_NoTable_init⟩ := cd.def_ 9 (d := d_NoTable_init) rfl
  obtain ⟨fd_behind_extension, F_behind_extension⟩ := cd.def_ 10 (d := d_behind_extension) rfl
  obtain ⟨fd_cut, F_cut⟩ := cd.def_ 11 (d := d_cut) rfl
  obtain ⟨fd_signed_number, F_signed_number⟩ := cd.def_ 12 (d := d_signed_number) rfl
  obtain ⟨fd_lines_of_units, F_lines_of_units⟩ := cd.def_ 13 (d := d_lines_of_units) rfl
  obtain ⟨fd_lines_of, F_lines_of⟩ := cd.def_ 14 (d := d_lines_of) rfl
  obtain ⟨fd_of_constant, F_of_constant⟩ := cd.def_ 15 (d := d_of_constant) rfl
  obtain ⟨fd_of_name, F_of_name⟩ := cd.def_ 16 (d := d_of_name) rfl
  obtain ⟨fd_of_attribute, F_of_attribute⟩ := cd.def_ 17 (d := d_of_attribute) rfl
  obtain ⟨fd_of_global, F_of_global⟩ := cd.def_ 18 (d := d_of_global) rfl
  obtain ⟨fd_of_local, F_of_local⟩ := cd.def_ 19 (d := d_of_local) rfl
  obtain ⟨fd_of_locals, F_of_locals⟩ := cd.def_ 20 (d := d_of_locals) rfl
  obtain ⟨fd_of_operator, F_of_operator⟩ := cd.def_ 21 (d := d_of_operator) rfl
  obtain ⟨fd_of_comparison, F_of_comparison⟩ := cd.def_ 22 (d := d_of_comparison) rfl
  obtain ⟨fd_of_opposite, F_of_opposite⟩ := cd.def_ 23 (d := d_of_opposite) rfl
  obtain ⟨fd_of_intrinsic, F_of_intrinsic⟩ := cd.def_ 24 (d := d_of_intrinsic) rfl
  obtain ⟨fd_of_function_attribute, F_of_function_attribute⟩ := cd.def_ 25 (d := d_of_function_attribute) rfl
  obtain ⟨fd_target_of, F_target_of⟩ := cd.def_ 26 (d := d_target_of) rfl
  obtain ⟨fd_meaning_of, F_meaning_of⟩ := cd.def_ 27 (d := d_meaning_of) rfl
  obtain ⟨fd_instructions, F_instructions⟩ := cd.def_ 28 (d := d_instructions) rfl
  obtain ⟨fd_source_of, F_source_of⟩ := cd.def_ 29 (d := d_source_of) rfl
  obtain ⟨fd_next, F_next⟩ := cd.def_ 30 (d := d_next) rfl
  obtain ⟨fd_one, F_one⟩ := cd.def_ 31 (d := d_one) rfl
  obtain ⟨fd_table, F_table⟩ := cd.def_ 32 (d := d_table) rfl
  obtain ⟨fd_packed, F_packed⟩ := cd.def_ 33 (d := d_packed) rfl
  obtain ⟨fd_great, F_great⟩ := cd.def_ 34 (d := d_great) rfl
  obtain ⟨fd_pieces, F_pieces⟩ := cd.def_ 35 (d := d_pieces) rfl
  obtain ⟨fd_marked, F_marked⟩ := cd.def_ 36 (d := d_marked) rfl
  obtain ⟨fd_ljoined, F_ljoined⟩ := cd.def_ 37 (d := d_ljoined) rfl
  obtain ⟨fd_entry, F_entry⟩ := cd.def_ 38 (d := d_entry) rfl
  obtain ⟨fd_lline_bytes, F_lline_bytes⟩ := cd.def_ 39 (d := d_lline_bytes) rfl
  obtain ⟨fd_told_op, F_told_op⟩ := cd.def_ 40 (d := d_told_op) rfl
  obtain ⟨fd_told_num, F_told_num⟩ := cd.def_ 41 (d := d_told_num) rfl
  obtain ⟨fd_drawn, F_drawn⟩ := cd.def_ 42 (d := d_drawn) rfl
  obtain ⟨fd_lmean, F_lmean⟩ := cd.def_ 43 (d := d_lmean) rfl
  obtain ⟨fd_line_at, F_line_at⟩ := cd.def_ 44 (d := d_line_at) rfl
  obtain ⟨fd_told, F_told⟩ := cd.def_ 45 (d := d_told) rfl
  obtain ⟨fd_lines, F_lines⟩ := cd.def_ 46 (d := d_lines) rfl
  obtain ⟨fd_law, F_law⟩ := cd.def_ 47 (d := d_law) rfl
  have g_number_of := He.glo_ok X G (cd.fact 0 (f := .glo "number_of") rfl)
  have g_bytes_of := He.glo_ok X G (cd.fact 1 (f := .glo "bytes_of") rfl)
  have g_string_of := He.glo_ok X G (cd.fact 2 (f := .glo "string_of") rfl)
  have g_strings_of := He.glo_ok X G (cd.fact 3 (f := .glo "strings_of") rfl)
  have g_is_string := He.glo_ok X G (cd.fact 4 (f := .glo "is_string") rfl)
  have g_is_constant := He.glo_ok X G (cd.fact 5 (f := .glo "is_constant") rfl)
  have g_depth_of := He.glo_ok X G (cd.fact 6 (f := .glo "depth_of") rfl)
  have g_behind_extension := He.glo_ok X G (cd.fact 7 (f := .glo "behind_extension") rfl)
  have g_cut := He.glo_ok X G (cd.fact 8 (f := .glo "cut") rfl)
  have g_signed_number := He.glo_ok X G (cd.fact 9 (f := .glo "signed_number") rfl)
  have g_lines_of_units := He.glo_ok X G (cd.fact 10 (f := .glo "lines_of_units") rfl)
  have g_lines_of := He.glo_ok X G (cd.fact 11 (f := .glo "lines_of") rfl)
  have g_of_constant := He.glo_ok X G (cd.fact 12 (f := .glo "of_constant") rfl)
  have g_of_name := He.glo_ok X G (cd.fact 13 (f := .glo "of_name") rfl)
  have g_of_attribute := He.glo_ok X G (cd.fact 14 (f := .glo "of_attribute") rfl)
  have g_of_global := He.glo_ok X G (cd.fact 15 (f := .glo "of_global") rfl)
  have g_of_local := He.glo_ok X G (cd.fact 16 (f := .glo "of_local") rfl)
  have g_of_locals := He.glo_ok X G (cd.fact 17 (f := .glo "of_locals") rfl)
  have g_of_operator := He.glo_ok X G (cd.fact 18 (f := .glo "of_operator") rfl)
  have g_of_comparison := He.glo_ok X G (cd.fact 19 (f := .glo "of_comparison") rfl)
  have g_of_opposite := He.glo_ok X G (cd.fact 20 (f := .glo "of_opposite") rfl)
  have g_of_intrinsic := He.glo_ok X G (cd.fact 21 (f := .glo "of_intrinsic") rfl)
  have g_of_function_attribute := He.glo_ok X G (cd.fact 22 (f := .glo "of_function_attribute") rfl)
  have g_target_of := He.glo_ok X G (cd.fact 23 (f := .glo "target_of") rfl)
  have g_meaning_of := He.glo_ok X G (cd.fact 24 (f := .glo "meaning_of") rfl)
  have g_instructions := He.glo_ok X G (cd.fact 25 (f := .glo "instructions") rfl)
  have g_source_of := He.glo_ok X G (cd.fact 26 (f := .glo "_law_source_of") rfl)
  have g_next := He.glo_ok X G (cd.fact 27 (f := .glo "_law_next") rfl)
  have g_one := He.glo_ok X G (cd.fact 28 (f := .glo "_law_one") rfl)
  have g_table := He.glo_ok X G (cd.fact 29 (f := .glo "_law_table") rfl)
  have g_packed := He.glo_ok X G (cd.fact 30 (f := .glo "_law_packed") rfl)
  have g_great := He.glo_ok X G (cd.fact 31 (f := .glo "_law_great") rfl)
  have g_pieces := He.glo_ok X G (cd.fact 32 (f := .glo "_law_pieces") rfl)
  have g_marked := He.glo_ok X G (cd.fact 33 (f := .glo "_law_marked") rfl)
  have g_ljoined := He.glo_ok X G (cd.fact 34 (f := .glo "_law_joined") rfl)
  have g_entry := He.glo_ok X G (cd.fact 35 (f := .glo "_law_entry") rfl)
  have g_lline_bytes := He.glo_ok X G (cd.fact 36 (f := .glo "_law_line_bytes") rfl)
  have g_told_op := He.glo_ok X G (cd.fact 37 (f := .glo "_law_told_operator") rfl)
  have g_told_num := He.glo_ok X G (cd.fact 38 (f := .glo "_law_told_number") rfl)
  have g_drawn := He.glo_ok X G (cd.fact 39 (f := .glo "_law_drawn") rfl)
  have g_lmean := He.glo_ok X G (cd.fact 40 (f := .glo "_law_meaning") rfl)
  have g_line_at := He.glo_ok X G (cd.fact 41 (f := .glo "_law_line_at") rfl)
  have g_told := He.glo_ok X G (cd.fact 42 (f := .glo "_law_told") rfl)
  have g_lines := He.glo_ok X G (cd.fact 43 (f := .glo "_law_lines") rfl)
  have g_law := He.glo_ok X G (cd.fact 44 (f := .glo "law") rfl)
  have g_Code := He.glo_ok X G (cd.fact 45 (f := .glo "Code") rfl)
  have g_Known := He.glo_ok X G (cd.fact 46 (f := .glo "Known") rfl)
  have g_Mark := He.glo_ok X G (cd.fact 47 (f := .glo "Mark") rfl)
  have g_NoCode := He.glo_ok X G (cd.fact 48 (f := .glo "NoCode") rfl)
  have g_NoTable := He.glo_ok X G (cd.fact 49 (f := .glo "NoTable") rfl)
  have g_WORDS := He.glo_ok X G (cd.fact 50 (f := .glo "WORDS") rfl)
  have g_LEADING := He.glo_ok X G (cd.fact 51 (f := .glo "LEADING") rfl)
  have g_MEANINGS := He.glo_ok X G (cd.fact 52 (f := .glo "MEANINGS") rfl)
  have g_BACKWARD := He.glo_ok X G (cd.fact 53 (f := .glo "BACKWARD") rfl)
  have g_OPERATOR_SIGNS := He.glo_ok X G (cd.fact 54 (f := .glo "OPERATOR_SIGNS") rfl)
  have g_COMPARISON_SIGNS := He.glo_ok X G (cd.fact 55 (f := .glo "COMPARISON_SIGNS") rfl)
  have g_INTRINSICS := He.glo_ok X G (cd.fact 56 (f := .glo "INTRINSICS") rfl)
  have g_ATTRIBUTES := He.glo_ok X G (cd.fact 57 (f := .glo "ATTRIBUTES") rfl)
  have B_number_of : Binds K fd_number_of ["value", "field"] [] := F_number_of.bindsN fun _ _ _ _ _ _ us hl => match us, hl with | [_, _], _ => rfl
  have B_bytes_of : Binds K fd_bytes_of ["row", "field"] [] := F_bytes_of.bindsN fun _ _ _ _ _ _ us hl => match us, hl with | [_, _], _ => rfl
  have B_string_of : Binds K fd_string_of ["value", "field"] [] := F_string_of.bindsN fun _ _ _ _ _ _ us hl => match us, hl with | [_, _], _ => rfl
  have B_strings_of : Binds K fd_strings_of ["row", "field"] [] := F_strings_of.bindsN fun _ _ _ _ _ _ us hl => match us, hl with | [_, _], _ => rfl
  have B_is_string : Binds K fd_is_string ["value"] [] := F_is_string.bindsN fun _ _ _ _ _ _ us hl => match us, hl with | [_], _ => rfl
  have B_is_constant : Binds K fd_is_constant ["value"] [] := F_is_constant.bindsN fun _ _ _ _ _ _ us hl => match us, hl with | [_], _ => rfl
  have B_depth_of : Binds K fd_depth_of ["constants"] [] := F_depth_of.bindsN fun _ _ _ _ _ _ us hl => match us, hl with | [_], _ => rfl
  have B_Code_init : Binds K fd_Code_init ["self", "argcount", "onlycount", "stacksize", "flags", "code", "constants", "names", "slots", "kinds", "name", "path", "line", "lines", "handlers"] [] := F_Code_init.bindsN fun _ _ _ _ _ _ us hl => match us, hl with | [_, _, _, _, _, _, _, _, _, _, _, _, _, _, _], _ => rfl
  have B_NoCode_init : Binds K fd_NoCode_init ["self", "field"] [] := F_NoCode_init.bindsN fun _ _ _ _ _ _ us hl => match us, hl with | [_, _], _ => rfl
  have B_NoTable_init : Binds K fd_NoTable_init ["self", "at"] [] := F_NoTable_init.bindsN fun _ _ _ _ _ _ us hl => match us, hl with | [_, _], _ => rfl
  have B_behind_extension : Binds K fd_behind_extension ["data", "at"] [] := F_behind_extension.bindsN fun _ _ _ _ _ _ us hl => match us, hl with | [_, _], _ => rfl
  have B_cut : Binds K fd_cut ["data"] [] := F_cut.bindsN fun _ _ _ _ _ _ us hl => match us, hl with | [_], _ => rfl
  have B_signed_number : Binds K fd_signed_number ["table", "at"] [] := F_signed_number.bindsN fun _ _ _ _ _ _ us hl => match us, hl with | [_, _], _ => rfl
  have B_lines_of_units : Binds K fd_lines_of_units ["code"] [] := F_lines_of_units.bindsN fun _ _ _ _ _ _ us hl => match us, hl with | [_], _ => rfl
  have B_lines_of : Binds K fd_lines_of ["code"] [] := F_lines_of.bindsN fun _ _ _ _ _ _ us hl => match us, hl with | [_], _ => rfl
  have B_of_constant : Binds K fd_of_constant ["code", "argument"] [] := F_of_constant.bindsN fun _ _ _ _ _ _ us hl => match us, hl with | [_, _], _ => rfl
  have B_of_name : Binds K fd_of_name ["code", "argument"] [] := F_of_name.bindsN fun _ _ _ _ _ _ us hl => match us, hl with | [_, _], _ => rfl
  have B_of_attribute : Binds K fd_of_attribute ["code", "argument"] [] := F_of_attribute.bindsN fun _ _ _ _ _ _ us hl => match us, hl with | [_, _], _ => rfl
  have B_of_global : Binds K fd_of_global ["code", "argument"] [] := F_of_global.bindsN fun _ _ _ _ _ _ us hl => match us, hl with | [_, _], _ => rfl
  have B_of_local : Binds K fd_of_local ["code", "argument"] [] := F_of_local.bindsN fun _ _ _ _ _ _ us hl => match us, hl with | [_, _], _ => rfl
  have B_of_locals : Binds K fd_of_locals ["code", "argument"] [] := F_of_locals.bindsN fun _ _ _ _ _ _ us hl => match us, hl with | [_, _], _ => rfl
  have B_of_operator : Binds K fd_of_operator ["code", "argument"] [] := F_of_operator.bindsN fun _ _ _ _ _ _ us hl => match us, hl with | [_, _], _ => rfl
  have B_of_comparison : Binds K fd_of_comparison ["code", "argument"] [] := F_of_comparison.bindsN fun _ _ _ _ _ _ us hl => match us, hl with | [_, _], _ => rfl
  have B_of_opposite : Binds K fd_of_opposite ["code", "argument"] [] := F_of_opposite.bindsN fun _ _ _ _ _ _ us hl => match us, hl with | [_, _], _ => rfl
  have B_of_intrinsic : Binds K fd_of_intrinsic ["code", "argument"] [] := F_of_intrinsic.bindsN fun _ _ _ _ _ _ us hl => match us, hl with | [_, _], _ => rfl
  have B_of_function_attribute : Binds K fd_of_function_attribute ["code", "argument"] [] := F_of_function_attribute.bindsN fun _ _ _ _ _ _ us hl => match us, hl with | [_, _], _ => rfl
  have B_target_of : Binds K fd_target_of ["word", "argument", "end"] [] := F_target_of.bindsN fun _ _ _ _ _ _ us hl => match us, hl with | [_, _, _], _ => rfl
  have B_meaning_of : Binds K fd_meaning_of ["code", "word", "argument", "end"] [] := F_meaning_of.bindsN fun _ _ _ _ _ _ us hl => match us, hl with | [_, _, _, _], _ => rfl
  have B_instructions : Binds K fd_instructions ["code"] [] := F_instructions.bindsN fun _ _ _ _ _ _ us hl => match us, hl with | [_], _ => rfl
  have B_source_of : Binds K fd_source_of ["_law_cell"] [] := F_source_of.bindsN fun _ _ _ _ _ _ us hl => match us, hl with | [_], _ => rfl
  have B_next : Binds K fd_next ["_law_source", "_law_many"] [] := F_next.bindsN fun _ _ _ _ _ _ us hl => match us, hl with | [_, _], _ => rfl
  have B_one : Binds K fd_one ["_law_source", "_law_some"] [] := F_one.bindsN fun _ _ _ _ _ _ us hl => match us, hl with | [_, _], _ => rfl
  have B_table : Binds K fd_table [] [] := F_table.bindsN fun _ _ _ _ _ _ us hl => match us, hl with | [], _ => rfl
  have B_packed : Binds K fd_packed ["_law_table_here", "_law_word", "_law_number"] [] := F_packed.bindsN fun _ _ _ _ _ _ us hl => match us, hl with | [_, _, _], _ => rfl
  have B_great : Binds K fd_great ["_law_source"] [] := F_great.bindsN fun _ _ _ _ _ _ us hl => match us, hl with | [_], _ => rfl
  have B_pieces : Binds K fd_pieces ["_law_number"] [] := F_pieces.bindsN fun _ _ _ _ _ _ us hl => match us, hl with | [_], _ => rfl
  have B_marked : Binds K fd_marked ["_law_some"] [] := F_marked.bindsN fun _ _ _ _ _ _ us hl => match us, hl with | [_], _ => rfl
  have B_ljoined : Binds K fd_ljoined ["_law_some"] [] := F_ljoined.bindsN fun _ _ _ _ _ _ us hl => match us, hl with | [_], _ => rfl
  have B_entry : Binds K fd_entry ["_law_units", "_law_more"] [] := F_entry.bindsN fun _ _ _ _ _ _ us hl => match us, hl with | [_, _], _ => rfl
  have B_lline_bytes : Binds K fd_lline_bytes ["_law_some", "_law_line"] [] := F_lline_bytes.bindsN fun _ _ _ _ _ _ us hl => match us, hl with | [_, _], _ => rfl
  have B_told_op : Binds K fd_told_op ["_law_word", "_law_number"] [] := F_told_op.bindsN fun _ _ _ _ _ _ us hl => match us, hl with | [_, _], _ => rfl
  have B_told_num : Binds K fd_told_num ["_law_word", "_law_number"] [] := F_told_num.bindsN fun _ _ _ _ _ _ us hl => match us, hl with | [_, _], _ => rfl
  have B_drawn : Binds K fd_drawn ["_law_source", "_law_sort", "_law_tables"] [] := F_drawn.bindsN fun _ _ _ _ _ _ us hl => match us, hl with | [_, _, _], _ => rfl
  have B_lmean : Binds K fd_lmean ["_law_word", "_law_sort", "_law_number", "_law_tables", "_law_high"] [] := F_lmean.bindsN fun _ _ _ _ _ _ us hl => match us, hl with | [_, _, _, _, _], _ => rfl
  have B_line_at : Binds K fd_line_at ["_law_lines_here", "_law_at"] [] := F_line_at.bindsN fun _ _ _ _ _ _ us hl => match us, hl with | [_, _], _ => rfl
  have B_told : Binds K fd_told ["_law_table_here", "_law_given", "_law_tables", "_law_lines_here"] [] := F_told.bindsN fun _ _ _ _ _ _ us hl => match us, hl with | [_, _, _, _], _ => rfl
  have B_lines : Binds K fd_lines ["_law_source"] [] := F_lines.bindsN fun _ _ _ _ _ _ us hl => match us, hl with | [_], _ => rfl
  have B_law : Binds K fd_law ["_law_script"] [] := F_law.bindsN fun _ _ _ _ _ _ us hl => match us, hl with | [_], _ => rfl
  have T : Txt mg := ⟨He.free_ok X G (cd.fact 58 (f := .free "len") rfl), He.free_ok X G (cd.fact 59 (f := .free "int") rfl), He.free_ok X G (cd.fact 60 (f := .free "range") rfl), He.free_ok X G (cd.fact 61 (f := .free "tuple") rfl), He.free_ok X G (cd.fact 62 (f := .free "list") rfl), He.free_ok X G (cd.fact 63 (f := .free "isinstance") rfl), He.free_ok X G (cd.fact 64 (f := .free "bool") rfl), He.free_ok X G (cd.fact 65 (f := .free "str") rfl), He.free_ok X G (cd.fact 66 (f := .free "max") rfl), He.free_ok X G (cd.fact 67 (f := .free "reversed") rfl), He.free_ok X G (cd.fact 68 (f := .free "repr") rfl), He.int_ok X G (cd.fact 75 (f := .int "GREATEST" 2147483647) rfl), He.int_ok X G (cd.fact 76 (f := .int "DEEPEST" 100) rfl), He.int_ok X G (cd.fact 77 (f := .int "BARRED" 37) rfl), He.int_ok X G (cd.fact 78 (f := .int "BEGINS" 128) rfl), He.int_ok X G (cd.fact 79 (f := .int "GOES_ON" 64) rfl), He.free_ok X G (cd.fact 69 (f := .free "min") rfl), He.int_ok X G (cd.fact 80 (f := .int "WITH_LINE" 232) rfl), He.int_ok X G (cd.fact 81 (f := .int "WITHOUT_LINE" 248) rfl), He.int_ok X G (cd.fact 82 (f := .int "MOST_UNITS" 8) rfl), He.free_ok X G (cd.fact 70 (f := .free "enumerate") rfl), He.free_ok X G (cd.fact 71 (f := .free "any") rfl), He.free_ok X G (cd.fact 72 (f := .free "zip") rfl), He.free_ok X G (cd.fact 73 (f := .free "sum") rfl)⟩
  have T2 : Txt2 mg := ⟨He.int_ok X G (cd.fact 83 (f := .int "EXTENDED_ARG" 71) rfl), He.int_ok X G (cd.fact 84 (f := .int "MOST_EXTENDED" 3) rfl), He.int_ok X G (cd.fact 85 (f := .int "FIRST_WITH_ARGUMENT" 45) rfl), He.int_ok X G (cd.fact 86 (f := .int "TRUTH" 16) rfl)⟩
  have mo := c.more
  unfold exB exA exF exN at mo
  simp only [Bool.and_eq_true, decide_eq_true_eq] at mo
  obtain ⟨⟨mk, mm, m1, ⟨n1, n2, n3, n4, n5⟩, ⟨t1, t2, t3, t4, t5⟩, m8⟩, ⟨x1, x2, x3, x4, x5, x6⟩, xg⟩ := mo
  obtain ⟨eC, eF, eT, eK, eS⟩ := excB_ok n2
  obtain ⟨eC', eF', eT', eK', eS'⟩ := excB_ok t2
  unfold kitB at m1
  simp only [Bool.and_eq_true, decide_eq_true_eq] at m1
  obtain ⟨m11, m12, m13⟩ := m1
  unfold kitB at mk
  simp only [Bool.and_eq_true, decide_eq_true_eq] at mk
  obtain ⟨mk1, mk2, mk3⟩ := mk
  unfold mkpB at mm
  simp only [Bool.and_eq_true, decide_eq_true_eq] at mm
  obtain ⟨mm1, mm2, mm3⟩ := mm
  have PM : MkP K (He.ga K "Mark") := ⟨mm1, He.eqO_ok mm2, mm3⟩
  have IK : KnownT K mg (He.ga K "Known") := ⟨⟨He.cls_ok (cd.fact 88 (f := .cls "Known") rfl), He.eqO_ok mk1, eC.hn, eC.ht, mk2⟩, g_Known, of_decide_eq_true (List.all_eq_true.mp mk3 "list" (by decide))⟩
  have cls := He.cls_ok (cd.fact 87 (f := .cls "Code") rfl)
  have I : CodeT K mg (He.ga K "Code") := by
    refine ⟨⟨cls, He.eqO_ok m11, eC.hn, eC.ht, m12⟩, g_Code, fun t ht => of_decide_eq_true (List.all_eq_true.mp m13 t ht), fun f hf => ?_⟩
    simp only [List.mem_cons, List.not_mem_nil, or_false] at hf
    rcases hf with rfl | rfl | rfl | rfl | rfl | rfl | rfl | rfl | rfl | rfl | rfl | rfl | rfl | rfl | rfl | rfl
    · exact He.noat_ok (cd.fact 91 (f := .noat "Code" "argcount") rfl)
    · exact He.noat_ok (cd.fact 92 (f := .noat "Code" "onlycount") rfl)
    · exact He.noat_ok (cd.fact 93 (f := .noat "Code" "stacksize") rfl)
    · exact He.noat_ok (cd.fact 94 (f := .noat "Code" "flags") rfl)
    · exact He.noat_ok (cd.fact 95 (f := .noat "Code" "code") rfl)
    · exact He.noat_ok (cd.fact 96 (f := .noat "Code" "depth") rfl)
    · exact He.noat_ok (cd.fact 97 (f := .noat "Code" "constants") rfl)
    · exact He.noat_ok (cd.fact 98 (f := .noat "Code" "names") rfl)
    · exact He.noat_ok (cd.fact 99 (f := .noat "Code" "slots") rfl)
    · exact He.noat_ok (cd.fact 100 (f := .noat "Code" "kinds") rfl)
    · exact He.noat_ok (cd.fact 101 (f := .noat "Code" "name") rfl)
    · exact He.noat_ok (cd.fact 102 (f := .noat "Code" "path") rfl)
    · exact He.noat_ok (cd.fact 103 (f := .noat "Code" "line") rfl)
    · exact He.noat_ok (cd.fact 104 (f := .noat "Code" "lines") rfl)
    · exact He.noat_ok (cd.fact 105 (f := .noat "Code" "handlers") rfl)
    · exact He.noat_ok (cd.fact 106 (f := .noat "Code" "identity") rfl)
  have ox : OexC K (He.ga K "NoCode") := ⟨oexB_ok n1, eS, eC.hs, eT, eK⟩
  have oxT : OexC K (He.ga K "NoTable") := ⟨oexB_ok t1, eS', eC'.hs, eT', eK'⟩
  have emT := He.exm_ok (cd.fact 90 (f := .exm "NoTable" "NoTable" true) rfl)
  obtain ⟨en0, nn0, kn0⟩ := c.t.tab 0
  obtain ⟨en1, nn1, kn1⟩ := c.t.tab 1
  obtain ⟨en2, nn2, kn2⟩ := c.t.tab 2
  obtain ⟨LW, WT⟩ := words_ok x1 g_WORDS
  obtain ⟨LO, TO⟩ : ∃ L, TextsX K mg "OPERATOR_SIGNS" (He.ga K "OPERATOR_SIGNS") L OPL := texts_ok x2 g_OPERATOR_SIGNS
  obtain ⟨LC, TC⟩ : ∃ L, TextsX K mg "COMPARISON_SIGNS" (He.ga K "COMPARISON_SIGNS") L CML := texts_ok x3 g_COMPARISON_SIGNS
  obtain ⟨LI, TI⟩ : ∃ L, TextsX K mg "INTRINSICS" (He.ga K "INTRINSICS") L INL := texts_ok x4 g_INTRINSICS
  obtain ⟨LA, TA'⟩ : ∃ L, TextsX K mg "ATTRIBUTES" (He.ga K "ATTRIBUTES") L ATL := texts_ok x5 g_ATTRIBUTES
  have M : MeanX K w mg (He.ga K "Code") (He.ga K "LEADING") (He.ga K "MEANINGS") (SF K (He.ga K "Code")) := mean_ok xg x6 ⟨en0, nn0, ⟨kn0.at_, kn0.lit, kn0.low⟩⟩ ⟨en1, nn1, ⟨kn1.at_, kn1.lit, kn1.low⟩⟩ g_LEADING g_MEANINGS
  have TB : SetX K w mg "BACKWARD" (He.ga K "BACKWARD") wordsL bkB := back_ok xg ⟨en2, nn2, ⟨kn2.at_, kn2.lit, kn2.low⟩⟩ g_BACKWARD
  have cal : ∀ {base : Heap} {k : Nat} {x : Str} {ps : List Str} {sp : Sp} {f : Addr} {fd : FuncData}, FnOk Pg w K mg base CX0 k f fd ps sp → mg x = some (.ref f) → PySem.W.keepIn K (.ref f) = true → Binds K fd ps [] → Cal Pg w K mg base k x ps sp := fun F g kp b => ⟨⟨_, _, F, g, kp, b⟩⟩
  have calG : ∀ {base : Heap} {CX : CXT} {k : Nat} {x : Str} {ps : List Str} {sp : Sp} {f : Addr} {fd : FuncData}, FnG Pg w K mg base CX k f fd ps sp → mg x = some (.ref f) → PySem.W.keepIn K (.ref f) = true → Binds K fd ps [] → CalG Pg w K mg base CX k x ps sp := fun F g kp b => ⟨⟨_, _, F, g, kp, b⟩⟩
  have law : ∀ base, LawT Pg w K mg base (He.ga K "Code") := fun base => by
    have O_source_of := ok_source_of (P := Pg) (w := w) (base := base) T F_source_of
    have C_source_of := cal (base := base) O_source_of g_source_of F_source_of.kp B_source_of
    have O_next := ok_next (P := Pg) (w := w) (base := base) T F_next
    have C_next := cal (base := base) O_next g_next F_next.kp B_next
    have O_one := ok_one (P := Pg) (w := w) (base := base) T F_one C_next
    have C_one := cal (base := base) O_one g_one F_one.kp B_one
    have O_table := ok_table (P := Pg) (w := w) (base := base) T F_table
    have C_table := cal (base := base) O_table g_table F_table.kp B_table
    have O_packed := ok_packed (P := Pg) (w := w) (base := base) T F_packed
    have C_packed := cal (base := base) O_packed g_packed F_packed.kp B_packed
    have O_great := ok_great (P := Pg) (w := w) (base := base) T F_great C_next C_one
    have C_great := cal (base := base) O_great g_great F_great.kp B_great
    have O_pieces := ok_pieces (P := Pg) (w := w) (base := base) T F_pieces
    have C_pieces := cal (base := base) O_pieces g_pieces F_pieces.kp B_pieces
    have O_marked := ok_marked (P := Pg) (w := w) (base := base) T F_marked
    have C_marked := cal (base := base) O_marked g_marked F_marked.kp B_marked
    have O_ljoined := ok_ljoined (P := Pg) (w := w) (base := base) T F_ljoined
    have C_ljoined := cal (base := base) O_ljoined g_ljoined F_ljoined.kp B_ljoined
    have O_entry := ok_entry (P := Pg) (w := w) (base := base) T F_entry C_pieces C_marked
    have C_entry := cal (base := base) O_entry g_entry F_entry.kp B_entry
    have O_lline_bytes := ok_lline_bytes (P := Pg) (w := w) (base := base) T F_lline_bytes C_ljoined C_entry
    have C_lline_bytes := cal (base := base) O_lline_bytes g_lline_bytes F_lline_bytes.kp B_lline_bytes
    have O_told_op := ok_told_op (P := Pg) (w := w) (base := base) T F_told_op
    have C_told_op := cal (base := base) O_told_op g_told_op F_told_op.kp B_told_op
    have O_told_num := ok_told_num (P := Pg) (w := w) (base := base) T F_told_num
    have C_told_num := cal (base := base) O_told_num g_told_num F_told_num.kp B_told_num
    have O_drawn := ok_drawn (P := Pg) (w := w) (base := base) (CC := He.ga K "Code") T F_drawn C_next C_one C_great
    have C_drawn := cal (base := base) O_drawn g_drawn F_drawn.kp B_drawn
    have O_line_at := ok_line_at (P := Pg) (w := w) (base := base) T F_line_at
    have C_line_at := cal (base := base) O_line_at g_line_at F_line_at.kp B_line_at
    have O_lines := ok_lines (P := Pg) (w := w) (base := base) T F_lines C_next C_one
    have C_lines := cal (base := base) O_lines g_lines F_lines.kp B_lines
    have G_lmean := calG (base := base) (ok_lmean (P := Pg) (w := w) T I m8 F_lmean C_told_op C_told_num) g_lmean F_lmean.kp B_lmean
    have G_told := calG (base := base) (ok_told (P := Pg) (w := w) T F_told C_packed C_line_at G_lmean) g_told F_told.kp B_told
    have O_number_of := ok_number_of (P := Pg) (w := w) (base := base) T I F_number_of
    have C_number_of := cal (base := base) O_number_of g_number_of F_number_of.kp B_number_of
    have O_bytes_of := ok_bytes_of (P := Pg) (w := w) (base := base) T I IK F_bytes_of
    have C_bytes_of := cal (base := base) O_bytes_of g_bytes_of F_bytes_of.kp B_bytes_of
    have O_is_string := ok_is_string (P := Pg) (w := w) (base := base) T I F_is_string
    have C_is_string := cal (base := base) O_is_string g_is_string F_is_string.kp B_is_string
    have O_string_of := ok_string_of (P := Pg) (w := w) (base := base) T I F_string_of C_is_string
    have C_string_of := cal (base := base) O_string_of g_string_of F_string_of.kp B_string_of
    have O_strings_of := ok_strings_of (P := Pg) (w := w) (base := base) T I F_strings_of C_is_string
    have C_strings_of := cal (base := base) O_strings_of g_strings_of F_strings_of.kp B_strings_of
    have O_is_constant := ok_is_constant (P := Pg) (w := w) (base := base) T I F_is_constant C_is_string
    have C_is_constant := cal (base := base) O_is_constant g_is_constant F_is_constant.kp B_is_constant
    have O_depth_of := ok_depth_of (P := Pg) (w := w) (base := base) T I m8 F_depth_of C_is_constant
    have C_depth_of := cal (base := base) O_depth_of g_depth_of F_depth_of.kp B_depth_of
    have O_behind_extension := ok_behind_extension (P := Pg) (w := w) (base := base) T T2 F_behind_extension
    have C_behind_extension := cal (base := base) O_behind_extension g_behind_extension F_behind_extension.kp B_behind_extension
    have O_cut := ok_cut (P := Pg) (w := w) (base := base) T T2 WT F_cut C_behind_extension
    have C_cut := cal (base := base) O_cut g_cut F_cut.kp B_cut
    have O_signed_number := ok_signed_number (P := Pg) (w := w) (base := base) T F_signed_number
    have C_signed_number := cal (base := base) O_signed_number g_signed_number F_signed_number.kp B_signed_number
    have XN : Exn Pg w K mg base "NoCode" (He.ga K "NoCode") "field" := ⟨ox, g_NoCode, _, _, He.eqO_ok n5, n4, ok_NoCode_init ox (He.eqO_ok n3) F_NoCode_init, B_NoCode_init⟩
    have XT : Exn Pg w K mg base "NoTable" (He.ga K "NoTable") "at" := ⟨oxT, g_NoTable, _, _, He.eqO_ok t5, t4, ok_NoTable_init oxT (He.eqO_ok t3) F_NoTable_init, B_NoTable_init⟩
    have FU : FnOk Pg w K mg base (L2.CX Pg w) 3 _ _ ["code"] (spU (He.ga K "Code") (He.ga K "NoTable")) := FnOk.or ((FnOk.lift (ok_lines_of_units T I F_lines_of_units C_signed_number)).mono (by decide)) (ok_bad7 T I XT F_lines_of_units)
    have O_lines_of := ok_lines_of (P := Pg) (w := w) (base := base) T I g_NoTable emT F_lines_of FU g_lines_of_units F_lines_of_units.kp B_lines_of_units
    have C_lines_of := cal (base := base) O_lines_of g_lines_of F_lines_of.kp B_lines_of
    have O_of_name := fun Tt => ok_of_name (P := Pg) (w := w) (base := base) (Tt := Tt) T I F_of_name
    have C_of_name := fun Tt => cal (base := base) (O_of_name Tt) g_of_name F_of_name.kp B_of_name
    have O_of_local := fun Tt => ok_of_local (P := Pg) (w := w) (base := base) (Tt := Tt) T I F_of_local
    have C_of_local := fun Tt => cal (base := base) (O_of_local Tt) g_of_local F_of_local.kp B_of_local
    have O_of_attribute := fun Tt => ok_of_attribute (P := Pg) (w := w) (base := base) (Tt := Tt) (CC := He.ga K "Code") T F_of_attribute (C_of_name Tt)
    have C_of_attribute := fun Tt => cal (base := base) (O_of_attribute Tt) g_of_attribute F_of_attribute.kp B_of_attribute
    have O_of_global := fun Tt => ok_of_global (P := Pg) (w := w) (base := base) (Tt := Tt) (CC := He.ga K "Code") T F_of_global (C_of_name Tt)
    have C_of_global := fun Tt => cal (base := base) (O_of_global Tt) g_of_global F_of_global.kp B_of_global
    have O_of_operator := fun Tt => ok_of_operator (P := Pg) (w := w) (base := base) (Tt := Tt) (CC := He.ga K "Code") T TO F_of_operator
    have C_of_operator := fun Tt => cal (base := base) (O_of_operator Tt) g_of_operator F_of_operator.kp B_of_operator
    have O_of_intrinsic := fun Tt => ok_of_intrinsic (P := Pg) (w := w) (base := base) (Tt := Tt) (CC := He.ga K "Code") T TI F_of_intrinsic
    have C_of_intrinsic := fun Tt => cal (base := base) (O_of_intrinsic Tt) g_of_intrinsic F_of_intrinsic.kp B_of_intrinsic
    have O_of_function_attribute := fun Tt => ok_of_function_attribute (P := Pg) (w := w) (base := base) (Tt := Tt) (CC := He.ga K "Code") T TA' F_of_function_attribute
    have C_of_function_attribute := fun Tt => cal (base := base) (O_of_function_attribute Tt) g_of_function_attribute F_of_function_attribute.kp B_of_function_attribute
    have O_of_opposite := fun Tt => ok_of_opposite (P := Pg) (w := w) (base := base) (Tt := Tt) (CC := He.ga K "Code") T F_of_opposite
    have C_of_opposite := fun Tt => cal (base := base) (O_of_opposite Tt) g_of_opposite F_of_opposite.kp B_of_opposite
    have O_of_comparison := fun Tt => ok_of_comparison (P := Pg) (w := w) (base := base) (Tt := Tt) (CC := He.ga K "Code") T T2.g_TRUTH TC F_of_comparison
    have C_of_comparison := fun Tt => cal (base := base) (O_of_comparison Tt) g_of_comparison F_of_comparison.kp B_of_comparison
    have O_of_locals := fun Tt => ok_of_locals (P := Pg) (w := w) (base := base) (Tt := Tt) (CC := He.ga K "Code") T F_of_locals (C_of_local Tt)
    have C_of_locals := fun Tt => cal (base := base) (O_of_locals Tt) g_of_locals F_of_locals.kp B_of_locals
    have O_of_constant := fun Tt => ok_of_constant (P := Pg) (w := w) (base := base) (Tt := Tt) T I m8 F_of_constant
    have O_target_of := ok_target_of (P := Pg) (w := w) (base := base) T TB F_target_of
    have C_target_of := cal (base := base) O_target_of g_target_of F_target_of.kp B_target_of
    have hS : ∀ f sp, SF K (He.ga K "Code") f = some sp → HeldG Pg w K mg base 2 f sp := fun f sp hf => by
      obtain ⟨i, hi, rfl, rfl⟩ := SF_of hf
      match i, hi with
      | 0, _ => exact ⟨⟨fd_of_constant, ["code", "argument"], FnG.ex (sp := fun T => spOfG K (He.ga K "Code") T (mConst T)) fun Tt => FnG.mono (O_of_constant Tt) (by decide), F_of_constant.kp, B_of_constant⟩⟩
      | 1, _ => exact ⟨⟨fd_of_name, ["code", "argument"], FnG.ex (sp := fun T => spOfG K (He.ga K "Code") T (mName T)) fun Tt => FnG.mono (FnG.of (O_of_name Tt)) (by decide), F_of_name.kp, B_of_name⟩⟩
      | 2, _ => exact ⟨⟨fd_of_attribute, ["code", "argument"], FnG.ex (sp := fun T => spOfG K (He.ga K "Code") T (mAttr sufA T)) fun Tt => FnG.mono (FnG.of (O_of_attribute Tt)) (by decide), F_of_attribute.kp, B_of_attribute⟩⟩
      | 3, _ => exact ⟨⟨fd_of_global, ["code", "argument"], FnG.ex (sp := fun T => spOfG K (He.ga K "Code") T (mAttr sufG T)) fun Tt => FnG.mono (FnG.of (O_of_global Tt)) (by decide), F_of_global.kp, B_of_global⟩⟩
      | 4, _ => exact ⟨⟨fd_of_local, ["code", "argument"], FnG.ex (sp := fun T => spOfG K (He.ga K "Code") T (mLoc T)) fun Tt => FnG.mono (FnG.of (O_of_local Tt)) (by decide), F_of_local.kp, B_of_local⟩⟩
      | 5, _ => exact ⟨⟨fd_of_locals, ["code", "argument"], FnG.ex (sp := fun T => spOfG K (He.ga K "Code") T (mPair T)) fun Tt => FnG.mono (FnG.of (O_of_locals Tt)) (by decide), F_of_locals.kp, B_of_locals⟩⟩
      | 6, _ => exact ⟨⟨fd_of_operator, ["code", "argument"], FnG.ex (sp := fun T => spOfG K (He.ga K "Code") T (mText OPL)) fun Tt => FnG.mono (FnG.of (O_of_operator Tt)) (by decide), F_of_operator.kp, B_of_operator⟩⟩
      | 7, _ => exact ⟨⟨fd_of_comparison, ["code", "argument"], FnG.ex (sp := fun T => spOfG K (He.ga K "Code") T (mCmp)) fun Tt => FnG.mono (FnG.of (O_of_comparison Tt)) (by decide), F_of_comparison.kp, B_of_comparison⟩⟩
      | 8, _ => exact ⟨⟨fd_of_opposite, ["code", "argument"], FnG.ex (sp := fun T => spOfG K (He.ga K "Code") T (mOpp)) fun Tt => FnG.mono (FnG.of (O_of_opposite Tt)) (by decide), F_of_opposite.kp, B_of_opposite⟩⟩
      | 9, _ => exact ⟨⟨fd_of_intrinsic, ["code", "argument"], FnG.ex (sp := fun T => spOfG K (He.ga K "Code") T (mText INL)) fun Tt => FnG.mono (FnG.of (O_of_intrinsic Tt)) (by decide), F_of_intrinsic.kp, B_of_intrinsic⟩⟩
      | 10, _ => exact ⟨⟨fd_of_function_attribute, ["code", "argument"], FnG.ex (sp := fun T => spOfG K (He.ga K "Code") T (mText ATL)) fun Tt => FnG.mono (FnG.of (O_of_function_attribute Tt)) (by decide), F_of_function_attribute.kp, B_of_function_attribute⟩⟩
    have MC : MkCode Pg w K mg base (He.ga K "Code") := ⟨⟨_, _, He.mkr_ok (cd.fact 89 (f := .mkr "Code") rfl), ok_Code_init T I F_Code_init C_number_of C_bytes_of C_string_of C_strings_of C_depth_of PM g_Mark, g_Code, B_Code_init⟩⟩
    have G_mean := calG (base := base) (ok_meaning_of T M hS XN F_meaning_of C_target_of) g_meaning_of F_meaning_of.kp B_meaning_of
    have G_instr : CalGK Pg w K mg base 5 "instructions" "code" (spInstrG K (He.ga K "Code")) := ⟨⟨_, _, ok_instructions T T2 I m8 XN F_instructions C_cut C_lines_of G_mean, g_instructions, F_instructions.kp, B_instructions, kw1 F_instructions fun _ _ _ _ _ _ _ => rfl⟩⟩
    exact ⟨T, I, He.free_ok X G (cd.fact 74 (f := .free "sorted") rfl), MC, C_source_of, C_next, C_one, C_table, C_drawn, C_lines, C_lline_bytes, G_told, G_instr⟩
  have bl := fun s v => F_law.bindsA (ps := ["_law_script"]) (fun _ _ _ _ _ _ us hl => match us, hl with | [_], _ => rfl) s [v] rfl
  obtain ⟨oc2, od2, dV2, kV2, doc2, pm2, an2, cdL, ct2, osl2, rfl, lkL, hcL, _, _⟩ := F_law.ex
  have efa : fa = He.ga K "law" := by
    have := hmg.symm.trans g_law
    cases this
    rfl
  subst efa
  exact ⟨K, [], X, (fun p hp => nomatch hp), (fun p hp => nomatch hp), (fun p hp => nomatch hp), fun s a ns hn => law_runs law lkL hcL bl hn⟩
end C57
open PySem PySem.W PySem.Calls PyProof.Rows
theorem PySem.Challenge.cw_codewalk_k57_instructions_told_as_dis_te_holds : PySem.Challenge.rw_codewalk_k57_instructions_told_as_dis_te.Holds := by
  w_on; o_law
  refine HandSHeadRun.head_any (r := OpenLaw.row PySem.Challenge.rw_codewalk_k57_instructions_told_as_dis_te) (q := view (OpenLaw.row PySem.Challenge.rw_codewalk_k57_instructions_told_as_dis_te).prog [81]) (H := C57.hkk) (ob := C57.obk) (M := 16000) (loose := C57.loose) (d := HandSHeadRun.topDef (OpenLaw.row PySem.Challenge.rw_codewalk_k57_instructions_told_as_dis_te).prog 81) (kwd := []) C57.obk_eq
    (by kernel_rfl) (fun s => by kernel_rfl) C57.runk (by kernel_rfl) (by kernel_rfl) (by kernel_rfl) (by rfl) (by first | assumption | decide +kernel) (by decide +kernel) ⟨rfl, rfl, rfl, rfl, rfl, by decide +kernel⟩ ?hw ?hc
  case hw => w_witness2
  case hc =>
    refine C57.walk_run (l := PySem.Challenge.rw_codewalk_k57_instructions_told_as_dis_te) (n := 63) rfl (by decide) (by kernel_rfl) ?_
    intro w mg fa h Y G hmg0
    have hmg : mg ("law" : PySem.Str) = some (.ref fa) := by
      have e : (HandSHeadRun.topDef (OpenLaw.row PySem.Challenge.rw_codewalk_k57_instructions_told_as_dis_te).prog 81).name = ("law" : PySem.Str) := by kernel_rfl
      rw [← e]
      exact hmg0
    obtain ⟨K, cs, h1, h2, h3, h4, h5⟩ := C57.k57_at Y G hmg
    exact ⟨K, cs, h1, h2, h3, h4, fun s a ns hl _ => h5 s a ns (Nat.le_trans hl (by decide))⟩
