import PyProof.Rows.All
import Wide.All
import OpenK.AllK
import Wide.FinOn
import HandS.ExcInit
import HandS.ExcField
import HandS.ExcIs
import HandS.Words
import HandS.Head0
import HandS.Head1
import HandS.Head2
import HandS.HeadHook4
import PySem.Challenge.RW_codewalk_k46_instructions_put_to_bytes
import HandS.ForMost
import HandS.Wide
import HandS.Defaults
import HandS.IsInst
import HandS.Style
import HandS.ForExc
import HandS.WrittenGet
import HandS.Star
import HandS.WideBits
import HandS.SortInts
import HandS.Small
import KE.GoesMore
import PyProof.EnumMake
import PyProof.Draws
import HandS.MapJoin
import HandS.Codes
import HandS.TryMany
import HandS.Lambda
import KE.KExcIs
import PyProof.Rows.SeqMore
import PyProof.ReprRoads
import HandS.Dict
import HandS.HeadWalk
import HandS.EndTab
set_option Elab.async false
set_option linter.all false
set_option maxRecDepth 100000
set_option maxHeartbeats 4000000
namespace C46
open PySem PySem.Spec PyProof.Rows L2
def top (i : Nat) : Stmt := PySem.Challenge.pw_codewalk_k46_instructions_put_to_bytes.main.body.getD i (.Pass ⟨0, 0, 0, 0⟩)
/-! ### the program's table of words -/
def NUMW : List (Str × Int) := ([("BEFORE_WITH", 2), ("BINARY_SLICE", 4), ("BINARY_SUBSCR", 5), ("CHECK_EXC_MATCH", 7), ("CLEANUP_THROW", 8), ("DELETE_SUBSCR", 9), ("END_FOR", 11), ("END_SEND", 12), ("GET_ITER", 19), ("GET_YIELD_FROM_ITER", 21), ("LOAD_ASSERTION_ERROR", 23), ("LOAD_BUILD_CLASS", 24), ("LOAD_LOCALS", 25), ("MAKE_FUNCTION", 26), ("NOP", 30), ("POP_EXCEPT", 31), ("POP_TOP", 32), ("PUSH_EXC_INFO", 33), ("PUSH_NULL", 34), ("RETURN_GENERATOR", 35)] : List (Str × Int)) ++ ([("RETURN_VALUE", 36), ("STORE_SLICE", 38), ("STORE_SUBSCR", 39), ("TO_BOOL", 40), ("UNARY_INVERT", 41), ("UNARY_NEGATIVE", 42), ("UNARY_NOT", 43), ("WITH_EXCEPT_START", 44), ("BINARY_OP", 45), ("BUILD_CONST_KEY_MAP", 46), ("BUILD_LIST", 47), ("BUILD_MAP", 48), ("BUILD_TUPLE", 52), ("CALL", 53), ("CALL_FUNCTION_EX", 54), ("CALL_INTRINSIC_1", 55), ("CALL_KW", 57), ("COMPARE_OP", 58), ("CONTAINS_OP", 59), ("COPY", 61)] : List (Str × Int)) ++ ([("COPY_FREE_VARS", 62), ("DELETE_ATTR", 63), ("DELETE_DEREF", 64), ("DELETE_FAST", 65), ("DELETE_GLOBAL", 66), ("DELETE_NAME", 67), ("DICT_MERGE", 68), ("FOR_ITER", 72), ("IS_OP", 76), ("JUMP_BACKWARD", 77), ("JUMP_BACKWARD_NO_INTERRUPT", 78), ("JUMP_FORWARD", 79), ("LIST_APPEND", 80), ("LIST_EXTEND", 81), ("LOAD_ATTR", 82), ("LOAD_CONST", 83), ("LOAD_DEREF", 84), ("LOAD_FAST", 85), ("LOAD_FAST_CHECK", 87), ("LOAD_FAST_LOAD_FAST", 88)] : List (Str × Int)) ++ ([("LOAD_FROM_DICT_OR_DEREF", 89), ("LOAD_GLOBAL", 91), ("LOAD_NAME", 92), ("MAKE_CELL", 94), ("MAP_ADD", 95), ("POP_JUMP_IF_FALSE", 97), ("POP_JUMP_IF_NONE", 98), ("POP_JUMP_IF_NOT_NONE", 99), ("POP_JUMP_IF_TRUE", 100), ("RAISE_VARARGS", 101), ("RERAISE", 102), ("RETURN_CONST", 103), ("SEND", 104), ("SET_FUNCTION_ATTRIBUTE", 106), ("STORE_ATTR", 108), ("STORE_DEREF", 109), ("STORE_FAST", 110), ("STORE_FAST_LOAD_FAST", 111), ("STORE_FAST_STORE_FAST", 112), ("STORE_GLOBAL", 113)] : List (Str × Int)) ++ ([("STORE_NAME", 114), ("SWAP", 115), ("UNPACK_EX", 116), ("UNPACK_SEQUENCE", 117), ("YIELD_VALUE", 118), ("RESUME", 149)] : List (Str × Int))
def CACW : List (Str × Int) := ([("BINARY_SUBSCR", 1), ("STORE_SUBSCR", 1), ("TO_BOOL", 3), ("BINARY_OP", 1), ("CALL", 3), ("COMPARE_OP", 1), ("CONTAINS_OP", 1), ("FOR_ITER", 1), ("JUMP_BACKWARD", 1), ("LOAD_ATTR", 9), ("LOAD_GLOBAL", 4), ("POP_JUMP_IF_FALSE", 1), ("POP_JUMP_IF_NONE", 1), ("POP_JUMP_IF_NOT_NONE", 1), ("POP_JUMP_IF_TRUE", 1), ("SEND", 1), ("STORE_ATTR", 4), ("UNPACK_SEQUENCE", 1)] : List (Str × Int))
def lkp (l : List (Str × Int)) (x : Str) : Option Int := (l.find? fun p => decide (p.1 = x)).map (·.2)
def oddW : List Str := ["", "nop", "CACHE", "EXTENDED_ARG"]
def cacN (x : Str) : Nat := ((lkp CACW x).getD 0).toNat
def oexB (K : PySem.W.Frag) (C : Addr) : Bool := match K.lookup C with
  | some ⟨.type t, _, .cls cd, sl⟩ => decide (t = "type") && (match cd.mro, sl.toList with
    | .ref D :: bm, [_, _, _, _, some (.builtin n), _] => decide (D = C) && (decide (n = "ValueError.__new__") && (!cd.hasDel && (cd.hasDict && PySem.HandSPX.refsVE bm)))
    | _, _ => false)
  | _ => false
def excB (K : PySem.W.Frag) (D : Addr) : Bool := He.eqO (PySem.W.findIn K (.ref D) "__getattribute__") (some (some (.builtin "BaseException.__getattribute__"))) && (He.eqO (PySem.W.findIn K (.ref D) "__getattr__") (some none) && (decide (PySem.W.subIn K (.ref D) (.type "BaseException") = some true) &&
  (PySem.W.hasDictIn K D && (He.eqO (PySem.W.findIn K (.ref D) "__class__") (some (some (.builtin "object.__class__"))) && (He.eqO (PySem.W.specialIn K (.builtin "object.__class__") "__get__") (some (some (.builtin "getset_descriptor.__get__"))) &&
  (decide (PySem.W.takesIn K (.builtin "object.__class__") = some true) && (decide (PySem.W.mroIn K D (.type "object") = some true) && (decide (PySem.W.typeIn K (.ref D) = some (.type "type")) && (PySem.W.keepIn K (.ref D) && He.eqO (PySem.W.findIn K (.ref D) "__setattr__") (some (some (.builtin "object.__setattr__"))))))))))))
def tupIn (K : PySem.W.Frag) (a : Addr) : Option (List Value) := match K.lookup a with
  | some ⟨.type t, _, .seq its _, _⟩ => if t = "tuple" then some its.toList else none
  | _ => none
def okV : Value → Bool
  | .none => true
  | .ref _ => true
  | _ => false
def zeroV : Value → Bool
  | .int i _ => decide (i = 0)
  | _ => false
def formB (K : PySem.W.Frag) (d : Addr) (p : Str × Int) : Bool := match PySem.W.nsIn K d p.1 with
  | some (some (.ref a)) => match tupIn K a with
    | some [.int j _, .ref b, u] => decide (j = p.2) && (okV u && (match tupIn K b with
      | some zs => zs.all zeroV && (decide (zs.length = 2 * cacN p.1) && decide (zs.length ≤ 1000))
      | none => false))
    | _ => false
  | _ => false
def missB (K : PySem.W.Frag) (d : Addr) (l : List Str) : Bool := l.all fun x => He.eqO (PySem.W.nsIn K d x) (some none)
def exA (K : PySem.W.Frag) : Bool := oexB K (He.ga K "NoRows") && (excB K (He.ga K "NoRows") && (He.eqO (PySem.W.findIn K (.ref (He.ga K "NoRows")) "at") (some none) && (decide (PySem.W.kitOne K (.ref (He.ga K "NoRows")) (.ref (He.ga K "CodeError")) = some true) &&
  (decide (PySem.W.typeIn K (.ref (He.ma K (He.ga K "NoRows") "__init__")) = some (.type "function")) && He.eqO (PySem.W.findIn K (.ref (He.ga K "NoRows")) "__init__") (some (some (.ref (He.ma K (He.ga K "NoRows") "__init__"))))))))
def exF (K : PySem.W.Frag) : Bool := NUMW.all (formB K (He.ga K "FORMS")) && missB K (He.ga K "FORMS") oddW
def exB (K : PySem.W.Frag) : Bool := exA K && exF K
abbrev zextra_of : Stmt := top 28
abbrev zextension_of : Stmt := top 29
abbrev ztakes_argument : Stmt := top 32
abbrev zbytes_of : Stmt := top 33
abbrev zis_instruction : Stmt := top 34
abbrev zNoRows_init : Stmt := inClass (top 5) 0
abbrev zsource_of : Stmt := top 36
abbrev znext : Stmt := top 37
abbrev zone : Stmt := top 38
abbrev ztable : Stmt := top 39
abbrev zpacked : Stmt := top 40
abbrev zgreat : Stmt := top 41
abbrev zcaught : Stmt := top 42
abbrev zrow : Stmt := top 43
abbrev zodd : Stmt := top 44
abbrev zlaw : Stmt := top 45
def d_extra_of : He.DefD := ⟨("extra_of", none), "extra_of", "extra_of", defArgs zextra_of, defBody zextra_of, defScope zextra_of, [], []⟩
def d_extension_of : He.DefD := ⟨("extension_of", none), "extension_of", "extension_of", defArgs zextension_of, defBody zextension_of, defScope zextension_of, [], []⟩
def d_takes_argument : He.DefD := ⟨("takes_argument", none), "takes_argument", "takes_argument", defArgs ztakes_argument, defBody ztakes_argument, defScope ztakes_argument, [], []⟩
def d_bytes_of : He.DefD := ⟨("bytes_of", none), "bytes_of", "bytes_of", defArgs zbytes_of, defBody zbytes_of, defScope zbytes_of, [], []⟩
def d_is_instruction : He.DefD := ⟨("is_instruction", none), "is_instruction", "is_instruction", defArgs zis_instruction, defBody zis_instruction, defScope zis_instruction, [], []⟩
def d_NoRows_init : He.DefD := ⟨("NoRows", some "__init__"), "__init__", "NoRows.__init__", defArgs zNoRows_init, defBody zNoRows_init, defScope zNoRows_init, [], []⟩
def d_source_of : He.DefD := ⟨("_law_source_of", none), "_law_source_of", "_law_source_of", defArgs zsource_of, defBody zsource_of, defScope zsource_of, [], []⟩
def d_next : He.DefD := ⟨("_law_next", none), "_law_next", "_law_next", defArgs znext, defBody znext, defScope znext, [], []⟩
def d_one : He.DefD := ⟨("_law_one", none), "_law_one", "_law_one", defArgs zone, defBody zone, defScope zone, [], []⟩
def d_table : He.DefD := ⟨("_law_table", none), "_law_table", "_law_table", defArgs ztable, defBody ztable, defScope ztable, [], []⟩
def d_packed : He.DefD := ⟨("_law_packed", none), "_law_packed", "_law_packed", defArgs zpacked, defBody zpacked, defScope zpacked, [], []⟩
def d_great : He.DefD := ⟨("_law_great", none), "_law_great", "_law_great", defArgs zgreat, defBody zgreat, defScope zgreat, [], []⟩
def d_caught : He.DefD := ⟨("_law_caught", none), "_law_caught", "_law_caught", defArgs zcaught, defBody zcaught, defScope zcaught, [], []⟩
def d_row : He.DefD := ⟨("_law_row", none), "_law_row", "_law_row", defArgs zrow, defBody zrow, defScope zrow, [], []⟩
def d_odd : He.DefD := ⟨("_law_odd", none), "_law_odd", "_law_odd", defArgs zodd, defBody zodd, defScope zodd, [], []⟩
def d_law : He.DefD := ⟨("law", none), "law", "law", defArgs zlaw, defBody zlaw, defScope zlaw, [], []⟩
def fns : List He.DefD := [d_extra_of, d_extension_of, d_takes_argument, d_bytes_of, d_is_instruction, d_NoRows_init, d_source_of, d_next, d_one, d_table, d_packed, d_great, d_caught, d_row, d_odd, d_law]
def fas : List He.Fa := [.glo "extra_of", .glo "extension_of", .glo "takes_argument", .glo "bytes_of", .glo "is_instruction", .glo "_law_source_of", .glo "_law_next", .glo "_law_one", .glo "_law_table", .glo "_law_packed", .glo "_law_great", .glo "_law_caught", .glo "_law_row", .glo "_law_odd", .glo "law", .glo "NoCode", .glo "CodeError", .glo "NoTable", .glo "NoRows", .glo "NoBytes", .glo "FORMS", .free "len", .free "int", .free "range", .free "tuple", .free "list", .free "isinstance", .free "bool", .free "str", .free "min", .free "sorted", .free "enumerate", .int "EXTENDED_ARG" 71, .int "FIRST_WITH_ARGUMENT" 45, .int "GREATEST_ARGUMENT" 4294967295, .exm "NoRows" "NoCode" false, .exm "NoRows" "NoTable" false, .exm "NoRows" "NoRows" true]
def tabs : List He.Tab := [(fun K => He.ga K "FORMS", NUMW.map (·.1) ++ (["LOAD_CLOSURE", "LOAD_CODE"] : List Str))]
abbrev Rk : PySem.W.OpenRow := PySem.W.OpenLaw.row PySem.Challenge.rw_codewalk_k46_instructions_put_to_bytes
def tfs : List He.Defn := [("law", none)]
/-! ### a head's hook that looks at the objects of the top in their order, one by one -/
def asY (n : Nat) : List Addr := mainGlobals :: List.range' 11 (n - 11)
def obsY (fa : List He.Fa) (fn : List He.DefD) (ts : List He.Tab) (tf : List He.Defn) (ex : PySem.W.Frag → Bool) (g : Addr → Option Obj) (n : Nat) : He.AlX := (He.obsT fa fn ts (He.frT g (asY n)), ex (He.frT g (asY n)) && He.tabsB g tf (He.frT g (asY n)))
theorem saysY_of {as : List Addr} {fa : List He.Fa} {fn : List He.DefD} {ts : List He.Tab} {tf : List He.Defn} {ex : PySem.W.Frag → Bool} {w : World} {h : Heap} (e1 : He.obsT fa fn ts (He.frT h.get? as) = He.valT fn ts w) (e2 : (ex (He.frT h.get? as) && He.tabsB h.get? tf (He.frT h.get? as)) = true) :
    He.SaysX fa fn ts tf ex w h (He.frT h.get? as) := by
  obtain ⟨h1, h2⟩ := He.ba e2
  have key : ∀ p ∈ tf, PySem.W.codeHdIn (He.frT h.get? as) (He.cT (He.frT h.get? as) p).1 (He.cT (He.frT h.get? as) p).2 = true ∧ ∃ o, h.get? (He.cT (He.frT h.get? as) p).2 = some o ∧ He.emptyTab o = true := fun p hp => by
    obtain ⟨h3, h4⟩ := He.ba (List.all_eq_true.mp h2 p hp)
    refine ⟨h3, ?_⟩
    cases q : h.get? (He.cT (He.frT h.get? as) p).2 with
    | none =>
      rw [q] at h4
      cases h4
    | some o =>
      rw [q] at h4
      exact ⟨o, rfl, h4⟩
  exact ⟨e1, h1, fun p hp => (key p hp).1, fun p hp => by
    obtain ⟨_, o, q, z⟩ := key p hp
    exact He.frT_none q z, fun p hp => by
    obtain ⟨_, o, q, z⟩ := key p hp
    rw [q, He.emptyTab_eq z]⟩
def hookY (fa : List He.Fa) (fn : List He.DefD) (ts : List He.Tab) (tf : List He.Defn) (ex : PySem.W.Frag → Bool) : PySem.W.Hook where
  α := He.AlX
  obs := fun s => obsY fa fn ts tf ex s.heap.get? s.heap.objs.size
  val := fun w => He.valX fn ts w
  says := fun w h => ∃ K : PySem.W.Frag, K.In h ∧ He.SaysX fa fn ts tf ex w h K
  of := fun _ _ e => ⟨_, He.frT_in, saysY_of (congrArg (fun z : He.AlX => z.1) e) (congrArg (fun z : He.AlX => z.2) e)⟩
  keeps := fun _ _ _ ⟨K, hK, c⟩ k => ⟨K, PySem.W.Frag.In.keeps hK k, ⟨c.t, c.more, c.hd, c.out, fun p hp => k _ _ (c.empty p hp)⟩⟩
theorem obsY_eq {fa : List He.Fa} {fn : List He.DefD} {ts : List He.Tab} {tf : List He.Defn} {ex : PySem.W.Frag → Bool} {s : PySem.W.SharedT} : obsY fa fn ts tf ex (HandSHeadRun.getT s) s.n = (hookY fa fn ts tf ex).obs s.abs := by
  have e : HandSHeadRun.getT s = s.abs.heap.get? := funext (HandSHeadRun.getT_eq s)
  have z : s.abs.heap.objs.size = s.n := PySem.W.absHeap_size _ _ _
  show obsY fa fn ts tf ex (HandSHeadRun.getT s) s.n = obsY fa fn ts tf ex s.abs.heap.get? s.abs.heap.objs.size
  rw [z, e]

abbrev hkk : PySem.W.Hook := hookY fas fns tabs tfs exB
def obk (s : PySem.W.SharedT) : He.AlX := obsY fas fns tabs tfs exB (HandSHeadRun.getT s) s.n
theorem obk_eq (s : PySem.W.SharedT) : obk s = hkk.obs s.abs := obsY_eq
def loose : List Str := (["CodeError", "NoCode", "NoTable", "NoBytes", "NoRows", "told_constants", "EXTENDED_ARG", "FIRST_WITH_ARGUMENT", "OPERATORS", "COMPARISONS", "TRUTH", "of_constant", "of_code", "kept", "of_name", "of_name_with_more", "of_local", "of_locals", "of_operator", "of_comparison"] : List Str) ++ (["of_unpacking", "of_jump", "of_bare_jump", "FORMS", "extra_of", "extension_of", "GREATEST_ARGUMENT", "takes_argument", "bytes_of", "is_instruction", "_law_source_of", "_law_next", "_law_one", "_law_table", "_law_packed", "_law_great", "_law_caught", "_law_row", "_law_odd"] : List Str)
/-- a dict display asks the world about one row: both answers are the same run -/
def fixW (w : World) (b : Bool) : World := { w with params := { w.params with followText := fun s => if s = "special-get-raises" then b else w.params.followText s } }
theorem fixW_eq (w : World) : fixW w (w.params.followText "special-get-raises") = w := by
  have e : (fun s => if s = "special-get-raises" then w.params.followText "special-get-raises" else w.params.followText s) = w.params.followText := by
    funext s
    split
    · rename_i h
      rw [h]
    · rfl
  unfold fixW
  rw [e]
abbrev K_ (s : PySem.W.SharedT) : PySem.W.Frag := He.frT (HandSHeadRun.getT s) (asY s.n)
noncomputable abbrev endW (w : World) (os : OsState) : Option PySem.W.SharedT := HandSHeadRun.endF (HandSHeadRun.stepQ (HandSHeadRun.denQ HandSHeadRun.tabQ) Rk.prog w) 6000 Rk.prog w os
open PySem.W PySem.Calls HandSHeadRun in
theorem run1T (w : World) (os : OsState) : (endW (fixW w true) os).map (fun s => (HandSHeadRun.looksF Rk.prog (boot_heap (fixW w true).params) s.abs, HandSHeadRun.seenQ (PySem.W.view Rk.prog [45]) loose (importedModules Rk.prog.main.body) (fun s => xlAt (PySem.W.view Rk.prog [45]) [] s && recOk Rk.toRowW.records s) s.abs)) = some (true, openGood (PySem.W.view Rk.prog [45]) loose) := by
  kernel_rfl
open PySem.W PySem.Calls HandSHeadRun in
theorem run2T (w : World) (os : OsState) : (endW (fixW w true) os).map (fun s => He.obsT fas fns tabs (K_ s)) = some (He.valT fns tabs (fixW w true)) := by
  kernel_rfl
open PySem.W PySem.Calls HandSHeadRun in
theorem run3T (w : World) (os : OsState) : (endW (fixW w true) os).map (fun s => exA (K_ s) && He.tabsB (HandSHeadRun.getT s) tfs (K_ s)) = some true := by
  kernel_rfl
open PySem.W PySem.Calls HandSHeadRun in
theorem run4T (w : World) (os : OsState) : (endW (fixW w true) os).map (fun s => exF (K_ s)) = some true := by
  kernel_rfl
open PySem.W PySem.Calls HandSHeadRun in
theorem run1F (w : World) (os : OsState) : (endW (fixW w false) os).map (fun s => (HandSHeadRun.looksF Rk.prog (boot_heap (fixW w false).params) s.abs, HandSHeadRun.seenQ (PySem.W.view Rk.prog [45]) loose (importedModules Rk.prog.main.body) (fun s => xlAt (PySem.W.view Rk.prog [45]) [] s && recOk Rk.toRowW.records s) s.abs)) = some (true, openGood (PySem.W.view Rk.prog [45]) loose) := by
  kernel_rfl
open PySem.W PySem.Calls HandSHeadRun in
theorem run2F (w : World) (os : OsState) : (endW (fixW w false) os).map (fun s => He.obsT fas fns tabs (K_ s)) = some (He.valT fns tabs (fixW w false)) := by
  kernel_rfl
open PySem.W PySem.Calls HandSHeadRun in
theorem run3F (w : World) (os : OsState) : (endW (fixW w false) os).map (fun s => exA (K_ s) && He.tabsB (HandSHeadRun.getT s) tfs (K_ s)) = some true := by
  kernel_rfl
open PySem.W PySem.Calls HandSHeadRun in
theorem run4F (w : World) (os : OsState) : (endW (fixW w false) os).map (fun s => exF (K_ s)) = some true := by
  kernel_rfl
theorem comb {α β γ δ : Type} {o : Option α} {f : α → β} {g : α → γ} {x y z : α → Bool} {b : β} {c : γ} {d : α → δ} {dv : δ} (h1 : o.map (fun s => (f s, g s)) = some (b, c)) (h2 : o.map d = some dv) (h3 : o.map (fun s => x s && z s) = some true) (h4 : o.map y = some true) :
    o.map (fun s => (f s, g s, (d s, (x s && y s) && z s))) = some (b, c, (dv, true)) := by
  cases o with
  | none => cases h4
  | some s =>
    have e1 : (f s, g s) = (b, c) := Option.some.inj h1
    have e2 : d s = dv := Option.some.inj h2
    have e3 : (x s && z s) = true := Option.some.inj h3
    have e4 : y s = true := Option.some.inj h4
    rw [Bool.and_eq_true] at e3
    obtain ⟨e5, e6⟩ := e3
    cases e1
    show some (f s, g s, (d s, (x s && y s) && z s)) = _
    rw [e2, e4, e5, e6]
    rfl
theorem runk (w : World) : HandSHeadRun.RunEq Rk (PySem.W.view Rk.prog [45]) hkk obk 6000 loose w := by
  have h : ∀ b, HandSHeadRun.RunEq Rk (PySem.W.view Rk.prog [45]) hkk obk 6000 loose (fixW w b) := fun b => by
    cases b
    · exact fun os => comb (run1F w os) (run2F w os) (run3F w os) (run4F w os)
    · exact fun os => comb (run1T w os) (run2T w os) (run3T w os) (run4T w os)
  have h2 := h (w.params.followText "special-get-raises")
  rw [fixW_eq] at h2
  exact h2
end C46

set_option maxHeartbeats 1000000
namespace C46
open PySem PySem.Spec PyProof.Rows L2
abbrev FnP (K : PySem.W.Frag) (x q : Str) (st : Stmt) (f : Addr) (fd : FuncData) : Prop := FunD K x q (defArgs st) (defBody st) (defScope st) [] [] f fd
/-- a def of the program as its callers see it -/
structure Cal (P : Program) (w : World) (K : PySem.W.Frag) (mg : Str → Option Value) (base : Heap) (k : Nat) (x : Str) (ps : List Str) (sp : Sp) : Prop where
  ex : ∃ f fd, FnOk P w K mg base CX0 k f fd ps sp ∧ mg x = some (.ref f) ∧ PySem.W.keepIn K (.ref f) = true ∧ Binds K fd ps []
theorem pe_cal {X : Cx} {k : Nat} {x : Str} {ps : List Str} {sp : Sp} {e : Expr} {es : List Expr} {t : TA} {p pos : Pos} (C : Cal X.prog X.w X.K X.mg X.base k x ps sp) (hr : Room k X.A) (hg : Gl X x) (ha : PA X (e :: es) t)
    (hdb : (x == ("__debug__" : Str)) = false := by decide) (he : starEach (e :: es) X.env = (false, eval e X.env) :: starEach es X.env := by rfl) (hpl : (backTo pos (starEach es X.env)).any (·.1) = false := by rfl) :
    PE X (.Call (.Name x p) (e :: es) [] pos) (tCall sp [] E0 t) := by
  obtain ⟨f, fd, F, m, kp, b⟩ := C.ex
  exact pe_call F hr hg m kp b .nil pass0 ha hdb he hpl
theorem pe_gi {X : Cx} {x : Str} {n : Int} {pos : Pos} (h : ∃ t, X.mg x = some (.int n t)) (hg : Gl X x := by rfl) (hdb : (x == ("__debug__" : Str)) = false := by decide) : PE X (.Name x pos) (tC (.int n)) := by
  obtain ⟨t, h⟩ := h
  exact pe_glob hg h ⟨t, rfl⟩ hdb

/-! ### own rules in a form that simp can reckon: each reading names what it finds in the heap by an equation -/
section
variable {X : Cx}
theorem OpR.imp' {g : Value → Value → Sem Value} {r r' : R2} (h : OpR X g r) (i : ∀ x y H Q, r' x y H Q → r x y H Q) : OpR X g r' := fun pins s σ H x y v u Q I rx ry q => h pins s σ H x y v u Q I rx ry (i _ _ _ _ q)
theorem IxR.imp' {r r' : R2} (h : IxR X r) (i : ∀ x y H Q, r' x y H Q → r x y H Q) : IxR X r' := fun e1 e2 pins s σ H x y v u Q I rx ry q => h e1 e2 pins s σ H x y v u Q I rx ry (i _ _ _ _ q)
theorem CallR.imp' {g : Value} {r r' : List V → Hp → VK → Prop} (h : CallR X g r) (i : ∀ xs H Q, r' xs H Q → r xs H Q) : CallR X g r' := fun pins s σ H xs us Q I rx q => h pins s σ H xs us Q I rx (i _ _ _ q)
theorem SlR.imp' {r r' : V → Option Int → Option Int → Hp → VK → Prop} (h : L2.SlR X r) (i : ∀ x a b H Q, r' x a b H Q → r x a b H Q) : L2.SlR X r' := fun pins s σ H x v vl vu lo hi sl Q I rx hs pl pu q => h pins s σ H x v vl vu lo hi sl Q I rx hs pl pu (i _ _ _ _ _ q)
theorem PE.weak {e : Expr} {t t' : TE} (h : PE X e t) (i : ∀ σ H Q, t' σ H Q → t σ H Q) : PE X e t' := ⟨fun pins s σ H Q I q => h.run pins s σ H Q I (i _ _ _ q)⟩
/-- the monotone closure of a reading -/
def mcl (te : TE) : TE := fun σ H Q => ∃ Q0 : VK, te σ H Q0 ∧ ∀ v H', Q0 v H' → Q v H'
theorem PE.mcl {e : Expr} {te : TE} (h : PE X e te) : PE X e (mcl te) := ⟨fun pins s σ H Q I q => by
  obtain ⟨Q0, q0, m⟩ := q
  exact thn (h.run pins s σ H Q0 I q0) fun u s1 ⟨v, H1, I1, r1, q1⟩ => ⟨v, H1, I1, r1, m _ _ q1⟩⟩
theorem pip_of {op : Operator} {r : R2} (h : OpR X (inplaceOp op) r) : PIp X op r := fun pins s σ H x y v u Q I rx ry q => h pins s σ H x y v u Q I rx ry q
/-- what a list or a tuple holds -/
def sq : Option HO → Option (List V)
  | some (.lst xs) => some xs
  | some (.tup xs) => some xs
  | _ => none
@[simp] theorem sq_lst {xs : List V} : sq (some (.lst xs)) = some xs := rfl
@[simp] theorem sq_tup {xs : List V} : sq (some (.tup xs)) = some xs := rfl
theorem sq_cases {o : Option HO} {xs : List V} (h : sq o = some xs) : o = some (.lst xs) ∨ o = some (.tup xs) := by
  unfold sq at h
  split at h
  · exact .inl (by rw [Option.some.inj h])
  · exact .inr (by rw [Option.some.inj h])
  · cases h
def rIxd : R2 := fun x y H Q => ∃ p i xs v, x = .ref p ∧ y = .int i ∧ sq (H p) = some xs ∧ atI xs i = some v ∧ Q v H
theorem ix_d : IxR X rIxd := IxR.imp' (IxR.or (ix_list (X := X)) (ix_tup (X := X))) fun x y H Q ⟨p, i, xs, v, e1, e2, h, ha, q⟩ => by
  rcases sq_cases h with h | h
  · exact .inl ⟨p, xs, i, v, e1, e2, SqL.of h, ha, q⟩
  · exact .inr ⟨p, xs, i, v, e1, e2, SqT.of h, ha, q⟩
def rLend : List V → Hp → VK → Prop := fun vs H Q => ∃ p xs, vs = [.ref p] ∧ sq (H p) = some xs ∧ Q (.int xs.length) H
theorem call_len_d : CallR X (.builtin "len") rLend := CallR.imp' (call_len_seq (X := X)) fun vs H Q ⟨p, xs, e, h, q⟩ => by
  rcases sq_cases h with h | h
  · exact ⟨p, xs, e, .inl (SqL.of h), q⟩
  · exact ⟨p, xs, e, .inr (SqT.of h), q⟩
/-- tuple(list), list(list), list(tuple) -/
def rTupd : List V → Hp → VK → Prop := fun vs H Q => ∃ p xs, vs = [.ref p] ∧ H p = some (.lst xs) ∧ ∀ l, H l = none → Q (.ref l) (upd H l (.tup xs))
theorem call_tuple_d : CallR X (.type "tuple") rTupd := CallR.imp' (call_tuple_of (X := X)) fun vs H Q ⟨p, xs, e, h, q⟩ => ⟨p, xs, e, .inl ⟨SqL.of h, q⟩⟩
def rListd : List V → Hp → VK → Prop := fun vs H Q => ∃ p xs, vs = [.ref p] ∧ sq (H p) = some xs ∧ ∀ l, H l = none → Q (.ref l) (upd H l (.lst xs))
theorem call_list_d : CallR X (.type "list") rListd := CallR.imp' (call_list_of (X := X)) fun vs H Q ⟨p, xs, e, h, q⟩ => by
  rcases sq_cases h with h | h
  · exact ⟨p, xs, e, .inl (SqL.of h), q⟩
  · exact ⟨p, xs, e, .inr (SqT.of h), q⟩
def rSld : V → Option Int → Option Int → Hp → VK → Prop := fun x lo hi H Q => ∃ a xs, x = .ref a ∧ H a = some (.lst xs) ∧ ∀ p, H p = none → Q (.ref p) (upd H p (.lst (cutV xs lo hi)))
theorem sl_d : L2.SlR X rSld := SlR.imp' (sl_list (X := X)) fun x lo hi H Q ⟨a, xs, e, h, q⟩ => ⟨a, xs, e, SqL.of h, q⟩
def tRevD (te : TE) : TE := fun σ H Q => te σ H fun x H1 => ∃ a xs, x = .ref a ∧ H1 a = some (.lst xs) ∧ ∀ p, H1 p = none → Q (.ref p) (upd H1 p (.lst xs.reverse))
theorem pe_revD {e : Expr} {te : TE} {k : Nat} {p1 p2 p3 pos : Pos} (he : PE X e te) : PE X (.Subscript e (.Slice none none (some (.UnaryOp .USub (.Constant (.int 1) k p1) p2)) p3) pos) (tRevD te) :=
  PE.weak (pe_revL (PE.mcl he)) fun σ H Q q => ⟨_, q, fun v H' ⟨a, xs, e, h, k⟩ => ⟨a, xs, e, SqL.of h, k⟩⟩
theorem PG.weak {tg : Expr} {t t' : TG} (h : PG X tg t) (i : ∀ v σ H Q, t' v σ H Q → t v σ H Q) : PG X tg t' := ⟨fun pins s σ H v u Q I r q => h.run pins s σ H v u Q I r (i _ _ _ _ q)⟩
/-- a, b, .. = a tuple that stands in the heap -/
def gTupD (n : Nat) (t : TGs) : TG := fun v σ H Q => ∃ a xs, v = .ref a ∧ H a = some (.tup xs) ∧ xs.length = n ∧ t xs σ H Q
theorem pg_tupD {es : List Expr} {k : Nat} {t : TGs} {n : Nat} {pos : Pos} (hc : X.calm = true) (h : PGs X es t)
    (hn : (assignEach es X.env).length = n := by rfl) (hst : (assignEach es X.env).findIdx? (·.1) = none := by rfl) : PG X (.Tuple es k pos) (gTupD n t) :=
  PG.weak (pg_tup hc h hn hst) fun v σ H Q ⟨a, xs, e, h, l, q⟩ => ⟨a, xs, e, SqT.of h, l, q⟩
def isLst : Option HO → Bool
  | some (.lst _) => true
  | _ => false
@[simp] theorem isLst_lst {xs : List V} : isLst (some (.lst xs)) = true := rfl
theorem tyV_lst {K : PySem.W.Frag} {H : Hp} {a : Addr} (h : isLst (H a) = true) : tyV K "list" (.ref a) H = True := by
  refine eq_true ?_
  cases e : H a with
  | none =>
    rw [e] at h
    cases h
  | some o =>
    rw [e] at h
    cases o with
    | lst xs => exact .inl ⟨rfl, xs, SqL.of e⟩
    | _ => cases h
end
/-! ### statements and expressions, one step each -/
section
variable {X : Cx} {σ : L2.St} {H : Hp} {Q : VK} {D : Ends} {QT : Bool → Hp → Prop} {QA : List V → Hp → Prop} {QO : Option Int → Hp → Prop}
theorem r_seq {t u : TS} : tSeq t u D σ H = t { D with nx := u D } σ H := rfl
theorem r_next : tNext D σ H = D.nx σ H := rfl
theorem r_brk : tBreak D σ H = D.bk σ H := rfl
theorem r_cont : tCont D σ H = D.ct σ H := rfl
theorem r_asg {te : TE} {g : TG} : tAsg te g D σ H = te σ H (fun x H1 => g x σ H1 D.nx) := rfl
theorem r_name {i : Nat} {v : V} {Q : L2.St → Hp → Prop} : gName i v σ H Q = Q (σ.set i (some v)) H := rfl
theorem r_ret {te : TE} : tRet te D σ H = te σ H D.rt := rfl
theorem r_retN : tRetN D σ H = D.rt .non H := rfl
theorem r_drop {te : TE} : tDrop te D σ H = te σ H (fun _ H1 => D.nx σ H1) := rfl
theorem r_ifs {c : TT} {t u : TS} : tIfS c t u D σ H = c σ H (fun b H1 => if b = true then t D σ H1 else u D σ H1) := rfl
theorem r_never : tNever D σ H = False := rfl
theorem r_var {i : Nat} : tVar i σ H Q = ∃ v, σ[i]? = some (some v) ∧ Q v H := rfl
theorem r_c {v : V} : tC v σ H Q = Q v H := rfl
theorem r_op {r : R2} {ta tb : TE} : tOp r ta tb σ H Q = ta σ H (fun x H1 => tb σ H1 fun y H2 => r x y H2 Q) := rfl
theorem r_un {r : V → Hp → VK → Prop} {ta : TE} : tUn r ta σ H Q = ta σ H (fun x H1 => r x H1 Q) := rfl
theorem r_if {c : TT} {ta tb : TE} : tIf c ta tb σ H Q = c σ H (fun b H1 => if b = true then ta σ H1 Q else tb σ H1 Q) := rfl
theorem r_tst {t : TE} : tTest t σ H QT = t σ H (fun x H' => ∃ k, x = .bl k ∧ QT k H') := rfl
theorem r_b {t : TE} : tB t σ H QT = t σ H (fun x H' => ∃ k, x = .bl k ∧ QT k H') := rfl
theorem r_not {t : TT} : tNot t σ H QT = t σ H (fun c H1 => QT (!c) H1) := rfl
theorem r_and {t u : TT} : tAnd t u σ H QT = t σ H (fun c H1 => if c = true then u σ H1 QT else QT false H1) := rfl
theorem r_or {t u : TT} : tOr t u σ H QT = t σ H (fun c H1 => if c = true then QT true H1 else u σ H1 QT) := rfl
theorem r_andV {ta tb : TE} : tAndV ta tb σ H Q = ta σ H (fun x H1 => ∃ c, x = .bl c ∧ if c = true then tb σ H1 Q else Q (.bl false) H1) := rfl
theorem r_orV {ta tb : TE} : tOrV ta tb σ H Q = ta σ H (fun x H1 => ∃ c, x = .bl c ∧ if c = true then Q (.bl true) H1 else tb σ H1 Q) := rfl
theorem r_notV {ta : TE} : tNotV ta σ H Q = ta σ H (fun x H1 => ∃ c, x = .bl c ∧ Q (.bl (!c)) H1) := rfl
theorem r_nil : tNil σ H QA = QA [] H := rfl
theorem r_cons {ta : TE} {tr : TA} : tCons ta tr σ H QA = ta σ H (fun x H1 => tr σ H1 fun xs H2 => QA (x :: xs) H2) := rfl
theorem r_tup {t : TA} : tTup t σ H Q = t σ H (fun xs H1 => xs.length ≤ sizeLine ∧ ∀ p, H1 p = none → Q (.ref p) (upd H1 p (.tup xs))) := (rfl)
theorem r_lst {t : TA} : tLst t σ H Q = t σ H (fun xs H1 => xs.length ≤ sizeLine ∧ ∀ p, H1 p = none → Q (.ref p) (upd H1 p (.lst xs))) := (rfl)
theorem r_cb {r : List V → Hp → VK → Prop} {t : TA} : tCB r t σ H Q = t σ H (fun vs H1 => r vs H1 Q) := rfl
theorem r_call {sp : Sp} {dvs : List V} {E : XK} {t : TA} : tCall sp dvs E t σ H Q = t σ H (fun vs H1 => sp (vs ++ dvs) H1 Q E) := rfl
theorem r_bm {K : PySem.W.Frag} {T : String} {r : V → List V → Hp → VK → Prop} {to : TE} {t : TA} : tBM K T r to t σ H Q = to σ H (fun x H1 => tyV K T x H1 ∧ t σ H1 fun xs H2 => r x xs H2 Q) := rfl
theorem r_bm0 {K : PySem.W.Frag} {T : String} {r : V → List V → Hp → VK → Prop} {to : TE} : tBM0 K T r to σ H Q = to σ H (fun x H1 => tyV K T x H1 ∧ r x [] H1 Q) := rfl
theorem r_sl {r : V → Option Int → Option Int → Hp → VK → Prop} {te : TE} {tl th : TO} : L2.tSl r te tl th σ H Q = te σ H (fun x H1 => tl σ H1 fun l H2 => th σ H2 fun u H3 => r x l u H3 Q) := rfl
theorem r_nopart : tNoPart σ H QO = QO none H := rfl
theorem r_part {te : TE} : tPart te σ H QO = te σ H (fun x H1 => ∃ i, x = .int i ∧ QO (some i) H1) := rfl
theorem r_rev {te : TE} : tRevD te σ H Q = te σ H (fun x H1 => ∃ a xs, x = .ref a ∧ H1 a = some (.lst xs) ∧ ∀ p, H1 p = none → Q (.ref p) (upd H1 p (.lst xs.reverse))) := rfl
theorem r_gtup {K : PySem.W.Frag} {n : Nat} {t : TGs} {v : V} {Q : L2.St → Hp → Prop} : gTup K n t v σ H Q = ∃ a xs, v = .ref a ∧ SqT K H a xs ∧ xs.length = n ∧ t xs σ H Q := rfl
theorem r_gtupD {n : Nat} {t : TGs} {v : V} {Q : L2.St → Hp → Prop} : gTupD n t v σ H Q = ∃ a xs, v = .ref a ∧ H a = some (.tup xs) ∧ xs.length = n ∧ t xs σ H Q := rfl
theorem r_gnil {vs : List V} {Q : L2.St → Hp → Prop} : gNil vs σ H Q = (vs = [] ∧ Q σ H) := rfl
theorem r_gcons {t : TG} {u : TGs} {vs : List V} {Q : L2.St → Hp → Prop} : gCons t u vs σ H Q = ∃ v r, vs = v :: r ∧ t v σ H (fun σ' H' => u r σ' H' Q) := rfl
theorem r_gsub {to ti : TE} {t : TSet} {v : V} {Q : L2.St → Hp → Prop} : gSub to ti t v σ H Q = to σ H (fun o H1 => ti σ H1 fun i H2 => t o i v H2 fun H3 => Q σ H3) := rfl
theorem r_par {i j : Nat} {ta : TA} : tPar i j ta D σ H = ta σ H (fun vs H1 => ∃ v w, vs = [v, w] ∧ D.nx ((σ.set i (some v)).set j (some w)) H1) := rfl
theorem r_aug {i : Nat} {te : TE} {ti : TIp} : tAug i te ti D σ H = ∃ x, σ[i]? = some (some x) ∧ te σ H (fun y H1 => ti x y H1 fun z H2 => D.nx (σ.set i (some z)) H2) := rfl
theorem r_chain {r r' : R2} {ta tb tc : TE} : tChain r r' ta tb tc σ H Q = ta σ H (fun x H1 => tb σ H1 fun y H2 => r x y H2 fun z H3 => ∃ k, z = .bl k ∧ (if k = true then tc σ H3 fun w' H4 => r' y w' H4 Q else Q (.bl false) H3)) := rfl
theorem r_I0 {g : Int → Int → V} {x y : V} : rI0 g x y H Q = ∃ i j, x = .int i ∧ y = .int j ∧ Q (g i j) H := rfl
theorem r_I {C : Int → Int → Prop} {g : Int → Int → V} {x y : V} : rI C g x y H Q = ∃ i j, x = .int i ∧ y = .int j ∧ C i j ∧ Q (g i j) H := rfl
theorem r_ipI {f : Int → Int → Int} {x y : V} : ipI f x y H Q = ∃ i j, x = .int i ∧ y = .int j ∧ Q (.int (f i j)) H := rfl
theorem r_U {g : Int → V} {x : V} : rU g x H Q = ∃ i, x = .int i ∧ Q (g i) H := rfl
theorem r_ixd {x y : V} : rIxd x y H Q = ∃ p i xs v, x = .ref p ∧ y = .int i ∧ sq (H p) = some xs ∧ atI xs i = some v ∧ Q v H := rfl
theorem r_lend {vs : List V} : rLend vs H Q = ∃ p xs, vs = [.ref p] ∧ sq (H p) = some xs ∧ Q (.int xs.length) H := rfl
theorem r_tupd {vs : List V} : rTupd vs H Q = ∃ p xs, vs = [.ref p] ∧ H p = some (.lst xs) ∧ ∀ l, H l = none → Q (.ref l) (upd H l (.tup xs)) := rfl
theorem r_listd {vs : List V} : rListd vs H Q = ∃ p xs, vs = [.ref p] ∧ sq (H p) = some xs ∧ ∀ l, H l = none → Q (.ref l) (upd H l (.lst xs)) := rfl
theorem r_sld {x : V} {lo hi : Option Int} : rSld x lo hi H Q = ∃ a xs, x = .ref a ∧ H a = some (.lst xs) ∧ ∀ p, H p = none → Q (.ref p) (upd H p (.lst (cutV xs lo hi))) := rfl
theorem r_app {x : V} {vs : List V} : rAppend x vs H Q = ∃ l xs y, x = .ref l ∧ vs = [y] ∧ H l = some (.lst xs) ∧ xs.length < sizeLine ∧ Q .non (upd H l (.lst (xs ++ [y]))) := rfl
theorem r_ext {x : V} {vs : List V} : rExtend x vs H Q = ∃ l b xs zs, x = .ref l ∧ vs = [.ref b] ∧ H l = some (.lst xs) ∧ H b = some (.lst zs) ∧ xs.length + zs.length ≤ sizeLine ∧ Q .non (upd H l (.lst (xs ++ zs))) := rfl
theorem r_reverse {x : V} {vs : List V} : rReverse x vs H Q = ∃ l xs, x = .ref l ∧ vs = [] ∧ H l = some (.lst xs) ∧ Q .non (upd H l (.lst xs.reverse)) := rfl
theorem r_setl {o i v : V} {Q : Hp → Prop} : rSetL o i v H Q = ∃ p xs k j, o = .ref p ∧ i = .int k ∧ H p = some (.lst xs) ∧ ixN xs.length k = some j ∧ Q (upd H p (.lst (xs.set j v))) := rfl
theorem r_cat {x y : V} : rCat x y H Q = ∃ l b xs zs, x = .ref l ∧ y = .ref b ∧ H l = some (.lst xs) ∧ H b = some (.lst zs) ∧ xs.length + zs.length ≤ sizeLine ∧ ∀ p, H p = none → Q (.ref p) (upd H p (.lst (xs ++ zs))) := rfl
theorem r_int1 {xs : List V} : (fun xs H Q => (∃ i, xs = [V.int i] ∧ Q (V.int i) H) ∨ ∃ k, xs = [V.bl k] ∧ Q (V.int (if k = true then 1 else 0)) H : List V → Hp → VK → Prop) xs H Q = ((∃ i, xs = [V.int i] ∧ Q (V.int i) H) ∨ ∃ k, xs = [V.bl k] ∧ Q (V.int (if k = true then 1 else 0)) H) := rfl
theorem r_eqS {x y : V} : rEq x y H Q = (scal x y = true ∧ Q (.bl (decide (x = y))) H) := rfl
theorem r_neS {x y : V} : rNe x y H Q = (scal x y = true ∧ Q (.bl (!decide (x = y))) H) := rfl
theorem scal_ii {i j : Int} : scal (.int i) (.int j) = true := rfl
theorem scal_bb {i j : Bool} : scal (.bl i) (.bl j) = true := rfl
theorem scal_ss {i j : Str} : scal (.str i) (.str j) = true := rfl
theorem at0 {x : V} {xs : List V} : atI (x :: xs) 0 = some x := by
  unfold atI ixN
  rw [if_pos (by decide), if_pos (by simp)]
  rfl
theorem at1 {x y : V} {xs : List V} : atI (x :: y :: xs) 1 = some y := by
  unfold atI ixN
  rw [if_pos (by decide), if_pos (by rw [List.length_cons, List.length_cons]; omega)]
  rfl
theorem at2 {x y z : V} {xs : List V} : atI (x :: y :: z :: xs) 2 = some z := by
  unfold atI ixN
  rw [if_pos (by decide), if_pos (by rw [List.length_cons, List.length_cons, List.length_cons]; omega)]
  rfl
theorem atn {xs : List V} {i : Nat} {v : V} (h : xs[i]? = some v) : atI xs (i : Int) = some v := by
  have hi : i < xs.length := (List.getElem?_eq_some_iff.mp h).1
  unfold atI ixN
  rw [if_pos (Int.natCast_nonneg i), if_pos (by omega)]
  simpa using h
theorem ixn {n i : Nat} (h : i < n) : ixN n (i : Int) = some i := by
  unfold ixN
  rw [if_pos (Int.natCast_nonneg i), if_pos (by omega)]
  simp
theorem ix0 {n : Nat} : ixN (n + 1) 0 = some 0 := by
  unfold ixN
  rw [if_pos (by decide), if_pos (by omega)]
  rfl
theorem ix1 {n : Nat} : ixN (n + 1 + 1) 1 = some 1 := by
  unfold ixN
  rw [if_pos (by decide), if_pos (by omega)]
  rfl
theorem ix2 {n : Nat} : ixN (n + 1 + 1 + 1) 2 = some 2 := by
  unfold ixN
  rw [if_pos (by decide), if_pos (by omega)]
  rfl
theorem cm_l {i j : Int} (h : -(2 ^ 64) < i ∧ i < 2 ^ 64) : CMul i j = True := eq_true (.inl h)
theorem cm_r {i j : Int} (h : -(2 ^ 64) < j ∧ j < 2 ^ 64) : CMul i j = True := eq_true (.inr h)
theorem cm_mod {t j : Int} : CMul (t % 2147483647) j = True := eq_true (.inl ⟨by omega, by omega⟩)
theorem cdw {i j : Int} (h : 0 < j ∧ j < 2 ^ 200) : CDivW i j = True := eq_true (wide_div (b := 200) h.1 (by omega) (by decide) (by decide))
theorem cdw1009 {i : Int} : CDivW i 1009 = True := cdw (by decide)
theorem cdw2003 {i : Int} : CDivW i 2003 = True := cdw (by decide)
theorem cdw7 {i : Int} : CDivW i 7 = True := cdw (by decide)
theorem cdw64 {i : Int} : CDivW i 64 = True := cdw (by decide)
theorem cdw2 {i : Int} : CDivW i 2 = True := cdw (by decide)
theorem cm104729 {i : Int} : CMul 104729 i = True := cm_l (by decide)
theorem cm2 {i : Int} : CMul 2 i = True := cm_l (by decide)
theorem cm3 {i : Int} : CMul 3 i = True := cm_l (by decide)
theorem sz_lit {xs : List V} (h : xs.length ≤ 1000) : (xs.length ≤ sizeLine) = True := eq_true (Nat.le_trans h (by decide))
/-- while by a word of the slots and the heap, a test whose answer is known -/
theorem while_d {c : TT} {tb : TS} (Pv : L2.St → Hp → Prop) (m : L2.St → Hp → Nat) (h0 : Pv σ H)
    (hs : ∀ σ H, Pv σ H → ∃ b, (∀ Q : Bool → Hp → Prop, Q b H → c σ H Q) ∧ (b = true → tb { D with nx := fun σ' H' => Pv σ' H' ∧ m σ' H' < m σ H, ct := fun σ' H' => Pv σ' H' ∧ m σ' H' < m σ H, bk := D.nx } σ H) ∧ (b = false → D.nx σ H)) : tWhile c tb D σ H := by
  refine ⟨fun k σ H => k = m σ H ∧ Pv σ H, ⟨_, rfl, h0⟩, ?_⟩
  rintro k σ H ⟨rfl, p⟩
  obtain ⟨b, hc, h1, h2⟩ := hs σ H p
  refine hc _ ?_
  cases b with
  | true => exact ⟨_, fun σ' H' ⟨p', l⟩ => ⟨_, l, rfl, p'⟩, h1 rfl⟩
  | false => exact h2 rfl
end
/-! ### heaps -/
theorem upd_at {H : Hp} {a b : Addr} {o : HO} : L2.upd H a o b = if b = a then some o else H b := rfl
theorem une {a b : Addr} (h : b ≠ a) : ∀ (H : Hp) (o : HO), L2.upd H a o b = H b := fun H o => upd_ne h
theorem ne_new {H : Hp} {a p : Addr} {o : HO} (h : H a = some o) (hp : H p = none) : a ≠ p := ne_of_none h hp
theorem new_ne {H : Hp} {a p : Addr} {o : HO} (h : H a = some o) (hp : H p = none) : p ≠ a := (ne_of_none h hp).symm
theorem Same.new' {H H1 : Hp} {p : Addr} {o : HO} (h : Same H H1) (hp : H1 p = none) : Same H (L2.upd H1 p o) := fun b u e => by
  have e1 := h b u e
  rw [upd_ne (ne_of_none e1 hp)]
  exact e1
/-! ### loops -/
/-- what a loop over J asks -/
def LoopR (J : It) (g : TG) (tb : TS) (D : Ends) (σ : L2.St) (H1 : Hp) : Prop := ∃ W : Nat → Nat → L2.St → Hp → Prop, (∃ m, W 0 m σ H1) ∧ ∀ i m σ H, W i m σ H →
  (J.stop i H ∧ D.nx σ H) ∨ (J.go i H ∧ ∃ N : L2.St → Hp → Prop, (∀ σ' H', N σ' H' → ∃ m', m' < m ∧ W (i + 1) m' σ' H') ∧ ∀ x H', J.yld i H x H' → g x σ H' fun σ2 H2 => tb { D with nx := N, ct := N, bk := D.nx } σ2 H2)
section
variable {K : PySem.W.Frag} {σ : L2.St} {H : Hp} {D : Ends} {g : TG} {tb : TS}
theorem r_for1 {ta : TA} : tFor (iRng1 ta) g tb D σ H = ta σ H (fun vs H1 => ∃ j : Int, vs = [.int j] ∧ -(2 ^ 62) ≤ j ∧ j < 2 ^ 62 ∧ LoopR (Itr 0 j.toNat) g tb D σ H1) := rfl
theorem r_forL {tl : TE} : tFor (iList K tl) g tb D σ H = tl σ H (fun x H1 => ∃ a, x = .ref a ∧ (∃ xs, SqL K H1 a xs) ∧ LoopR (Itl K a) g tb D σ H1) := rfl
theorem r_forT {tl : TE} : tFor (iTup K tl) g tb D σ H = tl σ H (fun x H1 => ∃ a, x = .ref a ∧ (∃ xs, SqT K H1 a xs) ∧ LoopR (Itt K a) g tb D σ H1) := rfl
theorem lp_rng {n : Nat} (Pv : Nat → L2.St → Hp → Prop) (h0 : Pv 0 σ H)
    (hs : ∀ (i : Nat) σ H, i < n → Pv i σ H → g (.int (i : Int)) σ H fun σ2 H2 => tb { D with nx := Pv (i + 1), ct := Pv (i + 1), bk := D.nx } σ2 H2) (hd : ∀ σ H, Pv n σ H → D.nx σ H) : LoopR (Itr 0 n) g tb D σ H :=
  for_range Pv h0 (fun i σ H hi p => by
    have q := hs i σ H hi p
    rw [Int.zero_add]
    exact q) hd
theorem lp_list {a : Addr} {xs : List V} (Pv : Nat → L2.St → Hp → Prop) (h0 : Pv 0 σ H) (hl : ∀ i σ H, i ≤ xs.length → Pv i σ H → SqL K H a xs)
    (hs : ∀ i x σ H, xs[i]? = some x → Pv i σ H → g x σ H fun σ2 H2 => tb { D with nx := Pv (i + 1), ct := Pv (i + 1), bk := D.nx } σ2 H2) (hd : ∀ σ H, Pv xs.length σ H → D.nx σ H) : LoopR (Itl K a) g tb D σ H := for_list Pv h0 hl hs hd
theorem lp_tup {a : Addr} {xs : List V} (Pv : Nat → L2.St → Hp → Prop) (h0 : Pv 0 σ H) (hl : ∀ i σ H, i ≤ xs.length → Pv i σ H → SqT K H a xs)
    (hs : ∀ i x σ H, xs[i]? = some x → Pv i σ H → g x σ H fun σ2 H2 => tb { D with nx := Pv (i + 1), ct := Pv (i + 1), bk := D.nx } σ2 H2) (hd : ∀ σ H, Pv xs.length σ H → D.nx σ H) : LoopR (Itt K a) g tb D σ H := for_tup Pv h0 hl hs hd
/-- an empty list, an empty tuple -/
theorem lp_nil {a : Addr} (hl : SqL K H a []) (hd : D.nx σ H) : LoopR (Itl K a) g tb D σ H := for_list (xs := []) (fun i s h => s = σ ∧ h = H) ⟨rfl, rfl⟩ (fun i s h _ ⟨_, e⟩ => by rw [e]; exact hl) (fun i x s h e => by cases e) fun s h ⟨e1, e2⟩ => by rw [e1, e2]; exact hd
theorem lp_nilT {a : Addr} (hl : SqT K H a []) (hd : D.nx σ H) : LoopR (Itt K a) g tb D σ H := for_tup (xs := []) (fun i s h => s = σ ∧ h = H) ⟨rfl, rfl⟩ (fun i s h _ ⟨_, e⟩ => by rw [e]; exact hl) (fun i x s h e => by cases e) fun s h ⟨e1, e2⟩ => by rw [e1, e2]; exact hd
/-- a list comprehension over J: what is kept from turn to turn -/
def CompR (J : It) (g : TG) (tt : TT) (te : TE) (vs : List Nat) (σ : L2.St) (Q : VK) (D : Addr) (H0 : Hp) : Prop := ∃ W : Nat → Nat → Hp → Prop, (∃ m, W 0 m H0) ∧ ∀ i m H, W i m H →
  (J.stop i H ∧ Q (.ref D) H) ∨ (J.go i H ∧ ∃ Nx : Hp → Prop, (∀ H', Nx H' → ∃ m', m' < m ∧ W (i + 1) m' H') ∧ ∀ x H', J.yld i H x H' → g x (wipe σ vs) H' fun σ2 H2 => wipe σ2 vs = wipe σ vs ∧ tt σ2 H2 fun b H3 =>
    if b = true then te σ2 H3 fun y H4 => ∃ acc, H4 D = some (.lst acc) ∧ acc.length < sizeLine ∧ Nx (upd H4 D (.lst (acc ++ [y]))) else Nx H3)
theorem r_lcL {tl : TE} {tt : TT} {te : TE} {vs : List Nat} {Q : VK} : tLc (iList K tl) g tt te vs σ H Q = tl σ H (fun x H1 => ∃ a, x = .ref a ∧ (∃ xs, SqL K H1 a xs) ∧ ∀ D, H1 D = none → CompR (Itl K a) g tt te vs σ Q D (upd H1 D (.lst []))) := rfl
theorem r_lc1 {ta : TA} {tt : TT} {te : TE} {vs : List Nat} {Q : VK} : tLc (iRng1 ta) g tt te vs σ H Q = ta σ H (fun us H1 => ∃ j : Int, us = [.int j] ∧ -(2 ^ 62) ≤ j ∧ j < 2 ^ 62 ∧ ∀ D, H1 D = none → CompR (Itr 0 j.toNat) g tt te vs σ Q D (upd H1 D (.lst []))) := rfl
theorem cp_list {a : Addr} {xs : List V} {tt : TT} {te : TE} {vs : List Nat} {A : Addr} {H1 : Hp} {Q : VK} (Pv : Nat → Hp → Prop) (h0 : Pv 0 (upd H1 A (.lst []))) (hl : ∀ i H, i ≤ xs.length → Pv i H → SqL K H a xs)
    (hs : ∀ i x H, xs[i]? = some x → Pv i H → g x (wipe σ vs) H fun σ2 H2 => wipe σ2 vs = wipe σ vs ∧ tt σ2 H2 fun b H3 =>
      if b = true then te σ2 H3 fun y H4 => ∃ acc, H4 A = some (.lst acc) ∧ acc.length < sizeLine ∧ Pv (i + 1) (upd H4 A (.lst (acc ++ [y]))) else Pv (i + 1) H3) (hd : ∀ H, Pv xs.length H → Q (.ref A) H) :
    CompR (Itl K a) g tt te vs σ Q A (upd H1 A (.lst [])) := lc_list Pv h0 hl hs hd
theorem r_yes {QT : Bool → Hp → Prop} : tYes σ H QT = QT true H := rfl
end
theorem wipe_0 {σ : L2.St} : wipe σ [] = σ := rfl
theorem wipe_1 {σ : L2.St} {v : Nat} {vs : List Nat} : wipe σ (v :: vs) = (wipe σ vs).set v none := rfl
theorem cut_init (xs : List V) (x : V) : cutV (xs ++ [x]) none (some (-1)) = xs := by
  have e : HT.sIx (xs ++ [x]).length (xs ++ [x]).length (some (-1)) = xs.length := by
    simp [HT.sIx]
    omega
  unfold cutV
  rw [e, HT.sIx_none, List.drop_zero, Nat.sub_zero, List.take_left']
  rfl
theorem cut_last (xs : List V) (x : V) : cutV (xs ++ [x]) (some (-1)) none = [x] := by
  have e : HT.sIx (xs ++ [x]).length 0 (some (-1)) = xs.length := by
    simp [HT.sIx]
    omega
  unfold cutV
  rw [e, HT.sIx_none, List.drop_left', List.take_of_length_le]
  · rw [List.length_append]
    simp
  · rfl
theorem tyl {K : PySem.W.Frag} {H : Hp} {a : Addr} {xs : List V} (h : H a = some (.lst xs)) : tyV K "list" (.ref a) H := of_eq_true (tyV_lst (by rw [h]; rfl))
theorem szl {n : Nat} (h : n ≤ 1000) : n ≤ sizeLine := Nat.le_trans h (by decide)
theorem szlt {n : Nat} (h : n ≤ 1000) : n < sizeLine := Nat.lt_of_le_of_lt h (by decide)
/-- a loop over a written tuple, turn by turn -/
def UnrT (T : Addr) (all : List V) (g : TG) (tb : TS) (D : Ends) : List V → L2.St → Hp → Prop
  | [], σ, H => D.nx σ H
  | x :: xs, σ, H => g x σ H fun σ2 H2 => tb { D with nx := fun σ' H' => H' T = some (.tup all) ∧ UnrT T all g tb D xs σ' H', ct := fun σ' H' => H' T = some (.tup all) ∧ UnrT T all g tb D xs σ' H', bk := D.nx } σ2 H2
theorem unr_nil {T : Addr} {all : List V} {g : TG} {tb : TS} {D : Ends} {σ : L2.St} {H : Hp} : UnrT T all g tb D [] σ H = D.nx σ H := rfl
theorem unr_cons {T : Addr} {all : List V} {g : TG} {tb : TS} {D : Ends} {x : V} {xs : List V} {σ : L2.St} {H : Hp} : UnrT T all g tb D (x :: xs) σ H = g x σ H fun σ2 H2 => tb { D with nx := fun σ' H' => H' T = some (.tup all) ∧ UnrT T all g tb D xs σ' H', ct := fun σ' H' => H' T = some (.tup all) ∧ UnrT T all g tb D xs σ' H', bk := D.nx } σ2 H2 := rfl
theorem lp_unrT {K : PySem.W.Frag} {T : Addr} {all : List V} {g : TG} {tb : TS} {D : Ends} {σ : L2.St} {H : Hp} (h : H T = some (.tup all)) (u : UnrT T all g tb D all σ H) : LoopR (Itt K T) g tb D σ H := by
  refine lp_tup (xs := all) (fun i σ' H' => H' T = some (.tup all) ∧ UnrT T all g tb D (all.drop i) σ' H') ⟨h, u⟩ (fun i s h' _ q => SqT.of q.1) (fun i x s h' e q => ?_) fun s h' q => ?_
  · have e1 : all.drop i = x :: all.drop (i + 1) := by
      obtain ⟨hi, e2⟩ := List.getElem?_eq_some_iff.mp e
      rw [List.drop_eq_getElem_cons hi, e2]
    obtain ⟨_, q2⟩ := q
    rw [e1] at q2
    exact q2
  · obtain ⟨_, q2⟩ := q
    rw [List.drop_length] at q2
    exact q2
theorem Paired.snoc' {α β : Type} {F : α → β → Prop} : ∀ {l1 : List α} {l2 : List β} {a : α} {b : β}, Paired F l1 l2 → F a b → Paired F (l1 ++ [a]) (l2 ++ [b])
  | _, _, _, _, .nil, h => .cons h .nil
  | _, _, _, _, .cons r t, h => .cons r (Paired.snoc' t h)
theorem Paired.map' {α β : Type} {F G : α → β → Prop} {l1 : List α} {l2 : List β} (p : Paired F l1 l2) (h : ∀ a b, F a b → G a b) : Paired G l1 l2 := Paired.mapP p h
theorem cut_tail (x : V) (xs : List V) : cutV (x :: xs) (some 1) none = xs := by
  have e : HT.sIx (x :: xs).length 0 (some 1) = 1 := by
    simp [HT.sIx]
  unfold cutV
  rw [e, HT.sIx_none]
  simp
/-- for x in a name that holds a list or a tuple -/
def iSeqV (K : PySem.W.Frag) (i : Nat) : TI := fun σ H R => ∃ a, σ[i]? = some (some (.ref a)) ∧ (((∃ xs, H a = some (.lst xs)) ∧ R (Itl K a) H) ∨ ((∃ xs, H a = some (.tup xs)) ∧ R (Itt K a) H))
theorem pi_seqV {X : Cx} (i : Nat) {x : Str} {tg : Expr} {pos : Pos} (hN : X.N[i]? = some x := by rfl) (hv : Vis X.env.scope x := by first | exact Or.inl rfl | exact Or.inr (Or.inl rfl) | exact Or.inr (Or.inr rfl)) (hd : (x == ("__debug__" : Str)) = false := by decide)
    (hcd : (x == ("__classdict__" : Str)) = false := by decide) : PI X tg (.Name x pos) (iSeqV X.K i) := ⟨fun pins s σ H R I h => by
  obtain ⟨a, h0, ⟨⟨xs, e⟩, q⟩ | ⟨⟨xs, e⟩, q⟩⟩ := h
  · exact (pi_list (pe_var hN hv hd hcd)).run pins s σ H R I ⟨_, h0, a, rfl, ⟨_, SqL.of e⟩, q⟩
  · exact (pi_tup (pe_var hN hv hd hcd)).run pins s σ H R I ⟨_, h0, a, rfl, ⟨_, SqT.of e⟩, q⟩⟩
theorem r_forS {K : PySem.W.Frag} {i : Nat} {g : TG} {tb : TS} {D : Ends} {σ : L2.St} {H : Hp} : tFor (iSeqV K i) g tb D σ H = ∃ a, σ[i]? = some (some (.ref a)) ∧ (((∃ xs, H a = some (.lst xs)) ∧ LoopR (Itl K a) g tb D σ H) ∨ ((∃ xs, H a = some (.tup xs)) ∧ LoopR (Itt K a) g tb D σ H)) := rfl
theorem lp_seq {K : PySem.W.Frag} {g : TG} {tb : TS} {D : Ends} {σ : L2.St} {H : Hp} {a : Addr} {xs : List V} (h : sq (H a) = some xs) (Pv : Nat → L2.St → Hp → Prop) (h0 : Pv 0 σ H) (hl : ∀ i σ H', Pv i σ H' → H' a = H a)
    (hs : ∀ i x σ H, xs[i]? = some x → Pv i σ H → g x σ H fun σ2 H2 => tb { D with nx := Pv (i + 1), ct := Pv (i + 1), bk := D.nx } σ2 H2) (hd : ∀ σ H, Pv xs.length σ H → D.nx σ H) :
    ((∃ xs, H a = some (.lst xs)) ∧ LoopR (Itl K a) g tb D σ H) ∨ ((∃ xs, H a = some (.tup xs)) ∧ LoopR (Itt K a) g tb D σ H) := by
  rcases sq_cases h with e | e
  · exact .inl ⟨⟨_, e⟩, lp_list Pv h0 (fun i s h' _ q => SqL.of (by rw [hl i s h' q, e])) hs hd⟩
  · exact .inr ⟨⟨_, e⟩, lp_tup Pv h0 (fun i s h' _ q => SqT.of (by rw [hl i s h' q, e])) hs hd⟩
theorem Paired.at' {α β : Type} {F : α → β → Prop} : ∀ {l1 : List α} {l2 : List β} {i : Nat}, Paired F l1 l2 → (h1 : i < l1.length) → (h2 : i < l2.length) → F l1[i] l2[i]
  | _, _, 0, .cons r _, _, _ => r
  | _, _, i + 1, .cons _ t, h1, h2 => Paired.at' (i := i) t (by simpa using h1) (by simpa using h2)

/-! ### isinstance, in a form that simp can reckon -/
structure ClsI (K : PySem.W.Frag) (C : Addr) : Prop where
  cl : Cls K C
  ha : PySem.W.findIn K (.ref C) "__class__" = some (some (.builtin "object.__class__"))
  hn : PySem.W.specialIn K (.builtin "object.__class__") "__get__" = some (some (.builtin "getset_descriptor.__get__"))
  htk : PySem.W.takesIn K (.builtin "object.__class__") = some true
  hm : PySem.W.mroIn K C (.type "object") = some true
/-- what stands there, by its class (of own classes C alone) -/
def tyH (C : Addr) : Option HO → Option Value
  | some (.lst _) => some (.type "list")
  | some (.tup _) => some (.type "tuple")
  | some (.dK _) => some (.type "dict")
  | some (.ins D _ _) => if D = C then some (.ref C) else none
  | _ => none
def tyD (C : Addr) (H : Hp) : V → Option Value
  | .non => some (.type "NoneType")
  | .bl _ => some (.type "bool")
  | .int _ => some (.type "int")
  | .str _ => some (.type "str")
  | .ref a => tyH C (H a)
  | _ => none
theorem tyD_ok {K : PySem.W.Frag} {C : Addr} {H : Hp} {x : V} {t : Value} (c : ClsI K C) (h : tyD C H x = some t) : TyX K H x t := by
  cases x with
  | non => cases h; exact .base .non
  | bl b => cases h; exact .base (.bl b)
  | int i => cases h; exact .base (.int i)
  | str s => cases h; exact .base (.str s)
  | ref a =>
    have h2 : tyH C (H a) = some t := h
    cases e : H a with
    | none =>
      rw [e] at h2
      cases h2
    | some o =>
      rw [e] at h2
      cases o with
      | lst xs => cases h2; exact .base (.lst e)
      | tup xs => cases h2; exact .base (.tup e)
      | dK kvs => cases h2; exact .base (.dK e)
      | ins D dx fs =>
        have h3 : (if D = C then some (Value.ref C) else none) = some t := h2
        by_cases q : D = C
        · rw [if_pos q] at h3
          cases h3
          subst q
          exact .base (.ins e c.cl c.ha c.hn c.htk c.hm)
        · rw [if_neg q] at h3
          cases h3
      | _ => cases h2
  | _ => cases h
def clsD : V → Option Value
  | .ty n => some (.type n)
  | .ref C => some (.ref C)
  | _ => none
theorem clsD_ok {c : V} {u : Value} (h : clsD c = some u) : ClsV c u := by
  cases c with
  | ty n => cases h; exact .ty n
  | ref C => cases h; exact .own C
  | _ => cases h
def rIsD (K : PySem.W.Frag) (C : Addr) : List V → Hp → VK → Prop := fun vs H Q => ∃ x c t u b, vs = [x, c] ∧ clsD c = some u ∧ tyD C H x = some t ∧ PySem.W.kitOne K t u = some b ∧ Q (.bl b) H
theorem call_is_d {X : Cx} {C : Addr} (c : ClsI X.K C) : CallR X (.builtin "isinstance") (rIsD X.K C) := CallR.imp' (call_isi (X := X)) fun vs H Q ⟨x, d, t, u, b, e, h1, h2, h3, q⟩ => ⟨x, d, t, u, b, e, clsD_ok h1, tyD_ok c h2, h3, q⟩
/-- isinstance(x, (list, tuple)) -/
def rIsLT (K : PySem.W.Frag) (C : Addr) : List V → Hp → VK → Prop := fun vs H Q => ∃ x tp t b, vs = [x, .ref tp] ∧ H tp = some (.tup [.ty "list", .ty "tuple"]) ∧ tyD C H x = some t ∧ PySem.W.kitAny K t [.type "list", .type "tuple"] = some b ∧ Q (.bl b) H
theorem call_is_lt {X : Cx} {C : Addr} (c : ClsI X.K C) : CallR X (.builtin "isinstance") (rIsLT X.K C) := CallR.imp' (call_isiT (X := X)) fun vs H Q ⟨x, tp, t, b, e, h1, h2, h3, q⟩ =>
  ⟨x, tp, _, t, _, b, e, h1, .cons (.ty "list") (.cons (.ty "tuple") .nil), tyD_ok c h2, h3, q⟩
section
variable {K : PySem.W.Frag} {C : Addr} {H : Hp} {Q : VK} {σ : L2.St} {D : Ends}
theorem r_isd {vs : List V} : rIsD K C vs H Q = ∃ x c t u b, vs = [x, c] ∧ clsD c = some u ∧ tyD C H x = some t ∧ PySem.W.kitOne K t u = some b ∧ Q (.bl b) H := rfl
theorem r_islt {vs : List V} : rIsLT K C vs H Q = ∃ x tp t b, vs = [x, .ref tp] ∧ H tp = some (.tup [.ty "list", .ty "tuple"]) ∧ tyD C H x = some t ∧ PySem.W.kitAny K t [.type "list", .type "tuple"] = some b ∧ Q (.bl b) H := rfl
theorem cD_ty {n : String} : clsD (.ty n) = some (.type n) := rfl
theorem cD_ref {a : Addr} : clsD (.ref a) = some (.ref a) := rfl
theorem tD_non : tyD C H .non = some (.type "NoneType") := rfl
theorem tD_bl {b : Bool} : tyD C H (.bl b) = some (.type "bool") := rfl
theorem tD_int {i : Int} : tyD C H (.int i) = some (.type "int") := rfl
theorem tD_str {s : Str} : tyD C H (.str s) = some (.type "str") := rfl
theorem tD_ref {a : Addr} : tyD C H (.ref a) = tyH C (H a) := rfl
theorem tH_lst {xs : List V} : tyH C (some (.lst xs)) = some (.type "list") := rfl
theorem tH_tup {xs : List V} : tyH C (some (.tup xs)) = some (.type "tuple") := rfl
theorem tH_dK {kvs : List (Key × V)} : tyH C (some (.dK kvs)) = some (.type "dict") := rfl
theorem tH_ins {dx : Addr} {fs : List (Str × V)} : tyH C (some (.ins C dx fs)) = some (.ref C) := if_pos rfl
theorem ki_self {t : Value} : PySem.W.kitOne K t t = some true := by
  unfold PySem.W.kitOne
  rw [if_pos (by simp)]
theorem ki_int_bool : PySem.W.kitOne K (.type "int") (.type "bool") = some false := kit_ty (by decide +kernel)
theorem ki_non_int : PySem.W.kitOne K (.type "NoneType") (.type "int") = some false := kit_ty (by decide +kernel)
theorem ki_str_int : PySem.W.kitOne K (.type "str") (.type "int") = some false := kit_ty (by decide +kernel)
theorem ki_lt_lst : PySem.W.kitAny K (.type "list") [.type "list", .type "tuple"] = some true := by
  unfold PySem.W.kitAny
  rw [ki_self]
theorem ki_lt_tup : PySem.W.kitAny K (.type "tuple") [.type "list", .type "tuple"] = some true := by
  have e : PySem.W.kitOne K (.type "tuple") (.type "list") = some false := kit_ty (by decide +kernel)
  unfold PySem.W.kitAny
  rw [e]
  unfold PySem.W.kitAny
  rw [ki_self]
theorem r_fld {ta : TE} {f : Str} : tFld K ta f σ H Q = ta σ H (fun x H1 => ∃ a C dx fs v, x = .ref a ∧ H1 a = some (.ins C dx fs) ∧ Cls K C ∧ NoAttr K C f ∧ fs.lookup f = some v ∧ Q v H1) := rfl
theorem r_sfld {ta tv : TE} {f : Str} : sFld K ta tv f D σ H = tv σ H (fun y H1 => ta σ H1 fun x H2 => ∃ a C dx fs, x = .ref a ∧ H2 a = some (.ins C dx fs) ∧ Cls K C ∧ NoAttr K C f ∧ fs.length < 1000 ∧ D.nx σ (upd H2 a (.ins C dx (putF f y fs)))) := rfl
end
theorem cx_K {CX : CXT} {P : Program} {w : World} {K : PySem.W.Frag} {mg : Str → Option Value} {base : Heap} {N : List Str} {q : Str} {sc : Scope} {f : Addr} {cd : Value} {A : Around} {outer : List Env} {s : Shared} {H : Hp} {E : XK} : (cxOf CX P w K mg base N q sc f cd A outer s H E).K = K := rfl
/-! ### own exceptions with one field -/
def spXInit (C : Addr) (f : Str) : Sp := fun vs H Q _ => ∃ (a : Addr) (v : V), vs = [.ref a, v] ∧ H a = some (exo a C none) ∧ ∀ d, H d = none → d ≠ a → Q .non (upd (upd H d (exd d [(f, v)])) a (exo a C (some d)))
structure Exn (P : Program) (w : World) (K : PySem.W.Frag) (mg : Str → Option Value) (base : Heap) (x : Str) (C : Addr) (f : Str) : Prop where
  ox : OexC K C
  gl : mg x = some (.ref C)
  ex : ∃ fI fd, PySem.W.findIn K (.ref C) "__init__" = some (some (.ref fI)) ∧ PySem.W.typeIn K (.ref fI) = some (.type "function") ∧ FnOk P w K mg base CX0 1 fI fd ["self", f] (spXInit C f) ∧ Binds K fd ["self", f] []
theorem pmk_x {X : Cx} {x f : Str} {C : Addr} {e : Expr} {te : TE} {p pos : Pos} (N : Exn X.prog X.w X.K X.mg X.base x C f) (hr : Room 2 X.A) (hg : Gl X x) (ha : PE X e te)
    (hs : starEach [e] X.env = (false, eval e X.env) :: starEach [] X.env := by rfl) (hdb : (x == ("__debug__" : Str)) = false := by decide) (hpl : (backTo pos (starEach [] X.env)).any (·.1) = false := by rfl) :
    PMk X (.Call (.Name x p) [e] [] pos) (tMkO C (spXInit C f) [] (tCons te tNil)) := by
  obtain ⟨fI, fd, iC, tI, F, b⟩ := N.ex
  exact pmk_oex N.ox iC tI F hr b .nil pass0 hg N.gl (pa_cons ha pa_nil hs) hdb hs hpl
/-- what a raise of such an exception asks -/
theorem raise_x {C : Addr} {f : Str} {te : TE} {σ : L2.St} {H : Hp} {E : XK} {v : V} (h : ∀ Q : VK, Q v H → te σ H Q) (k : ∀ d H', H d = none → Same H H' → H' d = some (.xd [(f, v)]) → E (.ref C) (some d) H') : tMkO C (spXInit C f) [] (tCons te tNil) σ H E := by
  refine h _ ⟨by show 1 ≤ 1000; decide, fun a ha => ⟨a, v, rfl, upd_same, fun d hd da => ⟨rfl, d, [(f, v)], upd_same, ?_, ?_, ?_⟩⟩⟩
  · rw [upd_ne da, upd_same]
  · rw [upd_ne da] at hd
    exact hd
  · rw [upd_ne da] at hd
    refine k d _ hd (fun b o e => ?_) upd_same
    have ba : b ≠ a := ne_new e ha
    have bd : b ≠ d := ne_new e hd
    rw [upd_ne bd, del_ne ba, upd_ne ba, upd_ne bd, upd_ne ba]
    exact e

/-! ### enumerate of a tuple -/
section
variable {prog : Program} {w : World} {A : Around} {E : Value → Shared → Prop} {s : Shared}
theorem meets_enumerate_newT (l : Addr) (items : Array Value) (n : Nat) (dct : Option Addr) (sl : Array (Option Value)) :
    Meets (Builtin.«enumerate.__new__» ⟨[.type "enumerate", .ref l], []⟩) (fun _ R s => s.heap.get? l = some { cls := .type "tuple", dict := dct, data := .seq items n, slots := sl } ∧
      R (.ok (.ret (.ref (s.heap.push { cls := .type "tuple_iterator", data := .fields #[.ref l, .int 0 0] }).objs.size)))
        { s with heap := (s.heap.push { cls := .type "tuple_iterator", data := .fields #[.ref l, .int 0 0] }).push { cls := .type "enumerate", data := .fields #[.none, .bool false, .ref s.heap.objs.size, rawInt 0, .none, .none] } }) :=
  .of_wp fun prog w A R s h => by
    obtain ⟨hp, g, d, tk, os⟩ := s; obtain ⟨hl, h⟩ := h
    have hsub := sub_enumerate
    have hL : Heap.IsTuple (Shared.heap ⟨hp, g, d, tk, os⟩) l items := ⟨_, hl, rfl, n, rfl⟩
    wp_walk using AutoSeq1.wpAny_loadPart' hl
    refine wpAny_stack_any fun st => wpAny_pure ?_
    split
    · rename_i c _ _ _ _ _
      cases (c == Value.type "enumerate")
      · wp_walk using AutoSeq1.wpAny_loadPart' hl, wpAny_pyIter_tuple hL
        exact ⟨_, rfl, h⟩
      · wp_walk using AutoSeq1.wpAny_loadPart' hl, wpAny_pyIter_tuple hL
        exact ⟨_, rfl, h⟩
    · wp_walk using AutoSeq1.wpAny_loadPart' hl, wpAny_pyIter_tuple hL
      exact ⟨_, rfl, h⟩
theorem call_enumerate_tuple {l : Addr} {items : Array Value} {Q : Value → Shared → Prop} (hL : s.heap.IsTuple l items)
    (h : ∀ h', IsEnum h' (s.heap.objs.size + 1) s.heap.objs.size 0 .none → h'.IsTupleIter s.heap.objs.size l 0 → h'.objs.size = s.heap.objs.size + 2 →
      (∀ b o, s.heap.get? b = some o → h'.get? b = some o) → Q (.ref (s.heap.objs.size + 1)) { s with heap := h' }) :
    wpAny (model prog w) A (call (.type "enumerate") [.ref l]) Q E s := by
  obtain ⟨⟨c, dct, dt, sl⟩, hl, hc, n, hd⟩ := hL
  replace hc : c = .type "tuple" := hc
  replace hd : dt = .seq items n := hd
  subst hc hd
  refine callType_new F.called_enumerate (by decide) (F.typeCall_enumerate_1 _) (F.newCall_enumerate_1 _) (fun obj => F.args_object_init_2 obj _) F.entry_enumerate_new
    (meets_enumerate_newT l items n dct sl) ⟨hl, ?_⟩
  have hz : (s.heap.push { cls := .type "tuple_iterator", data := .fields #[.ref l, .int 0 0] }).objs.size = s.heap.objs.size + 1 := Heap.size_push ..
  show _ ∧ _
  rw [hz]
  have he : IsEnum ((s.heap.push { cls := .type "tuple_iterator", data := .fields #[.ref l, .int 0 0] }).push
      { cls := .type "enumerate", data := .fields #[.none, .bool false, .ref s.heap.objs.size, rawInt 0, .none, .none] }) (s.heap.objs.size + 1) s.heap.objs.size 0 .none := by
    have := Heap.get?_push_size (s.heap.push { cls := .type "tuple_iterator", data := .fields #[.ref l, .int 0 0] })
      (o := { cls := .type "enumerate", data := .fields #[.none, .bool false, .ref s.heap.objs.size, rawInt 0, .none, .none] }) rfl
    rw [hz] at this; exact this
  refine ⟨⟨_, he, rfl⟩, h _ he ⟨_, Heap.get?_push_of_some _ (Heap.get?_push_size _ rfl), rfl, rfl⟩ (by rw [Heap.size_push, hz]) fun b o x => Heap.get?_push_of_some _ (Heap.get?_push_of_some _ x)⟩
end
/-- the tuple at a, each item in a new pair -/
def IteT (K : PySem.W.Frag) (a : Addr) : It :=
  ⟨fun i H => ∃ (xs : List V) (x : V), SqT K H a xs ∧ xs[i]? = some x, fun i H v H' => ∃ T x, v = .ref T ∧ H T = none ∧ H' = L2.upd H T (.tup [.int (i : Nat), x]) ∧ ∀ xs, SqT K H a xs → xs[i]? = some x, fun i H => ∃ xs : List V, SqT K H a xs ∧ xs.length ≤ i⟩
theorem turn_enumT {P : Program} {w : World} {K : PySem.W.Frag} {elts : List Expr} {kk : Nat} {tpos : Pos} (a e it : Addr) (hai : a ≠ it) (hea : e ≠ a) :
    Turn P w K (.Tuple elts kk tpos) (IteT K a) [e, it] e (fun i h => (∃ old, IsEnum h e it ((i : Nat) : Int) old) ∧ h.IsTupleIter it a i ∧ e ≠ it) where
  mem := by simp
  obj := fun i h st b hb => by
    obtain ⟨⟨old, he⟩, ⟨o, ho, hc, hd⟩, _⟩ := st
    have e' : b = e ∨ b = it := by simpa using hb
    rcases e' with z | z
    · rw [z]; exact ⟨_, he, fun v q => nomatch q⟩
    · rw [z]; exact ⟨o, ho, fun v q => by rw [hd] at q; cases q⟩
  keep := fun i h h' st k => let ⟨⟨old, he⟩, hi, hne⟩ := st; ⟨⟨old, k e (by simp) _ he⟩, hi.at fun o q => k it (by simp) o q, hne⟩
  item := by
    intro X hP hw hK hc i pins s σ H E I hf st hg
    subst hP hw hK
    obtain ⟨⟨old, he⟩, hit, hne⟩ := st
    obtain ⟨xs, x, hq, hx⟩ := hg
    obtain ⟨its, rv, p, hz⟩ := I.tuple hq
    have p' : s.heap.IsTuple a its.toArray := p
    obtain ⟨u, hu, ru⟩ := rv.get hx
    have hel : e < s.heap.objs.size := Heap.lt_size he
    have hil : it < s.heap.objs.size := by obtain ⟨_, q, _⟩ := hit; exact Heap.lt_size q
    have hli : i < its.toArray.size := by
      have := (List.getElem?_eq_some_iff.mp hu).1
      simpa using this
    refine wpAny_pyNext_enum_itemD (Draws.tuple (A := X.A.in1) (I.ok.hd hc) it a hai its.toArray) he ⟨hit, p'⟩ hli hne (by simp [hne, hea]) fun u2 h' tk hu2 ho hst hT hsz hk => ?_
    obtain rfl : u2 = u := by
      have e1 : its.toArray[i]? = some u := by simpa using hu
      rw [e1] at hu2
      exact (Option.some.inj hu2).symm
    have hit' := hst.1
    refine ⟨_, rfl, wpAny_letOwnedTupleGo_enum (s := { s with heap := h', toks := tk + 1 }) ho fun h'' he' sb => ?_⟩
    have hT2 : h''.get? s.heap.objs.size = some { cls := .type "tuple", data := .seq #[.int i tk, u2] } := (sb.2 _ (Nat.ne_of_gt hel)).trans hT
    have new : ObjOk X.prog X.w (L2.upd H s.heap.objs.size (.tup [.int (i : Nat), x])) h'' s.heap.objs.size (.tup [.int (i : Nat), x]) :=
      ⟨by show 2 ≤ sizeLine; decide, [.int i tk, u2], .cons ⟨_, rfl⟩ (.cons ru .nil), ⟨_, hT2, rfl, _, rfl⟩⟩
    have I1 : Inv X pins σ (L2.upd H s.heap.objs.size (.tup [.int (i : Nat), x])) { s with heap := h'', toks := tk + 1 } :=
      I.turnedNew (ch := [e, it]) (fun b ob hb q => (sb.2 b (fun z => hb (by simp [z]))).trans (hk b ob (fun z => hb (by simp [z])) (fun z => hb (by simp [z])) q)) hf (Nat.le_refl _) new
    refine ⟨.ref s.heap.objs.size, _, I1, rfl, ⟨_, x, rfl, I.hok.fresh (Nat.le_refl _), rfl, fun ys hy => by rw [I.tuple_inj hy hq]; exact hx⟩, ⟨⟨u2, ?_⟩, hit'.at fun o q => (sb.2 it (Ne.symm hne)).trans q, hne⟩, fun b hb => ?_⟩
    · have e1 : ((i + 1 : Nat) : Int) = (i : Int) + 1 := by omega
      rw [e1]; exact he'
    · have hb' : b < s.heap.objs.size := by
        have e' : b = e ∨ b = it := by simpa using hb
        rcases e' with z | z
        · rw [z]; exact hel
        · rw [z]; exact hil
      rw [upd_ne (Nat.ne_of_lt hb')]
      exact (hf b hb).1
  done := by
    intro X hP hw hK hc i pins s σ H E I hf st hg
    subst hP hw hK
    obtain ⟨⟨old, he⟩, hit, hne⟩ := st
    obtain ⟨xs, hq, hx⟩ := hg
    obtain ⟨its, rv, p, hz⟩ := I.tuple hq
    have p' : s.heap.IsTuple a its.toArray := p
    obtain ⟨f0, f1, f2, f3, f4, f5⟩ := hf it (by simp)
    have hl := rv.length
    have hT : s.TypeIs (.ref e) "enumerate" := ⟨_, he, rfl⟩
    unfold pyNext
    refine wpAny_bind (wpAny_attempt (wpAny_callSpecial?_slot (name := Str.ofString "__next__") hT F.slot_enumerate_next
      (wpAny_call_entry F.slot_enumerate_next hT F.entry_enumerate_next ?_ (F.args_enumerate_next_1 _))))
    show wpAny _ _ (field (.ref e) 2 >>= _) _ _ _
    refine wpAny_bind (wpAny_field he rfl (x := .ref it) rfl ?_)
    refine wpAny_bind (wpAny_nextOf_tuple_end (I.ok.hd hc) hit p' (by simp; omega) fun h' e2 he' hx' => ?_)
    obtain ⟨o, ho, hc2⟩ := hx'
    refine wpAny_bind (wpAny_isInstance (T := "StopIteration") (b := true) ⟨o, ho, hc2⟩ isSubtype_stop ?_)
    exact wpAny_pure ⟨rfl, I.turned (t' := s.toks) (fun b o hb q => he' b o hb q) f0 f1 f3 f4 f5⟩
  self := fun A i s Q E st h => let ⟨⟨_, he⟩, _⟩ := st; wpAny_pyIter_enum he h
/-- enumerate(xs), xs a list or a tuple -/
def iEnumS (K : PySem.W.Frag) (ta : TA) : TI := fun σ H R => ta σ H fun vs H1 => ∃ a, vs = [.ref a] ∧ (((∃ xs, H1 a = some (.lst xs)) ∧ R (Ite K a) H1) ∨ ((∃ xs, H1 a = some (.tup xs)) ∧ R (IteT K a) H1))
theorem pi_enumS {X : Cx} {e : Expr} {ta : TA} {p pos tpos : Pos} {elts : List Expr} {kk : Nat} (hg : Gl X "enumerate") (hm : X.mg "enumerate" = none) (ha : PA X [e] ta) (hs : starEach [e] X.env = [(false, eval e X.env)] := by rfl) :
    PI X (.Tuple elts kk tpos) (.Call (.Name "enumerate" p) [e] [] pos) (iEnumS X.K ta) := by
  refine ⟨fun pins s σ H R I h => ?_⟩
  refine Call_ (ld_blt I hg hm boot_enumerate (PyProof.Rows.callWith_type1 (thn (ha.run pos pins s σ H _ I h) fun us s1 ⟨vs, H1, I1, r1, q1⟩ => ?_) hs rfl))
  obtain ⟨a, ex, q1⟩ := q1
  subst ex
  cases r1 with
  | cons r rr =>
    cases rr
    cases r
    rcases q1 with ⟨⟨xs, hq⟩, q⟩ | ⟨⟨xs, hq⟩, q⟩
    · obtain ⟨its, rv, p', hz⟩ := I1.list (SqL.of hq)
      refine call_enumerate_list p'.isList fun h' he hit hsz hk => wpAny_pyIter_enum he ?_
      have I2 : Inv X pins σ H1 { s1 with heap := h' } := I1.kept (t' := s1.toks) hk
      refine ⟨s1.heap.objs.size + 1, [s1.heap.objs.size + 1, s1.heap.objs.size], _, _, H1, rfl, I2, turn_enum a (s1.heap.objs.size + 1) s1.heap.objs.size, ⟨⟨.none, he⟩, hit, Nat.succ_ne_self _⟩, fun b hb => ?_, q⟩
      have e' : b = s1.heap.objs.size + 1 ∨ b = s1.heap.objs.size := by simpa using hb
      have hle : s1.heap.objs.size ≤ b := by
        rcases e' with z | z
        · rw [z]; exact Nat.le_add_right _ _
        · rw [z]; exact Nat.le_refl _
      exact I1.fpOk hle (I1.hok.fresh hle)
    · obtain ⟨its, rv, p', hz⟩ := I1.tuple (SqT.of hq)
      have p2 : s1.heap.IsTuple a its.toArray := p'
      have hal : a < s1.heap.objs.size := by obtain ⟨o, q, _⟩ := p2; exact Heap.lt_size q
      refine call_enumerate_tuple p2 fun h' he hit hsz hk => wpAny_pyIter_enum he ?_
      have I2 : Inv X pins σ H1 { s1 with heap := h' } := I1.kept (t' := s1.toks) hk
      refine ⟨s1.heap.objs.size + 1, [s1.heap.objs.size + 1, s1.heap.objs.size], _, _, H1, rfl, I2, turn_enumT a (s1.heap.objs.size + 1) s1.heap.objs.size (Nat.ne_of_lt hal) (Nat.ne_of_gt (Nat.lt_succ_of_lt hal)), ⟨⟨.none, he⟩, hit, Nat.succ_ne_self _⟩, fun b hb => ?_, q⟩
      have e' : b = s1.heap.objs.size + 1 ∨ b = s1.heap.objs.size := by simpa using hb
      have hle : s1.heap.objs.size ≤ b := by
        rcases e' with z | z
        · rw [z]; exact Nat.le_add_right _ _
        · rw [z]; exact Nat.le_refl _
      exact I1.fpOk hle (I1.hok.fresh hle)

/-! ### a star in a list display; a list times a number -/
def tStarD (te : TE) (t : TA) : TA := fun σ H Q => te σ H fun x H1 => ∃ p xs, x = .ref p ∧ sq (H1 p) = some xs ∧ t σ H1 fun ys H2 => Q (xs ++ ys) H2
section
variable {X : Cx}
theorem PA.weak {es : List Expr} {t t' : TA} (h : PA X es t) (i : ∀ σ H Q, t' σ H Q → t σ H Q) : PA X es t' := ⟨fun pos pins s σ H Q I q => h.run pos pins s σ H Q I (i _ _ _ q)⟩
theorem pa_starD {e : Expr} {es : List Expr} {te : TE} {t : TA} {p : Pos} (he : PE X e te) (hr : PA X es t) (hs : starEach (.Starred e p :: es) X.env = (true, eval e X.env) :: starEach es X.env := by rfl) : PA X (.Starred e p :: es) (tStarD te t) :=
  PA.weak (StX.pa_star (PE.mcl he) hr hs) fun σ H Q q => ⟨_, q, fun v H' ⟨a, xs, e1, h, k⟩ => ⟨a, xs, e1, (by
    rcases sq_cases h with h | h
    · exact .inr (SqL.of h)
    · exact .inl (SqT.of h)), k⟩⟩
theorem r_starD {te : TE} {t : TA} {σ : L2.St} {H : Hp} {QA : List V → Hp → Prop} : tStarD te t σ H QA = te σ H (fun x H1 => ∃ p xs, x = .ref p ∧ sq (H1 p) = some xs ∧ t σ H1 fun ys H2 => QA (xs ++ ys) H2) := rfl
theorem r_rep {x y : V} {H : Hp} {Q : VK} : rRep x y H Q = ∃ l k xs, x = .ref l ∧ y = .int k ∧ H l = some (.lst xs) ∧ -(2 ^ 63) ≤ k ∧ k < 2 ^ 63 ∧ xs.length * k.toNat ≤ sizeLine ∧ ∀ p, H p = none → Q (.ref p) (upd H p (.lst (List.replicate k.toNat xs).flatten)) := rfl
end

end C46

set_option maxHeartbeats 1000000
namespace C46
open PySem PySem.Spec PyProof.Rows L2
def vn (xs : List Nat) : List V := xs.map fun d : Nat => V.int (d : Int)
theorem vn_app {xs ys : List Nat} : vn (xs ++ ys) = vn xs ++ vn ys := by
  unfold vn
  rw [List.map_append]
theorem vn_len {xs : List Nat} : (vn xs).length = xs.length := by
  unfold vn
  rw [List.length_map]
structure Txt (mg : Str → Option Value) : Prop where
  b_len : mg "len" = none
  b_int : mg "int" = none
  b_range : mg "range" = none
  b_tuple : mg "tuple" = none
  b_list : mg "list" = none
  b_isinstance : mg "isinstance" = none
  b_bool : mg "bool" = none
  b_str : mg "str" = none
  b_min : mg "min" = none
  b_sorted : mg "sorted" = none
  b_enumerate : mg "enumerate" = none
  g_EXTENDED_ARG : ∃ t, mg "EXTENDED_ARG" = some (.int 71 t)
  g_FIRST_WITH_ARGUMENT : ∃ t, mg "FIRST_WITH_ARGUMENT" = some (.int 45 t)
  g_GREATEST_ARGUMENT : ∃ t, mg "GREATEST_ARGUMENT" = some (.int 4294967295 t)
/-! ### numbers of several bytes -/
def extN (n : Nat) : Nat := if n < 256 then 0 else if n < 65536 then 1 else if n < 16777216 then 2 else 3
def spExtra : Sp := fun vs H Q _ => ∃ n : Nat, vs = [.int (n : Int)] ∧ n < 4294967296 ∧ Q (.int (extN n : Nat)) H
theorem bits_n (n : Nat) : Builtin.Int.intBits (n : Int) = if n = 0 then 0 else n.log2 + 1 := by
  unfold Builtin.Int.intBits
  simp
theorem ext_bits {n : Nat} (h0 : ¬ n < 256) (h : n < 4294967296) : (((Builtin.Int.intBits (n : Int) : Nat) : Int) - 1) / 8 = ((extN n : Nat) : Int) := by
  rw [bits_n, if_neg (by omega)]
  have hn : n ≠ 0 := by omega
  have lo : ∀ k, 2 ^ k ≤ n → k ≤ n.log2 := fun k q => (Nat.le_log2 hn).mpr q
  have hi : ∀ k, n < 2 ^ k → n.log2 < k := fun k q => (Nat.log2_lt hn).mpr q
  unfold extN
  rw [if_neg h0]
  have l8 := lo 8 (by omega)
  split
  · have := hi 16 (by omega)
    omega
  · have l16 := lo 16 (by omega)
    split
    · have := hi 24 (by omega)
      omega
    · have l24 := lo 24 (by omega)
      have := hi 32 (by omega)
      omega
def exts (a : Nat) : List Nat := (if 16777216 ≤ a then [71, a / 16777216 % 256] else []) ++ ((if 65536 ≤ a then [71, a / 65536 % 256] else []) ++ (if 256 ≤ a then [71, a / 256 % 256] else []))
def packN (num a c : Nat) : List Nat := exts a ++ ([num, a % 256] ++ List.replicate (2 * c) 0)
/-- the first i of the e further bytes -/
def exf (a e : Nat) : Nat → List Nat
  | 0 => []
  | i + 1 => exf a e i ++ [71, a / 256 ^ (e - i) % 256]
theorem exf_all {a : Nat} (h : a < 4294967296) : exf a (extN a) (extN a) = exts a := by
  unfold extN exts
  split
  · rw [if_neg (by omega), if_neg (by omega), if_neg (by omega)]
    rfl
  · split
    · rw [if_neg (by omega), if_neg (by omega), if_pos (by omega)]
      rfl
    · split
      · rw [if_neg (by omega), if_pos (by omega), if_pos (by omega)]
        rfl
      · rw [if_pos (by omega), if_pos (by omega), if_pos (by omega)]
        rfl
theorem exf_len (a e : Nat) : ∀ i, (exf a e i).length = 2 * i
  | 0 => rfl
  | i + 1 => by
    show (exf a e i ++ [71, a / 256 ^ (e - i) % 256]).length = 2 * (i + 1)
    rw [List.length_append, exf_len a e i]
    show 2 * i + 2 = _
    omega
theorem extN_le (n : Nat) : extN n ≤ 3 := by
  unfold extN
  split
  · omega
  · split
    · omega
    · split <;> omega
theorem r_for3 {K : PySem.W.Frag} {ta : TA} {g : TG} {tb : TS} {D : Ends} {σ : L2.St} {H : Hp} : tFor (iRng3 ta) g tb D σ H = ta σ H (fun vs H1 => ∃ (i j c : Int) (n : Nat), vs = [.int i, .int j, .int c] ∧ RgC i j c n ∧ LoopR (Itc i c n) g tb D σ H1) := rfl
theorem lp_rngC {lo c : Int} {n : Nat} {g : TG} {tb : TS} {D : Ends} {σ : L2.St} {H : Hp} (Pv : Nat → L2.St → Hp → Prop) (h0 : Pv 0 σ H)
    (hs : ∀ i σ H, i < n → Pv i σ H → g (.int (lo + (i : Nat) * c)) σ H fun σ2 H2 => tb { D with nx := Pv (i + 1), ct := Pv (i + 1), bk := D.nx } σ2 H2) (hd : ∀ σ H, Pv n σ H → D.nx σ H) : LoopR (Itc lo c n) g tb D σ H := for_rangeC Pv h0 hs hd
theorem rep_vn (k : Nat) : (List.replicate k [V.int 0]).flatten = vn (List.replicate k 0) := by
  induction k with
  | zero => rfl
  | succ k ih =>
    rw [List.replicate_succ, List.flatten_cons, ih, List.replicate_succ]
    rfl
def spExt : Sp := fun vs H Q _ => ∃ a : Nat, vs = [.int (a : Int)] ∧ a < 4294967296 ∧ ∀ p H', H p = none → Same H H' → H' p = some (.lst (vn (exts a))) → Q (.ref p) H'
def lvIB (H : Hp) (a : Nat) (p : Addr) (i : Nat) (σ : L2.St) (H' : Hp) : Prop := ∃ v : Option V, σ = [some (.int (a : Int)), some (.ref p), v] ∧ Same H H' ∧ H' p = some (.lst (vn (exf a (extN a) i)))
section
variable {P : Program} {w : World} {K : PySem.W.Frag} {mg : Str → Option Value} {base : Heap} {f : Addr} {fd : FuncData}
abbrev sextra_of : Stmt := top 28
theorem scextra_of : FnScope ["argument"] ["argument"] (defScope sextra_of) := ⟨rfl, rfl, rfl, by decide +kernel, rfl, by decide +kernel, by decide +kernel⟩

abbrev sextension_of : Stmt := top 29
theorem scextension_of : FnScope ["argument", "found", "extra"] ["argument"] (defScope sextension_of) := ⟨rfl, rfl, rfl, by decide +kernel, rfl, by decide +kernel, by decide +kernel⟩

theorem r_bits {to : TE} {σ : L2.St} {H : Hp} {Q : VK} : tBits to σ H Q = to σ H (fun x H1 => ∃ i, x = .int i ∧ Q (.int (Builtin.Int.intBits i : Nat)) H1) := rfl
theorem ok_extra_of (T : Txt mg) (F : FnP K "extra_of" "extra_of" sextra_of f fd) : FnOk P w K mg base CX0 1 f fd ["argument"] spExtra := by
  refine F.ok scextra_of (fun vs H Q E h => ?_) (fun cdv A outer s H vs Q E hr h => ?_)
  · obtain ⟨n, rfl, _⟩ := h
    rfl
  · obtain ⟨n, rfl, hn, k⟩ := h
    refine ⟨_, PSs.nox (pss_cons (ps_if (pt_cmpR op_lt (pv 0) pe_int (nomark _))
    (pss_one (ps_ret pe_int))
    pss_nil)
  (pss_one (ps_ret (pe_op op_fdivW (pe_op op_sub (pe_bits (pv 0)) pe_int) pe_int)))), ?_⟩
    show (_ : TS) _ [some (.int (n : Int))] H
    have c8 : ∀ i, CDivW i 8 = True := fun i => cdw (by decide)
    simp only [r_seq, r_next, r_brk, r_cont, r_asg, r_name, r_ret, r_retN, r_drop, r_ifs, r_never, r_var, r_c, r_op, r_un, r_if, r_tst, r_b, r_not, r_and, r_or, r_andV, r_orV, r_notV, r_nil, r_cons, r_tup, r_lst, r_cb, r_call, r_bm, r_bm0, r_sl, r_nopart, r_part, r_rev, r_gnil, r_gcons, r_gsub, r_par, r_aug, r_chain, r_I0, r_I, r_U, r_ixd, r_lend, r_tupd, r_listd, r_sld, r_app, r_ext, r_reverse, r_setl, r_cat, r_int1, r_eqS, r_neS, scal_ii, scal_bb, scal_ss, at0, at1, at2, sq_lst, sq_tup, isLst_lst, List.getElem?_cons_zero, List.getElem?_cons_succ, List.set_cons_zero, List.set_cons_succ, V.int.injEq, V.bl.injEq, V.ref.injEq, V.str.injEq, HO.lst.injEq, HO.tup.injEq, Option.some.injEq, exists_eq_left', exists_eq_left, List.cons.injEq, and_true, true_and, decide_eq_true_eq, reduceCtorEq, false_and, exists_false, or_false, false_or, exists_const, and_assoc, exists_and_left, List.append_nil, ix0, ix1, ix2, cm_mod, cdw1009, cdw2003, cdw7, cdw64, cdw2, cm104729, cm2, cm3, upd_same, List.length_cons, List.length_nil, Int.reduceLT, Int.reduceLE, Nat.reduceAdd, Nat.reduceLeDiff, Nat.reduceLT, Int.reduceToNat, r_for1, r_forL, r_forT, r_lcL, r_lc1, r_yes, r_gtupD, wipe_0, wipe_1, List.cons_append, List.nil_append, r_forS, r_ipI, ite_false, ite_true, Bool.not_true, Bool.not_false, decide_true, decide_false, r_isd, r_islt, cD_ty, cD_ref, tD_non, tD_bl, tD_int, tD_str, tD_ref, tH_lst, tH_tup, tH_dK, tH_ins, ki_self, ki_int_bool, ki_non_int, ki_str_int, ki_lt_lst, ki_lt_tup, r_fld, r_sfld, HO.ins.injEq, cx_K, r_bits, c8]
    by_cases c : n < 256
    · rw [if_pos (by omega)]
      unfold extN at k
      rw [if_pos c] at k
      exact k
    · rw [if_neg (by omega)]
      rw [ext_bits c hn]
      exact k
theorem ok_extension_of (T : Txt mg) (F : FnP K "extension_of" "extension_of" sextension_of f fd) (C_extra_of : Cal P w K mg base 1 "extra_of" ["argument"] spExtra) : FnOk P w K mg base CX0 2 f fd ["argument"] spExt := by
  refine F.ok scextension_of (fun vs H Q E h => ?_) (fun cdv A outer s H vs Q E hr h => ?_)
  · obtain ⟨a, rfl, _⟩ := h
    rfl
  · obtain ⟨a, rfl, ha, k⟩ := h
    refine ⟨_, PSs.nox (pss_cons (ps_set (i := 1) scextension_of.nd rfl (Or.inl rfl) (pe_lst pa_nil))
  (pss_cons (ps_for PassesOwn.never rfl (pi_range3 rfl T.b_range (pa_cons (pe_cal C_extra_of (hr.mono (by decide)) rfl (pa_cons (pv 0) pa_nil)) (pa_cons pe_int (pa_cons (pe_un un_neg pe_int) pa_nil)))) (pg_name (i := 2) scextension_of.nd rfl (Or.inl rfl))
    (pss_one (ps_expr (pe_bm PySem.F.plainAttrs_list PySem.F.slot_list_extend PySem.F.type_list_extend mt_extend (pv 1) (pa_cons (pe_lst (pa_cons (pe_gi T.g_EXTENDED_ARG) (pa_cons (pe_op op_and (pe_op op_shr (pv 0) (pe_op op_mul pe_int (pv 2))) pe_int) pa_nil))) pa_nil)))))
  (pss_one (ps_ret (pv 1))))), ?_⟩
    show (_ : TS) _ [some (.int (a : Int)), none, none] H
    simp only [r_seq, r_next, r_brk, r_cont, r_asg, r_name, r_ret, r_retN, r_drop, r_ifs, r_never, r_var, r_c, r_op, r_un, r_if, r_tst, r_b, r_not, r_and, r_or, r_andV, r_orV, r_notV, r_nil, r_cons, r_tup, r_lst, r_cb, r_call, r_bm, r_bm0, r_sl, r_nopart, r_part, r_rev, r_gnil, r_gcons, r_gsub, r_par, r_aug, r_chain, r_I0, r_I, r_U, r_ixd, r_lend, r_tupd, r_listd, r_sld, r_app, r_ext, r_reverse, r_setl, r_cat, r_int1, r_eqS, r_neS, scal_ii, scal_bb, scal_ss, at0, at1, at2, sq_lst, sq_tup, isLst_lst, List.getElem?_cons_zero, List.getElem?_cons_succ, List.set_cons_zero, List.set_cons_succ, V.int.injEq, V.bl.injEq, V.ref.injEq, V.str.injEq, HO.lst.injEq, HO.tup.injEq, Option.some.injEq, exists_eq_left', exists_eq_left, List.cons.injEq, and_true, true_and, decide_eq_true_eq, reduceCtorEq, false_and, exists_false, or_false, false_or, exists_const, and_assoc, exists_and_left, List.append_nil, ix0, ix1, ix2, cm_mod, cdw1009, cdw2003, cdw7, cdw64, cdw2, cm104729, cm2, cm3, upd_same, List.length_cons, List.length_nil, Int.reduceLT, Int.reduceLE, Nat.reduceAdd, Nat.reduceLeDiff, Nat.reduceLT, Int.reduceToNat, r_for1, r_forL, r_forT, r_lcL, r_lc1, r_yes, r_gtupD, wipe_0, wipe_1, List.cons_append, List.nil_append, r_forS, r_ipI, ite_false, ite_true, Bool.not_true, Bool.not_false, decide_true, decide_false, r_isd, r_islt, cD_ty, cD_ref, tD_non, tD_bl, tD_int, tD_str, tD_ref, tH_lst, tH_tup, tH_dK, tH_ins, ki_self, ki_int_bool, ki_non_int, ki_str_int, ki_lt_lst, ki_lt_tup, r_fld, r_sfld, HO.ins.injEq, cx_K, r_for3]
    refine ⟨Nat.zero_le _, fun p hp => ?_⟩
    have pH : ∀ {b : Addr} {o : HO}, H b = some o → b ≠ p := fun e => ne_new e hp
    have ce := extN_le a
    refine ⟨a, rfl, ha, (extN a : Nat), rfl, extN a, ?_, lp_rngC (lvIB H a p) ⟨none, rfl, Same.new' (Same.refl H) hp, by rw [upd_same]; rfl⟩ ?_ ?_⟩
    · have := RgC.neg (i := ((extN a : Nat) : Int)) (j := 0) (by omega) (by omega) (by omega) (by omega)
      rwa [show (((extN a : Nat) : Int) - 0).toNat = extN a from by omega] at this
    · rintro i σ H1 hi ⟨v, rfl, s1, h1⟩
      have c8 : ∀ i, CMul 8 i = True := fun i => cm_l (by decide)
      have e1 : 8 * (((extN a : Nat) : Int) + (i : Int) * -1) = ((8 * (extN a - i) : Nat) : Int) := by omega
      have e2 : ∀ m : Nat, (a : Int) / 2 ^ (8 * m) % 256 = ((a / 256 ^ m % 256 : Nat) : Int) := fun m => by
        rw [Int.pow_mul]
        push_cast
        rfl
      simp only [r_seq, r_next, r_brk, r_cont, r_asg, r_name, r_ret, r_retN, r_drop, r_ifs, r_never, r_var, r_c, r_op, r_un, r_if, r_tst, r_b, r_not, r_and, r_or, r_andV, r_orV, r_notV, r_nil, r_cons, r_tup, r_lst, r_cb, r_call, r_bm, r_bm0, r_sl, r_nopart, r_part, r_rev, r_gnil, r_gcons, r_gsub, r_par, r_aug, r_chain, r_I0, r_I, r_U, r_ixd, r_lend, r_tupd, r_listd, r_sld, r_app, r_ext, r_reverse, r_setl, r_cat, r_int1, r_eqS, r_neS, scal_ii, scal_bb, scal_ss, at0, at1, at2, sq_lst, sq_tup, isLst_lst, List.getElem?_cons_zero, List.getElem?_cons_succ, List.set_cons_zero, List.set_cons_succ, V.int.injEq, V.bl.injEq, V.ref.injEq, V.str.injEq, HO.lst.injEq, HO.tup.injEq, Option.some.injEq, exists_eq_left', exists_eq_left, List.cons.injEq, and_true, true_and, decide_eq_true_eq, reduceCtorEq, false_and, exists_false, or_false, false_or, exists_const, and_assoc, exists_and_left, List.append_nil, ix0, ix1, ix2, cm_mod, cdw1009, cdw2003, cdw7, cdw64, cdw2, cm104729, cm2, cm3, upd_same, List.length_cons, List.length_nil, Int.reduceLT, Int.reduceLE, Nat.reduceAdd, Nat.reduceLeDiff, Nat.reduceLT, Int.reduceToNat, r_for1, r_forL, r_forT, r_lcL, r_lc1, r_yes, r_gtupD, wipe_0, wipe_1, List.cons_append, List.nil_append, r_forS, r_ipI, ite_false, ite_true, Bool.not_true, Bool.not_false, decide_true, decide_false, r_isd, r_islt, cD_ty, cD_ref, tD_non, tD_bl, tD_int, tD_str, tD_ref, tH_lst, tH_tup, tH_dK, tH_ins, ki_self, ki_int_bool, ki_non_int, ki_str_int, ki_lt_lst, ki_lt_tup, r_fld, r_sfld, HO.ins.injEq, cx_K, h1, c8, e1, bitAnd_m8, Int.toNat_natCast, e2]
      refine ⟨tyl h1, Int.natCast_nonneg _, szl (by decide : 2 ≤ 1000), fun t ht => ⟨_, by rw [upd_ne (ne_new h1 ht)]; exact h1, Nat.le_trans (by rw [vn_len, exf_len]; omega : _ ≤ 1000) (by decide), ?_⟩⟩
      refine ⟨_, rfl, fun b o e => ?_, ?_⟩
      · rw [upd_ne (pH e), upd_ne (ne_new (s1 b o e) ht)]
        exact s1 b o e
      · rw [upd_same]
        show _ = some (HO.lst (vn (exf a (extN a) i ++ _)))
        rw [vn_app]
        rfl
    · rintro σ H1 ⟨v, rfl, s1, h1⟩
      rw [exf_all ha] at h1
      simp only [r_seq, r_next, r_brk, r_cont, r_asg, r_name, r_ret, r_retN, r_drop, r_ifs, r_never, r_var, r_c, r_op, r_un, r_if, r_tst, r_b, r_not, r_and, r_or, r_andV, r_orV, r_notV, r_nil, r_cons, r_tup, r_lst, r_cb, r_call, r_bm, r_bm0, r_sl, r_nopart, r_part, r_rev, r_gnil, r_gcons, r_gsub, r_par, r_aug, r_chain, r_I0, r_I, r_U, r_ixd, r_lend, r_tupd, r_listd, r_sld, r_app, r_ext, r_reverse, r_setl, r_cat, r_int1, r_eqS, r_neS, scal_ii, scal_bb, scal_ss, at0, at1, at2, sq_lst, sq_tup, isLst_lst, List.getElem?_cons_zero, List.getElem?_cons_succ, List.set_cons_zero, List.set_cons_succ, V.int.injEq, V.bl.injEq, V.ref.injEq, V.str.injEq, HO.lst.injEq, HO.tup.injEq, Option.some.injEq, exists_eq_left', exists_eq_left, List.cons.injEq, and_true, true_and, decide_eq_true_eq, reduceCtorEq, false_and, exists_false, or_false, false_or, exists_const, and_assoc, exists_and_left, List.append_nil, ix0, ix1, ix2, cm_mod, cdw1009, cdw2003, cdw7, cdw64, cdw2, cm104729, cm2, cm3, upd_same, List.length_cons, List.length_nil, Int.reduceLT, Int.reduceLE, Nat.reduceAdd, Nat.reduceLeDiff, Nat.reduceLT, Int.reduceToNat, r_for1, r_forL, r_forT, r_lcL, r_lc1, r_yes, r_gtupD, wipe_0, wipe_1, List.cons_append, List.nil_append, r_forS, r_ipI, ite_false, ite_true, Bool.not_true, Bool.not_false, decide_true, decide_false, r_isd, r_islt, cD_ty, cD_ref, tD_non, tD_bl, tD_int, tD_str, tD_ref, tH_lst, tH_tup, tH_dK, tH_ins, ki_self, ki_int_bool, ki_non_int, ki_str_int, ki_lt_lst, ki_lt_tup, r_fld, r_sfld, HO.ins.injEq, cx_K]
      exact k p H1 hp s1 h1
end
end C46

set_option maxHeartbeats 1000000
namespace C46
open PySem PySem.Spec PyProof.Rows L2
/-! ### isinstance of built-in kinds alone -/
def tyO : Option HO → Option String
  | some (.lst _) => some "list"
  | some (.tup _) => some "tuple"
  | some (.dK _) => some "dict"
  | _ => none
def tyP (H : Hp) : V → Option String
  | .non => some "NoneType"
  | .bl _ => some "bool"
  | .int _ => some "int"
  | .str _ => some "str"
  | .ref a => tyO (H a)
  | _ => none
theorem tyP_ok {K : PySem.W.Frag} {H : Hp} {x : V} {n : String} (h : tyP H x = some n) : TyX K H x (.type n) := by
  cases x with
  | non => cases h; exact .base .non
  | bl b => cases h; exact .base (.bl b)
  | int i => cases h; exact .base (.int i)
  | str s => cases h; exact .base (.str s)
  | ref a =>
    have h2 : tyO (H a) = some n := h
    cases e : H a with
    | none =>
      rw [e] at h2
      cases h2
    | some o =>
      rw [e] at h2
      cases o with
      | lst xs => cases h2; exact .base (.lst e)
      | tup xs => cases h2; exact .base (.tup e)
      | dK kvs => cases h2; exact .base (.dK e)
      | _ => cases h2
  | _ => cases h
theorem tyP_b {H : Hp} {x : V} {n : String} (h : tyP H x = some n) : n ∈ (["NoneType", "bool", "int", "str", "list", "tuple", "dict"] : List String) := by
  cases x with
  | non => cases h; decide
  | bl b => cases h; decide
  | int i => cases h; decide
  | str s => cases h; decide
  | ref a =>
    have h2 : tyO (H a) = some n := h
    cases e : H a with
    | none =>
      rw [e] at h2
      cases h2
    | some o =>
      rw [e] at h2
      cases o with
      | lst xs => cases h2; decide
      | tup xs => cases h2; decide
      | dK kvs => cases h2; decide
      | _ => cases h2
  | _ => cases h
def subT (n m : String) : Bool := n == m || (n == "bool" && m == "int")
theorem kit_b {K : PySem.W.Frag} {n m : String} (hn : n ∈ (["NoneType", "bool", "int", "str", "list", "tuple", "dict"] : List String)) (hm : m ∈ (["bool", "int", "str", "list", "tuple"] : List String)) : PySem.W.kitOne K (.type n) (.type m) = some (subT n m) := by
  simp only [List.mem_cons, List.not_mem_nil, or_false] at hn hm
  rcases hm with rfl | rfl | rfl | rfl | rfl <;> rcases hn with rfl | rfl | rfl | rfl | rfl | rfl | rfl
  all_goals first | exact ki_self | exact kit_ty (by decide +kernel)
def rIsP (m : String) : List V → Hp → VK → Prop := fun vs H Q => ∃ x n, vs = [x, .ty m] ∧ tyP H x = some n ∧ Q (.bl (subT n m)) H
theorem call_is_p {X : Cx} (m : String) (hm : m ∈ (["bool", "int", "str", "list", "tuple"] : List String) := by decide) : CallR X (.builtin "isinstance") (rIsP m) := CallR.imp' (call_isi (X := X)) fun vs H Q ⟨x, n, e, h, q⟩ =>
  ⟨x, .ty m, .type n, .type m, _, e, clsD_ok rfl, tyP_ok h, kit_b (tyP_b h) hm, q⟩
def rIsPlt : List V → Hp → VK → Prop := fun vs H Q => ∃ x tp n, vs = [x, .ref tp] ∧ H tp = some (.tup [.ty "list", .ty "tuple"]) ∧ tyP H x = some n ∧ Q (.bl (subT n "list" || subT n "tuple")) H
theorem kit_lt {K : PySem.W.Frag} {n : String} (hn : n ∈ (["NoneType", "bool", "int", "str", "list", "tuple", "dict"] : List String)) : PySem.W.kitAny K (.type n) [.type "list", .type "tuple"] = some (subT n "list" || subT n "tuple") := by
  have h1 := kit_b (K := K) hn (m := "list") (by decide)
  have h2 := kit_b (K := K) hn (m := "tuple") (by decide)
  unfold PySem.W.kitAny
  rw [h1]
  cases subT n "list" with
  | true => rfl
  | false =>
    show PySem.W.kitAny K (.type n) [.type "tuple"] = _
    unfold PySem.W.kitAny
    rw [h2]
    cases subT n "tuple" <;> rfl
theorem call_is_plt {X : Cx} : CallR X (.builtin "isinstance") rIsPlt := CallR.imp' (call_isiT (X := X)) fun vs H Q ⟨x, tp, n, e, h1, h2, q⟩ =>
  ⟨x, tp, _, .type n, _, _, e, h1, .cons (.ty "list") (.cons (.ty "tuple") .nil), tyP_ok h2, kit_lt (tyP_b h2), q⟩
/-! ### get of a written dict, with a default -/
def tKGet2 (K : PySem.W.Frag) (w : World) (td ty tx : TE) : TE := fun σ H Q => td σ H fun x H1 => ∃ (p : Addr) , x = .ref p ∧ ty σ H1 fun y H2 => tx σ H2 fun d H3 => ∃ z : Str, y = .str z ∧ ((∃ v, KDct K w p z v ∧ Q v H3) ∨ (KMiss K w p z ∧ Q d H3))
def IsKD (K : PySem.W.Frag) (w : World) (p : Addr) : Prop := ∃ es n, K.lookup p = some ⟨.type "dict", none, .dict es n, #[]⟩ ∧ PySem.W.KeysLit w.params es.toList ∧ (p == sysModules) = false
theorem pe_kget2 {X : Cx} {o e f : Expr} {apos cpos : Pos} {d : Addr} {ty tx : TE} (D : IsKD X.K X.w d) (ho : PE X o (tC (.ref d))) (he : PE X e ty) (hf : PE X f tx) (m : M2 X o "get" apos e f cpos) : PE X (.Call (.Attribute o "get" apos) [e, f] [] cpos) (tKGet2 X.K X.w (tC (.ref d)) ty tx) := by
  obtain ⟨es, n, hl, hk, lo⟩ := D
  refine ⟨fun pins s σ H Q I h => ?_⟩
  refine wpAny_Call_method m.base m.few m.line PySem.F.plainAttrs_dict PySem.F.slot_dict_get PySem.F.type_dict_get (thn (ho.run pins s σ H (fun x H1 => x = .ref d ∧ ∃ (p : Addr) , x = .ref p ∧ ty σ H1 fun y H2 => tx σ H2 fun d H3 => ∃ z : Str, y = .str z ∧ ((∃ v, KDct X.K X.w p z v ∧ Q v H3) ∨ (KMiss X.K X.w p z ∧ Q d H3))) I ⟨rfl, h⟩) fun u s1 ⟨x, H1, I1, rx, ex0, a, ex, q1⟩ => ?_)
  subst ex0
  cases ex
  obtain rfl : u = Value.ref d := rx
  have hm := PySem.W.mapOf_K (prog := X.prog) (w := X.w) I1.kIn hl hk
  refine ⟨hm.typeIs, fun b q => ?_, ?_⟩
  · cases q
    exact ⟨_, I1.kIn _ _ hl, rfl⟩
  rw [m.trees]
  refine Calls.callWith_builtin rfl (Calls.evalArgs_plain (Calls.spliced_cons (thn (he.run pins s1 σ H1 _ I1 q1) fun iv s2 ⟨y, H2, I2, ry, q2⟩ =>
    Calls.spliced_cons (thn (hf.run pins s2 σ H2 _ I2 q2) fun fv s3 ⟨z, H3, I3, rz, zs, ez, q3⟩ => Calls.spliced_nil ?_))))
  subst ez
  obtain ⟨t, rfl⟩ := (show ∃ t, iv = Value.str zs t from ry)
  have hm3 := PySem.W.mapOf_K (prog := X.prog) (w := X.w) I3.kIn hl hk
  refine call_meetsIn PySem.F.slot_dict_get hm3.typeIs PySem.F.entry_dict_get (PySem.F.args_dict_get_3 _ _ _) (meets_dict_get_default (strKind X.prog X.w) d (strKind_is X.prog X.w zs t) lo fv) ⟨_, hm3, ?_⟩
  rcases q3 with ⟨v, ⟨es2, n2, u, hl2, hk2, e2, ru⟩, q⟩ | ⟨⟨es2, n2, hl2, hk2, lo2, e2⟩, q⟩
  · rw [PySem.W.find_K hl e2]
    exact ⟨v, H3, I3.tok _, ru, q⟩
  · rw [PySem.W.find_K hl e2]
    exact ⟨z, H3, I3.tok _, rz, q⟩

/-! ### the program's tables -/
/-- a tuple of the module -/
def KTup (K : PySem.W.Frag) (a : Addr) (xs : List V) : Prop := ∃ (o : Obj) (its : Array Value) (n : Nat), K.lookup a = some o ∧ o.cls = .type "tuple" ∧ o.data = .seq its n ∧ its.size ≤ sizeLine ∧ Vals xs its.toList
theorem KTup.s {K : PySem.W.Frag} {a : Addr} {xs : List V} (h : KTup K a xs) (H : Hp) : SqT K H a xs := .inr h
/-- what is known of the written table -/
structure Wt (K : PySem.W.Frag) (w : World) (mg : Str → Option Value) (df : Addr) : Prop where
  gf : mg "FORMS" = some (.ref df)
  kf : ∃ es n, KDict K w df es n
  has : ∀ x n, lkp NUMW x = some n → ∃ (a b : Addr) (f : V), KDct K w df x (.ref a) ∧ KTup K a [.int n, .ref b, f] ∧ KTup K b (List.replicate (2 * cacN x) (.int 0))
  miss : ∀ x ∈ oddW, PySem.W.nsIn K df x = some none
theorem numW_fact {x : Str} {n : Int} (h : lkp NUMW x = some n) : n ≠ 0 ∧ n ≠ 71 ∧ x ≠ "LOAD_CODE" ∧ x ≠ "LOAD_CLOSURE" := by
  have c : NUMW.all (fun p => decide (p.2 ≠ 0 ∧ p.2 ≠ 71 ∧ p.1 ≠ "LOAD_CODE" ∧ p.1 ≠ "LOAD_CLOSURE")) = true := by decide +kernel
  unfold lkp at h
  cases e : NUMW.find? fun p => decide (p.1 = x) with
  | none => rw [e] at h; cases h
  | some p =>
    rw [e] at h
    cases h
    have h1 := of_decide_eq_true (List.all_eq_true.mp c p (List.mem_of_find?_eq_some e))
    have h2 : p.1 = x := of_decide_eq_true (List.find?_some (p := fun p : Str × Int => decide (p.1 = x)) e)
    rw [h2] at h1
    exact h1
def insB (nw : Option Int) (y : V) : Bool := match nw with
  | none => false
  | some n => if n = 0 ∨ n = 71 then false else if n < 45 then decide (y = .non) else match y with
    | .int i => decide (0 ≤ i ∧ i ≤ 4294967295)
    | _ => false
def insT (y : V) : Bool := match y with
  | .int i => decide (0 ≤ i ∧ i ≤ 4294967295)
  | _ => false
theorem insB_eq (n : Int) (y : V) : insB (some n) y = if n = 0 ∨ n = 71 then false else if n < 45 then decide (y = .non) else insT y := rfl
def rowB (x y : V) : Bool := match x with
  | .str z => insB (lkp NUMW z) y
  | _ => false
def spTakes : Sp := fun vs H Q _ => ∃ (x : Str) (n : Int), vs = [.str x] ∧ lkp NUMW x = some n ∧ Q (.bl (decide (45 ≤ n))) H
def spIsI : Sp := fun vs H Q _ => ∃ (x y : V) (nx ny : String), vs = [x, y] ∧ tyP H x = some nx ∧ tyP H y = some ny ∧ (∀ z, x = .str z → (∃ n, lkp NUMW z = some n) ∨ (z ∈ oddW ∧ lkp NUMW z = none)) ∧ ∀ H', Same H H' → Q (.bl (rowB x y)) H'
section
variable {P : Program} {w : World} {K : PySem.W.Frag} {mg : Str → Option Value} {base : Heap} {f : Addr} {fd : FuncData}
abbrev stakes_argument : Stmt := top 32
theorem sctakes_argument : FnScope ["word", "number", "_"] ["word"] (defScope stakes_argument) := ⟨rfl, rfl, rfl, by decide +kernel, rfl, by decide +kernel, by decide +kernel⟩

abbrev sis_instruction : Stmt := top 34
theorem scis_instruction : FnScope ["word", "argument"] ["word", "argument"] (defScope sis_instruction) := ⟨rfl, rfl, rfl, by decide +kernel, rfl, by decide +kernel, by decide +kernel⟩

theorem r_star {K : PySem.W.Frag} {te : TE} {t : TA} {σ : L2.St} {H : Hp} {QA : List V → Hp → Prop} : StX.tStar K te t σ H QA = te σ H (fun x H1 => ∃ p xs, x = V.ref p ∧ (SqT K H1 p xs ∨ SqL K H1 p xs) ∧ t σ H1 fun ys H2 => QA (xs ++ ys) H2) := rfl
theorem ok_takes {df : Addr} (T : Txt mg) (W : Wt K w mg df) (F : FnP K "takes_argument" "takes_argument" stakes_argument f fd) : FnOk P w K mg base CX0 1 f fd ["word"] spTakes := by
  refine F.ok sctakes_argument (fun vs H Q E h => ?_) (fun cdv A outer s H vs Q E hr h => ?_)
  · obtain ⟨x, n, rfl, _⟩ := h
    rfl
  · obtain ⟨x, n, rfl, hn, k⟩ := h
    refine ⟨_, PSs.nox (pss_cons (ps_asg (pe_ix ix_kdict (pe_glob (v := .ref _) rfl W.gf rfl) (pv 0) (fun _ _ => rfl)) (pg_tup (n := 3) rfl (pgs_cons (pg_name (i := 1) sctakes_argument.nd rfl (Or.inl rfl)) (pgs_cons (pg_name (i := 2) sctakes_argument.nd rfl (Or.inl rfl)) (pgs_cons (pg_name (i := 2) sctakes_argument.nd rfl (Or.inl rfl)) pgs_nil)))))
  (pss_one (ps_ret (pe_cmpR op_ge (pv 1) (pe_gi T.g_FIRST_WITH_ARGUMENT) (nomark _))))), ?_⟩
    show (_ : TS) _ [some (.str x), none, none] H
    obtain ⟨a, b, fv, h1, h2, h3⟩ := W.has x n hn
    simp only [r_seq, r_next, r_brk, r_cont, r_asg, r_name, r_ret, r_retN, r_drop, r_ifs, r_never, r_var, r_c, r_op, r_un, r_if, r_tst, r_b, r_not, r_and, r_or, r_andV, r_orV, r_notV, r_nil, r_cons, r_tup, r_lst, r_cb, r_call, r_bm, r_bm0, r_sl, r_nopart, r_part, r_rev, r_gnil, r_gcons, r_gsub, r_par, r_aug, r_chain, r_I0, r_I, r_U, r_ixd, r_lend, r_tupd, r_listd, r_sld, r_app, r_ext, r_reverse, r_setl, r_cat, r_int1, r_eqS, r_neS, scal_ii, scal_bb, scal_ss, at0, at1, at2, sq_lst, sq_tup, isLst_lst, List.getElem?_cons_zero, List.getElem?_cons_succ, List.set_cons_zero, List.set_cons_succ, V.int.injEq, V.bl.injEq, V.ref.injEq, V.str.injEq, HO.lst.injEq, HO.tup.injEq, Option.some.injEq, exists_eq_left', exists_eq_left, List.cons.injEq, and_true, true_and, decide_eq_true_eq, reduceCtorEq, false_and, exists_false, or_false, false_or, exists_const, and_assoc, exists_and_left, List.append_nil, ix0, ix1, ix2, cm_mod, cdw1009, cdw2003, cdw7, cdw64, cdw2, cm104729, cm2, cm3, upd_same, List.length_cons, List.length_nil, Int.reduceLT, Int.reduceLE, Nat.reduceAdd, Nat.reduceLeDiff, Nat.reduceLT, Int.reduceToNat, r_for1, r_forL, r_forT, r_lcL, r_lc1, r_yes, r_gtupD, wipe_0, wipe_1, List.cons_append, List.nil_append, r_forS, r_ipI, ite_false, ite_true, Bool.not_true, Bool.not_false, decide_true, decide_false, r_isd, r_islt, cD_ty, cD_ref, tD_non, tD_bl, tD_int, tD_str, tD_ref, tH_lst, tH_tup, tH_dK, tH_ins, ki_self, ki_int_bool, ki_non_int, ki_str_int, ki_lt_lst, ki_lt_tup, r_fld, r_sfld, HO.ins.injEq, cx_K, r_gtup]
    exact ⟨df, x, _, rfl, rfl, h1, a, rfl, _, h2.s H, rfl, _, _, rfl, _, _, rfl, _, _, rfl, rfl, _, rfl, k⟩
theorem ok_is_instruction {df : Addr} (T : Txt mg) (W : Wt K w mg df) (F : FnP K "is_instruction" "is_instruction" sis_instruction f fd) (C_takes_argument : Cal P w K mg base 1 "takes_argument" ["word"] spTakes) : FnOk P w K mg base CX0 2 f fd ["word", "argument"] spIsI := by
  obtain ⟨es, en, D⟩ := W.kf
  refine F.ok scis_instruction (fun vs H Q E h => ?_) (fun cdv A outer s H vs Q E hr h => ?_)
  · obtain ⟨x, y, nx, ny, rfl, _⟩ := h
    rfl
  · obtain ⟨x, y, nx, ny, rfl, hx, hy, hz, k⟩ := h
    refine ⟨_, PSs.nox (pss_cons (ps_if (PW.pt (pw_or (pt_not (pt_val (pe_callB (call_is_p "str") (by rfl) T.b_isinstance (by decide +kernel) (pa_cons (pv 0) (pa_cons (pe_bltn (v := .ty "str") (by rfl) T.b_str (by decide +kernel) rfl) pa_nil))))) (pw_or (pt_cmpR (op_notIn_kd D) (pv 0) (pe_glob (v := .ref _) rfl W.gf rfl) (by rfl)) (pw_or (pt_cmpR op_eq (pv 0) pe_str (nomark _)) (pw_or1 (pt_cmpR op_eq (pv 0) pe_str (nomark _)))))))
    (pss_one (ps_ret pe_bl))
    pss_nil)
  (pss_cons (ps_if (pt_not (pt_val (pe_cal C_takes_argument (hr.mono (by decide)) rfl (pa_cons (pv 0) pa_nil))))
    (pss_one (ps_ret (pe_cmpR op_isN (pv 1) pe_non (nomark _))))
    pss_nil)
  (pss_one (ps_ret (pe_and (pe_callB (call_is_p "int") (by rfl) T.b_isinstance (by decide +kernel) (pa_cons (pv 1) (pa_cons (pe_bltn (v := .ty "int") (by rfl) T.b_int (by decide +kernel) rfl) pa_nil))) (pe_and (pe_not (pe_callB (call_is_p "bool") (by rfl) T.b_isinstance (by decide +kernel) (pa_cons (pv 1) (pa_cons (pe_bltn (v := .ty "bool") (by rfl) T.b_bool (by decide +kernel) rfl) pa_nil)))) (pe_one (pe_chain op_le op_le pe_int (pv 1) (pe_gi T.g_GREATEST_ARGUMENT))))))))), ?_⟩
    show (_ : TS) _ [some x, some y] H
    simp only [r_seq, r_next, r_brk, r_cont, r_asg, r_name, r_ret, r_retN, r_drop, r_ifs, r_never, r_var, r_c, r_op, r_un, r_if, r_tst, r_b, r_not, r_and, r_or, r_andV, r_orV, r_notV, r_nil, r_cons, r_tup, r_lst, r_cb, r_call, r_bm, r_bm0, r_sl, r_nopart, r_part, r_rev, r_gnil, r_gcons, r_gsub, r_par, r_aug, r_chain, r_I0, r_I, r_U, r_ixd, r_lend, r_tupd, r_listd, r_sld, r_app, r_ext, r_reverse, r_setl, r_cat, r_int1, r_eqS, r_neS, scal_ii, scal_bb, scal_ss, at0, at1, at2, sq_lst, sq_tup, isLst_lst, List.getElem?_cons_zero, List.getElem?_cons_succ, List.set_cons_zero, List.set_cons_succ, V.int.injEq, V.bl.injEq, V.ref.injEq, V.str.injEq, HO.lst.injEq, HO.tup.injEq, Option.some.injEq, exists_eq_left', exists_eq_left, List.cons.injEq, and_true, true_and, decide_eq_true_eq, reduceCtorEq, false_and, exists_false, or_false, false_or, exists_const, and_assoc, exists_and_left, List.append_nil, ix0, ix1, ix2, cm_mod, cdw1009, cdw2003, cdw7, cdw64, cdw2, cm104729, cm2, cm3, upd_same, List.length_cons, List.length_nil, Int.reduceLT, Int.reduceLE, Nat.reduceAdd, Nat.reduceLeDiff, Nat.reduceLT, Int.reduceToNat, r_for1, r_forL, r_forT, r_lcL, r_lc1, r_yes, r_gtupD, wipe_0, wipe_1, List.cons_append, List.nil_append, r_forS, r_ipI, ite_false, ite_true, Bool.not_true, Bool.not_false, decide_true, decide_false, r_isd, r_islt, cD_ty, cD_ref, tD_non, tD_bl, tD_int, tD_str, tD_ref, tH_lst, tH_tup, tH_dK, tH_ins, ki_self, ki_int_bool, ki_non_int, ki_str_int, ki_lt_lst, ki_lt_tup, r_fld, r_sfld, HO.ins.injEq, cx_K]
    refine ⟨x, nx, rfl, hx, _, rfl, ?_⟩
    have s1 := Same.refl H
    cases x with
    | str z =>
      cases hx
      rw [if_neg (by decide)]
      have kk : ∀ b H', b = insB (lkp NUMW z) y → Same H H' → Q (.bl b) H' := fun b H' e q => by
        rw [e]
        exact k H' q
      rcases hz z rfl with ⟨n, hn⟩ | ⟨ho, hn⟩
      · rw [hn] at kk
        obtain ⟨f1, f2, f3, f4⟩ := numW_fact hn
        obtain ⟨a, b, fv, ⟨es2, n2, u, l2, k2, e2, r2⟩, h2, h3⟩ := W.has z n hn
        refine ⟨z, rfl, _, e2, ?_⟩
        rw [if_neg (show ¬ ((!(some u).isSome) = true) from fun h => nomatch h)]
        refine ⟨rfl, ?_⟩
        rw [if_neg (fun e => f3 (V.str.inj e))]
        refine ⟨rfl, ?_⟩
        rw [if_neg (fun e => f4 (V.str.inj e))]
        refine ⟨z, n, rfl, hn, _, rfl, ?_⟩
        have e0 : insB (some n) y = if n < 45 then decide (y = .non) else insT y := by rw [insB_eq, if_neg (by omega)]
        by_cases c3 : n < 45
        · rw [if_pos (by simp; omega)]
          rw [if_pos c3] at e0
          exact kk _ _ e0.symm s1
        · rw [if_neg (by simp; omega)]
          rw [if_neg c3] at e0
          refine ⟨y, ny, rfl, hy, _, rfl, ?_⟩
          cases y with
          | int i =>
            cases hy
            rw [if_pos (by decide)]
            refine ⟨.int i, "int", rfl, rfl, _, rfl, ?_⟩
            rw [if_pos (by decide)]
            refine ⟨i, rfl, ?_⟩
            by_cases c4 : 0 ≤ i
            · rw [if_pos c4]
              refine ⟨i, rfl, kk _ _ ?_ s1⟩
              rw [e0]
              simp [insT, c4]
            · rw [if_neg c4]
              refine kk _ _ ?_ s1
              rw [e0]
              simp [insT, c4]
          | bl b =>
            cases hy
            rw [if_pos (by decide)]
            refine ⟨.bl b, "bool", rfl, rfl, _, rfl, ?_⟩
            rw [if_neg (by decide)]
            exact kk _ _ e0.symm s1
          | ref a =>
            have h3 : subT ny "int" = false := by
              have h2 : tyO (H a) = some ny := hy
              cases e : H a with
              | none => rw [e] at h2; cases h2
              | some o =>
                rw [e] at h2
                cases o with
                | lst xs => cases h2; rfl
                | tup xs => cases h2; rfl
                | dK xs => cases h2; rfl
                | _ => cases h2
            rw [h3, if_neg (by decide)]
            exact kk _ _ e0.symm s1
          | non =>
            cases hy
            rw [if_neg (by decide)]
            exact kk _ _ e0.symm s1
          | str t =>
            cases hy
            rw [if_neg (by decide)]
            exact kk _ _ e0.symm s1
          | _ => cases hy
      · rw [hn] at kk
        refine ⟨z, rfl, none, W.miss z ho, ?_⟩
        rw [if_pos (by decide)]
        exact kk _ _ rfl s1
    | ref a =>
      have h3 : subT nx "str" = false := by
        have h2 : tyO (H a) = some nx := hx
        cases e : H a with
        | none => rw [e] at h2; cases h2
        | some o =>
          rw [e] at h2
          cases o with
          | lst xs => cases h2; rfl
          | tup xs => cases h2; rfl
          | dK xs => cases h2; rfl
          | _ => cases h2
      rw [h3, if_pos (by decide)]
      exact k H (Same.refl H)
    | non =>
      cases hx
      rw [if_pos (by decide)]
      exact k H (Same.refl H)
    | bl b =>
      cases hx
      rw [if_pos (by decide)]
      exact k H (Same.refl H)
    | int i =>
      cases hx
      rw [if_pos (by decide)]
      exact k H (Same.refl H)
    | _ => cases hx
end
end C46

set_option maxHeartbeats 1000000
namespace C46
open PySem PySem.Spec PyProof.Rows L2
/-! ### enumerate as a loop -/
theorem lp_enum {K : PySem.W.Frag} {g : TG} {tb : TS} {D : Ends} {σ : L2.St} {H : Hp} {a : Addr} {xs : List V} (h : sq (H a) = some xs) (Pv : Nat → L2.St → Hp → Prop) (h0 : Pv 0 σ H) (hl : ∀ i σ H', Pv i σ H' → H' a = H a)
    (hs : ∀ i x σ H, xs[i]? = some x → Pv i σ H → ∀ T, H T = none → g (.ref T) σ (L2.upd H T (.tup [.int (i : Nat), x])) fun σ2 H2 => tb { D with nx := Pv (i + 1), ct := Pv (i + 1), bk := D.nx } σ2 H2) (hd : ∀ σ H, Pv xs.length σ H → D.nx σ H) :
    ((∃ xs, H a = some (.lst xs)) ∧ LoopR (Ite K a) g tb D σ H) ∨ ((∃ xs, H a = some (.tup xs)) ∧ LoopR (IteT K a) g tb D σ H) := by
  rcases sq_cases h with e | e
  · refine .inl ⟨⟨_, e⟩, fun i m σ H => m = xs.length - i ∧ i ≤ xs.length ∧ Pv i σ H, ⟨_, rfl, Nat.zero_le _, h0⟩, ?_⟩
    rintro i m σ H' ⟨rfl, hi, p⟩
    have hq : SqL K H' a xs := SqL.of (by rw [hl i σ H' p, e])
    by_cases c : i < xs.length
    · refine .inr ⟨⟨xs, xs[i], hq, List.getElem?_eq_getElem c⟩, Pv (i + 1), fun σ' H2 q => ⟨_, by omega, rfl, c, q⟩, fun v H2 y => ?_⟩
      obtain ⟨T, x, rfl, hT, rfl, hx⟩ := y
      exact hs i x σ H' (hx xs hq) p T hT
    · exact .inl ⟨⟨xs, hq, by omega⟩, hd σ H' (by rw [show xs.length = i from by omega]; exact p)⟩
  · refine .inr ⟨⟨_, e⟩, fun i m σ H => m = xs.length - i ∧ i ≤ xs.length ∧ Pv i σ H, ⟨_, rfl, Nat.zero_le _, h0⟩, ?_⟩
    rintro i m σ H' ⟨rfl, hi, p⟩
    have hq : SqT K H' a xs := SqT.of (by rw [hl i σ H' p, e])
    by_cases c : i < xs.length
    · refine .inr ⟨⟨xs, xs[i], hq, List.getElem?_eq_getElem c⟩, Pv (i + 1), fun σ' H2 q => ⟨_, by omega, rfl, c, q⟩, fun v H2 y => ?_⟩
      obtain ⟨T, x, rfl, hT, rfl, hx⟩ := y
      exact hs i x σ H' (hx xs hq) p T hT
    · exact .inl ⟨⟨xs, hq, by omega⟩, hd σ H' (by rw [show xs.length = i from by omega]; exact p)⟩
theorem r_forE {K : PySem.W.Frag} {ta : TA} {g : TG} {tb : TS} {D : Ends} {σ : L2.St} {H : Hp} : tFor (iEnumS K ta) g tb D σ H = ta σ H (fun vs H1 => ∃ a, vs = [.ref a] ∧ (((∃ xs, H1 a = some (.lst xs)) ∧ LoopR (Ite K a) g tb D σ H1) ∨ ((∃ xs, H1 a = some (.tup xs)) ∧ LoopR (IteT K a) g tb D σ H1))) := rfl

/-! ### rows of instructions -/
structure IR where
  w : Str
  a : Option Nat
def aV : Option Nat → V
  | none => .non
  | some k => .int (k : Int)
def irV (R : IR) : List V := [.str R.w, aV R.a]
def numN (x : Str) : Nat := ((lkp NUMW x).getD 0).toNat
structure IROk (R : IR) : Prop where
  ex : ∃ n : Nat, lkp NUMW R.w = some (n : Int)
  row : rowB (.str R.w) (aV R.a) = true
  lt : ∀ k, R.a = some k → k < 4294967296
def rowBytes (R : IR) : List Nat := packN (numN R.w) (R.a.getD 0) (cacN R.w)
def bytesR (Rs : List IR) : List Nat := (Rs.map rowBytes).flatten
theorem bytesR_snoc (Rs : List IR) (R : IR) : bytesR (Rs ++ [R]) = bytesR Rs ++ rowBytes R := by
  unfold bytesR
  rw [List.map_append, List.flatten_append]
  simp
theorem cac_le : ∀ x, 0 ≤ (lkp CACW x).getD 0 ∧ (lkp CACW x).getD 0 ≤ 20 := by
  intro x
  have h : CACW.all (fun p => decide (0 ≤ p.2 ∧ p.2 ≤ 20)) = true := by decide +kernel
  unfold lkp
  cases e : CACW.find? fun p => decide (p.1 = x) with
  | none => exact ⟨by decide, by decide⟩
  | some p =>
    have := List.all_eq_true.mp h p (List.mem_of_find?_eq_some e)
    exact of_decide_eq_true this
theorem cacN_eq (x : Str) : (lkp CACW x).getD 0 = ((cacN x : Nat) : Int) := by
  have := cac_le x
  unfold cacN
  omega
theorem cacN_le (x : Str) : cacN x ≤ 20 := by
  have := cac_le x
  unfold cacN
  omega
theorem exts_len (a : Nat) : (exts a).length ≤ 6 := by
  unfold exts
  split <;> split <;> split <;> simp
theorem rowBytes_len (R : IR) : (rowBytes R).length ≤ 50 := by
  unfold rowBytes packN
  have := exts_len (R.a.getD 0)
  have := cacN_le R.w
  simp only [List.length_append, List.length_cons, List.length_nil, List.length_replicate]
  omega
theorem bytesR_len (Rs : List IR) : (bytesR Rs).length ≤ 50 * Rs.length := by
  induction Rs with
  | nil => exact Nat.le_refl 0
  | cons R Rs ih =>
    have := rowBytes_len R
    show (rowBytes R ++ bytesR Rs).length ≤ _
    rw [List.length_append, List.length_cons]
    omega
def KnownW (u : V) : Prop := ∀ z, u = .str z → (∃ n, lkp NUMW z = some n) ∨ (z ∈ oddW ∧ lkp NUMW z = none)
def BadP (H : Hp) (ys : List V) : Prop := ys.length ≠ 2 ∨ ∃ u v nu nv, ys = [u, v] ∧ tyP H u = some nu ∧ tyP H v = some nv ∧ KnownW u ∧ rowB u v = false
def BadRow (H : Hp) (x : V) : Prop := (∃ n, tyP H x = some n ∧ n ≠ "tuple") ∨ ∃ t ys, x = .ref t ∧ H t = some (.tup ys) ∧ BadP H ys
theorem tyP_same {H H' : Hp} {x : V} {n : String} (s : Same H H') (h : tyP H x = some n) : tyP H' x = some n := by
  cases x with
  | ref a =>
    show tyO _ = _
    have h2 : tyO (H a) = some n := h
    cases e : H a with
    | none => rw [e] at h2; cases h2
    | some o => rw [s a o e, ← e]; exact h2
  | _ => exact h
theorem BadP.same {H H' : Hp} {ys : List V} (s : Same H H') (h : BadP H ys) : BadP H' ys := by
  rcases h with h | ⟨u, v, nu, nv, h1, h2, h3, h4⟩
  · exact .inl h
  · exact .inr ⟨u, v, nu, nv, h1, tyP_same s h2, tyP_same s h3, h4⟩
theorem BadRow.same {H H' : Hp} {x : V} (s : Same H H') (h : BadRow H x) : BadRow H' x := by
  rcases h with ⟨n, h1, h2⟩ | ⟨t, ys, h1, h2, h3⟩
  · exact .inl ⟨n, tyP_same s h1, h2⟩
  · exact .inr ⟨t, ys, h1, s _ _ h2, h3.same s⟩
/-- good rows, and what stands behind them -/
structure Rows (H : Hp) (a : Addr) (Rs : List IR) (rest : List V) : Prop where
  ex : ∃ refs : List Addr, sq (H a) = some (refs.map V.ref ++ rest) ∧ Paired (fun r R => H r = some (.tup (irV R))) refs Rs
  ok : ∀ R ∈ Rs, IROk R
  l : Rs.length ≤ 1000
def spBytesOf (CR : Addr) : Sp := fun vs H Q E =>
  (∃ (a : Addr) (Rs : List IR), vs = [.ref a] ∧ Rows H a Rs [] ∧ ∀ p H', H p = none → Same H H' → H' p = some (.tup (vn (bytesR Rs))) → Q (.ref p) H') ∨
  (∃ (a : Addr) (Rs : List IR) (x : V) (r : List V), vs = [.ref a] ∧ Rows H a Rs (x :: r) ∧ BadRow H x ∧ ∀ d H', H d = none → Same H H' → H' d = some (.xd [("at", .int (Rs.length : Int))]) → E (.ref CR) (some d) H') ∨
  ∃ (x : V) (n : String), vs = [x] ∧ tyP H x = some n ∧ n ≠ "list" ∧ n ≠ "tuple" ∧ ∀ d H', H d = none → Same H H' → H' d = some (.xd [("at", .int (-1))]) → E (.ref CR) (some d) H'
def lvBO (H : Hp) (a F : Addr) (Rs : List IR) (i : Nat) (σ : L2.St) (H' : Hp) : Prop := i ≤ Rs.length ∧ ∃ v2 v3 v4 v5 v6 v7 : Option V, σ = [some (.ref a), some (.ref F), v2, v3, v4, v5, v6, v7] ∧ Same H H' ∧ H' F = some (.lst (vn (bytesR (Rs.take i))))
theorem subT_not {n m : String} (h : n ≠ m) (h2 : m ≠ "int") : subT n m = false := by
  unfold subT
  simp [h, h2]
section
variable {P : Program} {w : World} {K : PySem.W.Frag} {mg : Str → Option Value} {base : Heap} {f : Addr} {fd : FuncData}
abbrev sbytes_of : Stmt := top 33
theorem scbytes_of : FnScope ["rows", "found", "at", "row", "number", "tail", "_", "argument"] ["rows"] (defScope sbytes_of) := ⟨rfl, rfl, rfl, by decide +kernel, rfl, by decide +kernel, by decide +kernel⟩

theorem ok_bytes_of {df CR : Addr} (T : Txt mg) (W : Wt K w mg df) (X_NoRows : Exn P w K mg base "NoRows" CR "at") (F : FnP K "bytes_of" "bytes_of" sbytes_of f fd) (C_is_instruction : Cal P w K mg base 2 "is_instruction" ["word", "argument"] spIsI)
    (C_extension_of : Cal P w K mg base 2 "extension_of" ["argument"] spExt) : FnOk P w K mg base (CX P w) 3 f fd ["rows"] (spBytesOf CR) := by
  refine F.ok scbytes_of (fun vs H Q E h => ?_) (fun cdv A outer s H vs Q E hr h => ?_)
  · rcases h with ⟨a, Rs, rfl, _⟩ | ⟨a, Rs, x, r, rfl, _⟩ | ⟨x, n, rfl, _⟩ <;> rfl
  · refine ⟨_, (pss_cons (ps_if (pt_not (pt_val (pe_callB call_is_plt (by rfl) T.b_isinstance (by decide +kernel) (pa_cons (pv 0) (pa_cons (pe_tup (pa_cons (pe_bltn (v := .ty "list") (by rfl) T.b_list (by decide +kernel) rfl) (pa_cons (pe_bltn (v := .ty "tuple") (by rfl) T.b_tuple (by decide +kernel) rfl) pa_nil))) pa_nil)))))
    (pss_one (ps_raise rfl (takes_of rfl rfl rfl rfl) (pmk_x X_NoRows (hr.mono (by decide)) rfl (pe_un un_neg pe_int))))
    pss_nil)
  (pss_cons (ps_set (i := 1) scbytes_of.nd rfl (Or.inl rfl) (pe_lst pa_nil))
  (pss_cons (ps_for (passes_of rfl) rfl (pi_enumS (by rfl) T.b_enumerate (pa_cons (pv 0) pa_nil)) (pg_tupD (n := 2) rfl (pgs_cons (pg_name (i := 2) scbytes_of.nd rfl (Or.inl rfl)) (pgs_cons (pg_name (i := 3) scbytes_of.nd rfl (Or.inl rfl)) pgs_nil)))
    (pss_cons (ps_if (PW.pt (pw_or (pt_not (pt_val (pe_callB (call_is_p "tuple") (by rfl) T.b_isinstance (by decide +kernel) (pa_cons (pv 3) (pa_cons (pe_bltn (v := .ty "tuple") (by rfl) T.b_tuple (by decide +kernel) rfl) pa_nil))))) (pw_or (pt_cmpR op_ne (pe_callB call_len_d (by rfl) T.b_len (by decide +kernel) (pa_cons (pv 3) pa_nil)) pe_int (nomark _)) (pw_or1 (pt_not (pt_val (pe_cal C_is_instruction (hr.mono (by decide)) rfl (pa_cons (pe_ix ix_d (pv 3) pe_int (fun _ _ => rfl)) (pa_cons (pe_ix ix_d (pv 3) pe_int (fun _ _ => rfl)) pa_nil)))))))))
    (pss_one (ps_raise rfl (takes_of rfl rfl rfl rfl) (pmk_x X_NoRows (hr.mono (by decide)) rfl (pv 2))))
    pss_nil)
  (pss_cons (ps_asg (pe_ix ix_kdict (pe_glob (v := .ref _) rfl W.gf rfl) (pe_ix ix_d (pv 3) pe_int (fun _ _ => rfl)) (fun _ _ => rfl)) (pg_tup (n := 3) rfl (pgs_cons (pg_name (i := 4) scbytes_of.nd rfl (Or.inl rfl)) (pgs_cons (pg_name (i := 5) scbytes_of.nd rfl (Or.inl rfl)) (pgs_cons (pg_name (i := 6) scbytes_of.nd rfl (Or.inl rfl)) pgs_nil)))))
  (pss_cons (ps_set (i := 7) scbytes_of.nd rfl (Or.inl rfl) (pe_ifExp (pt_cmpR op_isN (pe_ix ix_d (pv 3) pe_int (fun _ _ => rfl)) pe_non (nomark _)) pe_int (pe_ix ix_d (pv 3) pe_int (fun _ _ => rfl))))
  (pss_one (ps_expr (pe_bm PySem.F.plainAttrs_list PySem.F.slot_list_extend PySem.F.type_list_extend mt_extend (pv 1) (pa_cons (pe_lst (pa_starD (pe_cal C_extension_of (hr.mono (by decide)) rfl (pa_cons (pv 7) pa_nil)) (pa_cons (pv 4) (pa_cons (pe_op op_and (pv 7) pe_int) (StX.pa_star (pv 5) pa_nil))))) pa_nil))))))))
  (pss_one (ps_ret (pe_callTy call_tuple_d (by rfl) T.b_tuple (by decide +kernel) (pa_cons (pv 1) pa_nil))))))), ?_⟩
    have h' : (∃ (a : Addr) (Rs : List IR) (rest : List V), vs = [.ref a] ∧ Rows H a Rs rest ∧ (rest = [] → ∀ p H', H p = none → Same H H' → H' p = some (.tup (vn (bytesR Rs))) → Q (.ref p) H') ∧
        ∀ x r, rest = x :: r → BadRow H x ∧ ∀ d H', H d = none → Same H H' → H' d = some (.xd [("at", .int (Rs.length : Int))]) → E (.ref CR) (some d) H') ∨
        ∃ (x : V) (n : String), vs = [x] ∧ tyP H x = some n ∧ n ≠ "list" ∧ n ≠ "tuple" ∧ ∀ d H', H d = none → Same H H' → H' d = some (.xd [("at", .int (-1))]) → E (.ref CR) (some d) H' := by
      rcases h with ⟨a, Rs, e, hR, k⟩ | ⟨a, Rs, x, r, e, hR, hB, k⟩ | h
      · exact .inl ⟨a, Rs, [], e, hR, fun _ => k, fun x r z => by cases z⟩
      · exact .inl ⟨a, Rs, x :: r, e, hR, fun z => by (cases z), fun y q z => by cases z; exact ⟨hB, k⟩⟩
      · exact .inr h
    clear h
    rcases h' with ⟨a, Rs, rest, rfl, ⟨⟨refs, ha, hP⟩, hok, hl⟩, k1, k2⟩ | ⟨x, n, rfl, hx, n1, n2, k⟩
    · show (_ : TS) _ [some (.ref a), none, none, none, none, none, none, none] H
      have lr := Paired.length hP
      simp only [r_seq, r_next, r_brk, r_cont, r_asg, r_name, r_ret, r_retN, r_drop, r_ifs, r_never, r_var, r_c, r_op, r_un, r_if, r_tst, r_b, r_not, r_and, r_or, r_andV, r_orV, r_notV, r_nil, r_cons, r_tup, r_lst, r_cb, r_call, r_bm, r_bm0, r_sl, r_nopart, r_part, r_rev, r_gnil, r_gcons, r_gsub, r_par, r_aug, r_chain, r_I0, r_I, r_U, r_ixd, r_lend, r_tupd, r_listd, r_sld, r_app, r_ext, r_reverse, r_setl, r_cat, r_int1, r_eqS, r_neS, scal_ii, scal_bb, scal_ss, at0, at1, at2, sq_lst, sq_tup, isLst_lst, List.getElem?_cons_zero, List.getElem?_cons_succ, List.set_cons_zero, List.set_cons_succ, V.int.injEq, V.bl.injEq, V.ref.injEq, V.str.injEq, HO.lst.injEq, HO.tup.injEq, Option.some.injEq, exists_eq_left', exists_eq_left, List.cons.injEq, and_true, true_and, decide_eq_true_eq, reduceCtorEq, false_and, exists_false, or_false, false_or, exists_const, and_assoc, exists_and_left, List.append_nil, ix0, ix1, ix2, cm_mod, cdw1009, cdw2003, cdw7, cdw64, cdw2, cm104729, cm2, cm3, upd_same, List.length_cons, List.length_nil, Int.reduceLT, Int.reduceLE, Nat.reduceAdd, Nat.reduceLeDiff, Nat.reduceLT, Int.reduceToNat, r_for1, r_forL, r_forT, r_lcL, r_lc1, r_yes, r_gtupD, wipe_0, wipe_1, List.cons_append, List.nil_append, r_forS, r_ipI, ite_false, ite_true, Bool.not_true, Bool.not_false, decide_true, decide_false, r_isd, r_islt, cD_ty, cD_ref, tD_non, tD_bl, tD_int, tD_str, tD_ref, tH_lst, tH_tup, tH_dK, tH_ins, ki_self, ki_int_bool, ki_non_int, ki_str_int, ki_lt_lst, ki_lt_tup, r_fld, r_sfld, HO.ins.injEq, cx_K, r_forE]
      refine ⟨szl (by decide : 2 ≤ 1000), fun p0 hp0 => ?_⟩
      have a0 : a ≠ p0 := fun z => by
        rw [z, hp0] at ha
        cases ha
      have tya : ∃ n, tyP (L2.upd H p0 (.tup [.ty "list", .ty "tuple"])) (.ref a) = some n ∧ (subT n "list" || subT n "tuple") = true := by
        show ∃ n, tyO (L2.upd H p0 _ a) = some n ∧ _
        rw [upd_ne a0]
        rcases sq_cases ha with e | e
        · exact ⟨"list", by rw [e]; rfl, by decide⟩
        · exact ⟨"tuple", by rw [e]; rfl, by decide⟩
      obtain ⟨n, hn, hb⟩ := tya
      refine ⟨_, p0, n, rfl, upd_same, hn, _, rfl, ?_⟩
      rw [hb, if_neg (by decide)]
      refine ⟨Nat.zero_le _, fun F hF => ?_⟩
      have s0 := Same.new' (o := .tup [.ty "list", .ty "tuple"]) (Same.refl H) hp0
      generalize L2.upd H p0 (.tup [.ty "list", .ty "tuple"]) = H0 at *
      have ha0 : H0 a = H a := by
        cases e : H a with
        | none => rw [e] at ha; cases ha
        | some o => exact s0 a o e
      have aF : a ≠ F := fun z => by
        rw [← z, ha0] at hF
        rw [hF] at ha
        cases ha
      have hF' : H F = none := s0.free hF
      have sF := Same.new' (o := .lst []) (Same.refl H0) hF
      have ha1 : L2.upd H0 F (.lst []) a = H a := by rw [upd_ne aF, ha0]
      refine lp_enum (xs := refs.map V.ref ++ rest) (by rw [ha1]; exact ha) (lvBO H a F Rs) ⟨Nat.zero_le _, _, _, _, _, _, _, rfl, fun b o e => sF b o (s0 b o e), upd_same⟩ ?_ ?_ ?_
      · rintro i σ H1 ⟨_, _, _, _, _, _, _, _, s1, _⟩
        rw [ha1]
        cases e : H a with
        | none => rw [e] at ha; cases ha
        | some o => exact s1 a o e
      · rintro i x σ H1 hx ⟨hi, v2, v3, v4, v5, v6, v7, rfl, s1, h1⟩ T hT
        have sT := Same.new' (o := .tup [.int (i : Nat), x]) (Same.refl H1) hT
        simp only [r_seq, r_next, r_brk, r_cont, r_asg, r_name, r_ret, r_retN, r_drop, r_ifs, r_never, r_var, r_c, r_op, r_un, r_if, r_tst, r_b, r_not, r_and, r_or, r_andV, r_orV, r_notV, r_nil, r_cons, r_tup, r_lst, r_cb, r_call, r_bm, r_bm0, r_sl, r_nopart, r_part, r_rev, r_gnil, r_gcons, r_gsub, r_par, r_aug, r_chain, r_I0, r_I, r_U, r_ixd, r_lend, r_tupd, r_listd, r_sld, r_app, r_ext, r_reverse, r_setl, r_cat, r_int1, r_eqS, r_neS, scal_ii, scal_bb, scal_ss, at0, at1, at2, sq_lst, sq_tup, isLst_lst, List.getElem?_cons_zero, List.getElem?_cons_succ, List.set_cons_zero, List.set_cons_succ, V.int.injEq, V.bl.injEq, V.ref.injEq, V.str.injEq, HO.lst.injEq, HO.tup.injEq, Option.some.injEq, exists_eq_left', exists_eq_left, List.cons.injEq, and_true, true_and, decide_eq_true_eq, reduceCtorEq, false_and, exists_false, or_false, false_or, exists_const, and_assoc, exists_and_left, List.append_nil, ix0, ix1, ix2, cm_mod, cdw1009, cdw2003, cdw7, cdw64, cdw2, cm104729, cm2, cm3, upd_same, List.length_cons, List.length_nil, Int.reduceLT, Int.reduceLE, Nat.reduceAdd, Nat.reduceLeDiff, Nat.reduceLT, Int.reduceToNat, r_for1, r_forL, r_forT, r_lcL, r_lc1, r_yes, r_gtupD, wipe_0, wipe_1, List.cons_append, List.nil_append, r_forS, r_ipI, ite_false, ite_true, Bool.not_true, Bool.not_false, decide_true, decide_false, r_isd, r_islt, cD_ty, cD_ref, tD_non, tD_bl, tD_int, tD_str, tD_ref, tH_lst, tH_tup, tH_dK, tH_ins, ki_self, ki_int_bool, ki_non_int, ki_str_int, ki_lt_lst, ki_lt_tup, r_fld, r_sfld, HO.ins.injEq, cx_K]
        have sG : Same H (L2.upd H1 T (.tup [.int (i : Nat), x])) := fun b o e => sT b o (s1 b o e)
        have h1 := sT _ _ h1
        generalize L2.upd H1 T (.tup [.int (i : Nat), x]) = G at *
        by_cases c : i < Rs.length
        · have hir : i < refs.length := by omega
          obtain rfl : x = .ref refs[i] := by
            rw [List.getElem?_append_left (by rw [List.length_map]; exact hir), List.getElem?_map, List.getElem?_eq_getElem hir] at hx
            exact (Option.some.inj hx).symm
          have hrow := sG _ _ (Paired.at' hP hir c)
          have ok := hok _ (List.getElem_mem c)
          have nx : bytesR (Rs.take (i + 1)) = bytesR (Rs.take i) ++ rowBytes Rs[i] := by rw [← List.take_append_getElem c, bytesR_snoc]
          have lb := bytesR_len (Rs.take i)
          rw [List.length_take] at lb
          generalize Rs[i] = R at *
          refine ⟨_, "tuple", rfl, by show tyO (G _) = _; rw [hrow]; rfl, _, rfl, ?_⟩
          rw [if_neg (by decide)]
          simp only [r_seq, r_next, r_brk, r_cont, r_asg, r_name, r_ret, r_retN, r_drop, r_ifs, r_never, r_var, r_c, r_op, r_un, r_if, r_tst, r_b, r_not, r_and, r_or, r_andV, r_orV, r_notV, r_nil, r_cons, r_tup, r_lst, r_cb, r_call, r_bm, r_bm0, r_sl, r_nopart, r_part, r_rev, r_gnil, r_gcons, r_gsub, r_par, r_aug, r_chain, r_I0, r_I, r_U, r_ixd, r_lend, r_tupd, r_listd, r_sld, r_app, r_ext, r_reverse, r_setl, r_cat, r_int1, r_eqS, r_neS, scal_ii, scal_bb, scal_ss, at0, at1, at2, sq_lst, sq_tup, isLst_lst, List.getElem?_cons_zero, List.getElem?_cons_succ, List.set_cons_zero, List.set_cons_succ, V.int.injEq, V.bl.injEq, V.ref.injEq, V.str.injEq, HO.lst.injEq, HO.tup.injEq, Option.some.injEq, exists_eq_left', exists_eq_left, List.cons.injEq, and_true, true_and, decide_eq_true_eq, reduceCtorEq, false_and, exists_false, or_false, false_or, exists_const, and_assoc, exists_and_left, List.append_nil, ix0, ix1, ix2, cm_mod, cdw1009, cdw2003, cdw7, cdw64, cdw2, cm104729, cm2, cm3, upd_same, List.length_cons, List.length_nil, Int.reduceLT, Int.reduceLE, Nat.reduceAdd, Nat.reduceLeDiff, Nat.reduceLT, Int.reduceToNat, r_for1, r_forL, r_forT, r_lcL, r_lc1, r_yes, r_gtupD, wipe_0, wipe_1, List.cons_append, List.nil_append, r_forS, r_ipI, ite_false, ite_true, Bool.not_true, Bool.not_false, decide_true, decide_false, r_isd, r_islt, cD_ty, cD_ref, tD_non, tD_bl, tD_int, tD_str, tD_ref, tH_lst, tH_tup, tH_dK, tH_ins, ki_self, ki_int_bool, ki_non_int, ki_str_int, ki_lt_lst, ki_lt_tup, r_fld, r_sfld, HO.ins.injEq, cx_K, hrow, irV]
          rw [if_neg (by simp)]
          have tw : ∃ nv, tyP G (aV R.a) = some nv := by
            cases R.a with
            | none => exact ⟨_, rfl⟩
            | some k => exact ⟨_, rfl⟩
          obtain ⟨nv, hnv⟩ := tw
          obtain ⟨n0, hn0⟩ := ok.ex
          refine ⟨_, _, "str", nv, rfl, rfl, hnv, (fun z e => by cases e; exact .inl ⟨_, hn0⟩), fun G2 s2 => ⟨_, rfl, ?_⟩⟩
          rw [ok.row, if_neg (by decide)]
          have hrow2 := s2 _ _ hrow
          have h2 := s2 _ _ h1
          obtain ⟨ka, kb, kf, f1, f2, f3⟩ := W.has _ _ hn0
          have hnn : numN R.w = n0 := by
            unfold numN
            rw [hn0]
            rfl
          have lt : R.a.getD 0 < 4294967296 := by
            cases e : R.a with
            | none => exact (by decide : 0 < 4294967296)
            | some k => exact ok.lt k e
          have lz := rowBytes_len R
          refine ⟨_, by rw [hrow2]; rfl, _, at0, df, R.w, _, rfl, rfl, f1, ?_⟩
          simp only [r_seq, r_next, r_brk, r_cont, r_asg, r_name, r_ret, r_retN, r_drop, r_ifs, r_never, r_var, r_c, r_op, r_un, r_if, r_tst, r_b, r_not, r_and, r_or, r_andV, r_orV, r_notV, r_nil, r_cons, r_tup, r_lst, r_cb, r_call, r_bm, r_bm0, r_sl, r_nopart, r_part, r_rev, r_gnil, r_gcons, r_gsub, r_par, r_aug, r_chain, r_I0, r_I, r_U, r_ixd, r_lend, r_tupd, r_listd, r_sld, r_app, r_ext, r_reverse, r_setl, r_cat, r_int1, r_eqS, r_neS, scal_ii, scal_bb, scal_ss, at0, at1, at2, sq_lst, sq_tup, isLst_lst, List.getElem?_cons_zero, List.getElem?_cons_succ, List.set_cons_zero, List.set_cons_succ, V.int.injEq, V.bl.injEq, V.ref.injEq, V.str.injEq, HO.lst.injEq, HO.tup.injEq, Option.some.injEq, exists_eq_left', exists_eq_left, List.cons.injEq, and_true, true_and, decide_eq_true_eq, reduceCtorEq, false_and, exists_false, or_false, false_or, exists_const, and_assoc, exists_and_left, List.append_nil, ix0, ix1, ix2, cm_mod, cdw1009, cdw2003, cdw7, cdw64, cdw2, cm104729, cm2, cm3, upd_same, List.length_cons, List.length_nil, Int.reduceLT, Int.reduceLE, Nat.reduceAdd, Nat.reduceLeDiff, Nat.reduceLT, Int.reduceToNat, r_for1, r_forL, r_forT, r_lcL, r_lc1, r_yes, r_gtupD, wipe_0, wipe_1, List.cons_append, List.nil_append, r_forS, r_ipI, ite_false, ite_true, Bool.not_true, Bool.not_false, decide_true, decide_false, r_isd, r_islt, cD_ty, cD_ref, tD_non, tD_bl, tD_int, tD_str, tD_ref, tH_lst, tH_tup, tH_dK, tH_ins, ki_self, ki_int_bool, ki_non_int, ki_str_int, ki_lt_lst, ki_lt_tup, r_fld, r_sfld, HO.ins.injEq, cx_K, r_gtup]
          refine ⟨_, f2.s G2, rfl, _, _, rfl, _, _, rfl, _, _, rfl, rfl, ?_⟩
          simp only [r_seq, r_next, r_brk, r_cont, r_asg, r_name, r_ret, r_retN, r_drop, r_ifs, r_never, r_var, r_c, r_op, r_un, r_if, r_tst, r_b, r_not, r_and, r_or, r_andV, r_orV, r_notV, r_nil, r_cons, r_tup, r_lst, r_cb, r_call, r_bm, r_bm0, r_sl, r_nopart, r_part, r_rev, r_gnil, r_gcons, r_gsub, r_par, r_aug, r_chain, r_I0, r_I, r_U, r_ixd, r_lend, r_tupd, r_listd, r_sld, r_app, r_ext, r_reverse, r_setl, r_cat, r_int1, r_eqS, r_neS, scal_ii, scal_bb, scal_ss, at0, at1, at2, sq_lst, sq_tup, isLst_lst, List.getElem?_cons_zero, List.getElem?_cons_succ, List.set_cons_zero, List.set_cons_succ, V.int.injEq, V.bl.injEq, V.ref.injEq, V.str.injEq, HO.lst.injEq, HO.tup.injEq, Option.some.injEq, exists_eq_left', exists_eq_left, List.cons.injEq, and_true, true_and, decide_eq_true_eq, reduceCtorEq, false_and, exists_false, or_false, false_or, exists_const, and_assoc, exists_and_left, List.append_nil, ix0, ix1, ix2, cm_mod, cdw1009, cdw2003, cdw7, cdw64, cdw2, cm104729, cm2, cm3, upd_same, List.length_cons, List.length_nil, Int.reduceLT, Int.reduceLE, Nat.reduceAdd, Nat.reduceLeDiff, Nat.reduceLT, Int.reduceToNat, r_for1, r_forL, r_forT, r_lcL, r_lc1, r_yes, r_gtupD, wipe_0, wipe_1, List.cons_append, List.nil_append, r_forS, r_ipI, ite_false, ite_true, Bool.not_true, Bool.not_false, decide_true, decide_false, r_isd, r_islt, cD_ty, cD_ref, tD_non, tD_bl, tD_int, tD_str, tD_ref, tH_lst, tH_tup, tH_dK, tH_ins, ki_self, ki_int_bool, ki_non_int, ki_str_int, ki_lt_lst, ki_lt_tup, r_fld, r_sfld, HO.ins.injEq, cx_K, hrow2, irV, r_starD, r_star]
          have fin : ∀ (m : Nat) (v7 : Option V), m = R.a.getD 0 → ∀ (t : Addr) (G3 : Hp), G2 t = none → Same G2 G3 → ∃ x_1, (SqT K G3 kb x_1 ∨ SqL K G3 kb x_1) ∧ (vn (exts m) ++ V.int (n0 : Int) :: V.int (Builtin.bitAnd (m : Int) 255) :: x_1).length ≤ sizeLine ∧ ∀ p : Addr, G3 p = none →
              ∃ x_2, L2.upd G3 p (HO.lst (vn (exts m) ++ V.int (n0 : Int) :: V.int (Builtin.bitAnd (m : Int) 255) :: x_1)) F = some (HO.lst x_2) ∧ x_2.length + (vn (exts m) ++ V.int (n0 : Int) :: V.int (Builtin.bitAnd (m : Int) 255) :: x_1).length ≤ sizeLine ∧
                lvBO H a F Rs (i + 1) [some (.ref a), some (.ref F), some (.int (i : Int)), some (.ref refs[i]), some (.int (n0 : Int)), some (.ref kb), some kf, v7] (L2.upd (L2.upd G3 p (HO.lst (vn (exts m) ++ V.int (n0 : Int) :: V.int (Builtin.bitAnd (m : Int) 255) :: x_1))) F (.lst (x_2 ++ (vn (exts m) ++ V.int (n0 : Int) :: V.int (Builtin.bitAnd (m : Int) 255) :: x_1)))) := by
            rintro m v7 hm t G3 ht s3
            have ez : vn (exts m) ++ V.int (n0 : Int) :: V.int (Builtin.bitAnd (m : Int) 255) :: List.replicate (2 * cacN R.w) (V.int 0) = vn (rowBytes R) := by
              unfold rowBytes packN
              rw [hnn, ← hm, vn_app, bitAnd_m8]
              congr 1
              show _ = V.int (n0 : Int) :: V.int ((m % 256 : Nat) : Int) :: vn (List.replicate (2 * cacN R.w) 0)
              unfold vn
              rw [List.map_replicate]
              rfl
            refine ⟨_, .inl (f3.s G3), ?_⟩
            rw [ez]
            have h3 := s3 _ _ h2
            refine ⟨Nat.le_trans (by rw [vn_len]; omega : _ ≤ 1000) (by decide), fun q hq => ⟨_, by rw [upd_ne (ne_new h3 hq)]; exact h3, Nat.le_trans (by rw [vn_len, vn_len]; omega : _ ≤ 60000) (by decide), c, _, _, _, _, _, _, rfl, fun b o e => ?_, ?_⟩⟩
            · rw [upd_ne (ne_new e hF'), upd_ne (ne_new (s3 b o (s2 b o (sG b o e))) hq)]
              exact s3 b o (s2 b o (sG b o e))
            · rw [upd_same, ← vn_app, nx]
          cases ea : R.a with
          | none =>
            rw [ea] at fin lt
            refine ite2 (fun _ => ?_) (fun z => absurd (show aV none = V.non from rfl) z)
            exact ⟨tyl h2, 0, rfl, lt, fun t G3 ht s3 h3 => ⟨t, rfl, _, by rw [h3]; rfl, fin 0 _ rfl t G3 ht s3⟩⟩
          | some m =>
            rw [ea] at fin lt
            refine ite2 (fun z => absurd (show aV (some m) = V.non from z) fun e => by cases e) (fun _ => ?_)
            exact ⟨tyl h2, m, rfl, lt, fun t G3 ht s3 h3 => ⟨t, rfl, _, by rw [h3]; rfl, _, rfl, fin m _ rfl t G3 ht s3⟩⟩
        · have hi2 : i = Rs.length := by omega
          subst hi2
          rw [List.getElem?_append_right (by rw [List.length_map]; omega), List.length_map, lr, Nat.sub_self] at hx
          obtain ⟨r, rfl⟩ : ∃ r, rest = x :: r := by
            cases rest with
            | nil => cases hx
            | cons y r => cases hx; exact ⟨r, rfl⟩
          obtain ⟨hB, k2⟩ := k2 x r rfl
          have hB := hB.same sG
          have fin : ∀ (v4 v5 v6 v7 : Option V) (G2 : Hp), Same G G2 → tMkO CR (spXInit CR "at") [] (tCons (tVar 2) tNil) [some (.ref a), some (.ref F), some (.int (Rs.length : Int)), some x, v4, v5, v6, v7] G2 fun cls d H' => E cls d H' := by
            intro v4 v5 v6 v7 G2 s2
            exact raise_x (fun Q q => ⟨_, rfl, q⟩) fun d H' hd s3 h3 => k2 d H' (sG.free (s2.free hd)) (fun b o e => s3 b o (s2 b o (sG b o e))) h3
          rcases hB with ⟨n, hn, hne⟩ | ⟨t, ys, rfl, ht, hB⟩
          · refine ⟨_, n, rfl, hn, _, rfl, ?_⟩
            rw [subT_not hne (by decide), if_pos (by decide)]
            exact fin _ _ _ _ G (Same.refl G)
          · refine ⟨_, "tuple", rfl, by show tyO (G _) = _; rw [ht]; rfl, _, rfl, ?_⟩
            rw [if_neg (by decide)]
            simp only [r_seq, r_next, r_brk, r_cont, r_asg, r_name, r_ret, r_retN, r_drop, r_ifs, r_never, r_var, r_c, r_op, r_un, r_if, r_tst, r_b, r_not, r_and, r_or, r_andV, r_orV, r_notV, r_nil, r_cons, r_tup, r_lst, r_cb, r_call, r_bm, r_bm0, r_sl, r_nopart, r_part, r_rev, r_gnil, r_gcons, r_gsub, r_par, r_aug, r_chain, r_I0, r_I, r_U, r_ixd, r_lend, r_tupd, r_listd, r_sld, r_app, r_ext, r_reverse, r_setl, r_cat, r_int1, r_eqS, r_neS, scal_ii, scal_bb, scal_ss, at0, at1, at2, sq_lst, sq_tup, isLst_lst, List.getElem?_cons_zero, List.getElem?_cons_succ, List.set_cons_zero, List.set_cons_succ, V.int.injEq, V.bl.injEq, V.ref.injEq, V.str.injEq, HO.lst.injEq, HO.tup.injEq, Option.some.injEq, exists_eq_left', exists_eq_left, List.cons.injEq, and_true, true_and, decide_eq_true_eq, reduceCtorEq, false_and, exists_false, or_false, false_or, exists_const, and_assoc, exists_and_left, List.append_nil, ix0, ix1, ix2, cm_mod, cdw1009, cdw2003, cdw7, cdw64, cdw2, cm104729, cm2, cm3, upd_same, List.length_cons, List.length_nil, Int.reduceLT, Int.reduceLE, Nat.reduceAdd, Nat.reduceLeDiff, Nat.reduceLT, Int.reduceToNat, r_for1, r_forL, r_forT, r_lcL, r_lc1, r_yes, r_gtupD, wipe_0, wipe_1, List.cons_append, List.nil_append, r_forS, r_ipI, ite_false, ite_true, Bool.not_true, Bool.not_false, decide_true, decide_false, r_isd, r_islt, cD_ty, cD_ref, tD_non, tD_bl, tD_int, tD_str, tD_ref, tH_lst, tH_tup, tH_dK, tH_ins, ki_self, ki_int_bool, ki_non_int, ki_str_int, ki_lt_lst, ki_lt_tup, r_fld, r_sfld, HO.ins.injEq, cx_K, ht]
            rcases hB with hn | ⟨u, v, nu, nv, rfl, hu, hv, hk, hb⟩
            · rw [if_pos (by simp; omega)]
              exact fin _ _ _ _ G (Same.refl G)
            · rw [if_neg (by simp)]
              refine ⟨u, at0, v, at1, u, v, nu, nv, rfl, hu, hv, hk, fun G2 s2 => ⟨_, rfl, ?_⟩⟩
              rw [hb, if_pos (by decide)]
              exact fin _ _ _ _ G2 s2
      · rintro σ H1 ⟨hi, v2, v3, v4, v5, v6, v7, rfl, s1, h1⟩
        rw [List.length_append, List.length_map, lr] at hi
        have er : rest = [] := by
          cases rest with
          | nil => rfl
          | cons y r => rw [List.length_cons] at hi; omega
        subst er
        rw [List.append_nil, List.length_map, lr, List.take_length] at h1
        simp only [r_seq, r_next, r_brk, r_cont, r_asg, r_name, r_ret, r_retN, r_drop, r_ifs, r_never, r_var, r_c, r_op, r_un, r_if, r_tst, r_b, r_not, r_and, r_or, r_andV, r_orV, r_notV, r_nil, r_cons, r_tup, r_lst, r_cb, r_call, r_bm, r_bm0, r_sl, r_nopart, r_part, r_rev, r_gnil, r_gcons, r_gsub, r_par, r_aug, r_chain, r_I0, r_I, r_U, r_ixd, r_lend, r_tupd, r_listd, r_sld, r_app, r_ext, r_reverse, r_setl, r_cat, r_int1, r_eqS, r_neS, scal_ii, scal_bb, scal_ss, at0, at1, at2, sq_lst, sq_tup, isLst_lst, List.getElem?_cons_zero, List.getElem?_cons_succ, List.set_cons_zero, List.set_cons_succ, V.int.injEq, V.bl.injEq, V.ref.injEq, V.str.injEq, HO.lst.injEq, HO.tup.injEq, Option.some.injEq, exists_eq_left', exists_eq_left, List.cons.injEq, and_true, true_and, decide_eq_true_eq, reduceCtorEq, false_and, exists_false, or_false, false_or, exists_const, and_assoc, exists_and_left, List.append_nil, ix0, ix1, ix2, cm_mod, cdw1009, cdw2003, cdw7, cdw64, cdw2, cm104729, cm2, cm3, upd_same, List.length_cons, List.length_nil, Int.reduceLT, Int.reduceLE, Nat.reduceAdd, Nat.reduceLeDiff, Nat.reduceLT, Int.reduceToNat, r_for1, r_forL, r_forT, r_lcL, r_lc1, r_yes, r_gtupD, wipe_0, wipe_1, List.cons_append, List.nil_append, r_forS, r_ipI, ite_false, ite_true, Bool.not_true, Bool.not_false, decide_true, decide_false, r_isd, r_islt, cD_ty, cD_ref, tD_non, tD_bl, tD_int, tD_str, tD_ref, tH_lst, tH_tup, tH_dK, tH_ins, ki_self, ki_int_bool, ki_non_int, ki_str_int, ki_lt_lst, ki_lt_tup, r_fld, r_sfld, HO.ins.injEq, cx_K, h1]
        intro p hp
        exact k1 rfl p _ (s1.free hp) (Same.new' s1 hp) upd_same
    · show (_ : TS) _ [some x, none, none, none, none, none, none, none] H
      simp only [r_seq, r_next, r_brk, r_cont, r_asg, r_name, r_ret, r_retN, r_drop, r_ifs, r_never, r_var, r_c, r_op, r_un, r_if, r_tst, r_b, r_not, r_and, r_or, r_andV, r_orV, r_notV, r_nil, r_cons, r_tup, r_lst, r_cb, r_call, r_bm, r_bm0, r_sl, r_nopart, r_part, r_rev, r_gnil, r_gcons, r_gsub, r_par, r_aug, r_chain, r_I0, r_I, r_U, r_ixd, r_lend, r_tupd, r_listd, r_sld, r_app, r_ext, r_reverse, r_setl, r_cat, r_int1, r_eqS, r_neS, scal_ii, scal_bb, scal_ss, at0, at1, at2, sq_lst, sq_tup, isLst_lst, List.getElem?_cons_zero, List.getElem?_cons_succ, List.set_cons_zero, List.set_cons_succ, V.int.injEq, V.bl.injEq, V.ref.injEq, V.str.injEq, HO.lst.injEq, HO.tup.injEq, Option.some.injEq, exists_eq_left', exists_eq_left, List.cons.injEq, and_true, true_and, decide_eq_true_eq, reduceCtorEq, false_and, exists_false, or_false, false_or, exists_const, and_assoc, exists_and_left, List.append_nil, ix0, ix1, ix2, cm_mod, cdw1009, cdw2003, cdw7, cdw64, cdw2, cm104729, cm2, cm3, upd_same, List.length_cons, List.length_nil, Int.reduceLT, Int.reduceLE, Nat.reduceAdd, Nat.reduceLeDiff, Nat.reduceLT, Int.reduceToNat, r_for1, r_forL, r_forT, r_lcL, r_lc1, r_yes, r_gtupD, wipe_0, wipe_1, List.cons_append, List.nil_append, r_forS, r_ipI, ite_false, ite_true, Bool.not_true, Bool.not_false, decide_true, decide_false, r_isd, r_islt, cD_ty, cD_ref, tD_non, tD_bl, tD_int, tD_str, tD_ref, tH_lst, tH_tup, tH_dK, tH_ins, ki_self, ki_int_bool, ki_non_int, ki_str_int, ki_lt_lst, ki_lt_tup, r_fld, r_sfld, HO.ins.injEq, cx_K]
      refine ⟨szl (by decide : 2 ≤ 1000), fun p0 hp0 => ?_⟩
      have s0 := Same.new' (o := .tup [.ty "list", .ty "tuple"]) (Same.refl H) hp0
      refine ⟨_, p0, n, rfl, upd_same, tyP_same s0 hx, _, rfl, ?_⟩
      rw [subT_not n1 (by decide), subT_not n2 (by decide), if_pos (by decide)]
      exact raise_x (fun Q q => ⟨_, rfl, q⟩) fun d H' hd s3 h3 => k d H' (s0.free hd) (fun b o e => s3 b o (s0 b o e)) h3
end
end C46

set_option maxHeartbeats 1000000
namespace C46
open PySem PySem.Spec PyProof.Rows L2
/-! ### the source of choices -/
def Src (H : Hp) (a : Addr) : Prop := ∃ x y z : Int, H a = some (.lst [.int x, .int y, .int z])
/-- all but a stays -/
def Keep (a : Addr) (H H' : Hp) : Prop := ∀ b o, b ≠ a → H b = some o → H' b = some o
theorem Keep.refl (a : Addr) (H : Hp) : Keep a H H := fun _ _ _ h => h
theorem Keep.trans {a : Addr} {H H1 H2 : Hp} (h : Keep a H H1) (k : Keep a H1 H2) : Keep a H H2 := fun b o n e => k b o n (h b o n e)
theorem Keep.upd {a : Addr} {H H1 : Hp} {o : HO} (h : Keep a H H1) : Keep a H (upd H1 a o) := fun b u n e => by
  rw [upd_ne n]
  exact h b u n e
theorem Keep.new {a p : Addr} {H H1 : Hp} {o : HO} (h : Keep a H H1) (hp : H1 p = none) : Keep a H (L2.upd H1 p o) := fun b u n e => by
  have e1 := h b u n e
  rw [upd_ne (ne_of_none e1 hp)]
  exact e1
theorem Keep.same {a : Addr} {H H1 : Hp} (h : Same H H1) : Keep a H H1 := fun b o _ e => h b o e
theorem Src.new {H : Hp} {a p : Addr} {o : HO} (h : Src H a) (hp : H p = none) : Src (L2.upd H p o) a := by
  obtain ⟨x, y, z, e⟩ := h
  exact ⟨x, y, z, by rw [upd_ne (ne_new e hp)]; exact e⟩
theorem Src.ne {H : Hp} {a p : Addr} (h : Src H a) (hp : H p = none) : p ≠ a := by
  obtain ⟨x, y, z, e⟩ := h
  exact new_ne e hp
def spSrc : Sp := fun vs H Q _ => ∃ n : Int, vs = [.int n] ∧ ∀ p H', H p = none → Same H H' → Src H' p → Q (.ref p) H'
def spNext : Sp := fun vs H Q _ => ∃ (a : Addr) (m : Int), vs = [.ref a, .int m] ∧ Src H a ∧ 0 < m ∧ m < 2 ^ 200 ∧ ∀ (r : Int) H', 0 ≤ r → r < m → Keep a H H' → Src H' a → Q (.int r) H'
def spOne : Sp := fun vs H Q _ => ∃ (a b : Addr) (xs : List V), vs = [.ref a, .ref b] ∧ Src H a ∧ b ≠ a ∧ H b = some (.lst xs) ∧ xs ≠ [] ∧ xs.length ≤ 1000 ∧ ∀ v H', v ∈ xs → Keep a H H' → Src H' a → Q v H'
section
variable {P : Program} {w : World} {K : PySem.W.Frag} {mg : Str → Option Value} {base : Heap} {f : Addr} {fd : FuncData}
abbrev ssource_of : Stmt := top 36
theorem scsource_of : FnScope ["_law_cell"] ["_law_cell"] (defScope ssource_of) := ⟨rfl, rfl, rfl, by decide +kernel, rfl, by decide +kernel, by decide +kernel⟩

abbrev snext : Stmt := top 37
theorem scnext : FnScope ["_law_source", "_law_many", "_law_found", "_law_prime", "_law_number"] ["_law_source", "_law_many"] (defScope snext) := ⟨rfl, rfl, rfl, by decide +kernel, rfl, by decide +kernel, by decide +kernel⟩

abbrev sone : Stmt := top 38
theorem scone : FnScope ["_law_source", "_law_some"] ["_law_source", "_law_some"] (defScope sone) := ⟨rfl, rfl, rfl, by decide +kernel, rfl, by decide +kernel, by decide +kernel⟩

theorem ok_source_of (T : Txt mg) (F : FnP K "_law_source_of" "_law_source_of" ssource_of f fd) : FnOk P w K mg base CX0 1 f fd ["_law_cell"] spSrc := by
  refine F.ok scsource_of (fun vs H Q E h => ?_) (fun cdv A outer s H vs Q E hr h => ?_)
  · obtain ⟨n, rfl, _⟩ := h
    rfl
  · obtain ⟨n, rfl, k⟩ := h
    refine ⟨_, PSs.nox (pss_cons (ps_set (i := 0) scsource_of.nd rfl (Or.inl rfl) (pe_ifExp (pt_cmpR op_ge (pv 0) pe_int (nomark _)) (pv 0) (pe_op op_sub (pe_op op_sub pe_int (pe_op op_mul pe_int (pv 0))) pe_int)))
  (pss_one (ps_ret (pe_lst (pa_cons (pe_op op_mul (pv 0) (pe_callTy call_int1 (by rfl) T.b_int (by decide +kernel) (pa_cons (pe_cmpR op_ge (pv 0) (pe_op op_pow pe_int pe_int) (nomark _)) pa_nil))) (pa_cons (pe_op op_mod (pe_callTy call_int1 (by rfl) T.b_int (by decide +kernel) (pa_cons (pv 0) pa_nil)) pe_int) (pa_cons pe_int pa_nil))))))), ?_⟩
    show (_ : TS) _ [some (.int n)] H
    simp only [r_seq, r_next, r_brk, r_cont, r_asg, r_name, r_ret, r_retN, r_drop, r_ifs, r_never, r_var, r_c, r_op, r_un, r_if, r_tst, r_b, r_not, r_and, r_or, r_andV, r_orV, r_notV, r_nil, r_cons, r_tup, r_lst, r_cb, r_call, r_bm, r_bm0, r_sl, r_nopart, r_part, r_rev, r_gnil, r_gcons, r_gsub, r_par, r_aug, r_chain, r_I0, r_I, r_U, r_ixd, r_lend, r_tupd, r_listd, r_sld, r_app, r_ext, r_reverse, r_setl, r_cat, r_int1, r_eqS, r_neS, scal_ii, scal_bb, scal_ss, at0, at1, at2, sq_lst, sq_tup, isLst_lst, List.getElem?_cons_zero, List.getElem?_cons_succ, List.set_cons_zero, List.set_cons_succ, V.int.injEq, V.bl.injEq, V.ref.injEq, V.str.injEq, HO.lst.injEq, HO.tup.injEq, Option.some.injEq, exists_eq_left', exists_eq_left, List.cons.injEq, and_true, true_and, decide_eq_true_eq, reduceCtorEq, false_and, exists_false, or_false, false_or, exists_const, and_assoc, exists_and_left, List.append_nil, ix0, ix1, ix2, cm_mod, cdw1009, cdw2003, cdw7, cdw64, cdw2, cm104729, cm2, cm3, upd_same, List.length_cons, List.length_nil, Int.reduceLT, Int.reduceLE, Nat.reduceAdd, Nat.reduceLeDiff, Nat.reduceLT, Int.reduceToNat, r_for1, r_forL, r_forT, r_lcL, r_lc1, r_yes, r_gtupD, wipe_0, wipe_1, List.cons_append, List.nil_append, r_forS, r_ipI, ite_false, ite_true, Bool.not_true, Bool.not_false, decide_true, decide_false, r_isd, r_islt, cD_ty, cD_ref, tD_non, tD_bl, tD_int, tD_str, tD_ref, tH_lst, tH_tup, tH_dK, tH_ins, ki_self, ki_int_bool, ki_non_int, ki_str_int, ki_lt_lst, ki_lt_tup, r_fld, r_sfld, HO.ins.injEq, cx_K]
    have k' : ∀ x y z : Int, ∀ p, H p = none → Q (.ref p) (upd H p (.lst [.int x, .int y, .int z])) := fun x y z p hp =>
      k p _ hp (Same.new' (Same.refl H) hp) ⟨x, y, z, upd_same⟩
    have c1 : CPow 10 18 := ⟨by decide, by decide, by decide⟩
    have c2 : ∀ (i : Int) (c : Prop) [Decidable c], CMul i (if c then 1 else 0) := fun i c _ => .inr (by split <;> decide)
    have c3 : CMul 3 n := .inl (by decide)
    exact ite2 (fun _ => ⟨c1, c2 _ _, Nat.le_trans (by decide : 3 ≤ 1000) (by decide), k' _ _ _⟩) (fun _ => ⟨c1, c2 _ _, Nat.le_trans (by decide : 3 ≤ 1000) (by decide), k' _ _ _⟩)
theorem ok_next (T : Txt mg) (F : FnP K "_law_next" "_law_next" snext f fd) : FnOk P w K mg base CX0 1 f fd ["_law_source", "_law_many"] spNext := by
  refine F.ok scnext (fun vs H Q E h => ?_) (fun cdv A outer s H vs Q E hr h => ?_)
  · obtain ⟨a, m, rfl, _⟩ := h
    rfl
  · obtain ⟨a, m, rfl, ⟨x, y, z, hS⟩, m0, m1, k⟩ := h
    refine ⟨_, PSs.nox (pss_cons (ps_if (pt_cmpR op_gt (pe_ix ix_d (pv 0) pe_int (fun _ _ => rfl)) pe_int (nomark _))
    (pss_cons (ps_set (i := 2) scnext.nd rfl (Or.inl rfl) (pe_op op_mod (pe_callTy call_int1 (by rfl) T.b_int (by decide +kernel) (pa_cons (pe_ix ix_d (pv 0) pe_int (fun _ _ => rfl)) pa_nil)) (pv 1)))
  (pss_cons (ps_asg (pe_op op_fdivW (pe_ix ix_d (pv 0) pe_int (fun _ _ => rfl)) (pv 1)) (pg_sub (pv 0) pe_int set_list))
  (pss_one (ps_ret (pv 2)))))
    pss_nil)
  (pss_cons (ps_asg (pe_op op_add (pe_ix ix_d (pv 0) pe_int (fun _ _ => rfl)) pe_int) (pg_sub (pv 0) pe_int set_list))
  (pss_cons (ps_set (i := 3) scnext.nd rfl (Or.inl rfl) pe_int)
  (pss_cons (ps_set (i := 4) scnext.nd rfl (Or.inl rfl) (pe_op op_mod (pe_callTy call_int1 (by rfl) T.b_int (by decide +kernel) (pa_cons (pe_op op_add (pe_op op_add (pe_ix ix_d (pv 0) pe_int (fun _ _ => rfl)) (pe_op op_mul pe_int (pe_ix ix_d (pv 0) pe_int (fun _ _ => rfl)))) pe_int) pa_nil)) (pv 3)))
  (pss_cons (ps_set (i := 4) scnext.nd rfl (Or.inl rfl) (pe_op op_mod (pe_callTy call_int1 (by rfl) T.b_int (by decide +kernel) (pa_cons (pe_op op_mul (pv 4) pe_int) pa_nil)) (pv 3)))
  (pss_cons (ps_set (i := 4) scnext.nd rfl (Or.inl rfl) (pe_op op_mod (pe_callTy call_int1 (by rfl) T.b_int (by decide +kernel) (pa_cons (pe_op op_mul (pv 4) (pe_op op_add (pe_op op_fdivW (pv 4) pe_int) pe_int)) pa_nil)) (pv 3)))
  (pss_cons (ps_set (i := 4) scnext.nd rfl (Or.inl rfl) (pe_op op_mod (pe_callTy call_int1 (by rfl) T.b_int (by decide +kernel) (pa_cons (pe_op op_mul (pv 4) (pe_op op_add (pe_op op_fdivW (pv 4) pe_int) pe_int)) pa_nil)) pe_int))
  (pss_one (ps_ret (pe_op op_mod (pe_callTy call_int1 (by rfl) T.b_int (by decide +kernel) (pa_cons (pe_op op_fdivW (pv 4) pe_int) pa_nil)) (pv 1))))))))))), ?_⟩
    show (_ : TS) _ [some (.ref a), some (.int m), none, none, none] H
    have hC : ∀ i, CDivW i m := fun i => of_eq_true (cdw ⟨m0, m1⟩)
    have kk : ∀ (e : Int) (u v t : Int), Q (.int (e % m)) (upd H a (.lst [.int u, .int v, .int t])) := fun e u v t => k _ _ (Int.emod_nonneg _ (by omega)) (Int.emod_lt_of_pos _ m0) (Keep.upd (Keep.refl a H)) ⟨u, v, t, upd_same⟩
    simp only [r_seq, r_next, r_brk, r_cont, r_asg, r_name, r_ret, r_retN, r_drop, r_ifs, r_never, r_var, r_c, r_op, r_un, r_if, r_tst, r_b, r_not, r_and, r_or, r_andV, r_orV, r_notV, r_nil, r_cons, r_tup, r_lst, r_cb, r_call, r_bm, r_bm0, r_sl, r_nopart, r_part, r_rev, r_gnil, r_gcons, r_gsub, r_par, r_aug, r_chain, r_I0, r_I, r_U, r_ixd, r_lend, r_tupd, r_listd, r_sld, r_app, r_ext, r_reverse, r_setl, r_cat, r_int1, r_eqS, r_neS, scal_ii, scal_bb, scal_ss, at0, at1, at2, sq_lst, sq_tup, isLst_lst, List.getElem?_cons_zero, List.getElem?_cons_succ, List.set_cons_zero, List.set_cons_succ, V.int.injEq, V.bl.injEq, V.ref.injEq, V.str.injEq, HO.lst.injEq, HO.tup.injEq, Option.some.injEq, exists_eq_left', exists_eq_left, List.cons.injEq, and_true, true_and, decide_eq_true_eq, reduceCtorEq, false_and, exists_false, or_false, false_or, exists_const, and_assoc, exists_and_left, List.append_nil, ix0, ix1, ix2, cm_mod, cdw1009, cdw2003, cdw7, cdw64, cdw2, cm104729, cm2, cm3, upd_same, List.length_cons, List.length_nil, Int.reduceLT, Int.reduceLE, Nat.reduceAdd, Nat.reduceLeDiff, Nat.reduceLT, Int.reduceToNat, r_for1, r_forL, r_forT, r_lcL, r_lc1, r_yes, r_gtupD, wipe_0, wipe_1, List.cons_append, List.nil_append, r_forS, r_ipI, ite_false, ite_true, Bool.not_true, Bool.not_false, decide_true, decide_false, r_isd, r_islt, cD_ty, cD_ref, tD_non, tD_bl, tD_int, tD_str, tD_ref, tH_lst, tH_tup, tH_dK, tH_ins, ki_self, ki_int_bool, ki_non_int, ki_str_int, ki_lt_lst, ki_lt_tup, r_fld, r_sfld, HO.ins.injEq, cx_K, hS, m0, hC]
    exact ite2 (fun _ => kk _ _ _ _) (fun _ => kk _ _ _ _)
theorem ok_one (T : Txt mg) (F : FnP K "_law_one" "_law_one" sone f fd) (C_next : Cal P w K mg base 1 "_law_next" ["_law_source", "_law_many"] spNext) : FnOk P w K mg base CX0 2 f fd ["_law_source", "_law_some"] spOne := by
  refine F.ok scone (fun vs H Q E h => ?_) (fun cdv A outer s H vs Q E hr h => ?_)
  · obtain ⟨a, b, xs, rfl, _⟩ := h
    rfl
  · obtain ⟨a, b, xs, rfl, hS, hb, hx, h0, h1, k⟩ := h
    refine ⟨_, PSs.nox (pss_one (ps_ret (pe_ix ix_d (pv 1) (pe_cal C_next (hr.mono (by decide)) rfl (pa_cons (pv 0) (pa_cons (pe_callB call_len_d (by rfl) T.b_len (by decide +kernel) (pa_cons (pv 1) pa_nil)) pa_nil))) (fun _ _ => rfl)))), ?_⟩
    show (_ : TS) _ [some (.ref a), some (.ref b)] H
    simp only [r_seq, r_next, r_brk, r_cont, r_asg, r_name, r_ret, r_retN, r_drop, r_ifs, r_never, r_var, r_c, r_op, r_un, r_if, r_tst, r_b, r_not, r_and, r_or, r_andV, r_orV, r_notV, r_nil, r_cons, r_tup, r_lst, r_cb, r_call, r_bm, r_bm0, r_sl, r_nopart, r_part, r_rev, r_gnil, r_gcons, r_gsub, r_par, r_aug, r_chain, r_I0, r_I, r_U, r_ixd, r_lend, r_tupd, r_listd, r_sld, r_app, r_ext, r_reverse, r_setl, r_cat, r_int1, r_eqS, r_neS, scal_ii, scal_bb, scal_ss, at0, at1, at2, sq_lst, sq_tup, isLst_lst, List.getElem?_cons_zero, List.getElem?_cons_succ, List.set_cons_zero, List.set_cons_succ, V.int.injEq, V.bl.injEq, V.ref.injEq, V.str.injEq, HO.lst.injEq, HO.tup.injEq, Option.some.injEq, exists_eq_left', exists_eq_left, List.cons.injEq, and_true, true_and, decide_eq_true_eq, reduceCtorEq, false_and, exists_false, or_false, false_or, exists_const, and_assoc, exists_and_left, List.append_nil, ix0, ix1, ix2, cm_mod, cdw1009, cdw2003, cdw7, cdw64, cdw2, cm104729, cm2, cm3, upd_same, List.length_cons, List.length_nil, Int.reduceLT, Int.reduceLE, Nat.reduceAdd, Nat.reduceLeDiff, Nat.reduceLT, Int.reduceToNat, r_for1, r_forL, r_forT, r_lcL, r_lc1, r_yes, r_gtupD, wipe_0, wipe_1, List.cons_append, List.nil_append, r_forS, r_ipI, ite_false, ite_true, Bool.not_true, Bool.not_false, decide_true, decide_false, r_isd, r_islt, cD_ty, cD_ref, tD_non, tD_bl, tD_int, tD_str, tD_ref, tH_lst, tH_tup, tH_dK, tH_ins, ki_self, ki_int_bool, ki_non_int, ki_str_int, ki_lt_lst, ki_lt_tup, r_fld, r_sfld, HO.ins.injEq, cx_K, hx]
    have hl : 0 < xs.length := List.length_pos_iff.mpr h0
    refine ⟨a, _, rfl, hS, by omega, by omega, fun r H1 r0 r1 k1 s1 => ?_⟩
    have hx1 := k1 b _ hb hx
    obtain ⟨i, rfl⟩ : ∃ i : Nat, r = i := ⟨r.toNat, by omega⟩
    have hi : i < xs.length := by omega
    have e1 : atI xs (i : Int) = some xs[i] := atn (List.getElem?_eq_getElem hi)
    simp only [r_seq, r_next, r_brk, r_cont, r_asg, r_name, r_ret, r_retN, r_drop, r_ifs, r_never, r_var, r_c, r_op, r_un, r_if, r_tst, r_b, r_not, r_and, r_or, r_andV, r_orV, r_notV, r_nil, r_cons, r_tup, r_lst, r_cb, r_call, r_bm, r_bm0, r_sl, r_nopart, r_part, r_rev, r_gnil, r_gcons, r_gsub, r_par, r_aug, r_chain, r_I0, r_I, r_U, r_ixd, r_lend, r_tupd, r_listd, r_sld, r_app, r_ext, r_reverse, r_setl, r_cat, r_int1, r_eqS, r_neS, scal_ii, scal_bb, scal_ss, at0, at1, at2, sq_lst, sq_tup, isLst_lst, List.getElem?_cons_zero, List.getElem?_cons_succ, List.set_cons_zero, List.set_cons_succ, V.int.injEq, V.bl.injEq, V.ref.injEq, V.str.injEq, HO.lst.injEq, HO.tup.injEq, Option.some.injEq, exists_eq_left', exists_eq_left, List.cons.injEq, and_true, true_and, decide_eq_true_eq, reduceCtorEq, false_and, exists_false, or_false, false_or, exists_const, and_assoc, exists_and_left, List.append_nil, ix0, ix1, ix2, cm_mod, cdw1009, cdw2003, cdw7, cdw64, cdw2, cm104729, cm2, cm3, upd_same, List.length_cons, List.length_nil, Int.reduceLT, Int.reduceLE, Nat.reduceAdd, Nat.reduceLeDiff, Nat.reduceLT, Int.reduceToNat, r_for1, r_forL, r_forT, r_lcL, r_lc1, r_yes, r_gtupD, wipe_0, wipe_1, List.cons_append, List.nil_append, r_forS, r_ipI, ite_false, ite_true, Bool.not_true, Bool.not_false, decide_true, decide_false, r_isd, r_islt, cD_ty, cD_ref, tD_non, tD_bl, tD_int, tD_str, tD_ref, tH_lst, tH_tup, tH_dK, tH_ins, ki_self, ki_int_bool, ki_non_int, ki_str_int, ki_lt_lst, ki_lt_tup, r_fld, r_sfld, HO.ins.injEq, cx_K, hx1, e1]
    exact k _ _ (List.getElem_mem hi) k1 s1
end

section
variable {P : Program} {w : World} {K : PySem.W.Frag} {mg : Str → Option Value} {base : Heap} {f : Addr} {fd : FuncData}
abbrev stable : Stmt := top 39
theorem sctable : FnScope ["_law_some", "_law_words", "_law_found", "_law_k"] [] (defScope stable) := ⟨rfl, rfl, rfl, by decide +kernel, rfl, by decide +kernel, by decide +kernel⟩

end
/-! ### a written list of texts, kept closed -/
def csts : List Expr → Option (List Str)
  | [] => some []
  | .Constant (.str z) _ _ :: es => (csts es).map (z :: ·)
  | _ => none
def tStrs : List Str → TA
  | [] => tNil
  | y :: ys => tCons (tC (.str y)) (tStrs ys)
theorem pa_strs {X : Cx} : ∀ {es : List Expr} {ys : List Str}, csts es = some ys → PA X es (tStrs ys)
  | [], _, h => by
    cases h
    exact pa_nil
  | .Constant (.str z) k p :: es, ys, h => by
    have h2 : (csts es).map (z :: ·) = some ys := h
    cases e : csts es with
    | none => rw [e] at h2; cases h2
    | some zs =>
      rw [e] at h2
      cases h2
      exact pa_cons pe_str (pa_strs e)
theorem r_strs {σ : L2.St} {H : Hp} {QA : List V → Hp → Prop} : ∀ {ys : List Str}, tStrs ys σ H QA = QA (ys.map V.str) H := by
  intro ys
  induction ys generalizing QA with
  | nil => rfl
  | cons y ys ih =>
    show tStrs ys σ H (fun xs H2 => QA (V.str y :: xs) H2) = _
    rw [ih]
    rfl
/-! ### the law's table -/
def stTab : Stmt := (defBody stable).getD 0 (.Pass ⟨0, 0, 0, 0⟩)
def exTab : List Expr := match stTab with
  | .Assign _ (.List es _) _ => es
  | _ => []
def LT : List Str := (csts exTab).getD []
def JL : List Nat := TL.joinL [32] (LT.map TL.tl)
def WL : List (List Nat) := TL.spl [32] 0 [] JL
def WS : List Str := WL.map SX.S
abbrev TR : Type := Str × Int × Int × Str
def quads : List Str → List TR
  | a :: b :: c :: d :: r => (a, (PySem.intText? b).getD 0, (PySem.intText? c).getD 0, d) :: quads r
  | _ => []
def tabL : List TR := quads WS
def quadsOk : List Str → Bool
  | _ :: b :: c :: _ :: r => decide (b.length ≤ 640) && (decide (c.length ≤ 640) && ((PySem.intText? b).isSome && ((PySem.intText? c).isSome && quadsOk r)))
  | [] => true
  | _ => false
theorem quads_at : ∀ {ws : List Str}, quadsOk ws = true → ∀ {k : Nat} {r : TR}, (quads ws)[k]? = some r → ∃ b c, ws[4 * k]? = some r.1 ∧ ws[4 * k + 1]? = some b ∧ ws[4 * k + 2]? = some c ∧ ws[4 * k + 3]? = some r.2.2.2 ∧
    PySem.intText? b = some r.2.1 ∧ PySem.intText? c = some r.2.2.1 ∧ b.length ≤ 640 ∧ c.length ≤ 640
  | a :: b :: c :: d :: ws, h, 0, r, e => by
    have h2 : (decide (b.length ≤ 640) && (decide (c.length ≤ 640) && ((PySem.intText? b).isSome && ((PySem.intText? c).isSome && quadsOk ws)))) = true := h
    simp only [Bool.and_eq_true, decide_eq_true_eq] at h2
    obtain ⟨h1, h3, h4, h5, _⟩ := h2
    have e2 : some (a, (PySem.intText? b).getD 0, (PySem.intText? c).getD 0, d) = some r := e
    cases e2
    refine ⟨b, c, rfl, rfl, rfl, rfl, ?_, ?_, h1, h3⟩
    · cases z : PySem.intText? b with
      | none => rw [z] at h4; cases h4
      | some n => rfl
    · cases z : PySem.intText? c with
      | none => rw [z] at h5; cases h5
      | some n => rfl
  | a :: b :: c :: d :: ws, h, k + 1, r, e => by
    have h2 : (decide (b.length ≤ 640) && (decide (c.length ≤ 640) && ((PySem.intText? b).isSome && ((PySem.intText? c).isSome && quadsOk ws)))) = true := h
    simp only [Bool.and_eq_true, decide_eq_true_eq] at h2
    obtain ⟨_, _, _, _, h6⟩ := h2
    exact quads_at h6 (k := k) e
  | [], _, k, r, e => by cases e
theorem quads_len : ∀ {ws : List Str}, quadsOk ws = true → ws.length = 4 * (quads ws).length
  | a :: b :: c :: d :: ws, h => by
    have h2 : (decide (b.length ≤ 640) && (decide (c.length ≤ 640) && ((PySem.intText? b).isSome && ((PySem.intText? c).isSome && quadsOk ws)))) = true := h
    simp only [Bool.and_eq_true, decide_eq_true_eq] at h2
    have := quads_len h2.2.2.2.2
    show ws.length + 1 + 1 + 1 + 1 = 4 * ((quads ws).length + 1)
    omega
  | [], _ => rfl
theorem LT_ok : csts exTab = some LT := by
  unfold LT
  have h : (csts exTab).isSome = true := by decide +kernel
  cases e : csts exTab with
  | none => rw [e] at h; cases h
  | some l => rfl
theorem chk1 : decide (LT.length ≤ 100) = true := by decide +kernel
theorem chk2 : decide (JL.length ≤ 5000) = true := by decide +kernel
theorem chk3 : quadsOk WS = true := by decide +kernel
theorem chk4 : decide (tabL.length ≤ 100 ∧ 0 < tabL.length) = true := by decide +kernel
def rowTest (r : TR) : Bool := lkp NUMW r.1 == some r.2.1 && (decide (0 < r.2.1 ∧ r.2.1 ≠ 71 ∧ r.2.1 < 256) && ((lkp CACW r.1).getD 0 == r.2.2.1 && ((r.2.2.2 == ("-" : Str)) == decide (r.2.1 < 45))))
theorem chk5 : tabL.all rowTest = true := by decide +kernel
theorem chk6 : (tabL.map (·.1)).Nodup := by decide +kernel
theorem chk7 : decide ((LT.map (·.length)).sum ≤ 5000) = true := by decide +kernel
theorem WS_is : Txt.split (Txt.join " " LT) " " = WS := by
  have e1 : Txt.join " " LT = SX.S JL := by
    show Builtin.Str.glued " " LT = _
    rw [StrLaws.glued_eq_join]
    refine TL.ext_tl ?_
    rw [TL.tl_join]
    rfl
  have e2 : (" " : Str) = SX.S [32] := by decide +kernel
  rw [e1, e2, SX.split_S (by decide) (by decide)]
  rfl
end C46

set_option maxHeartbeats 1000000
namespace C46
open PySem PySem.Spec PyProof.Rows L2
def trV (r : TR) : List V := [.int r.2.1, .int r.2.2.1, .str r.2.2.2]
/-- the entries of the law's table -/
def EntR (H : Hp) (kv : Key × V) (r : TR) : Prop := kv.1 = Sum.inr r.1 ∧ ∃ t, kv.2 = .ref t ∧ H t = some (.tup (trV r))
def LawTab (H : Hp) (d : Addr) (rs : List TR) : Prop := ∃ kvs : List (Key × V), H d = some (.dK kvs) ∧ Paired (EntR H) kvs rs
theorem LawTab.same {H H' : Hp} {d : Addr} {rs : List TR} (h : LawTab H d rs) (s : Same H H') : LawTab H' d rs := by
  obtain ⟨kvs, e, p⟩ := h
  exact ⟨kvs, s _ _ e, Paired.map' p fun a b ⟨h1, t, h2, h3⟩ => ⟨h1, t, h2, s _ _ h3⟩⟩
theorem LawTab.keep {H H' : Hp} {d a : Addr} {rs : List TR} (h : LawTab H d rs) (s : Keep a H H') (ha : ∃ xs, H a = some (.lst xs)) : LawTab H' d rs := by
  obtain ⟨kvs, e, p⟩ := h
  obtain ⟨xs, ha⟩ := ha
  exact ⟨kvs, s _ _ (fun z => by rw [z, ha] at e; cases e) e, Paired.map' p fun x b ⟨h1, t, h2, h3⟩ => ⟨h1, t, h2, s _ _ (fun z => by rw [z, ha] at h3; cases h3) h3⟩⟩
theorem val_none {H : Hp} {x : Str} : ∀ {kvs : List (Key × V)} {rs : List TR}, Paired (EntR H) kvs rs → x ∉ rs.map (·.1) → valV kvs (Sum.inr x : Key) = none
  | _, _, .nil, _ => rfl
  | _, _, .cons (a := kv) (b := r) (l₁ := kvs) (l₂ := rs) h t, hx => by
    rw [List.map_cons, List.mem_cons, not_or] at hx
    rw [valV_neg (p := kv) (fun z => hx.1 (by rw [h.1] at z; exact (Sum.inr.inj z).symm))]
    exact val_none t hx.2
theorem val_some {H : Hp} {r : TR} : ∀ {kvs : List (Key × V)} {rs : List TR}, Paired (EntR H) kvs rs → (rs.map (·.1)).Nodup → r ∈ rs → ∃ t, valV kvs (Sum.inr r.1 : Key) = some (.ref t) ∧ H t = some (.tup (trV r))
  | _, _, .nil, _, h => by cases h
  | _, _, .cons (a := kv) (b := q) (l₁ := kvs) (l₂ := rs) h t, hn, hr => by
    rw [List.map_cons, List.nodup_cons] at hn
    rcases List.mem_cons.mp hr with rfl | hr
    · obtain ⟨h1, u, h2, h3⟩ := h
      exact ⟨u, by rw [valV_pos (p := kv) h1, h2], h3⟩
    · rw [valV_neg (p := kv) (fun z => hn.1 (by rw [h.1] at z; rw [Sum.inr.inj z]; exact List.mem_map_of_mem hr))]
      exact val_some t hn.2 hr
def spTable : Sp := fun vs H Q _ => vs = [] ∧ ∀ d H', H d = none → Same H H' → LawTab H' d tabL → Q (.ref d) H'
def lvTable (H : Hp) (p0 wd d : Addr) (i : Nat) (σ : L2.St) (H' : Hp) : Prop := ∃ v : Option V, σ = [some (.ref p0), some (.ref wd), some (.ref d), v] ∧ Same H H' ∧ H' wd = some (.lst (WS.map V.str)) ∧ LawTab H' d (tabL.take i)
section
variable {P : Program} {w : World} {K : PySem.W.Frag} {mg : Str → Option Value} {base : Heap} {f : Addr} {fd : FuncData}
theorem r_m1 {r : V → List V → Hp → VK → Prop} {to te : TE} {σ : L2.St} {H : Hp} {Q : VK} : tM1 r to te σ H Q = to σ H (fun x H1 => (∃ a, x = .str a) ∧ te σ H1 fun y H2 => r x [y] H2 Q) := rfl
theorem r_dnew {σ : L2.St} {H : Hp} {Q : VK} : tDNewK σ H Q = ∀ p, H p = none → Q (.ref p) (L2.upd H p (.dK [])) := rfl
theorem r_sput {td ty tv : TE} {D : Ends} {σ : L2.St} {H : Hp} : sDPut td ty tv D σ H = tv σ H (fun v H1 => td σ H1 fun x H2 => ty σ H2 fun y H3 => ∃ a H4, x = .ref a ∧ DPut H3 a y v H4 ∧ D.nx σ H4) := rfl
/-! ### the first statement, by its shape alone -/
def shapeT : Stmt → Bool
  | .Assign [.Name x _] (.List _ _) _ => x == "_law_some"
  | _ => false
def exOf : Stmt → List Expr
  | .Assign _ (.List es _) _ => es
  | _ => []
theorem shapeT_ok {st : Stmt} (h : shapeT st = true) : ∃ p1 p2 p3, st = .Assign [.Name "_law_some" p1] (.List (exOf st) p2) p3 := by
  unfold shapeT at h
  split at h
  · rename_i x p1 es p2 p3
    have e : x = "_law_some" := by simpa using h
    subst e
    exact ⟨p1, p2, p3, rfl⟩
  · cases h
theorem exTab_is : exTab = exOf stTab := by
  unfold exTab exOf
  rfl
theorem shape_tab : shapeT stTab = true := by decide +kernel
theorem tab_ps {X : Cx} (hN : X.N.Nodup) (hi : X.N[0]? = some ("_law_some" : Str)) (hx : Loc X.env.scope "_law_some") (hf : X.fn ("_law_some" : Str) = true ∨ X.env.scope.names.lookup ("_law_some" : Str) = some NameKind.local) : PS X stTab (tAsg (tLst (tStrs LT)) (gName 0)) := by
  obtain ⟨p1, p2, p3, e⟩ := shapeT_ok shape_tab
  have h := LT_ok
  rw [exTab_is] at h
  rw [e]
  generalize exOf stTab = es at *
  exact ps_set (i := 0) hN hi hx (pe_lst (pa_strs h)) rfl hf
theorem body_tab : defBody stable = stTab :: (defBody stable).tail := by
  have h : (defBody stable).isEmpty = false := by decide +kernel
  unfold stTab
  generalize defBody stable = b at *
  cases b with
  | nil => cases h
  | cons x y => rfl
theorem pss_first {X : Cx} {b : List Stmt} {st : Stmt} {rest : List Stmt} {t u : TS} (e : b = st :: rest) (h : PS X st t) (k : PSs X rest u) : PSs X b (tSeq t u) := by
  rw [e]
  exact pss_cons h k
theorem rg4 {t : Nat} (h : t ≤ 100) : RgC 0 ((4 * t : Nat) : Int) 4 t := by
  have e : ∀ t : Fin 101, Builtin.Range.small 0 ((4 * t.val : Nat) : Int) 4 = true ∧ Builtin.Range.rangeSize 0 ((4 * t.val : Nat) : Int) 4 = t.val := by decide +kernel
  obtain ⟨h1, h2⟩ := e ⟨t, by omega⟩
  exact ⟨by decide, by decide, h1, h2⟩
theorem ok_table (T : Txt mg) (F : FnP K "_law_table" "_law_table" stable f fd) : FnOk P w K mg base CX0 1 f fd [] spTable := by
  refine F.ok sctable (fun vs H Q E h => ?_) (fun cdv A outer s H vs Q E hr h => ?_)
  · obtain ⟨rfl, _⟩ := h
    rfl
  · obtain ⟨rfl, k⟩ := h
    refine ⟨_, PSs.nox (pss_first body_tab (tab_ps sctable.nd rfl (Or.inl rfl) (.inr rfl)) (pss_cons (ps_par (i := 1) (j := 2) (by rfl) sctable.nd rfl rfl (by decide) rfl rfl (pa_cons (pe_splitAny (pe_join pe_str (pv 0)) pe_str) (pa_cons pe_dnewK pa_nil)) (by rfl))
  (pss_cons (ps_for PassesOwn.never rfl (pi_range3 rfl T.b_range (pa_cons pe_int (pa_cons (pe_callB call_len_d (by rfl) T.b_len (by decide +kernel) (pa_cons (pv 1) pa_nil)) (pa_cons pe_int pa_nil)))) (pg_name (i := 3) sctable.nd rfl (Or.inl rfl))
    (pss_one (ps_dput (hu_of hr) (pv 2) (pe_ix ix_d (pv 1) (pv 3) (fun _ _ => rfl)) (pe_tup (pa_cons (pe_callTy call_int_str (by rfl) T.b_int (by decide +kernel) (pa_cons (pe_ix ix_d (pv 1) (pe_op op_add (pv 3) pe_int) (fun _ _ => rfl)) pa_nil)) (pa_cons (pe_callTy call_int_str (by rfl) T.b_int (by decide +kernel) (pa_cons (pe_ix ix_d (pv 1) (pe_op op_add (pv 3) pe_int) (fun _ _ => rfl)) pa_nil)) (pa_cons (pe_ix ix_d (pv 1) (pe_op op_add (pv 3) pe_int) (fun _ _ => rfl)) pa_nil)))) rfl)))
  (pss_one (ps_ret (pv 2)))))), ?_⟩
    show (_ : TS) _ [none, none, none, none] H
    obtain ⟨L, hL⟩ : ∃ L, L = LT := ⟨_, rfl⟩
    rw [← hL]
    simp only [r_seq, r_next, r_brk, r_cont, r_asg, r_name, r_ret, r_retN, r_drop, r_ifs, r_never, r_var, r_c, r_op, r_un, r_if, r_tst, r_b, r_not, r_and, r_or, r_andV, r_orV, r_notV, r_nil, r_cons, r_tup, r_lst, r_cb, r_call, r_bm, r_bm0, r_sl, r_nopart, r_part, r_rev, r_gnil, r_gcons, r_gsub, r_par, r_aug, r_chain, r_I0, r_I, r_U, r_ixd, r_lend, r_tupd, r_listd, r_sld, r_app, r_ext, r_reverse, r_setl, r_cat, r_int1, r_eqS, r_neS, scal_ii, scal_bb, scal_ss, at0, at1, at2, sq_lst, sq_tup, isLst_lst, List.getElem?_cons_zero, List.getElem?_cons_succ, List.set_cons_zero, List.set_cons_succ, V.int.injEq, V.bl.injEq, V.ref.injEq, V.str.injEq, HO.lst.injEq, HO.tup.injEq, Option.some.injEq, exists_eq_left', exists_eq_left, List.cons.injEq, and_true, true_and, decide_eq_true_eq, reduceCtorEq, false_and, exists_false, or_false, false_or, exists_const, and_assoc, exists_and_left, List.append_nil, ix0, ix1, ix2, cm_mod, cdw1009, cdw2003, cdw7, cdw64, cdw2, cm104729, cm2, cm3, upd_same, List.length_cons, List.length_nil, Int.reduceLT, Int.reduceLE, Nat.reduceAdd, Nat.reduceLeDiff, Nat.reduceLT, Int.reduceToNat, r_for1, r_forL, r_forT, r_lcL, r_lc1, r_yes, r_gtupD, wipe_0, wipe_1, List.cons_append, List.nil_append, r_forS, r_ipI, ite_false, ite_true, Bool.not_true, Bool.not_false, decide_true, decide_false, r_isd, r_islt, cD_ty, cD_ref, tD_non, tD_bl, tD_int, tD_str, tD_ref, tH_lst, tH_tup, tH_dK, tH_ins, ki_self, ki_int_bool, ki_non_int, ki_str_int, ki_lt_lst, ki_lt_tup, r_fld, r_sfld, HO.ins.injEq, cx_K, r_for3, r_m1, r_dnew, r_sput, r_strs]
    have c1 := of_decide_eq_true chk1
    have c7 := of_decide_eq_true chk7
    have c2 := of_decide_eq_true chk2
    have hsp := WS_is
    obtain ⟨W, hW⟩ : ∃ W, W = WS := ⟨_, rfl⟩
    have wl : W.length = 4 * tabL.length := by rw [hW]; exact quads_len chk3
    have wt := (of_decide_eq_true chk4).1
    have wat : ∀ {i : Nat} {r : TR}, tabL[i]? = some r → ∃ b c, W[4 * i]? = some r.1 ∧ W[4 * i + 1]? = some b ∧ W[4 * i + 2]? = some c ∧ W[4 * i + 3]? = some r.2.2.2 ∧ PySem.intText? b = some r.2.1 ∧ PySem.intText? c = some r.2.2.1 ∧ b.length ≤ 640 ∧ c.length ≤ 640 := fun e => by
      rw [hW]
      exact quads_at chk3 e
    rw [← hL, ← hW] at hsp
    rw [← hL] at c1 c7
    have jl : (Txt.join " " L).length ≤ 16000 := by
      show (Builtin.Str.glued " " L).length ≤ _
      rw [StrLaws.glued_eq_join]
      refine Nat.le_trans (StrLaws.join_length_le " " L) ?_
      have : (" " : Str).length = 1 := by decide +kernel
      rw [this]
      omega
    refine ⟨szl (by rw [List.length_map]; omega), fun p hp => ⟨⟨_, rfl⟩, L, .inl (SqL.of upd_same), ?_, ⟨_, rfl⟩, .inl ⟨_, _, rfl, rfl, by decide +kernel, ?_, fun wd hwd => ?_⟩⟩⟩
    · have : (" " : Str).length = 1 := by decide +kernel
      rw [this]
      omega
    · exact Nat.le_trans (by omega : _ ≤ 17000) (by decide)
    rw [hsp]
    clear hsp jl
    intro d hd
    have s1 : Same H (L2.upd (L2.upd (L2.upd H p (.lst (L.map V.str))) wd (.lst (W.map V.str))) d (.dK [])) := Same.new' (Same.new' (Same.new' (Same.refl H) hp) hwd) hd
    have q1 : L2.upd (L2.upd (L2.upd H p (.lst (L.map V.str))) wd (.lst (W.map V.str))) d (.dK []) wd = some (.lst (W.map V.str)) := by
      rw [upd_ne (ne_new upd_same hd)]
      exact upd_same
    have q2 : L2.upd (L2.upd (L2.upd H p (.lst (L.map V.str))) wd (.lst (W.map V.str))) d (.dK []) d = some (.dK []) := upd_same
    have dH : H d = none := (Same.new' (Same.new' (Same.refl H) hp) hwd).free hd
    have dw : wd ≠ d := ne_new upd_same hd
    generalize L2.upd (L2.upd (L2.upd H p (.lst (L.map V.str))) wd (.lst (W.map V.str))) d (.dK []) = G at *
    refine ⟨wd, rfl, _, by rw [q1]; rfl, tabL.length, ?_, lp_rngC (lvTable H p wd d) ⟨none, rfl, s1, by rw [q1, hW], [], q2, by rw [List.take_zero]; exact .nil⟩ ?_ ?_⟩
    · rw [List.length_map, wl]
      exact rg4 wt
    · rintro i σ H1 hi ⟨v, rfl, s2, h2, kvs, h3, pk⟩
      rw [← hW] at h2
      obtain ⟨r, hr2⟩ : ∃ r, tabL[i]? = some r := ⟨_, List.getElem?_eq_getElem hi⟩
      obtain ⟨b, c, w0, w1, w2, w3, i1, i2, l1, l2⟩ := wat hr2
      have at' : ∀ {j : Nat} {x : Str}, W[j]? = some x → atI (W.map V.str) (j : Int) = some (.str x) := fun e => atn (by rw [List.getElem?_map, e]; rfl)
      have e0 : 0 + (i : Int) * 4 = ((4 * i : Nat) : Int) := by omega
      have e1 : ((4 * i : Nat) : Int) + 1 = ((4 * i + 1 : Nat) : Int) := by omega
      have e2 : ((4 * i : Nat) : Int) + 2 = ((4 * i + 2 : Nat) : Int) := by omega
      have e3 : ((4 * i : Nat) : Int) + 3 = ((4 * i + 3 : Nat) : Int) := by omega
      have a0 := at' w0
      have a1 := at' w1
      have a2 := at' w2
      have a3 := at' w3
      have tk : tabL.take (i + 1) = tabL.take i ++ [r] := by
        rw [List.take_succ, hr2]
        rfl
      have lk := Paired.length pk
      rw [List.length_take] at lk
      have nd := chk6
      rw [e0]
      simp only [r_seq, r_next, r_brk, r_cont, r_asg, r_name, r_ret, r_retN, r_drop, r_ifs, r_never, r_var, r_c, r_op, r_un, r_if, r_tst, r_b, r_not, r_and, r_or, r_andV, r_orV, r_notV, r_nil, r_cons, r_tup, r_lst, r_cb, r_call, r_bm, r_bm0, r_sl, r_nopart, r_part, r_rev, r_gnil, r_gcons, r_gsub, r_par, r_aug, r_chain, r_I0, r_I, r_U, r_ixd, r_lend, r_tupd, r_listd, r_sld, r_app, r_ext, r_reverse, r_setl, r_cat, r_int1, r_eqS, r_neS, scal_ii, scal_bb, scal_ss, at0, at1, at2, sq_lst, sq_tup, isLst_lst, List.getElem?_cons_zero, List.getElem?_cons_succ, List.set_cons_zero, List.set_cons_succ, V.int.injEq, V.bl.injEq, V.ref.injEq, V.str.injEq, HO.lst.injEq, HO.tup.injEq, Option.some.injEq, exists_eq_left', exists_eq_left, List.cons.injEq, and_true, true_and, decide_eq_true_eq, reduceCtorEq, false_and, exists_false, or_false, false_or, exists_const, and_assoc, exists_and_left, List.append_nil, ix0, ix1, ix2, cm_mod, cdw1009, cdw2003, cdw7, cdw64, cdw2, cm104729, cm2, cm3, upd_same, List.length_cons, List.length_nil, Int.reduceLT, Int.reduceLE, Nat.reduceAdd, Nat.reduceLeDiff, Nat.reduceLT, Int.reduceToNat, r_for1, r_forL, r_forT, r_lcL, r_lc1, r_yes, r_gtupD, wipe_0, wipe_1, List.cons_append, List.nil_append, r_forS, r_ipI, ite_false, ite_true, Bool.not_true, Bool.not_false, decide_true, decide_false, r_isd, r_islt, cD_ty, cD_ref, tD_non, tD_bl, tD_int, tD_str, tD_ref, tH_lst, tH_tup, tH_dK, tH_ins, ki_self, ki_int_bool, ki_non_int, ki_str_int, ki_lt_lst, ki_lt_tup, r_fld, r_sfld, HO.ins.injEq, cx_K, r_sput, h2, e1, e2, e3, a0, a1, a2, a3]
      refine ⟨_, i1, l1, _, i2, l2, szl (by decide : 3 ≤ 1000), fun t ht => ?_⟩
      have hwt : wd ≠ t := ne_new h2 ht
      rw [upd_ne hwt]
      refine ⟨_, by rw [h2]; rfl, _, a0, _, .inl ⟨kvs, Sum.inr r.1, by rw [upd_ne (ne_new h3 ht)]; exact h3, rfl, Nat.lt_of_le_of_lt (by omega : _ ≤ 1000) (by decide), rfl⟩, ?_⟩
      have td : t ≠ d := new_ne h3 ht
      have nk : valV kvs (Sum.inr r.1 : Key) = none := by
        refine val_none pk fun hm => ?_
        have e := List.take_append_drop (i + 1) tabL
        rw [tk] at e
        rw [← e, List.map_append, List.map_append, List.nodup_append, List.nodup_append] at nd
        exact nd.1.2.2 r.1 hm r.1 (by simp) rfl
      rw [putK_new _ nk]
      refine ⟨_, rfl, fun b o e => ?_, ?_, kvs ++ [(Sum.inr r.1, .ref t)], upd_same, ?_⟩
      · rw [upd_ne (ne_new e dH), upd_ne (ne_new (s2 b o e) ht)]
        exact s2 b o e
      · rw [upd_ne dw, upd_ne hwt, ← hW]
        exact h2
      · rw [tk]
        refine Paired.snoc' (Paired.map' pk fun x y ⟨g1, u, g2, g3⟩ => ⟨g1, u, g2, ?_⟩) ⟨rfl, t, rfl, by rw [upd_ne td]; exact upd_same⟩
        have ud : u ≠ d := fun z => by rw [z, h3] at g3; cases g3
        rw [upd_ne ud, upd_ne (ne_new g3 ht)]
        exact g3
    · rintro σ H1 ⟨v, rfl, s2, h2, h3⟩
      rw [List.take_length] at h3
      simp only [r_seq, r_next, r_brk, r_cont, r_asg, r_name, r_ret, r_retN, r_drop, r_ifs, r_never, r_var, r_c, r_op, r_un, r_if, r_tst, r_b, r_not, r_and, r_or, r_andV, r_orV, r_notV, r_nil, r_cons, r_tup, r_lst, r_cb, r_call, r_bm, r_bm0, r_sl, r_nopart, r_part, r_rev, r_gnil, r_gcons, r_gsub, r_par, r_aug, r_chain, r_I0, r_I, r_U, r_ixd, r_lend, r_tupd, r_listd, r_sld, r_app, r_ext, r_reverse, r_setl, r_cat, r_int1, r_eqS, r_neS, scal_ii, scal_bb, scal_ss, at0, at1, at2, sq_lst, sq_tup, isLst_lst, List.getElem?_cons_zero, List.getElem?_cons_succ, List.set_cons_zero, List.set_cons_succ, V.int.injEq, V.bl.injEq, V.ref.injEq, V.str.injEq, HO.lst.injEq, HO.tup.injEq, Option.some.injEq, exists_eq_left', exists_eq_left, List.cons.injEq, and_true, true_and, decide_eq_true_eq, reduceCtorEq, false_and, exists_false, or_false, false_or, exists_const, and_assoc, exists_and_left, List.append_nil, ix0, ix1, ix2, cm_mod, cdw1009, cdw2003, cdw7, cdw64, cdw2, cm104729, cm2, cm3, upd_same, List.length_cons, List.length_nil, Int.reduceLT, Int.reduceLE, Nat.reduceAdd, Nat.reduceLeDiff, Nat.reduceLT, Int.reduceToNat, r_for1, r_forL, r_forT, r_lcL, r_lc1, r_yes, r_gtupD, wipe_0, wipe_1, List.cons_append, List.nil_append, r_forS, r_ipI, ite_false, ite_true, Bool.not_true, Bool.not_false, decide_true, decide_false, r_isd, r_islt, cD_ty, cD_ref, tD_non, tD_bl, tD_int, tD_str, tD_ref, tH_lst, tH_tup, tH_dK, tH_ins, ki_self, ki_int_bool, ki_non_int, ki_str_int, ki_lt_lst, ki_lt_tup, r_fld, r_sfld, HO.ins.injEq, cx_K]
      exact k d H1 dH s2 h3
end
end C46

set_option maxHeartbeats 2000000
namespace C46
open PySem PySem.Spec PyProof.Rows L2
/-! ### sorted of a dict with text keys, any number of them -/
def sv : Value → List Nat
  | .str x _ => x.cps.toList
  | _ => []
def ltSv (v u : Value) : Bool := decide (sv v < sv u)
theorem swo_sv : SrtO.Swo ltSv := by
  refine ⟨fun x y h => ?_, fun x y z h1 h2 => ?_⟩
  · have a := of_decide_eq_true (p := sv x < sv y) h
    exact decide_eq_false (p := sv y < sv x) (List.lt_asymm a)
  · have a := of_decide_eq_false (p := sv y < sv x) h1
    have b := of_decide_eq_false (p := sv z < sv y) h2
    have c : sv x ≤ sv z := List.le_trans (show sv x ≤ sv y from a) (show sv y ≤ sv z from b)
    exact decide_eq_false (p := sv z < sv x) c
theorem strs_mem : ∀ {vs : List Value} {ns : List Str}, StrsAre vs ns → ∀ v ∈ vs, ∃ i t, v = Value.str i t
  | _, _, .nil, v, h => absurd h (by simp)
  | _, _, .cons n t r, v, h => by
    rcases List.mem_cons.mp h with e | h
    · exact ⟨n, t, e⟩
    · exact strs_mem r v h
def strOf : Value → Str
  | .str x _ => x
  | _ => ⟨#[]⟩
theorem strs_of : ∀ {vs : List Value}, (∀ v ∈ vs, ∃ i t, v = Value.str i t) → StrsAre vs (vs.map strOf)
  | [], _ => .nil
  | v :: vs, h => by
    obtain ⟨i, t, e⟩ := h v List.mem_cons_self
    subst e
    exact .cons i t (strs_of fun u hu => h u (List.mem_cons_of_mem _ hu))
theorem of_strs : ∀ {vs : List Value} {ns : List Str}, StrsAre vs ns → vs.map strOf = ns
  | _, _, .nil => rfl
  | _, _, .cons n t r => congrArg (n :: ·) (of_strs r)
section
variable {prog : Program} {w : World} {A : Around} {E : Value → Shared → Prop} {s : Shared}
theorem str_cmp {vs : List Value} {ns : List Str} (hI : StrsAre vs ns) : SrtO.Cmp prog w A s oneType' (fun p => p.1 ∈ vs) (SrtO.lt2 ltSv) := by
  intro p q hm hm'
  obtain ⟨a, t, e⟩ := strs_mem hI _ hm
  obtain ⟨b, u, e'⟩ := strs_mem hI _ hm'
  show wpAny (model prog w) A (keyLt' oneType' p.1 q.1) (fun r s' => s' = s ∧ r = ltSv p.1 q.1) (fun _ _ => False) s
  rw [e, e', keyLt'_oneType]
  exact oneLt_str ⟨rfl, rfl⟩
theorem strs_sortable {a : Addr} {vs : List Value} {ns : List Str} (hI : StrsAre vs ns) (h2 : 2 ≤ vs.length) : SrtO.SortableO prog w A s a vs ltSv := by
  intro h' _
  refine ⟨oneType', fun Q E hq => ?_, str_cmp hI⟩
  match vs, hI, h2 with
  | v1 :: v2 :: rest, hI, _ =>
    rw [keyKind_strs hI]
    exact wpAny_pure hq
  | [], _, h => exact absurd h (by decide)
  | [v], _, h => exact absurd h (by simp)
end
def rSortDn : List V → Hp → VK → Prop := fun xs H Q => ∃ (a : Addr) (kvs : List (Key × V)) (ks : List Str), xs = [.ref a] ∧ H a = some (.dK kvs) ∧ kvs.map (·.1) = ks.map Sum.inr ∧ ks.length ≤ 1000 ∧ ∀ (ys : List Str) p, ys.Perm ks → H p = none → Q (.ref p) (L2.upd H p (.lst (ys.map V.str)))
theorem call_sortedDn {X : Cx} (hcalm : X.calm = true) : CallR X (.builtin "sorted") rSortDn := by
  intro pins s σ H xs us Q I r q
  obtain ⟨a, kvs, ks, ex, hd, hks, h64, q⟩ := q
  subst ex
  obtain ⟨u, eu, rx⟩ := vals1 r
  subst eu
  cases rx
  obtain ⟨z, lo, vs, rel, dd⟩ := dk_rd I.hok (.inl hd)
  obtain ⟨ep, hat⟩ := dd.dictAt
  have hkeys : vs.map (·.1) = ks.map Sum.inr := rel.keys.symm.trans hks
  have hl : vs.length = ks.length := by
    have e := congrArg List.length hkeys
    rw [List.length_map, List.length_map] at e
    exact e
  have h16 : vs.length ≤ sizeLine := by rw [hl]; exact Nat.le_trans h64 (by decide)
  refine Calls.call_function_entry PyProof.Rows.kind_sorted PyProof.Rows.plain_sorted PyProof.Rows.entry_sorted (PyProof.Rows.args_sorted1 _) ?_
  unfold Builtin.«sorted»
  refine wpAny_bind (m := checkCount "sorted" 1 1 _) (wpAny_pure ?_)
  refine wpAny_bind (PySem.W.kdu_collect (A := X.A.in1) (PySem.W.kdl_dict (knd := mixKind X.prog X.w) (kvs := vs) (ep := ep) lo) (I.ok.hd hcalm) hat h16 fun h' tk acc hk hacc => ?_)
  have hal : acc.toList.length = ks.length := by rw [Array.length_toList, hacc.1, hl]
  have hS : StrsAre acc.toList ks := strs_at hal fun j v e => by
    obtain ⟨k, x, e1, e2⟩ := hacc.2 j v (by rw [← Array.getElem?_toList]; exact e)
    have e3 : (vs.map (·.1))[j]? = some k := by rw [List.getElem?_map, e1]; all_goals rfl
    rw [hkeys, List.getElem?_map] at e3
    cases e4 : ks[j]? with
    | none => rw [e4] at e3; cases e3
    | some y =>
      rw [e4] at e3
      have e5 : Sum.inr y = k := Option.some.inj e3
      subst e5
      obtain ⟨t, ev⟩ := Value.isStrOf_shape (x := y) (v := v) e2
      exact ⟨y, t, rfl, ev⟩
  have I1 : Inv X pins σ H { s with heap := h', toks := tk } := I.kept hk
  have hz1 : acc.toList.length ≤ sizeLine := by rw [hal]; exact Nat.le_trans h64 (by decide)
  refine wpAny_bind (wpAny_newList ?_ hz1)
  have hoL : (h'.push (seqObj "list" acc.toList.toArray 0)).get? h'.objs.size = some (seqObj "list" acc.toList.toArray 0) := Heap.get?_push_size _ rfl
  show wpAny _ _ _ _ _ { s with heap := h'.push (seqObj "list" acc.toList.toArray 0), toks := tk }
  refine wpAny_bind (wpAny_holding (wpAny_call_entry PyProof.Rows.slot_list_sort ⟨_, hoL, rfl⟩ PyProof.Rows.entry_list_sort
    (SrtO.list_sort_ord swo_sv (s := { s with heap := h'.push (seqObj "list" acc.toList.toArray 0), toks := tk }) hoL hz1 (fun h2 => strs_sortable hS h2) fun out h1 h2 => ⟨_, rfl, ?_⟩)
    (PyProof.Rows.args_list_sort _)))
  have g1 : StrsAre out (out.map strOf) := strs_of fun v hv => strs_mem hS v (h2.perm.mem_iff.mp hv)
  have g2 : (out.map strOf).Perm ks := by
    have q := h2.perm.map strOf
    rw [of_strs hS] at q
    exact q
  obtain ⟨e', he'⟩ := PyProof.Rows.sortedHeap_at (vs := acc.toList) (out := out.toArray) hoL
  have hlen : ((out.map strOf).map V.str).length ≤ sizeLine := by
    rw [List.length_map, g2.length_eq]
    exact Nat.le_trans h64 (by decide)
  refine wpAny_pure ⟨_, rfl, .ref h'.objs.size, L2.upd H h'.objs.size (.lst ((out.map strOf).map V.str)), I1.laid (t' := tk) (fun b u e => ?_) (Nat.le_refl _)
    (show ObjOk X.prog X.w _ _ _ (.lst ((out.map strOf).map V.str)) from ⟨hlen, out, e', vals_of_strs g1, he'⟩), rfl, q _ _ g2 (I1.hok.fresh (Nat.le_refl _))⟩
  have hb : b < h'.objs.size := Heap.lt_size e
  rw [PyProof.Rows.sortedHeap_old (Nat.ne_of_lt hb) (by rw [size_push']; exact Nat.lt_succ_of_lt hb)]
  exact Heap.get?_push_of_some _ e

/-! ### facts of the table's rows -/
theorem tab_fact {r : TR} (h : r ∈ tabL) : lkp NUMW r.1 = some r.2.1 ∧ 0 < r.2.1 ∧ r.2.1 ≠ 71 ∧ r.2.1 < 256 ∧ ((numN r.1 : Nat) : Int) = r.2.1 ∧ ((cacN r.1 : Nat) : Int) = r.2.2.1 ∧ cacN r.1 ≤ 20 ∧ (r.2.2.2 = "-" ↔ r.2.1 < 45) := by
  have h1 := List.all_eq_true.mp chk5 r h
  unfold rowTest at h1
  simp only [Bool.and_eq_true, beq_iff_eq, decide_eq_true_eq] at h1
  obtain ⟨e1, ⟨e2, e3, e4⟩, e5, e6⟩ := h1
  refine ⟨e1, e2, e3, e4, ?_, ?_, cacN_le _, ?_⟩
  · unfold numN
    rw [e1]
    show ((r.2.1.toNat : Nat) : Int) = r.2.1
    omega
  · rw [← e5, cacN_eq]
  · have : (r.2.2.2 == ("-" : Str)) = decide (r.2.1 < 45) := e6
    constructor
    · intro z
      rw [z, beq_self_eq_true] at this
      exact of_decide_eq_true this.symm
    · intro z
      rw [decide_eq_true z] at this
      exact eq_of_beq this
def spPacked : Sp := fun vs H Q _ => ∃ (d : Addr) (r : TR) (n : Nat), vs = [.ref d, .str r.1, .int (n : Int)] ∧ r ∈ tabL ∧ LawTab H d tabL ∧ n < 4294967296 ∧ ∀ p H', H p = none → Same H H' → H' p = some (.lst (vn (packN (numN r.1) n (cacN r.1)))) → Q (.ref p) H'
theorem LawTab.get {H : Hp} {d : Addr} {r : TR} (h : LawTab H d tabL) (hr : r ∈ tabL) : ∃ t, DGet H d (.str r.1) (some (.ref t)) ∧ H t = some (.tup (trV r)) := by
  obtain ⟨kvs, e, p⟩ := h
  obtain ⟨t, h1, h2⟩ := val_some p chk6 hr
  refine ⟨t, ?_, h2⟩
  have := DGet.k (k := (Sum.inr r.1 : Key)) e
  rw [h1] at this
  exact this
def pl : List Nat := [16777216, 65536, 256]
def pc (n p : Nat) : List Nat := if p ≤ n then [71, n / p % 256] else []
def pex (n i : Nat) : List Nat := ((pl.take i).map (pc n)).flatten
theorem pex_all (n : Nat) : pex n 3 = exts n := by
  show pc n 16777216 ++ (pc n 65536 ++ (pc n 256 ++ [])) = exts n
  rw [List.append_nil]
  rfl
theorem pc_len (n p : Nat) : (pc n p).length ≤ 2 := by
  unfold pc
  split <;> simp
theorem pex_len (n i : Nat) : (pex n i).length ≤ 6 := by
  match i with
  | 0 => exact Nat.zero_le _
  | 1 =>
    have := pc_len n 16777216
    show (pc n 16777216 ++ []).length ≤ 6
    rw [List.append_nil]
    omega
  | 2 =>
    have := pc_len n 16777216
    have := pc_len n 65536
    show (pc n 16777216 ++ (pc n 65536 ++ [])).length ≤ 6
    rw [List.append_nil, List.length_append]
    omega
  | i + 3 =>
    have e : pex n (i + 3) = exts n := by
      rw [← pex_all]
      unfold pex
      rw [List.take_of_length_le (by show 3 ≤ i + 3; omega)]
      rfl
    rw [e]
    exact exts_len n
def lvPk (H : Hp) (d p : Addr) (x : Str) (n : Nat) (i : Nat) (σ : L2.St) (H' : Hp) : Prop := ∃ v : Option V, σ = [some (.ref d), some (.str x), some (.int (n : Int)), some (.ref p), v] ∧ Keep p H H' ∧ H' p = some (.lst (vn (pex n i)))
section
variable {P : Program} {w : World} {K : PySem.W.Frag} {mg : Str → Option Value} {base : Heap} {f : Addr} {fd : FuncData}
abbrev spacked : Stmt := top 40
theorem scpacked : FnScope ["_law_table_here", "_law_word", "_law_number", "_law_found", "_law_place"] ["_law_table_here", "_law_word", "_law_number"] (defScope spacked) := ⟨rfl, rfl, rfl, by decide +kernel, rfl, by decide +kernel, by decide +kernel⟩

theorem r_dget {td ty : TE} {σ : L2.St} {H : Hp} {Q : VK} : tDGet td ty σ H Q = td σ H (fun x H1 => ty σ H1 fun y H2 => ∃ a v, x = .ref a ∧ DGet H2 a y (some v) ∧ Q v H2) := rfl
theorem ok_packed (T : Txt mg) (F : FnP K "_law_packed" "_law_packed" spacked f fd) : FnOk P w K mg base CX0 1 f fd ["_law_table_here", "_law_word", "_law_number"] spPacked := by
  refine F.ok scpacked (fun vs H Q E h => ?_) (fun cdv A outer s H vs Q E hr h => ?_)
  · obtain ⟨d, r, n, rfl, _⟩ := h
    rfl
  · obtain ⟨d, r, n, rfl, hm, ht, hn, k⟩ := h
    refine ⟨_, PSs.nox (pss_cons (ps_set (i := 3) scpacked.nd rfl (Or.inl rfl) (pe_lst pa_nil))
  (pss_cons (ps_for PassesOwn.never rfl (pi_tup (pe_tup (pa_cons pe_int (pa_cons pe_int (pa_cons pe_int pa_nil))))) (pg_name (i := 4) scpacked.nd rfl (Or.inl rfl))
    (pss_one (ps_if (pt_cmpR op_ge (pv 2) (pv 4) (nomark _))
    (pss_one (ps_expr (pe_bm PySem.F.plainAttrs_list PySem.F.slot_list_extend PySem.F.type_list_extend mt_extend (pv 3) (pa_cons (pe_lst (pa_cons pe_int (pa_cons (pe_op op_mod (pe_callTy call_int1 (by rfl) T.b_int (by decide +kernel) (pa_cons (pe_op op_fdivW (pv 2) (pv 4)) pa_nil)) pe_int) pa_nil))) pa_nil))))
    pss_nil)))
  (pss_one (ps_ret (pe_op op_cat (pe_op op_cat (pv 3) (pe_lst (pa_cons (pe_ix ix_d (pe_dget (hu_of hr) (pv 0) (pv 1) (fun _ _ => rfl)) pe_int (fun _ _ => rfl)) (pa_cons (pe_op op_mod (pe_callTy call_int1 (by rfl) T.b_int (by decide +kernel) (pa_cons (pv 2) pa_nil)) pe_int) pa_nil)))) (pe_op op_rep (pe_lst (pa_cons pe_int pa_nil)) (pe_op op_mul pe_int (pe_ix ix_d (pe_dget (hu_of hr) (pv 0) (pv 1) (fun _ _ => rfl)) pe_int (fun _ _ => rfl))))))))), ?_⟩
    show (_ : TS) _ [some (.ref d), some (.str r.1), some (.int (n : Int)), none, none] H
    simp only [r_seq, r_next, r_brk, r_cont, r_asg, r_name, r_ret, r_retN, r_drop, r_ifs, r_never, r_var, r_c, r_op, r_un, r_if, r_tst, r_b, r_not, r_and, r_or, r_andV, r_orV, r_notV, r_nil, r_cons, r_tup, r_lst, r_cb, r_call, r_bm, r_bm0, r_sl, r_nopart, r_part, r_rev, r_gnil, r_gcons, r_gsub, r_par, r_aug, r_chain, r_I0, r_I, r_U, r_ixd, r_lend, r_tupd, r_listd, r_sld, r_app, r_ext, r_reverse, r_setl, r_cat, r_int1, r_eqS, r_neS, scal_ii, scal_bb, scal_ss, at0, at1, at2, sq_lst, sq_tup, isLst_lst, List.getElem?_cons_zero, List.getElem?_cons_succ, List.set_cons_zero, List.set_cons_succ, V.int.injEq, V.bl.injEq, V.ref.injEq, V.str.injEq, HO.lst.injEq, HO.tup.injEq, Option.some.injEq, exists_eq_left', exists_eq_left, List.cons.injEq, and_true, true_and, decide_eq_true_eq, reduceCtorEq, false_and, exists_false, or_false, false_or, exists_const, and_assoc, exists_and_left, List.append_nil, ix0, ix1, ix2, cm_mod, cdw1009, cdw2003, cdw7, cdw64, cdw2, cm104729, cm2, cm3, upd_same, List.length_cons, List.length_nil, Int.reduceLT, Int.reduceLE, Nat.reduceAdd, Nat.reduceLeDiff, Nat.reduceLT, Int.reduceToNat, r_for1, r_forL, r_forT, r_lcL, r_lc1, r_yes, r_gtupD, wipe_0, wipe_1, List.cons_append, List.nil_append, r_forS, r_ipI, ite_false, ite_true, Bool.not_true, Bool.not_false, decide_true, decide_false, r_isd, r_islt, cD_ty, cD_ref, tD_non, tD_bl, tD_int, tD_str, tD_ref, tH_lst, tH_tup, tH_dK, tH_ins, ki_self, ki_int_bool, ki_non_int, ki_str_int, ki_lt_lst, ki_lt_tup, r_fld, r_sfld, HO.ins.injEq, cx_K, r_dget]
    refine ⟨Nat.zero_le _, fun p hp => ⟨szl (by decide : 3 ≤ 1000), fun tt htt => ?_⟩⟩
    have s1 : Same H (L2.upd (L2.upd H p (.lst [])) tt (.tup (vn pl))) := Same.new' (Same.new' (Same.refl H) hp) htt
    have q1 : L2.upd (L2.upd H p (.lst [])) tt (.tup (vn pl)) tt = some (.tup (vn pl)) := upd_same
    have q2 : L2.upd (L2.upd H p (.lst [])) tt (.tup (vn pl)) p = some (.lst []) := by
      rw [upd_ne (ne_new upd_same htt)]
      exact upd_same
    have tp : tt ≠ p := new_ne upd_same htt
    show (∃ xs, SqT K (L2.upd (L2.upd H p (.lst [])) tt (.tup (vn pl))) tt xs) ∧ _
    change _ ∧ LoopR _ _ _ _ _ (L2.upd (L2.upd H p (.lst [])) tt (.tup (vn pl)))
    generalize L2.upd (L2.upd H p (.lst [])) tt (.tup (vn pl)) = G at *
    refine ⟨⟨_, SqT.of q1⟩, lp_tup (xs := vn pl) (lvPk G d p r.1 n) ⟨none, rfl, Keep.refl p G, q2⟩ (fun i σ H' _ ⟨_, _, kk, _⟩ => SqT.of (kk _ _ tp q1)) ?_ ?_⟩
    · rintro i x σ H1 hx ⟨v, rfl, kk, h1⟩
      have hi : i < pl.length := by
        have := (List.getElem?_eq_some_iff.mp hx).1
        rwa [vn_len] at this
      obtain rfl : x = .int ((pl[i] : Nat) : Int) := by
        unfold vn at hx
        rw [List.getElem?_map, List.getElem?_eq_getElem hi] at hx
        exact (Option.some.inj hx).symm
      have nx : pex n (i + 1) = pex n i ++ pc n pl[i] := by
        unfold pex
        rw [List.take_succ_eq_append_getElem hi, List.map_append, List.flatten_append]
        simp
      have pp : 0 < pl[i] ∧ pl[i] < 2 ^ 30 := by
        have := List.getElem_mem hi
        unfold pl at this
        simp only [List.mem_cons, List.not_mem_nil, or_false] at this
        rcases this with e | e | e <;> rw [show pl[i] = _ from e] <;> decide
      have lx := pex_len n i
      generalize pl[i] = q at *
      have cd : CDivW (n : Int) (q : Int) = True := cdw (by have := pp.2; omega)
      simp only [r_seq, r_next, r_brk, r_cont, r_asg, r_name, r_ret, r_retN, r_drop, r_ifs, r_never, r_var, r_c, r_op, r_un, r_if, r_tst, r_b, r_not, r_and, r_or, r_andV, r_orV, r_notV, r_nil, r_cons, r_tup, r_lst, r_cb, r_call, r_bm, r_bm0, r_sl, r_nopart, r_part, r_rev, r_gnil, r_gcons, r_gsub, r_par, r_aug, r_chain, r_I0, r_I, r_U, r_ixd, r_lend, r_tupd, r_listd, r_sld, r_app, r_ext, r_reverse, r_setl, r_cat, r_int1, r_eqS, r_neS, scal_ii, scal_bb, scal_ss, at0, at1, at2, sq_lst, sq_tup, isLst_lst, List.getElem?_cons_zero, List.getElem?_cons_succ, List.set_cons_zero, List.set_cons_succ, V.int.injEq, V.bl.injEq, V.ref.injEq, V.str.injEq, HO.lst.injEq, HO.tup.injEq, Option.some.injEq, exists_eq_left', exists_eq_left, List.cons.injEq, and_true, true_and, decide_eq_true_eq, reduceCtorEq, false_and, exists_false, or_false, false_or, exists_const, and_assoc, exists_and_left, List.append_nil, ix0, ix1, ix2, cm_mod, cdw1009, cdw2003, cdw7, cdw64, cdw2, cm104729, cm2, cm3, upd_same, List.length_cons, List.length_nil, Int.reduceLT, Int.reduceLE, Nat.reduceAdd, Nat.reduceLeDiff, Nat.reduceLT, Int.reduceToNat, r_for1, r_forL, r_forT, r_lcL, r_lc1, r_yes, r_gtupD, wipe_0, wipe_1, List.cons_append, List.nil_append, r_forS, r_ipI, ite_false, ite_true, Bool.not_true, Bool.not_false, decide_true, decide_false, r_isd, r_islt, cD_ty, cD_ref, tD_non, tD_bl, tD_int, tD_str, tD_ref, tH_lst, tH_tup, tH_dK, tH_ins, ki_self, ki_int_bool, ki_non_int, ki_str_int, ki_lt_lst, ki_lt_tup, r_fld, r_sfld, HO.ins.injEq, cx_K, cd, h1]
      by_cases c : q ≤ n
      · rw [if_pos (by omega)]
        refine ⟨tyl h1, szl (by decide : 2 ≤ 1000), fun t hht => ⟨_, by rw [upd_ne (ne_new h1 hht)]; exact h1, Nat.le_trans (by rw [vn_len]; omega : _ ≤ 1000) (by decide), ?_⟩⟩
        refine ⟨_, rfl, fun b o hb e => ?_, ?_⟩
        · rw [upd_ne hb, upd_ne (ne_new (kk b o hb e) hht)]
          exact kk b o hb e
        · rw [upd_same, nx, vn_app]
          unfold pc
          rw [if_pos c]
          rfl
      · rw [if_neg (by omega)]
        refine ⟨_, rfl, kk, ?_⟩
        rw [h1, nx]
        unfold pc
        rw [if_neg c, List.append_nil]
    · rintro σ H1 ⟨v, rfl, kk, h1⟩
      rw [vn_len, show pl.length = 3 from rfl, pex_all] at h1
      have sH : Same H H1 := fun b o e => kk b o (ne_new e hp) (s1 b o e)
      have ht1 := ht.same sH
      obtain ⟨t, hg, hrow⟩ := ht1.get hm
      obtain ⟨f1, f2, f3, f4, f5, f6, f7, f8⟩ := tab_fact hm
      have lx := exts_len n
      simp only [r_seq, r_next, r_brk, r_cont, r_asg, r_name, r_ret, r_retN, r_drop, r_ifs, r_never, r_var, r_c, r_op, r_un, r_if, r_tst, r_b, r_not, r_and, r_or, r_andV, r_orV, r_notV, r_nil, r_cons, r_tup, r_lst, r_cb, r_call, r_bm, r_bm0, r_sl, r_nopart, r_part, r_rev, r_gnil, r_gcons, r_gsub, r_par, r_aug, r_chain, r_I0, r_I, r_U, r_ixd, r_lend, r_tupd, r_listd, r_sld, r_app, r_ext, r_reverse, r_setl, r_cat, r_int1, r_eqS, r_neS, scal_ii, scal_bb, scal_ss, at0, at1, at2, sq_lst, sq_tup, isLst_lst, List.getElem?_cons_zero, List.getElem?_cons_succ, List.set_cons_zero, List.set_cons_succ, V.int.injEq, V.bl.injEq, V.ref.injEq, V.str.injEq, HO.lst.injEq, HO.tup.injEq, Option.some.injEq, exists_eq_left', exists_eq_left, List.cons.injEq, and_true, true_and, decide_eq_true_eq, reduceCtorEq, false_and, exists_false, or_false, false_or, exists_const, and_assoc, exists_and_left, List.append_nil, ix0, ix1, ix2, cm_mod, cdw1009, cdw2003, cdw7, cdw64, cdw2, cm104729, cm2, cm3, upd_same, List.length_cons, List.length_nil, Int.reduceLT, Int.reduceLE, Nat.reduceAdd, Nat.reduceLeDiff, Nat.reduceLT, Int.reduceToNat, r_for1, r_forL, r_forT, r_lcL, r_lc1, r_yes, r_gtupD, wipe_0, wipe_1, List.cons_append, List.nil_append, r_forS, r_ipI, ite_false, ite_true, Bool.not_true, Bool.not_false, decide_true, decide_false, r_isd, r_islt, cD_ty, cD_ref, tD_non, tD_bl, tD_int, tD_str, tD_ref, tH_lst, tH_tup, tH_dK, tH_ins, ki_self, ki_int_bool, ki_non_int, ki_str_int, ki_lt_lst, ki_lt_tup, r_fld, r_sfld, HO.ins.injEq, cx_K, r_dget, h1]
      have hrs : sq (H1 t) = some (trV r) := by rw [hrow]; rfl
      refine ⟨_, hg, t, rfl, _, hrs, _, at0, szl (by decide : 2 ≤ 1000), fun a1 ha1 => ⟨_, by rw [upd_ne (ne_new h1 ha1)]; exact h1, Nat.le_trans (by rw [vn_len]; omega : _ ≤ 1000) (by decide), fun a2 ha2 => ⟨szl (by decide : 1 ≤ 1000), fun a3 ha3 => ?_⟩⟩⟩
      have e1 : vn (exts n) ++ [V.int r.2.1, V.int ((n : Int) % 256)] = vn (exts n ++ [numN r.1, n % 256]) := by
        rw [vn_app, ← f5]
        rfl
      rw [e1] at ha3 ⊢
      have sA := Same.new' (o := .lst [V.int r.2.1, V.int ((n : Int) % 256)]) (Same.refl H1) ha1
      have sB := Same.new' (o := .lst (vn (exts n ++ [numN r.1, n % 256]))) sA ha2
      have sC := Same.new' (o := .lst [V.int 0]) sB ha3
      have q5 : L2.upd (L2.upd (L2.upd H1 a1 (.lst [V.int r.2.1, V.int ((n : Int) % 256)])) a2 (.lst (vn (exts n ++ [numN r.1, n % 256])))) a3 (.lst [V.int 0]) a2 = some (.lst (vn (exts n ++ [numN r.1, n % 256]))) := by
        rw [upd_ne (ne_new upd_same ha3)]
        exact upd_same
      have q6 : L2.upd (L2.upd (L2.upd H1 a1 (.lst [V.int r.2.1, V.int ((n : Int) % 256)])) a2 (.lst (vn (exts n ++ [numN r.1, n % 256])))) a3 (.lst [V.int 0]) a3 = some (.lst [V.int 0]) := upd_same
      obtain ⟨t2, hg2, hrow2⟩ := (ht1.same sC).get hm
      generalize L2.upd (L2.upd (L2.upd H1 a1 (.lst [V.int r.2.1, V.int ((n : Int) % 256)])) a2 (.lst (vn (exts n ++ [numN r.1, n % 256])))) a3 (.lst [V.int 0]) = G2 at *
      refine ⟨_, hg2, t2, rfl, _, by rw [hrow2]; rfl, _, at1, r.2.2.1, rfl, a3, 2 * r.2.2.1, _, rfl, rfl, q6, by omega, by omega, Nat.le_trans (by simp; omega : _ ≤ 1000) (by decide), fun a4 ha4 => ⟨a4, rfl, vn (exts n ++ [numN r.1, n % 256]), ?_, _, upd_same, ?_, fun a5 ha5 => ?_⟩⟩
      · rw [upd_ne (ne_new q5 ha4)]
        exact q5
      · rw [rep_vn, vn_len, vn_len, List.length_append, List.length_replicate]
        exact Nat.le_trans (by show (exts n).length + 2 + _ ≤ 1000; omega) (by decide : 1000 ≤ sizeLine)
      · have sD := Same.new' (o := .lst (List.replicate (2 * r.2.2.1).toNat [V.int 0]).flatten) (Same.refl G2) ha4
        have sF : Same H (L2.upd (L2.upd G2 a4 (.lst (List.replicate (2 * r.2.2.1).toNat [V.int 0]).flatten)) a5 (.lst (vn (exts n ++ [numN r.1, n % 256]) ++ (List.replicate (2 * r.2.2.1).toNat [V.int 0]).flatten))) := Same.new' (fun b o e => sD b o (sC b o (sH b o e))) ha5
        have sE : Same H (L2.upd G2 a4 (.lst (List.replicate (2 * r.2.2.1).toNat [V.int 0]).flatten)) := fun b o e => sD b o (sC b o (sH b o e))
        refine k a5 _ (sE.free ha5) sF ?_
        rw [upd_same, rep_vn, ← vn_app]
        unfold packN
        rw [show (2 * r.2.2.1).toNat = 2 * cacN r.1 from by omega, List.append_assoc]
end
end C46

set_option maxHeartbeats 2000000
namespace C46
open PySem PySem.Spec PyProof.Rows L2
def spGreat : Sp := fun vs H Q _ => ∃ a : Addr, vs = [.ref a] ∧ Src H a ∧ ∀ (n : Nat) H', n < 4294967296 → Keep a H H' → Src H' a → Q (.int (n : Int)) H'
def spRow : Sp := fun vs H Q _ => ∃ a d : Addr, vs = [.ref a, .ref d] ∧ Src H a ∧ LawTab H d tabL ∧ ∀ (t : Addr) (r : TR) (o : Option Nat) H', r ∈ tabL → (∀ n, o = some n → n < 4294967296) → (o = none ↔ r.2.1 < 45) → H t = none → Keep a H H' → Src H' a → H' t = some (.tup [.str r.1, aV o]) → Q (.ref t) H'
theorem keys_of {H : Hp} : ∀ {kvs : List (Key × V)} {rs : List TR}, Paired (EntR H) kvs rs → kvs.map (·.1) = (rs.map (·.1)).map Sum.inr
  | _, _, .nil => rfl
  | _, _, .cons h t => by
    rw [List.map_cons, List.map_cons, List.map_cons, keys_of t, h.1]
section
variable {P : Program} {w : World} {K : PySem.W.Frag} {mg : Str → Option Value} {base : Heap} {f : Addr} {fd : FuncData}
abbrev sgreat : Stmt := top 41
theorem scgreat : FnScope ["_law_source", "_law_near", "_law_some"] ["_law_source"] (defScope sgreat) := ⟨rfl, rfl, rfl, by decide +kernel, rfl, by decide +kernel, by decide +kernel⟩

abbrev srow : Stmt := top 43
theorem scrow : FnScope ["_law_source", "_law_table_here", "_law_word"] ["_law_source", "_law_table_here"] (defScope srow) := ⟨rfl, rfl, rfl, by decide +kernel, rfl, by decide +kernel, by decide +kernel⟩

theorem ok_great (T : Txt mg) (F : FnP K "_law_great" "_law_great" sgreat f fd) (C_next : Cal P w K mg base 1 "_law_next" ["_law_source", "_law_many"] spNext) (C_one : Cal P w K mg base 2 "_law_one" ["_law_source", "_law_some"] spOne) : FnOk P w K mg base CX0 3 f fd ["_law_source"] spGreat := by
  refine F.ok scgreat (fun vs H Q E h => ?_) (fun cdv A outer s H vs Q E hr h => ?_)
  · obtain ⟨a, rfl, _⟩ := h
    rfl
  · obtain ⟨a, rfl, hS, k⟩ := h
    refine ⟨_, PSs.nox (pss_cons (ps_set (i := 1) scgreat.nd rfl (Or.inl rfl) (pe_op op_add (pe_op op_sub (pe_cal C_one (hr.mono (by decide)) rfl (pa_cons (pv 0) (pa_cons (pe_lst (pa_cons pe_int (pa_cons pe_int (pa_cons pe_int (pa_cons pe_int (pa_cons pe_int pa_nil)))))) pa_nil))) pe_int) (pe_cal C_next (hr.mono (by decide)) rfl (pa_cons (pv 0) (pa_cons pe_int pa_nil)))))
  (pss_cons (ps_set (i := 2) scgreat.nd rfl (Or.inl rfl) (pe_lst (pa_cons (pe_cal C_next (hr.mono (by decide)) rfl (pa_cons (pv 0) (pa_cons pe_int pa_nil))) (pa_cons (pe_cal C_next (hr.mono (by decide)) rfl (pa_cons (pv 0) (pa_cons pe_int pa_nil))) (pa_cons (pe_callB (call_min2 rfl) (by rfl) T.b_min (by decide +kernel) (pa_cons (pv 1) (pa_cons pe_int pa_nil))) (pa_cons (pe_cal C_next (hr.mono (by decide)) rfl (pa_cons (pv 0) (pa_cons (pe_op op_pow pe_int pe_int) pa_nil))) pa_nil))))))
  (pss_one (ps_ret (pe_cal C_one (hr.mono (by decide)) rfl (pa_cons (pv 0) (pa_cons (pv 2) pa_nil))))))), ?_⟩
    show (_ : TS) _ [some (.ref a), none, none] H
    simp only [r_seq, r_next, r_brk, r_cont, r_asg, r_name, r_ret, r_retN, r_drop, r_ifs, r_never, r_var, r_c, r_op, r_un, r_if, r_tst, r_b, r_not, r_and, r_or, r_andV, r_orV, r_notV, r_nil, r_cons, r_tup, r_lst, r_cb, r_call, r_bm, r_bm0, r_sl, r_nopart, r_part, r_rev, r_gnil, r_gcons, r_gsub, r_par, r_aug, r_chain, r_I0, r_I, r_U, r_ixd, r_lend, r_tupd, r_listd, r_sld, r_app, r_ext, r_reverse, r_setl, r_cat, r_int1, r_eqS, r_neS, scal_ii, scal_bb, scal_ss, at0, at1, at2, sq_lst, sq_tup, isLst_lst, List.getElem?_cons_zero, List.getElem?_cons_succ, List.set_cons_zero, List.set_cons_succ, V.int.injEq, V.bl.injEq, V.ref.injEq, V.str.injEq, HO.lst.injEq, HO.tup.injEq, Option.some.injEq, exists_eq_left', exists_eq_left, List.cons.injEq, and_true, true_and, decide_eq_true_eq, reduceCtorEq, false_and, exists_false, or_false, false_or, exists_const, and_assoc, exists_and_left, List.append_nil, ix0, ix1, ix2, cm_mod, cdw1009, cdw2003, cdw7, cdw64, cdw2, cm104729, cm2, cm3, upd_same, List.length_cons, List.length_nil, Int.reduceLT, Int.reduceLE, Nat.reduceAdd, Nat.reduceLeDiff, Nat.reduceLT, Int.reduceToNat, r_for1, r_forL, r_forT, r_lcL, r_lc1, r_yes, r_gtupD, wipe_0, wipe_1, List.cons_append, List.nil_append, r_forS, r_ipI, ite_false, ite_true, Bool.not_true, Bool.not_false, decide_true, decide_false, r_isd, r_islt, cD_ty, cD_ref, tD_non, tD_bl, tD_int, tD_str, tD_ref, tH_lst, tH_tup, tH_dK, tH_ins, ki_self, ki_int_bool, ki_non_int, ki_str_int, ki_lt_lst, ki_lt_tup, r_fld, r_sfld, HO.ins.injEq, cx_K]
    refine ⟨szl (by decide : 5 ≤ 1000), fun p hp => ?_⟩
    refine ⟨a, p, _, rfl, hS.new hp, hS.ne hp, upd_same, by simp, (by simp : _ ≤ 1000), fun v H1 hv k1 S1 => ?_⟩
    obtain ⟨m, rfl, m0⟩ : ∃ m : Int, v = .int m ∧ 256 ≤ m := by
      simp only [List.mem_cons, List.not_mem_nil, or_false] at hv
      rcases hv with rfl | rfl | rfl | rfl | rfl <;> exact ⟨_, rfl, by decide⟩
    refine ⟨m, rfl, a, 5, rfl, S1, by decide, by decide, fun n1 H2 b1 b2 k2 S2 => ⟨n1, rfl, ?_⟩⟩
    refine ⟨a, 20, rfl, S2, by decide, by decide, fun n2 H3 b3 b4 k3 S3 => ⟨a, 256, rfl, S3, by decide, by decide, fun n3 H4 b5 b6 k4 S4 => ?_⟩⟩
    refine ⟨⟨by decide, by decide, by decide⟩, a, 1000000, rfl, S4, by decide, by decide, fun n4 H5 b7 b8 k5 S5 => ⟨szl (by decide : 4 ≤ 1000), fun q hq => ?_⟩⟩
    refine ⟨a, q, _, rfl, S5.new hq, S5.ne hq, upd_same, by simp, (by simp : _ ≤ 1000), fun v H6 hv k6 S6 => ?_⟩
    have kk : Keep a H H6 := (((((((Keep.refl a H).new hp).trans k1).trans k2).trans k3).trans k4).trans k5).new hq |>.trans k6
    have fin : ∀ i : Int, v = .int i → 0 ≤ i → i < 4294967296 → Q v H6 := fun i e i0 i1 => by
      rw [e, show i = ((i.toNat : Nat) : Int) from by omega]
      exact k _ H6 (by omega) kk S6
    simp only [List.mem_cons, List.not_mem_nil, or_false] at hv
    rcases hv with e | e | e | e
    · exact fin _ e (by omega) (by omega)
    · exact fin _ e (by omega) (by omega)
    · exact fin _ e (by split <;> omega) (by split <;> omega)
    · exact fin _ e (by omega) (by omega)
theorem ok_row (T : Txt mg) (F : FnP K "_law_row" "_law_row" srow f fd) (C_one : Cal P w K mg base 2 "_law_one" ["_law_source", "_law_some"] spOne) (C_great : Cal P w K mg base 3 "_law_great" ["_law_source"] spGreat) : FnOk P w K mg base CX0 4 f fd ["_law_source", "_law_table_here"] spRow := by
  refine F.ok scrow (fun vs H Q E h => ?_) (fun cdv A outer s H vs Q E hr h => ?_)
  · obtain ⟨a, d, rfl, _⟩ := h
    rfl
  · obtain ⟨a, d, rfl, hS, ht, k⟩ := h
    refine ⟨_, PSs.nox (pss_cons (ps_set (i := 2) scrow.nd rfl (Or.inl rfl) (pe_cal C_one (hr.mono (by decide)) rfl (pa_cons (pv 0) (pa_cons (pe_callB (call_sortedDn rfl) (by rfl) T.b_sorted (by decide +kernel) (pa_cons (pv 1) pa_nil)) pa_nil))))
  (pss_one (ps_ret (pe_tup (pa_cons (pv 2) (pa_cons (pe_ifExp (pt_cmpR op_eq (pe_ix ix_d (pe_dget (hu_of hr) (pv 1) (pv 2) (fun _ _ => rfl)) pe_int (fun _ _ => rfl)) pe_str (nomark _)) pe_non (pe_cal C_great (hr.mono (by decide)) rfl (pa_cons (pv 0) pa_nil))) pa_nil)))))), ?_⟩
    show (_ : TS) _ [some (.ref a), some (.ref d), none] H
    simp only [r_seq, r_next, r_brk, r_cont, r_asg, r_name, r_ret, r_retN, r_drop, r_ifs, r_never, r_var, r_c, r_op, r_un, r_if, r_tst, r_b, r_not, r_and, r_or, r_andV, r_orV, r_notV, r_nil, r_cons, r_tup, r_lst, r_cb, r_call, r_bm, r_bm0, r_sl, r_nopart, r_part, r_rev, r_gnil, r_gcons, r_gsub, r_par, r_aug, r_chain, r_I0, r_I, r_U, r_ixd, r_lend, r_tupd, r_listd, r_sld, r_app, r_ext, r_reverse, r_setl, r_cat, r_int1, r_eqS, r_neS, scal_ii, scal_bb, scal_ss, at0, at1, at2, sq_lst, sq_tup, isLst_lst, List.getElem?_cons_zero, List.getElem?_cons_succ, List.set_cons_zero, List.set_cons_succ, V.int.injEq, V.bl.injEq, V.ref.injEq, V.str.injEq, HO.lst.injEq, HO.tup.injEq, Option.some.injEq, exists_eq_left', exists_eq_left, List.cons.injEq, and_true, true_and, decide_eq_true_eq, reduceCtorEq, false_and, exists_false, or_false, false_or, exists_const, and_assoc, exists_and_left, List.append_nil, ix0, ix1, ix2, cm_mod, cdw1009, cdw2003, cdw7, cdw64, cdw2, cm104729, cm2, cm3, upd_same, List.length_cons, List.length_nil, Int.reduceLT, Int.reduceLE, Nat.reduceAdd, Nat.reduceLeDiff, Nat.reduceLT, Int.reduceToNat, r_for1, r_forL, r_forT, r_lcL, r_lc1, r_yes, r_gtupD, wipe_0, wipe_1, List.cons_append, List.nil_append, r_forS, r_ipI, ite_false, ite_true, Bool.not_true, Bool.not_false, decide_true, decide_false, r_isd, r_islt, cD_ty, cD_ref, tD_non, tD_bl, tD_int, tD_str, tD_ref, tH_lst, tH_tup, tH_dK, tH_ins, ki_self, ki_int_bool, ki_non_int, ki_str_int, ki_lt_lst, ki_lt_tup, r_fld, r_sfld, HO.ins.injEq, cx_K, r_dget]
    obtain ⟨kvs, e, pk⟩ := id ht
    have wt := of_decide_eq_true chk4
    refine ⟨d, kvs, tabL.map (·.1), rfl, e, keys_of pk, by rw [List.length_map]; omega, fun ys p pm hp => ?_⟩
    have yl : ys.length = tabL.length := by rw [pm.length_eq, List.length_map]
    refine ⟨a, p, ys.map V.str, rfl, hS.new hp, hS.ne hp, upd_same, ?_, by rw [List.length_map]; omega, fun v H1 hv k1 S1 => ?_⟩
    · intro z
      have := congrArg List.length z
      rw [List.length_map, List.length_nil] at this
      omega
    obtain ⟨z, hz, rfl⟩ := List.mem_map.mp hv
    obtain ⟨r, hm, rfl⟩ := List.mem_map.mp (pm.mem_iff.mp hz)
    have hS' := hS
    obtain ⟨x0, y0, z0, eS⟩ := hS
    have s1 := Same.new' (o := .lst (ys.map V.str)) (Same.refl H) hp
    have ht1 := (ht.same s1).keep k1 ⟨_, s1 _ _ eS⟩
    obtain ⟨t, hg, hrow⟩ := ht1.get hm
    obtain ⟨f1, f2, f3, f4, f5, f6, f7, f8⟩ := tab_fact hm
    have kk : Keep a H H1 := ((Keep.refl a H).new hp).trans k1
    refine ⟨_, hg, t, rfl, _, by rw [hrow]; rfl, _, at2, rfl, ?_⟩
    by_cases c : r.2.2.2 = "-"
    · rw [if_pos (by rw [c])]
      refine ⟨szl (by decide : 2 ≤ 1000), fun q hq => ?_⟩
      have qa : q ≠ a := S1.ne hq
      exact k q r none _ hm (fun n z => by cases z) ⟨fun _ => f8.mp c, fun _ => rfl⟩ (by
        cases e : H q with
        | none => rfl
        | some o =>
          have := kk q o qa e
          rw [hq] at this
          cases this) (kk.new hq) (S1.new hq) upd_same
    · rw [if_neg (by intro z; exact c (V.str.inj z))]
      refine ⟨a, rfl, S1, fun n H2 hn k2 S2 => ⟨szl (by decide : 2 ≤ 1000), fun q hq => ?_⟩⟩
      have qa : q ≠ a := S2.ne hq
      have kk2 := kk.trans k2
      exact k q r (some n) _ hm (fun m z => by cases z; exact hn) ⟨fun z => (by cases z), fun z => absurd (f8.mpr z) c⟩ (by
        cases e : H q with
        | none => rfl
        | some o =>
          have := kk2 q o qa e
          rw [hq] at this
          cases this) (kk2.new hq) (S2.new hq) upd_same
end
end C46

set_option maxHeartbeats 2000000
namespace C46
open PySem PySem.Spec PyProof.Rows L2
def spOdd : Sp := fun vs H Q _ => ∃ a : Addr, vs = [.ref a] ∧ Src H a ∧ ∀ (v : V) H', BadRow H' v → Keep a H H' → Src H' a → Q v H'
/-! ### what gives odd values alone -/
def BadE (te : TE) : Prop := ∀ σ H Q, (∀ v H', Same H H' → BadRow H' v → Q v H') → te σ H Q
def BadA (ta : TA) (n : Nat) : Prop := ∀ σ H QA, (∀ vs H', Same H H' → vs.length = n → (∀ v ∈ vs, BadRow H' v) → QA vs H') → ta σ H QA
theorem Same.trans' {H H1 H2 : Hp} (a : Same H H1) (b : Same H1 H2) : Same H H2 := fun c o e => b c o (a c o e)
theorem badA_nil : BadA tNil 0 := fun σ H QA h => h [] H (Same.refl H) rfl fun v hv => by cases hv
theorem badA_cons {te : TE} {ta : TA} {n : Nat} (h : BadE te) (k : BadA ta n) : BadA (tCons te ta) (n + 1) := fun σ H QA q => h σ H _ fun v H1 s1 b => k σ H1 _ fun vs H2 s2 l bs =>
  q (v :: vs) H2 (Same.trans' s1 s2) (by rw [List.length_cons, l]) fun u hu => by
    rcases List.mem_cons.mp hu with rfl | hu
    · exact b.same s2
    · exact bs u hu
theorem badE_c {v : V} {n : String} (h : ∀ H, tyP H v = some n) (hn : n ≠ "tuple") : BadE (tC v) := fun σ H Q q => q v H (Same.refl H) (.inl ⟨n, h H, hn⟩)
theorem badE_d : BadE tDNewK := fun σ H Q q p hp => q (.ref p) _ (Same.new' (Same.refl H) hp) (.inl ⟨"dict", by show tyO (L2.upd H p _ p) = _; rw [upd_same]; rfl, by decide⟩)
/-- a display whose values are known -/
def KnA (ta : TA) (us : List V) : Prop := ∀ σ H QA, QA us H → ta σ H QA
theorem kn_nil : KnA tNil [] := fun σ H QA q => q
theorem kn_cons {ta : TA} {u : V} {us : List V} (k : KnA ta us) : KnA (tCons (tC u) ta) (u :: us) := fun σ H QA q => k σ H _ q
theorem kn_sub {ta : TA} {i j : Int} {us : List V} (k : KnA ta us) : KnA (tCons (tOp (rI0 fun i j => .int (i - j)) (tC (.int i)) (tC (.int j))) ta) (.int (i - j) :: us) := fun σ H QA q => ⟨i, j, rfl, rfl, k σ H _ q⟩
theorem badE_l {ta : TA} {us : List V} (k : KnA ta us) (h : us.length ≤ 1000) : BadE (tLst ta) := fun σ H Q q => k σ H _ ⟨szl h, fun p hp => q (.ref p) _ (Same.new' (Same.refl H) hp) (.inl ⟨"list", by show tyO (L2.upd H p _ p) = _; rw [upd_same]; rfl, by decide⟩)⟩
theorem badE_t {ta : TA} {us : List V} (k : KnA ta us) (h : us.length ≤ 1000) (b : ∀ H, BadP H us) : BadE (tTup ta) := fun σ H Q q => k σ H _ ⟨szl h, fun p hp => q (.ref p) _ (Same.new' (Same.refl H) hp) (.inr ⟨p, us, rfl, upd_same, b _⟩)⟩
theorem badS {H : Hp} {z : Str} {y : V} {n : String} (hk : (lkp NUMW z).isSome = true ∨ (z ∈ oddW ∧ lkp NUMW z = none)) (hy : tyP H y = some n) (hb : rowB (.str z) y = false) : BadP H [.str z, y] := by
  refine .inr ⟨_, _, "str", n, rfl, rfl, hy, ?_, hb⟩
  intro u e
  cases e
  rcases hk with h | h
  · obtain ⟨m, hm⟩ := Option.isSome_iff_exists.mp h
    exact .inl ⟨m, hm⟩
  · exact .inr h
theorem badN {H : Hp} {x y : V} {n m : String} (hx : ∀ z, x ≠ .str z) (h1 : tyP H x = some n) (hy : tyP H y = some m) (hb : rowB x y = false) : BadP H [x, y] := .inr ⟨_, _, n, m, rfl, h1, hy, fun u e => absurd e (hx u), hb⟩
theorem kC : (lkp NUMW "COPY").isSome = true := by decide +kernel
/-- ([], 1), ("COPY", [1]) -/
theorem badE_x1 : BadE (tTup (tCons (tLst tNil) (tCons (tC (.int 1)) tNil))) := fun σ H Q q => by
  simp only [r_seq, r_next, r_brk, r_cont, r_asg, r_name, r_ret, r_retN, r_drop, r_ifs, r_never, r_var, r_c, r_op, r_un, r_if, r_tst, r_b, r_not, r_and, r_or, r_andV, r_orV, r_notV, r_nil, r_cons, r_tup, r_lst, r_cb, r_call, r_bm, r_bm0, r_sl, r_nopart, r_part, r_rev, r_gnil, r_gcons, r_gsub, r_par, r_aug, r_chain, r_I0, r_I, r_U, r_ixd, r_lend, r_tupd, r_listd, r_sld, r_app, r_ext, r_reverse, r_setl, r_cat, r_int1, r_eqS, r_neS, scal_ii, scal_bb, scal_ss, at0, at1, at2, sq_lst, sq_tup, isLst_lst, List.getElem?_cons_zero, List.getElem?_cons_succ, List.set_cons_zero, List.set_cons_succ, V.int.injEq, V.bl.injEq, V.ref.injEq, V.str.injEq, HO.lst.injEq, HO.tup.injEq, Option.some.injEq, exists_eq_left', exists_eq_left, List.cons.injEq, and_true, true_and, decide_eq_true_eq, reduceCtorEq, false_and, exists_false, or_false, false_or, exists_const, and_assoc, exists_and_left, List.append_nil, ix0, ix1, ix2, cm_mod, cdw1009, cdw2003, cdw7, cdw64, cdw2, cm104729, cm2, cm3, upd_same, List.length_cons, List.length_nil, Int.reduceLT, Int.reduceLE, Nat.reduceAdd, Nat.reduceLeDiff, Nat.reduceLT, Int.reduceToNat, r_for1, r_forL, r_forT, r_lcL, r_lc1, r_yes, r_gtupD, wipe_0, wipe_1, List.cons_append, List.nil_append, r_forS, r_ipI, ite_false, ite_true, Bool.not_true, Bool.not_false, decide_true, decide_false, r_isd, r_islt, cD_ty, cD_ref, tD_non, tD_bl, tD_int, tD_str, tD_ref, tH_lst, tH_tup, tH_dK, tH_ins, ki_self, ki_int_bool, ki_non_int, ki_str_int, ki_lt_lst, ki_lt_tup, r_fld, r_sfld, HO.ins.injEq, cx_K]
  refine ⟨Nat.zero_le _, fun p hp => ⟨szl (by decide : 2 ≤ 1000), fun t ht => ?_⟩⟩
  refine q (.ref t) _ (Same.new' (Same.new' (Same.refl H) hp) ht) (.inr ⟨t, _, rfl, upd_same, ?_⟩)
  refine badN (n := "list") (m := "int") (fun z e => by cases e) ?_ rfl rfl
  show tyO (L2.upd _ t _ p) = _
  rw [upd_ne (ne_new upd_same ht), upd_same]
  rfl
theorem badE_x2 : BadE (tTup (tCons (tC (.str "COPY")) (tCons (tLst (tCons (tC (.int 1)) tNil)) tNil))) := fun σ H Q q => by
  simp only [r_seq, r_next, r_brk, r_cont, r_asg, r_name, r_ret, r_retN, r_drop, r_ifs, r_never, r_var, r_c, r_op, r_un, r_if, r_tst, r_b, r_not, r_and, r_or, r_andV, r_orV, r_notV, r_nil, r_cons, r_tup, r_lst, r_cb, r_call, r_bm, r_bm0, r_sl, r_nopart, r_part, r_rev, r_gnil, r_gcons, r_gsub, r_par, r_aug, r_chain, r_I0, r_I, r_U, r_ixd, r_lend, r_tupd, r_listd, r_sld, r_app, r_ext, r_reverse, r_setl, r_cat, r_int1, r_eqS, r_neS, scal_ii, scal_bb, scal_ss, at0, at1, at2, sq_lst, sq_tup, isLst_lst, List.getElem?_cons_zero, List.getElem?_cons_succ, List.set_cons_zero, List.set_cons_succ, V.int.injEq, V.bl.injEq, V.ref.injEq, V.str.injEq, HO.lst.injEq, HO.tup.injEq, Option.some.injEq, exists_eq_left', exists_eq_left, List.cons.injEq, and_true, true_and, decide_eq_true_eq, reduceCtorEq, false_and, exists_false, or_false, false_or, exists_const, and_assoc, exists_and_left, List.append_nil, ix0, ix1, ix2, cm_mod, cdw1009, cdw2003, cdw7, cdw64, cdw2, cm104729, cm2, cm3, upd_same, List.length_cons, List.length_nil, Int.reduceLT, Int.reduceLE, Nat.reduceAdd, Nat.reduceLeDiff, Nat.reduceLT, Int.reduceToNat, r_for1, r_forL, r_forT, r_lcL, r_lc1, r_yes, r_gtupD, wipe_0, wipe_1, List.cons_append, List.nil_append, r_forS, r_ipI, ite_false, ite_true, Bool.not_true, Bool.not_false, decide_true, decide_false, r_isd, r_islt, cD_ty, cD_ref, tD_non, tD_bl, tD_int, tD_str, tD_ref, tH_lst, tH_tup, tH_dK, tH_ins, ki_self, ki_int_bool, ki_non_int, ki_str_int, ki_lt_lst, ki_lt_tup, r_fld, r_sfld, HO.ins.injEq, cx_K]
  refine ⟨szl (by decide : 1 ≤ 1000), fun p hp => ⟨szl (by decide : 2 ≤ 1000), fun t ht => ?_⟩⟩
  refine q (.ref t) _ (Same.new' (Same.new' (Same.refl H) hp) ht) (.inr ⟨t, _, rfl, upd_same, ?_⟩)
  refine badS (n := "list") (.inl kC) ?_ ?_
  · show tyO (L2.upd _ t _ p) = _
    rw [upd_ne (ne_new upd_same ht), upd_same]
    rfl
  · have e : ∃ n, lkp NUMW "COPY" = some n ∧ ¬ n < 45 := ⟨61, by decide +kernel, by decide⟩
    obtain ⟨n, e1, e2⟩ := e
    show insB (lkp NUMW "COPY") (V.ref p) = false
    rw [e1, insB_eq, if_neg e2]
    split
    · rfl
    · rfl
theorem tyP_keep {a : Addr} {H H' : Hp} {x : V} {n : String} (k : Keep a H H') (S : Src H a) (S' : Src H' a) (h : tyP H x = some n) : tyP H' x = some n := by
  cases x with
  | ref b =>
    show tyO _ = _
    have h2 : tyO (H b) = some n := h
    by_cases e : b = a
    · subst e
      obtain ⟨x, y, z, e1⟩ := S
      obtain ⟨x', y', z', e2⟩ := S'
      rw [e1] at h2
      rw [e2]
      exact h2
    · cases e1 : H b with
      | none => rw [e1] at h2; cases h2
      | some o => rw [k b o e e1, ← e1]; exact h2
  | _ => exact h
theorem BadRow.keep {a : Addr} {H H' : Hp} {x : V} (k : Keep a H H') (S : Src H a) (S' : Src H' a) (h : BadRow H x) : BadRow H' x := by
  rcases h with ⟨n, h1, h2⟩ | ⟨t, ys, h1, h2, h3⟩
  · exact .inl ⟨n, tyP_keep k S S' h1, h2⟩
  · have ta : t ≠ a := fun z => by
      obtain ⟨x, y, w, e⟩ := S
      rw [z, e] at h2
      cases h2
    refine .inr ⟨t, ys, h1, k _ _ ta h2, ?_⟩
    rcases h3 with h | ⟨u, v, nu, nv, g1, g2, g3, g4⟩
    · exact .inl h
    · exact .inr ⟨u, v, nu, nv, g1, tyP_keep k S S' g2, tyP_keep k S S' g3, g4⟩
def tOdd (A1 A2 A3 : TA) : TS := tSeq (tAsg (tLst A1) (gName 1)) (tSeq (tAsg (tOp rCat (tVar 1) (tLst A2)) (gName 1)) (tRet (tCall spOne [] E0 (tCons (tVar 0) (tCons (tOp rCat (tVar 1) (tLst A3)) tNil)))))
theorem odd_run {A1 A2 A3 : TA} {n1 n2 n3 : Nat} {a : Addr} {H : Hp} {Q : VK} {v1 : Option V} (b1 : BadA A1 n1) (b2 : BadA A2 n2) (b3 : BadA A3 n3) (hn : n1 + n2 + n3 ≤ 100) (h0 : 0 < n1) (hS : Src H a) (k : ∀ (v : V) H', BadRow H' v → Keep a H H' → Src H' a → Q v H') :
    tOdd A1 A2 A3 { nx := fun _ H' => Q .non H', rt := Q } [some (.ref a), v1] H := by
  unfold tOdd
  refine b1 _ H _ fun xs H1 s1 l1 c1 => ⟨szl (by omega), fun p1 hp1 => ?_⟩
  have sa := Same.trans' s1 (Same.new' (o := .lst xs) (Same.refl H1) hp1)
  refine ⟨_, rfl, b2 _ _ _ fun ys H2 s2 l2 c2 => ⟨szl (by omega), fun p2 hp2 => ⟨p1, p2, xs, ys, rfl, rfl, ?_, upd_same, Nat.le_trans (by omega : _ ≤ 1000) (by decide), fun p3 hp3 => ?_⟩⟩⟩
  · have e := s2 _ _ (show L2.upd H1 p1 (.lst xs) p1 = _ from upd_same)
    rw [upd_ne (ne_new e hp2)]
    exact e
  have sb := Same.new' (o := .lst (xs ++ ys)) (Same.new' (o := .lst ys) (Same.refl H2) hp2) hp3
  refine ⟨_, rfl, _, rfl, b3 _ _ _ fun zs H3 s3 l3 c3 => ⟨szl (by omega), fun p4 hp4 => ⟨p3, p4, xs ++ ys, zs, rfl, rfl, ?_, upd_same, Nat.le_trans (by rw [List.length_append]; omega : _ ≤ 1000) (by decide), fun p5 hp5 => ?_⟩⟩⟩
  · have e := s3 _ _ (show L2.upd (L2.upd H2 p2 (.lst ys)) p3 (.lst (xs ++ ys)) p3 = _ from upd_same)
    rw [upd_ne (ne_new e hp4)]
    exact e
  have sc := Same.new' (o := .lst zs) (Same.refl H3) hp4
  have sd := Same.new' (o := .lst (xs ++ ys ++ zs)) sc hp5
  have t1 : Same H1 (L2.upd (L2.upd H3 p4 (.lst zs)) p5 (.lst (xs ++ ys ++ zs))) := Same.trans' (Same.new' (o := .lst xs) (Same.refl H1) hp1) (Same.trans' s2 (Same.trans' sb (Same.trans' s3 sd)))
  have t2 : Same H2 (L2.upd (L2.upd H3 p4 (.lst zs)) p5 (.lst (xs ++ ys ++ zs))) := Same.trans' sb (Same.trans' s3 sd)
  have tH : Same H (L2.upd (L2.upd H3 p4 (.lst zs)) p5 (.lst (xs ++ ys ++ zs))) := Same.trans' s1 t1
  have bad : ∀ v ∈ xs ++ ys ++ zs, BadRow (L2.upd (L2.upd H3 p4 (.lst zs)) p5 (.lst (xs ++ ys ++ zs))) v := by
    intro v hv
    rcases List.mem_append.mp hv with hv | hv
    · rcases List.mem_append.mp hv with hv | hv
      · exact (c1 v hv).same t1
      · exact (c2 v hv).same t2
    · exact (c3 v hv).same sd
  have S5 : Src (L2.upd (L2.upd H3 p4 (.lst zs)) p5 (.lst (xs ++ ys ++ zs))) a := by
    obtain ⟨x, y, z, e⟩ := hS
    exact ⟨x, y, z, tH _ _ e⟩
  have s4 : Same H (L2.upd H3 p4 (.lst zs)) := Same.trans' s1 (Same.trans' (Same.new' (o := .lst xs) (Same.refl H1) hp1) (Same.trans' s2 (Same.trans' sb (Same.trans' s3 sc))))
  have pa : p5 ≠ a := by
    obtain ⟨x, y, z, e⟩ := hS
    exact new_ne (s4 _ _ e) hp5
  refine ⟨a, p5, _, rfl, S5, pa, upd_same, ?_, by rw [List.length_append, List.length_append]; omega, fun v H' hv kk S' => ?_⟩
  · intro z
    have := congrArg List.length z
    rw [List.length_append, List.length_append, List.length_nil] at this
    omega
  · exact k v H' ((bad v hv).keep kk S5 S') ((Keep.same tH).trans kk) S'
section
variable {P : Program} {w : World} {K : PySem.W.Frag} {mg : Str → Option Value} {base : Heap} {f : Addr} {fd : FuncData}
abbrev sodd : Stmt := top 44
theorem scodd : FnScope ["_law_source", "_law_some"] ["_law_source"] (defScope sodd) := ⟨rfl, rfl, rfl, by decide +kernel, rfl, by decide +kernel, by decide +kernel⟩

theorem ok_odd (T : Txt mg) (F : FnP K "_law_odd" "_law_odd" sodd f fd) (C_one : Cal P w K mg base 2 "_law_one" ["_law_source", "_law_some"] spOne) : FnOk P w K mg base CX0 3 f fd ["_law_source"] spOdd := by
  refine F.ok scodd (fun vs H Q E h => ?_) (fun cdv A outer s H vs Q E hr h => ?_)
  · obtain ⟨a, rfl, _⟩ := h
    rfl
  · obtain ⟨a, rfl, hS, k⟩ := h
    refine ⟨_, PSs.nox (pss_cons (ps_set (i := 1) scodd.nd rfl (Or.inl rfl) (pe_lst (pa_cons pe_non (pa_cons pe_int (pa_cons pe_str (pa_cons (pe_tup pa_nil) (pa_cons (pe_tup (pa_cons pe_str pa_nil)) (pa_cons (pe_tup (pa_cons pe_str (pa_cons pe_int pa_nil))) (pa_cons (pe_lst (pa_cons pe_str (pa_cons pe_non pa_nil))) (pa_cons (pe_tup (pa_cons pe_str (pa_cons pe_non pa_nil))) (pa_cons (pe_tup (pa_cons pe_str (pa_cons pe_non pa_nil))) (pa_cons (pe_tup (pa_cons pe_str (pa_cons pe_bl pa_nil))) pa_nil))))))))))))
  (pss_cons (ps_set (i := 1) scodd.nd rfl (Or.inl rfl) (pe_op op_cat (pv 1) (pe_lst (pa_cons (pe_tup (pa_cons pe_str (pa_cons pe_int pa_nil))) (pa_cons (pe_tup (pa_cons pe_str (pa_cons (pe_op op_sub pe_int pe_int) pa_nil))) (pa_cons (pe_tup (pa_cons pe_str (pa_cons pe_int pa_nil))) (pa_cons (pe_tup (pa_cons pe_str (pa_cons pe_str pa_nil))) (pa_cons (pe_tup (pa_cons pe_int (pa_cons pe_non pa_nil))) (pa_cons (pe_tup (pa_cons pe_non (pa_cons pe_non pa_nil))) pa_nil)))))))))
  (pss_one (ps_ret (pe_cal C_one (hr.mono (by decide)) rfl (pa_cons (pv 0) (pa_cons (pe_op op_cat (pv 1) (pe_lst (pa_cons (pe_tup (pa_cons (pe_lst pa_nil) (pa_cons pe_int pa_nil))) (pa_cons (pe_tup (pa_cons pe_str (pa_cons pe_int (pa_cons pe_int pa_nil)))) (pa_cons (pe_tup (pa_cons pe_str (pa_cons pe_int pa_nil))) (pa_cons pe_dnewK (pa_cons pe_bl (pa_cons (pe_tup (pa_cons pe_str (pa_cons (pe_lst (pa_cons pe_int pa_nil)) pa_nil))) (pa_cons (pe_tup (pa_cons pe_str (pa_cons pe_int pa_nil))) pa_nil))))))))) pa_nil))))))), ?_⟩
    refine odd_run (n1 := 10) (n2 := 6) (n3 := 7) (badA_cons ?_ (badA_cons ?_ (badA_cons ?_ (badA_cons ?_ (badA_cons ?_ (badA_cons ?_ (badA_cons ?_ (badA_cons ?_ (badA_cons ?_ (badA_cons ?_ badA_nil)))))))))) (badA_cons ?_ (badA_cons ?_ (badA_cons ?_ (badA_cons ?_ (badA_cons ?_ (badA_cons ?_ badA_nil)))))) (badA_cons ?_ (badA_cons ?_ (badA_cons ?_ (badA_cons ?_ (badA_cons ?_ (badA_cons ?_ (badA_cons ?_ badA_nil))))))) (by decide) (by decide) hS k
    all_goals first
      | exact badE_c (fun _ => rfl) (by decide)
      | exact badE_d
      | exact badE_x1
      | exact badE_x2
      | exact badE_l (kn_cons (kn_cons kn_nil)) (by simp)
      | exact badE_t kn_nil (by simp) (fun _ => .inl (by simp))
      | exact badE_t (kn_cons kn_nil) (by simp) (fun _ => .inl (by simp))
      | exact badE_t (kn_cons (kn_cons (kn_cons kn_nil))) (by simp) (fun _ => .inl (by simp))
      | exact badE_t (kn_cons (kn_cons kn_nil)) (by simp) (fun _ => badS (.inl (by decide +kernel)) rfl (by decide +kernel))
      | exact badE_t (kn_cons (kn_sub kn_nil)) (by simp) (fun _ => badS (.inl (by decide +kernel)) rfl (by decide +kernel))
      | exact badE_t (kn_cons (kn_cons kn_nil)) (by simp) (fun _ => badS (.inr ⟨by decide +kernel, by decide +kernel⟩) rfl (by decide +kernel))
      | (refine badE_t (kn_cons (kn_cons kn_nil)) (by simp) (fun _ => ?_); exact badN (by intro z e; cases e) rfl rfl rfl)
end
end C46

set_option maxHeartbeats 2000000
namespace C46
open PySem PySem.Spec PyProof.Rows L2
/-! ### several clauses «except x as n» -/
/-- the ends of a suite behind which slot i is empty -/
def offE (D : Ends) (i : Nat) : Ends := { nx := fun τ G => D.nx (τ.set i none) G, rt := D.rt, bk := fun τ G => D.bk (τ.set i none) G, ct := fun τ G => D.ct (τ.set i none) G }
/-- a clause: the class, the slot of the name, the suite's reading -/
abbrev Cla := Value × Nat × (Addr → Value → Option Addr → TS)
def wAses (K : PySem.W.Frag) (m : Nat) (Wout : WX) (D : Ends) : List Cla → WX
  | [] => Wout
  | q :: r => fun cls d σ H => ∃ b, PySem.W.exmOne K cls q.1 = some b ∧ (b = true → ∀ z, H z = none → σ.length = m → q.2.2 z cls d (offE D q.2.1) (σ.set q.2.1 (some (.ref z))) H) ∧ (b = false → wAses K m Wout D r cls d σ H)
inductive AsOk (X : Cx) : List ExceptHandler → List Cla → Prop
  | nil : AsOk X [] []
  | cons {x n : Str} {c : Value} {i : Nat} {ts : Addr → Value → Option Addr → TS} {b : Stmt} {bs : List Stmt} {p q : Pos} {hds : List ExceptHandler} {l : List Cla} (nm : Names X x c) (at_ : X.N[i]? = some n) (lc : X.env.kindOf n = some .local)
      (su : ∀ (z : Addr) (o : Obj) (cls : Value) (d : Option Addr) (pn : List (Addr × Obj)), Zc cls d o → (∃ vs, o.data = .fields vs) → PSs (X.suite z ((z, o) :: pn)) (b :: bs) (ts z cls d)) (r : AsOk X hds l) :
      AsOk X (.ExceptHandler (some (.Name x p)) (some n) (b :: bs) q :: hds) ((c, i, ts) :: l)
/-- where the clauses are looked at: z is caught and stands on the ground -/
structure Down (X : Cx) (pins : List (Addr × Obj)) (σ : L2.St) (H : Hp) (cls : Value) (d : Option Addr) (z : Addr) (B : Heap) (s0 s : Shared) : Prop where
  inv : L2.Inv X pins σ H s0
  nb : ∀ (b : Addr) (o : Obj), s0.heap.get? b = some o → ¬b ∈ frs X.stack → B.get? b = some o
  up : s0.heap.UpToSlots s.heap
  fl : HandSPX.FlyingZ B (X.env :: X.outer) z (Zc cls d) s.heap
  na : H z = none
  os : s.os = s0.os
  ag : AllBare s.gens
section
variable {X : Cx} {pins : List (Addr × Obj)} {σ : L2.St} {H : Hp} {cls : Value} {d : Option Addr} {z : Addr} {B : Heap} {s0 s : Shared}
theorem Down.now (g : Down X pins σ H cls d z B s0 s) : L2.Inv X pins σ H s := g.inv.landed g.nb g.fl.1 g.up g.os g.ag
theorem Down.far (g : Down X pins σ H cls d z B s0 s) {o : Obj} {vs : Array Value} (e : s.heap.get? z = some o) (q : o.data = .fields vs) : z ∉ frs (X.env :: X.outer) := by
  intro hm
  obtain ⟨_, o1, e1, no⟩ := g.fl.2.2.1.mem hm
  have := e.symm.trans e1
  cases this
  exact no _ q
theorem Down.inside (g : Down X pins σ H cls d z B s0 s) (hf : X.env.frame = some X.env.locals) {o : Obj} {vs : Array Value} (e : s.heap.get? z = some o) (q : o.data = .fields vs) : L2.Inv (X.suite z ((z, o) :: (X.pn ++ pins))) [] σ H s := by
  have f := g.far e q
  refine g.now.suite e q g.na (fun w => f ?_) (fun hm => f ?_)
  · exact List.mem_filterMap.mpr ⟨X.env, List.mem_cons_self, hf.trans (congrArg some w.symm)⟩
  · obtain ⟨v, hv, w⟩ := List.mem_filterMap.mp hm
    exact List.mem_filterMap.mpr ⟨v, List.mem_cons_of_mem _ hv, w⟩
/-- no clause is left: the exception goes on -/
theorem Down.on {D : Ends} {Wout : WX} (g : Down X pins σ H cls d z B s0 s) (hs : X.stack = X.env :: X.outer) (hf : X.env.frame = some X.env.locals) (tk : Takes X Wout) (w : Wout cls d σ H) :
    wpAny (model X.prog X.w) X.A (handleBy (.ref z) X.env []) (SP X pins D) X.xe s := by
  refine wpAny_handleBy_nil ?_
  obtain ⟨_, _, _, o, vs, tb, _, _, e, _, q, e1, _⟩ := id g.fl
  have out : wpAny (model X.prog X.w) X.A (setFlight (.ref z) X.env.frame) (fun _ t => wpAny (model X.prog X.w) X.A (throw (.ref z) : Sem Flow) (SP X pins D) X.xe t) X.xe s := by
    rw [hf]
    exact HandSPX.setFlight_upZ g.fl fun k hk uk => wpAny_throw (tk _ _ ⟨z, B, s0, pins, σ, H, cls, d, rfl, g.inv, g.nb, g.up.trans uk, .inr (.inr (hs ▸ hk)), g.na, g.os, g.ag, w⟩)
  unfold PySem.passOn
  refine wpAny_bind (wpAny_field e q e1 ?_)
  rw [if_neg (by simp)]
  first
    | exact wpAny_bind out
    | exact wpAny_bind (wpAny_pure (wpAny_bind out))
end
section
variable {X : Cx}
/-- the clauses, one after the other -/
theorem ases_go (hs : X.stack = X.env :: X.outer) (hf : X.env.frame = some X.env.locals) (hN : X.N.Nodup) {Wout : WX} (tk : Takes X Wout) {D : Ends} {pins : List (Addr × Obj)} {σ : L2.St} {H : Hp} {cls : Value} {d : Option Addr} {z : Addr} {B : Heap} {s0 s : Shared} (g : Down X pins σ H cls d z B s0 s) :
    ∀ {hds : List ExceptHandler} {l : List Cla}, AsOk X hds l → wAses X.K X.N.length Wout D l cls d σ H → wpAny (model X.prog X.w) X.A (handleBy (.ref z) X.env hds) (SP X pins D) X.xe s := by
  intro hds l hk
  have ok := g.inv.ok
  induction hk with
  | nil => exact g.on hs hf tk
  | @cons x n c i ts b bs p q hds l nm at_ lc su r ih =>
    rintro ⟨yes, e, h1, h2⟩
    obtain ⟨o, vs, eo, zo, qo⟩ := g.fl.there
    refine wpAny_handleBy_cons (codeAny_handlers_test ?_) (by intro w; cases w)
    have cl : PySem.W.Looks (model X.prog X.w) s.heap (typeOf (.ref z)) cls := fun _ _ _ _ k w => wpAny_typeOf_ref (k _ _ eo) (by rw [zo.1]; exact w)
    have inn := g.inside hf eo qo
    have named : ∀ {Q : Value → Shared → Prop} {E : Value → Shared → Prop}, Q c s → wpAny (model X.prog X.w) (X.A.mark (some (.ref z))) (eval (.Name x p) X.env) Q E s := by
      intro Q E w
      obtain ⟨g1, g2, g3 | ⟨g3, g4, g5⟩⟩ := nm
      · exact ld_glob (X := X.suite z ((z, o) :: (X.pn ++ pins))) inn g1 g3 w g2
      · exact ld_blt (X := X.suite z ((z, o) :: (X.pn ++ pins))) inn g1 g3 g4 w g5 g2
    refine named ((PySem.W.exm_one (M := model X.prog X.w) g.now.kIn cl e).here ?_)
    cases yes with
    | false => exact ih (h2 rfl)
    | true =>
      refine codeAny_handlers_suite_as (HandSPX.lands_againZ g.fl fun k fk uk => ?_)
      have g' : Down X pins σ H cls d z B s0 { s with heap := k } := ⟨g.inv, g.nb, g.up.trans uk, fk, g.na, g.os, g.ag⟩
      obtain ⟨o', vs', eo', zo', qo'⟩ := fk.there
      refine store_ok (X := X.suite z ((z, o') :: (X.pn ++ pins))) (v := .ref z) (g'.inside hf eo' qo') hN at_ (.inl lc) rfl (fun t it => ?_) (.inr lc)
      refine wpAny_mono ((su z o' cls d (X.pn ++ pins) zo' ⟨_, qo'⟩).run [] t _ H _ it (h1 rfl z g.na g.inv.len)) (fun f t' ht => ?_) (fun _ _ no => no.elim)
      have gone : ∀ {τ : L2.St} {G : Hp} {Q : Shared → Prop}, L2.Inv (X.suite z ((z, o') :: (X.pn ++ pins))) [] τ G t' → (∀ t1, L2.Inv X pins (τ.set i none) G t1 → Q t1) →
          wpAny (model X.prog X.w) X.A (do bindName X.env n .none; unbindBehindTheSuite X.env n q) (fun _ t1 => Q t1) X.xe t' := fun it' w => gone_ok (it'.unsuite ok) hN at_ lc w
      cases f with
      | ret u =>
        obtain ⟨_, _, _, it', ru, w⟩ := ht
        exact gone it' fun _ i1 => ⟨_, _, _, i1, ru, w⟩
      | next => obtain ⟨_, _, it', w⟩ := ht; exact gone it' fun _ i1 => ⟨_, _, i1, w⟩
      | brk => obtain ⟨_, _, it', w⟩ := ht; exact gone it' fun _ i1 => ⟨_, _, i1, w⟩
      | cont => obtain ⟨_, _, it', w⟩ := ht; exact gone it' fun _ i1 => ⟨_, _, i1, w⟩
/-- try: body / except x as n: .. / except y as n: .. -/
theorem ps_try_ases {body : List Stmt} {h1 : ExceptHandler} {hds : List ExceptHandler} {l : List Cla} {pos : Pos} {tb : WX → TS} {Wout : WX} (hs : X.stack = X.env :: X.outer) (hf : X.env.frame = some X.env.locals) (hN : X.N.Nodup) (tk : Takes X Wout)
    (hb : ∀ (W : WX) (pn : List (Addr × Obj)) (xe : Value → Shared → Prop), Takes (X.tr pn xe) W → PassesOwn (model X.prog X.w) X.A X.env xe → PSs (X.tr pn xe) body (tb W)) (hh : AsOk X (h1 :: hds) l) :
    PS X (.Try body (h1 :: hds) [] [] pos) (fun D σ H => tb (wAses X.K X.N.length Wout D l) D σ H) := by
  refine ⟨fun pins s σ H D I h => wpAny_Try_except ?_⟩
  have ok := I.ok
  have fr : X.A.frames = some (X.env :: X.outer) := ok.frames.trans (congrArg some hs)
  refine wpAny_mono ((hb (wAses X.K X.N.length Wout D l) (X.pn ++ pins) _ ?_ PassesOwn.looking).run [] s σ H D (I.toTry _) h) ?_ (fun _ _ w => w)
  · rintro u t ⟨z, B, s0, pins', σ', H', cls, d, rfl, I', nb, up, sky, na, os, ag, w⟩
    show wpAny (model X.prog X.w) X.A (noteFrame (.ref z) X.env) _ _ _
    have sky' : Sky B (X.env :: X.outer) z (Zc cls d) X.env.locals t.heap := hs ▸ sky
    exact Sky.land Zc.steady fr hf sky' fun k fk uk => ases_go (s := { t with heap := k }) hs hf hN tk ⟨I'.ofTry ok, nb, up.trans uk, fk, na, os, ag⟩ hh w
  · intro f t ht
    cases f with
    | next => obtain ⟨_, _, it, w⟩ := ht; exact wpAny_execs_nil ⟨_, _, it.ofTry ok, w⟩
    | brk => obtain ⟨_, _, it, w⟩ := ht; exact ⟨_, _, it.ofTry ok, w⟩
    | cont => obtain ⟨_, _, it, w⟩ := ht; exact ⟨_, _, it.ofTry ok, w⟩
    | ret u => obtain ⟨_, _, _, it, ru, w⟩ := ht; exact ⟨_, _, _, it.ofTry ok, ru, w⟩
end
/-! ### isinstance(e, c) of a caught exception with fields of its own -/
def rIsED (K : PySem.W.Frag) (D a dd : Addr) : List V → Hp → VK → Prop := fun vs H Q => ∃ (c : V) (cv : Value) (b : Bool) (fs : List (Str × V)), vs = [.ref a, c] ∧ clsD c = some cv ∧ PySem.W.kitOne K (.ref D) cv = some b ∧ H dd = some (.xd fs) ∧ Q (.bl b) H
theorem call_isED {X : Cx} {a D dd : Addr} {o : Obj} {pn : List (Addr × Obj)} (C : ExcC X.K D) (hz : Zc (.ref D) (some dd) o) (hf : ∃ vs, o.data = .fields vs) : CallR (X.suite a ((a, o) :: pn)) (.builtin "isinstance") (rIsED X.K D a dd) := by
  rintro pins s σ H xs us Q I r ⟨c, cv, b, fs, rfl, hc, e, hd, q⟩
  obtain ⟨u, us', rfl, ru, r⟩ : ∃ u us', us = u :: us' ∧ L2.RelV (.ref a) u ∧ Vals [c] us' := by cases r with | cons x y => exact ⟨_, _, rfl, x, y⟩
  obtain ⟨v, rfl, rv⟩ := vals1 r
  obtain rfl : u = Value.ref a := ru
  have ev : v = cv := by
    cases c with
    | ty n => cases hc; exact rv
    | ref A => cases hc; exact rv
    | _ => cases hc
  subst ev
  obtain ⟨g, _⟩ := I.pin (a, o) (List.mem_append_left _ List.mem_cons_self)
  obtain ⟨vs, hv⟩ := hf
  have hx : ObjOk X.prog X.w H s.heap dd (.xd fs) := I.hok dd _ hd
  obtain ⟨mA, hns, hr⟩ := hx
  obtain ⟨od, ho, _⟩ := lookIn_ns hns
  have J : PySem.W.InstAt s.heap a o D (some od) := ⟨g, hz.1, by unfold PySem.W.notCls; rw [hv] <;> rfl, by rw [hz.2]; exact ho⟩
  have cl : (PySem.W.clsIn X.K D).isSome = true := by
    obtain ⟨cd, h, _⟩ := PySem.W.any_some C.hd
    rw [h] <;> rfl
  exact PySem.W.kia_one (PySem.W.kitx_exc cl C.hg C.hk C.hs C.ha C.hn C.ht C.hm) I.kIn J e (fun z => nomatch z) fun tk => ⟨.bl b, H, I.kept (t' := tk) fun _ _ z => z, rfl, q⟩

/-- what is known of the exception NoRows -/
structure NoRowsT (K : PySem.W.Frag) (mg : Str → Option Value) (CR CE CN CT : Addr) : Prop where
  ex : ExcC K CR
  xf : XfC K CR
  no : PySem.W.findIn K (.ref CR) "at" = some none
  g_CodeError : mg "CodeError" = some (.ref CE)
  g_NoRows : mg "NoRows" = some (.ref CR)
  g_NoCode : mg "NoCode" = some (.ref CN)
  g_NoTable : mg "NoTable" = some (.ref CT)
  i1 : PySem.W.kitOne K (.ref CR) (.ref CE) = some true
  em1 : PySem.W.exmOne K (.ref CR) (.ref CN) = some false
  em2 : PySem.W.exmOne K (.ref CR) (.ref CT) = some false
  em3 : PySem.W.exmOne K (.ref CR) (.ref CR) = some true
/-- the def that catches: what it makes of what it calls -/
def TTCaught (CR : Addr) : (XK → Hp → VK → Prop) → Hp → VK → Prop := fun tl H Q =>
  tl (fun cls d H' => cls = .ref CR ∧ ∃ (dd : Addr) (v : V), d = some dd ∧ H' dd = some (.xd [("at", v)]) ∧ ∀ p H'', H' p = none → Same H' H'' → H'' p = some (.tup [.str "rows", v]) → Q (.ref p) H'') H (fun _ H1 => Q .non H1)
section
variable {X : Cx}
abbrev scaught : Stmt := top 42
theorem sccaught : FnScope ["_law_ask", "e"] ["_law_ask"] (defScope scaught) := ⟨rfl, rfl, rfl, by decide +kernel, rfl, by decide +kernel, by decide +kernel⟩

theorem r_isED {K : PySem.W.Frag} {D a dd : Addr} {vs : List V} {H : Hp} {Q : VK} : rIsED K D a dd vs H Q = ∃ (c : V) (cv : Value) (b : Bool) (fs : List (Str × V)), vs = [.ref a, c] ∧ clsD c = some cv ∧ PySem.W.kitOne K (.ref D) cv = some b ∧ H dd = some (.xd fs) ∧ Q (.bl b) H := rfl
theorem r_xf {a : Addr} {cls : Value} {d : Option Addr} {C : Addr} {f : Str} {te : TE} {σ : L2.St} {H : Hp} {Q : VK} : tXf a cls d C f te σ H Q = te σ H (fun x H1 => x = .ref a ∧ cls = .ref C ∧ ∃ (dd : Addr) (fs : List (Str × V)) (v : V), d = some dd ∧ H1 dd = some (.xd fs) ∧ fs.lookup f = some v ∧ Q v H1) := rfl
def trS (K : PySem.W.Frag) (CR CE z dd : Addr) : TS := tRet (tIf (tB (tCB (rIsED K CR z dd) (tCons (tVar 1) (tCons (tC (.ref CE)) tNil))))
  (tTup (tCons (tC (.str "rows")) (tCons (tXf z (.ref CR) (some dd) CR "at" (tVar 1)) tNil))) (tC .non))
abbrev cau (X : Cx) (g : Addr) (cdg : Value) (s : Shared) (H : Hp) : Cx := (cxOf C8.CX0 X.prog X.w X.K X.mg X.base ["_law_ask", "e"] "_law_caught" (defScope scaught) g cdg X.A X.stack s H C8.E0).nox
theorem caught_gives {CR CE CN CT CB : Addr} {g : Addr} {cdg : Value} {q : Str} (T : Txt X.mg) (I : NoRowsT X.K X.mg CR CE CN CT) (gB : X.mg "NoBytes" = some (.ref CB)) :
    LamX.GivesTo X ["_law_ask", "e"] "_law_caught" (defScope scaught) g cdg (defBody scaught) "_law_ask" q (TTCaught CR) := by
  intro f c' s H Q tl act hc h
  have hN : (["_law_ask", "e"] : List Str).Nodup := by decide
  refine ⟨_, pss_cons (ps_try_ases (X := (cxOf C8.CX0 X.prog X.w X.K X.mg X.base ["_law_ask", "e"] "_law_caught" (defScope scaught) g cdg X.A X.stack s H C8.E0).nox)
    (tb := fun W D σ H => ∃ Ech : XK, (∀ cls d σ' H', Ech cls d H' → W cls d σ' H') ∧ σ[0]? = some (some (.ref f)) ∧ H c' = some (LamX.CodeO c' q) ∧ tl Ech H (fun _ H1 => D.nx σ H1))
    rfl rfl hN LamX.takes0 (fun W pn xe tk _ => ?_)
    (.cons (i := 1) ⟨rfl, by decide, .inl I.g_NoCode⟩ rfl rfl (fun z o cls d pn hz hf => pss_one ps_never)
      (.cons (i := 1) ⟨rfl, by decide, .inl I.g_NoTable⟩ rfl rfl (fun z o cls d pn hz hf => pss_one ps_never)
      (.cons (i := 1) (ts := fun z cls d D σ H => ∃ dd, cls = Value.ref CR ∧ d = some dd ∧ trS X.K CR CE z dd D σ H) ⟨rfl, by decide, .inl I.g_NoRows⟩ rfl rfl (fun z o cls d pn hz hf => ?_) (.cons (i := 1) ⟨rfl, by decide, .inl gB⟩ rfl rfl (fun z o cls d pn hz hf => pss_one ps_never) .nil)))))
    (pss_one (ps_ret pe_non)), ?_⟩
  · refine ⟨fun pins s' σ H' D I h' => ?_⟩
    obtain ⟨Ech, hW, h1, h2, h3⟩ := h'
    exact (pss_one (ps_expr (act W pn xe Ech _ _ tk hW))).run pins s' σ H' D I ⟨h1, h2, h3⟩
  · refine ⟨fun pins s' σ H' D J h' => ?_⟩
    obtain ⟨dd, rfl, rfl, h'⟩ := h'
    have is1 : CallR ((cau X g cdg s H).suite z ((z, o) :: pn)) (.builtin "isinstance") (rIsED X.K CR z dd) := call_isED (X := cau X g cdg s H) I.ex hz hf
    refine PSs.run ?_ pins s' σ H' D J h'
    exact pss_one (ps_ret (pe_ifExp (pt_val (pe_callB is1 (by rfl) T.b_isinstance (by decide +kernel) (pa_cons (pv 1) (pa_cons (pe_glob (v := .ref _) rfl I.g_CodeError rfl) pa_nil))))
      (pe_tup (pa_cons pe_str (pa_cons (pe_xf (X := cau X g cdg s H) I.xf I.no hz hf (pv 1)) pa_nil))) pe_non))
  · refine ⟨_, ?_, rfl, hc, h⟩
    rintro cls d σ' H' ⟨rfl, dd, v, rfl, hd, k⟩
    refine ⟨false, I.em1, (fun e => nomatch e), fun _ => ⟨false, I.em2, (fun e => nomatch e), fun _ => ⟨true, I.em3, fun _ z hz hl => ⟨dd, rfl, rfl, ?_⟩, fun e => nomatch e⟩⟩⟩
    obtain ⟨y0, y1, rfl⟩ : ∃ y0 y1, σ' = [y0, y1] := by
      match σ', hl with
      | [y0, y1], _ => exact ⟨y0, y1, rfl⟩
    show trS X.K CR CE z dd _ [y0, some (.ref z)] H'
    unfold trS
    have i1 := I.i1
    simp only [r_seq, r_next, r_brk, r_cont, r_asg, r_name, r_ret, r_retN, r_drop, r_ifs, r_never, r_var, r_c, r_op, r_un, r_if, r_tst, r_b, r_not, r_and, r_or, r_andV, r_orV, r_notV, r_nil, r_cons, r_tup, r_lst, r_cb, r_call, r_bm, r_bm0, r_sl, r_nopart, r_part, r_rev, r_gnil, r_gcons, r_gsub, r_par, r_aug, r_chain, r_I0, r_I, r_U, r_ixd, r_lend, r_tupd, r_listd, r_sld, r_app, r_ext, r_reverse, r_setl, r_cat, r_int1, r_eqS, r_neS, scal_ii, scal_bb, scal_ss, at0, at1, at2, sq_lst, sq_tup, isLst_lst, List.getElem?_cons_zero, List.getElem?_cons_succ, List.set_cons_zero, List.set_cons_succ, V.int.injEq, V.bl.injEq, V.ref.injEq, V.str.injEq, HO.lst.injEq, HO.tup.injEq, Option.some.injEq, exists_eq_left', exists_eq_left, List.cons.injEq, and_true, true_and, decide_eq_true_eq, reduceCtorEq, false_and, exists_false, or_false, false_or, exists_const, and_assoc, exists_and_left, List.append_nil, ix0, ix1, ix2, cm_mod, cdw1009, cdw2003, cdw7, cdw64, cdw2, cm104729, cm2, cm3, upd_same, List.length_cons, List.length_nil, Int.reduceLT, Int.reduceLE, Nat.reduceAdd, Nat.reduceLeDiff, Nat.reduceLT, Int.reduceToNat, r_for1, r_forL, r_forT, r_lcL, r_lc1, r_yes, r_gtupD, wipe_0, wipe_1, List.cons_append, List.nil_append, r_forS, r_ipI, ite_false, ite_true, Bool.not_true, Bool.not_false, decide_true, decide_false, r_isd, r_islt, cD_ty, cD_ref, tD_non, tD_bl, tD_int, tD_str, tD_ref, tH_lst, tH_tup, tH_dK, tH_ins, ki_self, ki_int_bool, ki_non_int, ki_str_int, ki_lt_lst, ki_lt_tup, r_fld, r_sfld, HO.ins.injEq, cx_K, hd, i1, r_isED, r_xf]
    exact ⟨_, rfl, _, rfl, v, rfl, szl (by decide), fun p hp => k p _ hp (Same.new' (Same.refl H') hp) upd_same⟩
end
end C46

set_option maxHeartbeats 2000000
namespace C46
open PySem PySem.Spec PyProof.Rows L2
/-! ### the end of a law, told of the very state in which it is called -/
section
variable {P : Program} {w : World} {K : PySem.W.Frag} {mg mb : Str → Option Value} {fa a : Addr} {cs : List (Addr × Addr)} {s : Shared} {vs : List Value} {ns : List Int}
/-- tracked: the tables of code objects, and the script where nothing written holds it -/
def trk (K : PySem.W.Frag) (T : List Addr) (a : Addr) (vs : List Value) (ns : List Int) : Hp := fun b =>
  if b ∈ T then some (.tbl #[]) else if b = a ∧ K.lookup a = none then some (.frz { cls := .type "list", data := .seq vs.toArray } (.lst (ns.map V.int))) else none
theorem trk_tab {T : List Addr} {b : Addr} (h : b ∈ T) : trk K T a vs ns b = some (.tbl #[]) := if_pos h
theorem trk_cases {T : List Addr} {b : Addr} {u : HO} (h : trk K T a vs ns b = some u) : (b ∈ T ∧ u = .tbl #[]) ∨ (b ∉ T ∧ b = a ∧ K.lookup a = none ∧ u = .frz { cls := .type "list", data := .seq vs.toArray } (.lst (ns.map V.int))) := by
  unfold trk at h
  split at h
  · exact .inl ⟨by assumption, (Option.some.inj h).symm⟩
  · split at h
    · rename_i n q
      exact .inr ⟨n, q.1, q.2, (Option.some.inj h).symm⟩
    · cases h
/-- what the law's run at callerA must do -/
def RunsAt (P : Program) (w : World) (K : PySem.W.Frag) (mg : Str → Option Value) (cs : List (Addr × Addr)) (fa a : Addr) (s : Shared) (ns : List Int) : Prop := ∀ (base : Heap) (H : Hp), K.In base → base.Ns mainGlobals mg → (∀ p ∈ cs, LamX.TabB base mg p.1 p.2) → Env0 P w K mg base callerA [] s H →
  (∀ p ∈ cs, H p.2 = some (.tbl #[])) → SqL K H a (ns.map V.int) → codeAny (model P w) callerA (.call (.ref fa) ⟨[.ref a], []⟩) (CR CX0 [] P w H s (fun v _ => v = .bl true) E0) s
theorem end_run (KX : K.In s.heap) (hns : s.heap.Ns mainGlobals mg) (hb : s.heap.Ns builtinsNs mb) (hbb : ∀ x : Str, x ≠ "__name__" → mb x = bootBuiltins x) (hlim : s.heap.NoLimit) (hg : s.gens = #[])
    (hT : ∀ p ∈ cs, s.heap.get? p.2 = some { cls := .none, data := .fields #[] }) (nT : ∀ p ∈ cs, K.lookup p.2 = none) (C : ∀ p ∈ cs, PySem.W.CodeHd s.heap p.1 p.2)
    (hbm : ∃ (bm : Addr) (ob : Obj), mg "__builtins__" = some (.ref bm) ∧ bm ≠ builtinsNs ∧ s.heap.get? bm = some ob ∧ ob.cls = .type "module" ∧ ob.dict = some builtinsNs ∧ ob.data = .plain)
    (ha : s.heap.get? a = some { cls := .type "list", data := .seq vs.toArray }) (hi : IntsAre vs ns) (hl : ns.length ≤ sizeLine) (R : RunsAt P w K mg cs fa a s ns) :
    codeAny (model P w) callerA (.call (.ref fa) ⟨[.ref a], []⟩) (fun r s' => r = .ok (.ret (.bool true)) ∧ OldK s.heap s'.heap ∧ s'.os = s.os ∧ AllBare s'.gens) s := by
  have lens := hi.length
  obtain ⟨T, eT⟩ : ∃ T, T = cs.map (·.2) := ⟨_, rfl⟩
  have inT : ∀ {b : Addr}, b ∈ T → ∃ p ∈ cs, p.2 = b := fun {b} h => by rw [eT] at h; obtain ⟨p, hp, e⟩ := List.mem_map.mp h; exact ⟨p, hp, e⟩
  have toT : ∀ p ∈ cs, p.2 ∈ T := fun p hp => by rw [eT]; exact List.mem_map_of_mem hp
  have tabO : ∀ {b : Addr}, b ∈ T → s.heap.get? b = some { cls := .none, data := .fields #[] } := fun h => by obtain ⟨p, hp, rfl⟩ := inT h; exact hT p hp
  have aT : a ∉ T := fun h => by
    have := ha.symm.trans (tabO h)
    cases congrArg Obj.data (Option.some.inj this)
  generalize eH : trk K T a vs ns = H
  have cas : ∀ {b u}, H b = some u → (b ∈ T ∧ u = .tbl #[]) ∨ (b ∉ T ∧ b = a ∧ K.lookup a = none ∧ u = .frz { cls := .type "list", data := .seq vs.toArray } (.lst (ns.map V.int))) := fun {b u} h => trk_cases (by rw [eH]; exact h)
  -- what is neither a row of values nor an empty row of fields is hidden from nobody
  have free : ∀ {b : Addr} {o : Obj}, s.heap.get? b = some o → (∀ xs n, o.data ≠ .seq xs n) → o.data ≠ .fields #[] → H b = none := fun {b o} e h1 h2 => by
    cases q : H b with
    | none => rfl
    | some u =>
      rcases cas q with ⟨h, _⟩ | ⟨_, rfl, _⟩
      · cases e.symm.trans (tabO h)
        exact absurd rfl h2
      · cases e.symm.trans ha
        exact absurd rfl (h1 _ _)
  have seen : ∀ {b : Addr} {o : Obj}, s.heap.get? b = some o → (∀ xs n, o.data ≠ .seq xs n) → o.data ≠ .fields #[] → (hidT s.heap H).get? b = some o := fun e h1 h2 => hidT_get e (free e h1 h2)
  have nsS : ∀ {b : Addr} {m : Str → Option Value}, s.heap.Ns b m → (hidT s.heap H).Ns b m := fun ⟨o, es, ep, e, d, r⟩ => ⟨o, es, ep, seen e (by rw [d]; intro _ _ z; cases z) (by rw [d]; intro z; cases z), d, r⟩
  have KB : K.In (hidT s.heap H) := fun b o e => hidT_get (KX b o e) (by
    cases q : H b with
    | none => rfl
    | some u =>
      rcases cas q with ⟨h, _⟩ | ⟨_, rfl, n, _⟩
      · obtain ⟨p, hp, rfl⟩ := inT h
        cases (nT p hp).symm.trans e
      · cases n.symm.trans e)
  have MM : L2.Mod K mg (hidT s.heap H) := ⟨KB, nsS hns, ⟨mb, nsS hb, hbb⟩, by obtain ⟨mc, h1, h2⟩ := hlim; exact ⟨mc, nsS h1, h2⟩⟩
  have OK : HOk P w H s.heap := fun b u q => by
    rcases cas q with ⟨h, rfl⟩ | ⟨_, rfl, _, rfl⟩
    · exact tabO h
    · exact ⟨ha, by rw [List.length_map]; exact hl, vs, _, vals_ints hi, ha⟩
  have SQ : SqL K H a (ns.map V.int) := by
    cases k : K.lookup a with
    | none => exact .inl (.inr ⟨_, by rw [← eH]; unfold trk; rw [if_neg aT, if_pos ⟨rfl, k⟩]⟩)
    | some o =>
      cases (KX a o k).symm.trans ha
      exact .inr ⟨_, vs.toArray, _, k, rfl, rfl, rfl, by rw [List.size_toArray, lens]; exact hl, by simpa using vals_ints hi⟩
  have TB : ∀ p ∈ cs, LamX.TabB (hidT s.heap H) mg p.1 p.2 := fun p hp => by
    refine ⟨?_, ?_, ?_⟩
    · obtain ⟨o, us, file, tf, flags, tg, inF, text, tt, e1, r1, r2, r3, r⟩ := C p hp
      exact ⟨o, us, file, tf, flags, tg, inF, text, tt, seen e1 (by rw [r2]; intro _ _ z; cases z) (by rw [r2]; intro z; cases z; simp at r3), r1, r2, r3, r⟩
    · obtain ⟨bm, ob, b1, b2, b3, b4, b5, b6⟩ := hbm
      refine ⟨bm, ob, b1, b2, ?_, ?_, seen b3 (by rw [b6]; intro _ _ z; cases z) (by rw [b6]; intro z; cases z), b4, b5, b6⟩
      · rintro rfl
        obtain ⟨o, es, ep, e, d, _⟩ := hns
        cases e.symm.trans b3
        cases d.symm.trans b6
      · rintro rfl
        cases (hT p hp).symm.trans b3
        cases b6
    · intro z
      obtain ⟨o, es, ep, e, d, _⟩ := hns
      rw [z] at e
      cases (hT p hp).symm.trans e
      cases d
  have E0' : Env0 P w K mg (hidT s.heap H) callerA [] s H := ⟨rfl, MM, fun b o e => of_hidT e, Nat.le_of_eq (hidT_size _ _), trivial, (fun b hb => by cases hb), OK, .of_eq hg⟩
  refine codeAny_mono (R _ H KB (nsS hns) TB E0' (fun p hp => by rw [← eH]; exact trk_tab (toT p hp)) SQ) fun r s' h => ?_
  cases r with
  | error e => exact False.elim h
  | ok fl =>
    cases fl with
    | ret u =>
      obtain ⟨v, H', os, bare, un, ok', rv, rfl⟩ := h
      obtain rfl : u = Value.bool true := rv
      have stay : ∀ {b : Addr} {o : Obj}, b ∉ T → s.heap.get? b = some o → s'.heap.get? b = some o := fun {b o} n e => by
        cases q : H b with
        | none => exact un.keep b o e q (by intro z; cases z) (by simp)
        | some u =>
          rcases cas q with ⟨h, _⟩ | ⟨_, rfl, _, rfl⟩
          · exact absurd h n
          · cases e.symm.trans ha
            exact (ok' _ _ (un.frzs _ _ _ q)).1
      have more : ∀ {b : Addr}, b ∈ T → ∃ xs : Array Value, s'.heap.get? b = some { cls := .none, data := .fields xs } := fun {b} h => by
        obtain ⟨xs, z⟩ := un.tbls b #[] (by rw [← eH]; exact trk_tab h)
        exact ⟨_, ok' b _ z⟩
      refine ⟨rfl, ⟨fun b o e => ?_, fun b o e => ?_⟩, os, bare⟩
      · rcases Classical.em (b ∈ T) with h | h
        · obtain ⟨xs, hx⟩ := more h
          cases (tabO h).symm.trans e
          obtain ⟨p, hp, rfl⟩ := inT h
          exact .inr (.inl ⟨((C p hp).tab (hT p hp)).isCodeTable, rfl, #[], xs, rfl, hx.trans (by rw [Array.empty_append])⟩)
        · exact .inl (stay h e)
      · rcases Classical.em (b ∈ T) with h | h
        · obtain ⟨xs, hx⟩ := more h
          exact ⟨_, hx⟩
        · exact ⟨o, stay h e⟩
    | _ => exact False.elim h
/-- the law's walk, from its run -/
theorem walk_run {l : PySem.W.OpenLaw} {n : Nat} {q : Program} {loose : List Str} {XP : (Str → Option Value) → Heap → Prop} {YP : World → Heap → Prop} {d : DefRec} (hn : l.most = some n) (hn2 : n ≤ sizeLine) (hdf : d.params.defaults = [])
    (F : ∀ (w : World) (mg : Str → Option Value) (fa : Addr) (h : Heap), YP w h → h.Ns mainGlobals mg → mg d.name = some (.ref fa) → ∃ (K : PySem.W.Frag) (cs : List (Addr × Addr)), K.In h ∧ (∀ p ∈ cs, h.get? p.2 = some { cls := .none, data := .fields #[] }) ∧
      (∀ p ∈ cs, K.lookup p.2 = none) ∧ (∀ p ∈ cs, PySem.W.CodeHd h p.1 p.2) ∧ ∀ (s : Shared) (a : Addr) (ns : List Int), ns.length ≤ n → (∀ z ∈ ns, Builtin.Int.intBits z ≤ 1048576) → RunsAt l.prog w K mg cs fa a s ns) :
    PySem.W.WalkO q loose XP YP l.row.toRowW d [] (fun f vs => PySem.call f vs) := by
  refine Att.attach_callB hn hdf fun w s0 s1 mg mb fa o pm cd doc a vs ns G Y ho hd hcd hmg hobj hints hlen hbits hg => ?_
  obtain ⟨K, cs, kx, hT, nT, C, R⟩ := F w mg fa _ Y G.T.g hmg
  exact end_run kx G.T.g G.T.b G.T.builtins G.T.nolimit hg hT nT C G.T.bmain hobj hints (Nat.le_trans hlen hn2) (R s1 a ns hlen hbits)
end

section
variable {X : Cx}
/-! ### the script + a written list -/
def rCatS (K : PySem.W.Frag) : R2 := fun x y H Q => ∃ l b xs zs, x = .ref l ∧ y = .ref b ∧ SqL K H l xs ∧ H b = some (.lst zs) ∧ xs.length + zs.length ≤ sizeLine ∧ ∀ p, H p = none → Q (.ref p) (L2.upd H p (.lst (xs ++ zs)))
theorem op_catS : OpR X (binaryOp .Add) (rCatS X.K) := by
  rintro pins s σ H x y v u Q I rx ry ⟨l, b, xs, zs, rfl, rfl, hs, hb, hz, q⟩
  cases rx
  cases ry
  obtain ⟨i1, r1, ⟨⟨c1, d1, t1, sl1⟩, n1, e1, k1, _, k2⟩, _⟩ := I.list hs
  obtain ⟨_, i2, n2, r2, l2, e2⟩ := I.lstM hb
  dsimp only at k1 k2
  subst k1 k2
  have l1 := r1.length
  refine concat_meets ⟨_, e1, rfl⟩ ⟨_, e2, rfl⟩ noFill_list_add seq_list_add PySem.F.slot_list_add PySem.F.entry_list_add (PySem.F.args_list_add_2 _ _) (list_addW l b i1.toArray i2.toArray n1 n2 d1 none sl1 #[] (by rw [List.size_toArray, List.size_toArray]; omega)) ⟨e1, e2, ?_⟩
  rw [show i1.toArray ++ i2.toArray = (i1 ++ i2).toArray from by simp]
  exact ⟨.ref _, _, I.lnew (t' := s.toks) (r1.append r2) (by rw [List.length_append]; omega), rfl, q _ I.fresh⟩
/-! ### repr of data -/
def rReprD (K : PySem.W.Frag) : List V → Hp → VK → Prop := fun vs H Q => ∃ (a : Addr) (d : PyData), vs = [.ref a] ∧ Dp K H (.ref a) d ∧ d.showable = true ∧ d.hasDict = false ∧ d.depth ≤ 10 ∧ d.shown.length ≤ sizeLine ∧ Q (.str d.shown) H
theorem call_repr_D (hg : X.A.guards = some []) (hu : X.A.units + 20 < cLine) : CallR X (.builtin "repr") (rReprD X.K) := by
  rintro pins s σ H xs us Q I r ⟨a, d, rfl, hd, h1, h2, h3, h4, q⟩
  obtain ⟨v, rfl, rv⟩ := vals1 r
  obtain ⟨as, rd⟩ := Dp.reads I d _ v hd rv
  obtain rfl : v = Value.ref a := rv
  exact repr_of_reads' rd h1 (fun z => by rw [h2] at z; cases z) hg (by omega) (fun _ _ e => e) (fun h' u tk k => ⟨.str d.shown, H, I.kept (t' := tk) k, ⟨_, rfl⟩, q⟩) h4
/-! ### a call by one keyword; a def that may raise -/
structure CalX (P : Program) (w : World) (K : PySem.W.Frag) (mg : Str → Option Value) (base : Heap) (k : Nat) (x y : Str) (sp : Sp) : Prop where
  ex : ∃ f fd, FnOk P w K mg base (L2.CX P w) k f fd [y] sp ∧ mg x = some (.ref f) ∧ PySem.W.keepIn K (.ref f) = true ∧ Binds K fd [y] [] ∧ KBn K fd [y] 0 [y] (fun _ ws => ws) (fun _ zs => zs)
theorem pe_calX {W : WX} {E : XK} {k : Nat} {x y : Str} {sp : Sp} {e : Expr} {t : TA} {p pos : Pos} (C : CalX X.prog X.w X.K X.mg X.base k x y sp) (hr : Room k X.A) (hg : Gl X x) (tk : Takes X W) (hW : ∀ cls d σ H, E cls d H → W cls d σ H) (ha : PA X [e] t)
    (hdb : (x == ("__debug__" : Str)) = false := by decide) (he : starEach [e] X.env = (false, eval e X.env) :: starEach [] X.env := by rfl) (hpl : (backTo pos (starEach [] X.env)).any (·.1) = false := by rfl) :
    PE X (.Call (.Name x p) [e] [] pos) (tCall sp [] E t) := by
  obtain ⟨f, fd, F, m, kp, b, _⟩ := C.ex
  exact pe_call F hr hg m kp b .nil (passes_call tk hW) ha hdb he hpl
def QK1 (sp : Sp) (Q : VK) (E : XK) : List V → Hp → Prop := fun zs H1 => match zs with
  | [v] => sp [v] H1 Q E
  | _ => False
theorem qk1 {sp : Sp} {Q : VK} {E : XK} {zs : List V} {H : Hp} (h : QK1 sp Q E zs H) : ∃ v, zs = [v] ∧ sp [v] H Q E := by
  match zs, h with
  | [v], h => exact ⟨v, rfl, h⟩
def tCallK1 (sp : Sp) (E : XK) (te : TE) : TE := fun σ H Q => te σ H fun v H1 => sp [v] H1 Q E
theorem pe_calXK {W : WX} {E : XK} {k : Nat} {x y : Str} {sp : Sp} {e : Expr} {te : TE} {p pos kpos : Pos} (C : CalX X.prog X.w X.K X.mg X.base k x y sp) (hr : Room k X.A) (hg : Gl X x) (tk : Takes X W) (hW : ∀ cls d σ H, E cls d H → W cls d σ H) (ha : PE X e te)
    (hall : (backToKw pos (keywordEach [⟨some y, e, kpos⟩] X.env)).all (·.1.isSome) = true := by rfl) (hks : (backToKw pos (keywordEach [⟨some y, e, kpos⟩] X.env)).filterMap (·.1) = [y] := by rfl) (hdb : (x == ("__debug__" : Str)) = false := by decide)
    (hpl : ((backTo pos (starEach [] X.env)).any (·.1) || (backToKw pos (keywordEach [⟨some y, e, kpos⟩] X.env)).any (·.1.isNone)) = false := by rfl) :
    PE X (.Call (.Name x p) [] [⟨some y, e, kpos⟩] pos) (tCallK1 sp E te) := by
  obtain ⟨f, fd, F, m, kp, _, b⟩ := C.ex
  refine ⟨fun pins s σ H Q I h => wpAny_Call_Name_kw (ld_glob I hg m (PySem.W.callWith_KW0 (h₀ := X.base) I.ok.mod.kin kp hall ?_ hpl) hdb)⟩
  refine thn ((pk_cons (nm := some y) (kpos := kpos) ha pk_nil).run pos pins s σ H (QK1 sp Q E) I h) fun ws s2 ⟨zs, H2, I2, rz, q⟩ => ⟨I2.kIn, ?_⟩
  obtain ⟨v, rfl, q⟩ := qk1 q
  rw [hks]
  exact run_fnN (us := []) (vs := []) (n := 0) F hr b (passes_call tk hW) I2 .nil rz rfl rfl q
structure CalK (P : Program) (w : World) (K : PySem.W.Frag) (mg : Str → Option Value) (base : Heap) (k : Nat) (x y : Str) (sp : Sp) : Prop where
  ex : ∃ f fd, FnOk P w K mg base CX0 k f fd [y] sp ∧ mg x = some (.ref f) ∧ PySem.W.keepIn K (.ref f) = true ∧ Binds K fd [y] [] ∧ KBn K fd [y] 0 [y] (fun _ ws => ws) (fun _ zs => zs)
theorem CalK.cal {P : Program} {w : World} {K : PySem.W.Frag} {mg : Str → Option Value} {base : Heap} {k : Nat} {x y : Str} {sp : Sp} (C : CalK P w K mg base k x y sp) : Cal P w K mg base k x [y] sp := by
  obtain ⟨f, fd, F, m, kp, b, _⟩ := C.ex
  exact ⟨⟨f, fd, F, m, kp, b⟩⟩
theorem pe_calK {k : Nat} {x y : Str} {sp : Sp} {e : Expr} {te : TE} {p pos kpos : Pos} (C : CalK X.prog X.w X.K X.mg X.base k x y sp) (hr : Room k X.A) (hg : Gl X x) (ha : PE X e te)
    (hall : (backToKw pos (keywordEach [⟨some y, e, kpos⟩] X.env)).all (·.1.isSome) = true := by rfl) (hks : (backToKw pos (keywordEach [⟨some y, e, kpos⟩] X.env)).filterMap (·.1) = [y] := by rfl) (hdb : (x == ("__debug__" : Str)) = false := by decide)
    (hpl : ((backTo pos (starEach [] X.env)).any (·.1) || (backToKw pos (keywordEach [⟨some y, e, kpos⟩] X.env)).any (·.1.isNone)) = false := by rfl) :
    PE X (.Call (.Name x p) [] [⟨some y, e, kpos⟩] pos) (tCallK1 sp E0 te) := by
  obtain ⟨f, fd, F, m, kp, _, b⟩ := C.ex
  refine ⟨fun pins s σ H Q I h => wpAny_Call_Name_kw (ld_glob I hg m (PySem.W.callWith_KW0 (h₀ := X.base) I.ok.mod.kin kp hall ?_ hpl) hdb)⟩
  refine thn ((pk_cons (nm := some y) (kpos := kpos) ha pk_nil).run pos pins s σ H (QK1 sp Q E0) I h) fun ws s2 ⟨zs, H2, I2, rz, q⟩ => ⟨I2.kIn, ?_⟩
  obtain ⟨v, rfl, q⟩ := qk1 q
  rw [hks]
  exact run_fnN (us := []) (vs := []) (n := 0) F hr b pass0 I2 .nil rz rfl rfl q
end
/-- one parameter, given by its name -/
theorem kw1 {K : PySem.W.Frag} {x qual : Str} {params : Arguments} {body : List Stmt} {scope : Scope} {f : Addr} {fd : FuncData} {p : Str} (F : FunD K x qual params body scope [] [] f fd)
    (h : ∀ (kV doc pm : Value) (an : Option Addr) (cdv ct w : Value), bindArgs (PySem.W.fnOf x qual params body scope .none kV doc pm an cdv ct) ⟨[], [(p, w)]⟩ = pure [(p, w)]) : KBn K fd [p] 0 [p] (fun _ ws => ws) (fun _ zs => zs) := by
  obtain ⟨oc, od, dV, kV, doc, pm, an, cdv, ct, osl, rfl, lk, hcd, hD, hK⟩ := F.ex
  rcases hD with ⟨_, rfl⟩ | ⟨e, _⟩
  · refine ⟨fun s us ws _ l1 l2 => ?_, fun _ r => r⟩
    match us, l1, ws, l2 with
    | [], _, [w], _ => exact .of_eq (h kV doc pm an cdv ct w)
  · exact absurd rfl e

theorem pe_cal0 {X : Cx} {k : Nat} {x : Str} {sp : Sp} {p pos : Pos} (C : Cal X.prog X.w X.K X.mg X.base k x [] sp) (hr : Room k X.A) (hg : Gl X x) (hdb : (x == ("__debug__" : Str)) = false := by decide) : PE X (.Call (.Name x p) [] [] pos) (tCall sp [] E0 tNil) := by
  obtain ⟨f, fd, F, m, kp, b⟩ := C.ex
  exact pe_call0 F hr hg m kp b .nil pass0 hdb
abbrev Nlaw : List Str := ["_law_script", "_law_table_here", "_law_cell", "_law_source", "_law_given", "_law_due", "_law_word", "_law_number", "_law_got", "_law_at", "_law_turn", "_law_bad", "_law_odd_here", "_law_k"]
abbrev slaw : Stmt := top 45
theorem sclaw : FnScope ["_law_script", "_law_table_here", "_law_cell", "_law_source", "_law_given", "_law_due", "_law_word", "_law_number", "_law_got", "_law_at", "_law_turn", "_law_bad", "_law_odd_here", "_law_k"] ["_law_script"] (defScope slaw) := ⟨rfl, rfl, rfl, by decide +kernel, rfl, by decide +kernel, by decide +kernel⟩

/-- what the law calls, and its own function object -/
structure LawT (P : Program) (w : World) (K : PySem.W.Frag) (mg : Str → Option Value) (base : Heap) (CR CE CN CT CB gC : Addr) (cdC : Value) : Prop where
  T : Txt mg
  N : NoRowsT K mg CR CE CN CT
  gB : mg "NoBytes" = some (.ref CB)
  C_source_of : Cal P w K mg base 1 "_law_source_of" ["_law_cell"] spSrc
  C_next : Cal P w K mg base 1 "_law_next" ["_law_source", "_law_many"] spNext
  C_table : Cal P w K mg base 1 "_law_table" [] spTable
  C_packed : Cal P w K mg base 1 "_law_packed" ["_law_table_here", "_law_word", "_law_number"] spPacked
  C_row : Cal P w K mg base 4 "_law_row" ["_law_source", "_law_table_here"] spRow
  C_odd : Cal P w K mg base 3 "_law_odd" ["_law_source"] spOdd
  CX_bytes_of : CalX P w K mg base 3 "bytes_of" "rows" (spBytesOf CR)
  g_caught : mg "_law_caught" = some (.ref gC)
  k_caught : PySem.W.keepIn K (.ref gC) = true
  c_caught : PySem.W.codeIn K cdC "_law_caught" = true
  f_caught : ∃ (oc : Value) (od : Option Addr) (dV kV doc pm ct : Value) (an : Option Addr) (osl : Array (Option Value)), K.lookup gC = some ⟨oc, od, .func (PySem.W.fnOf "_law_caught" "_law_caught" (defArgs scaught) (defBody scaught) (defScope scaught) dV kV doc pm an cdC ct), osl⟩ ∧
    Binds K (PySem.W.fnOf "_law_caught" "_law_caught" (defArgs scaught) (defBody scaught) (defScope scaught) dV kV doc pm an cdC ct) ["_law_ask"] []
section
variable {P : Program} {w : World} {K : PySem.W.Frag} {mg : Str → Option Value} {base : Heap}
abbrev Xlaw (P : Program) (w : World) (K : PySem.W.Frag) (mg : Str → Option Value) (base : Heap) (fa co : Addr) (s : Shared) (H : Hp) : Cx := cxOf CX0 P w K mg base Nlaw "law" (defScope slaw) fa (.ref co) callerA [] s H E0
/-- the law's lambdas, handed to the def that catches -/
def tLamL (CR Pt : Addr) (q : Str) (i : Nat) : TE := LamX.tLam [(Pt, q)] (TTCaught CR) (fun E => tCall (spBytesOf CR) [] E (tCons (tVar i) tNil))
def t_given : TS := tPar 4 5 (tCons (tLc (iRng1 (tCons (tCall spNext [] E0 (tCons (tVar 3) (tCons (tC (V.int 41)) tNil))) tNil)) (gName 13) tYes (tCall spRow [] E0 (tCons (tVar 3) (tCons (tVar 1) tNil))) [13]) (tCons (tLst tNil) tNil))
def t_due (K : PySem.W.Frag) : TS := tFor (iList K (tVar 4)) (gTupD 2 (gCons (gName 6) (gCons (gName 7) gNil))) (tDrop (tBM K "list" rExtend (tVar 5) (tCons (tCall spPacked [] E0 (tCons (tVar 1) (tCons (tVar 6) (tCons
  (tIf (tTest (tOp (fun x y H Q => y = V.non ∧ Q (V.bl (decide (x = V.non))) H) (tVar 7) (tC V.non))) (tC (V.int 0)) (tVar 7)) tNil)))) tNil)))
def t_gots (K : PySem.W.Frag) (CR : Addr) : TS := tFor (iTup K (tTup (tCons (tCall (spBytesOf CR) [] E0 (tCons (tVar 4) tNil)) (tCons (tCall (spBytesOf CR) [] E0 (tCons (tCB rTupd (tCons (tVar 4) tNil)) tNil)) (tCons (tCallK1 (spBytesOf CR) E0 (tVar 4)) tNil))))) (gName 8)
  (tIfS (tTest (tOp (rNeD K) (tVar 8) (tCB rTupd (tCons (tVar 5) tNil)))) (tRet (tC (V.bl false))) tNext)
def t_at : TS := tAsg (tCall spNext [] E0 (tCons (tVar 3) (tCons (tOp (rI0 fun i j => .int (i + j)) (tCB rLend (tCons (tVar 4) tNil)) (tC (V.int 1))) tNil))) (gName 9)
def t_turn (K : PySem.W.Frag) (CR Pt : Addr) (q : Str) : TS := tSeq (tAsg (tOp rCat (tOp rCat (tOp rCat (tSl rSld (tVar 4) tNoPart (tPart (tVar 9))) (tLst (tCons (tCall spOdd [] E0 (tCons (tVar 3) tNil)) tNil))) (tSl rSld (tVar 4) (tPart (tVar 9)) tNoPart)) (tOp rRep (tLst (tCons (tC V.non) tNil)) (tVar 10))) (gName 11))
  (tIfS (tTest (tOp (rNeD K) (tLamL CR Pt q 11) (tTup (tCons (tC (V.str "rows")) (tCons (tVar 9) tNil))))) (tRet (tC (V.bl false))) tNext)
def t_odd (K : PySem.W.Frag) (CR Pt : Addr) (q : Str) : TS := tIfS (tTest (tOp (rNeD K) (tLamL CR Pt q 12) (tTup (tCons (tC (V.str "rows")) (tCons (tOp (rI0 fun i j => .int (i - j)) (tC (V.int 0)) (tC (V.int 1))) tNil))))) (tRet (tC (V.bl false))) tNext
def t_odds (K : PySem.W.Frag) (CR Pt : Addr) (q : Str) : TS := tFor (iTup K (tTup (tCons (tC V.non) (tCons (tC (V.int 5)) (tCons (tC (V.str "ab")) (tCons tDNewK (tCons (tC (V.bl true)) tNil))))))) (gName 12) (t_odd K CR Pt q)
def t_cell (K : PySem.W.Frag) (CR Pt : Addr) (q : Str) : TS := tSeq (tAsg (tCall spSrc [] E0 (tCons (tVar 2) tNil)) (gName 3)) (tSeq t_given (tSeq (t_due K) (tSeq (t_gots K CR) (tSeq t_at (tSeq (tFor (iRng1 (tCons (tC (V.int 3)) tNil)) (gName 10) (t_turn K CR Pt q)) (t_odds K CR Pt q))))))
def t_law (K : PySem.W.Frag) (CR Pt : Addr) (q : Str) : TS := tSeq (tAsg (tCall spTable [] E0 tNil) (gName 1)) (tSeq (tFor (iList K (tSl rSld (tOp (rCatS K) (tVar 0) (tLst (tCons (tC (V.int 0)) tNil))) tNoPart (tPart (tC (V.int 5))))) (gName 2) (t_cell K CR Pt q)) (tRet (tC (V.bl true))))
/-- the reading of the law -/
theorem law_reads {CR CE CN CT CB gC fa co Pt : Addr} {cdC : Value} {s : Shared} {H : Hp} (L : LawT P w K mg base CR CE CN CT CB gC cdC) (TB : LamX.TabB base mg co Pt) (hr : Room 5 (Xlaw P w K mg base fa co s H).nox.A) (hgd : (Xlaw P w K mg base fa co s H).nox.A.guards = some []) :
    PSs (Xlaw P w K mg base fa co s H).nox (defBody slaw) (t_law (Xlaw P w K mg base fa co s H).nox.K CR Pt ((Xlaw P w K mg base fa co s H).nox.env.qual ++ "<lambda>")) := by
  have hu64 : (Xlaw P w K mg base fa co s H).nox.A.units + 64 < cLine := by have := hr.un; omega
  have T := L.T
  have C_source_of := L.C_source_of
  have C_next := L.C_next
  have C_packed := L.C_packed
  have C_row := L.C_row
  have C_odd := L.C_odd
  obtain ⟨oc, od, dV, kV, doc, pm, ct, an, osl, lkC, bC⟩ := L.f_caught
  unfold t_law t_cell t_given t_due t_gots t_at t_turn t_odds t_odd tLamL
  exact (pss_cons (ps_set (i := 1) sclaw.nd rfl (Or.inr rfl) (pe_cal0 L.C_table (hr.mono (by decide)) rfl))
  (pss_cons (ps_for PassesOwn.never rfl (pi_list (pe_slice sl_d (pe_op op_catS (pv 0) (pe_lst (pa_cons pe_int pa_nil))) po_none (po_some pe_int))) (pg_name (i := 2) sclaw.nd rfl (Or.inl rfl))
    (pss_cons (ps_set (i := 3) sclaw.nd rfl (Or.inr rfl) (pe_cal C_source_of (hr.mono (by decide)) rfl (pa_cons (pv 2) pa_nil)))
  (pss_cons (ps_par (i := 4) (j := 5) (by rfl) sclaw.nd rfl rfl (by decide) rfl rfl (pa_cons (pe_lc (own := [("_law_k", 13)]) (g := gName 13) (tt := tYes) rfl sclaw.nd (pi_range1 rfl T.b_range (pa_cons (pe_cal C_next (hr.mono (by decide)) rfl (pa_cons (pv 3) (pa_cons pe_int pa_nil))) pa_nil)) (blkOk_by (own := [("_law_k", 13)]) (N := ["_law_script", "_law_table_here", "_law_cell", "_law_source", "_law_given", "_law_due", "_law_word", "_law_number", "_law_got", "_law_at", "_law_turn", "_law_bad", "_law_odd_here", "_law_k"]) (sc := defScope slaw) (by decide +kernel)) (fun _ _ _ _ _ => (pg_name (i := 13) sclaw.nd rfl (Or.inl rfl))) (fun _ _ _ _ _ => pts_nil) (fun _ _ _ _ _ => (pe_cal C_row (hr.mono (by decide)) rfl (pa_cons (pv 3) (pa_cons (pv 1) pa_nil))))) (pa_cons (pe_lst pa_nil) pa_nil)) (by rfl))
  (pss_cons (ps_for PassesOwn.never rfl (pi_list (pv 4)) (pg_tupD (n := 2) rfl (pgs_cons (pg_name (i := 6) sclaw.nd rfl (Or.inl rfl)) (pgs_cons (pg_name (i := 7) sclaw.nd rfl (Or.inl rfl)) pgs_nil)))
    (pss_one (ps_expr (pe_bm PySem.F.plainAttrs_list PySem.F.slot_list_extend PySem.F.type_list_extend mt_extend (pv 5) (pa_cons (pe_cal C_packed (hr.mono (by decide)) rfl (pa_cons (pv 1) (pa_cons (pv 6) (pa_cons (pe_ifExp (pt_cmpR op_isN (pv 7) pe_non (nomark _)) pe_int (pv 7)) pa_nil)))) pa_nil)))))
  (pss_cons (ps_for PassesOwn.never rfl (pi_tup (pe_tup (pa_cons (pe_calX L.CX_bytes_of (hr.mono (by decide)) rfl LamX.takes0 (fun _ _ _ _ z => z) (pa_cons (pv 4) pa_nil)) (pa_cons (pe_calX L.CX_bytes_of (hr.mono (by decide)) rfl LamX.takes0 (fun _ _ _ _ z => z) (pa_cons (pe_callTy call_tuple_d (by rfl) T.b_tuple (by decide +kernel) (pa_cons (pv 4) pa_nil)) pa_nil)) (pa_cons (pe_calXK L.CX_bytes_of (hr.mono (by decide)) rfl LamX.takes0 (fun _ _ _ _ z => z) (pv 4)) pa_nil))))) (pg_name (i := 8) sclaw.nd rfl (Or.inl rfl))
    (pss_one (ps_if (pt_cmpR (op_neD hu64) (pv 8) (pe_callTy call_tuple_d (by rfl) T.b_tuple (by decide +kernel) (pa_cons (pv 5) pa_nil)) (nomark _))
    (pss_one (ps_ret pe_bl))
    pss_nil)))
  (pss_cons (ps_set (i := 9) sclaw.nd rfl (Or.inl rfl) (pe_cal C_next (hr.mono (by decide)) rfl (pa_cons (pv 3) (pa_cons (pe_op op_add (pe_callB call_len_d (by rfl) T.b_len (by decide +kernel) (pa_cons (pv 4) pa_nil)) pe_int) pa_nil))))
  (pss_cons (ps_for PassesOwn.never rfl (pi_range1 rfl T.b_range (pa_cons pe_int pa_nil)) (pg_name (i := 10) sclaw.nd rfl (Or.inl rfl))
    (pss_cons (ps_set (i := 11) sclaw.nd rfl (Or.inr rfl) (pe_op op_cat (pe_op op_cat (pe_op op_cat (pe_slice sl_d (pv 4) po_none (po_some (pv 9))) (pe_lst (pa_cons (pe_cal C_odd (hr.mono (by decide)) rfl (pa_cons (pv 3) pa_nil)) pa_nil))) (pe_slice sl_d (pv 4) (po_some (pv 9)) po_none)) (pe_op op_rep (pe_lst (pa_cons pe_non pa_nil)) (pv 10))))
  (pss_one (ps_if (pt_cmpR (op_neD hu64) (LamX.pe_lamcall (k := 3) (T := [(Pt, (Xlaw P w K mg base fa co s H).nox.env.qual ++ "<lambda>")]) (t := fun E => tCall (spBytesOf CR) [] E (tCons (tVar 11) tNil)) rfl L.g_caught L.k_caught lkC L.c_caught bC sccaught rfl (Or.inl rfl) (caught_gives (X := (Xlaw P w K mg base fa co s H).nox) L.T L.N L.gB) TB rfl (List.mem_singleton.mpr rfl) (fun p hp _ => by rw [List.mem_singleton.mp hp]) (hr.mono (by decide)) (show LamX.LamS (defScope slaw) _ from LamX.lamS_by (by decide +kernel)) rfl (fun _ _ _ _ _ => rfl) (fun A outer s H E f c' hr2 => pe_calX L.CX_bytes_of hr2 rfl (takes_of rfl rfl rfl rfl) (fun _ _ _ _ z => z) (pa_cons (pv 11) pa_nil))) (pe_tup (pa_cons pe_str (pa_cons (pv 9) pa_nil))) (nomark _))
    (pss_one (ps_ret pe_bl))
    pss_nil))))
  (pss_one (ps_for PassesOwn.never rfl (pi_tup (pe_tup (pa_cons pe_non (pa_cons pe_int (pa_cons pe_str (pa_cons pe_dnewK (pa_cons pe_bl pa_nil))))))) (pg_name (i := 12) sclaw.nd rfl (Or.inr rfl))
    (pss_one (ps_if (pt_cmpR (op_neD hu64) (LamX.pe_lamcall (k := 3) (T := [(Pt, (Xlaw P w K mg base fa co s H).nox.env.qual ++ "<lambda>")]) (t := fun E => tCall (spBytesOf CR) [] E (tCons (tVar 12) tNil)) rfl L.g_caught L.k_caught lkC L.c_caught bC sccaught rfl (Or.inl rfl) (caught_gives (X := (Xlaw P w K mg base fa co s H).nox) L.T L.N L.gB) TB rfl (List.mem_singleton.mpr rfl) (fun p hp _ => by rw [List.mem_singleton.mp hp]) (hr.mono (by decide)) (show LamX.LamS (defScope slaw) _ from LamX.lamS_by (by decide +kernel)) rfl (fun _ _ _ _ _ => rfl) (fun A outer s H E f c' hr2 => pe_calX L.CX_bytes_of hr2 rfl (takes_of rfl rfl rfl rfl) (fun _ _ _ _ z => z) (pa_cons (pv 12) pa_nil))) (pe_tup (pa_cons pe_str (pa_cons (pe_op op_sub pe_int pe_int) pa_nil))) (nomark _))
    (pss_one (ps_ret pe_bl))
    pss_nil)))))))))))
  (pss_one (ps_ret pe_bl))))
end
end C46

set_option maxHeartbeats 2000000
namespace C46
open PySem PySem.Spec PyProof.Rows L2
theorem r_callK1 {sp : Sp} {E : XK} {te : TE} {σ : L2.St} {H : Hp} {Q : VK} : tCallK1 sp E te σ H Q = te σ H (fun v H1 => sp [v] H1 Q E) := rfl
/-! ### the heap and the tables -/
theorem ExtN.same {H H' : Hp} (s : Same H H') : LamX.ExtN H H' := fun b o e _ => s b o e
theorem tabs_keep {T : List (Addr × Str)} {a : Addr} {H H' : Hp} (t : LamX.Tabs T H) (k : Keep a H H') (ha : ∃ xs, H a = some (.lst xs)) : LamX.Tabs T H' := by
  obtain ⟨xs, ha⟩ := ha
  intro p hp
  obtain ⟨ps, h1, h2, h3⟩ := t p hp
  have n1 : p.1 ≠ a := fun z => by rw [z, ha] at h1; cases h1
  refine ⟨ps, k _ _ n1 h1, h2, fun pos cv hc => ?_⟩
  obtain ⟨c, e1, e2⟩ := h3 pos cv hc
  have n2 : c ≠ a := fun z => by rw [z, ha] at e2; cases e2
  exact ⟨c, e1, k _ _ n2 e2⟩
theorem tabs_same {T : List (Addr × Str)} {H H' : Hp} (t : LamX.Tabs T H) (k : Same H H') : LamX.Tabs T H' := t.ext fun b o e => k b o e
theorem ExtN.keep {a : Addr} {H H' : Hp} (k : Keep a H H') (ha : H a = none) : LamX.ExtN H H' := fun b o e _ => k b o (fun z => by rw [z, ha] at e; cases e) e
/-! ### data -/
def riD (i : Int) : PyData := .tuple [.str "rows", .int i]
theorem ri_shaped (i : Int) : SeqAt.shaped (riD i) = true := by
  have e : PyData.strOk ("rows" : Str) = true := by decide +kernel
  unfold SeqAt.shaped riD
  simp only [PyData.canLay0, PyData.canLayAll0, PyData.depth, PyData.depthAll, e]
  rfl
theorem ri_lay (i : Int) : PyData.canLay0 (riD i) = true := by
  have e : PyData.strOk ("rows" : Str) = true := by decide +kernel
  unfold riD
  simp only [PyData.canLay0, PyData.canLayAll0, e]
  rfl
theorem ne_ri {K : PySem.W.Frag} {H : Hp} {p q : Addr} {i : Int} {Q : VK} (hp : H p = some (.tup [.str "rows", .int i])) (hq : H q = some (.tup [.str "rows", .int i])) (k : Q (.bl false) H) : rNeD K (.ref p) (.ref q) H Q :=
  ⟨riD i, riD i, .tup (SqT.of hp) (.cons (.str _) (.cons (.int _) .nil)), .tup (SqT.of hq) (.cons (.str _) (.cons (.int _) .nil)), ri_shaped i, ri_shaped i, by rw [SeqAt.eqv_refl _ (ri_lay i)]; exact k⟩
def nsD (ns : List Nat) : List PyData := ns.map fun n : Nat => .int (n : Int)
theorem dp_ns {K : PySem.W.Frag} {H : Hp} : ∀ ns : List Nat, DpAll K H (vn ns) (nsD ns)
  | [] => .nil
  | n :: r => .cons (.int _) (dp_ns r)
theorem lay_ns : ∀ ns : List Nat, PyData.canLayAll0 (nsD ns) = true
  | [] => by simp [nsD, PyData.canLayAll0]
  | n :: r => by
    show PyData.canLayAll0 (.int (n : Int) :: nsD r) = true
    simp only [PyData.canLayAll0, PyData.canLay0, lay_ns r]
    rfl
theorem dep_ns : ∀ ns : List Nat, PyData.depthAll (nsD ns) = 0
  | [] => by simp [nsD, PyData.depthAll]
  | n :: r => by
    show PyData.depthAll (.int (n : Int) :: nsD r) = 0
    simp only [PyData.depthAll, PyData.depth, dep_ns r]
    rfl
theorem shaped_ns (ns : List Nat) : SeqAt.shaped (.tuple (nsD ns)) = true := by
  unfold SeqAt.shaped
  simp only [PyData.canLay0, lay_ns, PyData.depth, dep_ns]
  decide
theorem eqv_ns (ns : List Nat) : PyData.eqv (.tuple (nsD ns)) (.tuple (nsD ns)) = true := SeqAt.eqv_refl _ (by simp only [PyData.canLay0, lay_ns])
theorem ne_ns {K : PySem.W.Frag} {H : Hp} {p q : Addr} {ns : List Nat} {Q : VK} (hp : H p = some (.tup (vn ns))) (hq : H q = some (.tup (vn ns))) (k : Q (.bl false) H) : rNeD K (.ref p) (.ref q) H Q :=
  ⟨_, _, .tup (SqT.of hp) (dp_ns ns), .tup (SqT.of hq) (dp_ns ns), shaped_ns ns, shaped_ns ns, by rw [eqv_ns]; exact k⟩
/-! ### the given rows -/
structure GivL (H : Hp) (F : Addr) (Rs : List IR) : Prop where
  ex : ∃ refs : List Addr, H F = some (.lst (refs.map V.ref)) ∧ Paired (fun r R => H r = some (.tup (irV R))) refs Rs
  ok : ∀ R ∈ Rs, IROk R ∧ ∃ r ∈ tabL, R.w = r.1
  l : Rs.length ≤ 40
theorem GivL.same {H H' : Hp} {F : Addr} {Rs : List IR} (g : GivL H F Rs) (s : Same H H') : GivL H' F Rs := by
  obtain ⟨⟨refs, e, p⟩, h, l⟩ := g
  exact ⟨⟨refs, s _ _ e, Paired.map' p fun a b h => s _ _ h⟩, h, l⟩
theorem GivL.keep {H H' : Hp} {F a : Addr} {Rs : List IR} (g : GivL H F Rs) (s : Keep a H H') (Fa : F ≠ a) (ha : ∃ xs, H a = some (.lst xs)) : GivL H' F Rs := by
  obtain ⟨⟨refs, e, p⟩, h, l⟩ := g
  obtain ⟨xs, ha⟩ := ha
  exact ⟨⟨refs, s _ _ Fa e, Paired.map' p fun x b h => s _ _ (fun z => by rw [z, ha] at h; cases h) h⟩, h, l⟩
theorem GivL.rows {H : Hp} {F : Addr} {Rs : List IR} (g : GivL H F Rs) : Rows H F Rs [] := by
  obtain ⟨⟨refs, e, p⟩, h, l⟩ := g
  exact ⟨⟨refs, by rw [e, List.append_nil]; rfl, p⟩, fun R hR => (h R hR).1, by omega⟩
theorem ir_ok {r : TR} {o : Option Nat} (hm : r ∈ tabL) (h1 : ∀ n, o = some n → n < 4294967296) (h2 : o = none ↔ r.2.1 < 45) : IROk ⟨r.1, o⟩ := by
  obtain ⟨f1, f2, f3, f4, f5, f6, f7, f8⟩ := tab_fact hm
  refine ⟨⟨numN r.1, by rw [f1, f5]⟩, ?_, h1⟩
  show insB (lkp NUMW r.1) (aV o) = true
  rw [f1, insB_eq, if_neg (by omega)]
  by_cases c : r.2.1 < 45
  · rw [if_pos c, h2.mpr c]
    rfl
  · rw [if_neg c]
    cases o with
    | none => exact absurd (h2.mp rfl) c
    | some n =>
      have := h1 n rfl
      show decide (0 ≤ ((n : Nat) : Int) ∧ ((n : Nat) : Int) ≤ 4294967295) = true
      exact decide_eq_true ⟨by omega, by omega⟩
theorem cp_rng {n : Nat} {g : TG} {tt : TT} {te : TE} {vs : List Nat} {σ : L2.St} {A : Addr} {H1 : Hp} {Q : VK} (Pv : Nat → Hp → Prop) (h0 : Pv 0 (L2.upd H1 A (.lst [])))
    (hs : ∀ i H, i < n → Pv i H → g (.int (0 + (i : Int))) (wipe σ vs) H fun σ2 H2 => wipe σ2 vs = wipe σ vs ∧ tt σ2 H2 fun b H3 =>
      if b = true then te σ2 H3 fun y H4 => ∃ acc, H4 A = some (.lst acc) ∧ acc.length < sizeLine ∧ Pv (i + 1) (L2.upd H4 A (.lst (acc ++ [y]))) else Pv (i + 1) H3) (hd : ∀ H, Pv n H → Q (.ref A) H) :
    CompR (Itr 0 n) g tt te vs σ Q A (L2.upd H1 A (.lst [])) := lc_range Pv h0 hs hd
def lvGiv (H1 : Hp) (a F : Addr) (i : Nat) (H' : Hp) : Prop := Keep a H1 H' ∧ Src H' a ∧ ∃ Rs refs, Rs.length = i ∧ H' F = some (.lst (refs.map V.ref)) ∧ Paired (fun r R => H' r = some (.tup (irV R))) refs Rs ∧ ∀ R ∈ Rs, IROk R ∧ ∃ r ∈ tabL, R.w = r.1
section
variable {K : PySem.W.Frag} {CR Pt : Addr} {q : Str} {D : Ends} {s0 s2 s4 s5 s6 s7 s8 s9 s10 s11 s12 s13 : Option V}
theorem given_run {H : Hp} {a d : Addr} (hS : Src H a) (ht : LawTab H d tabL)
    (k : ∀ s13 F U Rs H', F ≠ a → U ≠ a → F ≠ U → H U = none → Keep a H H' → Src H' a → GivL H' F Rs → H' U = some (.lst []) → D.nx [s0, some (.ref d), s2, some (.ref a), some (.ref F), some (.ref U), s6, s7, s8, s9, s10, s11, s12, s13] H') :
    t_given D [s0, some (.ref d), s2, some (.ref a), s4, s5, s6, s7, s8, s9, s10, s11, s12, s13] H := by
  unfold t_given
  simp only [r_seq, r_next, r_brk, r_cont, r_asg, r_name, r_ret, r_retN, r_drop, r_ifs, r_never, r_var, r_c, r_op, r_un, r_if, r_tst, r_b, r_not, r_and, r_or, r_andV, r_orV, r_notV, r_nil, r_cons, r_tup, r_lst, r_cb, r_call, r_bm, r_bm0, r_sl, r_nopart, r_part, r_rev, r_gnil, r_gcons, r_gsub, r_par, r_aug, r_chain, r_I0, r_I, r_U, r_ixd, r_lend, r_tupd, r_listd, r_sld, r_app, r_ext, r_reverse, r_setl, r_cat, r_int1, r_eqS, r_neS, scal_ii, scal_bb, scal_ss, at0, at1, at2, sq_lst, sq_tup, isLst_lst, List.getElem?_cons_zero, List.getElem?_cons_succ, List.set_cons_zero, List.set_cons_succ, V.int.injEq, V.bl.injEq, V.ref.injEq, V.str.injEq, HO.lst.injEq, HO.tup.injEq, Option.some.injEq, exists_eq_left', exists_eq_left, List.cons.injEq, and_true, true_and, decide_eq_true_eq, reduceCtorEq, false_and, exists_false, or_false, false_or, exists_const, and_assoc, exists_and_left, List.append_nil, ix0, ix1, ix2, cm_mod, cdw1009, cdw2003, cdw7, cdw64, cdw2, cm104729, cm2, cm3, upd_same, List.length_cons, List.length_nil, Int.reduceLT, Int.reduceLE, Nat.reduceAdd, Nat.reduceLeDiff, Nat.reduceLT, Int.reduceToNat, r_for1, r_forL, r_forT, r_lcL, r_lc1, r_yes, r_gtupD, wipe_0, wipe_1, List.cons_append, List.nil_append, r_forS, r_ipI, ite_false, ite_true, Bool.not_true, Bool.not_false, decide_true, decide_false, r_isd, r_islt, cD_ty, cD_ref, tD_non, tD_bl, tD_int, tD_str, tD_ref, tH_lst, tH_tup, tH_dK, tH_ins, ki_self, ki_int_bool, ki_non_int, ki_str_int, ki_lt_lst, ki_lt_tup, r_fld, r_sfld, HO.ins.injEq, cx_K]
  refine ⟨a, 41, rfl, hS, by decide, by decide, fun r H1 r0 r1 k1 S1 => ⟨r, rfl, by omega, by omega, fun F hF => ?_⟩⟩
  have Fa : F ≠ a := S1.ne hF
  obtain ⟨x0, y0, z0, eS⟩ := id hS
  have ht1 := ht.keep k1 ⟨_, eS⟩
  refine cp_rng (n := r.toNat) (lvGiv H1 a F) ⟨(Keep.refl a H1).new hF, S1.new hF, [], [], rfl, upd_same, .nil, fun R hR => by cases hR⟩ ?_ ?_
  · rintro i H2 hi ⟨k2, S2, Rs, refs, hl, h2, pk, hok⟩
    obtain ⟨x1, y1, z1, eS1⟩ := id S1
    have ht2 := ht1.keep k2 ⟨_, eS1⟩
    refine ⟨rfl, ?_⟩
    simp only [r_seq, r_next, r_brk, r_cont, r_asg, r_name, r_ret, r_retN, r_drop, r_ifs, r_never, r_var, r_c, r_op, r_un, r_if, r_tst, r_b, r_not, r_and, r_or, r_andV, r_orV, r_notV, r_nil, r_cons, r_tup, r_lst, r_cb, r_call, r_bm, r_bm0, r_sl, r_nopart, r_part, r_rev, r_gnil, r_gcons, r_gsub, r_par, r_aug, r_chain, r_I0, r_I, r_U, r_ixd, r_lend, r_tupd, r_listd, r_sld, r_app, r_ext, r_reverse, r_setl, r_cat, r_int1, r_eqS, r_neS, scal_ii, scal_bb, scal_ss, at0, at1, at2, sq_lst, sq_tup, isLst_lst, List.getElem?_cons_zero, List.getElem?_cons_succ, List.set_cons_zero, List.set_cons_succ, V.int.injEq, V.bl.injEq, V.ref.injEq, V.str.injEq, HO.lst.injEq, HO.tup.injEq, Option.some.injEq, exists_eq_left', exists_eq_left, List.cons.injEq, and_true, true_and, decide_eq_true_eq, reduceCtorEq, false_and, exists_false, or_false, false_or, exists_const, and_assoc, exists_and_left, List.append_nil, ix0, ix1, ix2, cm_mod, cdw1009, cdw2003, cdw7, cdw64, cdw2, cm104729, cm2, cm3, upd_same, List.length_cons, List.length_nil, Int.reduceLT, Int.reduceLE, Nat.reduceAdd, Nat.reduceLeDiff, Nat.reduceLT, Int.reduceToNat, r_for1, r_forL, r_forT, r_lcL, r_lc1, r_yes, r_gtupD, wipe_0, wipe_1, List.cons_append, List.nil_append, r_forS, r_ipI, ite_false, ite_true, Bool.not_true, Bool.not_false, decide_true, decide_false, r_isd, r_islt, cD_ty, cD_ref, tD_non, tD_bl, tD_int, tD_str, tD_ref, tH_lst, tH_tup, tH_dK, tH_ins, ki_self, ki_int_bool, ki_non_int, ki_str_int, ki_lt_lst, ki_lt_tup, r_fld, r_sfld, HO.ins.injEq, cx_K]
    refine ⟨a, d, rfl, S2, ht2, fun t r o H3 hm o1 o2 tn k3 S3 h3 => ?_⟩
    have h23 := k3 F _ Fa h2
    have lp := Paired.length pk
    refine ⟨_, h23, Nat.lt_of_le_of_lt (by rw [List.length_map]; omega : _ ≤ 1000) (by decide), ?_, ?_, Rs ++ [⟨r.1, o⟩], refs ++ [t], ?_, ?_, ?_, ?_⟩
    · intro b u hb e
      rw [upd_ne (ne_new e hF)]
      exact k3 b u hb (k2 b u hb e)
    · obtain ⟨x, y, z, e⟩ := S3
      exact ⟨x, y, z, by rw [upd_ne Fa.symm]; exact e⟩
    · rw [List.length_append, hl]
      rfl
    · rw [upd_same, List.map_append]
      rfl
    · obtain ⟨x2, y2, z2, eS2⟩ := id S2
      refine Paired.snoc' (Paired.map' pk fun u R e => ?_) ?_
      · have uF : u ≠ F := fun z => by rw [z, h2] at e; cases e
        have ua : u ≠ a := fun z => by rw [z, eS2] at e; cases e
        rw [upd_ne uF]
        exact k3 u _ ua e
      · have tF : t ≠ F := fun z => by rw [z, h23] at h3; cases h3
        rw [upd_ne tF]
        exact h3
    · intro R hR
      rcases List.mem_append.mp hR with z | z
      · exact hok R z
      · rw [List.mem_singleton.mp z]
        exact ⟨ir_ok hm o1 o2, r, hm, rfl⟩
  · rintro H2 ⟨k2, S2, Rs, refs, hl, h2, pk, hok⟩
    refine ⟨Nat.zero_le _, fun U hU => ?_⟩
    have FU : F ≠ U := ne_new h2 hU
    have Ua := S2.ne hU
    have hn : H U = none := by
      cases e : H U with
      | none => rfl
      | some o =>
        have := (k1.trans k2) U o Ua e
        rw [hU] at this
        cases this
    exact k _ F U Rs _ Fa Ua FU hn ((k1.trans k2).new hU) (S2.new hU) (GivL.same ⟨⟨refs, h2, pk⟩, hok, by omega⟩ (Same.new' (Same.refl H2) hU)) upd_same
theorem due_run {H : Hp} {a d F U : Addr} {Rs : List IR} (ht : LawTab H d tabL) (g : GivL H F Rs) (FU : F ≠ U) (hU : H U = some (.lst []))
    (k : ∀ s6 s7 H', Keep U H H' → H' U = some (.lst (vn (bytesR Rs))) → D.nx [s0, some (.ref d), s2, some (.ref a), some (.ref F), some (.ref U), s6, s7, s8, s9, s10, s11, s12, s13] H') :
    t_due K D [s0, some (.ref d), s2, some (.ref a), some (.ref F), some (.ref U), s6, s7, s8, s9, s10, s11, s12, s13] H := by
  obtain ⟨⟨refs, eF, pF⟩, hok, hl⟩ := g
  have lr := Paired.length pF
  unfold t_due
  refine ⟨_, rfl, F, rfl, ⟨_, SqL.of eF⟩, lp_list (xs := refs.map V.ref) (fun i σ H' => (∃ v w, σ = [s0, some (.ref d), s2, some (.ref a), some (.ref F), some (.ref U), v, w, s8, s9, s10, s11, s12, s13]) ∧ Keep U H H' ∧ H' U = some (.lst (vn (bytesR (Rs.take i))))) ⟨⟨_, _, rfl⟩, Keep.refl U H, by rw [List.take_zero]; exact hU⟩
    (fun i σ H' _ ⟨_, kk, _⟩ => SqL.of (kk _ _ FU eF)) ?_ ?_⟩
  · rintro i x σ H' hx ⟨⟨v, w, rfl⟩, kk, hu⟩
    have hir : i < refs.length := by
      have := (List.getElem?_eq_some_iff.mp hx).1
      rwa [List.length_map] at this
    have hiR : i < Rs.length := by rw [← lr]; exact hir
    obtain rfl : x = .ref refs[i] := by
      rw [List.getElem?_map, List.getElem?_eq_getElem hir] at hx
      exact (Option.some.inj hx).symm
    have h0 := Paired.at' pF hir hiR
    have rU : refs[i] ≠ U := fun z => by rw [z, hU] at h0; cases h0
    have hrow := kk _ _ rU h0
    obtain ⟨ok, r, hm, er⟩ := hok _ (List.getElem_mem hiR)
    have nx : bytesR (Rs.take (i + 1)) = bytesR (Rs.take i) ++ rowBytes Rs[i] := by rw [← List.take_append_getElem hiR, bytesR_snoc]
    have lb := bytesR_len (Rs.take i)
    rw [List.length_take] at lb
    generalize Rs[i] = R at *
    have lz := rowBytes_len R
    have ht' : LawTab H' d tabL := ht.keep kk ⟨_, hU⟩
    refine ⟨_, _, rfl, hrow, rfl, _, _, rfl, _, _, rfl, rfl, .ref U, rfl, tyl hu, _, rfl, _, rfl, ?_⟩
    have lt : R.a.getD 0 < 4294967296 := by
      cases e : R.a with
      | none => exact (by decide : 0 < 4294967296)
      | some k => exact ok.lt k e
    have fin : ∀ (v6 v7 : Option V) (p : Addr) (H2 : Hp), Same H' H2 → H2 p = some (.lst (vn (packN (numN r.1) (R.a.getD 0) (cacN r.1)))) → ∃ l b xs zs, V.ref U = V.ref l ∧ [V.ref p] = [V.ref b] ∧ H2 l = some (.lst xs) ∧ H2 b = some (.lst zs) ∧ xs.length + zs.length ≤ sizeLine ∧
        ((∃ v w, [s0, some (.ref d), s2, some (.ref a), some (.ref F), some (.ref U), v6, v7, s8, s9, s10, s11, s12, s13] = [s0, some (.ref d), s2, some (.ref a), some (.ref F), some (.ref U), v, w, s8, s9, s10, s11, s12, s13]) ∧ Keep U H (L2.upd H2 l (.lst (xs ++ zs))) ∧ L2.upd H2 l (.lst (xs ++ zs)) U = some (.lst (vn (bytesR (Rs.take (i + 1)))))) := by
      intro v6 v7 p H2 s2' h2
      rw [← er] at h2
      have h2' : H2 p = some (.lst (vn (rowBytes R))) := h2
      exact ⟨U, p, _, _, rfl, rfl, s2' U _ hu, h2', Nat.le_trans (by rw [vn_len, vn_len]; omega : _ ≤ 20000) (by decide), ⟨_, _, rfl⟩, (kk.trans (Keep.same s2')).upd, by rw [upd_same, ← vn_app, ← nx]⟩
    cases ea : R.a with
    | none =>
      rw [ea] at fin lt
      refine ⟨_, rfl, rfl, _, rfl, ?_⟩
      refine ite2 (fun _ => ?_) (fun z => absurd (show decide (aV none = V.non) = true from rfl) z)
      exact ⟨d, r, 0, by rw [er]; rfl, hm, ht', lt, fun p H2 hp s2' h2 => fin _ _ p H2 s2' h2⟩
    | some m =>
      rw [ea] at fin lt
      refine ⟨_, rfl, rfl, _, rfl, ?_⟩
      refine ite2 (fun z => absurd (of_decide_eq_true (show decide (aV (some m) = V.non) = true from z)) fun e => by cases e) (fun _ => ?_)
      exact ⟨_, rfl, d, r, m, by rw [er]; rfl, hm, ht', lt, fun p H2 hp s2' h2 => fin _ _ p H2 s2' h2⟩
  · rintro σ H' ⟨⟨v, w, rfl⟩, kk, hu⟩
    refine k v w H' kk ?_
    rw [List.length_map, lr, List.take_length] at hu
    exact hu
end
end C46

set_option maxHeartbeats 2000000
namespace C46
open PySem PySem.Spec PyProof.Rows L2
section
variable {K : PySem.W.Frag} {CR Pt : Addr} {q : Str} {D : Ends} {s0 s1 s2 s3 s4 s5 s6 s7 s8 s9 s10 s11 s12 s13 : Option V}
theorem got_run {σ : L2.St} {H : Hp} {p U : Addr} {ns : List Nat} (h7 : σ[8]? = some (some (.ref p))) (h5 : σ[5]? = some (some (.ref U))) (hp : H p = some (.tup (vn ns))) (hU : H U = some (.lst (vn ns)))
    (k : ∀ H', Same H H' → D.nx σ H') : (tIfS (tTest (tOp (rNeD K) (tVar 8) (tCB rTupd (tCons (tVar 5) tNil)))) (tRet (tC (V.bl false))) tNext : TS) D σ H :=
  ⟨_, h7, _, h5, U, _, rfl, hU, fun l hl => ne_ns (by rw [upd_ne (ne_new hp hl)]; exact hp) upd_same ⟨false, rfl, k _ (Same.new' (Same.refl H) hl)⟩⟩
theorem gots_run {H : Hp} {F U : Addr} {Rs : List IR} (g : GivL H F Rs) (hU : H U = some (.lst (vn (bytesR Rs))))
    (k : ∀ s8 H', Same H H' → D.nx [s0, s1, s2, s3, some (.ref F), some (.ref U), s6, s7, s8, s9, s10, s11, s12, s13] H') : t_gots K CR D [s0, s1, s2, s3, some (.ref F), some (.ref U), s6, s7, s8, s9, s10, s11, s12, s13] H := by
  unfold t_gots
  refine ⟨_, rfl, .inl ⟨F, Rs, rfl, g.rows, fun p1 H1 hp1 s1 h1 => ?_⟩⟩
  obtain ⟨⟨refs, eF, pF⟩, hok, hl⟩ := g.same s1
  refine ⟨_, rfl, F, _, rfl, eF, fun l hl1 => .inl ⟨l, Rs, rfl, ⟨⟨refs, by rw [upd_same, List.append_nil]; rfl, Paired.map' pF fun a b h => by rw [upd_ne (ne_new h hl1)]; exact h⟩, fun R hR => (hok R hR).1, by omega⟩, fun p2 H2 hp2 s2 h2 => ?_⟩⟩
  have s3 : Same H1 H2 := Same.trans' (Same.new' (Same.refl H1) hl1) s2
  refine ⟨_, rfl, .inl ⟨F, Rs, rfl, (g.same (Same.trans' s1 s3)).rows, fun p3 H3 hp3 s4 h3 => ⟨szl (by simp only [List.length_cons, List.length_nil]; decide), fun TT hT => ⟨TT, rfl, ⟨_, SqT.of upd_same⟩, ?_⟩⟩⟩⟩
  have sA : Same H (L2.upd H3 TT (.tup [.ref p1, .ref p2, .ref p3])) := Same.new' (fun b o e => s4 b o (s3 b o (s1 b o e))) hT
  have sT : ∀ {b : Addr} {o : HO}, H3 b = some o → L2.upd H3 TT (.tup [.ref p1, .ref p2, .ref p3]) b = some o := fun e => by rw [upd_ne (ne_new e hT)]; exact e
  have al : ∀ x ∈ [V.ref p1, .ref p2, .ref p3], ∃ p, x = .ref p ∧ L2.upd H3 TT (.tup [.ref p1, .ref p2, .ref p3]) p = some (.tup (vn (bytesR Rs))) := by
    intro x hx
    simp only [List.mem_cons, List.not_mem_nil, or_false] at hx
    rcases hx with rfl | rfl | rfl
    · exact ⟨_, rfl, sT (s4 _ _ (s3 _ _ h1))⟩
    · exact ⟨_, rfl, sT (s4 _ _ h2)⟩
    · exact ⟨_, rfl, sT h3⟩
  have eT : L2.upd H3 TT (.tup [.ref p1, .ref p2, .ref p3]) TT = some (.tup [.ref p1, .ref p2, .ref p3]) := upd_same
  generalize L2.upd H3 TT (.tup [.ref p1, .ref p2, .ref p3]) = G at *
  refine lp_tup (xs := [.ref p1, .ref p2, .ref p3]) (fun i σ H' => (∃ v, σ = [s0, _, _, _, some (.ref F), some (.ref U), s6, s7, v, s9, s10, s11, s12, s13]) ∧ Same G H') ⟨⟨_, rfl⟩, Same.refl G⟩ (fun i σ H' _ ⟨_, e⟩ => SqT.of (e _ _ eT)) ?_ ?_
  · rintro i x σ H' hx ⟨⟨v, rfl⟩, e⟩
    obtain ⟨p, rfl, hp⟩ := al x (List.mem_of_getElem? hx)
    show (tIfS _ _ _ : TS) _ [s0, _, _, _, some (.ref F), some (.ref U), s6, s7, some (.ref p), s9, s10, s11, s12, s13] H'
    exact got_run rfl rfl (e _ _ hp) (e _ _ (sA _ _ hU)) fun H2 e2 => ⟨⟨_, rfl⟩, Same.trans' e e2⟩
  · rintro σ H' ⟨⟨v, rfl⟩, e⟩
    exact k v H' (Same.trans' sA e)
/-! ### what the def that catches tells -/
theorem caught_run {σ : L2.St} {H : Hp} {i : Nat} {x : V} {n : Int} {Q : VK} (hσ : σ[i]? = some (some x)) (t : LamX.Tabs [(Pt, q)] H)
    (sp : ∀ H1 E, LamX.ExtN H H1 → (∀ d H', H1 d = none → Same H1 H' → H' d = some (.xd [("at", .int n)]) → E (.ref CR) (some d) H') → ∀ Q', spBytesOf CR [x] H1 Q' E)
    (k : ∀ p H', LamX.ExtN H H' → LamX.Tabs [(Pt, q)] H' → H' p = some (.tup [.str "rows", .int n]) → Q (.ref p) H') : tLamL CR Pt q i σ H Q := by
  refine ⟨t, fun H1 e1 t1 => ⟨x, hσ, ?_⟩⟩
  simp only [r_nil, List.append_nil]
  refine sp H1 _ e1 (fun d H2 hd s2 hf => ⟨rfl, d, .int n, rfl, hf, fun p H3 hp s3 h3 => ?_⟩) _
  have s4 : Same H1 H3 := fun b o e => s3 b o (s2 b o e)
  exact k p H3 (e1.trans (ExtN.same s4)) (tabs_same t1 s4) h3
theorem Rows.ext {H H1 : Hp} {a : Addr} {Rs : List IR} {rest : List V} (r : Rows H a Rs rest) (e : LamX.ExtN H H1) : Rows H1 a Rs rest := by
  obtain ⟨⟨refs, h1, h2⟩, h3, h4⟩ := r
  refine ⟨⟨refs, ?_, Paired.map' h2 fun x y h => e _ _ h (fun _ z => by cases z)⟩, h3, h4⟩
  rcases sq_cases h1 with h | h
  · rw [e _ _ h (fun _ z => by cases z)]
    rfl
  · rw [e _ _ h (fun _ z => by cases z)]
    rfl
theorem tyP_ext {H H1 : Hp} {x : V} {n : String} (e : LamX.ExtN H H1) (h : tyP H x = some n) : tyP H1 x = some n := by
  cases x with
  | ref a =>
    show tyO _ = _
    have h2 : tyO (H a) = some n := h
    cases e1 : H a with
    | none => rw [e1] at h2; cases h2
    | some o =>
      rw [e1] at h2
      rw [e a o e1 (fun _ z => by rw [z] at h2; cases h2)]
      exact h2
  | _ => exact h
theorem BadRow.ext {H H1 : Hp} {x : V} (e : LamX.ExtN H H1) (h : BadRow H x) : BadRow H1 x := by
  rcases h with ⟨n, h1, h2⟩ | ⟨t, ys, h1, h2, h3⟩
  · exact .inl ⟨n, tyP_ext e h1, h2⟩
  · refine .inr ⟨t, ys, h1, e _ _ h2 (fun _ z => by cases z), ?_⟩
    rcases h3 with h | ⟨u, v, nu, nv, g1, g2, g3, g4⟩
    · exact .inl h
    · exact .inr ⟨u, v, nu, nv, g1, tyP_ext e g2, tyP_ext e g3, g4⟩
/-! ### a turn with a wrong row -/
theorem sIx_nat (l d n : Nat) : HT.sIx l d (some (n : Int)) = min n l := by
  simp [HT.sIx]
  omega
theorem cut_take {xs : List V} {n : Nat} : cutV xs none (some (n : Int)) = xs.take n := by
  unfold cutV
  rw [sIx_nat, HT.sIx_none, List.drop_zero, Nat.sub_zero]
  by_cases c : n ≤ xs.length
  · rw [Nat.min_eq_left c]
  · rw [Nat.min_eq_right (by omega), List.take_length, List.take_of_length_le (by omega)]
theorem cut_drop {xs : List V} {n : Nat} : cutV xs (some (n : Int)) none = xs.drop n := by
  unfold cutV
  rw [sIx_nat, HT.sIx_none]
  by_cases c : n ≤ xs.length
  · rw [Nat.min_eq_left c]
    exact List.take_of_length_le (by rw [List.length_drop]; omega)
  · rw [Nat.min_eq_right (by omega), List.drop_length, List.take_nil, List.drop_of_length_le (by omega)]
theorem Paired.take' {α β : Type} {F : α → β → Prop} : ∀ {l1 : List α} {l2 : List β} (n : Nat), Paired F l1 l2 → Paired F (l1.take n) (l2.take n)
  | _, _, 0, _ => by rw [List.take_zero, List.take_zero]; exact .nil
  | _, _, n + 1, .nil => .nil
  | _, _, n + 1, .cons h t => .cons h (Paired.take' n t)
theorem GivL.ext {H H1 : Hp} {F : Addr} {Rs : List IR} (g : GivL H F Rs) (e : LamX.ExtN H H1) : GivL H1 F Rs := by
  obtain ⟨⟨refs, h1, h2⟩, h3, h4⟩ := g
  exact ⟨⟨refs, e _ _ h1 (fun _ z => by cases z), Paired.map' h2 fun x y h => e _ _ h (fun _ z => by cases z)⟩, h3, h4⟩
theorem rep_non (k : Nat) : (List.replicate k [V.non]).flatten = List.replicate k V.non := by
  induction k with
  | zero => rfl
  | succ k ih =>
    rw [List.replicate_succ, List.flatten_cons, ih, List.replicate_succ]
    rfl
theorem turn_run {H : Hp} {a F : Addr} {Rs : List IR} {n j : Nat} (hS : Src H a) (Fa : F ≠ a) (g : GivL H F Rs) (hn : n ≤ Rs.length) (hj : j < 3) (t : LamX.Tabs [(Pt, q)] H)
    (k : ∀ s11 H', Src H' a → GivL H' F Rs → LamX.Tabs [(Pt, q)] H' → (∀ b o, b ≠ a → H b = some o → (∀ u, o ≠ .tbl u) → H' b = some o) → D.nx [s0, s1, s2, some (.ref a), some (.ref F), s5, s6, s7, s8, some (.int (n : Int)), some (.int (j : Int)), s11, s12, s13] H') :
    t_turn K CR Pt q D [s0, s1, s2, some (.ref a), some (.ref F), s5, s6, s7, s8, some (.int (n : Int)), some (.int (j : Int)), s11, s12, s13] H := by
  obtain ⟨⟨refs, eF, pF⟩, hok, hl⟩ := id g
  have lr := Paired.length pF
  unfold t_turn
  simp only [r_seq, r_next, r_brk, r_cont, r_asg, r_name, r_ret, r_retN, r_drop, r_ifs, r_never, r_var, r_c, r_op, r_un, r_if, r_tst, r_b, r_not, r_and, r_or, r_andV, r_orV, r_notV, r_nil, r_cons, r_tup, r_lst, r_cb, r_call, r_bm, r_bm0, r_sl, r_nopart, r_part, r_rev, r_gnil, r_gcons, r_gsub, r_par, r_aug, r_chain, r_I0, r_I, r_U, r_ixd, r_lend, r_tupd, r_listd, r_sld, r_app, r_ext, r_reverse, r_setl, r_cat, r_int1, r_eqS, r_neS, scal_ii, scal_bb, scal_ss, at0, at1, at2, sq_lst, sq_tup, isLst_lst, List.getElem?_cons_zero, List.getElem?_cons_succ, List.set_cons_zero, List.set_cons_succ, V.int.injEq, V.bl.injEq, V.ref.injEq, V.str.injEq, HO.lst.injEq, HO.tup.injEq, Option.some.injEq, exists_eq_left', exists_eq_left, List.cons.injEq, and_true, true_and, decide_eq_true_eq, reduceCtorEq, false_and, exists_false, or_false, false_or, exists_const, and_assoc, exists_and_left, List.append_nil, ix0, ix1, ix2, cm_mod, cdw1009, cdw2003, cdw7, cdw64, cdw2, cm104729, cm2, cm3, upd_same, List.length_cons, List.length_nil, Int.reduceLT, Int.reduceLE, Nat.reduceAdd, Nat.reduceLeDiff, Nat.reduceLT, Int.reduceToNat, r_for1, r_forL, r_forT, r_lcL, r_lc1, r_yes, r_gtupD, wipe_0, wipe_1, List.cons_append, List.nil_append, r_forS, r_ipI, ite_false, ite_true, Bool.not_true, Bool.not_false, decide_true, decide_false, r_isd, r_islt, cD_ty, cD_ref, tD_non, tD_bl, tD_int, tD_str, tD_ref, tH_lst, tH_tup, tH_dK, tH_ins, ki_self, ki_int_bool, ki_non_int, ki_str_int, ki_lt_lst, ki_lt_tup, r_fld, r_sfld, HO.ins.injEq, cx_K, eF, cut_take, cut_drop]
  refine fun p hp => ⟨a, rfl, hS.new hp, fun x H1 bx k1 S1 => ⟨szl (by decide : 1 ≤ 1000), fun p1 hp1 => ?_⟩⟩
  obtain ⟨xa, ya, za, eS⟩ := id hS
  have hp' : p ≠ a := new_ne eS hp
  have q1 : H1 p = some (.lst ((refs.map V.ref).take n)) := k1 p _ hp' upd_same
  have K1 : Keep a H H1 := ((Keep.refl a H).new hp).trans k1
  have qF := K1 F _ Fa eF
  have tl : ((refs.map V.ref).take n).length ≤ 40 := by rw [List.length_take, List.length_map]; omega
  have dl : ((refs.map V.ref).drop n).length ≤ 40 := by rw [List.length_drop, List.length_map]; omega
  have s1' := Same.new' (o := .lst [x]) (Same.refl H1) hp1
  refine ⟨_, s1' _ _ q1, Nat.le_trans (by omega : _ ≤ 1000) (by decide), fun p2 hp2 => ?_⟩
  have s2' := Same.new' (o := .lst ((refs.map V.ref).take n ++ [x])) s1' hp2
  refine ⟨_, s2' _ _ qF, fun p3 hp3 => ?_⟩
  have s3' := Same.new' (o := .lst ((refs.map V.ref).drop n)) s2' hp3
  refine ⟨_, by rw [upd_ne (ne_new upd_same hp3)]; exact upd_same, Nat.le_trans (by rw [List.length_append, List.length_singleton]; omega : _ ≤ 1000) (by decide), fun p4 hp4 => ⟨szl (by decide : 1 ≤ 1000), fun p5 hp5 => ?_⟩⟩
  have s4' := Same.new' (o := .lst ((refs.map V.ref).take n ++ [x] ++ (refs.map V.ref).drop n)) s3' hp4
  have s5' := Same.new' (o := .lst [V.non]) s4' hp5
  refine ⟨p5, (j : Int), _, rfl, rfl, upd_same, by omega, by omega, Nat.le_trans (by simp; omega : _ ≤ 1000) (by decide), fun p6 hp6 => ⟨p6, rfl, (refs.map V.ref).take n ++ [x] ++ (refs.map V.ref).drop n, ?_, _, upd_same, ?_, fun p7 hp7 => ?_⟩⟩
  · rw [upd_ne (ne_new (by rw [upd_ne (ne_new upd_same hp5)]; exact upd_same) hp6), upd_ne (ne_new upd_same hp5)]
    exact upd_same
  · rw [rep_non, List.length_replicate, List.length_append, List.length_append, List.length_singleton]
    exact Nat.le_trans (by omega : _ ≤ 1000) (by decide)
  have s6' := Same.new' (o := .lst (List.replicate (j : Int).toNat [V.non]).flatten) s5' hp6
  have s7' := Same.new' (o := .lst ((refs.map V.ref).take n ++ [x] ++ (refs.map V.ref).drop n ++ (List.replicate (j : Int).toNat [V.non]).flatten)) s6' hp7
  have q7 : ∀ G0 : Hp, L2.upd G0 p7 (.lst ((refs.map V.ref).take n ++ [x] ++ (refs.map V.ref).drop n ++ (List.replicate (j : Int).toNat [V.non]).flatten)) p7 = some (.lst ((refs.map V.ref).take n ++ [x] ++ (refs.map V.ref).drop n ++ (List.replicate (j : Int).toNat [V.non]).flatten)) := fun G0 => upd_same
  have q7 := q7 (L2.upd (L2.upd (L2.upd (L2.upd (L2.upd (L2.upd H1 p1 (.lst [x])) p2 (.lst ((refs.map V.ref).take n ++ [x]))) p3 (.lst ((refs.map V.ref).drop n))) p4 (.lst ((refs.map V.ref).take n ++ [x] ++ (refs.map V.ref).drop n))) p5 (.lst [V.non])) p6 (.lst (List.replicate (j : Int).toNat [V.non]).flatten))
  generalize L2.upd (L2.upd (L2.upd (L2.upd (L2.upd (L2.upd (L2.upd H1 p1 (.lst [x])) p2 (.lst ((refs.map V.ref).take n ++ [x]))) p3 (.lst ((refs.map V.ref).drop n))) p4 (.lst ((refs.map V.ref).take n ++ [x] ++ (refs.map V.ref).drop n))) p5 (.lst [V.non])) p6 (.lst (List.replicate (j : Int).toNat [V.non]).flatten)) p7 (.lst ((refs.map V.ref).take n ++ [x] ++ (refs.map V.ref).drop n ++ (List.replicate (j : Int).toNat [V.non]).flatten)) = G at *
  have KG : Keep a H G := K1.trans (Keep.same s7')
  have gG := g.keep KG Fa ⟨_, eS⟩
  have tG := tabs_keep t KG ⟨_, eS⟩
  have SG : Src G a := by
    obtain ⟨u, v, w, e⟩ := S1
    exact ⟨u, v, w, s7' _ _ e⟩
  have bG := bx.same s7'
  have rG : Rows G p7 (Rs.take n) (x :: ((refs.map V.ref).drop n ++ (List.replicate (j : Int).toNat [V.non]).flatten)) := by
    refine ⟨⟨refs.take n, ?_, Paired.take' n (Paired.map' pF fun u R e => KG u _ (fun z => by rw [z, eS] at e; cases e) e)⟩, fun R hR => (hok R (List.mem_of_mem_take hR)).1, by rw [List.length_take]; omega⟩
    rw [q7, List.map_take]
    simp
  have ln : ((Rs.take n).length : Int) = (n : Int) := by rw [List.length_take, Nat.min_eq_left hn]
  refine caught_run (n := (n : Int)) (x := .ref p7) rfl tG (fun H2 E e2 kE Q' => .inr (.inl ⟨p7, Rs.take n, x, _, rfl, rG.ext e2, bG.ext e2, fun d H3 hd s3 h3 => kE d H3 hd s3 (by rw [h3, ln])⟩)) fun pc H2 e2 t2 h2 => ?_
  refine ⟨szl (by decide : 2 ≤ 1000), fun pd hpd => ne_ri (by rw [upd_ne (ne_new h2 hpd)]; exact h2) upd_same ⟨_, rfl, ?_⟩⟩
  rw [if_neg (by decide)]
  have s8 := Same.new' (o := .tup [.str "rows", .int (n : Int)]) (Same.refl H2) hpd
  have e8 := e2.trans (ExtN.same s8)
  refine k _ _ ?_ (gG.ext e8) (tabs_same t2 s8) fun b o hb e hu => e8 b o (KG b o hb e) hu
  obtain ⟨u, v, w, e⟩ := SG
  exact ⟨u, v, w, e8 _ _ e (fun _ z => by cases z)⟩
end
end C46

set_option maxHeartbeats 2000000
namespace C46
open PySem PySem.Spec PyProof.Rows L2
def OddOk (x : V) (H : Hp) : Prop := ∃ n, tyP H x = some n ∧ n ≠ "list" ∧ n ≠ "tuple"
theorem OddOk.ext {x : V} {H H1 : Hp} (h : OddOk x H) (e : LamX.ExtN H H1) : OddOk x H1 := by
  obtain ⟨n, h1, h2⟩ := h
  exact ⟨n, tyP_ext e h1, h2⟩
theorem LawTab.ext {H H1 : Hp} {d : Addr} {rs : List TR} (h : LawTab H d rs) (e : LamX.ExtN H H1) : LawTab H1 d rs := by
  obtain ⟨kvs, h1, p⟩ := h
  exact ⟨kvs, e _ _ h1 (fun _ z => by cases z), Paired.map' p fun a b ⟨g1, t, g2, g3⟩ => ⟨g1, t, g2, e _ _ g3 (fun _ z => by cases z)⟩⟩
section
variable {K : PySem.W.Frag} {CR Pt : Addr} {q : Str} {D : Ends} {s0 s1 s2 s3 s4 s5 s6 s7 s8 s9 s10 s11 s12 s13 : Option V}
theorem odd_run1 {σ : L2.St} {H : Hp} {x : V} (hσ : σ[12]? = some (some x)) (t : LamX.Tabs [(Pt, q)] H) (ok : OddOk x H) (k : ∀ H', LamX.ExtN H H' → LamX.Tabs [(Pt, q)] H' → D.nx σ H') : t_odd K CR Pt q D σ H := by
  refine caught_run (n := -1) hσ t (fun H1 E e1 kE Q' => .inr (.inr ?_)) fun pc H2 e2 t2 h2 => ?_
  · obtain ⟨n, h1, h2, h3⟩ := ok.ext e1
    exact ⟨x, n, rfl, h1, h2, h3, kE⟩
  · refine ⟨_, _, rfl, rfl, szl (by decide : 2 ≤ 1000), fun pd hpd => ?_⟩
    have s8 := Same.new' (o := .tup [.str "rows", .int (-1)]) (Same.refl H2) hpd
    exact ne_ri (i := -1) (by rw [upd_ne (ne_new h2 hpd)]; exact h2) upd_same ⟨_, rfl, k _ (e2.trans (ExtN.same s8)) (tabs_same t2 s8)⟩
theorem odds_run {H : Hp} (t : LamX.Tabs [(Pt, q)] H) (k : ∀ s12 H', LamX.ExtN H H' → LamX.Tabs [(Pt, q)] H' → D.nx [s0, s1, s2, s3, s4, s5, s6, s7, s8, s9, s10, s11, s12, s13] H') :
    t_odds K CR Pt q D [s0, s1, s2, s3, s4, s5, s6, s7, s8, s9, s10, s11, s12, s13] H := by
  unfold t_odds
  refine fun e2 h2 => ⟨szl (by simp only [List.length_cons, List.length_nil]; decide), fun TT hT => ⟨TT, rfl, ⟨_, SqT.of upd_same⟩, ?_⟩⟩
  have sA := Same.new' (o := .tup [.non, .int 5, .str "ab", .ref e2, .bl true]) (Same.new' (o := .dK []) (Same.refl H) h2) hT
  have qd : L2.upd (L2.upd H e2 (.dK [])) TT (.tup [.non, .int 5, .str "ab", .ref e2, .bl true]) e2 = some (.dK []) := by
    rw [upd_ne (ne_new upd_same hT)]
    exact upd_same
  have qT : L2.upd (L2.upd H e2 (.dK [])) TT (.tup [.non, .int 5, .str "ab", .ref e2, .bl true]) TT = some (.tup [.non, .int 5, .str "ab", .ref e2, .bl true]) := upd_same
  generalize L2.upd (L2.upd H e2 (.dK [])) TT (.tup [.non, .int 5, .str "ab", .ref e2, .bl true]) = G at *
  have ok : ∀ x ∈ [V.non, .int 5, .str "ab", .ref e2, .bl true], OddOk x G := by
    intro x hx
    simp only [List.mem_cons, List.not_mem_nil, or_false] at hx
    rcases hx with rfl | rfl | rfl | rfl | rfl
    · exact ⟨"NoneType", rfl, by decide, by decide⟩
    · exact ⟨"int", rfl, by decide, by decide⟩
    · exact ⟨"str", rfl, by decide, by decide⟩
    · exact ⟨"dict", by show tyO (G e2) = _; rw [qd]; rfl, by decide, by decide⟩
    · exact ⟨"bool", rfl, by decide, by decide⟩
  refine lp_tup (xs := [.non, .int 5, .str "ab", .ref e2, .bl true]) (fun i σ H' => (∃ v, σ = [s0, s1, s2, s3, s4, s5, s6, s7, s8, s9, s10, s11, v, s13]) ∧ LamX.ExtN G H' ∧ LamX.Tabs [(Pt, q)] H') ⟨⟨_, rfl⟩, LamX.ExtN.refl G, tabs_same t sA⟩ (fun i σ H' _ ⟨_, e, _⟩ => SqT.of (e _ _ qT (fun _ z => by cases z))) ?_ ?_
  · rintro i x σ H' hx ⟨⟨v, rfl⟩, e, t1⟩
    show t_odd K CR Pt q _ [s0, s1, s2, s3, s4, s5, s6, s7, s8, s9, s10, s11, some x, s13] H'
    exact odd_run1 rfl t1 ((ok x (List.mem_of_getElem? hx)).ext e) fun H2 e2 t2 => ⟨⟨_, rfl⟩, e.trans e2, t2⟩
  · rintro σ H' ⟨⟨v, rfl⟩, e, t1⟩
    exact k v H' ((ExtN.same sA).trans e) t1
theorem cell_run {H : Hp} {d : Addr} {n : Int} (ht : LawTab H d tabL) (t : LamX.Tabs [(Pt, q)] H)
    (k : ∀ s3 s4 s5 s6 s7 s8 s9 s10 s11 s12 s13 H', LamX.ExtN H H' → LamX.Tabs [(Pt, q)] H' → D.nx [s0, some (.ref d), some (.int n), s3, s4, s5, s6, s7, s8, s9, s10, s11, s12, s13] H') :
    t_cell K CR Pt q D [s0, some (.ref d), some (.int n), s3, s4, s5, s6, s7, s8, s9, s10, s11, s12, s13] H := by
  unfold t_cell
  refine ⟨_, rfl, n, rfl, fun a H1 ha s1 src => ?_⟩
  have t1 := tabs_same t s1
  refine given_run src (ht.same s1) fun s13 F U Rs H2 Fa Ua FU nU k2 S2 g hU => ?_
  obtain ⟨x1, y1, z1, eS⟩ := id src
  have ht2 := (ht.same s1).keep k2 ⟨_, eS⟩
  have t2 := tabs_keep t1 k2 ⟨_, eS⟩
  refine due_run ht2 g FU hU fun s6 s7 H3 k3 hU3 => ?_
  have g3 := g.keep k3 FU ⟨_, hU⟩
  have t3 := tabs_keep t2 k3 ⟨_, hU⟩
  have S3 : Src H3 a := by
    obtain ⟨x, y, z, e⟩ := S2
    exact ⟨x, y, z, k3 _ _ Ua.symm e⟩
  refine gots_run g3 hU3 fun s8 H4 s4' => ?_
  have g4 := g3.same s4'
  have t4 := tabs_same t3 s4'
  have S4 : Src H4 a := by
    obtain ⟨x, y, z, e⟩ := S3
    exact ⟨x, y, z, s4' _ _ e⟩
  obtain ⟨⟨refs, eF, pF⟩, hok, hl⟩ := id g4
  have lr := Paired.length pF
  have keepH : ∀ b o, H b = some o → b ≠ a ∧ H4 b = some o := fun b o e => by
    have e1 := s1 b o e
    have ba : b ≠ a := ne_new e ha
    have bU : b ≠ U := ne_new e1 nU
    exact ⟨ba, s4' b o (k3 b o bU (k2 b o ba e1))⟩
  refine ⟨_, rfl, _, rfl, F, _, rfl, by rw [eF]; rfl, _, _, rfl, rfl, a, _, rfl, S4, by omega, by rw [List.length_map, lr]; omega, fun r H5 r0 r1 k5 S5 => ?_⟩
  rw [List.length_map, lr] at r1
  obtain ⟨m, rfl⟩ : ∃ m : Nat, r = (m : Int) := ⟨r.toNat, by omega⟩
  obtain ⟨x4, y4, z4, eS4⟩ := id S4
  have g5 := g4.keep k5 Fa ⟨_, eS4⟩
  have t5 := tabs_keep t4 k5 ⟨_, eS4⟩
  refine ⟨3, rfl, by decide, by decide, lp_rng (n := 3) (fun i σ H' => (∃ s10 s11, σ = [s0, some (.ref d), some (.int n), some (.ref a), some (.ref F), some (.ref U), s6, s7, s8, some (.int (m : Int)), s10, s11, s12, s13]) ∧ Src H' a ∧ GivL H' F Rs ∧ LamX.Tabs [(Pt, q)] H' ∧ ∀ b o, b ≠ a → H5 b = some o → (∀ u, o ≠ .tbl u) → H' b = some o) ⟨⟨_, _, rfl⟩, S5, g5, t5, fun b o _ e _ => e⟩ ?_ ?_⟩
  · rintro i σ H6 hi ⟨⟨s10, s11, rfl⟩, S6, g6, t6, kk⟩
    show t_turn K CR Pt q _ [s0, some (.ref d), some (.int n), some (.ref a), some (.ref F), some (.ref U), s6, s7, s8, some (.int (m : Int)), some (.int (i : Int)), s11, s12, s13] H6
    exact turn_run S6 Fa g6 (by omega) hi t6 fun s11 H7 S7 g7 t7 k7 => ⟨⟨_, _, rfl⟩, S7, g7, t7, fun b o hb e hu => k7 b o hb (kk b o hb e hu) hu⟩
  · rintro σ H6 ⟨⟨s10, s11, rfl⟩, S6, g6, t6, kk⟩
    refine odds_run t6 fun s12 H7 e7 t7 => k _ _ _ _ _ _ _ _ _ _ _ H7 (fun b o e hu => ?_) t7
    obtain ⟨ba, e4⟩ := keepH b o e
    exact e7 b o (kk b o ba (k5 b o ba e4) hu) hu
end
end C46

set_option maxHeartbeats 2000000
namespace C46
open PySem PySem.Spec PyProof.Rows L2
theorem sqL_same {K : PySem.W.Frag} {H H' : Hp} {a : Addr} {xs : List V} (h : SqL K H a xs) (s : Same H H') : SqL K H' a xs := by
  rcases h with (h | ⟨o, h⟩) | h
  · exact .inl (.inl (s _ _ h))
  · exact .inl (.inr ⟨o, s _ _ h⟩)
  · exact .inr h
theorem law_run {K : PySem.W.Frag} {CR Pt a : Addr} {q : Str} {H : Hp} {ns : List Int} (t : LamX.Tabs [(Pt, q)] H) (hS : SqL K H a (ns.map V.int)) (hn : ns.length ≤ 1000) :
    t_law K CR Pt q { nx := fun _ H' => (fun v (_ : Hp) => v = V.bl true) .non H', rt := fun v _ => v = .bl true } (L2.start Nlaw [.ref a]) H := by
  unfold t_law
  refine ⟨rfl, fun d Hd hd sd ld => ?_⟩
  have tD := tabs_same t sd
  refine ⟨_, rfl, szl (by decide), fun p0 h0 => ⟨a, p0, _, _, rfl, rfl, sqL_same hS (Same.trans' sd (Same.new' (Same.refl Hd) h0)), upd_same, Nat.le_trans (by rw [List.length_map, List.length_singleton]; omega : _ ≤ 1001) (by decide), fun p1 h1 => ⟨5, rfl, p1, _, rfl, upd_same, fun p2 h2 => ⟨p2, rfl, ⟨_, SqL.of upd_same⟩, ?_⟩⟩⟩⟩
  have s1 := Same.new' (o := .lst [.int 0]) (Same.refl Hd) h0
  generalize L2.upd Hd p0 (.lst [.int 0]) = G1 at *
  have s2 := Same.new' (o := .lst (ns.map V.int ++ [.int 0])) (Same.refl G1) h1
  generalize L2.upd G1 p1 (.lst (ns.map V.int ++ [.int 0])) = G2 at *
  have isInt : ∀ x ∈ cutV (ns.map V.int ++ [.int 0]) none (some 5), ∃ n : Int, x = .int n := by
    intro x hx
    unfold cutV at hx
    have h := List.mem_of_mem_drop (List.mem_of_mem_take hx)
    rcases List.mem_append.mp h with h | h
    · obtain ⟨n, _, e⟩ := List.mem_map.mp h
      exact ⟨n, e.symm⟩
    · exact ⟨0, List.mem_singleton.mp h⟩
  generalize cutV (ns.map V.int ++ [.int 0]) none (some 5) = xs at *
  have s3 := Same.new' (o := .lst xs) (Same.refl G2) h2
  have q3 : L2.upd G2 p2 (.lst xs) p2 = some (.lst xs) := upd_same
  have t3 : LamX.Tabs [(Pt, q)] (L2.upd G2 p2 (.lst xs)) := tabs_same (tabs_same (tabs_same tD s1) s2) s3
  have l3 : LawTab (L2.upd G2 p2 (.lst xs)) d tabL := ((ld.same s1).same s2).same s3
  generalize L2.upd G2 p2 (.lst xs) = G3 at *
  refine lp_list (xs := xs) (fun i σ H' => (∃ v2 v3 v4 v5 v6 v7 v8 v9 v10 v11 v12 v13, σ = [some (.ref a), some (.ref d), v2, v3, v4, v5, v6, v7, v8, v9, v10, v11, v12, v13]) ∧ LamX.ExtN G3 H' ∧ LamX.Tabs [(Pt, q)] H') ⟨⟨_, _, _, _, _, _, _, _, _, _, _, _, rfl⟩, LamX.ExtN.refl G3, t3⟩ (fun i σ H' _ ⟨_, e, _⟩ => SqL.of (e _ _ q3 (fun _ z => by cases z))) ?_ ?_
  · rintro i x σ H' hx ⟨⟨v2, v3, v4, v5, v6, v7, v8, v9, v10, v11, v12, v13, rfl⟩, e, t'⟩
    obtain ⟨n, rfl⟩ := isInt x (List.mem_of_getElem? hx)
    show t_cell K CR Pt q _ [some (.ref a), some (.ref d), some (.int n), v3, v4, v5, v6, v7, v8, v9, v10, v11, v12, v13] H'
    exact cell_run (l3.ext e) t' fun w3 w4 w5 w6 w7 w8 w9 w10 w11 w12 w13 H2 e2 t2 => ⟨⟨_, _, _, _, _, _, _, _, _, _, _, _, rfl⟩, e.trans e2, t2⟩
  · rintro σ H' ⟨_, e, t'⟩
    rfl
/-- the law runs well -/
theorem law_runs {P : Program} {w : World} {K : PySem.W.Frag} {mg : Str → Option Value} {CR CE CN CT CB gC fa co Pt a : Addr} {cdC : Value} {s : Shared} {ns : List Int} {oc : Value} {od : Option Addr} {dV kV doc pm ct : Value} {an : Option Addr} {osl : Array (Option Value)}
    (L : ∀ base, LawT P w K mg base CR CE CN CT CB gC cdC) (lk : K.lookup fa = some ⟨oc, od, .func (PySem.W.fnOf "law" "law" (defArgs slaw) (defBody slaw) (defScope slaw) dV kV doc pm an (.ref co) ct), osl⟩) (hcd : PySem.W.codeIn K (.ref co) "law" = true)
    (bind : ∀ (s : Shared) (v : Value), BindsTo s (PySem.W.fnOf "law" "law" (defArgs slaw) (defBody slaw) (defScope slaw) dV kV doc pm an (.ref co) ct) ⟨[v], []⟩ [("_law_script", v)]) (hn : ns.length ≤ 1000) : RunsAt P w K mg [(co, Pt)] fa a s ns := by
  intro base H KB nsB TB e0 hT hS
  refine LamX.run_ofS (N := Nlaw) (ps := ["_law_script"]) (us := [.ref a]) (vs := [.ref a]) lk hcd sclaw (k := 5) ⟨rfl, by decide, by decide⟩ e0 (bind s (.ref a)) (.cons rfl .nil) rfl fun hr => ?_
  refine ⟨_, (law_reads (L base) (TB _ (List.mem_singleton.mpr rfl)) hr rfl).nox, ?_⟩
  exact law_run (fun p hp => by rw [List.mem_singleton.mp hp]; exact LamX.TabS.nil (hT _ (List.mem_singleton.mpr rfl))) hS hn
end C46

set_option maxHeartbeats 4000000
namespace C46
open PySem PySem.Spec PyProof.Rows L2
/-! ### the exception's __init__ -/
section
variable {P : Program} {w : World} {K : PySem.W.Frag} {mg : Str → Option Value} {base : Heap} {f : Addr} {fd : FuncData}
abbrev sNoRows_init : Stmt := inClass (top 5) 0
theorem scNoRows_init : FnScope ["self", "at"] ["self", "at"] (defScope sNoRows_init) := ⟨rfl, rfl, rfl, by decide +kernel, rfl, by decide +kernel, by decide +kernel⟩

theorem ok_NoRows_init {CN : Addr} (ox : OexC K CN) (no : PySem.W.findIn K (.ref CN) "at" = some none) (F : FnP K "__init__" "NoRows.__init__" sNoRows_init f fd) : FnOk P w K mg base CX0 1 f fd ["self", "at"] (spXInit CN "at") := by
  refine F.ok scNoRows_init (fun vs H Q E h => ?_) (fun cdv A outer s H vs Q E hr h => ?_)
  · obtain ⟨a, v, rfl, _⟩ := h
    rfl
  · obtain ⟨a, v, rfl, ha, k⟩ := h
    refine ⟨_, PSs.nox (pss_one (ps_ost (pv 0) (pv 1))), ?_⟩
    exact ⟨v, rfl, .ref a, rfl, a, CN, rfl, ox, no, .inl ⟨ha, fun d hd nd => k d hd nd⟩⟩
end
theorem oexB_ok {K : PySem.W.Frag} {C : Addr} (h : oexB K C = true) : ∃ nm q N bs bm sn sub ab col dd k0 k1 k2 k3 k5, K.lookup C = some (excClassObj nm q C N bs bm true sn sub ab col dd k0 k1 k2 k3 k5 "ValueError.__new__") ∧ PySem.HandSPX.refsVE bm = true := by
  unfold oexB at h
  split at h
  · rename_i t dd cd sl e
    rw [Bool.and_eq_true] at h
    obtain ⟨ht, h⟩ := h
    split at h
    · rename_i D bm y0 y1 y2 y3 n y5 em es
      simp only [Bool.and_eq_true, decide_eq_true_eq, Bool.not_eq_true'] at h
      obtain ⟨h1, h2, h3, h4, h5⟩ := h
      have ht := of_decide_eq_true ht
      obtain ⟨nm, bs, mro, ns, qn, hd, sn, sub, ab, col, del⟩ := cd
      obtain ⟨l⟩ := sl
      dsimp only at em es h3 h4
      subst em es h1 h2 h3 h4 ht
      exact ⟨_, _, _, _, bm, _, _, _, _, _, _, _, _, _, _, e, h5⟩
    · cases h
  · cases h
theorem excB_ok {K : PySem.W.Frag} {D : Addr} (h : excB K D = true) : ExcC K D ∧ XfC K D ∧ PySem.W.typeIn K (.ref D) = some (.type "type") ∧ PySem.W.keepIn K (.ref D) = true ∧ PySem.W.findIn K (.ref D) "__setattr__" = some (some (.builtin "object.__setattr__")) := by
  unfold excB at h
  simp only [Bool.and_eq_true, decide_eq_true_eq] at h
  obtain ⟨h1, h2, h3, h4, h5, h6, h7, h8, h9, h10, h11⟩ := h
  exact ⟨⟨He.eqO_ok h1, He.eqO_ok h2, h3, h4, He.eqO_ok h5, He.eqO_ok h6, h7, h8⟩, ⟨He.eqO_ok h1, He.eqO_ok h2, h3, h4⟩, h9, h10, He.eqO_ok h11⟩
theorem tupIn_ok {K : PySem.W.Frag} {a : Addr} {us : List Value} {xs : List V} (h : tupIn K a = some us) (r : Vals xs us) (z : us.length ≤ 1000) : KTup K a xs := by
  unfold tupIn at h
  split at h
  · rename_i t dd its n sl e
    split at h
    · rename_i ht
      cases h
      exact ⟨_, its, n, e, by rw [ht], rfl, Nat.le_trans (by simpa using z) (by decide), r⟩
    · cases h
  · cases h
theorem okV_ok {u : Value} (h : okV u = true) : ∃ x : V, RelV x u := by
  cases u with
  | none => exact ⟨.non, rfl⟩
  | ref a => exact ⟨.ref a, rfl⟩
  | _ => cases h
theorem zeros_ok : ∀ {us : List Value}, us.all zeroV = true → Vals (List.replicate us.length (V.int 0)) us
  | [], _ => .nil
  | u :: us, h => by
    rw [List.all_cons, Bool.and_eq_true] at h
    obtain ⟨h1, h2⟩ := h
    cases u with
    | int i t =>
      have : i = 0 := of_decide_eq_true h1
      subst this
      exact .cons ⟨t, rfl⟩ (zeros_ok h2)
    | _ => cases h1
theorem formB_ok {K : PySem.W.Frag} {d : Addr} {p : Str × Int} (h : formB K d p = true) : ∃ (a b : Addr) (f : V), PySem.W.nsIn K d p.1 = some (some (.ref a)) ∧ KTup K a [.int p.2, .ref b, f] ∧ KTup K b (List.replicate (2 * cacN p.1) (.int 0)) := by
  unfold formB at h
  split at h
  · rename_i a e
    split at h
    · rename_i j t b u e2
      simp only [Bool.and_eq_true, decide_eq_true_eq] at h
      obtain ⟨h1, h2, h3⟩ := h
      split at h3
      · rename_i zs e3
        simp only [Bool.and_eq_true, decide_eq_true_eq] at h3
        obtain ⟨g1, g2, g3⟩ := h3
        obtain ⟨x, hx⟩ := okV_ok h2
        subst h1
        have r := zeros_ok g1
        rw [g2] at r
        exact ⟨a, b, x, e, tupIn_ok e2 (.cons ⟨t, rfl⟩ (.cons rfl (.cons hx .nil))) (by show 3 ≤ 1000; omega), tupIn_ok e3 r g3⟩
      · cases h3
    · cases h
  · cases h
theorem forms_ok {K : PySem.W.Frag} {d : Addr} (h : NUMW.all (formB K d) = true) {x : Str} {n : Int} (hv : lkp NUMW x = some n) : ∃ (a b : Addr) (f : V), PySem.W.nsIn K d x = some (some (.ref a)) ∧ KTup K a [.int n, .ref b, f] ∧ KTup K b (List.replicate (2 * cacN x) (.int 0)) := by
  unfold lkp at hv
  cases e : NUMW.find? fun p => decide (p.1 = x) with
  | none => rw [e] at hv; cases hv
  | some q =>
    rw [e] at hv
    cases hv
    have h1 := formB_ok (List.all_eq_true.mp h q (List.mem_of_find?_eq_some e))
    have h2 : q.1 = x := of_decide_eq_true (List.find?_some (p := fun p : Str × Int => decide (p.1 = x)) e)
    rwa [h2] at h1
end C46

set_option maxHeartbeats 4000000
namespace C46
open PySem PySem.Spec PyProof.Rows L2
abbrev Pk : Program := PySem.Challenge.pw_codewalk_k46_instructions_put_to_bytes
theorem k46_at {w : World} {mg : Str → Option Value} {fa : Addr} {h : Heap} (Y : hkk.says w h) (G : h.Ns mainGlobals mg) (hmg : mg "law" = some (.ref fa)) : ∃ (K : PySem.W.Frag) (cs : List (Addr × Addr)), K.In h ∧ (∀ p ∈ cs, h.get? p.2 = some { cls := .none, data := .fields #[] }) ∧
    (∀ p ∈ cs, K.lookup p.2 = none) ∧ (∀ p ∈ cs, PySem.W.CodeHd h p.1 p.2) ∧ ∀ (s : Shared) (a : Addr) (ns : List Int), ns.length ≤ 1000 → RunsAt Pk w K mg cs fa a s ns := by
  obtain ⟨K, X, c⟩ := Y
  have cd := c.t.d
  obtain ⟨fd_extra_of, F_extra_of⟩ := cd.def_ 0 (d := d_extra_of) rfl
  obtain ⟨fd_extension_of, F_extension_of⟩ := cd.def_ 1 (d := d_extension_of) rfl
  obtain ⟨fd_takes_argument, F_takes_argument⟩ := cd.def_ 2 (d := d_takes_argument) rfl
  obtain ⟨fd_bytes_of, F_bytes_of⟩ := cd.def_ 3 (d := d_bytes_of) rfl
  obtain ⟨fd_is_instruction, F_is_instruction⟩ := cd.def_ 4 (d := d_is_instruction) rfl
  obtain ⟨fd_NoRows_init, F_NoRows_init⟩ := cd.def_ 5 (d := d_NoRows_init) rfl
  obtain ⟨fd_source_of, F_source_of⟩ := cd.def_ 6 (d := d_source_of) rfl
  obtain ⟨fd_next, F_next⟩ := cd.def_ 7 (d := d_next) rfl
  obtain ⟨fd_one, F_one⟩ := cd.def_ 8 (d := d_one) rfl
  obtain ⟨fd_table, F_table⟩ := cd.def_ 9 (d := d_table) rfl
  obtain ⟨fd_packed, F_packed⟩ := cd.def_ 10 (d := d_packed) rfl
  obtain ⟨fd_great, F_great⟩ := cd.def_ 11 (d := d_great) rfl
  obtain ⟨fd_caught, F_caught⟩ := cd.def_ 12 (d := d_caught) rfl
  obtain ⟨fd_row, F_row⟩ := cd.def_ 13 (d := d_row) rfl
  obtain ⟨fd_odd, F_odd⟩ := cd.def_ 14 (d := d_odd) rfl
  obtain ⟨fd_law, F_law⟩ := cd.def_ 15 (d := d_law) rfl
  have g_extra_of := He.glo_ok X G (cd.fact 0 (f := .glo "extra_of") rfl)
  have g_extension_of := He.glo_ok X G (cd.fact 1 (f := .glo "extension_of") rfl)
  have g_takes_argument := He.glo_ok X G (cd.fact 2 (f := .glo "takes_argument") rfl)
  have g_bytes_of := He.glo_ok X G (cd.fact 3 (f := .glo "bytes_of") rfl)
  have g_is_instruction := He.glo_ok X G (cd.fact 4 (f := .glo "is_instruction") rfl)
  have g_source_of := He.glo_ok X G (cd.fact 5 (f := .glo "_law_source_of") rfl)
  have g_next := He.glo_ok X G (cd.fact 6 (f := .glo "_law_next") rfl)
  have g_one := He.glo_ok X G (cd.fact 7 (f := .glo "_law_one") rfl)
  have g_table := He.glo_ok X G (cd.fact 8 (f := .glo "_law_table") rfl)
  have g_packed := He.glo_ok X G (cd.fact 9 (f := .glo "_law_packed") rfl)
  have g_great := He.glo_ok X G (cd.fact 10 (f := .glo "_law_great") rfl)
  have g_caught := He.glo_ok X G (cd.fact 11 (f := .glo "_law_caught") rfl)
  have g_row := He.glo_ok X G (cd.fact 12 (f := .glo "_law_row") rfl)
  have g_odd := He.glo_ok X G (cd.fact 13 (f := .glo "_law_odd") rfl)
  have g_law := He.glo_ok X G (cd.fact 14 (f := .glo "law") rfl)
  have g_NoCode := He.glo_ok X G (cd.fact 15 (f := .glo "NoCode") rfl)
  have g_CodeError := He.glo_ok X G (cd.fact 16 (f := .glo "CodeError") rfl)
  have g_NoTable := He.glo_ok X G (cd.fact 17 (f := .glo "NoTable") rfl)
  have g_NoRows := He.glo_ok X G (cd.fact 18 (f := .glo "NoRows") rfl)
  have g_NoBytes := He.glo_ok X G (cd.fact 19 (f := .glo "NoBytes") rfl)
  have g_FORMS := He.glo_ok X G (cd.fact 20 (f := .glo "FORMS") rfl)
  have B_extra_of : Binds K fd_extra_of ["argument"] [] := F_extra_of.bindsN fun _ _ _ _ _ _ us hl => match us, hl with | [_], _ => rfl
  have B_extension_of : Binds K fd_extension_of ["argument"] [] := F_extension_of.bindsN fun _ _ _ _ _ _ us hl => match us, hl with | [_], _ => rfl
  have B_takes_argument : Binds K fd_takes_argument ["word"] [] := F_takes_argument.bindsN fun _ _ _ _ _ _ us hl => match us, hl with | [_], _ => rfl
  have B_bytes_of : Binds K fd_bytes_of ["rows"] [] := F_bytes_of.bindsN fun _ _ _ _ _ _ us hl => match us, hl with | [_], _ => rfl
  have B_is_instruction : Binds K fd_is_instruction ["word", "argument"] [] := F_is_instruction.bindsN fun _ _ _ _ _ _ us hl => match us, hl with | [_, _], _ => rfl
  have B_NoRows_init : Binds K fd_NoRows_init ["self", "at"] [] := F_NoRows_init.bindsN fun _ _ _ _ _ _ us hl => match us, hl with | [_, _], _ => rfl
  have B_source_of : Binds K fd_source_of ["_law_cell"] [] := F_source_of.bindsN fun _ _ _ _ _ _ us hl => match us, hl with | [_], _ => rfl
  have B_next : Binds K fd_next ["_law_source", "_law_many"] [] := F_next.bindsN fun _ _ _ _ _ _ us hl => match us, hl with | [_, _], _ => rfl
  have B_one : Binds K fd_one ["_law_source", "_law_some"] [] := F_one.bindsN fun _ _ _ _ _ _ us hl => match us, hl with | [_, _], _ => rfl
  have B_table : Binds K fd_table [] [] := F_table.bindsN fun _ _ _ _ _ _ us hl => match us, hl with | [], _ => rfl
  have B_packed : Binds K fd_packed ["_law_table_here", "_law_word", "_law_number"] [] := F_packed.bindsN fun _ _ _ _ _ _ us hl => match us, hl with | [_, _, _], _ => rfl
  have B_great : Binds K fd_great ["_law_source"] [] := F_great.bindsN fun _ _ _ _ _ _ us hl => match us, hl with | [_], _ => rfl
  have B_caught : Binds K fd_caught ["_law_ask"] [] := F_caught.bindsN fun _ _ _ _ _ _ us hl => match us, hl with | [_], _ => rfl
  have B_row : Binds K fd_row ["_law_source", "_law_table_here"] [] := F_row.bindsN fun _ _ _ _ _ _ us hl => match us, hl with | [_, _], _ => rfl
  have B_odd : Binds K fd_odd ["_law_source"] [] := F_odd.bindsN fun _ _ _ _ _ _ us hl => match us, hl with | [_], _ => rfl
  have B_law : Binds K fd_law ["_law_script"] [] := F_law.bindsN fun _ _ _ _ _ _ us hl => match us, hl with | [_], _ => rfl
  have T : Txt mg := ⟨He.free_ok X G (cd.fact 21 (f := .free "len") rfl), He.free_ok X G (cd.fact 22 (f := .free "int") rfl), He.free_ok X G (cd.fact 23 (f := .free "range") rfl), He.free_ok X G (cd.fact 24 (f := .free "tuple") rfl), He.free_ok X G (cd.fact 25 (f := .free "list") rfl), He.free_ok X G (cd.fact 26 (f := .free "isinstance") rfl), He.free_ok X G (cd.fact 27 (f := .free "bool") rfl), He.free_ok X G (cd.fact 28 (f := .free "str") rfl), He.free_ok X G (cd.fact 29 (f := .free "min") rfl), He.free_ok X G (cd.fact 30 (f := .free "sorted") rfl), He.free_ok X G (cd.fact 31 (f := .free "enumerate") rfl), He.int_ok X G (cd.fact 32 (f := .int "EXTENDED_ARG" 71) rfl), He.int_ok X G (cd.fact 33 (f := .int "FIRST_WITH_ARGUMENT" 45) rfl), He.int_ok X G (cd.fact 34 (f := .int "GREATEST_ARGUMENT" 4294967295) rfl)⟩
  have mo := c.more
  unfold exB exA exF at mo
  simp only [Bool.and_eq_true, decide_eq_true_eq] at mo
  obtain ⟨⟨m1, m2, m3, m4, m5, m6⟩, m7, m8⟩ := mo
  obtain ⟨eC, eF, eT, eK, eS⟩ := excB_ok m2
  obtain ⟨en, nn, kn⟩ := c.t.tab 0
  have W : Wt K w mg (He.ga K "FORMS") := by
    refine ⟨g_FORMS, ⟨en, nn, ⟨kn.at_, kn.lit, kn.low⟩⟩, fun x n h => ?_, fun x h => He.eqO_ok (List.all_eq_true.mp m8 x h)⟩
    obtain ⟨a, b, f, e1, e2, e3⟩ := forms_ok m7 h
    exact ⟨a, b, f, ⟨en, nn, _, kn.at_, kn.lit, e1, rfl⟩, e2, e3⟩
  have NT : NoRowsT K mg (He.ga K "NoRows") (He.ga K "CodeError") (He.ga K "NoCode") (He.ga K "NoTable") := ⟨eC, eF, He.eqO_ok m3, g_CodeError, g_NoRows, g_NoCode, g_NoTable, m4, He.exm_ok (cd.fact 35 (f := .exm "NoRows" "NoCode" false) rfl), He.exm_ok (cd.fact 36 (f := .exm "NoRows" "NoTable" false) rfl), He.exm_ok (cd.fact 37 (f := .exm "NoRows" "NoRows" true) rfl)⟩
  have ox : OexC K (He.ga K "NoRows") := ⟨oexB_ok m1, eS, eC.hs, eT, eK⟩
  have cal : ∀ {base : Heap} {k : Nat} {x : Str} {ps : List Str} {sp : Sp} {f : Addr} {fd : FuncData}, FnOk Pk w K mg base CX0 k f fd ps sp → mg x = some (.ref f) → PySem.W.keepIn K (.ref f) = true → Binds K fd ps [] → Cal Pk w K mg base k x ps sp := fun F g kp b => ⟨⟨_, _, F, g, kp, b⟩⟩
  obtain ⟨oc, od, dV, kV, doc, pm, an, cdC, ct, osl, rfl, lkC, hcC, _, _⟩ := F_caught.ex
  have law : ∀ base, LawT Pk w K mg base (He.ga K "NoRows") (He.ga K "CodeError") (He.ga K "NoCode") (He.ga K "NoTable") (He.ga K "NoBytes") (He.ga K "_law_caught") cdC := fun base => by
    have C_source_of := cal (base := base) (ok_source_of T F_source_of) g_source_of F_source_of.kp B_source_of
    have C_next := cal (base := base) (ok_next T F_next) g_next F_next.kp B_next
    have C_one := cal (base := base) (ok_one T F_one C_next) g_one F_one.kp B_one
    have C_table := cal (base := base) (ok_table T F_table) g_table F_table.kp B_table
    have C_packed := cal (base := base) (ok_packed T F_packed) g_packed F_packed.kp B_packed
    have C_great := cal (base := base) (ok_great T F_great C_next C_one) g_great F_great.kp B_great
    have C_row := cal (base := base) (ok_row T F_row C_one C_great) g_row F_row.kp B_row
    have C_odd := cal (base := base) (ok_odd T F_odd C_one) g_odd F_odd.kp B_odd
    have C_extra_of := cal (base := base) (ok_extra_of T F_extra_of) g_extra_of F_extra_of.kp B_extra_of
    have C_extension_of := cal (base := base) (ok_extension_of T F_extension_of C_extra_of) g_extension_of F_extension_of.kp B_extension_of
    have C_takes_argument := cal (base := base) (ok_takes T W F_takes_argument) g_takes_argument F_takes_argument.kp B_takes_argument
    have C_is_instruction := cal (base := base) (ok_is_instruction T W F_is_instruction C_takes_argument) g_is_instruction F_is_instruction.kp B_is_instruction
    have XN : Exn Pk w K mg base "NoRows" (He.ga K "NoRows") "at" := ⟨ox, g_NoRows, _, _, He.eqO_ok m6, m5, ok_NoRows_init ox (He.eqO_ok m3) F_NoRows_init, B_NoRows_init⟩
    exact ⟨T, NT, g_NoBytes, C_source_of, C_next, C_table, C_packed, C_row, C_odd,
      ⟨⟨_, _, ok_bytes_of T W XN F_bytes_of C_is_instruction C_extension_of, g_bytes_of, F_bytes_of.kp, B_bytes_of, kw1 F_bytes_of fun _ _ _ _ _ _ _ => rfl⟩⟩, g_caught, F_caught.kp, hcC, _, _, _, _, _, _, _, _, _, lkC, B_caught⟩
  have bl := fun s v => F_law.bindsA (ps := ["_law_script"]) (fun _ _ _ _ _ _ us hl => match us, hl with | [_], _ => rfl) s [v] rfl
  obtain ⟨oc2, od2, dV2, kV2, doc2, pm2, an2, cdL, ct2, osl2, rfl, lkL, hcL, _, _⟩ := F_law.ex
  obtain ⟨co, rfl⟩ := He.codeIn_ref hcL
  have eco : He.codeOf K ("law", none) = co := He.codeOf_eq (p := ("law", none)) lkL rfl
  have eT2 : He.cT K ("law", none) = (co, He.tabOf K co) := by unfold He.cT; rw [eco]
  have hd := c.hd ("law", none) (List.mem_singleton.mpr rfl)
  have ou := c.out ("law", none) (List.mem_singleton.mpr rfl)
  have em := c.empty ("law", none) (List.mem_singleton.mpr rfl)
  rw [eT2] at hd ou em
  have efa : fa = He.ga K "law" := by
    have := hmg.symm.trans g_law
    cases this
    rfl
  subst efa
  refine ⟨K, [(co, He.tabOf K co)], X, fun p hp => ?_, fun p hp => ?_, fun p hp => ?_, fun s a ns hn => law_runs law lkL hcL bl hn⟩
  · rw [List.mem_singleton.mp hp]
    exact em
  · rw [List.mem_singleton.mp hp]
    exact ou
  · rw [List.mem_singleton.mp hp]
    exact PySem.W.codeHd_of_K X hd
end C46
open PySem PySem.W PySem.Calls PyProof.Rows
theorem PySem.Challenge.cw_codewalk_k46_instructions_put_to_bytes_holds : PySem.Challenge.rw_codewalk_k46_instructions_put_to_bytes.Holds := by
  w_on; o_law
  refine HandSHeadRun.head_any (r := OpenLaw.row PySem.Challenge.rw_codewalk_k46_instructions_put_to_bytes) (q := view (OpenLaw.row PySem.Challenge.rw_codewalk_k46_instructions_put_to_bytes).prog [45]) (H := C46.hkk) (ob := C46.obk) (M := 6000) (loose := C46.loose) (d := HandSHeadRun.topDef (OpenLaw.row PySem.Challenge.rw_codewalk_k46_instructions_put_to_bytes).prog 45) (kwd := []) C46.obk_eq
    (by kernel_rfl) (fun s => by kernel_rfl) C46.runk (by kernel_rfl) (by kernel_rfl) (by kernel_rfl) (by rfl) (by first | assumption | decide +kernel) (by decide +kernel) ⟨rfl, rfl, rfl, rfl, rfl, by decide +kernel⟩ ?hw ?hc
  case hw => w_witness2
  case hc =>
    refine C46.walk_run (l := PySem.Challenge.rw_codewalk_k46_instructions_put_to_bytes) (n := 63) rfl (by decide) (by kernel_rfl) ?_
    intro w mg fa h Y G hmg0
    have hmg : mg ("law" : PySem.Str) = some (.ref fa) := by
      have e : (HandSHeadRun.topDef (OpenLaw.row PySem.Challenge.rw_codewalk_k46_instructions_put_to_bytes).prog 45).name = ("law" : PySem.Str) := by kernel_rfl
      rw [← e]
      exact hmg0
    obtain ⟨K, cs, h1, h2, h3, h4, h5⟩ := C46.k46_at Y G hmg
    exact ⟨K, cs, h1, h2, h3, h4, fun s a ns hl _ => h5 s a ns (Nat.le_trans hl (by decide))⟩
