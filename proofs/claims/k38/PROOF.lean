import PyProof.Rows.All
import Wide.All
import OpenK.AllK
import Wide.FinOn
import HandS.ExcInit
import HandS.ExcField
import HandS.ExcIs
import HandS.Words
import HandS.Head0
import HandS.Head1
import HandS.Head2
import HandS.HeadHook4
import PySem.Challenge.RW_codewalk_k38_ways_of_jumps
import HandS.ForMost
import HandS.Wide
import HandS.Defaults
import HandS.IsInst
import HandS.Style
import HandS.ForExc
import HandS.Zip
import HandS.WrittenGet
import HandS.Star
import HandS.WideBits
import HandS.SortInts
import HandS.Small
import KE.GoesMore
import PyProof.EnumMake
import PyProof.Draws
import HandS.MapJoin
import HandS.Codes
import HandS.Deep
import HandS.CallLocal
import HandS.Flow
import HandS.Iter
import HandS.Dict
import HandS.More
import HandS.DictComp
import HandS.EndTab
import HandS.HeadWalk
set_option Elab.async false
set_option linter.all false
set_option maxRecDepth 100000
set_option maxHeartbeats 4000000
namespace C38
open PySem PySem.Spec PyProof.Rows L2
def ztop (i : Nat) : Stmt := PySem.Challenge.pw_codewalk_k38_ways_of_jumps.main.body.getD i (.Pass ⟨0, 0, 0, 0⟩)
def zinClass (s : Stmt) (j : Nat) : Stmt := match s with
  | .ClassDef _ _ _ body _ _ _ _ _ _ _ => body.getD j (.Pass ⟨0, 0, 0, 0⟩)
  | _ => .Pass ⟨0, 0, 0, 0⟩
/-! ### the program's tables -/
def tupIn (K : PySem.W.Frag) (a : Addr) : Option (List Value) := match K.lookup a with
  | some ⟨.type t, _, .seq its _, _⟩ => if t = "tuple" then some its.toList else none
  | _ => none
def inB (K : PySem.W.Frag) (x : Str) (p : Str × Bool) : Bool := match PySem.W.nsIn K (He.ga K x) p.1 with
  | some r => r.isSome == p.2
  | none => false
def strB (K : PySem.W.Frag) (x : Str) (p : Str × Str) : Bool := match PySem.W.nsIn K (He.ga K x) p.1 with
  | some (some (.str z _)) => decide (z = p.2)
  | _ => false
def dirB (K : PySem.W.Frag) (p : Str × Str × Str) : Bool := match PySem.W.nsIn K (He.ga K "DIRECTIONS") p.1 with
  | some (some (.ref a)) => (match tupIn K a with
    | some [.str u _, .str v _] => decide (u = p.2.1) && decide (v = p.2.2)
    | _ => false)
  | _ => false
def ZL : List (Str × Bool) := ([("LOAD_NAME", false), ("POP_TOP", false), ("POP_JUMP_IF_FALSE", true), ("POP_JUMP_IF_TRUE", true), ("POP_JUMP_IF_NONE", true), ("POP_JUMP_IF_NOT_NONE", true), ("JUMP", true), ("JUMP_NO_INTERRUPT", true), ("LABEL", false), ("NOP", false), ("TO_BOOL", false)] : List (Str × Bool)) ++ ([("RETURN_VALUE", false), ("LOAD_FAST", false), ("STORE_FAST", false), ("DELETE_FAST", false), ("LOAD_CONST", false), ("SETUP_FINALLY", false), ("SETUP_CLEANUP", false), ("SETUP_WITH", false), ("POP_BLOCK", false), ("YIELD_VALUE", false), ("RESUME", false)] : List (Str × Bool)) ++ ([("RERAISE", false), ("LOAD_FAST_CHECK", false), ("RETURN_CONST", false), ("COMPARE_OP", false), ("IS_OP", false), ("CONTAINS_OP", false), ("UNARY_NOT", false), ("LOAD_GLOBAL", false), ("PUSH_NULL", false), ("CALL", false)] : List (Str × Bool))
def ZV : List (Str × Bool) := ([("LOAD_NAME", false), ("POP_TOP", false), ("POP_JUMP_IF_FALSE", false), ("POP_JUMP_IF_TRUE", false), ("POP_JUMP_IF_NONE", false), ("POP_JUMP_IF_NOT_NONE", false), ("JUMP", true), ("JUMP_NO_INTERRUPT", true), ("LABEL", false), ("NOP", false), ("TO_BOOL", false)] : List (Str × Bool)) ++ ([("RETURN_VALUE", true), ("LOAD_FAST", false), ("STORE_FAST", false), ("DELETE_FAST", false), ("LOAD_CONST", false), ("SETUP_FINALLY", false), ("SETUP_CLEANUP", false), ("SETUP_WITH", false), ("POP_BLOCK", false), ("YIELD_VALUE", false), ("RESUME", false)] : List (Str × Bool)) ++ ([("RERAISE", true), ("LOAD_FAST_CHECK", false), ("RETURN_CONST", true), ("COMPARE_OP", false), ("IS_OP", false), ("CONTAINS_OP", false), ("UNARY_NOT", false), ("LOAD_GLOBAL", false), ("PUSH_NULL", false), ("CALL", false)] : List (Str × Bool))
def ZT : List (Str × Bool) := ([("LOAD_NAME", false), ("POP_TOP", false), ("POP_JUMP_IF_FALSE", true), ("POP_JUMP_IF_TRUE", true), ("POP_JUMP_IF_NONE", true), ("POP_JUMP_IF_NOT_NONE", true), ("JUMP", true), ("JUMP_NO_INTERRUPT", true), ("LABEL", true), ("NOP", false), ("TO_BOOL", false)] : List (Str × Bool)) ++ ([("RETURN_VALUE", true), ("LOAD_FAST", false), ("STORE_FAST", false), ("DELETE_FAST", false), ("LOAD_CONST", false), ("SETUP_FINALLY", false), ("SETUP_CLEANUP", false), ("SETUP_WITH", false), ("POP_BLOCK", false), ("YIELD_VALUE", false), ("RESUME", false)] : List (Str × Bool)) ++ ([("RERAISE", true), ("LOAD_FAST_CHECK", false), ("RETURN_CONST", true), ("COMPARE_OP", false), ("IS_OP", false), ("CONTAINS_OP", false), ("UNARY_NOT", false), ("LOAD_GLOBAL", false), ("PUSH_NULL", false), ("CALL", false)] : List (Str × Bool))
def ZD : List (Str × Bool) := ([("LOAD_NAME", false), ("POP_TOP", false), ("POP_JUMP_IF_FALSE", false), ("POP_JUMP_IF_TRUE", false), ("POP_JUMP_IF_NONE", false), ("POP_JUMP_IF_NOT_NONE", false), ("JUMP", true), ("JUMP_NO_INTERRUPT", true), ("LABEL", false), ("NOP", false), ("TO_BOOL", false)] : List (Str × Bool)) ++ ([("RETURN_VALUE", false), ("LOAD_FAST", false), ("STORE_FAST", false), ("DELETE_FAST", false), ("LOAD_CONST", false), ("SETUP_FINALLY", false), ("SETUP_CLEANUP", false), ("SETUP_WITH", false), ("POP_BLOCK", false), ("YIELD_VALUE", false), ("RESUME", false)] : List (Str × Bool)) ++ ([("RERAISE", false), ("LOAD_FAST_CHECK", false), ("RETURN_CONST", false), ("COMPARE_OP", false), ("IS_OP", false), ("CONTAINS_OP", false), ("UNARY_NOT", false), ("LOAD_GLOBAL", false), ("PUSH_NULL", false), ("CALL", false)] : List (Str × Bool))
def ZO : List (Str × Bool) := ([("LOAD_NAME", false), ("POP_TOP", false), ("POP_JUMP_IF_FALSE", true), ("POP_JUMP_IF_TRUE", true), ("POP_JUMP_IF_NONE", true), ("POP_JUMP_IF_NOT_NONE", true), ("JUMP", false), ("JUMP_NO_INTERRUPT", false), ("LABEL", false), ("NOP", false), ("TO_BOOL", false)] : List (Str × Bool)) ++ ([("RETURN_VALUE", false), ("LOAD_FAST", false), ("STORE_FAST", false), ("DELETE_FAST", false), ("LOAD_CONST", false), ("SETUP_FINALLY", false), ("SETUP_CLEANUP", false), ("SETUP_WITH", false), ("POP_BLOCK", false), ("YIELD_VALUE", false), ("RESUME", false)] : List (Str × Bool)) ++ ([("RERAISE", false), ("LOAD_FAST_CHECK", false), ("RETURN_CONST", false), ("COMPARE_OP", false), ("IS_OP", false), ("CONTAINS_OP", false), ("UNARY_NOT", false), ("LOAD_GLOBAL", false), ("PUSH_NULL", false), ("CALL", false)] : List (Str × Bool))
def ZDw : List (Str × Str × Str) := [("JUMP", "JUMP_FORWARD", "JUMP_BACKWARD"), ("JUMP_NO_INTERRUPT", "JUMP_FORWARD", "JUMP_BACKWARD_NO_INTERRUPT")]
def ZOw : List (Str × Str) := [("POP_JUMP_IF_FALSE", "POP_JUMP_IF_TRUE"), ("POP_JUMP_IF_TRUE", "POP_JUMP_IF_FALSE"), ("POP_JUMP_IF_NONE", "POP_JUMP_IF_NOT_NONE"), ("POP_JUMP_IF_NOT_NONE", "POP_JUMP_IF_NONE")]
def exA (K : PySem.W.Frag) : Bool := ZL.all (inB K "LEADING") && ZV.all (inB K "LEAVING")
def exF (K : PySem.W.Frag) : Bool := ZT.all (inB K "TURNING") && (ZD.all (inB K "DIRECTIONS") && ZO.all (inB K "OPPOSITES"))
def exG (K : PySem.W.Frag) : Bool := ZDw.all (dirB K) && ZOw.all (strB K "OPPOSITES")
def exB (K : PySem.W.Frag) : Bool := exA K && (exF K && exG K)
abbrev zwords_in : Stmt := ztop 32
abbrev zfirst_rows : Stmt := ztop 25
abbrev zreached_rows : Stmt := ztop 26
abbrev zreached_without : Stmt := ztop 27
abbrev zwith_handlers : Stmt := ztop 24
abbrev zwith_lines : Stmt := ztop 67
abbrev zwith_lines_on_ways : Stmt := ztop 68
abbrev zsources_of : Stmt := ztop 70
abbrev zlines_along : Stmt := ztop 69
abbrev zwith_checks : Stmt := ztop 15
abbrev zwith_directions : Stmt := ztop 83
abbrev zflowed : Stmt := ztop 80
abbrev zl_source_of : Stmt := ztop 85
abbrev zl_next : Stmt := ztop 86
abbrev zl_one : Stmt := ztop 87
abbrev zl_head : Stmt := ztop 88
abbrev zl_opposite : Stmt := ztop 89
abbrev zl_words : Stmt := ztop 90
abbrev zl_parts : Stmt := ztop 91
abbrev zl_rows : Stmt := ztop 92
abbrev zl_due : Stmt := ztop 93
abbrev zlaw : Stmt := ztop 94
def d_words_in : He.DefD := ⟨("words_in", none), "words_in", "words_in", defArgs zwords_in, defBody zwords_in, defScope zwords_in, [], []⟩
def d_first_rows : He.DefD := ⟨("first_rows", none), "first_rows", "first_rows", defArgs zfirst_rows, defBody zfirst_rows, defScope zfirst_rows, [], []⟩
def d_reached_rows : He.DefD := ⟨("reached_rows", none), "reached_rows", "reached_rows", defArgs zreached_rows, defBody zreached_rows, defScope zreached_rows, [], []⟩
def d_reached_without : He.DefD := ⟨("reached_without", none), "reached_without", "reached_without", defArgs zreached_without, defBody zreached_without, defScope zreached_without, [], []⟩
def d_with_handlers : He.DefD := ⟨("with_handlers", none), "with_handlers", "with_handlers", defArgs zwith_handlers, defBody zwith_handlers, defScope zwith_handlers, [], []⟩
def d_with_lines : He.DefD := ⟨("with_lines", none), "with_lines", "with_lines", defArgs zwith_lines, defBody zwith_lines, defScope zwith_lines, [], []⟩
def d_with_lines_on_ways : He.DefD := ⟨("with_lines_on_ways", none), "with_lines_on_ways", "with_lines_on_ways", defArgs zwith_lines_on_ways, defBody zwith_lines_on_ways, defScope zwith_lines_on_ways, [], []⟩
def d_sources_of : He.DefD := ⟨("sources_of", none), "sources_of", "sources_of", defArgs zsources_of, defBody zsources_of, defScope zsources_of, [], []⟩
def d_lines_along : He.DefD := ⟨("lines_along", none), "lines_along", "lines_along", defArgs zlines_along, defBody zlines_along, defScope zlines_along, [], []⟩
def d_with_checks : He.DefD := ⟨("with_checks", none), "with_checks", "with_checks", defArgs zwith_checks, defBody zwith_checks, defScope zwith_checks, [], []⟩
def d_with_directions : He.DefD := ⟨("with_directions", none), "with_directions", "with_directions", defArgs zwith_directions, defBody zwith_directions, defScope zwith_directions, [], []⟩
def d_flowed : He.DefD := ⟨("flowed", none), "flowed", "flowed", defArgs zflowed, defBody zflowed, defScope zflowed, [.bl true], []⟩
def d_l_source_of : He.DefD := ⟨("_law_source_of", none), "_law_source_of", "_law_source_of", defArgs zl_source_of, defBody zl_source_of, defScope zl_source_of, [], []⟩
def d_l_next : He.DefD := ⟨("_law_next", none), "_law_next", "_law_next", defArgs zl_next, defBody zl_next, defScope zl_next, [], []⟩
def d_l_one : He.DefD := ⟨("_law_one", none), "_law_one", "_law_one", defArgs zl_one, defBody zl_one, defScope zl_one, [], []⟩
def d_l_head : He.DefD := ⟨("_law_head", none), "_law_head", "_law_head", defArgs zl_head, defBody zl_head, defScope zl_head, [], []⟩
def d_l_opposite : He.DefD := ⟨("_law_opposite", none), "_law_opposite", "_law_opposite", defArgs zl_opposite, defBody zl_opposite, defScope zl_opposite, [], []⟩
def d_l_words : He.DefD := ⟨("_law_words", none), "_law_words", "_law_words", defArgs zl_words, defBody zl_words, defScope zl_words, [], []⟩
def d_l_parts : He.DefD := ⟨("_law_parts", none), "_law_parts", "_law_parts", defArgs zl_parts, defBody zl_parts, defScope zl_parts, [], []⟩
def d_l_rows : He.DefD := ⟨("_law_rows", none), "_law_rows", "_law_rows", defArgs zl_rows, defBody zl_rows, defScope zl_rows, [], []⟩
def d_l_due : He.DefD := ⟨("_law_due", none), "_law_due", "_law_due", defArgs zl_due, defBody zl_due, defScope zl_due, [], []⟩
def d_law : He.DefD := ⟨("law", none), "law", "law", defArgs zlaw, defBody zlaw, defScope zlaw, [], []⟩
def fns : List He.DefD := [d_words_in, d_first_rows, d_reached_rows, d_reached_without, d_with_handlers, d_with_lines, d_with_lines_on_ways, d_sources_of, d_lines_along, d_with_checks, d_with_directions, d_flowed, d_l_source_of, d_l_next, d_l_one, d_l_head, d_l_opposite, d_l_words, d_l_parts, d_l_rows, d_l_due, d_law]
def fas : List He.Fa := [.glo "words_in", .glo "first_rows", .glo "reached_rows", .glo "reached_without", .glo "with_handlers", .glo "with_lines", .glo "with_lines_on_ways", .glo "sources_of", .glo "lines_along", .glo "with_checks", .glo "with_directions", .glo "flowed", .glo "_law_source_of", .glo "_law_next", .glo "_law_one", .glo "_law_head", .glo "_law_opposite", .glo "_law_words", .glo "_law_parts", .glo "_law_rows", .glo "_law_due", .glo "law", .glo "LEADING", .glo "LEAVING", .glo "TURNING", .glo "DIRECTIONS", .glo "OPPOSITES", .glo "NOTHING_handlers", .free "len", .free "int", .free "range", .free "tuple", .free "list", .free "isinstance", .free "bool", .free "str", .free "max", .free "min", .free "enumerate", .free "any", .free "all", .free "zip", .free "sum", .free "sorted", .free "repr", .free "dict"]
def tabs : List He.Tab := [(fun K => He.ga K "LEADING", (["FOR_ITER", "JUMP", "JUMP_BACKWARD", "JUMP_BACKWARD_NO_INTERRUPT", "JUMP_FORWARD", "JUMP_NO_INTERRUPT", "POP_JUMP_IF_FALSE", "POP_JUMP_IF_NONE", "POP_JUMP_IF_NOT_NONE", "POP_JUMP_IF_TRUE", "SEND"] : List Str)), (fun K => He.ga K "LEAVING", (["JUMP", "JUMP_BACKWARD", "JUMP_BACKWARD_NO_INTERRUPT", "JUMP_FORWARD", "JUMP_NO_INTERRUPT", "RAISE_VARARGS", "RERAISE", "RETURN_CONST", "RETURN_VALUE"] : List Str)), (fun K => He.ga K "TURNING", (["FOR_ITER", "JUMP", "JUMP_BACKWARD", "JUMP_BACKWARD_NO_INTERRUPT", "JUMP_FORWARD", "JUMP_NO_INTERRUPT", "LABEL", "POP_JUMP_IF_FALSE", "POP_JUMP_IF_NONE", "POP_JUMP_IF_NOT_NONE", "POP_JUMP_IF_TRUE", "RAISE_VARARGS", "RERAISE", "RETURN_CONST", "RETURN_VALUE", "SEND"] : List Str)), (fun K => He.ga K "DIRECTIONS", (["JUMP", "JUMP_NO_INTERRUPT"] : List Str)), (fun K => He.ga K "OPPOSITES", (["POP_JUMP_IF_FALSE", "POP_JUMP_IF_TRUE", "POP_JUMP_IF_NONE", "POP_JUMP_IF_NOT_NONE"] : List Str))]
abbrev Rk : PySem.W.OpenRow := PySem.W.OpenLaw.row PySem.Challenge.rw_codewalk_k38_ways_of_jumps
def tfs : List He.Defn := []
/-! ### a head's hook that looks at the objects of the top in their order, one by one -/
def asY (n : Nat) : List Addr := mainGlobals :: List.range' 11 (n - 11)
def obsY (fa : List He.Fa) (fn : List He.DefD) (ts : List He.Tab) (tf : List He.Defn) (ex : PySem.W.Frag → Bool) (g : Addr → Option Obj) (n : Nat) : He.AlX := (He.obsT fa fn ts (He.frT g (asY n)), ex (He.frT g (asY n)) && He.tabsB g tf (He.frT g (asY n)))
theorem saysY_of {as : List Addr} {fa : List He.Fa} {fn : List He.DefD} {ts : List He.Tab} {tf : List He.Defn} {ex : PySem.W.Frag → Bool} {w : World} {h : Heap} (e1 : He.obsT fa fn ts (He.frT h.get? as) = He.valT fn ts w) (e2 : (ex (He.frT h.get? as) && He.tabsB h.get? tf (He.frT h.get? as)) = true) :
    He.SaysX fa fn ts tf ex w h (He.frT h.get? as) := by
  obtain ⟨h1, h2⟩ := He.ba e2
  have key : ∀ p ∈ tf, PySem.W.codeHdIn (He.frT h.get? as) (He.cT (He.frT h.get? as) p).1 (He.cT (He.frT h.get? as) p).2 = true ∧ ∃ o, h.get? (He.cT (He.frT h.get? as) p).2 = some o ∧ He.emptyTab o = true := fun p hp => by
    obtain ⟨h3, h4⟩ := He.ba (List.all_eq_true.mp h2 p hp)
    refine ⟨h3, ?_⟩
    cases q : h.get? (He.cT (He.frT h.get? as) p).2 with
    | none =>
      rw [q] at h4
      cases h4
    | some o =>
      rw [q] at h4
      exact ⟨o, rfl, h4⟩
  exact ⟨e1, h1, fun p hp => (key p hp).1, fun p hp => by
    obtain ⟨_, o, q, z⟩ := key p hp
    exact He.frT_none q z, fun p hp => by
    obtain ⟨_, o, q, z⟩ := key p hp
    rw [q, He.emptyTab_eq z]⟩
def hookY (fa : List He.Fa) (fn : List He.DefD) (ts : List He.Tab) (tf : List He.Defn) (ex : PySem.W.Frag → Bool) : PySem.W.Hook where
  α := He.AlX
  obs := fun s => obsY fa fn ts tf ex s.heap.get? s.heap.objs.size
  val := fun w => He.valX fn ts w
  says := fun w h => ∃ K : PySem.W.Frag, K.In h ∧ He.SaysX fa fn ts tf ex w h K
  of := fun _ _ e => ⟨_, He.frT_in, saysY_of (congrArg (fun z : He.AlX => z.1) e) (congrArg (fun z : He.AlX => z.2) e)⟩
  keeps := fun _ _ _ ⟨K, hK, c⟩ k => ⟨K, PySem.W.Frag.In.keeps hK k, ⟨c.t, c.more, c.hd, c.out, fun p hp => k _ _ (c.empty p hp)⟩⟩
theorem obsY_eq {fa : List He.Fa} {fn : List He.DefD} {ts : List He.Tab} {tf : List He.Defn} {ex : PySem.W.Frag → Bool} {s : PySem.W.SharedT} : obsY fa fn ts tf ex (HandSHeadRun.getT s) s.n = (hookY fa fn ts tf ex).obs s.abs := by
  have e : HandSHeadRun.getT s = s.abs.heap.get? := funext (HandSHeadRun.getT_eq s)
  have z : s.abs.heap.objs.size = s.n := PySem.W.absHeap_size _ _ _
  show obsY fa fn ts tf ex (HandSHeadRun.getT s) s.n = obsY fa fn ts tf ex s.abs.heap.get? s.abs.heap.objs.size
  rw [z, e]

abbrev hkk : PySem.W.Hook := hookY fas fns tabs tfs exB
def obk (s : PySem.W.SharedT) : He.AlX := obsY fas fns tabs tfs exB (HandSHeadRun.getT s) s.n
theorem obk_eq (s : PySem.W.SharedT) : obk s = hkk.obs s.abs := obsY_eq
def loose : List Str := (["EFFECTS", "COUNTED_EFFECTS", "LEADING", "LEAVING", "TURNING", "QUIET", "LOCAL", "effect_of", "parameters_of", "numbers_of", "locals_in", "CHANGING", "with_checks", "lacking_in_order", "lacking_on_ways", "bits_of", "Bound", "NOTHING_handlers", "SETUPS", "OPENING"] : List Str) ++ (["with_handlers", "first_rows", "reached_rows", "reached_without", "reached_with", "opened", "tell_handler", "words_in", "places_of", "reached", "without_unreached", "NOTHING_rounds", "ROWS", "WAYS", "JUMPS", "THREADED", "rounds", "rounds_with_labels", "cleared", "only_telling"] : List Str) ++ (["combine", "blank", "combine_truth", "combine_jump", "combine_none", "combine_null", "combine_return", "RULES", "MEETING", "BOOLS", "turn_jumps", "jumps_in", "thread", "onward_labels", "last_labels", "drop_jumps", "leads_on", "without_nops", "tells_line_ahead", "may_meet"] : List Str) ++ (["with_lines", "with_lines_on_ways", "lines_along", "sources_of", "sources_at_labels", "leads_of", "with_cold_last", "moved_back", "warm_rows", "MOST_IN_PAIRS", "DIRECTIONS", "OPPOSITES", "flowed", "with_pairs", "are_alike", "with_directions", "_law_source_of", "_law_next", "_law_one", "_law_head"] : List Str) ++ (["_law_opposite", "_law_words", "_law_parts", "_law_rows", "_law_due"] : List Str)
/-- a dict display asks the world about one row: both answers are the same run -/
def fixW (w : World) (b : Bool) : World := { w with params := { w.params with followText := fun s => if s = "special-get-raises" then b else w.params.followText s } }
theorem fixW_eq (w : World) : fixW w (w.params.followText "special-get-raises") = w := by
  have e : (fun s => if s = "special-get-raises" then w.params.followText "special-get-raises" else w.params.followText s) = w.params.followText := by
    funext s
    split
    · rename_i h
      rw [h]
    · rfl
  unfold fixW
  rw [e]
abbrev K_ (s : PySem.W.SharedT) : PySem.W.Frag := He.frT (HandSHeadRun.getT s) (asY s.n)
noncomputable abbrev endW (w : World) (os : OsState) : Option PySem.W.SharedT := HandSHeadRun.endF (HandSHeadRun.stepQ (HandSHeadRun.denQ HandSHeadRun.tabQ) Rk.prog w) 16000 Rk.prog w os
/-! ### the state in the midst of the top, and behind it -/
section
open PySem
def ob0 (P : Params) : Obj := Obj.mk (Value.type "dict") Option.none (Data.dict #[DictEntry.mk (PySem.PyData.keyHash P (Str.ofString "__name__")) (Value.str (Str.ofString "__name__") 1) (Value.str (Str.ofString "builtins") 160), DictEntry.mk (PySem.PyData.keyHash P (Str.ofString "__doc__")) (Value.str (Str.ofString "__doc__") 2) (Value.builtin "builtins.__doc__:str#opaque"), DictEntry.mk (PySem.PyData.keyHash P (Str.ofString "__package__")) (Value.str (Str.ofString "__package__") 3) (Value.builtin "builtins.__package__:str#opaque"), DictEntry.mk (PySem.PyData.keyHash P (Str.ofString "__loader__")) (Value.str (Str.ofString "__loader__") 4) (Value.builtin "builtins.__loader__:shared#opaque"), DictEntry.mk (PySem.PyData.keyHash P (Str.ofString "__spec__")) (Value.str (Str.ofString "__spec__") 5) (Value.builtin "builtins.__spec__#opaque"), DictEntry.mk (PySem.PyData.keyHash P (Str.ofString "__build_class__")) (Value.str (Str.ofString "__build_class__") 6) (Value.builtin "__build_class__"), DictEntry.mk (PySem.PyData.keyHash P (Str.ofString "__import__")) (Value.str (Str.ofString "__import__") 7) (Value.builtin "__import__"), DictEntry.mk (PySem.PyData.keyHash P (Str.ofString "abs")) (Value.str (Str.ofString "abs") 8) (Value.builtin "abs"), DictEntry.mk (PySem.PyData.keyHash P (Str.ofString "all")) (Value.str (Str.ofString "all") 9) (Value.builtin "all"), DictEntry.mk (PySem.PyData.keyHash P (Str.ofString "any")) (Value.str (Str.ofString "any") 10) (Value.builtin "any"), DictEntry.mk (PySem.PyData.keyHash P (Str.ofString "ascii")) (Value.str (Str.ofString "ascii") 11) (Value.builtin "ascii"), DictEntry.mk (PySem.PyData.keyHash P (Str.ofString "bin")) (Value.str (Str.ofString "bin") 12) (Value.builtin "bin"), DictEntry.mk (PySem.PyData.keyHash P (Str.ofString "breakpoint")) (Value.str (Str.ofString "breakpoint") 13) (Value.builtin "breakpoint"), DictEntry.mk (PySem.PyData.keyHash P (Str.ofString "callable")) (Value.str (Str.ofString "callable") 14) (Value.builtin "callable"), DictEntry.mk (PySem.PyData.keyHash P (Str.ofString "chr")) (Value.str (Str.ofString "chr") 15) (Value.builtin "chr"), DictEntry.mk (PySem.PyData.keyHash P (Str.ofString "compile")) (Value.str (Str.ofString "compile") 16) (Value.builtin "compile"), DictEntry.mk (PySem.PyData.keyHash P (Str.ofString "delattr")) (Value.str (Str.ofString "delattr") 17) (Value.builtin "delattr"), DictEntry.mk (PySem.PyData.keyHash P (Str.ofString "dir")) (Value.str (Str.ofString "dir") 18) (Value.builtin "dir"), DictEntry.mk (PySem.PyData.keyHash P (Str.ofString "divmod")) (Value.str (Str.ofString "divmod") 19) (Value.builtin "divmod"), DictEntry.mk (PySem.PyData.keyHash P (Str.ofString "eval")) (Value.str (Str.ofString "eval") 20) (Value.builtin "eval"), DictEntry.mk (PySem.PyData.keyHash P (Str.ofString "exec")) (Value.str (Str.ofString "exec") 21) (Value.builtin "exec"), DictEntry.mk (PySem.PyData.keyHash P (Str.ofString "format")) (Value.str (Str.ofString "format") 22) (Value.builtin "format"), DictEntry.mk (PySem.PyData.keyHash P (Str.ofString "getattr")) (Value.str (Str.ofString "getattr") 23) (Value.builtin "getattr"), DictEntry.mk (PySem.PyData.keyHash P (Str.ofString "globals")) (Value.str (Str.ofString "globals") 24) (Value.builtin "globals"), DictEntry.mk (PySem.PyData.keyHash P (Str.ofString "hasattr")) (Value.str (Str.ofString "hasattr") 25) (Value.builtin "hasattr"), DictEntry.mk (PySem.PyData.keyHash P (Str.ofString "hash")) (Value.str (Str.ofString "hash") 26) (Value.builtin "hash"), DictEntry.mk (PySem.PyData.keyHash P (Str.ofString "hex")) (Value.str (Str.ofString "hex") 27) (Value.builtin "hex"), DictEntry.mk (PySem.PyData.keyHash P (Str.ofString "id")) (Value.str (Str.ofString "id") 28) (Value.builtin "id"), DictEntry.mk (PySem.PyData.keyHash P (Str.ofString "input")) (Value.str (Str.ofString "input") 29) (Value.builtin "input"), DictEntry.mk (PySem.PyData.keyHash P (Str.ofString "isinstance")) (Value.str (Str.ofString "isinstance") 30) (Value.builtin "isinstance"), DictEntry.mk (PySem.PyData.keyHash P (Str.ofString "issubclass")) (Value.str (Str.ofString "issubclass") 31) (Value.builtin "issubclass"), DictEntry.mk (PySem.PyData.keyHash P (Str.ofString "iter")) (Value.str (Str.ofString "iter") 32) (Value.builtin "iter"), DictEntry.mk (PySem.PyData.keyHash P (Str.ofString "aiter")) (Value.str (Str.ofString "aiter") 33) (Value.builtin "aiter"), DictEntry.mk (PySem.PyData.keyHash P (Str.ofString "len")) (Value.str (Str.ofString "len") 34) (Value.builtin "len"), DictEntry.mk (PySem.PyData.keyHash P (Str.ofString "locals")) (Value.str (Str.ofString "locals") 35) (Value.builtin "locals"), DictEntry.mk (PySem.PyData.keyHash P (Str.ofString "max")) (Value.str (Str.ofString "max") 36) (Value.builtin "max"), DictEntry.mk (PySem.PyData.keyHash P (Str.ofString "min")) (Value.str (Str.ofString "min") 37) (Value.builtin "min"), DictEntry.mk (PySem.PyData.keyHash P (Str.ofString "next")) (Value.str (Str.ofString "next") 38) (Value.builtin "next"), DictEntry.mk (PySem.PyData.keyHash P (Str.ofString "anext")) (Value.str (Str.ofString "anext") 39) (Value.builtin "anext"), DictEntry.mk (PySem.PyData.keyHash P (Str.ofString "oct")) (Value.str (Str.ofString "oct") 40) (Value.builtin "oct"), DictEntry.mk (PySem.PyData.keyHash P (Str.ofString "ord")) (Value.str (Str.ofString "ord") 41) (Value.builtin "ord"), DictEntry.mk (PySem.PyData.keyHash P (Str.ofString "pow")) (Value.str (Str.ofString "pow") 42) (Value.builtin "pow"), DictEntry.mk (PySem.PyData.keyHash P (Str.ofString "print")) (Value.str (Str.ofString "print") 43) (Value.builtin "print"), DictEntry.mk (PySem.PyData.keyHash P (Str.ofString "repr")) (Value.str (Str.ofString "repr") 44) (Value.builtin "repr"), DictEntry.mk (PySem.PyData.keyHash P (Str.ofString "round")) (Value.str (Str.ofString "round") 45) (Value.builtin "round"), DictEntry.mk (PySem.PyData.keyHash P (Str.ofString "setattr")) (Value.str (Str.ofString "setattr") 46) (Value.builtin "setattr"), DictEntry.mk (PySem.PyData.keyHash P (Str.ofString "sorted")) (Value.str (Str.ofString "sorted") 47) (Value.builtin "sorted"), DictEntry.mk (PySem.PyData.keyHash P (Str.ofString "sum")) (Value.str (Str.ofString "sum") 48) (Value.builtin "sum"), DictEntry.mk (PySem.PyData.keyHash P (Str.ofString "vars")) (Value.str (Str.ofString "vars") 49) (Value.builtin "vars"), DictEntry.mk (PySem.PyData.keyHash P (Str.ofString "None")) (Value.str (Str.ofString "None") 50) Value.none, DictEntry.mk (PySem.PyData.keyHash P (Str.ofString "Ellipsis")) (Value.str (Str.ofString "Ellipsis") 51) Value.ellipsis, DictEntry.mk (PySem.PyData.keyHash P (Str.ofString "NotImplemented")) (Value.str (Str.ofString "NotImplemented") 52) Value.notImplemented, DictEntry.mk (PySem.PyData.keyHash P (Str.ofString "False")) (Value.str (Str.ofString "False") 53) (Value.bool Bool.false), DictEntry.mk (PySem.PyData.keyHash P (Str.ofString "True")) (Value.str (Str.ofString "True") 54) (Value.bool Bool.true), DictEntry.mk (PySem.PyData.keyHash P (Str.ofString "bool")) (Value.str (Str.ofString "bool") 55) (Value.type "bool"), DictEntry.mk (PySem.PyData.keyHash P (Str.ofString "memoryview")) (Value.str (Str.ofString "memoryview") 56) (Value.type "memoryview"), DictEntry.mk (PySem.PyData.keyHash P (Str.ofString "bytearray")) (Value.str (Str.ofString "bytearray") 57) (Value.type "bytearray"), DictEntry.mk (PySem.PyData.keyHash P (Str.ofString "bytes")) (Value.str (Str.ofString "bytes") 58) (Value.type "bytes"), DictEntry.mk (PySem.PyData.keyHash P (Str.ofString "classmethod")) (Value.str (Str.ofString "classmethod") 59) (Value.type "classmethod"), DictEntry.mk (PySem.PyData.keyHash P (Str.ofString "complex")) (Value.str (Str.ofString "complex") 60) (Value.type "complex"), DictEntry.mk (PySem.PyData.keyHash P (Str.ofString "dict")) (Value.str (Str.ofString "dict") 61) (Value.type "dict"), DictEntry.mk (PySem.PyData.keyHash P (Str.ofString "enumerate")) (Value.str (Str.ofString "enumerate") 62) (Value.type "enumerate"), DictEntry.mk (PySem.PyData.keyHash P (Str.ofString "filter")) (Value.str (Str.ofString "filter") 63) (Value.type "filter"), DictEntry.mk (PySem.PyData.keyHash P (Str.ofString "float")) (Value.str (Str.ofString "float") 64) (Value.type "float"), DictEntry.mk (PySem.PyData.keyHash P (Str.ofString "frozenset")) (Value.str (Str.ofString "frozenset") 65) (Value.type "frozenset"), DictEntry.mk (PySem.PyData.keyHash P (Str.ofString "property")) (Value.str (Str.ofString "property") 66) (Value.type "property"), DictEntry.mk (PySem.PyData.keyHash P (Str.ofString "int")) (Value.str (Str.ofString "int") 67) (Value.type "int"), DictEntry.mk (PySem.PyData.keyHash P (Str.ofString "list")) (Value.str (Str.ofString "list") 68) (Value.type "list"), DictEntry.mk (PySem.PyData.keyHash P (Str.ofString "map")) (Value.str (Str.ofString "map") 69) (Value.type "map"), DictEntry.mk (PySem.PyData.keyHash P (Str.ofString "object")) (Value.str (Str.ofString "object") 70) (Value.type "object"), DictEntry.mk (PySem.PyData.keyHash P (Str.ofString "range")) (Value.str (Str.ofString "range") 71) (Value.type "range"), DictEntry.mk (PySem.PyData.keyHash P (Str.ofString "reversed")) (Value.str (Str.ofString "reversed") 72) (Value.type "reversed"), DictEntry.mk (PySem.PyData.keyHash P (Str.ofString "set")) (Value.str (Str.ofString "set") 73) (Value.type "set"), DictEntry.mk (PySem.PyData.keyHash P (Str.ofString "slice")) (Value.str (Str.ofString "slice") 74) (Value.type "slice"), DictEntry.mk (PySem.PyData.keyHash P (Str.ofString "staticmethod")) (Value.str (Str.ofString "staticmethod") 75) (Value.type "staticmethod"), DictEntry.mk (PySem.PyData.keyHash P (Str.ofString "str")) (Value.str (Str.ofString "str") 76) (Value.type "str"), DictEntry.mk (PySem.PyData.keyHash P (Str.ofString "super")) (Value.str (Str.ofString "super") 77) (Value.type "super"), DictEntry.mk (PySem.PyData.keyHash P (Str.ofString "tuple")) (Value.str (Str.ofString "tuple") 78) (Value.type "tuple"), DictEntry.mk (PySem.PyData.keyHash P (Str.ofString "type")) (Value.str (Str.ofString "type") 79) (Value.type "type"), DictEntry.mk (PySem.PyData.keyHash P (Str.ofString "zip")) (Value.str (Str.ofString "zip") 80) (Value.type "zip"), DictEntry.mk (PySem.PyData.keyHash P (Str.ofString "__debug__")) (Value.str (Str.ofString "__debug__") 81) (Value.bool Bool.true), DictEntry.mk (PySem.PyData.keyHash P (Str.ofString "BaseException")) (Value.str (Str.ofString "BaseException") 82) (Value.type "BaseException"), DictEntry.mk (PySem.PyData.keyHash P (Str.ofString "BaseExceptionGroup")) (Value.str (Str.ofString "BaseExceptionGroup") 83) (Value.type "BaseExceptionGroup"), DictEntry.mk (PySem.PyData.keyHash P (Str.ofString "Exception")) (Value.str (Str.ofString "Exception") 84) (Value.type "Exception"), DictEntry.mk (PySem.PyData.keyHash P (Str.ofString "GeneratorExit")) (Value.str (Str.ofString "GeneratorExit") 85) (Value.type "GeneratorExit"), DictEntry.mk (PySem.PyData.keyHash P (Str.ofString "KeyboardInterrupt")) (Value.str (Str.ofString "KeyboardInterrupt") 86) (Value.type "KeyboardInterrupt"), DictEntry.mk (PySem.PyData.keyHash P (Str.ofString "SystemExit")) (Value.str (Str.ofString "SystemExit") 87) (Value.type "SystemExit"), DictEntry.mk (PySem.PyData.keyHash P (Str.ofString "ArithmeticError")) (Value.str (Str.ofString "ArithmeticError") 88) (Value.type "ArithmeticError"), DictEntry.mk (PySem.PyData.keyHash P (Str.ofString "AssertionError")) (Value.str (Str.ofString "AssertionError") 89) (Value.type "AssertionError"), DictEntry.mk (PySem.PyData.keyHash P (Str.ofString "AttributeError")) (Value.str (Str.ofString "AttributeError") 90) (Value.type "AttributeError"), DictEntry.mk (PySem.PyData.keyHash P (Str.ofString "BufferError")) (Value.str (Str.ofString "BufferError") 91) (Value.type "BufferError"), DictEntry.mk (PySem.PyData.keyHash P (Str.ofString "EOFError")) (Value.str (Str.ofString "EOFError") 92) (Value.type "EOFError"), DictEntry.mk (PySem.PyData.keyHash P (Str.ofString "ImportError")) (Value.str (Str.ofString "ImportError") 93) (Value.type "ImportError"), DictEntry.mk (PySem.PyData.keyHash P (Str.ofString "LookupError")) (Value.str (Str.ofString "LookupError") 94) (Value.type "LookupError"), DictEntry.mk (PySem.PyData.keyHash P (Str.ofString "MemoryError")) (Value.str (Str.ofString "MemoryError") 95) (Value.type "MemoryError"), DictEntry.mk (PySem.PyData.keyHash P (Str.ofString "NameError")) (Value.str (Str.ofString "NameError") 96) (Value.type "NameError"), DictEntry.mk (PySem.PyData.keyHash P (Str.ofString "OSError")) (Value.str (Str.ofString "OSError") 97) (Value.type "OSError"), DictEntry.mk (PySem.PyData.keyHash P (Str.ofString "ReferenceError")) (Value.str (Str.ofString "ReferenceError") 98) (Value.type "ReferenceError"), DictEntry.mk (PySem.PyData.keyHash P (Str.ofString "RuntimeError")) (Value.str (Str.ofString "RuntimeError") 99) (Value.type "RuntimeError"), DictEntry.mk (PySem.PyData.keyHash P (Str.ofString "StopAsyncIteration")) (Value.str (Str.ofString "StopAsyncIteration") 100) (Value.type "StopAsyncIteration"), DictEntry.mk (PySem.PyData.keyHash P (Str.ofString "StopIteration")) (Value.str (Str.ofString "StopIteration") 101) (Value.type "StopIteration"), DictEntry.mk (PySem.PyData.keyHash P (Str.ofString "SyntaxError")) (Value.str (Str.ofString "SyntaxError") 102) (Value.type "SyntaxError"), DictEntry.mk (PySem.PyData.keyHash P (Str.ofString "SystemError")) (Value.str (Str.ofString "SystemError") 103) (Value.type "SystemError"), DictEntry.mk (PySem.PyData.keyHash P (Str.ofString "TypeError")) (Value.str (Str.ofString "TypeError") 104) (Value.type "TypeError"), DictEntry.mk (PySem.PyData.keyHash P (Str.ofString "ValueError")) (Value.str (Str.ofString "ValueError") 105) (Value.type "ValueError"), DictEntry.mk (PySem.PyData.keyHash P (Str.ofString "Warning")) (Value.str (Str.ofString "Warning") 106) (Value.type "Warning"), DictEntry.mk (PySem.PyData.keyHash P (Str.ofString "FloatingPointError")) (Value.str (Str.ofString "FloatingPointError") 107) (Value.type "FloatingPointError"), DictEntry.mk (PySem.PyData.keyHash P (Str.ofString "OverflowError")) (Value.str (Str.ofString "OverflowError") 108) (Value.type "OverflowError"), DictEntry.mk (PySem.PyData.keyHash P (Str.ofString "ZeroDivisionError")) (Value.str (Str.ofString "ZeroDivisionError") 109) (Value.type "ZeroDivisionError"), DictEntry.mk (PySem.PyData.keyHash P (Str.ofString "BytesWarning")) (Value.str (Str.ofString "BytesWarning") 110) (Value.type "BytesWarning"), DictEntry.mk (PySem.PyData.keyHash P (Str.ofString "DeprecationWarning")) (Value.str (Str.ofString "DeprecationWarning") 111) (Value.type "DeprecationWarning"), DictEntry.mk (PySem.PyData.keyHash P (Str.ofString "EncodingWarning")) (Value.str (Str.ofString "EncodingWarning") 112) (Value.type "EncodingWarning"), DictEntry.mk (PySem.PyData.keyHash P (Str.ofString "FutureWarning")) (Value.str (Str.ofString "FutureWarning") 113) (Value.type "FutureWarning"), DictEntry.mk (PySem.PyData.keyHash P (Str.ofString "ImportWarning")) (Value.str (Str.ofString "ImportWarning") 114) (Value.type "ImportWarning"), DictEntry.mk (PySem.PyData.keyHash P (Str.ofString "PendingDeprecationWarning")) (Value.str (Str.ofString "PendingDeprecationWarning") 115) (Value.type "PendingDeprecationWarning"), DictEntry.mk (PySem.PyData.keyHash P (Str.ofString "ResourceWarning")) (Value.str (Str.ofString "ResourceWarning") 116) (Value.type "ResourceWarning"), DictEntry.mk (PySem.PyData.keyHash P (Str.ofString "RuntimeWarning")) (Value.str (Str.ofString "RuntimeWarning") 117) (Value.type "RuntimeWarning"), DictEntry.mk (PySem.PyData.keyHash P (Str.ofString "SyntaxWarning")) (Value.str (Str.ofString "SyntaxWarning") 118) (Value.type "SyntaxWarning"), DictEntry.mk (PySem.PyData.keyHash P (Str.ofString "UnicodeWarning")) (Value.str (Str.ofString "UnicodeWarning") 119) (Value.type "UnicodeWarning"), DictEntry.mk (PySem.PyData.keyHash P (Str.ofString "UserWarning")) (Value.str (Str.ofString "UserWarning") 120) (Value.type "UserWarning"), DictEntry.mk (PySem.PyData.keyHash P (Str.ofString "BlockingIOError")) (Value.str (Str.ofString "BlockingIOError") 121) (Value.type "BlockingIOError"), DictEntry.mk (PySem.PyData.keyHash P (Str.ofString "ChildProcessError")) (Value.str (Str.ofString "ChildProcessError") 122) (Value.type "ChildProcessError"), DictEntry.mk (PySem.PyData.keyHash P (Str.ofString "ConnectionError")) (Value.str (Str.ofString "ConnectionError") 123) (Value.type "ConnectionError"), DictEntry.mk (PySem.PyData.keyHash P (Str.ofString "FileExistsError")) (Value.str (Str.ofString "FileExistsError") 124) (Value.type "FileExistsError"), DictEntry.mk (PySem.PyData.keyHash P (Str.ofString "FileNotFoundError")) (Value.str (Str.ofString "FileNotFoundError") 125) (Value.type "FileNotFoundError"), DictEntry.mk (PySem.PyData.keyHash P (Str.ofString "InterruptedError")) (Value.str (Str.ofString "InterruptedError") 126) (Value.type "InterruptedError"), DictEntry.mk (PySem.PyData.keyHash P (Str.ofString "IsADirectoryError")) (Value.str (Str.ofString "IsADirectoryError") 127) (Value.type "IsADirectoryError"), DictEntry.mk (PySem.PyData.keyHash P (Str.ofString "NotADirectoryError")) (Value.str (Str.ofString "NotADirectoryError") 128) (Value.type "NotADirectoryError"), DictEntry.mk (PySem.PyData.keyHash P (Str.ofString "PermissionError")) (Value.str (Str.ofString "PermissionError") 129) (Value.type "PermissionError"), DictEntry.mk (PySem.PyData.keyHash P (Str.ofString "ProcessLookupError")) (Value.str (Str.ofString "ProcessLookupError") 130) (Value.type "ProcessLookupError"), DictEntry.mk (PySem.PyData.keyHash P (Str.ofString "TimeoutError")) (Value.str (Str.ofString "TimeoutError") 131) (Value.type "TimeoutError"), DictEntry.mk (PySem.PyData.keyHash P (Str.ofString "IndentationError")) (Value.str (Str.ofString "IndentationError") 132) (Value.type "IndentationError"), DictEntry.mk (PySem.PyData.keyHash P (Str.ofString "_IncompleteInputError")) (Value.str (Str.ofString "_IncompleteInputError") 133) (Value.type "_IncompleteInputError"), DictEntry.mk (PySem.PyData.keyHash P (Str.ofString "IndexError")) (Value.str (Str.ofString "IndexError") 134) (Value.type "IndexError"), DictEntry.mk (PySem.PyData.keyHash P (Str.ofString "KeyError")) (Value.str (Str.ofString "KeyError") 135) (Value.type "KeyError"), DictEntry.mk (PySem.PyData.keyHash P (Str.ofString "ModuleNotFoundError")) (Value.str (Str.ofString "ModuleNotFoundError") 136) (Value.type "ModuleNotFoundError"), DictEntry.mk (PySem.PyData.keyHash P (Str.ofString "NotImplementedError")) (Value.str (Str.ofString "NotImplementedError") 137) (Value.type "NotImplementedError"), DictEntry.mk (PySem.PyData.keyHash P (Str.ofString "PythonFinalizationError")) (Value.str (Str.ofString "PythonFinalizationError") 138) (Value.type "PythonFinalizationError"), DictEntry.mk (PySem.PyData.keyHash P (Str.ofString "RecursionError")) (Value.str (Str.ofString "RecursionError") 139) (Value.type "RecursionError"), DictEntry.mk (PySem.PyData.keyHash P (Str.ofString "UnboundLocalError")) (Value.str (Str.ofString "UnboundLocalError") 140) (Value.type "UnboundLocalError"), DictEntry.mk (PySem.PyData.keyHash P (Str.ofString "UnicodeError")) (Value.str (Str.ofString "UnicodeError") 141) (Value.type "UnicodeError"), DictEntry.mk (PySem.PyData.keyHash P (Str.ofString "BrokenPipeError")) (Value.str (Str.ofString "BrokenPipeError") 142) (Value.type "BrokenPipeError"), DictEntry.mk (PySem.PyData.keyHash P (Str.ofString "ConnectionAbortedError")) (Value.str (Str.ofString "ConnectionAbortedError") 143) (Value.type "ConnectionAbortedError"), DictEntry.mk (PySem.PyData.keyHash P (Str.ofString "ConnectionRefusedError")) (Value.str (Str.ofString "ConnectionRefusedError") 144) (Value.type "ConnectionRefusedError"), DictEntry.mk (PySem.PyData.keyHash P (Str.ofString "ConnectionResetError")) (Value.str (Str.ofString "ConnectionResetError") 145) (Value.type "ConnectionResetError"), DictEntry.mk (PySem.PyData.keyHash P (Str.ofString "TabError")) (Value.str (Str.ofString "TabError") 146) (Value.type "TabError"), DictEntry.mk (PySem.PyData.keyHash P (Str.ofString "UnicodeDecodeError")) (Value.str (Str.ofString "UnicodeDecodeError") 147) (Value.type "UnicodeDecodeError"), DictEntry.mk (PySem.PyData.keyHash P (Str.ofString "UnicodeEncodeError")) (Value.str (Str.ofString "UnicodeEncodeError") 148) (Value.type "UnicodeEncodeError"), DictEntry.mk (PySem.PyData.keyHash P (Str.ofString "UnicodeTranslateError")) (Value.str (Str.ofString "UnicodeTranslateError") 149) (Value.type "UnicodeTranslateError"), DictEntry.mk (PySem.PyData.keyHash P (Str.ofString "ExceptionGroup")) (Value.str (Str.ofString "ExceptionGroup") 150) (Value.type "ExceptionGroup"), DictEntry.mk (PySem.PyData.keyHash P (Str.ofString "EnvironmentError")) (Value.str (Str.ofString "EnvironmentError") 151) (Value.type "OSError"), DictEntry.mk (PySem.PyData.keyHash P (Str.ofString "IOError")) (Value.str (Str.ofString "IOError") 152) (Value.type "OSError"), DictEntry.mk (PySem.PyData.keyHash P (Str.ofString "open")) (Value.str (Str.ofString "open") 153) (Value.builtin "open"), DictEntry.mk (PySem.PyData.keyHash P (Str.ofString "quit")) (Value.str (Str.ofString "quit") 154) (Value.builtin "builtins.quit#opaque"), DictEntry.mk (PySem.PyData.keyHash P (Str.ofString "exit")) (Value.str (Str.ofString "exit") 155) (Value.builtin "builtins.exit#opaque"), DictEntry.mk (PySem.PyData.keyHash P (Str.ofString "copyright")) (Value.str (Str.ofString "copyright") 156) (Value.builtin "builtins.copyright#opaque"), DictEntry.mk (PySem.PyData.keyHash P (Str.ofString "credits")) (Value.str (Str.ofString "credits") 157) (Value.builtin "builtins.credits#opaque"), DictEntry.mk (PySem.PyData.keyHash P (Str.ofString "license")) (Value.str (Str.ofString "license") 158) (Value.builtin "builtins.license#opaque"), DictEntry.mk (PySem.PyData.keyHash P (Str.ofString "help")) (Value.str (Str.ofString "help") 159) (Value.builtin "builtins.help#opaque")] 159) #[]
def ob1 (P : Params) : Obj := Obj.mk (Value.type "dict") Option.none (Data.dict #[DictEntry.mk (PySem.PyData.keyHash P (Str.ofString "builtins")) (Value.str (Str.ofString "builtins") 162) (Value.ref 4), DictEntry.mk (PySem.PyData.keyHash P (Str.ofString "__main__")) (Value.str (Str.ofString "__main__") 163) (Value.ref 5)] 2) #[]
def ob2 : Obj := Obj.mk Value.none Option.none (Data.dict #[]) #[]
def ob3 (P : Params) : Obj := Obj.mk (Value.type "dict") Option.none (Data.dict #[DictEntry.mk (PySem.PyData.keyHash P (Str.ofString "__name__")) (Value.str (Str.ofString "__name__") 165) (Value.str (Str.ofString "codewalk.rounds") 1006), DictEntry.mk (PySem.PyData.keyHash P (Str.ofString "__doc__")) (Value.str (Str.ofString "__doc__") 166) Value.none, DictEntry.mk (PySem.PyData.keyHash P (Str.ofString "__package__")) (Value.str (Str.ofString "__package__") 167) Value.none, DictEntry.mk (PySem.PyData.keyHash P (Str.ofString "__loader__")) (Value.str (Str.ofString "__loader__") 168) (Value.builtin "__main__.__loader__#opaque"), DictEntry.mk (PySem.PyData.keyHash P (Str.ofString "__spec__")) (Value.str (Str.ofString "__spec__") 169) Value.none, DictEntry.mk (PySem.PyData.keyHash P (Str.ofString "__annotations__")) (Value.str (Str.ofString "__annotations__") 170) (Value.ref 6), DictEntry.mk (PySem.PyData.keyHash P (Str.ofString "__builtins__")) (Value.str (Str.ofString "__builtins__") 171) (Value.ref 4), DictEntry.mk (PySem.PyData.keyHash P (Str.ofString "__file__")) (Value.str (Str.ofString "__file__") 173) (Value.str (Str.ofString "/claim/cut.py") 172), DictEntry.mk (PySem.PyData.keyHash P (Str.ofString "__cached__")) (Value.str (Str.ofString "__cached__") 174) Value.none, DictEntry.mk (PySem.PyData.keyHash P (Str.ofString "EFFECTS")) (Value.str (Str.ofString "EFFECTS") 470) (Value.ref 15), DictEntry.mk (PySem.PyData.keyHash P (Str.ofString "COUNTED_EFFECTS")) (Value.str (Str.ofString "COUNTED_EFFECTS") 519) (Value.ref 20), DictEntry.mk (PySem.PyData.keyHash P (Str.ofString "LEADING")) (Value.str (Str.ofString "LEADING") 542) (Value.ref 30), DictEntry.mk (PySem.PyData.keyHash P (Str.ofString "LEAVING")) (Value.str (Str.ofString "LEAVING") 561) (Value.ref 31), DictEntry.mk (PySem.PyData.keyHash P (Str.ofString "TURNING")) (Value.str (Str.ofString "TURNING") 594) (Value.ref 32), DictEntry.mk (PySem.PyData.keyHash P (Str.ofString "QUIET")) (Value.str (Str.ofString "QUIET") 689) (Value.ref 33), DictEntry.mk (PySem.PyData.keyHash P (Str.ofString "LOCAL")) (Value.str (Str.ofString "LOCAL") 716) (Value.ref 36), DictEntry.mk (PySem.PyData.keyHash P (Str.ofString "effect_of")) (Value.str (Str.ofString "effect_of") 726) (Value.ref 43), DictEntry.mk (PySem.PyData.keyHash P (Str.ofString "parameters_of")) (Value.str (Str.ofString "parameters_of") 740) (Value.ref 50), DictEntry.mk (PySem.PyData.keyHash P (Str.ofString "numbers_of")) (Value.str (Str.ofString "numbers_of") 746) (Value.ref 55), DictEntry.mk (PySem.PyData.keyHash P (Str.ofString "locals_in")) (Value.str (Str.ofString "locals_in") 752) (Value.ref 60), DictEntry.mk (PySem.PyData.keyHash P (Str.ofString "CHANGING")) (Value.str (Str.ofString "CHANGING") 763) (Value.ref 61), DictEntry.mk (PySem.PyData.keyHash P (Str.ofString "with_checks")) (Value.str (Str.ofString "with_checks") 779) (Value.ref 68), DictEntry.mk (PySem.PyData.keyHash P (Str.ofString "lacking_in_order")) (Value.str (Str.ofString "lacking_in_order") 785) (Value.ref 73), DictEntry.mk (PySem.PyData.keyHash P (Str.ofString "lacking_on_ways")) (Value.str (Str.ofString "lacking_on_ways") 791) (Value.ref 78), DictEntry.mk (PySem.PyData.keyHash P (Str.ofString "bits_of")) (Value.str (Str.ofString "bits_of") 797) (Value.ref 83), DictEntry.mk (PySem.PyData.keyHash P (Str.ofString "Bound")) (Value.str (Str.ofString "Bound") 870) (Value.ref 126), DictEntry.mk (PySem.PyData.keyHash P (Str.ofString "NOTHING_handlers")) (Value.str (Str.ofString "NOTHING_handlers") 874) (Value.ref 131), DictEntry.mk (PySem.PyData.keyHash P (Str.ofString "SETUPS")) (Value.str (Str.ofString "SETUPS") 884) (Value.ref 132), DictEntry.mk (PySem.PyData.keyHash P (Str.ofString "OPENING")) (Value.str (Str.ofString "OPENING") 893) (Value.ref 136), DictEntry.mk (PySem.PyData.keyHash P (Str.ofString "with_handlers")) (Value.str (Str.ofString "with_handlers") 901) (Value.ref 143), DictEntry.mk (PySem.PyData.keyHash P (Str.ofString "first_rows")) (Value.str (Str.ofString "first_rows") 912) (Value.ref 150), DictEntry.mk (PySem.PyData.keyHash P (Str.ofString "reached_rows")) (Value.str (Str.ofString "reached_rows") 918) (Value.ref 155), DictEntry.mk (PySem.PyData.keyHash P (Str.ofString "reached_without")) (Value.str (Str.ofString "reached_without") 932) (Value.ref 162), DictEntry.mk (PySem.PyData.keyHash P (Str.ofString "reached_with")) (Value.str (Str.ofString "reached_with") 951) (Value.ref 169), DictEntry.mk (PySem.PyData.keyHash P (Str.ofString "opened")) (Value.str (Str.ofString "opened") 968) (Value.ref 176), DictEntry.mk (PySem.PyData.keyHash P (Str.ofString "tell_handler")) (Value.str (Str.ofString "tell_handler") 979) (Value.ref 183), DictEntry.mk (PySem.PyData.keyHash P (Str.ofString "words_in")) (Value.str (Str.ofString "words_in") 987) (Value.ref 188), DictEntry.mk (PySem.PyData.keyHash P (Str.ofString "places_of")) (Value.str (Str.ofString "places_of") 993) (Value.ref 193), DictEntry.mk (PySem.PyData.keyHash P (Str.ofString "reached")) (Value.str (Str.ofString "reached") 999) (Value.ref 198), DictEntry.mk (PySem.PyData.keyHash P (Str.ofString "without_unreached")) (Value.str (Str.ofString "without_unreached") 1005) (Value.ref 203), DictEntry.mk (PySem.PyData.keyHash P (Str.ofString "NOTHING_rounds")) (Value.str (Str.ofString "NOTHING_rounds") 1009) (Value.int 0 1008), DictEntry.mk (PySem.PyData.keyHash P (Str.ofString "ROWS")) (Value.str (Str.ofString "ROWS") 1011) (Value.int 1 1010), DictEntry.mk (PySem.PyData.keyHash P (Str.ofString "WAYS")) (Value.str (Str.ofString "WAYS") 1013) (Value.int 2 1012), DictEntry.mk (PySem.PyData.keyHash P (Str.ofString "JUMPS")) (Value.str (Str.ofString "JUMPS") 1018) (Value.ref 204), DictEntry.mk (PySem.PyData.keyHash P (Str.ofString "THREADED")) (Value.str (Str.ofString "THREADED") 1031) (Value.ref 205), DictEntry.mk (PySem.PyData.keyHash P (Str.ofString "rounds")) (Value.str (Str.ofString "rounds") 1042) (Value.ref 212), DictEntry.mk (PySem.PyData.keyHash P (Str.ofString "rounds_with_labels")) (Value.str (Str.ofString "rounds_with_labels") 1057) (Value.ref 219)] 47) #[]
def ob4 : Obj := Obj.mk (Value.type "module") (Option.some 0) Data.plain #[]
def ob5 : Obj := Obj.mk (Value.type "module") (Option.some 3) Data.plain #[]
def ob6 : Obj := Obj.mk (Value.type "dict") Option.none (Data.dict #[]) #[]
def ob7 : Obj := Obj.mk (Value.type "tuple") Option.none (Data.seq #[]) #[]
def ob8 : Obj := Obj.mk Value.none Option.none (Data.fields #[]) #[]
def ob9 : Obj := Obj.mk (Value.type "code") Option.none (Data.fields #[Value.str (Str.ofString "<module>") 176, Value.str (Str.ofString "<module>") 177, Value.str (Str.ofString "/claim/cut.py") 178, Value.int 1 0, Value.int 0 0, Value.int 0 0, Value.int 0 0, Value.int 0 0, Value.ref 7, Value.bool Bool.false, Value.int 175 0, Value.ref 8, Value.none, Value.none, Value.none, Value.none, Value.int 179 0, Value.int 1 0, Value.str (Str.ofString "/claim/cut.py") 180]) #[]
def ob10 : Obj := Obj.mk (Value.type "frame") Option.none Data.plain #[Option.some (Value.ref 9), Option.some (Value.ref 3), Option.some (Value.ref 3), Option.none, Option.some (Value.str (Str.ofString "__main__") 164), Option.none, Option.some (Value.ref 0)]
def ob11 : Obj := Obj.mk Value.none Option.none (Data.fields #[Value.int 9 0, Value.int 0 0, Value.ref 42, Value.int 17 0, Value.int 0 0, Value.ref 49, Value.int 25 0, Value.int 0 0, Value.ref 54, Value.int 33 0, Value.int 0 0, Value.ref 59, Value.int 43 0, Value.int 0 0, Value.ref 67, Value.int 54 0, Value.int 0 0, Value.ref 72, Value.int 69 0, Value.int 0 0, Value.ref 77, Value.int 79 0, Value.int 0 0, Value.ref 82, Value.int 90 0, Value.int 0 0, Value.ref 89, Value.int 136 0, Value.int 0 0, Value.ref 142, Value.int 142 0, Value.int 0 0, Value.ref 149, Value.int 149 0, Value.int 0 0, Value.ref 154, Value.int 157 0, Value.int 0 0, Value.ref 161, Value.int 175 0, Value.int 0 0, Value.ref 168, Value.int 204 0, Value.int 0 0, Value.ref 175, Value.int 215 0, Value.int 0 0, Value.ref 182, Value.int 220 0, Value.int 0 0, Value.ref 187, Value.int 222 0, Value.int 0 0, Value.ref 192, Value.int 224 0, Value.int 0 0, Value.ref 197, Value.int 246 0, Value.int 0 0, Value.ref 202, Value.int 256 0, Value.int 0 0, Value.ref 211, Value.int 264 0, Value.int 0 0, Value.ref 218]) #[]
def ob12 : Obj := Obj.mk (Value.type "code") Option.none (Data.fields #[Value.str (Str.ofString "<module>") 182, Value.str (Str.ofString "<module>") 183, Value.str (Str.ofString "/claim/cut.py") 184, Value.int 1 0, Value.int 0 0, Value.int 0 0, Value.int 0 0, Value.int 0 0, Value.ref 11, Value.bool Bool.false, Value.int 181 0, Value.ref 12, Value.none, Value.none, Value.none, Value.none, Value.int 185 0, Value.int 1 0, Value.str (Str.ofString "/claim/cut.py") 186]) #[]
def ob13 : Obj := Obj.mk (Value.type "frame") Option.none Data.plain #[Option.some (Value.ref 13), Option.some (Value.ref 3), Option.some (Value.ref 3), Option.none, Option.some (Value.str (Str.ofString "__main__") 164), Option.none, Option.some (Value.ref 0)]
def ob14 (P : Params) : Obj := Obj.mk (Value.type "dict") Option.none (Data.dict #[DictEntry.mk (PySem.PyData.keyHash P (Str.ofString "BEFORE_WITH")) (Value.str (Str.ofString "BEFORE_WITH") 189) (Value.int 1 190), DictEntry.mk (PySem.PyData.keyHash P (Str.ofString "BINARY_OP")) (Value.str (Str.ofString "BINARY_OP") 192) (Value.int (-1) 194), DictEntry.mk (PySem.PyData.keyHash P (Str.ofString "BINARY_SLICE")) (Value.str (Str.ofString "BINARY_SLICE") 196) (Value.int (-2) 198), DictEntry.mk (PySem.PyData.keyHash P (Str.ofString "BINARY_SUBSCR")) (Value.str (Str.ofString "BINARY_SUBSCR") 200) (Value.int (-1) 202), DictEntry.mk (PySem.PyData.keyHash P (Str.ofString "CALL_INTRINSIC_1")) (Value.str (Str.ofString "CALL_INTRINSIC_1") 204) (Value.int 0 205), DictEntry.mk (PySem.PyData.keyHash P (Str.ofString "CHECK_EXC_MATCH")) (Value.str (Str.ofString "CHECK_EXC_MATCH") 207) (Value.int 0 208), DictEntry.mk (PySem.PyData.keyHash P (Str.ofString "CLEANUP_THROW")) (Value.str (Str.ofString "CLEANUP_THROW") 210) (Value.int (-1) 212), DictEntry.mk (PySem.PyData.keyHash P (Str.ofString "COMPARE_OP")) (Value.str (Str.ofString "COMPARE_OP") 214) (Value.int (-1) 216), DictEntry.mk (PySem.PyData.keyHash P (Str.ofString "CONTAINS_OP")) (Value.str (Str.ofString "CONTAINS_OP") 218) (Value.int (-1) 220), DictEntry.mk (PySem.PyData.keyHash P (Str.ofString "COPY")) (Value.str (Str.ofString "COPY") 222) (Value.int 1 223), DictEntry.mk (PySem.PyData.keyHash P (Str.ofString "COPY_FREE_VARS")) (Value.str (Str.ofString "COPY_FREE_VARS") 225) (Value.int 0 226), DictEntry.mk (PySem.PyData.keyHash P (Str.ofString "DELETE_ATTR")) (Value.str (Str.ofString "DELETE_ATTR") 228) (Value.int (-1) 230), DictEntry.mk (PySem.PyData.keyHash P (Str.ofString "DELETE_DEREF")) (Value.str (Str.ofString "DELETE_DEREF") 232) (Value.int 0 233), DictEntry.mk (PySem.PyData.keyHash P (Str.ofString "DELETE_FAST")) (Value.str (Str.ofString "DELETE_FAST") 235) (Value.int 0 236), DictEntry.mk (PySem.PyData.keyHash P (Str.ofString "DELETE_GLOBAL")) (Value.str (Str.ofString "DELETE_GLOBAL") 238) (Value.int 0 239), DictEntry.mk (PySem.PyData.keyHash P (Str.ofString "DELETE_NAME")) (Value.str (Str.ofString "DELETE_NAME") 241) (Value.int 0 242), DictEntry.mk (PySem.PyData.keyHash P (Str.ofString "DELETE_SUBSCR")) (Value.str (Str.ofString "DELETE_SUBSCR") 244) (Value.int (-2) 246), DictEntry.mk (PySem.PyData.keyHash P (Str.ofString "DICT_MERGE")) (Value.str (Str.ofString "DICT_MERGE") 248) (Value.int (-1) 250), DictEntry.mk (PySem.PyData.keyHash P (Str.ofString "END_FOR")) (Value.str (Str.ofString "END_FOR") 252) (Value.int (-1) 254), DictEntry.mk (PySem.PyData.keyHash P (Str.ofString "END_SEND")) (Value.str (Str.ofString "END_SEND") 256) (Value.int (-1) 258), DictEntry.mk (PySem.PyData.keyHash P (Str.ofString "FOR_ITER")) (Value.str (Str.ofString "FOR_ITER") 260) (Value.int 1 261), DictEntry.mk (PySem.PyData.keyHash P (Str.ofString "GET_ITER")) (Value.str (Str.ofString "GET_ITER") 263) (Value.int 0 264), DictEntry.mk (PySem.PyData.keyHash P (Str.ofString "GET_YIELD_FROM_ITER")) (Value.str (Str.ofString "GET_YIELD_FROM_ITER") 266) (Value.int 0 267), DictEntry.mk (PySem.PyData.keyHash P (Str.ofString "IS_OP")) (Value.str (Str.ofString "IS_OP") 269) (Value.int (-1) 271), DictEntry.mk (PySem.PyData.keyHash P (Str.ofString "JUMP")) (Value.str (Str.ofString "JUMP") 273) (Value.int 0 274), DictEntry.mk (PySem.PyData.keyHash P (Str.ofString "JUMP_BACKWARD")) (Value.str (Str.ofString "JUMP_BACKWARD") 276) (Value.int 0 277), DictEntry.mk (PySem.PyData.keyHash P (Str.ofString "JUMP_BACKWARD_NO_INTERRUPT")) (Value.str (Str.ofString "JUMP_BACKWARD_NO_INTERRUPT") 279) (Value.int 0 280), DictEntry.mk (PySem.PyData.keyHash P (Str.ofString "JUMP_FORWARD")) (Value.str (Str.ofString "JUMP_FORWARD") 282) (Value.int 0 283), DictEntry.mk (PySem.PyData.keyHash P (Str.ofString "JUMP_NO_INTERRUPT")) (Value.str (Str.ofString "JUMP_NO_INTERRUPT") 285) (Value.int 0 286), DictEntry.mk (PySem.PyData.keyHash P (Str.ofString "LABEL")) (Value.str (Str.ofString "LABEL") 288) (Value.int 0 289), DictEntry.mk (PySem.PyData.keyHash P (Str.ofString "LIST_APPEND")) (Value.str (Str.ofString "LIST_APPEND") 291) (Value.int (-1) 293), DictEntry.mk (PySem.PyData.keyHash P (Str.ofString "LIST_EXTEND")) (Value.str (Str.ofString "LIST_EXTEND") 295) (Value.int (-1) 297), DictEntry.mk (PySem.PyData.keyHash P (Str.ofString "LOAD_ASSERTION_ERROR")) (Value.str (Str.ofString "LOAD_ASSERTION_ERROR") 299) (Value.int 1 300), DictEntry.mk (PySem.PyData.keyHash P (Str.ofString "LOAD_BUILD_CLASS")) (Value.str (Str.ofString "LOAD_BUILD_CLASS") 302) (Value.int 1 303), DictEntry.mk (PySem.PyData.keyHash P (Str.ofString "LOAD_CLOSURE")) (Value.str (Str.ofString "LOAD_CLOSURE") 305) (Value.int 1 306), DictEntry.mk (PySem.PyData.keyHash P (Str.ofString "LOAD_CODE")) (Value.str (Str.ofString "LOAD_CODE") 308) (Value.int 1 309), DictEntry.mk (PySem.PyData.keyHash P (Str.ofString "LOAD_CONST")) (Value.str (Str.ofString "LOAD_CONST") 311) (Value.int 1 312), DictEntry.mk (PySem.PyData.keyHash P (Str.ofString "LOAD_DEREF")) (Value.str (Str.ofString "LOAD_DEREF") 314) (Value.int 1 315), DictEntry.mk (PySem.PyData.keyHash P (Str.ofString "LOAD_FAST")) (Value.str (Str.ofString "LOAD_FAST") 317) (Value.int 1 318), DictEntry.mk (PySem.PyData.keyHash P (Str.ofString "LOAD_FAST_CHECK")) (Value.str (Str.ofString "LOAD_FAST_CHECK") 320) (Value.int 1 321), DictEntry.mk (PySem.PyData.keyHash P (Str.ofString "LOAD_FAST_LOAD_FAST")) (Value.str (Str.ofString "LOAD_FAST_LOAD_FAST") 323) (Value.int 2 324), DictEntry.mk (PySem.PyData.keyHash P (Str.ofString "LOAD_FROM_DICT_OR_DEREF")) (Value.str (Str.ofString "LOAD_FROM_DICT_OR_DEREF") 326) (Value.int 0 327), DictEntry.mk (PySem.PyData.keyHash P (Str.ofString "LOAD_LOCALS")) (Value.str (Str.ofString "LOAD_LOCALS") 329) (Value.int 1 330), DictEntry.mk (PySem.PyData.keyHash P (Str.ofString "LOAD_NAME")) (Value.str (Str.ofString "LOAD_NAME") 332) (Value.int 1 333), DictEntry.mk (PySem.PyData.keyHash P (Str.ofString "MAKE_CELL")) (Value.str (Str.ofString "MAKE_CELL") 335) (Value.int 0 336), DictEntry.mk (PySem.PyData.keyHash P (Str.ofString "MAKE_FUNCTION")) (Value.str (Str.ofString "MAKE_FUNCTION") 338) (Value.int 0 339), DictEntry.mk (PySem.PyData.keyHash P (Str.ofString "MAP_ADD")) (Value.str (Str.ofString "MAP_ADD") 341) (Value.int (-2) 343), DictEntry.mk (PySem.PyData.keyHash P (Str.ofString "NOP")) (Value.str (Str.ofString "NOP") 345) (Value.int 0 346), DictEntry.mk (PySem.PyData.keyHash P (Str.ofString "POP_BLOCK")) (Value.str (Str.ofString "POP_BLOCK") 348) (Value.int 0 349), DictEntry.mk (PySem.PyData.keyHash P (Str.ofString "POP_EXCEPT")) (Value.str (Str.ofString "POP_EXCEPT") 351) (Value.int (-1) 353), DictEntry.mk (PySem.PyData.keyHash P (Str.ofString "POP_JUMP_IF_FALSE")) (Value.str (Str.ofString "POP_JUMP_IF_FALSE") 355) (Value.int (-1) 357), DictEntry.mk (PySem.PyData.keyHash P (Str.ofString "POP_JUMP_IF_NONE")) (Value.str (Str.ofString "POP_JUMP_IF_NONE") 359) (Value.int (-1) 361), DictEntry.mk (PySem.PyData.keyHash P (Str.ofString "POP_JUMP_IF_NOT_NONE")) (Value.str (Str.ofString "POP_JUMP_IF_NOT_NONE") 363) (Value.int (-1) 365), DictEntry.mk (PySem.PyData.keyHash P (Str.ofString "POP_JUMP_IF_TRUE")) (Value.str (Str.ofString "POP_JUMP_IF_TRUE") 367) (Value.int (-1) 369), DictEntry.mk (PySem.PyData.keyHash P (Str.ofString "POP_TOP")) (Value.str (Str.ofString "POP_TOP") 371) (Value.int (-1) 373), DictEntry.mk (PySem.PyData.keyHash P (Str.ofString "PUSH_EXC_INFO")) (Value.str (Str.ofString "PUSH_EXC_INFO") 375) (Value.int 1 376), DictEntry.mk (PySem.PyData.keyHash P (Str.ofString "PUSH_NULL")) (Value.str (Str.ofString "PUSH_NULL") 378) (Value.int 1 379), DictEntry.mk (PySem.PyData.keyHash P (Str.ofString "RERAISE")) (Value.str (Str.ofString "RERAISE") 381) (Value.int (-1) 383), DictEntry.mk (PySem.PyData.keyHash P (Str.ofString "RESUME")) (Value.str (Str.ofString "RESUME") 385) (Value.int 0 386), DictEntry.mk (PySem.PyData.keyHash P (Str.ofString "RETURN_CONST")) (Value.str (Str.ofString "RETURN_CONST") 388) (Value.int 0 389), DictEntry.mk (PySem.PyData.keyHash P (Str.ofString "RETURN_GENERATOR")) (Value.str (Str.ofString "RETURN_GENERATOR") 391) (Value.int 1 392), DictEntry.mk (PySem.PyData.keyHash P (Str.ofString "RETURN_VALUE")) (Value.str (Str.ofString "RETURN_VALUE") 394) (Value.int (-1) 396), DictEntry.mk (PySem.PyData.keyHash P (Str.ofString "SEND")) (Value.str (Str.ofString "SEND") 398) (Value.int 0 399), DictEntry.mk (PySem.PyData.keyHash P (Str.ofString "SETUP_CLEANUP")) (Value.str (Str.ofString "SETUP_CLEANUP") 401) (Value.int 0 402), DictEntry.mk (PySem.PyData.keyHash P (Str.ofString "SETUP_FINALLY")) (Value.str (Str.ofString "SETUP_FINALLY") 404) (Value.int 0 405), DictEntry.mk (PySem.PyData.keyHash P (Str.ofString "SETUP_WITH")) (Value.str (Str.ofString "SETUP_WITH") 407) (Value.int 0 408), DictEntry.mk (PySem.PyData.keyHash P (Str.ofString "SET_FUNCTION_ATTRIBUTE")) (Value.str (Str.ofString "SET_FUNCTION_ATTRIBUTE") 410) (Value.int (-1) 412), DictEntry.mk (PySem.PyData.keyHash P (Str.ofString "STORE_ATTR")) (Value.str (Str.ofString "STORE_ATTR") 414) (Value.int (-2) 416), DictEntry.mk (PySem.PyData.keyHash P (Str.ofString "STORE_DEREF")) (Value.str (Str.ofString "STORE_DEREF") 418) (Value.int (-1) 420), DictEntry.mk (PySem.PyData.keyHash P (Str.ofString "STORE_FAST")) (Value.str (Str.ofString "STORE_FAST") 421) (Value.int (-1) 423), DictEntry.mk (PySem.PyData.keyHash P (Str.ofString "STORE_FAST_LOAD_FAST")) (Value.str (Str.ofString "STORE_FAST_LOAD_FAST") 424) (Value.int 0 425), DictEntry.mk (PySem.PyData.keyHash P (Str.ofString "STORE_FAST_STORE_FAST")) (Value.str (Str.ofString "STORE_FAST_STORE_FAST") 426) (Value.int (-2) 428), DictEntry.mk (PySem.PyData.keyHash P (Str.ofString "STORE_GLOBAL")) (Value.str (Str.ofString "STORE_GLOBAL") 429) (Value.int (-1) 431), DictEntry.mk (PySem.PyData.keyHash P (Str.ofString "STORE_NAME")) (Value.str (Str.ofString "STORE_NAME") 432) (Value.int (-1) 434), DictEntry.mk (PySem.PyData.keyHash P (Str.ofString "STORE_SLICE")) (Value.str (Str.ofString "STORE_SLICE") 435) (Value.int (-4) 437), DictEntry.mk (PySem.PyData.keyHash P (Str.ofString "STORE_SUBSCR")) (Value.str (Str.ofString "STORE_SUBSCR") 438) (Value.int (-3) 440), DictEntry.mk (PySem.PyData.keyHash P (Str.ofString "SWAP")) (Value.str (Str.ofString "SWAP") 441) (Value.int 0 442), DictEntry.mk (PySem.PyData.keyHash P (Str.ofString "TO_BOOL")) (Value.str (Str.ofString "TO_BOOL") 443) (Value.int 0 444), DictEntry.mk (PySem.PyData.keyHash P (Str.ofString "UNARY_INVERT")) (Value.str (Str.ofString "UNARY_INVERT") 445) (Value.int 0 446), DictEntry.mk (PySem.PyData.keyHash P (Str.ofString "UNARY_NEGATIVE")) (Value.str (Str.ofString "UNARY_NEGATIVE") 447) (Value.int 0 448), DictEntry.mk (PySem.PyData.keyHash P (Str.ofString "UNARY_NOT")) (Value.str (Str.ofString "UNARY_NOT") 449) (Value.int 0 450), DictEntry.mk (PySem.PyData.keyHash P (Str.ofString "WITH_EXCEPT_START")) (Value.str (Str.ofString "WITH_EXCEPT_START") 451) (Value.int 1 452), DictEntry.mk (PySem.PyData.keyHash P (Str.ofString "YIELD_VALUE")) (Value.str (Str.ofString "YIELD_VALUE") 453) (Value.int 0 454)] 83) #[]
def ob15 (P : Params) : Obj := Obj.mk (Value.type "dict") Option.none (Data.dict #[DictEntry.mk (PySem.PyData.keyHash P (Str.ofString "DICT_MERGE")) (Value.str (Str.ofString "DICT_MERGE") 248) (Value.int (-1) 250), DictEntry.mk (PySem.PyData.keyHash P (Str.ofString "END_FOR")) (Value.str (Str.ofString "END_FOR") 252) (Value.int (-1) 254), DictEntry.mk (PySem.PyData.keyHash P (Str.ofString "END_SEND")) (Value.str (Str.ofString "END_SEND") 256) (Value.int (-1) 258), DictEntry.mk (PySem.PyData.keyHash P (Str.ofString "FOR_ITER")) (Value.str (Str.ofString "FOR_ITER") 260) (Value.int 1 261), DictEntry.mk (PySem.PyData.keyHash P (Str.ofString "GET_ITER")) (Value.str (Str.ofString "GET_ITER") 263) (Value.int 0 264), DictEntry.mk (PySem.PyData.keyHash P (Str.ofString "GET_YIELD_FROM_ITER")) (Value.str (Str.ofString "GET_YIELD_FROM_ITER") 266) (Value.int 0 267), DictEntry.mk (PySem.PyData.keyHash P (Str.ofString "IS_OP")) (Value.str (Str.ofString "IS_OP") 269) (Value.int (-1) 271), DictEntry.mk (PySem.PyData.keyHash P (Str.ofString "JUMP")) (Value.str (Str.ofString "JUMP") 273) (Value.int 0 274), DictEntry.mk (PySem.PyData.keyHash P (Str.ofString "JUMP_BACKWARD")) (Value.str (Str.ofString "JUMP_BACKWARD") 276) (Value.int 0 277), DictEntry.mk (PySem.PyData.keyHash P (Str.ofString "JUMP_BACKWARD_NO_INTERRUPT")) (Value.str (Str.ofString "JUMP_BACKWARD_NO_INTERRUPT") 279) (Value.int 0 280), DictEntry.mk (PySem.PyData.keyHash P (Str.ofString "JUMP_FORWARD")) (Value.str (Str.ofString "JUMP_FORWARD") 282) (Value.int 0 283), DictEntry.mk (PySem.PyData.keyHash P (Str.ofString "JUMP_NO_INTERRUPT")) (Value.str (Str.ofString "JUMP_NO_INTERRUPT") 285) (Value.int 0 286), DictEntry.mk (PySem.PyData.keyHash P (Str.ofString "LABEL")) (Value.str (Str.ofString "LABEL") 288) (Value.int 0 289), DictEntry.mk (PySem.PyData.keyHash P (Str.ofString "LIST_APPEND")) (Value.str (Str.ofString "LIST_APPEND") 291) (Value.int (-1) 293), DictEntry.mk (PySem.PyData.keyHash P (Str.ofString "LIST_EXTEND")) (Value.str (Str.ofString "LIST_EXTEND") 295) (Value.int (-1) 297), DictEntry.mk (PySem.PyData.keyHash P (Str.ofString "LOAD_ASSERTION_ERROR")) (Value.str (Str.ofString "LOAD_ASSERTION_ERROR") 299) (Value.int 1 300), DictEntry.mk (PySem.PyData.keyHash P (Str.ofString "LOAD_BUILD_CLASS")) (Value.str (Str.ofString "LOAD_BUILD_CLASS") 302) (Value.int 1 303)] 17) #[]
def ob16 (P : Params) : Obj := Obj.mk (Value.type "dict") Option.none (Data.dict #[DictEntry.mk (PySem.PyData.keyHash P (Str.ofString "LOAD_CLOSURE")) (Value.str (Str.ofString "LOAD_CLOSURE") 305) (Value.int 1 306), DictEntry.mk (PySem.PyData.keyHash P (Str.ofString "LOAD_CODE")) (Value.str (Str.ofString "LOAD_CODE") 308) (Value.int 1 309), DictEntry.mk (PySem.PyData.keyHash P (Str.ofString "LOAD_CONST")) (Value.str (Str.ofString "LOAD_CONST") 311) (Value.int 1 312), DictEntry.mk (PySem.PyData.keyHash P (Str.ofString "LOAD_DEREF")) (Value.str (Str.ofString "LOAD_DEREF") 314) (Value.int 1 315), DictEntry.mk (PySem.PyData.keyHash P (Str.ofString "LOAD_FAST")) (Value.str (Str.ofString "LOAD_FAST") 317) (Value.int 1 318), DictEntry.mk (PySem.PyData.keyHash P (Str.ofString "LOAD_FAST_CHECK")) (Value.str (Str.ofString "LOAD_FAST_CHECK") 320) (Value.int 1 321), DictEntry.mk (PySem.PyData.keyHash P (Str.ofString "LOAD_FAST_LOAD_FAST")) (Value.str (Str.ofString "LOAD_FAST_LOAD_FAST") 323) (Value.int 2 324), DictEntry.mk (PySem.PyData.keyHash P (Str.ofString "LOAD_FROM_DICT_OR_DEREF")) (Value.str (Str.ofString "LOAD_FROM_DICT_OR_DEREF") 326) (Value.int 0 327), DictEntry.mk (PySem.PyData.keyHash P (Str.ofString "LOAD_LOCALS")) (Value.str (Str.ofString "LOAD_LOCALS") 329) (Value.int 1 330), DictEntry.mk (PySem.PyData.keyHash P (Str.ofString "LOAD_NAME")) (Value.str (Str.ofString "LOAD_NAME") 332) (Value.int 1 333), DictEntry.mk (PySem.PyData.keyHash P (Str.ofString "MAKE_CELL")) (Value.str (Str.ofString "MAKE_CELL") 335) (Value.int 0 336), DictEntry.mk (PySem.PyData.keyHash P (Str.ofString "MAKE_FUNCTION")) (Value.str (Str.ofString "MAKE_FUNCTION") 338) (Value.int 0 339), DictEntry.mk (PySem.PyData.keyHash P (Str.ofString "MAP_ADD")) (Value.str (Str.ofString "MAP_ADD") 341) (Value.int (-2) 343), DictEntry.mk (PySem.PyData.keyHash P (Str.ofString "NOP")) (Value.str (Str.ofString "NOP") 345) (Value.int 0 346), DictEntry.mk (PySem.PyData.keyHash P (Str.ofString "POP_BLOCK")) (Value.str (Str.ofString "POP_BLOCK") 348) (Value.int 0 349), DictEntry.mk (PySem.PyData.keyHash P (Str.ofString "POP_EXCEPT")) (Value.str (Str.ofString "POP_EXCEPT") 351) (Value.int (-1) 353), DictEntry.mk (PySem.PyData.keyHash P (Str.ofString "POP_JUMP_IF_FALSE")) (Value.str (Str.ofString "POP_JUMP_IF_FALSE") 355) (Value.int (-1) 357)] 17) #[]
def ob17 (P : Params) : Obj := Obj.mk (Value.type "dict") Option.none (Data.dict #[DictEntry.mk (PySem.PyData.keyHash P (Str.ofString "POP_JUMP_IF_NONE")) (Value.str (Str.ofString "POP_JUMP_IF_NONE") 359) (Value.int (-1) 361), DictEntry.mk (PySem.PyData.keyHash P (Str.ofString "POP_JUMP_IF_NOT_NONE")) (Value.str (Str.ofString "POP_JUMP_IF_NOT_NONE") 363) (Value.int (-1) 365), DictEntry.mk (PySem.PyData.keyHash P (Str.ofString "POP_JUMP_IF_TRUE")) (Value.str (Str.ofString "POP_JUMP_IF_TRUE") 367) (Value.int (-1) 369), DictEntry.mk (PySem.PyData.keyHash P (Str.ofString "POP_TOP")) (Value.str (Str.ofString "POP_TOP") 371) (Value.int (-1) 373), DictEntry.mk (PySem.PyData.keyHash P (Str.ofString "PUSH_EXC_INFO")) (Value.str (Str.ofString "PUSH_EXC_INFO") 375) (Value.int 1 376), DictEntry.mk (PySem.PyData.keyHash P (Str.ofString "PUSH_NULL")) (Value.str (Str.ofString "PUSH_NULL") 378) (Value.int 1 379), DictEntry.mk (PySem.PyData.keyHash P (Str.ofString "RERAISE")) (Value.str (Str.ofString "RERAISE") 381) (Value.int (-1) 383), DictEntry.mk (PySem.PyData.keyHash P (Str.ofString "RESUME")) (Value.str (Str.ofString "RESUME") 385) (Value.int 0 386), DictEntry.mk (PySem.PyData.keyHash P (Str.ofString "RETURN_CONST")) (Value.str (Str.ofString "RETURN_CONST") 388) (Value.int 0 389), DictEntry.mk (PySem.PyData.keyHash P (Str.ofString "RETURN_GENERATOR")) (Value.str (Str.ofString "RETURN_GENERATOR") 391) (Value.int 1 392), DictEntry.mk (PySem.PyData.keyHash P (Str.ofString "RETURN_VALUE")) (Value.str (Str.ofString "RETURN_VALUE") 394) (Value.int (-1) 396), DictEntry.mk (PySem.PyData.keyHash P (Str.ofString "SEND")) (Value.str (Str.ofString "SEND") 398) (Value.int 0 399), DictEntry.mk (PySem.PyData.keyHash P (Str.ofString "SETUP_CLEANUP")) (Value.str (Str.ofString "SETUP_CLEANUP") 401) (Value.int 0 402), DictEntry.mk (PySem.PyData.keyHash P (Str.ofString "SETUP_FINALLY")) (Value.str (Str.ofString "SETUP_FINALLY") 404) (Value.int 0 405), DictEntry.mk (PySem.PyData.keyHash P (Str.ofString "SETUP_WITH")) (Value.str (Str.ofString "SETUP_WITH") 407) (Value.int 0 408), DictEntry.mk (PySem.PyData.keyHash P (Str.ofString "SET_FUNCTION_ATTRIBUTE")) (Value.str (Str.ofString "SET_FUNCTION_ATTRIBUTE") 410) (Value.int (-1) 412), DictEntry.mk (PySem.PyData.keyHash P (Str.ofString "STORE_ATTR")) (Value.str (Str.ofString "STORE_ATTR") 414) (Value.int (-2) 416)] 17) #[]
def ob18 (P : Params) : Obj := Obj.mk (Value.type "dict") Option.none (Data.dict #[DictEntry.mk (PySem.PyData.keyHash P (Str.ofString "STORE_DEREF")) (Value.str (Str.ofString "STORE_DEREF") 418) (Value.int (-1) 420), DictEntry.mk (PySem.PyData.keyHash P (Str.ofString "STORE_FAST")) (Value.str (Str.ofString "STORE_FAST") 421) (Value.int (-1) 423), DictEntry.mk (PySem.PyData.keyHash P (Str.ofString "STORE_FAST_LOAD_FAST")) (Value.str (Str.ofString "STORE_FAST_LOAD_FAST") 424) (Value.int 0 425), DictEntry.mk (PySem.PyData.keyHash P (Str.ofString "STORE_FAST_STORE_FAST")) (Value.str (Str.ofString "STORE_FAST_STORE_FAST") 426) (Value.int (-2) 428), DictEntry.mk (PySem.PyData.keyHash P (Str.ofString "STORE_GLOBAL")) (Value.str (Str.ofString "STORE_GLOBAL") 429) (Value.int (-1) 431), DictEntry.mk (PySem.PyData.keyHash P (Str.ofString "STORE_NAME")) (Value.str (Str.ofString "STORE_NAME") 432) (Value.int (-1) 434), DictEntry.mk (PySem.PyData.keyHash P (Str.ofString "STORE_SLICE")) (Value.str (Str.ofString "STORE_SLICE") 435) (Value.int (-4) 437), DictEntry.mk (PySem.PyData.keyHash P (Str.ofString "STORE_SUBSCR")) (Value.str (Str.ofString "STORE_SUBSCR") 438) (Value.int (-3) 440), DictEntry.mk (PySem.PyData.keyHash P (Str.ofString "SWAP")) (Value.str (Str.ofString "SWAP") 441) (Value.int 0 442), DictEntry.mk (PySem.PyData.keyHash P (Str.ofString "TO_BOOL")) (Value.str (Str.ofString "TO_BOOL") 443) (Value.int 0 444), DictEntry.mk (PySem.PyData.keyHash P (Str.ofString "UNARY_INVERT")) (Value.str (Str.ofString "UNARY_INVERT") 445) (Value.int 0 446), DictEntry.mk (PySem.PyData.keyHash P (Str.ofString "UNARY_NEGATIVE")) (Value.str (Str.ofString "UNARY_NEGATIVE") 447) (Value.int 0 448), DictEntry.mk (PySem.PyData.keyHash P (Str.ofString "UNARY_NOT")) (Value.str (Str.ofString "UNARY_NOT") 449) (Value.int 0 450), DictEntry.mk (PySem.PyData.keyHash P (Str.ofString "WITH_EXCEPT_START")) (Value.str (Str.ofString "WITH_EXCEPT_START") 451) (Value.int 1 452), DictEntry.mk (PySem.PyData.keyHash P (Str.ofString "YIELD_VALUE")) (Value.str (Str.ofString "YIELD_VALUE") 453) (Value.int 0 454)] 15) #[]
def ob19 (P : Params) : Obj := Obj.mk (Value.type "dict") Option.none (Data.dict #[DictEntry.mk (PySem.PyData.keyHash P (Str.ofString "BUILD_CONST_KEY_MAP")) (Value.str (Str.ofString "BUILD_CONST_KEY_MAP") 471) (Value.ref 21), DictEntry.mk (PySem.PyData.keyHash P (Str.ofString "BUILD_LIST")) (Value.str (Str.ofString "BUILD_LIST") 475) (Value.ref 22), DictEntry.mk (PySem.PyData.keyHash P (Str.ofString "BUILD_MAP")) (Value.str (Str.ofString "BUILD_MAP") 479) (Value.ref 23), DictEntry.mk (PySem.PyData.keyHash P (Str.ofString "BUILD_TUPLE")) (Value.str (Str.ofString "BUILD_TUPLE") 483) (Value.ref 24), DictEntry.mk (PySem.PyData.keyHash P (Str.ofString "CALL")) (Value.str (Str.ofString "CALL") 487) (Value.ref 25), DictEntry.mk (PySem.PyData.keyHash P (Str.ofString "CALL_FUNCTION_EX")) (Value.str (Str.ofString "CALL_FUNCTION_EX") 492) (Value.ref 26), DictEntry.mk (PySem.PyData.keyHash P (Str.ofString "CALL_KW")) (Value.str (Str.ofString "CALL_KW") 497) (Value.ref 27), DictEntry.mk (PySem.PyData.keyHash P (Str.ofString "RAISE_VARARGS")) (Value.str (Str.ofString "RAISE_VARARGS") 502) (Value.ref 28), DictEntry.mk (PySem.PyData.keyHash P (Str.ofString "UNPACK_SEQUENCE")) (Value.str (Str.ofString "UNPACK_SEQUENCE") 506) (Value.ref 29)] 9) #[]
def ob20 : Obj := Obj.mk (Value.type "tuple") Option.none (Data.seq #[Value.int 0 472, Value.int (-1) 474]) #[]
def ob21 : Obj := Obj.mk (Value.type "tuple") Option.none (Data.seq #[Value.int 1 476, Value.int (-1) 478]) #[]
def ob22 : Obj := Obj.mk (Value.type "tuple") Option.none (Data.seq #[Value.int 1 480, Value.int (-2) 482]) #[]
def ob23 : Obj := Obj.mk (Value.type "tuple") Option.none (Data.seq #[Value.int 1 484, Value.int (-1) 486]) #[]
def ob24 : Obj := Obj.mk (Value.type "tuple") Option.none (Data.seq #[Value.int (-1) 489, Value.int (-1) 491]) #[]
def ob25 : Obj := Obj.mk (Value.type "tuple") Option.none (Data.seq #[Value.int (-2) 494, Value.int (-1) 496]) #[]
def ob26 : Obj := Obj.mk (Value.type "tuple") Option.none (Data.seq #[Value.int (-2) 499, Value.int (-1) 501]) #[]
def ob27 : Obj := Obj.mk (Value.type "tuple") Option.none (Data.seq #[Value.int 0 503, Value.int (-1) 505]) #[]
def ob28 : Obj := Obj.mk (Value.type "tuple") Option.none (Data.seq #[Value.int (-1) 508, Value.int 1 509]) #[]
def ob29 (P : Params) : Obj := Obj.mk (Value.type "dict") Option.none (Data.dict #[DictEntry.mk (PySem.PyData.keyHash P (Str.ofString "FOR_ITER")) (Value.str (Str.ofString "FOR_ITER") 520) (Value.bool Bool.true), DictEntry.mk (PySem.PyData.keyHash P (Str.ofString "JUMP")) (Value.str (Str.ofString "JUMP") 521) (Value.bool Bool.true), DictEntry.mk (PySem.PyData.keyHash P (Str.ofString "JUMP_BACKWARD")) (Value.str (Str.ofString "JUMP_BACKWARD") 522) (Value.bool Bool.true), DictEntry.mk (PySem.PyData.keyHash P (Str.ofString "JUMP_BACKWARD_NO_INTERRUPT")) (Value.str (Str.ofString "JUMP_BACKWARD_NO_INTERRUPT") 523) (Value.bool Bool.true), DictEntry.mk (PySem.PyData.keyHash P (Str.ofString "JUMP_FORWARD")) (Value.str (Str.ofString "JUMP_FORWARD") 524) (Value.bool Bool.true), DictEntry.mk (PySem.PyData.keyHash P (Str.ofString "JUMP_NO_INTERRUPT")) (Value.str (Str.ofString "JUMP_NO_INTERRUPT") 525) (Value.bool Bool.true), DictEntry.mk (PySem.PyData.keyHash P (Str.ofString "POP_JUMP_IF_FALSE")) (Value.str (Str.ofString "POP_JUMP_IF_FALSE") 526) (Value.bool Bool.true), DictEntry.mk (PySem.PyData.keyHash P (Str.ofString "POP_JUMP_IF_NONE")) (Value.str (Str.ofString "POP_JUMP_IF_NONE") 527) (Value.bool Bool.true), DictEntry.mk (PySem.PyData.keyHash P (Str.ofString "POP_JUMP_IF_NOT_NONE")) (Value.str (Str.ofString "POP_JUMP_IF_NOT_NONE") 528) (Value.bool Bool.true), DictEntry.mk (PySem.PyData.keyHash P (Str.ofString "POP_JUMP_IF_TRUE")) (Value.str (Str.ofString "POP_JUMP_IF_TRUE") 529) (Value.bool Bool.true), DictEntry.mk (PySem.PyData.keyHash P (Str.ofString "SEND")) (Value.str (Str.ofString "SEND") 530) (Value.bool Bool.true)] 11) #[]
def ob30 (P : Params) : Obj := Obj.mk (Value.type "dict") Option.none (Data.dict #[DictEntry.mk (PySem.PyData.keyHash P (Str.ofString "JUMP")) (Value.str (Str.ofString "JUMP") 543) (Value.bool Bool.true), DictEntry.mk (PySem.PyData.keyHash P (Str.ofString "JUMP_BACKWARD")) (Value.str (Str.ofString "JUMP_BACKWARD") 544) (Value.bool Bool.true), DictEntry.mk (PySem.PyData.keyHash P (Str.ofString "JUMP_BACKWARD_NO_INTERRUPT")) (Value.str (Str.ofString "JUMP_BACKWARD_NO_INTERRUPT") 545) (Value.bool Bool.true), DictEntry.mk (PySem.PyData.keyHash P (Str.ofString "JUMP_FORWARD")) (Value.str (Str.ofString "JUMP_FORWARD") 546) (Value.bool Bool.true), DictEntry.mk (PySem.PyData.keyHash P (Str.ofString "JUMP_NO_INTERRUPT")) (Value.str (Str.ofString "JUMP_NO_INTERRUPT") 547) (Value.bool Bool.true), DictEntry.mk (PySem.PyData.keyHash P (Str.ofString "RAISE_VARARGS")) (Value.str (Str.ofString "RAISE_VARARGS") 548) (Value.bool Bool.true), DictEntry.mk (PySem.PyData.keyHash P (Str.ofString "RERAISE")) (Value.str (Str.ofString "RERAISE") 549) (Value.bool Bool.true), DictEntry.mk (PySem.PyData.keyHash P (Str.ofString "RETURN_CONST")) (Value.str (Str.ofString "RETURN_CONST") 550) (Value.bool Bool.true), DictEntry.mk (PySem.PyData.keyHash P (Str.ofString "RETURN_VALUE")) (Value.str (Str.ofString "RETURN_VALUE") 551) (Value.bool Bool.true)] 9) #[]
def ob31 (P : Params) : Obj := Obj.mk (Value.type "dict") Option.none (Data.dict #[DictEntry.mk (PySem.PyData.keyHash P (Str.ofString "FOR_ITER")) (Value.str (Str.ofString "FOR_ITER") 562) (Value.bool Bool.true), DictEntry.mk (PySem.PyData.keyHash P (Str.ofString "JUMP")) (Value.str (Str.ofString "JUMP") 564) (Value.bool Bool.true), DictEntry.mk (PySem.PyData.keyHash P (Str.ofString "JUMP_BACKWARD")) (Value.str (Str.ofString "JUMP_BACKWARD") 566) (Value.bool Bool.true), DictEntry.mk (PySem.PyData.keyHash P (Str.ofString "JUMP_BACKWARD_NO_INTERRUPT")) (Value.str (Str.ofString "JUMP_BACKWARD_NO_INTERRUPT") 568) (Value.bool Bool.true), DictEntry.mk (PySem.PyData.keyHash P (Str.ofString "JUMP_FORWARD")) (Value.str (Str.ofString "JUMP_FORWARD") 570) (Value.bool Bool.true), DictEntry.mk (PySem.PyData.keyHash P (Str.ofString "JUMP_NO_INTERRUPT")) (Value.str (Str.ofString "JUMP_NO_INTERRUPT") 572) (Value.bool Bool.true), DictEntry.mk (PySem.PyData.keyHash P (Str.ofString "LABEL")) (Value.str (Str.ofString "LABEL") 574) (Value.bool Bool.true), DictEntry.mk (PySem.PyData.keyHash P (Str.ofString "POP_JUMP_IF_FALSE")) (Value.str (Str.ofString "POP_JUMP_IF_FALSE") 576) (Value.bool Bool.true), DictEntry.mk (PySem.PyData.keyHash P (Str.ofString "POP_JUMP_IF_NONE")) (Value.str (Str.ofString "POP_JUMP_IF_NONE") 578) (Value.bool Bool.true), DictEntry.mk (PySem.PyData.keyHash P (Str.ofString "POP_JUMP_IF_NOT_NONE")) (Value.str (Str.ofString "POP_JUMP_IF_NOT_NONE") 580) (Value.bool Bool.true), DictEntry.mk (PySem.PyData.keyHash P (Str.ofString "POP_JUMP_IF_TRUE")) (Value.str (Str.ofString "POP_JUMP_IF_TRUE") 582) (Value.bool Bool.true), DictEntry.mk (PySem.PyData.keyHash P (Str.ofString "RAISE_VARARGS")) (Value.str (Str.ofString "RAISE_VARARGS") 584) (Value.bool Bool.true), DictEntry.mk (PySem.PyData.keyHash P (Str.ofString "RERAISE")) (Value.str (Str.ofString "RERAISE") 586) (Value.bool Bool.true), DictEntry.mk (PySem.PyData.keyHash P (Str.ofString "RETURN_CONST")) (Value.str (Str.ofString "RETURN_CONST") 588) (Value.bool Bool.true), DictEntry.mk (PySem.PyData.keyHash P (Str.ofString "RETURN_VALUE")) (Value.str (Str.ofString "RETURN_VALUE") 590) (Value.bool Bool.true), DictEntry.mk (PySem.PyData.keyHash P (Str.ofString "SEND")) (Value.str (Str.ofString "SEND") 592) (Value.bool Bool.true)] 16) #[]
def ob32 (P : Params) : Obj := Obj.mk (Value.type "dict") Option.none (Data.dict #[DictEntry.mk (PySem.PyData.keyHash P (Str.ofString "BUILD_LIST")) (Value.str (Str.ofString "BUILD_LIST") 595) (Value.bool Bool.true), DictEntry.mk (PySem.PyData.keyHash P (Str.ofString "BUILD_TUPLE")) (Value.str (Str.ofString "BUILD_TUPLE") 597) (Value.bool Bool.true), DictEntry.mk (PySem.PyData.keyHash P (Str.ofString "CALL_INTRINSIC_1")) (Value.str (Str.ofString "CALL_INTRINSIC_1") 599) (Value.bool Bool.true), DictEntry.mk (PySem.PyData.keyHash P (Str.ofString "COPY")) (Value.str (Str.ofString "COPY") 601) (Value.bool Bool.true), DictEntry.mk (PySem.PyData.keyHash P (Str.ofString "COPY_FREE_VARS")) (Value.str (Str.ofString "COPY_FREE_VARS") 603) (Value.bool Bool.true), DictEntry.mk (PySem.PyData.keyHash P (Str.ofString "END_FOR")) (Value.str (Str.ofString "END_FOR") 605) (Value.bool Bool.true), DictEntry.mk (PySem.PyData.keyHash P (Str.ofString "END_SEND")) (Value.str (Str.ofString "END_SEND") 607) (Value.bool Bool.true), DictEntry.mk (PySem.PyData.keyHash P (Str.ofString "IS_OP")) (Value.str (Str.ofString "IS_OP") 609) (Value.bool Bool.true), DictEntry.mk (PySem.PyData.keyHash P (Str.ofString "JUMP")) (Value.str (Str.ofString "JUMP") 611) (Value.bool Bool.true), DictEntry.mk (PySem.PyData.keyHash P (Str.ofString "JUMP_BACKWARD")) (Value.str (Str.ofString "JUMP_BACKWARD") 613) (Value.bool Bool.true), DictEntry.mk (PySem.PyData.keyHash P (Str.ofString "JUMP_BACKWARD_NO_INTERRUPT")) (Value.str (Str.ofString "JUMP_BACKWARD_NO_INTERRUPT") 615) (Value.bool Bool.true), DictEntry.mk (PySem.PyData.keyHash P (Str.ofString "JUMP_FORWARD")) (Value.str (Str.ofString "JUMP_FORWARD") 617) (Value.bool Bool.true), DictEntry.mk (PySem.PyData.keyHash P (Str.ofString "JUMP_NO_INTERRUPT")) (Value.str (Str.ofString "JUMP_NO_INTERRUPT") 619) (Value.bool Bool.true), DictEntry.mk (PySem.PyData.keyHash P (Str.ofString "LABEL")) (Value.str (Str.ofString "LABEL") 621) (Value.bool Bool.true), DictEntry.mk (PySem.PyData.keyHash P (Str.ofString "LIST_APPEND")) (Value.str (Str.ofString "LIST_APPEND") 623) (Value.bool Bool.true), DictEntry.mk (PySem.PyData.keyHash P (Str.ofString "LOAD_ASSERTION_ERROR")) (Value.str (Str.ofString "LOAD_ASSERTION_ERROR") 625) (Value.bool Bool.true), DictEntry.mk (PySem.PyData.keyHash P (Str.ofString "LOAD_BUILD_CLASS")) (Value.str (Str.ofString "LOAD_BUILD_CLASS") 627) (Value.bool Bool.true), DictEntry.mk (PySem.PyData.keyHash P (Str.ofString "LOAD_CLOSURE")) (Value.str (Str.ofString "LOAD_CLOSURE") 629) (Value.bool Bool.true), DictEntry.mk (PySem.PyData.keyHash P (Str.ofString "LOAD_CODE")) (Value.str (Str.ofString "LOAD_CODE") 631) (Value.bool Bool.true), DictEntry.mk (PySem.PyData.keyHash P (Str.ofString "LOAD_CONST")) (Value.str (Str.ofString "LOAD_CONST") 633) (Value.bool Bool.true), DictEntry.mk (PySem.PyData.keyHash P (Str.ofString "LOAD_FAST")) (Value.str (Str.ofString "LOAD_FAST") 635) (Value.bool Bool.true), DictEntry.mk (PySem.PyData.keyHash P (Str.ofString "LOAD_FAST_LOAD_FAST")) (Value.str (Str.ofString "LOAD_FAST_LOAD_FAST") 637) (Value.bool Bool.true), DictEntry.mk (PySem.PyData.keyHash P (Str.ofString "LOAD_LOCALS")) (Value.str (Str.ofString "LOAD_LOCALS") 639) (Value.bool Bool.true), DictEntry.mk (PySem.PyData.keyHash P (Str.ofString "MAKE_CELL")) (Value.str (Str.ofString "MAKE_CELL") 641) (Value.bool Bool.true), DictEntry.mk (PySem.PyData.keyHash P (Str.ofString "MAKE_FUNCTION")) (Value.str (Str.ofString "MAKE_FUNCTION") 643) (Value.bool Bool.true), DictEntry.mk (PySem.PyData.keyHash P (Str.ofString "NOP")) (Value.str (Str.ofString "NOP") 645) (Value.bool Bool.true), DictEntry.mk (PySem.PyData.keyHash P (Str.ofString "POP_EXCEPT")) (Value.str (Str.ofString "POP_EXCEPT") 647) (Value.bool Bool.true), DictEntry.mk (PySem.PyData.keyHash P (Str.ofString "POP_JUMP_IF_FALSE")) (Value.str (Str.ofString "POP_JUMP_IF_FALSE") 649) (Value.bool Bool.true), DictEntry.mk (PySem.PyData.keyHash P (Str.ofString "POP_JUMP_IF_NONE")) (Value.str (Str.ofString "POP_JUMP_IF_NONE") 651) (Value.bool Bool.true), DictEntry.mk (PySem.PyData.keyHash P (Str.ofString "POP_JUMP_IF_NOT_NONE")) (Value.str (Str.ofString "POP_JUMP_IF_NOT_NONE") 653) (Value.bool Bool.true), DictEntry.mk (PySem.PyData.keyHash P (Str.ofString "POP_JUMP_IF_TRUE")) (Value.str (Str.ofString "POP_JUMP_IF_TRUE") 655) (Value.bool Bool.true), DictEntry.mk (PySem.PyData.keyHash P (Str.ofString "POP_TOP")) (Value.str (Str.ofString "POP_TOP") 657) (Value.bool Bool.true), DictEntry.mk (PySem.PyData.keyHash P (Str.ofString "PUSH_EXC_INFO")) (Value.str (Str.ofString "PUSH_EXC_INFO") 659) (Value.bool Bool.true), DictEntry.mk (PySem.PyData.keyHash P (Str.ofString "PUSH_NULL")) (Value.str (Str.ofString "PUSH_NULL") 661) (Value.bool Bool.true), DictEntry.mk (PySem.PyData.keyHash P (Str.ofString "RESUME")) (Value.str (Str.ofString "RESUME") 663) (Value.bool Bool.true), DictEntry.mk (PySem.PyData.keyHash P (Str.ofString "RETURN_CONST")) (Value.str (Str.ofString "RETURN_CONST") 664) (Value.bool Bool.true), DictEntry.mk (PySem.PyData.keyHash P (Str.ofString "RETURN_GENERATOR")) (Value.str (Str.ofString "RETURN_GENERATOR") 665) (Value.bool Bool.true), DictEntry.mk (PySem.PyData.keyHash P (Str.ofString "RETURN_VALUE")) (Value.str (Str.ofString "RETURN_VALUE") 666) (Value.bool Bool.true), DictEntry.mk (PySem.PyData.keyHash P (Str.ofString "SET_FUNCTION_ATTRIBUTE")) (Value.str (Str.ofString "SET_FUNCTION_ATTRIBUTE") 667) (Value.bool Bool.true), DictEntry.mk (PySem.PyData.keyHash P (Str.ofString "STORE_DEREF")) (Value.str (Str.ofString "STORE_DEREF") 668) (Value.bool Bool.true), DictEntry.mk (PySem.PyData.keyHash P (Str.ofString "STORE_FAST")) (Value.str (Str.ofString "STORE_FAST") 669) (Value.bool Bool.true), DictEntry.mk (PySem.PyData.keyHash P (Str.ofString "STORE_FAST_LOAD_FAST")) (Value.str (Str.ofString "STORE_FAST_LOAD_FAST") 670) (Value.bool Bool.true), DictEntry.mk (PySem.PyData.keyHash P (Str.ofString "STORE_FAST_STORE_FAST")) (Value.str (Str.ofString "STORE_FAST_STORE_FAST") 671) (Value.bool Bool.true), DictEntry.mk (PySem.PyData.keyHash P (Str.ofString "STORE_GLOBAL")) (Value.str (Str.ofString "STORE_GLOBAL") 672) (Value.bool Bool.true), DictEntry.mk (PySem.PyData.keyHash P (Str.ofString "STORE_NAME")) (Value.str (Str.ofString "STORE_NAME") 673) (Value.bool Bool.true), DictEntry.mk (PySem.PyData.keyHash P (Str.ofString "SWAP")) (Value.str (Str.ofString "SWAP") 674) (Value.bool Bool.true), DictEntry.mk (PySem.PyData.keyHash P (Str.ofString "UNARY_NOT")) (Value.str (Str.ofString "UNARY_NOT") 675) (Value.bool Bool.true)] 47) #[]
def ob33 (P : Params) : Obj := Obj.mk (Value.type "dict") Option.none (Data.dict #[DictEntry.mk (PySem.PyData.keyHash P (Str.ofString "LOAD_CLOSURE")) (Value.str (Str.ofString "LOAD_CLOSURE") 629) (Value.bool Bool.true), DictEntry.mk (PySem.PyData.keyHash P (Str.ofString "LOAD_CODE")) (Value.str (Str.ofString "LOAD_CODE") 631) (Value.bool Bool.true), DictEntry.mk (PySem.PyData.keyHash P (Str.ofString "LOAD_CONST")) (Value.str (Str.ofString "LOAD_CONST") 633) (Value.bool Bool.true), DictEntry.mk (PySem.PyData.keyHash P (Str.ofString "LOAD_FAST")) (Value.str (Str.ofString "LOAD_FAST") 635) (Value.bool Bool.true), DictEntry.mk (PySem.PyData.keyHash P (Str.ofString "LOAD_FAST_LOAD_FAST")) (Value.str (Str.ofString "LOAD_FAST_LOAD_FAST") 637) (Value.bool Bool.true), DictEntry.mk (PySem.PyData.keyHash P (Str.ofString "LOAD_LOCALS")) (Value.str (Str.ofString "LOAD_LOCALS") 639) (Value.bool Bool.true), DictEntry.mk (PySem.PyData.keyHash P (Str.ofString "MAKE_CELL")) (Value.str (Str.ofString "MAKE_CELL") 641) (Value.bool Bool.true), DictEntry.mk (PySem.PyData.keyHash P (Str.ofString "MAKE_FUNCTION")) (Value.str (Str.ofString "MAKE_FUNCTION") 643) (Value.bool Bool.true), DictEntry.mk (PySem.PyData.keyHash P (Str.ofString "NOP")) (Value.str (Str.ofString "NOP") 645) (Value.bool Bool.true), DictEntry.mk (PySem.PyData.keyHash P (Str.ofString "POP_EXCEPT")) (Value.str (Str.ofString "POP_EXCEPT") 647) (Value.bool Bool.true), DictEntry.mk (PySem.PyData.keyHash P (Str.ofString "POP_JUMP_IF_FALSE")) (Value.str (Str.ofString "POP_JUMP_IF_FALSE") 649) (Value.bool Bool.true), DictEntry.mk (PySem.PyData.keyHash P (Str.ofString "POP_JUMP_IF_NONE")) (Value.str (Str.ofString "POP_JUMP_IF_NONE") 651) (Value.bool Bool.true), DictEntry.mk (PySem.PyData.keyHash P (Str.ofString "POP_JUMP_IF_NOT_NONE")) (Value.str (Str.ofString "POP_JUMP_IF_NOT_NONE") 653) (Value.bool Bool.true), DictEntry.mk (PySem.PyData.keyHash P (Str.ofString "POP_JUMP_IF_TRUE")) (Value.str (Str.ofString "POP_JUMP_IF_TRUE") 655) (Value.bool Bool.true), DictEntry.mk (PySem.PyData.keyHash P (Str.ofString "POP_TOP")) (Value.str (Str.ofString "POP_TOP") 657) (Value.bool Bool.true), DictEntry.mk (PySem.PyData.keyHash P (Str.ofString "PUSH_EXC_INFO")) (Value.str (Str.ofString "PUSH_EXC_INFO") 659) (Value.bool Bool.true), DictEntry.mk (PySem.PyData.keyHash P (Str.ofString "PUSH_NULL")) (Value.str (Str.ofString "PUSH_NULL") 661) (Value.bool Bool.true)] 17) #[]
def ob34 (P : Params) : Obj := Obj.mk (Value.type "dict") Option.none (Data.dict #[DictEntry.mk (PySem.PyData.keyHash P (Str.ofString "RESUME")) (Value.str (Str.ofString "RESUME") 663) (Value.bool Bool.true), DictEntry.mk (PySem.PyData.keyHash P (Str.ofString "RETURN_CONST")) (Value.str (Str.ofString "RETURN_CONST") 664) (Value.bool Bool.true), DictEntry.mk (PySem.PyData.keyHash P (Str.ofString "RETURN_GENERATOR")) (Value.str (Str.ofString "RETURN_GENERATOR") 665) (Value.bool Bool.true), DictEntry.mk (PySem.PyData.keyHash P (Str.ofString "RETURN_VALUE")) (Value.str (Str.ofString "RETURN_VALUE") 666) (Value.bool Bool.true), DictEntry.mk (PySem.PyData.keyHash P (Str.ofString "SET_FUNCTION_ATTRIBUTE")) (Value.str (Str.ofString "SET_FUNCTION_ATTRIBUTE") 667) (Value.bool Bool.true), DictEntry.mk (PySem.PyData.keyHash P (Str.ofString "STORE_DEREF")) (Value.str (Str.ofString "STORE_DEREF") 668) (Value.bool Bool.true), DictEntry.mk (PySem.PyData.keyHash P (Str.ofString "STORE_FAST")) (Value.str (Str.ofString "STORE_FAST") 669) (Value.bool Bool.true), DictEntry.mk (PySem.PyData.keyHash P (Str.ofString "STORE_FAST_LOAD_FAST")) (Value.str (Str.ofString "STORE_FAST_LOAD_FAST") 670) (Value.bool Bool.true), DictEntry.mk (PySem.PyData.keyHash P (Str.ofString "STORE_FAST_STORE_FAST")) (Value.str (Str.ofString "STORE_FAST_STORE_FAST") 671) (Value.bool Bool.true), DictEntry.mk (PySem.PyData.keyHash P (Str.ofString "STORE_GLOBAL")) (Value.str (Str.ofString "STORE_GLOBAL") 672) (Value.bool Bool.true), DictEntry.mk (PySem.PyData.keyHash P (Str.ofString "STORE_NAME")) (Value.str (Str.ofString "STORE_NAME") 673) (Value.bool Bool.true), DictEntry.mk (PySem.PyData.keyHash P (Str.ofString "SWAP")) (Value.str (Str.ofString "SWAP") 674) (Value.bool Bool.true), DictEntry.mk (PySem.PyData.keyHash P (Str.ofString "UNARY_NOT")) (Value.str (Str.ofString "UNARY_NOT") 675) (Value.bool Bool.true)] 13) #[]
def ob35 (P : Params) : Obj := Obj.mk (Value.type "dict") Option.none (Data.dict #[DictEntry.mk (PySem.PyData.keyHash P (Str.ofString "DELETE_DEREF")) (Value.str (Str.ofString "DELETE_DEREF") 690) (Value.bool Bool.true), DictEntry.mk (PySem.PyData.keyHash P (Str.ofString "DELETE_FAST")) (Value.str (Str.ofString "DELETE_FAST") 691) (Value.bool Bool.true), DictEntry.mk (PySem.PyData.keyHash P (Str.ofString "LOAD_CLOSURE")) (Value.str (Str.ofString "LOAD_CLOSURE") 692) (Value.bool Bool.true), DictEntry.mk (PySem.PyData.keyHash P (Str.ofString "LOAD_DEREF")) (Value.str (Str.ofString "LOAD_DEREF") 693) (Value.bool Bool.true), DictEntry.mk (PySem.PyData.keyHash P (Str.ofString "LOAD_FAST")) (Value.str (Str.ofString "LOAD_FAST") 694) (Value.bool Bool.true), DictEntry.mk (PySem.PyData.keyHash P (Str.ofString "LOAD_FAST_CHECK")) (Value.str (Str.ofString "LOAD_FAST_CHECK") 695) (Value.bool Bool.true), DictEntry.mk (PySem.PyData.keyHash P (Str.ofString "LOAD_FROM_DICT_OR_DEREF")) (Value.str (Str.ofString "LOAD_FROM_DICT_OR_DEREF") 696) (Value.bool Bool.true), DictEntry.mk (PySem.PyData.keyHash P (Str.ofString "MAKE_CELL")) (Value.str (Str.ofString "MAKE_CELL") 697) (Value.bool Bool.true), DictEntry.mk (PySem.PyData.keyHash P (Str.ofString "STORE_DEREF")) (Value.str (Str.ofString "STORE_DEREF") 698) (Value.bool Bool.true), DictEntry.mk (PySem.PyData.keyHash P (Str.ofString "STORE_FAST")) (Value.str (Str.ofString "STORE_FAST") 699) (Value.bool Bool.true), DictEntry.mk (PySem.PyData.keyHash P (Str.ofString "LOAD_FAST_LOAD_FAST")) (Value.str (Str.ofString "LOAD_FAST_LOAD_FAST") 700) (Value.bool Bool.true), DictEntry.mk (PySem.PyData.keyHash P (Str.ofString "STORE_FAST_LOAD_FAST")) (Value.str (Str.ofString "STORE_FAST_LOAD_FAST") 701) (Value.bool Bool.true), DictEntry.mk (PySem.PyData.keyHash P (Str.ofString "STORE_FAST_STORE_FAST")) (Value.str (Str.ofString "STORE_FAST_STORE_FAST") 702) (Value.bool Bool.true)] 13) #[]
def ob36 : Obj := Obj.mk (Value.type "tuple") Option.none (Data.seq #[Value.str (Str.ofString "word") 720, Value.str (Str.ofString "argument") 721, Value.str (Str.ofString "plain") 722, Value.str (Str.ofString "each") 723]) #[]
def ob37 : Obj := Obj.mk Value.none Option.none (Data.func (FuncData.mk (Str.ofString "effect_of") (Str.ofString "effect_of") (L2.defArgs (C38.ztop 8)) (FuncBody.stmts (L2.defBody (C38.ztop 8))) (L2.defScope (C38.ztop 8)) 0 [] Value.none Value.none Value.none Value.none Option.none Value.none Value.none 0)) #[]
def ob38 : Obj := Obj.mk (Value.type "code") Option.none (Data.fields #[Value.str (Str.ofString "effect_of") 717, Value.str (Str.ofString "effect_of") 718, Value.str (Str.ofString "/claim/cut.py") 719, Value.int 9 0, Value.int 2 0, Value.int 0 0, Value.int 0 0, Value.int 3 0, Value.ref 37, Value.bool Bool.true, Value.int 181 0, Value.ref 38, Value.none, Value.ref 39, Value.ref 40, Value.ref 41, Value.int 724 0, Value.int 9 0, Value.str (Str.ofString "/claim/cut.py") 725]) #[]
def ob39 : Obj := Obj.mk (Value.type "function") Option.none (Data.func (FuncData.mk (Str.ofString "effect_of") (Str.ofString "effect_of") (L2.defArgs (C38.ztop 8)) (FuncBody.stmts (L2.defBody (C38.ztop 8))) (L2.defScope (C38.ztop 8)) 3 [] Value.none Value.none Value.none (Value.str (Str.ofString "codewalk.words") 187) Option.none (Value.ref 42) Value.none 0)) #[]
def ob40 : Obj := Obj.mk (Value.type "tuple") Option.none (Data.seq #[Value.str (Str.ofString "head") 732, Value.str (Str.ofString "names") 733, Value.str (Str.ofString "only") 734, Value.str (Str.ofString "rest") 735, Value.str (Str.ofString "more") 736, Value.str (Str.ofString "found") 737]) #[]
def ob41 : Obj := Obj.mk Value.none Option.none (Data.func (FuncData.mk (Str.ofString "parameters_of") (Str.ofString "parameters_of") (L2.defArgs (C38.ztop 10)) (FuncBody.stmts (L2.defBody (C38.ztop 10))) (L2.defScope (C38.ztop 10)) 0 [] Value.none Value.none Value.none Value.none Option.none Value.none Value.none 0)) #[]
def ob42 : Obj := Obj.mk (Value.type "code") Option.none (Data.fields #[Value.str (Str.ofString "parameters_of") 729, Value.str (Str.ofString "parameters_of") 730, Value.str (Str.ofString "/claim/cut.py") 731, Value.int 17 0, Value.int 1 0, Value.int 0 0, Value.int 0 0, Value.int 3 0, Value.ref 44, Value.bool Bool.true, Value.int 181 0, Value.ref 45, Value.none, Value.ref 46, Value.ref 47, Value.ref 48, Value.int 738 0, Value.int 17 0, Value.str (Str.ofString "/claim/cut.py") 739]) #[]
def ob43 : Obj := Obj.mk (Value.type "function") Option.none (Data.func (FuncData.mk (Str.ofString "parameters_of") (Str.ofString "parameters_of") (L2.defArgs (C38.ztop 10)) (FuncBody.stmts (L2.defBody (C38.ztop 10))) (L2.defScope (C38.ztop 10)) 3 [] Value.none Value.none Value.none (Value.str (Str.ofString "codewalk.slots") 727) Option.none (Value.ref 49) Value.none 0)) #[]
def ob44 : Obj := Obj.mk Value.none Option.none (Data.func (FuncData.mk (Str.ofString "numbers_of") (Str.ofString "numbers_of") (L2.defArgs (C38.ztop 11)) (FuncBody.stmts (L2.defBody (C38.ztop 11))) (L2.defScope (C38.ztop 11)) 0 [] Value.none Value.none Value.none Value.none Option.none Value.none Value.none 0)) #[]
def ob45 : Obj := Obj.mk (Value.type "code") Option.none (Data.fields #[Value.str (Str.ofString "numbers_of") 741, Value.str (Str.ofString "numbers_of") 742, Value.str (Str.ofString "/claim/cut.py") 743, Value.int 25 0, Value.int 2 0, Value.int 0 0, Value.int 0 0, Value.int 3 0, Value.ref 51, Value.bool Bool.true, Value.int 181 0, Value.ref 52, Value.none, Value.none, Value.none, Value.ref 53, Value.int 744 0, Value.int 25 0, Value.str (Str.ofString "/claim/cut.py") 745]) #[]
def ob46 : Obj := Obj.mk (Value.type "function") Option.none (Data.func (FuncData.mk (Str.ofString "numbers_of") (Str.ofString "numbers_of") (L2.defArgs (C38.ztop 11)) (FuncBody.stmts (L2.defBody (C38.ztop 11))) (L2.defScope (C38.ztop 11)) 3 [] Value.none Value.none Value.none (Value.str (Str.ofString "codewalk.slots") 727) Option.none (Value.ref 54) Value.none 0)) #[]
def ob47 : Obj := Obj.mk Value.none Option.none (Data.func (FuncData.mk (Str.ofString "locals_in") (Str.ofString "locals_in") (L2.defArgs (C38.ztop 12)) (FuncBody.stmts (L2.defBody (C38.ztop 12))) (L2.defScope (C38.ztop 12)) 0 [] Value.none Value.none Value.none Value.none Option.none Value.none Value.none 0)) #[]
def ob48 : Obj := Obj.mk (Value.type "code") Option.none (Data.fields #[Value.str (Str.ofString "locals_in") 747, Value.str (Str.ofString "locals_in") 748, Value.str (Str.ofString "/claim/cut.py") 749, Value.int 33 0, Value.int 1 0, Value.int 0 0, Value.int 0 0, Value.int 3 0, Value.ref 56, Value.bool Bool.true, Value.int 181 0, Value.ref 57, Value.none, Value.none, Value.none, Value.ref 58, Value.int 750 0, Value.int 33 0, Value.str (Str.ofString "/claim/cut.py") 751]) #[]
def ob49 : Obj := Obj.mk (Value.type "function") Option.none (Data.func (FuncData.mk (Str.ofString "locals_in") (Str.ofString "locals_in") (L2.defArgs (C38.ztop 12)) (FuncBody.stmts (L2.defBody (C38.ztop 12))) (L2.defScope (C38.ztop 12)) 3 [] Value.none Value.none Value.none (Value.str (Str.ofString "codewalk.slots") 727) Option.none (Value.ref 59) Value.none 0)) #[]
def ob50 (P : Params) : Obj := Obj.mk (Value.type "dict") Option.none (Data.dict #[DictEntry.mk (PySem.PyData.keyHash P (Str.ofString "DELETE_FAST")) (Value.str (Str.ofString "DELETE_FAST") 755) (Value.bool Bool.true), DictEntry.mk (PySem.PyData.keyHash P (Str.ofString "LOAD_FAST")) (Value.str (Str.ofString "LOAD_FAST") 756) (Value.bool Bool.true), DictEntry.mk (PySem.PyData.keyHash P (Str.ofString "LOAD_FAST_CHECK")) (Value.str (Str.ofString "LOAD_FAST_CHECK") 757) (Value.bool Bool.true), DictEntry.mk (PySem.PyData.keyHash P (Str.ofString "STORE_FAST")) (Value.str (Str.ofString "STORE_FAST") 758) (Value.bool Bool.true)] 4) #[]
def ob51 : Obj := Obj.mk (Value.type "tuple") Option.none (Data.seq #[Value.str (Str.ofString "rows") 767, Value.str (Str.ofString "head") 768, Value.str (Str.ofString "words") 769, Value.str (Str.ofString "lacking") 770, Value.str (Str.ofString "found") 771, Value.str (Str.ofString "at") 772, Value.str (Str.ofString "_") 773, Value.str (Str.ofString "name") 774, Value.str (Str.ofString "line") 775, Value.str (Str.ofString "handler") 776]) #[]
def ob52 : Obj := Obj.mk Value.none Option.none (Data.func (FuncData.mk (Str.ofString "with_checks") (Str.ofString "with_checks") (L2.defArgs (C38.ztop 15)) (FuncBody.stmts (L2.defBody (C38.ztop 15))) (L2.defScope (C38.ztop 15)) 0 [] Value.none Value.none Value.none Value.none Option.none Value.none Value.none 0)) #[]
def ob53 : Obj := Obj.mk (Value.type "code") Option.none (Data.fields #[Value.str (Str.ofString "with_checks") 764, Value.str (Str.ofString "with_checks") 765, Value.str (Str.ofString "/claim/cut.py") 766, Value.int 43 0, Value.int 3 0, Value.int 0 0, Value.int 0 0, Value.int 3 0, Value.ref 62, Value.bool Bool.true, Value.int 181 0, Value.ref 63, Value.none, Value.ref 64, Value.ref 65, Value.ref 66, Value.int 777 0, Value.int 43 0, Value.str (Str.ofString "/claim/cut.py") 778]) #[]
def ob54 : Obj := Obj.mk (Value.type "function") Option.none (Data.func (FuncData.mk (Str.ofString "with_checks") (Str.ofString "with_checks") (L2.defArgs (C38.ztop 15)) (FuncBody.stmts (L2.defBody (C38.ztop 15))) (L2.defScope (C38.ztop 15)) 3 [] Value.none Value.none Value.none (Value.str (Str.ofString "codewalk.bound") 753) Option.none (Value.ref 67) Value.none 0)) #[]
def ob55 : Obj := Obj.mk Value.none Option.none (Data.func (FuncData.mk (Str.ofString "lacking_in_order") (Str.ofString "lacking_in_order") (L2.defArgs (C38.ztop 16)) (FuncBody.stmts (L2.defBody (C38.ztop 16))) (L2.defScope (C38.ztop 16)) 0 [] Value.none Value.none Value.none Value.none Option.none Value.none Value.none 0)) #[]
def ob56 : Obj := Obj.mk (Value.type "code") Option.none (Data.fields #[Value.str (Str.ofString "lacking_in_order") 780, Value.str (Str.ofString "lacking_in_order") 781, Value.str (Str.ofString "/claim/cut.py") 782, Value.int 54 0, Value.int 2 0, Value.int 0 0, Value.int 0 0, Value.int 3 0, Value.ref 69, Value.bool Bool.true, Value.int 181 0, Value.ref 70, Value.none, Value.none, Value.none, Value.ref 71, Value.int 783 0, Value.int 54 0, Value.str (Str.ofString "/claim/cut.py") 784]) #[]
def ob57 : Obj := Obj.mk (Value.type "function") Option.none (Data.func (FuncData.mk (Str.ofString "lacking_in_order") (Str.ofString "lacking_in_order") (L2.defArgs (C38.ztop 16)) (FuncBody.stmts (L2.defBody (C38.ztop 16))) (L2.defScope (C38.ztop 16)) 3 [] Value.none Value.none Value.none (Value.str (Str.ofString "codewalk.bound") 753) Option.none (Value.ref 72) Value.none 0)) #[]
def ob58 : Obj := Obj.mk Value.none Option.none (Data.func (FuncData.mk (Str.ofString "lacking_on_ways") (Str.ofString "lacking_on_ways") (L2.defArgs (C38.ztop 17)) (FuncBody.stmts (L2.defBody (C38.ztop 17))) (L2.defScope (C38.ztop 17)) 0 [] Value.none Value.none Value.none Value.none Option.none Value.none Value.none 0)) #[]
def ob59 : Obj := Obj.mk (Value.type "code") Option.none (Data.fields #[Value.str (Str.ofString "lacking_on_ways") 786, Value.str (Str.ofString "lacking_on_ways") 787, Value.str (Str.ofString "/claim/cut.py") 788, Value.int 69 0, Value.int 3 0, Value.int 0 0, Value.int 0 0, Value.int 3 0, Value.ref 74, Value.bool Bool.true, Value.int 181 0, Value.ref 75, Value.none, Value.none, Value.none, Value.ref 76, Value.int 789 0, Value.int 69 0, Value.str (Str.ofString "/claim/cut.py") 790]) #[]
def ob60 : Obj := Obj.mk (Value.type "function") Option.none (Data.func (FuncData.mk (Str.ofString "lacking_on_ways") (Str.ofString "lacking_on_ways") (L2.defArgs (C38.ztop 17)) (FuncBody.stmts (L2.defBody (C38.ztop 17))) (L2.defScope (C38.ztop 17)) 3 [] Value.none Value.none Value.none (Value.str (Str.ofString "codewalk.bound") 753) Option.none (Value.ref 77) Value.none 0)) #[]
def ob61 : Obj := Obj.mk Value.none Option.none (Data.func (FuncData.mk (Str.ofString "bits_of") (Str.ofString "bits_of") (L2.defArgs (C38.ztop 18)) (FuncBody.stmts (L2.defBody (C38.ztop 18))) (L2.defScope (C38.ztop 18)) 0 [] Value.none Value.none Value.none Value.none Option.none Value.none Value.none 0)) #[]
def ob62 : Obj := Obj.mk (Value.type "code") Option.none (Data.fields #[Value.str (Str.ofString "bits_of") 792, Value.str (Str.ofString "bits_of") 793, Value.str (Str.ofString "/claim/cut.py") 794, Value.int 79 0, Value.int 3 0, Value.int 0 0, Value.int 0 0, Value.int 3 0, Value.ref 79, Value.bool Bool.true, Value.int 181 0, Value.ref 80, Value.none, Value.none, Value.none, Value.ref 81, Value.int 795 0, Value.int 79 0, Value.str (Str.ofString "/claim/cut.py") 796]) #[]
def ob63 : Obj := Obj.mk (Value.type "function") Option.none (Data.func (FuncData.mk (Str.ofString "bits_of") (Str.ofString "bits_of") (L2.defArgs (C38.ztop 18)) (FuncBody.stmts (L2.defBody (C38.ztop 18))) (L2.defScope (C38.ztop 18)) 3 [] Value.none Value.none Value.none (Value.str (Str.ofString "codewalk.bound") 753) Option.none (Value.ref 82) Value.none 0)) #[]
def ob64 : Obj := Obj.mk (Value.type "builtin_function_or_method") Option.none (Data.fields #[Value.builtin "type.__prepare__", Value.type "type"]) #[]
def ob65 (P : Params) : Obj := Obj.mk (Value.type "dict") Option.none (Data.dict #[DictEntry.mk (PySem.PyData.keyHash P (Str.ofString "__module__")) (Value.str (Str.ofString "__module__") 805) (Value.str (Str.ofString "codewalk.bound") 753), DictEntry.mk (PySem.PyData.keyHash P (Str.ofString "__qualname__")) (Value.str (Str.ofString "__qualname__") 807) (Value.str (Str.ofString "Bound") 806), DictEntry.mk (PySem.PyData.keyHash P (Str.ofString "__firstlineno__")) (Value.str (Str.ofString "__firstlineno__") 809) (Value.int 90 808), DictEntry.mk (PySem.PyData.keyHash P (Str.ofString "__init__")) (Value.str (Str.ofString "__init__") 817) (Value.ref 97), DictEntry.mk (PySem.PyData.keyHash P (Str.ofString "is_stale")) (Value.str (Str.ofString "is_stale") 823) (Value.ref 102), DictEntry.mk (PySem.PyData.keyHash P (Str.ofString "sweep")) (Value.str (Str.ofString "sweep") 840) (Value.ref 109), DictEntry.mk (PySem.PyData.keyHash P (Str.ofString "pass_label")) (Value.str (Str.ofString "pass_label") 849) (Value.ref 116), DictEntry.mk (PySem.PyData.keyHash P (Str.ofString "lead_to")) (Value.str (Str.ofString "lead_to") 858) (Value.ref 123), DictEntry.mk (PySem.PyData.keyHash P (Str.ofString "__static_attributes__")) (Value.str (Str.ofString "__static_attributes__") 863) (Value.ref 124)] 9) #[]
def ob66 : Obj := Obj.mk Value.none Option.none (Data.fields #[Value.int 92 0, Value.int 4 0, Value.ref 96, Value.int 98 0, Value.int 4 0, Value.ref 101, Value.int 101 0, Value.int 4 0, Value.ref 108, Value.int 124 0, Value.int 4 0, Value.ref 115, Value.int 130 0, Value.int 4 0, Value.ref 122]) #[]
def ob67 : Obj := Obj.mk (Value.type "code") Option.none (Data.fields #[Value.str (Str.ofString "Bound") 800, Value.str (Str.ofString "Bound") 801, Value.str (Str.ofString "/claim/cut.py") 802, Value.int 90 0, Value.int 0 0, Value.int 0 0, Value.int 0 0, Value.int 0 0, Value.ref 87, Value.bool Bool.false, Value.int 181 0, Value.ref 88, Value.none, Value.none, Value.none, Value.none, Value.int 803 0, Value.int 90 0, Value.str (Str.ofString "/claim/cut.py") 804]) #[]
def ob68 : Obj := Obj.mk (Value.type "frame") Option.none Data.plain #[Option.some (Value.ref 89), Option.some (Value.ref 3), Option.some (Value.ref 86), Option.none, Option.some (Value.str (Str.ofString "codewalk.bound") 753), Option.none, Option.some (Value.ref 0)]
def ob69 : Obj := Obj.mk (Value.type "tuple") Option.none (Data.seq #[Value.str (Str.ofString "self") 813, Value.str (Str.ofString "bits") 814]) #[]
def ob70 : Obj := Obj.mk Value.none Option.none (Data.func (FuncData.mk (Str.ofString "__init__") (Str.ofString "Bound.__init__") (L2.defArgs (C38.zinClass (C38.ztop 19) 0)) (FuncBody.stmts (L2.defBody (C38.zinClass (C38.ztop 19) 0))) (L2.defScope (C38.zinClass (C38.ztop 19) 0)) 0 [] Value.none Value.none Value.none Value.none Option.none Value.none Value.none 0)) #[]
def ob71 : Obj := Obj.mk (Value.type "code") Option.none (Data.fields #[Value.str (Str.ofString "__init__") 810, Value.str (Str.ofString "Bound.__init__") 811, Value.str (Str.ofString "/claim/cut.py") 812, Value.int 92 0, Value.int 2 0, Value.int 0 0, Value.int 0 0, Value.int 3 0, Value.ref 91, Value.bool Bool.true, Value.int 181 0, Value.ref 92, Value.none, Value.ref 93, Value.ref 94, Value.ref 95, Value.int 815 0, Value.int 92 0, Value.str (Str.ofString "/claim/cut.py") 816]) #[]
def ob72 : Obj := Obj.mk (Value.type "function") Option.none (Data.func (FuncData.mk (Str.ofString "__init__") (Str.ofString "Bound.__init__") (L2.defArgs (C38.zinClass (C38.ztop 19) 0)) (FuncBody.stmts (L2.defBody (C38.zinClass (C38.ztop 19) 0))) (L2.defScope (C38.zinClass (C38.ztop 19) 0)) 3 [] Value.none Value.none Value.none (Value.str (Str.ofString "codewalk.bound") 753) Option.none (Value.ref 96) Value.none 0)) #[]
def ob73 : Obj := Obj.mk Value.none Option.none (Data.func (FuncData.mk (Str.ofString "is_stale") (Str.ofString "Bound.is_stale") (L2.defArgs (C38.zinClass (C38.ztop 19) 1)) (FuncBody.stmts (L2.defBody (C38.zinClass (C38.ztop 19) 1))) (L2.defScope (C38.zinClass (C38.ztop 19) 1)) 0 [] Value.none Value.none Value.none Value.none Option.none Value.none Value.none 0)) #[]
def ob74 : Obj := Obj.mk (Value.type "code") Option.none (Data.fields #[Value.str (Str.ofString "is_stale") 818, Value.str (Str.ofString "Bound.is_stale") 819, Value.str (Str.ofString "/claim/cut.py") 820, Value.int 98 0, Value.int 1 0, Value.int 0 0, Value.int 0 0, Value.int 3 0, Value.ref 98, Value.bool Bool.true, Value.int 181 0, Value.ref 99, Value.none, Value.none, Value.none, Value.ref 100, Value.int 821 0, Value.int 98 0, Value.str (Str.ofString "/claim/cut.py") 822]) #[]
def ob75 : Obj := Obj.mk (Value.type "function") Option.none (Data.func (FuncData.mk (Str.ofString "is_stale") (Str.ofString "Bound.is_stale") (L2.defArgs (C38.zinClass (C38.ztop 19) 1)) (FuncBody.stmts (L2.defBody (C38.zinClass (C38.ztop 19) 1))) (L2.defScope (C38.zinClass (C38.ztop 19) 1)) 3 [] Value.none Value.none Value.none (Value.str (Str.ofString "codewalk.bound") 753) Option.none (Value.ref 101) Value.none 0)) #[]
def ob76 : Obj := Obj.mk (Value.type "tuple") Option.none (Data.seq #[Value.str (Str.ofString "self") 827, Value.str (Str.ofString "rows") 828, Value.str (Str.ofString "names") 829, Value.str (Str.ofString "at") 830, Value.str (Str.ofString "row") 831, Value.str (Str.ofString "word") 832, Value.str (Str.ofString "argument") 833, Value.str (Str.ofString "_") 834, Value.str (Str.ofString "handler") 835, Value.str (Str.ofString "ahead") 836, Value.str (Str.ofString "bit") 837]) #[]
def ob77 : Obj := Obj.mk Value.none Option.none (Data.func (FuncData.mk (Str.ofString "sweep") (Str.ofString "Bound.sweep") (L2.defArgs (C38.zinClass (C38.ztop 19) 2)) (FuncBody.stmts (L2.defBody (C38.zinClass (C38.ztop 19) 2))) (L2.defScope (C38.zinClass (C38.ztop 19) 2)) 0 [] Value.none Value.none Value.none Value.none Option.none Value.none Value.none 0)) #[]
def ob78 : Obj := Obj.mk (Value.type "code") Option.none (Data.fields #[Value.str (Str.ofString "sweep") 824, Value.str (Str.ofString "Bound.sweep") 825, Value.str (Str.ofString "/claim/cut.py") 826, Value.int 101 0, Value.int 3 0, Value.int 0 0, Value.int 0 0, Value.int 3 0, Value.ref 103, Value.bool Bool.true, Value.int 181 0, Value.ref 104, Value.none, Value.ref 105, Value.ref 106, Value.ref 107, Value.int 838 0, Value.int 101 0, Value.str (Str.ofString "/claim/cut.py") 839]) #[]
def ob79 : Obj := Obj.mk (Value.type "function") Option.none (Data.func (FuncData.mk (Str.ofString "sweep") (Str.ofString "Bound.sweep") (L2.defArgs (C38.zinClass (C38.ztop 19) 2)) (FuncBody.stmts (L2.defBody (C38.zinClass (C38.ztop 19) 2))) (L2.defScope (C38.zinClass (C38.ztop 19) 2)) 3 [] Value.none Value.none Value.none (Value.str (Str.ofString "codewalk.bound") 753) Option.none (Value.ref 108) Value.none 0)) #[]
def ob80 : Obj := Obj.mk (Value.type "tuple") Option.none (Data.seq #[Value.str (Str.ofString "self") 844, Value.str (Str.ofString "label") 845, Value.str (Str.ofString "names") 846]) #[]
def ob81 : Obj := Obj.mk Value.none Option.none (Data.func (FuncData.mk (Str.ofString "pass_label") (Str.ofString "Bound.pass_label") (L2.defArgs (C38.zinClass (C38.ztop 19) 3)) (FuncBody.stmts (L2.defBody (C38.zinClass (C38.ztop 19) 3))) (L2.defScope (C38.zinClass (C38.ztop 19) 4)) 0 [] Value.none Value.none Value.none Value.none Option.none Value.none Value.none 0)) #[]
def ob82 : Obj := Obj.mk (Value.type "code") Option.none (Data.fields #[Value.str (Str.ofString "pass_label") 841, Value.str (Str.ofString "Bound.pass_label") 842, Value.str (Str.ofString "/claim/cut.py") 843, Value.int 124 0, Value.int 3 0, Value.int 0 0, Value.int 0 0, Value.int 3 0, Value.ref 110, Value.bool Bool.true, Value.int 181 0, Value.ref 111, Value.none, Value.ref 112, Value.ref 113, Value.ref 114, Value.int 847 0, Value.int 124 0, Value.str (Str.ofString "/claim/cut.py") 848]) #[]
def ob83 : Obj := Obj.mk (Value.type "function") Option.none (Data.func (FuncData.mk (Str.ofString "pass_label") (Str.ofString "Bound.pass_label") (L2.defArgs (C38.zinClass (C38.ztop 19) 3)) (FuncBody.stmts (L2.defBody (C38.zinClass (C38.ztop 19) 3))) (L2.defScope (C38.zinClass (C38.ztop 19) 4)) 3 [] Value.none Value.none Value.none (Value.str (Str.ofString "codewalk.bound") 753) Option.none (Value.ref 115) Value.none 0)) #[]
def ob84 : Obj := Obj.mk (Value.type "tuple") Option.none (Data.seq #[Value.str (Str.ofString "self") 853, Value.str (Str.ofString "label") 854, Value.str (Str.ofString "names") 855]) #[]
def ob85 : Obj := Obj.mk Value.none Option.none (Data.func (FuncData.mk (Str.ofString "lead_to") (Str.ofString "Bound.lead_to") (L2.defArgs (C38.zinClass (C38.ztop 19) 4)) (FuncBody.stmts (L2.defBody (C38.zinClass (C38.ztop 19) 4))) (L2.defScope (C38.zinClass (C38.ztop 19) 4)) 0 [] Value.none Value.none Value.none Value.none Option.none Value.none Value.none 0)) #[]
def ob86 : Obj := Obj.mk (Value.type "code") Option.none (Data.fields #[Value.str (Str.ofString "lead_to") 850, Value.str (Str.ofString "Bound.lead_to") 851, Value.str (Str.ofString "/claim/cut.py") 852, Value.int 130 0, Value.int 3 0, Value.int 0 0, Value.int 0 0, Value.int 3 0, Value.ref 117, Value.bool Bool.true, Value.int 181 0, Value.ref 118, Value.none, Value.ref 119, Value.ref 120, Value.ref 121, Value.int 856 0, Value.int 130 0, Value.str (Str.ofString "/claim/cut.py") 857]) #[]
def ob87 : Obj := Obj.mk (Value.type "function") Option.none (Data.func (FuncData.mk (Str.ofString "lead_to") (Str.ofString "Bound.lead_to") (L2.defArgs (C38.zinClass (C38.ztop 19) 4)) (FuncBody.stmts (L2.defBody (C38.zinClass (C38.ztop 19) 4))) (L2.defScope (C38.zinClass (C38.ztop 19) 4)) 3 [] Value.none Value.none Value.none (Value.str (Str.ofString "codewalk.bound") 753) Option.none (Value.ref 122) Value.none 0)) #[]
def ob88 : Obj := Obj.mk (Value.type "tuple") Option.none (Data.seq #[Value.str (Str.ofString "bits") 859, Value.str (Str.ofString "lacking") 860, Value.str (Str.ofString "names") 861, Value.str (Str.ofString "passed") 862]) #[]
def ob89 (P : Params) : Obj := Obj.mk (Value.type "dict") Option.none (Data.dict #[DictEntry.mk (PySem.PyData.keyHash P (Str.ofString "__module__")) (Value.str (Str.ofString "__module__") 805) (Value.str (Str.ofString "codewalk.bound") 753), DictEntry.mk (PySem.PyData.keyHash P (Str.ofString "__firstlineno__")) (Value.str (Str.ofString "__firstlineno__") 809) (Value.int 90 808), DictEntry.mk (PySem.PyData.keyHash P (Str.ofString "__init__")) (Value.str (Str.ofString "__init__") 817) (Value.ref 97), DictEntry.mk (PySem.PyData.keyHash P (Str.ofString "is_stale")) (Value.str (Str.ofString "is_stale") 823) (Value.ref 102), DictEntry.mk (PySem.PyData.keyHash P (Str.ofString "sweep")) (Value.str (Str.ofString "sweep") 840) (Value.ref 109), DictEntry.mk (PySem.PyData.keyHash P (Str.ofString "pass_label")) (Value.str (Str.ofString "pass_label") 849) (Value.ref 116), DictEntry.mk (PySem.PyData.keyHash P (Str.ofString "lead_to")) (Value.str (Str.ofString "lead_to") 858) (Value.ref 123), DictEntry.mk (PySem.PyData.keyHash P (Str.ofString "__static_attributes__")) (Value.str (Str.ofString "__static_attributes__") 863) (Value.ref 124), DictEntry.mk (PySem.PyData.keyHash P (Str.ofString "__dict__")) (Value.str (Str.ofString "__dict__") 865) (Value.ref 127), DictEntry.mk (PySem.PyData.keyHash P (Str.ofString "__weakref__")) (Value.str (Str.ofString "__weakref__") 867) (Value.ref 128), DictEntry.mk (PySem.PyData.keyHash P (Str.ofString "__doc__")) (Value.str (Str.ofString "__doc__") 868) Value.none] 4) #[]
def ob90 : Obj := Obj.mk (Value.type "type") Option.none (Data.cls (ClassData.mk (Str.ofString "Bound") [Value.type "object"] [Value.ref 126, Value.type "object"] 125 (Str.ofString "Bound") Bool.true [] [] Bool.false Option.none Bool.false)) #[Option.none, Option.none, Option.some (Value.str (Str.ofString "Bound") 798), Option.some (Value.str (Str.ofString "Bound") 806), Option.some (Value.builtin "object.__new__"), Option.some (Value.bool Bool.true)]
def ob91 : Obj := Obj.mk (Value.type "getset_descriptor") Option.none (Data.fields #[Value.str (Str.ofString "__dict__") 864, Value.ref 126, Value.builtin "function.__dict__", Value.builtin "function.__dict__#set"]) #[]
def ob92 : Obj := Obj.mk (Value.type "getset_descriptor") Option.none (Data.fields #[Value.str (Str.ofString "__weakref__") 866, Value.ref 126, Value.builtin "ExceptionGroup.__weakref__", Value.none]) #[]
def ob93 : Obj := Obj.mk (Value.type "super") Option.none (Data.fields #[Value.ref 126, Value.ref 126, Value.ref 126]) #[]
def ob94 : Obj := Obj.mk (Value.type "builtin_function_or_method") Option.none (Data.fields #[Value.builtin "object.__init_subclass__", Value.ref 126]) #[]
def ob95 : Obj := Obj.mk (Value.type "tuple") Option.none (Data.seq #[Value.none, Value.none, Value.int 0 873]) #[]
def ob96 (P : Params) : Obj := Obj.mk (Value.type "dict") Option.none (Data.dict #[DictEntry.mk (PySem.PyData.keyHash P (Str.ofString "SETUP_FINALLY")) (Value.str (Str.ofString "SETUP_FINALLY") 875) (Value.ref 133), DictEntry.mk (PySem.PyData.keyHash P (Str.ofString "SETUP_CLEANUP")) (Value.str (Str.ofString "SETUP_CLEANUP") 877) (Value.ref 134), DictEntry.mk (PySem.PyData.keyHash P (Str.ofString "SETUP_WITH")) (Value.str (Str.ofString "SETUP_WITH") 879) (Value.ref 135)] 3) #[]
def ob97 : Obj := Obj.mk (Value.type "tuple") Option.none (Data.seq #[Value.int 0 876, Value.bool Bool.false]) #[]
def ob98 : Obj := Obj.mk (Value.type "tuple") Option.none (Data.seq #[Value.int 0 878, Value.bool Bool.true]) #[]
def ob99 : Obj := Obj.mk (Value.type "tuple") Option.none (Data.seq #[Value.int 1 880, Value.bool Bool.true]) #[]
def ob100 (P : Params) : Obj := Obj.mk (Value.type "dict") Option.none (Data.dict #[DictEntry.mk (PySem.PyData.keyHash P (Str.ofString "POP_BLOCK")) (Value.str (Str.ofString "POP_BLOCK") 885) (Value.bool Bool.true), DictEntry.mk (PySem.PyData.keyHash P (Str.ofString "SETUP_CLEANUP")) (Value.str (Str.ofString "SETUP_CLEANUP") 886) (Value.bool Bool.true), DictEntry.mk (PySem.PyData.keyHash P (Str.ofString "SETUP_FINALLY")) (Value.str (Str.ofString "SETUP_FINALLY") 887) (Value.bool Bool.true), DictEntry.mk (PySem.PyData.keyHash P (Str.ofString "SETUP_WITH")) (Value.str (Str.ofString "SETUP_WITH") 888) (Value.bool Bool.true)] 4) #[]
def ob101 : Obj := Obj.mk (Value.type "tuple") Option.none (Data.seq #[Value.str (Str.ofString "rows") 897, Value.str (Str.ofString "words") 898]) #[]
def ob102 : Obj := Obj.mk Value.none Option.none (Data.func (FuncData.mk (Str.ofString "with_handlers") (Str.ofString "with_handlers") (L2.defArgs (C38.ztop 24)) (FuncBody.stmts (L2.defBody (C38.ztop 24))) (L2.defScope (C38.ztop 24)) 0 [] Value.none Value.none Value.none Value.none Option.none Value.none Value.none 0)) #[]
def ob103 : Obj := Obj.mk (Value.type "code") Option.none (Data.fields #[Value.str (Str.ofString "with_handlers") 894, Value.str (Str.ofString "with_handlers") 895, Value.str (Str.ofString "/claim/cut.py") 896, Value.int 136 0, Value.int 2 0, Value.int 0 0, Value.int 0 0, Value.int 3 0, Value.ref 137, Value.bool Bool.true, Value.int 181 0, Value.ref 138, Value.none, Value.ref 139, Value.ref 140, Value.ref 141, Value.int 899 0, Value.int 136 0, Value.str (Str.ofString "/claim/cut.py") 900]) #[]
def ob104 : Obj := Obj.mk (Value.type "function") Option.none (Data.func (FuncData.mk (Str.ofString "with_handlers") (Str.ofString "with_handlers") (L2.defArgs (C38.ztop 24)) (FuncBody.stmts (L2.defBody (C38.ztop 24))) (L2.defScope (C38.ztop 24)) 3 [] Value.none Value.none Value.none (Value.str (Str.ofString "codewalk.handlers") 871) Option.none (Value.ref 142) Value.none 0)) #[]
def ob105 : Obj := Obj.mk (Value.type "tuple") Option.none (Data.seq #[Value.str (Str.ofString "rows") 905, Value.str (Str.ofString "found") 906, Value.str (Str.ofString "word") 907, Value.str (Str.ofString "argument") 908, Value.str (Str.ofString "line") 909]) #[]
def ob106 : Obj := Obj.mk Value.none Option.none (Data.func (FuncData.mk (Str.ofString "first_rows") (Str.ofString "first_rows") (L2.defArgs (C38.ztop 25)) (FuncBody.stmts (L2.defBody (C38.ztop 25))) (L2.defScope (C38.ztop 25)) 0 [] Value.none Value.none Value.none Value.none Option.none Value.none Value.none 0)) #[]
def ob107 : Obj := Obj.mk (Value.type "code") Option.none (Data.fields #[Value.str (Str.ofString "first_rows") 902, Value.str (Str.ofString "first_rows") 903, Value.str (Str.ofString "/claim/cut.py") 904, Value.int 142 0, Value.int 1 0, Value.int 0 0, Value.int 0 0, Value.int 3 0, Value.ref 144, Value.bool Bool.true, Value.int 181 0, Value.ref 145, Value.none, Value.ref 146, Value.ref 147, Value.ref 148, Value.int 910 0, Value.int 142 0, Value.str (Str.ofString "/claim/cut.py") 911]) #[]
def ob108 : Obj := Obj.mk (Value.type "function") Option.none (Data.func (FuncData.mk (Str.ofString "first_rows") (Str.ofString "first_rows") (L2.defArgs (C38.ztop 25)) (FuncBody.stmts (L2.defBody (C38.ztop 25))) (L2.defScope (C38.ztop 25)) 3 [] Value.none Value.none Value.none (Value.str (Str.ofString "codewalk.handlers") 871) Option.none (Value.ref 149) Value.none 0)) #[]
def ob109 : Obj := Obj.mk Value.none Option.none (Data.func (FuncData.mk (Str.ofString "reached_rows") (Str.ofString "reached_rows") (L2.defArgs (C38.ztop 26)) (FuncBody.stmts (L2.defBody (C38.ztop 26))) (L2.defScope (C38.ztop 26)) 0 [] Value.none Value.none Value.none Value.none Option.none Value.none Value.none 0)) #[]
def ob110 : Obj := Obj.mk (Value.type "code") Option.none (Data.fields #[Value.str (Str.ofString "reached_rows") 913, Value.str (Str.ofString "reached_rows") 914, Value.str (Str.ofString "/claim/cut.py") 915, Value.int 149 0, Value.int 2 0, Value.int 0 0, Value.int 0 0, Value.int 3 0, Value.ref 151, Value.bool Bool.true, Value.int 181 0, Value.ref 152, Value.none, Value.none, Value.none, Value.ref 153, Value.int 916 0, Value.int 149 0, Value.str (Str.ofString "/claim/cut.py") 917]) #[]
def ob111 : Obj := Obj.mk (Value.type "function") Option.none (Data.func (FuncData.mk (Str.ofString "reached_rows") (Str.ofString "reached_rows") (L2.defArgs (C38.ztop 26)) (FuncBody.stmts (L2.defBody (C38.ztop 26))) (L2.defScope (C38.ztop 26)) 3 [] Value.none Value.none Value.none (Value.str (Str.ofString "codewalk.handlers") 871) Option.none (Value.ref 154) Value.none 0)) #[]
def ob112 : Obj := Obj.mk (Value.type "tuple") Option.none (Data.seq #[Value.str (Str.ofString "rows") 922, Value.str (Str.ofString "told") 923, Value.str (Str.ofString "found") 924, Value.str (Str.ofString "unknown") 925, Value.str (Str.ofString "live") 926, Value.str (Str.ofString "word") 927, Value.str (Str.ofString "argument") 928, Value.str (Str.ofString "line") 929]) #[]
def ob113 : Obj := Obj.mk Value.none Option.none (Data.func (FuncData.mk (Str.ofString "reached_without") (Str.ofString "reached_without") (L2.defArgs (C38.ztop 27)) (FuncBody.stmts (L2.defBody (C38.ztop 27))) (L2.defScope (C38.ztop 27)) 0 [] Value.none Value.none Value.none Value.none Option.none Value.none Value.none 0)) #[]
def ob114 : Obj := Obj.mk (Value.type "code") Option.none (Data.fields #[Value.str (Str.ofString "reached_without") 919, Value.str (Str.ofString "reached_without") 920, Value.str (Str.ofString "/claim/cut.py") 921, Value.int 157 0, Value.int 2 0, Value.int 0 0, Value.int 0 0, Value.int 3 0, Value.ref 156, Value.bool Bool.true, Value.int 181 0, Value.ref 157, Value.none, Value.ref 158, Value.ref 159, Value.ref 160, Value.int 930 0, Value.int 157 0, Value.str (Str.ofString "/claim/cut.py") 931]) #[]
def ob115 : Obj := Obj.mk (Value.type "function") Option.none (Data.func (FuncData.mk (Str.ofString "reached_without") (Str.ofString "reached_without") (L2.defArgs (C38.ztop 27)) (FuncBody.stmts (L2.defBody (C38.ztop 27))) (L2.defScope (C38.ztop 27)) 3 [] Value.none Value.none Value.none (Value.str (Str.ofString "codewalk.handlers") 871) Option.none (Value.ref 161) Value.none 0)) #[]
def ob116 : Obj := Obj.mk (Value.type "tuple") Option.none (Data.seq #[Value.str (Str.ofString "rows") 936, Value.str (Str.ofString "told") 937, Value.str (Str.ofString "found") 938, Value.str (Str.ofString "unknown") 939, Value.str (Str.ofString "ahead") 940, Value.str (Str.ofString "live") 941, Value.str (Str.ofString "depth") 942, Value.str (Str.ofString "guards") 943, Value.str (Str.ofString "word") 944, Value.str (Str.ofString "argument") 945, Value.str (Str.ofString "line") 946, Value.str (Str.ofString "row") 947, Value.str (Str.ofString "handler") 948]) #[]
def ob117 : Obj := Obj.mk Value.none Option.none (Data.func (FuncData.mk (Str.ofString "reached_with") (Str.ofString "reached_with") (L2.defArgs (C38.ztop 28)) (FuncBody.stmts (L2.defBody (C38.ztop 28))) (L2.defScope (C38.ztop 28)) 0 [] Value.none Value.none Value.none Value.none Option.none Value.none Value.none 0)) #[]
def ob118 : Obj := Obj.mk (Value.type "code") Option.none (Data.fields #[Value.str (Str.ofString "reached_with") 933, Value.str (Str.ofString "reached_with") 934, Value.str (Str.ofString "/claim/cut.py") 935, Value.int 175 0, Value.int 2 0, Value.int 0 0, Value.int 0 0, Value.int 3 0, Value.ref 163, Value.bool Bool.true, Value.int 181 0, Value.ref 164, Value.none, Value.ref 165, Value.ref 166, Value.ref 167, Value.int 949 0, Value.int 175 0, Value.str (Str.ofString "/claim/cut.py") 950]) #[]
def ob119 : Obj := Obj.mk (Value.type "function") Option.none (Data.func (FuncData.mk (Str.ofString "reached_with") (Str.ofString "reached_with") (L2.defArgs (C38.ztop 28)) (FuncBody.stmts (L2.defBody (C38.ztop 28))) (L2.defScope (C38.ztop 28)) 3 [] Value.none Value.none Value.none (Value.str (Str.ofString "codewalk.handlers") 871) Option.none (Value.ref 168) Value.none 0)) #[]
def ob120 : Obj := Obj.mk (Value.type "tuple") Option.none (Data.seq #[Value.str (Str.ofString "row") 955, Value.str (Str.ofString "told") 956, Value.str (Str.ofString "depth") 957, Value.str (Str.ofString "guards") 958, Value.str (Str.ofString "word") 959, Value.str (Str.ofString "argument") 960, Value.str (Str.ofString "line") 961, Value.str (Str.ofString "around") 962, Value.str (Str.ofString "behind") 963, Value.str (Str.ofString "fewer") 964, Value.str (Str.ofString "wanted") 965]) #[]
def ob121 : Obj := Obj.mk Value.none Option.none (Data.func (FuncData.mk (Str.ofString "opened") (Str.ofString "opened") (L2.defArgs (C38.ztop 29)) (FuncBody.stmts (L2.defBody (C38.ztop 29))) (L2.defScope (C38.ztop 29)) 0 [] Value.none Value.none Value.none Value.none Option.none Value.none Value.none 0)) #[]
def ob122 : Obj := Obj.mk (Value.type "code") Option.none (Data.fields #[Value.str (Str.ofString "opened") 952, Value.str (Str.ofString "opened") 953, Value.str (Str.ofString "/claim/cut.py") 954, Value.int 204 0, Value.int 4 0, Value.int 0 0, Value.int 0 0, Value.int 3 0, Value.ref 170, Value.bool Bool.true, Value.int 181 0, Value.ref 171, Value.none, Value.ref 172, Value.ref 173, Value.ref 174, Value.int 966 0, Value.int 204 0, Value.str (Str.ofString "/claim/cut.py") 967]) #[]
def ob123 : Obj := Obj.mk (Value.type "function") Option.none (Data.func (FuncData.mk (Str.ofString "opened") (Str.ofString "opened") (L2.defArgs (C38.ztop 29)) (FuncBody.stmts (L2.defBody (C38.ztop 29))) (L2.defScope (C38.ztop 29)) 3 [] Value.none Value.none Value.none (Value.str (Str.ofString "codewalk.handlers") 871) Option.none (Value.ref 175) Value.none 0)) #[]
def ob124 : Obj := Obj.mk (Value.type "tuple") Option.none (Data.seq #[Value.str (Str.ofString "told") 972, Value.str (Str.ofString "guards") 973, Value.str (Str.ofString "handler") 974, Value.str (Str.ofString "outer") 975, Value.str (Str.ofString "_") 976]) #[]
def ob125 : Obj := Obj.mk Value.none Option.none (Data.func (FuncData.mk (Str.ofString "tell_handler") (Str.ofString "tell_handler") (L2.defArgs (C38.ztop 30)) (FuncBody.stmts (L2.defBody (C38.ztop 30))) (L2.defScope (C38.ztop 30)) 0 [] Value.none Value.none Value.none Value.none Option.none Value.none Value.none 0)) #[]
def ob126 : Obj := Obj.mk (Value.type "code") Option.none (Data.fields #[Value.str (Str.ofString "tell_handler") 969, Value.str (Str.ofString "tell_handler") 970, Value.str (Str.ofString "/claim/cut.py") 971, Value.int 215 0, Value.int 2 0, Value.int 0 0, Value.int 0 0, Value.int 3 0, Value.ref 177, Value.bool Bool.true, Value.int 181 0, Value.ref 178, Value.none, Value.ref 179, Value.ref 180, Value.ref 181, Value.int 977 0, Value.int 215 0, Value.str (Str.ofString "/claim/cut.py") 978]) #[]
def ob127 : Obj := Obj.mk (Value.type "function") Option.none (Data.func (FuncData.mk (Str.ofString "tell_handler") (Str.ofString "tell_handler") (L2.defArgs (C38.ztop 30)) (FuncBody.stmts (L2.defBody (C38.ztop 30))) (L2.defScope (C38.ztop 30)) 3 [] Value.none Value.none Value.none (Value.str (Str.ofString "codewalk.handlers") 871) Option.none (Value.ref 182) Value.none 0)) #[]
def ob128 : Obj := Obj.mk Value.none Option.none (Data.func (FuncData.mk (Str.ofString "words_in") (Str.ofString "words_in") (L2.defArgs (C38.ztop 32)) (FuncBody.stmts (L2.defBody (C38.ztop 32))) (L2.defScope (C38.ztop 32)) 0 [] Value.none Value.none Value.none Value.none Option.none Value.none Value.none 0)) #[]
def ob129 : Obj := Obj.mk (Value.type "code") Option.none (Data.fields #[Value.str (Str.ofString "words_in") 982, Value.str (Str.ofString "words_in") 983, Value.str (Str.ofString "/claim/cut.py") 984, Value.int 220 0, Value.int 1 0, Value.int 0 0, Value.int 0 0, Value.int 3 0, Value.ref 184, Value.bool Bool.true, Value.int 181 0, Value.ref 185, Value.none, Value.none, Value.none, Value.ref 186, Value.int 985 0, Value.int 220 0, Value.str (Str.ofString "/claim/cut.py") 986]) #[]
def ob130 : Obj := Obj.mk (Value.type "function") Option.none (Data.func (FuncData.mk (Str.ofString "words_in") (Str.ofString "words_in") (L2.defArgs (C38.ztop 32)) (FuncBody.stmts (L2.defBody (C38.ztop 32))) (L2.defScope (C38.ztop 32)) 3 [] Value.none Value.none Value.none (Value.str (Str.ofString "codewalk.ways") 980) Option.none (Value.ref 187) Value.none 0)) #[]
def ob131 : Obj := Obj.mk Value.none Option.none (Data.func (FuncData.mk (Str.ofString "places_of") (Str.ofString "places_of") (L2.defArgs (C38.ztop 33)) (FuncBody.stmts (L2.defBody (C38.ztop 33))) (L2.defScope (C38.ztop 57)) 0 [] Value.none Value.none Value.none Value.none Option.none Value.none Value.none 0)) #[]
def ob132 : Obj := Obj.mk (Value.type "code") Option.none (Data.fields #[Value.str (Str.ofString "places_of") 988, Value.str (Str.ofString "places_of") 989, Value.str (Str.ofString "/claim/cut.py") 990, Value.int 222 0, Value.int 1 0, Value.int 0 0, Value.int 0 0, Value.int 3 0, Value.ref 189, Value.bool Bool.true, Value.int 181 0, Value.ref 190, Value.none, Value.none, Value.none, Value.ref 191, Value.int 991 0, Value.int 222 0, Value.str (Str.ofString "/claim/cut.py") 992]) #[]
def ob133 : Obj := Obj.mk (Value.type "function") Option.none (Data.func (FuncData.mk (Str.ofString "places_of") (Str.ofString "places_of") (L2.defArgs (C38.ztop 33)) (FuncBody.stmts (L2.defBody (C38.ztop 33))) (L2.defScope (C38.ztop 57)) 3 [] Value.none Value.none Value.none (Value.str (Str.ofString "codewalk.ways") 980) Option.none (Value.ref 192) Value.none 0)) #[]
def ob134 : Obj := Obj.mk Value.none Option.none (Data.func (FuncData.mk (Str.ofString "reached") (Str.ofString "reached") (L2.defArgs (C38.ztop 34)) (FuncBody.stmts (L2.defBody (C38.ztop 34))) (L2.defScope (C38.ztop 34)) 0 [] Value.none Value.none Value.none Value.none Option.none Value.none Value.none 0)) #[]
def ob135 : Obj := Obj.mk (Value.type "code") Option.none (Data.fields #[Value.str (Str.ofString "reached") 994, Value.str (Str.ofString "reached") 995, Value.str (Str.ofString "/claim/cut.py") 996, Value.int 224 0, Value.int 3 0, Value.int 0 0, Value.int 0 0, Value.int 3 0, Value.ref 194, Value.bool Bool.true, Value.int 181 0, Value.ref 195, Value.none, Value.none, Value.none, Value.ref 196, Value.int 997 0, Value.int 224 0, Value.str (Str.ofString "/claim/cut.py") 998]) #[]
def ob136 : Obj := Obj.mk (Value.type "function") Option.none (Data.func (FuncData.mk (Str.ofString "reached") (Str.ofString "reached") (L2.defArgs (C38.ztop 34)) (FuncBody.stmts (L2.defBody (C38.ztop 34))) (L2.defScope (C38.ztop 34)) 3 [] Value.none Value.none Value.none (Value.str (Str.ofString "codewalk.ways") 980) Option.none (Value.ref 197) Value.none 0)) #[]
def ob137 : Obj := Obj.mk Value.none Option.none (Data.func (FuncData.mk (Str.ofString "without_unreached") (Str.ofString "without_unreached") (L2.defArgs (C38.ztop 35)) (FuncBody.stmts (L2.defBody (C38.ztop 35))) (L2.defScope (C38.ztop 35)) 0 [] Value.none Value.none Value.none Value.none Option.none Value.none Value.none 0)) #[]
def ob138 : Obj := Obj.mk (Value.type "code") Option.none (Data.fields #[Value.str (Str.ofString "without_unreached") 1000, Value.str (Str.ofString "without_unreached") 1001, Value.str (Str.ofString "/claim/cut.py") 1002, Value.int 246 0, Value.int 1 0, Value.int 0 0, Value.int 0 0, Value.int 3 0, Value.ref 199, Value.bool Bool.true, Value.int 181 0, Value.ref 200, Value.none, Value.none, Value.none, Value.ref 201, Value.int 1003 0, Value.int 246 0, Value.str (Str.ofString "/claim/cut.py") 1004]) #[]
def ob139 : Obj := Obj.mk (Value.type "function") Option.none (Data.func (FuncData.mk (Str.ofString "without_unreached") (Str.ofString "without_unreached") (L2.defArgs (C38.ztop 35)) (FuncBody.stmts (L2.defBody (C38.ztop 35))) (L2.defScope (C38.ztop 35)) 3 [] Value.none Value.none Value.none (Value.str (Str.ofString "codewalk.ways") 980) Option.none (Value.ref 202) Value.none 0)) #[]
def ob140 (P : Params) : Obj := Obj.mk (Value.type "dict") Option.none (Data.dict #[DictEntry.mk (PySem.PyData.keyHash P (Str.ofString "JUMP")) (Value.str (Str.ofString "JUMP") 1014) (Value.bool Bool.true), DictEntry.mk (PySem.PyData.keyHash P (Str.ofString "JUMP_NO_INTERRUPT")) (Value.str (Str.ofString "JUMP_NO_INTERRUPT") 1015) (Value.bool Bool.true)] 2) #[]
def ob141 (P : Params) : Obj := Obj.mk (Value.type "dict") Option.none (Data.dict #[DictEntry.mk (PySem.PyData.keyHash P (Str.ofString "JUMP")) (Value.str (Str.ofString "JUMP") 1019) (Value.bool Bool.true), DictEntry.mk (PySem.PyData.keyHash P (Str.ofString "JUMP_NO_INTERRUPT")) (Value.str (Str.ofString "JUMP_NO_INTERRUPT") 1020) (Value.bool Bool.true), DictEntry.mk (PySem.PyData.keyHash P (Str.ofString "POP_JUMP_IF_FALSE")) (Value.str (Str.ofString "POP_JUMP_IF_FALSE") 1021) (Value.bool Bool.true), DictEntry.mk (PySem.PyData.keyHash P (Str.ofString "POP_JUMP_IF_NONE")) (Value.str (Str.ofString "POP_JUMP_IF_NONE") 1022) (Value.bool Bool.true), DictEntry.mk (PySem.PyData.keyHash P (Str.ofString "POP_JUMP_IF_NOT_NONE")) (Value.str (Str.ofString "POP_JUMP_IF_NOT_NONE") 1023) (Value.bool Bool.true), DictEntry.mk (PySem.PyData.keyHash P (Str.ofString "POP_JUMP_IF_TRUE")) (Value.str (Str.ofString "POP_JUMP_IF_TRUE") 1024) (Value.bool Bool.true)] 6) #[]
def ob142 : Obj := Obj.mk (Value.type "tuple") Option.none (Data.seq #[Value.str (Str.ofString "rows") 1035, Value.str (Str.ofString "words") 1036, Value.str (Str.ofString "stale") 1037, Value.str (Str.ofString "_") 1038, Value.str (Str.ofString "met") 1039]) #[]
def ob143 : Obj := Obj.mk Value.none Option.none (Data.func (FuncData.mk (Str.ofString "rounds") (Str.ofString "rounds") (L2.defArgs (C38.ztop 42)) (FuncBody.stmts (L2.defBody (C38.ztop 42))) (L2.defScope (C38.ztop 42)) 0 [] Value.none Value.none Value.none Value.none Option.none Value.none Value.none 0)) #[]
def ob144 : Obj := Obj.mk (Value.type "code") Option.none (Data.fields #[Value.str (Str.ofString "rounds") 1032, Value.str (Str.ofString "rounds") 1033, Value.str (Str.ofString "/claim/cut.py") 1034, Value.int 256 0, Value.int 2 0, Value.int 0 0, Value.int 0 0, Value.int 3 0, Value.ref 206, Value.bool Bool.true, Value.int 181 0, Value.ref 207, Value.none, Value.ref 208, Value.ref 209, Value.ref 210, Value.int 1040 0, Value.int 256 0, Value.str (Str.ofString "/claim/cut.py") 1041]) #[]
def ob145 : Obj := Obj.mk (Value.type "function") Option.none (Data.func (FuncData.mk (Str.ofString "rounds") (Str.ofString "rounds") (L2.defArgs (C38.ztop 42)) (FuncBody.stmts (L2.defBody (C38.ztop 42))) (L2.defScope (C38.ztop 42)) 3 [] Value.none Value.none Value.none (Value.str (Str.ofString "codewalk.rounds") 1006) Option.none (Value.ref 211) Value.none 0)) #[]
def ob146 : Obj := Obj.mk (Value.type "tuple") Option.none (Data.seq #[Value.str (Str.ofString "rows") 1046, Value.str (Str.ofString "words") 1047, Value.str (Str.ofString "jumps") 1048, Value.str (Str.ofString "loose") 1049, Value.str (Str.ofString "met") 1050, Value.str (Str.ofString "changed") 1051, Value.str (Str.ofString "before") 1052, Value.str (Str.ofString "changes") 1053, Value.str (Str.ofString "unlike") 1054]) #[]
def ob147 : Obj := Obj.mk Value.none Option.none (Data.func (FuncData.mk (Str.ofString "rounds_with_labels") (Str.ofString "rounds_with_labels") (L2.defArgs (C38.ztop 43)) (FuncBody.stmts (L2.defBody (C38.ztop 43))) (L2.defScope (C38.ztop 43)) 0 [] Value.none Value.none Value.none Value.none Option.none Value.none Value.none 0)) #[]
def ob148 : Obj := Obj.mk (Value.type "code") Option.none (Data.fields #[Value.str (Str.ofString "rounds_with_labels") 1043, Value.str (Str.ofString "rounds_with_labels") 1044, Value.str (Str.ofString "/claim/cut.py") 1045, Value.int 264 0, Value.int 2 0, Value.int 0 0, Value.int 0 0, Value.int 3 0, Value.ref 213, Value.bool Bool.true, Value.int 181 0, Value.ref 214, Value.none, Value.ref 215, Value.ref 216, Value.ref 217, Value.int 1055 0, Value.int 264 0, Value.str (Str.ofString "/claim/cut.py") 1056]) #[]
def ob149 : Obj := Obj.mk (Value.type "function") Option.none (Data.func (FuncData.mk (Str.ofString "rounds_with_labels") (Str.ofString "rounds_with_labels") (L2.defArgs (C38.ztop 43)) (FuncBody.stmts (L2.defBody (C38.ztop 43))) (L2.defScope (C38.ztop 43)) 3 [] Value.none Value.none Value.none (Value.str (Str.ofString "codewalk.rounds") 1006) Option.none (Value.ref 218) Value.none 0)) #[]
def ob150 (P : Params) : Obj := Obj.mk (Value.type "dict") Option.none (Data.dict #[DictEntry.mk (PySem.PyData.keyHash P (Str.ofString "__name__")) (Value.str (Str.ofString "__name__") 165) (Value.str (Str.ofString "law_codewalk_k38_ways_of_jumps") 1498), DictEntry.mk (PySem.PyData.keyHash P (Str.ofString "__doc__")) (Value.str (Str.ofString "__doc__") 166) Value.none, DictEntry.mk (PySem.PyData.keyHash P (Str.ofString "__package__")) (Value.str (Str.ofString "__package__") 167) Value.none, DictEntry.mk (PySem.PyData.keyHash P (Str.ofString "__loader__")) (Value.str (Str.ofString "__loader__") 168) (Value.builtin "__main__.__loader__#opaque"), DictEntry.mk (PySem.PyData.keyHash P (Str.ofString "__spec__")) (Value.str (Str.ofString "__spec__") 169) Value.none, DictEntry.mk (PySem.PyData.keyHash P (Str.ofString "__annotations__")) (Value.str (Str.ofString "__annotations__") 170) (Value.ref 6), DictEntry.mk (PySem.PyData.keyHash P (Str.ofString "__builtins__")) (Value.str (Str.ofString "__builtins__") 171) (Value.ref 4), DictEntry.mk (PySem.PyData.keyHash P (Str.ofString "__file__")) (Value.str (Str.ofString "__file__") 173) (Value.str (Str.ofString "/claim/cut.py") 172), DictEntry.mk (PySem.PyData.keyHash P (Str.ofString "__cached__")) (Value.str (Str.ofString "__cached__") 174) Value.none, DictEntry.mk (PySem.PyData.keyHash P (Str.ofString "EFFECTS")) (Value.str (Str.ofString "EFFECTS") 470) (Value.ref 15), DictEntry.mk (PySem.PyData.keyHash P (Str.ofString "COUNTED_EFFECTS")) (Value.str (Str.ofString "COUNTED_EFFECTS") 519) (Value.ref 20), DictEntry.mk (PySem.PyData.keyHash P (Str.ofString "LEADING")) (Value.str (Str.ofString "LEADING") 542) (Value.ref 30), DictEntry.mk (PySem.PyData.keyHash P (Str.ofString "LEAVING")) (Value.str (Str.ofString "LEAVING") 561) (Value.ref 31), DictEntry.mk (PySem.PyData.keyHash P (Str.ofString "TURNING")) (Value.str (Str.ofString "TURNING") 594) (Value.ref 32), DictEntry.mk (PySem.PyData.keyHash P (Str.ofString "QUIET")) (Value.str (Str.ofString "QUIET") 689) (Value.ref 33), DictEntry.mk (PySem.PyData.keyHash P (Str.ofString "LOCAL")) (Value.str (Str.ofString "LOCAL") 716) (Value.ref 36), DictEntry.mk (PySem.PyData.keyHash P (Str.ofString "effect_of")) (Value.str (Str.ofString "effect_of") 726) (Value.ref 43), DictEntry.mk (PySem.PyData.keyHash P (Str.ofString "parameters_of")) (Value.str (Str.ofString "parameters_of") 740) (Value.ref 50), DictEntry.mk (PySem.PyData.keyHash P (Str.ofString "numbers_of")) (Value.str (Str.ofString "numbers_of") 746) (Value.ref 55), DictEntry.mk (PySem.PyData.keyHash P (Str.ofString "locals_in")) (Value.str (Str.ofString "locals_in") 752) (Value.ref 60), DictEntry.mk (PySem.PyData.keyHash P (Str.ofString "CHANGING")) (Value.str (Str.ofString "CHANGING") 763) (Value.ref 61), DictEntry.mk (PySem.PyData.keyHash P (Str.ofString "with_checks")) (Value.str (Str.ofString "with_checks") 779) (Value.ref 68), DictEntry.mk (PySem.PyData.keyHash P (Str.ofString "lacking_in_order")) (Value.str (Str.ofString "lacking_in_order") 785) (Value.ref 73), DictEntry.mk (PySem.PyData.keyHash P (Str.ofString "lacking_on_ways")) (Value.str (Str.ofString "lacking_on_ways") 791) (Value.ref 78), DictEntry.mk (PySem.PyData.keyHash P (Str.ofString "bits_of")) (Value.str (Str.ofString "bits_of") 797) (Value.ref 83), DictEntry.mk (PySem.PyData.keyHash P (Str.ofString "Bound")) (Value.str (Str.ofString "Bound") 870) (Value.ref 126), DictEntry.mk (PySem.PyData.keyHash P (Str.ofString "NOTHING_handlers")) (Value.str (Str.ofString "NOTHING_handlers") 874) (Value.ref 131), DictEntry.mk (PySem.PyData.keyHash P (Str.ofString "SETUPS")) (Value.str (Str.ofString "SETUPS") 884) (Value.ref 132), DictEntry.mk (PySem.PyData.keyHash P (Str.ofString "OPENING")) (Value.str (Str.ofString "OPENING") 893) (Value.ref 136), DictEntry.mk (PySem.PyData.keyHash P (Str.ofString "with_handlers")) (Value.str (Str.ofString "with_handlers") 901) (Value.ref 143), DictEntry.mk (PySem.PyData.keyHash P (Str.ofString "first_rows")) (Value.str (Str.ofString "first_rows") 912) (Value.ref 150), DictEntry.mk (PySem.PyData.keyHash P (Str.ofString "reached_rows")) (Value.str (Str.ofString "reached_rows") 918) (Value.ref 155), DictEntry.mk (PySem.PyData.keyHash P (Str.ofString "reached_without")) (Value.str (Str.ofString "reached_without") 932) (Value.ref 162), DictEntry.mk (PySem.PyData.keyHash P (Str.ofString "reached_with")) (Value.str (Str.ofString "reached_with") 951) (Value.ref 169), DictEntry.mk (PySem.PyData.keyHash P (Str.ofString "opened")) (Value.str (Str.ofString "opened") 968) (Value.ref 176), DictEntry.mk (PySem.PyData.keyHash P (Str.ofString "tell_handler")) (Value.str (Str.ofString "tell_handler") 979) (Value.ref 183), DictEntry.mk (PySem.PyData.keyHash P (Str.ofString "words_in")) (Value.str (Str.ofString "words_in") 987) (Value.ref 188), DictEntry.mk (PySem.PyData.keyHash P (Str.ofString "places_of")) (Value.str (Str.ofString "places_of") 993) (Value.ref 193), DictEntry.mk (PySem.PyData.keyHash P (Str.ofString "reached")) (Value.str (Str.ofString "reached") 999) (Value.ref 198), DictEntry.mk (PySem.PyData.keyHash P (Str.ofString "without_unreached")) (Value.str (Str.ofString "without_unreached") 1005) (Value.ref 203), DictEntry.mk (PySem.PyData.keyHash P (Str.ofString "NOTHING_rounds")) (Value.str (Str.ofString "NOTHING_rounds") 1009) (Value.int 0 1008), DictEntry.mk (PySem.PyData.keyHash P (Str.ofString "ROWS")) (Value.str (Str.ofString "ROWS") 1011) (Value.int 1 1010), DictEntry.mk (PySem.PyData.keyHash P (Str.ofString "WAYS")) (Value.str (Str.ofString "WAYS") 1013) (Value.int 2 1012), DictEntry.mk (PySem.PyData.keyHash P (Str.ofString "JUMPS")) (Value.str (Str.ofString "JUMPS") 1018) (Value.ref 204), DictEntry.mk (PySem.PyData.keyHash P (Str.ofString "THREADED")) (Value.str (Str.ofString "THREADED") 1031) (Value.ref 205), DictEntry.mk (PySem.PyData.keyHash P (Str.ofString "rounds")) (Value.str (Str.ofString "rounds") 1042) (Value.ref 212), DictEntry.mk (PySem.PyData.keyHash P (Str.ofString "rounds_with_labels")) (Value.str (Str.ofString "rounds_with_labels") 1057) (Value.ref 219), DictEntry.mk (PySem.PyData.keyHash P (Str.ofString "cleared")) (Value.str (Str.ofString "cleared") 1064) (Value.ref 226), DictEntry.mk (PySem.PyData.keyHash P (Str.ofString "only_telling")) (Value.str (Str.ofString "only_telling") 1073) (Value.ref 233), DictEntry.mk (PySem.PyData.keyHash P (Str.ofString "combine")) (Value.str (Str.ofString "combine") 1079) (Value.ref 238), DictEntry.mk (PySem.PyData.keyHash P (Str.ofString "blank")) (Value.str (Str.ofString "blank") 1090) (Value.ref 245), DictEntry.mk (PySem.PyData.keyHash P (Str.ofString "combine_truth")) (Value.str (Str.ofString "combine_truth") 1105) (Value.ref 252), DictEntry.mk (PySem.PyData.keyHash P (Str.ofString "combine_jump")) (Value.str (Str.ofString "combine_jump") 1118) (Value.ref 259), DictEntry.mk (PySem.PyData.keyHash P (Str.ofString "combine_none")) (Value.str (Str.ofString "combine_none") 1131) (Value.ref 266), DictEntry.mk (PySem.PyData.keyHash P (Str.ofString "combine_null")) (Value.str (Str.ofString "combine_null") 1143) (Value.ref 273), DictEntry.mk (PySem.PyData.keyHash P (Str.ofString "combine_return")) (Value.str (Str.ofString "combine_return") 1157) (Value.ref 280), DictEntry.mk (PySem.PyData.keyHash P (Str.ofString "RULES")) (Value.str (Str.ofString "RULES") 1170) (Value.ref 281), DictEntry.mk (PySem.PyData.keyHash P (Str.ofString "MEETING")) (Value.str (Str.ofString "MEETING") 1197) (Value.ref 282), DictEntry.mk (PySem.PyData.keyHash P (Str.ofString "BOOLS")) (Value.str (Str.ofString "BOOLS") 1208) (Value.ref 289), DictEntry.mk (PySem.PyData.keyHash P (Str.ofString "turn_jumps")) (Value.str (Str.ofString "turn_jumps") 1216) (Value.ref 296), DictEntry.mk (PySem.PyData.keyHash P (Str.ofString "jumps_in")) (Value.str (Str.ofString "jumps_in") 1222) (Value.ref 301), DictEntry.mk (PySem.PyData.keyHash P (Str.ofString "thread")) (Value.str (Str.ofString "thread") 1238) (Value.ref 308), DictEntry.mk (PySem.PyData.keyHash P (Str.ofString "onward_labels")) (Value.str (Str.ofString "onward_labels") 1252) (Value.ref 315), DictEntry.mk (PySem.PyData.keyHash P (Str.ofString "last_labels")) (Value.str (Str.ofString "last_labels") 1265) (Value.ref 322), DictEntry.mk (PySem.PyData.keyHash P (Str.ofString "drop_jumps")) (Value.str (Str.ofString "drop_jumps") 1275) (Value.ref 329), DictEntry.mk (PySem.PyData.keyHash P (Str.ofString "leads_on")) (Value.str (Str.ofString "leads_on") 1284) (Value.ref 336), DictEntry.mk (PySem.PyData.keyHash P (Str.ofString "without_nops")) (Value.str (Str.ofString "without_nops") 1299) (Value.ref 343), DictEntry.mk (PySem.PyData.keyHash P (Str.ofString "tells_line_ahead")) (Value.str (Str.ofString "tells_line_ahead") 1307) (Value.ref 350), DictEntry.mk (PySem.PyData.keyHash P (Str.ofString "may_meet")) (Value.str (Str.ofString "may_meet") 1315) (Value.ref 357), DictEntry.mk (PySem.PyData.keyHash P (Str.ofString "with_lines")) (Value.str (Str.ofString "with_lines") 1323) (Value.ref 362), DictEntry.mk (PySem.PyData.keyHash P (Str.ofString "with_lines_on_ways")) (Value.str (Str.ofString "with_lines_on_ways") 1338) (Value.ref 369), DictEntry.mk (PySem.PyData.keyHash P (Str.ofString "lines_along")) (Value.str (Str.ofString "lines_along") 1352) (Value.ref 376), DictEntry.mk (PySem.PyData.keyHash P (Str.ofString "sources_of")) (Value.str (Str.ofString "sources_of") 1366) (Value.ref 383), DictEntry.mk (PySem.PyData.keyHash P (Str.ofString "sources_at_labels")) (Value.str (Str.ofString "sources_at_labels") 1372) (Value.ref 388), DictEntry.mk (PySem.PyData.keyHash P (Str.ofString "leads_of")) (Value.str (Str.ofString "leads_of") 1382) (Value.ref 395), DictEntry.mk (PySem.PyData.keyHash P (Str.ofString "with_cold_last")) (Value.str (Str.ofString "with_cold_last") 1388) (Value.ref 400), DictEntry.mk (PySem.PyData.keyHash P (Str.ofString "moved_back")) (Value.str (Str.ofString "moved_back") 1405) (Value.ref 407), DictEntry.mk (PySem.PyData.keyHash P (Str.ofString "warm_rows")) (Value.str (Str.ofString "warm_rows") 1414) (Value.ref 414), DictEntry.mk (PySem.PyData.keyHash P (Str.ofString "MOST_IN_PAIRS")) (Value.str (Str.ofString "MOST_IN_PAIRS") 1418) (Value.int 16 1417), DictEntry.mk (PySem.PyData.keyHash P (Str.ofString "DIRECTIONS")) (Value.str (Str.ofString "DIRECTIONS") 1427) (Value.ref 415), DictEntry.mk (PySem.PyData.keyHash P (Str.ofString "OPPOSITES")) (Value.str (Str.ofString "OPPOSITES") 1440) (Value.ref 418), DictEntry.mk (PySem.PyData.keyHash P (Str.ofString "flowed")) (Value.str (Str.ofString "flowed") 1451) (Value.ref 426), DictEntry.mk (PySem.PyData.keyHash P (Str.ofString "with_pairs")) (Value.str (Str.ofString "with_pairs") 1468) (Value.ref 433), DictEntry.mk (PySem.PyData.keyHash P (Str.ofString "are_alike")) (Value.str (Str.ofString "are_alike") 1477) (Value.ref 440), DictEntry.mk (PySem.PyData.keyHash P (Str.ofString "with_directions")) (Value.str (Str.ofString "with_directions") 1497) (Value.ref 447), DictEntry.mk (PySem.PyData.keyHash P (Str.ofString "_law_source_of")) (Value.str (Str.ofString "_law_source_of") 1506) (Value.ref 454), DictEntry.mk (PySem.PyData.keyHash P (Str.ofString "_law_next")) (Value.str (Str.ofString "_law_next") 1517) (Value.ref 461), DictEntry.mk (PySem.PyData.keyHash P (Str.ofString "_law_one")) (Value.str (Str.ofString "_law_one") 1525) (Value.ref 468), DictEntry.mk (PySem.PyData.keyHash P (Str.ofString "_law_head")) (Value.str (Str.ofString "_law_head") 1532) (Value.ref 475), DictEntry.mk (PySem.PyData.keyHash P (Str.ofString "_law_opposite")) (Value.str (Str.ofString "_law_opposite") 1539) (Value.ref 482), DictEntry.mk (PySem.PyData.keyHash P (Str.ofString "_law_words")) (Value.str (Str.ofString "_law_words") 1545) (Value.ref 489), DictEntry.mk (PySem.PyData.keyHash P (Str.ofString "_law_parts")) (Value.str (Str.ofString "_law_parts") 1562) (Value.ref 496), DictEntry.mk (PySem.PyData.keyHash P (Str.ofString "_law_rows")) (Value.str (Str.ofString "_law_rows") 1568) (Value.ref 501), DictEntry.mk (PySem.PyData.keyHash P (Str.ofString "_law_due")) (Value.str (Str.ofString "_law_due") 1574) (Value.ref 506), DictEntry.mk (PySem.PyData.keyHash P (Str.ofString "law")) (Value.str (Str.ofString "law") 1585) (Value.ref 513)] 95) #[]
def ob151 : Obj := Obj.mk Value.none Option.none (Data.fields #[Value.int 9 0, Value.int 0 0, Value.ref 42, Value.int 17 0, Value.int 0 0, Value.ref 49, Value.int 25 0, Value.int 0 0, Value.ref 54, Value.int 33 0, Value.int 0 0, Value.ref 59, Value.int 43 0, Value.int 0 0, Value.ref 67, Value.int 54 0, Value.int 0 0, Value.ref 72, Value.int 69 0, Value.int 0 0, Value.ref 77, Value.int 79 0, Value.int 0 0, Value.ref 82, Value.int 90 0, Value.int 0 0, Value.ref 89, Value.int 136 0, Value.int 0 0, Value.ref 142, Value.int 142 0, Value.int 0 0, Value.ref 149, Value.int 149 0, Value.int 0 0, Value.ref 154, Value.int 157 0, Value.int 0 0, Value.ref 161, Value.int 175 0, Value.int 0 0, Value.ref 168, Value.int 204 0, Value.int 0 0, Value.ref 175, Value.int 215 0, Value.int 0 0, Value.ref 182, Value.int 220 0, Value.int 0 0, Value.ref 187, Value.int 222 0, Value.int 0 0, Value.ref 192, Value.int 224 0, Value.int 0 0, Value.ref 197, Value.int 246 0, Value.int 0 0, Value.ref 202, Value.int 256 0, Value.int 0 0, Value.ref 211, Value.int 264 0, Value.int 0 0, Value.ref 218, Value.int 282 0, Value.int 0 0, Value.ref 225, Value.int 285 0, Value.int 0 0, Value.ref 232, Value.int 288 0, Value.int 0 0, Value.ref 237, Value.int 295 0, Value.int 0 0, Value.ref 244, Value.int 298 0, Value.int 0 0, Value.ref 251, Value.int 312 0, Value.int 0 0, Value.ref 258, Value.int 320 0, Value.int 0 0, Value.ref 265, Value.int 331 0, Value.int 0 0, Value.ref 272, Value.int 338 0, Value.int 0 0, Value.ref 279, Value.int 349 0, Value.int 0 0, Value.ref 295, Value.int 352 0, Value.int 0 0, Value.ref 300, Value.int 354 0, Value.int 0 0, Value.ref 307, Value.int 365 0, Value.int 0 0, Value.ref 314, Value.int 374 0, Value.int 0 0, Value.ref 321, Value.int 386 0, Value.int 0 0, Value.ref 328, Value.int 393 0, Value.int 0 0, Value.ref 335, Value.int 401 0, Value.int 0 0, Value.ref 342, Value.int 424 0, Value.int 0 0, Value.ref 349, Value.int 426 0, Value.int 0 0, Value.ref 356, Value.int 429 0, Value.int 0 0, Value.ref 361, Value.int 438 0, Value.int 0 0, Value.ref 368, Value.int 444 0, Value.int 0 0, Value.ref 375, Value.int 456 0, Value.int 0 0, Value.ref 382, Value.int 471 0, Value.int 0 0, Value.ref 387, Value.int 482 0, Value.int 0 0, Value.ref 394, Value.int 488 0, Value.int 0 0, Value.ref 399, Value.int 494 0, Value.int 0 0, Value.ref 406, Value.int 509 0, Value.int 0 0, Value.ref 413, Value.int 519 0, Value.int 0 0, Value.ref 425, Value.int 532 0, Value.int 0 0, Value.ref 432, Value.int 547 0, Value.int 0 0, Value.ref 439, Value.int 552 0, Value.int 0 0, Value.ref 446, Value.int 583 0, Value.int 0 0, Value.ref 453, Value.int 586 0, Value.int 0 0, Value.ref 460, Value.int 598 0, Value.int 0 0, Value.ref 467, Value.int 600 0, Value.int 0 0, Value.ref 474, Value.int 602 0, Value.int 0 0, Value.ref 481, Value.int 607 0, Value.int 0 0, Value.ref 488, Value.int 609 0, Value.int 0 0, Value.ref 495, Value.int 623 0, Value.int 0 0, Value.ref 500, Value.int 641 0, Value.int 0 0, Value.ref 505, Value.int 658 0, Value.int 0 0, Value.ref 512]) #[]
def ob152 : Obj := Obj.mk (Value.type "tuple") Option.none (Data.seq #[Value.str (Str.ofString "rows") 1061]) #[]
def ob153 : Obj := Obj.mk Value.none Option.none (Data.func (FuncData.mk (Str.ofString "cleared") (Str.ofString "cleared") (L2.defArgs (C38.ztop 44)) (FuncBody.stmts (L2.defBody (C38.ztop 44))) (L2.defScope (C38.ztop 44)) 0 [] Value.none Value.none Value.none Value.none Option.none Value.none Value.none 0)) #[]
def ob154 : Obj := Obj.mk (Value.type "code") Option.none (Data.fields #[Value.str (Str.ofString "cleared") 1058, Value.str (Str.ofString "cleared") 1059, Value.str (Str.ofString "/claim/cut.py") 1060, Value.int 282 0, Value.int 1 0, Value.int 0 0, Value.int 0 0, Value.int 3 0, Value.ref 220, Value.bool Bool.true, Value.int 181 0, Value.ref 221, Value.none, Value.ref 222, Value.ref 223, Value.ref 224, Value.int 1062 0, Value.int 282 0, Value.str (Str.ofString "/claim/cut.py") 1063]) #[]
def ob155 : Obj := Obj.mk (Value.type "function") Option.none (Data.func (FuncData.mk (Str.ofString "cleared") (Str.ofString "cleared") (L2.defArgs (C38.ztop 44)) (FuncBody.stmts (L2.defBody (C38.ztop 44))) (L2.defScope (C38.ztop 44)) 3 [] Value.none Value.none Value.none (Value.str (Str.ofString "codewalk.rounds") 1006) Option.none (Value.ref 225) Value.none 0)) #[]
def ob156 : Obj := Obj.mk (Value.type "tuple") Option.none (Data.seq #[Value.str (Str.ofString "rows") 1068, Value.str (Str.ofString "found") 1069, Value.str (Str.ofString "_") 1070]) #[]
def ob157 : Obj := Obj.mk Value.none Option.none (Data.func (FuncData.mk (Str.ofString "only_telling") (Str.ofString "only_telling") (L2.defArgs (C38.ztop 45)) (FuncBody.stmts (L2.defBody (C38.ztop 45))) (L2.defScope (C38.ztop 45)) 0 [] Value.none Value.none Value.none Value.none Option.none Value.none Value.none 0)) #[]
def ob158 : Obj := Obj.mk (Value.type "code") Option.none (Data.fields #[Value.str (Str.ofString "only_telling") 1065, Value.str (Str.ofString "only_telling") 1066, Value.str (Str.ofString "/claim/cut.py") 1067, Value.int 285 0, Value.int 1 0, Value.int 0 0, Value.int 0 0, Value.int 3 0, Value.ref 227, Value.bool Bool.true, Value.int 181 0, Value.ref 228, Value.none, Value.ref 229, Value.ref 230, Value.ref 231, Value.int 1071 0, Value.int 285 0, Value.str (Str.ofString "/claim/cut.py") 1072]) #[]
def ob159 : Obj := Obj.mk (Value.type "function") Option.none (Data.func (FuncData.mk (Str.ofString "only_telling") (Str.ofString "only_telling") (L2.defArgs (C38.ztop 45)) (FuncBody.stmts (L2.defBody (C38.ztop 45))) (L2.defScope (C38.ztop 45)) 3 [] Value.none Value.none Value.none (Value.str (Str.ofString "codewalk.rounds") 1006) Option.none (Value.ref 232) Value.none 0)) #[]
def ob160 : Obj := Obj.mk Value.none Option.none (Data.func (FuncData.mk (Str.ofString "combine") (Str.ofString "combine") (L2.defArgs (C38.ztop 46)) (FuncBody.stmts (L2.defBody (C38.ztop 46))) (L2.defScope (C38.ztop 46)) 0 [] Value.none Value.none Value.none Value.none Option.none Value.none Value.none 0)) #[]
def ob161 : Obj := Obj.mk (Value.type "code") Option.none (Data.fields #[Value.str (Str.ofString "combine") 1074, Value.str (Str.ofString "combine") 1075, Value.str (Str.ofString "/claim/cut.py") 1076, Value.int 288 0, Value.int 1 0, Value.int 0 0, Value.int 0 0, Value.int 3 0, Value.ref 234, Value.bool Bool.true, Value.int 181 0, Value.ref 235, Value.none, Value.none, Value.none, Value.ref 236, Value.int 1077 0, Value.int 288 0, Value.str (Str.ofString "/claim/cut.py") 1078]) #[]
def ob162 : Obj := Obj.mk (Value.type "function") Option.none (Data.func (FuncData.mk (Str.ofString "combine") (Str.ofString "combine") (L2.defArgs (C38.ztop 46)) (FuncBody.stmts (L2.defBody (C38.ztop 46))) (L2.defScope (C38.ztop 46)) 3 [] Value.none Value.none Value.none (Value.str (Str.ofString "codewalk.rounds") 1006) Option.none (Value.ref 237) Value.none 0)) #[]
def ob163 : Obj := Obj.mk (Value.type "tuple") Option.none (Data.seq #[Value.str (Str.ofString "rows") 1083, Value.str (Str.ofString "at") 1084, Value.str (Str.ofString "_") 1085, Value.str (Str.ofString "line") 1086, Value.str (Str.ofString "handler") 1087]) #[]
def ob164 : Obj := Obj.mk Value.none Option.none (Data.func (FuncData.mk (Str.ofString "blank") (Str.ofString "blank") (L2.defArgs (C38.ztop 47)) (FuncBody.stmts (L2.defBody (C38.ztop 47))) (L2.defScope (C38.ztop 47)) 0 [] Value.none Value.none Value.none Value.none Option.none Value.none Value.none 0)) #[]
def ob165 : Obj := Obj.mk (Value.type "code") Option.none (Data.fields #[Value.str (Str.ofString "blank") 1080, Value.str (Str.ofString "blank") 1081, Value.str (Str.ofString "/claim/cut.py") 1082, Value.int 295 0, Value.int 2 0, Value.int 0 0, Value.int 0 0, Value.int 3 0, Value.ref 239, Value.bool Bool.true, Value.int 181 0, Value.ref 240, Value.none, Value.ref 241, Value.ref 242, Value.ref 243, Value.int 1088 0, Value.int 295 0, Value.str (Str.ofString "/claim/cut.py") 1089]) #[]
def ob166 : Obj := Obj.mk (Value.type "function") Option.none (Data.func (FuncData.mk (Str.ofString "blank") (Str.ofString "blank") (L2.defArgs (C38.ztop 47)) (FuncBody.stmts (L2.defBody (C38.ztop 47))) (L2.defScope (C38.ztop 47)) 3 [] Value.none Value.none Value.none (Value.str (Str.ofString "codewalk.rounds") 1006) Option.none (Value.ref 244) Value.none 0)) #[]
def ob167 : Obj := Obj.mk (Value.type "tuple") Option.none (Data.seq #[Value.str (Str.ofString "rows") 1094, Value.str (Str.ofString "at") 1095, Value.str (Str.ofString "word") 1096, Value.str (Str.ofString "argument") 1097, Value.str (Str.ofString "line") 1098, Value.str (Str.ofString "handler") 1099, Value.str (Str.ofString "_") 1100, Value.str (Str.ofString "told") 1101, Value.str (Str.ofString "guard") 1102]) #[]
def ob168 : Obj := Obj.mk Value.none Option.none (Data.func (FuncData.mk (Str.ofString "combine_truth") (Str.ofString "combine_truth") (L2.defArgs (C38.ztop 48)) (FuncBody.stmts (L2.defBody (C38.ztop 48))) (L2.defScope (C38.ztop 48)) 0 [] Value.none Value.none Value.none Value.none Option.none Value.none Value.none 0)) #[]
def ob169 : Obj := Obj.mk (Value.type "code") Option.none (Data.fields #[Value.str (Str.ofString "combine_truth") 1091, Value.str (Str.ofString "combine_truth") 1092, Value.str (Str.ofString "/claim/cut.py") 1093, Value.int 298 0, Value.int 2 0, Value.int 0 0, Value.int 0 0, Value.int 3 0, Value.ref 246, Value.bool Bool.true, Value.int 181 0, Value.ref 247, Value.none, Value.ref 248, Value.ref 249, Value.ref 250, Value.int 1103 0, Value.int 298 0, Value.str (Str.ofString "/claim/cut.py") 1104]) #[]
def ob170 : Obj := Obj.mk (Value.type "function") Option.none (Data.func (FuncData.mk (Str.ofString "combine_truth") (Str.ofString "combine_truth") (L2.defArgs (C38.ztop 48)) (FuncBody.stmts (L2.defBody (C38.ztop 48))) (L2.defScope (C38.ztop 48)) 3 [] Value.none Value.none Value.none (Value.str (Str.ofString "codewalk.rounds") 1006) Option.none (Value.ref 251) Value.none 0)) #[]
def ob171 : Obj := Obj.mk (Value.type "tuple") Option.none (Data.seq #[Value.str (Str.ofString "rows") 1109, Value.str (Str.ofString "at") 1110, Value.str (Str.ofString "word") 1111, Value.str (Str.ofString "argument") 1112, Value.str (Str.ofString "line") 1113, Value.str (Str.ofString "handler") 1114, Value.str (Str.ofString "jumps") 1115]) #[]
def ob172 : Obj := Obj.mk Value.none Option.none (Data.func (FuncData.mk (Str.ofString "combine_jump") (Str.ofString "combine_jump") (L2.defArgs (C38.ztop 49)) (FuncBody.stmts (L2.defBody (C38.ztop 49))) (L2.defScope (C38.ztop 49)) 0 [] Value.none Value.none Value.none Value.none Option.none Value.none Value.none 0)) #[]
def ob173 : Obj := Obj.mk (Value.type "code") Option.none (Data.fields #[Value.str (Str.ofString "combine_jump") 1106, Value.str (Str.ofString "combine_jump") 1107, Value.str (Str.ofString "/claim/cut.py") 1108, Value.int 312 0, Value.int 2 0, Value.int 0 0, Value.int 0 0, Value.int 3 0, Value.ref 253, Value.bool Bool.true, Value.int 181 0, Value.ref 254, Value.none, Value.ref 255, Value.ref 256, Value.ref 257, Value.int 1116 0, Value.int 312 0, Value.str (Str.ofString "/claim/cut.py") 1117]) #[]
def ob174 : Obj := Obj.mk (Value.type "function") Option.none (Data.func (FuncData.mk (Str.ofString "combine_jump") (Str.ofString "combine_jump") (L2.defArgs (C38.ztop 49)) (FuncBody.stmts (L2.defBody (C38.ztop 49))) (L2.defScope (C38.ztop 49)) 3 [] Value.none Value.none Value.none (Value.str (Str.ofString "codewalk.rounds") 1006) Option.none (Value.ref 258) Value.none 0)) #[]
def ob175 : Obj := Obj.mk (Value.type "tuple") Option.none (Data.seq #[Value.str (Str.ofString "rows") 1122, Value.str (Str.ofString "at") 1123, Value.str (Str.ofString "word") 1124, Value.str (Str.ofString "label") 1125, Value.str (Str.ofString "line") 1126, Value.str (Str.ofString "handler") 1127, Value.str (Str.ofString "jumps") 1128]) #[]
def ob176 : Obj := Obj.mk Value.none Option.none (Data.func (FuncData.mk (Str.ofString "combine_none") (Str.ofString "combine_none") (L2.defArgs (C38.ztop 50)) (FuncBody.stmts (L2.defBody (C38.ztop 50))) (L2.defScope (C38.ztop 50)) 0 [] Value.none Value.none Value.none Value.none Option.none Value.none Value.none 0)) #[]
def ob177 : Obj := Obj.mk (Value.type "code") Option.none (Data.fields #[Value.str (Str.ofString "combine_none") 1119, Value.str (Str.ofString "combine_none") 1120, Value.str (Str.ofString "/claim/cut.py") 1121, Value.int 320 0, Value.int 2 0, Value.int 0 0, Value.int 0 0, Value.int 3 0, Value.ref 260, Value.bool Bool.true, Value.int 181 0, Value.ref 261, Value.none, Value.ref 262, Value.ref 263, Value.ref 264, Value.int 1129 0, Value.int 320 0, Value.str (Str.ofString "/claim/cut.py") 1130]) #[]
def ob178 : Obj := Obj.mk (Value.type "function") Option.none (Data.func (FuncData.mk (Str.ofString "combine_none") (Str.ofString "combine_none") (L2.defArgs (C38.ztop 50)) (FuncBody.stmts (L2.defBody (C38.ztop 50))) (L2.defScope (C38.ztop 50)) 3 [] Value.none Value.none Value.none (Value.str (Str.ofString "codewalk.rounds") 1006) Option.none (Value.ref 265) Value.none 0)) #[]
def ob179 : Obj := Obj.mk (Value.type "tuple") Option.none (Data.seq #[Value.str (Str.ofString "rows") 1135, Value.str (Str.ofString "at") 1136, Value.str (Str.ofString "word") 1137, Value.str (Str.ofString "argument") 1138, Value.str (Str.ofString "line") 1139, Value.str (Str.ofString "handler") 1140]) #[]
def ob180 : Obj := Obj.mk Value.none Option.none (Data.func (FuncData.mk (Str.ofString "combine_null") (Str.ofString "combine_null") (L2.defArgs (C38.ztop 51)) (FuncBody.stmts (L2.defBody (C38.ztop 51))) (L2.defScope (C38.ztop 51)) 0 [] Value.none Value.none Value.none Value.none Option.none Value.none Value.none 0)) #[]
def ob181 : Obj := Obj.mk (Value.type "code") Option.none (Data.fields #[Value.str (Str.ofString "combine_null") 1132, Value.str (Str.ofString "combine_null") 1133, Value.str (Str.ofString "/claim/cut.py") 1134, Value.int 331 0, Value.int 2 0, Value.int 0 0, Value.int 0 0, Value.int 3 0, Value.ref 267, Value.bool Bool.true, Value.int 181 0, Value.ref 268, Value.none, Value.ref 269, Value.ref 270, Value.ref 271, Value.int 1141 0, Value.int 331 0, Value.str (Str.ofString "/claim/cut.py") 1142]) #[]
def ob182 : Obj := Obj.mk (Value.type "function") Option.none (Data.func (FuncData.mk (Str.ofString "combine_null") (Str.ofString "combine_null") (L2.defArgs (C38.ztop 51)) (FuncBody.stmts (L2.defBody (C38.ztop 51))) (L2.defScope (C38.ztop 51)) 3 [] Value.none Value.none Value.none (Value.str (Str.ofString "codewalk.rounds") 1006) Option.none (Value.ref 272) Value.none 0)) #[]
def ob183 : Obj := Obj.mk (Value.type "tuple") Option.none (Data.seq #[Value.str (Str.ofString "rows") 1147, Value.str (Str.ofString "at") 1148, Value.str (Str.ofString "word") 1149, Value.str (Str.ofString "constant") 1150, Value.str (Str.ofString "first") 1151, Value.str (Str.ofString "_") 1152, Value.str (Str.ofString "line") 1153, Value.str (Str.ofString "handler") 1154]) #[]
def ob184 : Obj := Obj.mk Value.none Option.none (Data.func (FuncData.mk (Str.ofString "combine_return") (Str.ofString "combine_return") (L2.defArgs (C38.ztop 52)) (FuncBody.stmts (L2.defBody (C38.ztop 52))) (L2.defScope (C38.ztop 52)) 0 [] Value.none Value.none Value.none Value.none Option.none Value.none Value.none 0)) #[]
def ob185 : Obj := Obj.mk (Value.type "code") Option.none (Data.fields #[Value.str (Str.ofString "combine_return") 1144, Value.str (Str.ofString "combine_return") 1145, Value.str (Str.ofString "/claim/cut.py") 1146, Value.int 338 0, Value.int 2 0, Value.int 0 0, Value.int 0 0, Value.int 3 0, Value.ref 274, Value.bool Bool.true, Value.int 181 0, Value.ref 275, Value.none, Value.ref 276, Value.ref 277, Value.ref 278, Value.int 1155 0, Value.int 338 0, Value.str (Str.ofString "/claim/cut.py") 1156]) #[]
def ob186 : Obj := Obj.mk (Value.type "function") Option.none (Data.func (FuncData.mk (Str.ofString "combine_return") (Str.ofString "combine_return") (L2.defArgs (C38.ztop 52)) (FuncBody.stmts (L2.defBody (C38.ztop 52))) (L2.defScope (C38.ztop 52)) 3 [] Value.none Value.none Value.none (Value.str (Str.ofString "codewalk.rounds") 1006) Option.none (Value.ref 279) Value.none 0)) #[]
def ob187 (P : Params) : Obj := Obj.mk (Value.type "dict") Option.none (Data.dict #[DictEntry.mk (PySem.PyData.keyHash P (Str.ofString "TO_BOOL")) (Value.str (Str.ofString "TO_BOOL") 1158) (Value.ref 252), DictEntry.mk (PySem.PyData.keyHash P (Str.ofString "POP_JUMP_IF_FALSE")) (Value.str (Str.ofString "POP_JUMP_IF_FALSE") 1159) (Value.ref 259), DictEntry.mk (PySem.PyData.keyHash P (Str.ofString "POP_JUMP_IF_TRUE")) (Value.str (Str.ofString "POP_JUMP_IF_TRUE") 1160) (Value.ref 259), DictEntry.mk (PySem.PyData.keyHash P (Str.ofString "IS_OP")) (Value.str (Str.ofString "IS_OP") 1161) (Value.ref 266), DictEntry.mk (PySem.PyData.keyHash P (Str.ofString "PUSH_NULL")) (Value.str (Str.ofString "PUSH_NULL") 1162) (Value.ref 273), DictEntry.mk (PySem.PyData.keyHash P (Str.ofString "RETURN_VALUE")) (Value.str (Str.ofString "RETURN_VALUE") 1163) (Value.ref 280)] 6) #[]
def ob188 (P : Params) : Obj := Obj.mk (Value.type "dict") Option.none (Data.dict #[DictEntry.mk (PySem.PyData.keyHash P (Str.ofString "TO_BOOL")) (Value.str (Str.ofString "TO_BOOL") 1171) (Value.ref 283), DictEntry.mk (PySem.PyData.keyHash P (Str.ofString "POP_JUMP_IF_FALSE")) (Value.str (Str.ofString "POP_JUMP_IF_FALSE") 1179) (Value.ref 284), DictEntry.mk (PySem.PyData.keyHash P (Str.ofString "POP_JUMP_IF_TRUE")) (Value.str (Str.ofString "POP_JUMP_IF_TRUE") 1182) (Value.ref 285), DictEntry.mk (PySem.PyData.keyHash P (Str.ofString "IS_OP")) (Value.str (Str.ofString "IS_OP") 1185) (Value.ref 286), DictEntry.mk (PySem.PyData.keyHash P (Str.ofString "PUSH_NULL")) (Value.str (Str.ofString "PUSH_NULL") 1187) (Value.ref 287), DictEntry.mk (PySem.PyData.keyHash P (Str.ofString "RETURN_VALUE")) (Value.str (Str.ofString "RETURN_VALUE") 1189) (Value.ref 288)] 6) #[]
def ob189 : Obj := Obj.mk (Value.type "tuple") Option.none (Data.seq #[Value.str (Str.ofString "LOAD_CONST") 1172, Value.str (Str.ofString "COMPARE_OP") 1173, Value.str (Str.ofString "CHECK_EXC_MATCH") 1174, Value.str (Str.ofString "CONTAINS_OP") 1175, Value.str (Str.ofString "IS_OP") 1176, Value.str (Str.ofString "TO_BOOL") 1177, Value.str (Str.ofString "UNARY_NOT") 1178]) #[]
def ob190 : Obj := Obj.mk (Value.type "tuple") Option.none (Data.seq #[Value.str (Str.ofString "LOAD_CONST") 1180, Value.str (Str.ofString "IS_OP") 1181]) #[]
def ob191 : Obj := Obj.mk (Value.type "tuple") Option.none (Data.seq #[Value.str (Str.ofString "LOAD_CONST") 1183, Value.str (Str.ofString "IS_OP") 1184]) #[]
def ob192 : Obj := Obj.mk (Value.type "tuple") Option.none (Data.seq #[Value.str (Str.ofString "LOAD_CONST") 1186]) #[]
def ob193 : Obj := Obj.mk (Value.type "tuple") Option.none (Data.seq #[Value.str (Str.ofString "LOAD_GLOBAL") 1188]) #[]
def ob194 : Obj := Obj.mk (Value.type "tuple") Option.none (Data.seq #[Value.str (Str.ofString "LOAD_CONST") 1190]) #[]
def ob195 (P : Params) : Obj := Obj.mk (Value.type "dict") Option.none (Data.dict #[DictEntry.mk (PySem.PyData.keyHash P (Str.ofString "CHECK_EXC_MATCH")) (Value.str (Str.ofString "CHECK_EXC_MATCH") 1198) (Value.bool Bool.true), DictEntry.mk (PySem.PyData.keyHash P (Str.ofString "CONTAINS_OP")) (Value.str (Str.ofString "CONTAINS_OP") 1199) (Value.bool Bool.true), DictEntry.mk (PySem.PyData.keyHash P (Str.ofString "IS_OP")) (Value.str (Str.ofString "IS_OP") 1200) (Value.bool Bool.true), DictEntry.mk (PySem.PyData.keyHash P (Str.ofString "TO_BOOL")) (Value.str (Str.ofString "TO_BOOL") 1201) (Value.bool Bool.true), DictEntry.mk (PySem.PyData.keyHash P (Str.ofString "UNARY_NOT")) (Value.str (Str.ofString "UNARY_NOT") 1202) (Value.bool Bool.true)] 5) #[]
def ob196 : Obj := Obj.mk (Value.type "tuple") Option.none (Data.seq #[Value.str (Str.ofString "rows") 1212, Value.str (Str.ofString "jumps") 1213]) #[]
def ob197 : Obj := Obj.mk Value.none Option.none (Data.func (FuncData.mk (Str.ofString "turn_jumps") (Str.ofString "turn_jumps") (L2.defArgs (C38.ztop 56)) (FuncBody.stmts (L2.defBody (C38.ztop 56))) (L2.defScope (C38.ztop 56)) 0 [] Value.none Value.none Value.none Value.none Option.none Value.none Value.none 0)) #[]
def ob198 : Obj := Obj.mk (Value.type "code") Option.none (Data.fields #[Value.str (Str.ofString "turn_jumps") 1209, Value.str (Str.ofString "turn_jumps") 1210, Value.str (Str.ofString "/claim/cut.py") 1211, Value.int 349 0, Value.int 1 0, Value.int 0 0, Value.int 0 0, Value.int 3 0, Value.ref 290, Value.bool Bool.true, Value.int 181 0, Value.ref 291, Value.none, Value.ref 292, Value.ref 293, Value.ref 294, Value.int 1214 0, Value.int 349 0, Value.str (Str.ofString "/claim/cut.py") 1215]) #[]
def ob199 : Obj := Obj.mk (Value.type "function") Option.none (Data.func (FuncData.mk (Str.ofString "turn_jumps") (Str.ofString "turn_jumps") (L2.defArgs (C38.ztop 56)) (FuncBody.stmts (L2.defBody (C38.ztop 56))) (L2.defScope (C38.ztop 56)) 3 [] Value.none Value.none Value.none (Value.str (Str.ofString "codewalk.rounds") 1006) Option.none (Value.ref 295) Value.none 0)) #[]
def ob200 : Obj := Obj.mk Value.none Option.none (Data.func (FuncData.mk (Str.ofString "jumps_in") (Str.ofString "jumps_in") (L2.defArgs (C38.ztop 57)) (FuncBody.stmts (L2.defBody (C38.ztop 57))) (L2.defScope (C38.ztop 57)) 0 [] Value.none Value.none Value.none Value.none Option.none Value.none Value.none 0)) #[]
def ob201 : Obj := Obj.mk (Value.type "code") Option.none (Data.fields #[Value.str (Str.ofString "jumps_in") 1217, Value.str (Str.ofString "jumps_in") 1218, Value.str (Str.ofString "/claim/cut.py") 1219, Value.int 352 0, Value.int 1 0, Value.int 0 0, Value.int 0 0, Value.int 3 0, Value.ref 297, Value.bool Bool.true, Value.int 181 0, Value.ref 298, Value.none, Value.none, Value.none, Value.ref 299, Value.int 1220 0, Value.int 352 0, Value.str (Str.ofString "/claim/cut.py") 1221]) #[]
def ob202 : Obj := Obj.mk (Value.type "function") Option.none (Data.func (FuncData.mk (Str.ofString "jumps_in") (Str.ofString "jumps_in") (L2.defArgs (C38.ztop 57)) (FuncBody.stmts (L2.defBody (C38.ztop 57))) (L2.defScope (C38.ztop 57)) 3 [] Value.none Value.none Value.none (Value.str (Str.ofString "codewalk.rounds") 1006) Option.none (Value.ref 300) Value.none 0)) #[]
def ob203 : Obj := Obj.mk (Value.type "tuple") Option.none (Data.seq #[Value.str (Str.ofString "rows") 1226, Value.str (Str.ofString "jumps") 1227, Value.str (Str.ofString "onward") 1228, Value.str (Str.ofString "changes") 1229, Value.str (Str.ofString "at") 1230, Value.str (Str.ofString "row") 1231, Value.str (Str.ofString "word") 1232, Value.str (Str.ofString "label") 1233, Value.str (Str.ofString "line") 1234, Value.str (Str.ofString "handler") 1235]) #[]
def ob204 : Obj := Obj.mk Value.none Option.none (Data.func (FuncData.mk (Str.ofString "thread") (Str.ofString "thread") (L2.defArgs (C38.ztop 58)) (FuncBody.stmts (L2.defBody (C38.ztop 58))) (L2.defScope (C38.ztop 58)) 0 [] Value.none Value.none Value.none Value.none Option.none Value.none Value.none 0)) #[]
def ob205 : Obj := Obj.mk (Value.type "code") Option.none (Data.fields #[Value.str (Str.ofString "thread") 1223, Value.str (Str.ofString "thread") 1224, Value.str (Str.ofString "/claim/cut.py") 1225, Value.int 354 0, Value.int 2 0, Value.int 0 0, Value.int 0 0, Value.int 3 0, Value.ref 302, Value.bool Bool.true, Value.int 181 0, Value.ref 303, Value.none, Value.ref 304, Value.ref 305, Value.ref 306, Value.int 1236 0, Value.int 354 0, Value.str (Str.ofString "/claim/cut.py") 1237]) #[]
def ob206 : Obj := Obj.mk (Value.type "function") Option.none (Data.func (FuncData.mk (Str.ofString "thread") (Str.ofString "thread") (L2.defArgs (C38.ztop 58)) (FuncBody.stmts (L2.defBody (C38.ztop 58))) (L2.defScope (C38.ztop 58)) 3 [] Value.none Value.none Value.none (Value.str (Str.ofString "codewalk.rounds") 1006) Option.none (Value.ref 307) Value.none 0)) #[]
def ob207 : Obj := Obj.mk (Value.type "tuple") Option.none (Data.seq #[Value.str (Str.ofString "rows") 1242, Value.str (Str.ofString "jumps") 1243, Value.str (Str.ofString "onward") 1244, Value.str (Str.ofString "at") 1245, Value.str (Str.ofString "word") 1246, Value.str (Str.ofString "leads") 1247, Value.str (Str.ofString "line") 1248, Value.str (Str.ofString "_") 1249]) #[]
def ob208 : Obj := Obj.mk Value.none Option.none (Data.func (FuncData.mk (Str.ofString "onward_labels") (Str.ofString "onward_labels") (L2.defArgs (C38.ztop 59)) (FuncBody.stmts (L2.defBody (C38.ztop 59))) (L2.defScope (C38.ztop 59)) 0 [] Value.none Value.none Value.none Value.none Option.none Value.none Value.none 0)) #[]
def ob209 : Obj := Obj.mk (Value.type "code") Option.none (Data.fields #[Value.str (Str.ofString "onward_labels") 1239, Value.str (Str.ofString "onward_labels") 1240, Value.str (Str.ofString "/claim/cut.py") 1241, Value.int 365 0, Value.int 2 0, Value.int 0 0, Value.int 0 0, Value.int 3 0, Value.ref 309, Value.bool Bool.true, Value.int 181 0, Value.ref 310, Value.none, Value.ref 311, Value.ref 312, Value.ref 313, Value.int 1250 0, Value.int 365 0, Value.str (Str.ofString "/claim/cut.py") 1251]) #[]
def ob210 : Obj := Obj.mk (Value.type "function") Option.none (Data.func (FuncData.mk (Str.ofString "onward_labels") (Str.ofString "onward_labels") (L2.defArgs (C38.ztop 59)) (FuncBody.stmts (L2.defBody (C38.ztop 59))) (L2.defScope (C38.ztop 59)) 3 [] Value.none Value.none Value.none (Value.str (Str.ofString "codewalk.rounds") 1006) Option.none (Value.ref 314) Value.none 0)) #[]
def ob211 : Obj := Obj.mk (Value.type "tuple") Option.none (Data.seq #[Value.str (Str.ofString "onward") 1256, Value.str (Str.ofString "last") 1257, Value.str (Str.ofString "label") 1258, Value.str (Str.ofString "path") 1259, Value.str (Str.ofString "at") 1260, Value.str (Str.ofString "end") 1261, Value.str (Str.ofString "passed") 1262]) #[]
def ob212 : Obj := Obj.mk Value.none Option.none (Data.func (FuncData.mk (Str.ofString "last_labels") (Str.ofString "last_labels") (L2.defArgs (C38.ztop 60)) (FuncBody.stmts (L2.defBody (C38.ztop 60))) (L2.defScope (C38.ztop 60)) 0 [] Value.none Value.none Value.none Value.none Option.none Value.none Value.none 0)) #[]
def ob213 : Obj := Obj.mk (Value.type "code") Option.none (Data.fields #[Value.str (Str.ofString "last_labels") 1253, Value.str (Str.ofString "last_labels") 1254, Value.str (Str.ofString "/claim/cut.py") 1255, Value.int 374 0, Value.int 1 0, Value.int 0 0, Value.int 0 0, Value.int 3 0, Value.ref 316, Value.bool Bool.true, Value.int 181 0, Value.ref 317, Value.none, Value.ref 318, Value.ref 319, Value.ref 320, Value.int 1263 0, Value.int 374 0, Value.str (Str.ofString "/claim/cut.py") 1264]) #[]
def ob214 : Obj := Obj.mk (Value.type "function") Option.none (Data.func (FuncData.mk (Str.ofString "last_labels") (Str.ofString "last_labels") (L2.defArgs (C38.ztop 60)) (FuncBody.stmts (L2.defBody (C38.ztop 60))) (L2.defScope (C38.ztop 60)) 3 [] Value.none Value.none Value.none (Value.str (Str.ofString "codewalk.rounds") 1006) Option.none (Value.ref 321) Value.none 0)) #[]
def ob215 : Obj := Obj.mk (Value.type "tuple") Option.none (Data.seq #[Value.str (Str.ofString "rows") 1269, Value.str (Str.ofString "jumps") 1270, Value.str (Str.ofString "changes") 1271, Value.str (Str.ofString "at") 1272]) #[]
def ob216 : Obj := Obj.mk Value.none Option.none (Data.func (FuncData.mk (Str.ofString "drop_jumps") (Str.ofString "drop_jumps") (L2.defArgs (C38.ztop 61)) (FuncBody.stmts (L2.defBody (C38.ztop 61))) (L2.defScope (C38.ztop 61)) 0 [] Value.none Value.none Value.none Value.none Option.none Value.none Value.none 0)) #[]
def ob217 : Obj := Obj.mk (Value.type "code") Option.none (Data.fields #[Value.str (Str.ofString "drop_jumps") 1266, Value.str (Str.ofString "drop_jumps") 1267, Value.str (Str.ofString "/claim/cut.py") 1268, Value.int 386 0, Value.int 2 0, Value.int 0 0, Value.int 0 0, Value.int 3 0, Value.ref 323, Value.bool Bool.true, Value.int 181 0, Value.ref 324, Value.none, Value.ref 325, Value.ref 326, Value.ref 327, Value.int 1273 0, Value.int 386 0, Value.str (Str.ofString "/claim/cut.py") 1274]) #[]
def ob218 : Obj := Obj.mk (Value.type "function") Option.none (Data.func (FuncData.mk (Str.ofString "drop_jumps") (Str.ofString "drop_jumps") (L2.defArgs (C38.ztop 61)) (FuncBody.stmts (L2.defBody (C38.ztop 61))) (L2.defScope (C38.ztop 61)) 3 [] Value.none Value.none Value.none (Value.str (Str.ofString "codewalk.rounds") 1006) Option.none (Value.ref 328) Value.none 0)) #[]
def ob219 : Obj := Obj.mk (Value.type "tuple") Option.none (Data.seq #[Value.str (Str.ofString "rows") 1279, Value.str (Str.ofString "at") 1280, Value.str (Str.ofString "label") 1281]) #[]
def ob220 : Obj := Obj.mk Value.none Option.none (Data.func (FuncData.mk (Str.ofString "leads_on") (Str.ofString "leads_on") (L2.defArgs (C38.ztop 62)) (FuncBody.stmts (L2.defBody (C38.ztop 62))) (L2.defScope (C38.ztop 62)) 0 [] Value.none Value.none Value.none Value.none Option.none Value.none Value.none 0)) #[]
def ob221 : Obj := Obj.mk (Value.type "code") Option.none (Data.fields #[Value.str (Str.ofString "leads_on") 1276, Value.str (Str.ofString "leads_on") 1277, Value.str (Str.ofString "/claim/cut.py") 1278, Value.int 393 0, Value.int 2 0, Value.int 0 0, Value.int 0 0, Value.int 3 0, Value.ref 330, Value.bool Bool.true, Value.int 181 0, Value.ref 331, Value.none, Value.ref 332, Value.ref 333, Value.ref 334, Value.int 1282 0, Value.int 393 0, Value.str (Str.ofString "/claim/cut.py") 1283]) #[]
def ob222 : Obj := Obj.mk (Value.type "function") Option.none (Data.func (FuncData.mk (Str.ofString "leads_on") (Str.ofString "leads_on") (L2.defArgs (C38.ztop 62)) (FuncBody.stmts (L2.defBody (C38.ztop 62))) (L2.defScope (C38.ztop 62)) 3 [] Value.none Value.none Value.none (Value.str (Str.ofString "codewalk.rounds") 1006) Option.none (Value.ref 335) Value.none 0)) #[]
def ob223 : Obj := Obj.mk (Value.type "tuple") Option.none (Data.seq #[Value.str (Str.ofString "rows") 1288, Value.str (Str.ofString "found") 1289, Value.str (Str.ofString "loose") 1290, Value.str (Str.ofString "met") 1291, Value.str (Str.ofString "kept") 1292, Value.str (Str.ofString "at") 1293, Value.str (Str.ofString "row") 1294, Value.str (Str.ofString "line") 1295, Value.str (Str.ofString "behind") 1296]) #[]
def ob224 : Obj := Obj.mk Value.none Option.none (Data.func (FuncData.mk (Str.ofString "without_nops") (Str.ofString "without_nops") (L2.defArgs (C38.ztop 63)) (FuncBody.stmts (L2.defBody (C38.ztop 63))) (L2.defScope (C38.ztop 63)) 0 [] Value.none Value.none Value.none Value.none Option.none Value.none Value.none 0)) #[]
def ob225 : Obj := Obj.mk (Value.type "code") Option.none (Data.fields #[Value.str (Str.ofString "without_nops") 1285, Value.str (Str.ofString "without_nops") 1286, Value.str (Str.ofString "/claim/cut.py") 1287, Value.int 401 0, Value.int 1 0, Value.int 0 0, Value.int 0 0, Value.int 3 0, Value.ref 337, Value.bool Bool.true, Value.int 181 0, Value.ref 338, Value.none, Value.ref 339, Value.ref 340, Value.ref 341, Value.int 1297 0, Value.int 401 0, Value.str (Str.ofString "/claim/cut.py") 1298]) #[]
def ob226 : Obj := Obj.mk (Value.type "function") Option.none (Data.func (FuncData.mk (Str.ofString "without_nops") (Str.ofString "without_nops") (L2.defArgs (C38.ztop 63)) (FuncBody.stmts (L2.defBody (C38.ztop 63))) (L2.defScope (C38.ztop 63)) 3 [] Value.none Value.none Value.none (Value.str (Str.ofString "codewalk.rounds") 1006) Option.none (Value.ref 342) Value.none 0)) #[]
def ob227 : Obj := Obj.mk (Value.type "tuple") Option.none (Data.seq #[Value.str (Str.ofString "found") 1303, Value.str (Str.ofString "line") 1304]) #[]
def ob228 : Obj := Obj.mk Value.none Option.none (Data.func (FuncData.mk (Str.ofString "tells_line_ahead") (Str.ofString "tells_line_ahead") (L2.defArgs (C38.ztop 64)) (FuncBody.stmts (L2.defBody (C38.ztop 64))) (L2.defScope (C38.ztop 64)) 0 [] Value.none Value.none Value.none Value.none Option.none Value.none Value.none 0)) #[]
def ob229 : Obj := Obj.mk (Value.type "code") Option.none (Data.fields #[Value.str (Str.ofString "tells_line_ahead") 1300, Value.str (Str.ofString "tells_line_ahead") 1301, Value.str (Str.ofString "/claim/cut.py") 1302, Value.int 424 0, Value.int 2 0, Value.int 0 0, Value.int 0 0, Value.int 3 0, Value.ref 344, Value.bool Bool.true, Value.int 181 0, Value.ref 345, Value.none, Value.ref 346, Value.ref 347, Value.ref 348, Value.int 1305 0, Value.int 424 0, Value.str (Str.ofString "/claim/cut.py") 1306]) #[]
def ob230 : Obj := Obj.mk (Value.type "function") Option.none (Data.func (FuncData.mk (Str.ofString "tells_line_ahead") (Str.ofString "tells_line_ahead") (L2.defArgs (C38.ztop 64)) (FuncBody.stmts (L2.defBody (C38.ztop 64))) (L2.defScope (C38.ztop 64)) 3 [] Value.none Value.none Value.none (Value.str (Str.ofString "codewalk.rounds") 1006) Option.none (Value.ref 349) Value.none 0)) #[]
def ob231 : Obj := Obj.mk (Value.type "tuple") Option.none (Data.seq #[Value.str (Str.ofString "found") 1311, Value.str (Str.ofString "word") 1312]) #[]
def ob232 : Obj := Obj.mk Value.none Option.none (Data.func (FuncData.mk (Str.ofString "may_meet") (Str.ofString "may_meet") (L2.defArgs (C38.ztop 65)) (FuncBody.stmts (L2.defBody (C38.ztop 65))) (L2.defScope (C38.ztop 65)) 0 [] Value.none Value.none Value.none Value.none Option.none Value.none Value.none 0)) #[]
def ob233 : Obj := Obj.mk (Value.type "code") Option.none (Data.fields #[Value.str (Str.ofString "may_meet") 1308, Value.str (Str.ofString "may_meet") 1309, Value.str (Str.ofString "/claim/cut.py") 1310, Value.int 426 0, Value.int 2 0, Value.int 0 0, Value.int 0 0, Value.int 3 0, Value.ref 351, Value.bool Bool.true, Value.int 181 0, Value.ref 352, Value.none, Value.ref 353, Value.ref 354, Value.ref 355, Value.int 1313 0, Value.int 426 0, Value.str (Str.ofString "/claim/cut.py") 1314]) #[]
def ob234 : Obj := Obj.mk (Value.type "function") Option.none (Data.func (FuncData.mk (Str.ofString "may_meet") (Str.ofString "may_meet") (L2.defArgs (C38.ztop 65)) (FuncBody.stmts (L2.defBody (C38.ztop 65))) (L2.defScope (C38.ztop 65)) 3 [] Value.none Value.none Value.none (Value.str (Str.ofString "codewalk.rounds") 1006) Option.none (Value.ref 356) Value.none 0)) #[]
def ob235 : Obj := Obj.mk Value.none Option.none (Data.func (FuncData.mk (Str.ofString "with_lines") (Str.ofString "with_lines") (L2.defArgs (C38.ztop 67)) (FuncBody.stmts (L2.defBody (C38.ztop 67))) (L2.defScope (C38.ztop 67)) 0 [] Value.none Value.none Value.none Value.none Option.none Value.none Value.none 0)) #[]
def ob236 : Obj := Obj.mk (Value.type "code") Option.none (Data.fields #[Value.str (Str.ofString "with_lines") 1318, Value.str (Str.ofString "with_lines") 1319, Value.str (Str.ofString "/claim/cut.py") 1320, Value.int 429 0, Value.int 2 0, Value.int 0 0, Value.int 0 0, Value.int 3 0, Value.ref 358, Value.bool Bool.true, Value.int 181 0, Value.ref 359, Value.none, Value.none, Value.none, Value.ref 360, Value.int 1321 0, Value.int 429 0, Value.str (Str.ofString "/claim/cut.py") 1322]) #[]
def ob237 : Obj := Obj.mk (Value.type "function") Option.none (Data.func (FuncData.mk (Str.ofString "with_lines") (Str.ofString "with_lines") (L2.defArgs (C38.ztop 67)) (FuncBody.stmts (L2.defBody (C38.ztop 67))) (L2.defScope (C38.ztop 67)) 3 [] Value.none Value.none Value.none (Value.str (Str.ofString "codewalk.placing") 1316) Option.none (Value.ref 361) Value.none 0)) #[]
def ob238 : Obj := Obj.mk (Value.type "tuple") Option.none (Data.seq #[Value.str (Str.ofString "rows") 1327, Value.str (Str.ofString "bare") 1328, Value.str (Str.ofString "found") 1329, Value.str (Str.ofString "at") 1330, Value.str (Str.ofString "line") 1331, Value.str (Str.ofString "word") 1332, Value.str (Str.ofString "argument") 1333, Value.str (Str.ofString "_") 1334, Value.str (Str.ofString "handler") 1335]) #[]
def ob239 : Obj := Obj.mk Value.none Option.none (Data.func (FuncData.mk (Str.ofString "with_lines_on_ways") (Str.ofString "with_lines_on_ways") (L2.defArgs (C38.ztop 68)) (FuncBody.stmts (L2.defBody (C38.ztop 68))) (L2.defScope (C38.ztop 68)) 0 [] Value.none Value.none Value.none Value.none Option.none Value.none Value.none 0)) #[]
def ob240 : Obj := Obj.mk (Value.type "code") Option.none (Data.fields #[Value.str (Str.ofString "with_lines_on_ways") 1324, Value.str (Str.ofString "with_lines_on_ways") 1325, Value.str (Str.ofString "/claim/cut.py") 1326, Value.int 438 0, Value.int 2 0, Value.int 0 0, Value.int 0 0, Value.int 3 0, Value.ref 363, Value.bool Bool.true, Value.int 181 0, Value.ref 364, Value.none, Value.ref 365, Value.ref 366, Value.ref 367, Value.int 1336 0, Value.int 438 0, Value.str (Str.ofString "/claim/cut.py") 1337]) #[]
def ob241 : Obj := Obj.mk (Value.type "function") Option.none (Data.func (FuncData.mk (Str.ofString "with_lines_on_ways") (Str.ofString "with_lines_on_ways") (L2.defArgs (C38.ztop 68)) (FuncBody.stmts (L2.defBody (C38.ztop 68))) (L2.defScope (C38.ztop 68)) 3 [] Value.none Value.none Value.none (Value.str (Str.ofString "codewalk.placing") 1316) Option.none (Value.ref 368) Value.none 0)) #[]
def ob242 : Obj := Obj.mk (Value.type "tuple") Option.none (Data.seq #[Value.str (Str.ofString "sources") 1342, Value.str (Str.ofString "rows") 1343, Value.str (Str.ofString "lines") 1344, Value.str (Str.ofString "at") 1345, Value.str (Str.ofString "path") 1346, Value.str (Str.ofString "source") 1347, Value.str (Str.ofString "line") 1348, Value.str (Str.ofString "passed") 1349]) #[]
def ob243 : Obj := Obj.mk Value.none Option.none (Data.func (FuncData.mk (Str.ofString "lines_along") (Str.ofString "lines_along") (L2.defArgs (C38.ztop 69)) (FuncBody.stmts (L2.defBody (C38.ztop 69))) (L2.defScope (C38.ztop 69)) 0 [] Value.none Value.none Value.none Value.none Option.none Value.none Value.none 0)) #[]
def ob244 : Obj := Obj.mk (Value.type "code") Option.none (Data.fields #[Value.str (Str.ofString "lines_along") 1339, Value.str (Str.ofString "lines_along") 1340, Value.str (Str.ofString "/claim/cut.py") 1341, Value.int 444 0, Value.int 2 0, Value.int 0 0, Value.int 0 0, Value.int 3 0, Value.ref 370, Value.bool Bool.true, Value.int 181 0, Value.ref 371, Value.none, Value.ref 372, Value.ref 373, Value.ref 374, Value.int 1350 0, Value.int 444 0, Value.str (Str.ofString "/claim/cut.py") 1351]) #[]
def ob245 : Obj := Obj.mk (Value.type "function") Option.none (Data.func (FuncData.mk (Str.ofString "lines_along") (Str.ofString "lines_along") (L2.defArgs (C38.ztop 69)) (FuncBody.stmts (L2.defBody (C38.ztop 69))) (L2.defScope (C38.ztop 69)) 3 [] Value.none Value.none Value.none (Value.str (Str.ofString "codewalk.placing") 1316) Option.none (Value.ref 375) Value.none 0)) #[]
def ob246 : Obj := Obj.mk (Value.type "tuple") Option.none (Data.seq #[Value.str (Str.ofString "rows") 1356, Value.str (Str.ofString "bare") 1357, Value.str (Str.ofString "sources") 1358, Value.str (Str.ofString "behind") 1359, Value.str (Str.ofString "at") 1360, Value.str (Str.ofString "labels") 1361, Value.str (Str.ofString "ahead") 1362, Value.str (Str.ofString "goes_on") 1363]) #[]
def ob247 : Obj := Obj.mk Value.none Option.none (Data.func (FuncData.mk (Str.ofString "sources_of") (Str.ofString "sources_of") (L2.defArgs (C38.ztop 70)) (FuncBody.stmts (L2.defBody (C38.ztop 70))) (L2.defScope (C38.ztop 70)) 0 [] Value.none Value.none Value.none Value.none Option.none Value.none Value.none 0)) #[]
def ob248 : Obj := Obj.mk (Value.type "code") Option.none (Data.fields #[Value.str (Str.ofString "sources_of") 1353, Value.str (Str.ofString "sources_of") 1354, Value.str (Str.ofString "/claim/cut.py") 1355, Value.int 456 0, Value.int 2 0, Value.int 0 0, Value.int 0 0, Value.int 3 0, Value.ref 377, Value.bool Bool.true, Value.int 181 0, Value.ref 378, Value.none, Value.ref 379, Value.ref 380, Value.ref 381, Value.int 1364 0, Value.int 456 0, Value.str (Str.ofString "/claim/cut.py") 1365]) #[]
def ob249 : Obj := Obj.mk (Value.type "function") Option.none (Data.func (FuncData.mk (Str.ofString "sources_of") (Str.ofString "sources_of") (L2.defArgs (C38.ztop 70)) (FuncBody.stmts (L2.defBody (C38.ztop 70))) (L2.defScope (C38.ztop 70)) 3 [] Value.none Value.none Value.none (Value.str (Str.ofString "codewalk.placing") 1316) Option.none (Value.ref 382) Value.none 0)) #[]
def ob250 : Obj := Obj.mk Value.none Option.none (Data.func (FuncData.mk (Str.ofString "sources_at_labels") (Str.ofString "sources_at_labels") (L2.defArgs (C38.ztop 71)) (FuncBody.stmts (L2.defBody (C38.ztop 71))) (L2.defScope (C38.ztop 71)) 0 [] Value.none Value.none Value.none Value.none Option.none Value.none Value.none 0)) #[]
def ob251 : Obj := Obj.mk (Value.type "code") Option.none (Data.fields #[Value.str (Str.ofString "sources_at_labels") 1367, Value.str (Str.ofString "sources_at_labels") 1368, Value.str (Str.ofString "/claim/cut.py") 1369, Value.int 471 0, Value.int 2 0, Value.int 0 0, Value.int 0 0, Value.int 3 0, Value.ref 384, Value.bool Bool.true, Value.int 181 0, Value.ref 385, Value.none, Value.none, Value.none, Value.ref 386, Value.int 1370 0, Value.int 471 0, Value.str (Str.ofString "/claim/cut.py") 1371]) #[]
def ob252 : Obj := Obj.mk (Value.type "function") Option.none (Data.func (FuncData.mk (Str.ofString "sources_at_labels") (Str.ofString "sources_at_labels") (L2.defArgs (C38.ztop 71)) (FuncBody.stmts (L2.defBody (C38.ztop 71))) (L2.defScope (C38.ztop 71)) 3 [] Value.none Value.none Value.none (Value.str (Str.ofString "codewalk.placing") 1316) Option.none (Value.ref 387) Value.none 0)) #[]
def ob253 : Obj := Obj.mk (Value.type "tuple") Option.none (Data.seq #[Value.str (Str.ofString "rows") 1376, Value.str (Str.ofString "leads") 1377, Value.str (Str.ofString "at") 1378, Value.str (Str.ofString "row") 1379]) #[]
def ob254 : Obj := Obj.mk Value.none Option.none (Data.func (FuncData.mk (Str.ofString "leads_of") (Str.ofString "leads_of") (L2.defArgs (C38.ztop 72)) (FuncBody.stmts (L2.defBody (C38.ztop 72))) (L2.defScope (C38.ztop 72)) 0 [] Value.none Value.none Value.none Value.none Option.none Value.none Value.none 0)) #[]
def ob255 : Obj := Obj.mk (Value.type "code") Option.none (Data.fields #[Value.str (Str.ofString "leads_of") 1373, Value.str (Str.ofString "leads_of") 1374, Value.str (Str.ofString "/claim/cut.py") 1375, Value.int 482 0, Value.int 1 0, Value.int 0 0, Value.int 0 0, Value.int 3 0, Value.ref 389, Value.bool Bool.true, Value.int 181 0, Value.ref 390, Value.none, Value.ref 391, Value.ref 392, Value.ref 393, Value.int 1380 0, Value.int 482 0, Value.str (Str.ofString "/claim/cut.py") 1381]) #[]
def ob256 : Obj := Obj.mk (Value.type "function") Option.none (Data.func (FuncData.mk (Str.ofString "leads_of") (Str.ofString "leads_of") (L2.defArgs (C38.ztop 72)) (FuncBody.stmts (L2.defBody (C38.ztop 72))) (L2.defScope (C38.ztop 72)) 3 [] Value.none Value.none Value.none (Value.str (Str.ofString "codewalk.placing") 1316) Option.none (Value.ref 394) Value.none 0)) #[]
def ob257 : Obj := Obj.mk Value.none Option.none (Data.func (FuncData.mk (Str.ofString "with_cold_last") (Str.ofString "with_cold_last") (L2.defArgs (C38.ztop 73)) (FuncBody.stmts (L2.defBody (C38.ztop 73))) (L2.defScope (C38.ztop 73)) 0 [] Value.none Value.none Value.none Value.none Option.none Value.none Value.none 0)) #[]
def ob258 : Obj := Obj.mk (Value.type "code") Option.none (Data.fields #[Value.str (Str.ofString "with_cold_last") 1383, Value.str (Str.ofString "with_cold_last") 1384, Value.str (Str.ofString "/claim/cut.py") 1385, Value.int 488 0, Value.int 2 0, Value.int 0 0, Value.int 0 0, Value.int 3 0, Value.ref 396, Value.bool Bool.true, Value.int 181 0, Value.ref 397, Value.none, Value.none, Value.none, Value.ref 398, Value.int 1386 0, Value.int 488 0, Value.str (Str.ofString "/claim/cut.py") 1387]) #[]
def ob259 : Obj := Obj.mk (Value.type "function") Option.none (Data.func (FuncData.mk (Str.ofString "with_cold_last") (Str.ofString "with_cold_last") (L2.defArgs (C38.ztop 73)) (FuncBody.stmts (L2.defBody (C38.ztop 73))) (L2.defScope (C38.ztop 73)) 3 [] Value.none Value.none Value.none (Value.str (Str.ofString "codewalk.placing") 1316) Option.none (Value.ref 399) Value.none 0)) #[]
def ob260 : Obj := Obj.mk (Value.type "tuple") Option.none (Data.seq #[Value.str (Str.ofString "rows") 1392, Value.str (Str.ofString "warm") 1393, Value.str (Str.ofString "places") 1394, Value.str (Str.ofString "kept") 1395, Value.str (Str.ofString "cold") 1396, Value.str (Str.ofString "at") 1397, Value.str (Str.ofString "row") 1398, Value.str (Str.ofString "word") 1399, Value.str (Str.ofString "argument") 1400, Value.str (Str.ofString "line") 1401, Value.str (Str.ofString "handler") 1402]) #[]
def ob261 : Obj := Obj.mk Value.none Option.none (Data.func (FuncData.mk (Str.ofString "moved_back") (Str.ofString "moved_back") (L2.defArgs (C38.ztop 74)) (FuncBody.stmts (L2.defBody (C38.ztop 74))) (L2.defScope (C38.ztop 74)) 0 [] Value.none Value.none Value.none Value.none Option.none Value.none Value.none 0)) #[]
def ob262 : Obj := Obj.mk (Value.type "code") Option.none (Data.fields #[Value.str (Str.ofString "moved_back") 1389, Value.str (Str.ofString "moved_back") 1390, Value.str (Str.ofString "/claim/cut.py") 1391, Value.int 494 0, Value.int 2 0, Value.int 0 0, Value.int 0 0, Value.int 3 0, Value.ref 401, Value.bool Bool.true, Value.int 181 0, Value.ref 402, Value.none, Value.ref 403, Value.ref 404, Value.ref 405, Value.int 1403 0, Value.int 494 0, Value.str (Str.ofString "/claim/cut.py") 1404]) #[]
def ob263 : Obj := Obj.mk (Value.type "function") Option.none (Data.func (FuncData.mk (Str.ofString "moved_back") (Str.ofString "moved_back") (L2.defArgs (C38.ztop 74)) (FuncBody.stmts (L2.defBody (C38.ztop 74))) (L2.defScope (C38.ztop 74)) 3 [] Value.none Value.none Value.none (Value.str (Str.ofString "codewalk.placing") 1316) Option.none (Value.ref 406) Value.none 0)) #[]
def ob264 : Obj := Obj.mk (Value.type "tuple") Option.none (Data.seq #[Value.str (Str.ofString "rows") 1409, Value.str (Str.ofString "warm") 1410, Value.str (Str.ofString "at") 1411]) #[]
def ob265 : Obj := Obj.mk Value.none Option.none (Data.func (FuncData.mk (Str.ofString "warm_rows") (Str.ofString "warm_rows") (L2.defArgs (C38.ztop 75)) (FuncBody.stmts (L2.defBody (C38.ztop 75))) (L2.defScope (C38.ztop 75)) 0 [] Value.none Value.none Value.none Value.none Option.none Value.none Value.none 0)) #[]
def ob266 : Obj := Obj.mk (Value.type "code") Option.none (Data.fields #[Value.str (Str.ofString "warm_rows") 1406, Value.str (Str.ofString "warm_rows") 1407, Value.str (Str.ofString "/claim/cut.py") 1408, Value.int 509 0, Value.int 1 0, Value.int 0 0, Value.int 0 0, Value.int 3 0, Value.ref 408, Value.bool Bool.true, Value.int 181 0, Value.ref 409, Value.none, Value.ref 410, Value.ref 411, Value.ref 412, Value.int 1412 0, Value.int 509 0, Value.str (Str.ofString "/claim/cut.py") 1413]) #[]
def ob267 : Obj := Obj.mk (Value.type "function") Option.none (Data.func (FuncData.mk (Str.ofString "warm_rows") (Str.ofString "warm_rows") (L2.defArgs (C38.ztop 75)) (FuncBody.stmts (L2.defBody (C38.ztop 75))) (L2.defScope (C38.ztop 75)) 3 [] Value.none Value.none Value.none (Value.str (Str.ofString "codewalk.placing") 1316) Option.none (Value.ref 413) Value.none 0)) #[]
def ob268 (P : Params) : Obj := Obj.mk (Value.type "dict") Option.none (Data.dict #[DictEntry.mk (PySem.PyData.keyHash P (Str.ofString "JUMP")) (Value.str (Str.ofString "JUMP") 1419) (Value.ref 416), DictEntry.mk (PySem.PyData.keyHash P (Str.ofString "JUMP_NO_INTERRUPT")) (Value.str (Str.ofString "JUMP_NO_INTERRUPT") 1422) (Value.ref 417)] 2) #[]
def ob269 : Obj := Obj.mk (Value.type "tuple") Option.none (Data.seq #[Value.str (Str.ofString "JUMP_FORWARD") 1420, Value.str (Str.ofString "JUMP_BACKWARD") 1421]) #[]
def ob270 : Obj := Obj.mk (Value.type "tuple") Option.none (Data.seq #[Value.str (Str.ofString "JUMP_FORWARD") 1423, Value.str (Str.ofString "JUMP_BACKWARD_NO_INTERRUPT") 1424]) #[]
def ob271 (P : Params) : Obj := Obj.mk (Value.type "dict") Option.none (Data.dict #[DictEntry.mk (PySem.PyData.keyHash P (Str.ofString "POP_JUMP_IF_FALSE")) (Value.str (Str.ofString "POP_JUMP_IF_FALSE") 1428) (Value.str (Str.ofString "POP_JUMP_IF_TRUE") 1429), DictEntry.mk (PySem.PyData.keyHash P (Str.ofString "POP_JUMP_IF_TRUE")) (Value.str (Str.ofString "POP_JUMP_IF_TRUE") 1430) (Value.str (Str.ofString "POP_JUMP_IF_FALSE") 1431), DictEntry.mk (PySem.PyData.keyHash P (Str.ofString "POP_JUMP_IF_NONE")) (Value.str (Str.ofString "POP_JUMP_IF_NONE") 1432) (Value.str (Str.ofString "POP_JUMP_IF_NOT_NONE") 1433), DictEntry.mk (PySem.PyData.keyHash P (Str.ofString "POP_JUMP_IF_NOT_NONE")) (Value.str (Str.ofString "POP_JUMP_IF_NOT_NONE") 1434) (Value.str (Str.ofString "POP_JUMP_IF_NONE") 1435)] 4) #[]
def ob272 : Obj := Obj.mk (Value.type "tuple") Option.none (Data.seq #[Value.bool Bool.true]) #[]
def ob273 : Obj := Obj.mk (Value.type "tuple") Option.none (Data.seq #[Value.str (Str.ofString "rows") 1444, Value.str (Str.ofString "head") 1445, Value.str (Str.ofString "passes") 1446, Value.str (Str.ofString "words") 1447, Value.str (Str.ofString "found") 1448]) #[]
def ob274 : Obj := Obj.mk Value.none Option.none (Data.func (FuncData.mk (Str.ofString "flowed") (Str.ofString "flowed") (L2.defArgs (C38.ztop 80)) (FuncBody.stmts (L2.defBody (C38.ztop 80))) (L2.defScope (C38.ztop 80)) 0 [] Value.none Value.none Value.none Value.none Option.none Value.none Value.none 0)) #[]
def ob275 : Obj := Obj.mk (Value.type "code") Option.none (Data.fields #[Value.str (Str.ofString "flowed") 1441, Value.str (Str.ofString "flowed") 1442, Value.str (Str.ofString "/claim/cut.py") 1443, Value.int 519 0, Value.int 3 0, Value.int 0 0, Value.int 0 0, Value.int 3 0, Value.ref 420, Value.bool Bool.true, Value.int 181 0, Value.ref 421, Value.none, Value.ref 422, Value.ref 423, Value.ref 424, Value.int 1449 0, Value.int 519 0, Value.str (Str.ofString "/claim/cut.py") 1450]) #[]
def ob276 : Obj := Obj.mk (Value.type "function") Option.none (Data.func (FuncData.mk (Str.ofString "flowed") (Str.ofString "flowed") (L2.defArgs (C38.ztop 80)) (FuncBody.stmts (L2.defBody (C38.ztop 80))) (L2.defScope (C38.ztop 80)) 3 [] (Value.ref 419) Value.none Value.none (Value.str (Str.ofString "codewalk.flow") 1415) Option.none (Value.ref 425) Value.none 0)) #[]
def ob277 : Obj := Obj.mk (Value.type "tuple") Option.none (Data.seq #[Value.str (Str.ofString "rows") 1455, Value.str (Str.ofString "head") 1456, Value.str (Str.ofString "words") 1457, Value.str (Str.ofString "numbers") 1458, Value.str (Str.ofString "found") 1459, Value.str (Str.ofString "row") 1460, Value.str (Str.ofString "word") 1461, Value.str (Str.ofString "first") 1462, Value.str (Str.ofString "name") 1463, Value.str (Str.ofString "line") 1464, Value.str (Str.ofString "handler") 1465]) #[]
def ob278 : Obj := Obj.mk Value.none Option.none (Data.func (FuncData.mk (Str.ofString "with_pairs") (Str.ofString "with_pairs") (L2.defArgs (C38.ztop 81)) (FuncBody.stmts (L2.defBody (C38.ztop 81))) (L2.defScope (C38.ztop 81)) 0 [] Value.none Value.none Value.none Value.none Option.none Value.none Value.none 0)) #[]
def ob279 : Obj := Obj.mk (Value.type "code") Option.none (Data.fields #[Value.str (Str.ofString "with_pairs") 1452, Value.str (Str.ofString "with_pairs") 1453, Value.str (Str.ofString "/claim/cut.py") 1454, Value.int 532 0, Value.int 3 0, Value.int 0 0, Value.int 0 0, Value.int 3 0, Value.ref 427, Value.bool Bool.true, Value.int 181 0, Value.ref 428, Value.none, Value.ref 429, Value.ref 430, Value.ref 431, Value.int 1466 0, Value.int 532 0, Value.str (Str.ofString "/claim/cut.py") 1467]) #[]
def ob280 : Obj := Obj.mk (Value.type "function") Option.none (Data.func (FuncData.mk (Str.ofString "with_pairs") (Str.ofString "with_pairs") (L2.defArgs (C38.ztop 81)) (FuncBody.stmts (L2.defBody (C38.ztop 81))) (L2.defScope (C38.ztop 81)) 3 [] Value.none Value.none Value.none (Value.str (Str.ofString "codewalk.flow") 1415) Option.none (Value.ref 432) Value.none 0)) #[]
def ob281 : Obj := Obj.mk (Value.type "tuple") Option.none (Data.seq #[Value.str (Str.ofString "ahead") 1472, Value.str (Str.ofString "row") 1473, Value.str (Str.ofString "word") 1474]) #[]
def ob282 : Obj := Obj.mk Value.none Option.none (Data.func (FuncData.mk (Str.ofString "are_alike") (Str.ofString "are_alike") (L2.defArgs (C38.ztop 82)) (FuncBody.stmts (L2.defBody (C38.ztop 82))) (L2.defScope (C38.ztop 82)) 0 [] Value.none Value.none Value.none Value.none Option.none Value.none Value.none 0)) #[]
def ob283 : Obj := Obj.mk (Value.type "code") Option.none (Data.fields #[Value.str (Str.ofString "are_alike") 1469, Value.str (Str.ofString "are_alike") 1470, Value.str (Str.ofString "/claim/cut.py") 1471, Value.int 547 0, Value.int 2 0, Value.int 0 0, Value.int 0 0, Value.int 3 0, Value.ref 434, Value.bool Bool.true, Value.int 181 0, Value.ref 435, Value.none, Value.ref 436, Value.ref 437, Value.ref 438, Value.int 1475 0, Value.int 547 0, Value.str (Str.ofString "/claim/cut.py") 1476]) #[]
def ob284 : Obj := Obj.mk (Value.type "function") Option.none (Data.func (FuncData.mk (Str.ofString "are_alike") (Str.ofString "are_alike") (L2.defArgs (C38.ztop 82)) (FuncBody.stmts (L2.defBody (C38.ztop 82))) (L2.defScope (C38.ztop 82)) 3 [] Value.none Value.none Value.none (Value.str (Str.ofString "codewalk.flow") 1415) Option.none (Value.ref 439) Value.none 0)) #[]
def ob285 : Obj := Obj.mk (Value.type "tuple") Option.none (Data.seq #[Value.str (Str.ofString "rows") 1481, Value.str (Str.ofString "places") 1482, Value.str (Str.ofString "jumps") 1483, Value.str (Str.ofString "at") 1484, Value.str (Str.ofString "row") 1485, Value.str (Str.ofString "word") 1486, Value.str (Str.ofString "found") 1487, Value.str (Str.ofString "done") 1488, Value.str (Str.ofString "free") 1489, Value.str (Str.ofString "label") 1490, Value.str (Str.ofString "line") 1491, Value.str (Str.ofString "handler") 1492, Value.str (Str.ofString "forward") 1493, Value.str (Str.ofString "backward") 1494]) #[]
def ob286 : Obj := Obj.mk Value.none Option.none (Data.func (FuncData.mk (Str.ofString "with_directions") (Str.ofString "with_directions") (L2.defArgs (C38.ztop 83)) (FuncBody.stmts (L2.defBody (C38.ztop 83))) (L2.defScope (C38.ztop 83)) 0 [] Value.none Value.none Value.none Value.none Option.none Value.none Value.none 0)) #[]
def ob287 : Obj := Obj.mk (Value.type "code") Option.none (Data.fields #[Value.str (Str.ofString "with_directions") 1478, Value.str (Str.ofString "with_directions") 1479, Value.str (Str.ofString "/claim/cut.py") 1480, Value.int 552 0, Value.int 1 0, Value.int 0 0, Value.int 0 0, Value.int 3 0, Value.ref 441, Value.bool Bool.true, Value.int 181 0, Value.ref 442, Value.none, Value.ref 443, Value.ref 444, Value.ref 445, Value.int 1495 0, Value.int 552 0, Value.str (Str.ofString "/claim/cut.py") 1496]) #[]
def ob288 : Obj := Obj.mk (Value.type "function") Option.none (Data.func (FuncData.mk (Str.ofString "with_directions") (Str.ofString "with_directions") (L2.defArgs (C38.ztop 83)) (FuncBody.stmts (L2.defBody (C38.ztop 83))) (L2.defScope (C38.ztop 83)) 3 [] Value.none Value.none Value.none (Value.str (Str.ofString "codewalk.flow") 1415) Option.none (Value.ref 446) Value.none 0)) #[]
def ob289 : Obj := Obj.mk (Value.type "tuple") Option.none (Data.seq #[Value.str (Str.ofString "_law_cell") 1503]) #[]
def ob290 : Obj := Obj.mk Value.none Option.none (Data.func (FuncData.mk (Str.ofString "_law_source_of") (Str.ofString "_law_source_of") (L2.defArgs (C38.ztop 85)) (FuncBody.stmts (L2.defBody (C38.ztop 85))) (L2.defScope (C38.ztop 85)) 0 [] Value.none Value.none Value.none Value.none Option.none Value.none Value.none 0)) #[]
def ob291 : Obj := Obj.mk (Value.type "code") Option.none (Data.fields #[Value.str (Str.ofString "_law_source_of") 1500, Value.str (Str.ofString "_law_source_of") 1501, Value.str (Str.ofString "/claim/cut.py") 1502, Value.int 583 0, Value.int 1 0, Value.int 0 0, Value.int 0 0, Value.int 3 0, Value.ref 448, Value.bool Bool.true, Value.int 181 0, Value.ref 449, Value.none, Value.ref 450, Value.ref 451, Value.ref 452, Value.int 1504 0, Value.int 583 0, Value.str (Str.ofString "/claim/cut.py") 1505]) #[]
def ob292 : Obj := Obj.mk (Value.type "function") Option.none (Data.func (FuncData.mk (Str.ofString "_law_source_of") (Str.ofString "_law_source_of") (L2.defArgs (C38.ztop 85)) (FuncBody.stmts (L2.defBody (C38.ztop 85))) (L2.defScope (C38.ztop 85)) 3 [] Value.none Value.none Value.none (Value.str (Str.ofString "law_codewalk_k38_ways_of_jumps") 1498) Option.none (Value.ref 453) Value.none 0)) #[]
def ob293 : Obj := Obj.mk (Value.type "tuple") Option.none (Data.seq #[Value.str (Str.ofString "_law_source") 1510, Value.str (Str.ofString "_law_many") 1511, Value.str (Str.ofString "_law_found") 1512, Value.str (Str.ofString "_law_prime") 1513, Value.str (Str.ofString "_law_number") 1514]) #[]
def ob294 : Obj := Obj.mk Value.none Option.none (Data.func (FuncData.mk (Str.ofString "_law_next") (Str.ofString "_law_next") (L2.defArgs (C38.ztop 86)) (FuncBody.stmts (L2.defBody (C38.ztop 86))) (L2.defScope (C38.ztop 86)) 0 [] Value.none Value.none Value.none Value.none Option.none Value.none Value.none 0)) #[]
def ob295 : Obj := Obj.mk (Value.type "code") Option.none (Data.fields #[Value.str (Str.ofString "_law_next") 1507, Value.str (Str.ofString "_law_next") 1508, Value.str (Str.ofString "/claim/cut.py") 1509, Value.int 586 0, Value.int 2 0, Value.int 0 0, Value.int 0 0, Value.int 3 0, Value.ref 455, Value.bool Bool.true, Value.int 181 0, Value.ref 456, Value.none, Value.ref 457, Value.ref 458, Value.ref 459, Value.int 1515 0, Value.int 586 0, Value.str (Str.ofString "/claim/cut.py") 1516]) #[]
def ob296 : Obj := Obj.mk (Value.type "function") Option.none (Data.func (FuncData.mk (Str.ofString "_law_next") (Str.ofString "_law_next") (L2.defArgs (C38.ztop 86)) (FuncBody.stmts (L2.defBody (C38.ztop 86))) (L2.defScope (C38.ztop 86)) 3 [] Value.none Value.none Value.none (Value.str (Str.ofString "law_codewalk_k38_ways_of_jumps") 1498) Option.none (Value.ref 460) Value.none 0)) #[]
def ob297 : Obj := Obj.mk (Value.type "tuple") Option.none (Data.seq #[Value.str (Str.ofString "_law_source") 1521, Value.str (Str.ofString "_law_some") 1522]) #[]
def ob298 : Obj := Obj.mk Value.none Option.none (Data.func (FuncData.mk (Str.ofString "_law_one") (Str.ofString "_law_one") (L2.defArgs (C38.ztop 87)) (FuncBody.stmts (L2.defBody (C38.ztop 87))) (L2.defScope (C38.ztop 87)) 0 [] Value.none Value.none Value.none Value.none Option.none Value.none Value.none 0)) #[]
def ob299 : Obj := Obj.mk (Value.type "code") Option.none (Data.fields #[Value.str (Str.ofString "_law_one") 1518, Value.str (Str.ofString "_law_one") 1519, Value.str (Str.ofString "/claim/cut.py") 1520, Value.int 598 0, Value.int 2 0, Value.int 0 0, Value.int 0 0, Value.int 3 0, Value.ref 462, Value.bool Bool.true, Value.int 181 0, Value.ref 463, Value.none, Value.ref 464, Value.ref 465, Value.ref 466, Value.int 1523 0, Value.int 598 0, Value.str (Str.ofString "/claim/cut.py") 1524]) #[]
def ob300 : Obj := Obj.mk (Value.type "function") Option.none (Data.func (FuncData.mk (Str.ofString "_law_one") (Str.ofString "_law_one") (L2.defArgs (C38.ztop 87)) (FuncBody.stmts (L2.defBody (C38.ztop 87))) (L2.defScope (C38.ztop 87)) 3 [] Value.none Value.none Value.none (Value.str (Str.ofString "law_codewalk_k38_ways_of_jumps") 1498) Option.none (Value.ref 467) Value.none 0)) #[]
def ob301 : Obj := Obj.mk (Value.type "tuple") Option.none (Data.seq #[Value.str (Str.ofString "_law_names") 1529]) #[]
def ob302 : Obj := Obj.mk Value.none Option.none (Data.func (FuncData.mk (Str.ofString "_law_head") (Str.ofString "_law_head") (L2.defArgs (C38.ztop 88)) (FuncBody.stmts (L2.defBody (C38.ztop 88))) (L2.defScope (C38.ztop 88)) 0 [] Value.none Value.none Value.none Value.none Option.none Value.none Value.none 0)) #[]
def ob303 : Obj := Obj.mk (Value.type "code") Option.none (Data.fields #[Value.str (Str.ofString "_law_head") 1526, Value.str (Str.ofString "_law_head") 1527, Value.str (Str.ofString "/claim/cut.py") 1528, Value.int 600 0, Value.int 1 0, Value.int 0 0, Value.int 0 0, Value.int 3 0, Value.ref 469, Value.bool Bool.true, Value.int 181 0, Value.ref 470, Value.none, Value.ref 471, Value.ref 472, Value.ref 473, Value.int 1530 0, Value.int 600 0, Value.str (Str.ofString "/claim/cut.py") 1531]) #[]
def ob304 : Obj := Obj.mk (Value.type "function") Option.none (Data.func (FuncData.mk (Str.ofString "_law_head") (Str.ofString "_law_head") (L2.defArgs (C38.ztop 88)) (FuncBody.stmts (L2.defBody (C38.ztop 88))) (L2.defScope (C38.ztop 88)) 3 [] Value.none Value.none Value.none (Value.str (Str.ofString "law_codewalk_k38_ways_of_jumps") 1498) Option.none (Value.ref 474) Value.none 0)) #[]
def ob305 : Obj := Obj.mk (Value.type "tuple") Option.none (Data.seq #[Value.str (Str.ofString "_law_found") 1536]) #[]
def ob306 : Obj := Obj.mk Value.none Option.none (Data.func (FuncData.mk (Str.ofString "_law_opposite") (Str.ofString "_law_opposite") (L2.defArgs (C38.ztop 90)) (FuncBody.stmts (L2.defBody (C38.ztop 89))) (L2.defScope (C38.ztop 89)) 0 [] Value.none Value.none Value.none Value.none Option.none Value.none Value.none 0)) #[]
def ob307 : Obj := Obj.mk (Value.type "code") Option.none (Data.fields #[Value.str (Str.ofString "_law_opposite") 1533, Value.str (Str.ofString "_law_opposite") 1534, Value.str (Str.ofString "/claim/cut.py") 1535, Value.int 602 0, Value.int 0 0, Value.int 0 0, Value.int 0 0, Value.int 3 0, Value.ref 476, Value.bool Bool.true, Value.int 181 0, Value.ref 477, Value.none, Value.ref 478, Value.ref 479, Value.ref 480, Value.int 1537 0, Value.int 602 0, Value.str (Str.ofString "/claim/cut.py") 1538]) #[]
def ob308 : Obj := Obj.mk (Value.type "function") Option.none (Data.func (FuncData.mk (Str.ofString "_law_opposite") (Str.ofString "_law_opposite") (L2.defArgs (C38.ztop 90)) (FuncBody.stmts (L2.defBody (C38.ztop 89))) (L2.defScope (C38.ztop 89)) 3 [] Value.none Value.none Value.none (Value.str (Str.ofString "law_codewalk_k38_ways_of_jumps") 1498) Option.none (Value.ref 481) Value.none 0)) #[]
def ob309 : Obj := Obj.mk Value.none Option.none (Data.func (FuncData.mk (Str.ofString "_law_words") (Str.ofString "_law_words") (L2.defArgs (C38.ztop 90)) (FuncBody.stmts (L2.defBody (C38.ztop 90))) (L2.defScope (C38.ztop 90)) 0 [] Value.none Value.none Value.none Value.none Option.none Value.none Value.none 0)) #[]
def ob310 : Obj := Obj.mk (Value.type "code") Option.none (Data.fields #[Value.str (Str.ofString "_law_words") 1540, Value.str (Str.ofString "_law_words") 1541, Value.str (Str.ofString "/claim/cut.py") 1542, Value.int 607 0, Value.int 0 0, Value.int 0 0, Value.int 0 0, Value.int 3 0, Value.ref 483, Value.bool Bool.true, Value.int 181 0, Value.ref 484, Value.none, Value.ref 485, Value.ref 486, Value.ref 487, Value.int 1543 0, Value.int 607 0, Value.str (Str.ofString "/claim/cut.py") 1544]) #[]
def ob311 : Obj := Obj.mk (Value.type "function") Option.none (Data.func (FuncData.mk (Str.ofString "_law_words") (Str.ofString "_law_words") (L2.defArgs (C38.ztop 90)) (FuncBody.stmts (L2.defBody (C38.ztop 90))) (L2.defScope (C38.ztop 90)) 3 [] Value.none Value.none Value.none (Value.str (Str.ofString "law_codewalk_k38_ways_of_jumps") 1498) Option.none (Value.ref 488) Value.none 0)) #[]
def ob312 : Obj := Obj.mk (Value.type "tuple") Option.none (Data.seq #[Value.str (Str.ofString "_law_source") 1549, Value.str (Str.ofString "_law_labels") 1550, Value.str (Str.ofString "_law_many") 1551, Value.str (Str.ofString "_law_parts_here") 1552, Value.str (Str.ofString "_law_k") 1553, Value.str (Str.ofString "_law_kind") 1554, Value.str (Str.ofString "_law_line") 1555, Value.str (Str.ofString "_law_word") 1556, Value.str (Str.ofString "_law_label") 1557, Value.str (Str.ofString "_law_row") 1558, Value.str (Str.ofString "_law_goal") 1559]) #[]
def ob313 : Obj := Obj.mk Value.none Option.none (Data.func (FuncData.mk (Str.ofString "_law_parts") (Str.ofString "_law_parts") (L2.defArgs (C38.ztop 91)) (FuncBody.stmts (L2.defBody (C38.ztop 91))) (L2.defScope (C38.ztop 91)) 0 [] Value.none Value.none Value.none Value.none Option.none Value.none Value.none 0)) #[]
def ob314 : Obj := Obj.mk (Value.type "code") Option.none (Data.fields #[Value.str (Str.ofString "_law_parts") 1546, Value.str (Str.ofString "_law_parts") 1547, Value.str (Str.ofString "/claim/cut.py") 1548, Value.int 609 0, Value.int 3 0, Value.int 0 0, Value.int 0 0, Value.int 3 0, Value.ref 490, Value.bool Bool.true, Value.int 181 0, Value.ref 491, Value.none, Value.ref 492, Value.ref 493, Value.ref 494, Value.int 1560 0, Value.int 609 0, Value.str (Str.ofString "/claim/cut.py") 1561]) #[]
def ob315 : Obj := Obj.mk (Value.type "function") Option.none (Data.func (FuncData.mk (Str.ofString "_law_parts") (Str.ofString "_law_parts") (L2.defArgs (C38.ztop 91)) (FuncBody.stmts (L2.defBody (C38.ztop 91))) (L2.defScope (C38.ztop 91)) 3 [] Value.none Value.none Value.none (Value.str (Str.ofString "law_codewalk_k38_ways_of_jumps") 1498) Option.none (Value.ref 495) Value.none 0)) #[]
def ob316 : Obj := Obj.mk Value.none Option.none (Data.func (FuncData.mk (Str.ofString "_law_rows") (Str.ofString "_law_rows") (L2.defArgs (C38.ztop 92)) (FuncBody.stmts (L2.defBody (C38.ztop 92))) (L2.defScope (C38.ztop 92)) 0 [] Value.none Value.none Value.none Value.none Option.none Value.none Value.none 0)) #[]
def ob317 : Obj := Obj.mk (Value.type "code") Option.none (Data.fields #[Value.str (Str.ofString "_law_rows") 1563, Value.str (Str.ofString "_law_rows") 1564, Value.str (Str.ofString "/claim/cut.py") 1565, Value.int 623 0, Value.int 1 0, Value.int 0 0, Value.int 0 0, Value.int 3 0, Value.ref 497, Value.bool Bool.true, Value.int 181 0, Value.ref 498, Value.none, Value.none, Value.none, Value.ref 499, Value.int 1566 0, Value.int 623 0, Value.str (Str.ofString "/claim/cut.py") 1567]) #[]
def ob318 : Obj := Obj.mk (Value.type "function") Option.none (Data.func (FuncData.mk (Str.ofString "_law_rows") (Str.ofString "_law_rows") (L2.defArgs (C38.ztop 92)) (FuncBody.stmts (L2.defBody (C38.ztop 92))) (L2.defScope (C38.ztop 92)) 3 [] Value.none Value.none Value.none (Value.str (Str.ofString "law_codewalk_k38_ways_of_jumps") 1498) Option.none (Value.ref 500) Value.none 0)) #[]
def ob319 : Obj := Obj.mk Value.none Option.none (Data.func (FuncData.mk (Str.ofString "_law_due") (Str.ofString "_law_due") (L2.defArgs (C38.ztop 93)) (FuncBody.stmts (L2.defBody (C38.ztop 93))) (L2.defScope (C38.ztop 93)) 0 [] Value.none Value.none Value.none Value.none Option.none Value.none Value.none 0)) #[]
def ob320 : Obj := Obj.mk (Value.type "code") Option.none (Data.fields #[Value.str (Str.ofString "_law_due") 1569, Value.str (Str.ofString "_law_due") 1570, Value.str (Str.ofString "/claim/cut.py") 1571, Value.int 641 0, Value.int 1 0, Value.int 0 0, Value.int 0 0, Value.int 3 0, Value.ref 502, Value.bool Bool.true, Value.int 181 0, Value.ref 503, Value.none, Value.none, Value.none, Value.ref 504, Value.int 1572 0, Value.int 641 0, Value.str (Str.ofString "/claim/cut.py") 1573]) #[]
def ob321 : Obj := Obj.mk (Value.type "function") Option.none (Data.func (FuncData.mk (Str.ofString "_law_due") (Str.ofString "_law_due") (L2.defArgs (C38.ztop 93)) (FuncBody.stmts (L2.defBody (C38.ztop 93))) (L2.defScope (C38.ztop 93)) 3 [] Value.none Value.none Value.none (Value.str (Str.ofString "law_codewalk_k38_ways_of_jumps") 1498) Option.none (Value.ref 505) Value.none 0)) #[]
def ob322 : Obj := Obj.mk (Value.type "tuple") Option.none (Data.seq #[Value.str (Str.ofString "_law_script") 1578, Value.str (Str.ofString "_law_cell") 1579, Value.str (Str.ofString "_law_source") 1580, Value.str (Str.ofString "_law_turn") 1581, Value.str (Str.ofString "_law_rows_here") 1582]) #[]
def ob323 : Obj := Obj.mk Value.none Option.none (Data.func (FuncData.mk (Str.ofString "law") (Str.ofString "law") (L2.defArgs (C38.ztop 94)) (FuncBody.stmts (L2.defBody (C38.ztop 94))) (L2.defScope (C38.ztop 94)) 0 [] Value.none Value.none Value.none Value.none Option.none Value.none Value.none 0)) #[]
def ob324 : Obj := Obj.mk (Value.type "code") Option.none (Data.fields #[Value.str (Str.ofString "law") 1575, Value.str (Str.ofString "law") 1576, Value.str (Str.ofString "/claim/cut.py") 1577, Value.int 658 0, Value.int 1 0, Value.int 0 0, Value.int 0 0, Value.int 3 0, Value.ref 507, Value.bool Bool.true, Value.int 181 0, Value.ref 508, Value.none, Value.ref 509, Value.ref 510, Value.ref 511, Value.int 1583 0, Value.int 658 0, Value.str (Str.ofString "/claim/cut.py") 1584]) #[]
def ob325 : Obj := Obj.mk (Value.type "function") Option.none (Data.func (FuncData.mk (Str.ofString "law") (Str.ofString "law") (L2.defArgs (C38.ztop 94)) (FuncBody.stmts (L2.defBody (C38.ztop 94))) (L2.defScope (C38.ztop 94)) 3 [] Value.none Value.none Value.none (Value.str (Str.ofString "law_codewalk_k38_ways_of_jumps") 1498) Option.none (Value.ref 512) Value.none 0)) #[]
def midT (P : Params) : PySem.W.BT := (.node (ob0 P) (.node (ob1 P) (.node (ob3 P) (.node ob7 (.node (ob14 P) (.node (ob30 P) (.node ob8 (.node ob91 .nil .nil) (.node ob131 .nil .nil)) (.node ob70 (.node ob7 .nil .nil) .nil)) (.node ob7 (.node ob7 (.node ob104 .nil .nil) (.node ob8 .nil .nil)) (.node ob8 (.node ob122 .nil .nil) .nil))) (.node ob22 (.node ob36 (.node ob55 (.node ob99 .nil .nil) (.node ob7 .nil .nil)) (.node ob7 (.node ob117 .nil .nil) .nil)) (.node ob46 (.node ob7 (.node ob7 .nil .nil) (.node ob146 .nil .nil)) (.node ob84 (.node ob127 .nil .nil) .nil)))) (.node ob7 (.node (ob18 P) (.node (ob34 P) (.node ob53 (.node ob95 .nil .nil) (.node ob8 .nil .nil)) (.node ob8 (.node ob7 .nil .nil) .nil)) (.node ob7 (.node ob63 (.node ob7 .nil .nil) (.node ob144 .nil .nil)) (.node ob82 (.node ob124 .nil .nil) .nil))) (.node ob26 (.node ob39 (.node ob8 (.node ob101 .nil .nil) (.node ob139 .nil .nil)) (.node ob77 (.node ob8 .nil .nil) .nil)) (.node ob48 (.node ob7 (.node ob111 .nil .nil) (.node ob149 .nil .nil)) (.node ob87 (.node ob129 .nil .nil) .nil))))) (.node ob5 (.node ob9 (.node (ob16 P) (.node (ob32 P) (.node ob7 (.node ob93 .nil .nil) (.node ob133 .nil .nil)) (.node ob72 (.node ob114 .nil .nil) .nil)) (.node ob42 (.node ob61 (.node ob8 .nil .nil) (.node ob7 .nil .nil)) (.node ob7 (.node ob7 .nil .nil) .nil))) (.node ob24 (.node ob37 (.node ob57 (.node ob7 .nil .nil) (.node ob137 .nil .nil)) (.node ob76 (.node ob119 .nil .nil) .nil)) (.node ob8 (.node ob67 (.node ob109 .nil .nil) (.node ob147 .nil .nil)) (.node ob85 (.node ob8 .nil .nil) .nil)))) (.node ob12 (.node ob20 (.node ob7 (.node ob7 (.node ob97 .nil .nil) (.node ob135 .nil .nil)) (.node ob74 (.node ob116 .nil .nil) .nil)) (.node ob44 (.node ob64 (.node ob107 .nil .nil) (.node ob7 .nil .nil)) (.node ob7 (.node ob125 .nil .nil) .nil))) (.node ob28 (.node ob8 (.node ob59 (.node ob102 .nil .nil) (.node (ob141 P) .nil .nil)) (.node ob79 (.node ob7 .nil .nil) .nil)) (.node (ob50 P) (.node ob69 (.node ob8 .nil .nil) .nil) (.node (ob89 P) (.node ob7 .nil .nil) .nil)))))) (.node ob2 (.node ob4 (.node ob8 (.node (ob15 P) (.node (ob31 P) (.node ob51 (.node ob92 .nil .nil) (.node ob132 .nil .nil)) (.node ob71 (.node ob113 .nil .nil) .nil)) (.node ob41 (.node ob8 (.node ob7 .nil .nil) (.node ob142 .nil .nil)) (.node ob80 (.node ob123 .nil .nil) .nil))) (.node ob23 (.node ob7 (.node ob56 (.node (ob100 P) .nil .nil) (.node ob8 .nil .nil)) (.node ob8 (.node ob118 .nil .nil) .nil)) (.node ob7 (.node ob66 (.node ob8 .nil .nil) (.node ob7 .nil .nil)) (.node ob7 (.node ob7 .nil .nil) .nil)))) (.node ob11 (.node (ob19 P) (.node (ob35 P) (.node ob54 (.node (ob96 P) .nil .nil) (.node ob134 .nil .nil)) (.node ob73 (.node ob8 .nil .nil) .nil)) (.node ob8 (.node ob7 (.node ob106 .nil .nil) (.node ob145 .nil .nil)) (.node ob83 (.node ob7 .nil .nil) .nil))) (.node ob27 (.node ob7 (.node ob58 (.node ob7 .nil .nil) (.node (ob140 P) .nil .nil)) (.node ob78 (.node ob120 .nil .nil) .nil)) (.node ob49 (.node ob8 (.node ob7 .nil .nil) .nil) (.node ob88 (.node ob130 .nil .nil) .nil))))) (.node ob6 (.node ob10 (.node (ob17 P) (.node (ob33 P) (.node ob52 (.node ob94 .nil .nil) (.node ob7 .nil .nil)) (.node ob7 (.node ob115 .nil .nil) .nil)) (.node ob43 (.node ob62 (.node ob105 .nil .nil) (.node ob143 .nil .nil)) (.node ob81 (.node ob8 .nil .nil) .nil))) (.node ob25 (.node ob38 (.node ob7 (.node ob8 .nil .nil) (.node ob138 .nil .nil)) (.node ob7 (.node ob7 .nil .nil) .nil)) (.node ob47 (.node ob68 (.node ob110 .nil .nil) (.node ob148 .nil .nil)) (.node ob86 (.node ob128 .nil .nil) .nil)))) (.node ob13 (.node ob21 (.node ob8 (.node ob8 (.node ob98 .nil .nil) (.node ob136 .nil .nil)) (.node ob75 (.node ob7 .nil .nil) .nil)) (.node ob45 (.node (ob65 P) (.node ob108 .nil .nil) (.node ob8 .nil .nil)) (.node ob8 (.node ob126 .nil .nil) .nil))) (.node (ob29 P) (.node ob40 (.node ob60 (.node ob103 .nil .nil) (.node ob7 .nil .nil)) (.node ob7 (.node ob121 .nil .nil) .nil)) (.node ob7 (.node ob7 (.node ob112 .nil .nil) .nil) (.node ob90 (.node ob8 .nil .nil) .nil)))))))
def midS (P : Params) (os : OsState) : PySem.W.SharedT := ⟨midT P, 220, Life.mk [] [] [] 0 [] [] Bool.false #[] [] 0 Bool.false Bool.false Bool.false 0 [2000, 10, 10] Bool.false 0 Bool.true [] [] 0 Bool.false, #[], Drawn.mk 0 0 0 0, 1058, os⟩
def finT (P : Params) : PySem.W.BT := (.node (ob0 P) (.node (ob1 P) (.node (ob150 P) (.node ob7 (.node (ob14 P) (.node (ob30 P) (.node ob8 (.node ob91 (.node ob171 (.node ob323 .nil .nil) .nil) (.node ob249 .nil .nil)) (.node ob131 (.node ob7 .nil .nil) (.node ob288 .nil .nil))) (.node ob70 (.node ob7 (.node ob193 .nil .nil) (.node (ob268 P) .nil .nil)) (.node ob7 (.node ob7 .nil .nil) (.node ob7 .nil .nil)))) (.node ob7 (.node ob7 (.node ob104 (.node ob180 .nil .nil) (.node ob258 .nil .nil)) (.node ob8 (.node ob221 .nil .nil) (.node ob8 .nil .nil))) (.node ob8 (.node ob122 (.node ob8 .nil .nil) (.node ob278 .nil .nil)) (.node ob7 (.node ob239 .nil .nil) (.node ob314 .nil .nil))))) (.node ob22 (.node ob36 (.node ob55 (.node ob99 (.node ob7 .nil .nil) (.node ob253 .nil .nil)) (.node ob7 (.node ob216 .nil .nil) (.node ob7 .nil .nil))) (.node ob7 (.node ob117 (.node ob198 .nil .nil) (.node ob7 .nil .nil)) (.node ob157 (.node ob8 .nil .nil) (.node ob309 .nil .nil)))) (.node ob46 (.node ob7 (.node ob7 (.node ob185 .nil .nil) (.node ob263 .nil .nil)) (.node ob146 (.node ob226 .nil .nil) (.node ob301 .nil .nil))) (.node ob84 (.node ob127 (.node ob207 .nil .nil) (.node ob283 .nil .nil)) (.node ob8 (.node ob244 .nil .nil) (.node ob8 .nil .nil)))))) (.node ob7 (.node (ob18 P) (.node (ob34 P) (.node ob53 (.node ob95 (.node ob174 .nil .nil) (.node ob251 .nil .nil)) (.node ob8 (.node ob7 .nil .nil) (.node ob7 .nil .nil))) (.node ob8 (.node ob7 (.node ob8 .nil .nil) (.node ob272 .nil .nil)) (.node ob7 (.node ob232 .nil .nil) (.node ob7 .nil .nil)))) (.node ob7 (.node ob63 (.node ob7 (.node ob8 .nil .nil) (.node ob260 .nil .nil)) (.node ob144 (.node ob223 .nil .nil) (.node ob299 .nil .nil))) (.node ob82 (.node ob124 (.node ob205 .nil .nil) (.node ob8 .nil .nil)) (.node ob164 (.node ob8 .nil .nil) (.node ob316 .nil .nil))))) (.node ob26 (.node ob39 (.node ob8 (.node ob101 (.node ob7 .nil .nil) (.node ob256 .nil .nil)) (.node ob139 (.node ob8 .nil .nil) (.node ob294 .nil .nil))) (.node ob77 (.node ob8 (.node ob200 .nil .nil) (.node ob7 .nil .nil)) (.node ob8 (.node ob7 .nil .nil) (.node ob8 .nil .nil)))) (.node ob48 (.node ob7 (.node ob111 (.node ob189 .nil .nil) (.node ob7 .nil .nil)) (.node ob149 (.node ob7 .nil .nil) (.node ob304 .nil .nil))) (.node ob87 (.node ob129 (.node ob210 .nil .nil) (.node ob285 .nil .nil)) (.node ob169 (.node ob246 .nil .nil) (.node ob7 .nil .nil))))))) (.node ob5 (.node ob9 (.node (ob16 P) (.node (ob32 P) (.node ob7 (.node ob93 (.node ob172 (.node ob325 .nil .nil) .nil) (.node ob8 .nil .nil)) (.node ob133 (.node ob213 .nil .nil) (.node ob8 .nil .nil))) (.node ob72 (.node ob114 (.node (ob195 P) .nil .nil) (.node ob270 .nil .nil)) (.node ob154 (.node ob231 .nil .nil) (.node ob307 .nil .nil)))) (.node ob42 (.node ob61 (.node ob8 (.node ob182 .nil .nil) (.node ob7 .nil .nil)) (.node ob7 (.node ob7 .nil .nil) (.node ob7 .nil .nil))) (.node ob7 (.node ob7 (.node ob7 .nil .nil) (.node ob280 .nil .nil)) (.node ob163 (.node ob241 .nil .nil) (.node ob7 .nil .nil))))) (.node ob24 (.node ob37 (.node ob57 (.node ob7 (.node ob177 .nil .nil) (.node ob254 .nil .nil)) (.node ob137 (.node ob218 .nil .nil) (.node ob293 .nil .nil))) (.node ob76 (.node ob119 (.node ob7 .nil .nil) (.node ob275 .nil .nil)) (.node ob159 (.node ob236 .nil .nil) (.node ob311 .nil .nil)))) (.node ob8 (.node ob67 (.node ob109 (.node (ob187 P) .nil .nil) (.node ob8 .nil .nil)) (.node ob147 (.node ob8 .nil .nil) (.node ob302 .nil .nil))) (.node ob85 (.node ob8 (.node ob208 .nil .nil) (.node ob7 .nil .nil)) (.node ob7 (.node ob7 .nil .nil) (.node ob320 .nil .nil)))))) (.node ob12 (.node ob20 (.node ob7 (.node ob7 (.node ob97 (.node ob8 .nil .nil) (.node ob7 .nil .nil)) (.node ob135 (.node ob215 .nil .nil) (.node ob291 .nil .nil))) (.node ob74 (.node ob116 (.node ob7 .nil .nil) (.node ob8 .nil .nil)) (.node ob156 (.node ob234 .nil .nil) (.node ob7 .nil .nil)))) (.node ob44 (.node ob64 (.node ob107 (.node ob7 .nil .nil) (.node ob261 .nil .nil)) (.node ob7 (.node ob224 .nil .nil) (.node ob7 .nil .nil))) (.node ob7 (.node ob125 (.node ob7 .nil .nil) (.node ob7 .nil .nil)) (.node ob166 (.node ob7 .nil .nil) (.node ob318 .nil .nil))))) (.node ob28 (.node ob8 (.node ob59 (.node ob102 (.node ob179 .nil .nil) (.node ob8 .nil .nil)) (.node (ob141 P) (.node ob7 .nil .nil) (.node ob296 .nil .nil))) (.node ob79 (.node ob7 (.node ob202 .nil .nil) (.node ob277 .nil .nil)) (.node ob161 (.node ob238 .nil .nil) (.node ob7 .nil .nil)))) (.node (ob50 P) (.node ob69 (.node ob8 (.node ob191 .nil .nil) (.node ob266 .nil .nil)) (.node ob8 (.node ob229 .nil .nil) (.node ob8 .nil .nil))) (.node (ob89 P) (.node ob7 (.node ob8 .nil .nil) (.node ob286 .nil .nil)) (.node ob7 (.node ob247 .nil .nil) (.node ob322 .nil .nil)))))))) (.node ob2 (.node ob4 (.node ob8 (.node (ob15 P) (.node (ob31 P) (.node ob51 (.node ob92 (.node ob7 (.node ob324 .nil .nil) .nil) (.node ob7 .nil .nil)) (.node ob132 (.node ob212 .nil .nil) (.node ob7 .nil .nil))) (.node ob71 (.node ob113 (.node ob194 .nil .nil) (.node ob269 .nil .nil)) (.node ob153 (.node ob8 .nil .nil) (.node ob306 .nil .nil)))) (.node ob41 (.node ob8 (.node ob7 (.node ob181 .nil .nil) (.node ob259 .nil .nil)) (.node ob142 (.node ob222 .nil .nil) (.node ob297 .nil .nil))) (.node ob80 (.node ob123 (.node ob203 .nil .nil) (.node ob279 .nil .nil)) (.node ob8 (.node ob240 .nil .nil) (.node ob315 .nil .nil))))) (.node ob23 (.node ob7 (.node ob56 (.node (ob100 P) (.node ob176 .nil .nil) (.node ob7 .nil .nil)) (.node ob8 (.node ob217 .nil .nil) (.node ob8 .nil .nil))) (.node ob8 (.node ob118 (.node ob199 .nil .nil) (.node ob274 .nil .nil)) (.node ob158 (.node ob235 .nil .nil) (.node ob310 .nil .nil)))) (.node ob7 (.node ob66 (.node ob8 (.node ob186 .nil .nil) (.node ob7 .nil .nil)) (.node ob7 (.node ob7 .nil .nil) (.node ob7 .nil .nil))) (.node ob7 (.node ob7 (.node ob7 .nil .nil) (.node ob284 .nil .nil)) (.node ob167 (.node ob245 .nil .nil) (.node ob319 .nil .nil)))))) (.node ob151 (.node (ob19 P) (.node (ob35 P) (.node ob54 (.node (ob96 P) (.node ob7 .nil .nil) (.node ob252 .nil .nil)) (.node ob134 (.node ob8 .nil .nil) (.node ob290 .nil .nil))) (.node ob73 (.node ob8 (.node ob196 .nil .nil) (.node ob7 .nil .nil)) (.node ob8 (.node ob233 .nil .nil) (.node ob8 .nil .nil)))) (.node ob8 (.node ob7 (.node ob106 (.node ob183 .nil .nil) (.node ob7 .nil .nil)) (.node ob145 (.node ob7 .nil .nil) (.node ob300 .nil .nil))) (.node ob83 (.node ob7 (.node ob206 .nil .nil) (.node ob281 .nil .nil)) (.node ob165 (.node ob242 .nil .nil) (.node ob317 .nil .nil))))) (.node ob27 (.node ob7 (.node ob58 (.node ob7 (.node ob8 .nil .nil) (.node ob7 .nil .nil)) (.node (ob140 P) (.node ob219 .nil .nil) (.node ob295 .nil .nil))) (.node ob78 (.node ob120 (.node ob201 .nil .nil) (.node ob8 .nil .nil)) (.node ob160 (.node ob8 .nil .nil) (.node ob312 .nil .nil)))) (.node ob49 (.node ob8 (.node ob7 (.node ob190 .nil .nil) (.node ob265 .nil .nil)) (.node ob7 (.node ob228 .nil .nil) (.node ob7 .nil .nil))) (.node ob88 (.node ob130 (.node ob7 .nil .nil) (.node ob7 .nil .nil)) (.node ob170 (.node ob7 .nil .nil) (.node ob8 .nil .nil))))))) (.node ob6 (.node ob10 (.node (ob17 P) (.node (ob33 P) (.node ob52 (.node ob94 (.node ob173 .nil .nil) (.node ob250 .nil .nil)) (.node ob7 (.node ob214 .nil .nil) (.node ob289 .nil .nil))) (.node ob7 (.node ob115 (.node ob7 .nil .nil) (.node (ob271 P) .nil .nil)) (.node ob155 (.node ob7 .nil .nil) (.node ob308 .nil .nil)))) (.node ob43 (.node ob62 (.node ob105 (.node ob7 .nil .nil) (.node ob8 .nil .nil)) (.node ob143 (.node ob8 .nil .nil) (.node ob298 .nil .nil))) (.node ob81 (.node ob8 (.node ob204 .nil .nil) (.node ob7 .nil .nil)) (.node ob7 (.node ob7 .nil .nil) (.node ob8 .nil .nil))))) (.node ob25 (.node ob38 (.node ob7 (.node ob8 (.node ob178 .nil .nil) (.node ob255 .nil .nil)) (.node ob138 (.node ob7 .nil .nil) (.node ob7 .nil .nil))) (.node ob7 (.node ob7 (.node ob8 .nil .nil) (.node ob276 .nil .nil)) (.node ob7 (.node ob237 .nil .nil) (.node ob7 .nil .nil)))) (.node ob47 (.node ob68 (.node ob110 (.node (ob188 P) .nil .nil) (.node ob264 .nil .nil)) (.node ob148 (.node ob227 .nil .nil) (.node ob303 .nil .nil))) (.node ob86 (.node ob128 (.node ob209 .nil .nil) (.node ob8 .nil .nil)) (.node ob168 (.node ob8 .nil .nil) (.node ob321 .nil .nil)))))) (.node ob13 (.node ob21 (.node ob8 (.node ob8 (.node ob98 (.node ob175 .nil .nil) (.node ob8 .nil .nil)) (.node ob136 (.node ob7 .nil .nil) (.node ob292 .nil .nil))) (.node ob75 (.node ob7 (.node ob197 .nil .nil) (.node ob273 .nil .nil)) (.node ob7 (.node ob7 .nil .nil) (.node ob7 .nil .nil)))) (.node ob45 (.node (ob65 P) (.node ob108 (.node ob184 .nil .nil) (.node ob262 .nil .nil)) (.node ob8 (.node ob225 .nil .nil) (.node ob8 .nil .nil))) (.node ob8 (.node ob126 (.node ob8 .nil .nil) (.node ob282 .nil .nil)) (.node ob7 (.node ob243 .nil .nil) (.node ob7 .nil .nil))))) (.node (ob29 P) (.node ob40 (.node ob60 (.node ob103 (.node ob7 .nil .nil) (.node ob257 .nil .nil)) (.node ob7 (.node ob220 .nil .nil) (.node ob7 .nil .nil))) (.node ob7 (.node ob121 (.node ob7 .nil .nil) (.node ob7 .nil .nil)) (.node ob162 (.node ob7 .nil .nil) (.node ob313 .nil .nil)))) (.node ob7 (.node ob7 (.node ob112 (.node ob192 .nil .nil) (.node ob267 .nil .nil)) (.node ob152 (.node ob230 .nil .nil) (.node ob305 .nil .nil))) (.node ob90 (.node ob8 (.node ob211 .nil .nil) (.node ob287 .nil .nil)) (.node ob8 (.node ob248 .nil .nil) (.node ob7 .nil .nil)))))))))
def finS (P : Params) (os : OsState) : PySem.W.SharedT := ⟨finT P, 514, Life.mk [] [] [] 0 [] [] Bool.false #[] [] 0 Bool.false Bool.false Bool.false 0 [2000, 10, 10] Bool.false 0 Bool.true [] [] 0 Bool.false, #[], Drawn.mk 0 0 0 0, 1586, os⟩
end
open PySem.W PySem.Calls HandSHeadRun
section
variable (st : SharedT → Thread → Option (SharedT × Thread)) (n0 : Nat) (ann : Option Value)
/-- so many steps -/
def runK : Nat → SharedT → Thread → Option (SharedT × Thread)
  | 0, s, t => some (s, t)
  | m + 1, s, t => match through t with
    | true => none
    | false => match stepOk n0 ann t with
      | false => none
      | true => match st s t with
        | some (s', t') => frS s' fun s' => runK m s' t'
        | none => none
theorem goF_run : ∀ {k : Nat} {M : Nat} {s s' : SharedT} {t t' : Thread}, runK st n0 ann k s t = some (s', t') → goF st n0 ann (k + M) s t = goF st n0 ann M s' t'
  | 0, M, s, s', t, t', h => by
    cases h
    rw [Nat.zero_add]
  | k + 1, M, s, s', t, t', h => by
    rw [show k + 1 + M = (k + M) + 1 by omega]
    unfold runK at h
    conv => lhs; unfold goF
    cases e1 : through t with
    | true => rw [e1] at h; cases h
    | false =>
      rw [e1] at h
      cases e2 : stepOk n0 ann t with
      | false => rw [e2] at h; cases h
      | true =>
        rw [e2] at h
        cases e3 : st s t with
        | none => rw [e3] at h; cases h
        | some r =>
          obtain ⟨s1, t1⟩ := r
          rw [e3] at h
          have h : (frS s1 fun s' => runK st n0 ann k s' t1) = some (s', t') := h
          show (frS s1 fun s' => goF st n0 ann (k + M) s' t1) = _
          rw [frS_eq] at h ⊢
          exact goF_run h
end
/-- the first half, from the boot -/
noncomputable def half1 (st : SharedT → Thread → Option (SharedT × Thread)) (k : Nat) (w : World) (os : OsState) (th : Thread) : Option (Nat × SharedT × Thread) := match putAll (boot_heap w.params).objs.toList .nil 0 with
  | some (t, n) => frNat n fun n0 => (match runK st n0 (bootAnn w) k (bootT w os (t, n0)) th with
    | some (s, t) => some (n0, s, t)
    | none => none)
  | none => none
theorem end_two {st : SharedT → Thread → Option (SharedT × Thread)} {k M n0 : Nat} {p : Program} {w : World} {os : OsState} {m f : SharedT} {th : Thread} (A : half1 st k w os (topStub p) = some (n0, m, th)) (B : goF st n0 (bootAnn w) M m th = some f) : endF st (k + M) p w os = some f := by
  unfold half1 at A
  unfold endF
  cases e : putAll (boot_heap w.params).objs.toList .nil 0 with
  | none => rw [e] at A; cases A
  | some r =>
    obtain ⟨t, n⟩ := r
    rw [e] at A
    have A : (frNat n fun n0 => (match runK st n0 (bootAnn w) k (bootT w os (t, n0)) (topStub p) with
      | some (s, t) => some (n0, s, t)
      | none => none)) = some (n0, m, th) := A
    show (frNat n fun n0 => goF st n0 (bootAnn w) (k + M) (bootT w os (t, n0)) (topStub p)) = some f
    rw [frNat_eq] at A ⊢
    cases e2 : runK st n (bootAnn w) k (bootT w os (t, n)) (topStub p) with
    | none => rw [e2] at A; cases A
    | some r =>
      obtain ⟨s1, t1⟩ := r
      rw [e2] at A
      have A : some (n, s1, t1) = some (n0, m, th) := A
      cases A
      rw [goF_run st _ (bootAnn w) e2]
      exact B
abbrev envM : Env := { scope := Rk.prog.main.scope, locals := mainNs, globals := mainNs, cells := [], code := Value.ref 13, frame := some 14 }
noncomputable def thM : Thread := ⟨denQ tabQ (.body ((behindTheImports Rk.prog).drop 44) envM), .body (behindTheImports Rk.prog) envM, Pos.mk 264 0 281 15, [topFrame (Pos.mk 0 0 0 0)]⟩
noncomputable abbrev stW (w : World) : SharedT → Thread → Option (SharedT × Thread) := stepQ (denQ tabQ) Rk.prog w
theorem segAT (w : World) (os : OsState) : half1 (stW (fixW w true)) 5095 (fixW w true) os (topStub Rk.prog) = some (11, midS (fixW w true).params os, thM) := by
  kernel_rfl
theorem segBT (w : World) (os : OsState) : goF (stW (fixW w true)) 11 (bootAnn (fixW w true)) 10905 (midS (fixW w true).params os) thM = some (finS (fixW w true).params os) := by
  kernel_rfl
theorem endT (w : World) (os : OsState) : endW (fixW w true) os = some (finS (fixW w true).params os) := end_two (k := 5095) (M := 10905) (segAT w os) (segBT w os)
theorem segAF (w : World) (os : OsState) : half1 (stW (fixW w false)) 5095 (fixW w false) os (topStub Rk.prog) = some (11, midS (fixW w false).params os, thM) := by
  kernel_rfl
theorem segBF (w : World) (os : OsState) : goF (stW (fixW w false)) 11 (bootAnn (fixW w false)) 10905 (midS (fixW w false).params os) thM = some (finS (fixW w false).params os) := by
  kernel_rfl
theorem endF (w : World) (os : OsState) : endW (fixW w false) os = some (finS (fixW w false).params os) := end_two (k := 5095) (M := 10905) (segAF w os) (segBF w os)

theorem run1T (w : World) (os : OsState) : (endW (fixW w true) os).map (fun s => (HandSHeadRun.looksF Rk.prog (boot_heap (fixW w true).params) s.abs, HandSHeadRun.seenQ (PySem.W.view Rk.prog [94]) loose (importedModules Rk.prog.main.body) (fun s => xlAt (PySem.W.view Rk.prog [94]) [] s && recOk Rk.toRowW.records s) s.abs)) = some (true, openGood (PySem.W.view Rk.prog [94]) loose) := by
  rw [endT]
  kernel_rfl
theorem run2T (w : World) (os : OsState) : (endW (fixW w true) os).map (fun s => He.obsT fas fns tabs (K_ s)) = some (He.valT fns tabs (fixW w true)) := by
  rw [endT]
  kernel_rfl
theorem run3T (w : World) (os : OsState) : (endW (fixW w true) os).map (fun s => (exA (K_ s) && He.tabsB (HandSHeadRun.getT s) tfs (K_ s))) = some true := by
  rw [endT]
  kernel_rfl
theorem run4T (w : World) (os : OsState) : (endW (fixW w true) os).map (fun s => (exF (K_ s) && exG (K_ s))) = some true := by
  rw [endT]
  kernel_rfl
theorem run1F (w : World) (os : OsState) : (endW (fixW w false) os).map (fun s => (HandSHeadRun.looksF Rk.prog (boot_heap (fixW w false).params) s.abs, HandSHeadRun.seenQ (PySem.W.view Rk.prog [94]) loose (importedModules Rk.prog.main.body) (fun s => xlAt (PySem.W.view Rk.prog [94]) [] s && recOk Rk.toRowW.records s) s.abs)) = some (true, openGood (PySem.W.view Rk.prog [94]) loose) := by
  rw [endF]
  kernel_rfl
theorem run2F (w : World) (os : OsState) : (endW (fixW w false) os).map (fun s => He.obsT fas fns tabs (K_ s)) = some (He.valT fns tabs (fixW w false)) := by
  rw [endF]
  kernel_rfl
theorem run3F (w : World) (os : OsState) : (endW (fixW w false) os).map (fun s => (exA (K_ s) && He.tabsB (HandSHeadRun.getT s) tfs (K_ s))) = some true := by
  rw [endF]
  kernel_rfl
theorem run4F (w : World) (os : OsState) : (endW (fixW w false) os).map (fun s => (exF (K_ s) && exG (K_ s))) = some true := by
  rw [endF]
  kernel_rfl
theorem comb {α β γ δ : Type} {o : Option α} {f : α → β} {g : α → γ} {x y1 y2 z : α → Bool} {b : β} {c : γ} {d : α → δ} {dv : δ} (h1 : o.map (fun s => (f s, g s)) = some (b, c)) (h2 : o.map (fun s => d s) = some dv) (h3 : o.map (fun s => (x s && z s)) = some true) (h4 : o.map (fun s => (y1 s && y2 s)) = some true) :
    o.map (fun s => (f s, g s, (d s, (x s && (y1 s && y2 s)) && z s))) = some (b, c, (dv, true)) := by
  cases o with
  | none => cases h3
  | some s =>
    have e1 : (f s, g s) = (b, c) := Option.some.inj h1
    have e2 : d s = dv := Option.some.inj h2
    have e3 : (x s && z s) = true := Option.some.inj h3
    have e4 : (y1 s && y2 s) = true := Option.some.inj h4
    rw [Bool.and_eq_true] at e3 e4
    obtain ⟨e5, e6⟩ := e3
    obtain ⟨e7, e8⟩ := e4
    cases e1
    subst e2
    show some (f s, g s, (d s, (x s && (y1 s && y2 s)) && z s)) = _
    rw [e5, e6, e7, e8]
    rfl
theorem runk (w : World) : HandSHeadRun.RunEq Rk (PySem.W.view Rk.prog [94]) hkk obk 16000 loose w := by
  have h : ∀ b, HandSHeadRun.RunEq Rk (PySem.W.view Rk.prog [94]) hkk obk 16000 loose (fixW w b) := fun b => by
    cases b
    · exact fun os => comb (run1F w os) (run2F w os) (run3F w os) (run4F w os)
    · exact fun os => comb (run1T w os) (run2T w os) (run3T w os) (run4T w os)
  have h2 := h (w.params.followText "special-get-raises")
  rw [fixW_eq] at h2
  exact h2
end C38

set_option maxHeartbeats 1000000
namespace C38
open PySem PySem.Spec PyProof.Rows L2
def top (i : Nat) : Stmt := PySem.Challenge.pw_codewalk_k38_ways_of_jumps.main.body.getD i (.Pass ⟨0, 0, 0, 0⟩)
abbrev FnP (K : PySem.W.Frag) (x q : Str) (st : Stmt) (f : Addr) (fd : FuncData) : Prop := FunD K x q (defArgs st) (defBody st) (defScope st) [] [] f fd
/-- a def of the program as its callers see it -/
structure Cal (P : Program) (w : World) (K : PySem.W.Frag) (mg : Str → Option Value) (base : Heap) (k : Nat) (x : Str) (ps : List Str) (sp : Sp) : Prop where
  ex : ∃ f fd, FnOk P w K mg base CX0 k f fd ps sp ∧ mg x = some (.ref f) ∧ PySem.W.keepIn K (.ref f) = true ∧ Binds K fd ps []
theorem pe_cal {X : Cx} {k : Nat} {x : Str} {ps : List Str} {sp : Sp} {e : Expr} {es : List Expr} {t : TA} {p pos : Pos} (C : Cal X.prog X.w X.K X.mg X.base k x ps sp) (hr : Room k X.A) (hg : Gl X x) (ha : PA X (e :: es) t)
    (hdb : (x == ("__debug__" : Str)) = false := by decide) (he : starEach (e :: es) X.env = (false, eval e X.env) :: starEach es X.env := by rfl) (hpl : (backTo pos (starEach es X.env)).any (·.1) = false := by rfl) :
    PE X (.Call (.Name x p) (e :: es) [] pos) (tCall sp [] E0 t) := by
  obtain ⟨f, fd, F, m, kp, b⟩ := C.ex
  exact pe_call F hr hg m kp b .nil pass0 ha hdb he hpl
theorem pe_gi {X : Cx} {x : Str} {n : Int} {pos : Pos} (h : ∃ t, X.mg x = some (.int n t)) (hg : Gl X x := by rfl) (hdb : (x == ("__debug__" : Str)) = false := by decide) : PE X (.Name x pos) (tC (.int n)) := by
  obtain ⟨t, h⟩ := h
  exact pe_glob hg h ⟨t, rfl⟩ hdb
/-! ### own rules in a form that simp can reckon: each reading names what it finds in the heap by an equation -/
section
variable {X : Cx}
theorem OpR.imp' {g : Value → Value → Sem Value} {r r' : R2} (h : OpR X g r) (i : ∀ x y H Q, r' x y H Q → r x y H Q) : OpR X g r' := fun pins s σ H x y v u Q I rx ry q => h pins s σ H x y v u Q I rx ry (i _ _ _ _ q)
theorem IxR.imp' {r r' : R2} (h : IxR X r) (i : ∀ x y H Q, r' x y H Q → r x y H Q) : IxR X r' := fun e1 e2 pins s σ H x y v u Q I rx ry q => h e1 e2 pins s σ H x y v u Q I rx ry (i _ _ _ _ q)
theorem CallR.imp' {g : Value} {r r' : List V → Hp → VK → Prop} (h : CallR X g r) (i : ∀ xs H Q, r' xs H Q → r xs H Q) : CallR X g r' := fun pins s σ H xs us Q I rx q => h pins s σ H xs us Q I rx (i _ _ _ q)
theorem SlR.imp' {r r' : V → Option Int → Option Int → Hp → VK → Prop} (h : L2.SlR X r) (i : ∀ x a b H Q, r' x a b H Q → r x a b H Q) : L2.SlR X r' := fun pins s σ H x v vl vu lo hi sl Q I rx hs pl pu q => h pins s σ H x v vl vu lo hi sl Q I rx hs pl pu (i _ _ _ _ _ q)
theorem PE.weak {e : Expr} {t t' : TE} (h : PE X e t) (i : ∀ σ H Q, t' σ H Q → t σ H Q) : PE X e t' := ⟨fun pins s σ H Q I q => h.run pins s σ H Q I (i _ _ _ q)⟩
/-- the monotone closure of a reading -/
def mcl (te : TE) : TE := fun σ H Q => ∃ Q0 : VK, te σ H Q0 ∧ ∀ v H', Q0 v H' → Q v H'
theorem PE.mcl {e : Expr} {te : TE} (h : PE X e te) : PE X e (mcl te) := ⟨fun pins s σ H Q I q => by
  obtain ⟨Q0, q0, m⟩ := q
  exact thn (h.run pins s σ H Q0 I q0) fun u s1 ⟨v, H1, I1, r1, q1⟩ => ⟨v, H1, I1, r1, m _ _ q1⟩⟩
theorem pip_of {op : Operator} {r : R2} (h : OpR X (inplaceOp op) r) : PIp X op r := fun pins s σ H x y v u Q I rx ry q => h pins s σ H x y v u Q I rx ry q
/-- what a list or a tuple holds -/
def sq : Option HO → Option (List V)
  | some (.lst xs) => some xs
  | some (.tup xs) => some xs
  | _ => none
@[simp] theorem sq_lst {xs : List V} : sq (some (.lst xs)) = some xs := rfl
@[simp] theorem sq_tup {xs : List V} : sq (some (.tup xs)) = some xs := rfl
theorem sq_cases {o : Option HO} {xs : List V} (h : sq o = some xs) : o = some (.lst xs) ∨ o = some (.tup xs) := by
  unfold sq at h
  split at h
  · exact .inl (by rw [Option.some.inj h])
  · exact .inr (by rw [Option.some.inj h])
  · cases h
def rIxd : R2 := fun x y H Q => ∃ p i xs v, x = .ref p ∧ y = .int i ∧ sq (H p) = some xs ∧ atI xs i = some v ∧ Q v H
theorem ix_d : IxR X rIxd := IxR.imp' (IxR.or (ix_list (X := X)) (ix_tup (X := X))) fun x y H Q ⟨p, i, xs, v, e1, e2, h, ha, q⟩ => by
  rcases sq_cases h with h | h
  · exact .inl ⟨p, xs, i, v, e1, e2, SqL.of h, ha, q⟩
  · exact .inr ⟨p, xs, i, v, e1, e2, SqT.of h, ha, q⟩
def rLend : List V → Hp → VK → Prop := fun vs H Q => ∃ p xs, vs = [.ref p] ∧ sq (H p) = some xs ∧ Q (.int xs.length) H
theorem call_len_d : CallR X (.builtin "len") rLend := CallR.imp' (call_len_seq (X := X)) fun vs H Q ⟨p, xs, e, h, q⟩ => by
  rcases sq_cases h with h | h
  · exact ⟨p, xs, e, .inl (SqL.of h), q⟩
  · exact ⟨p, xs, e, .inr (SqT.of h), q⟩
/-- tuple(list), list(list), list(tuple) -/
def rTupd : List V → Hp → VK → Prop := fun vs H Q => ∃ p xs, vs = [.ref p] ∧ H p = some (.lst xs) ∧ ∀ l, H l = none → Q (.ref l) (upd H l (.tup xs))
theorem call_tuple_d : CallR X (.type "tuple") rTupd := CallR.imp' (call_tuple_of (X := X)) fun vs H Q ⟨p, xs, e, h, q⟩ => ⟨p, xs, e, .inl ⟨SqL.of h, q⟩⟩
def rListd : List V → Hp → VK → Prop := fun vs H Q => ∃ p xs, vs = [.ref p] ∧ sq (H p) = some xs ∧ ∀ l, H l = none → Q (.ref l) (upd H l (.lst xs))
theorem call_list_d : CallR X (.type "list") rListd := CallR.imp' (call_list_of (X := X)) fun vs H Q ⟨p, xs, e, h, q⟩ => by
  rcases sq_cases h with h | h
  · exact ⟨p, xs, e, .inl (SqL.of h), q⟩
  · exact ⟨p, xs, e, .inr (SqT.of h), q⟩
def rSld : V → Option Int → Option Int → Hp → VK → Prop := fun x lo hi H Q => ∃ a xs, x = .ref a ∧ H a = some (.lst xs) ∧ ∀ p, H p = none → Q (.ref p) (upd H p (.lst (cutV xs lo hi)))
theorem sl_d : L2.SlR X rSld := SlR.imp' (sl_list (X := X)) fun x lo hi H Q ⟨a, xs, e, h, q⟩ => ⟨a, xs, e, SqL.of h, q⟩
def tRevD (te : TE) : TE := fun σ H Q => te σ H fun x H1 => ∃ a xs, x = .ref a ∧ H1 a = some (.lst xs) ∧ ∀ p, H1 p = none → Q (.ref p) (upd H1 p (.lst xs.reverse))
theorem pe_revD {e : Expr} {te : TE} {k : Nat} {p1 p2 p3 pos : Pos} (he : PE X e te) : PE X (.Subscript e (.Slice none none (some (.UnaryOp .USub (.Constant (.int 1) k p1) p2)) p3) pos) (tRevD te) :=
  PE.weak (pe_revL (PE.mcl he)) fun σ H Q q => ⟨_, q, fun v H' ⟨a, xs, e, h, k⟩ => ⟨a, xs, e, SqL.of h, k⟩⟩
theorem PG.weak {tg : Expr} {t t' : TG} (h : PG X tg t) (i : ∀ v σ H Q, t' v σ H Q → t v σ H Q) : PG X tg t' := ⟨fun pins s σ H v u Q I r q => h.run pins s σ H v u Q I r (i _ _ _ _ q)⟩
/-- a, b, .. = a tuple that stands in the heap -/
def gTupD (n : Nat) (t : TGs) : TG := fun v σ H Q => ∃ a xs, v = .ref a ∧ H a = some (.tup xs) ∧ xs.length = n ∧ t xs σ H Q
theorem pg_tupD {es : List Expr} {k : Nat} {t : TGs} {n : Nat} {pos : Pos} (hc : X.calm = true) (h : PGs X es t)
    (hn : (assignEach es X.env).length = n := by rfl) (hst : (assignEach es X.env).findIdx? (·.1) = none := by rfl) : PG X (.Tuple es k pos) (gTupD n t) :=
  PG.weak (pg_tup hc h hn hst) fun v σ H Q ⟨a, xs, e, h, l, q⟩ => ⟨a, xs, e, SqT.of h, l, q⟩
def isLst : Option HO → Bool
  | some (.lst _) => true
  | _ => false
@[simp] theorem isLst_lst {xs : List V} : isLst (some (.lst xs)) = true := rfl
theorem tyV_lst {K : PySem.W.Frag} {H : Hp} {a : Addr} (h : isLst (H a) = true) : tyV K "list" (.ref a) H = True := by
  refine eq_true ?_
  cases e : H a with
  | none =>
    rw [e] at h
    cases h
  | some o =>
    rw [e] at h
    cases o with
    | lst xs => exact .inl ⟨rfl, xs, SqL.of e⟩
    | _ => cases h
end
/-! ### statements and expressions, one step each -/
section
variable {X : Cx} {σ : L2.St} {H : Hp} {Q : VK} {D : Ends} {QT : Bool → Hp → Prop} {QA : List V → Hp → Prop} {QO : Option Int → Hp → Prop}
theorem r_seq {t u : TS} : tSeq t u D σ H = t { D with nx := u D } σ H := rfl
theorem r_next : tNext D σ H = D.nx σ H := rfl
theorem r_brk : tBreak D σ H = D.bk σ H := rfl
theorem r_cont : tCont D σ H = D.ct σ H := rfl
theorem r_asg {te : TE} {g : TG} : tAsg te g D σ H = te σ H (fun x H1 => g x σ H1 D.nx) := rfl
theorem r_name {i : Nat} {v : V} {Q : L2.St → Hp → Prop} : gName i v σ H Q = Q (σ.set i (some v)) H := rfl
theorem r_ret {te : TE} : tRet te D σ H = te σ H D.rt := rfl
theorem r_retN : tRetN D σ H = D.rt .non H := rfl
theorem r_drop {te : TE} : tDrop te D σ H = te σ H (fun _ H1 => D.nx σ H1) := rfl
theorem r_ifs {c : TT} {t u : TS} : tIfS c t u D σ H = c σ H (fun b H1 => if b = true then t D σ H1 else u D σ H1) := rfl
theorem r_never : tNever D σ H = False := rfl
theorem r_var {i : Nat} : tVar i σ H Q = ∃ v, σ[i]? = some (some v) ∧ Q v H := rfl
theorem r_c {v : V} : tC v σ H Q = Q v H := rfl
theorem r_op {r : R2} {ta tb : TE} : tOp r ta tb σ H Q = ta σ H (fun x H1 => tb σ H1 fun y H2 => r x y H2 Q) := rfl
theorem r_un {r : V → Hp → VK → Prop} {ta : TE} : tUn r ta σ H Q = ta σ H (fun x H1 => r x H1 Q) := rfl
theorem r_if {c : TT} {ta tb : TE} : tIf c ta tb σ H Q = c σ H (fun b H1 => if b = true then ta σ H1 Q else tb σ H1 Q) := rfl
theorem r_tst {t : TE} : tTest t σ H QT = t σ H (fun x H' => ∃ k, x = .bl k ∧ QT k H') := rfl
theorem r_b {t : TE} : tB t σ H QT = t σ H (fun x H' => ∃ k, x = .bl k ∧ QT k H') := rfl
theorem r_not {t : TT} : tNot t σ H QT = t σ H (fun c H1 => QT (!c) H1) := rfl
theorem r_and {t u : TT} : tAnd t u σ H QT = t σ H (fun c H1 => if c = true then u σ H1 QT else QT false H1) := rfl
theorem r_or {t u : TT} : tOr t u σ H QT = t σ H (fun c H1 => if c = true then QT true H1 else u σ H1 QT) := rfl
theorem r_andV {ta tb : TE} : tAndV ta tb σ H Q = ta σ H (fun x H1 => ∃ c, x = .bl c ∧ if c = true then tb σ H1 Q else Q (.bl false) H1) := rfl
theorem r_orV {ta tb : TE} : tOrV ta tb σ H Q = ta σ H (fun x H1 => ∃ c, x = .bl c ∧ if c = true then Q (.bl true) H1 else tb σ H1 Q) := rfl
theorem r_notV {ta : TE} : tNotV ta σ H Q = ta σ H (fun x H1 => ∃ c, x = .bl c ∧ Q (.bl (!c)) H1) := rfl
theorem r_nil : tNil σ H QA = QA [] H := rfl
theorem r_cons {ta : TE} {tr : TA} : tCons ta tr σ H QA = ta σ H (fun x H1 => tr σ H1 fun xs H2 => QA (x :: xs) H2) := rfl
theorem r_tup {t : TA} : tTup t σ H Q = t σ H (fun xs H1 => xs.length ≤ sizeLine ∧ ∀ p, H1 p = none → Q (.ref p) (upd H1 p (.tup xs))) := (rfl)
theorem r_lst {t : TA} : tLst t σ H Q = t σ H (fun xs H1 => xs.length ≤ sizeLine ∧ ∀ p, H1 p = none → Q (.ref p) (upd H1 p (.lst xs))) := (rfl)
theorem r_cb {r : List V → Hp → VK → Prop} {t : TA} : tCB r t σ H Q = t σ H (fun vs H1 => r vs H1 Q) := rfl
theorem r_call {sp : Sp} {dvs : List V} {E : XK} {t : TA} : tCall sp dvs E t σ H Q = t σ H (fun vs H1 => sp (vs ++ dvs) H1 Q E) := rfl
theorem r_bm {K : PySem.W.Frag} {T : String} {r : V → List V → Hp → VK → Prop} {to : TE} {t : TA} : tBM K T r to t σ H Q = to σ H (fun x H1 => tyV K T x H1 ∧ t σ H1 fun xs H2 => r x xs H2 Q) := rfl
theorem r_bm0 {K : PySem.W.Frag} {T : String} {r : V → List V → Hp → VK → Prop} {to : TE} : tBM0 K T r to σ H Q = to σ H (fun x H1 => tyV K T x H1 ∧ r x [] H1 Q) := rfl
theorem r_sl {r : V → Option Int → Option Int → Hp → VK → Prop} {te : TE} {tl th : TO} : L2.tSl r te tl th σ H Q = te σ H (fun x H1 => tl σ H1 fun l H2 => th σ H2 fun u H3 => r x l u H3 Q) := rfl
theorem r_nopart : tNoPart σ H QO = QO none H := rfl
theorem r_part {te : TE} : tPart te σ H QO = te σ H (fun x H1 => ∃ i, x = .int i ∧ QO (some i) H1) := rfl
theorem r_rev {te : TE} : tRevD te σ H Q = te σ H (fun x H1 => ∃ a xs, x = .ref a ∧ H1 a = some (.lst xs) ∧ ∀ p, H1 p = none → Q (.ref p) (upd H1 p (.lst xs.reverse))) := rfl
theorem r_gtup {K : PySem.W.Frag} {n : Nat} {t : TGs} {v : V} {Q : L2.St → Hp → Prop} : gTup K n t v σ H Q = ∃ a xs, v = .ref a ∧ SqT K H a xs ∧ xs.length = n ∧ t xs σ H Q := rfl
theorem r_gtupD {n : Nat} {t : TGs} {v : V} {Q : L2.St → Hp → Prop} : gTupD n t v σ H Q = ∃ a xs, v = .ref a ∧ H a = some (.tup xs) ∧ xs.length = n ∧ t xs σ H Q := rfl
theorem r_gnil {vs : List V} {Q : L2.St → Hp → Prop} : gNil vs σ H Q = (vs = [] ∧ Q σ H) := rfl
theorem r_gcons {t : TG} {u : TGs} {vs : List V} {Q : L2.St → Hp → Prop} : gCons t u vs σ H Q = ∃ v r, vs = v :: r ∧ t v σ H (fun σ' H' => u r σ' H' Q) := rfl
theorem r_gsub {to ti : TE} {t : TSet} {v : V} {Q : L2.St → Hp → Prop} : gSub to ti t v σ H Q = to σ H (fun o H1 => ti σ H1 fun i H2 => t o i v H2 fun H3 => Q σ H3) := rfl
theorem r_par {i j : Nat} {ta : TA} : tPar i j ta D σ H = ta σ H (fun vs H1 => ∃ v w, vs = [v, w] ∧ D.nx ((σ.set i (some v)).set j (some w)) H1) := rfl
theorem r_aug {i : Nat} {te : TE} {ti : TIp} : tAug i te ti D σ H = ∃ x, σ[i]? = some (some x) ∧ te σ H (fun y H1 => ti x y H1 fun z H2 => D.nx (σ.set i (some z)) H2) := rfl
theorem r_chain {r r' : R2} {ta tb tc : TE} : tChain r r' ta tb tc σ H Q = ta σ H (fun x H1 => tb σ H1 fun y H2 => r x y H2 fun z H3 => ∃ k, z = .bl k ∧ (if k = true then tc σ H3 fun w' H4 => r' y w' H4 Q else Q (.bl false) H3)) := rfl
theorem r_I0 {g : Int → Int → V} {x y : V} : rI0 g x y H Q = ∃ i j, x = .int i ∧ y = .int j ∧ Q (g i j) H := rfl
theorem r_I {C : Int → Int → Prop} {g : Int → Int → V} {x y : V} : rI C g x y H Q = ∃ i j, x = .int i ∧ y = .int j ∧ C i j ∧ Q (g i j) H := rfl
theorem r_ipI {f : Int → Int → Int} {x y : V} : ipI f x y H Q = ∃ i j, x = .int i ∧ y = .int j ∧ Q (.int (f i j)) H := rfl
theorem r_U {g : Int → V} {x : V} : rU g x H Q = ∃ i, x = .int i ∧ Q (g i) H := rfl
theorem r_ixd {x y : V} : rIxd x y H Q = ∃ p i xs v, x = .ref p ∧ y = .int i ∧ sq (H p) = some xs ∧ atI xs i = some v ∧ Q v H := rfl
theorem r_lend {vs : List V} : rLend vs H Q = ∃ p xs, vs = [.ref p] ∧ sq (H p) = some xs ∧ Q (.int xs.length) H := rfl
theorem r_tupd {vs : List V} : rTupd vs H Q = ∃ p xs, vs = [.ref p] ∧ H p = some (.lst xs) ∧ ∀ l, H l = none → Q (.ref l) (upd H l (.tup xs)) := rfl
theorem r_listd {vs : List V} : rListd vs H Q = ∃ p xs, vs = [.ref p] ∧ sq (H p) = some xs ∧ ∀ l, H l = none → Q (.ref l) (upd H l (.lst xs)) := rfl
theorem r_sld {x : V} {lo hi : Option Int} : rSld x lo hi H Q = ∃ a xs, x = .ref a ∧ H a = some (.lst xs) ∧ ∀ p, H p = none → Q (.ref p) (upd H p (.lst (cutV xs lo hi))) := rfl
theorem r_app {x : V} {vs : List V} : rAppend x vs H Q = ∃ l xs y, x = .ref l ∧ vs = [y] ∧ H l = some (.lst xs) ∧ xs.length < sizeLine ∧ Q .non (upd H l (.lst (xs ++ [y]))) := rfl
theorem r_ext {x : V} {vs : List V} : rExtend x vs H Q = ∃ l b xs zs, x = .ref l ∧ vs = [.ref b] ∧ H l = some (.lst xs) ∧ H b = some (.lst zs) ∧ xs.length + zs.length ≤ sizeLine ∧ Q .non (upd H l (.lst (xs ++ zs))) := rfl
theorem r_reverse {x : V} {vs : List V} : rReverse x vs H Q = ∃ l xs, x = .ref l ∧ vs = [] ∧ H l = some (.lst xs) ∧ Q .non (upd H l (.lst xs.reverse)) := rfl
theorem r_setl {o i v : V} {Q : Hp → Prop} : rSetL o i v H Q = ∃ p xs k j, o = .ref p ∧ i = .int k ∧ H p = some (.lst xs) ∧ ixN xs.length k = some j ∧ Q (upd H p (.lst (xs.set j v))) := rfl
theorem r_cat {x y : V} : rCat x y H Q = ∃ l b xs zs, x = .ref l ∧ y = .ref b ∧ H l = some (.lst xs) ∧ H b = some (.lst zs) ∧ xs.length + zs.length ≤ sizeLine ∧ ∀ p, H p = none → Q (.ref p) (upd H p (.lst (xs ++ zs))) := rfl
theorem r_int1 {xs : List V} : (fun xs H Q => (∃ i, xs = [V.int i] ∧ Q (V.int i) H) ∨ ∃ k, xs = [V.bl k] ∧ Q (V.int (if k = true then 1 else 0)) H : List V → Hp → VK → Prop) xs H Q = ((∃ i, xs = [V.int i] ∧ Q (V.int i) H) ∨ ∃ k, xs = [V.bl k] ∧ Q (V.int (if k = true then 1 else 0)) H) := rfl
theorem r_eqS {x y : V} : rEq x y H Q = (scal x y = true ∧ Q (.bl (decide (x = y))) H) := rfl
theorem r_neS {x y : V} : rNe x y H Q = (scal x y = true ∧ Q (.bl (!decide (x = y))) H) := rfl
theorem scal_ii {i j : Int} : scal (.int i) (.int j) = true := rfl
theorem scal_bb {i j : Bool} : scal (.bl i) (.bl j) = true := rfl
theorem scal_ss {i j : Str} : scal (.str i) (.str j) = true := rfl
theorem at0 {x : V} {xs : List V} : atI (x :: xs) 0 = some x := by
  unfold atI ixN
  rw [if_pos (by decide), if_pos (by simp)]
  rfl
theorem at1 {x y : V} {xs : List V} : atI (x :: y :: xs) 1 = some y := by
  unfold atI ixN
  rw [if_pos (by decide), if_pos (by rw [List.length_cons, List.length_cons]; omega)]
  rfl
theorem at2 {x y z : V} {xs : List V} : atI (x :: y :: z :: xs) 2 = some z := by
  unfold atI ixN
  rw [if_pos (by decide), if_pos (by rw [List.length_cons, List.length_cons, List.length_cons]; omega)]
  rfl
theorem atn {xs : List V} {i : Nat} {v : V} (h : xs[i]? = some v) : atI xs (i : Int) = some v := by
  have hi : i < xs.length := (List.getElem?_eq_some_iff.mp h).1
  unfold atI ixN
  rw [if_pos (Int.natCast_nonneg i), if_pos (by omega)]
  simpa using h
theorem ixn {n i : Nat} (h : i < n) : ixN n (i : Int) = some i := by
  unfold ixN
  rw [if_pos (Int.natCast_nonneg i), if_pos (by omega)]
  simp
theorem ix0 {n : Nat} : ixN (n + 1) 0 = some 0 := by
  unfold ixN
  rw [if_pos (by decide), if_pos (by omega)]
  rfl
theorem ix1 {n : Nat} : ixN (n + 1 + 1) 1 = some 1 := by
  unfold ixN
  rw [if_pos (by decide), if_pos (by omega)]
  rfl
theorem ix2 {n : Nat} : ixN (n + 1 + 1 + 1) 2 = some 2 := by
  unfold ixN
  rw [if_pos (by decide), if_pos (by omega)]
  rfl
theorem cm_l {i j : Int} (h : -(2 ^ 64) < i ∧ i < 2 ^ 64) : CMul i j = True := eq_true (.inl h)
theorem cm_r {i j : Int} (h : -(2 ^ 64) < j ∧ j < 2 ^ 64) : CMul i j = True := eq_true (.inr h)
theorem cm_mod {t j : Int} : CMul (t % 2147483647) j = True := eq_true (.inl ⟨by omega, by omega⟩)
theorem cdw {i j : Int} (h : 0 < j ∧ j < 2 ^ 200) : CDivW i j = True := eq_true (wide_div (b := 200) h.1 (by omega) (by decide) (by decide))
theorem cdw1009 {i : Int} : CDivW i 1009 = True := cdw (by decide)
theorem cdw2003 {i : Int} : CDivW i 2003 = True := cdw (by decide)
theorem cdw7 {i : Int} : CDivW i 7 = True := cdw (by decide)
theorem cdw64 {i : Int} : CDivW i 64 = True := cdw (by decide)
theorem cdw2 {i : Int} : CDivW i 2 = True := cdw (by decide)
theorem cm104729 {i : Int} : CMul 104729 i = True := cm_l (by decide)
theorem cm2 {i : Int} : CMul 2 i = True := cm_l (by decide)
theorem cm3 {i : Int} : CMul 3 i = True := cm_l (by decide)
theorem sz_lit {xs : List V} (h : xs.length ≤ 1000) : (xs.length ≤ sizeLine) = True := eq_true (Nat.le_trans h (by decide))
/-- while by a word of the slots and the heap, a test whose answer is known -/
theorem while_d {c : TT} {tb : TS} (Pv : L2.St → Hp → Prop) (m : L2.St → Hp → Nat) (h0 : Pv σ H)
    (hs : ∀ σ H, Pv σ H → ∃ b, (∀ Q : Bool → Hp → Prop, Q b H → c σ H Q) ∧ (b = true → tb { D with nx := fun σ' H' => Pv σ' H' ∧ m σ' H' < m σ H, ct := fun σ' H' => Pv σ' H' ∧ m σ' H' < m σ H, bk := D.nx } σ H) ∧ (b = false → D.nx σ H)) : tWhile c tb D σ H := by
  refine ⟨fun k σ H => k = m σ H ∧ Pv σ H, ⟨_, rfl, h0⟩, ?_⟩
  rintro k σ H ⟨rfl, p⟩
  obtain ⟨b, hc, h1, h2⟩ := hs σ H p
  refine hc _ ?_
  cases b with
  | true => exact ⟨_, fun σ' H' ⟨p', l⟩ => ⟨_, l, rfl, p'⟩, h1 rfl⟩
  | false => exact h2 rfl
end
/-! ### heaps -/
theorem upd_at {H : Hp} {a b : Addr} {o : HO} : L2.upd H a o b = if b = a then some o else H b := rfl
theorem une {a b : Addr} (h : b ≠ a) : ∀ (H : Hp) (o : HO), L2.upd H a o b = H b := fun H o => upd_ne h
theorem ne_new {H : Hp} {a p : Addr} {o : HO} (h : H a = some o) (hp : H p = none) : a ≠ p := ne_of_none h hp
theorem new_ne {H : Hp} {a p : Addr} {o : HO} (h : H a = some o) (hp : H p = none) : p ≠ a := (ne_of_none h hp).symm
theorem Same.new' {H H1 : Hp} {p : Addr} {o : HO} (h : Same H H1) (hp : H1 p = none) : Same H (L2.upd H1 p o) := fun b u e => by
  have e1 := h b u e
  rw [upd_ne (ne_of_none e1 hp)]
  exact e1
/-! ### loops -/
/-- what a loop over J asks -/
def LoopR (J : It) (g : TG) (tb : TS) (D : Ends) (σ : L2.St) (H1 : Hp) : Prop := ∃ W : Nat → Nat → L2.St → Hp → Prop, (∃ m, W 0 m σ H1) ∧ ∀ i m σ H, W i m σ H →
  (J.stop i H ∧ D.nx σ H) ∨ (J.go i H ∧ ∃ N : L2.St → Hp → Prop, (∀ σ' H', N σ' H' → ∃ m', m' < m ∧ W (i + 1) m' σ' H') ∧ ∀ x H', J.yld i H x H' → g x σ H' fun σ2 H2 => tb { D with nx := N, ct := N, bk := D.nx } σ2 H2)
section
variable {K : PySem.W.Frag} {σ : L2.St} {H : Hp} {D : Ends} {g : TG} {tb : TS}
theorem r_for1 {ta : TA} : tFor (iRng1 ta) g tb D σ H = ta σ H (fun vs H1 => ∃ j : Int, vs = [.int j] ∧ -(2 ^ 62) ≤ j ∧ j < 2 ^ 62 ∧ LoopR (Itr 0 j.toNat) g tb D σ H1) := rfl
theorem r_forL {tl : TE} : tFor (iList K tl) g tb D σ H = tl σ H (fun x H1 => ∃ a, x = .ref a ∧ (∃ xs, SqL K H1 a xs) ∧ LoopR (Itl K a) g tb D σ H1) := rfl
theorem r_forT {tl : TE} : tFor (iTup K tl) g tb D σ H = tl σ H (fun x H1 => ∃ a, x = .ref a ∧ (∃ xs, SqT K H1 a xs) ∧ LoopR (Itt K a) g tb D σ H1) := rfl
theorem lp_rng {n : Nat} (Pv : Nat → L2.St → Hp → Prop) (h0 : Pv 0 σ H)
    (hs : ∀ (i : Nat) σ H, i < n → Pv i σ H → g (.int (i : Int)) σ H fun σ2 H2 => tb { D with nx := Pv (i + 1), ct := Pv (i + 1), bk := D.nx } σ2 H2) (hd : ∀ σ H, Pv n σ H → D.nx σ H) : LoopR (Itr 0 n) g tb D σ H :=
  for_range Pv h0 (fun i σ H hi p => by
    have q := hs i σ H hi p
    rw [Int.zero_add]
    exact q) hd
theorem lp_list {a : Addr} {xs : List V} (Pv : Nat → L2.St → Hp → Prop) (h0 : Pv 0 σ H) (hl : ∀ i σ H, i ≤ xs.length → Pv i σ H → SqL K H a xs)
    (hs : ∀ i x σ H, xs[i]? = some x → Pv i σ H → g x σ H fun σ2 H2 => tb { D with nx := Pv (i + 1), ct := Pv (i + 1), bk := D.nx } σ2 H2) (hd : ∀ σ H, Pv xs.length σ H → D.nx σ H) : LoopR (Itl K a) g tb D σ H := for_list Pv h0 hl hs hd
theorem lp_tup {a : Addr} {xs : List V} (Pv : Nat → L2.St → Hp → Prop) (h0 : Pv 0 σ H) (hl : ∀ i σ H, i ≤ xs.length → Pv i σ H → SqT K H a xs)
    (hs : ∀ i x σ H, xs[i]? = some x → Pv i σ H → g x σ H fun σ2 H2 => tb { D with nx := Pv (i + 1), ct := Pv (i + 1), bk := D.nx } σ2 H2) (hd : ∀ σ H, Pv xs.length σ H → D.nx σ H) : LoopR (Itt K a) g tb D σ H := for_tup Pv h0 hl hs hd
/-- an empty list, an empty tuple -/
theorem lp_nil {a : Addr} (hl : SqL K H a []) (hd : D.nx σ H) : LoopR (Itl K a) g tb D σ H := for_list (xs := []) (fun i s h => s = σ ∧ h = H) ⟨rfl, rfl⟩ (fun i s h _ ⟨_, e⟩ => by rw [e]; exact hl) (fun i x s h e => by cases e) fun s h ⟨e1, e2⟩ => by rw [e1, e2]; exact hd
theorem lp_nilT {a : Addr} (hl : SqT K H a []) (hd : D.nx σ H) : LoopR (Itt K a) g tb D σ H := for_tup (xs := []) (fun i s h => s = σ ∧ h = H) ⟨rfl, rfl⟩ (fun i s h _ ⟨_, e⟩ => by rw [e]; exact hl) (fun i x s h e => by cases e) fun s h ⟨e1, e2⟩ => by rw [e1, e2]; exact hd
/-- a list comprehension over J: what is kept from turn to turn -/
def CompR (J : It) (g : TG) (tt : TT) (te : TE) (vs : List Nat) (σ : L2.St) (Q : VK) (D : Addr) (H0 : Hp) : Prop := ∃ W : Nat → Nat → Hp → Prop, (∃ m, W 0 m H0) ∧ ∀ i m H, W i m H →
  (J.stop i H ∧ Q (.ref D) H) ∨ (J.go i H ∧ ∃ Nx : Hp → Prop, (∀ H', Nx H' → ∃ m', m' < m ∧ W (i + 1) m' H') ∧ ∀ x H', J.yld i H x H' → g x (wipe σ vs) H' fun σ2 H2 => wipe σ2 vs = wipe σ vs ∧ tt σ2 H2 fun b H3 =>
    if b = true then te σ2 H3 fun y H4 => ∃ acc, H4 D = some (.lst acc) ∧ acc.length < sizeLine ∧ Nx (upd H4 D (.lst (acc ++ [y]))) else Nx H3)
theorem r_lcL {tl : TE} {tt : TT} {te : TE} {vs : List Nat} {Q : VK} : tLc (iList K tl) g tt te vs σ H Q = tl σ H (fun x H1 => ∃ a, x = .ref a ∧ (∃ xs, SqL K H1 a xs) ∧ ∀ D, H1 D = none → CompR (Itl K a) g tt te vs σ Q D (upd H1 D (.lst []))) := rfl
theorem r_lc1 {ta : TA} {tt : TT} {te : TE} {vs : List Nat} {Q : VK} : tLc (iRng1 ta) g tt te vs σ H Q = ta σ H (fun us H1 => ∃ j : Int, us = [.int j] ∧ -(2 ^ 62) ≤ j ∧ j < 2 ^ 62 ∧ ∀ D, H1 D = none → CompR (Itr 0 j.toNat) g tt te vs σ Q D (upd H1 D (.lst []))) := rfl
theorem cp_list {a : Addr} {xs : List V} {tt : TT} {te : TE} {vs : List Nat} {A : Addr} {H1 : Hp} {Q : VK} (Pv : Nat → Hp → Prop) (h0 : Pv 0 (upd H1 A (.lst []))) (hl : ∀ i H, i ≤ xs.length → Pv i H → SqL K H a xs)
    (hs : ∀ i x H, xs[i]? = some x → Pv i H → g x (wipe σ vs) H fun σ2 H2 => wipe σ2 vs = wipe σ vs ∧ tt σ2 H2 fun b H3 =>
      if b = true then te σ2 H3 fun y H4 => ∃ acc, H4 A = some (.lst acc) ∧ acc.length < sizeLine ∧ Pv (i + 1) (upd H4 A (.lst (acc ++ [y]))) else Pv (i + 1) H3) (hd : ∀ H, Pv xs.length H → Q (.ref A) H) :
    CompR (Itl K a) g tt te vs σ Q A (upd H1 A (.lst [])) := lc_list Pv h0 hl hs hd
theorem r_yes {QT : Bool → Hp → Prop} : tYes σ H QT = QT true H := rfl
end
theorem wipe_0 {σ : L2.St} : wipe σ [] = σ := rfl
theorem wipe_1 {σ : L2.St} {v : Nat} {vs : List Nat} : wipe σ (v :: vs) = (wipe σ vs).set v none := rfl
theorem cut_init (xs : List V) (x : V) : cutV (xs ++ [x]) none (some (-1)) = xs := by
  have e : HT.sIx (xs ++ [x]).length (xs ++ [x]).length (some (-1)) = xs.length := by
    simp [HT.sIx]
    omega
  unfold cutV
  rw [e, HT.sIx_none, List.drop_zero, Nat.sub_zero, List.take_left']
  rfl
theorem cut_last (xs : List V) (x : V) : cutV (xs ++ [x]) (some (-1)) none = [x] := by
  have e : HT.sIx (xs ++ [x]).length 0 (some (-1)) = xs.length := by
    simp [HT.sIx]
    omega
  unfold cutV
  rw [e, HT.sIx_none, List.drop_left', List.take_of_length_le]
  · rw [List.length_append]
    simp
  · rfl
theorem tyl {K : PySem.W.Frag} {H : Hp} {a : Addr} {xs : List V} (h : H a = some (.lst xs)) : tyV K "list" (.ref a) H := of_eq_true (tyV_lst (by rw [h]; rfl))
theorem szl {n : Nat} (h : n ≤ 1000) : n ≤ sizeLine := Nat.le_trans h (by decide)
theorem szlt {n : Nat} (h : n ≤ 1000) : n < sizeLine := Nat.lt_of_le_of_lt h (by decide)
/-- a loop over a written tuple, turn by turn -/
def UnrT (T : Addr) (all : List V) (g : TG) (tb : TS) (D : Ends) : List V → L2.St → Hp → Prop
  | [], σ, H => D.nx σ H
  | x :: xs, σ, H => g x σ H fun σ2 H2 => tb { D with nx := fun σ' H' => H' T = some (.tup all) ∧ UnrT T all g tb D xs σ' H', ct := fun σ' H' => H' T = some (.tup all) ∧ UnrT T all g tb D xs σ' H', bk := D.nx } σ2 H2
theorem unr_nil {T : Addr} {all : List V} {g : TG} {tb : TS} {D : Ends} {σ : L2.St} {H : Hp} : UnrT T all g tb D [] σ H = D.nx σ H := rfl
theorem unr_cons {T : Addr} {all : List V} {g : TG} {tb : TS} {D : Ends} {x : V} {xs : List V} {σ : L2.St} {H : Hp} : UnrT T all g tb D (x :: xs) σ H = g x σ H fun σ2 H2 => tb { D with nx := fun σ' H' => H' T = some (.tup all) ∧ UnrT T all g tb D xs σ' H', ct := fun σ' H' => H' T = some (.tup all) ∧ UnrT T all g tb D xs σ' H', bk := D.nx } σ2 H2 := rfl
theorem lp_unrT {K : PySem.W.Frag} {T : Addr} {all : List V} {g : TG} {tb : TS} {D : Ends} {σ : L2.St} {H : Hp} (h : H T = some (.tup all)) (u : UnrT T all g tb D all σ H) : LoopR (Itt K T) g tb D σ H := by
  refine lp_tup (xs := all) (fun i σ' H' => H' T = some (.tup all) ∧ UnrT T all g tb D (all.drop i) σ' H') ⟨h, u⟩ (fun i s h' _ q => SqT.of q.1) (fun i x s h' e q => ?_) fun s h' q => ?_
  · have e1 : all.drop i = x :: all.drop (i + 1) := by
      obtain ⟨hi, e2⟩ := List.getElem?_eq_some_iff.mp e
      rw [List.drop_eq_getElem_cons hi, e2]
    obtain ⟨_, q2⟩ := q
    rw [e1] at q2
    exact q2
  · obtain ⟨_, q2⟩ := q
    rw [List.drop_length] at q2
    exact q2
theorem Paired.snoc' {α β : Type} {F : α → β → Prop} : ∀ {l1 : List α} {l2 : List β} {a : α} {b : β}, Paired F l1 l2 → F a b → Paired F (l1 ++ [a]) (l2 ++ [b])
  | _, _, _, _, .nil, h => .cons h .nil
  | _, _, _, _, .cons r t, h => .cons r (Paired.snoc' t h)
theorem Paired.map' {α β : Type} {F G : α → β → Prop} {l1 : List α} {l2 : List β} (p : Paired F l1 l2) (h : ∀ a b, F a b → G a b) : Paired G l1 l2 := Paired.mapP p h
theorem cut_tail (x : V) (xs : List V) : cutV (x :: xs) (some 1) none = xs := by
  have e : HT.sIx (x :: xs).length 0 (some 1) = 1 := by
    simp [HT.sIx]
  unfold cutV
  rw [e, HT.sIx_none]
  simp
/-- for x in a name that holds a list or a tuple -/
def iSeqV (K : PySem.W.Frag) (i : Nat) : TI := fun σ H R => ∃ a, σ[i]? = some (some (.ref a)) ∧ (((∃ xs, H a = some (.lst xs)) ∧ R (Itl K a) H) ∨ ((∃ xs, H a = some (.tup xs)) ∧ R (Itt K a) H))
theorem pi_seqV {X : Cx} (i : Nat) {x : Str} {tg : Expr} {pos : Pos} (hN : X.N[i]? = some x := by rfl) (hv : Vis X.env.scope x := by first | exact Or.inl rfl | exact Or.inr (Or.inl rfl) | exact Or.inr (Or.inr rfl)) (hd : (x == ("__debug__" : Str)) = false := by decide)
    (hcd : (x == ("__classdict__" : Str)) = false := by decide) : PI X tg (.Name x pos) (iSeqV X.K i) := ⟨fun pins s σ H R I h => by
  obtain ⟨a, h0, ⟨⟨xs, e⟩, q⟩ | ⟨⟨xs, e⟩, q⟩⟩ := h
  · exact (pi_list (pe_var hN hv hd hcd)).run pins s σ H R I ⟨_, h0, a, rfl, ⟨_, SqL.of e⟩, q⟩
  · exact (pi_tup (pe_var hN hv hd hcd)).run pins s σ H R I ⟨_, h0, a, rfl, ⟨_, SqT.of e⟩, q⟩⟩
theorem r_forS {K : PySem.W.Frag} {i : Nat} {g : TG} {tb : TS} {D : Ends} {σ : L2.St} {H : Hp} : tFor (iSeqV K i) g tb D σ H = ∃ a, σ[i]? = some (some (.ref a)) ∧ (((∃ xs, H a = some (.lst xs)) ∧ LoopR (Itl K a) g tb D σ H) ∨ ((∃ xs, H a = some (.tup xs)) ∧ LoopR (Itt K a) g tb D σ H)) := rfl
theorem lp_seq {K : PySem.W.Frag} {g : TG} {tb : TS} {D : Ends} {σ : L2.St} {H : Hp} {a : Addr} {xs : List V} (h : sq (H a) = some xs) (Pv : Nat → L2.St → Hp → Prop) (h0 : Pv 0 σ H) (hl : ∀ i σ H', Pv i σ H' → H' a = H a)
    (hs : ∀ i x σ H, xs[i]? = some x → Pv i σ H → g x σ H fun σ2 H2 => tb { D with nx := Pv (i + 1), ct := Pv (i + 1), bk := D.nx } σ2 H2) (hd : ∀ σ H, Pv xs.length σ H → D.nx σ H) :
    ((∃ xs, H a = some (.lst xs)) ∧ LoopR (Itl K a) g tb D σ H) ∨ ((∃ xs, H a = some (.tup xs)) ∧ LoopR (Itt K a) g tb D σ H) := by
  rcases sq_cases h with e | e
  · exact .inl ⟨⟨_, e⟩, lp_list Pv h0 (fun i s h' _ q => SqL.of (by rw [hl i s h' q, e])) hs hd⟩
  · exact .inr ⟨⟨_, e⟩, lp_tup Pv h0 (fun i s h' _ q => SqT.of (by rw [hl i s h' q, e])) hs hd⟩
theorem Paired.at' {α β : Type} {F : α → β → Prop} : ∀ {l1 : List α} {l2 : List β} {i : Nat}, Paired F l1 l2 → (h1 : i < l1.length) → (h2 : i < l2.length) → F l1[i] l2[i]
  | _, _, 0, .cons r _, _, _ => r
  | _, _, i + 1, .cons _ t, h1, h2 => Paired.at' (i := i) t (by simpa using h1) (by simpa using h2)

/-! ### isinstance, in a form that simp can reckon -/
structure ClsI (K : PySem.W.Frag) (C : Addr) : Prop where
  cl : Cls K C
  ha : PySem.W.findIn K (.ref C) "__class__" = some (some (.builtin "object.__class__"))
  hn : PySem.W.specialIn K (.builtin "object.__class__") "__get__" = some (some (.builtin "getset_descriptor.__get__"))
  htk : PySem.W.takesIn K (.builtin "object.__class__") = some true
  hm : PySem.W.mroIn K C (.type "object") = some true
/-- what stands there, by its class (of own classes C alone) -/
def tyH (C : Addr) : Option HO → Option Value
  | some (.lst _) => some (.type "list")
  | some (.tup _) => some (.type "tuple")
  | some (.dK _) => some (.type "dict")
  | some (.ins D _ _) => if D = C then some (.ref C) else none
  | _ => none
def tyD (C : Addr) (H : Hp) : V → Option Value
  | .non => some (.type "NoneType")
  | .bl _ => some (.type "bool")
  | .int _ => some (.type "int")
  | .str _ => some (.type "str")
  | .ref a => tyH C (H a)
  | _ => none
theorem tyD_ok {K : PySem.W.Frag} {C : Addr} {H : Hp} {x : V} {t : Value} (c : ClsI K C) (h : tyD C H x = some t) : TyX K H x t := by
  cases x with
  | non => cases h; exact .base .non
  | bl b => cases h; exact .base (.bl b)
  | int i => cases h; exact .base (.int i)
  | str s => cases h; exact .base (.str s)
  | ref a =>
    have h2 : tyH C (H a) = some t := h
    cases e : H a with
    | none =>
      rw [e] at h2
      cases h2
    | some o =>
      rw [e] at h2
      cases o with
      | lst xs => cases h2; exact .base (.lst e)
      | tup xs => cases h2; exact .base (.tup e)
      | dK kvs => cases h2; exact .base (.dK e)
      | ins D dx fs =>
        have h3 : (if D = C then some (Value.ref C) else none) = some t := h2
        by_cases q : D = C
        · rw [if_pos q] at h3
          cases h3
          subst q
          exact .base (.ins e c.cl c.ha c.hn c.htk c.hm)
        · rw [if_neg q] at h3
          cases h3
      | _ => cases h2
  | _ => cases h
def clsD : V → Option Value
  | .ty n => some (.type n)
  | .ref C => some (.ref C)
  | _ => none
theorem clsD_ok {c : V} {u : Value} (h : clsD c = some u) : ClsV c u := by
  cases c with
  | ty n => cases h; exact .ty n
  | ref C => cases h; exact .own C
  | _ => cases h
def rIsD (K : PySem.W.Frag) (C : Addr) : List V → Hp → VK → Prop := fun vs H Q => ∃ x c t u b, vs = [x, c] ∧ clsD c = some u ∧ tyD C H x = some t ∧ PySem.W.kitOne K t u = some b ∧ Q (.bl b) H
theorem call_is_d {X : Cx} {C : Addr} (c : ClsI X.K C) : CallR X (.builtin "isinstance") (rIsD X.K C) := CallR.imp' (call_isi (X := X)) fun vs H Q ⟨x, d, t, u, b, e, h1, h2, h3, q⟩ => ⟨x, d, t, u, b, e, clsD_ok h1, tyD_ok c h2, h3, q⟩
/-- isinstance(x, (list, tuple)) -/
def rIsLT (K : PySem.W.Frag) (C : Addr) : List V → Hp → VK → Prop := fun vs H Q => ∃ x tp t b, vs = [x, .ref tp] ∧ H tp = some (.tup [.ty "list", .ty "tuple"]) ∧ tyD C H x = some t ∧ PySem.W.kitAny K t [.type "list", .type "tuple"] = some b ∧ Q (.bl b) H
theorem call_is_lt {X : Cx} {C : Addr} (c : ClsI X.K C) : CallR X (.builtin "isinstance") (rIsLT X.K C) := CallR.imp' (call_isiT (X := X)) fun vs H Q ⟨x, tp, t, b, e, h1, h2, h3, q⟩ =>
  ⟨x, tp, _, t, _, b, e, h1, .cons (.ty "list") (.cons (.ty "tuple") .nil), tyD_ok c h2, h3, q⟩
section
variable {K : PySem.W.Frag} {C : Addr} {H : Hp} {Q : VK} {σ : L2.St} {D : Ends}
theorem r_isd {vs : List V} : rIsD K C vs H Q = ∃ x c t u b, vs = [x, c] ∧ clsD c = some u ∧ tyD C H x = some t ∧ PySem.W.kitOne K t u = some b ∧ Q (.bl b) H := rfl
theorem r_islt {vs : List V} : rIsLT K C vs H Q = ∃ x tp t b, vs = [x, .ref tp] ∧ H tp = some (.tup [.ty "list", .ty "tuple"]) ∧ tyD C H x = some t ∧ PySem.W.kitAny K t [.type "list", .type "tuple"] = some b ∧ Q (.bl b) H := rfl
theorem cD_ty {n : String} : clsD (.ty n) = some (.type n) := rfl
theorem cD_ref {a : Addr} : clsD (.ref a) = some (.ref a) := rfl
theorem tD_non : tyD C H .non = some (.type "NoneType") := rfl
theorem tD_bl {b : Bool} : tyD C H (.bl b) = some (.type "bool") := rfl
theorem tD_int {i : Int} : tyD C H (.int i) = some (.type "int") := rfl
theorem tD_str {s : Str} : tyD C H (.str s) = some (.type "str") := rfl
theorem tD_ref {a : Addr} : tyD C H (.ref a) = tyH C (H a) := rfl
theorem tH_lst {xs : List V} : tyH C (some (.lst xs)) = some (.type "list") := rfl
theorem tH_tup {xs : List V} : tyH C (some (.tup xs)) = some (.type "tuple") := rfl
theorem tH_dK {kvs : List (Key × V)} : tyH C (some (.dK kvs)) = some (.type "dict") := rfl
theorem tH_ins {dx : Addr} {fs : List (Str × V)} : tyH C (some (.ins C dx fs)) = some (.ref C) := if_pos rfl
theorem ki_self {t : Value} : PySem.W.kitOne K t t = some true := by
  unfold PySem.W.kitOne
  rw [if_pos (by simp)]
theorem ki_int_bool : PySem.W.kitOne K (.type "int") (.type "bool") = some false := kit_ty (by decide +kernel)
theorem ki_non_int : PySem.W.kitOne K (.type "NoneType") (.type "int") = some false := kit_ty (by decide +kernel)
theorem ki_str_int : PySem.W.kitOne K (.type "str") (.type "int") = some false := kit_ty (by decide +kernel)
theorem ki_lt_lst : PySem.W.kitAny K (.type "list") [.type "list", .type "tuple"] = some true := by
  unfold PySem.W.kitAny
  rw [ki_self]
theorem ki_lt_tup : PySem.W.kitAny K (.type "tuple") [.type "list", .type "tuple"] = some true := by
  have e : PySem.W.kitOne K (.type "tuple") (.type "list") = some false := kit_ty (by decide +kernel)
  unfold PySem.W.kitAny
  rw [e]
  unfold PySem.W.kitAny
  rw [ki_self]
theorem r_fld {ta : TE} {f : Str} : tFld K ta f σ H Q = ta σ H (fun x H1 => ∃ a C dx fs v, x = .ref a ∧ H1 a = some (.ins C dx fs) ∧ Cls K C ∧ NoAttr K C f ∧ fs.lookup f = some v ∧ Q v H1) := rfl
theorem r_sfld {ta tv : TE} {f : Str} : sFld K ta tv f D σ H = tv σ H (fun y H1 => ta σ H1 fun x H2 => ∃ a C dx fs, x = .ref a ∧ H2 a = some (.ins C dx fs) ∧ Cls K C ∧ NoAttr K C f ∧ fs.length < 1000 ∧ D.nx σ (upd H2 a (.ins C dx (putF f y fs)))) := rfl
end
theorem cx_K {CX : CXT} {P : Program} {w : World} {K : PySem.W.Frag} {mg : Str → Option Value} {base : Heap} {N : List Str} {q : Str} {sc : Scope} {f : Addr} {cd : Value} {A : Around} {outer : List Env} {s : Shared} {H : Hp} {E : XK} : (cxOf CX P w K mg base N q sc f cd A outer s H E).K = K := rfl
/-! ### own exceptions with one field -/
def spXInit (C : Addr) (f : Str) : Sp := fun vs H Q _ => ∃ (a : Addr) (v : V), vs = [.ref a, v] ∧ H a = some (exo a C none) ∧ ∀ d, H d = none → d ≠ a → Q .non (upd (upd H d (exd d [(f, v)])) a (exo a C (some d)))
structure Exn (P : Program) (w : World) (K : PySem.W.Frag) (mg : Str → Option Value) (base : Heap) (x : Str) (C : Addr) (f : Str) : Prop where
  ox : OexC K C
  gl : mg x = some (.ref C)
  ex : ∃ fI fd, PySem.W.findIn K (.ref C) "__init__" = some (some (.ref fI)) ∧ PySem.W.typeIn K (.ref fI) = some (.type "function") ∧ FnOk P w K mg base CX0 1 fI fd ["self", f] (spXInit C f) ∧ Binds K fd ["self", f] []
theorem pmk_x {X : Cx} {x f : Str} {C : Addr} {e : Expr} {te : TE} {p pos : Pos} (N : Exn X.prog X.w X.K X.mg X.base x C f) (hr : Room 2 X.A) (hg : Gl X x) (ha : PE X e te)
    (hs : starEach [e] X.env = (false, eval e X.env) :: starEach [] X.env := by rfl) (hdb : (x == ("__debug__" : Str)) = false := by decide) (hpl : (backTo pos (starEach [] X.env)).any (·.1) = false := by rfl) :
    PMk X (.Call (.Name x p) [e] [] pos) (tMkO C (spXInit C f) [] (tCons te tNil)) := by
  obtain ⟨fI, fd, iC, tI, F, b⟩ := N.ex
  exact pmk_oex N.ox iC tI F hr b .nil pass0 hg N.gl (pa_cons ha pa_nil hs) hdb hs hpl
/-- what a raise of such an exception asks -/
theorem raise_x {C : Addr} {f : Str} {te : TE} {σ : L2.St} {H : Hp} {E : XK} {v : V} (h : ∀ Q : VK, Q v H → te σ H Q) (k : ∀ d H', H d = none → Same H H' → H' d = some (.xd [(f, v)]) → E (.ref C) (some d) H') : tMkO C (spXInit C f) [] (tCons te tNil) σ H E := by
  refine h _ ⟨by show 1 ≤ 1000; decide, fun a ha => ⟨a, v, rfl, upd_same, fun d hd da => ⟨rfl, d, [(f, v)], upd_same, ?_, ?_, ?_⟩⟩⟩
  · rw [upd_ne da, upd_same]
  · rw [upd_ne da] at hd
    exact hd
  · rw [upd_ne da] at hd
    refine k d _ hd (fun b o e => ?_) upd_same
    have ba : b ≠ a := ne_new e ha
    have bd : b ≠ d := ne_new e hd
    rw [upd_ne bd, del_ne ba, upd_ne ba, upd_ne bd, upd_ne ba]
    exact e

/-! ### a star in a list display; a list times a number -/
def tStarD (te : TE) (t : TA) : TA := fun σ H Q => te σ H fun x H1 => ∃ p xs, x = .ref p ∧ sq (H1 p) = some xs ∧ t σ H1 fun ys H2 => Q (xs ++ ys) H2
section
variable {X : Cx}
theorem PA.weak {es : List Expr} {t t' : TA} (h : PA X es t) (i : ∀ σ H Q, t' σ H Q → t σ H Q) : PA X es t' := ⟨fun pos pins s σ H Q I q => h.run pos pins s σ H Q I (i _ _ _ q)⟩
theorem pa_starD {e : Expr} {es : List Expr} {te : TE} {t : TA} {p : Pos} (he : PE X e te) (hr : PA X es t) (hs : starEach (.Starred e p :: es) X.env = (true, eval e X.env) :: starEach es X.env := by rfl) : PA X (.Starred e p :: es) (tStarD te t) :=
  PA.weak (StX.pa_star (PE.mcl he) hr hs) fun σ H Q q => ⟨_, q, fun v H' ⟨a, xs, e1, h, k⟩ => ⟨a, xs, e1, (by
    rcases sq_cases h with h | h
    · exact .inr (SqL.of h)
    · exact .inl (SqT.of h)), k⟩⟩
theorem r_starD {te : TE} {t : TA} {σ : L2.St} {H : Hp} {QA : List V → Hp → Prop} : tStarD te t σ H QA = te σ H (fun x H1 => ∃ p xs, x = .ref p ∧ sq (H1 p) = some xs ∧ t σ H1 fun ys H2 => QA (xs ++ ys) H2) := rfl
theorem r_rep {x y : V} {H : Hp} {Q : VK} : rRep x y H Q = ∃ l k xs, x = .ref l ∧ y = .int k ∧ H l = some (.lst xs) ∧ -(2 ^ 63) ≤ k ∧ k < 2 ^ 63 ∧ xs.length * k.toNat ≤ sizeLine ∧ ∀ p, H p = none → Q (.ref p) (upd H p (.lst (List.replicate k.toNat xs).flatten)) := rfl
end

/-! ### the source of choices -/
def Src (H : Hp) (a : Addr) : Prop := ∃ x y z : Int, H a = some (.lst [.int x, .int y, .int z])
/-- all but a stays -/
def Keep (a : Addr) (H H' : Hp) : Prop := ∀ b o, b ≠ a → H b = some o → H' b = some o
theorem Keep.refl (a : Addr) (H : Hp) : Keep a H H := fun _ _ _ h => h
theorem Keep.trans {a : Addr} {H H1 H2 : Hp} (h : Keep a H H1) (k : Keep a H1 H2) : Keep a H H2 := fun b o n e => k b o n (h b o n e)
theorem Keep.upd {a : Addr} {H H1 : Hp} {o : HO} (h : Keep a H H1) : Keep a H (upd H1 a o) := fun b u n e => by
  rw [upd_ne n]
  exact h b u n e
theorem Keep.new {a p : Addr} {H H1 : Hp} {o : HO} (h : Keep a H H1) (hp : H1 p = none) : Keep a H (L2.upd H1 p o) := fun b u n e => by
  have e1 := h b u n e
  rw [upd_ne (ne_of_none e1 hp)]
  exact e1
theorem Keep.same {a : Addr} {H H1 : Hp} (h : Same H H1) : Keep a H H1 := fun b o _ e => h b o e
theorem Src.new {H : Hp} {a p : Addr} {o : HO} (h : Src H a) (hp : H p = none) : Src (L2.upd H p o) a := by
  obtain ⟨x, y, z, e⟩ := h
  exact ⟨x, y, z, by rw [upd_ne (ne_new e hp)]; exact e⟩
theorem Src.ne {H : Hp} {a p : Addr} (h : Src H a) (hp : H p = none) : p ≠ a := by
  obtain ⟨x, y, z, e⟩ := h
  exact new_ne e hp
structure Txt (mg : Str → Option Value) : Prop where
  b_len : mg "len" = none
  b_int : mg "int" = none
  b_range : mg "range" = none
  b_tuple : mg "tuple" = none
  b_list : mg "list" = none
  b_isinstance : mg "isinstance" = none
  b_bool : mg "bool" = none
  b_str : mg "str" = none
  b_max : mg "max" = none
  b_min : mg "min" = none
  b_enumerate : mg "enumerate" = none
  b_any : mg "any" = none
  b_all : mg "all" = none
  b_zip : mg "zip" = none
  b_sum : mg "sum" = none
  b_sorted : mg "sorted" = none
  b_repr : mg "repr" = none
  b_dict : mg "dict" = none
def spSrc : Sp := fun vs H Q _ => ∃ n : Int, vs = [.int n] ∧ ∀ p H', H p = none → Same H H' → Src H' p → Q (.ref p) H'
def spNext : Sp := fun vs H Q _ => ∃ (a : Addr) (m : Int), vs = [.ref a, .int m] ∧ Src H a ∧ 0 < m ∧ m < 2 ^ 200 ∧ ∀ (r : Int) H', 0 ≤ r → r < m → Keep a H H' → Src H' a → Q (.int r) H'
def spOne : Sp := fun vs H Q _ => ∃ (a b : Addr) (xs : List V), vs = [.ref a, .ref b] ∧ Src H a ∧ b ≠ a ∧ H b = some (.lst xs) ∧ xs ≠ [] ∧ xs.length ≤ 1000 ∧ ∀ v H', v ∈ xs → Keep a H H' → Src H' a → Q v H'
section
variable {P : Program} {w : World} {K : PySem.W.Frag} {mg : Str → Option Value} {base : Heap} {f : Addr} {fd : FuncData}
abbrev ssource_of : Stmt := top 85
theorem scsource_of : FnScope ["_law_cell"] ["_law_cell"] (defScope ssource_of) := ⟨rfl, rfl, rfl, by decide +kernel, rfl, by decide +kernel, by decide +kernel⟩

abbrev snext : Stmt := top 86
theorem scnext : FnScope ["_law_source", "_law_many", "_law_found", "_law_prime", "_law_number"] ["_law_source", "_law_many"] (defScope snext) := ⟨rfl, rfl, rfl, by decide +kernel, rfl, by decide +kernel, by decide +kernel⟩

abbrev sone : Stmt := top 87
theorem scone : FnScope ["_law_source", "_law_some"] ["_law_source", "_law_some"] (defScope sone) := ⟨rfl, rfl, rfl, by decide +kernel, rfl, by decide +kernel, by decide +kernel⟩

theorem ok_source_of (T : Txt mg) (F : FnP K "_law_source_of" "_law_source_of" ssource_of f fd) : FnOk P w K mg base CX0 1 f fd ["_law_cell"] spSrc := by
  refine F.ok scsource_of (fun vs H Q E h => ?_) (fun cdv A outer s H vs Q E hr h => ?_)
  · obtain ⟨n, rfl, _⟩ := h
    rfl
  · obtain ⟨n, rfl, k⟩ := h
    refine ⟨_, PSs.nox (pss_cons (ps_set (i := 0) scsource_of.nd rfl (Or.inl rfl) (pe_ifExp (pt_cmpR op_ge (pv 0) pe_int (nomark _)) (pv 0) (pe_op op_sub (pe_op op_sub pe_int (pe_op op_mul pe_int (pv 0))) pe_int)))
  (pss_one (ps_ret (pe_lst (pa_cons (pe_op op_mul (pv 0) (pe_callTy call_int1 (by rfl) T.b_int (by decide +kernel) (pa_cons (pe_cmpR op_ge (pv 0) (pe_op op_pow pe_int pe_int) (nomark _)) pa_nil))) (pa_cons (pe_op op_mod (pe_callTy call_int1 (by rfl) T.b_int (by decide +kernel) (pa_cons (pv 0) pa_nil)) pe_int) (pa_cons pe_int pa_nil))))))), ?_⟩
    show (_ : TS) _ [some (.int n)] H
    simp only [r_seq, r_next, r_brk, r_cont, r_asg, r_name, r_ret, r_retN, r_drop, r_ifs, r_never, r_var, r_c, r_op, r_un, r_if, r_tst, r_b, r_not, r_and, r_or, r_andV, r_orV, r_notV, r_nil, r_cons, r_tup, r_lst, r_cb, r_call, r_bm, r_bm0, r_sl, r_nopart, r_part, r_rev, r_gnil, r_gcons, r_gsub, r_par, r_aug, r_chain, r_I0, r_I, r_U, r_ixd, r_lend, r_tupd, r_listd, r_sld, r_app, r_ext, r_reverse, r_setl, r_cat, r_int1, r_eqS, r_neS, scal_ii, scal_bb, scal_ss, at0, at1, at2, sq_lst, sq_tup, isLst_lst, List.getElem?_cons_zero, List.getElem?_cons_succ, List.set_cons_zero, List.set_cons_succ, V.int.injEq, V.bl.injEq, V.ref.injEq, V.str.injEq, HO.lst.injEq, HO.tup.injEq, Option.some.injEq, exists_eq_left', exists_eq_left, List.cons.injEq, and_true, true_and, decide_eq_true_eq, reduceCtorEq, false_and, exists_false, or_false, false_or, exists_const, and_assoc, exists_and_left, List.append_nil, ix0, ix1, ix2, cm_mod, cdw1009, cdw2003, cdw7, cdw64, cdw2, cm104729, cm2, cm3, upd_same, List.length_cons, List.length_nil, Int.reduceLT, Int.reduceLE, Nat.reduceAdd, Nat.reduceLeDiff, Nat.reduceLT, Int.reduceToNat, r_for1, r_forL, r_forT, r_lcL, r_lc1, r_yes, r_gtupD, wipe_0, wipe_1, List.cons_append, List.nil_append, r_forS, r_ipI, ite_false, ite_true, Bool.not_true, Bool.not_false, decide_true, decide_false, r_isd, r_islt, cD_ty, cD_ref, tD_non, tD_bl, tD_int, tD_str, tD_ref, tH_lst, tH_tup, tH_dK, tH_ins, ki_self, ki_int_bool, ki_non_int, ki_str_int, ki_lt_lst, ki_lt_tup, r_fld, r_sfld, HO.ins.injEq, cx_K]
    have k' : ∀ x y z : Int, ∀ p, H p = none → Q (.ref p) (upd H p (.lst [.int x, .int y, .int z])) := fun x y z p hp =>
      k p _ hp (Same.new' (Same.refl H) hp) ⟨x, y, z, upd_same⟩
    have c1 : CPow 10 18 := ⟨by decide, by decide, by decide⟩
    have c2 : ∀ (i : Int) (c : Prop) [Decidable c], CMul i (if c then 1 else 0) := fun i c _ => .inr (by split <;> decide)
    have c3 : CMul 3 n := .inl (by decide)
    exact ite2 (fun _ => ⟨c1, c2 _ _, Nat.le_trans (by decide : 3 ≤ 1000) (by decide), k' _ _ _⟩) (fun _ => ⟨c1, c2 _ _, Nat.le_trans (by decide : 3 ≤ 1000) (by decide), k' _ _ _⟩)
theorem ok_next (T : Txt mg) (F : FnP K "_law_next" "_law_next" snext f fd) : FnOk P w K mg base CX0 1 f fd ["_law_source", "_law_many"] spNext := by
  refine F.ok scnext (fun vs H Q E h => ?_) (fun cdv A outer s H vs Q E hr h => ?_)
  · obtain ⟨a, m, rfl, _⟩ := h
    rfl
  · obtain ⟨a, m, rfl, ⟨x, y, z, hS⟩, m0, m1, k⟩ := h
    refine ⟨_, PSs.nox (pss_cons (ps_if (pt_cmpR op_gt (pe_ix ix_d (pv 0) pe_int (fun _ _ => rfl)) pe_int (nomark _))
    (pss_cons (ps_set (i := 2) scnext.nd rfl (Or.inl rfl) (pe_op op_mod (pe_callTy call_int1 (by rfl) T.b_int (by decide +kernel) (pa_cons (pe_ix ix_d (pv 0) pe_int (fun _ _ => rfl)) pa_nil)) (pv 1)))
  (pss_cons (ps_asg (pe_op op_fdivW (pe_ix ix_d (pv 0) pe_int (fun _ _ => rfl)) (pv 1)) (pg_sub (pv 0) pe_int set_list))
  (pss_one (ps_ret (pv 2)))))
    pss_nil)
  (pss_cons (ps_asg (pe_op op_add (pe_ix ix_d (pv 0) pe_int (fun _ _ => rfl)) pe_int) (pg_sub (pv 0) pe_int set_list))
  (pss_cons (ps_set (i := 3) scnext.nd rfl (Or.inl rfl) pe_int)
  (pss_cons (ps_set (i := 4) scnext.nd rfl (Or.inl rfl) (pe_op op_mod (pe_callTy call_int1 (by rfl) T.b_int (by decide +kernel) (pa_cons (pe_op op_add (pe_op op_add (pe_ix ix_d (pv 0) pe_int (fun _ _ => rfl)) (pe_op op_mul pe_int (pe_ix ix_d (pv 0) pe_int (fun _ _ => rfl)))) pe_int) pa_nil)) (pv 3)))
  (pss_cons (ps_set (i := 4) scnext.nd rfl (Or.inl rfl) (pe_op op_mod (pe_callTy call_int1 (by rfl) T.b_int (by decide +kernel) (pa_cons (pe_op op_mul (pv 4) pe_int) pa_nil)) (pv 3)))
  (pss_cons (ps_set (i := 4) scnext.nd rfl (Or.inl rfl) (pe_op op_mod (pe_callTy call_int1 (by rfl) T.b_int (by decide +kernel) (pa_cons (pe_op op_mul (pv 4) (pe_op op_add (pe_op op_fdivW (pv 4) pe_int) pe_int)) pa_nil)) (pv 3)))
  (pss_cons (ps_set (i := 4) scnext.nd rfl (Or.inl rfl) (pe_op op_mod (pe_callTy call_int1 (by rfl) T.b_int (by decide +kernel) (pa_cons (pe_op op_mul (pv 4) (pe_op op_add (pe_op op_fdivW (pv 4) pe_int) pe_int)) pa_nil)) pe_int))
  (pss_one (ps_ret (pe_op op_mod (pe_callTy call_int1 (by rfl) T.b_int (by decide +kernel) (pa_cons (pe_op op_fdivW (pv 4) pe_int) pa_nil)) (pv 1))))))))))), ?_⟩
    show (_ : TS) _ [some (.ref a), some (.int m), none, none, none] H
    have hC : ∀ i, CDivW i m := fun i => of_eq_true (cdw ⟨m0, m1⟩)
    have kk : ∀ (e : Int) (u v t : Int), Q (.int (e % m)) (upd H a (.lst [.int u, .int v, .int t])) := fun e u v t => k _ _ (Int.emod_nonneg _ (by omega)) (Int.emod_lt_of_pos _ m0) (Keep.upd (Keep.refl a H)) ⟨u, v, t, upd_same⟩
    simp only [r_seq, r_next, r_brk, r_cont, r_asg, r_name, r_ret, r_retN, r_drop, r_ifs, r_never, r_var, r_c, r_op, r_un, r_if, r_tst, r_b, r_not, r_and, r_or, r_andV, r_orV, r_notV, r_nil, r_cons, r_tup, r_lst, r_cb, r_call, r_bm, r_bm0, r_sl, r_nopart, r_part, r_rev, r_gnil, r_gcons, r_gsub, r_par, r_aug, r_chain, r_I0, r_I, r_U, r_ixd, r_lend, r_tupd, r_listd, r_sld, r_app, r_ext, r_reverse, r_setl, r_cat, r_int1, r_eqS, r_neS, scal_ii, scal_bb, scal_ss, at0, at1, at2, sq_lst, sq_tup, isLst_lst, List.getElem?_cons_zero, List.getElem?_cons_succ, List.set_cons_zero, List.set_cons_succ, V.int.injEq, V.bl.injEq, V.ref.injEq, V.str.injEq, HO.lst.injEq, HO.tup.injEq, Option.some.injEq, exists_eq_left', exists_eq_left, List.cons.injEq, and_true, true_and, decide_eq_true_eq, reduceCtorEq, false_and, exists_false, or_false, false_or, exists_const, and_assoc, exists_and_left, List.append_nil, ix0, ix1, ix2, cm_mod, cdw1009, cdw2003, cdw7, cdw64, cdw2, cm104729, cm2, cm3, upd_same, List.length_cons, List.length_nil, Int.reduceLT, Int.reduceLE, Nat.reduceAdd, Nat.reduceLeDiff, Nat.reduceLT, Int.reduceToNat, r_for1, r_forL, r_forT, r_lcL, r_lc1, r_yes, r_gtupD, wipe_0, wipe_1, List.cons_append, List.nil_append, r_forS, r_ipI, ite_false, ite_true, Bool.not_true, Bool.not_false, decide_true, decide_false, r_isd, r_islt, cD_ty, cD_ref, tD_non, tD_bl, tD_int, tD_str, tD_ref, tH_lst, tH_tup, tH_dK, tH_ins, ki_self, ki_int_bool, ki_non_int, ki_str_int, ki_lt_lst, ki_lt_tup, r_fld, r_sfld, HO.ins.injEq, cx_K, hS, m0, hC]
    exact ite2 (fun _ => kk _ _ _ _) (fun _ => kk _ _ _ _)
theorem ok_one (T : Txt mg) (F : FnP K "_law_one" "_law_one" sone f fd) (C_next : Cal P w K mg base 1 "_law_next" ["_law_source", "_law_many"] spNext) : FnOk P w K mg base CX0 2 f fd ["_law_source", "_law_some"] spOne := by
  refine F.ok scone (fun vs H Q E h => ?_) (fun cdv A outer s H vs Q E hr h => ?_)
  · obtain ⟨a, b, xs, rfl, _⟩ := h
    rfl
  · obtain ⟨a, b, xs, rfl, hS, hb, hx, h0, h1, k⟩ := h
    refine ⟨_, PSs.nox (pss_one (ps_ret (pe_ix ix_d (pv 1) (pe_cal C_next (hr.mono (by decide)) rfl (pa_cons (pv 0) (pa_cons (pe_callB call_len_d (by rfl) T.b_len (by decide +kernel) (pa_cons (pv 1) pa_nil)) pa_nil))) (fun _ _ => rfl)))), ?_⟩
    show (_ : TS) _ [some (.ref a), some (.ref b)] H
    simp only [r_seq, r_next, r_brk, r_cont, r_asg, r_name, r_ret, r_retN, r_drop, r_ifs, r_never, r_var, r_c, r_op, r_un, r_if, r_tst, r_b, r_not, r_and, r_or, r_andV, r_orV, r_notV, r_nil, r_cons, r_tup, r_lst, r_cb, r_call, r_bm, r_bm0, r_sl, r_nopart, r_part, r_rev, r_gnil, r_gcons, r_gsub, r_par, r_aug, r_chain, r_I0, r_I, r_U, r_ixd, r_lend, r_tupd, r_listd, r_sld, r_app, r_ext, r_reverse, r_setl, r_cat, r_int1, r_eqS, r_neS, scal_ii, scal_bb, scal_ss, at0, at1, at2, sq_lst, sq_tup, isLst_lst, List.getElem?_cons_zero, List.getElem?_cons_succ, List.set_cons_zero, List.set_cons_succ, V.int.injEq, V.bl.injEq, V.ref.injEq, V.str.injEq, HO.lst.injEq, HO.tup.injEq, Option.some.injEq, exists_eq_left', exists_eq_left, List.cons.injEq, and_true, true_and, decide_eq_true_eq, reduceCtorEq, false_and, exists_false, or_false, false_or, exists_const, and_assoc, exists_and_left, List.append_nil, ix0, ix1, ix2, cm_mod, cdw1009, cdw2003, cdw7, cdw64, cdw2, cm104729, cm2, cm3, upd_same, List.length_cons, List.length_nil, Int.reduceLT, Int.reduceLE, Nat.reduceAdd, Nat.reduceLeDiff, Nat.reduceLT, Int.reduceToNat, r_for1, r_forL, r_forT, r_lcL, r_lc1, r_yes, r_gtupD, wipe_0, wipe_1, List.cons_append, List.nil_append, r_forS, r_ipI, ite_false, ite_true, Bool.not_true, Bool.not_false, decide_true, decide_false, r_isd, r_islt, cD_ty, cD_ref, tD_non, tD_bl, tD_int, tD_str, tD_ref, tH_lst, tH_tup, tH_dK, tH_ins, ki_self, ki_int_bool, ki_non_int, ki_str_int, ki_lt_lst, ki_lt_tup, r_fld, r_sfld, HO.ins.injEq, cx_K, hx]
    have hl : 0 < xs.length := List.length_pos_iff.mpr h0
    refine ⟨a, _, rfl, hS, by omega, by omega, fun r H1 r0 r1 k1 s1 => ?_⟩
    have hx1 := k1 b _ hb hx
    obtain ⟨i, rfl⟩ : ∃ i : Nat, r = i := ⟨r.toNat, by omega⟩
    have hi : i < xs.length := by omega
    have e1 : atI xs (i : Int) = some xs[i] := atn (List.getElem?_eq_getElem hi)
    simp only [r_seq, r_next, r_brk, r_cont, r_asg, r_name, r_ret, r_retN, r_drop, r_ifs, r_never, r_var, r_c, r_op, r_un, r_if, r_tst, r_b, r_not, r_and, r_or, r_andV, r_orV, r_notV, r_nil, r_cons, r_tup, r_lst, r_cb, r_call, r_bm, r_bm0, r_sl, r_nopart, r_part, r_rev, r_gnil, r_gcons, r_gsub, r_par, r_aug, r_chain, r_I0, r_I, r_U, r_ixd, r_lend, r_tupd, r_listd, r_sld, r_app, r_ext, r_reverse, r_setl, r_cat, r_int1, r_eqS, r_neS, scal_ii, scal_bb, scal_ss, at0, at1, at2, sq_lst, sq_tup, isLst_lst, List.getElem?_cons_zero, List.getElem?_cons_succ, List.set_cons_zero, List.set_cons_succ, V.int.injEq, V.bl.injEq, V.ref.injEq, V.str.injEq, HO.lst.injEq, HO.tup.injEq, Option.some.injEq, exists_eq_left', exists_eq_left, List.cons.injEq, and_true, true_and, decide_eq_true_eq, reduceCtorEq, false_and, exists_false, or_false, false_or, exists_const, and_assoc, exists_and_left, List.append_nil, ix0, ix1, ix2, cm_mod, cdw1009, cdw2003, cdw7, cdw64, cdw2, cm104729, cm2, cm3, upd_same, List.length_cons, List.length_nil, Int.reduceLT, Int.reduceLE, Nat.reduceAdd, Nat.reduceLeDiff, Nat.reduceLT, Int.reduceToNat, r_for1, r_forL, r_forT, r_lcL, r_lc1, r_yes, r_gtupD, wipe_0, wipe_1, List.cons_append, List.nil_append, r_forS, r_ipI, ite_false, ite_true, Bool.not_true, Bool.not_false, decide_true, decide_false, r_isd, r_islt, cD_ty, cD_ref, tD_non, tD_bl, tD_int, tD_str, tD_ref, tH_lst, tH_tup, tH_dK, tH_ins, ki_self, ki_int_bool, ki_non_int, ki_str_int, ki_lt_lst, ki_lt_tup, r_fld, r_sfld, HO.ins.injEq, cx_K, hx1, e1]
    exact k _ _ (List.getElem_mem hi) k1 s1
end
end C38

set_option maxHeartbeats 2000000
namespace C38
open PySem PySem.Spec PyProof.Rows L2
/-! ### nothing to go through; dict comprehensions -/
theorem pt_no {X : Cx} {e : Expr} : PT X e (fun _ _ _ => False) := ⟨fun _ _ _ _ _ _ h => (show False from h).elim⟩
theorem pe_no {X : Cx} {e : Expr} : PE X e (fun _ _ _ => False) := ⟨fun _ _ _ _ _ _ h => (show False from h).elim⟩
theorem cp_nil {K : PySem.W.Frag} {a : Addr} {g : TG} {tt : TT} {te : TE} {vs : List Nat} {σ : L2.St} {Q : VK} {D : Addr} {H0 : Hp} (hl : SqL K H0 a []) (q : Q (.ref D) H0) : CompR (Itl K a) g tt te vs σ Q D H0 :=
  ⟨fun i m H => H = H0, ⟨0, rfl⟩, fun i m H e => .inl ⟨⟨[], by rw [e]; exact hl, Nat.zero_le _⟩, by rw [e]; exact q⟩⟩
theorem cp_nilT {K : PySem.W.Frag} {a : Addr} {g : TG} {tt : TT} {te : TE} {vs : List Nat} {σ : L2.St} {Q : VK} {D : Addr} {H0 : Hp} (hl : SqT K H0 a []) (q : Q (.ref D) H0) : CompR (Itt K a) g tt te vs σ Q D H0 :=
  ⟨fun i m H => H = H0, ⟨0, rfl⟩, fun i m H e => .inl ⟨⟨[], by rw [e]; exact hl, Nat.zero_le _⟩, by rw [e]; exact q⟩⟩
def CompD (J : L2.It) (g : TG) (tt : TT) (tk tv : TE) (vs : List Nat) (σ : L2.St) (Q : VK) (D : Addr) (H0 : Hp) : Prop := ∃ W : Nat → Nat → Hp → Prop, (∃ m, W 0 m H0) ∧ ∀ i m H, W i m H →
  (J.stop i H ∧ Q (.ref D) H) ∨ (J.go i H ∧ ∃ Nx : Hp → Prop, (∀ H', Nx H' → ∃ m', m' < m ∧ W (i + 1) m' H') ∧ ∀ x H', J.yld i H x H' → g x (wipe σ vs) H' fun σ2 H2 => wipe σ2 vs = wipe σ vs ∧ tt σ2 H2 fun b H3 =>
    if b = true then tk σ2 H3 fun y H4 => tv σ2 H4 fun z H5 => ∃ kvs k, y = kV k ∧ H5 D = some (.dK kvs) ∧ kvs.length < sizeLine ∧ Nx (upd H5 D (.dK (putK kvs k z))) else Nx H3)
theorem r_dcL {K : PySem.W.Frag} {tl : TE} {g : TG} {tt : TT} {tk tv : TE} {vs : List Nat} {σ : L2.St} {H : Hp} {Q : VK} : tDc (iList K tl) g tt tk tv vs σ H Q = tl σ H (fun x H1 => ∃ a, x = .ref a ∧ (∃ xs, SqL K H1 a xs) ∧ ∀ D, H1 D = none → CompD (Itl K a) g tt tk tv vs σ Q D (upd H1 D (.dK []))) := rfl
theorem cd_nil {K : PySem.W.Frag} {a : Addr} {g : TG} {tt : TT} {tk tv : TE} {vs : List Nat} {σ : L2.St} {Q : VK} {D : Addr} {H0 : Hp} (hl : SqL K H0 a []) (q : Q (.ref D) H0) : CompD (Itl K a) g tt tk tv vs σ Q D H0 :=
  ⟨fun i m H => H = H0, ⟨0, rfl⟩, fun i m H e => .inl ⟨⟨[], by rw [e]; exact hl, Nat.zero_le _⟩, by rw [e]; exact q⟩⟩

/-! ### comprehensions over a list or a tuple; dict comprehensions -/
theorem r_lcT {K : PySem.W.Frag} {σ : L2.St} {H : Hp} {g : TG} {tl : TE} {tt : TT} {te : TE} {vs : List Nat} {Q : VK} : tLc (iTup K tl) g tt te vs σ H Q = tl σ H (fun x H1 => ∃ a, x = .ref a ∧ (∃ xs, SqT K H1 a xs) ∧ ∀ D, H1 D = none → CompR (Itt K a) g tt te vs σ Q D (L2.upd H1 D (.lst []))) := rfl
theorem cp_tup {K : PySem.W.Frag} {σ : L2.St} {g : TG} {a : Addr} {xs : List V} {tt : TT} {te : TE} {vs : List Nat} {A : Addr} {H1 : Hp} {Q : VK} (Pv : Nat → Hp → Prop) (h0 : Pv 0 (L2.upd H1 A (.lst []))) (hl : ∀ i H, i ≤ xs.length → Pv i H → SqT K H a xs)
    (hs : ∀ i x H, xs[i]? = some x → Pv i H → g x (wipe σ vs) H fun σ2 H2 => wipe σ2 vs = wipe σ vs ∧ tt σ2 H2 fun b H3 =>
      if b = true then te σ2 H3 fun y H4 => ∃ acc, H4 A = some (.lst acc) ∧ acc.length < sizeLine ∧ Pv (i + 1) (L2.upd H4 A (.lst (acc ++ [y]))) else Pv (i + 1) H3) (hd : ∀ H, Pv xs.length H → Q (.ref A) H) :
    CompR (Itt K a) g tt te vs σ Q A (L2.upd H1 A (.lst [])) := lc_tup Pv h0 hl hs hd
theorem cd_of {J : L2.It} {n : Nat} {g : TG} {tt : TT} {tk tv : TE} {vs : List Nat} {σ : L2.St} {Q : VK} {D : Addr} {H0 : Hp} (Pv : Nat → Hp → Prop) (h0 : Pv 0 H0) (hst : ∀ H, Pv n H → J.stop n H) (hgo : ∀ i H, i < n → Pv i H → J.go i H)
    (hs : ∀ i x H H', i < n → Pv i H → J.yld i H x H' → g x (wipe σ vs) H' fun σ2 H2 => wipe σ2 vs = wipe σ vs ∧ tt σ2 H2 fun b H3 => if b = true then tk σ2 H3 fun y H4 => tv σ2 H4 fun z H5 => ∃ kvs k, y = kV k ∧ H5 D = some (.dK kvs) ∧ kvs.length < sizeLine ∧ Pv (i + 1) (L2.upd H5 D (.dK (putK kvs k z))) else Pv (i + 1) H3)
    (hd : ∀ H, Pv n H → Q (.ref D) H) : CompD J g tt tk tv vs σ Q D H0 := by
  refine ⟨fun i m H => i + m = n ∧ Pv i H, ⟨n, by omega, h0⟩, ?_⟩
  rintro i m H ⟨e, p⟩
  by_cases c : i < n
  · refine .inr ⟨hgo i H c p, fun H' => Pv (i + 1) H', fun H' q => ⟨m - 1, by omega, by omega, q⟩, fun x H' y => hs i x H H' c p y⟩
  · obtain rfl : i = n := by omega
    exact .inl ⟨hst H p, hd H p⟩
theorem cd_list {K : PySem.W.Frag} {a : Addr} {xs : List V} {g : TG} {tt : TT} {tk tv : TE} {vs : List Nat} {σ : L2.St} {Q : VK} {D : Addr} {H0 : Hp} (Pv : Nat → Hp → Prop) (h0 : Pv 0 H0) (hl : ∀ i H, i ≤ xs.length → Pv i H → SqL K H a xs)
    (hs : ∀ i x H, xs[i]? = some x → Pv i H → g x (wipe σ vs) H fun σ2 H2 => wipe σ2 vs = wipe σ vs ∧ tt σ2 H2 fun b H3 => if b = true then tk σ2 H3 fun y H4 => tv σ2 H4 fun z H5 => ∃ kvs k, y = kV k ∧ H5 D = some (.dK kvs) ∧ kvs.length < sizeLine ∧ Pv (i + 1) (L2.upd H5 D (.dK (putK kvs k z))) else Pv (i + 1) H3)
    (hd : ∀ H, Pv xs.length H → Q (.ref D) H) : CompD (Itl K a) g tt tk tv vs σ Q D H0 :=
  cd_of (n := xs.length) Pv h0 (fun H p => ⟨xs, hl _ _ (Nat.le_refl _) p, Nat.le_refl _⟩) (fun i H c p => ⟨xs, xs[i], hl _ _ (Nat.le_of_lt c) p, List.getElem?_eq_getElem c⟩) (fun i x H H' c p y => by
    obtain ⟨rfl, y⟩ := y
    exact hs i x _ (y xs (hl _ _ (Nat.le_of_lt c) p)) p) hd
theorem cd_tup {K : PySem.W.Frag} {a : Addr} {xs : List V} {g : TG} {tt : TT} {tk tv : TE} {vs : List Nat} {σ : L2.St} {Q : VK} {D : Addr} {H0 : Hp} (Pv : Nat → Hp → Prop) (h0 : Pv 0 H0) (hl : ∀ i H, i ≤ xs.length → Pv i H → SqT K H a xs)
    (hs : ∀ i x H, xs[i]? = some x → Pv i H → g x (wipe σ vs) H fun σ2 H2 => wipe σ2 vs = wipe σ vs ∧ tt σ2 H2 fun b H3 => if b = true then tk σ2 H3 fun y H4 => tv σ2 H4 fun z H5 => ∃ kvs k, y = kV k ∧ H5 D = some (.dK kvs) ∧ kvs.length < sizeLine ∧ Pv (i + 1) (L2.upd H5 D (.dK (putK kvs k z))) else Pv (i + 1) H3)
    (hd : ∀ H, Pv xs.length H → Q (.ref D) H) : CompD (Itt K a) g tt tk tv vs σ Q D H0 :=
  cd_of (n := xs.length) Pv h0 (fun H p => ⟨xs, hl _ _ (Nat.le_refl _) p, Nat.le_refl _⟩) (fun i H c p => ⟨xs, xs[i], hl _ _ (Nat.le_of_lt c) p, List.getElem?_eq_getElem c⟩) (fun i x H H' c p y => by
    obtain ⟨rfl, y⟩ := y
    exact hs i x _ (y xs (hl _ _ (Nat.le_of_lt c) p)) p) hd
theorem r_dcT {K : PySem.W.Frag} {tl : TE} {g : TG} {tt : TT} {tk tv : TE} {vs : List Nat} {σ : L2.St} {H : Hp} {Q : VK} : tDc (iTup K tl) g tt tk tv vs σ H Q = tl σ H (fun x H1 => ∃ a, x = .ref a ∧ (∃ xs, SqT K H1 a xs) ∧ ∀ D, H1 D = none → CompD (Itt K a) g tt tk tv vs σ Q D (upd H1 D (.dK []))) := rfl
theorem r_lcV {K : PySem.W.Frag} {i : Nat} {g : TG} {tt : TT} {te : TE} {vs : List Nat} {σ : L2.St} {H : Hp} {Q : VK} : tLc (iSeqV K i) g tt te vs σ H Q = ∃ a, σ[i]? = some (some (.ref a)) ∧ (((∃ xs, H a = some (.lst xs)) ∧ ∀ D, H D = none → CompR (Itl K a) g tt te vs σ Q D (L2.upd H D (.lst []))) ∨ ((∃ xs, H a = some (.tup xs)) ∧ ∀ D, H D = none → CompR (Itt K a) g tt te vs σ Q D (L2.upd H D (.lst [])))) := rfl
/-- a comprehension over a list or a tuple -/
theorem lc_seq {K : PySem.W.Frag} {i : Nat} {g : TG} {tt : TT} {te : TE} {vs : List Nat} {σ : L2.St} {H : Hp} {Q : VK} {a : Addr} {xs : List V} (hσ : σ[i]? = some (some (.ref a))) (ha : sq (H a) = some xs) (Pv : Addr → Nat → Hp → Prop) (h0 : ∀ D, H D = none → Pv D 0 (L2.upd H D (.lst [])))
    (hl : ∀ D i H', H D = none → Pv D i H' → H' a = H a)
    (hs : ∀ D i x H', H D = none → xs[i]? = some x → Pv D i H' → g x (wipe σ vs) H' fun σ2 H2 => wipe σ2 vs = wipe σ vs ∧ tt σ2 H2 fun b H3 => if b = true then te σ2 H3 fun y H4 => ∃ acc, H4 D = some (.lst acc) ∧ acc.length < sizeLine ∧ Pv D (i + 1) (L2.upd H4 D (.lst (acc ++ [y]))) else Pv D (i + 1) H3)
    (hd : ∀ D H', H D = none → Pv D xs.length H' → Q (.ref D) H') : tLc (iSeqV K i) g tt te vs σ H Q := by
  rw [r_lcV]
  refine ⟨a, hσ, ?_⟩
  rcases sq_cases ha with e | e
  · exact .inl ⟨⟨_, e⟩, fun D hD => cp_list (xs := xs) (Pv D) (h0 D hD) (fun i H' _ p => SqL.of (by rw [hl D i H' hD p]; exact e)) (fun i x H' hx p => hs D i x H' hD hx p) (fun H' p => hd D H' hD p)⟩
  · exact .inr ⟨⟨_, e⟩, fun D hD => cp_tup (xs := xs) (Pv D) (h0 D hD) (fun i H' _ p => SqT.of (by rw [hl D i H' hD p]; exact e)) (fun i x H' hx p => hs D i x H' hD hx p) (fun H' p => hd D H' hD p)⟩
theorem r_dcV {K : PySem.W.Frag} {n : Nat} {g : TG} {tt : TT} {tk tv : TE} {vs : List Nat} {σ : L2.St} {H : Hp} {Q : VK} : tDc (iSeqV K n) g tt tk tv vs σ H Q = ∃ a, σ[n]? = some (some (.ref a)) ∧ (((∃ xs, H a = some (.lst xs)) ∧ ∀ D, H D = none → CompD (Itl K a) g tt tk tv vs σ Q D (upd H D (.dK []))) ∨ ((∃ xs, H a = some (.tup xs)) ∧ ∀ D, H D = none → CompD (Itt K a) g tt tk tv vs σ Q D (upd H D (.dK [])))) := rfl
theorem r_dinE {ty td : TE} {σ : L2.St} {H : Hp} {Q : VK} : tDIn ty td σ H Q = ty σ H fun y H1 => td σ H1 fun x H2 => ∃ a o, x = .ref a ∧ DGet H2 a y o ∧ Q (.bl o.isSome) H2 := rfl
theorem r_dnin {ty td : TE} {σ : L2.St} {H : Hp} {Q : VK} : tDNotIn ty td σ H Q = ty σ H fun y H1 => td σ H1 fun x H2 => ∃ a o, x = .ref a ∧ DGet H2 a y o ∧ Q (.bl (!o.isSome)) H2 := rfl
theorem r_dnew {σ : L2.St} {H : Hp} {Q : VK} : tDNewK σ H Q = ∀ p, H p = none → Q (.ref p) (L2.upd H p (.dK [])) := rfl
theorem r_sput {td ty tv : TE} {D : Ends} {σ : L2.St} {H : Hp} : sDPut td ty tv D σ H = tv σ H (fun v H1 => td σ H1 fun x H2 => ty σ H2 fun y H3 => ∃ a H4, x = .ref a ∧ DPut H3 a y v H4 ∧ D.nx σ H4) := rfl

/-! ### enumerate of a tuple -/
section
variable {prog : Program} {w : World} {A : Around} {E : Value → Shared → Prop} {s : Shared}
theorem meets_enumerate_newT (l : Addr) (items : Array Value) (n : Nat) (dct : Option Addr) (sl : Array (Option Value)) :
    Meets (Builtin.«enumerate.__new__» ⟨[.type "enumerate", .ref l], []⟩) (fun _ R s => s.heap.get? l = some { cls := .type "tuple", dict := dct, data := .seq items n, slots := sl } ∧
      R (.ok (.ret (.ref (s.heap.push { cls := .type "tuple_iterator", data := .fields #[.ref l, .int 0 0] }).objs.size)))
        { s with heap := (s.heap.push { cls := .type "tuple_iterator", data := .fields #[.ref l, .int 0 0] }).push { cls := .type "enumerate", data := .fields #[.none, .bool false, .ref s.heap.objs.size, rawInt 0, .none, .none] } }) :=
  .of_wp fun prog w A R s h => by
    obtain ⟨hp, g, d, tk, os⟩ := s; obtain ⟨hl, h⟩ := h
    have hsub := sub_enumerate
    have hL : Heap.IsTuple (Shared.heap ⟨hp, g, d, tk, os⟩) l items := ⟨_, hl, rfl, n, rfl⟩
    wp_walk using AutoSeq1.wpAny_loadPart' hl
    refine wpAny_stack_any fun st => wpAny_pure ?_
    split
    · rename_i c _ _ _ _ _
      cases (c == Value.type "enumerate")
      · wp_walk using AutoSeq1.wpAny_loadPart' hl, wpAny_pyIter_tuple hL
        exact ⟨_, rfl, h⟩
      · wp_walk using AutoSeq1.wpAny_loadPart' hl, wpAny_pyIter_tuple hL
        exact ⟨_, rfl, h⟩
    · wp_walk using AutoSeq1.wpAny_loadPart' hl, wpAny_pyIter_tuple hL
      exact ⟨_, rfl, h⟩
theorem call_enumerate_tuple {l : Addr} {items : Array Value} {Q : Value → Shared → Prop} (hL : s.heap.IsTuple l items)
    (h : ∀ h', IsEnum h' (s.heap.objs.size + 1) s.heap.objs.size 0 .none → h'.IsTupleIter s.heap.objs.size l 0 → h'.objs.size = s.heap.objs.size + 2 →
      (∀ b o, s.heap.get? b = some o → h'.get? b = some o) → Q (.ref (s.heap.objs.size + 1)) { s with heap := h' }) :
    wpAny (model prog w) A (call (.type "enumerate") [.ref l]) Q E s := by
  obtain ⟨⟨c, dct, dt, sl⟩, hl, hc, n, hd⟩ := hL
  replace hc : c = .type "tuple" := hc
  replace hd : dt = .seq items n := hd
  subst hc hd
  refine callType_new F.called_enumerate (by decide) (F.typeCall_enumerate_1 _) (F.newCall_enumerate_1 _) (fun obj => F.args_object_init_2 obj _) F.entry_enumerate_new
    (meets_enumerate_newT l items n dct sl) ⟨hl, ?_⟩
  have hz : (s.heap.push { cls := .type "tuple_iterator", data := .fields #[.ref l, .int 0 0] }).objs.size = s.heap.objs.size + 1 := Heap.size_push ..
  show _ ∧ _
  rw [hz]
  have he : IsEnum ((s.heap.push { cls := .type "tuple_iterator", data := .fields #[.ref l, .int 0 0] }).push
      { cls := .type "enumerate", data := .fields #[.none, .bool false, .ref s.heap.objs.size, rawInt 0, .none, .none] }) (s.heap.objs.size + 1) s.heap.objs.size 0 .none := by
    have := Heap.get?_push_size (s.heap.push { cls := .type "tuple_iterator", data := .fields #[.ref l, .int 0 0] })
      (o := { cls := .type "enumerate", data := .fields #[.none, .bool false, .ref s.heap.objs.size, rawInt 0, .none, .none] }) rfl
    rw [hz] at this; exact this
  refine ⟨⟨_, he, rfl⟩, h _ he ⟨_, Heap.get?_push_of_some _ (Heap.get?_push_size _ rfl), rfl, rfl⟩ (by rw [Heap.size_push, hz]) fun b o x => Heap.get?_push_of_some _ (Heap.get?_push_of_some _ x)⟩
end
/-- the tuple at a, each item in a new pair -/
def IteT (K : PySem.W.Frag) (a : Addr) : It :=
  ⟨fun i H => ∃ (xs : List V) (x : V), SqT K H a xs ∧ xs[i]? = some x, fun i H v H' => ∃ T x, v = .ref T ∧ H T = none ∧ H' = L2.upd H T (.tup [.int (i : Nat), x]) ∧ ∀ xs, SqT K H a xs → xs[i]? = some x, fun i H => ∃ xs : List V, SqT K H a xs ∧ xs.length ≤ i⟩
theorem turn_enumT {P : Program} {w : World} {K : PySem.W.Frag} {elts : List Expr} {kk : Nat} {tpos : Pos} (a e it : Addr) (hai : a ≠ it) (hea : e ≠ a) :
    Turn P w K (.Tuple elts kk tpos) (IteT K a) [e, it] e (fun i h => (∃ old, IsEnum h e it ((i : Nat) : Int) old) ∧ h.IsTupleIter it a i ∧ e ≠ it) where
  mem := by simp
  obj := fun i h st b hb => by
    obtain ⟨⟨old, he⟩, ⟨o, ho, hc, hd⟩, _⟩ := st
    have e' : b = e ∨ b = it := by simpa using hb
    rcases e' with z | z
    · rw [z]; exact ⟨_, he, fun v q => nomatch q⟩
    · rw [z]; exact ⟨o, ho, fun v q => by rw [hd] at q; cases q⟩
  keep := fun i h h' st k => let ⟨⟨old, he⟩, hi, hne⟩ := st; ⟨⟨old, k e (by simp) _ he⟩, hi.at fun o q => k it (by simp) o q, hne⟩
  item := by
    intro X hP hw hK hc i pins s σ H E I hf st hg
    subst hP hw hK
    obtain ⟨⟨old, he⟩, hit, hne⟩ := st
    obtain ⟨xs, x, hq, hx⟩ := hg
    obtain ⟨its, rv, p, hz⟩ := I.tuple hq
    have p' : s.heap.IsTuple a its.toArray := p
    obtain ⟨u, hu, ru⟩ := rv.get hx
    have hel : e < s.heap.objs.size := Heap.lt_size he
    have hil : it < s.heap.objs.size := by obtain ⟨_, q, _⟩ := hit; exact Heap.lt_size q
    have hli : i < its.toArray.size := by
      have := (List.getElem?_eq_some_iff.mp hu).1
      simpa using this
    refine wpAny_pyNext_enum_itemD (Draws.tuple (A := X.A.in1) (I.ok.hd hc) it a hai its.toArray) he ⟨hit, p'⟩ hli hne (by simp [hne, hea]) fun u2 h' tk hu2 ho hst hT hsz hk => ?_
    obtain rfl : u2 = u := by
      have e1 : its.toArray[i]? = some u := by simpa using hu
      rw [e1] at hu2
      exact (Option.some.inj hu2).symm
    have hit' := hst.1
    refine ⟨_, rfl, wpAny_letOwnedTupleGo_enum (s := { s with heap := h', toks := tk + 1 }) ho fun h'' he' sb => ?_⟩
    have hT2 : h''.get? s.heap.objs.size = some { cls := .type "tuple", data := .seq #[.int i tk, u2] } := (sb.2 _ (Nat.ne_of_gt hel)).trans hT
    have new : ObjOk X.prog X.w (L2.upd H s.heap.objs.size (.tup [.int (i : Nat), x])) h'' s.heap.objs.size (.tup [.int (i : Nat), x]) :=
      ⟨by show 2 ≤ sizeLine; decide, [.int i tk, u2], .cons ⟨_, rfl⟩ (.cons ru .nil), ⟨_, hT2, rfl, _, rfl⟩⟩
    have I1 : Inv X pins σ (L2.upd H s.heap.objs.size (.tup [.int (i : Nat), x])) { s with heap := h'', toks := tk + 1 } :=
      I.turnedNew (ch := [e, it]) (fun b ob hb q => (sb.2 b (fun z => hb (by simp [z]))).trans (hk b ob (fun z => hb (by simp [z])) (fun z => hb (by simp [z])) q)) hf (Nat.le_refl _) new
    refine ⟨.ref s.heap.objs.size, _, I1, rfl, ⟨_, x, rfl, I.hok.fresh (Nat.le_refl _), rfl, fun ys hy => by rw [I.tuple_inj hy hq]; exact hx⟩, ⟨⟨u2, ?_⟩, hit'.at fun o q => (sb.2 it (Ne.symm hne)).trans q, hne⟩, fun b hb => ?_⟩
    · have e1 : ((i + 1 : Nat) : Int) = (i : Int) + 1 := by omega
      rw [e1]; exact he'
    · have hb' : b < s.heap.objs.size := by
        have e' : b = e ∨ b = it := by simpa using hb
        rcases e' with z | z
        · rw [z]; exact hel
        · rw [z]; exact hil
      rw [upd_ne (Nat.ne_of_lt hb')]
      exact (hf b hb).1
  done := by
    intro X hP hw hK hc i pins s σ H E I hf st hg
    subst hP hw hK
    obtain ⟨⟨old, he⟩, hit, hne⟩ := st
    obtain ⟨xs, hq, hx⟩ := hg
    obtain ⟨its, rv, p, hz⟩ := I.tuple hq
    have p' : s.heap.IsTuple a its.toArray := p
    obtain ⟨f0, f1, f2, f3, f4, f5⟩ := hf it (by simp)
    have hl := rv.length
    have hT : s.TypeIs (.ref e) "enumerate" := ⟨_, he, rfl⟩
    unfold pyNext
    refine wpAny_bind (wpAny_attempt (wpAny_callSpecial?_slot (name := Str.ofString "__next__") hT F.slot_enumerate_next
      (wpAny_call_entry F.slot_enumerate_next hT F.entry_enumerate_next ?_ (F.args_enumerate_next_1 _))))
    show wpAny _ _ (field (.ref e) 2 >>= _) _ _ _
    refine wpAny_bind (wpAny_field he rfl (x := .ref it) rfl ?_)
    refine wpAny_bind (wpAny_nextOf_tuple_end (I.ok.hd hc) hit p' (by simp; omega) fun h' e2 he' hx' => ?_)
    obtain ⟨o, ho, hc2⟩ := hx'
    refine wpAny_bind (wpAny_isInstance (T := "StopIteration") (b := true) ⟨o, ho, hc2⟩ isSubtype_stop ?_)
    exact wpAny_pure ⟨rfl, I.turned (t' := s.toks) (fun b o hb q => he' b o hb q) f0 f1 f3 f4 f5⟩
  self := fun A i s Q E st h => let ⟨⟨_, he⟩, _⟩ := st; wpAny_pyIter_enum he h
/-- enumerate(xs), xs a list or a tuple -/
def iEnumS (K : PySem.W.Frag) (ta : TA) : TI := fun σ H R => ta σ H fun vs H1 => ∃ a, vs = [.ref a] ∧ (((∃ xs, H1 a = some (.lst xs)) ∧ R (Ite K a) H1) ∨ ((∃ xs, H1 a = some (.tup xs)) ∧ R (IteT K a) H1))
theorem pi_enumS {X : Cx} {e : Expr} {ta : TA} {p pos tpos : Pos} {elts : List Expr} {kk : Nat} (hg : Gl X "enumerate") (hm : X.mg "enumerate" = none) (ha : PA X [e] ta) (hs : starEach [e] X.env = [(false, eval e X.env)] := by rfl) :
    PI X (.Tuple elts kk tpos) (.Call (.Name "enumerate" p) [e] [] pos) (iEnumS X.K ta) := by
  refine ⟨fun pins s σ H R I h => ?_⟩
  refine Call_ (ld_blt I hg hm boot_enumerate (PyProof.Rows.callWith_type1 (thn (ha.run pos pins s σ H _ I h) fun us s1 ⟨vs, H1, I1, r1, q1⟩ => ?_) hs rfl))
  obtain ⟨a, ex, q1⟩ := q1
  subst ex
  cases r1 with
  | cons r rr =>
    cases rr
    cases r
    rcases q1 with ⟨⟨xs, hq⟩, q⟩ | ⟨⟨xs, hq⟩, q⟩
    · obtain ⟨its, rv, p', hz⟩ := I1.list (SqL.of hq)
      refine call_enumerate_list p'.isList fun h' he hit hsz hk => wpAny_pyIter_enum he ?_
      have I2 : Inv X pins σ H1 { s1 with heap := h' } := I1.kept (t' := s1.toks) hk
      refine ⟨s1.heap.objs.size + 1, [s1.heap.objs.size + 1, s1.heap.objs.size], _, _, H1, rfl, I2, turn_enum a (s1.heap.objs.size + 1) s1.heap.objs.size, ⟨⟨.none, he⟩, hit, Nat.succ_ne_self _⟩, fun b hb => ?_, q⟩
      have e' : b = s1.heap.objs.size + 1 ∨ b = s1.heap.objs.size := by simpa using hb
      have hle : s1.heap.objs.size ≤ b := by
        rcases e' with z | z
        · rw [z]; exact Nat.le_add_right _ _
        · rw [z]; exact Nat.le_refl _
      exact I1.fpOk hle (I1.hok.fresh hle)
    · obtain ⟨its, rv, p', hz⟩ := I1.tuple (SqT.of hq)
      have p2 : s1.heap.IsTuple a its.toArray := p'
      have hal : a < s1.heap.objs.size := by obtain ⟨o, q, _⟩ := p2; exact Heap.lt_size q
      refine call_enumerate_tuple p2 fun h' he hit hsz hk => wpAny_pyIter_enum he ?_
      have I2 : Inv X pins σ H1 { s1 with heap := h' } := I1.kept (t' := s1.toks) hk
      refine ⟨s1.heap.objs.size + 1, [s1.heap.objs.size + 1, s1.heap.objs.size], _, _, H1, rfl, I2, turn_enumT a (s1.heap.objs.size + 1) s1.heap.objs.size (Nat.ne_of_lt hal) (Nat.ne_of_gt (Nat.lt_succ_of_lt hal)), ⟨⟨.none, he⟩, hit, Nat.succ_ne_self _⟩, fun b hb => ?_, q⟩
      have e' : b = s1.heap.objs.size + 1 ∨ b = s1.heap.objs.size := by simpa using hb
      have hle : s1.heap.objs.size ≤ b := by
        rcases e' with z | z
        · rw [z]; exact Nat.le_add_right _ _
        · rw [z]; exact Nat.le_refl _
      exact I1.fpOk hle (I1.hok.fresh hle)

/-! ### enumerate as a loop -/
theorem lp_enum {K : PySem.W.Frag} {g : TG} {tb : TS} {D : Ends} {σ : L2.St} {H : Hp} {a : Addr} {xs : List V} (h : sq (H a) = some xs) (Pv : Nat → L2.St → Hp → Prop) (h0 : Pv 0 σ H) (hl : ∀ i σ H', Pv i σ H' → H' a = H a)
    (hs : ∀ i x σ H, xs[i]? = some x → Pv i σ H → ∀ T, H T = none → g (.ref T) σ (L2.upd H T (.tup [.int (i : Nat), x])) fun σ2 H2 => tb { D with nx := Pv (i + 1), ct := Pv (i + 1), bk := D.nx } σ2 H2) (hd : ∀ σ H, Pv xs.length σ H → D.nx σ H) :
    ((∃ xs, H a = some (.lst xs)) ∧ LoopR (Ite K a) g tb D σ H) ∨ ((∃ xs, H a = some (.tup xs)) ∧ LoopR (IteT K a) g tb D σ H) := by
  rcases sq_cases h with e | e
  · refine .inl ⟨⟨_, e⟩, fun i m σ H => m = xs.length - i ∧ i ≤ xs.length ∧ Pv i σ H, ⟨_, rfl, Nat.zero_le _, h0⟩, ?_⟩
    rintro i m σ H' ⟨rfl, hi, p⟩
    have hq : SqL K H' a xs := SqL.of (by rw [hl i σ H' p, e])
    by_cases c : i < xs.length
    · refine .inr ⟨⟨xs, xs[i], hq, List.getElem?_eq_getElem c⟩, Pv (i + 1), fun σ' H2 q => ⟨_, by omega, rfl, c, q⟩, fun v H2 y => ?_⟩
      obtain ⟨T, x, rfl, hT, rfl, hx⟩ := y
      exact hs i x σ H' (hx xs hq) p T hT
    · exact .inl ⟨⟨xs, hq, by omega⟩, hd σ H' (by rw [show xs.length = i from by omega]; exact p)⟩
  · refine .inr ⟨⟨_, e⟩, fun i m σ H => m = xs.length - i ∧ i ≤ xs.length ∧ Pv i σ H, ⟨_, rfl, Nat.zero_le _, h0⟩, ?_⟩
    rintro i m σ H' ⟨rfl, hi, p⟩
    have hq : SqT K H' a xs := SqT.of (by rw [hl i σ H' p, e])
    by_cases c : i < xs.length
    · refine .inr ⟨⟨xs, xs[i], hq, List.getElem?_eq_getElem c⟩, Pv (i + 1), fun σ' H2 q => ⟨_, by omega, rfl, c, q⟩, fun v H2 y => ?_⟩
      obtain ⟨T, x, rfl, hT, rfl, hx⟩ := y
      exact hs i x σ H' (hx xs hq) p T hT
    · exact .inl ⟨⟨xs, hq, by omega⟩, hd σ H' (by rw [show xs.length = i from by omega]; exact p)⟩
theorem r_forE {K : PySem.W.Frag} {ta : TA} {g : TG} {tb : TS} {D : Ends} {σ : L2.St} {H : Hp} : tFor (iEnumS K ta) g tb D σ H = ta σ H (fun vs H1 => ∃ a, vs = [.ref a] ∧ (((∃ xs, H1 a = some (.lst xs)) ∧ LoopR (Ite K a) g tb D σ H1) ∨ ((∃ xs, H1 a = some (.tup xs)) ∧ LoopR (IteT K a) g tb D σ H1))) := rfl

/-! ### rows as they are handed in, rows as they are told -/
structure R3 where
  w : Str
  a : V
  l : Option Int
structure R4 where
  w : Str
  a : V
  l : Option Int
  h : V
def lnV : Option Int → V
  | none => .non
  | some i => .int i
def v3 (x : R3) : List V := [.str x.w, x.a, lnV x.l]
def v4 (x : R4) : List V := [.str x.w, x.a, lnV x.l, x.h]
def Rs3 (H : Hp) (F : Addr) (xs : List R3) : Prop := ∃ refs : List Addr, sq (H F) = some (refs.map V.ref) ∧ Paired (fun r x => H r = some (.tup (v3 x))) refs xs
def Rs4 (H : Hp) (F : Addr) (xs : List R4) : Prop := ∃ refs : List Addr, H F = some (.lst (refs.map V.ref)) ∧ Paired (fun r x => H r = some (.tup (v4 x))) refs xs
theorem Rs3.imp {H H' : Hp} {F : Addr} {xs : List R3} (h : Rs3 H F xs) (k : ∀ b ys, H b = some (.tup ys) → H' b = some (.tup ys)) (e : H' F = H F) : Rs3 H' F xs := by
  obtain ⟨refs, q, p⟩ := h
  exact ⟨refs, by rw [e]; exact q, Paired.map' p fun r x z => k _ _ z⟩
theorem sq_some {H : Hp} {F : Addr} {xs : List V} (h : sq (H F) = some xs) : ∃ o, H F = some o := by
  rcases sq_cases h with e | e <;> exact ⟨_, e⟩
theorem Rs3.same {H H' : Hp} {F : Addr} {xs : List R3} (h : Rs3 H F xs) (s : Same H H') : Rs3 H' F xs := by
  obtain ⟨refs, q, p⟩ := h
  obtain ⟨o, e⟩ := sq_some q
  exact ⟨refs, by rw [s _ _ e]; rw [e] at q; exact q, Paired.map' p fun r x z => s _ _ z⟩
theorem Rs4.same {H H' : Hp} {F : Addr} {xs : List R4} (h : Rs4 H F xs) (s : Same H H') : Rs4 H' F xs := by
  obtain ⟨refs, q, p⟩ := h
  exact ⟨refs, s _ _ q, Paired.map' p fun r x z => s _ _ z⟩
/-! ### the program's tables of words -/
def FW : List Str := (["LOAD_NAME", "POP_TOP", "POP_JUMP_IF_FALSE", "POP_JUMP_IF_TRUE", "POP_JUMP_IF_NONE", "POP_JUMP_IF_NOT_NONE", "JUMP", "JUMP_NO_INTERRUPT", "LABEL", "NOP", "TO_BOOL"] : List Str) ++ (["RETURN_VALUE", "LOAD_FAST", "STORE_FAST", "DELETE_FAST", "LOAD_CONST", "SETUP_FINALLY", "SETUP_CLEANUP", "SETUP_WITH", "POP_BLOCK", "YIELD_VALUE", "RESUME"] : List Str) ++ (["RERAISE", "LOAD_FAST_CHECK", "RETURN_CONST", "COMPARE_OP", "IS_OP", "CONTAINS_OP", "UNARY_NOT", "LOAD_GLOBAL", "PUSH_NULL", "CALL"] : List Str)
def leading (z : Str) : Bool := decide (z ∈ (["JUMP", "JUMP_NO_INTERRUPT", "POP_JUMP_IF_FALSE", "POP_JUMP_IF_TRUE", "POP_JUMP_IF_NONE", "POP_JUMP_IF_NOT_NONE"] : List Str))
def leaving (z : Str) : Bool := decide (z ∈ (["JUMP", "JUMP_NO_INTERRUPT", "RETURN_VALUE", "RETURN_CONST", "RERAISE"] : List Str))
def turning (z : Str) : Bool := leading z || (leaving z || decide (z = "LABEL"))
def direct (z : Str) : Bool := decide (z ∈ (["JUMP", "JUMP_NO_INTERRUPT"] : List Str))
def testing (z : Str) : Bool := decide (z ∈ (["POP_JUMP_IF_FALSE", "POP_JUMP_IF_TRUE", "POP_JUMP_IF_NONE", "POP_JUMP_IF_NOT_NONE"] : List Str))
def oppos (z : Str) : Str := if z = "POP_JUMP_IF_FALSE" then "POP_JUMP_IF_TRUE" else if z = "POP_JUMP_IF_TRUE" then "POP_JUMP_IF_FALSE" else if z = "POP_JUMP_IF_NONE" then "POP_JUMP_IF_NOT_NONE" else "POP_JUMP_IF_NONE"
structure InW (K : PySem.W.Frag) (w : World) (mg : Str → Option Value) (x : Str) (D : Addr) (f : Str → Bool) : Prop where
  kd : ∃ es n, KDict K w D es n
  g : mg x = some (.ref D)
  ok : ∀ z ∈ FW, ∃ o, PySem.W.nsIn K D z = some o ∧ o.isSome = f z
def rInT (K : PySem.W.Frag) (D : Addr) : R2 := fun x y H Q => ∃ (z : Str) (r : Option Value), x = .str z ∧ y = .ref D ∧ PySem.W.nsIn K D z = some r ∧ Q (.bl r.isSome) H
theorem op_inTK {X : Cx} (K : PySem.W.Frag) (w : World) (hK : X.K = K) (hw : X.w = w) {D : Addr} (h : ∃ es n, KDict K w D es n) : OpR X (compareOp .In) (rInT K D) := by
  subst hK
  subst hw
  obtain ⟨es, n, h⟩ := h
  exact op_in_kd h
theorem op_ninTK {X : Cx} (K : PySem.W.Frag) (w : World) (hK : X.K = K) (hw : X.w = w) {D : Addr} (h : ∃ es n, KDict K w D es n) : OpR X (compareOp .NotIn) (fun x y H Q => ∃ (z : Str) (r : Option Value), x = .str z ∧ y = .ref D ∧ PySem.W.nsIn K D z = some r ∧ Q (.bl (!r.isSome)) H) := by
  subst hK
  subst hw
  obtain ⟨es, n, h⟩ := h
  exact op_notIn_kd h
theorem InW.inT {K : PySem.W.Frag} {w : World} {mg : Str → Option Value} {x : Str} {D : Addr} {f : Str → Bool} (h : InW K w mg x D f) {z : Str} (hz : z ∈ FW) {H : Hp} {Q : VK} (k : Q (.bl (f z)) H) : rInT K D (.str z) (.ref D) H Q := by
  obtain ⟨o, e, q⟩ := h.ok z hz
  exact ⟨z, o, rfl, rfl, e, by rw [q]; exact k⟩
theorem InW.ninT {K : PySem.W.Frag} {w : World} {mg : Str → Option Value} {x : Str} {D : Addr} {f : Str → Bool} (h : InW K w mg x D f) {z : Str} (hz : z ∈ FW) {H : Hp} {Q : VK} (k : Q (.bl (!f z)) H) : (fun x y H Q => ∃ (z : Str) (r : Option Value), x = V.str z ∧ y = .ref D ∧ PySem.W.nsIn K D z = some r ∧ Q (.bl (!r.isSome)) H : R2) (.str z) (.ref D) H Q := by
  obtain ⟨o, e, q⟩ := h.ok z hz
  exact ⟨z, o, rfl, rfl, e, by rw [q]; exact k⟩
/-- the words of rows, as a dict -/
def WdD (H : Hp) (D : Addr) (f : Str → Bool) : Prop := ∃ kvs : List (Key × V), H D = some (.dK kvs) ∧ ∀ z : Str, (valV kvs (Sum.inr z : Key)).isSome = f z
theorem WdD.same {H H' : Hp} {D : Addr} {f : Str → Bool} (h : WdD H D f) (s : Same H H') : WdD H' D f := let ⟨kvs, e, k⟩ := h; ⟨kvs, s _ _ e, k⟩
theorem WdD.get {H : Hp} {D : Addr} {f : Str → Bool} (h : WdD H D f) (z : Str) : ∃ o, DGet H D (.str z) o ∧ o.isSome = f z := by
  obtain ⟨kvs, e, k⟩ := h
  exact ⟨_, DGet.k (k := (Sum.inr z : Key)) e, k z⟩
def hasW (ws : List Str) (z : Str) : Bool := decide (z ∈ ws)
theorem hasW_app (a : List Str) (x z : Str) : hasW (a ++ [x]) z = (hasW a z || decide (z = x)) := by
  unfold hasW
  simp
def spWords : Sp := fun vs H Q _ => ∃ (F : Addr) (ws : List Str), vs = [.ref F] ∧ (∃ refs : List Addr, sq (H F) = some (refs.map V.ref) ∧ Paired (fun r z => ∃ ys, H r = some (.tup (.str z :: ys))) refs ws) ∧ ws.length ≤ 100000 ∧ ∀ D H', H D = none → Same H H' → WdD H' D (hasW ws) → Q (.ref D) H'
section
variable {P : Program} {w : World} {K : PySem.W.Frag} {mg : Str → Option Value} {base : Heap} {f : Addr} {fd : FuncData}
abbrev swords_in : Stmt := top 32
theorem scwords_in : FnScope ["rows", "row"] ["rows"] (defScope swords_in) := ⟨rfl, rfl, rfl, by decide +kernel, rfl, by decide +kernel, by decide +kernel⟩

theorem ok_words_in (F : FnP K "words_in" "words_in" swords_in f fd) : FnOk P w K mg base CX0 1 f fd ["rows"] spWords := by
  refine F.ok scwords_in (fun vs H Q E h => ?_) (fun cdv A outer s H vs Q E hr h => ?_)
  · obtain ⟨F, ws, rfl, _⟩ := h
    rfl
  · obtain ⟨F, ws, rfl, ⟨refs, hF, hP⟩, hl, k⟩ := h
    refine ⟨_, PSs.nox (pss_one (ps_ret (pe_dc (own := [("row", 1)]) (g := gName 1) (tt := tYes) rfl scwords_in.nd (pi_seqV 0) (blkOk_by (own := [("row", 1)]) (N := ["rows", "row"]) (sc := defScope swords_in) (by decide +kernel)) (fun _ _ _ _ _ => (pg_name (i := 1) scwords_in.nd rfl (Or.inl rfl))) (fun _ _ _ _ _ => pts_nil) (fun _ _ _ _ _ => (pe_ix ix_d (pv 1) pe_int (fun _ _ => rfl))) (fun _ _ _ _ _ => pe_bl)))), ?_⟩
    show (_ : TS) _ [some (.ref F), none] H
    simp only [r_seq, r_next, r_brk, r_cont, r_asg, r_name, r_ret, r_retN, r_drop, r_ifs, r_never, r_var, r_c, r_op, r_un, r_if, r_tst, r_b, r_not, r_and, r_or, r_andV, r_orV, r_notV, r_nil, r_cons, r_tup, r_lst, r_cb, r_call, r_bm, r_bm0, r_sl, r_nopart, r_part, r_rev, r_gnil, r_gcons, r_gsub, r_par, r_aug, r_chain, r_I0, r_I, r_U, r_ixd, r_lend, r_tupd, r_listd, r_sld, r_app, r_ext, r_reverse, r_setl, r_cat, r_int1, r_eqS, r_neS, scal_ii, scal_bb, scal_ss, at0, at1, at2, sq_lst, sq_tup, isLst_lst, List.getElem?_cons_zero, List.getElem?_cons_succ, List.set_cons_zero, List.set_cons_succ, V.int.injEq, V.bl.injEq, V.ref.injEq, V.str.injEq, HO.lst.injEq, HO.tup.injEq, Option.some.injEq, exists_eq_left', exists_eq_left, List.cons.injEq, and_true, true_and, decide_eq_true_eq, reduceCtorEq, false_and, exists_false, or_false, false_or, exists_const, and_assoc, exists_and_left, List.append_nil, ix0, ix1, ix2, cm_mod, cdw1009, cdw2003, cdw7, cdw64, cdw2, cm104729, cm2, cm3, upd_same, List.length_cons, List.length_nil, Int.reduceLT, Int.reduceLE, Nat.reduceAdd, Nat.reduceLeDiff, Nat.reduceLT, Int.reduceToNat, r_for1, r_forL, r_forT, r_lcL, r_lc1, r_yes, r_gtupD, wipe_0, wipe_1, List.cons_append, List.nil_append, r_forS, r_ipI, ite_false, ite_true, Bool.not_true, Bool.not_false, decide_true, decide_false, r_isd, r_islt, cD_ty, cD_ref, tD_non, tD_bl, tD_int, tD_str, tD_ref, tH_lst, tH_tup, tH_dK, tH_ins, ki_self, ki_int_bool, ki_non_int, ki_str_int, ki_lt_lst, ki_lt_tup, r_fld, r_sfld, HO.ins.injEq, cx_K]
    rw [r_dcV]
    have lw := Paired.length hP
    refine ⟨F, rfl, ?_⟩
    have step : ∀ (D : Addr) (i : Nat) (x : V) (H2 : Hp), H D = none → (refs.map V.ref)[i]? = some x → (Same H H2 ∧ ∃ kvs : List (Key × V), H2 D = some (.dK kvs) ∧ kvs.length ≤ i ∧ ∀ z : Str, (valV kvs (Sum.inr z : Key)).isSome = hasW (ws.take i) z) → gName 1 x (wipe [some (.ref F), none] (List.map (fun x => x.snd) [(Str.ofString "row", 1)])) H2 fun σ2 H2 => wipe σ2 (List.map (fun x => x.snd) [(Str.ofString "row", 1)]) = wipe [some (.ref F), none] (List.map (fun x => x.snd) [(Str.ofString "row", 1)]) ∧ tYes σ2 H2 fun b H3 => if b = true then (tOp rIxd (tVar 1) (tC (V.int 0))) σ2 H3 fun y H4 => (tC (V.bl true)) σ2 H4 fun z H5 => ∃ kvs k, y = kV k ∧ H5 D = some (.dK kvs) ∧ kvs.length < sizeLine ∧ (Same H (L2.upd H5 D (.dK (putK kvs k z))) ∧ ∃ kvs' : List (Key × V), L2.upd H5 D (.dK (putK kvs k z)) D = some (.dK kvs') ∧ kvs'.length ≤ i + 1 ∧ ∀ z : Str, (valV kvs' (Sum.inr z : Key)).isSome = hasW (ws.take (i + 1)) z) else (Same H H3 ∧ ∃ kvs : List (Key × V), H3 D = some (.dK kvs) ∧ kvs.length ≤ i + 1 ∧ ∀ z : Str, (valV kvs (Sum.inr z : Key)).isSome = hasW (ws.take (i + 1)) z) := by
      rintro D i x H2 hD hx ⟨s2, kvs, eD, lk, mk⟩
      rw [List.getElem?_map] at hx
      obtain ⟨r, hr1, rfl⟩ := Option.map_eq_some_iff.mp hx
      obtain ⟨hi0, e0⟩ := List.getElem?_eq_some_iff.mp hr1
      have hi' : i < ws.length := by rw [← lw]; exact hi0
      have hrt := Paired.at' hP hi0 hi'
      rw [e0] at hrt
      obtain ⟨ys, er⟩ := hrt
      have er2 := s2 _ _ er
      have tk : ws.take (i + 1) = ws.take i ++ [ws[i]] := by rw [List.take_add_one, List.getElem?_eq_getElem hi']; rfl
      show gName 1 (.ref r) [some (.ref F), none] H2 _
      simp only [r_seq, r_next, r_brk, r_cont, r_asg, r_name, r_ret, r_retN, r_drop, r_ifs, r_never, r_var, r_c, r_op, r_un, r_if, r_tst, r_b, r_not, r_and, r_or, r_andV, r_orV, r_notV, r_nil, r_cons, r_tup, r_lst, r_cb, r_call, r_bm, r_bm0, r_sl, r_nopart, r_part, r_rev, r_gnil, r_gcons, r_gsub, r_par, r_aug, r_chain, r_I0, r_I, r_U, r_ixd, r_lend, r_tupd, r_listd, r_sld, r_app, r_ext, r_reverse, r_setl, r_cat, r_int1, r_eqS, r_neS, scal_ii, scal_bb, scal_ss, at0, at1, at2, sq_lst, sq_tup, isLst_lst, List.getElem?_cons_zero, List.getElem?_cons_succ, List.set_cons_zero, List.set_cons_succ, V.int.injEq, V.bl.injEq, V.ref.injEq, V.str.injEq, HO.lst.injEq, HO.tup.injEq, Option.some.injEq, exists_eq_left', exists_eq_left, List.cons.injEq, and_true, true_and, decide_eq_true_eq, reduceCtorEq, false_and, exists_false, or_false, false_or, exists_const, and_assoc, exists_and_left, List.append_nil, ix0, ix1, ix2, cm_mod, cdw1009, cdw2003, cdw7, cdw64, cdw2, cm104729, cm2, cm3, upd_same, List.length_cons, List.length_nil, Int.reduceLT, Int.reduceLE, Nat.reduceAdd, Nat.reduceLeDiff, Nat.reduceLT, Int.reduceToNat, r_for1, r_forL, r_forT, r_lcL, r_lc1, r_yes, r_gtupD, wipe_0, wipe_1, List.cons_append, List.nil_append, r_forS, r_ipI, ite_false, ite_true, Bool.not_true, Bool.not_false, decide_true, decide_false, r_isd, r_islt, cD_ty, cD_ref, tD_non, tD_bl, tD_int, tD_str, tD_ref, tH_lst, tH_tup, tH_dK, tH_ins, ki_self, ki_int_bool, ki_non_int, ki_str_int, ki_lt_lst, ki_lt_tup, r_fld, r_sfld, HO.ins.injEq, cx_K, er2]
      refine ⟨rfl, _, Sum.inr ws[i], rfl, eD, Nat.lt_of_le_of_lt (by omega : _ ≤ 100000) (by decide), fun b o e => by rw [upd_ne (ne_new e hD)]; exact s2 _ _ e, _, rfl, Nat.le_trans (length_putK kvs (Sum.inr ws[i]) (V.bl true)) (by omega), fun z => ?_⟩
      rw [valV_put, tk, hasW_app]
      by_cases c : z = ws[i]
      · rw [if_pos (by rw [c]), decide_eq_true c, Bool.or_true]
        rfl
      · rw [if_neg (by simpa using c), mk, decide_eq_false c, Bool.or_false]
    rcases sq_cases hF with e | e
    · refine .inl ⟨⟨_, e⟩, fun D hD => cd_list (xs := refs.map V.ref) (fun i H' => Same H H' ∧ ∃ kvs : List (Key × V), H' D = some (.dK kvs) ∧ kvs.length ≤ i ∧ ∀ z : Str, (valV kvs (Sum.inr z : Key)).isSome = hasW (ws.take i) z) ⟨Same.new' (Same.refl H) hD, [], upd_same, Nat.le_refl _, fun z => rfl⟩ (fun i H' _ q => SqL.of (q.1 _ _ e)) (fun i x H2 hx p => step D i x H2 hD hx p) fun H2 p => ?_⟩
      obtain ⟨s2, kvs, eD, lk, mk⟩ := p
      rw [List.length_map, lw, List.take_length] at mk
      exact k D H2 hD s2 ⟨kvs, eD, mk⟩
    · refine .inr ⟨⟨_, e⟩, fun D hD => cd_tup (xs := refs.map V.ref) (fun i H' => Same H H' ∧ ∃ kvs : List (Key × V), H' D = some (.dK kvs) ∧ kvs.length ≤ i ∧ ∀ z : Str, (valV kvs (Sum.inr z : Key)).isSome = hasW (ws.take i) z) ⟨Same.new' (Same.refl H) hD, [], upd_same, Nat.le_refl _, fun z => rfl⟩ (fun i H' _ q => SqT.of (q.1 _ _ e)) (fun i x H2 hx p => step D i x H2 hD hx p) fun H2 p => ?_⟩
      obtain ⟨s2, kvs, eD, lk, mk⟩ := p
      rw [List.length_map, lw, List.take_length] at mk
      exact k D H2 hD s2 ⟨kvs, eD, mk⟩
end
end C38

set_option maxHeartbeats 2000000
namespace C38
open PySem PySem.Spec PyProof.Rows L2
/-! ### labels that are told, labels that are unknown -/
def uK (u : List (Int × Bool)) : List (Key × V) := u.map fun p => (Sum.inl p.1, V.bl p.2)
def putU (u : List (Int × Bool)) (n : Int) (b : Bool) : List (Int × Bool) := if (u.any fun p => decide (p.1 = n)) = true then u.map (fun p => if p.1 = n then (p.1, b) else p) else u ++ [(n, b)]
theorem uK_put (u : List (Int × Bool)) (n : Int) (b : Bool) : putK (uK u) (Sum.inl n : Key) (.bl b) = uK (putU u n b) := by
  have inj : ∀ m : Int, ((Sum.inl m : Key) = Sum.inl n) = (m = n) := fun m => propext ⟨fun e => Sum.inl.inj e, fun e => by rw [e]⟩
  have e1 : ((uK u).any fun kv => decide (kv.1 = (Sum.inl n : Key))) = u.any fun p => decide (p.1 = n) := by
    unfold uK
    rw [List.any_map]
    congr 1
    funext p
    show decide ((Sum.inl p.1 : Key) = Sum.inl n) = decide (p.1 = n)
    simp only [inj]
  unfold putK putU
  rw [e1]
  split
  · unfold uK
    rw [List.map_map, List.map_map]
    congr 1
    funext p
    show (if (Sum.inl p.1 : Key) = Sum.inl n then ((Sum.inl p.1 : Key), V.bl b) else (Sum.inl p.1, V.bl p.2)) = (Sum.inl (if p.1 = n then (p.1, b) else p).1, V.bl (if p.1 = n then (p.1, b) else p).2)
    simp only [inj]
    split <;> rfl
  · unfold uK
    rw [List.map_append]
    rfl
theorem putU_len (u : List (Int × Bool)) (n : Int) (b : Bool) : (putU u n b).length ≤ u.length + 1 := by
  unfold putU
  split
  · rw [List.length_map]; omega
  · rw [List.length_append]; exact Nat.le_refl _
def TdD (H : Hp) (T : Addr) (t : List Int) : Prop := ∃ kvs : List (Key × V), H T = some (.dK kvs) ∧ kvs.length ≤ t.length ∧ ∀ n : Int, (valV kvs (Sum.inl n : Key)).isSome = decide (n ∈ t)
theorem TdD.get {H : Hp} {T : Addr} {t : List Int} (h : TdD H T t) (n : Int) : ∃ o, DGet H T (.int n) o ∧ o.isSome = decide (n ∈ t) := by
  obtain ⟨kvs, e, _, k⟩ := h
  exact ⟨_, DGet.k (k := (Sum.inl n : Key)) e, k n⟩
theorem TdD.put {H : Hp} {T : Addr} {t : List Int} {n : Int} {v : V} (h : TdD H T t) (hl : t.length ≤ 200000) : ∃ H', DPut H T (.int n) v H' ∧ TdD H' T (n :: t) ∧ ∀ b, b ≠ T → H' b = H b := by
  obtain ⟨kvs, e, l, k⟩ := h
  refine ⟨_, DPut.k (k := (Sum.inl n : Key)) e (Nat.lt_of_le_of_lt (by omega : _ ≤ 200000) (by decide)), ⟨_, upd_same, Nat.le_trans (length_putK kvs (Sum.inl n) v) (by rw [List.length_cons]; omega), fun m => ?_⟩, fun b nb => upd_ne nb⟩
  rw [valV_put]
  by_cases c : m = n
  · rw [if_pos (by rw [c]), c]
    simp
  · rw [if_neg (by simpa using c), k]
    simp [c]
theorem TdD.imp {H H' : Hp} {T : Addr} {t : List Int} (h : TdD H T t) (e : H' T = H T) : TdD H' T t := let ⟨kvs, q, l, k⟩ := h; ⟨kvs, by rw [e]; exact q, l, k⟩
/-! ### rows gone through, without handlers -/
structure Go where
  f : List R4
  u : List (Int × Bool)
  t : List Int
  live : Bool
def labI : V → Int
  | .int n => n
  | _ => 0
def goStep (g : Go) (x : R3) : Go :=
  if x.w = "LABEL" then
    (if labI x.a ∈ g.t then { g with f := g.f ++ [⟨x.w, x.a, none, .non⟩], live := true } else { g with f := g.f ++ [⟨x.w, x.a, none, .non⟩], u := putU g.u (labI x.a) g.live })
  else if g.live = true then { g with f := g.f ++ [⟨x.w, x.a, x.l, .non⟩], t := if leading x.w = true then labI x.a :: g.t else g.t, live := !leaving x.w }
  else g
def goTo (t : List Int) (xs : List R3) : Go := xs.foldl goStep ⟨[], [], t, true⟩
theorem go_snoc {t : List Int} {xs : List R3} {i : Nat} {x : R3} (h : xs[i]? = some x) : goTo t (xs.take (i + 1)) = goStep (goTo t (xs.take i)) x := by
  unfold goTo
  rw [List.take_add_one, h, List.foldl_append]
  rfl
structure GoL (g : Go) (t : List Int) (i : Nat) : Prop where
  f : g.f.length ≤ i
  u : g.u.length ≤ i
  t : g.t.length ≤ t.length + i
theorem go_len (t : List Int) (xs : List R3) : ∀ i, i ≤ xs.length → GoL (goTo t (xs.take i)) t i
  | 0, _ => ⟨Nat.le_refl _, Nat.le_refl _, Nat.le_refl _⟩
  | i + 1, h => by
    have ih := go_len t xs i (by omega)
    have hi : xs[i]? = some xs[i] := List.getElem?_eq_getElem (by omega)
    rw [go_snoc hi]
    generalize goTo t (xs.take i) = g at *
    obtain ⟨i1, i2, i3⟩ := ih
    unfold goStep
    have pl := putU_len g.u (labI xs[i].a) g.live
    split
    · split
      · exact ⟨by simp; omega, by show g.u.length ≤ _; omega, by show g.t.length ≤ _; omega⟩
      · exact ⟨by simp; omega, by show (putU _ _ _).length ≤ _; omega, by show g.t.length ≤ _; omega⟩
    · split
      · refine ⟨by simp; omega, by show g.u.length ≤ _; omega, ?_⟩
        show (if leading xs[i].w = true then labI xs[i].a :: g.t else g.t).length ≤ _
        split
        · rw [List.length_cons]; omega
        · omega
      · exact ⟨by omega, by omega, by omega⟩
/-- a row as the passes take it -/
structure Ok3 (x : R3) : Prop where
  w : x.w ∈ FW
  a : (x.w = "LABEL" ∨ leading x.w = true) → ∃ n : Int, x.a = .int n
  l : x.w = "LABEL" → x.l = none
def Kp3 (T F U : Addr) (H H' : Hp) : Prop := ∀ b o, b ≠ T → b ≠ F → b ≠ U → H b = some o → H' b = some o
def spRW : Sp := fun vs H Q _ => ∃ (F T : Addr) (xs : List R3) (t : List Int), vs = [.ref F, .ref T] ∧ Rs3 H F xs ∧ (∀ x ∈ xs, Ok3 x) ∧ xs.length ≤ 50000 ∧ TdD H T t ∧ t.length ≤ 100000 ∧
  ∀ p F' U H', Keep T H H' → H F' = none → H U = none → H' p = some (.tup [.ref F', .ref U]) → Rs4 H' F' (goTo t xs).f → H' U = some (.dK (uK (goTo t xs).u)) → TdD H' T (goTo t xs).t → Q (.ref p) H'
def t_rwb (K : PySem.W.Frag) (D1 D2 D3 NH : Addr) : TS := tIfS (tTest (tOp rEq (tVar 5) (tC (V.str (Str.ofString "LABEL"))))) (tSeq (tIfS (tB (tDNotIn (tVar 6) (tVar 1))) (sDPut (tVar 3) (tVar 6) (tVar 4)) (tAsg (tC (V.bl true)) (gName 4))) (tDrop (tBM K "list" rAppend (tVar 2) (tCons (tTup (tCons (tVar 5) (tCons (tVar 6) (tCons (tC V.non) (tCons (tC V.non) tNil))))) tNil)))) (tIfS (tB (tVar 4)) (tSeq (tDrop (tBM K "list" rAppend (tVar 2) (tCons (tTup (tCons (tVar 5) (tCons (tVar 6) (tCons (tVar 7) (tCons (tC V.non) tNil))))) tNil))) (tIfS (tTest (tOp (rInT K D1) (tVar 5) (tC (V.ref D1)))) (tSeq (tIfS (tTest (tOp (rInT K D2) (tVar 5) (tC (V.ref D2)))) (sDPut (tVar 1) (tVar 6) (tC (V.ref NH))) tNext) (tAsg (tOp (fun x y H Q => ∃ z r, x = V.str z ∧ y = V.ref D3 ∧ PySem.W.nsIn K D3 z = some r ∧ Q (V.bl !r.isSome) H) (tVar 5) (tC (V.ref D3))) (gName 4))) tNext)) tNext)
def t_rw1 : TS := tAsg (tLst tNil) (gName 2)
def t_rw2 : TS := tAsg tDNewK (gName 3)
def t_rw3 : TS := tAsg (tC (V.bl true)) (gName 4)
def t_rw4 (K : PySem.W.Frag) (D1 D2 D3 NH : Addr) : TS := tFor (iSeqV K 0) (gTupD 3 (gCons (gName 5) (gCons (gName 6) (gCons (gName 7) gNil)))) (t_rwb K D1 D2 D3 NH)
def t_rw5 : TS := tRet (tTup (tCons (tVar 2) (tCons (tVar 3) tNil)))
def t_rw (K : PySem.W.Frag) (D1 D2 D3 NH : Addr) : TS := tSeq t_rw1 (tSeq t_rw2 (tSeq t_rw3 (tSeq (t_rw4 K D1 D2 D3 NH) t_rw5)))
def S8 (F T F' U : Addr) (live : Bool) (v5 v6 v7 : Option V) : L2.St := [some (.ref F), some (.ref T), some (.ref F'), some (.ref U), some (.bl live), v5, v6, v7]
def LvW (F T F' U : Addr) (xs : List R3) (t : List Int) (H0 : Hp) (i : Nat) (σ : L2.St) (H : Hp) : Prop := ∃ v5 v6 v7, σ = S8 F T F' U (goTo t (xs.take i)).live v5 v6 v7 ∧ Kp3 T F' U H0 H ∧ Rs4 H F' (goTo t (xs.take i)).f ∧ H U = some (.dK (uK (goTo t (xs.take i)).u)) ∧ TdD H T (goTo t (xs.take i)).t
/-- one row more at the end -/
theorem rs4_app {H : Hp} {F r : Addr} {refs : List Addr} {fs : List R4} {y : R4} (hF : H F = some (.lst (refs.map V.ref))) (p : Paired (fun r x => H r = some (.tup (v4 x))) refs fs) (hr : H r = none) :
    Rs4 (L2.upd (L2.upd H r (.tup (v4 y))) F (.lst (refs.map V.ref ++ [.ref r]))) F (fs ++ [y]) ∧ ∀ b o, b ≠ F → H b = some o → L2.upd (L2.upd H r (.tup (v4 y))) F (.lst (refs.map V.ref ++ [.ref r])) b = some o := by
  have rF : r ≠ F := fun z => by rw [z, hF] at hr; cases hr
  have k : ∀ b o, b ≠ F → H b = some o → L2.upd (L2.upd H r (.tup (v4 y))) F (.lst (refs.map V.ref ++ [.ref r])) b = some o := fun b o nb e => by
    rw [upd_ne nb, upd_ne (ne_new e hr)]
    exact e
  refine ⟨⟨refs ++ [r], by rw [upd_same, List.map_append]; rfl, Paired.snoc' (Paired.map' p fun b x e => k _ _ (fun z => by rw [z, hF] at e; cases e) e) ?_⟩, k⟩
  rw [upd_ne rF, upd_same]
theorem rwb_run {K : PySem.W.Frag} {w : World} {mg : Str → Option Value} {D1 D2 D3 NH : Addr} (TT : InW K w mg "TURNING" D1 turning) (TL : InW K w mg "LEADING" D2 leading) (TV : InW K w mg "LEAVING" D3 leaving) {D : Ends} {F T F' U : Addr} {g : Go} {x : R3} {H : Hp} (ok : Ok3 x) (rF : Rs4 H F' g.f) (eU : H U = some (.dK (uK g.u))) (tT : TdD H T g.t) (lf : g.f.length ≤ 60000) (lu : g.u.length ≤ 60000) (lt : g.t.length ≤ 200000) (n1 : T ≠ F') (n2 : T ≠ U) (n3 : F' ≠ U)
    (k : ∀ H', Kp3 T F' U H H' → Rs4 H' F' (goStep g x).f → H' U = some (.dK (uK (goStep g x).u)) → TdD H' T (goStep g x).t → D.nx (S8 F T F' U (goStep g x).live (some (.str x.w)) (some x.a) (some (lnV x.l))) H') : t_rwb K D1 D2 D3 NH D (S8 F T F' U g.live (some (.str x.w)) (some x.a) (some (lnV x.l))) H := by
  obtain ⟨refs, eF, pF⟩ := rF
  have lr := Paired.length pF
  unfold t_rwb S8
  simp only [r_seq, r_next, r_brk, r_cont, r_asg, r_name, r_ret, r_retN, r_drop, r_ifs, r_never, r_var, r_c, r_op, r_un, r_if, r_tst, r_b, r_not, r_and, r_or, r_andV, r_orV, r_notV, r_nil, r_cons, r_tup, r_lst, r_cb, r_call, r_bm, r_bm0, r_sl, r_nopart, r_part, r_rev, r_gnil, r_gcons, r_gsub, r_par, r_aug, r_chain, r_I0, r_I, r_U, r_ixd, r_lend, r_tupd, r_listd, r_sld, r_app, r_ext, r_reverse, r_setl, r_cat, r_int1, r_eqS, r_neS, scal_ii, scal_bb, scal_ss, at0, at1, at2, sq_lst, sq_tup, isLst_lst, List.getElem?_cons_zero, List.getElem?_cons_succ, List.set_cons_zero, List.set_cons_succ, V.int.injEq, V.bl.injEq, V.ref.injEq, V.str.injEq, HO.lst.injEq, HO.tup.injEq, Option.some.injEq, exists_eq_left', exists_eq_left, List.cons.injEq, and_true, true_and, decide_eq_true_eq, reduceCtorEq, false_and, exists_false, or_false, false_or, exists_const, and_assoc, exists_and_left, List.append_nil, ix0, ix1, ix2, cm_mod, cdw1009, cdw2003, cdw7, cdw64, cdw2, cm104729, cm2, cm3, upd_same, List.length_cons, List.length_nil, Int.reduceLT, Int.reduceLE, Nat.reduceAdd, Nat.reduceLeDiff, Nat.reduceLT, Int.reduceToNat, r_for1, r_forL, r_forT, r_lcL, r_lc1, r_yes, r_gtupD, wipe_0, wipe_1, List.cons_append, List.nil_append, r_forS, r_ipI, ite_false, ite_true, Bool.not_true, Bool.not_false, decide_true, decide_false, r_isd, r_islt, cD_ty, cD_ref, tD_non, tD_bl, tD_int, tD_str, tD_ref, tH_lst, tH_tup, tH_dK, tH_ins, ki_self, ki_int_bool, ki_non_int, ki_str_int, ki_lt_lst, ki_lt_tup, r_fld, r_sfld, HO.ins.injEq, cx_K]
  by_cases c1 : x.w = "LABEL"
  · obtain ⟨n, en⟩ := ok.a (.inl c1)
    have el := ok.l c1
    obtain ⟨o, dg, os⟩ := tT.get n
    rw [if_pos c1]
    unfold goStep at k
    rw [if_pos c1] at k
    rw [show labI x.a = n by rw [en]; rfl] at k
    rw [en] at k
    simp only [r_seq, r_next, r_brk, r_cont, r_asg, r_name, r_ret, r_retN, r_drop, r_ifs, r_never, r_var, r_c, r_op, r_un, r_if, r_tst, r_b, r_not, r_and, r_or, r_andV, r_orV, r_notV, r_nil, r_cons, r_tup, r_lst, r_cb, r_call, r_bm, r_bm0, r_sl, r_nopart, r_part, r_rev, r_gnil, r_gcons, r_gsub, r_par, r_aug, r_chain, r_I0, r_I, r_U, r_ixd, r_lend, r_tupd, r_listd, r_sld, r_app, r_ext, r_reverse, r_setl, r_cat, r_int1, r_eqS, r_neS, scal_ii, scal_bb, scal_ss, at0, at1, at2, sq_lst, sq_tup, isLst_lst, List.getElem?_cons_zero, List.getElem?_cons_succ, List.set_cons_zero, List.set_cons_succ, V.int.injEq, V.bl.injEq, V.ref.injEq, V.str.injEq, HO.lst.injEq, HO.tup.injEq, Option.some.injEq, exists_eq_left', exists_eq_left, List.cons.injEq, and_true, true_and, decide_eq_true_eq, reduceCtorEq, false_and, exists_false, or_false, false_or, exists_const, and_assoc, exists_and_left, List.append_nil, ix0, ix1, ix2, cm_mod, cdw1009, cdw2003, cdw7, cdw64, cdw2, cm104729, cm2, cm3, upd_same, List.length_cons, List.length_nil, Int.reduceLT, Int.reduceLE, Nat.reduceAdd, Nat.reduceLeDiff, Nat.reduceLT, Int.reduceToNat, r_for1, r_forL, r_forT, r_lcL, r_lc1, r_yes, r_gtupD, wipe_0, wipe_1, List.cons_append, List.nil_append, r_forS, r_ipI, ite_false, ite_true, Bool.not_true, Bool.not_false, decide_true, decide_false, r_isd, r_islt, cD_ty, cD_ref, tD_non, tD_bl, tD_int, tD_str, tD_ref, tH_lst, tH_tup, tH_dK, tH_ins, ki_self, ki_int_bool, ki_non_int, ki_str_int, ki_lt_lst, ki_lt_tup, r_fld, r_sfld, HO.ins.injEq, cx_K, r_dnin, en]
    refine ⟨o, dg, ?_⟩
    rw [os]
    have szf : (refs.map V.ref).length < sizeLine := Nat.lt_of_le_of_lt (by rw [List.length_map]; omega : _ ≤ 60000) (by decide)
    by_cases hn : n ∈ g.t
    · rw [if_neg (by simp [hn])]
      rw [if_pos hn] at k
      refine ⟨tyl eF, szl (by decide), fun p hp => ⟨_, by rw [upd_ne (ne_new eF hp)]; exact eF, szf, ?_⟩⟩
      obtain ⟨q1, q2⟩ := rs4_app (y := ⟨x.w, .int n, none, .non⟩) eF pF hp
      refine k _ (fun b o _ nF _ e => q2 _ _ nF e) ?_ (q2 _ _ n3.symm eU) (tT.imp ?_)
      · exact q1
      · rw [upd_ne n1, upd_ne (fun z => by obtain ⟨kvs, e, _⟩ := tT; rw [z, hp] at e; cases e)]
    · rw [if_pos (by simp [hn])]
      rw [if_neg hn] at k
      have eU1 : L2.upd H U (.dK (uK (putU g.u n g.live))) U = some (.dK (uK (putU g.u n g.live))) := upd_same
      have dp : DPut H U (.int n) (.bl g.live) (L2.upd H U (.dK (uK (putU g.u n g.live)))) := by
        have := DPut.k (k := (Sum.inl n : Key)) (v := .bl g.live) eU (Nat.lt_of_le_of_lt (by unfold uK; rw [List.length_map]; omega : _ ≤ 60000) (by decide))
        rw [uK_put] at this
        exact this
      have kk : ∀ b o, b ≠ U → H b = some o → L2.upd H U (.dK (uK (putU g.u n g.live))) b = some o := fun b o nb e => by rw [upd_ne nb]; exact e
      have eF1 := kk _ _ n3 eF
      have pF1 : Paired (fun r x => L2.upd H U (.dK (uK (putU g.u n g.live))) r = some (.tup (v4 x))) refs g.f := Paired.map' pF fun r x e => kk _ _ (fun z => by rw [z, eU] at e; cases e) e
      have tT1 : TdD (L2.upd H U (.dK (uK (putU g.u n g.live)))) T g.t := tT.imp (upd_ne n2)
      rw [r_sput]
      simp only [r_seq, r_next, r_brk, r_cont, r_asg, r_name, r_ret, r_retN, r_drop, r_ifs, r_never, r_var, r_c, r_op, r_un, r_if, r_tst, r_b, r_not, r_and, r_or, r_andV, r_orV, r_notV, r_nil, r_cons, r_tup, r_lst, r_cb, r_call, r_bm, r_bm0, r_sl, r_nopart, r_part, r_rev, r_gnil, r_gcons, r_gsub, r_par, r_aug, r_chain, r_I0, r_I, r_U, r_ixd, r_lend, r_tupd, r_listd, r_sld, r_app, r_ext, r_reverse, r_setl, r_cat, r_int1, r_eqS, r_neS, scal_ii, scal_bb, scal_ss, at0, at1, at2, sq_lst, sq_tup, isLst_lst, List.getElem?_cons_zero, List.getElem?_cons_succ, List.set_cons_zero, List.set_cons_succ, V.int.injEq, V.bl.injEq, V.ref.injEq, V.str.injEq, HO.lst.injEq, HO.tup.injEq, Option.some.injEq, exists_eq_left', exists_eq_left, List.cons.injEq, and_true, true_and, decide_eq_true_eq, reduceCtorEq, false_and, exists_false, or_false, false_or, exists_const, and_assoc, exists_and_left, List.append_nil, ix0, ix1, ix2, cm_mod, cdw1009, cdw2003, cdw7, cdw64, cdw2, cm104729, cm2, cm3, upd_same, List.length_cons, List.length_nil, Int.reduceLT, Int.reduceLE, Nat.reduceAdd, Nat.reduceLeDiff, Nat.reduceLT, Int.reduceToNat, r_for1, r_forL, r_forT, r_lcL, r_lc1, r_yes, r_gtupD, wipe_0, wipe_1, List.cons_append, List.nil_append, r_forS, r_ipI, ite_false, ite_true, Bool.not_true, Bool.not_false, decide_true, decide_false, r_isd, r_islt, cD_ty, cD_ref, tD_non, tD_bl, tD_int, tD_str, tD_ref, tH_lst, tH_tup, tH_dK, tH_ins, ki_self, ki_int_bool, ki_non_int, ki_str_int, ki_lt_lst, ki_lt_tup, r_fld, r_sfld, HO.ins.injEq, cx_K]
      refine ⟨_, dp, ?_⟩
      generalize L2.upd H U (.dK (uK (putU g.u n g.live))) = H1 at *
      have vt := tyl (K := K) eF1
      simp only [r_seq, r_next, r_brk, r_cont, r_asg, r_name, r_ret, r_retN, r_drop, r_ifs, r_never, r_var, r_c, r_op, r_un, r_if, r_tst, r_b, r_not, r_and, r_or, r_andV, r_orV, r_notV, r_nil, r_cons, r_tup, r_lst, r_cb, r_call, r_bm, r_bm0, r_sl, r_nopart, r_part, r_rev, r_gnil, r_gcons, r_gsub, r_par, r_aug, r_chain, r_I0, r_I, r_U, r_ixd, r_lend, r_tupd, r_listd, r_sld, r_app, r_ext, r_reverse, r_setl, r_cat, r_int1, r_eqS, r_neS, scal_ii, scal_bb, scal_ss, at0, at1, at2, sq_lst, sq_tup, isLst_lst, List.getElem?_cons_zero, List.getElem?_cons_succ, List.set_cons_zero, List.set_cons_succ, V.int.injEq, V.bl.injEq, V.ref.injEq, V.str.injEq, HO.lst.injEq, HO.tup.injEq, Option.some.injEq, exists_eq_left', exists_eq_left, List.cons.injEq, and_true, true_and, decide_eq_true_eq, reduceCtorEq, false_and, exists_false, or_false, false_or, exists_const, and_assoc, exists_and_left, List.append_nil, ix0, ix1, ix2, cm_mod, cdw1009, cdw2003, cdw7, cdw64, cdw2, cm104729, cm2, cm3, upd_same, List.length_cons, List.length_nil, Int.reduceLT, Int.reduceLE, Nat.reduceAdd, Nat.reduceLeDiff, Nat.reduceLT, Int.reduceToNat, r_for1, r_forL, r_forT, r_lcL, r_lc1, r_yes, r_gtupD, wipe_0, wipe_1, List.cons_append, List.nil_append, r_forS, r_ipI, ite_false, ite_true, Bool.not_true, Bool.not_false, decide_true, decide_false, r_isd, r_islt, cD_ty, cD_ref, tD_non, tD_bl, tD_int, tD_str, tD_ref, tH_lst, tH_tup, tH_dK, tH_ins, ki_self, ki_int_bool, ki_non_int, ki_str_int, ki_lt_lst, ki_lt_tup, r_fld, r_sfld, HO.ins.injEq, cx_K, vt]
      refine ⟨szl (by decide), fun p hp => ⟨_, by rw [upd_ne (ne_new eF1 hp)]; exact eF1, szf, ?_⟩⟩
      obtain ⟨q1, q2⟩ := rs4_app (y := ⟨x.w, .int n, none, .non⟩) eF1 pF1 hp
      refine k _ (fun b o _ nF nU e => q2 _ _ nF (kk _ _ nU e)) ?_ (q2 _ _ n3.symm eU1) (tT1.imp ?_)
      · exact q1
      · rw [upd_ne n1, upd_ne (fun z => by obtain ⟨kvs, e, _⟩ := tT1; rw [z, hp] at e; cases e)]
  · rw [if_neg c1]
    unfold goStep at k
    rw [if_neg c1] at k
    cases hl : g.live with
    | false =>
      rw [hl] at k
      rw [if_neg (by decide)] at k
      rw [if_neg (by decide)]
      have q := k H (fun _ _ _ _ _ e => e) ⟨refs, eF, pF⟩ eU tT
      rw [hl] at q
      exact q
    | true =>
      rw [if_pos hl] at k
      rw [if_pos rfl]
      have szf : (refs.map V.ref).length < sizeLine := Nat.lt_of_le_of_lt (by rw [List.length_map]; omega : _ ≤ 60000) (by decide)
      refine ⟨tyl eF, szl (by decide), fun p hp => ⟨_, by rw [upd_ne (ne_new eF hp)]; exact eF, szf, ?_⟩⟩
      obtain ⟨q1, q2⟩ := rs4_app (y := ⟨x.w, x.a, x.l, .non⟩) eF pF hp
      have tT1 : TdD (L2.upd (L2.upd H p (.tup (v4 ⟨x.w, x.a, x.l, .non⟩))) F' (.lst (refs.map V.ref ++ [.ref p]))) T g.t := tT.imp (by rw [upd_ne n1, upd_ne (fun z => by obtain ⟨kvs, e, _⟩ := tT; rw [z, hp] at e; cases e)])
      have eU1 := q2 _ _ n3.symm eU
      show rInT K D1 _ _ (L2.upd (L2.upd H p (.tup (v4 ⟨x.w, x.a, x.l, .non⟩))) F' (.lst (refs.map V.ref ++ [.ref p]))) _
      generalize L2.upd (L2.upd H p (.tup (v4 ⟨x.w, x.a, x.l, .non⟩))) F' (.lst (refs.map V.ref ++ [.ref p])) = H1 at *
      have kH : ∀ b o, b ≠ F' → H b = some o → H1 b = some o := q2
      refine TT.inT ok.w ⟨_, rfl, ?_⟩
      by_cases ct : turning x.w = true
      · rw [if_pos ct]
        refine TL.inT ok.w ⟨_, rfl, ?_⟩
        by_cases cl : leading x.w = true
        · rw [if_pos cl]
          obtain ⟨n, en⟩ := ok.a (.inr cl)
          rw [if_pos cl, show labI x.a = n by rw [en]; rfl] at k
          obtain ⟨H2, dp, tT2, kT⟩ := tT1.put (n := n) (v := .ref NH) lt
          rw [r_sput]
          simp only [r_seq, r_next, r_brk, r_cont, r_asg, r_name, r_ret, r_retN, r_drop, r_ifs, r_never, r_var, r_c, r_op, r_un, r_if, r_tst, r_b, r_not, r_and, r_or, r_andV, r_orV, r_notV, r_nil, r_cons, r_tup, r_lst, r_cb, r_call, r_bm, r_bm0, r_sl, r_nopart, r_part, r_rev, r_gnil, r_gcons, r_gsub, r_par, r_aug, r_chain, r_I0, r_I, r_U, r_ixd, r_lend, r_tupd, r_listd, r_sld, r_app, r_ext, r_reverse, r_setl, r_cat, r_int1, r_eqS, r_neS, scal_ii, scal_bb, scal_ss, at0, at1, at2, sq_lst, sq_tup, isLst_lst, List.getElem?_cons_zero, List.getElem?_cons_succ, List.set_cons_zero, List.set_cons_succ, V.int.injEq, V.bl.injEq, V.ref.injEq, V.str.injEq, HO.lst.injEq, HO.tup.injEq, Option.some.injEq, exists_eq_left', exists_eq_left, List.cons.injEq, and_true, true_and, decide_eq_true_eq, reduceCtorEq, false_and, exists_false, or_false, false_or, exists_const, and_assoc, exists_and_left, List.append_nil, ix0, ix1, ix2, cm_mod, cdw1009, cdw2003, cdw7, cdw64, cdw2, cm104729, cm2, cm3, upd_same, List.length_cons, List.length_nil, Int.reduceLT, Int.reduceLE, Nat.reduceAdd, Nat.reduceLeDiff, Nat.reduceLT, Int.reduceToNat, r_for1, r_forL, r_forT, r_lcL, r_lc1, r_yes, r_gtupD, wipe_0, wipe_1, List.cons_append, List.nil_append, r_forS, r_ipI, ite_false, ite_true, Bool.not_true, Bool.not_false, decide_true, decide_false, r_isd, r_islt, cD_ty, cD_ref, tD_non, tD_bl, tD_int, tD_str, tD_ref, tH_lst, tH_tup, tH_dK, tH_ins, ki_self, ki_int_bool, ki_non_int, ki_str_int, ki_lt_lst, ki_lt_tup, r_fld, r_sfld, HO.ins.injEq, cx_K, en]
          obtain ⟨ov, ev, qv⟩ := TV.ok _ ok.w
          refine ⟨H2, dp, ov, ev, ?_⟩
          rw [qv]
          have k12 : ∀ b o, b ≠ T → H1 b = some o → H2 b = some o := fun b o nb e => by rw [kT b nb]; exact e
          obtain ⟨refs2, eF2, pF2⟩ := q1
          have tneg : ∀ b ys, H1 b = some (.tup ys) → b ≠ T := fun b ys e z => by obtain ⟨kvs, e2, _⟩ := tT1; rw [z, e2] at e; cases e
          have := k H2 (fun b o nT nF _ e => k12 _ _ nT (kH _ _ nF e)) ⟨refs2, k12 _ _ n1.symm eF2, Paired.map' pF2 fun b x e => k12 _ _ (tneg _ _ e) e⟩ (k12 _ _ n2.symm eU1) tT2
          rw [en] at this
          exact this
        · rw [if_neg cl]
          rw [if_neg cl] at k
          obtain ⟨ov, ev, qv⟩ := TV.ok _ ok.w
          refine ⟨ov, ev, ?_⟩
          rw [qv]
          exact k H1 (fun b o _ nF _ e => kH _ _ nF e) q1 eU1 tT1
      · rw [if_neg ct]
        have nl : leading x.w = false := by cases q : leading x.w with | false => rfl | true => exact absurd (by unfold turning; rw [q]; rfl) ct
        have nv : leaving x.w = false := by cases q : leaving x.w with | false => rfl | true => exact absurd (by unfold turning; rw [q]; cases leading x.w <;> rfl) ct
        rw [nl, nv] at k
        rw [if_neg (by decide)] at k
        exact k H1 (fun b o _ nF _ e => kH _ _ nF e) q1 eU1 tT1
section
variable {P : Program} {w : World} {K : PySem.W.Frag} {mg : Str → Option Value} {base : Heap} {f : Addr} {fd : FuncData}
abbrev sreached_without : Stmt := top 27
theorem screached_without : FnScope ["rows", "told", "found", "unknown", "live", "word", "argument", "line"] ["rows", "told"] (defScope sreached_without) := ⟨rfl, rfl, rfl, by decide +kernel, rfl, by decide +kernel, by decide +kernel⟩

theorem ok_rw {D1 D2 D3 NH : Addr} (T : Txt mg) (TT : InW K w mg "TURNING" D1 turning) (TL : InW K w mg "LEADING" D2 leading) (TV : InW K w mg "LEAVING" D3 leaving) (gN : mg "NOTHING_handlers" = some (.ref NH)) (F : FnP K "reached_without" "reached_without" sreached_without f fd) : FnOk P w K mg base CX0 1 f fd ["rows", "told"] spRW := by
  refine F.ok screached_without (fun vs H Q E h => ?_) (fun cdv A outer s H vs Q E hr h => ?_)
  · obtain ⟨F, T, xs, t, rfl, _⟩ := h
    rfl
  · have hu1 := hu_of hr
    refine ⟨t_rw K D1 D2 D3 NH, PSs.nox (show PSs _ _ (t_rw K D1 D2 D3 NH) from (pss_cons (ps_set (i := 2) screached_without.nd rfl (Or.inl rfl) (pe_lst pa_nil))
  (pss_cons (ps_set (i := 3) screached_without.nd rfl (Or.inl rfl) pe_dnewK)
  (pss_cons (ps_set (i := 4) screached_without.nd rfl (Or.inl rfl) pe_bl)
  (pss_cons (ps_for PassesOwn.never rfl (pi_seqV 0) (pg_tupD (n := 3) rfl (pgs_cons (pg_name (i := 5) screached_without.nd rfl (Or.inl rfl)) (pgs_cons (pg_name (i := 6) screached_without.nd rfl (Or.inl rfl)) (pgs_cons (pg_name (i := 7) screached_without.nd rfl (Or.inl rfl)) pgs_nil))))
    (pss_one (ps_if (pt_cmpR op_eq (pv 5) pe_str (nomark _))
    (pss_cons (ps_if (pt_cmp (pc_dnotin hu1 (pv 6) (pv 1)))
    (pss_one (ps_dput hu1 (pv 3) (pv 6) (pv 4) rfl))
    (pss_one (ps_set (i := 4) screached_without.nd rfl (Or.inl rfl) pe_bl)))
  (pss_one (ps_expr (pe_bm PySem.F.plainAttrs_list PySem.F.slot_list_append PySem.F.type_list_append mt_append (pv 2) (pa_cons (pe_tup (pa_cons (pv 5) (pa_cons (pv 6) (pa_cons pe_non (pa_cons pe_non pa_nil))))) pa_nil)))))
    (pss_one (ps_if (pt_val (pv 4))
    (pss_cons (ps_expr (pe_bm PySem.F.plainAttrs_list PySem.F.slot_list_append PySem.F.type_list_append mt_append (pv 2) (pa_cons (pe_tup (pa_cons (pv 5) (pa_cons (pv 6) (pa_cons (pv 7) (pa_cons pe_non pa_nil))))) pa_nil)))
  (pss_one (ps_if (pt_cmpR (op_inTK K w rfl rfl TT.kd) (pv 5) (pe_glob (v := .ref _) rfl TT.g rfl) (by rfl))
    (pss_cons (ps_if (pt_cmpR (op_inTK K w rfl rfl TL.kd) (pv 5) (pe_glob (v := .ref _) rfl TL.g rfl) (by rfl))
    (pss_one (ps_dput hu1 (pv 1) (pv 6) (pe_glob (v := .ref NH) rfl gN rfl) rfl))
    pss_nil)
  (pss_one (ps_set (i := 4) screached_without.nd rfl (Or.inl rfl) (pe_cmpR (op_ninTK K w rfl rfl TV.kd) (pv 5) (pe_glob (v := .ref _) rfl TV.g rfl) (by rfl)))))
    pss_nil)))
    pss_nil)))))
  (pss_one (ps_ret (pe_tup (pa_cons (pv 2) (pa_cons (pv 3) pa_nil)))))))))), ?_⟩
    obtain ⟨F, T0, xs, t, rfl, hF, ok, hl, hT, lt, k⟩ := h
    unfold t_rw t_rw1 t_rw2 t_rw3
    show (_ : TS) _ [some (.ref F), some (.ref T0), none, none, none, none, none, none] H
    simp only [r_seq, r_next, r_brk, r_cont, r_asg, r_name, r_ret, r_retN, r_drop, r_ifs, r_never, r_var, r_c, r_op, r_un, r_if, r_tst, r_b, r_not, r_and, r_or, r_andV, r_orV, r_notV, r_nil, r_cons, r_tup, r_lst, r_cb, r_call, r_bm, r_bm0, r_sl, r_nopart, r_part, r_rev, r_gnil, r_gcons, r_gsub, r_par, r_aug, r_chain, r_I0, r_I, r_U, r_ixd, r_lend, r_tupd, r_listd, r_sld, r_app, r_ext, r_reverse, r_setl, r_cat, r_int1, r_eqS, r_neS, scal_ii, scal_bb, scal_ss, at0, at1, at2, sq_lst, sq_tup, isLst_lst, List.getElem?_cons_zero, List.getElem?_cons_succ, List.set_cons_zero, List.set_cons_succ, V.int.injEq, V.bl.injEq, V.ref.injEq, V.str.injEq, HO.lst.injEq, HO.tup.injEq, Option.some.injEq, exists_eq_left', exists_eq_left, List.cons.injEq, and_true, true_and, decide_eq_true_eq, reduceCtorEq, false_and, exists_false, or_false, false_or, exists_const, and_assoc, exists_and_left, List.append_nil, ix0, ix1, ix2, cm_mod, cdw1009, cdw2003, cdw7, cdw64, cdw2, cm104729, cm2, cm3, upd_same, List.length_cons, List.length_nil, Int.reduceLT, Int.reduceLE, Nat.reduceAdd, Nat.reduceLeDiff, Nat.reduceLT, Int.reduceToNat, r_for1, r_forL, r_forT, r_lcL, r_lc1, r_yes, r_gtupD, wipe_0, wipe_1, List.cons_append, List.nil_append, r_forS, r_ipI, ite_false, ite_true, Bool.not_true, Bool.not_false, decide_true, decide_false, r_isd, r_islt, cD_ty, cD_ref, tD_non, tD_bl, tD_int, tD_str, tD_ref, tH_lst, tH_tup, tH_dK, tH_ins, ki_self, ki_int_bool, ki_non_int, ki_str_int, ki_lt_lst, ki_lt_tup, r_fld, r_sfld, HO.ins.injEq, cx_K, r_dnew]
    refine ⟨szl (by decide), fun F' hF' U hU => ?_⟩
    have s1 := Same.new' (o := .lst []) (Same.refl H) hF'
    have e1 : L2.upd H F' (.lst []) F' = some (.lst []) := upd_same
    generalize L2.upd H F' (.lst []) = H1 at *
    have s2 := Same.new' (o := .dK []) (Same.refl H1) hU
    have e2 : L2.upd H1 U (.dK []) U = some (.dK (uK [])) := upd_same
    show t_rw4 K D1 D2 D3 NH _ _ (L2.upd H1 U (.dK []))
    generalize L2.upd H1 U (.dK []) = H2 at *
    have s02 : Same H H2 := fun b o e => s2 _ _ (s1 _ _ e)
    have hF2 := hF.same s02
    obtain ⟨kvs, eT, _⟩ := id hT
    have n1 : T0 ≠ F' := fun z => by rw [z, hF'] at eT; cases eT
    have n2 : T0 ≠ U := fun z => by have := s1 _ _ eT; rw [z, hU] at this; cases this
    have n3 : F' ≠ U := fun z => by rw [z, hU] at e1; cases e1
    have tT2 : TdD H2 T0 t := hT.imp (by rw [s02 _ _ eT, eT])
    obtain ⟨refs, sF, pF⟩ := hF2
    have lp := Paired.length pF
    obtain ⟨o, eo⟩ := sq_some sF
    have notF : F ≠ T0 ∧ F ≠ F' ∧ F ≠ U := by
      obtain ⟨oF, eoF⟩ : ∃ o, H F = some o := by obtain ⟨_, q, _⟩ := hF; exact sq_some q
      refine ⟨fun z => ?_, fun z => ?_, fun z => ?_⟩
      · obtain ⟨_, q, _⟩ := hF
        rw [z, eT] at q
        cases q
      · rw [z, hF'] at eoF; cases eoF
      · have := s1 _ _ eoF
        rw [z, hU] at this; cases this
    unfold t_rw4
    rw [r_forS]
    refine ⟨F, rfl, lp_seq sF (LvW F T0 F' U xs t H2) ⟨none, none, none, rfl, fun _ _ _ _ _ e => e, ⟨[], s2 _ _ e1, .nil⟩, e2, tT2⟩ (fun i σ H' ⟨_, _, _, _, q, _⟩ => by rw [eo, q _ _ notF.1 notF.2.1 notF.2.2 eo]) ?_ ?_⟩
    · rintro i y σ H3 hy ⟨v5, v6, v7, rfl, k3, rF, eU, tT⟩
      rw [List.getElem?_map] at hy
      obtain ⟨r, hr1, rfl⟩ := Option.map_eq_some_iff.mp hy
      obtain ⟨hi0, e0⟩ := List.getElem?_eq_some_iff.mp hr1
      have hi' : i < xs.length := by rw [← lp]; exact hi0
      have hrt := Paired.at' pF hi0 hi'
      rw [e0] at hrt
      have ht : xs[i]? = some xs[i] := List.getElem?_eq_getElem hi'
      have okx := ok _ (List.getElem_mem hi')
      have gl := go_len t xs i (by omega)
      have sn := go_snoc (t := t) ht
      have fin : ∀ {v5 v6 v7 : Option V} {H' : Hp}, Kp3 T0 F' U H2 H' → Rs4 H' F' (goStep (goTo t (xs.take i)) xs[i]).f → H' U = some (.dK (uK (goStep (goTo t (xs.take i)) xs[i]).u)) → TdD H' T0 (goStep (goTo t (xs.take i)) xs[i]).t → LvW F T0 F' U xs t H2 (i + 1) (S8 F T0 F' U (goStep (goTo t (xs.take i)) xs[i]).live v5 v6 v7) H' := fun a b c d => ⟨_, _, _, by rw [sn], a, by rw [sn]; exact b, by rw [sn]; exact c, by rw [sn]; exact d⟩
      generalize xs[i] = x at *
      generalize goTo t (xs.take i) = g at *
      have tk : H3 r = some (.tup (v3 x)) := k3 _ _ (fun z => by rw [z, s02 _ _ eT] at hrt; cases hrt) (fun z => by rw [z, s2 _ _ e1] at hrt; cases hrt) (fun z => by rw [z, e2] at hrt; cases hrt) hrt
      rw [r_gtupD]
      refine ⟨r, _, rfl, tk, rfl, ?_⟩
      unfold S8 v3
      simp only [r_seq, r_next, r_brk, r_cont, r_asg, r_name, r_ret, r_retN, r_drop, r_ifs, r_never, r_var, r_c, r_op, r_un, r_if, r_tst, r_b, r_not, r_and, r_or, r_andV, r_orV, r_notV, r_nil, r_cons, r_tup, r_lst, r_cb, r_call, r_bm, r_bm0, r_sl, r_nopart, r_part, r_rev, r_gnil, r_gcons, r_gsub, r_par, r_aug, r_chain, r_I0, r_I, r_U, r_ixd, r_lend, r_tupd, r_listd, r_sld, r_app, r_ext, r_reverse, r_setl, r_cat, r_int1, r_eqS, r_neS, scal_ii, scal_bb, scal_ss, at0, at1, at2, sq_lst, sq_tup, isLst_lst, List.getElem?_cons_zero, List.getElem?_cons_succ, List.set_cons_zero, List.set_cons_succ, V.int.injEq, V.bl.injEq, V.ref.injEq, V.str.injEq, HO.lst.injEq, HO.tup.injEq, Option.some.injEq, exists_eq_left', exists_eq_left, List.cons.injEq, and_true, true_and, decide_eq_true_eq, reduceCtorEq, false_and, exists_false, or_false, false_or, exists_const, and_assoc, exists_and_left, List.append_nil, ix0, ix1, ix2, cm_mod, cdw1009, cdw2003, cdw7, cdw64, cdw2, cm104729, cm2, cm3, upd_same, List.length_cons, List.length_nil, Int.reduceLT, Int.reduceLE, Nat.reduceAdd, Nat.reduceLeDiff, Nat.reduceLT, Int.reduceToNat, r_for1, r_forL, r_forT, r_lcL, r_lc1, r_yes, r_gtupD, wipe_0, wipe_1, List.cons_append, List.nil_append, r_forS, r_ipI, ite_false, ite_true, Bool.not_true, Bool.not_false, decide_true, decide_false, r_isd, r_islt, cD_ty, cD_ref, tD_non, tD_bl, tD_int, tD_str, tD_ref, tH_lst, tH_tup, tH_dK, tH_ins, ki_self, ki_int_bool, ki_non_int, ki_str_int, ki_lt_lst, ki_lt_tup, r_fld, r_sfld, HO.ins.injEq, cx_K]
      show t_rwb K D1 D2 D3 NH _ (S8 F T0 F' U g.live (some (.str x.w)) (some x.a) (some (lnV x.l))) H3
      obtain ⟨l1, l2, l3⟩ := gl
      refine rwb_run TT TL TV okx rF eU tT (by omega) (by omega) (by omega) n1 n2 n3 fun H4 k4 r4 u4 t4 => ?_
      exact fin (fun b o a1 a2 a3 e => k4 _ _ a1 a2 a3 (k3 _ _ a1 a2 a3 e)) r4 u4 t4
    · rintro σ H3 ⟨v5, v6, v7, rfl, k3, rF, eU, tT⟩
      rw [List.length_map, lp, List.take_length] at rF eU tT
      unfold t_rw5 S8
      simp only [r_seq, r_next, r_brk, r_cont, r_asg, r_name, r_ret, r_retN, r_drop, r_ifs, r_never, r_var, r_c, r_op, r_un, r_if, r_tst, r_b, r_not, r_and, r_or, r_andV, r_orV, r_notV, r_nil, r_cons, r_tup, r_lst, r_cb, r_call, r_bm, r_bm0, r_sl, r_nopart, r_part, r_rev, r_gnil, r_gcons, r_gsub, r_par, r_aug, r_chain, r_I0, r_I, r_U, r_ixd, r_lend, r_tupd, r_listd, r_sld, r_app, r_ext, r_reverse, r_setl, r_cat, r_int1, r_eqS, r_neS, scal_ii, scal_bb, scal_ss, at0, at1, at2, sq_lst, sq_tup, isLst_lst, List.getElem?_cons_zero, List.getElem?_cons_succ, List.set_cons_zero, List.set_cons_succ, V.int.injEq, V.bl.injEq, V.ref.injEq, V.str.injEq, HO.lst.injEq, HO.tup.injEq, Option.some.injEq, exists_eq_left', exists_eq_left, List.cons.injEq, and_true, true_and, decide_eq_true_eq, reduceCtorEq, false_and, exists_false, or_false, false_or, exists_const, and_assoc, exists_and_left, List.append_nil, ix0, ix1, ix2, cm_mod, cdw1009, cdw2003, cdw7, cdw64, cdw2, cm104729, cm2, cm3, upd_same, List.length_cons, List.length_nil, Int.reduceLT, Int.reduceLE, Nat.reduceAdd, Nat.reduceLeDiff, Nat.reduceLT, Int.reduceToNat, r_for1, r_forL, r_forT, r_lcL, r_lc1, r_yes, r_gtupD, wipe_0, wipe_1, List.cons_append, List.nil_append, r_forS, r_ipI, ite_false, ite_true, Bool.not_true, Bool.not_false, decide_true, decide_false, r_isd, r_islt, cD_ty, cD_ref, tD_non, tD_bl, tD_int, tD_str, tD_ref, tH_lst, tH_tup, tH_dK, tH_ins, ki_self, ki_int_bool, ki_non_int, ki_str_int, ki_lt_lst, ki_lt_tup, r_fld, r_sfld, HO.ins.injEq, cx_K]
      refine ⟨szl (by decide), fun p hp => ?_⟩
      have s4 := Same.new' (o := .tup [.ref F', .ref U]) (Same.refl H3) hp
      refine k p F' U _ (fun b o nT e => s4 _ _ (k3 _ _ nT (fun z => by rw [z, hF'] at e; cases e) (fun z => by have := s1 _ _ e; rw [z, hU] at this; cases this) (s02 _ _ e))) hF' ?_ upd_same (rF.same s4) (s4 _ _ eU) (tT.imp ?_)
      · cases q : H U with
        | none => rfl
        | some o => have := s1 _ _ q; rw [hU] at this; cases this
      · obtain ⟨kv, e, _⟩ := tT
        rw [s4 _ _ e, e]
end
end C38

set_option maxHeartbeats 2000000
namespace C38
open PySem PySem.Spec PyProof.Rows L2
theorem r_callA {i : Nat} {S : Addr → Option Sp} {t : TA} {σ : L2.St} {H : Hp} {Q : VK} : tCallA i S t σ H Q = ∃ f sp, σ[i]? = some (some (.ref f)) ∧ S f = some sp ∧ t σ H fun vs H1 => sp vs H1 Q (fun _ _ _ => False) := rfl
theorem r_lock {t : TE} {σ : L2.St} {H : Hp} {Q : VK} : tLockE t σ H Q = ∃ d u, H d = some u ∧ Mut (some u) ∧ ∀ od, t σ (upd H d (.frz od u)) fun v H' => H' d = some (.frz od u) ∧ Q v (upd H' d u) := rfl
theorem r_lcI {td : TE} {g : TG} {tt : TT} {te : TE} {vs : List Nat} {σ : L2.St} {H : Hp} {Q : VK} : tLc (iItems td) g tt te vs σ H Q = td σ H (fun x H1 => ∃ d o kvs, x = .ref d ∧ H1 d = some (.frz o (.dK kvs)) ∧ ∀ D, H1 D = none → CompR (Iti d o kvs) g tt te vs σ Q D (L2.upd H1 D (.lst []))) := rfl
theorem r_lcK {td : TE} {g : TG} {tt : TT} {te : TE} {vs : List Nat} {σ : L2.St} {H : Hp} {Q : VK} : tLc (iKeys td) g tt te vs σ H Q = td σ H (fun x H1 => ∃ d o, x = .ref d ∧ ((∃ kvs, H1 d = some (.frz o (.dK kvs)) ∧ ∀ D, H1 D = none → CompR (Itk d o kvs) g tt te vs σ Q D (L2.upd H1 D (.lst []))) ∨ ∃ kvs, H1 d = some (.frz o (.dT kvs)) ∧ ∀ D, H1 D = none → CompR (Itkt d o kvs) g tt te vs σ Q D (L2.upd H1 D (.lst [])))) := rfl
def again (g : Go) : Bool := g.u.any fun p => decide (p.1 ∈ g.t) && !p.2
def loopGo (xs : List R3) : Nat → Go → Option Go
  | 0, _ => none
  | k + 1, g => if again g = true then loopGo xs k (goTo g.t xs) else some g
def keepR (t : List Int) (r : R4) : Bool := !decide (r.w = "LABEL") || decide (labI r.a ∈ t)
def endGo (g : Go) : List R4 := if (g.u.all fun p => decide (p.1 ∈ g.t)) = true then g.f else g.f.filter (keepR g.t)
theorem go_lab {t : List Int} {xs : List R3} (ok : ∀ x ∈ xs, Ok3 x) : ∀ y ∈ (goTo t xs).f, y.w = "LABEL" → ∃ n : Int, y.a = .int n := by
  have : ∀ (xs : List R3) (g : Go), (∀ x ∈ xs, Ok3 x) → (∀ y ∈ g.f, y.w = "LABEL" → ∃ n : Int, y.a = .int n) → ∀ y ∈ (xs.foldl goStep g).f, y.w = "LABEL" → ∃ n : Int, y.a = .int n := fun xs => by
    induction xs with
    | nil => exact fun g _ h => h
    | cons x xs ih =>
      intro g ok h
      refine ih _ (fun y hy => ok y (List.mem_cons_of_mem _ hy)) fun y hy hw => ?_
      have okx := ok x List.mem_cons_self
      have cases : y ∈ g.f ∨ (y.w = x.w ∧ y.a = x.a) := by
        unfold goStep at hy
        split at hy
        · split at hy
          · rcases List.mem_append.mp hy with q | q
            · exact .inl q
            · rw [List.mem_singleton.mp q]; exact .inr ⟨rfl, rfl⟩
          · rcases List.mem_append.mp hy with q | q
            · exact .inl q
            · rw [List.mem_singleton.mp q]; exact .inr ⟨rfl, rfl⟩
        · split at hy
          · rcases List.mem_append.mp hy with q | q
            · exact .inl q
            · rw [List.mem_singleton.mp q]; exact .inr ⟨rfl, rfl⟩
          · exact .inl hy
      rcases cases with q | ⟨q1, q2⟩
      · exact h y q hw
      · obtain ⟨n, e⟩ := okx.a (.inl (q1 ▸ hw))
        exact ⟨n, q2.trans e⟩
  exact this xs _ ok fun _ z => nomatch z
def spRR (S : Addr → Option Sp) : Sp := fun vs H Q _ => ∃ (F G : Addr) (xs : List R3) (k : Nat) (g : Go), vs = [.ref F, .ref G] ∧ S G = some spRW ∧ Rs3 H F xs ∧ (∀ x ∈ xs, Ok3 x) ∧ xs.length ≤ 50000 ∧ (k + 2) * xs.length ≤ 90000 ∧ loopGo xs k (goTo [] xs) = some g ∧ ∀ F' H', Same H H' → Rs4 H' F' (endGo g) → Q (.ref F') H'
def t_any : TE := tLockE (tLc (iItems (tVar 4)) (gTupD 2 (gCons (gName 6) (gCons (gName 7) gNil))) tYes (tAndV (tDIn (tVar 6) (tVar 2)) (tNotV (tVar 7))) (List.map (fun x => x.snd) [(Str.ofString "label", 6), (Str.ofString "live", 7)]))
def t_all : TE := tLockE (tLc (iKeys (tVar 4)) (gName 6) tYes (tDIn (tVar 6) (tVar 2)) (List.map (fun x => x.snd) [(Str.ofString "label", 6)]))
def t_rr1 : TS := tAsg tDNewK (gName 2)
def t_rr2 (S : Addr → Option Sp) : TS := tAsg (tCallA 1 S (tCons (tVar 0) (tCons (tVar 2) tNil))) (gTupD 2 (gCons (gName 3) (gCons (gName 4) gNil)))
def t_rr3 (K : PySem.W.Frag) (S : Addr → Option Sp) : TS := tWhile (tB (tCB (rAny K) (tCons t_any tNil))) (tAsg (tCallA 1 S (tCons (tVar 0) (tCons (tVar 2) tNil))) (gTupD 2 (gCons (gName 3) (gCons (gName 4) gNil))))
def t_rr4 (K : PySem.W.Frag) : TS := tIfS (tB (tCB (rAll K) (tCons t_all tNil))) (tRet (tVar 3)) tNext
def t_rr5 (K : PySem.W.Frag) : TS := tRet (tLc (iList K (tVar 3)) (gName 5) (tOr (tTest (tOp rNe (tOp rIxd (tVar 5) (tC (V.int 0))) (tC (V.str (Str.ofString "LABEL"))))) (tB (tDIn (tOp rIxd (tVar 5) (tC (V.int 1))) (tVar 2)))) (tVar 5) (List.map (fun x => x.snd) [(Str.ofString "row", 5)]))
def t_rr (K : PySem.W.Frag) (S : Addr → Option Sp) : TS := tSeq t_rr1 (tSeq (t_rr2 S) (tSeq (t_rr3 K S) (tSeq (t_rr4 K) (t_rr5 K))))
abbrev S9 (F G T F' U : Addr) (v5 v6 v7 : Option V) : L2.St := [some (.ref F), some (.ref G), some (.ref T), some (.ref F'), some (.ref U), v5, v6, v7]
section
variable {K : PySem.W.Frag} {F G T F' U : Addr} {v5 v6 v7 : Option V} {H : Hp} {u : List (Int × Bool)} {t : List Int}
theorem any_run {Q : VK} (TU : T ≠ U) (eU : H U = some (.dK (uK u))) (hT : TdD H T t) (lu : u.length ≤ 60000) (k : ∀ B H', Same H H' → H' B = some (.lst ((u.map fun p => decide (p.1 ∈ t) && !p.2).map V.bl)) → Q (.ref B) H') : t_any (S9 F G T F' U v5 v6 v7) H Q := by
  unfold t_any
  rw [r_lock]
  refine ⟨U, _, eU, trivial, fun od => ?_⟩
  have es : L2.upd H U (.frz od (.dK (uK u))) U = some (.frz od (.dK (uK u))) := upd_same
  have keep : ∀ b o, b ≠ U → H b = some o → L2.upd H U (.frz od (.dK (uK u))) b = some o := fun b o n e => by rw [upd_ne n]; exact e
  have fr : ∀ b, b ≠ U → L2.upd H U (.frz od (.dK (uK u))) b = none → H b = none := fun b n e => by rwa [upd_ne n] at e
  have hT1 : TdD (L2.upd H U (.frz od (.dK (uK u)))) T t := hT.imp (upd_ne TU)
  generalize L2.upd H U (.frz od (.dK (uK u))) = G1 at *
  rw [r_lcI]
  refine ⟨_, rfl, U, od, uK u, rfl, es, fun B hB => ?_⟩
  have BU : B ≠ U := fun z => by rw [z, es] at hB; cases hB
  have hB0 := fr B BU hB
  have TB : T ≠ B := fun z => by obtain ⟨kv, e, _⟩ := hT1; rw [z, hB] at e; cases e
  have ul : (uK u).length = u.length := by unfold uK; rw [List.length_map]
  refine ⟨fun i m H' => i + m = u.length ∧ (∀ b o, b ≠ B → G1 b = some o → H' b = some o) ∧ H' B = some (.lst (((u.take i).map fun p => decide (p.1 ∈ t) && !p.2).map V.bl)), ⟨u.length, by omega, fun b o n e => by rw [upd_ne n]; exact e, by rw [upd_same]; rfl⟩, ?_⟩
  rintro i m H1 ⟨em, k1, eB⟩
  have es1 := k1 _ _ BU.symm es
  by_cases c : i < u.length
  · refine .inr ⟨⟨es1, by rw [ul]; exact c⟩, fun H2 => (∀ b o, b ≠ B → G1 b = some o → H2 b = some o) ∧ H2 B = some (.lst (((u.take (i + 1)).map fun p => decide (p.1 ∈ t) && !p.2).map V.bl)), fun H2 q => ⟨m - 1, by omega, by omega, q⟩, ?_⟩
    rintro x H2 ⟨T', kk, v, hk, rfl, hT', rfl⟩
    have ht : u[i]? = some u[i] := List.getElem?_eq_getElem c
    obtain ⟨rfl, rfl⟩ : kk = Sum.inl u[i].1 ∧ v = .bl u[i].2 := by
      unfold uK at hk
      rw [List.getElem?_map, ht] at hk
      cases hk
      exact ⟨rfl, rfl⟩
    have tk : u.take (i + 1) = u.take i ++ [u[i]] := by rw [List.take_add_one, ht]; rfl
    rw [tk, List.map_append, List.map_append]
    have lt : (((u.take i).map fun p => decide (p.1 ∈ t) && !p.2).map V.bl).length ≤ 60000 := by rw [List.length_map, List.length_map, List.length_take]; omega
    generalize u[i] = p at *
    have eT : L2.upd H1 T' (.tup [kV (Sum.inl p.1), .bl p.2]) T' = some (.tup [.int p.1, .bl p.2]) := upd_same
    have k2 : ∀ b o, b ≠ B → G1 b = some o → L2.upd H1 T' (.tup [kV (Sum.inl p.1), .bl p.2]) b = some o := fun b o n e => by
      have := k1 _ _ n e
      rw [upd_ne (ne_new this hT')]
      exact this
    have eB2 : L2.upd H1 T' (.tup [kV (Sum.inl p.1), .bl p.2]) B = some (.lst (((u.take i).map fun p => decide (p.1 ∈ t) && !p.2).map V.bl)) := by rw [upd_ne (ne_new eB hT')]; exact eB
    generalize L2.upd H1 T' (.tup [kV (Sum.inl p.1), .bl p.2]) = H2 at *
    show gTupD 2 _ (.ref T') (S9 F G T F' U v5 none none) H2 _
    obtain ⟨kvs, eTd, _, mT⟩ := id hT1
    have eTd2 := k2 _ _ TB eTd
    have dg := DGet.k (k := (Sum.inl p.1 : Key)) eTd2
    unfold S9
    simp only [r_seq, r_next, r_brk, r_cont, r_asg, r_name, r_ret, r_retN, r_drop, r_ifs, r_never, r_var, r_c, r_op, r_un, r_if, r_tst, r_b, r_not, r_and, r_or, r_andV, r_orV, r_notV, r_nil, r_cons, r_tup, r_lst, r_cb, r_call, r_bm, r_bm0, r_sl, r_nopart, r_part, r_rev, r_gnil, r_gcons, r_gsub, r_par, r_aug, r_chain, r_I0, r_I, r_U, r_ixd, r_lend, r_tupd, r_listd, r_sld, r_app, r_ext, r_reverse, r_setl, r_cat, r_int1, r_eqS, r_neS, scal_ii, scal_bb, scal_ss, at0, at1, at2, sq_lst, sq_tup, isLst_lst, List.getElem?_cons_zero, List.getElem?_cons_succ, List.set_cons_zero, List.set_cons_succ, V.int.injEq, V.bl.injEq, V.ref.injEq, V.str.injEq, HO.lst.injEq, HO.tup.injEq, Option.some.injEq, exists_eq_left', exists_eq_left, List.cons.injEq, and_true, true_and, decide_eq_true_eq, reduceCtorEq, false_and, exists_false, or_false, false_or, exists_const, and_assoc, exists_and_left, List.append_nil, ix0, ix1, ix2, cm_mod, cdw1009, cdw2003, cdw7, cdw64, cdw2, cm104729, cm2, cm3, upd_same, List.length_cons, List.length_nil, Int.reduceLT, Int.reduceLE, Nat.reduceAdd, Nat.reduceLeDiff, Nat.reduceLT, Int.reduceToNat, r_for1, r_forL, r_forT, r_lcL, r_lc1, r_yes, r_gtupD, wipe_0, wipe_1, List.cons_append, List.nil_append, r_forS, r_ipI, ite_false, ite_true, Bool.not_true, Bool.not_false, decide_true, decide_false, r_isd, r_islt, cD_ty, cD_ref, tD_non, tD_bl, tD_int, tD_str, tD_ref, tH_lst, tH_tup, tH_dK, tH_ins, ki_self, ki_int_bool, ki_non_int, ki_str_int, ki_lt_lst, ki_lt_tup, r_fld, r_sfld, HO.ins.injEq, cx_K, eT, r_dinE]
    refine ⟨rfl, _, dg, ?_⟩
    rw [mT]
    have fin : ∀ {q : Bool}, q = (decide (p.1 ∈ t) && !p.2) → ∃ acc, H2 B = some (.lst acc) ∧ acc.length < sizeLine ∧ (∀ b o, b ≠ B → G1 b = some o → L2.upd H2 B (.lst (acc ++ [V.bl q])) b = some o) ∧ acc ++ [V.bl q] = ((u.take i).map fun p => decide (p.1 ∈ t) && !p.2).map V.bl ++ ([p].map fun p => decide (p.1 ∈ t) && !p.2).map V.bl := fun {q} e => ⟨_, eB2, Nat.lt_of_le_of_lt lt (by decide), fun c o n z => by rw [upd_ne n]; exact k2 _ _ n z, by rw [e]; rfl⟩
    by_cases c1 : p.1 ∈ t
    · rw [if_pos (decide_eq_true c1)]
      exact fin (by simp [c1])
    · rw [if_neg (by simp [c1])]
      exact fin (by simp [c1])
  · obtain rfl : i = u.length := by omega
    rw [List.take_length] at eB
    refine .inl ⟨⟨es1, by rw [ul]; exact Nat.le_refl _⟩, es1, k B _ (fun b o e => ?_) (by rw [upd_ne BU]; exact eB)⟩
    by_cases z : b = U
    · rw [z, eU] at e
      cases e
      rw [z, upd_same]
    · rw [upd_ne z]
      exact k1 _ _ (ne_new e hB0) (keep _ _ z e)
theorem all_run {Q : VK} (TU : T ≠ U) (eU : H U = some (.dK (uK u))) (hT : TdD H T t) (lu : u.length ≤ 60000) (k : ∀ B H', Same H H' → H' B = some (.lst ((u.map fun p => decide (p.1 ∈ t)).map V.bl)) → Q (.ref B) H') : t_all (S9 F G T F' U v5 v6 v7) H Q := by
  unfold t_all
  rw [r_lock]
  refine ⟨U, _, eU, trivial, fun od => ?_⟩
  have es : L2.upd H U (.frz od (.dK (uK u))) U = some (.frz od (.dK (uK u))) := upd_same
  have keep : ∀ b o, b ≠ U → H b = some o → L2.upd H U (.frz od (.dK (uK u))) b = some o := fun b o n e => by rw [upd_ne n]; exact e
  have fr : ∀ b, b ≠ U → L2.upd H U (.frz od (.dK (uK u))) b = none → H b = none := fun b n e => by rwa [upd_ne n] at e
  have hT1 : TdD (L2.upd H U (.frz od (.dK (uK u)))) T t := hT.imp (upd_ne TU)
  generalize L2.upd H U (.frz od (.dK (uK u))) = G1 at *
  rw [r_lcK]
  refine ⟨_, rfl, U, od, rfl, .inl ⟨uK u, es, fun B hB => ?_⟩⟩
  have BU : B ≠ U := fun z => by rw [z, es] at hB; cases hB
  have hB0 := fr B BU hB
  have TB : T ≠ B := fun z => by obtain ⟨kv, e, _⟩ := hT1; rw [z, hB] at e; cases e
  have ul : (uK u).length = u.length := by unfold uK; rw [List.length_map]
  refine ⟨fun i m H' => i + m = u.length ∧ (∀ b o, b ≠ B → G1 b = some o → H' b = some o) ∧ H' B = some (.lst (((u.take i).map fun p => decide (p.1 ∈ t)).map V.bl)), ⟨u.length, by omega, fun b o n e => by rw [upd_ne n]; exact e, by rw [upd_same]; rfl⟩, ?_⟩
  rintro i m H1 ⟨em, k1, eB⟩
  have es1 := k1 _ _ BU.symm es
  by_cases c : i < u.length
  · refine .inr ⟨⟨es1, by rw [ul]; exact c⟩, fun H2 => (∀ b o, b ≠ B → G1 b = some o → H2 b = some o) ∧ H2 B = some (.lst (((u.take (i + 1)).map fun p => decide (p.1 ∈ t)).map V.bl)), fun H2 q => ⟨m - 1, by omega, by omega, q⟩, ?_⟩
    rintro x H2 ⟨rfl, kk, v, hk, rfl⟩
    have ht : u[i]? = some u[i] := List.getElem?_eq_getElem c
    obtain ⟨rfl, rfl⟩ : kk = Sum.inl u[i].1 ∧ v = .bl u[i].2 := by
      unfold uK at hk
      rw [List.getElem?_map, ht] at hk
      cases hk
      exact ⟨rfl, rfl⟩
    have tk : u.take (i + 1) = u.take i ++ [u[i]] := by rw [List.take_add_one, ht]; rfl
    rw [tk, List.map_append, List.map_append]
    have lt : (((u.take i).map fun p => decide (p.1 ∈ t)).map V.bl).length ≤ 60000 := by rw [List.length_map, List.length_map, List.length_take]; omega
    generalize u[i] = p at *
    show gName 6 (.int p.1) (S9 F G T F' U v5 none v7) H2 _
    obtain ⟨kvs, eTd, _, mT⟩ := id hT1
    have eTd2 := k1 _ _ TB eTd
    have dg := DGet.k (k := (Sum.inl p.1 : Key)) eTd2
    unfold S9
    simp only [r_seq, r_next, r_brk, r_cont, r_asg, r_name, r_ret, r_retN, r_drop, r_ifs, r_never, r_var, r_c, r_op, r_un, r_if, r_tst, r_b, r_not, r_and, r_or, r_andV, r_orV, r_notV, r_nil, r_cons, r_tup, r_lst, r_cb, r_call, r_bm, r_bm0, r_sl, r_nopart, r_part, r_rev, r_gnil, r_gcons, r_gsub, r_par, r_aug, r_chain, r_I0, r_I, r_U, r_ixd, r_lend, r_tupd, r_listd, r_sld, r_app, r_ext, r_reverse, r_setl, r_cat, r_int1, r_eqS, r_neS, scal_ii, scal_bb, scal_ss, at0, at1, at2, sq_lst, sq_tup, isLst_lst, List.getElem?_cons_zero, List.getElem?_cons_succ, List.set_cons_zero, List.set_cons_succ, V.int.injEq, V.bl.injEq, V.ref.injEq, V.str.injEq, HO.lst.injEq, HO.tup.injEq, Option.some.injEq, exists_eq_left', exists_eq_left, List.cons.injEq, and_true, true_and, decide_eq_true_eq, reduceCtorEq, false_and, exists_false, or_false, false_or, exists_const, and_assoc, exists_and_left, List.append_nil, ix0, ix1, ix2, cm_mod, cdw1009, cdw2003, cdw7, cdw64, cdw2, cm104729, cm2, cm3, upd_same, List.length_cons, List.length_nil, Int.reduceLT, Int.reduceLE, Nat.reduceAdd, Nat.reduceLeDiff, Nat.reduceLT, Int.reduceToNat, r_for1, r_forL, r_forT, r_lcL, r_lc1, r_yes, r_gtupD, wipe_0, wipe_1, List.cons_append, List.nil_append, r_forS, r_ipI, ite_false, ite_true, Bool.not_true, Bool.not_false, decide_true, decide_false, r_isd, r_islt, cD_ty, cD_ref, tD_non, tD_bl, tD_int, tD_str, tD_ref, tH_lst, tH_tup, tH_dK, tH_ins, ki_self, ki_int_bool, ki_non_int, ki_str_int, ki_lt_lst, ki_lt_tup, r_fld, r_sfld, HO.ins.injEq, cx_K, r_dinE]
    refine ⟨rfl, _, dg, _, eB, Nat.lt_of_le_of_lt lt (by decide), fun c o n z => by rw [upd_ne n]; exact k1 _ _ n z, ?_⟩
    rw [mT]
    rfl
  · obtain rfl : i = u.length := by omega
    rw [List.take_length] at eB
    refine .inl ⟨⟨es1, by rw [ul]; exact Nat.le_refl _⟩, es1, k B _ (fun b o e => ?_) (by rw [upd_ne BU]; exact eB)⟩
    by_cases z : b = U
    · rw [z, eU] at e
      cases e
      rw [z, upd_same]
    · rw [upd_ne z]
      exact k1 _ _ (ne_new e hB0) (keep _ _ z e)
theorem rr5_run {K : PySem.W.Frag} {D : Ends} {fs : List R4} (rF : Rs4 H F' fs) (hT : TdD H T t) (lab : ∀ y ∈ fs, y.w = "LABEL" → ∃ n : Int, y.a = .int n) (lf : fs.length ≤ 60000) (k : ∀ B H', Same H H' → Rs4 H' B (fs.filter (keepR t)) → D.rt (.ref B) H') : t_rr5 K D (S9 F G T F' U v5 v6 v7) H := by
  obtain ⟨refs, eF, pF⟩ := rF
  have lp := Paired.length pF
  unfold t_rr5 S9
  rw [r_ret, r_lcL]
  simp only [r_seq, r_next, r_brk, r_cont, r_asg, r_name, r_ret, r_retN, r_drop, r_ifs, r_never, r_var, r_c, r_op, r_un, r_if, r_tst, r_b, r_not, r_and, r_or, r_andV, r_orV, r_notV, r_nil, r_cons, r_tup, r_lst, r_cb, r_call, r_bm, r_bm0, r_sl, r_nopart, r_part, r_rev, r_gnil, r_gcons, r_gsub, r_par, r_aug, r_chain, r_I0, r_I, r_U, r_ixd, r_lend, r_tupd, r_listd, r_sld, r_app, r_ext, r_reverse, r_setl, r_cat, r_int1, r_eqS, r_neS, scal_ii, scal_bb, scal_ss, at0, at1, at2, sq_lst, sq_tup, isLst_lst, List.getElem?_cons_zero, List.getElem?_cons_succ, List.set_cons_zero, List.set_cons_succ, V.int.injEq, V.bl.injEq, V.ref.injEq, V.str.injEq, HO.lst.injEq, HO.tup.injEq, Option.some.injEq, exists_eq_left', exists_eq_left, List.cons.injEq, and_true, true_and, decide_eq_true_eq, reduceCtorEq, false_and, exists_false, or_false, false_or, exists_const, and_assoc, exists_and_left, List.append_nil, ix0, ix1, ix2, cm_mod, cdw1009, cdw2003, cdw7, cdw64, cdw2, cm104729, cm2, cm3, upd_same, List.length_cons, List.length_nil, Int.reduceLT, Int.reduceLE, Nat.reduceAdd, Nat.reduceLeDiff, Nat.reduceLT, Int.reduceToNat, r_for1, r_forL, r_forT, r_lcL, r_lc1, r_yes, r_gtupD, wipe_0, wipe_1, List.cons_append, List.nil_append, r_forS, r_ipI, ite_false, ite_true, Bool.not_true, Bool.not_false, decide_true, decide_false, r_isd, r_islt, cD_ty, cD_ref, tD_non, tD_bl, tD_int, tD_str, tD_ref, tH_lst, tH_tup, tH_dK, tH_ins, ki_self, ki_int_bool, ki_non_int, ki_str_int, ki_lt_lst, ki_lt_tup, r_fld, r_sfld, HO.ins.injEq, cx_K]
  refine ⟨⟨_, SqL.of eF⟩, fun B hB => cp_list (xs := refs.map V.ref) (fun i H' => Same H H' ∧ ∃ rs : List Addr, H' B = some (.lst (rs.map V.ref)) ∧ Paired (fun r x => H r = some (.tup (v4 x))) rs ((fs.take i).filter (keepR t))) ⟨Same.new' (Same.refl H) hB, [], upd_same, .nil⟩ (fun i H' _ q => SqL.of (q.1 _ _ eF)) ?_ ?_⟩
  · rintro i y H2 hy ⟨s2, rs, eB, pB⟩
    rw [List.getElem?_map] at hy
    obtain ⟨r, hr1, rfl⟩ := Option.map_eq_some_iff.mp hy
    obtain ⟨hi0, e0⟩ := List.getElem?_eq_some_iff.mp hr1
    have hi' : i < fs.length := by rw [← lp]; exact hi0
    have hrt := Paired.at' pF hi0 hi'
    rw [e0] at hrt
    have ht : fs[i]? = some fs[i] := List.getElem?_eq_getElem hi'
    have tk : fs.take (i + 1) = fs.take i ++ [fs[i]] := by rw [List.take_add_one, ht]; rfl
    have lx := lab _ (List.getElem_mem hi')
    rw [tk, List.filter_append]
    have lr := Paired.length pB
    have lfi := List.length_filter_le (keepR t) (fs.take i)
    rw [List.length_take] at lfi
    generalize fs[i] = x at *
    have ex := s2 _ _ hrt
    show gName 5 (.ref r) (S9 F G T F' U none v6 v7) H2 _
    unfold S9
    unfold v4 at ex
    simp only [r_seq, r_next, r_brk, r_cont, r_asg, r_name, r_ret, r_retN, r_drop, r_ifs, r_never, r_var, r_c, r_op, r_un, r_if, r_tst, r_b, r_not, r_and, r_or, r_andV, r_orV, r_notV, r_nil, r_cons, r_tup, r_lst, r_cb, r_call, r_bm, r_bm0, r_sl, r_nopart, r_part, r_rev, r_gnil, r_gcons, r_gsub, r_par, r_aug, r_chain, r_I0, r_I, r_U, r_ixd, r_lend, r_tupd, r_listd, r_sld, r_app, r_ext, r_reverse, r_setl, r_cat, r_int1, r_eqS, r_neS, scal_ii, scal_bb, scal_ss, at0, at1, at2, sq_lst, sq_tup, isLst_lst, List.getElem?_cons_zero, List.getElem?_cons_succ, List.set_cons_zero, List.set_cons_succ, V.int.injEq, V.bl.injEq, V.ref.injEq, V.str.injEq, HO.lst.injEq, HO.tup.injEq, Option.some.injEq, exists_eq_left', exists_eq_left, List.cons.injEq, and_true, true_and, decide_eq_true_eq, reduceCtorEq, false_and, exists_false, or_false, false_or, exists_const, and_assoc, exists_and_left, List.append_nil, ix0, ix1, ix2, cm_mod, cdw1009, cdw2003, cdw7, cdw64, cdw2, cm104729, cm2, cm3, upd_same, List.length_cons, List.length_nil, Int.reduceLT, Int.reduceLE, Nat.reduceAdd, Nat.reduceLeDiff, Nat.reduceLT, Int.reduceToNat, r_for1, r_forL, r_forT, r_lcL, r_lc1, r_yes, r_gtupD, wipe_0, wipe_1, List.cons_append, List.nil_append, r_forS, r_ipI, ite_false, ite_true, Bool.not_true, Bool.not_false, decide_true, decide_false, r_isd, r_islt, cD_ty, cD_ref, tD_non, tD_bl, tD_int, tD_str, tD_ref, tH_lst, tH_tup, tH_dK, tH_ins, ki_self, ki_int_bool, ki_non_int, ki_str_int, ki_lt_lst, ki_lt_tup, r_fld, r_sfld, HO.ins.injEq, cx_K, ex, r_dinE]
    have yes : keepR t x = true → ∃ acc, H2 B = some (.lst acc) ∧ acc.length < sizeLine ∧ Same H (L2.upd H2 B (.lst (acc ++ [.ref r]))) ∧ ∃ rs : List Addr, acc ++ [V.ref r] = rs.map V.ref ∧ Paired (fun r x => H r = some (.tup (v4 x))) rs ((fs.take i).filter (keepR t) ++ [x].filter (keepR t)) := fun q => by
      refine ⟨_, eB, Nat.lt_of_le_of_lt (by rw [List.length_map]; omega : _ ≤ 60000) (by decide), fun b o e => by rw [upd_ne (ne_new e hB)]; exact s2 _ _ e, rs ++ [r], by rw [List.map_append]; rfl, ?_⟩
      rw [List.filter_cons_of_pos q]
      exact Paired.snoc' pB hrt
    refine ⟨rfl, ?_⟩
    by_cases c : x.w = "LABEL"
    · obtain ⟨n, en⟩ := lx c
      rw [if_neg (by simp [c])]
      obtain ⟨o, dg, os⟩ := (hT.imp (H' := H2) (by obtain ⟨kv, e, _⟩ := hT; rw [s2 _ _ e, e])).get n
      refine ⟨o, by rw [en]; exact dg, ?_⟩
      rw [os]
      have kx : keepR t x = decide (n ∈ t) := by
        unfold keepR
        rw [decide_eq_true c, en]
        rfl
      by_cases d : n ∈ t
      · rw [if_pos (decide_eq_true d)]
        exact yes (by rw [kx]; exact decide_eq_true d)
      · rw [if_neg (by simp [d])]
        rw [List.filter_cons_of_neg (by rw [kx]; simp [d]), List.filter_nil, List.append_nil]
        exact ⟨s2, rs, eB, pB⟩
    · rw [if_pos (by simp [c])]
      exact yes (by unfold keepR; simp [c])
  · rintro H2 ⟨s2, rs, eB, pB⟩
    rw [List.length_map, lp, List.take_length] at pB
    exact k B H2 s2 ⟨rs, eB, Paired.map' pB fun r x e => s2 _ _ e⟩
end
section
variable {P : Program} {w : World} {K : PySem.W.Frag} {mg : Str → Option Value} {base : Heap} {f : Addr} {fd : FuncData}
abbrev srr : Stmt := top 26
theorem scrr : FnScope ["rows", "go_through", "told", "found", "unknown", "row", "label", "live"] ["rows", "go_through"] (defScope srr) := ⟨rfl, rfl, rfl, by decide +kernel, rfl, by decide +kernel, by decide +kernel⟩

theorem ok_rr {S : Addr → Option Sp} (T : Txt mg) (hS : ∀ f sp, S f = some sp → Held P w K mg base 1 f sp) (F : FnP K "reached_rows" "reached_rows" srr f fd) : FnOk P w K mg base CX0 2 f fd ["rows", "go_through"] (spRR S) := by
  refine F.ok scrr (fun vs H Q E h => ?_) (fun cdv A outer s H vs Q E hr h => ?_)
  · obtain ⟨F, G, xs, k, g, rfl, _⟩ := h
    rfl
  · have hu1 := hu_of hr
    refine ⟨t_rr K S, PSs.nox (show PSs _ _ (t_rr K S) from (pss_cons (ps_set (i := 2) scrr.nd rfl (Or.inr rfl) pe_dnewK)
  (pss_cons (ps_asg (pe_callA hS (hr.mono (by decide)) (i := 1) rfl (Or.inl rfl) (pa_cons (pv 0) (pa_cons (pv 2) pa_nil))) (pg_tupD (n := 2) rfl (pgs_cons (pg_name (i := 3) scrr.nd rfl (Or.inl rfl)) (pgs_cons (pg_name (i := 4) scrr.nd rfl (Or.inl rfl)) pgs_nil))))
  (pss_cons (ps_while PassesOwn.never (pt_val (pe_callB (cr_any rfl) (by rfl) T.b_any (by decide +kernel) (pa_cons (pe_lock (pe_lc (own := [("label", 6), ("live", 7)]) (tt := tYes) rfl scrr.nd (pi_items (pv 4)) (blkOk_by (own := [("label", 6), ("live", 7)]) (N := ["rows", "go_through", "told", "found", "unknown", "row", "label", "live"]) (sc := defScope srr) (by decide +kernel)) (fun _ _ _ _ _ => (pg_tupD (n := 2) rfl (pgs_cons (pg_name (i := 6) scrr.nd rfl (Or.inl rfl)) (pgs_cons (pg_name (i := 7) scrr.nd rfl (Or.inl rfl)) pgs_nil)))) (fun _ _ _ _ _ => pts_nil) (fun _ _ _ _ _ => (pe_and (pe_cmp (pc_din hu1 (pv 6) (pv 2))) (pe_one (pe_not (pv 7))))))) pa_nil)))
    (pss_one (ps_asg (pe_callA hS (hr.mono (by decide)) (i := 1) rfl (Or.inl rfl) (pa_cons (pv 0) (pa_cons (pv 2) pa_nil))) (pg_tupD (n := 2) rfl (pgs_cons (pg_name (i := 3) scrr.nd rfl (Or.inl rfl)) (pgs_cons (pg_name (i := 4) scrr.nd rfl (Or.inl rfl)) pgs_nil))))))
  (pss_cons (ps_if (pt_val (pe_callB (cr_all rfl) (by rfl) T.b_all (by decide +kernel) (pa_cons (pe_lock (pe_lc (own := [("label", 6)]) (g := gName 6) (tt := tYes) rfl scrr.nd (pi_keys (pv 4)) (blkOk_by (own := [("label", 6)]) (N := ["rows", "go_through", "told", "found", "unknown", "row", "label", "live"]) (sc := defScope srr) (by decide +kernel)) (fun _ _ _ _ _ => (pg_name (i := 6) scrr.nd rfl (Or.inl rfl))) (fun _ _ _ _ _ => pts_nil) (fun _ _ _ _ _ => (pe_cmp (pc_din hu1 (pv 6) (pv 2)))))) pa_nil)))
    (pss_one (ps_ret (pv 3)))
    pss_nil)
  (pss_one (ps_ret (pe_lc (own := [("row", 5)]) (g := gName 5) rfl scrr.nd (pi_list (pv 3)) (blkOk_by (own := [("row", 5)]) (N := ["rows", "go_through", "told", "found", "unknown", "row", "label", "live"]) (sc := defScope srr) (by decide +kernel)) (fun _ _ _ _ _ => (pg_name (i := 5) scrr.nd rfl (Or.inl rfl))) (fun _ _ _ _ _ => (pts_one (PW.pt (pw_or (pt_cmpR op_ne (pe_ix ix_d (pv 5) pe_int (fun _ _ => rfl)) pe_str (nomark _)) (pw_or1 (pt_cmp (pc_din hu1 (pe_ix ix_d (pv 5) pe_int (fun _ _ => rfl)) (pv 2)))))))) (fun _ _ _ _ _ => (pv 5)))))))))), ?_⟩
    obtain ⟨F, G, xs, k, g, rfl, hG, hF, ok, hl, hk, hg, kQ⟩ := h
    unfold t_rr
    show tSeq t_rr1 _ _ [some (.ref F), some (.ref G), none, none, none, none, none, none] H
    rw [r_seq]
    unfold t_rr1
    rw [r_asg, r_dnew]
    intro T0 hT0
    show tSeq (t_rr2 S) _ _ [some (.ref F), some (.ref G), some (.ref T0), none, none, none, none, none] _
    rw [r_seq]
    unfold t_rr2
    have s1 := Same.new' (o := .dK []) (Same.refl H) hT0
    have tT0 : TdD (L2.upd H T0 (.dK [])) T0 [] := ⟨[], upd_same, Nat.le_refl _, fun n => rfl⟩
    generalize L2.upd H T0 (.dK []) = H1 at *
    have one : ∀ {H1 : Hp} {t : List Int} {g' : Go} {v3 v4 v5 v6 v7 : Option V} {D : Ends}, Same H H1 → TdD H1 T0 t → t.length ≤ 100000 → g' = goTo t xs → (∀ F' U H', Same H H' → F' ≠ T0 → T0 ≠ U → Rs4 H' F' g'.f → H' U = some (.dK (uK g'.u)) → TdD H' T0 g'.t → D.nx (S9 F G T0 F' U v5 v6 v7) H') → (tAsg (tCallA 1 S (tCons (tVar 0) (tCons (tVar 2) tNil))) (gTupD 2 (gCons (gName 3) (gCons (gName 4) gNil)))) D [some (.ref F), some (.ref G), some (.ref T0), v3, v4, v5, v6, v7] H1 := fun {H1 t g' v3 v4 v5 v6 v7 D} s hT lt eg kk => by
      rw [r_asg, r_callA]
      simp only [r_seq, r_next, r_brk, r_cont, r_asg, r_name, r_ret, r_retN, r_drop, r_ifs, r_never, r_var, r_c, r_op, r_un, r_if, r_tst, r_b, r_not, r_and, r_or, r_andV, r_orV, r_notV, r_nil, r_cons, r_tup, r_lst, r_cb, r_call, r_bm, r_bm0, r_sl, r_nopart, r_part, r_rev, r_gnil, r_gcons, r_gsub, r_par, r_aug, r_chain, r_I0, r_I, r_U, r_ixd, r_lend, r_tupd, r_listd, r_sld, r_app, r_ext, r_reverse, r_setl, r_cat, r_int1, r_eqS, r_neS, scal_ii, scal_bb, scal_ss, at0, at1, at2, sq_lst, sq_tup, isLst_lst, List.getElem?_cons_zero, List.getElem?_cons_succ, List.set_cons_zero, List.set_cons_succ, V.int.injEq, V.bl.injEq, V.ref.injEq, V.str.injEq, HO.lst.injEq, HO.tup.injEq, Option.some.injEq, exists_eq_left', exists_eq_left, List.cons.injEq, and_true, true_and, decide_eq_true_eq, reduceCtorEq, false_and, exists_false, or_false, false_or, exists_const, and_assoc, exists_and_left, List.append_nil, ix0, ix1, ix2, cm_mod, cdw1009, cdw2003, cdw7, cdw64, cdw2, cm104729, cm2, cm3, upd_same, List.length_cons, List.length_nil, Int.reduceLT, Int.reduceLE, Nat.reduceAdd, Nat.reduceLeDiff, Nat.reduceLT, Int.reduceToNat, r_for1, r_forL, r_forT, r_lcL, r_lc1, r_yes, r_gtupD, wipe_0, wipe_1, List.cons_append, List.nil_append, r_forS, r_ipI, ite_false, ite_true, Bool.not_true, Bool.not_false, decide_true, decide_false, r_isd, r_islt, cD_ty, cD_ref, tD_non, tD_bl, tD_int, tD_str, tD_ref, tH_lst, tH_tup, tH_dK, tH_ins, ki_self, ki_int_bool, ki_non_int, ki_str_int, ki_lt_lst, ki_lt_tup, r_fld, r_sfld, HO.ins.injEq, cx_K]
      refine ⟨spRW, hG, F, T0, xs, t, rfl, hF.same s, ok, hl, hT, lt, fun p F' U H2 k2 f1 f2 ep rF eU tT => ?_⟩
      rw [← eg] at rF eU tT
      refine ⟨p, rfl, _, ep, rfl, _, _, rfl, _, _, rfl, rfl, ?_⟩
      obtain ⟨kv, eT, _⟩ := id hT
      exact kk F' U H2 (fun b o e => k2 _ _ (fun z => by rw [z, hT0] at e; cases e) (s _ _ e)) (fun z => by rw [z, eT] at f1; cases f1) (fun z => by rw [← z, eT] at f2; cases f2) rF eU tT
    refine one s1 tT0 (Nat.zero_le _) rfl fun F' U H2 s2 nF nU rF eU tT => ?_
    show tSeq (t_rr3 K S) _ _ (S9 F G T0 F' U none none none) H2
    rw [r_seq]
    unfold t_rr3
    have gl0 := go_len [] xs xs.length (Nat.le_refl _)
    rw [List.take_length] at gl0
    refine ⟨fun m σ H' => ∃ (g' : Go) (F' U : Addr) (v5 v6 v7 : Option V), loopGo xs m g' = some g ∧ m ≤ k ∧ g'.t.length + m * xs.length ≤ (k + 1) * xs.length ∧ g'.f.length ≤ 50000 ∧ g'.u.length ≤ 50000 ∧ (∀ y ∈ g'.f, y.w = "LABEL" → ∃ n : Int, y.a = .int n) ∧ σ = S9 F G T0 F' U v5 v6 v7 ∧ Same H H' ∧ F' ≠ T0 ∧ T0 ≠ U ∧ Rs4 H' F' g'.f ∧ H' U = some (.dK (uK g'.u)) ∧ TdD H' T0 g'.t, ⟨k, goTo [] xs, F', U, none, none, none, hg, Nat.le_refl _, by have := gl0.t; rw [List.length_nil] at this; rw [Nat.succ_mul]; omega, Nat.le_trans gl0.f hl, Nat.le_trans gl0.u hl, go_lab ok, rfl, s2, nF, nU, rF, eU, tT⟩, ?_⟩
    rintro m σ H3 ⟨g', F', U, v5, v6, v7, em, mk, bt, bf, bu, lab, rfl, s3, nF, nU, rF, eU, tT⟩
    have bt9 : g'.t.length ≤ 90000 := by
      have : (k + 1) * xs.length ≤ (k + 2) * xs.length := Nat.mul_le_mul_right _ (by omega)
      omega
    rw [r_b, r_cb, r_cons]
    refine any_run nU eU tT (by omega) fun B H4 s4 eB => ?_
    refine ⟨B, _, rfl, SqL.of eB, _, rfl, ?_⟩
    have s34 : Same H H4 := fun b o e => s4 _ _ (s3 _ _ e)
    have rF4 := rF.same s4
    have eU4 := s4 _ _ eU
    have tT4 : TdD H4 T0 g'.t := tT.imp (by obtain ⟨kv, e, _⟩ := tT; rw [s4 _ _ e, e])
    have ea : (g'.u.map fun p => decide (p.1 ∈ g'.t) && !p.2).any id = again g' := by
      unfold again
      rw [List.any_map]
      rfl
    rw [ea]
    cases m with
    | zero => cases em
    | succ m =>
      unfold loopGo at em
      by_cases ca : again g' = true
      · rw [if_pos ca] at em
        rw [if_pos ca]
        refine ⟨_, fun σ' H' h => h, ?_⟩
        have gl := go_len g'.t xs xs.length (Nat.le_refl _)
        rw [List.take_length] at gl
        refine one s34 tT4 (by omega) rfl fun F2 U2 H5 s5 nF2 nU2 rF5 eU5 tT5 => ?_
        refine ⟨m, Nat.lt_succ_self _, goTo g'.t xs, F2, U2, v5, v6, v7, em, by omega, ?_, Nat.le_trans gl.f hl, Nat.le_trans gl.u hl, go_lab ok, rfl, s5, nF2, nU2, rF5, eU5, tT5⟩
        have := gl.t
        rw [Nat.succ_mul] at bt
        omega
      · rw [if_neg ca] at em
        cases em
        rw [if_neg ca]
        unfold t_rr4
        dsimp only
        rw [r_seq, r_ifs, r_b, r_cb, r_cons]
        refine all_run nU eU4 tT4 (by omega) fun B2 H5 s5 eB2 => ?_
        refine ⟨B2, _, rfl, SqL.of eB2, _, rfl, ?_⟩
        have e2 : (g.u.map fun p => decide (p.1 ∈ g.t)).all id = g.u.all fun p => decide (p.1 ∈ g.t) := by
          rw [List.all_map]
          rfl
        rw [e2]
        have s35 : Same H H5 := fun b o e => s5 _ _ (s34 _ _ e)
        have rF5 := rF4.same s5
        unfold endGo at kQ
        by_cases cb : (g.u.all fun p => decide (p.1 ∈ g.t)) = true
        · rw [if_pos cb] at kQ ⊢
          exact ⟨_, rfl, kQ F' H5 s35 rF5⟩
        · rw [if_neg cb] at kQ ⊢
          show t_rr5 K _ (S9 F G T0 F' U v5 v6 v7) H5
          exact rr5_run rF5 (tT4.imp (by obtain ⟨kv, e, _⟩ := tT4; rw [s5 _ _ e, e])) lab (by omega) fun B3 H6 s6 rB => kQ B3 H6 (fun b o e => s6 _ _ (s35 _ _ e)) rB
end
end C38

set_option maxHeartbeats 2000000
namespace C38
open PySem PySem.Spec PyProof.Rows L2
def firstGo : List R3 → List R4
  | [] => []
  | x :: r => ⟨x.w, x.a, x.l, .non⟩ :: (if leaving x.w = true then [] else firstGo r)
def spFR : Sp := fun vs H Q _ => ∃ (F : Addr) (xs : List R3), vs = [.ref F] ∧ Rs3 H F xs ∧ (∀ x ∈ xs, x.w ∈ FW) ∧ xs.length ≤ 50000 ∧ ∀ F' H', Same H H' → Rs4 H' F' (firstGo xs) → Q (.ref F') H'
/-- rows with handlers, where nothing opens one -/
def noSetup (f : Str → Bool) : Prop := f "SETUP_FINALLY" = false ∧ f "SETUP_CLEANUP" = false ∧ f "SETUP_WITH" = false
def spWH (S : Addr → Option Sp) : Sp := fun vs H Q E => ∃ (F W : Addr) (xs : List R3) (f : Str → Bool), vs = [.ref F, .ref W] ∧ WdD H W f ∧ noSetup f ∧ Rs3 H F xs ∧ (∀ x ∈ xs, Ok3 x) ∧ xs.length ≤ 50000 ∧
  ((f "LABEL" = false ∧ ∀ F' H', Same H H' → Rs4 H' F' (firstGo xs) → Q (.ref F') H') ∨
  (f "LABEL" = true ∧ ∃ (k : Nat) (g : Go), (k + 2) * xs.length ≤ 90000 ∧ loopGo xs k (goTo [] xs) = some g ∧ ∀ F' H', Same H H' → Rs4 H' F' (endGo g) → Q (.ref F') H'))
def LvF (H1 : Hp) (F F' : Addr) (xs : List R3) (i : Nat) (σ : L2.St) (H : Hp) : Prop := ∃ v2 v3 v4, σ = [some (.ref F), some (.ref F'), v2, v3, v4] ∧ (∀ b o, b ≠ F' → H1 b = some o → H b = some o) ∧ ∃ done, Rs4 H F' done ∧ done.length ≤ i ∧ done ++ firstGo (xs.drop i) = firstGo xs
section
variable {P : Program} {w : World} {K : PySem.W.Frag} {mg : Str → Option Value} {base : Heap} {f : Addr} {fd : FuncData}
abbrev sfr : Stmt := top 25
theorem scfr : FnScope ["rows", "found", "word", "argument", "line"] ["rows"] (defScope sfr) := ⟨rfl, rfl, rfl, by decide +kernel, rfl, by decide +kernel, by decide +kernel⟩

abbrev swh : Stmt := top 24
theorem scwh : FnScope ["rows", "words"] ["rows", "words"] (defScope swh) := ⟨rfl, rfl, rfl, by decide +kernel, rfl, by decide +kernel, by decide +kernel⟩

theorem ok_wh {S : Addr → Option Sp} {G : Addr} (T : Txt mg) (hG : S G = some spRW) (gG : mg "reached_without" = some (.ref G)) (F : FnP K "with_handlers" "with_handlers" swh f fd) (C_first_rows : Cal P w K mg base 1 "first_rows" ["rows"] spFR) (C_reached_rows : Cal P w K mg base 2 "reached_rows" ["rows", "go_through"] (spRR S)) : FnOk P w K mg base CX0 3 f fd ["rows", "words"] (spWH S) := by
  refine F.ok scwh (fun vs H Q E h => ?_) (fun cdv A outer s H vs Q E hr h => ?_)
  · obtain ⟨F, W, xs, f, rfl, _⟩ := h
    rfl
  · have hu1 := hu_of hr
    obtain ⟨F, W, xs, fw, rfl, hW, ns, hF, ok, hl, k⟩ := h
    refine ⟨_, PSs.nox (pss_cons (ps_if (pt_cmp (pc_dnotin hu1 pe_str (pv 1)))
    (pss_one (ps_ret (pe_cal C_first_rows (hr.mono (by decide)) rfl (pa_cons (pv 0) pa_nil))))
    pss_nil)
  (pss_cons (ps_if (PW.pt (pw_or (pt_cmp (pc_din hu1 pe_str (pv 1))) (pw_or (pt_cmp (pc_din hu1 pe_str (pv 1))) (pw_or1 (pt_cmp (pc_din hu1 pe_str (pv 1)))))))
    (pss_one ps_never)
    pss_nil)
  (pss_one (ps_ret (pe_cal C_reached_rows (hr.mono (by decide)) rfl (pa_cons (pv 0) (pa_cons (pe_glob (v := .ref G) rfl gG rfl) pa_nil))))))), ?_⟩
    show (_ : TS) _ [some (.ref F), some (.ref W)] H
    simp only [r_seq, r_next, r_brk, r_cont, r_asg, r_name, r_ret, r_retN, r_drop, r_ifs, r_never, r_var, r_c, r_op, r_un, r_if, r_tst, r_b, r_not, r_and, r_or, r_andV, r_orV, r_notV, r_nil, r_cons, r_tup, r_lst, r_cb, r_call, r_bm, r_bm0, r_sl, r_nopart, r_part, r_rev, r_gnil, r_gcons, r_gsub, r_par, r_aug, r_chain, r_I0, r_I, r_U, r_ixd, r_lend, r_tupd, r_listd, r_sld, r_app, r_ext, r_reverse, r_setl, r_cat, r_int1, r_eqS, r_neS, scal_ii, scal_bb, scal_ss, at0, at1, at2, sq_lst, sq_tup, isLst_lst, List.getElem?_cons_zero, List.getElem?_cons_succ, List.set_cons_zero, List.set_cons_succ, V.int.injEq, V.bl.injEq, V.ref.injEq, V.str.injEq, HO.lst.injEq, HO.tup.injEq, Option.some.injEq, exists_eq_left', exists_eq_left, List.cons.injEq, and_true, true_and, decide_eq_true_eq, reduceCtorEq, false_and, exists_false, or_false, false_or, exists_const, and_assoc, exists_and_left, List.append_nil, ix0, ix1, ix2, cm_mod, cdw1009, cdw2003, cdw7, cdw64, cdw2, cm104729, cm2, cm3, upd_same, List.length_cons, List.length_nil, Int.reduceLT, Int.reduceLE, Nat.reduceAdd, Nat.reduceLeDiff, Nat.reduceLT, Int.reduceToNat, r_for1, r_forL, r_forT, r_lcL, r_lc1, r_yes, r_gtupD, wipe_0, wipe_1, List.cons_append, List.nil_append, r_forS, r_ipI, ite_false, ite_true, Bool.not_true, Bool.not_false, decide_true, decide_false, r_isd, r_islt, cD_ty, cD_ref, tD_non, tD_bl, tD_int, tD_str, tD_ref, tH_lst, tH_tup, tH_dK, tH_ins, ki_self, ki_int_bool, ki_non_int, ki_str_int, ki_lt_lst, ki_lt_tup, r_fld, r_sfld, HO.ins.injEq, cx_K, r_dnin, r_dinE]
    obtain ⟨o1, d1, q1⟩ := hW.get "LABEL"
    obtain ⟨o2, d2, q2⟩ := hW.get "SETUP_FINALLY"
    obtain ⟨o3, d3, q3⟩ := hW.get "SETUP_CLEANUP"
    obtain ⟨o4, d4, q4⟩ := hW.get "SETUP_WITH"
    refine ⟨o1, d1, ?_⟩
    rw [q1]
    rcases k with ⟨e, k⟩ | ⟨e, n, g, hk, hg, k⟩
    · rw [if_pos (by rw [e]; rfl)]
      exact ⟨F, xs, rfl, hF, fun x hx => (ok x hx).w, hl, k⟩
    · rw [if_neg (by rw [e]; decide)]
      refine ⟨o2, d2, ?_⟩
      rw [q2, ns.1, if_neg (by decide)]
      refine ⟨o3, d3, ?_⟩
      rw [q3, ns.2.1, if_neg (by decide)]
      refine ⟨o4, d4, ?_⟩
      rw [q4, ns.2.2, if_neg (by decide)]
      exact ⟨F, G, xs, n, g, rfl, hG, hF, ok, hl, hk, hg, k⟩
theorem ok_fr {D3 : Addr} (T : Txt mg) (TV : InW K w mg "LEAVING" D3 leaving) (F : FnP K "first_rows" "first_rows" sfr f fd) : FnOk P w K mg base CX0 1 f fd ["rows"] spFR := by
  refine F.ok scfr (fun vs H Q E h => ?_) (fun cdv A outer s H vs Q E hr h => ?_)
  · obtain ⟨F, xs, rfl, _⟩ := h
    rfl
  · obtain ⟨F, xs, rfl, hF, ok, hl, k⟩ := h
    refine ⟨_, PSs.nox (pss_cons (ps_set (i := 1) scfr.nd rfl (Or.inl rfl) (pe_lst pa_nil))
  (pss_cons (ps_for PassesOwn.never rfl (pi_seqV 0) (pg_tupD (n := 3) rfl (pgs_cons (pg_name (i := 2) scfr.nd rfl (Or.inl rfl)) (pgs_cons (pg_name (i := 3) scfr.nd rfl (Or.inl rfl)) (pgs_cons (pg_name (i := 4) scfr.nd rfl (Or.inl rfl)) pgs_nil))))
    (pss_cons (ps_expr (pe_bm PySem.F.plainAttrs_list PySem.F.slot_list_append PySem.F.type_list_append mt_append (pv 1) (pa_cons (pe_tup (pa_cons (pv 2) (pa_cons (pv 3) (pa_cons (pv 4) (pa_cons pe_non pa_nil))))) pa_nil)))
  (pss_one (ps_if (pt_cmpR (op_inTK K w rfl rfl TV.kd) (pv 2) (pe_glob (v := .ref _) rfl TV.g rfl) (by rfl))
    (pss_one ps_break)
    pss_nil))))
  (pss_one (ps_ret (pv 1))))), ?_⟩
    show (_ : TS) _ [some (.ref F), none, none, none, none] H
    simp only [r_seq, r_next, r_brk, r_cont, r_asg, r_name, r_ret, r_retN, r_drop, r_ifs, r_never, r_var, r_c, r_op, r_un, r_if, r_tst, r_b, r_not, r_and, r_or, r_andV, r_orV, r_notV, r_nil, r_cons, r_tup, r_lst, r_cb, r_call, r_bm, r_bm0, r_sl, r_nopart, r_part, r_rev, r_gnil, r_gcons, r_gsub, r_par, r_aug, r_chain, r_I0, r_I, r_U, r_ixd, r_lend, r_tupd, r_listd, r_sld, r_app, r_ext, r_reverse, r_setl, r_cat, r_int1, r_eqS, r_neS, scal_ii, scal_bb, scal_ss, at0, at1, at2, sq_lst, sq_tup, isLst_lst, List.getElem?_cons_zero, List.getElem?_cons_succ, List.set_cons_zero, List.set_cons_succ, V.int.injEq, V.bl.injEq, V.ref.injEq, V.str.injEq, HO.lst.injEq, HO.tup.injEq, Option.some.injEq, exists_eq_left', exists_eq_left, List.cons.injEq, and_true, true_and, decide_eq_true_eq, reduceCtorEq, false_and, exists_false, or_false, false_or, exists_const, and_assoc, exists_and_left, List.append_nil, ix0, ix1, ix2, cm_mod, cdw1009, cdw2003, cdw7, cdw64, cdw2, cm104729, cm2, cm3, upd_same, List.length_cons, List.length_nil, Int.reduceLT, Int.reduceLE, Nat.reduceAdd, Nat.reduceLeDiff, Nat.reduceLT, Int.reduceToNat, r_for1, r_forL, r_forT, r_lcL, r_lc1, r_yes, r_gtupD, wipe_0, wipe_1, List.cons_append, List.nil_append, r_forS, r_ipI, ite_false, ite_true, Bool.not_true, Bool.not_false, decide_true, decide_false, r_isd, r_islt, cD_ty, cD_ref, tD_non, tD_bl, tD_int, tD_str, tD_ref, tH_lst, tH_tup, tH_dK, tH_ins, ki_self, ki_int_bool, ki_non_int, ki_str_int, ki_lt_lst, ki_lt_tup, r_fld, r_sfld, HO.ins.injEq, cx_K]
    refine ⟨szl (by decide), fun F' hF' => ?_⟩
    have s1 := Same.new' (o := .lst []) (Same.refl H) hF'
    have e1 : L2.upd H F' (.lst []) F' = some (.lst []) := upd_same
    generalize L2.upd H F' (.lst []) = H1 at *
    obtain ⟨refs, sF, pF⟩ := hF.same s1
    have lp := Paired.length pF
    obtain ⟨o, eo⟩ := sq_some sF
    have FF : F ≠ F' := fun z => by
      obtain ⟨_, q, _⟩ := hF
      obtain ⟨o, e⟩ := sq_some q
      rw [z, hF'] at e
      cases e
    refine lp_seq sF (LvF H1 F F' xs) ⟨none, none, none, rfl, fun _ _ _ e => e, [], ⟨[], e1, .nil⟩, Nat.le_refl _, rfl⟩ (fun i σ H' ⟨_, _, _, _, q, _⟩ => by rw [eo, q _ _ FF eo]) ?_ ?_
    · rintro i y σ H2 hy ⟨u2, u3, u4, rfl, k2, done, ⟨rd, eF, pd⟩, ld, ed⟩
      rw [List.getElem?_map] at hy
      obtain ⟨r, hr1, rfl⟩ := Option.map_eq_some_iff.mp hy
      obtain ⟨hi0, e0⟩ := List.getElem?_eq_some_iff.mp hr1
      have hi' : i < xs.length := by rw [← lp]; exact hi0
      have hrt := Paired.at' pF hi0 hi'
      rw [e0] at hrt
      have okx := ok _ (List.getElem_mem hi')
      have dr : xs.drop i = xs[i] :: xs.drop (i + 1) := List.drop_eq_getElem_cons hi'
      rw [dr] at ed
      generalize xs[i] = x at *
      have tk : H2 r = some (.tup (v3 x)) := k2 _ _ (fun z => by rw [z, e1] at hrt; cases hrt) hrt
      have lr := Paired.length pd
      rw [r_gtupD]
      refine ⟨r, _, rfl, tk, rfl, ?_⟩
      unfold v3
      simp only [r_seq, r_next, r_brk, r_cont, r_asg, r_name, r_ret, r_retN, r_drop, r_ifs, r_never, r_var, r_c, r_op, r_un, r_if, r_tst, r_b, r_not, r_and, r_or, r_andV, r_orV, r_notV, r_nil, r_cons, r_tup, r_lst, r_cb, r_call, r_bm, r_bm0, r_sl, r_nopart, r_part, r_rev, r_gnil, r_gcons, r_gsub, r_par, r_aug, r_chain, r_I0, r_I, r_U, r_ixd, r_lend, r_tupd, r_listd, r_sld, r_app, r_ext, r_reverse, r_setl, r_cat, r_int1, r_eqS, r_neS, scal_ii, scal_bb, scal_ss, at0, at1, at2, sq_lst, sq_tup, isLst_lst, List.getElem?_cons_zero, List.getElem?_cons_succ, List.set_cons_zero, List.set_cons_succ, V.int.injEq, V.bl.injEq, V.ref.injEq, V.str.injEq, HO.lst.injEq, HO.tup.injEq, Option.some.injEq, exists_eq_left', exists_eq_left, List.cons.injEq, and_true, true_and, decide_eq_true_eq, reduceCtorEq, false_and, exists_false, or_false, false_or, exists_const, and_assoc, exists_and_left, List.append_nil, ix0, ix1, ix2, cm_mod, cdw1009, cdw2003, cdw7, cdw64, cdw2, cm104729, cm2, cm3, upd_same, List.length_cons, List.length_nil, Int.reduceLT, Int.reduceLE, Nat.reduceAdd, Nat.reduceLeDiff, Nat.reduceLT, Int.reduceToNat, r_for1, r_forL, r_forT, r_lcL, r_lc1, r_yes, r_gtupD, wipe_0, wipe_1, List.cons_append, List.nil_append, r_forS, r_ipI, ite_false, ite_true, Bool.not_true, Bool.not_false, decide_true, decide_false, r_isd, r_islt, cD_ty, cD_ref, tD_non, tD_bl, tD_int, tD_str, tD_ref, tH_lst, tH_tup, tH_dK, tH_ins, ki_self, ki_int_bool, ki_non_int, ki_str_int, ki_lt_lst, ki_lt_tup, r_fld, r_sfld, HO.ins.injEq, cx_K]
      refine ⟨tyl eF, szl (by decide), fun p hp => ⟨_, by rw [upd_ne (ne_new eF hp)]; exact eF, Nat.lt_of_le_of_lt (by rw [List.length_map]; omega : _ ≤ 60000) (by decide), ?_⟩⟩
      obtain ⟨q1, q2⟩ := rs4_app (y := ⟨x.w, x.a, x.l, .non⟩) eF pd hp
      show rInT K D3 _ _ (L2.upd (L2.upd H2 p (.tup (v4 ⟨x.w, x.a, x.l, .non⟩))) F' (.lst (rd.map V.ref ++ [.ref p]))) _
      generalize L2.upd (L2.upd H2 p (.tup (v4 ⟨x.w, x.a, x.l, .non⟩))) F' (.lst (rd.map V.ref ++ [.ref p])) = H3 at *
      refine TV.inT okx ⟨_, rfl, ?_⟩
      have s3 : ∀ b o, b ≠ F' → H1 b = some o → H3 b = some o := fun b o nb e => q2 _ _ nb (k2 _ _ nb e)
      have ed : done ++ (⟨x.w, x.a, x.l, .non⟩ :: (if leaving x.w = true then [] else firstGo (xs.drop (i + 1)))) = firstGo xs := ed
      by_cases c : leaving x.w = true
      · rw [if_pos c] at ed ⊢
        refine k F' H3 (fun b o e => s3 _ _ (ne_new e hF') (s1 _ _ e)) ?_
        rw [← ed]
        exact q1
      · rw [if_neg c] at ed ⊢
        exact ⟨_, _, _, rfl, s3, done ++ [⟨x.w, x.a, x.l, .non⟩], q1, by rw [List.length_append, List.length_singleton]; omega, by rw [List.append_assoc]; exact ed⟩
    · rintro σ H2 ⟨u2, u3, u4, rfl, k2, done, rF, ld, ed⟩
      rw [List.length_map, lp, List.drop_length] at ed
      have ed : done ++ [] = firstGo xs := ed
      rw [List.append_nil] at ed
      simp only [r_seq, r_next, r_brk, r_cont, r_asg, r_name, r_ret, r_retN, r_drop, r_ifs, r_never, r_var, r_c, r_op, r_un, r_if, r_tst, r_b, r_not, r_and, r_or, r_andV, r_orV, r_notV, r_nil, r_cons, r_tup, r_lst, r_cb, r_call, r_bm, r_bm0, r_sl, r_nopart, r_part, r_rev, r_gnil, r_gcons, r_gsub, r_par, r_aug, r_chain, r_I0, r_I, r_U, r_ixd, r_lend, r_tupd, r_listd, r_sld, r_app, r_ext, r_reverse, r_setl, r_cat, r_int1, r_eqS, r_neS, scal_ii, scal_bb, scal_ss, at0, at1, at2, sq_lst, sq_tup, isLst_lst, List.getElem?_cons_zero, List.getElem?_cons_succ, List.set_cons_zero, List.set_cons_succ, V.int.injEq, V.bl.injEq, V.ref.injEq, V.str.injEq, HO.lst.injEq, HO.tup.injEq, Option.some.injEq, exists_eq_left', exists_eq_left, List.cons.injEq, and_true, true_and, decide_eq_true_eq, reduceCtorEq, false_and, exists_false, or_false, false_or, exists_const, and_assoc, exists_and_left, List.append_nil, ix0, ix1, ix2, cm_mod, cdw1009, cdw2003, cdw7, cdw64, cdw2, cm104729, cm2, cm3, upd_same, List.length_cons, List.length_nil, Int.reduceLT, Int.reduceLE, Nat.reduceAdd, Nat.reduceLeDiff, Nat.reduceLT, Int.reduceToNat, r_for1, r_forL, r_forT, r_lcL, r_lc1, r_yes, r_gtupD, wipe_0, wipe_1, List.cons_append, List.nil_append, r_forS, r_ipI, ite_false, ite_true, Bool.not_true, Bool.not_false, decide_true, decide_false, r_isd, r_islt, cD_ty, cD_ref, tD_non, tD_bl, tD_int, tD_str, tD_ref, tH_lst, tH_tup, tH_dK, tH_ins, ki_self, ki_int_bool, ki_non_int, ki_str_int, ki_lt_lst, ki_lt_tup, r_fld, r_sfld, HO.ins.injEq, cx_K]
      refine k F' H2 (fun b o e => k2 _ _ (ne_new e hF') (s1 _ _ e)) ?_
      rw [← ed]
      exact rF
end
end C38

set_option maxHeartbeats 2000000
namespace C38
open PySem PySem.Spec PyProof.Rows L2
/-! ### a dict laid by the very expression that is gone through; comprehensions over enumerate -/
def tLk (H0 : Hp) (t : TE) : TE := fun σ H Q => t σ H fun x H1 => ∃ d u, x = .ref d ∧ H1 d = some u ∧ Mut (some u) ∧ ∀ od, (∀ o' u', H0 d ≠ some (.frz o' u')) → Q x (L2.upd H1 d (.frz od u))
theorem pe_lk {X : Cx} {e : Expr} {t : TE} (h : PE X e t) : PE X e (tLk X.H_0 t) := ⟨fun pins s σ H Q I hw => thn (h.run pins s σ H _ I hw) fun v s1 ⟨x, H1, I1, r, d, u, ex, hd, mu, q⟩ => by
  obtain ⟨od, I2⟩ := I1.lock hd mu
  exact ⟨x, _, I2, r, q od (I1.nofrz hd mu)⟩⟩
def Unl (H0 : Hp) (H' : Hp) (Q : Hp → Prop) : Prop := ∃ d od u, H' d = some (.frz od u) ∧ (∀ o' u', H0 d ≠ some (.frz o' u')) ∧ Q (L2.upd H' d u)
def tUl (H0 : Hp) (t : TS) : TS := fun D => t ⟨fun σ' H' => Unl H0 H' (D.nx σ'), fun v H' => Unl H0 H' (D.rt v), fun σ' H' => Unl H0 H' (D.bk σ'), fun σ' H' => Unl H0 H' (D.ct σ')⟩
theorem ps_ul {X : Cx} {st : Stmt} {t : TS} (h : PS X st t) : PS X st (tUl X.H_0 t) := by
  refine ⟨fun pins s σ H D I hw => thn (h.run pins s σ H _ I hw) fun f s1 q => ?_⟩
  cases f with
  | next => obtain ⟨σ', H', I2, d, od, u, e, n, q⟩ := q; exact ⟨σ', _, I2.unlock e n, q⟩
  | brk => obtain ⟨σ', H', I2, d, od, u, e, n, q⟩ := q; exact ⟨σ', _, I2.unlock e n, q⟩
  | cont => obtain ⟨σ', H', I2, d, od, u, e, n, q⟩ := q; exact ⟨σ', _, I2.unlock e n, q⟩
  | ret v => obtain ⟨x, σ', H', I2, r, d, od, u, e, n, q⟩ := q; exact ⟨x, σ', _, I2.unlock e n, r, q⟩
theorem r_lcE {K : PySem.W.Frag} {ta : TA} {σ : L2.St} {H : Hp} {g : TG} {tt : TT} {te : TE} {vs : List Nat} {Q : VK} : tLc (iEnumS K ta) g tt te vs σ H Q = ta σ H (fun us H1 => ∃ a, us = [.ref a] ∧ (((∃ xs, H1 a = some (.lst xs)) ∧ ∀ D, H1 D = none → CompR (Ite K a) g tt te vs σ Q D (L2.upd H1 D (.lst []))) ∨ ((∃ xs, H1 a = some (.tup xs)) ∧ ∀ D, H1 D = none → CompR (IteT K a) g tt te vs σ Q D (L2.upd H1 D (.lst []))))) := rfl
/-- a comprehension over enumerate of a list or a tuple -/
theorem cp_enum {K : PySem.W.Frag} {σ : L2.St} {g : TG} {a : Addr} {xs : List V} {tt : TT} {te : TE} {vs : List Nat} {H1 : Hp} {Q : VK} (h : sq (H1 a) = some xs) (Pv : Addr → Nat → Hp → Prop) (h0 : ∀ D, H1 D = none → Pv D 0 (L2.upd H1 D (.lst [])))
    (hl : ∀ D i H', H1 D = none → Pv D i H' → H' a = H1 a)
    (hs : ∀ D i x H', H1 D = none → xs[i]? = some x → Pv D i H' → ∀ T, H' T = none → g (.ref T) (wipe σ vs) (L2.upd H' T (.tup [.int (i : Nat), x])) fun σ2 H2 => wipe σ2 vs = wipe σ vs ∧ tt σ2 H2 fun b H3 => if b = true then te σ2 H3 fun y H4 => ∃ acc, H4 D = some (.lst acc) ∧ acc.length < sizeLine ∧ Pv D (i + 1) (L2.upd H4 D (.lst (acc ++ [y]))) else Pv D (i + 1) H3)
    (hd : ∀ D H', H1 D = none → Pv D xs.length H' → Q (.ref D) H') :
    ((∃ xs, H1 a = some (.lst xs)) ∧ ∀ D, H1 D = none → CompR (Ite K a) g tt te vs σ Q D (L2.upd H1 D (.lst []))) ∨ ((∃ xs, H1 a = some (.tup xs)) ∧ ∀ D, H1 D = none → CompR (IteT K a) g tt te vs σ Q D (L2.upd H1 D (.lst []))) := by
  rcases sq_cases h with e | e
  · refine .inl ⟨⟨_, e⟩, fun D hD => ⟨fun i m H => m = xs.length - i ∧ i ≤ xs.length ∧ Pv D i H, ⟨_, rfl, Nat.zero_le _, h0 D hD⟩, ?_⟩⟩
    rintro i m H' ⟨rfl, hi, p⟩
    have hq : SqL K H' a xs := SqL.of (by rw [hl D i H' hD p, e])
    by_cases c : i < xs.length
    · refine .inr ⟨⟨xs, xs[i], hq, List.getElem?_eq_getElem c⟩, Pv D (i + 1), fun H2 q => ⟨_, by omega, rfl, c, q⟩, fun v H2 y => ?_⟩
      obtain ⟨T, x, rfl, hT, rfl, hx⟩ := y
      exact hs D i x H' hD (hx xs hq) p T hT
    · exact .inl ⟨⟨xs, hq, by omega⟩, hd D H' hD (by rw [show xs.length = i from by omega]; exact p)⟩
  · refine .inr ⟨⟨_, e⟩, fun D hD => ⟨fun i m H => m = xs.length - i ∧ i ≤ xs.length ∧ Pv D i H, ⟨_, rfl, Nat.zero_le _, h0 D hD⟩, ?_⟩⟩
    rintro i m H' ⟨rfl, hi, p⟩
    have hq : SqT K H' a xs := SqT.of (by rw [hl D i H' hD p, e])
    by_cases c : i < xs.length
    · refine .inr ⟨⟨xs, xs[i], hq, List.getElem?_eq_getElem c⟩, Pv D (i + 1), fun H2 q => ⟨_, by omega, rfl, c, q⟩, fun v H2 y => ?_⟩
      obtain ⟨T, x, rfl, hT, rfl, hx⟩ := y
      exact hs D i x H' hD (hx xs hq) p T hT
    · exact .inl ⟨⟨xs, hq, by omega⟩, hd D H' hD (by rw [show xs.length = i from by omega]; exact p)⟩

/-! ### lines: where every row has one -/
def spSO : Sp := fun vs H Q _ => ∃ F B : Addr, vs = [.ref F, .ref B] ∧ H B = some (.lst []) ∧ ∀ D H', Same H H' → H D = none → H' D = some (.dK []) → Q (.ref D) H'
def spLA : Sp := fun vs H Q _ => ∃ S F : Addr, vs = [.ref S, .ref F] ∧ H S = some (.dK []) ∧ ∀ D H', Same H H' → H D = none → H' D = some (.dK []) → Q (.ref D) H'
def spWO : Sp := fun vs H Q _ => ∃ (F B : Addr) (xs : List R4), vs = [.ref F, .ref B] ∧ H B = some (.lst []) ∧ Rs4 H F xs ∧ xs.length ≤ 60000 ∧ ∀ D H', Same H H' → H D = none → Rs4 H' D xs → Q (.ref D) H'
theorem loop0 {J : L2.It} {g : TG} {tb : TS} {D : Ends} {σ : L2.St} {H : Hp} (h : J.stop 0 H) (q : D.nx σ H) : LoopR J g tb D σ H :=
  ⟨fun i m σ' H' => i = 0 ∧ σ' = σ ∧ H' = H, ⟨0, rfl, rfl, rfl⟩, fun i m σ' H' ⟨e1, e2, e3⟩ => .inl (by rw [e1, e2, e3]; exact ⟨h, q⟩)⟩
def LineOk (x : R4) : Prop := x.w ≠ "LABEL" → x.l ≠ none
def spWL : Sp := fun vs H Q _ => ∃ (F W : Addr) (xs : List R4) (f : Str → Bool), vs = [.ref F, .ref W] ∧ WdD H W f ∧ Rs4 H F xs ∧ xs.length ≤ 60000 ∧ (∀ x ∈ xs, LineOk x) ∧ ∀ D H', Same H H' → H D = none → Rs4 H' D xs → Q (.ref D) H'
section
variable {P : Program} {w : World} {K : PySem.W.Frag} {mg : Str → Option Value} {base : Heap} {f : Addr} {fd : FuncData}
abbrev sso : Stmt := top 70
theorem scso : FnScope ["rows", "bare", "sources", "behind", "at", "labels", "ahead", "goes_on"] ["rows", "bare"] (defScope sso) := ⟨rfl, rfl, rfl, by decide +kernel, rfl, by decide +kernel, by decide +kernel⟩

abbrev sla : Stmt := top 69
theorem scla : FnScope ["sources", "rows", "lines", "at", "path", "source", "line", "passed"] ["sources", "rows"] (defScope sla) := ⟨rfl, rfl, rfl, by decide +kernel, rfl, by decide +kernel, by decide +kernel⟩

abbrev swo : Stmt := top 68
theorem scwo : FnScope ["rows", "bare", "found", "at", "line", "word", "argument", "_", "handler"] ["rows", "bare"] (defScope swo) := ⟨rfl, rfl, rfl, by decide +kernel, rfl, by decide +kernel, by decide +kernel⟩

abbrev swl : Stmt := top 67
theorem scwl : FnScope ["rows", "words", "at", "bare", "found", "word", "argument", "_", "handler", "row"] ["rows", "words"] (defScope swl) := ⟨rfl, rfl, rfl, by decide +kernel, rfl, by decide +kernel, by decide +kernel⟩

theorem ok_so (F : FnP K "sources_of" "sources_of" sso f fd) : FnOk P w K mg base CX0 1 f fd ["rows", "bare"] spSO := by
  refine F.ok scso (fun vs H Q E h => ?_) (fun cdv A outer s H vs Q E hr h => ?_)
  · obtain ⟨F, B, rfl, _⟩ := h
    rfl
  · obtain ⟨F, B, rfl, hB, k⟩ := h
    refine ⟨_, PSs.nox (pss_cons (ps_set (i := 2) scso.nd rfl (Or.inl rfl) pe_dnewK)
  (pss_cons (ps_set (i := 3) scso.nd rfl (Or.inl rfl) pe_dnewK)
  (pss_cons (ps_for PassesOwn.never rfl (pi_list (pv 1)) (pg_name (i := 4) scso.nd rfl (Or.inl rfl))
    pss_never)
  (pss_one (ps_ret (pe_ifExp (pt_truth (pv 3) (fun _ => rfl)) pe_no (pv 2))))))), ?_⟩
    show (_ : TS) _ [some (.ref F), some (.ref B), none, none, none, none, none, none] H
    simp only [r_seq, r_next, r_brk, r_cont, r_asg, r_name, r_ret, r_retN, r_drop, r_ifs, r_never, r_var, r_c, r_op, r_un, r_if, r_tst, r_b, r_not, r_and, r_or, r_andV, r_orV, r_notV, r_nil, r_cons, r_tup, r_lst, r_cb, r_call, r_bm, r_bm0, r_sl, r_nopart, r_part, r_rev, r_gnil, r_gcons, r_gsub, r_par, r_aug, r_chain, r_I0, r_I, r_U, r_ixd, r_lend, r_tupd, r_listd, r_sld, r_app, r_ext, r_reverse, r_setl, r_cat, r_int1, r_eqS, r_neS, scal_ii, scal_bb, scal_ss, at0, at1, at2, sq_lst, sq_tup, isLst_lst, List.getElem?_cons_zero, List.getElem?_cons_succ, List.set_cons_zero, List.set_cons_succ, V.int.injEq, V.bl.injEq, V.ref.injEq, V.str.injEq, HO.lst.injEq, HO.tup.injEq, Option.some.injEq, exists_eq_left', exists_eq_left, List.cons.injEq, and_true, true_and, decide_eq_true_eq, reduceCtorEq, false_and, exists_false, or_false, false_or, exists_const, and_assoc, exists_and_left, List.append_nil, ix0, ix1, ix2, cm_mod, cdw1009, cdw2003, cdw7, cdw64, cdw2, cm104729, cm2, cm3, upd_same, List.length_cons, List.length_nil, Int.reduceLT, Int.reduceLE, Nat.reduceAdd, Nat.reduceLeDiff, Nat.reduceLT, Int.reduceToNat, r_for1, r_forL, r_forT, r_lcL, r_lc1, r_yes, r_gtupD, wipe_0, wipe_1, List.cons_append, List.nil_append, r_forS, r_ipI, ite_false, ite_true, Bool.not_true, Bool.not_false, decide_true, decide_false, r_isd, r_islt, cD_ty, cD_ref, tD_non, tD_bl, tD_int, tD_str, tD_ref, tH_lst, tH_tup, tH_dK, tH_ins, ki_self, ki_int_bool, ki_non_int, ki_str_int, ki_lt_lst, ki_lt_tup, r_fld, r_sfld, HO.ins.injEq, cx_K, r_dnew]
    intro p hp p1 hp1
    have s1 : Same H (L2.upd (L2.upd H p (.dK [])) p1 (.dK [])) := Same.new' (Same.new' (Same.refl H) hp) hp1
    have eD : L2.upd (L2.upd H p (.dK [])) p1 (.dK []) p = some (.dK []) := by rw [upd_ne (ne_new upd_same hp1)]; exact upd_same
    have eE : L2.upd (L2.upd H p (.dK [])) p1 (.dK []) p1 = some (.dK []) := upd_same
    generalize L2.upd (L2.upd H p (.dK [])) p1 (.dK []) = H1 at *
    refine ⟨⟨[], SqL.of (s1 _ _ hB)⟩, loop0 ⟨[], SqL.of (s1 _ _ hB), Nat.zero_le _⟩ ?_⟩
    show ∃ v, _ = some (some v) ∧ ∃ k, TruV K v H1 k ∧ _
    refine ⟨_, rfl, false, .inr (.inr ⟨[], eE, rfl⟩), ?_⟩
    exact ⟨_, rfl, k p H1 s1 hp eD⟩
theorem ok_la (F : FnP K "lines_along" "lines_along" sla f fd) : FnOk P w K mg base CX0 1 f fd ["sources", "rows"] spLA := by
  refine F.ok scla (fun vs H Q E h => ?_) (fun cdv A outer s H vs Q E hr h => ?_)
  · obtain ⟨F, B, rfl, _⟩ := h
    rfl
  · obtain ⟨S, F, rfl, hS, k⟩ := h
    refine ⟨_, PSs.nox (pss_cons (ps_set (i := 2) scla.nd rfl (Or.inl rfl) pe_dnewK)
  (pss_cons (ps_lock (ps_for PassesOwn.never rfl (pi_keys (pv 0)) (pg_name (i := 3) scla.nd rfl (Or.inl rfl))
    pss_never))
  (pss_one (ps_ret (pv 2))))), ?_⟩
    show (_ : TS) _ [some (.ref S), some (.ref F), none, none, none, none, none, none] H
    simp only [r_seq, r_next, r_brk, r_cont, r_asg, r_name, r_ret, r_retN, r_drop, r_ifs, r_never, r_var, r_c, r_op, r_un, r_if, r_tst, r_b, r_not, r_and, r_or, r_andV, r_orV, r_notV, r_nil, r_cons, r_tup, r_lst, r_cb, r_call, r_bm, r_bm0, r_sl, r_nopart, r_part, r_rev, r_gnil, r_gcons, r_gsub, r_par, r_aug, r_chain, r_I0, r_I, r_U, r_ixd, r_lend, r_tupd, r_listd, r_sld, r_app, r_ext, r_reverse, r_setl, r_cat, r_int1, r_eqS, r_neS, scal_ii, scal_bb, scal_ss, at0, at1, at2, sq_lst, sq_tup, isLst_lst, List.getElem?_cons_zero, List.getElem?_cons_succ, List.set_cons_zero, List.set_cons_succ, V.int.injEq, V.bl.injEq, V.ref.injEq, V.str.injEq, HO.lst.injEq, HO.tup.injEq, Option.some.injEq, exists_eq_left', exists_eq_left, List.cons.injEq, and_true, true_and, decide_eq_true_eq, reduceCtorEq, false_and, exists_false, or_false, false_or, exists_const, and_assoc, exists_and_left, List.append_nil, ix0, ix1, ix2, cm_mod, cdw1009, cdw2003, cdw7, cdw64, cdw2, cm104729, cm2, cm3, upd_same, List.length_cons, List.length_nil, Int.reduceLT, Int.reduceLE, Nat.reduceAdd, Nat.reduceLeDiff, Nat.reduceLT, Int.reduceToNat, r_for1, r_forL, r_forT, r_lcL, r_lc1, r_yes, r_gtupD, wipe_0, wipe_1, List.cons_append, List.nil_append, r_forS, r_ipI, ite_false, ite_true, Bool.not_true, Bool.not_false, decide_true, decide_false, r_isd, r_islt, cD_ty, cD_ref, tD_non, tD_bl, tD_int, tD_str, tD_ref, tH_lst, tH_tup, tH_dK, tH_ins, ki_self, ki_int_bool, ki_non_int, ki_str_int, ki_lt_lst, ki_lt_tup, r_fld, r_sfld, HO.ins.injEq, cx_K, r_dnew]
    intro p hp
    have s1 : Same H (L2.upd H p (.dK [])) := Same.new' (Same.refl H) hp
    have eD : L2.upd H p (.dK []) p = some (.dK []) := upd_same
    have eS := s1 _ _ hS
    have Sp : S ≠ p := ne_new hS hp
    generalize L2.upd H p (.dK []) = H1 at *
    refine ⟨S, _, eS, trivial, fun od => ?_⟩
    have es : L2.upd H1 S (.frz od (.dK [])) S = some (.frz od (.dK [])) := upd_same
    have eq : ∀ b, L2.upd (L2.upd H1 S (.frz od (.dK []))) S (.dK []) b = H1 b := fun b => by
      by_cases z : b = S
      · rw [z, upd_same, eS]
      · rw [upd_ne z, upd_ne z]
    refine ⟨_, rfl, S, od, rfl, .inl ⟨[], es, loop0 ⟨es, Nat.zero_le _⟩ ⟨es, ?_⟩⟩⟩
    exact ⟨_, rfl, k p _ (fun b o e => by rw [eq]; exact s1 _ _ e) hp (by rw [eq]; exact eD)⟩
theorem ok_wo (T : Txt mg) (C_sources_of : Cal P w K mg base 1 "sources_of" ["rows", "bare"] spSO) (C_lines_along : Cal P w K mg base 1 "lines_along" ["sources", "rows"] spLA) (F : FnP K "with_lines_on_ways" "with_lines_on_ways" swo f fd) : FnOk P w K mg base CX0 2 f fd ["rows", "bare"] spWO := by
  refine F.ok scwo (fun vs H Q E h => ?_) (fun cdv A outer s H vs Q E hr h => ?_)
  · obtain ⟨F, B, xs, rfl, _⟩ := h
    rfl
  · obtain ⟨F, B, xs, rfl, hB, hF, hl, k⟩ := h
    refine ⟨_, PSs.nox (pss_cons (ps_set (i := 2) scwo.nd rfl (Or.inl rfl) (pe_callTy call_list_d (by rfl) T.b_list (by decide +kernel) (pa_cons (pv 0) pa_nil)))
  (pss_cons (ps_ul (ps_for PassesOwn.never rfl (pi_items (pe_lk (pe_cal C_lines_along (hr.mono (by decide)) rfl (pa_cons (pe_cal C_sources_of (hr.mono (by decide)) rfl (pa_cons (pv 0) (pa_cons (pv 1) pa_nil))) (pa_cons (pv 0) pa_nil))))) (pg_tupD (n := 2) rfl (pgs_cons (pg_name (i := 3) scwo.nd rfl (Or.inl rfl)) (pgs_cons (pg_name (i := 4) scwo.nd rfl (Or.inl rfl)) pgs_nil)))
    (pss_cons (ps_asg (pe_ix ix_d (pv 0) (pv 3) (fun _ _ => rfl)) (pg_tupD (n := 4) rfl (pgs_cons (pg_name (i := 5) scwo.nd rfl (Or.inl rfl)) (pgs_cons (pg_name (i := 6) scwo.nd rfl (Or.inl rfl)) (pgs_cons (pg_name (i := 7) scwo.nd rfl (Or.inl rfl)) (pgs_cons (pg_name (i := 8) scwo.nd rfl (Or.inl rfl)) pgs_nil))))))
  (pss_one (ps_asg (pe_tup (pa_cons (pv 5) (pa_cons (pv 6) (pa_cons (pv 4) (pa_cons (pv 8) pa_nil))))) (pg_sub (pv 2) (pv 3) set_list))))))
  (pss_one (ps_ret (pv 2))))), ?_⟩
    show (_ : TS) _ [some (.ref F), some (.ref B), none, none, none, none, none, none, none] H
    simp only [r_seq, r_next, r_brk, r_cont, r_asg, r_name, r_ret, r_retN, r_drop, r_ifs, r_never, r_var, r_c, r_op, r_un, r_if, r_tst, r_b, r_not, r_and, r_or, r_andV, r_orV, r_notV, r_nil, r_cons, r_tup, r_lst, r_cb, r_call, r_bm, r_bm0, r_sl, r_nopart, r_part, r_rev, r_gnil, r_gcons, r_gsub, r_par, r_aug, r_chain, r_I0, r_I, r_U, r_ixd, r_lend, r_tupd, r_listd, r_sld, r_app, r_ext, r_reverse, r_setl, r_cat, r_int1, r_eqS, r_neS, scal_ii, scal_bb, scal_ss, at0, at1, at2, sq_lst, sq_tup, isLst_lst, List.getElem?_cons_zero, List.getElem?_cons_succ, List.set_cons_zero, List.set_cons_succ, V.int.injEq, V.bl.injEq, V.ref.injEq, V.str.injEq, HO.lst.injEq, HO.tup.injEq, Option.some.injEq, exists_eq_left', exists_eq_left, List.cons.injEq, and_true, true_and, decide_eq_true_eq, reduceCtorEq, false_and, exists_false, or_false, false_or, exists_const, and_assoc, exists_and_left, List.append_nil, ix0, ix1, ix2, cm_mod, cdw1009, cdw2003, cdw7, cdw64, cdw2, cm104729, cm2, cm3, upd_same, List.length_cons, List.length_nil, Int.reduceLT, Int.reduceLE, Nat.reduceAdd, Nat.reduceLeDiff, Nat.reduceLT, Int.reduceToNat, r_for1, r_forL, r_forT, r_lcL, r_lc1, r_yes, r_gtupD, wipe_0, wipe_1, List.cons_append, List.nil_append, r_forS, r_ipI, ite_false, ite_true, Bool.not_true, Bool.not_false, decide_true, decide_false, r_isd, r_islt, cD_ty, cD_ref, tD_non, tD_bl, tD_int, tD_str, tD_ref, tH_lst, tH_tup, tH_dK, tH_ins, ki_self, ki_int_bool, ki_non_int, ki_str_int, ki_lt_lst, ki_lt_tup, r_fld, r_sfld, HO.ins.injEq, cx_K]
    obtain ⟨refs, eF, pF⟩ := hF
    refine ⟨_, by rw [eF]; rfl, fun l hl1 => ?_⟩
    have s1 : Same H (L2.upd H l (.lst (refs.map V.ref))) := Same.new' (Same.refl H) hl1
    have r1 : Rs4 (L2.upd H l (.lst (refs.map V.ref))) l xs := ⟨refs, upd_same, Paired.map' pF fun r x e => s1 _ _ e⟩
    generalize L2.upd H l (.lst (refs.map V.ref)) = H1 at *
    unfold tUl tLk iItems
    simp only [r_seq, r_next, r_brk, r_cont, r_asg, r_name, r_ret, r_retN, r_drop, r_ifs, r_never, r_var, r_c, r_op, r_un, r_if, r_tst, r_b, r_not, r_and, r_or, r_andV, r_orV, r_notV, r_nil, r_cons, r_tup, r_lst, r_cb, r_call, r_bm, r_bm0, r_sl, r_nopart, r_part, r_rev, r_gnil, r_gcons, r_gsub, r_par, r_aug, r_chain, r_I0, r_I, r_U, r_ixd, r_lend, r_tupd, r_listd, r_sld, r_app, r_ext, r_reverse, r_setl, r_cat, r_int1, r_eqS, r_neS, scal_ii, scal_bb, scal_ss, at0, at1, at2, sq_lst, sq_tup, isLst_lst, List.getElem?_cons_zero, List.getElem?_cons_succ, List.set_cons_zero, List.set_cons_succ, V.int.injEq, V.bl.injEq, V.ref.injEq, V.str.injEq, HO.lst.injEq, HO.tup.injEq, Option.some.injEq, exists_eq_left', exists_eq_left, List.cons.injEq, and_true, true_and, decide_eq_true_eq, reduceCtorEq, false_and, exists_false, or_false, false_or, exists_const, and_assoc, exists_and_left, List.append_nil, ix0, ix1, ix2, cm_mod, cdw1009, cdw2003, cdw7, cdw64, cdw2, cm104729, cm2, cm3, upd_same, List.length_cons, List.length_nil, Int.reduceLT, Int.reduceLE, Nat.reduceAdd, Nat.reduceLeDiff, Nat.reduceLT, Int.reduceToNat, r_for1, r_forL, r_forT, r_lcL, r_lc1, r_yes, r_gtupD, wipe_0, wipe_1, List.cons_append, List.nil_append, r_forS, r_ipI, ite_false, ite_true, Bool.not_true, Bool.not_false, decide_true, decide_false, r_isd, r_islt, cD_ty, cD_ref, tD_non, tD_bl, tD_int, tD_str, tD_ref, tH_lst, tH_tup, tH_dK, tH_ins, ki_self, ki_int_bool, ki_non_int, ki_str_int, ki_lt_lst, ki_lt_tup, r_fld, r_sfld, HO.ins.injEq, cx_K]
    unfold tFor
    refine ⟨_, rfl, _, rfl, F, B, rfl, s1 _ _ hB, fun D2 H2 s2 f2 e2 => ⟨_, rfl, D2, F, rfl, e2, fun D3 H3 s3 f3 e3 => ⟨D3, rfl, _, e3, trivial, fun od nf => ?_⟩⟩⟩
    have es : L2.upd H3 D3 (.frz od (.dK [])) D3 = some (.frz od (.dK [])) := upd_same
    have eq : ∀ b, L2.upd (L2.upd H3 D3 (.frz od (.dK []))) D3 (.dK []) b = H3 b := fun b => by
      by_cases z : b = D3
      · rw [z, upd_same, e3]
      · rw [upd_ne z, upd_ne z]
    have s13 : Same H1 (L2.upd (L2.upd H3 D3 (.frz od (.dK []))) D3 (.dK [])) := fun b o e => by rw [eq]; exact s3 _ _ (s2 _ _ e)
    refine ⟨D3, rfl, od, [], es, loop0 ⟨es, Nat.zero_le _⟩ ⟨D3, od, _, es, nf, ?_⟩⟩
    exact ⟨_, rfl, k l _ (fun b o e => s13 _ _ (s1 _ _ e)) hl1 (r1.same s13)⟩
theorem ok_wl (T : Txt mg) (C_with_lines_on_ways : Cal P w K mg base 2 "with_lines_on_ways" ["rows", "bare"] spWO) (F : FnP K "with_lines" "with_lines" swl f fd) : FnOk P w K mg base CX0 3 f fd ["rows", "words"] spWL := by
  refine F.ok scwl (fun vs H Q E h => ?_) (fun cdv A outer s H vs Q E hr h => ?_)
  · obtain ⟨F, W, xs, f, rfl, _⟩ := h
    rfl
  · have hu1 := hu_of hr
    obtain ⟨F, W, xs, fw, rfl, hW, hF, hl, ok, k⟩ := h
    refine ⟨_, PSs.nox (pss_cons (ps_setLc (i := 3) (own := [("at", 2), ("row", 9)]) rfl scwl.nd rfl rfl (sw_true rfl rfl rfl (by decide +kernel)) (pi_enumS (by rfl) T.b_enumerate (pa_cons (pv 0) pa_nil)) (blkOk_by (own := [("at", 2), ("row", 9)]) (N := ["rows", "words", "at", "bare", "found", "word", "argument", "_", "handler", "row"]) (sc := defScope swl) (by decide +kernel)) (fun _ _ _ _ _ => (pg_tupD (n := 2) rfl (pgs_cons (pg_name (i := 2) scwl.nd rfl (Or.inl rfl)) (pgs_cons (pg_name (i := 9) scwl.nd rfl (Or.inl rfl)) pgs_nil)))) (fun _ _ _ _ _ => (pts_one (PW.pt (pw_and (pt_cmpR op_isN (pe_ix ix_d (pv 9) pe_int (fun _ _ => rfl)) pe_non (nomark _)) (pw_and (pt_cmpR op_gt (pv 2) pe_int (nomark _)) (pw_and1 (pt_cmpR op_ne (pe_ix ix_d (pv 9) pe_int (fun _ _ => rfl)) pe_str (nomark _)))))))) (fun _ _ _ _ _ => (pv 2)))
  (pss_cons (ps_if (pt_cmp (pc_din hu1 pe_str (pv 1)))
    (pss_one (ps_ret (pe_cal C_with_lines_on_ways (hr.mono (by decide)) rfl (pa_cons (pv 0) (pa_cons (pv 3) pa_nil)))))
    pss_nil)
  (pss_cons (ps_set (i := 4) scwl.nd rfl (Or.inl rfl) (pe_callTy call_list_d (by rfl) T.b_list (by decide +kernel) (pa_cons (pv 0) pa_nil)))
  (pss_cons (ps_for PassesOwn.never rfl (pi_list (pv 3)) (pg_name (i := 2) scwl.nd rfl (Or.inl rfl))
    pss_never)
  (pss_one (ps_ret (pv 4))))))), ?_⟩
    show (_ : TS) _ [some (.ref F), some (.ref W), none, none, none, none, none, none, none, none] H
    rw [r_seq, r_asg, r_lcE]
    simp only [r_seq, r_next, r_brk, r_cont, r_asg, r_name, r_ret, r_retN, r_drop, r_ifs, r_never, r_var, r_c, r_op, r_un, r_if, r_tst, r_b, r_not, r_and, r_or, r_andV, r_orV, r_notV, r_nil, r_cons, r_tup, r_lst, r_cb, r_call, r_bm, r_bm0, r_sl, r_nopart, r_part, r_rev, r_gnil, r_gcons, r_gsub, r_par, r_aug, r_chain, r_I0, r_I, r_U, r_ixd, r_lend, r_tupd, r_listd, r_sld, r_app, r_ext, r_reverse, r_setl, r_cat, r_int1, r_eqS, r_neS, scal_ii, scal_bb, scal_ss, at0, at1, at2, sq_lst, sq_tup, isLst_lst, List.getElem?_cons_zero, List.getElem?_cons_succ, List.set_cons_zero, List.set_cons_succ, V.int.injEq, V.bl.injEq, V.ref.injEq, V.str.injEq, HO.lst.injEq, HO.tup.injEq, Option.some.injEq, exists_eq_left', exists_eq_left, List.cons.injEq, and_true, true_and, decide_eq_true_eq, reduceCtorEq, false_and, exists_false, or_false, false_or, exists_const, and_assoc, exists_and_left, List.append_nil, ix0, ix1, ix2, cm_mod, cdw1009, cdw2003, cdw7, cdw64, cdw2, cm104729, cm2, cm3, upd_same, List.length_cons, List.length_nil, Int.reduceLT, Int.reduceLE, Nat.reduceAdd, Nat.reduceLeDiff, Nat.reduceLT, Int.reduceToNat, r_for1, r_forL, r_forT, r_lcL, r_lc1, r_yes, r_gtupD, wipe_0, wipe_1, List.cons_append, List.nil_append, r_forS, r_ipI, ite_false, ite_true, Bool.not_true, Bool.not_false, decide_true, decide_false, r_isd, r_islt, cD_ty, cD_ref, tD_non, tD_bl, tD_int, tD_str, tD_ref, tH_lst, tH_tup, tH_dK, tH_ins, ki_self, ki_int_bool, ki_non_int, ki_str_int, ki_lt_lst, ki_lt_tup, r_fld, r_sfld, HO.ins.injEq, cx_K, r_dinE]
    obtain ⟨refs, eF, pF⟩ := hF
    have lp := Paired.length pF
    refine cp_enum (xs := refs.map V.ref) (by rw [eF]; rfl) (fun D i H' => Same H H' ∧ H' D = some (.lst [])) (fun D hD => ⟨Same.new' (Same.refl H) hD, upd_same⟩) (fun D i H' hD q => by rw [q.1 _ _ eF, eF]) ?_ ?_
    · rintro D i y H2 hD hy ⟨s2, e2⟩ T0 hT0
      rw [List.getElem?_map] at hy
      obtain ⟨r, hr1, rfl⟩ := Option.map_eq_some_iff.mp hy
      obtain ⟨hi0, e0⟩ := List.getElem?_eq_some_iff.mp hr1
      have hi' : i < xs.length := by rw [← lp]; exact hi0
      have hrt := Paired.at' pF hi0 hi'
      rw [e0] at hrt
      have okx := ok _ (List.getElem_mem hi')
      generalize xs[i] = x at *
      have s3 : Same H (L2.upd H2 T0 (.tup [.int (i : Nat), .ref r])) := Same.new' s2 hT0
      have e3 : L2.upd H2 T0 (.tup [.int (i : Nat), .ref r]) D = some (.lst []) := by rw [upd_ne (ne_new e2 hT0)]; exact e2
      have eT : L2.upd H2 T0 (.tup [.int (i : Nat), .ref r]) T0 = some (.tup [.int (i : Nat), .ref r]) := upd_same
      generalize L2.upd H2 T0 (.tup [.int (i : Nat), .ref r]) = H3 at *
      have er := s3 _ _ hrt
      show gTupD 2 _ (.ref T0) [some (.ref F), some (.ref W), none, none, none, none, none, none, none, none] H3 _
      unfold v4 at er
      simp only [r_seq, r_next, r_brk, r_cont, r_asg, r_name, r_ret, r_retN, r_drop, r_ifs, r_never, r_var, r_c, r_op, r_un, r_if, r_tst, r_b, r_not, r_and, r_or, r_andV, r_orV, r_notV, r_nil, r_cons, r_tup, r_lst, r_cb, r_call, r_bm, r_bm0, r_sl, r_nopart, r_part, r_rev, r_gnil, r_gcons, r_gsub, r_par, r_aug, r_chain, r_I0, r_I, r_U, r_ixd, r_lend, r_tupd, r_listd, r_sld, r_app, r_ext, r_reverse, r_setl, r_cat, r_int1, r_eqS, r_neS, scal_ii, scal_bb, scal_ss, at0, at1, at2, sq_lst, sq_tup, isLst_lst, List.getElem?_cons_zero, List.getElem?_cons_succ, List.set_cons_zero, List.set_cons_succ, V.int.injEq, V.bl.injEq, V.ref.injEq, V.str.injEq, HO.lst.injEq, HO.tup.injEq, Option.some.injEq, exists_eq_left', exists_eq_left, List.cons.injEq, and_true, true_and, decide_eq_true_eq, reduceCtorEq, false_and, exists_false, or_false, false_or, exists_const, and_assoc, exists_and_left, List.append_nil, ix0, ix1, ix2, cm_mod, cdw1009, cdw2003, cdw7, cdw64, cdw2, cm104729, cm2, cm3, upd_same, List.length_cons, List.length_nil, Int.reduceLT, Int.reduceLE, Nat.reduceAdd, Nat.reduceLeDiff, Nat.reduceLT, Int.reduceToNat, r_for1, r_forL, r_forT, r_lcL, r_lc1, r_yes, r_gtupD, wipe_0, wipe_1, List.cons_append, List.nil_append, r_forS, r_ipI, ite_false, ite_true, Bool.not_true, Bool.not_false, decide_true, decide_false, r_isd, r_islt, cD_ty, cD_ref, tD_non, tD_bl, tD_int, tD_str, tD_ref, tH_lst, tH_tup, tH_dK, tH_ins, ki_self, ki_int_bool, ki_non_int, ki_str_int, ki_lt_lst, ki_lt_tup, r_fld, r_sfld, HO.ins.injEq, cx_K, eT, er]
      refine ⟨rfl, ?_⟩
      by_cases c1 : lnV x.l = V.non
      · rw [if_pos c1]
        have xw : x.w = "LABEL" := Decidable.byContradiction fun z => okx z (by
          cases q : x.l with
          | none => rfl
          | some n => rw [q] at c1; cases c1)
        rw [if_neg (show ¬ (!decide (x.w = Str.ofString "LABEL")) = true by rw [decide_eq_true xw]; decide), ite_self]
        exact ⟨s3, e3⟩
      · rw [if_neg c1]
        exact ⟨s3, e3⟩
    · rintro D H2 hD ⟨s2, e2⟩
      obtain ⟨o1, d1, q1⟩ := (hW.same s2).get "LABEL"
      refine ⟨o1, d1, ?_⟩
      by_cases c : o1.isSome = true
      · rw [if_pos c]
        exact ⟨F, D, xs, rfl, e2, ⟨refs, s2 _ _ eF, Paired.map' pF fun r x e => s2 _ _ e⟩, hl, fun D3 H3 s3 f3 r3 => k D3 H3 (fun b o e => s3 _ _ (s2 _ _ e)) (by cases q : H D3 with | none => rfl | some o => rw [s2 _ _ q] at f3; cases f3) r3⟩
      · rw [if_neg c]
        refine ⟨_, by rw [s2 _ _ eF]; rfl, fun l hl1 => ⟨D, rfl, ?_⟩⟩
        have s3 : Same H (L2.upd H2 l (.lst (refs.map V.ref))) := Same.new' s2 hl1
        have e3 : L2.upd H2 l (.lst (refs.map V.ref)) D = some (.lst []) := by rw [upd_ne (ne_new e2 hl1)]; exact e2
        have r1 : Rs4 (L2.upd H2 l (.lst (refs.map V.ref))) l xs := ⟨refs, upd_same, Paired.map' pF fun r x e => s3 _ _ e⟩
        generalize L2.upd H2 l (.lst (refs.map V.ref)) = H3 at *
        refine ⟨⟨[], SqL.of e3⟩, loop0 ⟨[], SqL.of e3, Nat.zero_le _⟩ ?_⟩
        exact ⟨_, rfl, k l H3 s3 (by cases q : H l with | none => rfl | some o => rw [s2 _ _ q] at hl1; cases hl1) r1⟩
end
end C38

set_option maxHeartbeats 2000000
namespace C38
open PySem PySem.Spec PyProof.Rows L2
/-! ### checks: where no local is taken -/
def spWC : Sp := fun vs H Q _ => ∃ (F W : Addr) (v : V) (f : Str → Bool), vs = [.ref F, v, .ref W] ∧ WdD H W f ∧ f "LOAD_FAST" = false ∧ Q (.ref F) H
section
variable {P : Program} {w : World} {K : PySem.W.Frag} {mg : Str → Option Value} {base : Heap} {f : Addr} {fd : FuncData}
abbrev swc : Stmt := top 15
theorem scwc : FnScope ["rows", "head", "words", "lacking", "found", "at", "_", "name", "line", "handler"] ["rows", "head", "words"] (defScope swc) := ⟨rfl, rfl, rfl, by decide +kernel, rfl, by decide +kernel, by decide +kernel⟩

theorem ok_wc (T : Txt mg) (F : FnP K "with_checks" "with_checks" swc f fd) : FnOk P w K mg base CX0 1 f fd ["rows", "head", "words"] spWC := by
  refine F.ok scwc (fun vs H Q E h => ?_) (fun cdv A outer s H vs Q E hr h => ?_)
  · obtain ⟨F, W, v, f, rfl, _⟩ := h
    rfl
  · have hu1 := hu_of hr
    obtain ⟨F, W, v, fw, rfl, hW, hn, k⟩ := h
    refine ⟨_, PSs.nox (pss_cons (ps_if (pt_cmp (pc_dnotin hu1 pe_str (pv 2)))
    (pss_one (ps_ret (pv 0)))
    pss_nil)
  pss_never), ?_⟩
    show (_ : TS) _ [some (.ref F), some v, some (.ref W), none, none, none, none, none, none, none] H
    simp only [r_seq, r_next, r_brk, r_cont, r_asg, r_name, r_ret, r_retN, r_drop, r_ifs, r_never, r_var, r_c, r_op, r_un, r_if, r_tst, r_b, r_not, r_and, r_or, r_andV, r_orV, r_notV, r_nil, r_cons, r_tup, r_lst, r_cb, r_call, r_bm, r_bm0, r_sl, r_nopart, r_part, r_rev, r_gnil, r_gcons, r_gsub, r_par, r_aug, r_chain, r_I0, r_I, r_U, r_ixd, r_lend, r_tupd, r_listd, r_sld, r_app, r_ext, r_reverse, r_setl, r_cat, r_int1, r_eqS, r_neS, scal_ii, scal_bb, scal_ss, at0, at1, at2, sq_lst, sq_tup, isLst_lst, List.getElem?_cons_zero, List.getElem?_cons_succ, List.set_cons_zero, List.set_cons_succ, V.int.injEq, V.bl.injEq, V.ref.injEq, V.str.injEq, HO.lst.injEq, HO.tup.injEq, Option.some.injEq, exists_eq_left', exists_eq_left, List.cons.injEq, and_true, true_and, decide_eq_true_eq, reduceCtorEq, false_and, exists_false, or_false, false_or, exists_const, and_assoc, exists_and_left, List.append_nil, ix0, ix1, ix2, cm_mod, cdw1009, cdw2003, cdw7, cdw64, cdw2, cm104729, cm2, cm3, upd_same, List.length_cons, List.length_nil, Int.reduceLT, Int.reduceLE, Nat.reduceAdd, Nat.reduceLeDiff, Nat.reduceLT, Int.reduceToNat, r_for1, r_forL, r_forT, r_lcL, r_lc1, r_yes, r_gtupD, wipe_0, wipe_1, List.cons_append, List.nil_append, r_forS, r_ipI, ite_false, ite_true, Bool.not_true, Bool.not_false, decide_true, decide_false, r_isd, r_islt, cD_ty, cD_ref, tD_non, tD_bl, tD_int, tD_str, tD_ref, tH_lst, tH_tup, tH_dK, tH_ins, ki_self, ki_int_bool, ki_non_int, ki_str_int, ki_lt_lst, ki_lt_tup, r_fld, r_sfld, HO.ins.injEq, cx_K, r_dnin]
    obtain ⟨o1, d1, q1⟩ := hW.get "LOAD_FAST"
    refine ⟨o1, d1, ?_⟩
    rw [q1, hn, if_pos (by decide)]
    exact k
end
end C38

set_option maxHeartbeats 2000000
namespace C38
open PySem PySem.Spec PyProof.Rows L2
/-! ### directions, as a pure function of rows -/
structure Pl where
  f : Int → Option Nat
  n : Nat
def plStep (s : Pl) (x : R4) : Pl := ⟨if x.w = "LABEL" then (fun m => if m = labI x.a then some s.n else s.f m) else s.f, s.n + 1⟩
def plTo (xs : List R4) : Pl := xs.foldl plStep ⟨fun _ => none, 0⟩
theorem pl_snoc {xs : List R4} {i : Nat} {x : R4} (h : xs[i]? = some x) : plTo (xs.take (i + 1)) = plStep (plTo (xs.take i)) x := by
  unfold plTo
  rw [List.take_add_one, h, List.foldl_append]
  rfl
theorem pl_n (xs : List R4) : ∀ i, i ≤ xs.length → (plTo (xs.take i)).n = i
  | 0, _ => rfl
  | i + 1, h => by
    rw [pl_snoc (List.getElem?_eq_getElem (by omega : i < xs.length))]
    show (plTo (xs.take i)).n + 1 = i + 1
    rw [pl_n xs i (by omega)]
def nf (f : Int → Option Nat) : Nat → Nat → Nat
  | 0, n => n
  | k + 1, n => if (f n).isSome = true then nf f k (n + 1) else n
theorem nf_le (f : Int → Option Nat) : ∀ k n, n ≤ nf f k n ∧ nf f k n ≤ n + k
  | 0, n => ⟨Nat.le_refl _, Nat.le_refl _⟩
  | k + 1, n => by
    unfold nf
    have := nf_le f k (n + 1)
    split <;> omega
def backW (z : Str) : Str := if z = "JUMP" then "JUMP_BACKWARD" else "JUMP_BACKWARD_NO_INTERRUPT"
def jumping (z : Str) : Bool := direct z || testing z
structure Dr where
  o : List R4
  free : Nat
  n : Nat
def upw (f : Int → Option Nat) (n : Nat) (x : R4) : Bool := decide (n < (f (labI x.a)).getD 0)
def drStep (f : Int → Option Nat) (B : Nat) (s : Dr) (x : R4) : Dr :=
  if direct x.w = true then ⟨s.o ++ [⟨if upw f s.n x = true then "JUMP_FORWARD" else backW x.w, x.a, x.l, x.h⟩], s.free, s.n + 1⟩
  else if testing x.w = true then
    (if upw f s.n x = true then ⟨s.o ++ [x], s.free, s.n + 1⟩
     else ⟨s.o ++ [⟨oppos x.w, .int (nf f (B - s.free) s.free : Nat), x.l, x.h⟩, ⟨"JUMP_BACKWARD", x.a, x.l, x.h⟩, ⟨"LABEL", .int (nf f (B - s.free) s.free : Nat), none, .non⟩], nf f (B - s.free) s.free + 1, s.n + 1⟩)
  else ⟨s.o ++ [x], s.free, s.n + 1⟩
def drTo (f : Int → Option Nat) (B : Nat) (xs : List R4) : Dr := xs.foldl (drStep f B) ⟨[], 0, 0⟩
theorem dr_snoc {f : Int → Option Nat} {B : Nat} {xs : List R4} {i : Nat} {x : R4} (h : xs[i]? = some x) : drTo f B (xs.take (i + 1)) = drStep f B (drTo f B (xs.take i)) x := by
  unfold drTo
  rw [List.take_add_one, h, List.foldl_append]
  rfl
theorem dr_n (f : Int → Option Nat) (B : Nat) (xs : List R4) : ∀ i, i ≤ xs.length → (drTo f B (xs.take i)).n = i
  | 0, _ => rfl
  | i + 1, h => by
    rw [dr_snoc (List.getElem?_eq_getElem (by omega : i < xs.length))]
    have := dr_n f B xs i (by omega)
    unfold drStep
    split
    · show _ + 1 = _; omega
    · split
      · split
        · show _ + 1 = _; omega
        · show _ + 1 = _; omega
      · show _ + 1 = _; omega
structure DrL (s : Dr) (B i : Nat) : Prop where
  o : s.o.length ≤ 3 * i
  free : s.free ≤ B + i
theorem dr_len (f : Int → Option Nat) (B : Nat) (xs : List R4) : ∀ i, i ≤ xs.length → DrL (drTo f B (xs.take i)) B i
  | 0, _ => ⟨Nat.le_refl _, Nat.zero_le _⟩
  | i + 1, h => by
    rw [dr_snoc (List.getElem?_eq_getElem (by omega : i < xs.length))]
    obtain ⟨h1, h2⟩ := dr_len f B xs i (by omega)
    generalize drTo f B (xs.take i) = s at *
    have := nf_le f (B - s.free) s.free
    unfold drStep
    split
    · exact ⟨by simp; omega, by show s.free ≤ _; omega⟩
    · split
      · split
        · exact ⟨by simp; omega, by show s.free ≤ _; omega⟩
        · exact ⟨by simp; omega, by show nf f (B - s.free) s.free + 1 ≤ _; omega⟩
      · exact ⟨by simp; omega, by show s.free ≤ _; omega⟩
def isJ (xs : List R4) (i : Nat) : Bool := match xs[i]? with
  | some x => jumping x.w
  | none => false
/-- a stretch without jumps -/
theorem dr_seg (f : Int → Option Nat) (B : Nat) (xs : List R4) (d : Nat) : ∀ m, d + m ≤ xs.length → (∀ k, d ≤ k → k < d + m → isJ xs k = false) → drTo f B (xs.take (d + m)) = ⟨(drTo f B (xs.take d)).o ++ (xs.drop d).take m, (drTo f B (xs.take d)).free, d + m⟩
  | 0, h, _ => by
    have e := dr_n f B xs d h
    show drTo f B (xs.take d) = _
    generalize drTo f B (xs.take d) = s at *
    cases s
    cases e
    simp
  | m + 1, h, k => by
    have hi : xs[d + m]? = some xs[d + m] := List.getElem?_eq_getElem (by omega)
    have e : drTo f B (xs.take (d + m + 1)) = _ := dr_snoc hi
    show drTo f B (xs.take (d + m + 1)) = _
    rw [e, dr_seg f B xs d m (by omega) fun j h1 h2 => k j h1 (by omega)]
    have q := k (d + m) (by omega) (by omega)
    have q2 : jumping xs[d + m].w = false := by
      unfold isJ at q
      rw [hi] at q
      exact q
    have t1 : (xs.drop d).take (m + 1) = (xs.drop d).take m ++ [xs[d + m]] := by
      rw [List.take_add_one, List.getElem?_drop, hi]
      rfl
    have q3 : direct xs[d + m].w = false ∧ testing xs[d + m].w = false := by
      unfold jumping at q2
      exact Bool.or_eq_false_iff.mp q2
    unfold drStep
    rw [q3.1, q3.2, if_neg (by decide), if_neg (by decide), t1, List.append_assoc]
    rfl
theorem filt_head (p : Nat → Bool) : ∀ (m d a : Nat) (r : List Nat), (List.range' d m).filter p = a :: r → d ≤ a ∧ a < d + m ∧ p a = true ∧ (∀ k, d ≤ k → k < a → p k = false) ∧ r = (List.range' (a + 1) (d + m - (a + 1))).filter p
  | 0, d, a, r, h => by cases h
  | m + 1, d, a, r, h => by
    rw [List.range'_succ, List.filter_cons] at h
    by_cases c : p d = true
    · rw [if_pos c] at h
      injection h with h1 h2
      subst h1
      exact ⟨Nat.le_refl _, by omega, c, fun k h3 h4 => by omega, by rw [← h2, show d + (m + 1) - (d + 1) = m by omega]⟩
    · rw [if_neg c] at h
      obtain ⟨q1, q2, q3, q4, q5⟩ := filt_head p m (d + 1) a r h
      refine ⟨by omega, by omega, q3, fun k h3 h4 => ?_, by rw [q5, show d + 1 + m - (a + 1) = d + (m + 1) - (a + 1) by omega]⟩
      by_cases z : k = d
      · rw [z]; simpa using c
      · exact q4 k (by omega) h4
theorem filt_nil (p : Nat → Bool) : ∀ (m d : Nat), (List.range' d m).filter p = [] → ∀ k, d ≤ k → k < d + m → p k = false := fun m d h k h1 h2 => by
  have := List.filter_eq_nil_iff.mp h k (by rw [List.mem_range'_1]; omega)
  simpa using this
theorem cut_mid {xs : List V} {d a : Nat} (h : a ≤ xs.length) (h2 : d ≤ a) : cutV xs (some (d : Int)) (some (a : Int)) = (xs.drop d).take (a - d) := by
  unfold cutV
  rw [HT.sIx_nat, HT.sIx_nat, Nat.min_eq_left h, Nat.min_eq_left (Nat.le_trans h2 h)]
theorem cut_from {xs : List V} {d : Nat} (h : d ≤ xs.length) : cutV xs (some (d : Int)) none = xs.drop d := by
  unfold cutV
  rw [HT.sIx_nat, HT.sIx_none, Nat.min_eq_left h, List.take_of_length_le (by rw [List.length_drop]; exact Nat.le_refl _)]
end C38

set_option maxHeartbeats 2000000
namespace C38
open PySem PySem.Spec PyProof.Rows L2
def KTup (K : PySem.W.Frag) (a : Addr) (xs : List V) : Prop := ∃ (o : Obj) (its : Array Value) (n : Nat), K.lookup a = some o ∧ o.cls = .type "tuple" ∧ o.data = .seq its n ∧ its.size ≤ sizeLine ∧ Vals xs its.toList
theorem KTup.s {K : PySem.W.Frag} {a : Addr} {xs : List V} (h : KTup K a xs) (H : Hp) : SqT K H a xs := .inr h
theorem r_ixD {K : PySem.W.Frag} {w : World} {x y : V} {H : Hp} {Q : VK} : rIxD K w x y H Q = ∃ p z v, x = .ref p ∧ y = .str z ∧ KDct K w p z v ∧ Q v H := rfl
structure DirT (K : PySem.W.Frag) (w : World) (mg : Str → Option Value) (D1 D2 D3 : Addr) : Prop where
  tt : InW K w mg "TURNING" D1 turning
  td : InW K w mg "DIRECTIONS" D2 direct
  tt3 : InW K w mg "OPPOSITES" D3 testing
  dk : ∀ z : Str, direct z = true → ∃ a, KDct K w D2 z (.ref a) ∧ KTup K a [.str "JUMP_FORWARD", .str (backW z)]
  ot : ∀ z : Str, testing z = true → KDct K w D3 z (.str (oppos z))
def t_b1 (K : PySem.W.Frag) (w : World) (D1 D2 D3 : Addr) : TS := tSeq (tAsg (tOp rIxd (tVar 4) (tC (V.int 0))) (gName 5)) (tIfS (tTest (tOp (rInT K D1) (tVar 5) (tC (V.ref D1)))) (tIfS (tTest (tOp rEq (tVar 5) (tC (V.str (Str.ofString "LABEL"))))) (sDPut (tVar 1) (tOp rIxd (tVar 4) (tC (V.int 1))) (tVar 3)) (tIfS (tOr (tTest (tOp (rInT K D2) (tVar 5) (tC (V.ref D2)))) (tTest (tOp (rInT K D3) (tVar 5) (tC (V.ref D3))))) (tDrop (tBM K "list" rAppend (tVar 2) (tCons (tVar 3) tNil))) tNext)) tNext)
def t_b3 (K : PySem.W.Frag) (w : World) (D1 D2 D3 : Addr) : TS := tIfS (tTest (tOp (rInT K D2) (tVar 5) (tC (V.ref D2)))) (tSeq (tAsg (tOp (rIxD K w) (tC (V.ref D2)) (tVar 5)) (gTup K 2 (gCons (gName 12) (gCons (gName 13) gNil)))) (tDrop (tBM K "list" rAppend (tVar 6) (tCons (tTup (tCons (tIf (tTest (tOp (rI0 fun i j => V.bl (decide (j < i))) (tDGet (tVar 1) (tVar 9)) (tVar 3))) (tVar 12) (tVar 13)) (tCons (tVar 9) (tCons (tVar 10) (tCons (tVar 11) tNil))))) tNil)))) (tIfS (tTest (tOp (rI0 fun i j => V.bl (decide (j < i))) (tDGet (tVar 1) (tVar 9)) (tVar 3))) (tDrop (tBM K "list" rAppend (tVar 6) (tCons (tOp rIxd (tVar 0) (tVar 3)) tNil))) (tSeq (tWhile (tB (tDIn (tVar 8) (tVar 1))) (tAug 8 (tC (V.int 1)) (ipI fun i j => i + j))) (tSeq (tDrop (tBM K "list" rAppend (tVar 6) (tCons (tTup (tCons (tOp (rIxD K w) (tC (V.ref D3)) (tVar 5)) (tCons (tVar 8) (tCons (tVar 10) (tCons (tVar 11) tNil))))) tNil))) (tSeq (tDrop (tBM K "list" rAppend (tVar 6) (tCons (tTup (tCons (tC (V.str (Str.ofString "JUMP_BACKWARD"))) (tCons (tVar 9) (tCons (tVar 10) (tCons (tVar 11) tNil))))) tNil))) (tSeq (tDrop (tBM K "list" rAppend (tVar 6) (tCons (tTup (tCons (tC (V.str (Str.ofString "LABEL"))) (tCons (tVar 8) (tCons (tC V.non) (tCons (tC V.non) tNil))))) tNil))) (tAug 8 (tC (V.int 1)) (ipI fun i j => i + j)))))))
def t_b2 (K : PySem.W.Frag) (w : World) (D1 D2 D3 : Addr) : TS := tSeq (tAsg (tOp rIxd (tVar 0) (tVar 3)) (gTupD 4 (gCons (gName 5) (gCons (gName 9) (gCons (gName 10) (gCons (gName 11) gNil)))))) (tSeq (tDrop (tBM K "list" rExtend (tVar 6) (tCons (L2.tSl rSld (tVar 0) (tPart (tVar 7)) (tPart (tVar 3))) tNil))) (tSeq (tAsg (tOp (rI0 fun i j => V.int (i + j)) (tVar 3) (tC (V.int 1))) (gName 7)) (t_b3 K w D1 D2 D3)))
def t_wd (K : PySem.W.Frag) (w : World) (D1 D2 D3 : Addr) : TS := tSeq (tAsg tDNewK (gName 1)) (tSeq (tAsg (tLst tNil) (gName 2)) (tSeq (tFor (iEnumS K (tCons (tVar 0) tNil)) (gTupD 2 (gCons (gName 3) (gCons (gName 4) gNil))) (t_b1 K w D1 D2 D3)) (tSeq (tAsg (tLst tNil) (gName 6)) (tSeq (tAsg (tC (V.int 0)) (gName 7)) (tSeq (tAsg (tC (V.int 0)) (gName 8)) (tSeq (tFor (iList K (tVar 2)) (gName 3) (t_b2 K w D1 D2 D3)) (tRet (tOp rCat (tVar 6) (L2.tSl rSld (tVar 0) (tPart (tVar 7)) tNoPart)))))))))
theorem r_dget {td ty : TE} {σ : L2.St} {H : Hp} {Q : VK} : tDGet td ty σ H Q = td σ H (fun x H1 => ty σ H1 fun y H2 => ∃ a v, x = .ref a ∧ DGet H2 a y (some v) ∧ Q v H2) := rfl
def PlD (H : Hp) (D : Addr) (f : Int → Option Nat) (l : Nat) : Prop := ∃ kvs : List (Key × V), H D = some (.dK kvs) ∧ kvs.length ≤ l ∧ ∀ n : Int, valV kvs (Sum.inl n : Key) = (f n).map fun k => V.int (k : Nat)
theorem PlD.imp {H H' : Hp} {D : Addr} {f : Int → Option Nat} {l : Nat} (h : PlD H D f l) (e : H' D = H D) : PlD H' D f l := let ⟨kvs, q, l, k⟩ := h; ⟨kvs, by rw [e]; exact q, l, k⟩
theorem PlD.put {H : Hp} {D : Addr} {f : Int → Option Nat} {l i : Nat} {n : Int} (h : PlD H D f l) (hl : l ≤ 100000) : ∃ H', DPut H D (.int n) (.int (i : Nat)) H' ∧ PlD H' D (fun m => if m = n then some i else f m) (l + 1) ∧ ∀ b, b ≠ D → H' b = H b := by
  obtain ⟨kvs, e, lk, k⟩ := h
  refine ⟨_, DPut.k (k := (Sum.inl n : Key)) e (Nat.lt_of_le_of_lt (by omega : _ ≤ 100000) (by decide)), ⟨_, upd_same, Nat.le_trans (length_putK kvs (Sum.inl n) _) (by omega), fun m => ?_⟩, fun b nb => upd_ne nb⟩
  rw [valV_put]
  by_cases c : m = n
  · rw [if_pos (by rw [c])]
    show _ = Option.map _ (if m = n then some i else f m)
    rw [if_pos c]
    rfl
  · rw [if_neg (by simpa using c)]
    show _ = Option.map _ (if m = n then some i else f m)
    rw [if_neg c, k]
theorem PlD.get {H : Hp} {D : Addr} {f : Int → Option Nat} {l : Nat} (h : PlD H D f l) (n : Int) : DGet H D (.int n) ((f n).map fun k => V.int (k : Nat)) := by
  obtain ⟨kvs, e, _, k⟩ := h
  rw [← k]
  exact DGet.k (k := (Sum.inl n : Key)) e
theorem PlD.mono {H : Hp} {D : Addr} {f : Int → Option Nat} {l l' : Nat} (h : PlD H D f l) (e : l ≤ l') : PlD H D f l' := let ⟨kvs, q, a, k⟩ := h; ⟨kvs, q, Nat.le_trans a e, k⟩
theorem jump_lead (z : Str) : jumping z = leading z := by
  rw [Bool.eq_iff_iff]
  unfold jumping direct testing leading
  rw [Bool.or_eq_true, decide_eq_true_iff, decide_eq_true_iff, decide_eq_true_iff]
  simp only [List.mem_cons, List.not_mem_nil, or_false, or_assoc]
def jsV (xs : List R4) (i : Nat) : List V := ((List.range' 0 i).filter (isJ xs)).map fun k => V.int (k : Nat)
theorem jsV_snoc {xs : List R4} {i : Nat} {x : R4} (h : xs[i]? = some x) : jsV xs (i + 1) = jsV xs i ++ (if jumping x.w = true then [.int (i : Nat)] else []) := by
  unfold jsV
  rw [List.range'_concat, List.filter_append, List.map_append]
  congr 1
  have e : isJ xs i = jumping x.w := by unfold isJ; rw [h]
  rw [show 0 + 1 * i = i by omega, List.filter_cons, e, List.filter_nil]
  split <;> rfl
theorem jsV_len (xs : List R4) (i : Nat) : (jsV xs i).length ≤ i := by
  unfold jsV
  rw [List.length_map]
  have := List.length_filter_le (isJ xs) (List.range' 0 i)
  rw [List.length_range'] at this
  exact this
/-- a row as directions are told of it -/
structure Ok4 (x : R4) : Prop where
  w : x.w ∈ FW
  a : (x.w = "LABEL" ∨ jumping x.w = true) → ∃ n : Int, x.a = .int n
theorem b1_run {K : PySem.W.Frag} {w : World} {mg : Str → Option Value} {D1 D2 D3 : Addr} (TD : DirT K w mg D1 D2 D3) {D : Ends} {F Pa J r : Addr} {s : Pl} {xs : List R4} {i l : Nat} {x : R4} {v5 : Option V} {H : Hp} (ok : Ok4 x) (er : H r = some (.tup (v4 x))) (hP : PlD H Pa s.f l) (hJ : H J = some (.lst (jsV xs i))) (hx : xs[i]? = some x) (hs : s.n = i) (hl : l ≤ 60000) (hi : i ≤ 60000) (n1 : Pa ≠ J)
    (k : ∀ H' v5, (∀ b o, b ≠ Pa → b ≠ J → H b = some o → H' b = some o) → PlD H' Pa (plStep s x).f (l + 1) → H' J = some (.lst (jsV xs (i + 1))) → D.nx [some (.ref F), some (.ref Pa), some (.ref J), some (.int i), some (.ref r), v5, none, none, none, none, none, none, none, none] H') :
    t_b1 K w D1 D2 D3 D [some (.ref F), some (.ref Pa), some (.ref J), some (.int i), some (.ref r), v5, none, none, none, none, none, none, none, none] H := by
  unfold t_b1
  unfold v4 at er
  simp only [r_seq, r_next, r_brk, r_cont, r_asg, r_name, r_ret, r_retN, r_drop, r_ifs, r_never, r_var, r_c, r_op, r_un, r_if, r_tst, r_b, r_not, r_and, r_or, r_andV, r_orV, r_notV, r_nil, r_cons, r_tup, r_lst, r_cb, r_call, r_bm, r_bm0, r_sl, r_nopart, r_part, r_rev, r_gnil, r_gcons, r_gsub, r_par, r_aug, r_chain, r_I0, r_I, r_U, r_ixd, r_lend, r_tupd, r_listd, r_sld, r_app, r_ext, r_reverse, r_setl, r_cat, r_int1, r_eqS, r_neS, scal_ii, scal_bb, scal_ss, at0, at1, at2, sq_lst, sq_tup, isLst_lst, List.getElem?_cons_zero, List.getElem?_cons_succ, List.set_cons_zero, List.set_cons_succ, V.int.injEq, V.bl.injEq, V.ref.injEq, V.str.injEq, HO.lst.injEq, HO.tup.injEq, Option.some.injEq, exists_eq_left', exists_eq_left, List.cons.injEq, and_true, true_and, decide_eq_true_eq, reduceCtorEq, false_and, exists_false, or_false, false_or, exists_const, and_assoc, exists_and_left, List.append_nil, ix0, ix1, ix2, cm_mod, cdw1009, cdw2003, cdw7, cdw64, cdw2, cm104729, cm2, cm3, upd_same, List.length_cons, List.length_nil, Int.reduceLT, Int.reduceLE, Nat.reduceAdd, Nat.reduceLeDiff, Nat.reduceLT, Int.reduceToNat, r_for1, r_forL, r_forT, r_lcL, r_lc1, r_yes, r_gtupD, wipe_0, wipe_1, List.cons_append, List.nil_append, r_forS, r_ipI, ite_false, ite_true, Bool.not_true, Bool.not_false, decide_true, decide_false, r_isd, r_islt, cD_ty, cD_ref, tD_non, tD_bl, tD_int, tD_str, tD_ref, tH_lst, tH_tup, tH_dK, tH_ins, ki_self, ki_int_bool, ki_non_int, ki_str_int, ki_lt_lst, ki_lt_tup, r_fld, r_sfld, HO.ins.injEq, cx_K, er]
  refine TD.tt.inT ok.w ⟨_, rfl, ?_⟩
  have nj : jumping x.w = false → jsV xs (i + 1) = jsV xs i := fun q => by rw [jsV_snoc hx, q, if_neg (by decide), List.append_nil]
  have pf : x.w ≠ "LABEL" → (plStep s x).f = s.f := fun c => by unfold plStep; rw [if_neg c]
  by_cases ct : turning x.w = true
  · rw [if_pos ct]
    by_cases c1 : x.w = "LABEL"
    · rw [if_pos c1]
      obtain ⟨n, en⟩ := ok.a (.inl c1)
      obtain ⟨H2, dp, hP2, kP⟩ := hP.put (n := n) (i := i) (by omega)
      rw [en] at er
      rw [r_sput]
      simp only [r_seq, r_next, r_brk, r_cont, r_asg, r_name, r_ret, r_retN, r_drop, r_ifs, r_never, r_var, r_c, r_op, r_un, r_if, r_tst, r_b, r_not, r_and, r_or, r_andV, r_orV, r_notV, r_nil, r_cons, r_tup, r_lst, r_cb, r_call, r_bm, r_bm0, r_sl, r_nopart, r_part, r_rev, r_gnil, r_gcons, r_gsub, r_par, r_aug, r_chain, r_I0, r_I, r_U, r_ixd, r_lend, r_tupd, r_listd, r_sld, r_app, r_ext, r_reverse, r_setl, r_cat, r_int1, r_eqS, r_neS, scal_ii, scal_bb, scal_ss, at0, at1, at2, sq_lst, sq_tup, isLst_lst, List.getElem?_cons_zero, List.getElem?_cons_succ, List.set_cons_zero, List.set_cons_succ, V.int.injEq, V.bl.injEq, V.ref.injEq, V.str.injEq, HO.lst.injEq, HO.tup.injEq, Option.some.injEq, exists_eq_left', exists_eq_left, List.cons.injEq, and_true, true_and, decide_eq_true_eq, reduceCtorEq, false_and, exists_false, or_false, false_or, exists_const, and_assoc, exists_and_left, List.append_nil, ix0, ix1, ix2, cm_mod, cdw1009, cdw2003, cdw7, cdw64, cdw2, cm104729, cm2, cm3, upd_same, List.length_cons, List.length_nil, Int.reduceLT, Int.reduceLE, Nat.reduceAdd, Nat.reduceLeDiff, Nat.reduceLT, Int.reduceToNat, r_for1, r_forL, r_forT, r_lcL, r_lc1, r_yes, r_gtupD, wipe_0, wipe_1, List.cons_append, List.nil_append, r_forS, r_ipI, ite_false, ite_true, Bool.not_true, Bool.not_false, decide_true, decide_false, r_isd, r_islt, cD_ty, cD_ref, tD_non, tD_bl, tD_int, tD_str, tD_ref, tH_lst, tH_tup, tH_dK, tH_ins, ki_self, ki_int_bool, ki_non_int, ki_str_int, ki_lt_lst, ki_lt_tup, r_fld, r_sfld, HO.ins.injEq, cx_K, er]
      refine ⟨H2, dp, ?_⟩
      refine k H2 _ (fun b o nP nJ e => by rw [kP b nP]; exact e) ?_ ?_
      · have e : (plStep s x).f = fun m => if m = n then some i else s.f m := by unfold plStep; rw [if_pos c1, hs, en]; rfl
        rw [e]
        exact hP2
      · rw [kP J n1.symm, hJ, nj (by rw [c1]; rfl)]
    · rw [if_neg c1]
      have yes : jumping x.w = true → tyV K "list" (V.ref J) H ∧ ∃ ys, H J = some (HO.lst ys) ∧ ys.length < sizeLine ∧ D.nx [some (V.ref F), some (V.ref Pa), some (V.ref J), some (V.int ↑i), some (V.ref r), some (V.str x.w), none, none, none, none, none, none, none, none] (upd H J (HO.lst (ys ++ [V.int ↑i]))) := fun q =>
        ⟨tyl hJ, _, hJ, Nat.lt_of_le_of_lt (Nat.le_trans (jsV_len xs i) hi) (by decide), k _ _ (fun b o _ nJ e => by rw [upd_ne nJ]; exact e) (by rw [pf c1]; exact (hP.imp (upd_ne n1)).mono (Nat.le_succ _)) (by rw [upd_same, jsV_snoc hx, if_pos q])⟩
      refine TD.td.inT ok.w ⟨_, rfl, ?_⟩
      by_cases c2 : direct x.w = true
      · rw [if_pos c2]
        exact yes (by unfold jumping; rw [c2]; rfl)
      · rw [if_neg c2]
        refine TD.tt3.inT ok.w ⟨_, rfl, ?_⟩
        by_cases c3 : testing x.w = true
        · rw [if_pos c3]
          exact yes (by unfold jumping; rw [c3, Bool.or_true])
        · rw [if_neg c3]
          exact k H _ (fun _ _ _ _ e => e) (by rw [pf c1]; exact hP.mono (Nat.le_succ _)) (by rw [hJ, nj (by unfold jumping; simp [c2, c3])])
  · rw [if_neg ct]
    have c1 : x.w ≠ "LABEL" := fun z => ct (by rw [z]; rfl)
    have c2 : jumping x.w = false := by
      rw [jump_lead]
      cases q : leading x.w with
      | false => rfl
      | true => exact absurd (by unfold turning; rw [q]; rfl) ct
    exact k H _ (fun _ _ _ _ e => e) (by rw [pf c1]; exact hP.mono (Nat.le_succ _)) (by rw [hJ, nj c2])
theorem Paired.app' {α β : Type} {F : α → β → Prop} : ∀ {l1 m1 : List α} {l2 m2 : List β}, Paired F l1 l2 → Paired F m1 m2 → Paired F (l1 ++ m1) (l2 ++ m2)
  | _, _, _, _, .nil, h => h
  | _, _, _, _, .cons h t, k => .cons h (Paired.app' t k)
theorem Paired.drop' {α β : Type} {F : α → β → Prop} : ∀ {l1 : List α} {l2 : List β} (n : Nat), Paired F l1 l2 → Paired F (l1.drop n) (l2.drop n)
  | _, _, 0, p => p
  | _, _, n + 1, .nil => .nil
  | _, _, n + 1, .cons _ p => Paired.drop' n p
theorem Paired.take' {α β : Type} {F : α → β → Prop} : ∀ {l1 : List α} {l2 : List β} (n : Nat), Paired F l1 l2 → Paired F (l1.take n) (l2.take n)
  | _, _, 0, p => .nil
  | _, _, n + 1, .nil => .nil
  | _, _, n + 1, .cons h p => .cons h (Paired.take' n p)
/-- found rows, one stretch more -/
theorem rs4_ext {H : Hp} {G : Addr} {refs rs : List Addr} {fs xs : List R4} (p : Paired (fun r x => H r = some (.tup (v4 x))) refs fs) (hG : H G = some (.lst (refs.map V.ref))) (q : Paired (fun r x => H r = some (.tup (v4 x))) rs xs) : Rs4 (L2.upd H G (.lst (refs.map V.ref ++ rs.map V.ref))) G (fs ++ xs) ∧ ∀ b o, b ≠ G → H b = some o → L2.upd H G (.lst (refs.map V.ref ++ rs.map V.ref)) b = some o := by
  have k : ∀ b o, b ≠ G → H b = some o → L2.upd H G (.lst (refs.map V.ref ++ rs.map V.ref)) b = some o := fun b o nb e => by rw [upd_ne nb]; exact e
  have nt : ∀ b ys, H b = some (.tup ys) → b ≠ G := fun b ys e z => by rw [z, hG] at e; cases e
  exact ⟨⟨refs ++ rs, by rw [upd_same, List.map_append], Paired.app' (Paired.map' p fun b x e => k _ _ (nt _ _ e) e) (Paired.map' q fun b x e => k _ _ (nt _ _ e) e)⟩, k⟩
def S14w (F Pa J G : Addr) (a free : Nat) (v4' : Option V) (x : R4) (v12 v13 : Option V) : L2.St := [some (.ref F), some (.ref Pa), some (.ref J), some (.int (a : Nat)), v4', some (.str x.w), some (.ref G), some (.int ((a + 1 : Nat) : Int)), some (.int (free : Nat)), some x.a, some (lnV x.l), some x.h, v12, v13]
def LvN (F Pa J G : Addr) (a : Nat) (v4' : Option V) (x : R4) (v12 v13 : Option V) (f : Int → Option Nat) (B fr : Nat) (H : Hp) (σ : L2.St) (H' : Hp) : Prop := ∃ m, σ = S14w F Pa J G a m v4' x v12 v13 ∧ H' = H ∧ nf f (B - m) m = fr
def msN (B : Nat) : L2.St → Nat
  | [_, _, _, _, _, _, _, _, some (V.int i), _, _, _, _, _] => B - i.toNat
  | _ => 0
theorem b3_run {K : PySem.W.Frag} {w : World} {mg : Str → Option Value} {D1 D2 D3 : Addr} (TD : DirT K w mg D1 D2 D3) {D : Ends} {F Pa J G : Addr} {f : Int → Option Nat} {B a l : Nat} {s : Dr} {xs : List R4} {x : R4} {v4' v12 v13 : Option V} {H : Hp} (ok : Ok4 x) (jl : jumping x.w = true → ∃ n m, x.a = .int n ∧ f n = some m) (hB : ∀ n : Nat, B ≤ n → f n = none) (hF : Rs4 H F xs) (hP : PlD H Pa f l) (hG : Rs4 H G s.o) (hx : xs[a]? = some x) (hj : jumping x.w = true) (hs : s.n = a) (lo : s.o.length ≤ 200000)
    (k : ∀ H' v12 v13, (∀ b o, b ≠ G → H b = some o → H' b = some o) → Rs4 H' G (drStep f B s x).o → D.nx [some (.ref F), some (.ref Pa), some (.ref J), some (.int (a : Nat)), v4', some (.str x.w), some (.ref G), some (.int ((a + 1 : Nat) : Int)), some (.int ((drStep f B s x).free : Nat)), some x.a, some (lnV x.l), some x.h, v12, v13] H') :
    t_b3 K w D1 D2 D3 D [some (.ref F), some (.ref Pa), some (.ref J), some (.int (a : Nat)), v4', some (.str x.w), some (.ref G), some (.int ((a + 1 : Nat) : Int)), some (.int (s.free : Nat)), some x.a, some (lnV x.l), some x.h, v12, v13] H := by
  unfold t_b3
  obtain ⟨n, m, en, em⟩ := jl hj
  have dg := hP.get n
  rw [em] at dg
  have ul : upw f s.n x = decide (a < m) := by unfold upw; rw [hs, en]; show decide (a < (f n).getD 0) = _; rw [em]; rfl
  unfold drStep at k
  rw [ul] at k
  obtain ⟨refs, eG, pG⟩ := hG
  have lr := Paired.length pG
  have szf : (refs.map V.ref).length < sizeLine := Nat.lt_of_le_of_lt (by rw [List.length_map]; omega : _ ≤ 200000) (by decide)
  simp only [r_seq, r_next, r_brk, r_cont, r_asg, r_name, r_ret, r_retN, r_drop, r_ifs, r_never, r_var, r_c, r_op, r_un, r_if, r_tst, r_b, r_not, r_and, r_or, r_andV, r_orV, r_notV, r_nil, r_cons, r_tup, r_lst, r_cb, r_call, r_bm, r_bm0, r_sl, r_nopart, r_part, r_rev, r_gnil, r_gcons, r_gsub, r_par, r_aug, r_chain, r_I0, r_I, r_U, r_ixd, r_lend, r_tupd, r_listd, r_sld, r_app, r_ext, r_reverse, r_setl, r_cat, r_int1, r_eqS, r_neS, scal_ii, scal_bb, scal_ss, at0, at1, at2, sq_lst, sq_tup, isLst_lst, List.getElem?_cons_zero, List.getElem?_cons_succ, List.set_cons_zero, List.set_cons_succ, V.int.injEq, V.bl.injEq, V.ref.injEq, V.str.injEq, HO.lst.injEq, HO.tup.injEq, Option.some.injEq, exists_eq_left', exists_eq_left, List.cons.injEq, and_true, true_and, decide_eq_true_eq, reduceCtorEq, false_and, exists_false, or_false, false_or, exists_const, and_assoc, exists_and_left, List.append_nil, ix0, ix1, ix2, cm_mod, cdw1009, cdw2003, cdw7, cdw64, cdw2, cm104729, cm2, cm3, upd_same, List.length_cons, List.length_nil, Int.reduceLT, Int.reduceLE, Nat.reduceAdd, Nat.reduceLeDiff, Nat.reduceLT, Int.reduceToNat, r_for1, r_forL, r_forT, r_lcL, r_lc1, r_yes, r_gtupD, wipe_0, wipe_1, List.cons_append, List.nil_append, r_forS, r_ipI, ite_false, ite_true, Bool.not_true, Bool.not_false, decide_true, decide_false, r_isd, r_islt, cD_ty, cD_ref, tD_non, tD_bl, tD_int, tD_str, tD_ref, tH_lst, tH_tup, tH_dK, tH_ins, ki_self, ki_int_bool, ki_non_int, ki_str_int, ki_lt_lst, ki_lt_tup, r_fld, r_sfld, HO.ins.injEq, cx_K, r_dget, r_ixD]
  refine TD.td.inT ok.w ⟨_, rfl, ?_⟩
  by_cases c : direct x.w = true
  · rw [if_pos c]
    obtain ⟨p, q1, q2⟩ := TD.dk _ c
    rw [if_pos c] at k
    refine ⟨_, q1, ?_⟩
    rw [r_gtup]
    refine ⟨p, _, rfl, q2.s H, rfl, ?_⟩
    simp only [r_seq, r_next, r_brk, r_cont, r_asg, r_name, r_ret, r_retN, r_drop, r_ifs, r_never, r_var, r_c, r_op, r_un, r_if, r_tst, r_b, r_not, r_and, r_or, r_andV, r_orV, r_notV, r_nil, r_cons, r_tup, r_lst, r_cb, r_call, r_bm, r_bm0, r_sl, r_nopart, r_part, r_rev, r_gnil, r_gcons, r_gsub, r_par, r_aug, r_chain, r_I0, r_I, r_U, r_ixd, r_lend, r_tupd, r_listd, r_sld, r_app, r_ext, r_reverse, r_setl, r_cat, r_int1, r_eqS, r_neS, scal_ii, scal_bb, scal_ss, at0, at1, at2, sq_lst, sq_tup, isLst_lst, List.getElem?_cons_zero, List.getElem?_cons_succ, List.set_cons_zero, List.set_cons_succ, V.int.injEq, V.bl.injEq, V.ref.injEq, V.str.injEq, HO.lst.injEq, HO.tup.injEq, Option.some.injEq, exists_eq_left', exists_eq_left, List.cons.injEq, and_true, true_and, decide_eq_true_eq, reduceCtorEq, false_and, exists_false, or_false, false_or, exists_const, and_assoc, exists_and_left, List.append_nil, ix0, ix1, ix2, cm_mod, cdw1009, cdw2003, cdw7, cdw64, cdw2, cm104729, cm2, cm3, upd_same, List.length_cons, List.length_nil, Int.reduceLT, Int.reduceLE, Nat.reduceAdd, Nat.reduceLeDiff, Nat.reduceLT, Int.reduceToNat, r_for1, r_forL, r_forT, r_lcL, r_lc1, r_yes, r_gtupD, wipe_0, wipe_1, List.cons_append, List.nil_append, r_forS, r_ipI, ite_false, ite_true, Bool.not_true, Bool.not_false, decide_true, decide_false, r_isd, r_islt, cD_ty, cD_ref, tD_non, tD_bl, tD_int, tD_str, tD_ref, tH_lst, tH_tup, tH_dK, tH_ins, ki_self, ki_int_bool, ki_non_int, ki_str_int, ki_lt_lst, ki_lt_tup, r_fld, r_sfld, HO.ins.injEq, cx_K, r_dget]
    rw [← en] at dg
    refine ⟨tyl eG, _, dg, _, rfl, ?_⟩
    by_cases u : a < m
    · rw [if_pos (decide_eq_true u)] at k
      rw [if_pos (by omega)]
      refine ⟨szl (by decide), fun p hp => ⟨_, by rw [upd_ne (ne_new eG hp)]; exact eG, szf, ?_⟩⟩
      obtain ⟨r1, r2⟩ := rs4_app (y := ⟨"JUMP_FORWARD", x.a, x.l, x.h⟩) eG pG hp
      exact k _ _ _ r2 r1
    · rw [if_neg (by simpa using u)] at k
      rw [if_neg (by omega)]
      refine ⟨szl (by decide), fun p hp => ⟨_, by rw [upd_ne (ne_new eG hp)]; exact eG, szf, ?_⟩⟩
      obtain ⟨r1, r2⟩ := rs4_app (y := ⟨backW x.w, x.a, x.l, x.h⟩) eG pG hp
      exact k _ _ _ r2 r1
  · rw [if_neg c]
    rw [if_neg c] at k
    have c2 : testing x.w = true := by unfold jumping at hj; simpa [c] using hj
    rw [if_pos c2] at k
    rw [← en] at dg
    refine ⟨_, dg, _, rfl, ?_⟩
    by_cases u : a < m
    · rw [if_pos (decide_eq_true u)] at k
      rw [if_pos (by omega)]
      obtain ⟨rs, eF, pF⟩ := hF
      have lp := Paired.length pF
      obtain ⟨hi, ex⟩ := List.getElem?_eq_some_iff.mp hx
      have hi' : a < rs.length := by omega
      have hrt := Paired.at' pF hi' hi
      rw [ex] at hrt
      refine ⟨tyl eG, _, by rw [eF]; rfl, V.ref rs[a], atI_nat (by rw [List.getElem?_map, List.getElem?_eq_getElem hi']; rfl), _, eG, szf, ?_⟩
      obtain ⟨r1, r2⟩ := rs4_ext (rs := [rs[a]]) (xs := [x]) pG eG (.cons hrt .nil)
      exact k _ _ _ r2 r1
    · rw [if_neg (by simpa using u)] at k
      rw [if_neg (by omega)]
      refine while_d (LvN F Pa J G a v4' x v12 v13 f B (nf f (B - s.free) s.free) H) (fun σ _ => msN B σ) ⟨s.free, rfl, rfl, rfl⟩ ?_
      rintro σ H1 ⟨i, rfl, rfl, ei⟩
      have dgi := hP.get (i : Int)
      refine ⟨(f i).isSome, fun Q q => ?_, fun e => ?_, fun e => ?_⟩
      · unfold S14w
        simp only [r_seq, r_next, r_brk, r_cont, r_asg, r_name, r_ret, r_retN, r_drop, r_ifs, r_never, r_var, r_c, r_op, r_un, r_if, r_tst, r_b, r_not, r_and, r_or, r_andV, r_orV, r_notV, r_nil, r_cons, r_tup, r_lst, r_cb, r_call, r_bm, r_bm0, r_sl, r_nopart, r_part, r_rev, r_gnil, r_gcons, r_gsub, r_par, r_aug, r_chain, r_I0, r_I, r_U, r_ixd, r_lend, r_tupd, r_listd, r_sld, r_app, r_ext, r_reverse, r_setl, r_cat, r_int1, r_eqS, r_neS, scal_ii, scal_bb, scal_ss, at0, at1, at2, sq_lst, sq_tup, isLst_lst, List.getElem?_cons_zero, List.getElem?_cons_succ, List.set_cons_zero, List.set_cons_succ, V.int.injEq, V.bl.injEq, V.ref.injEq, V.str.injEq, HO.lst.injEq, HO.tup.injEq, Option.some.injEq, exists_eq_left', exists_eq_left, List.cons.injEq, and_true, true_and, decide_eq_true_eq, reduceCtorEq, false_and, exists_false, or_false, false_or, exists_const, and_assoc, exists_and_left, List.append_nil, ix0, ix1, ix2, cm_mod, cdw1009, cdw2003, cdw7, cdw64, cdw2, cm104729, cm2, cm3, upd_same, List.length_cons, List.length_nil, Int.reduceLT, Int.reduceLE, Nat.reduceAdd, Nat.reduceLeDiff, Nat.reduceLT, Int.reduceToNat, r_for1, r_forL, r_forT, r_lcL, r_lc1, r_yes, r_gtupD, wipe_0, wipe_1, List.cons_append, List.nil_append, r_forS, r_ipI, ite_false, ite_true, Bool.not_true, Bool.not_false, decide_true, decide_false, r_isd, r_islt, cD_ty, cD_ref, tD_non, tD_bl, tD_int, tD_str, tD_ref, tH_lst, tH_tup, tH_dK, tH_ins, ki_self, ki_int_bool, ki_non_int, ki_str_int, ki_lt_lst, ki_lt_tup, r_fld, r_sfld, HO.ins.injEq, cx_K, r_dinE]
        refine ⟨_, dgi, ?_⟩
        rw [Option.isSome_map]
        exact q
      · have iB : i < B := Decidable.byContradiction fun z => by rw [hB i (by omega)] at e; cases e
        unfold S14w
        simp only [r_seq, r_next, r_brk, r_cont, r_asg, r_name, r_ret, r_retN, r_drop, r_ifs, r_never, r_var, r_c, r_op, r_un, r_if, r_tst, r_b, r_not, r_and, r_or, r_andV, r_orV, r_notV, r_nil, r_cons, r_tup, r_lst, r_cb, r_call, r_bm, r_bm0, r_sl, r_nopart, r_part, r_rev, r_gnil, r_gcons, r_gsub, r_par, r_aug, r_chain, r_I0, r_I, r_U, r_ixd, r_lend, r_tupd, r_listd, r_sld, r_app, r_ext, r_reverse, r_setl, r_cat, r_int1, r_eqS, r_neS, scal_ii, scal_bb, scal_ss, at0, at1, at2, sq_lst, sq_tup, isLst_lst, List.getElem?_cons_zero, List.getElem?_cons_succ, List.set_cons_zero, List.set_cons_succ, V.int.injEq, V.bl.injEq, V.ref.injEq, V.str.injEq, HO.lst.injEq, HO.tup.injEq, Option.some.injEq, exists_eq_left', exists_eq_left, List.cons.injEq, and_true, true_and, decide_eq_true_eq, reduceCtorEq, false_and, exists_false, or_false, false_or, exists_const, and_assoc, exists_and_left, List.append_nil, ix0, ix1, ix2, cm_mod, cdw1009, cdw2003, cdw7, cdw64, cdw2, cm104729, cm2, cm3, upd_same, List.length_cons, List.length_nil, Int.reduceLT, Int.reduceLE, Nat.reduceAdd, Nat.reduceLeDiff, Nat.reduceLT, Int.reduceToNat, r_for1, r_forL, r_forT, r_lcL, r_lc1, r_yes, r_gtupD, wipe_0, wipe_1, List.cons_append, List.nil_append, r_forS, r_ipI, ite_false, ite_true, Bool.not_true, Bool.not_false, decide_true, decide_false, r_isd, r_islt, cD_ty, cD_ref, tD_non, tD_bl, tD_int, tD_str, tD_ref, tH_lst, tH_tup, tH_dK, tH_ins, ki_self, ki_int_bool, ki_non_int, ki_str_int, ki_lt_lst, ki_lt_tup, r_fld, r_sfld, HO.ins.injEq, cx_K]
        refine ⟨⟨i + 1, rfl, rfl, ?_⟩, ?_⟩
        · rw [← ei, show B - i = (B - (i + 1)) + 1 by omega]
          show _ = if (f i).isSome = true then _ else _
          rw [if_pos e]
        · show B - ((i : Int) + 1).toNat < B - (i : Int).toNat
          omega
      · have ek : nf f (B - s.free) s.free = i := by
          rw [← ei]
          cases B - i with
          | zero => rfl
          | succ q => show (if (f i).isSome = true then _ else i) = i; rw [e, if_neg (by decide)]
        rw [ek] at k
        unfold S14w
        simp only [r_seq, r_next, r_brk, r_cont, r_asg, r_name, r_ret, r_retN, r_drop, r_ifs, r_never, r_var, r_c, r_op, r_un, r_if, r_tst, r_b, r_not, r_and, r_or, r_andV, r_orV, r_notV, r_nil, r_cons, r_tup, r_lst, r_cb, r_call, r_bm, r_bm0, r_sl, r_nopart, r_part, r_rev, r_gnil, r_gcons, r_gsub, r_par, r_aug, r_chain, r_I0, r_I, r_U, r_ixd, r_lend, r_tupd, r_listd, r_sld, r_app, r_ext, r_reverse, r_setl, r_cat, r_int1, r_eqS, r_neS, scal_ii, scal_bb, scal_ss, at0, at1, at2, sq_lst, sq_tup, isLst_lst, List.getElem?_cons_zero, List.getElem?_cons_succ, List.set_cons_zero, List.set_cons_succ, V.int.injEq, V.bl.injEq, V.ref.injEq, V.str.injEq, HO.lst.injEq, HO.tup.injEq, Option.some.injEq, exists_eq_left', exists_eq_left, List.cons.injEq, and_true, true_and, decide_eq_true_eq, reduceCtorEq, false_and, exists_false, or_false, false_or, exists_const, and_assoc, exists_and_left, List.append_nil, ix0, ix1, ix2, cm_mod, cdw1009, cdw2003, cdw7, cdw64, cdw2, cm104729, cm2, cm3, upd_same, List.length_cons, List.length_nil, Int.reduceLT, Int.reduceLE, Nat.reduceAdd, Nat.reduceLeDiff, Nat.reduceLT, Int.reduceToNat, r_for1, r_forL, r_forT, r_lcL, r_lc1, r_yes, r_gtupD, wipe_0, wipe_1, List.cons_append, List.nil_append, r_forS, r_ipI, ite_false, ite_true, Bool.not_true, Bool.not_false, decide_true, decide_false, r_isd, r_islt, cD_ty, cD_ref, tD_non, tD_bl, tD_int, tD_str, tD_ref, tH_lst, tH_tup, tH_dK, tH_ins, ki_self, ki_int_bool, ki_non_int, ki_str_int, ki_lt_lst, ki_lt_tup, r_fld, r_sfld, HO.ins.injEq, cx_K, r_ixD]
        refine ⟨tyl eG, _, TD.ot _ c2, szl (by decide), fun p hp => ⟨_, by rw [upd_ne (ne_new eG hp)]; exact eG, szf, ?_⟩⟩
        obtain ⟨⟨rs1, e1, p1⟩, k1⟩ := rs4_app (y := ⟨oppos x.w, .int (i : Nat), x.l, x.h⟩) eG pG hp
        have e1 : L2.upd (L2.upd H1 p (.tup [.str (oppos x.w), .int (i : Nat), lnV x.l, x.h])) G (.lst (refs.map V.ref ++ [.ref p])) G = some (.lst (rs1.map V.ref)) := e1
        have p1 : Paired (fun r x_1 => L2.upd (L2.upd H1 p (.tup [.str (oppos x.w), .int (i : Nat), lnV x.l, x.h])) G (.lst (refs.map V.ref ++ [.ref p])) r = some (.tup (v4 x_1))) rs1 (s.o ++ [⟨oppos x.w, .int (i : Nat), x.l, x.h⟩]) := p1
        have k1 : ∀ b o, b ≠ G → H1 b = some o → L2.upd (L2.upd H1 p (.tup [.str (oppos x.w), .int (i : Nat), lnV x.l, x.h])) G (.lst (refs.map V.ref ++ [.ref p])) b = some o := k1
        generalize L2.upd (L2.upd H1 p (.tup [.str (oppos x.w), .int (i : Nat), lnV x.l, x.h])) G (.lst (refs.map V.ref ++ [.ref p])) = H2 at *
        have l1 := Paired.length p1
        rw [List.length_append, List.length_singleton] at l1
        have szf1 : (rs1.map V.ref).length < sizeLine := Nat.lt_of_le_of_lt (by rw [List.length_map]; omega : _ ≤ 200001) (by decide)
        refine ⟨tyl e1, szl (by decide), fun p hp => ⟨_, by rw [upd_ne (ne_new e1 hp)]; exact e1, szf1, ?_⟩⟩
        obtain ⟨⟨rs2, e2, p2⟩, k2⟩ := rs4_app (y := ⟨"JUMP_BACKWARD", x.a, x.l, x.h⟩) e1 p1 hp
        have e2 : L2.upd (L2.upd H2 p (.tup [.str "JUMP_BACKWARD", x.a, lnV x.l, x.h])) G (.lst (rs1.map V.ref ++ [.ref p])) G = some (.lst (rs2.map V.ref)) := e2
        have p2 : Paired (fun r x_1 => L2.upd (L2.upd H2 p (.tup [.str "JUMP_BACKWARD", x.a, lnV x.l, x.h])) G (.lst (rs1.map V.ref ++ [.ref p])) r = some (.tup (v4 x_1))) rs2 (s.o ++ [⟨oppos x.w, .int (i : Nat), x.l, x.h⟩] ++ [⟨"JUMP_BACKWARD", x.a, x.l, x.h⟩]) := p2
        have k2 : ∀ b o, b ≠ G → H2 b = some o → L2.upd (L2.upd H2 p (.tup [.str "JUMP_BACKWARD", x.a, lnV x.l, x.h])) G (.lst (rs1.map V.ref ++ [.ref p])) b = some o := k2
        generalize L2.upd (L2.upd H2 p (.tup [.str "JUMP_BACKWARD", x.a, lnV x.l, x.h])) G (.lst (rs1.map V.ref ++ [.ref p])) = H3 at *
        have l2 := Paired.length p2
        rw [List.length_append, List.length_append, List.length_singleton, List.length_singleton] at l2
        have szf2 : (rs2.map V.ref).length < sizeLine := Nat.lt_of_le_of_lt (by rw [List.length_map]; omega : _ ≤ 200002) (by decide)
        refine ⟨tyl e2, szl (by decide), fun p hp => ⟨_, by rw [upd_ne (ne_new e2 hp)]; exact e2, szf2, ?_⟩⟩
        obtain ⟨r3, k3⟩ := rs4_app (y := ⟨"LABEL", .int (i : Nat), none, .non⟩) e2 p2 hp
        refine k _ _ _ (fun b o nG e => k3 _ _ nG (k2 _ _ nG (k1 _ _ nG e))) ?_
        have ea : s.o ++ [⟨oppos x.w, .int (i : Nat), x.l, x.h⟩, ⟨"JUMP_BACKWARD", x.a, x.l, x.h⟩, ⟨"LABEL", .int (i : Nat), none, .non⟩] = s.o ++ [⟨oppos x.w, .int (i : Nat), x.l, x.h⟩] ++ [⟨"JUMP_BACKWARD", x.a, x.l, x.h⟩] ++ [(⟨"LABEL", .int (i : Nat), none, .non⟩ : R4)] := by simp
        show Rs4 _ G (s.o ++ [⟨oppos x.w, .int (i : Nat), x.l, x.h⟩, ⟨"JUMP_BACKWARD", x.a, x.l, x.h⟩, ⟨"LABEL", .int (i : Nat), none, .non⟩])
        rw [ea]
        exact r3
theorem b2_run {K : PySem.W.Frag} {w : World} {mg : Str → Option Value} {D1 D2 D3 : Addr} (TD : DirT K w mg D1 D2 D3) {D : Ends} {F Pa J G : Addr} {f : Int → Option Nat} {B d a free l : Nat} {fs xs : List R4} {x : R4} {v4' v5 v9 v10 v11 v12 v13 : Option V} {H : Hp} (ok : Ok4 x) (jl : jumping x.w = true → ∃ n m, x.a = .int n ∧ f n = some m) (hB : ∀ n : Nat, B ≤ n → f n = none) (hF : Rs4 H F xs) (hP : PlD H Pa f l) (hG : Rs4 H G fs) (hx : xs[a]? = some x) (hj : jumping x.w = true) (hd : d ≤ a) (lo : fs.length ≤ 100000) (lx : xs.length ≤ 60000) (n1 : F ≠ G) (n2 : Pa ≠ G)
    (k : ∀ H' v5 v9 v10 v11 v12 v13, (∀ b o, b ≠ G → H b = some o → H' b = some o) → Rs4 H' G (drStep f B ⟨fs ++ (xs.drop d).take (a - d), free, a⟩ x).o → D.nx [some (.ref F), some (.ref Pa), some (.ref J), some (.int (a : Nat)), v4', v5, some (.ref G), some (.int ((a + 1 : Nat) : Int)), some (.int ((drStep f B ⟨fs ++ (xs.drop d).take (a - d), free, a⟩ x).free : Nat)), v9, v10, v11, v12, v13] H') :
    t_b2 K w D1 D2 D3 D [some (.ref F), some (.ref Pa), some (.ref J), some (.int (a : Nat)), v4', v5, some (.ref G), some (.int (d : Nat)), some (.int (free : Nat)), v9, v10, v11, v12, v13] H := by
  unfold t_b2
  simp only [r_seq, r_next, r_brk, r_cont, r_asg, r_name, r_ret, r_retN, r_drop, r_ifs, r_never, r_var, r_c, r_op, r_un, r_if, r_tst, r_b, r_not, r_and, r_or, r_andV, r_orV, r_notV, r_nil, r_cons, r_tup, r_lst, r_cb, r_call, r_bm, r_bm0, r_sl, r_nopart, r_part, r_rev, r_gnil, r_gcons, r_gsub, r_par, r_aug, r_chain, r_I0, r_I, r_U, r_ixd, r_lend, r_tupd, r_listd, r_sld, r_app, r_ext, r_reverse, r_setl, r_cat, r_int1, r_eqS, r_neS, scal_ii, scal_bb, scal_ss, at0, at1, at2, sq_lst, sq_tup, isLst_lst, List.getElem?_cons_zero, List.getElem?_cons_succ, List.set_cons_zero, List.set_cons_succ, V.int.injEq, V.bl.injEq, V.ref.injEq, V.str.injEq, HO.lst.injEq, HO.tup.injEq, Option.some.injEq, exists_eq_left', exists_eq_left, List.cons.injEq, and_true, true_and, decide_eq_true_eq, reduceCtorEq, false_and, exists_false, or_false, false_or, exists_const, and_assoc, exists_and_left, List.append_nil, ix0, ix1, ix2, cm_mod, cdw1009, cdw2003, cdw7, cdw64, cdw2, cm104729, cm2, cm3, upd_same, List.length_cons, List.length_nil, Int.reduceLT, Int.reduceLE, Nat.reduceAdd, Nat.reduceLeDiff, Nat.reduceLT, Int.reduceToNat, r_for1, r_forL, r_forT, r_lcL, r_lc1, r_yes, r_gtupD, wipe_0, wipe_1, List.cons_append, List.nil_append, r_forS, r_ipI, ite_false, ite_true, Bool.not_true, Bool.not_false, decide_true, decide_false, r_isd, r_islt, cD_ty, cD_ref, tD_non, tD_bl, tD_int, tD_str, tD_ref, tH_lst, tH_tup, tH_dK, tH_ins, ki_self, ki_int_bool, ki_non_int, ki_str_int, ki_lt_lst, ki_lt_tup, r_fld, r_sfld, HO.ins.injEq, cx_K, r_dget, r_ixD]
  obtain ⟨refs, eF, pF⟩ := id hF
  obtain ⟨rg, eG, pG⟩ := hG
  have lp := Paired.length pF
  have lg := Paired.length pG
  obtain ⟨hi, ex⟩ := List.getElem?_eq_some_iff.mp hx
  have hi' : a < refs.length := by omega
  have hrt := Paired.at' pF hi' hi
  rw [ex] at hrt
  have ec : cutV (refs.map V.ref) (some (d : Int)) (some (a : Int)) = ((refs.drop d).take (a - d)).map V.ref := by rw [cut_mid (by rw [List.length_map]; omega) hd, List.map_take, List.map_drop]
  refine ⟨_, by rw [eF]; rfl, V.ref refs[a], atI_nat (by rw [List.getElem?_map, List.getElem?_eq_getElem hi']; rfl), _, rfl, _, hrt, rfl, _, _, rfl, _, _, rfl, _, _, rfl, _, _, rfl, rfl, tyl eG, _, eF, fun p hp => ?_⟩
  rw [ec]
  have s1 : Same H (L2.upd H p (.lst (((refs.drop d).take (a - d)).map V.ref))) := Same.new' (Same.refl H) hp
  have pM := Paired.take' (a - d) (Paired.drop' d pF)
  have lm := Paired.length pM
  rw [List.length_take, List.length_drop] at lm
  obtain ⟨r1, k1⟩ := rs4_ext (H := L2.upd H p (.lst (((refs.drop d).take (a - d)).map V.ref))) (Paired.map' pG fun r x e => s1 _ _ e) (s1 _ _ eG) (Paired.map' pM fun r x e => s1 _ _ e)
  refine ⟨_, s1 _ _ eG, Nat.le_trans (by rw [List.length_map, List.length_map, List.length_take, List.length_drop]; omega : _ ≤ 200000) (by decide), ?_⟩
  generalize L2.upd (L2.upd H p (.lst (((refs.drop d).take (a - d)).map V.ref))) G (.lst (rg.map V.ref ++ ((refs.drop d).take (a - d)).map V.ref)) = H2 at *
  have kk : ∀ b o, b ≠ G → H b = some o → H2 b = some o := fun b o nb e => k1 _ _ nb (s1 _ _ e)
  have hF2 : Rs4 H2 F xs := ⟨refs, kk _ _ n1 eF, Paired.map' pF fun r x e => kk _ _ (fun z => by rw [z, eG] at e; cases e) e⟩
  have hP2 : PlD H2 Pa f l := hP.imp (by obtain ⟨kv, e, _⟩ := hP; rw [kk _ _ n2 e, e])
  exact b3_run TD (s := ⟨fs ++ (xs.drop d).take (a - d), free, a⟩) ok jl hB hF2 hP2 r1 hx hj rfl (by rw [List.length_append, List.length_take, List.length_drop]; omega) fun H' v12 v13 q1 q2 => k H' _ _ _ _ _ _ (fun b o nb e => q1 _ _ nb (kk _ _ nb e)) q2
def LvA (F Pa J : Addr) (xs : List R4) (H0 : Hp) (i : Nat) (σ : L2.St) (H : Hp) : Prop := ∃ v3 v4 v5, σ = [some (.ref F), some (.ref Pa), some (.ref J), v3, v4, v5, none, none, none, none, none, none, none, none] ∧ (∀ b o, b ≠ Pa → b ≠ J → H0 b = some o → H b = some o) ∧ PlD H Pa (plTo (xs.take i)).f i ∧ H J = some (.lst (jsV xs i))
def LvB (F Pa J G : Addr) (xs : List R4) (f : Int → Option Nat) (B : Nat) (H1 : Hp) (j : Nat) (σ : L2.St) (H : Hp) : Prop := ∃ d v3 v4 v5 v9 v10 v11 v12 v13, σ = [some (.ref F), some (.ref Pa), some (.ref J), v3, v4, v5, some (.ref G), some (.int (d : Nat)), some (.int ((drTo f B (xs.take d)).free : Nat)), v9, v10, v11, v12, v13] ∧ d ≤ xs.length ∧ ((List.range' 0 xs.length).filter (isJ xs)).drop j = (List.range' d (xs.length - d)).filter (isJ xs) ∧ (∀ b o, b ≠ G → H1 b = some o → H b = some o) ∧ Rs4 H G (drTo f B (xs.take d)).o
def spWD : Sp := fun vs H Q _ => ∃ (F : Addr) (xs : List R4) (B : Nat), vs = [.ref F] ∧ Rs4 H F xs ∧ (∀ x ∈ xs, Ok4 x) ∧ (∀ x ∈ xs, jumping x.w = true → ∃ n m, x.a = .int n ∧ (plTo xs).f n = some m) ∧ (∀ n : Nat, B ≤ n → (plTo xs).f n = none) ∧ xs.length ≤ 30000 ∧ ∀ D H', Same H H' → H D = none → Rs4 H' D (drTo (plTo xs).f B xs).o → Q (.ref D) H'
section
variable {P : Program} {w : World} {K : PySem.W.Frag} {mg : Str → Option Value} {base : Heap} {f : Addr} {fd : FuncData}
abbrev swd : Stmt := top 83
theorem scwd : FnScope ["rows", "places", "jumps", "at", "row", "word", "found", "done", "free", "label", "line", "handler", "forward", "backward"] ["rows"] (defScope swd) := ⟨rfl, rfl, rfl, by decide +kernel, rfl, by decide +kernel, by decide +kernel⟩

theorem ok_wd (T : Txt mg) {D1 D2 D3 : Addr} (TD : DirT K w mg D1 D2 D3) (F : FnP K "with_directions" "with_directions" swd f fd) : FnOk P w K mg base CX0 1 f fd ["rows"] spWD := by
  refine F.ok scwd (fun vs H Q E h => ?_) (fun cdv A outer s H vs Q E hr h => ?_)
  · obtain ⟨F, xs, B, rfl, _⟩ := h
    rfl
  · have hu1 := hu_of hr
    refine ⟨t_wd K w D1 D2 D3, PSs.nox (show PSs _ _ (t_wd K w D1 D2 D3) from (pss_cons (ps_set (i := 1) scwd.nd rfl (Or.inl rfl) pe_dnewK)
  (pss_cons (ps_set (i := 2) scwd.nd rfl (Or.inl rfl) (pe_lst pa_nil))
  (pss_cons (ps_for PassesOwn.never rfl (pi_enumS (by rfl) T.b_enumerate (pa_cons (pv 0) pa_nil)) (pg_tupD (n := 2) rfl (pgs_cons (pg_name (i := 3) scwd.nd rfl (Or.inl rfl)) (pgs_cons (pg_name (i := 4) scwd.nd rfl (Or.inl rfl)) pgs_nil)))
    (pss_cons (ps_set (i := 5) scwd.nd rfl (Or.inl rfl) (pe_ix ix_d (pv 4) pe_int (fun _ _ => rfl)))
  (pss_one (ps_if (pt_cmpR (op_inTK K w rfl rfl TD.tt.kd) (pv 5) (pe_glob (v := .ref _) rfl TD.tt.g rfl) (by rfl))
    (pss_one (ps_if (pt_cmpR op_eq (pv 5) pe_str (nomark _))
    (pss_one (ps_dput hu1 (pv 1) (pe_ix ix_d (pv 4) pe_int (fun _ _ => rfl)) (pv 3) rfl))
    (pss_one (ps_if (PW.pt (pw_or (pt_cmpR (op_inTK K w rfl rfl TD.td.kd) (pv 5) (pe_glob (v := .ref _) rfl TD.td.g rfl) (by rfl)) (pw_or1 (pt_cmpR (op_inTK K w rfl rfl TD.tt3.kd) (pv 5) (pe_glob (v := .ref _) rfl TD.tt3.g rfl) (by rfl)))))
    (pss_one (ps_expr (pe_bm PySem.F.plainAttrs_list PySem.F.slot_list_append PySem.F.type_list_append mt_append (pv 2) (pa_cons (pv 3) pa_nil))))
    pss_nil))))
    pss_nil))))
  (pss_cons (ps_set (i := 6) scwd.nd rfl (Or.inl rfl) (pe_lst pa_nil))
  (pss_cons (ps_set (i := 7) scwd.nd rfl (Or.inl rfl) pe_int)
  (pss_cons (ps_set (i := 8) scwd.nd rfl (Or.inl rfl) pe_int)
  (pss_cons (ps_for PassesOwn.never rfl (pi_list (pv 2)) (pg_name (i := 3) scwd.nd rfl (Or.inl rfl))
    (pss_cons (ps_asg (pe_ix ix_d (pv 0) (pv 3) (fun _ _ => rfl)) (pg_tupD (n := 4) rfl (pgs_cons (pg_name (i := 5) scwd.nd rfl (Or.inl rfl)) (pgs_cons (pg_name (i := 9) scwd.nd rfl (Or.inl rfl)) (pgs_cons (pg_name (i := 10) scwd.nd rfl (Or.inl rfl)) (pgs_cons (pg_name (i := 11) scwd.nd rfl (Or.inl rfl)) pgs_nil))))))
  (pss_cons (ps_expr (pe_bm PySem.F.plainAttrs_list PySem.F.slot_list_extend PySem.F.type_list_extend mt_extend (pv 6) (pa_cons (pe_slice sl_d (pv 0) (po_some (pv 7)) (po_some (pv 3))) pa_nil)))
  (pss_cons (ps_set (i := 7) scwd.nd rfl (Or.inl rfl) (pe_op op_add (pv 3) pe_int))
  (pss_one (ps_if (pt_cmpR (op_inTK K w rfl rfl TD.td.kd) (pv 5) (pe_glob (v := .ref _) rfl TD.td.g rfl) (by rfl))
    (pss_cons (ps_asg (pe_ix ix_kdict (pe_glob (v := .ref _) rfl TD.td.g rfl) (pv 5) (fun _ _ => rfl)) (pg_tup (n := 2) rfl (pgs_cons (pg_name (i := 12) scwd.nd rfl (Or.inl rfl)) (pgs_cons (pg_name (i := 13) scwd.nd rfl (Or.inl rfl)) pgs_nil))))
  (pss_one (ps_expr (pe_bm PySem.F.plainAttrs_list PySem.F.slot_list_append PySem.F.type_list_append mt_append (pv 6) (pa_cons (pe_tup (pa_cons (pe_ifExp (pt_cmpR op_gt (pe_dget hu1 (pv 1) (pv 9) (fun _ _ => rfl)) (pv 3) (nomark _)) (pv 12) (pv 13)) (pa_cons (pv 9) (pa_cons (pv 10) (pa_cons (pv 11) pa_nil))))) pa_nil)))))
    (pss_one (ps_if (pt_cmpR op_gt (pe_dget hu1 (pv 1) (pv 9) (fun _ _ => rfl)) (pv 3) (nomark _))
    (pss_one (ps_expr (pe_bm PySem.F.plainAttrs_list PySem.F.slot_list_append PySem.F.type_list_append mt_append (pv 6) (pa_cons (pe_ix ix_d (pv 0) (pv 3) (fun _ _ => rfl)) pa_nil))))
    (pss_cons (ps_while PassesOwn.never (pt_cmp (pc_din hu1 (pv 8) (pv 1)))
    (pss_one (ps_aug (i := 8) scwd.nd rfl (.inl rfl) pe_int ip_add)))
  (pss_cons (ps_expr (pe_bm PySem.F.plainAttrs_list PySem.F.slot_list_append PySem.F.type_list_append mt_append (pv 6) (pa_cons (pe_tup (pa_cons (pe_ix ix_kdict (pe_glob (v := .ref _) rfl TD.tt3.g rfl) (pv 5) (fun _ _ => rfl)) (pa_cons (pv 8) (pa_cons (pv 10) (pa_cons (pv 11) pa_nil))))) pa_nil)))
  (pss_cons (ps_expr (pe_bm PySem.F.plainAttrs_list PySem.F.slot_list_append PySem.F.type_list_append mt_append (pv 6) (pa_cons (pe_tup (pa_cons pe_str (pa_cons (pv 9) (pa_cons (pv 10) (pa_cons (pv 11) pa_nil))))) pa_nil)))
  (pss_cons (ps_expr (pe_bm PySem.F.plainAttrs_list PySem.F.slot_list_append PySem.F.type_list_append mt_append (pv 6) (pa_cons (pe_tup (pa_cons pe_str (pa_cons (pv 8) (pa_cons pe_non (pa_cons pe_non pa_nil))))) pa_nil)))
  (pss_one (ps_aug (i := 8) scwd.nd rfl (.inl rfl) pe_int ip_add))))))))))))))
  (pss_one (ps_ret (pe_op op_cat (pv 6) (pe_slice sl_d (pv 0) (po_some (pv 7)) po_none)))))))))))), ?_⟩
    obtain ⟨F, xs, B, rfl, hF, ok, jl, hB, hl, k⟩ := h
    show (_ : TS) _ [some (.ref F), none, none, none, none, none, none, none, none, none, none, none, none, none] H
    unfold t_wd
    simp only [r_seq, r_next, r_brk, r_cont, r_asg, r_name, r_ret, r_retN, r_drop, r_ifs, r_never, r_var, r_c, r_op, r_un, r_if, r_tst, r_b, r_not, r_and, r_or, r_andV, r_orV, r_notV, r_nil, r_cons, r_tup, r_lst, r_cb, r_call, r_bm, r_bm0, r_sl, r_nopart, r_part, r_rev, r_gnil, r_gcons, r_gsub, r_par, r_aug, r_chain, r_I0, r_I, r_U, r_ixd, r_lend, r_tupd, r_listd, r_sld, r_app, r_ext, r_reverse, r_setl, r_cat, r_int1, r_eqS, r_neS, scal_ii, scal_bb, scal_ss, at0, at1, at2, sq_lst, sq_tup, isLst_lst, List.getElem?_cons_zero, List.getElem?_cons_succ, List.set_cons_zero, List.set_cons_succ, V.int.injEq, V.bl.injEq, V.ref.injEq, V.str.injEq, HO.lst.injEq, HO.tup.injEq, Option.some.injEq, exists_eq_left', exists_eq_left, List.cons.injEq, and_true, true_and, decide_eq_true_eq, reduceCtorEq, false_and, exists_false, or_false, false_or, exists_const, and_assoc, exists_and_left, List.append_nil, ix0, ix1, ix2, cm_mod, cdw1009, cdw2003, cdw7, cdw64, cdw2, cm104729, cm2, cm3, upd_same, List.length_cons, List.length_nil, Int.reduceLT, Int.reduceLE, Nat.reduceAdd, Nat.reduceLeDiff, Nat.reduceLT, Int.reduceToNat, r_for1, r_forL, r_forT, r_lcL, r_lc1, r_yes, r_gtupD, wipe_0, wipe_1, List.cons_append, List.nil_append, r_forS, r_ipI, ite_false, ite_true, Bool.not_true, Bool.not_false, decide_true, decide_false, r_isd, r_islt, cD_ty, cD_ref, tD_non, tD_bl, tD_int, tD_str, tD_ref, tH_lst, tH_tup, tH_dK, tH_ins, ki_self, ki_int_bool, ki_non_int, ki_str_int, ki_lt_lst, ki_lt_tup, r_fld, r_sfld, HO.ins.injEq, cx_K, r_dnew, r_forE]
    intro Pa hPa
    refine ⟨Nat.zero_le _, fun J hJ => ?_⟩
    have s1 : Same H (L2.upd (L2.upd H Pa (.dK [])) J (.lst [])) := Same.new' (Same.new' (Same.refl H) hPa) hJ
    have eP0 : L2.upd (L2.upd H Pa (.dK [])) J (.lst []) Pa = some (.dK []) := by rw [upd_ne (ne_new upd_same hJ)]; exact upd_same
    have eJ0 : L2.upd (L2.upd H Pa (.dK [])) J (.lst []) J = some (.lst []) := upd_same
    have PJ : Pa ≠ J := ne_new (upd_same (H := H) (a := Pa) (o := .dK [])) hJ
    have nJ : ∀ b o, H b = some o → b ≠ J := fun b o e => by
      have e2 : L2.upd H Pa (.dK []) b = some o := by rw [upd_ne (ne_new e hPa)]; exact e
      exact ne_new e2 hJ
    generalize L2.upd (L2.upd H Pa (.dK [])) J (.lst []) = H1 at *
    obtain ⟨refs, eF, pF⟩ := id hF
    have lp := Paired.length pF
    have eF1 := s1 _ _ eF
    have FP : F ≠ Pa := ne_new eF hPa
    have FJ : F ≠ J := nJ _ _ eF
    have base1 : ∀ {H2 : Hp}, (∀ b o, b ≠ Pa → b ≠ J → H1 b = some o → H2 b = some o) → Same H H2 := fun q b o e => q _ _ (ne_new e hPa) (nJ _ _ e) (s1 _ _ e)
    refine lp_enum (xs := refs.map V.ref) (by rw [eF1]; rfl) (LvA F Pa J xs H1) ⟨none, none, none, rfl, fun _ _ _ _ e => e, ⟨[], eP0, Nat.le_refl _, fun n => rfl⟩, eJ0⟩ (fun i σ H' ⟨_, _, _, _, q, _⟩ => by rw [eF1]; exact q _ _ FP FJ eF1) ?_ ?_
    · rintro i y σ H2 hy ⟨u3, u4, u5, rfl, k2, hP2, hJ2⟩ T0 hT0
      rw [List.getElem?_map] at hy
      obtain ⟨r, hr1, rfl⟩ := Option.map_eq_some_iff.mp hy
      obtain ⟨hi0, e0⟩ := List.getElem?_eq_some_iff.mp hr1
      have hi' : i < xs.length := by rw [← lp]; exact hi0
      have hrt := Paired.at' pF hi0 hi'
      rw [e0] at hrt
      have hx : xs[i]? = some xs[i] := List.getElem?_eq_getElem hi'
      have okx := ok _ (List.getElem_mem hi')
      have pn := pl_n xs i (Nat.le_of_lt hi')
      have ps := pl_snoc hx
      have S2 := base1 k2
      have k3 : ∀ b o, H2 b = some o → L2.upd H2 T0 (.tup [.int (i : Nat), .ref r]) b = some o := fun b o e => by rw [upd_ne (ne_new e hT0)]; exact e
      have eT : L2.upd H2 T0 (.tup [.int (i : Nat), .ref r]) T0 = some (.tup [.int (i : Nat), .ref r]) := upd_same
      generalize L2.upd H2 T0 (.tup [.int (i : Nat), .ref r]) = H3 at *
      have er := k3 _ _ (S2 _ _ hrt)
      have hP3 : PlD H3 Pa (plTo (xs.take i)).f i := hP2.imp (by obtain ⟨kv, e, _⟩ := hP2; rw [k3 _ _ e, e])
      generalize xs[i] = x at *
      simp only [r_seq, r_next, r_brk, r_cont, r_asg, r_name, r_ret, r_retN, r_drop, r_ifs, r_never, r_var, r_c, r_op, r_un, r_if, r_tst, r_b, r_not, r_and, r_or, r_andV, r_orV, r_notV, r_nil, r_cons, r_tup, r_lst, r_cb, r_call, r_bm, r_bm0, r_sl, r_nopart, r_part, r_rev, r_gnil, r_gcons, r_gsub, r_par, r_aug, r_chain, r_I0, r_I, r_U, r_ixd, r_lend, r_tupd, r_listd, r_sld, r_app, r_ext, r_reverse, r_setl, r_cat, r_int1, r_eqS, r_neS, scal_ii, scal_bb, scal_ss, at0, at1, at2, sq_lst, sq_tup, isLst_lst, List.getElem?_cons_zero, List.getElem?_cons_succ, List.set_cons_zero, List.set_cons_succ, V.int.injEq, V.bl.injEq, V.ref.injEq, V.str.injEq, HO.lst.injEq, HO.tup.injEq, Option.some.injEq, exists_eq_left', exists_eq_left, List.cons.injEq, and_true, true_and, decide_eq_true_eq, reduceCtorEq, false_and, exists_false, or_false, false_or, exists_const, and_assoc, exists_and_left, List.append_nil, ix0, ix1, ix2, cm_mod, cdw1009, cdw2003, cdw7, cdw64, cdw2, cm104729, cm2, cm3, upd_same, List.length_cons, List.length_nil, Int.reduceLT, Int.reduceLE, Nat.reduceAdd, Nat.reduceLeDiff, Nat.reduceLT, Int.reduceToNat, r_for1, r_forL, r_forT, r_lcL, r_lc1, r_yes, r_gtupD, wipe_0, wipe_1, List.cons_append, List.nil_append, r_forS, r_ipI, ite_false, ite_true, Bool.not_true, Bool.not_false, decide_true, decide_false, r_isd, r_islt, cD_ty, cD_ref, tD_non, tD_bl, tD_int, tD_str, tD_ref, tH_lst, tH_tup, tH_dK, tH_ins, ki_self, ki_int_bool, ki_non_int, ki_str_int, ki_lt_lst, ki_lt_tup, r_fld, r_sfld, HO.ins.injEq, cx_K, eT]
      refine b1_run TD okx er hP3 (k3 _ _ hJ2) hx pn (by omega) (by omega) PJ fun H4 v5 k4 hP4 hJ4 => ⟨_, _, _, rfl, fun b o nP nJ e => k4 _ _ nP nJ (k3 _ _ (k2 _ _ nP nJ e)), ?_, hJ4⟩
      rw [ps]
      exact hP4
    · rintro σ H2 ⟨u3, u4, u5, rfl, k2, hP2, hJ2⟩
      rw [List.length_map, lp] at hP2 hJ2
      rw [List.take_length] at hP2
      have S2 := base1 k2
      simp only [r_seq, r_next, r_brk, r_cont, r_asg, r_name, r_ret, r_retN, r_drop, r_ifs, r_never, r_var, r_c, r_op, r_un, r_if, r_tst, r_b, r_not, r_and, r_or, r_andV, r_orV, r_notV, r_nil, r_cons, r_tup, r_lst, r_cb, r_call, r_bm, r_bm0, r_sl, r_nopart, r_part, r_rev, r_gnil, r_gcons, r_gsub, r_par, r_aug, r_chain, r_I0, r_I, r_U, r_ixd, r_lend, r_tupd, r_listd, r_sld, r_app, r_ext, r_reverse, r_setl, r_cat, r_int1, r_eqS, r_neS, scal_ii, scal_bb, scal_ss, at0, at1, at2, sq_lst, sq_tup, isLst_lst, List.getElem?_cons_zero, List.getElem?_cons_succ, List.set_cons_zero, List.set_cons_succ, V.int.injEq, V.bl.injEq, V.ref.injEq, V.str.injEq, HO.lst.injEq, HO.tup.injEq, Option.some.injEq, exists_eq_left', exists_eq_left, List.cons.injEq, and_true, true_and, decide_eq_true_eq, reduceCtorEq, false_and, exists_false, or_false, false_or, exists_const, and_assoc, exists_and_left, List.append_nil, ix0, ix1, ix2, cm_mod, cdw1009, cdw2003, cdw7, cdw64, cdw2, cm104729, cm2, cm3, upd_same, List.length_cons, List.length_nil, Int.reduceLT, Int.reduceLE, Nat.reduceAdd, Nat.reduceLeDiff, Nat.reduceLT, Int.reduceToNat, r_for1, r_forL, r_forT, r_lcL, r_lc1, r_yes, r_gtupD, wipe_0, wipe_1, List.cons_append, List.nil_append, r_forS, r_ipI, ite_false, ite_true, Bool.not_true, Bool.not_false, decide_true, decide_false, r_isd, r_islt, cD_ty, cD_ref, tD_non, tD_bl, tD_int, tD_str, tD_ref, tH_lst, tH_tup, tH_dK, tH_ins, ki_self, ki_int_bool, ki_non_int, ki_str_int, ki_lt_lst, ki_lt_tup, r_fld, r_sfld, HO.ins.injEq, cx_K]
      refine ⟨Nat.zero_le _, fun G hG => ?_⟩
      have k3 : ∀ b o, H2 b = some o → L2.upd H2 G (.lst []) b = some o := fun b o e => by rw [upd_ne (ne_new e hG)]; exact e
      have eG : L2.upd H2 G (.lst []) G = some (.lst []) := upd_same
      have FG : F ≠ G := ne_new (S2 _ _ eF) hG
      have PG : Pa ≠ G := by obtain ⟨kv, e, _⟩ := hP2; exact ne_new e hG
      have JG : J ≠ G := ne_new hJ2 hG
      have GH : ∀ b o, H b = some o → b ≠ G := fun b o e => ne_new (S2 _ _ e) hG
      generalize L2.upd H2 G (.lst []) = H3 at *
      have hP3 : PlD H3 Pa (plTo xs).f xs.length := hP2.imp (by obtain ⟨kv, e, _⟩ := hP2; rw [k3 _ _ e, e])
      have hJ3 := k3 _ _ hJ2
      have S3 : Same H H3 := fun b o e => k3 _ _ (S2 _ _ e)
      have hB0 : Rs4 H3 G (drTo (plTo xs).f B (xs.take 0)).o := ⟨[], eG, .nil⟩
      refine ⟨⟨_, SqL.of hJ3⟩, lp_list (xs := jsV xs xs.length) (LvB F Pa J G xs (plTo xs).f B H3) ⟨0, u3, u4, u5, none, none, none, none, none, rfl, Nat.zero_le _, rfl, fun _ _ _ e => e, hB0⟩ (fun i σ H' _ ⟨_, _, _, _, _, _, _, _, _, _, _, _, q, _⟩ => SqL.of (q _ _ JG hJ3)) ?_ ?_⟩
      · rintro j y σ H4 hy ⟨d, w3, w4, w5, w9, w10, w11, w12, w13, rfl, hd, hdr, k4, hG4⟩
        unfold jsV at hy
        rw [List.getElem?_map] at hy
        obtain ⟨a, ha, rfl⟩ := Option.map_eq_some_iff.mp hy
        obtain ⟨hja, hae⟩ := List.getElem?_eq_some_iff.mp ha
        have dj := List.drop_eq_getElem_cons hja
        rw [hae, hdr] at dj
        obtain ⟨q1, q2, q3, q4, q5⟩ := filt_head _ _ _ _ _ dj
        have an : a < xs.length := by omega
        have hx : xs[a]? = some xs[a] := List.getElem?_eq_getElem an
        have hja : jumping xs[a].w = true := by
          unfold isJ at q3
          rw [hx] at q3
          exact q3
        have okx := ok _ (List.getElem_mem an)
        have jlx := jl _ (List.getElem_mem an)
        have ds := dr_snoc (f := (plTo xs).f) (B := B) hx
        have sg := dr_seg (plTo xs).f B xs d (a - d) (by omega) fun k h1 h2 => q4 k h1 (by omega)
        rw [show d + (a - d) = a by omega] at sg
        rw [sg] at ds
        have dl := dr_len (plTo xs).f B xs d hd
        have hF4 : Rs4 H4 F xs := ⟨refs, k4 _ _ FG (S3 _ _ eF), Paired.map' pF fun r x e => k4 _ _ (GH _ _ e) (S3 _ _ e)⟩
        have hP4 : PlD H4 Pa (plTo xs).f xs.length := hP3.imp (by obtain ⟨kv, e, _⟩ := hP3; rw [k4 _ _ PG e, e])
        generalize xs[a] = x at *
        simp only [r_seq, r_next, r_brk, r_cont, r_asg, r_name, r_ret, r_retN, r_drop, r_ifs, r_never, r_var, r_c, r_op, r_un, r_if, r_tst, r_b, r_not, r_and, r_or, r_andV, r_orV, r_notV, r_nil, r_cons, r_tup, r_lst, r_cb, r_call, r_bm, r_bm0, r_sl, r_nopart, r_part, r_rev, r_gnil, r_gcons, r_gsub, r_par, r_aug, r_chain, r_I0, r_I, r_U, r_ixd, r_lend, r_tupd, r_listd, r_sld, r_app, r_ext, r_reverse, r_setl, r_cat, r_int1, r_eqS, r_neS, scal_ii, scal_bb, scal_ss, at0, at1, at2, sq_lst, sq_tup, isLst_lst, List.getElem?_cons_zero, List.getElem?_cons_succ, List.set_cons_zero, List.set_cons_succ, V.int.injEq, V.bl.injEq, V.ref.injEq, V.str.injEq, HO.lst.injEq, HO.tup.injEq, Option.some.injEq, exists_eq_left', exists_eq_left, List.cons.injEq, and_true, true_and, decide_eq_true_eq, reduceCtorEq, false_and, exists_false, or_false, false_or, exists_const, and_assoc, exists_and_left, List.append_nil, ix0, ix1, ix2, cm_mod, cdw1009, cdw2003, cdw7, cdw64, cdw2, cm104729, cm2, cm3, upd_same, List.length_cons, List.length_nil, Int.reduceLT, Int.reduceLE, Nat.reduceAdd, Nat.reduceLeDiff, Nat.reduceLT, Int.reduceToNat, r_for1, r_forL, r_forT, r_lcL, r_lc1, r_yes, r_gtupD, wipe_0, wipe_1, List.cons_append, List.nil_append, r_forS, r_ipI, ite_false, ite_true, Bool.not_true, Bool.not_false, decide_true, decide_false, r_isd, r_islt, cD_ty, cD_ref, tD_non, tD_bl, tD_int, tD_str, tD_ref, tH_lst, tH_tup, tH_dK, tH_ins, ki_self, ki_int_bool, ki_non_int, ki_str_int, ki_lt_lst, ki_lt_tup, r_fld, r_sfld, HO.ins.injEq, cx_K]
        refine b2_run TD okx jlx hB hF4 hP4 hG4 hx hja q1 (by have := dl.o; omega) (by omega) FG PG fun H5 v5 v9 v10 v11 v12 v13 k5 hG5 => ⟨a + 1, some (.int (a : Nat)), w4, v5, v9, v10, v11, v12, v13, ?_, by omega, ?_, fun b o nb e => k5 _ _ nb (k4 _ _ nb e), ?_⟩
        · rw [ds]
        · rw [q5, show d + (xs.length - d) - (a + 1) = xs.length - (a + 1) by omega]
        · rw [ds]
          exact hG5
      · rintro σ H4 ⟨d, w3, w4, w5, w9, w10, w11, w12, w13, rfl, hd, hdr, k4, hG4⟩
        have lj : (jsV xs xs.length).length = ((List.range' 0 xs.length).filter (isJ xs)).length := by unfold jsV; rw [List.length_map]
        rw [lj, List.drop_length] at hdr
        have q4 := filt_nil _ _ _ hdr.symm
        have sg := dr_seg (plTo xs).f B xs d (xs.length - d) (by omega) fun k h1 h2 => q4 k h1 (by omega)
        rw [show d + (xs.length - d) = xs.length by omega, List.take_length] at sg
        have dl := dr_len (plTo xs).f B xs d hd
        simp only [r_seq, r_next, r_brk, r_cont, r_asg, r_name, r_ret, r_retN, r_drop, r_ifs, r_never, r_var, r_c, r_op, r_un, r_if, r_tst, r_b, r_not, r_and, r_or, r_andV, r_orV, r_notV, r_nil, r_cons, r_tup, r_lst, r_cb, r_call, r_bm, r_bm0, r_sl, r_nopart, r_part, r_rev, r_gnil, r_gcons, r_gsub, r_par, r_aug, r_chain, r_I0, r_I, r_U, r_ixd, r_lend, r_tupd, r_listd, r_sld, r_app, r_ext, r_reverse, r_setl, r_cat, r_int1, r_eqS, r_neS, scal_ii, scal_bb, scal_ss, at0, at1, at2, sq_lst, sq_tup, isLst_lst, List.getElem?_cons_zero, List.getElem?_cons_succ, List.set_cons_zero, List.set_cons_succ, V.int.injEq, V.bl.injEq, V.ref.injEq, V.str.injEq, HO.lst.injEq, HO.tup.injEq, Option.some.injEq, exists_eq_left', exists_eq_left, List.cons.injEq, and_true, true_and, decide_eq_true_eq, reduceCtorEq, false_and, exists_false, or_false, false_or, exists_const, and_assoc, exists_and_left, List.append_nil, ix0, ix1, ix2, cm_mod, cdw1009, cdw2003, cdw7, cdw64, cdw2, cm104729, cm2, cm3, upd_same, List.length_cons, List.length_nil, Int.reduceLT, Int.reduceLE, Nat.reduceAdd, Nat.reduceLeDiff, Nat.reduceLT, Int.reduceToNat, r_for1, r_forL, r_forT, r_lcL, r_lc1, r_yes, r_gtupD, wipe_0, wipe_1, List.cons_append, List.nil_append, r_forS, r_ipI, ite_false, ite_true, Bool.not_true, Bool.not_false, decide_true, decide_false, r_isd, r_islt, cD_ty, cD_ref, tD_non, tD_bl, tD_int, tD_str, tD_ref, tH_lst, tH_tup, tH_dK, tH_ins, ki_self, ki_int_bool, ki_non_int, ki_str_int, ki_lt_lst, ki_lt_tup, r_fld, r_sfld, HO.ins.injEq, cx_K]
        have ec : cutV (refs.map V.ref) (some (d : Int)) none = (refs.drop d).map V.ref := by rw [cut_from (by rw [List.length_map]; omega), List.map_drop]
        refine ⟨_, k4 _ _ FG (S3 _ _ eF), fun p hp => ?_⟩
        rw [ec]
        obtain ⟨rg, eG4, pG4⟩ := hG4
        have lg := Paired.length pG4
        have pD := Paired.drop' d pF
        have ld := Paired.length pD
        have k5 : ∀ b o, H4 b = some o → L2.upd H4 p (.lst ((refs.drop d).map V.ref)) b = some o := fun b o e => by rw [upd_ne (ne_new e hp)]; exact e
        generalize L2.upd H4 p (.lst ((refs.drop d).map V.ref)) = H5 at *
        refine ⟨_, k5 _ _ eG4, Nat.le_trans (by rw [List.length_map, List.length_map, ld, List.length_drop]; have := dl.o; omega : _ ≤ 200000) (by decide), fun p1 hp1 => ?_⟩
        have S5 : Same H (L2.upd H5 p1 (.lst (rg.map V.ref ++ (refs.drop d).map V.ref))) := fun b o e => by
          have e5 := k5 _ _ (k4 _ _ (GH _ _ e) (S3 _ _ e))
          rw [upd_ne (ne_new e5 hp1)]
          exact e5
        have hp0 : H p1 = none := by
          cases q : H p1 with
          | none => rfl
          | some o => rw [k5 _ _ (k4 _ _ (GH _ _ q) (S3 _ _ q))] at hp1; cases hp1
        refine k p1 _ S5 hp0 ⟨rg ++ refs.drop d, by rw [upd_same, List.map_append], ?_⟩
        have e6 : (drTo (plTo xs).f B xs).o = (drTo (plTo xs).f B (xs.take d)).o ++ xs.drop d := by
          rw [sg]
          show _ ++ (xs.drop d).take (xs.length - d) = _
          rw [show (xs.drop d).take (xs.length - d) = xs.drop d from List.take_of_length_le (by rw [List.length_drop]; exact Nat.le_refl _)]
        rw [e6]
        exact Paired.app' (Paired.map' pG4 fun r x e => by
          have e5 := k5 _ _ e
          rw [upd_ne (ne_new e5 hp1)]
          exact e5) (Paired.map' pD fun r x e => S5 _ _ e)
end
end C38

set_option maxHeartbeats 2000000
namespace C38
open PySem PySem.Spec PyProof.Rows L2
abbrev FnPD (K : PySem.W.Frag) (x q : Str) (st : Stmt) (dvs : List V) (f : Addr) (fd : FuncData) : Prop := FunD K x q (defArgs st) (defBody st) (defScope st) dvs [] f fd
/-- rows that directions are told of -/
structure WayOk (fs : List R4) (B : Nat) : Prop where
  ok : ∀ x ∈ fs, Ok4 x
  jl : ∀ x ∈ fs, jumping x.w = true → ∃ n m, x.a = .int n ∧ (plTo fs).f n = some m
  hB : ∀ n : Nat, B ≤ n → (plTo fs).f n = none
def wsOf (xs : List R3) : List Str := xs.map (·.w)
def spFL : Sp := fun vs H Q _ => ∃ (F : Addr) (v : V) (xs : List R3) (fs : List R4), vs = [.ref F, v, .bl false] ∧ Rs3 H F xs ∧ (∀ x ∈ xs, Ok3 x) ∧ xs.length ≤ 30000 ∧ noSetup (hasW (wsOf xs)) ∧ hasW (wsOf xs) "LOAD_FAST" = false ∧ fs.length ≤ 30000 ∧ (∀ x ∈ fs, LineOk x) ∧
  ((hasW (wsOf xs) "LABEL" = false ∧ fs = firstGo xs ∧ ∀ D H', Same H H' → Rs4 H' D fs → Q (.ref D) H') ∨
  (hasW (wsOf xs) "LABEL" = true ∧ ∃ (k : Nat) (g : Go) (B : Nat), (k + 2) * xs.length ≤ 90000 ∧ loopGo xs k (goTo [] xs) = some g ∧ fs = endGo g ∧ WayOk fs B ∧ ∀ D H', Same H H' → Rs4 H' D (drTo (plTo fs).f B fs).o → Q (.ref D) H'))
theorem pair_words {H : Hp} : ∀ {refs : List Addr} {xs : List R3}, Paired (fun r x => H r = some (.tup (v3 x))) refs xs → Paired (fun r z => ∃ ys, H r = some (.tup (.str z :: ys))) refs (wsOf xs)
  | [], [], .nil => .nil
  | _ :: _, _ :: _, .cons h p => .cons ⟨_, h⟩ (pair_words p)
section
variable {P : Program} {w : World} {K : PySem.W.Frag} {mg : Str → Option Value} {base : Heap} {f : Addr} {fd : FuncData}
abbrev sfl : Stmt := top 80
theorem scfl : FnScope ["rows", "head", "passes", "words", "found"] ["rows", "head", "passes"] (defScope sfl) := ⟨rfl, rfl, rfl, by decide +kernel, rfl, by decide +kernel, by decide +kernel⟩

theorem ok_fl {S : Addr → Option Sp} {dvs : List V} (T : Txt mg) (F : FnPD K "flowed" "flowed" sfl dvs f fd) (C_words_in : Cal P w K mg base 1 "words_in" ["rows"] spWords) (C_with_handlers : Cal P w K mg base 3 "with_handlers" ["rows", "words"] (spWH S)) (C_with_lines : Cal P w K mg base 3 "with_lines" ["rows", "words"] spWL) (C_with_checks : Cal P w K mg base 1 "with_checks" ["rows", "head", "words"] spWC) (C_with_directions : Cal P w K mg base 1 "with_directions" ["rows"] spWD) : FnOk P w K mg base CX0 4 f fd ["rows", "head", "passes"] spFL := by
  refine F.ok scfl (fun vs H Q E h => ?_) (fun cdv A outer s H vs Q E hr h => ?_)
  · obtain ⟨F, v, xs, fs, rfl, _⟩ := h
    rfl
  · have hu1 := hu_of hr
    obtain ⟨F, v, xs, fs, rfl, hF, ok, hl, ns, nf, hl2, lo, k⟩ := h
    refine ⟨_, PSs.nox (pss_cons (ps_set (i := 3) scfl.nd rfl (Or.inl rfl) (pe_cal C_words_in (hr.mono (by decide)) rfl (pa_cons (pv 0) pa_nil)))
  (pss_cons (ps_set (i := 4) scfl.nd rfl (Or.inl rfl) (pe_cal C_with_handlers (hr.mono (by decide)) rfl (pa_cons (pv 0) (pa_cons (pv 3) pa_nil))))
  (pss_cons (ps_if (pt_val (pv 2))
    pss_never
    pss_nil)
  (pss_cons (ps_set (i := 4) scfl.nd rfl (Or.inl rfl) (pe_cal C_with_lines (hr.mono (by decide)) rfl (pa_cons (pv 4) (pa_cons (pv 3) pa_nil))))
  (pss_cons (ps_if (pt_val (pv 2))
    pss_never
    pss_nil)
  (pss_cons (ps_set (i := 4) scfl.nd rfl (Or.inl rfl) (pe_cal C_with_checks (hr.mono (by decide)) rfl (pa_cons (pv 4) (pa_cons (pv 1) (pa_cons (pv 3) pa_nil)))))
  (pss_cons (ps_if (pt_val (pv 2))
    pss_never
    pss_nil)
  (pss_one (ps_ret (pe_ifExp (pt_cmp (pc_din hu1 pe_str (pv 3))) (pe_cal C_with_directions (hr.mono (by decide)) rfl (pa_cons (pv 4) pa_nil)) (pv 4))))))))))), ?_⟩
    show (_ : TS) _ [some (.ref F), some v, some (.bl false), none, none] H
    simp only [r_seq, r_next, r_brk, r_cont, r_asg, r_name, r_ret, r_retN, r_drop, r_ifs, r_never, r_var, r_c, r_op, r_un, r_if, r_tst, r_b, r_not, r_and, r_or, r_andV, r_orV, r_notV, r_nil, r_cons, r_tup, r_lst, r_cb, r_call, r_bm, r_bm0, r_sl, r_nopart, r_part, r_rev, r_gnil, r_gcons, r_gsub, r_par, r_aug, r_chain, r_I0, r_I, r_U, r_ixd, r_lend, r_tupd, r_listd, r_sld, r_app, r_ext, r_reverse, r_setl, r_cat, r_int1, r_eqS, r_neS, scal_ii, scal_bb, scal_ss, at0, at1, at2, sq_lst, sq_tup, isLst_lst, List.getElem?_cons_zero, List.getElem?_cons_succ, List.set_cons_zero, List.set_cons_succ, V.int.injEq, V.bl.injEq, V.ref.injEq, V.str.injEq, HO.lst.injEq, HO.tup.injEq, Option.some.injEq, exists_eq_left', exists_eq_left, List.cons.injEq, and_true, true_and, decide_eq_true_eq, reduceCtorEq, false_and, exists_false, or_false, false_or, exists_const, and_assoc, exists_and_left, List.append_nil, ix0, ix1, ix2, cm_mod, cdw1009, cdw2003, cdw7, cdw64, cdw2, cm104729, cm2, cm3, upd_same, List.length_cons, List.length_nil, Int.reduceLT, Int.reduceLE, Nat.reduceAdd, Nat.reduceLeDiff, Nat.reduceLT, Int.reduceToNat, r_for1, r_forL, r_forT, r_lcL, r_lc1, r_yes, r_gtupD, wipe_0, wipe_1, List.cons_append, List.nil_append, r_forS, r_ipI, ite_false, ite_true, Bool.not_true, Bool.not_false, decide_true, decide_false, r_isd, r_islt, cD_ty, cD_ref, tD_non, tD_bl, tD_int, tD_str, tD_ref, tH_lst, tH_tup, tH_dK, tH_ins, ki_self, ki_int_bool, ki_non_int, ki_str_int, ki_lt_lst, ki_lt_tup, r_fld, r_sfld, HO.ins.injEq, cx_K, r_dinE]
    obtain ⟨refs, eF, pF⟩ := id hF
    refine ⟨F, wsOf xs, rfl, ⟨refs, eF, pair_words pF⟩, by unfold wsOf; rw [List.length_map]; omega, fun W H1 hW0 s1 hW => ?_⟩
    rcases k with ⟨e, efs, k⟩ | ⟨e, kk, g, B, hk, hg, efs, wo, k⟩
    · refine ⟨F, W, xs, hasW (wsOf xs), rfl, hW, ns, hF.same s1, ok, by omega, .inl ⟨e, fun F2 H2 s2 r2 => ?_⟩⟩
      rw [← efs] at r2
      have hW2 := hW.same s2
      refine ⟨F2, W, fs, _, rfl, hW2, r2, by omega, lo, fun F3 H3 s3 f3 r3 => ?_⟩
      have hW3 := hW2.same s3
      obtain ⟨o1, d1, q1⟩ := hW3.get "LABEL"
      refine ⟨F3, W, v, _, rfl, hW3, nf, W, rfl, o1, d1, ?_⟩
      rw [q1, e, if_neg (by decide)]
      exact k F3 H3 (fun b o e => s3 _ _ (s2 _ _ (s1 _ _ e))) r3
    · refine ⟨F, W, xs, hasW (wsOf xs), rfl, hW, ns, hF.same s1, ok, by omega, .inr ⟨e, kk, g, hk, hg, fun F2 H2 s2 r2 => ?_⟩⟩
      rw [← efs] at r2
      have hW2 := hW.same s2
      refine ⟨F2, W, fs, _, rfl, hW2, r2, by omega, lo, fun F3 H3 s3 f3 r3 => ?_⟩
      have hW3 := hW2.same s3
      obtain ⟨o1, d1, q1⟩ := hW3.get "LABEL"
      refine ⟨F3, W, v, _, rfl, hW3, nf, W, rfl, o1, d1, ?_⟩
      rw [q1, e, if_pos rfl]
      exact ⟨F3, fs, B, rfl, r3, wo.ok, wo.jl, wo.hB, hl2, fun D4 H4 s4 f4 r4 => k D4 H4 (fun b o e => s4 _ _ (s3 _ _ (s2 _ _ (s1 _ _ e)))) r4⟩
end
end C38

set_option maxHeartbeats 2000000
namespace C38
open PySem PySem.Spec PyProof.Rows L2
/-! ### what the law draws -/
def spHead : Sp := fun vs H Q _ => ∃ (L : Addr) (xs : List V), vs = [.ref L] ∧ H L = some (.lst xs) ∧ ∀ v H', Same H H' → Q v H'
def OpD (H : Hp) (D : Addr) : Prop := ∃ kvs : List (Key × V), H D = some (.dK kvs) ∧ ∀ z : Str, valV kvs (Sum.inr z : Key) = if testing z = true then some (.str (oppos z)) else none
def spOpp : Sp := fun vs H Q _ => vs = [] ∧ ∀ D H', H D = none → Same H H' → OpD H' D → Q (.ref D) H'
def TWs : List V := [.str "POP_JUMP_IF_FALSE", .str "POP_JUMP_IF_TRUE", .str "POP_JUMP_IF_NONE", .str "POP_JUMP_IF_NOT_NONE"]
def spTWs : Sp := fun vs H Q _ => vs = [] ∧ ∀ D H', H D = none → Same H H' → H' D = some (.lst TWs) → Q (.ref D) H'
def opD0 : List (Key × V) := [(Sum.inr "POP_JUMP_IF_FALSE", .str "POP_JUMP_IF_TRUE"), (Sum.inr "POP_JUMP_IF_NONE", .str "POP_JUMP_IF_NOT_NONE")]
def opD1 : List (Key × V) := putK (mergeK [] opD0) (Sum.inr "POP_JUMP_IF_TRUE" : Key) (.str "POP_JUMP_IF_FALSE")
def opD2 : List (Key × V) := putK opD1 (Sum.inr "POP_JUMP_IF_NOT_NONE" : Key) (.str "POP_JUMP_IF_NONE")
theorem op_get (z : Str) : valV opD2 (Sum.inr z : Key) = if testing z = true then some (.str (oppos z)) else none := by
  have e : opD2 = putK (putK (putK (putK [] (Sum.inr "POP_JUMP_IF_FALSE" : Key) (.str "POP_JUMP_IF_TRUE")) (Sum.inr "POP_JUMP_IF_NONE" : Key) (.str "POP_JUMP_IF_NOT_NONE")) (Sum.inr "POP_JUMP_IF_TRUE" : Key) (.str "POP_JUMP_IF_FALSE")) (Sum.inr "POP_JUMP_IF_NOT_NONE" : Key) (.str "POP_JUMP_IF_NONE") := by rfl
  have inj : ∀ y : Str, ((Sum.inr z : Key) = Sum.inr y) = (z = y) := fun y => propext ⟨fun e => Sum.inr.inj e, fun e => by rw [e]⟩
  rw [e, valV_put, valV_put, valV_put, valV_put]
  simp only [inj]
  by_cases c1 : z = "POP_JUMP_IF_FALSE"
  · subst c1; rfl
  by_cases c2 : z = "POP_JUMP_IF_TRUE"
  · subst c2; rfl
  by_cases c3 : z = "POP_JUMP_IF_NONE"
  · subst c3; rfl
  by_cases c4 : z = "POP_JUMP_IF_NOT_NONE"
  · subst c4; rfl
  rw [if_neg c4, if_neg c2, if_neg c3, if_neg c1, if_neg (by unfold testing; simp [c1, c2, c3, c4])]
  rfl
section
variable {P : Program} {w : World} {K : PySem.W.Frag} {mg : Str → Option Value} {base : Heap} {f : Addr} {fd : FuncData}
abbrev shd : Stmt := top 88
theorem schd : FnScope ["_law_names"] ["_law_names"] (defScope shd) := ⟨rfl, rfl, rfl, by decide +kernel, rfl, by decide +kernel, by decide +kernel⟩

abbrev sop : Stmt := top 89
theorem scop : FnScope ["_law_found"] [] (defScope sop) := ⟨rfl, rfl, rfl, by decide +kernel, rfl, by decide +kernel, by decide +kernel⟩

abbrev swo2 : Stmt := top 90
theorem scwo2 : FnScope [] [] (defScope swo2) := ⟨rfl, rfl, rfl, by decide +kernel, rfl, by decide +kernel, by decide +kernel⟩

theorem ok_hd (T : Txt mg) (F : FnP K "_law_head" "_law_head" shd f fd) : FnOk P w K mg base CX0 1 f fd ["_law_names"] spHead := by
  refine F.ok schd (fun vs H Q E h => ?_) (fun cdv A outer s H vs Q E hr h => ?_)
  · obtain ⟨L, xs, rfl, _⟩ := h
    rfl
  · obtain ⟨L, xs, rfl, hL, k⟩ := h
    refine ⟨_, PSs.nox (pss_one (ps_ret (pe_tup (pa_cons pe_str (pa_cons pe_str (pa_cons pe_str (pa_cons pe_int (pa_cons (pe_tup (pa_cons (pe_callTy call_tuple_d (by rfl) T.b_tuple (by decide +kernel) (pa_cons (pv 0) pa_nil)) (pa_cons (pe_tup pa_nil) (pa_cons pe_non (pa_cons pe_non pa_nil))))) (pa_cons (pe_tup pa_nil) (pa_cons (pe_tup pa_nil) (pa_cons pe_int pa_nil))))))))))), ?_⟩
    show (_ : TS) _ [some (.ref L)] H
    simp only [r_seq, r_next, r_brk, r_cont, r_asg, r_name, r_ret, r_retN, r_drop, r_ifs, r_never, r_var, r_c, r_op, r_un, r_if, r_tst, r_b, r_not, r_and, r_or, r_andV, r_orV, r_notV, r_nil, r_cons, r_tup, r_lst, r_cb, r_call, r_bm, r_bm0, r_sl, r_nopart, r_part, r_rev, r_gnil, r_gcons, r_gsub, r_par, r_aug, r_chain, r_I0, r_I, r_U, r_ixd, r_lend, r_tupd, r_listd, r_sld, r_app, r_ext, r_reverse, r_setl, r_cat, r_int1, r_eqS, r_neS, scal_ii, scal_bb, scal_ss, at0, at1, at2, sq_lst, sq_tup, isLst_lst, List.getElem?_cons_zero, List.getElem?_cons_succ, List.set_cons_zero, List.set_cons_succ, V.int.injEq, V.bl.injEq, V.ref.injEq, V.str.injEq, HO.lst.injEq, HO.tup.injEq, Option.some.injEq, exists_eq_left', exists_eq_left, List.cons.injEq, and_true, true_and, decide_eq_true_eq, reduceCtorEq, false_and, exists_false, or_false, false_or, exists_const, and_assoc, exists_and_left, List.append_nil, ix0, ix1, ix2, cm_mod, cdw1009, cdw2003, cdw7, cdw64, cdw2, cm104729, cm2, cm3, upd_same, List.length_cons, List.length_nil, Int.reduceLT, Int.reduceLE, Nat.reduceAdd, Nat.reduceLeDiff, Nat.reduceLT, Int.reduceToNat, r_for1, r_forL, r_forT, r_lcL, r_lc1, r_yes, r_gtupD, wipe_0, wipe_1, List.cons_append, List.nil_append, r_forS, r_ipI, ite_false, ite_true, Bool.not_true, Bool.not_false, decide_true, decide_false, r_isd, r_islt, cD_ty, cD_ref, tD_non, tD_bl, tD_int, tD_str, tD_ref, tH_lst, tH_tup, tH_dK, tH_ins, ki_self, ki_int_bool, ki_non_int, ki_str_int, ki_lt_lst, ki_lt_tup, r_fld, r_sfld, HO.ins.injEq, cx_K]
    refine ⟨_, hL, fun l h1 => ⟨Nat.zero_le _, fun p h2 => ⟨szl (by decide), fun p1 h3 => ⟨Nat.zero_le _, fun p2 h4 => ⟨Nat.zero_le _, fun p3 h5 => ⟨szl (by decide), fun p4 h6 => k _ _ ?_⟩⟩⟩⟩⟩⟩
    exact Same.new' (Same.new' (Same.new' (Same.new' (Same.new' (Same.new' (Same.refl H) h1) h2) h3) h4) h5) h6
theorem ok_op (T : Txt mg) (F : FnP K "_law_opposite" "_law_opposite" sop f fd) : FnOk P w K mg base CX0 1 f fd [] spOpp := by
  refine F.ok scop (fun vs H Q E h => ?_) (fun cdv A outer s H vs Q E hr h => ?_)
  · obtain ⟨rfl, _⟩ := h
    rfl
  · have hu1 := hu_of hr
    obtain ⟨rfl, k⟩ := h
    refine ⟨_, PSs.nox (pss_cons (ps_set (i := 0) scop.nd rfl (Or.inl rfl) (pe_disp (pps_cons pe_str pe_str (pps_cons pe_str pe_str pps_nil)) (by rfl) (by rfl) (fun z => by cases z) (by decide)))
  (pss_cons (ps_dput hu1 (pv 0) pe_str pe_str rfl)
  (pss_cons (ps_dput hu1 (pv 0) pe_str pe_str rfl)
  (pss_one (ps_ret (pv 0)))))), ?_⟩
    show (_ : TS) _ [none] H
    simp only [r_seq, r_next, r_brk, r_cont, r_asg, r_name, r_ret, r_retN, r_drop, r_ifs, r_never, r_var, r_c, r_op, r_un, r_if, r_tst, r_b, r_not, r_and, r_or, r_andV, r_orV, r_notV, r_nil, r_cons, r_tup, r_lst, r_cb, r_call, r_bm, r_bm0, r_sl, r_nopart, r_part, r_rev, r_gnil, r_gcons, r_gsub, r_par, r_aug, r_chain, r_I0, r_I, r_U, r_ixd, r_lend, r_tupd, r_listd, r_sld, r_app, r_ext, r_reverse, r_setl, r_cat, r_int1, r_eqS, r_neS, scal_ii, scal_bb, scal_ss, at0, at1, at2, sq_lst, sq_tup, isLst_lst, List.getElem?_cons_zero, List.getElem?_cons_succ, List.set_cons_zero, List.set_cons_succ, V.int.injEq, V.bl.injEq, V.ref.injEq, V.str.injEq, HO.lst.injEq, HO.tup.injEq, Option.some.injEq, exists_eq_left', exists_eq_left, List.cons.injEq, and_true, true_and, decide_eq_true_eq, reduceCtorEq, false_and, exists_false, or_false, false_or, exists_const, and_assoc, exists_and_left, List.append_nil, ix0, ix1, ix2, cm_mod, cdw1009, cdw2003, cdw7, cdw64, cdw2, cm104729, cm2, cm3, upd_same, List.length_cons, List.length_nil, Int.reduceLT, Int.reduceLE, Nat.reduceAdd, Nat.reduceLeDiff, Nat.reduceLT, Int.reduceToNat, r_for1, r_forL, r_forT, r_lcL, r_lc1, r_yes, r_gtupD, wipe_0, wipe_1, List.cons_append, List.nil_append, r_forS, r_ipI, ite_false, ite_true, Bool.not_true, Bool.not_false, decide_true, decide_false, r_isd, r_islt, cD_ty, cD_ref, tD_non, tD_bl, tD_int, tD_str, tD_ref, tH_lst, tH_tup, tH_dK, tH_ins, ki_self, ki_int_bool, ki_non_int, ki_str_int, ki_lt_lst, ki_lt_tup, r_fld, r_sfld, HO.ins.injEq, cx_K]
    intro D hD
    refine ⟨upd_same, opD0, rfl, by decide, ?_⟩
    have s2 : Same H (L2.upd (L2.upd H D (.dK [])) D (.dK (mergeK [] opD0))) := fun y o q => by
      rw [upd_ne (ne_new q hD), upd_ne (ne_new q hD)]
      exact q
    have e2 : L2.upd (L2.upd H D (.dK [])) D (.dK (mergeK [] opD0)) D = some (.dK (mergeK [] opD0)) := upd_same
    generalize L2.upd (L2.upd H D (.dK [])) D (.dK (mergeK [] opD0)) = H2 at *
    simp only [r_seq, r_next, r_brk, r_cont, r_asg, r_name, r_ret, r_retN, r_drop, r_ifs, r_never, r_var, r_c, r_op, r_un, r_if, r_tst, r_b, r_not, r_and, r_or, r_andV, r_orV, r_notV, r_nil, r_cons, r_tup, r_lst, r_cb, r_call, r_bm, r_bm0, r_sl, r_nopart, r_part, r_rev, r_gnil, r_gcons, r_gsub, r_par, r_aug, r_chain, r_I0, r_I, r_U, r_ixd, r_lend, r_tupd, r_listd, r_sld, r_app, r_ext, r_reverse, r_setl, r_cat, r_int1, r_eqS, r_neS, scal_ii, scal_bb, scal_ss, at0, at1, at2, sq_lst, sq_tup, isLst_lst, List.getElem?_cons_zero, List.getElem?_cons_succ, List.set_cons_zero, List.set_cons_succ, V.int.injEq, V.bl.injEq, V.ref.injEq, V.str.injEq, HO.lst.injEq, HO.tup.injEq, Option.some.injEq, exists_eq_left', exists_eq_left, List.cons.injEq, and_true, true_and, decide_eq_true_eq, reduceCtorEq, false_and, exists_false, or_false, false_or, exists_const, and_assoc, exists_and_left, List.append_nil, ix0, ix1, ix2, cm_mod, cdw1009, cdw2003, cdw7, cdw64, cdw2, cm104729, cm2, cm3, upd_same, List.length_cons, List.length_nil, Int.reduceLT, Int.reduceLE, Nat.reduceAdd, Nat.reduceLeDiff, Nat.reduceLT, Int.reduceToNat, r_for1, r_forL, r_forT, r_lcL, r_lc1, r_yes, r_gtupD, wipe_0, wipe_1, List.cons_append, List.nil_append, r_forS, r_ipI, ite_false, ite_true, Bool.not_true, Bool.not_false, decide_true, decide_false, r_isd, r_islt, cD_ty, cD_ref, tD_non, tD_bl, tD_int, tD_str, tD_ref, tH_lst, tH_tup, tH_dK, tH_ins, ki_self, ki_int_bool, ki_non_int, ki_str_int, ki_lt_lst, ki_lt_tup, r_fld, r_sfld, HO.ins.injEq, cx_K, r_sput]
    refine ⟨_, DPut.k (k := (Sum.inr "POP_JUMP_IF_TRUE" : Key)) e2 (by decide), ?_⟩
    try simp only [r_seq, r_next, r_brk, r_cont, r_asg, r_name, r_ret, r_retN, r_drop, r_ifs, r_never, r_var, r_c, r_op, r_un, r_if, r_tst, r_b, r_not, r_and, r_or, r_andV, r_orV, r_notV, r_nil, r_cons, r_tup, r_lst, r_cb, r_call, r_bm, r_bm0, r_sl, r_nopart, r_part, r_rev, r_gnil, r_gcons, r_gsub, r_par, r_aug, r_chain, r_I0, r_I, r_U, r_ixd, r_lend, r_tupd, r_listd, r_sld, r_app, r_ext, r_reverse, r_setl, r_cat, r_int1, r_eqS, r_neS, scal_ii, scal_bb, scal_ss, at0, at1, at2, sq_lst, sq_tup, isLst_lst, List.getElem?_cons_zero, List.getElem?_cons_succ, List.set_cons_zero, List.set_cons_succ, V.int.injEq, V.bl.injEq, V.ref.injEq, V.str.injEq, HO.lst.injEq, HO.tup.injEq, Option.some.injEq, exists_eq_left', exists_eq_left, List.cons.injEq, and_true, true_and, decide_eq_true_eq, reduceCtorEq, false_and, exists_false, or_false, false_or, exists_const, and_assoc, exists_and_left, List.append_nil, ix0, ix1, ix2, cm_mod, cdw1009, cdw2003, cdw7, cdw64, cdw2, cm104729, cm2, cm3, upd_same, List.length_cons, List.length_nil, Int.reduceLT, Int.reduceLE, Nat.reduceAdd, Nat.reduceLeDiff, Nat.reduceLT, Int.reduceToNat, r_for1, r_forL, r_forT, r_lcL, r_lc1, r_yes, r_gtupD, wipe_0, wipe_1, List.cons_append, List.nil_append, r_forS, r_ipI, ite_false, ite_true, Bool.not_true, Bool.not_false, decide_true, decide_false, r_isd, r_islt, cD_ty, cD_ref, tD_non, tD_bl, tD_int, tD_str, tD_ref, tH_lst, tH_tup, tH_dK, tH_ins, ki_self, ki_int_bool, ki_non_int, ki_str_int, ki_lt_lst, ki_lt_tup, r_fld, r_sfld, HO.ins.injEq, cx_K, r_sput]
    refine ⟨_, DPut.k (k := (Sum.inr "POP_JUMP_IF_NOT_NONE" : Key)) upd_same (by decide), ?_⟩
    refine k D _ hD (fun y o q => ?_) ⟨opD2, upd_same, op_get⟩
    rw [upd_ne (ne_new q hD), upd_ne (ne_new q hD)]
    exact s2 _ _ q
theorem ok_wo2 (T : Txt mg) (F : FnP K "_law_words" "_law_words" swo2 f fd) : FnOk P w K mg base CX0 1 f fd [] spTWs := by
  refine F.ok scwo2 (fun vs H Q E h => ?_) (fun cdv A outer s H vs Q E hr h => ?_)
  · obtain ⟨rfl, _⟩ := h
    rfl
  · obtain ⟨rfl, k⟩ := h
    refine ⟨_, PSs.nox (pss_one (ps_ret (pe_lst (pa_cons pe_str (pa_cons pe_str (pa_cons pe_str (pa_cons pe_str pa_nil))))))), ?_⟩
    show (_ : TS) _ [] H
    simp only [r_seq, r_next, r_brk, r_cont, r_asg, r_name, r_ret, r_retN, r_drop, r_ifs, r_never, r_var, r_c, r_op, r_un, r_if, r_tst, r_b, r_not, r_and, r_or, r_andV, r_orV, r_notV, r_nil, r_cons, r_tup, r_lst, r_cb, r_call, r_bm, r_bm0, r_sl, r_nopart, r_part, r_rev, r_gnil, r_gcons, r_gsub, r_par, r_aug, r_chain, r_I0, r_I, r_U, r_ixd, r_lend, r_tupd, r_listd, r_sld, r_app, r_ext, r_reverse, r_setl, r_cat, r_int1, r_eqS, r_neS, scal_ii, scal_bb, scal_ss, at0, at1, at2, sq_lst, sq_tup, isLst_lst, List.getElem?_cons_zero, List.getElem?_cons_succ, List.set_cons_zero, List.set_cons_succ, V.int.injEq, V.bl.injEq, V.ref.injEq, V.str.injEq, HO.lst.injEq, HO.tup.injEq, Option.some.injEq, exists_eq_left', exists_eq_left, List.cons.injEq, and_true, true_and, decide_eq_true_eq, reduceCtorEq, false_and, exists_false, or_false, false_or, exists_const, and_assoc, exists_and_left, List.append_nil, ix0, ix1, ix2, cm_mod, cdw1009, cdw2003, cdw7, cdw64, cdw2, cm104729, cm2, cm3, upd_same, List.length_cons, List.length_nil, Int.reduceLT, Int.reduceLE, Nat.reduceAdd, Nat.reduceLeDiff, Nat.reduceLT, Int.reduceToNat, r_for1, r_forL, r_forT, r_lcL, r_lc1, r_yes, r_gtupD, wipe_0, wipe_1, List.cons_append, List.nil_append, r_forS, r_ipI, ite_false, ite_true, Bool.not_true, Bool.not_false, decide_true, decide_false, r_isd, r_islt, cD_ty, cD_ref, tD_non, tD_bl, tD_int, tD_str, tD_ref, tH_lst, tH_tup, tH_dK, tH_ins, ki_self, ki_int_bool, ki_non_int, ki_str_int, ki_lt_lst, ki_lt_tup, r_fld, r_sfld, HO.ins.injEq, cx_K]
    exact ⟨szl (by decide), fun p hp => k p _ hp (Same.new' (Same.refl H) hp) upd_same⟩
end
end C38

set_option maxHeartbeats 2000000
namespace C38
open PySem PySem.Spec PyProof.Rows L2
theorem pe_cal0 {X : Cx} {k : Nat} {x : Str} {sp : Sp} {p pos : Pos} (C : Cal X.prog X.w X.K X.mg X.base k x [] sp) (hr : Room k X.A) (hg : Gl X x) (hdb : (x == ("__debug__" : Str)) = false := by decide) : PE X (.Call (.Name x p) [] [] pos) (tCall sp [] E0 tNil) := by
  obtain ⟨f, fd, F, m, kp, b⟩ := C.ex
  exact pe_call0 F hr hg m kp b .nil pass0 hdb
def t_pa (K : PySem.W.Frag) : TS := tDrop (tBM K "list" rAppend (tVar 3) (tCons (tLst (tCons (tTup (tCons (tC (V.str (Str.ofString "LOAD_NAME"))) (tCons (tC (V.str (Str.ofString "a"))) (tCons (tVar 6) tNil)))) (tCons (tTup (tCons (tC (V.str (Str.ofString "POP_TOP"))) (tCons (tC V.non) (tCons (tVar 6) tNil)))) tNil))) tNil))
def t_pb (K : PySem.W.Frag) : TS := tSeq (tPar 7 8 (tCons (tCall spOne [] E0 (tCons (tVar 0) (tCons (tLst (tCons (tC (V.str (Str.ofString "JUMP"))) (tCons (tC (V.str (Str.ofString "JUMP_NO_INTERRUPT"))) tNil))) tNil))) (tCons (tOp rIxd (tVar 1) (tVar 4)) tNil))) (tSeq (tAsg (tLst (tCons (tTup (tCons (tC (V.str (Str.ofString "POP_JUMP_IF_NONE"))) (tCons (tVar 8) (tCons (tVar 6) tNil)))) (tCons (tTup (tCons (tVar 7) (tCons (tOp (rI0 fun i j => V.int (i + j)) (tVar 8) (tC (V.int 1))) (tCons (tVar 6) tNil)))) (tCons (tTup (tCons (tC (V.str (Str.ofString "LABEL"))) (tCons (tVar 8) (tCons (tC V.non) tNil)))) tNil)))) (gName 9)) (tDrop (tBM K "list" rAppend (tVar 3) (tCons (tOp rCat (tOp rCat (tLst (tCons (tTup (tCons (tC (V.str (Str.ofString "LOAD_NAME"))) (tCons (tC (V.str (Str.ofString "b"))) (tCons (tVar 6) tNil)))) tNil)) (tVar 9)) (tLst (tCons (tTup (tCons (tC (V.str (Str.ofString "NOP"))) (tCons (tC V.non) (tCons (tVar 6) tNil)))) (tCons (tTup (tCons (tC (V.str (Str.ofString "LABEL"))) (tCons (tOp (rI0 fun i j => V.int (i + j)) (tVar 8) (tC (V.int 1))) (tCons (tC V.non) tNil)))) tNil)))) tNil))))
def t_pc (K : PySem.W.Frag) : TS := tSeq (tPar 7 10 (tCons (tCall spOne [] E0 (tCons (tVar 0) (tCons (tCall spTWs [] E0 tNil) tNil))) (tCons (tCall spNext [] E0 (tCons (tVar 0) (tCons (tVar 2) tNil))) tNil))) (tDrop (tBM K "list" rAppend (tVar 3) (tCons (tLst (tCons (tTup (tCons (tC (V.str (Str.ofString "LOAD_NAME"))) (tCons (tC (V.str (Str.ofString "c"))) (tCons (tVar 6) tNil)))) (tCons (tTup (tCons (tC (V.str (Str.ofString "TO_BOOL"))) (tCons (tC V.non) (tCons (tVar 6) tNil)))) (tCons (tTup (tCons (tVar 7) (tCons (tOp (rI0 fun i j => V.int (i + j)) (tOp rIxd (tVar 1) (tVar 10)) (tC (V.int 2))) (tCons (tVar 6) tNil)))) tNil)))) tNil)))
def t_p (K : PySem.W.Frag) : TS := tSeq (tPar 5 6 (tCons (tCall spNext [] E0 (tCons (tVar 0) (tCons (tC (V.int 4)) tNil))) (tCons (tOp (rI0 fun i j => V.int (i + j)) (tC (V.int 10)) (tVar 4)) tNil))) (tIfS (tTest (tOp rEq (tVar 5) (tC (V.int 0)))) (t_pa K) (tIfS (tTest (tOp rEq (tVar 5) (tC (V.int 1)))) (t_pb K) (t_pc K)))
def t_pt (K : PySem.W.Frag) : TS := tSeq (tAsg (tLst tNil) (gName 3)) (tSeq (tFor (iRng1 (tCons (tVar 2) tNil)) (gName 4) (t_p K)) (tRet (tVar 3)))
def l10 (k : Nat) : Option Int := some (10 + (k : Int))
inductive PartOk (st many k : Nat) : List R3 → Prop
  | a : PartOk st many k [⟨"LOAD_NAME", .str "a", l10 k⟩, ⟨"POP_TOP", .non, l10 k⟩]
  | b (z : Str) (h : direct z = true) : PartOk st many k [⟨"LOAD_NAME", .str "b", l10 k⟩, ⟨"POP_JUMP_IF_NONE", .int (st * k : Nat), l10 k⟩, ⟨z, .int (st * k + 1 : Nat), l10 k⟩, ⟨"LABEL", .int (st * k : Nat), none⟩, ⟨"NOP", .non, l10 k⟩, ⟨"LABEL", .int (st * k + 1 : Nat), none⟩]
  | c (z : Str) (g : Nat) (h : testing z = true) (hg : g < many) : PartOk st many k [⟨"LOAD_NAME", .str "c", l10 k⟩, ⟨"TO_BOOL", .non, l10 k⟩, ⟨z, .int (st * g + 2 : Nat), l10 k⟩]
def Tp (H : Hp) (r : Addr) (x : R3) : Prop := H r = some (.tup (v3 x))
def RsL (H : Hp) (r : Addr) (p : List R3) : Prop := ∃ rs : List Addr, H r = some (.lst (rs.map V.ref)) ∧ Paired (Tp H) rs p
def PsA (H : Hp) (A : Addr) (ps : List (List R3)) : Prop := ∃ refs : List Addr, H A = some (.lst (refs.map V.ref)) ∧ Paired (fun r p => r ≠ A ∧ RsL H r p) refs ps
def Kp2 (S A : Addr) (H H' : Hp) : Prop := ∀ b o, b ≠ S → b ≠ A → H b = some o → H' b = some o
theorem RsL.ne {H : Hp} {r S : Addr} {p : List R3} (h : RsL H r p) (s : Src H S) : r ≠ S := fun z => by
  obtain ⟨rs, e, _⟩ := h
  obtain ⟨x, y, w, e2⟩ := s
  rw [z, e2] at e
  cases rs with
  | nil => cases e
  | cons a l => cases e
theorem RsL.same {H H' : Hp} {r : Addr} {p : List R3} (h : RsL H r p) (s : Same H H') : RsL H' r p := let ⟨rs, e, q⟩ := h; ⟨rs, s _ _ e, Paired.map' q fun b x z => s _ _ z⟩
theorem RsL.imp {H H' : Hp} {r S A : Addr} {p : List R3} (h : RsL H r p) (k : Kp2 S A H H') (rS : r ≠ S) (rA : r ≠ A) (s : ∃ xs, H S = some (.lst xs)) (a : ∃ xs, H A = some (.lst xs)) : RsL H' r p := by
  obtain ⟨rs, e, q⟩ := h
  obtain ⟨xs, es⟩ := s
  obtain ⟨ys, ea⟩ := a
  exact ⟨rs, k _ _ rS rA e, Paired.map' q fun b x z => k _ _ (fun w => by rw [w] at z; unfold Tp at z; rw [es] at z; cases z) (fun w => by rw [w] at z; unfold Tp at z; rw [ea] at z; cases z) z⟩
theorem Kp2.keep {S A : Addr} {H H' : Hp} (h : Keep S H H') : Kp2 S A H H' := fun b o n _ e => h b o n e
theorem Kp2.same {S A : Addr} {H H' : Hp} (h : Same H H') : Kp2 S A H H' := fun b o _ _ e => h b o e
theorem Kp2.trans {S A : Addr} {H H1 H2 : Hp} (h : Kp2 S A H H1) (k : Kp2 S A H1 H2) : Kp2 S A H H2 := fun b o n m e => k b o n m (h b o n m e)
/-- the heap without the source -/
theorem PsA.keep {H H' : Hp} {S A : Addr} {ps : List (List R3)} (h : PsA H A ps) (k : Keep S H H') (s : Src H S) (AS : A ≠ S) : PsA H' A ps := by
  obtain ⟨refs, e, q⟩ := h
  have se : ∃ xs, H S = some (.lst xs) := let ⟨_, _, _, e⟩ := s; ⟨_, e⟩
  exact ⟨refs, k _ _ AS e, Paired.map' q fun r p w => ⟨w.1, w.2.imp (Kp2.keep k) (w.2.ne s) w.1 se ⟨_, e⟩⟩⟩
theorem PsA.same {H H' : Hp} {A : Addr} {ps : List (List R3)} (h : PsA H A ps) (k : Same H H') : PsA H' A ps := by
  obtain ⟨refs, e, q⟩ := h
  exact ⟨refs, k _ _ e, Paired.map' q fun r p w => ⟨w.1, w.2.same k⟩⟩
theorem PsA.app {H : Hp} {A r : Addr} {refs : List Addr} {ps : List (List R3)} {p : List R3} (e : H A = some (.lst (refs.map V.ref))) (q : Paired (fun r p => r ≠ A ∧ RsL H r p) refs ps) (rA : r ≠ A) (h : RsL H r p) : PsA (L2.upd H A (.lst (refs.map V.ref ++ [.ref r]))) A (ps ++ [p]) := by
  have k : ∀ b o, b ≠ A → H b = some o → L2.upd H A (.lst (refs.map V.ref ++ [.ref r])) b = some o := fun b o n z => by rw [upd_ne n]; exact z
  have im : ∀ {r p}, r ≠ A → RsL H r p → RsL (L2.upd H A (.lst (refs.map V.ref ++ [.ref r]))) r p := fun {r p} n ⟨rs, e1, q1⟩ => ⟨rs, by rw [upd_ne n]; exact e1, Paired.map' q1 fun b x z => by
    unfold Tp at z ⊢
    rw [upd_ne (fun w => by rw [w, e] at z; cases z)]
    exact z⟩
  refine ⟨refs ++ [r], by rw [upd_same, List.map_append]; rfl, Paired.snoc' (Paired.map' q fun r' p' w => ⟨w.1, ?_⟩) ⟨rA, ?_⟩⟩
  · obtain ⟨rs, e1, q1⟩ := w.2
    exact ⟨rs, by rw [upd_ne w.1]; exact e1, Paired.map' q1 fun b x z => by
      unfold Tp at z ⊢
      rw [upd_ne (fun w => by rw [w, e] at z; cases z)]
      exact z⟩
  · obtain ⟨rs, e1, q1⟩ := h
    exact ⟨rs, by rw [upd_ne rA]; exact e1, Paired.map' q1 fun b x z => by
      unfold Tp at z ⊢
      rw [upd_ne (fun w => by rw [w, e] at z; cases z)]
      exact z⟩
theorem PsA.upd2 {S A : Addr} {H H' : Hp} (h : ∀ b o, b ≠ A → H b = some o → H' b = some o) : Kp2 S A H H' := fun b o _ n e => h b o n e
theorem nu {H : Hp} {p : Addr} {o : HO} (h : H p = none) : Same H (L2.upd H p o) ∧ L2.upd H p o p = some o := ⟨Same.new' (Same.refl H) h, upd_same⟩
def labs (st many : Nat) : List V := (List.range many).map fun k => V.int ((st * k : Nat) : Int)
def Spt (S L A : Addr) (many k : Nat) (kind : Int) (v7 v8 v9 v10 : Option V) : L2.St := [some (.ref S), some (.ref L), some (.int (many : Nat)), some (.ref A), some (.int (k : Nat)), some (.int kind), some (.int (10 + (k : Nat))), v7, v8, v9, v10]
theorem Src.same1 {H H' : Hp} {S : Addr} (h : Src H S) (s : Same H H') : Src H' S := let ⟨x, y, z, e⟩ := h; ⟨x, y, z, s _ _ e⟩
theorem keep1 {S : Addr} {H H1 H2 : Hp} (k : Keep S H H1) (s : Same H1 H2) : Keep S H H2 := fun b o n e => s _ _ (k b o n e)
theorem tyl0 {K : PySem.W.Frag} {H : Hp} {A : Addr} {ps : List (List R3)} (h : PsA H A ps) : tyV K "list" (.ref A) H := let ⟨_, e, _⟩ := h; tyl e
theorem nr_of {H : Hp} {A p : Addr} {ps : List (List R3)} (h : PsA H A ps) (hp : H p = none) : p ≠ A := fun z => by
  obtain ⟨_, e, _⟩ := h
  rw [← z, hp] at e
  cases e
theorem labs_at {st many k : Nat} (h : k < many) : atI (labs st many) ((k : Nat) : Int) = some (V.int (st * k : Nat)) := atI_nat (by
  unfold labs
  rw [List.getElem?_map, List.getElem?_range h]
  rfl)
theorem pt_end {H H3 : Hp} {S A r : Addr} {refs : List Addr} {ps : List (List R3)} {p : List R3} (AS : A ≠ S) (kS : Keep S H H3) (hS : Src H3 S) (e : H3 A = some (.lst (refs.map V.ref))) (q : Paired (fun r p => r ≠ A ∧ RsL H3 r p) refs ps) (rA : r ≠ A) (h : RsL H3 r p) :
    Src (L2.upd H3 A (.lst (refs.map V.ref ++ [.ref r]))) S ∧ Kp2 S A H (L2.upd H3 A (.lst (refs.map V.ref ++ [.ref r]))) ∧ PsA (L2.upd H3 A (.lst (refs.map V.ref ++ [.ref r]))) A (ps ++ [p]) := by
  refine ⟨?_, fun b o nS nA z => by rw [upd_ne nA]; exact kS _ _ nS z, PsA.app e q rA h⟩
  obtain ⟨x, y, z, es⟩ := hS
  exact ⟨x, y, z, by rw [upd_ne AS.symm]; exact es⟩
theorem dir_of {v : V} (h : v ∈ ([.str "JUMP", .str "JUMP_NO_INTERRUPT"] : List V)) : ∃ z, v = .str z ∧ direct z = true := by
  rw [List.mem_cons, List.mem_cons] at h
  rcases h with rfl | rfl | h
  · exact ⟨_, rfl, rfl⟩
  · exact ⟨_, rfl, rfl⟩
  · cases h
theorem tst_of {v : V} (h : v ∈ TWs) : ∃ z, v = .str z ∧ testing z = true := by
  unfold TWs at h
  rw [List.mem_cons, List.mem_cons, List.mem_cons, List.mem_cons] at h
  rcases h with rfl | rfl | rfl | rfl | h
  · exact ⟨_, rfl, rfl⟩
  · exact ⟨_, rfl, rfl⟩
  · exact ⟨_, rfl, rfl⟩
  · exact ⟨_, rfl, rfl⟩
  · cases h
theorem pa_run {K : PySem.W.Frag} {D : Ends} {S L A : Addr} {many k st : Nat} {v7 v8 v9 v10 : Option V} {H : Hp} {ps : List (List R3)} (hS : Src H S) (hA : PsA H A ps) (lp : ps.length ≤ 1000) (AS : A ≠ S)
    (kk : ∀ H' p v7 v8 v9 v10, PartOk st many k p → Src H' S → Kp2 S A H H' → PsA H' A (ps ++ [p]) → D.nx (Spt S L A many k 0 v7 v8 v9 v10) H') : t_pa K D (Spt S L A many k 0 v7 v8 v9 v10) H := by
  unfold t_pa Spt
  simp only [r_seq, r_next, r_brk, r_cont, r_asg, r_name, r_ret, r_retN, r_drop, r_ifs, r_never, r_var, r_c, r_op, r_un, r_if, r_tst, r_b, r_not, r_and, r_or, r_andV, r_orV, r_notV, r_nil, r_cons, r_tup, r_lst, r_cb, r_call, r_bm, r_bm0, r_sl, r_nopart, r_part, r_rev, r_gnil, r_gcons, r_gsub, r_par, r_aug, r_chain, r_I0, r_I, r_U, r_ixd, r_lend, r_tupd, r_listd, r_sld, r_app, r_ext, r_reverse, r_setl, r_cat, r_int1, r_eqS, r_neS, scal_ii, scal_bb, scal_ss, at0, at1, at2, sq_lst, sq_tup, isLst_lst, List.getElem?_cons_zero, List.getElem?_cons_succ, List.set_cons_zero, List.set_cons_succ, V.int.injEq, V.bl.injEq, V.ref.injEq, V.str.injEq, HO.lst.injEq, HO.tup.injEq, Option.some.injEq, exists_eq_left', exists_eq_left, List.cons.injEq, and_true, true_and, decide_eq_true_eq, reduceCtorEq, false_and, exists_false, or_false, false_or, exists_const, and_assoc, exists_and_left, List.append_nil, ix0, ix1, ix2, cm_mod, cdw1009, cdw2003, cdw7, cdw64, cdw2, cm104729, cm2, cm3, upd_same, List.length_cons, List.length_nil, Int.reduceLT, Int.reduceLE, Nat.reduceAdd, Nat.reduceLeDiff, Nat.reduceLT, Int.reduceToNat, r_for1, r_forL, r_forT, r_lcL, r_lc1, r_yes, r_gtupD, wipe_0, wipe_1, List.cons_append, List.nil_append, r_forS, r_ipI, ite_false, ite_true, Bool.not_true, Bool.not_false, decide_true, decide_false, r_isd, r_islt, cD_ty, cD_ref, tD_non, tD_bl, tD_int, tD_str, tD_ref, tH_lst, tH_tup, tH_dK, tH_ins, ki_self, ki_int_bool, ki_non_int, ki_str_int, ki_lt_lst, ki_lt_tup, r_fld, r_sfld, HO.ins.injEq, cx_K]
  have kS : Keep S H H := Keep.refl S H
  refine ⟨tyl0 hA, szl (by decide), fun p1 h1 => ?_⟩
  have s : Same H (L2.upd H p1 (.tup [.str "LOAD_NAME", .str "a", .int (10 + (k : Nat))])) := Same.new' (Same.refl _) h1
  have hS := hS.same1 s
  have hA := hA.same s
  have kS := keep1 kS s
  have ep1 : L2.upd H p1 (.tup [.str "LOAD_NAME", .str "a", .int (10 + (k : Nat))]) p1 = some (.tup [.str "LOAD_NAME", .str "a", .int (10 + (k : Nat))]) := upd_same
  clear s
  generalize L2.upd H p1 (.tup [.str "LOAD_NAME", .str "a", .int (10 + (k : Nat))]) = G1 at *
  refine ⟨szl (by decide), fun p2 h2 => ?_⟩
  have s : Same G1 (L2.upd G1 p2 (.tup [.str "POP_TOP", .non, .int (10 + (k : Nat))])) := Same.new' (Same.refl _) h2
  have hS := hS.same1 s
  have hA := hA.same s
  have kS := keep1 kS s
  have ep1 := s _ _ ep1
  have ep2 : L2.upd G1 p2 (.tup [.str "POP_TOP", .non, .int (10 + (k : Nat))]) p2 = some (.tup [.str "POP_TOP", .non, .int (10 + (k : Nat))]) := upd_same
  clear s
  generalize L2.upd G1 p2 (.tup [.str "POP_TOP", .non, .int (10 + (k : Nat))]) = G2 at *
  refine ⟨szl (by decide), fun p3 h3 => ?_⟩
  have nr := nr_of hA h3
  have s : Same G2 (L2.upd G2 p3 (.lst [.ref p1, .ref p2])) := Same.new' (Same.refl _) h3
  have hS := hS.same1 s
  have hA := hA.same s
  have kS := keep1 kS s
  have ep1 := s _ _ ep1
  have ep2 := s _ _ ep2
  have ep3 : L2.upd G2 p3 (.lst [.ref p1, .ref p2]) p3 = some (.lst [.ref p1, .ref p2]) := upd_same
  clear s
  generalize L2.upd G2 p3 (.lst [.ref p1, .ref p2]) = G3 at *
  obtain ⟨refs, eA, qA⟩ := id hA
  have lr := Paired.length qA
  refine ⟨_, eA, Nat.lt_of_le_of_lt (by rw [List.length_map]; omega : _ ≤ 1000) (by decide), ?_⟩
  obtain ⟨f1, f2, f3⟩ := pt_end (p := [⟨"LOAD_NAME", .str "a", l10 k⟩, ⟨"POP_TOP", .non, l10 k⟩]) AS kS hS eA qA nr ⟨[p1, p2], ep3, .cons ep1 (.cons ep2 .nil)⟩
  exact kk _ _ _ _ _ _ .a f1 f2 f3
theorem pb_run {K : PySem.W.Frag} {D : Ends} {S L A : Addr} {many k st : Nat} {v7 v8 v9 v10 : Option V} {H : Hp} {ps : List (List R3)} (hS : Src H S) (hA : PsA H A ps) (hL : H L = some (.lst (labs st many))) (lp : ps.length ≤ 1000) (AS : A ≠ S) (LS : L ≠ S) (km : k < many)
    (kk : ∀ H' p v7 v8 v9 v10, PartOk st many k p → Src H' S → Kp2 S A H H' → PsA H' A (ps ++ [p]) → D.nx (Spt S L A many k 1 v7 v8 v9 v10) H') : t_pb K D (Spt S L A many k 1 v7 v8 v9 v10) H := by
  unfold t_pb Spt
  simp only [r_seq, r_next, r_brk, r_cont, r_asg, r_name, r_ret, r_retN, r_drop, r_ifs, r_never, r_var, r_c, r_op, r_un, r_if, r_tst, r_b, r_not, r_and, r_or, r_andV, r_orV, r_notV, r_nil, r_cons, r_tup, r_lst, r_cb, r_call, r_bm, r_bm0, r_sl, r_nopart, r_part, r_rev, r_gnil, r_gcons, r_gsub, r_par, r_aug, r_chain, r_I0, r_I, r_U, r_ixd, r_lend, r_tupd, r_listd, r_sld, r_app, r_ext, r_reverse, r_setl, r_cat, r_int1, r_eqS, r_neS, scal_ii, scal_bb, scal_ss, at0, at1, at2, sq_lst, sq_tup, isLst_lst, List.getElem?_cons_zero, List.getElem?_cons_succ, List.set_cons_zero, List.set_cons_succ, V.int.injEq, V.bl.injEq, V.ref.injEq, V.str.injEq, HO.lst.injEq, HO.tup.injEq, Option.some.injEq, exists_eq_left', exists_eq_left, List.cons.injEq, and_true, true_and, decide_eq_true_eq, reduceCtorEq, false_and, exists_false, or_false, false_or, exists_const, and_assoc, exists_and_left, List.append_nil, ix0, ix1, ix2, cm_mod, cdw1009, cdw2003, cdw7, cdw64, cdw2, cm104729, cm2, cm3, upd_same, List.length_cons, List.length_nil, Int.reduceLT, Int.reduceLE, Nat.reduceAdd, Nat.reduceLeDiff, Nat.reduceLT, Int.reduceToNat, r_for1, r_forL, r_forT, r_lcL, r_lc1, r_yes, r_gtupD, wipe_0, wipe_1, List.cons_append, List.nil_append, r_forS, r_ipI, ite_false, ite_true, Bool.not_true, Bool.not_false, decide_true, decide_false, r_isd, r_islt, cD_ty, cD_ref, tD_non, tD_bl, tD_int, tD_str, tD_ref, tH_lst, tH_tup, tH_dK, tH_ins, ki_self, ki_int_bool, ki_non_int, ki_str_int, ki_lt_lst, ki_lt_tup, r_fld, r_sfld, HO.ins.injEq, cx_K]
  have kS : Keep S H H := Keep.refl S H
  refine ⟨szl (by decide), fun pw hw => ?_⟩
  have nw : pw ≠ S := hS.ne hw
  have s : Same H (L2.upd H pw (.lst [.str "JUMP", .str "JUMP_NO_INTERRUPT"])) := Same.new' (Same.refl _) hw
  have hS := hS.same1 s
  have hA := hA.same s
  have kS := keep1 kS s
  have hL := s _ _ hL
  have epw : L2.upd H pw (.lst [.str "JUMP", .str "JUMP_NO_INTERRUPT"]) pw = some (.lst [.str "JUMP", .str "JUMP_NO_INTERRUPT"]) := upd_same
  clear s
  generalize L2.upd H pw (.lst [.str "JUMP", .str "JUMP_NO_INTERRUPT"]) = G4 at *
  refine ⟨S, pw, _, rfl, hS, nw, epw, by decide, by decide, fun v H2 hv k2 s2 => ?_⟩
  obtain ⟨z, rfl, hz⟩ := dir_of hv
  have hL := k2 _ _ LS hL
  have hA := hA.keep k2 hS AS
  have kS := kS.trans k2
  have hS := s2
  clear k2 s2 epw
  refine ⟨_, by rw [hL]; rfl, _, labs_at km, szl (by decide), fun p1 h1 => ?_⟩
  have s : Same H2 (L2.upd H2 p1 (.tup [.str "POP_JUMP_IF_NONE", .int (st * k : Nat), .int (10 + (k : Nat))])) := Same.new' (Same.refl _) h1
  have hS := hS.same1 s
  have hA := hA.same s
  have kS := keep1 kS s
  have ep1 : L2.upd H2 p1 (.tup [.str "POP_JUMP_IF_NONE", .int (st * k : Nat), .int (10 + (k : Nat))]) p1 = some (.tup [.str "POP_JUMP_IF_NONE", .int (st * k : Nat), .int (10 + (k : Nat))]) := upd_same
  clear s
  generalize L2.upd H2 p1 (.tup [.str "POP_JUMP_IF_NONE", .int (st * k : Nat), .int (10 + (k : Nat))]) = G5 at *
  refine ⟨_, rfl, szl (by decide), fun p2 h2 => ?_⟩
  have s : Same G5 (L2.upd G5 p2 (.tup [.str z, .int ((st * k : Nat) + 1), .int (10 + (k : Nat))])) := Same.new' (Same.refl _) h2
  have hS := hS.same1 s
  have hA := hA.same s
  have kS := keep1 kS s
  have ep1 := s _ _ ep1
  have ep2 : L2.upd G5 p2 (.tup [.str z, .int ((st * k : Nat) + 1), .int (10 + (k : Nat))]) p2 = some (.tup [.str z, .int ((st * k : Nat) + 1), .int (10 + (k : Nat))]) := upd_same
  clear s
  generalize L2.upd G5 p2 (.tup [.str z, .int ((st * k : Nat) + 1), .int (10 + (k : Nat))]) = G6 at *
  refine ⟨szl (by decide), fun p3 h3 => ?_⟩
  have s : Same G6 (L2.upd G6 p3 (.tup [.str "LABEL", .int (st * k : Nat), .non])) := Same.new' (Same.refl _) h3
  have hS := hS.same1 s
  have hA := hA.same s
  have kS := keep1 kS s
  have ep1 := s _ _ ep1
  have ep2 := s _ _ ep2
  have ep3 : L2.upd G6 p3 (.tup [.str "LABEL", .int (st * k : Nat), .non]) p3 = some (.tup [.str "LABEL", .int (st * k : Nat), .non]) := upd_same
  clear s
  generalize L2.upd G6 p3 (.tup [.str "LABEL", .int (st * k : Nat), .non]) = G7 at *
  refine ⟨szl (by decide), fun p4 h4 => ?_⟩
  have s : Same G7 (L2.upd G7 p4 (.lst [.ref p1, .ref p2, .ref p3])) := Same.new' (Same.refl _) h4
  have hS := hS.same1 s
  have hA := hA.same s
  have kS := keep1 kS s
  have ep1 := s _ _ ep1
  have ep2 := s _ _ ep2
  have ep3 := s _ _ ep3
  have ep4 : L2.upd G7 p4 (.lst [.ref p1, .ref p2, .ref p3]) p4 = some (.lst [.ref p1, .ref p2, .ref p3]) := upd_same
  clear s
  generalize L2.upd G7 p4 (.lst [.ref p1, .ref p2, .ref p3]) = G8 at *
  refine ⟨tyl0 hA, szl (by decide), fun p5 h5 => ?_⟩
  have s : Same G8 (L2.upd G8 p5 (.tup [.str "LOAD_NAME", .str "b", .int (10 + (k : Nat))])) := Same.new' (Same.refl _) h5
  have hS := hS.same1 s
  have hA := hA.same s
  have kS := keep1 kS s
  have ep1 := s _ _ ep1
  have ep2 := s _ _ ep2
  have ep3 := s _ _ ep3
  have ep4 := s _ _ ep4
  have ep5 : L2.upd G8 p5 (.tup [.str "LOAD_NAME", .str "b", .int (10 + (k : Nat))]) p5 = some (.tup [.str "LOAD_NAME", .str "b", .int (10 + (k : Nat))]) := upd_same
  clear s
  generalize L2.upd G8 p5 (.tup [.str "LOAD_NAME", .str "b", .int (10 + (k : Nat))]) = G9 at *
  refine ⟨szl (by decide), fun p6 h6 => ?_⟩
  have s : Same G9 (L2.upd G9 p6 (.lst [.ref p5])) := Same.new' (Same.refl _) h6
  have hS := hS.same1 s
  have hA := hA.same s
  have kS := keep1 kS s
  have ep1 := s _ _ ep1
  have ep2 := s _ _ ep2
  have ep3 := s _ _ ep3
  have ep4 := s _ _ ep4
  have ep5 := s _ _ ep5
  have ep6 : L2.upd G9 p6 (.lst [.ref p5]) p6 = some (.lst [.ref p5]) := upd_same
  clear s
  generalize L2.upd G9 p6 (.lst [.ref p5]) = G10 at *
  refine ⟨_, ep4, szl (by simp), fun p7 h7 => ?_⟩
  have s : Same G10 (L2.upd G10 p7 (.lst [.ref p5, .ref p1, .ref p2, .ref p3])) := Same.new' (Same.refl _) h7
  have hS := hS.same1 s
  have hA := hA.same s
  have kS := keep1 kS s
  have ep1 := s _ _ ep1
  have ep2 := s _ _ ep2
  have ep3 := s _ _ ep3
  have ep4 := s _ _ ep4
  have ep5 := s _ _ ep5
  have ep6 := s _ _ ep6
  have ep7 : L2.upd G10 p7 (.lst [.ref p5, .ref p1, .ref p2, .ref p3]) p7 = some (.lst [.ref p5, .ref p1, .ref p2, .ref p3]) := upd_same
  clear s
  generalize L2.upd G10 p7 (.lst [.ref p5, .ref p1, .ref p2, .ref p3]) = G11 at *
  refine ⟨szl (by decide), fun p8 h8 => ?_⟩
  have s : Same G11 (L2.upd G11 p8 (.tup [.str "NOP", .non, .int (10 + (k : Nat))])) := Same.new' (Same.refl _) h8
  have hS := hS.same1 s
  have hA := hA.same s
  have kS := keep1 kS s
  have ep1 := s _ _ ep1
  have ep2 := s _ _ ep2
  have ep3 := s _ _ ep3
  have ep4 := s _ _ ep4
  have ep5 := s _ _ ep5
  have ep6 := s _ _ ep6
  have ep7 := s _ _ ep7
  have ep8 : L2.upd G11 p8 (.tup [.str "NOP", .non, .int (10 + (k : Nat))]) p8 = some (.tup [.str "NOP", .non, .int (10 + (k : Nat))]) := upd_same
  clear s
  generalize L2.upd G11 p8 (.tup [.str "NOP", .non, .int (10 + (k : Nat))]) = G12 at *
  refine ⟨_, rfl, szl (by decide), fun p9 h9 => ?_⟩
  have s : Same G12 (L2.upd G12 p9 (.tup [.str "LABEL", .int ((st * k : Nat) + 1), .non])) := Same.new' (Same.refl _) h9
  have hS := hS.same1 s
  have hA := hA.same s
  have kS := keep1 kS s
  have ep1 := s _ _ ep1
  have ep2 := s _ _ ep2
  have ep3 := s _ _ ep3
  have ep4 := s _ _ ep4
  have ep5 := s _ _ ep5
  have ep6 := s _ _ ep6
  have ep7 := s _ _ ep7
  have ep8 := s _ _ ep8
  have ep9 : L2.upd G12 p9 (.tup [.str "LABEL", .int ((st * k : Nat) + 1), .non]) p9 = some (.tup [.str "LABEL", .int ((st * k : Nat) + 1), .non]) := upd_same
  clear s
  generalize L2.upd G12 p9 (.tup [.str "LABEL", .int ((st * k : Nat) + 1), .non]) = G13 at *
  refine ⟨szl (by decide), fun p10 h10 => ?_⟩
  have s : Same G13 (L2.upd G13 p10 (.lst [.ref p8, .ref p9])) := Same.new' (Same.refl _) h10
  have hS := hS.same1 s
  have hA := hA.same s
  have kS := keep1 kS s
  have ep1 := s _ _ ep1
  have ep2 := s _ _ ep2
  have ep3 := s _ _ ep3
  have ep4 := s _ _ ep4
  have ep5 := s _ _ ep5
  have ep6 := s _ _ ep6
  have ep7 := s _ _ ep7
  have ep8 := s _ _ ep8
  have ep9 := s _ _ ep9
  have ep10 : L2.upd G13 p10 (.lst [.ref p8, .ref p9]) p10 = some (.lst [.ref p8, .ref p9]) := upd_same
  clear s
  generalize L2.upd G13 p10 (.lst [.ref p8, .ref p9]) = G14 at *
  refine ⟨_, ep7, szl (by simp), fun p11 h11 => ?_⟩
  have nr := nr_of hA h11
  have s : Same G14 (L2.upd G14 p11 (.lst ([.ref p5, .ref p1, .ref p2, .ref p3] ++ [.ref p8, .ref p9]))) := Same.new' (Same.refl _) h11
  have hS := hS.same1 s
  have hA := hA.same s
  have kS := keep1 kS s
  have ep1 := s _ _ ep1
  have ep2 := s _ _ ep2
  have ep3 := s _ _ ep3
  have ep4 := s _ _ ep4
  have ep5 := s _ _ ep5
  have ep6 := s _ _ ep6
  have ep7 := s _ _ ep7
  have ep8 := s _ _ ep8
  have ep9 := s _ _ ep9
  have ep10 := s _ _ ep10
  have ep11 : L2.upd G14 p11 (.lst ([.ref p5, .ref p1, .ref p2, .ref p3] ++ [.ref p8, .ref p9])) p11 = some (.lst ([.ref p5, .ref p1, .ref p2, .ref p3] ++ [.ref p8, .ref p9])) := upd_same
  clear s
  generalize L2.upd G14 p11 (.lst ([.ref p5, .ref p1, .ref p2, .ref p3] ++ [.ref p8, .ref p9])) = G15 at *
  obtain ⟨refs, eA, qA⟩ := id hA
  have lr := Paired.length qA
  refine ⟨_, eA, Nat.lt_of_le_of_lt (by rw [List.length_map]; omega : _ ≤ 1000) (by decide), ?_⟩
  obtain ⟨f1, f2, f3⟩ := pt_end (p := [⟨"LOAD_NAME", .str "b", l10 k⟩, ⟨"POP_JUMP_IF_NONE", .int (st * k : Nat), l10 k⟩, ⟨z, .int (st * k + 1 : Nat), l10 k⟩, ⟨"LABEL", .int (st * k : Nat), none⟩, ⟨"NOP", .non, l10 k⟩, ⟨"LABEL", .int (st * k + 1 : Nat), none⟩]) AS kS hS eA qA nr ⟨[p5, p1, p2, p3, p8, p9], ep11, .cons ep5 (.cons ep1 (.cons ep2 (.cons ep3 (.cons ep8 (.cons ep9 .nil)))))⟩
  exact kk _ _ _ _ _ _ (.b z hz) f1 f2 f3
theorem pc_run {K : PySem.W.Frag} {D : Ends} {S L A : Addr} {many k st : Nat} {kind : Int} {v7 v8 v9 v10 : Option V} {H : Hp} {ps : List (List R3)} (hS : Src H S) (hA : PsA H A ps) (hL : H L = some (.lst (labs st many))) (lp : ps.length ≤ 1000) (AS : A ≠ S) (LS : L ≠ S) (km : k < many) (lm : many ≤ 100)
    (kk : ∀ H' p v7 v8 v9 v10, PartOk st many k p → Src H' S → Kp2 S A H H' → PsA H' A (ps ++ [p]) → D.nx (Spt S L A many k kind v7 v8 v9 v10) H') : t_pc K D (Spt S L A many k kind v7 v8 v9 v10) H := by
  unfold t_pc Spt
  simp only [r_seq, r_next, r_brk, r_cont, r_asg, r_name, r_ret, r_retN, r_drop, r_ifs, r_never, r_var, r_c, r_op, r_un, r_if, r_tst, r_b, r_not, r_and, r_or, r_andV, r_orV, r_notV, r_nil, r_cons, r_tup, r_lst, r_cb, r_call, r_bm, r_bm0, r_sl, r_nopart, r_part, r_rev, r_gnil, r_gcons, r_gsub, r_par, r_aug, r_chain, r_I0, r_I, r_U, r_ixd, r_lend, r_tupd, r_listd, r_sld, r_app, r_ext, r_reverse, r_setl, r_cat, r_int1, r_eqS, r_neS, scal_ii, scal_bb, scal_ss, at0, at1, at2, sq_lst, sq_tup, isLst_lst, List.getElem?_cons_zero, List.getElem?_cons_succ, List.set_cons_zero, List.set_cons_succ, V.int.injEq, V.bl.injEq, V.ref.injEq, V.str.injEq, HO.lst.injEq, HO.tup.injEq, Option.some.injEq, exists_eq_left', exists_eq_left, List.cons.injEq, and_true, true_and, decide_eq_true_eq, reduceCtorEq, false_and, exists_false, or_false, false_or, exists_const, and_assoc, exists_and_left, List.append_nil, ix0, ix1, ix2, cm_mod, cdw1009, cdw2003, cdw7, cdw64, cdw2, cm104729, cm2, cm3, upd_same, List.length_cons, List.length_nil, Int.reduceLT, Int.reduceLE, Nat.reduceAdd, Nat.reduceLeDiff, Nat.reduceLT, Int.reduceToNat, r_for1, r_forL, r_forT, r_lcL, r_lc1, r_yes, r_gtupD, wipe_0, wipe_1, List.cons_append, List.nil_append, r_forS, r_ipI, ite_false, ite_true, Bool.not_true, Bool.not_false, decide_true, decide_false, r_isd, r_islt, cD_ty, cD_ref, tD_non, tD_bl, tD_int, tD_str, tD_ref, tH_lst, tH_tup, tH_dK, tH_ins, ki_self, ki_int_bool, ki_non_int, ki_str_int, ki_lt_lst, ki_lt_tup, r_fld, r_sfld, HO.ins.injEq, cx_K]
  have kS : Keep S H H := Keep.refl S H
  refine ⟨rfl, fun pw H1 hw s1 epw => ?_⟩
  have nw : pw ≠ S := hS.ne hw
  have hL := s1 _ _ hL
  have hA := hA.same s1
  have kS := keep1 kS s1
  have hS := hS.same1 s1
  refine ⟨S, pw, _, rfl, hS, nw, epw, by decide, by decide, fun v H2 hv k2 s2 => ?_⟩
  obtain ⟨z, rfl, hz⟩ := tst_of hv
  have hL := k2 _ _ LS hL
  have hA := hA.keep k2 hS AS
  have kS := kS.trans k2
  have hS := s2
  clear k2 s2 epw s1
  refine ⟨S, many, rfl, hS, by omega, Int.lt_of_le_of_lt (by omega : (many : Int) ≤ 100) (by decide), fun r H3 r0 r1 k3 s3 => ?_⟩
  obtain ⟨g, rfl⟩ : ∃ g : Nat, r = g := ⟨r.toNat, by omega⟩
  have hg : g < many := by omega
  have hL := k3 _ _ LS hL
  have hA := hA.keep k3 hS AS
  have kS := kS.trans k3
  have hS := s3
  clear k3 s3
  refine ⟨tyl0 hA, szl (by decide), fun p1 h1 => ?_⟩
  have s : Same H3 (L2.upd H3 p1 (.tup [.str "LOAD_NAME", .str "c", .int (10 + (k : Nat))])) := Same.new' (Same.refl _) h1
  have hS := hS.same1 s
  have hA := hA.same s
  have kS := keep1 kS s
  have hL := s _ _ hL
  have ep1 : L2.upd H3 p1 (.tup [.str "LOAD_NAME", .str "c", .int (10 + (k : Nat))]) p1 = some (.tup [.str "LOAD_NAME", .str "c", .int (10 + (k : Nat))]) := upd_same
  clear s
  generalize L2.upd H3 p1 (.tup [.str "LOAD_NAME", .str "c", .int (10 + (k : Nat))]) = G16 at *
  refine ⟨szl (by decide), fun p2 h2 => ?_⟩
  have s : Same G16 (L2.upd G16 p2 (.tup [.str "TO_BOOL", .non, .int (10 + (k : Nat))])) := Same.new' (Same.refl _) h2
  have hS := hS.same1 s
  have hA := hA.same s
  have kS := keep1 kS s
  have hL := s _ _ hL
  have ep1 := s _ _ ep1
  have ep2 : L2.upd G16 p2 (.tup [.str "TO_BOOL", .non, .int (10 + (k : Nat))]) p2 = some (.tup [.str "TO_BOOL", .non, .int (10 + (k : Nat))]) := upd_same
  clear s
  generalize L2.upd G16 p2 (.tup [.str "TO_BOOL", .non, .int (10 + (k : Nat))]) = G17 at *
  refine ⟨_, rfl, _, by rw [hL]; rfl, _, labs_at hg, _, rfl, szl (by decide), fun p3 h3 => ?_⟩
  have s : Same G17 (L2.upd G17 p3 (.tup [.str z, .int ((st * g : Nat) + 2), .int (10 + (k : Nat))])) := Same.new' (Same.refl _) h3
  have hS := hS.same1 s
  have hA := hA.same s
  have kS := keep1 kS s
  have hL := s _ _ hL
  have ep1 := s _ _ ep1
  have ep2 := s _ _ ep2
  have ep3 : L2.upd G17 p3 (.tup [.str z, .int ((st * g : Nat) + 2), .int (10 + (k : Nat))]) p3 = some (.tup [.str z, .int ((st * g : Nat) + 2), .int (10 + (k : Nat))]) := upd_same
  clear s
  generalize L2.upd G17 p3 (.tup [.str z, .int ((st * g : Nat) + 2), .int (10 + (k : Nat))]) = G18 at *
  refine ⟨szl (by decide), fun p4 h4 => ?_⟩
  have nr := nr_of hA h4
  have s : Same G18 (L2.upd G18 p4 (.lst [.ref p1, .ref p2, .ref p3])) := Same.new' (Same.refl _) h4
  have hS := hS.same1 s
  have hA := hA.same s
  have kS := keep1 kS s
  have hL := s _ _ hL
  have ep1 := s _ _ ep1
  have ep2 := s _ _ ep2
  have ep3 := s _ _ ep3
  have ep4 : L2.upd G18 p4 (.lst [.ref p1, .ref p2, .ref p3]) p4 = some (.lst [.ref p1, .ref p2, .ref p3]) := upd_same
  clear s
  generalize L2.upd G18 p4 (.lst [.ref p1, .ref p2, .ref p3]) = G19 at *
  obtain ⟨refs, eA, qA⟩ := id hA
  have lr := Paired.length qA
  refine ⟨_, eA, Nat.lt_of_le_of_lt (by rw [List.length_map]; omega : _ ≤ 1000) (by decide), ?_⟩
  obtain ⟨f1, f2, f3⟩ := pt_end (p := [⟨"LOAD_NAME", .str "c", l10 k⟩, ⟨"TO_BOOL", .non, l10 k⟩, ⟨z, .int (st * g + 2 : Nat), l10 k⟩]) AS kS hS eA qA nr ⟨[p1, p2, p3], ep4, .cons ep1 (.cons ep2 (.cons ep3 .nil))⟩
  exact kk _ _ _ _ _ _ (.c z g hz hg) f1 f2 f3
/-! ### the parts -/
def PartsOk (st many : Nat) (ps : List (List R3)) : Prop := ∀ (k : Nat) (p : List R3), ps[k]? = some p → PartOk st many k p
def spPts : Sp := fun vs H Q _ => ∃ (S L : Addr) (n st : Nat), vs = [.ref S, .ref L, .int (n : Nat)] ∧ Src H S ∧ L ≠ S ∧ H L = some (.lst (labs st n)) ∧ n ≤ 100 ∧ ∀ (A : Addr) (ps : List (List R3)) H', ps.length = n → PartsOk st n ps → Src H' S → Keep S H H' → H A = none → PsA H' A ps → Q (.ref A) H'
def LvP (S L A : Addr) (many st : Nat) (H0 : Hp) (i : Nat) (σ : L2.St) (H : Hp) : Prop := ∃ (ps : List (List R3)) (v4 v5 v6 v7 v8 v9 v10 : Option V), σ = [some (.ref S), some (.ref L), some (.int (many : Nat)), some (.ref A), v4, v5, v6, v7, v8, v9, v10] ∧ ps.length = i ∧ PartsOk st many ps ∧ Src H S ∧ Kp2 S A H0 H ∧ PsA H A ps
section
variable {P : Program} {w : World} {K : PySem.W.Frag} {mg : Str → Option Value} {base : Heap} {f : Addr} {fd : FuncData}
abbrev spts : Stmt := top 91
theorem scpts : FnScope ["_law_source", "_law_labels", "_law_many", "_law_parts_here", "_law_k", "_law_kind", "_law_line", "_law_word", "_law_label", "_law_row", "_law_goal"] ["_law_source", "_law_labels", "_law_many"] (defScope spts) := ⟨rfl, rfl, rfl, by decide +kernel, rfl, by decide +kernel, by decide +kernel⟩

theorem ok_pts (T : Txt mg) (C_next : Cal P w K mg base 1 "_law_next" ["_law_source", "_law_many"] spNext) (C_one : Cal P w K mg base 2 "_law_one" ["_law_source", "_law_some"] spOne) (C_words : Cal P w K mg base 1 "_law_words" [] spTWs) (F : FnP K "_law_parts" "_law_parts" spts f fd) : FnOk P w K mg base CX0 3 f fd ["_law_source", "_law_labels", "_law_many"] spPts := by
  refine F.ok scpts (fun vs H Q E h => ?_) (fun cdv A outer s H vs Q E hr h => ?_)
  · obtain ⟨S, L, n, st, rfl, _⟩ := h
    rfl
  · have hu1 := hu_of hr
    refine ⟨t_pt K, PSs.nox (show PSs _ _ (t_pt K) from (pss_cons (ps_set (i := 3) scpts.nd rfl (Or.inl rfl) (pe_lst pa_nil))
  (pss_cons (ps_for PassesOwn.never rfl (pi_range1 rfl T.b_range (pa_cons (pv 2) pa_nil)) (pg_name (i := 4) scpts.nd rfl (Or.inl rfl))
    (pss_cons (ps_par (i := 5) (j := 6) (by rfl) scpts.nd rfl rfl (by decide) rfl rfl (pa_cons (pe_cal C_next (hr.mono (by decide)) rfl (pa_cons (pv 0) (pa_cons pe_int pa_nil))) (pa_cons (pe_op op_add pe_int (pv 4)) pa_nil)) (by rfl))
  (pss_one (ps_if (pt_cmpR op_eq (pv 5) pe_int (nomark _))
    (pss_one (ps_expr (pe_bm PySem.F.plainAttrs_list PySem.F.slot_list_append PySem.F.type_list_append mt_append (pv 3) (pa_cons (pe_lst (pa_cons (pe_tup (pa_cons pe_str (pa_cons pe_str (pa_cons (pv 6) pa_nil)))) (pa_cons (pe_tup (pa_cons pe_str (pa_cons pe_non (pa_cons (pv 6) pa_nil)))) pa_nil))) pa_nil))))
    (pss_one (ps_if (pt_cmpR op_eq (pv 5) pe_int (nomark _))
    (pss_cons (ps_par (i := 7) (j := 8) (by rfl) scpts.nd rfl rfl (by decide) rfl rfl (pa_cons (pe_cal C_one (hr.mono (by decide)) rfl (pa_cons (pv 0) (pa_cons (pe_lst (pa_cons pe_str (pa_cons pe_str pa_nil))) pa_nil))) (pa_cons (pe_ix ix_d (pv 1) (pv 4) (fun _ _ => rfl)) pa_nil)) (by rfl))
  (pss_cons (ps_set (i := 9) scpts.nd rfl (Or.inl rfl) (pe_lst (pa_cons (pe_tup (pa_cons pe_str (pa_cons (pv 8) (pa_cons (pv 6) pa_nil)))) (pa_cons (pe_tup (pa_cons (pv 7) (pa_cons (pe_op op_add (pv 8) pe_int) (pa_cons (pv 6) pa_nil)))) (pa_cons (pe_tup (pa_cons pe_str (pa_cons (pv 8) (pa_cons pe_non pa_nil)))) pa_nil)))))
  (pss_one (ps_expr (pe_bm PySem.F.plainAttrs_list PySem.F.slot_list_append PySem.F.type_list_append mt_append (pv 3) (pa_cons (pe_op op_cat (pe_op op_cat (pe_lst (pa_cons (pe_tup (pa_cons pe_str (pa_cons pe_str (pa_cons (pv 6) pa_nil)))) pa_nil)) (pv 9)) (pe_lst (pa_cons (pe_tup (pa_cons pe_str (pa_cons pe_non (pa_cons (pv 6) pa_nil)))) (pa_cons (pe_tup (pa_cons pe_str (pa_cons (pe_op op_add (pv 8) pe_int) (pa_cons pe_non pa_nil)))) pa_nil)))) pa_nil))))))
    (pss_cons (ps_par (i := 7) (j := 10) (by rfl) scpts.nd rfl rfl (by decide) rfl rfl (pa_cons (pe_cal C_one (hr.mono (by decide)) rfl (pa_cons (pv 0) (pa_cons (pe_cal0 C_words (hr.mono (by decide)) rfl) pa_nil))) (pa_cons (pe_cal C_next (hr.mono (by decide)) rfl (pa_cons (pv 0) (pa_cons (pv 2) pa_nil))) pa_nil)) (by rfl))
  (pss_one (ps_expr (pe_bm PySem.F.plainAttrs_list PySem.F.slot_list_append PySem.F.type_list_append mt_append (pv 3) (pa_cons (pe_lst (pa_cons (pe_tup (pa_cons pe_str (pa_cons pe_str (pa_cons (pv 6) pa_nil)))) (pa_cons (pe_tup (pa_cons pe_str (pa_cons pe_non (pa_cons (pv 6) pa_nil)))) (pa_cons (pe_tup (pa_cons (pv 7) (pa_cons (pe_op op_add (pe_ix ix_d (pv 1) (pv 10) (fun _ _ => rfl)) pe_int) (pa_cons (pv 6) pa_nil)))) pa_nil)))) pa_nil)))))))))))
  (pss_one (ps_ret (pv 3)))))), ?_⟩
    obtain ⟨S, L, n, st, rfl, hS, LS, hL, ln, kQ⟩ := h
    show (_ : TS) _ [some (.ref S), some (.ref L), some (.int (n : Nat)), none, none, none, none, none, none, none, none] H
    unfold t_pt
    simp only [r_seq, r_next, r_brk, r_cont, r_asg, r_name, r_ret, r_retN, r_drop, r_ifs, r_never, r_var, r_c, r_op, r_un, r_if, r_tst, r_b, r_not, r_and, r_or, r_andV, r_orV, r_notV, r_nil, r_cons, r_tup, r_lst, r_cb, r_call, r_bm, r_bm0, r_sl, r_nopart, r_part, r_rev, r_gnil, r_gcons, r_gsub, r_par, r_aug, r_chain, r_I0, r_I, r_U, r_ixd, r_lend, r_tupd, r_listd, r_sld, r_app, r_ext, r_reverse, r_setl, r_cat, r_int1, r_eqS, r_neS, scal_ii, scal_bb, scal_ss, at0, at1, at2, sq_lst, sq_tup, isLst_lst, List.getElem?_cons_zero, List.getElem?_cons_succ, List.set_cons_zero, List.set_cons_succ, V.int.injEq, V.bl.injEq, V.ref.injEq, V.str.injEq, HO.lst.injEq, HO.tup.injEq, Option.some.injEq, exists_eq_left', exists_eq_left, List.cons.injEq, and_true, true_and, decide_eq_true_eq, reduceCtorEq, false_and, exists_false, or_false, false_or, exists_const, and_assoc, exists_and_left, List.append_nil, ix0, ix1, ix2, cm_mod, cdw1009, cdw2003, cdw7, cdw64, cdw2, cm104729, cm2, cm3, upd_same, List.length_cons, List.length_nil, Int.reduceLT, Int.reduceLE, Nat.reduceAdd, Nat.reduceLeDiff, Nat.reduceLT, Int.reduceToNat, r_for1, r_forL, r_forT, r_lcL, r_lc1, r_yes, r_gtupD, wipe_0, wipe_1, List.cons_append, List.nil_append, r_forS, r_ipI, ite_false, ite_true, Bool.not_true, Bool.not_false, decide_true, decide_false, r_isd, r_islt, cD_ty, cD_ref, tD_non, tD_bl, tD_int, tD_str, tD_ref, tH_lst, tH_tup, tH_dK, tH_ins, ki_self, ki_int_bool, ki_non_int, ki_str_int, ki_lt_lst, ki_lt_tup, r_fld, r_sfld, HO.ins.injEq, cx_K]
    refine ⟨Nat.zero_le _, fun A hA0 => ⟨by omega, by omega, ?_⟩⟩
    rw [show ((n : Nat) : Int).toNat = n from Int.toNat_natCast n]
    have AS : A ≠ S := hS.ne hA0
    have LA : L ≠ A := ne_new hL hA0
    have s1 : Same H (L2.upd H A (.lst [])) := Same.new' (Same.refl H) hA0
    refine lp_rng (LvP S L A n st H) ⟨[], none, none, none, none, none, none, none, rfl, rfl, (fun k p e => (nomatch e)), hS.same1 s1, Kp2.same s1, ⟨[], upd_same, .nil⟩⟩ ?_ ?_
    · rintro i σ H2 hi ⟨ps, u4, u5, u6, u7, u8, u9, u10, rfl, li, okp, hS2, k2, hA2⟩
      have hL2 := k2 _ _ LS LA hL
      unfold t_p
      simp only [r_seq, r_next, r_brk, r_cont, r_asg, r_name, r_ret, r_retN, r_drop, r_ifs, r_never, r_var, r_c, r_op, r_un, r_if, r_tst, r_b, r_not, r_and, r_or, r_andV, r_orV, r_notV, r_nil, r_cons, r_tup, r_lst, r_cb, r_call, r_bm, r_bm0, r_sl, r_nopart, r_part, r_rev, r_gnil, r_gcons, r_gsub, r_par, r_aug, r_chain, r_I0, r_I, r_U, r_ixd, r_lend, r_tupd, r_listd, r_sld, r_app, r_ext, r_reverse, r_setl, r_cat, r_int1, r_eqS, r_neS, scal_ii, scal_bb, scal_ss, at0, at1, at2, sq_lst, sq_tup, isLst_lst, List.getElem?_cons_zero, List.getElem?_cons_succ, List.set_cons_zero, List.set_cons_succ, V.int.injEq, V.bl.injEq, V.ref.injEq, V.str.injEq, HO.lst.injEq, HO.tup.injEq, Option.some.injEq, exists_eq_left', exists_eq_left, List.cons.injEq, and_true, true_and, decide_eq_true_eq, reduceCtorEq, false_and, exists_false, or_false, false_or, exists_const, and_assoc, exists_and_left, List.append_nil, ix0, ix1, ix2, cm_mod, cdw1009, cdw2003, cdw7, cdw64, cdw2, cm104729, cm2, cm3, upd_same, List.length_cons, List.length_nil, Int.reduceLT, Int.reduceLE, Nat.reduceAdd, Nat.reduceLeDiff, Nat.reduceLT, Int.reduceToNat, r_for1, r_forL, r_forT, r_lcL, r_lc1, r_yes, r_gtupD, wipe_0, wipe_1, List.cons_append, List.nil_append, r_forS, r_ipI, ite_false, ite_true, Bool.not_true, Bool.not_false, decide_true, decide_false, r_isd, r_islt, cD_ty, cD_ref, tD_non, tD_bl, tD_int, tD_str, tD_ref, tH_lst, tH_tup, tH_dK, tH_ins, ki_self, ki_int_bool, ki_non_int, ki_str_int, ki_lt_lst, ki_lt_tup, r_fld, r_sfld, HO.ins.injEq, cx_K]
      have fin : ∀ {kind : Int} H3, Keep S H2 H3 → ∀ H' p v7 v8 v9 v10, PartOk st n i p → Src H' S → Kp2 S A H3 H' → PsA H' A (ps ++ [p]) → LvP S L A n st H (i + 1) (Spt S L A n i kind v7 v8 v9 v10) H' := fun {kind} H3 k3 H' p v7 v8 v9 v10 hp s4 k4 hA4 => by
        refine ⟨ps ++ [p], _, _, _, v7, v8, v9, v10, rfl, by rw [List.length_append, List.length_singleton, li], fun j q hq => ?_, s4, k2.trans ((Kp2.keep k3).trans k4), hA4⟩
        by_cases c : j < ps.length
        · rw [List.getElem?_append_left c] at hq
          exact okp j q hq
        · rw [List.getElem?_append_right (by omega)] at hq
          have e0 : j - ps.length = 0 := by
            cases z : j - ps.length with
            | zero => rfl
            | succ m => rw [z] at hq; cases hq
          rw [e0] at hq
          cases hq
          rw [show j = i by omega]
          exact hp
      refine ⟨S, 4, rfl, hS2, by decide, by decide, fun r H3 r0 r1 k3 s3 => ?_⟩
      have hL3 := k3 _ _ LS hL2
      have hA3 := hA2.keep k3 hS2 AS
      simp only [r_seq, r_next, r_brk, r_cont, r_asg, r_name, r_ret, r_retN, r_drop, r_ifs, r_never, r_var, r_c, r_op, r_un, r_if, r_tst, r_b, r_not, r_and, r_or, r_andV, r_orV, r_notV, r_nil, r_cons, r_tup, r_lst, r_cb, r_call, r_bm, r_bm0, r_sl, r_nopart, r_part, r_rev, r_gnil, r_gcons, r_gsub, r_par, r_aug, r_chain, r_I0, r_I, r_U, r_ixd, r_lend, r_tupd, r_listd, r_sld, r_app, r_ext, r_reverse, r_setl, r_cat, r_int1, r_eqS, r_neS, scal_ii, scal_bb, scal_ss, at0, at1, at2, sq_lst, sq_tup, isLst_lst, List.getElem?_cons_zero, List.getElem?_cons_succ, List.set_cons_zero, List.set_cons_succ, V.int.injEq, V.bl.injEq, V.ref.injEq, V.str.injEq, HO.lst.injEq, HO.tup.injEq, Option.some.injEq, exists_eq_left', exists_eq_left, List.cons.injEq, and_true, true_and, decide_eq_true_eq, reduceCtorEq, false_and, exists_false, or_false, false_or, exists_const, and_assoc, exists_and_left, List.append_nil, ix0, ix1, ix2, cm_mod, cdw1009, cdw2003, cdw7, cdw64, cdw2, cm104729, cm2, cm3, upd_same, List.length_cons, List.length_nil, Int.reduceLT, Int.reduceLE, Nat.reduceAdd, Nat.reduceLeDiff, Nat.reduceLT, Int.reduceToNat, r_for1, r_forL, r_forT, r_lcL, r_lc1, r_yes, r_gtupD, wipe_0, wipe_1, List.cons_append, List.nil_append, r_forS, r_ipI, ite_false, ite_true, Bool.not_true, Bool.not_false, decide_true, decide_false, r_isd, r_islt, cD_ty, cD_ref, tD_non, tD_bl, tD_int, tD_str, tD_ref, tH_lst, tH_tup, tH_dK, tH_ins, ki_self, ki_int_bool, ki_non_int, ki_str_int, ki_lt_lst, ki_lt_tup, r_fld, r_sfld, HO.ins.injEq, cx_K]
      by_cases c0 : r = 0
      · subst c0
        rw [if_pos rfl]
        exact pa_run s3 hA3 (by omega) AS (fin H3 k3)
      · rw [if_neg c0]
        by_cases c1 : r = 1
        · subst c1
          rw [if_pos rfl]
          exact pb_run s3 hA3 hL3 (by omega) AS LS hi (fin H3 k3)
        · rw [if_neg c1]
          exact pc_run s3 hA3 hL3 (by omega) AS LS hi ln (fin H3 k3)
    · rintro σ H2 ⟨ps, u4, u5, u6, u7, u8, u9, u10, rfl, li, okp, hS2, k2, hA2⟩
      refine ⟨_, rfl, kQ A ps H2 li okp hS2 (fun b o nS e => k2 _ _ nS (ne_new e hA0) e) hA0 hA2⟩
end
end C38

set_option maxHeartbeats 2000000
namespace C38
open PySem PySem.Spec PyProof.Rows L2
/-! ### the rows -/
/-- a jump's word by its text -/
def LW : List Str := (["LOAD_NAME", "POP_TOP", "POP_JUMP_IF_FALSE", "POP_JUMP_IF_TRUE", "POP_JUMP_IF_NONE", "POP_JUMP_IF_NOT_NONE", "JUMP", "JUMP_NO_INTERRUPT", "LABEL", "NOP", "TO_BOOL", "RETURN_VALUE"] : List Str)
theorem jump_in : ∀ z ∈ LW, (!(Builtin.Str.occurrences z "JUMP" 0 z.length 1).isEmpty) = leading z := by decide +kernel
theorem in_ints (z : Int) : ∀ ns : List Int, inV (.int z) (ns.map V.int) = decide (z ∈ ns)
  | [] => rfl
  | x :: r => by
    have ih := in_ints z r
    unfold inV at ih ⊢
    rw [List.map_cons, List.any_cons, ih]
    show ((x == z) || _) = _
    by_cases c : x = z
    · rw [c]; simp
    · have c' : ¬ z = x := fun e => c e.symm
      simp [c, c']
theorem flat_ints : ∀ ns : List Int, (ns.map V.int).all flatV = true
  | [] => rfl
  | z :: r => by rw [List.map_cons, List.all_cons, flat_ints r]; rfl
theorem inF_ints {K : PySem.W.Frag} {x : Addr} {z : Int} {zs : List Int} {H : Hp} {Q : VK} (hs : H x = some (.lst (zs.map V.int))) (q : Q (.bl (decide (z ∈ zs))) H) : rIn K false (.int z) (.ref x) H Q :=
  ⟨x, zs.map V.int, rfl, .inl (SqL.of hs), rfl, flat_ints _, by rw [if_neg (by decide), in_ints]; exact q⟩
theorem cp_rng0 {n : Nat} {g : TG} {tt : TT} {te : TE} {vs : List Nat} {σ : L2.St} {A : Addr} {H1 : Hp} {Q : VK} (Pv : Nat → Hp → Prop) (h0 : Pv 0 (L2.upd H1 A (.lst [])))
    (hs : ∀ i H, i < n → Pv i H → g (.int (0 + (i : Int))) (wipe σ vs) H fun σ2 H2 => wipe σ2 vs = wipe σ vs ∧ tt σ2 H2 fun b H3 =>
      if b = true then te σ2 H3 fun y H4 => ∃ acc, H4 A = some (.lst acc) ∧ acc.length < sizeLine ∧ Pv (i + 1) (L2.upd H4 A (.lst (acc ++ [y]))) else Pv (i + 1) H3) (hd : ∀ H, Pv n H → Q (.ref A) H) :
    CompR (Itr 0 n) g tt te vs σ Q A (L2.upd H1 A (.lst [])) := lc_range Pv h0 hs hd
inductive LastOk (st many : Nat) : List R3 → Prop
  | ret : LastOk st many [⟨"LOAD_NAME", .str "z", some 70⟩, ⟨"RETURN_VALUE", .non, some 70⟩]
  | jmp (z : Str) (g : Nat) (h : direct z = true) (hg : g < many) : LastOk st many [⟨z, .int (st * g + 2 : Nat), some 70⟩]
def nmI (xs : List R3) : List Int := (xs.filter fun x => leading x.w).map fun x => labI x.a
def labR (st k : Nat) : R3 := ⟨"LABEL", .int (st * k + 2 : Nat), none⟩
def asmP (st : Nat) (nm : List Int) (k : Nat) (p : List R3) : List R3 := (if ((st * k + 2 : Nat) : Int) ∈ nm then [labR st k] else []) ++ p
def asm (st : Nat) (nm : List Int) : Nat → List (List R3) → List R3
  | _, [] => []
  | k, p :: r => asmP st nm k p ++ asm st nm (k + 1) r
theorem asm_snoc (st : Nat) (nm : List Int) (p : List R3) : ∀ (ps : List (List R3)) (k : Nat), asm st nm k (ps ++ [p]) = asm st nm k ps ++ asmP st nm (k + ps.length) p
  | [], k => by show asmP st nm k p ++ [] = [] ++ asmP st nm (k + 0) p; simp
  | q :: r, k => by
    show asmP st nm k q ++ asm st nm (k + 1) (r ++ [p]) = asmP st nm k q ++ asm st nm (k + 1) r ++ _
    rw [asm_snoc st nm p r (k + 1), List.append_assoc, List.length_cons, show k + 1 + r.length = k + (r.length + 1) by omega]
structure RowW (x : R3) : Prop where
  w : x.w ∈ LW
  a : leading x.w = true → ∃ n : Int, x.a = .int n
theorem dir_lead {z : Str} (h : direct z = true) : z ∈ LW ∧ leading z = true := by
  unfold direct at h
  rw [decide_eq_true_iff, List.mem_cons, List.mem_cons] at h
  rcases h with rfl | rfl | h
  · exact ⟨by decide, by decide⟩
  · exact ⟨by decide, by decide⟩
  · cases h
theorem tst_lead {z : Str} (h : testing z = true) : z ∈ LW ∧ leading z = true := by
  unfold testing at h
  rw [decide_eq_true_iff, List.mem_cons, List.mem_cons, List.mem_cons, List.mem_cons] at h
  rcases h with rfl | rfl | rfl | rfl | h
  · exact ⟨by decide, by decide⟩
  · exact ⟨by decide, by decide⟩
  · exact ⟨by decide, by decide⟩
  · exact ⟨by decide, by decide⟩
  · cases h
theorem rw_no {z : Str} {a : V} {l : Option Int} (h : z ∈ LW) (q : leading z = false) : RowW ⟨z, a, l⟩ := ⟨h, fun e => by rw [q] at e; cases e⟩
theorem rw_in {z : Str} {n : Int} {l : Option Int} (h : z ∈ LW) : RowW ⟨z, .int n, l⟩ := ⟨h, fun _ => ⟨n, rfl⟩⟩
theorem PartOk.rw {st many k : Nat} {p : List R3} (h : PartOk st many k p) : ∀ x ∈ p, RowW x := by
  intro x hx
  cases h with
  | a =>
    simp only [List.mem_cons, List.not_mem_nil, or_false] at hx
    rcases hx with rfl | rfl <;> exact rw_no (by decide) (by decide)
  | b z hz =>
    simp only [List.mem_cons, List.not_mem_nil, or_false] at hx
    rcases hx with rfl | rfl | rfl | rfl | rfl | rfl
    · exact rw_no (by decide) (by decide)
    · exact rw_in (by decide)
    · exact rw_in (dir_lead hz).1
    · exact rw_in (by decide)
    · exact rw_no (by decide) (by decide)
    · exact rw_in (by decide)
  | c z g hz hg =>
    simp only [List.mem_cons, List.not_mem_nil, or_false] at hx
    rcases hx with rfl | rfl | rfl
    · exact rw_no (by decide) (by decide)
    · exact rw_no (by decide) (by decide)
    · exact rw_in (tst_lead hz).1
theorem LastOk.rw {st many : Nat} {p : List R3} (h : LastOk st many p) : ∀ x ∈ p, RowW x := by
  intro x hx
  cases h with
  | ret =>
    simp only [List.mem_cons, List.not_mem_nil, or_false] at hx
    rcases hx with rfl | rfl <;> exact rw_no (by decide) (by decide)
  | jmp z g hz hg =>
    simp only [List.mem_cons, List.not_mem_nil, or_false] at hx
    subst hx
    exact rw_in (dir_lead hz).1
theorem PartOk.len {st many k : Nat} {p : List R3} (h : PartOk st many k p) : p.length ≤ 6 := by cases h <;> simp
theorem LastOk.len {st many : Nat} {p : List R3} (h : LastOk st many p) : p.length ≤ 2 := by cases h <;> simp
theorem flat_len : ∀ {ps : List (List R3)}, (∀ p ∈ ps, p.length ≤ 6) → ps.flatten.length ≤ 6 * ps.length
  | [], _ => Nat.le_refl _
  | p :: r, h => by
    have := flat_len (ps := r) fun q hq => h q (List.mem_cons_of_mem _ hq)
    have := h p List.mem_cons_self
    rw [List.flatten_cons, List.length_append, List.length_cons]
    omega
theorem asm_len (st : Nat) (nm : List Int) : ∀ (ps : List (List R3)) (k : Nat), (∀ p ∈ ps, p.length ≤ 6) → (asm st nm k ps).length ≤ 7 * ps.length
  | [], _, _ => Nat.le_refl _
  | p :: r, k, h => by
    have := asm_len st nm r (k + 1) fun q hq => h q (List.mem_cons_of_mem _ hq)
    have := h p List.mem_cons_self
    show (asmP st nm k p ++ asm st nm (k + 1) r).length ≤ _
    unfold asmP
    rw [List.length_append, List.length_append, List.length_cons]
    split
    · rw [List.length_singleton]; omega
    · rw [List.length_nil]; omega
/-- what rows are drawn -/
structure RowsOk (st many : Nat) (ps : List (List R3)) (last : List R3) : Prop where
  hst : 3 ≤ st ∧ st ≤ 5
  hmn : 5 ≤ many ∧ many ≤ 30
  len : ps.length = many
  ok : PartsOk st many ps
  last : LastOk st many last
def rowsOf (st : Nat) (ps : List (List R3)) (last : List R3) : List R3 := asm st (nmI (ps.flatten ++ last)) 0 ps ++ last
theorem RsL.app {H : Hp} {G : Addr} {rg : List Addr} {xs p : List R3} (e : H G = some (.lst (rg.map V.ref))) (q : Paired (Tp H) rg xs) {rs : List Addr} (qr : Paired (Tp H) rs p) : RsL (L2.upd H G (.lst (rg.map V.ref ++ rs.map V.ref))) G (xs ++ p) := by
  have im : ∀ b x, Tp H b x → Tp (L2.upd H G (.lst (rg.map V.ref ++ rs.map V.ref))) b x := fun b x z => by
    unfold Tp at z ⊢
    rw [upd_ne (fun w => by rw [w, e] at z; cases z)]
    exact z
  exact ⟨rg ++ rs, by rw [upd_same, List.map_append], Paired.app' (Paired.map' q im) (Paired.map' qr im)⟩
def S12 (S : Addr) (many st : Nat) (v3 v4 v5 v6 v7 v8 v9 v10 v11 : Option V) : L2.St := [some (.ref S), some (.int (many : Nat)), some (.int (st : Nat)), v3, v4, v5, v6, v7, v8, v9, v10, v11]
def t_q3 : TS := tAsg (tLc (iRng1 (tCons (tVar 1) tNil)) (gName 3) tYes (tOp (rI CMul fun i j => V.int (i * j)) (tVar 2) (tVar 3)) (List.map (fun x => x.snd) [(Str.ofString "_law_k", 3)])) (gName 4)
def t_q4 : TS := tAsg (tCall spPts [] E0 (tCons (tVar 0) (tCons (tVar 4) (tCons (tVar 1) tNil)))) (gName 5)
def t_q5 : TS := tAsg (tLst (tCons (tTup (tCons (tC (V.str (Str.ofString "LOAD_NAME"))) (tCons (tC (V.str (Str.ofString "z"))) (tCons (tC (V.int 70)) tNil)))) (tCons (tTup (tCons (tC (V.str (Str.ofString "RETURN_VALUE"))) (tCons (tC V.non) (tCons (tC (V.int 70)) tNil)))) tNil))) (gName 6)
def t_q6 : TS := tIfS (tTest (tOp rEq (tCall spNext [] E0 (tCons (tVar 0) (tCons (tC (V.int 2)) tNil))) (tC (V.int 0)))) (tAsg (tLst (tCons (tTup (tCons (tCall spOne [] E0 (tCons (tVar 0) (tCons (tLst (tCons (tC (V.str (Str.ofString "JUMP"))) (tCons (tC (V.str (Str.ofString "JUMP_NO_INTERRUPT"))) tNil))) tNil))) (tCons (tOp (rI0 fun i j => V.int (i + j)) (tOp rIxd (tVar 4) (tCall spNext [] E0 (tCons (tVar 0) (tCons (tVar 1) tNil)))) (tC (V.int 2))) (tCons (tC (V.int 70)) tNil)))) tNil)) (gName 6)) tNext
def t_q8 (K : PySem.W.Frag) : TS := tFor (iList K (tOp rCat (tVar 5) (tLst (tCons (tVar 6) tNil)))) (gName 8) (tDrop (tBM K "list" rExtend (tVar 7) (tCons (tVar 8) tNil)))
def t_q9 (K : PySem.W.Frag) : TS := tAsg (tLc (iList K (tVar 7)) (gName 11) (tTest (tOp (fun x y H Q => ∃ i j, x = V.str i ∧ y = V.str j ∧ Q (V.bl !(Builtin.Str.occurrences j i 0 j.length 1).isEmpty) H) (tC (V.str (Str.ofString "JUMP"))) (tOp rIxd (tVar 11) (tC (V.int 0))))) (tOp rIxd (tVar 11) (tC (V.int 1))) (List.map (fun x => x.snd) [(Str.ofString "_law_row", 11)])) (gName 9)
def t_q11b (K : PySem.W.Frag) : TS := tSeq (tIfS (tTest (tOp (rIn K false) (tOp (rI0 fun i j => V.int (i + j)) (tOp rIxd (tVar 4) (tVar 3)) (tC (V.int 2))) (tVar 9))) (tDrop (tBM K "list" rAppend (tVar 10) (tCons (tTup (tCons (tC (V.str (Str.ofString "LABEL"))) (tCons (tOp (rI0 fun i j => V.int (i + j)) (tOp rIxd (tVar 4) (tVar 3)) (tC (V.int 2))) (tCons (tC V.non) tNil)))) tNil))) tNext) (tDrop (tBM K "list" rExtend (tVar 10) (tCons (tVar 8) tNil)))
def t_q11 (K : PySem.W.Frag) : TS := tFor (iEnumS K (tCons (tVar 5) tNil)) (gTupD 2 (gCons (gName 3) (gCons (gName 8) gNil))) (t_q11b K)
def t_q (K : PySem.W.Frag) : TS := tSeq (tAsg (tOp (rI0 fun i j => V.int (i + j)) (tC (V.int 5)) (tCall spNext [] E0 (tCons (tVar 0) (tCons (tC (V.int 26)) tNil)))) (gName 1)) (tSeq (tAsg (tOp (rI0 fun i j => V.int (i + j)) (tC (V.int 3)) (tCall spNext [] E0 (tCons (tVar 0) (tCons (tC (V.int 3)) tNil)))) (gName 2)) (tSeq t_q3 (tSeq t_q4 (tSeq t_q5 (tSeq t_q6 (tSeq (tAsg (tLst tNil) (gName 7)) (tSeq (t_q8 K) (tSeq (t_q9 K) (tSeq (tAsg (tLst tNil) (gName 10)) (tSeq (t_q11 K) (tRet (tOp rCat (tVar 10) (tVar 6)))))))))))))
theorem q3_run {D : Ends} {S : Addr} {many st : Nat} {H : Hp} (lm : many ≤ 100) (ls : st ≤ 100) (k : ∀ L v3 H', H L = none → Same H H' → H' L = some (.lst (labs st many)) → D.nx (S12 S many st v3 (some (.ref L)) none none none none none none none) H') : t_q3 D (S12 S many st none none none none none none none none none) H := by
  unfold t_q3 S12
  rw [r_asg, r_lc1]
  simp only [r_seq, r_next, r_brk, r_cont, r_asg, r_name, r_ret, r_retN, r_drop, r_ifs, r_never, r_var, r_c, r_op, r_un, r_if, r_tst, r_b, r_not, r_and, r_or, r_andV, r_orV, r_notV, r_nil, r_cons, r_tup, r_lst, r_cb, r_call, r_bm, r_bm0, r_sl, r_nopart, r_part, r_rev, r_gnil, r_gcons, r_gsub, r_par, r_aug, r_chain, r_I0, r_I, r_U, r_ixd, r_lend, r_tupd, r_listd, r_sld, r_app, r_ext, r_reverse, r_setl, r_cat, r_int1, r_eqS, r_neS, scal_ii, scal_bb, scal_ss, at0, at1, at2, sq_lst, sq_tup, isLst_lst, List.getElem?_cons_zero, List.getElem?_cons_succ, List.set_cons_zero, List.set_cons_succ, V.int.injEq, V.bl.injEq, V.ref.injEq, V.str.injEq, HO.lst.injEq, HO.tup.injEq, Option.some.injEq, exists_eq_left', exists_eq_left, List.cons.injEq, and_true, true_and, decide_eq_true_eq, reduceCtorEq, false_and, exists_false, or_false, false_or, exists_const, and_assoc, exists_and_left, List.append_nil, ix0, ix1, ix2, cm_mod, cdw1009, cdw2003, cdw7, cdw64, cdw2, cm104729, cm2, cm3, upd_same, List.length_cons, List.length_nil, Int.reduceLT, Int.reduceLE, Nat.reduceAdd, Nat.reduceLeDiff, Nat.reduceLT, Int.reduceToNat, r_for1, r_forL, r_forT, r_lcL, r_lc1, r_yes, r_gtupD, wipe_0, wipe_1, List.cons_append, List.nil_append, r_forS, r_ipI, ite_false, ite_true, Bool.not_true, Bool.not_false, decide_true, decide_false, r_isd, r_islt, cD_ty, cD_ref, tD_non, tD_bl, tD_int, tD_str, tD_ref, tH_lst, tH_tup, tH_dK, tH_ins, ki_self, ki_int_bool, ki_non_int, ki_str_int, ki_lt_lst, ki_lt_tup, r_fld, r_sfld, HO.ins.injEq, cx_K]
  refine ⟨by omega, by omega, fun L hL => ?_⟩
  rw [show ((many : Nat) : Int).toNat = many from Int.toNat_natCast many]
  refine cp_rng0 (fun i H' => Same H H' ∧ H' L = some (.lst ((List.range i).map fun k => V.int ((st * k : Nat) : Int)))) ⟨Same.new' (Same.refl H) hL, upd_same⟩ ?_ ?_
  · rintro i H2 hi ⟨s2, e2⟩
    show gName 3 (.int (0 + (i : Int))) [some (.ref S), some (.int (many : Nat)), some (.int (st : Nat)), none, none, none, none, none, none, none, none, none] H2 _
    simp only [r_seq, r_next, r_brk, r_cont, r_asg, r_name, r_ret, r_retN, r_drop, r_ifs, r_never, r_var, r_c, r_op, r_un, r_if, r_tst, r_b, r_not, r_and, r_or, r_andV, r_orV, r_notV, r_nil, r_cons, r_tup, r_lst, r_cb, r_call, r_bm, r_bm0, r_sl, r_nopart, r_part, r_rev, r_gnil, r_gcons, r_gsub, r_par, r_aug, r_chain, r_I0, r_I, r_U, r_ixd, r_lend, r_tupd, r_listd, r_sld, r_app, r_ext, r_reverse, r_setl, r_cat, r_int1, r_eqS, r_neS, scal_ii, scal_bb, scal_ss, at0, at1, at2, sq_lst, sq_tup, isLst_lst, List.getElem?_cons_zero, List.getElem?_cons_succ, List.set_cons_zero, List.set_cons_succ, V.int.injEq, V.bl.injEq, V.ref.injEq, V.str.injEq, HO.lst.injEq, HO.tup.injEq, Option.some.injEq, exists_eq_left', exists_eq_left, List.cons.injEq, and_true, true_and, decide_eq_true_eq, reduceCtorEq, false_and, exists_false, or_false, false_or, exists_const, and_assoc, exists_and_left, List.append_nil, ix0, ix1, ix2, cm_mod, cdw1009, cdw2003, cdw7, cdw64, cdw2, cm104729, cm2, cm3, upd_same, List.length_cons, List.length_nil, Int.reduceLT, Int.reduceLE, Nat.reduceAdd, Nat.reduceLeDiff, Nat.reduceLT, Int.reduceToNat, r_for1, r_forL, r_forT, r_lcL, r_lc1, r_yes, r_gtupD, wipe_0, wipe_1, List.cons_append, List.nil_append, r_forS, r_ipI, ite_false, ite_true, Bool.not_true, Bool.not_false, decide_true, decide_false, r_isd, r_islt, cD_ty, cD_ref, tD_non, tD_bl, tD_int, tD_str, tD_ref, tH_lst, tH_tup, tH_dK, tH_ins, ki_self, ki_int_bool, ki_non_int, ki_str_int, ki_lt_lst, ki_lt_tup, r_fld, r_sfld, HO.ins.injEq, cx_K]
    have cm : CMul (st : Int) (0 + (i : Int)) := .inl ⟨by omega, by omega⟩
    refine ⟨rfl, cm, _, e2, Nat.lt_of_le_of_lt (by rw [List.length_map, List.length_range]; omega : _ ≤ 100) (by decide), fun b o e => by rw [upd_ne (ne_new e hL)]; exact s2 _ _ e, ?_⟩
    rw [List.range_succ, List.map_append]
    have e3 : (st : Int) * (0 + (i : Int)) = ((st * i : Nat) : Int) := by rw [Int.zero_add]; exact (Int.natCast_mul st i).symm
    rw [e3]
    rfl
  · rintro H2 ⟨s2, e2⟩
    exact k L _ H2 hL s2 e2
theorem RsL.keepG {H H' : Hp} {G r : Addr} {p : List R3} (h : RsL H r p) (rG : r ≠ G) (k : ∀ b o, b ≠ G → H b = some o → H' b = some o) (tG : ∃ xs, H G = some (.lst xs)) : RsL H' r p := by
  obtain ⟨rs, e, q⟩ := h
  obtain ⟨xs, eg⟩ := tG
  exact ⟨rs, k _ _ rG e, Paired.map' q fun b x z => k _ _ (fun w => by rw [w] at z; unfold Tp at z; rw [eg] at z; cases z) z⟩
def LvQ8 (S A L6 G : Addr) (many st : Nat) (v3 v4 : Option V) (all : List (List R3)) (H0 : Hp) (i : Nat) (σ : L2.St) (H : Hp) : Prop := ∃ v8, σ = S12 S many st v3 v4 (some (.ref A)) (some (.ref L6)) (some (.ref G)) v8 none none none ∧ (∀ b o, b ≠ G → H0 b = some o → H b = some o) ∧ RsL H G ((all.take i).flatten)
theorem q8_run {K : PySem.W.Frag} {D : Ends} {S A L6 G : Addr} {many st : Nat} {v3 v4 v8 : Option V} {H : Hp} {ps : List (List R3)} {last : List R3} {refs : List Addr} (eA : H A = some (.lst (refs.map V.ref))) (qA : Paired (fun r p => r ≠ G ∧ RsL H r p) refs ps) (h6 : RsL H L6 last) (hG : H G = some (.lst [])) (n6 : L6 ≠ G) (ok : ∀ p ∈ ps ++ [last], p.length ≤ 6) (lp : ps.length ≤ 100)
    (k : ∀ v8 H', (∀ b o, b ≠ G → H b = some o → H' b = some o) → RsL H' G (ps.flatten ++ last) → D.nx (S12 S many st v3 v4 (some (.ref A)) (some (.ref L6)) (some (.ref G)) v8 none none none) H') : t_q8 K D (S12 S many st v3 v4 (some (.ref A)) (some (.ref L6)) (some (.ref G)) v8 none none none) H := by
  unfold t_q8 S12
  simp only [r_seq, r_next, r_brk, r_cont, r_asg, r_name, r_ret, r_retN, r_drop, r_ifs, r_never, r_var, r_c, r_op, r_un, r_if, r_tst, r_b, r_not, r_and, r_or, r_andV, r_orV, r_notV, r_nil, r_cons, r_tup, r_lst, r_cb, r_call, r_bm, r_bm0, r_sl, r_nopart, r_part, r_rev, r_gnil, r_gcons, r_gsub, r_par, r_aug, r_chain, r_I0, r_I, r_U, r_ixd, r_lend, r_tupd, r_listd, r_sld, r_app, r_ext, r_reverse, r_setl, r_cat, r_int1, r_eqS, r_neS, scal_ii, scal_bb, scal_ss, at0, at1, at2, sq_lst, sq_tup, isLst_lst, List.getElem?_cons_zero, List.getElem?_cons_succ, List.set_cons_zero, List.set_cons_succ, V.int.injEq, V.bl.injEq, V.ref.injEq, V.str.injEq, HO.lst.injEq, HO.tup.injEq, Option.some.injEq, exists_eq_left', exists_eq_left, List.cons.injEq, and_true, true_and, decide_eq_true_eq, reduceCtorEq, false_and, exists_false, or_false, false_or, exists_const, and_assoc, exists_and_left, List.append_nil, ix0, ix1, ix2, cm_mod, cdw1009, cdw2003, cdw7, cdw64, cdw2, cm104729, cm2, cm3, upd_same, List.length_cons, List.length_nil, Int.reduceLT, Int.reduceLE, Nat.reduceAdd, Nat.reduceLeDiff, Nat.reduceLT, Int.reduceToNat, r_for1, r_forL, r_forT, r_lcL, r_lc1, r_yes, r_gtupD, wipe_0, wipe_1, List.cons_append, List.nil_append, r_forS, r_ipI, ite_false, ite_true, Bool.not_true, Bool.not_false, decide_true, decide_false, r_isd, r_islt, cD_ty, cD_ref, tD_non, tD_bl, tD_int, tD_str, tD_ref, tH_lst, tH_tup, tH_dK, tH_ins, ki_self, ki_int_bool, ki_non_int, ki_str_int, ki_lt_lst, ki_lt_tup, r_fld, r_sfld, HO.ins.injEq, cx_K]
  have lA := Paired.length qA
  refine ⟨szl (by decide), fun p hp => ?_⟩
  have s1 : Same H (L2.upd H p (.lst [.ref L6])) := Same.new' (Same.refl H) hp
  refine ⟨_, s1 _ _ eA, Nat.le_trans (by rw [List.length_map]; omega : _ ≤ 101) (by decide), fun p1 hp1 => ?_⟩
  have s2 : Same H (L2.upd (L2.upd H p (.lst [.ref L6])) p1 (.lst (refs.map V.ref ++ [.ref L6]))) := Same.new' s1 hp1
  have e2 : L2.upd (L2.upd H p (.lst [.ref L6])) p1 (.lst (refs.map V.ref ++ [.ref L6])) p1 = some (.lst ((refs ++ [L6]).map V.ref)) := by rw [upd_same, List.map_append]; rfl
  have pG : p1 ≠ G := new_ne (s1 _ _ hG) hp1
  generalize L2.upd (L2.upd H p (.lst [.ref L6])) p1 (.lst (refs.map V.ref ++ [.ref L6])) = H2 at *
  have hG2 := s2 _ _ hG
  have qq : Paired (fun r p => r ≠ G ∧ RsL H2 r p) (refs ++ [L6]) (ps ++ [last]) := Paired.snoc' (Paired.map' qA fun r p w => ⟨w.1, w.2.same s2⟩) ⟨n6, h6.same s2⟩
  have lq := Paired.length qq
  refine ⟨⟨_, SqL.of e2⟩, lp_list (xs := (refs ++ [L6]).map V.ref) (LvQ8 S A L6 G many st v3 v4 (ps ++ [last]) H2) ⟨v8, rfl, fun _ _ _ e => e, ⟨[], hG2, .nil⟩⟩ (fun i σ H' _ ⟨_, _, q, _⟩ => SqL.of (q _ _ pG e2)) ?_ ?_⟩
  · rintro i y σ H3 hy ⟨u8, rfl, k3, hG3⟩
    rw [List.getElem?_map] at hy
    obtain ⟨r, hr1, rfl⟩ := Option.map_eq_some_iff.mp hy
    obtain ⟨hi0, e0⟩ := List.getElem?_eq_some_iff.mp hr1
    have hi' : i < (ps ++ [last]).length := by rw [← lq]; exact hi0
    have hrt := Paired.at' qq hi0 hi'
    rw [e0] at hrt
    have tk : ((ps ++ [last]).take (i + 1)).flatten = ((ps ++ [last]).take i).flatten ++ (ps ++ [last])[i] := by
      rw [List.take_add_one, List.getElem?_eq_getElem hi']
      show (_ ++ [_]).flatten = _
      rw [List.flatten_append, List.flatten_cons, List.flatten_nil, List.append_nil]
    have okx := ok _ (List.getElem_mem hi')
    have fl := flat_len (ps := (ps ++ [last]).take i) fun q hq => ok q (List.mem_of_mem_take hq)
    rw [List.length_take] at fl
    obtain ⟨rg, eG3, qG3⟩ := hG3
    have lg := Paired.length qG3
    generalize (ps ++ [last])[i] = q at *
    obtain ⟨rs, er, qr⟩ := hrt.2.keepG hrt.1 k3 ⟨_, hG2⟩
    have lr := Paired.length qr
    unfold S12
    simp only [r_seq, r_next, r_brk, r_cont, r_asg, r_name, r_ret, r_retN, r_drop, r_ifs, r_never, r_var, r_c, r_op, r_un, r_if, r_tst, r_b, r_not, r_and, r_or, r_andV, r_orV, r_notV, r_nil, r_cons, r_tup, r_lst, r_cb, r_call, r_bm, r_bm0, r_sl, r_nopart, r_part, r_rev, r_gnil, r_gcons, r_gsub, r_par, r_aug, r_chain, r_I0, r_I, r_U, r_ixd, r_lend, r_tupd, r_listd, r_sld, r_app, r_ext, r_reverse, r_setl, r_cat, r_int1, r_eqS, r_neS, scal_ii, scal_bb, scal_ss, at0, at1, at2, sq_lst, sq_tup, isLst_lst, List.getElem?_cons_zero, List.getElem?_cons_succ, List.set_cons_zero, List.set_cons_succ, V.int.injEq, V.bl.injEq, V.ref.injEq, V.str.injEq, HO.lst.injEq, HO.tup.injEq, Option.some.injEq, exists_eq_left', exists_eq_left, List.cons.injEq, and_true, true_and, decide_eq_true_eq, reduceCtorEq, false_and, exists_false, or_false, false_or, exists_const, and_assoc, exists_and_left, List.append_nil, ix0, ix1, ix2, cm_mod, cdw1009, cdw2003, cdw7, cdw64, cdw2, cm104729, cm2, cm3, upd_same, List.length_cons, List.length_nil, Int.reduceLT, Int.reduceLE, Nat.reduceAdd, Nat.reduceLeDiff, Nat.reduceLT, Int.reduceToNat, r_for1, r_forL, r_forT, r_lcL, r_lc1, r_yes, r_gtupD, wipe_0, wipe_1, List.cons_append, List.nil_append, r_forS, r_ipI, ite_false, ite_true, Bool.not_true, Bool.not_false, decide_true, decide_false, r_isd, r_islt, cD_ty, cD_ref, tD_non, tD_bl, tD_int, tD_str, tD_ref, tH_lst, tH_tup, tH_dK, tH_ins, ki_self, ki_int_bool, ki_non_int, ki_str_int, ki_lt_lst, ki_lt_tup, r_fld, r_sfld, HO.ins.injEq, cx_K]
    rw [List.length_append, List.length_singleton] at hi'
    refine ⟨tyl eG3, _, eG3, _, er, Nat.le_trans (by rw [List.length_map, List.length_map]; omega : _ ≤ 1000) (by decide), ⟨_, rfl, fun b o nb e => by rw [upd_ne nb]; exact k3 _ _ nb e, ?_⟩⟩
    rw [tk]
    exact RsL.app eG3 qG3 qr
  · rintro σ H3 ⟨u8, rfl, k3, hG3⟩
    rw [List.length_map, lq, List.take_length] at hG3
    refine k u8 H3 (fun b o nb e => k3 _ _ nb (s2 _ _ e)) ?_
    have e : (ps ++ [last]).flatten = ps.flatten ++ last := by simp
    rw [← e]
    exact hG3
theorem nmI_snoc {xs : List R3} {i : Nat} {x : R3} (h : xs[i]? = some x) : nmI (xs.take (i + 1)) = nmI (xs.take i) ++ (if leading x.w = true then [labI x.a] else []) := by
  unfold nmI
  rw [List.take_add_one, h, List.filter_append, List.map_append]
  congr 1
  show ((([x] : List R3).filter _).map _) = _
  rw [List.filter_cons, List.filter_nil]
  split <;> rfl
theorem nmI_len (xs : List R3) : (nmI xs).length ≤ xs.length := by
  unfold nmI
  rw [List.length_map]
  exact List.length_filter_le _ _
theorem q9_run {K : PySem.W.Frag} {D : Ends} {S G : Addr} {many st : Nat} {v3 v4 v5 v6 v8 : Option V} {H : Hp} {xs : List R3} (hG : RsL H G xs) (ok : ∀ x ∈ xs, RowW x) (lx : xs.length ≤ 1000)
    (k : ∀ N H', H N = none → Same H H' → H' N = some (.lst ((nmI xs).map V.int)) → D.nx (S12 S many st v3 v4 v5 v6 (some (.ref G)) v8 (some (.ref N)) none none) H') : t_q9 K D (S12 S many st v3 v4 v5 v6 (some (.ref G)) v8 none none none) H := by
  unfold t_q9 S12
  rw [r_asg, r_lcL]
  simp only [r_seq, r_next, r_brk, r_cont, r_asg, r_name, r_ret, r_retN, r_drop, r_ifs, r_never, r_var, r_c, r_op, r_un, r_if, r_tst, r_b, r_not, r_and, r_or, r_andV, r_orV, r_notV, r_nil, r_cons, r_tup, r_lst, r_cb, r_call, r_bm, r_bm0, r_sl, r_nopart, r_part, r_rev, r_gnil, r_gcons, r_gsub, r_par, r_aug, r_chain, r_I0, r_I, r_U, r_ixd, r_lend, r_tupd, r_listd, r_sld, r_app, r_ext, r_reverse, r_setl, r_cat, r_int1, r_eqS, r_neS, scal_ii, scal_bb, scal_ss, at0, at1, at2, sq_lst, sq_tup, isLst_lst, List.getElem?_cons_zero, List.getElem?_cons_succ, List.set_cons_zero, List.set_cons_succ, V.int.injEq, V.bl.injEq, V.ref.injEq, V.str.injEq, HO.lst.injEq, HO.tup.injEq, Option.some.injEq, exists_eq_left', exists_eq_left, List.cons.injEq, and_true, true_and, decide_eq_true_eq, reduceCtorEq, false_and, exists_false, or_false, false_or, exists_const, and_assoc, exists_and_left, List.append_nil, ix0, ix1, ix2, cm_mod, cdw1009, cdw2003, cdw7, cdw64, cdw2, cm104729, cm2, cm3, upd_same, List.length_cons, List.length_nil, Int.reduceLT, Int.reduceLE, Nat.reduceAdd, Nat.reduceLeDiff, Nat.reduceLT, Int.reduceToNat, r_for1, r_forL, r_forT, r_lcL, r_lc1, r_yes, r_gtupD, wipe_0, wipe_1, List.cons_append, List.nil_append, r_forS, r_ipI, ite_false, ite_true, Bool.not_true, Bool.not_false, decide_true, decide_false, r_isd, r_islt, cD_ty, cD_ref, tD_non, tD_bl, tD_int, tD_str, tD_ref, tH_lst, tH_tup, tH_dK, tH_ins, ki_self, ki_int_bool, ki_non_int, ki_str_int, ki_lt_lst, ki_lt_tup, r_fld, r_sfld, HO.ins.injEq, cx_K]
  obtain ⟨rg, eG, qG⟩ := hG
  have lg := Paired.length qG
  refine ⟨⟨_, SqL.of eG⟩, fun N hN => cp_list (xs := rg.map V.ref) (fun i H' => Same H H' ∧ H' N = some (.lst ((nmI (xs.take i)).map V.int))) ⟨Same.new' (Same.refl H) hN, upd_same⟩ (fun i H' _ q => SqL.of (q.1 _ _ eG)) ?_ ?_⟩
  · rintro i y H2 hy ⟨s2, e2⟩
    rw [List.getElem?_map] at hy
    obtain ⟨r, hr1, rfl⟩ := Option.map_eq_some_iff.mp hy
    obtain ⟨hi0, e0⟩ := List.getElem?_eq_some_iff.mp hr1
    have hi' : i < xs.length := by rw [← lg]; exact hi0
    have hrt := Paired.at' qG hi0 hi'
    rw [e0] at hrt
    have sn := nmI_snoc (List.getElem?_eq_getElem hi')
    have okx := ok _ (List.getElem_mem hi')
    have ln := nmI_len (xs.take i)
    rw [List.length_take] at ln
    generalize xs[i] = x at *
    have er := s2 _ _ hrt
    unfold C38.v3 at er
    show gName 11 (.ref r) [some (.ref S), some (.int (many : Nat)), some (.int (st : Nat)), v3, v4, v5, v6, some (.ref G), v8, none, none, none] H2 _
    simp only [r_seq, r_next, r_brk, r_cont, r_asg, r_name, r_ret, r_retN, r_drop, r_ifs, r_never, r_var, r_c, r_op, r_un, r_if, r_tst, r_b, r_not, r_and, r_or, r_andV, r_orV, r_notV, r_nil, r_cons, r_tup, r_lst, r_cb, r_call, r_bm, r_bm0, r_sl, r_nopart, r_part, r_rev, r_gnil, r_gcons, r_gsub, r_par, r_aug, r_chain, r_I0, r_I, r_U, r_ixd, r_lend, r_tupd, r_listd, r_sld, r_app, r_ext, r_reverse, r_setl, r_cat, r_int1, r_eqS, r_neS, scal_ii, scal_bb, scal_ss, at0, at1, at2, sq_lst, sq_tup, isLst_lst, List.getElem?_cons_zero, List.getElem?_cons_succ, List.set_cons_zero, List.set_cons_succ, V.int.injEq, V.bl.injEq, V.ref.injEq, V.str.injEq, HO.lst.injEq, HO.tup.injEq, Option.some.injEq, exists_eq_left', exists_eq_left, List.cons.injEq, and_true, true_and, decide_eq_true_eq, reduceCtorEq, false_and, exists_false, or_false, false_or, exists_const, and_assoc, exists_and_left, List.append_nil, ix0, ix1, ix2, cm_mod, cdw1009, cdw2003, cdw7, cdw64, cdw2, cm104729, cm2, cm3, upd_same, List.length_cons, List.length_nil, Int.reduceLT, Int.reduceLE, Nat.reduceAdd, Nat.reduceLeDiff, Nat.reduceLT, Int.reduceToNat, r_for1, r_forL, r_forT, r_lcL, r_lc1, r_yes, r_gtupD, wipe_0, wipe_1, List.cons_append, List.nil_append, r_forS, r_ipI, ite_false, ite_true, Bool.not_true, Bool.not_false, decide_true, decide_false, r_isd, r_islt, cD_ty, cD_ref, tD_non, tD_bl, tD_int, tD_str, tD_ref, tH_lst, tH_tup, tH_dK, tH_ins, ki_self, ki_int_bool, ki_non_int, ki_str_int, ki_lt_lst, ki_lt_tup, r_fld, r_sfld, HO.ins.injEq, cx_K, er]
    refine ⟨rfl, ?_⟩
    have jw := jump_in _ okx.w
    have jw : (!(Builtin.Str.occurrences x.w (Str.ofString "JUMP") 0 x.w.length 1).isEmpty) = leading x.w := jw
    rw [sn]
    by_cases c : leading x.w = true
    · rw [if_pos (by rw [jw]; exact c)]
      obtain ⟨n, en⟩ := okx.a c
      refine ⟨_, e2, Nat.lt_of_le_of_lt (by rw [List.length_map]; omega : _ ≤ 1000) (by decide), fun b o e => by rw [upd_ne (ne_new e hN)]; exact s2 _ _ e, ?_⟩
      rw [if_pos c, List.map_append, en]
      rfl
    · rw [if_neg (by rw [jw]; exact c), if_neg c, List.append_nil]
      exact ⟨s2, e2⟩
  · rintro H2 ⟨s2, e2⟩
    rw [List.length_map, lg, List.take_length] at e2
    exact k N H2 hN s2 e2
theorem q11b_run {K : PySem.W.Frag} {D : Ends} {S L A L6 G N F r : Addr} {many st i : Nat} {nm : List Int} {H : Hp} {xs p : List R3} (hL : H L = some (.lst (labs st many))) (hN : H N = some (.lst (nm.map V.int))) (hF : RsL H F xs) (hr : RsL H r p) (rF : r ≠ F) (LF : L ≠ F) (hi : i < many) (lx : xs.length ≤ 1000) (lp : p.length ≤ 6)
    (k : ∀ H', (∀ b o, b ≠ F → H b = some o → H' b = some o) → RsL H' F (xs ++ asmP st nm i p) → D.nx (S12 S many st (some (.int (i : Nat))) (some (.ref L)) (some (.ref A)) (some (.ref L6)) (some (.ref G)) (some (.ref r)) (some (.ref N)) (some (.ref F)) none) H') : t_q11b K D (S12 S many st (some (.int (i : Nat))) (some (.ref L)) (some (.ref A)) (some (.ref L6)) (some (.ref G)) (some (.ref r)) (some (.ref N)) (some (.ref F)) none) H := by
  unfold t_q11b S12
  simp only [r_seq, r_next, r_brk, r_cont, r_asg, r_name, r_ret, r_retN, r_drop, r_ifs, r_never, r_var, r_c, r_op, r_un, r_if, r_tst, r_b, r_not, r_and, r_or, r_andV, r_orV, r_notV, r_nil, r_cons, r_tup, r_lst, r_cb, r_call, r_bm, r_bm0, r_sl, r_nopart, r_part, r_rev, r_gnil, r_gcons, r_gsub, r_par, r_aug, r_chain, r_I0, r_I, r_U, r_ixd, r_lend, r_tupd, r_listd, r_sld, r_app, r_ext, r_reverse, r_setl, r_cat, r_int1, r_eqS, r_neS, scal_ii, scal_bb, scal_ss, at0, at1, at2, sq_lst, sq_tup, isLst_lst, List.getElem?_cons_zero, List.getElem?_cons_succ, List.set_cons_zero, List.set_cons_succ, V.int.injEq, V.bl.injEq, V.ref.injEq, V.str.injEq, HO.lst.injEq, HO.tup.injEq, Option.some.injEq, exists_eq_left', exists_eq_left, List.cons.injEq, and_true, true_and, decide_eq_true_eq, reduceCtorEq, false_and, exists_false, or_false, false_or, exists_const, and_assoc, exists_and_left, List.append_nil, ix0, ix1, ix2, cm_mod, cdw1009, cdw2003, cdw7, cdw64, cdw2, cm104729, cm2, cm3, upd_same, List.length_cons, List.length_nil, Int.reduceLT, Int.reduceLE, Nat.reduceAdd, Nat.reduceLeDiff, Nat.reduceLT, Int.reduceToNat, r_for1, r_forL, r_forT, r_lcL, r_lc1, r_yes, r_gtupD, wipe_0, wipe_1, List.cons_append, List.nil_append, r_forS, r_ipI, ite_false, ite_true, Bool.not_true, Bool.not_false, decide_true, decide_false, r_isd, r_islt, cD_ty, cD_ref, tD_non, tD_bl, tD_int, tD_str, tD_ref, tH_lst, tH_tup, tH_dK, tH_ins, ki_self, ki_int_bool, ki_non_int, ki_str_int, ki_lt_lst, ki_lt_tup, r_fld, r_sfld, HO.ins.injEq, cx_K]
  refine ⟨_, by rw [hL]; rfl, _, labs_at hi, _, rfl, inF_ints hN ⟨_, rfl, ?_⟩⟩
  obtain ⟨rf, eF, qF⟩ := hF
  have lf := Paired.length qF
  unfold asmP at k
  by_cases c : ((st * i + 2 : Nat) : Int) ∈ nm
  · rw [if_pos (by exact decide_eq_true c)]
    rw [if_pos c] at k
    refine ⟨tyl eF, _, by rw [hL]; rfl, _, labs_at hi, _, rfl, szl (by decide), fun q hq => ?_⟩
    have s1 : Same H (L2.upd H q (.tup [.str "LABEL", .int ((st * i : Nat) + 2), .non])) := Same.new' (Same.refl H) hq
    have e1 : L2.upd H q (.tup [.str "LABEL", .int ((st * i : Nat) + 2), .non]) q = some (.tup [.str "LABEL", .int ((st * i : Nat) + 2), .non]) := upd_same
    refine ⟨_, s1 _ _ eF, Nat.lt_of_le_of_lt (by rw [List.length_map]; omega : _ ≤ 1000) (by decide), ?_⟩
    have h2 := RsL.app (s1 _ _ eF) (Paired.map' qF fun r x z => s1 _ _ z) (rs := [q]) (p := [labR st i]) (.cons e1 .nil)
    have k2 : ∀ b o, b ≠ F → H b = some o → L2.upd (L2.upd H q (.tup [.str "LABEL", .int ((st * i : Nat) + 2), .non])) F (.lst (rf.map V.ref ++ [.ref q])) b = some o := fun b o nb e => by rw [upd_ne nb]; exact s1 _ _ e
    have h2 : RsL (L2.upd (L2.upd H q (.tup [.str "LABEL", .int ((st * i : Nat) + 2), .non])) F (.lst (rf.map V.ref ++ [.ref q]))) F (xs ++ [labR st i]) := h2
    have e3 : L2.upd (L2.upd H q (.tup [.str "LABEL", .int ((st * i : Nat) + 2), .non])) F (.lst (rf.map V.ref ++ [.ref q])) F = some (.lst (rf.map V.ref ++ [.ref q])) := upd_same
    generalize L2.upd (L2.upd H q (.tup [.str "LABEL", .int ((st * i : Nat) + 2), .non])) F (.lst (rf.map V.ref ++ [.ref q])) = H2 at *
    obtain ⟨rs, er, qr⟩ := hr.keepG rF k2 ⟨_, eF⟩
    obtain ⟨rf2, eF2, qF2⟩ := h2
    have lr := Paired.length qr
    have l2 := Paired.length qF2
    rw [List.length_append, List.length_singleton] at l2
    have el : rf2.map V.ref = rf.map V.ref ++ [V.ref q] := HO.lst.inj (Option.some.inj (eF2.symm.trans e3))
    rw [← el]
    refine ⟨tyl eF2, _, er, Nat.le_trans (by rw [List.length_map, List.length_map]; omega : _ ≤ 1100) (by decide), k _ (fun b o nb e => by rw [upd_ne nb]; exact k2 _ _ nb e) ?_⟩
    rw [← List.append_assoc]
    exact RsL.app eF2 qF2 qr
  · rw [if_neg (by simpa using c)]
    rw [if_neg c] at k
    obtain ⟨rs, er, qr⟩ := hr
    have lr := Paired.length qr
    refine ⟨tyl eF, _, eF, _, er, Nat.le_trans (by rw [List.length_map, List.length_map]; omega : _ ≤ 1100) (by decide), k _ (fun b o nb e => by rw [upd_ne nb]; exact e) ?_⟩
    exact RsL.app eF qF qr
def spRows : Sp := fun vs H Q _ => ∃ (S : Addr), vs = [.ref S] ∧ Src H S ∧ ∀ (R : Addr) (st many : Nat) (ps : List (List R3)) (last : List R3) H', RowsOk st many ps last → H R = none → Keep S H H' → Src H' S → RsL H' R (rowsOf st ps last) → Q (.ref R) H'
def LvQ11 (S L A L6 G N F : Addr) (many st : Nat) (nm : List Int) (ps : List (List R3)) (H0 : Hp) (i : Nat) (σ : L2.St) (H : Hp) : Prop := ∃ v3 v8, σ = S12 S many st v3 (some (.ref L)) (some (.ref A)) (some (.ref L6)) (some (.ref G)) v8 (some (.ref N)) (some (.ref F)) none ∧ (∀ b o, b ≠ F → H0 b = some o → H b = some o) ∧ RsL H F (asm st nm 0 (ps.take i))
section
variable {P : Program} {w : World} {K : PySem.W.Frag} {mg : Str → Option Value} {base : Heap} {f : Addr} {fd : FuncData}
abbrev srws : Stmt := top 92
theorem scrws : FnScope ["_law_source", "_law_many", "_law_step", "_law_k", "_law_labels", "_law_parts_here", "_law_last", "_law_rows_here", "_law_part", "_law_named", "_law_found", "_law_row"] ["_law_source"] (defScope srws) := ⟨rfl, rfl, rfl, by decide +kernel, rfl, by decide +kernel, by decide +kernel⟩

theorem ok_rws (T : Txt mg) (C_next : Cal P w K mg base 1 "_law_next" ["_law_source", "_law_many"] spNext) (C_one : Cal P w K mg base 2 "_law_one" ["_law_source", "_law_some"] spOne) (C_parts : Cal P w K mg base 3 "_law_parts" ["_law_source", "_law_labels", "_law_many"] spPts) (F : FnP K "_law_rows" "_law_rows" srws f fd) : FnOk P w K mg base CX0 4 f fd ["_law_source"] spRows := by
  refine F.ok scrws (fun vs H Q E h => ?_) (fun cdv A outer s H vs Q E hr h => ?_)
  · obtain ⟨S, rfl, _⟩ := h
    rfl
  · have hu1 := hu_of hr
    refine ⟨t_q K, PSs.nox (show PSs _ _ (t_q K) from (pss_cons (ps_set (i := 1) scrws.nd rfl (Or.inl rfl) (pe_op op_add pe_int (pe_cal C_next (hr.mono (by decide)) rfl (pa_cons (pv 0) (pa_cons pe_int pa_nil)))))
  (pss_cons (ps_set (i := 2) scrws.nd rfl (Or.inr rfl) (pe_op op_add pe_int (pe_cal C_next (hr.mono (by decide)) rfl (pa_cons (pv 0) (pa_cons pe_int pa_nil)))))
  (pss_cons (ps_setLc (i := 4) (own := [("_law_k", 3)]) (g := gName 3) (tt := tYes) rfl scrws.nd rfl rfl (sw_true rfl rfl rfl (by decide +kernel)) (pi_range1 rfl T.b_range (pa_cons (pv 1) pa_nil)) (blkOk_by (own := [("_law_k", 3)]) (N := ["_law_source", "_law_many", "_law_step", "_law_k", "_law_labels", "_law_parts_here", "_law_last", "_law_rows_here", "_law_part", "_law_named", "_law_found", "_law_row"]) (sc := defScope srws) (by decide +kernel)) (fun _ _ _ _ _ => (pg_name (i := 3) scrws.nd rfl (Or.inl rfl))) (fun _ _ _ _ _ => pts_nil) (fun _ _ _ _ _ => (pe_op op_mul (pv 2) (pv 3))))
  (pss_cons (ps_set (i := 5) scrws.nd rfl (Or.inl rfl) (pe_cal C_parts (hr.mono (by decide)) rfl (pa_cons (pv 0) (pa_cons (pv 4) (pa_cons (pv 1) pa_nil)))))
  (pss_cons (ps_set (i := 6) scrws.nd rfl (Or.inl rfl) (pe_lst (pa_cons (pe_tup (pa_cons pe_str (pa_cons pe_str (pa_cons pe_int pa_nil)))) (pa_cons (pe_tup (pa_cons pe_str (pa_cons pe_non (pa_cons pe_int pa_nil)))) pa_nil))))
  (pss_cons (ps_if (pt_cmpR op_eq (pe_cal C_next (hr.mono (by decide)) rfl (pa_cons (pv 0) (pa_cons pe_int pa_nil))) pe_int (nomark _))
    (pss_one (ps_set (i := 6) scrws.nd rfl (Or.inl rfl) (pe_lst (pa_cons (pe_tup (pa_cons (pe_cal C_one (hr.mono (by decide)) rfl (pa_cons (pv 0) (pa_cons (pe_lst (pa_cons pe_str (pa_cons pe_str pa_nil))) pa_nil))) (pa_cons (pe_op op_add (pe_ix ix_d (pv 4) (pe_cal C_next (hr.mono (by decide)) rfl (pa_cons (pv 0) (pa_cons (pv 1) pa_nil))) (fun _ _ => rfl)) pe_int) (pa_cons pe_int pa_nil)))) pa_nil))))
    pss_nil)
  (pss_cons (ps_set (i := 7) scrws.nd rfl (Or.inl rfl) (pe_lst pa_nil))
  (pss_cons (ps_for PassesOwn.never rfl (pi_list (pe_op op_cat (pv 5) (pe_lst (pa_cons (pv 6) pa_nil)))) (pg_name (i := 8) scrws.nd rfl (Or.inl rfl))
    (pss_one (ps_expr (pe_bm PySem.F.plainAttrs_list PySem.F.slot_list_extend PySem.F.type_list_extend mt_extend (pv 7) (pa_cons (pv 8) pa_nil)))))
  (pss_cons (ps_setLc (i := 9) (own := [("_law_row", 11)]) (g := gName 11) rfl scrws.nd rfl rfl (sw_true rfl rfl rfl (by decide +kernel)) (pi_list (pv 7)) (blkOk_by (own := [("_law_row", 11)]) (N := ["_law_source", "_law_many", "_law_step", "_law_k", "_law_labels", "_law_parts_here", "_law_last", "_law_rows_here", "_law_part", "_law_named", "_law_found", "_law_row"]) (sc := defScope srws) (by decide +kernel)) (fun _ _ _ _ _ => (pg_name (i := 11) scrws.nd rfl (Or.inl rfl))) (fun _ _ _ _ _ => (pts_one (pt_cmpR op_in_str pe_str (pe_ix ix_d (pv 11) pe_int (fun _ _ => rfl)) (by rfl)))) (fun _ _ _ _ _ => (pe_ix ix_d (pv 11) pe_int (fun _ _ => rfl))))
  (pss_cons (ps_set (i := 10) scrws.nd rfl (Or.inl rfl) (pe_lst pa_nil))
  (pss_cons (ps_for PassesOwn.never rfl (pi_enumS (by rfl) T.b_enumerate (pa_cons (pv 5) pa_nil)) (pg_tupD (n := 2) rfl (pgs_cons (pg_name (i := 3) scrws.nd rfl (Or.inl rfl)) (pgs_cons (pg_name (i := 8) scrws.nd rfl (Or.inl rfl)) pgs_nil)))
    (pss_cons (ps_if (pt_cmpR op_in_seq (pe_op op_add (pe_ix ix_d (pv 4) (pv 3) (fun _ _ => rfl)) pe_int) (pv 9) (by rfl))
    (pss_one (ps_expr (pe_bm PySem.F.plainAttrs_list PySem.F.slot_list_append PySem.F.type_list_append mt_append (pv 10) (pa_cons (pe_tup (pa_cons pe_str (pa_cons (pe_op op_add (pe_ix ix_d (pv 4) (pv 3) (fun _ _ => rfl)) pe_int) (pa_cons pe_non pa_nil)))) pa_nil))))
    pss_nil)
  (pss_one (ps_expr (pe_bm PySem.F.plainAttrs_list PySem.F.slot_list_extend PySem.F.type_list_extend mt_extend (pv 10) (pa_cons (pv 8) pa_nil))))))
  (pss_one (ps_ret (pe_op op_cat (pv 10) (pv 6)))))))))))))))), ?_⟩
    obtain ⟨S, rfl, hS, kQ⟩ := h
    show (_ : TS) _ [some (.ref S), none, none, none, none, none, none, none, none, none, none, none] H
    unfold t_q
    rw [r_seq, r_asg]
    simp only [r_seq, r_next, r_brk, r_cont, r_asg, r_name, r_ret, r_retN, r_drop, r_ifs, r_never, r_var, r_c, r_op, r_un, r_if, r_tst, r_b, r_not, r_and, r_or, r_andV, r_orV, r_notV, r_nil, r_cons, r_tup, r_lst, r_cb, r_call, r_bm, r_bm0, r_sl, r_nopart, r_part, r_rev, r_gnil, r_gcons, r_gsub, r_par, r_aug, r_chain, r_I0, r_I, r_U, r_ixd, r_lend, r_tupd, r_listd, r_sld, r_app, r_ext, r_reverse, r_setl, r_cat, r_int1, r_eqS, r_neS, scal_ii, scal_bb, scal_ss, at0, at1, at2, sq_lst, sq_tup, isLst_lst, List.getElem?_cons_zero, List.getElem?_cons_succ, List.set_cons_zero, List.set_cons_succ, V.int.injEq, V.bl.injEq, V.ref.injEq, V.str.injEq, HO.lst.injEq, HO.tup.injEq, Option.some.injEq, exists_eq_left', exists_eq_left, List.cons.injEq, and_true, true_and, decide_eq_true_eq, reduceCtorEq, false_and, exists_false, or_false, false_or, exists_const, and_assoc, exists_and_left, List.append_nil, ix0, ix1, ix2, cm_mod, cdw1009, cdw2003, cdw7, cdw64, cdw2, cm104729, cm2, cm3, upd_same, List.length_cons, List.length_nil, Int.reduceLT, Int.reduceLE, Nat.reduceAdd, Nat.reduceLeDiff, Nat.reduceLT, Int.reduceToNat, r_for1, r_forL, r_forT, r_lcL, r_lc1, r_yes, r_gtupD, wipe_0, wipe_1, List.cons_append, List.nil_append, r_forS, r_ipI, ite_false, ite_true, Bool.not_true, Bool.not_false, decide_true, decide_false, r_isd, r_islt, cD_ty, cD_ref, tD_non, tD_bl, tD_int, tD_str, tD_ref, tH_lst, tH_tup, tH_dK, tH_ins, ki_self, ki_int_bool, ki_non_int, ki_str_int, ki_lt_lst, ki_lt_tup, r_fld, r_sfld, HO.ins.injEq, cx_K]
    refine ⟨S, 26, rfl, hS, by decide, by decide, fun r H1 r0 r1 k1 s1 => ?_⟩
    obtain ⟨m, rfl⟩ : ∃ m : Nat, r = m := ⟨r.toNat, by omega⟩
    refine ⟨_, rfl, S, 3, rfl, s1, by decide, by decide, fun r2 H2 r3 r4 k2 s2 => ?_⟩
    obtain ⟨t, rfl⟩ : ∃ t : Nat, r2 = t := ⟨r2.toNat, by omega⟩
    refine ⟨_, rfl, ?_⟩
    rw [show 5 + (m : Int) = ((5 + m : Nat) : Int) by omega, show 3 + (t : Int) = ((3 + t : Nat) : Int) by omega]
    have mn : 5 ≤ 5 + m ∧ 5 + m ≤ 30 := by omega
    have hst : 3 ≤ 3 + t ∧ 3 + t ≤ 5 := by omega
    generalize 5 + m = many at *
    generalize 3 + t = st at *
    have kS := k1.trans k2
    have hS := s2
    clear k1 s1 k2 s2
    refine q3_run (by omega) (by omega) fun L v3 H3 hL0 s3 hL => ?_
    have LS : L ≠ S := hS.ne hL0
    have kS := keep1 kS s3
    have hS := hS.same1 s3
    clear s3 hL0
    unfold t_q4 S12
    simp only [r_seq, r_next, r_brk, r_cont, r_asg, r_name, r_ret, r_retN, r_drop, r_ifs, r_never, r_var, r_c, r_op, r_un, r_if, r_tst, r_b, r_not, r_and, r_or, r_andV, r_orV, r_notV, r_nil, r_cons, r_tup, r_lst, r_cb, r_call, r_bm, r_bm0, r_sl, r_nopart, r_part, r_rev, r_gnil, r_gcons, r_gsub, r_par, r_aug, r_chain, r_I0, r_I, r_U, r_ixd, r_lend, r_tupd, r_listd, r_sld, r_app, r_ext, r_reverse, r_setl, r_cat, r_int1, r_eqS, r_neS, scal_ii, scal_bb, scal_ss, at0, at1, at2, sq_lst, sq_tup, isLst_lst, List.getElem?_cons_zero, List.getElem?_cons_succ, List.set_cons_zero, List.set_cons_succ, V.int.injEq, V.bl.injEq, V.ref.injEq, V.str.injEq, HO.lst.injEq, HO.tup.injEq, Option.some.injEq, exists_eq_left', exists_eq_left, List.cons.injEq, and_true, true_and, decide_eq_true_eq, reduceCtorEq, false_and, exists_false, or_false, false_or, exists_const, and_assoc, exists_and_left, List.append_nil, ix0, ix1, ix2, cm_mod, cdw1009, cdw2003, cdw7, cdw64, cdw2, cm104729, cm2, cm3, upd_same, List.length_cons, List.length_nil, Int.reduceLT, Int.reduceLE, Nat.reduceAdd, Nat.reduceLeDiff, Nat.reduceLT, Int.reduceToNat, r_for1, r_forL, r_forT, r_lcL, r_lc1, r_yes, r_gtupD, wipe_0, wipe_1, List.cons_append, List.nil_append, r_forS, r_ipI, ite_false, ite_true, Bool.not_true, Bool.not_false, decide_true, decide_false, r_isd, r_islt, cD_ty, cD_ref, tD_non, tD_bl, tD_int, tD_str, tD_ref, tH_lst, tH_tup, tH_dK, tH_ins, ki_self, ki_int_bool, ki_non_int, ki_str_int, ki_lt_lst, ki_lt_tup, r_fld, r_sfld, HO.ins.injEq, cx_K]
    refine ⟨S, L, many, st, rfl, hS, LS, hL, by omega, fun A ps H4 len ok s4 k4 hA0 hA => ?_⟩
    have hL := k4 _ _ LS hL
    have AS : A ≠ S := fun z => by
      obtain ⟨_, _, _, e⟩ := hS
      rw [z, e] at hA0
      cases hA0
    have kS := kS.trans k4
    have hS := s4
    clear s4 k4 hA0
    have rest : ∀ (L6 : Addr) (last : List R3) (H' : Hp), RsL H' L6 last → LastOk st many last → Src H' S → Keep S H H' → PsA H' A ps → H' L = some (.lst (labs st many)) → (tSeq (tAsg (tLst tNil) (gName 7)) (tSeq (t_q8 K) (tSeq (t_q9 K) (tSeq (tAsg (tLst tNil) (gName 10)) (tSeq (t_q11 K) (tRet (tOp rCat (tVar 10) (tVar 6)))))))) { nx := fun x H' => Q V.non H', rt := Q } (S12 S many st v3 (some (.ref L)) (some (.ref A)) (some (.ref L6)) none none none none none) H' := fun L6 last H' h6 lo hS kS hA hL => by
      unfold S12
      simp only [r_seq, r_next, r_brk, r_cont, r_asg, r_name, r_ret, r_retN, r_drop, r_ifs, r_never, r_var, r_c, r_op, r_un, r_if, r_tst, r_b, r_not, r_and, r_or, r_andV, r_orV, r_notV, r_nil, r_cons, r_tup, r_lst, r_cb, r_call, r_bm, r_bm0, r_sl, r_nopart, r_part, r_rev, r_gnil, r_gcons, r_gsub, r_par, r_aug, r_chain, r_I0, r_I, r_U, r_ixd, r_lend, r_tupd, r_listd, r_sld, r_app, r_ext, r_reverse, r_setl, r_cat, r_int1, r_eqS, r_neS, scal_ii, scal_bb, scal_ss, at0, at1, at2, sq_lst, sq_tup, isLst_lst, List.getElem?_cons_zero, List.getElem?_cons_succ, List.set_cons_zero, List.set_cons_succ, V.int.injEq, V.bl.injEq, V.ref.injEq, V.str.injEq, HO.lst.injEq, HO.tup.injEq, Option.some.injEq, exists_eq_left', exists_eq_left, List.cons.injEq, and_true, true_and, decide_eq_true_eq, reduceCtorEq, false_and, exists_false, or_false, false_or, exists_const, and_assoc, exists_and_left, List.append_nil, ix0, ix1, ix2, cm_mod, cdw1009, cdw2003, cdw7, cdw64, cdw2, cm104729, cm2, cm3, upd_same, List.length_cons, List.length_nil, Int.reduceLT, Int.reduceLE, Nat.reduceAdd, Nat.reduceLeDiff, Nat.reduceLT, Int.reduceToNat, r_for1, r_forL, r_forT, r_lcL, r_lc1, r_yes, r_gtupD, wipe_0, wipe_1, List.cons_append, List.nil_append, r_forS, r_ipI, ite_false, ite_true, Bool.not_true, Bool.not_false, decide_true, decide_false, r_isd, r_islt, cD_ty, cD_ref, tD_non, tD_bl, tD_int, tD_str, tD_ref, tH_lst, tH_tup, tH_dK, tH_ins, ki_self, ki_int_bool, ki_non_int, ki_str_int, ki_lt_lst, ki_lt_tup, r_fld, r_sfld, HO.ins.injEq, cx_K]
      refine ⟨Nat.zero_le _, fun G hG0 => ?_⟩
      obtain ⟨refs, eA, qA⟩ := hA
      have qA2 : Paired (fun r p => r ≠ G ∧ RsL H' r p) refs ps := Paired.map' qA fun r p w => ⟨by obtain ⟨_, e, _⟩ := w.2; exact ne_new e hG0, w.2⟩
      have n6 : L6 ≠ G := by obtain ⟨_, e, _⟩ := h6; exact ne_new e hG0
      have AG : A ≠ G := ne_new eA hG0
      have LG : L ≠ G := ne_new hL hG0
      have lA := Paired.length qA
      have pl : ∀ p ∈ ps, p.length ≤ 6 := fun p hp => by
        obtain ⟨j, hj, ej⟩ := List.getElem_of_mem hp
        exact (ok j p (by rw [List.getElem?_eq_getElem hj, ej])).len
      have pw : ∀ p ∈ ps, ∀ x ∈ p, RowW x := fun p hp => by
        obtain ⟨j, hj, ej⟩ := List.getElem_of_mem hp
        exact (ok j p (by rw [List.getElem?_eq_getElem hj, ej])).rw
      have sG : Same H' (L2.upd H' G (.lst [])) := Same.new' (Same.refl _) hG0
      have eG : L2.upd H' G (.lst []) G = some (.lst []) := upd_same
      have fr : ∀ b o, H' b = some o → b ≠ G := fun b o e => ne_new e hG0
      generalize L2.upd H' G (.lst []) = H5 at *
      refine q8_run (refs := refs) (sG _ _ eA) (Paired.map' qA2 fun r p w => ⟨w.1, w.2.same sG⟩) (h6.same sG) eG n6 (fun p hp => ?_) (by omega) fun v8 H6 k6 hG6 => ?_
      · rcases List.mem_append.mp hp with h | h
        · exact pl p h
        · rw [List.mem_singleton.mp h]; exact Nat.le_trans lo.len (by decide)
      have fl := flat_len pl
      have ll := lo.len
      have S6 : ∀ b o, H' b = some o → H6 b = some o := fun b o e => k6 _ _ (fr _ _ e) (sG _ _ e)
      unfold S12
      simp only [r_seq, r_next, r_brk, r_cont, r_asg, r_name, r_ret, r_retN, r_drop, r_ifs, r_never, r_var, r_c, r_op, r_un, r_if, r_tst, r_b, r_not, r_and, r_or, r_andV, r_orV, r_notV, r_nil, r_cons, r_tup, r_lst, r_cb, r_call, r_bm, r_bm0, r_sl, r_nopart, r_part, r_rev, r_gnil, r_gcons, r_gsub, r_par, r_aug, r_chain, r_I0, r_I, r_U, r_ixd, r_lend, r_tupd, r_listd, r_sld, r_app, r_ext, r_reverse, r_setl, r_cat, r_int1, r_eqS, r_neS, scal_ii, scal_bb, scal_ss, at0, at1, at2, sq_lst, sq_tup, isLst_lst, List.getElem?_cons_zero, List.getElem?_cons_succ, List.set_cons_zero, List.set_cons_succ, V.int.injEq, V.bl.injEq, V.ref.injEq, V.str.injEq, HO.lst.injEq, HO.tup.injEq, Option.some.injEq, exists_eq_left', exists_eq_left, List.cons.injEq, and_true, true_and, decide_eq_true_eq, reduceCtorEq, false_and, exists_false, or_false, false_or, exists_const, and_assoc, exists_and_left, List.append_nil, ix0, ix1, ix2, cm_mod, cdw1009, cdw2003, cdw7, cdw64, cdw2, cm104729, cm2, cm3, upd_same, List.length_cons, List.length_nil, Int.reduceLT, Int.reduceLE, Nat.reduceAdd, Nat.reduceLeDiff, Nat.reduceLT, Int.reduceToNat, r_for1, r_forL, r_forT, r_lcL, r_lc1, r_yes, r_gtupD, wipe_0, wipe_1, List.cons_append, List.nil_append, r_forS, r_ipI, ite_false, ite_true, Bool.not_true, Bool.not_false, decide_true, decide_false, r_isd, r_islt, cD_ty, cD_ref, tD_non, tD_bl, tD_int, tD_str, tD_ref, tH_lst, tH_tup, tH_dK, tH_ins, ki_self, ki_int_bool, ki_non_int, ki_str_int, ki_lt_lst, ki_lt_tup, r_fld, r_sfld, HO.ins.injEq, cx_K]
      refine q9_run hG6 (fun x hx => ?_) (by rw [List.length_append]; omega) fun N H7 hN0 s7 hN => ?_
      · rcases List.mem_append.mp hx with h | h
        · obtain ⟨p, hp, hx⟩ := List.mem_flatten.mp h
          exact pw p hp x hx
        · exact lo.rw x h
      have S7 : ∀ b o, H' b = some o → H7 b = some o := fun b o e => s7 _ _ (S6 _ _ e)
      have LN : ∀ b o, H' b = some o → b ≠ N := fun b o e => ne_new (S6 _ _ e) hN0
      unfold S12
      simp only [r_seq, r_next, r_brk, r_cont, r_asg, r_name, r_ret, r_retN, r_drop, r_ifs, r_never, r_var, r_c, r_op, r_un, r_if, r_tst, r_b, r_not, r_and, r_or, r_andV, r_orV, r_notV, r_nil, r_cons, r_tup, r_lst, r_cb, r_call, r_bm, r_bm0, r_sl, r_nopart, r_part, r_rev, r_gnil, r_gcons, r_gsub, r_par, r_aug, r_chain, r_I0, r_I, r_U, r_ixd, r_lend, r_tupd, r_listd, r_sld, r_app, r_ext, r_reverse, r_setl, r_cat, r_int1, r_eqS, r_neS, scal_ii, scal_bb, scal_ss, at0, at1, at2, sq_lst, sq_tup, isLst_lst, List.getElem?_cons_zero, List.getElem?_cons_succ, List.set_cons_zero, List.set_cons_succ, V.int.injEq, V.bl.injEq, V.ref.injEq, V.str.injEq, HO.lst.injEq, HO.tup.injEq, Option.some.injEq, exists_eq_left', exists_eq_left, List.cons.injEq, and_true, true_and, decide_eq_true_eq, reduceCtorEq, false_and, exists_false, or_false, false_or, exists_const, and_assoc, exists_and_left, List.append_nil, ix0, ix1, ix2, cm_mod, cdw1009, cdw2003, cdw7, cdw64, cdw2, cm104729, cm2, cm3, upd_same, List.length_cons, List.length_nil, Int.reduceLT, Int.reduceLE, Nat.reduceAdd, Nat.reduceLeDiff, Nat.reduceLT, Int.reduceToNat, r_for1, r_forL, r_forT, r_lcL, r_lc1, r_yes, r_gtupD, wipe_0, wipe_1, List.cons_append, List.nil_append, r_forS, r_ipI, ite_false, ite_true, Bool.not_true, Bool.not_false, decide_true, decide_false, r_isd, r_islt, cD_ty, cD_ref, tD_non, tD_bl, tD_int, tD_str, tD_ref, tH_lst, tH_tup, tH_dK, tH_ins, ki_self, ki_int_bool, ki_non_int, ki_str_int, ki_lt_lst, ki_lt_tup, r_fld, r_sfld, HO.ins.injEq, cx_K]
      refine ⟨Nat.zero_le _, fun F hF0 => ?_⟩
      have sF : Same H7 (L2.upd H7 F (.lst [])) := Same.new' (Same.refl _) hF0
      have eF : L2.upd H7 F (.lst []) F = some (.lst []) := upd_same
      have NF : N ≠ F := ne_new hN hF0
      have fF : ∀ b o, H' b = some o → b ≠ F := fun b o e => ne_new (S7 _ _ e) hF0
      have S8 : ∀ b o, H' b = some o → L2.upd H7 F (.lst []) b = some o := fun b o e => sF _ _ (S7 _ _ e)
      have hN := sF _ _ hN
      generalize L2.upd H7 F (.lst []) = H8 at *
      unfold t_q11
      simp only [r_seq, r_next, r_brk, r_cont, r_asg, r_name, r_ret, r_retN, r_drop, r_ifs, r_never, r_var, r_c, r_op, r_un, r_if, r_tst, r_b, r_not, r_and, r_or, r_andV, r_orV, r_notV, r_nil, r_cons, r_tup, r_lst, r_cb, r_call, r_bm, r_bm0, r_sl, r_nopart, r_part, r_rev, r_gnil, r_gcons, r_gsub, r_par, r_aug, r_chain, r_I0, r_I, r_U, r_ixd, r_lend, r_tupd, r_listd, r_sld, r_app, r_ext, r_reverse, r_setl, r_cat, r_int1, r_eqS, r_neS, scal_ii, scal_bb, scal_ss, at0, at1, at2, sq_lst, sq_tup, isLst_lst, List.getElem?_cons_zero, List.getElem?_cons_succ, List.set_cons_zero, List.set_cons_succ, V.int.injEq, V.bl.injEq, V.ref.injEq, V.str.injEq, HO.lst.injEq, HO.tup.injEq, Option.some.injEq, exists_eq_left', exists_eq_left, List.cons.injEq, and_true, true_and, decide_eq_true_eq, reduceCtorEq, false_and, exists_false, or_false, false_or, exists_const, and_assoc, exists_and_left, List.append_nil, ix0, ix1, ix2, cm_mod, cdw1009, cdw2003, cdw7, cdw64, cdw2, cm104729, cm2, cm3, upd_same, List.length_cons, List.length_nil, Int.reduceLT, Int.reduceLE, Nat.reduceAdd, Nat.reduceLeDiff, Nat.reduceLT, Int.reduceToNat, r_for1, r_forL, r_forT, r_lcL, r_lc1, r_yes, r_gtupD, wipe_0, wipe_1, List.cons_append, List.nil_append, r_forS, r_ipI, ite_false, ite_true, Bool.not_true, Bool.not_false, decide_true, decide_false, r_isd, r_islt, cD_ty, cD_ref, tD_non, tD_bl, tD_int, tD_str, tD_ref, tH_lst, tH_tup, tH_dK, tH_ins, ki_self, ki_int_bool, ki_non_int, ki_str_int, ki_lt_lst, ki_lt_tup, r_fld, r_sfld, HO.ins.injEq, cx_K, r_forE]
      refine lp_enum (xs := refs.map V.ref) (by rw [S8 _ _ eA]; rfl) (LvQ11 S L A L6 G N F many st (nmI (ps.flatten ++ last)) ps H8) ⟨_, _, rfl, fun _ _ _ e => e, ⟨[], eF, .nil⟩⟩ (fun i σ H' ⟨_, _, _, q, _⟩ => by rw [S8 _ _ eA]; exact q _ _ (fF _ _ eA) (S8 _ _ eA)) ?_ ?_
      · rintro i y σ H9 hy ⟨u3, u8, rfl, k9, hF9⟩ T0 hT0
        rw [List.getElem?_map] at hy
        obtain ⟨r, hr1, rfl⟩ := Option.map_eq_some_iff.mp hy
        obtain ⟨hi0, e0⟩ := List.getElem?_eq_some_iff.mp hr1
        have hi' : i < ps.length := by rw [← lA]; exact hi0
        have hrt := Paired.at' qA hi0 hi'
        rw [e0] at hrt
        have tk : ps.take (i + 1) = ps.take i ++ [ps[i]] := by rw [List.take_add_one, List.getElem?_eq_getElem hi']; rfl
        have an := asm_snoc st (nmI (ps.flatten ++ last)) ps[i] (ps.take i) 0
        rw [← tk, List.length_take, Nat.min_eq_left (Nat.le_of_lt hi'), Nat.zero_add] at an
        have al := asm_len st (nmI (ps.flatten ++ last)) (ps.take i) 0 fun q hq => pl q (List.mem_of_mem_take hq)
        rw [List.length_take] at al
        have pli := pl _ (List.getElem_mem hi')
        have sT : Same H9 (L2.upd H9 T0 (.tup [.int (i : Nat), .ref r])) := Same.new' (Same.refl _) hT0
        have eT : L2.upd H9 T0 (.tup [.int (i : Nat), .ref r]) T0 = some (.tup [.int (i : Nat), .ref r]) := upd_same
        generalize L2.upd H9 T0 (.tup [.int (i : Nat), .ref r]) = H10 at *
        have S10 : ∀ b o, H' b = some o → H10 b = some o := fun b o e => sT _ _ (k9 _ _ (fF _ _ e) (S8 _ _ e))
        have hr10 : RsL H10 r ps[i] := hrt.2.same S10
        have rF : r ≠ F := by obtain ⟨_, e, _⟩ := hrt.2; exact fF _ _ e
        generalize ps[i] = p at *
        unfold S12
        simp only [r_seq, r_next, r_brk, r_cont, r_asg, r_name, r_ret, r_retN, r_drop, r_ifs, r_never, r_var, r_c, r_op, r_un, r_if, r_tst, r_b, r_not, r_and, r_or, r_andV, r_orV, r_notV, r_nil, r_cons, r_tup, r_lst, r_cb, r_call, r_bm, r_bm0, r_sl, r_nopart, r_part, r_rev, r_gnil, r_gcons, r_gsub, r_par, r_aug, r_chain, r_I0, r_I, r_U, r_ixd, r_lend, r_tupd, r_listd, r_sld, r_app, r_ext, r_reverse, r_setl, r_cat, r_int1, r_eqS, r_neS, scal_ii, scal_bb, scal_ss, at0, at1, at2, sq_lst, sq_tup, isLst_lst, List.getElem?_cons_zero, List.getElem?_cons_succ, List.set_cons_zero, List.set_cons_succ, V.int.injEq, V.bl.injEq, V.ref.injEq, V.str.injEq, HO.lst.injEq, HO.tup.injEq, Option.some.injEq, exists_eq_left', exists_eq_left, List.cons.injEq, and_true, true_and, decide_eq_true_eq, reduceCtorEq, false_and, exists_false, or_false, false_or, exists_const, and_assoc, exists_and_left, List.append_nil, ix0, ix1, ix2, cm_mod, cdw1009, cdw2003, cdw7, cdw64, cdw2, cm104729, cm2, cm3, upd_same, List.length_cons, List.length_nil, Int.reduceLT, Int.reduceLE, Nat.reduceAdd, Nat.reduceLeDiff, Nat.reduceLT, Int.reduceToNat, r_for1, r_forL, r_forT, r_lcL, r_lc1, r_yes, r_gtupD, wipe_0, wipe_1, List.cons_append, List.nil_append, r_forS, r_ipI, ite_false, ite_true, Bool.not_true, Bool.not_false, decide_true, decide_false, r_isd, r_islt, cD_ty, cD_ref, tD_non, tD_bl, tD_int, tD_str, tD_ref, tH_lst, tH_tup, tH_dK, tH_ins, ki_self, ki_int_bool, ki_non_int, ki_str_int, ki_lt_lst, ki_lt_tup, r_fld, r_sfld, HO.ins.injEq, cx_K, eT]
        refine q11b_run (S10 _ _ hL) (sT _ _ (k9 _ _ NF hN)) (hF9.same sT) hr10 rF (fF _ _ hL) (by omega) (by omega) pli fun H11 k11 hF11 => ⟨_, _, rfl, fun b o nb e => k11 _ _ nb (sT _ _ (k9 _ _ nb e)), ?_⟩
        rw [an]
        exact hF11
      · rintro σ H9 ⟨u3, u8, rfl, k9, hF9⟩
        rw [List.length_map, lA, List.take_length] at hF9
        have al := asm_len st (nmI (ps.flatten ++ last)) ps 0 pl
        have S9 : ∀ b o, H' b = some o → H9 b = some o := fun b o e => k9 _ _ (fF _ _ e) (S8 _ _ e)
        obtain ⟨rf, eF9, qF9⟩ := hF9
        obtain ⟨r6, e6, q6⟩ := h6.same S9
        have lf := Paired.length qF9
        have l6 := Paired.length q6
        unfold S12
        simp only [r_seq, r_next, r_brk, r_cont, r_asg, r_name, r_ret, r_retN, r_drop, r_ifs, r_never, r_var, r_c, r_op, r_un, r_if, r_tst, r_b, r_not, r_and, r_or, r_andV, r_orV, r_notV, r_nil, r_cons, r_tup, r_lst, r_cb, r_call, r_bm, r_bm0, r_sl, r_nopart, r_part, r_rev, r_gnil, r_gcons, r_gsub, r_par, r_aug, r_chain, r_I0, r_I, r_U, r_ixd, r_lend, r_tupd, r_listd, r_sld, r_app, r_ext, r_reverse, r_setl, r_cat, r_int1, r_eqS, r_neS, scal_ii, scal_bb, scal_ss, at0, at1, at2, sq_lst, sq_tup, isLst_lst, List.getElem?_cons_zero, List.getElem?_cons_succ, List.set_cons_zero, List.set_cons_succ, V.int.injEq, V.bl.injEq, V.ref.injEq, V.str.injEq, HO.lst.injEq, HO.tup.injEq, Option.some.injEq, exists_eq_left', exists_eq_left, List.cons.injEq, and_true, true_and, decide_eq_true_eq, reduceCtorEq, false_and, exists_false, or_false, false_or, exists_const, and_assoc, exists_and_left, List.append_nil, ix0, ix1, ix2, cm_mod, cdw1009, cdw2003, cdw7, cdw64, cdw2, cm104729, cm2, cm3, upd_same, List.length_cons, List.length_nil, Int.reduceLT, Int.reduceLE, Nat.reduceAdd, Nat.reduceLeDiff, Nat.reduceLT, Int.reduceToNat, r_for1, r_forL, r_forT, r_lcL, r_lc1, r_yes, r_gtupD, wipe_0, wipe_1, List.cons_append, List.nil_append, r_forS, r_ipI, ite_false, ite_true, Bool.not_true, Bool.not_false, decide_true, decide_false, r_isd, r_islt, cD_ty, cD_ref, tD_non, tD_bl, tD_int, tD_str, tD_ref, tH_lst, tH_tup, tH_dK, tH_ins, ki_self, ki_int_bool, ki_non_int, ki_str_int, ki_lt_lst, ki_lt_tup, r_fld, r_sfld, HO.ins.injEq, cx_K]
        refine ⟨_, eF9, _, e6, Nat.le_trans (by rw [List.length_map, List.length_map]; omega : _ ≤ 1000) (by decide), fun R hR => ?_⟩
        have sR : Same H9 (L2.upd H9 R (.lst (rf.map V.ref ++ r6.map V.ref))) := Same.new' (Same.refl _) hR
        have S11 : Same H' (L2.upd H9 R (.lst (rf.map V.ref ++ r6.map V.ref))) := fun b o e => sR _ _ (S9 _ _ e)
        have hR0 : H R = none := by
          cases z : H R with
          | none => rfl
          | some o =>
            have RS : R ≠ S := fun w => by
              obtain ⟨_, _, _, e⟩ := hS.same1 S9
              rw [w, e] at hR
              cases hR
            rw [S9 _ _ (kS _ _ RS z)] at hR
            cases hR
        exact kQ R st many ps last _ ⟨hst, mn, len, ok, lo⟩ hR0 (keep1 kS S11) (hS.same1 S11) ⟨rf ++ r6, by rw [upd_same, List.map_append], Paired.app' (Paired.map' qF9 fun b x z => sR _ _ z) (Paired.map' q6 fun b x z => sR _ _ z)⟩
    unfold t_q5 t_q6
    simp only [r_seq, r_next, r_brk, r_cont, r_asg, r_name, r_ret, r_retN, r_drop, r_ifs, r_never, r_var, r_c, r_op, r_un, r_if, r_tst, r_b, r_not, r_and, r_or, r_andV, r_orV, r_notV, r_nil, r_cons, r_tup, r_lst, r_cb, r_call, r_bm, r_bm0, r_sl, r_nopart, r_part, r_rev, r_gnil, r_gcons, r_gsub, r_par, r_aug, r_chain, r_I0, r_I, r_U, r_ixd, r_lend, r_tupd, r_listd, r_sld, r_app, r_ext, r_reverse, r_setl, r_cat, r_int1, r_eqS, r_neS, scal_ii, scal_bb, scal_ss, at0, at1, at2, sq_lst, sq_tup, isLst_lst, List.getElem?_cons_zero, List.getElem?_cons_succ, List.set_cons_zero, List.set_cons_succ, V.int.injEq, V.bl.injEq, V.ref.injEq, V.str.injEq, HO.lst.injEq, HO.tup.injEq, Option.some.injEq, exists_eq_left', exists_eq_left, List.cons.injEq, and_true, true_and, decide_eq_true_eq, reduceCtorEq, false_and, exists_false, or_false, false_or, exists_const, and_assoc, exists_and_left, List.append_nil, ix0, ix1, ix2, cm_mod, cdw1009, cdw2003, cdw7, cdw64, cdw2, cm104729, cm2, cm3, upd_same, List.length_cons, List.length_nil, Int.reduceLT, Int.reduceLE, Nat.reduceAdd, Nat.reduceLeDiff, Nat.reduceLT, Int.reduceToNat, r_for1, r_forL, r_forT, r_lcL, r_lc1, r_yes, r_gtupD, wipe_0, wipe_1, List.cons_append, List.nil_append, r_forS, r_ipI, ite_false, ite_true, Bool.not_true, Bool.not_false, decide_true, decide_false, r_isd, r_islt, cD_ty, cD_ref, tD_non, tD_bl, tD_int, tD_str, tD_ref, tH_lst, tH_tup, tH_dK, tH_ins, ki_self, ki_int_bool, ki_non_int, ki_str_int, ki_lt_lst, ki_lt_tup, r_fld, r_sfld, HO.ins.injEq, cx_K]
    refine ⟨szl (by decide), fun p1 h1 => ?_⟩
    have s : Same H4 (L2.upd H4 p1 (.tup [.str "LOAD_NAME", .str "z", .int 70])) := Same.new' (Same.refl _) h1
    have hS := hS.same1 s
    have hA := hA.same s
    have kS := keep1 kS s
    have hL := s _ _ hL
    have ep1 : L2.upd H4 p1 (.tup [.str "LOAD_NAME", .str "z", .int 70]) p1 = some (.tup [.str "LOAD_NAME", .str "z", .int 70]) := upd_same
    clear s
    generalize L2.upd H4 p1 (.tup [.str "LOAD_NAME", .str "z", .int 70]) = G1 at *
    refine ⟨szl (by decide), fun p2 h2 => ?_⟩
    have s : Same G1 (L2.upd G1 p2 (.tup [.str "RETURN_VALUE", .non, .int 70])) := Same.new' (Same.refl _) h2
    have hS := hS.same1 s
    have hA := hA.same s
    have kS := keep1 kS s
    have hL := s _ _ hL
    have ep1 := s _ _ ep1
    have ep2 : L2.upd G1 p2 (.tup [.str "RETURN_VALUE", .non, .int 70]) p2 = some (.tup [.str "RETURN_VALUE", .non, .int 70]) := upd_same
    clear s
    generalize L2.upd G1 p2 (.tup [.str "RETURN_VALUE", .non, .int 70]) = G2 at *
    refine ⟨szl (by decide), fun p3 h3 => ?_⟩
    have s : Same G2 (L2.upd G2 p3 (.lst [.ref p1, .ref p2])) := Same.new' (Same.refl _) h3
    have hS := hS.same1 s
    have hA := hA.same s
    have kS := keep1 kS s
    have hL := s _ _ hL
    have ep1 := s _ _ ep1
    have ep2 := s _ _ ep2
    have ep3 : L2.upd G2 p3 (.lst [.ref p1, .ref p2]) p3 = some (.lst [.ref p1, .ref p2]) := upd_same
    clear s
    generalize L2.upd G2 p3 (.lst [.ref p1, .ref p2]) = G3 at *
    unfold S12 at rest
    simp only [r_seq, r_next, r_brk, r_cont, r_asg, r_name, r_ret, r_retN, r_drop, r_ifs, r_never, r_var, r_c, r_op, r_un, r_if, r_tst, r_b, r_not, r_and, r_or, r_andV, r_orV, r_notV, r_nil, r_cons, r_tup, r_lst, r_cb, r_call, r_bm, r_bm0, r_sl, r_nopart, r_part, r_rev, r_gnil, r_gcons, r_gsub, r_par, r_aug, r_chain, r_I0, r_I, r_U, r_ixd, r_lend, r_tupd, r_listd, r_sld, r_app, r_ext, r_reverse, r_setl, r_cat, r_int1, r_eqS, r_neS, scal_ii, scal_bb, scal_ss, at0, at1, at2, sq_lst, sq_tup, isLst_lst, List.getElem?_cons_zero, List.getElem?_cons_succ, List.set_cons_zero, List.set_cons_succ, V.int.injEq, V.bl.injEq, V.ref.injEq, V.str.injEq, HO.lst.injEq, HO.tup.injEq, Option.some.injEq, exists_eq_left', exists_eq_left, List.cons.injEq, and_true, true_and, decide_eq_true_eq, reduceCtorEq, false_and, exists_false, or_false, false_or, exists_const, and_assoc, exists_and_left, List.append_nil, ix0, ix1, ix2, cm_mod, cdw1009, cdw2003, cdw7, cdw64, cdw2, cm104729, cm2, cm3, upd_same, List.length_cons, List.length_nil, Int.reduceLT, Int.reduceLE, Nat.reduceAdd, Nat.reduceLeDiff, Nat.reduceLT, Int.reduceToNat, r_for1, r_forL, r_forT, r_lcL, r_lc1, r_yes, r_gtupD, wipe_0, wipe_1, List.cons_append, List.nil_append, r_forS, r_ipI, ite_false, ite_true, Bool.not_true, Bool.not_false, decide_true, decide_false, r_isd, r_islt, cD_ty, cD_ref, tD_non, tD_bl, tD_int, tD_str, tD_ref, tH_lst, tH_tup, tH_dK, tH_ins, ki_self, ki_int_bool, ki_non_int, ki_str_int, ki_lt_lst, ki_lt_tup, r_fld, r_sfld, HO.ins.injEq, cx_K] at rest
    refine ⟨S, 2, rfl, hS, by decide, by decide, fun r H9 r0 r1 k9 s9 => ?_⟩
    have hL9 := k9 _ _ LS hL
    have hA9 := hA.keep k9 hS AS
    have kS9 := kS.trans k9
    have n1 : p1 ≠ S := by obtain ⟨_, _, _, e⟩ := hS; intro z; rw [z, e] at ep1; cases ep1
    have n2 : p2 ≠ S := by obtain ⟨_, _, _, e⟩ := hS; intro z; rw [z, e] at ep2; cases ep2
    have n3 : p3 ≠ S := by obtain ⟨_, _, _, e⟩ := hS; intro z; rw [z, e] at ep3; cases ep3
    have e1 := k9 _ _ n1 ep1
    have e2 := k9 _ _ n2 ep2
    have e3 := k9 _ _ n3 ep3
    clear hS hA kS hL k9 ep1 ep2 ep3
    simp only [r_seq, r_next, r_brk, r_cont, r_asg, r_name, r_ret, r_retN, r_drop, r_ifs, r_never, r_var, r_c, r_op, r_un, r_if, r_tst, r_b, r_not, r_and, r_or, r_andV, r_orV, r_notV, r_nil, r_cons, r_tup, r_lst, r_cb, r_call, r_bm, r_bm0, r_sl, r_nopart, r_part, r_rev, r_gnil, r_gcons, r_gsub, r_par, r_aug, r_chain, r_I0, r_I, r_U, r_ixd, r_lend, r_tupd, r_listd, r_sld, r_app, r_ext, r_reverse, r_setl, r_cat, r_int1, r_eqS, r_neS, scal_ii, scal_bb, scal_ss, at0, at1, at2, sq_lst, sq_tup, isLst_lst, List.getElem?_cons_zero, List.getElem?_cons_succ, List.set_cons_zero, List.set_cons_succ, V.int.injEq, V.bl.injEq, V.ref.injEq, V.str.injEq, HO.lst.injEq, HO.tup.injEq, Option.some.injEq, exists_eq_left', exists_eq_left, List.cons.injEq, and_true, true_and, decide_eq_true_eq, reduceCtorEq, false_and, exists_false, or_false, false_or, exists_const, and_assoc, exists_and_left, List.append_nil, ix0, ix1, ix2, cm_mod, cdw1009, cdw2003, cdw7, cdw64, cdw2, cm104729, cm2, cm3, upd_same, List.length_cons, List.length_nil, Int.reduceLT, Int.reduceLE, Nat.reduceAdd, Nat.reduceLeDiff, Nat.reduceLT, Int.reduceToNat, r_for1, r_forL, r_forT, r_lcL, r_lc1, r_yes, r_gtupD, wipe_0, wipe_1, List.cons_append, List.nil_append, r_forS, r_ipI, ite_false, ite_true, Bool.not_true, Bool.not_false, decide_true, decide_false, r_isd, r_islt, cD_ty, cD_ref, tD_non, tD_bl, tD_int, tD_str, tD_ref, tH_lst, tH_tup, tH_dK, tH_ins, ki_self, ki_int_bool, ki_non_int, ki_str_int, ki_lt_lst, ki_lt_tup, r_fld, r_sfld, HO.ins.injEq, cx_K]
    by_cases c : r = 0
    · rw [if_pos c]
      refine ⟨szl (by decide), fun pw hw => ?_⟩
      have hS := s9
      have nw : pw ≠ S := hS.ne hw
      have hL := hL9
      have hA := hA9
      have kS := kS9
      have s : Same H9 (L2.upd H9 pw (.lst [.str "JUMP", .str "JUMP_NO_INTERRUPT"])) := Same.new' (Same.refl _) hw
      have hS := hS.same1 s
      have hA := hA.same s
      have kS := keep1 kS s
      have hL := s _ _ hL
      have epw : L2.upd H9 pw (.lst [.str "JUMP", .str "JUMP_NO_INTERRUPT"]) pw = some (.lst [.str "JUMP", .str "JUMP_NO_INTERRUPT"]) := upd_same
      clear s
      generalize L2.upd H9 pw (.lst [.str "JUMP", .str "JUMP_NO_INTERRUPT"]) = G4 at *
      refine ⟨S, pw, _, rfl, hS, nw, epw, by decide, by decide, fun v H11 hv k2 s2 => ?_⟩
      obtain ⟨z, rfl, hz⟩ := dir_of hv
      have hL := k2 _ _ LS hL
      have hA := hA.keep k2 hS AS
      have kS := kS.trans k2
      have hS := s2
      clear k2 s2 epw
      refine ⟨S, many, rfl, hS, by omega, Int.lt_of_le_of_lt (by omega : (many : Int) ≤ 100) (by decide), fun r' H12 r0' r1' k3 s3 => ?_⟩
      obtain ⟨g, rfl⟩ : ∃ g : Nat, r' = g := ⟨r'.toNat, by omega⟩
      have hg : g < many := by omega
      have hL := k3 _ _ LS hL
      have hA := hA.keep k3 hS AS
      have kS := kS.trans k3
      have hS := s3
      clear k3 s3
      refine ⟨_, rfl, _, by rw [hL]; rfl, _, labs_at hg, _, rfl, szl (by decide), fun q1 h1 => ?_⟩
      have s : Same H12 (L2.upd H12 q1 (.tup [.str z, .int ((st * g : Nat) + 2), .int 70])) := Same.new' (Same.refl _) h1
      have hS := hS.same1 s
      have hA := hA.same s
      have kS := keep1 kS s
      have hL := s _ _ hL
      have eq1 : L2.upd H12 q1 (.tup [.str z, .int ((st * g : Nat) + 2), .int 70]) q1 = some (.tup [.str z, .int ((st * g : Nat) + 2), .int 70]) := upd_same
      clear s
      generalize L2.upd H12 q1 (.tup [.str z, .int ((st * g : Nat) + 2), .int 70]) = G5 at *
      refine ⟨szl (by decide), fun q2 h2 => ?_⟩
      have s : Same G5 (L2.upd G5 q2 (.lst [.ref q1])) := Same.new' (Same.refl _) h2
      have hS := hS.same1 s
      have hA := hA.same s
      have kS := keep1 kS s
      have hL := s _ _ hL
      have eq1 := s _ _ eq1
      have eq2 : L2.upd G5 q2 (.lst [.ref q1]) q2 = some (.lst [.ref q1]) := upd_same
      clear s
      generalize L2.upd G5 q2 (.lst [.ref q1]) = G6 at *
      exact rest q2 [⟨z, .int (st * g + 2 : Nat), some 70⟩] _ ⟨[q1], eq2, .cons eq1 .nil⟩ (.jmp z g hz hg) hS kS hA hL
    · rw [if_neg c]
      exact rest p3 [⟨"LOAD_NAME", .str "z", some 70⟩, ⟨"RETURN_VALUE", .non, some 70⟩] _ ⟨[p1, p2], e3, .cons e1 (.cons e2 .nil)⟩ .ret s9 kS9 hA9 hL9
end
end C38

set_option maxHeartbeats 2000000
namespace C38
open PySem PySem.Spec PyProof.Rows L2
/-! ### what is due -/
def toR4 (x : R3) : R4 := ⟨x.w, x.a, x.l, .non⟩
def ysOf (xs : List R3) : List R4 := xs.map toR4
structure DueOk (xs : List R3) : Prop where
  rw : ∀ x ∈ xs, RowW x
  lab : ∀ x ∈ xs, x.w = "LABEL" → ∃ n : Int, x.a = .int n
  jl : ∀ x ∈ xs, leading x.w = true → ∃ n m, x.a = .int n ∧ (plTo (ysOf xs)).f n = some m
  hB : ∀ n : Nat, 150 ≤ n → (plTo (ysOf xs)).f n = none
  len : xs.length ≤ 240
def freeP (f : Int → Option Nat) (n : Nat) : Bool := (f n).isNone
def freeL (f : Int → Option Nat) (a : Nat) : List Nat := (List.range' a (400 - a)).filter (freeP f)
theorem free_head (f : Int → Option Nat) : ∀ k a, (∀ n : Nat, a + k ≤ n → f n = none) → a + k < 400 → freeL f a = nf f k a :: freeL f (nf f k a + 1)
  | 0, a, h, l => by
    have e : 400 - a = (400 - (a + 1)) + 1 := by omega
    have p : freeP f a = true := by unfold freeP; rw [h a (Nat.le_refl _)]; rfl
    show (List.range' a (400 - a)).filter (freeP f) = a :: freeL f (a + 1)
    rw [e, List.range'_succ, List.filter_cons, p, if_pos rfl]
    rfl
  | k + 1, a, h, l => by
    have e : 400 - a = (400 - (a + 1)) + 1 := by omega
    unfold nf
    by_cases c : (f a).isSome = true
    · rw [if_pos c]
      have p : freeP f a = false := by unfold freeP; cases q : f a with
        | none => rw [q] at c; cases c
        | some m => rfl
      have ih := free_head f k (a + 1) (fun n hn => h n (by omega)) (by omega)
      rw [← ih]
      show (List.range' a (400 - a)).filter (freeP f) = _
      rw [e, List.range'_succ, List.filter_cons, p, if_neg (by decide)]
      rfl
    · rw [if_neg c]
      have p : freeP f a = true := by unfold freeP; cases q : f a with
        | none => rfl
        | some m => rw [q] at c; exact absurd rfl c
      show (List.range' a (400 - a)).filter (freeP f) = _
      rw [e, List.range'_succ, List.filter_cons, p, if_pos rfl]
      rfl
theorem pl_at (ys : List R4) : ∀ i, i ≤ ys.length → ∀ n m, (plTo (ys.take i)).f n = some m → m < i ∧ ∃ y, ys[m]? = some y ∧ y.w = "LABEL"
  | 0, _, n, m, h => by cases h
  | i + 1, hi, n, m, h => by
    have hx : ys[i]? = some ys[i] := List.getElem?_eq_getElem (by omega)
    have pn := pl_n ys i (by omega)
    rw [pl_snoc hx] at h
    have h : (if ys[i].w = "LABEL" then (fun m => if m = labI ys[i].a then some (plTo (ys.take i)).n else (plTo (ys.take i)).f m) else (plTo (ys.take i)).f) n = some m := h
    by_cases c : ys[i].w = "LABEL"
    · rw [if_pos c] at h
      have h : (if n = labI ys[i].a then some (plTo (ys.take i)).n else (plTo (ys.take i)).f n) = some m := h
      by_cases d : n = labI ys[i].a
      · rw [if_pos d, pn] at h
        cases h
        exact ⟨Nat.lt_succ_self _, _, hx, c⟩
      · rw [if_neg d] at h
        obtain ⟨q1, q2⟩ := pl_at ys i (by omega) n m h
        exact ⟨by omega, q2⟩
    · rw [if_neg c] at h
      obtain ⟨q1, q2⟩ := pl_at ys i (by omega) n m h
      exact ⟨by omega, q2⟩
theorem merge_snoc (kvs : List (Key × V)) (kv : Key × V) : mergeK [] (kvs ++ [kv]) = putK (mergeK [] kvs) kv.1 kv.2 := by
  unfold mergeK
  rw [List.foldl_append]
  rfl
theorem merge_len (kvs : List (Key × V)) : (mergeK [] kvs).length ≤ kvs.length := by
  have : ∀ (l a : List (Key × V)), (l.foldl (fun b kv => putK b kv.1 kv.2) a).length ≤ a.length + l.length := by
    intro l
    induction l with
    | nil => intro a; exact Nat.le_refl _
    | cons x r ih =>
      intro a
      have h1 := ih (putK a x.1 x.2)
      have h2 := length_putK a x.1 x.2
      rw [List.foldl_cons, List.length_cons]
      omega
  have q := this kvs []
  rw [List.length_nil, Nat.zero_add] at q
  exact q
def S13 (R : Addr) (v1 v2 v3 v4 v5 v6 v7 v8 v9 v10 v11 v12 : Option V) : L2.St := [some (.ref R), v1, v2, v3, v4, v5, v6, v7, v8, v9, v10, v11, v12]
def t_d1 (K : PySem.W.Frag) : TS := tAsg (tCB (fun xs H_1 Q => ∃ a ps kvs, xs = [V.ref a] ∧ SqL K H_1 a (List.map V.ref ps) ∧ Paired (fun p kv => SqT K H_1 p [kV kv.fst, kv.snd]) ps kvs ∧ ∀ (p : Addr), H_1 p = none → Q (V.ref p) (upd H_1 p (HO.dK (mergeK [] kvs)))) (tCons (tLc (iEnumS K (tCons (tVar 0) tNil)) (gTupD 2 (gCons (gName 1) (gCons (gName 2) gNil))) (tTest (tOp rEq (tOp rIxd (tVar 2) (tC (V.int 0))) (tC (V.str (Str.ofString "LABEL"))))) (tTup (tCons (tOp rIxd (tVar 2) (tC (V.int 1))) (tCons (tVar 1) tNil))) (List.map (fun x => x.snd) [(Str.ofString "_law_at", 1), (Str.ofString "_law_row", 2)])) tNil)) (gName 3)
def t_d2 : TS := tPar3 4 5 6 (tCons (tLc (iRng1 (tCons (tC (V.int 400)) tNil)) (gName 12) (tB (tDNotIn (tVar 12) (tVar 3))) (tVar 12) (List.map (fun x => x.snd) [(Str.ofString "_law_k", 12)])) (tCons (tLst tNil) (tCons (tCall spOpp [] E0 tNil) tNil)))
def t_d4 (K : PySem.W.Frag) : TS := tIfS (tAnd (tB (tDIn (tVar 7) (tVar 6))) (tB (tVar 10))) (tSeq (tAsg (tBM K "list" rPopAt (tVar 4) (tCons (tC (V.int 0)) tNil)) (gName 11)) (tSeq (tDrop (tBM K "list" rAppend (tVar 5) (tCons (tTup (tCons (tDGet (tVar 6) (tVar 7)) (tCons (tVar 11) (tCons (tVar 9) (tCons (tC V.non) tNil))))) tNil))) (tDrop (tBM K "list" rExtend (tVar 5) (tCons (tLst (tCons (tTup (tCons (tC (V.str (Str.ofString "JUMP_BACKWARD"))) (tCons (tVar 8) (tCons (tVar 9) (tCons (tC V.non) tNil))))) (tCons (tTup (tCons (tC (V.str (Str.ofString "LABEL"))) (tCons (tVar 11) (tCons (tC V.non) (tCons (tC V.non) tNil))))) tNil))) tNil))))) (tIfS (tAnd (tTest (tOp rEq (tVar 7) (tC (V.str (Str.ofString "JUMP_NO_INTERRUPT"))))) (tB (tVar 10))) (tDrop (tBM K "list" rAppend (tVar 5) (tCons (tTup (tCons (tC (V.str (Str.ofString "JUMP_BACKWARD_NO_INTERRUPT"))) (tCons (tVar 8) (tCons (tVar 9) (tCons (tC V.non) tNil))))) tNil))) (tIfS (tTest (tOp (rIn K false) (tVar 7) (tTup (tCons (tC (V.str (Str.ofString "JUMP"))) (tCons (tC (V.str (Str.ofString "JUMP_NO_INTERRUPT"))) tNil))))) (tDrop (tBM K "list" rAppend (tVar 5) (tCons (tTup (tCons (tOp rIxd (tLst (tCons (tC (V.str (Str.ofString "JUMP_FORWARD"))) (tCons (tC (V.str (Str.ofString "JUMP_BACKWARD"))) tNil))) (tCB (fun xs H Q => (∃ i, xs = [V.int i] ∧ Q (V.int i) H) ∨ ∃ k, xs = [V.bl k] ∧ Q (V.int (if k = true then 1 else 0)) H) (tCons (tVar 10) tNil))) (tCons (tVar 8) (tCons (tVar 9) (tCons (tC V.non) tNil))))) tNil))) (tDrop (tBM K "list" rAppend (tVar 5) (tCons (tTup (tCons (tVar 7) (tCons (tVar 8) (tCons (tVar 9) (tCons (tC V.non) tNil))))) tNil)))))
def t_d3b (K : PySem.W.Frag) : TS := tSeq (tAsg (tVar 2) (gTupD 3 (gCons (gName 7) (gCons (gName 8) (gCons (gName 9) gNil))))) (tSeq (tAsg (tAndV (tOp (fun x y H Q => ∃ i j, x = V.str i ∧ y = V.str j ∧ Q (V.bl !(Builtin.Str.occurrences j i 0 j.length 1).isEmpty) H) (tC (V.str (Str.ofString "JUMP"))) (tVar 7)) (tOp (rI0 fun i j => V.bl (decide (i < j))) (tDGet (tVar 3) (tVar 8)) (tVar 1))) (gName 10)) (t_d4 K))
def t_d (K : PySem.W.Frag) : TS := tSeq (t_d1 K) (tSeq t_d2 (tSeq (tFor (iEnumS K (tCons (tVar 0) tNil)) (gTupD 2 (gCons (gName 1) (gCons (gName 2) gNil))) (t_d3b K)) (tRet (tVar 5))))
theorem in_strs (z : Str) : ∀ ns : List Str, inV (.str z) (ns.map V.str) = decide (z ∈ ns)
  | [] => rfl
  | x :: r => by
    have ih := in_strs z r
    unfold inV at ih ⊢
    rw [List.map_cons, List.any_cons, ih]
    show ((x == z) || _) = _
    by_cases c : x = z
    · rw [c]; simp
    · have c' : ¬ z = x := fun e => c e.symm
      simp [c, c']
theorem flat_strs : ∀ ns : List Str, (ns.map V.str).all flatV = true
  | [] => rfl
  | z :: r => by rw [List.map_cons, List.all_cons, flat_strs r]; rfl
theorem inF_strs {K : PySem.W.Frag} {x : Addr} {z : Str} {zs : List Str} {H : Hp} {Q : VK} (hs : SqL K H x (zs.map V.str) ∨ SqT K H x (zs.map V.str)) (q : Q (.bl (decide (z ∈ zs))) H) : rIn K false (.str z) (.ref x) H Q :=
  ⟨x, zs.map V.str, rfl, hs, rfl, flat_strs _, by rw [if_neg (by decide), in_strs]; exact q⟩
theorem pop0 {n : Nat} : seqIndex? (0 : Int) (n + 1) = some 0 := (ixN_seq (i := 0) (j := 0) (by unfold ixN; simp)).1
def LvD1 (xs : List R3) (H : Hp) (D : Addr) (i : Nat) (H' : Hp) : Prop := Same H H' ∧ ∃ (ps : List Addr) (kvs : List (Key × V)), H' D = some (.lst (ps.map V.ref)) ∧ Paired (fun p kv => H' p = some (.tup [kV kv.1, kv.2])) ps kvs ∧ kvs.length ≤ i ∧ ∀ n : Int, valV (mergeK [] kvs) (Sum.inl n : Key) = ((plTo ((ysOf xs).take i)).f n).map fun k => V.int (k : Nat)
theorem d1_run {K : PySem.W.Frag} {D : Ends} {R : Addr} {H : Hp} {xs : List R3} (hR : RsL H R xs) (ok : DueOk xs) (k : ∀ Pl v1 v2 H', H Pl = none → Same H H' → PlD H' Pl (plTo (ysOf xs)).f 300 → D.nx (S13 R v1 v2 (some (.ref Pl)) none none none none none none none none none) H') : t_d1 K D (S13 R none none none none none none none none none none none none) H := by
  unfold t_d1 S13
  rw [r_asg]
  simp only [r_seq, r_next, r_brk, r_cont, r_asg, r_name, r_ret, r_retN, r_drop, r_ifs, r_never, r_var, r_c, r_op, r_un, r_if, r_tst, r_b, r_not, r_and, r_or, r_andV, r_orV, r_notV, r_nil, r_cons, r_tup, r_lst, r_cb, r_call, r_bm, r_bm0, r_sl, r_nopart, r_part, r_rev, r_gnil, r_gcons, r_gsub, r_par, r_aug, r_chain, r_I0, r_I, r_U, r_ixd, r_lend, r_tupd, r_listd, r_sld, r_app, r_ext, r_reverse, r_setl, r_cat, r_int1, r_eqS, r_neS, scal_ii, scal_bb, scal_ss, at0, at1, at2, sq_lst, sq_tup, isLst_lst, List.getElem?_cons_zero, List.getElem?_cons_succ, List.set_cons_zero, List.set_cons_succ, V.int.injEq, V.bl.injEq, V.ref.injEq, V.str.injEq, HO.lst.injEq, HO.tup.injEq, Option.some.injEq, exists_eq_left', exists_eq_left, List.cons.injEq, and_true, true_and, decide_eq_true_eq, reduceCtorEq, false_and, exists_false, or_false, false_or, exists_const, and_assoc, exists_and_left, List.append_nil, ix0, ix1, ix2, cm_mod, cdw1009, cdw2003, cdw7, cdw64, cdw2, cm104729, cm2, cm3, upd_same, List.length_cons, List.length_nil, Int.reduceLT, Int.reduceLE, Nat.reduceAdd, Nat.reduceLeDiff, Nat.reduceLT, Int.reduceToNat, r_for1, r_forL, r_forT, r_lcL, r_lc1, r_yes, r_gtupD, wipe_0, wipe_1, List.cons_append, List.nil_append, r_forS, r_ipI, ite_false, ite_true, Bool.not_true, Bool.not_false, decide_true, decide_false, r_isd, r_islt, cD_ty, cD_ref, tD_non, tD_bl, tD_int, tD_str, tD_ref, tH_lst, tH_tup, tH_dK, tH_ins, ki_self, ki_int_bool, ki_non_int, ki_str_int, ki_lt_lst, ki_lt_tup, r_fld, r_sfld, HO.ins.injEq, cx_K, r_lcE]
  obtain ⟨rr, eR, pR⟩ := hR
  have lr := Paired.length pR
  have ly : (ysOf xs).length = xs.length := List.length_map _
  refine cp_enum (xs := rr.map V.ref) (by rw [eR]; rfl) (LvD1 xs H) (fun D hD => ⟨Same.new' (Same.refl H) hD, [], [], upd_same, .nil, Nat.le_refl _, fun n => rfl⟩) (fun D i H' hD q => by rw [q.1 _ _ eR, eR]) ?_ ?_
  · rintro D0 i y H2 hD hy ⟨s2, ps, kvs, eD, pP, lk, mk⟩ T0 hT0
    rw [List.getElem?_map] at hy
    obtain ⟨r, hr1, rfl⟩ := Option.map_eq_some_iff.mp hy
    obtain ⟨hi0, e0⟩ := List.getElem?_eq_some_iff.mp hr1
    have hi' : i < xs.length := by rw [← lr]; exact hi0
    have hrt := Paired.at' pR hi0 hi'
    rw [e0] at hrt
    have hy2 : (ysOf xs)[i]? = some (toR4 xs[i]) := by unfold ysOf; rw [List.getElem?_map, List.getElem?_eq_getElem hi']; rfl
    have sn := pl_snoc hy2
    have pn := pl_n (ysOf xs) i (by omega)
    have lab := ok.lab _ (List.getElem_mem hi')
    have lx := ok.len
    have lpp := Paired.length pP
    generalize xs[i] = x at *
    have sT : Same H2 (L2.upd H2 T0 (.tup [.int (i : Nat), .ref r])) := Same.new' (Same.refl _) hT0
    have eT : L2.upd H2 T0 (.tup [.int (i : Nat), .ref r]) T0 = some (.tup [.int (i : Nat), .ref r]) := upd_same
    generalize L2.upd H2 T0 (.tup [.int (i : Nat), .ref r]) = H3 at *
    have er := sT _ _ (s2 _ _ hrt)
    have eD3 := sT _ _ eD
    have pP3 : Paired (fun p kv => H3 p = some (.tup [kV kv.1, kv.2])) ps kvs := Paired.map' pP fun p kv e => sT _ _ e
    have s3 : Same H H3 := fun b o e => sT _ _ (s2 _ _ e)
    show gTupD 2 _ (.ref T0) [some (.ref R), none, none, none, none, none, none, none, none, none, none, none, none] H3 _
    unfold v3 at er
    simp only [r_seq, r_next, r_brk, r_cont, r_asg, r_name, r_ret, r_retN, r_drop, r_ifs, r_never, r_var, r_c, r_op, r_un, r_if, r_tst, r_b, r_not, r_and, r_or, r_andV, r_orV, r_notV, r_nil, r_cons, r_tup, r_lst, r_cb, r_call, r_bm, r_bm0, r_sl, r_nopart, r_part, r_rev, r_gnil, r_gcons, r_gsub, r_par, r_aug, r_chain, r_I0, r_I, r_U, r_ixd, r_lend, r_tupd, r_listd, r_sld, r_app, r_ext, r_reverse, r_setl, r_cat, r_int1, r_eqS, r_neS, scal_ii, scal_bb, scal_ss, at0, at1, at2, sq_lst, sq_tup, isLst_lst, List.getElem?_cons_zero, List.getElem?_cons_succ, List.set_cons_zero, List.set_cons_succ, V.int.injEq, V.bl.injEq, V.ref.injEq, V.str.injEq, HO.lst.injEq, HO.tup.injEq, Option.some.injEq, exists_eq_left', exists_eq_left, List.cons.injEq, and_true, true_and, decide_eq_true_eq, reduceCtorEq, false_and, exists_false, or_false, false_or, exists_const, and_assoc, exists_and_left, List.append_nil, ix0, ix1, ix2, cm_mod, cdw1009, cdw2003, cdw7, cdw64, cdw2, cm104729, cm2, cm3, upd_same, List.length_cons, List.length_nil, Int.reduceLT, Int.reduceLE, Nat.reduceAdd, Nat.reduceLeDiff, Nat.reduceLT, Int.reduceToNat, r_for1, r_forL, r_forT, r_lcL, r_lc1, r_yes, r_gtupD, wipe_0, wipe_1, List.cons_append, List.nil_append, r_forS, r_ipI, ite_false, ite_true, Bool.not_true, Bool.not_false, decide_true, decide_false, r_isd, r_islt, cD_ty, cD_ref, tD_non, tD_bl, tD_int, tD_str, tD_ref, tH_lst, tH_tup, tH_dK, tH_ins, ki_self, ki_int_bool, ki_non_int, ki_str_int, ki_lt_lst, ki_lt_tup, r_fld, r_sfld, HO.ins.injEq, cx_K, eT, er]
    refine ⟨rfl, ?_⟩
    unfold LvD1
    rw [sn]
    by_cases c : x.w = "LABEL"
    · rw [if_pos c]
      obtain ⟨n, en⟩ := lab c
      refine ⟨szl (by decide), fun p hp => ⟨_, by rw [upd_ne (ne_new eD3 hp)]; exact eD3, Nat.lt_of_le_of_lt (by rw [List.length_map]; omega : _ ≤ 240) (by decide), ?_⟩⟩
      have sp : Same H3 (L2.upd H3 p (.tup [x.a, .int (i : Nat)])) := Same.new' (Same.refl _) hp
      have ep : L2.upd H3 p (.tup [x.a, .int (i : Nat)]) p = some (.tup [x.a, .int (i : Nat)]) := upd_same
      have eD4 := sp _ _ eD3
      generalize L2.upd H3 p (.tup [x.a, .int (i : Nat)]) = H4 at *
      refine ⟨fun b o e => by rw [upd_ne (ne_new e hD)]; exact sp _ _ (s3 _ _ e), ps ++ [p], kvs ++ [((Sum.inl n : Key), V.int (i : Nat))], by rw [upd_same, List.map_append]; rfl, Paired.snoc' (Paired.map' pP3 fun q kv e => ?_) ?_, by rw [List.length_append, List.length_singleton]; omega, fun m => ?_⟩
      · rw [upd_ne (fun z => by rw [z, eD3] at e; cases e)]
        exact sp _ _ e
      · rw [upd_ne (fun z => by rw [z, eD4] at ep; cases ep), ep, en]
        rfl
      · rw [merge_snoc, valV_put]
        have ef : (plStep (plTo ((ysOf xs).take i)) (toR4 x)).f = fun m => if m = n then some i else (plTo ((ysOf xs).take i)).f m := by
          unfold plStep
          rw [if_pos (show (toR4 x).w = "LABEL" from c), pn]
          show (fun m => if m = labI x.a then _ else _) = _
          rw [en]
          rfl
        rw [ef]
        show _ = Option.map _ (if m = n then some i else (plTo ((ysOf xs).take i)).f m)
        by_cases d : m = n
        · rw [if_pos (by rw [d]), if_pos d]
          rfl
        · rw [if_neg (by simpa using d), if_neg d, mk]
    · rw [if_neg c]
      have ef : (plStep (plTo ((ysOf xs).take i)) (toR4 x)).f = (plTo ((ysOf xs).take i)).f := by
        unfold plStep
        rw [if_neg (show ¬ (toR4 x).w = "LABEL" from c)]
      rw [ef]
      exact ⟨s3, ps, kvs, eD3, pP3, by omega, mk⟩
  · rintro D0 H2 hD ⟨s2, ps, kvs, eD, pP, lk, mk⟩
    rw [List.length_map, lr] at lk mk
    rw [← ly, List.take_length] at mk
    have lx := ok.len
    refine ⟨D0, rfl, ps, SqL.of eD, kvs, Paired.map' pP fun p kv e => SqT.of e, fun p hp => ?_⟩
    have hp0 : H p = none := by
      cases z : H p with
      | none => rfl
      | some o => rw [s2 _ _ z] at hp; cases hp
    exact k p none none _ hp0 (fun b o e => by rw [upd_ne (ne_new (s2 _ _ e) hp)]; exact s2 _ _ e) ⟨_, upd_same, Nat.le_trans (merge_len kvs) (by omega), mk⟩
theorem d2_run {D : Ends} {R Pl : Addr} {v1 v2 : Option V} {H : Hp} {f : Int → Option Nat} (hP : PlD H Pl f 300) (k : ∀ Fr Du O H', Fr ≠ Du → Same H H' → H Fr = none → H Du = none → Fr ≠ O → Du ≠ O → H' Fr = some (.lst ((freeL f 0).map fun n => V.int (n : Nat))) → H' Du = some (.lst []) → OpD H' O → D.nx (S13 R v1 v2 (some (.ref Pl)) (some (.ref Fr)) (some (.ref Du)) (some (.ref O)) none none none none none none) H') : t_d2 D (S13 R v1 v2 (some (.ref Pl)) none none none none none none none none none) H := by
  unfold t_d2 S13 tPar3
  simp only [r_seq, r_next, r_brk, r_cont, r_asg, r_name, r_ret, r_retN, r_drop, r_ifs, r_never, r_var, r_c, r_op, r_un, r_if, r_tst, r_b, r_not, r_and, r_or, r_andV, r_orV, r_notV, r_nil, r_cons, r_tup, r_lst, r_cb, r_call, r_bm, r_bm0, r_sl, r_nopart, r_part, r_rev, r_gnil, r_gcons, r_gsub, r_par, r_aug, r_chain, r_I0, r_I, r_U, r_ixd, r_lend, r_tupd, r_listd, r_sld, r_app, r_ext, r_reverse, r_setl, r_cat, r_int1, r_eqS, r_neS, scal_ii, scal_bb, scal_ss, at0, at1, at2, sq_lst, sq_tup, isLst_lst, List.getElem?_cons_zero, List.getElem?_cons_succ, List.set_cons_zero, List.set_cons_succ, V.int.injEq, V.bl.injEq, V.ref.injEq, V.str.injEq, HO.lst.injEq, HO.tup.injEq, Option.some.injEq, exists_eq_left', exists_eq_left, List.cons.injEq, and_true, true_and, decide_eq_true_eq, reduceCtorEq, false_and, exists_false, or_false, false_or, exists_const, and_assoc, exists_and_left, List.append_nil, ix0, ix1, ix2, cm_mod, cdw1009, cdw2003, cdw7, cdw64, cdw2, cm104729, cm2, cm3, upd_same, List.length_cons, List.length_nil, Int.reduceLT, Int.reduceLE, Nat.reduceAdd, Nat.reduceLeDiff, Nat.reduceLT, Int.reduceToNat, r_for1, r_forL, r_forT, r_lcL, r_lc1, r_yes, r_gtupD, wipe_0, wipe_1, List.cons_append, List.nil_append, r_forS, r_ipI, ite_false, ite_true, Bool.not_true, Bool.not_false, decide_true, decide_false, r_isd, r_islt, cD_ty, cD_ref, tD_non, tD_bl, tD_int, tD_str, tD_ref, tH_lst, tH_tup, tH_dK, tH_ins, ki_self, ki_int_bool, ki_non_int, ki_str_int, ki_lt_lst, ki_lt_tup, r_fld, r_sfld, HO.ins.injEq, cx_K, r_dnin]
  refine ⟨by decide, by decide, fun Fr hFr => ?_⟩
  refine cp_rng0 (n := 400) (fun i H' => Same H H' ∧ H' Fr = some (.lst (((List.range' 0 i).filter (freeP f)).map fun n => V.int (n : Nat)))) ⟨Same.new' (Same.refl H) hFr, upd_same⟩ ?_ ?_
  · rintro i H2 hi ⟨s2, e2⟩
    rw [Int.zero_add]
    show gName 12 (.int (i : Int)) [some (.ref R), v1, v2, some (.ref Pl), none, none, none, none, none, none, none, none, none] H2 _
    simp only [r_seq, r_next, r_brk, r_cont, r_asg, r_name, r_ret, r_retN, r_drop, r_ifs, r_never, r_var, r_c, r_op, r_un, r_if, r_tst, r_b, r_not, r_and, r_or, r_andV, r_orV, r_notV, r_nil, r_cons, r_tup, r_lst, r_cb, r_call, r_bm, r_bm0, r_sl, r_nopart, r_part, r_rev, r_gnil, r_gcons, r_gsub, r_par, r_aug, r_chain, r_I0, r_I, r_U, r_ixd, r_lend, r_tupd, r_listd, r_sld, r_app, r_ext, r_reverse, r_setl, r_cat, r_int1, r_eqS, r_neS, scal_ii, scal_bb, scal_ss, at0, at1, at2, sq_lst, sq_tup, isLst_lst, List.getElem?_cons_zero, List.getElem?_cons_succ, List.set_cons_zero, List.set_cons_succ, V.int.injEq, V.bl.injEq, V.ref.injEq, V.str.injEq, HO.lst.injEq, HO.tup.injEq, Option.some.injEq, exists_eq_left', exists_eq_left, List.cons.injEq, and_true, true_and, decide_eq_true_eq, reduceCtorEq, false_and, exists_false, or_false, false_or, exists_const, and_assoc, exists_and_left, List.append_nil, ix0, ix1, ix2, cm_mod, cdw1009, cdw2003, cdw7, cdw64, cdw2, cm104729, cm2, cm3, upd_same, List.length_cons, List.length_nil, Int.reduceLT, Int.reduceLE, Nat.reduceAdd, Nat.reduceLeDiff, Nat.reduceLT, Int.reduceToNat, r_for1, r_forL, r_forT, r_lcL, r_lc1, r_yes, r_gtupD, wipe_0, wipe_1, List.cons_append, List.nil_append, r_forS, r_ipI, ite_false, ite_true, Bool.not_true, Bool.not_false, decide_true, decide_false, r_isd, r_islt, cD_ty, cD_ref, tD_non, tD_bl, tD_int, tD_str, tD_ref, tH_lst, tH_tup, tH_dK, tH_ins, ki_self, ki_int_bool, ki_non_int, ki_str_int, ki_lt_lst, ki_lt_tup, r_fld, r_sfld, HO.ins.injEq, cx_K, r_dnin]
    have hP2 : PlD H2 Pl f 300 := hP.imp (by obtain ⟨kv, e, _⟩ := hP; rw [s2 _ _ e, e])
    refine ⟨rfl, _, hP2.get (i : Int), ?_⟩
    rw [Option.isSome_map, List.range'_concat, List.filter_append, show 0 + 1 * i = i by omega, List.filter_cons, List.filter_nil]
    have fp : freeP f i = !(f (i : Int)).isSome := by unfold freeP; cases f (i : Int) <;> rfl
    rw [fp]
    have ll := List.length_filter_le (freeP f) (List.range' 0 i)
    rw [List.length_range'] at ll
    by_cases c : (f (i : Int)).isSome = true
    · rw [c, if_neg (by decide), if_neg (by decide), List.append_nil]
      exact ⟨s2, e2⟩
    · rw [if_pos (by simpa using c), if_pos (by simpa using c), List.map_append]
      exact ⟨_, e2, Nat.lt_of_le_of_lt (by rw [List.length_map]; omega : _ ≤ 400) (by decide), fun b o e => by rw [upd_ne (ne_new e hFr)]; exact s2 _ _ e, rfl⟩
  · rintro H2 ⟨s2, e2⟩
    refine ⟨Nat.zero_le _, fun Du hDu => ⟨rfl, fun O H3 hO s3 o3 => ?_⟩⟩
    have s23 : Same H2 H3 := fun b o e => s3 _ _ (by rw [upd_ne (ne_new e hDu)]; exact e)
    have e3 : H3 Du = some (.lst []) := s3 _ _ upd_same
    have FD : Fr ≠ Du := ne_new e2 hDu
    have nD : Du ≠ O := ne_new (upd_same (H := H2) (a := Du) (o := .lst [])) hO
    have nF : Fr ≠ O := ne_new (show L2.upd H2 Du (.lst []) Fr = _ by rw [upd_ne FD]; exact e2) hO
    have d0 : H Du = none := by
      cases z : H Du with
      | none => rfl
      | some o => rw [s2 _ _ z] at hDu; cases hDu
    exact k Fr Du O H3 FD (fun b o e => s23 _ _ (s2 _ _ e)) hFr d0 nF nD (s23 _ _ e2) e3 o3
theorem d4_run {K : PySem.W.Frag} {D : Ends} {R r Pl Fr Du O : Addr} {f : Int → Option Nat} {s : Dr} {i : Nat} {x : R3} {v11 v12 : Option V} {H : Hp} (rw : RowW x) (lab : x.w = "LABEL" → ∃ n : Int, x.a = .int n) (m : Nat) (jl : leading x.w = true → ∃ n, x.a = .int n ∧ f n = some m ∧ m ≠ i) (hB : ∀ n : Nat, 150 ≤ n → f n = none) (hO : OpD H O) (hF : H Fr = some (.lst ((freeL f s.free).map fun n => V.int (n : Nat)))) (hD : Rs4 H Du s.o) (hs : s.n = i) (hi : i ≤ 240) (hf : s.free ≤ 150 + i) (ho : s.o.length ≤ 3 * i) (n1 : Fr ≠ Du) (n2 : Fr ≠ O) (n3 : Du ≠ O)
    (k : ∀ v11 H', (∀ b o, b ≠ Fr → b ≠ Du → H b = some o → H' b = some o) → H' Fr = some (.lst ((freeL f (drStep f 150 s (toR4 x)).free).map fun n => V.int (n : Nat))) → Rs4 H' Du (drStep f 150 s (toR4 x)).o → D.nx (S13 R (some (.int (i : Nat))) (some (.ref r)) (some (.ref Pl)) (some (.ref Fr)) (some (.ref Du)) (some (.ref O)) (some (.str x.w)) (some x.a) (some (lnV x.l)) (some (.bl (leading x.w && decide (m < i)))) v11 none) H') :
    t_d4 K D (S13 R (some (.int (i : Nat))) (some (.ref r)) (some (.ref Pl)) (some (.ref Fr)) (some (.ref Du)) (some (.ref O)) (some (.str x.w)) (some x.a) (some (lnV x.l)) (some (.bl (leading x.w && decide (m < i)))) v11 none) H := by
  obtain ⟨kvs, eO, gO⟩ := id hO
  have dg : DGet H O (.str x.w) (if testing x.w = true then some (V.str (oppos x.w)) else none) := by rw [← gO]; exact DGet.k (k := (Sum.inr x.w : Key)) eO
  obtain ⟨rg, eD, pD⟩ := id hD
  have lg := Paired.length pD
  have szD : (rg.map V.ref).length < sizeLine := Nat.lt_of_le_of_lt (by rw [List.length_map]; omega : _ ≤ 1000) (by decide)
  have one : ∀ (y : R4) (H1 : Hp), Same H H1 → (drStep f 150 s (toR4 x)).o = s.o ++ [y] → (drStep f 150 s (toR4 x)).free = s.free → ∀ p, H1 p = none → ∃ z, L2.upd H1 p (.tup (v4 y)) Du = some (.lst z) ∧ z.length < sizeLine ∧ D.nx (S13 R (some (.int (i : Nat))) (some (.ref r)) (some (.ref Pl)) (some (.ref Fr)) (some (.ref Du)) (some (.ref O)) (some (.str x.w)) (some x.a) (some (lnV x.l)) (some (.bl (leading x.w && decide (m < i)))) v11 none) (L2.upd (L2.upd H1 p (.tup (v4 y))) Du (.lst (z ++ [.ref p]))) := fun y H1 s1 e1 e2 p hp => by
    have eD1 := s1 _ _ eD
    obtain ⟨r1, k1⟩ := rs4_app (y := y) eD1 (Paired.map' pD fun b x e => s1 _ _ e) hp
    refine ⟨_, by rw [upd_ne (ne_new eD1 hp)]; exact eD1, szD, k _ _ (fun b o nF nD e => k1 _ _ nD (s1 _ _ e)) ?_ ?_⟩
    · rw [e2]
      exact k1 _ _ n1 (s1 _ _ hF)
    · rw [e1]
      exact r1
  have same : direct x.w = false → testing x.w = false → (drStep f 150 s (toR4 x)).o = s.o ++ [toR4 x] ∧ (drStep f 150 s (toR4 x)).free = s.free := fun q1 q2 => by
    have q1 : direct (toR4 x).w = false := q1
    have q2 : testing (toR4 x).w = false := q2
    unfold drStep
    rw [q1, q2, if_neg (by decide), if_neg (by decide)]
    exact ⟨rfl, rfl⟩
  have step : direct x.w = true → (drStep f 150 s (toR4 x)).o = s.o ++ [⟨if upw f s.n (toR4 x) = true then "JUMP_FORWARD" else backW x.w, x.a, x.l, .non⟩] ∧ (drStep f 150 s (toR4 x)).free = s.free := fun q1 => by
    have q1 : direct (toR4 x).w = true := q1
    unfold drStep
    rw [if_pos q1]
    exact ⟨rfl, rfl⟩
  have jn : direct x.w = false → x.w ≠ "JUMP_NO_INTERRUPT" := fun q z => by rw [z] at q; exact absurd q (by decide)
  have dm : direct x.w = decide (x.w ∈ (["JUMP", "JUMP_NO_INTERRUPT"] : List Str)) := rfl
  have inT : ∀ {H1 : Hp} {p : Addr} {Q : VK}, (∀ (H2 : Hp), Same H1 H2 → Q (.bl (direct x.w)) H2) → H1 p = none → rIn K false (.str x.w) (.ref p) (L2.upd H1 p (.tup [.str "JUMP", .str "JUMP_NO_INTERRUPT"])) Q := fun {H1 p Q} q hp => inF_strs (zs := ["JUMP", "JUMP_NO_INTERRUPT"]) (.inr (SqT.of upd_same)) (by rw [← dm]; exact q _ (Same.new' (Same.refl _) hp))
  unfold t_d4 S13
  simp only [r_seq, r_next, r_brk, r_cont, r_asg, r_name, r_ret, r_retN, r_drop, r_ifs, r_never, r_var, r_c, r_op, r_un, r_if, r_tst, r_b, r_not, r_and, r_or, r_andV, r_orV, r_notV, r_nil, r_cons, r_tup, r_lst, r_cb, r_call, r_bm, r_bm0, r_sl, r_nopart, r_part, r_rev, r_gnil, r_gcons, r_gsub, r_par, r_aug, r_chain, r_I0, r_I, r_U, r_ixd, r_lend, r_tupd, r_listd, r_sld, r_app, r_ext, r_reverse, r_setl, r_cat, r_int1, r_eqS, r_neS, scal_ii, scal_bb, scal_ss, at0, at1, at2, sq_lst, sq_tup, isLst_lst, List.getElem?_cons_zero, List.getElem?_cons_succ, List.set_cons_zero, List.set_cons_succ, V.int.injEq, V.bl.injEq, V.ref.injEq, V.str.injEq, HO.lst.injEq, HO.tup.injEq, Option.some.injEq, exists_eq_left', exists_eq_left, List.cons.injEq, and_true, true_and, decide_eq_true_eq, reduceCtorEq, false_and, exists_false, or_false, false_or, exists_const, and_assoc, exists_and_left, List.append_nil, ix0, ix1, ix2, cm_mod, cdw1009, cdw2003, cdw7, cdw64, cdw2, cm104729, cm2, cm3, upd_same, List.length_cons, List.length_nil, Int.reduceLT, Int.reduceLE, Nat.reduceAdd, Nat.reduceLeDiff, Nat.reduceLT, Int.reduceToNat, r_for1, r_forL, r_forT, r_lcL, r_lc1, r_yes, r_gtupD, wipe_0, wipe_1, List.cons_append, List.nil_append, r_forS, r_ipI, ite_false, ite_true, Bool.not_true, Bool.not_false, decide_true, decide_false, r_isd, r_islt, cD_ty, cD_ref, tD_non, tD_bl, tD_int, tD_str, tD_ref, tH_lst, tH_tup, tH_dK, tH_ins, ki_self, ki_int_bool, ki_non_int, ki_str_int, ki_lt_lst, ki_lt_tup, r_fld, r_sfld, HO.ins.injEq, cx_K, r_dinE, r_dget]
  refine ⟨_, dg, ?_⟩
  by_cases ct : testing x.w = true
  · rw [if_pos ct] at dg ⊢
    have lx := (tst_lead ct).2
    obtain ⟨n, en, em, mi⟩ := jl lx
    have cd : direct x.w = false := by
      cases q : direct x.w with
      | false => rfl
      | true =>
        rw [dm, decide_eq_true_iff, List.mem_cons, List.mem_cons] at q
        rcases q with q | q | q
        · rw [q] at ct; exact absurd ct (by decide)
        · rw [q] at ct; exact absurd ct (by decide)
        · cases q
    have ul : upw f s.n (toR4 x) = decide (i < m) := by
      unfold upw
      rw [hs]
      show decide (i < (f (labI x.a)).getD 0) = _
      rw [en]
      show decide (i < (f n).getD 0) = _
      rw [em]
      rfl
    have cdr : direct (toR4 x).w = false := cd
    have ctr : testing (toR4 x).w = true := ct
    rw [if_pos (by rfl : (some (V.str (oppos x.w))).isSome = true)]
    by_cases b : m < i
    · rw [if_pos (by rw [lx, decide_eq_true b]; rfl)]
      have st : drStep f 150 s (toR4 x) = ⟨s.o ++ [⟨oppos x.w, .int (nf f (150 - s.free) s.free : Nat), x.l, .non⟩, ⟨"JUMP_BACKWARD", x.a, x.l, .non⟩, ⟨"LABEL", .int (nf f (150 - s.free) s.free : Nat), none, .non⟩], nf f (150 - s.free) s.free + 1, s.n + 1⟩ := by
        unfold drStep
        rw [cdr, if_neg (by decide), if_pos ctr, ul, if_neg (by simp; omega)]
        rfl
      rw [st] at k
      have fh := free_head f (150 - s.free) s.free (fun n hn => hB n (by omega)) (by omega)
      generalize nf f (150 - s.free) s.free = q at *
      rw [fh] at hF
      refine ⟨tyl hF, Fr, _, 0, 0, .int (q : Nat), rfl, rfl, hF, by decide, by decide, pop0, rfl, ?_⟩
      have k0 : ∀ b o, b ≠ Fr → H b = some o → L2.upd H Fr (.lst ((List.map (fun n : Nat => V.int n) (q :: freeL f (q + 1))).eraseIdx 0)) b = some o := fun b o nb e => by rw [upd_ne nb]; exact e
      have eF1 : L2.upd H Fr (.lst ((List.map (fun n : Nat => V.int n) (q :: freeL f (q + 1))).eraseIdx 0)) Fr = some (.lst ((freeL f (q + 1)).map fun n : Nat => V.int n)) := upd_same
      generalize L2.upd H Fr (.lst ((List.map (fun n : Nat => V.int n) (q :: freeL f (q + 1))).eraseIdx 0)) = H1 at *
      have eD1 := k0 _ _ n1.symm eD
      have eO1 := k0 _ _ n2.symm eO
      have dg1 : DGet H1 O (.str x.w) (some (.str (oppos x.w))) := by
        have := DGet.k (k := (Sum.inr x.w : Key)) eO1
        rw [gO, if_pos ct] at this
        exact this
      have pD1 : Paired (fun r x => H1 r = some (.tup (v4 x))) rg s.o := Paired.map' pD fun b x e => k0 _ _ (fun z => by rw [z, hF] at e; cases e) e
      refine ⟨tyl eD1, _, dg1, szl (by decide), fun p hp => ⟨_, by rw [upd_ne (ne_new eD1 hp)]; exact eD1, szD, ?_⟩⟩
      obtain ⟨⟨rs1, e1, p1⟩, k1⟩ := rs4_app (y := ⟨oppos x.w, .int (q : Nat), x.l, .non⟩) eD1 pD1 hp
      have e1 : L2.upd (L2.upd H1 p (.tup [.str (oppos x.w), .int (q : Nat), lnV x.l, .non])) Du (.lst (rg.map V.ref ++ [.ref p])) Du = some (.lst (rs1.map V.ref)) := e1
      have p1 : Paired (fun r x_1 => L2.upd (L2.upd H1 p (.tup [.str (oppos x.w), .int (q : Nat), lnV x.l, .non])) Du (.lst (rg.map V.ref ++ [.ref p])) r = some (.tup (v4 x_1))) rs1 (s.o ++ [⟨oppos x.w, .int (q : Nat), x.l, .non⟩]) := p1
      have k1 : ∀ b o, b ≠ Du → H1 b = some o → L2.upd (L2.upd H1 p (.tup [.str (oppos x.w), .int (q : Nat), lnV x.l, .non])) Du (.lst (rg.map V.ref ++ [.ref p])) b = some o := k1
      generalize L2.upd (L2.upd H1 p (.tup [.str (oppos x.w), .int (q : Nat), lnV x.l, .non])) Du (.lst (rg.map V.ref ++ [.ref p])) = H2 at *
      have l1 := Paired.length p1
      rw [List.length_append, List.length_singleton] at l1
      have t1 : ∃ xs1, H2 Du = some (.lst xs1) := ⟨_, e1⟩
      have kA : ∀ b o, b ≠ Fr → b ≠ Du → H b = some o → H2 b = some o := fun b o nF nD e => k1 _ _ nD (k0 _ _ nF e)
      have eF2 := k1 _ _ n1 eF1
      refine ⟨tyl e1, szl (by decide), fun p2 hp2 => ?_⟩
      have s2 : Same H2 (L2.upd H2 p2 (.tup [.str "JUMP_BACKWARD", x.a, lnV x.l, .non])) := Same.new' (Same.refl _) hp2
      have a2 : L2.upd H2 p2 (.tup [.str "JUMP_BACKWARD", x.a, lnV x.l, .non]) p2 = some (.tup [.str "JUMP_BACKWARD", x.a, lnV x.l, .non]) := upd_same
      refine ⟨szl (by decide), fun p3 hp3 => ?_⟩
      have s3 : Same _ (L2.upd (L2.upd H2 p2 (.tup [.str "JUMP_BACKWARD", x.a, lnV x.l, .non])) p3 (.tup [.str "LABEL", .int (q : Nat), .non, .non])) := Same.new' (Same.refl _) hp3
      have a3 : L2.upd (L2.upd H2 p2 (.tup [.str "JUMP_BACKWARD", x.a, lnV x.l, .non])) p3 (.tup [.str "LABEL", .int (q : Nat), .non, .non]) p3 = some (.tup [.str "LABEL", .int (q : Nat), .non, .non]) := upd_same
      have a2 := s3 _ _ a2
      refine ⟨szl (by decide), fun p4 hp4 => ?_⟩
      have s4 : Same _ (L2.upd (L2.upd (L2.upd H2 p2 (.tup [.str "JUMP_BACKWARD", x.a, lnV x.l, .non])) p3 (.tup [.str "LABEL", .int (q : Nat), .non, .non])) p4 (.lst [.ref p2, .ref p3])) := Same.new' (Same.refl _) hp4
      have a2 := s4 _ _ a2
      have a3 := s4 _ _ a3
      have sA : Same H2 (L2.upd (L2.upd (L2.upd H2 p2 (.tup [.str "JUMP_BACKWARD", x.a, lnV x.l, .non])) p3 (.tup [.str "LABEL", .int (q : Nat), .non, .non])) p4 (.lst [.ref p2, .ref p3])) := fun b o e => s4 _ _ (s3 _ _ (s2 _ _ e))
      clear s2 s3 s4
      generalize L2.upd (L2.upd (L2.upd H2 p2 (.tup [.str "JUMP_BACKWARD", x.a, lnV x.l, .non])) p3 (.tup [.str "LABEL", .int (q : Nat), .non, .non])) p4 (.lst [.ref p2, .ref p3]) = H5 at *
      have e5 := sA _ _ e1
      refine ⟨_, e5, Nat.le_trans (by rw [List.length_map]; omega : _ ≤ 1003) (by decide), ?_⟩
      obtain ⟨r5, k5⟩ := rs4_ext (rs := [p2, p3]) (xs := [⟨"JUMP_BACKWARD", x.a, x.l, .non⟩, ⟨"LABEL", .int (q : Nat), none, .non⟩]) (Paired.map' p1 fun b x e => sA _ _ e) e5 (.cons a2 (.cons a3 .nil))
      refine k _ _ (fun b o nF nD e => k5 _ _ nD (sA _ _ (kA _ _ nF nD e))) (k5 _ _ n1 (sA _ _ eF2)) ?_
      show Rs4 _ Du (s.o ++ [⟨oppos x.w, .int (q : Nat), x.l, .non⟩, ⟨"JUMP_BACKWARD", x.a, x.l, .non⟩, ⟨"LABEL", .int (q : Nat), none, .non⟩])
      have ea : s.o ++ [⟨oppos x.w, .int (q : Nat), x.l, .non⟩, ⟨"JUMP_BACKWARD", x.a, x.l, .non⟩, ⟨"LABEL", .int (q : Nat), none, .non⟩] = s.o ++ [⟨oppos x.w, .int (q : Nat), x.l, .non⟩] ++ [⟨"JUMP_BACKWARD", x.a, x.l, .non⟩, (⟨"LABEL", .int (q : Nat), none, .non⟩ : R4)] := by simp
      rw [ea]
      exact r5
    · rw [if_neg (by rw [lx, decide_eq_false b]; decide), if_neg (jn cd)]
      refine ⟨szl (by decide), fun p hp => inT (fun H2 s2 => ?_) hp⟩
      rw [cd]
      refine ⟨_, rfl, ?_⟩
      rw [if_neg (by decide)]
      refine ⟨tyl (s2 _ _ eD), szl (by decide), one (toR4 x) H2 s2 ?_ ?_⟩
      · unfold drStep
        rw [cdr, if_neg (by decide), if_pos ctr, ul, if_pos (by simp; omega)]
      · unfold drStep
        rw [cdr, if_neg (by decide), if_pos ctr, ul, if_pos (by simp; omega)]
  · have ctf : testing x.w = false := by simpa using ct
    rw [if_neg ct] at dg ⊢
    rw [if_neg (by decide)]
    by_cases cd : direct x.w = true
    · obtain ⟨so, sf⟩ := step cd
      have lx := (dir_lead cd).2
      obtain ⟨n, en, em, mi⟩ := jl lx
      have ul : upw f s.n (toR4 x) = decide (i < m) := by
        unfold upw
        rw [hs]
        show decide (i < (f (labI x.a)).getD 0) = _
        rw [en]
        show decide (i < (f n).getD 0) = _
        rw [em]
        rfl
      rw [ul] at so
      by_cases b : m < i
      · rw [if_neg (by simp; omega)] at so
        by_cases cj : x.w = "JUMP_NO_INTERRUPT"
        · rw [if_pos cj, if_pos (by rw [lx, decide_eq_true b]; rfl)]
          refine ⟨tyl eD, szl (by decide), one ⟨"JUMP_BACKWARD_NO_INTERRUPT", x.a, x.l, .non⟩ H (Same.refl H) ?_ sf⟩
          rw [so, cj]
          rfl
        · rw [if_neg cj]
          have cw : x.w = "JUMP" := by
            rw [dm, decide_eq_true_iff, List.mem_cons, List.mem_cons] at cd
            rcases cd with q | q | q
            · exact q
            · exact absurd q cj
            · cases q
          refine ⟨szl (by decide), fun p hp => inT (fun H2 s2 => ?_) hp⟩
          rw [cd]
          refine ⟨_, rfl, ?_⟩
          rw [if_pos rfl]
          refine ⟨tyl (s2 _ _ eD), szl (by decide), fun p2 hp2 => ⟨.str "JUMP_BACKWARD", ?_, szl (by decide), one ⟨"JUMP_BACKWARD", x.a, x.l, .non⟩ _ (Same.new' s2 hp2) ?_ sf⟩⟩
          · rw [if_pos (by rw [lx, decide_eq_true b]; rfl)]
            rfl
          · rw [so, cw]
            rfl
      · rw [if_pos (by simp; omega)] at so
        by_cases cj : x.w = "JUMP_NO_INTERRUPT"
        · rw [if_pos cj, if_neg (by rw [lx, decide_eq_false b]; decide)]
          refine ⟨szl (by decide), fun p hp => inT (fun H2 s2 => ?_) hp⟩
          rw [cd]
          refine ⟨_, rfl, ?_⟩
          rw [if_pos rfl]
          refine ⟨tyl (s2 _ _ eD), szl (by decide), fun p2 hp2 => ⟨.str "JUMP_FORWARD", ?_, szl (by decide), one ⟨"JUMP_FORWARD", x.a, x.l, .non⟩ _ (Same.new' s2 hp2) so sf⟩⟩
          rw [if_neg (by rw [lx, decide_eq_false b]; decide)]
          rfl
        · rw [if_neg cj]
          refine ⟨szl (by decide), fun p hp => inT (fun H2 s2 => ?_) hp⟩
          rw [cd]
          refine ⟨_, rfl, ?_⟩
          rw [if_pos rfl]
          refine ⟨tyl (s2 _ _ eD), szl (by decide), fun p2 hp2 => ⟨.str "JUMP_FORWARD", ?_, szl (by decide), one ⟨"JUMP_FORWARD", x.a, x.l, .non⟩ _ (Same.new' s2 hp2) so sf⟩⟩
          rw [if_neg (by rw [lx, decide_eq_false b]; decide)]
          rfl
    · have cdf : direct x.w = false := by simpa using cd
      obtain ⟨so, sf⟩ := same cdf ctf
      rw [if_neg (jn cdf)]
      refine ⟨szl (by decide), fun p hp => inT (fun H2 s2 => ?_) hp⟩
      rw [cdf]
      refine ⟨_, rfl, ?_⟩
      rw [if_neg (by decide)]
      exact ⟨tyl (s2 _ _ eD), szl (by decide), one (toR4 x) H2 s2 so sf⟩
def spDue : Sp := fun vs H Q _ => ∃ (R : Addr) (xs : List R3), vs = [.ref R] ∧ RsL H R xs ∧ DueOk xs ∧ ∀ D H', Same H H' → H D = none → Rs4 H' D (drTo (plTo (ysOf xs)).f 150 (ysOf xs)).o → Q (.ref D) H'
def LvDu (R Pl Fr Du O : Addr) (xs : List R3) (H0 : Hp) (i : Nat) (σ : L2.St) (H : Hp) : Prop := ∃ v1 v2 v7 v8 v9 v10 v11, σ = S13 R v1 v2 (some (.ref Pl)) (some (.ref Fr)) (some (.ref Du)) (some (.ref O)) v7 v8 v9 v10 v11 none ∧ (∀ b o, b ≠ Fr → b ≠ Du → H0 b = some o → H b = some o) ∧ H Fr = some (.lst ((freeL (plTo (ysOf xs)).f (drTo (plTo (ysOf xs)).f 150 ((ysOf xs).take i)).free).map fun n => V.int (n : Nat))) ∧ Rs4 H Du (drTo (plTo (ysOf xs)).f 150 ((ysOf xs).take i)).o
section
variable {P : Program} {w : World} {K : PySem.W.Frag} {mg : Str → Option Value} {base : Heap} {f : Addr} {fd : FuncData}
abbrev sdue : Stmt := top 93
theorem scdue : FnScope ["_law_rows_here", "_law_at", "_law_row", "_law_places", "_law_free", "_law_due_here", "_law_opposite_here", "_law_word", "_law_argument", "_law_line", "_law_is_back", "_law_label", "_law_k"] ["_law_rows_here"] (defScope sdue) := ⟨rfl, rfl, rfl, by decide +kernel, rfl, by decide +kernel, by decide +kernel⟩

theorem ok_due (T : Txt mg) (C_opposite : Cal P w K mg base 1 "_law_opposite" [] spOpp) (F : FnP K "_law_due" "_law_due" sdue f fd) : FnOk P w K mg base CX0 2 f fd ["_law_rows_here"] spDue := by
  refine F.ok scdue (fun vs H Q E h => ?_) (fun cdv A outer s H vs Q E hr h => ?_)
  · obtain ⟨R, xs, rfl, _⟩ := h
    rfl
  · have hu1 := hu_of hr
    refine ⟨t_d K, PSs.nox (show PSs _ _ (t_d K) from (pss_cons (ps_set (i := 3) scdue.nd rfl (Or.inr rfl) (pe_callTy (call_dictP rfl) (by rfl) T.b_dict (by decide +kernel) (pa_cons (pe_lc (own := [("_law_at", 1), ("_law_row", 2)]) rfl scdue.nd (pi_enumS (by rfl) T.b_enumerate (pa_cons (pv 0) pa_nil)) (blkOk_by (own := [("_law_at", 1), ("_law_row", 2)]) (N := ["_law_rows_here", "_law_at", "_law_row", "_law_places", "_law_free", "_law_due_here", "_law_opposite_here", "_law_word", "_law_argument", "_law_line", "_law_is_back", "_law_label", "_law_k"]) (sc := defScope sdue) (by decide +kernel)) (fun _ _ _ _ _ => (pg_tupD (n := 2) rfl (pgs_cons (pg_name (i := 1) scdue.nd rfl (Or.inl rfl)) (pgs_cons (pg_name (i := 2) scdue.nd rfl (Or.inl rfl)) pgs_nil)))) (fun _ _ _ _ _ => (pts_one (pt_cmpR op_eq (pe_ix ix_d (pv 2) pe_int (fun _ _ => rfl)) pe_str (nomark _)))) (fun _ _ _ _ _ => (pe_tup (pa_cons (pe_ix ix_d (pv 2) pe_int (fun _ _ => rfl)) (pa_cons (pv 1) pa_nil))))) pa_nil)))
  (pss_cons (ps_par3 (i := 4) (j := 5) (l := 6) (by rfl) scdue.nd rfl rfl rfl (by decide) (by decide) (by decide) rfl rfl rfl (pa_cons (pe_lc (own := [("_law_k", 12)]) (g := gName 12) rfl scdue.nd (pi_range1 rfl T.b_range (pa_cons pe_int pa_nil)) (blkOk_by (own := [("_law_k", 12)]) (N := ["_law_rows_here", "_law_at", "_law_row", "_law_places", "_law_free", "_law_due_here", "_law_opposite_here", "_law_word", "_law_argument", "_law_line", "_law_is_back", "_law_label", "_law_k"]) (sc := defScope sdue) (by decide +kernel)) (fun _ _ _ _ _ => (pg_name (i := 12) scdue.nd rfl (Or.inl rfl))) (fun _ _ _ _ _ => (pts_one (pt_cmp (pc_dnotin hu1 (pv 12) (pv 3))))) (fun _ _ _ _ _ => (pv 12))) (pa_cons (pe_lst pa_nil) (pa_cons (pe_cal0 C_opposite (hr.mono (by decide)) rfl) pa_nil))) (by rfl))
  (pss_cons (ps_for PassesOwn.never rfl (pi_enumS (by rfl) T.b_enumerate (pa_cons (pv 0) pa_nil)) (pg_tupD (n := 2) rfl (pgs_cons (pg_name (i := 1) scdue.nd rfl (Or.inl rfl)) (pgs_cons (pg_name (i := 2) scdue.nd rfl (Or.inl rfl)) pgs_nil)))
    (pss_cons (ps_asg (pv 2) (pg_tupD (n := 3) rfl (pgs_cons (pg_name (i := 7) scdue.nd rfl (Or.inl rfl)) (pgs_cons (pg_name (i := 8) scdue.nd rfl (Or.inl rfl)) (pgs_cons (pg_name (i := 9) scdue.nd rfl (Or.inl rfl)) pgs_nil)))))
  (pss_cons (ps_set (i := 10) scdue.nd rfl (Or.inl rfl) (pe_and (pe_cmpR op_in_str pe_str (pv 7) (by rfl)) (pe_one (pe_cmpR op_lt (pe_dget hu1 (pv 3) (pv 8) (fun _ _ => rfl)) (pv 1) (nomark _)))))
  (pss_one (ps_if (PW.pt (pw_and (pt_cmp (pc_din hu1 (pv 7) (pv 6))) (pw_and1 (pt_val (pv 10)))))
    (pss_cons (ps_set (i := 11) scdue.nd rfl (Or.inl rfl) (pe_bm PySem.F.plainAttrs_list PySem.F.slot_list_pop PySem.F.type_list_pop mt_popAt (pv 4) (pa_cons pe_int pa_nil)))
  (pss_cons (ps_expr (pe_bm PySem.F.plainAttrs_list PySem.F.slot_list_append PySem.F.type_list_append mt_append (pv 5) (pa_cons (pe_tup (pa_cons (pe_dget hu1 (pv 6) (pv 7) (fun _ _ => rfl)) (pa_cons (pv 11) (pa_cons (pv 9) (pa_cons pe_non pa_nil))))) pa_nil)))
  (pss_one (ps_expr (pe_bm PySem.F.plainAttrs_list PySem.F.slot_list_extend PySem.F.type_list_extend mt_extend (pv 5) (pa_cons (pe_lst (pa_cons (pe_tup (pa_cons pe_str (pa_cons (pv 8) (pa_cons (pv 9) (pa_cons pe_non pa_nil))))) (pa_cons (pe_tup (pa_cons pe_str (pa_cons (pv 11) (pa_cons pe_non (pa_cons pe_non pa_nil))))) pa_nil))) pa_nil))))))
    (pss_one (ps_if (PW.pt (pw_and (pt_cmpR op_eq (pv 7) pe_str (nomark _)) (pw_and1 (pt_val (pv 10)))))
    (pss_one (ps_expr (pe_bm PySem.F.plainAttrs_list PySem.F.slot_list_append PySem.F.type_list_append mt_append (pv 5) (pa_cons (pe_tup (pa_cons pe_str (pa_cons (pv 8) (pa_cons (pv 9) (pa_cons pe_non pa_nil))))) pa_nil))))
    (pss_one (ps_if (pt_cmpR op_in_seq (pv 7) (pe_tup (pa_cons pe_str (pa_cons pe_str pa_nil))) (by rfl))
    (pss_one (ps_expr (pe_bm PySem.F.plainAttrs_list PySem.F.slot_list_append PySem.F.type_list_append mt_append (pv 5) (pa_cons (pe_tup (pa_cons (pe_ix ix_d (pe_lst (pa_cons pe_str (pa_cons pe_str pa_nil))) (pe_callTy call_int1 (by rfl) T.b_int (by decide +kernel) (pa_cons (pv 10) pa_nil)) (fun _ _ => rfl)) (pa_cons (pv 8) (pa_cons (pv 9) (pa_cons pe_non pa_nil))))) pa_nil))))
    (pss_one (ps_expr (pe_bm PySem.F.plainAttrs_list PySem.F.slot_list_append PySem.F.type_list_append mt_append (pv 5) (pa_cons (pe_tup (pa_cons (pv 7) (pa_cons (pv 8) (pa_cons (pv 9) (pa_cons pe_non pa_nil))))) pa_nil)))))))))))))
  (pss_one (ps_ret (pv 5))))))), ?_⟩
    obtain ⟨R, xs, rfl, hR, ok, kQ⟩ := h
    show t_d K _ (S13 R none none none none none none none none none none none none) H
    unfold t_d
    rw [r_seq]
    refine d1_run hR ok fun Pl v1 v2 H1 hPl s1 hP => ?_
    show tSeq t_d2 _ _ (S13 R v1 v2 (some (.ref Pl)) none none none none none none none none none) H1
    rw [r_seq]
    refine d2_run hP fun Fr Du O H2 FD s2 hFr hDu FO DO eF eD oO => ?_
    have PF : Pl ≠ Fr := by obtain ⟨_, e, _⟩ := hP; exact ne_new e hFr
    have PD : Pl ≠ Du := by obtain ⟨_, e, _⟩ := hP; exact ne_new e hDu
    have hP2 : PlD H2 Pl (plTo (ysOf xs)).f 300 := hP.imp (by obtain ⟨kv, e, _⟩ := hP; rw [s2 _ _ e, e])
    have S02 : Same H H2 := fun b o e => s2 _ _ (s1 _ _ e)
    have nF : ∀ b o, H b = some o → b ≠ Fr := fun b o e => ne_new (s1 _ _ e) hFr
    have nD : ∀ b o, H b = some o → b ≠ Du := fun b o e => ne_new (s1 _ _ e) hDu
    obtain ⟨rr, eR, pR⟩ := id hR
    have lr := Paired.length pR
    have ly : (ysOf xs).length = xs.length := List.length_map _
    have lx := ok.len
    unfold S13
    simp only [r_seq, r_next, r_brk, r_cont, r_asg, r_name, r_ret, r_retN, r_drop, r_ifs, r_never, r_var, r_c, r_op, r_un, r_if, r_tst, r_b, r_not, r_and, r_or, r_andV, r_orV, r_notV, r_nil, r_cons, r_tup, r_lst, r_cb, r_call, r_bm, r_bm0, r_sl, r_nopart, r_part, r_rev, r_gnil, r_gcons, r_gsub, r_par, r_aug, r_chain, r_I0, r_I, r_U, r_ixd, r_lend, r_tupd, r_listd, r_sld, r_app, r_ext, r_reverse, r_setl, r_cat, r_int1, r_eqS, r_neS, scal_ii, scal_bb, scal_ss, at0, at1, at2, sq_lst, sq_tup, isLst_lst, List.getElem?_cons_zero, List.getElem?_cons_succ, List.set_cons_zero, List.set_cons_succ, V.int.injEq, V.bl.injEq, V.ref.injEq, V.str.injEq, HO.lst.injEq, HO.tup.injEq, Option.some.injEq, exists_eq_left', exists_eq_left, List.cons.injEq, and_true, true_and, decide_eq_true_eq, reduceCtorEq, false_and, exists_false, or_false, false_or, exists_const, and_assoc, exists_and_left, List.append_nil, ix0, ix1, ix2, cm_mod, cdw1009, cdw2003, cdw7, cdw64, cdw2, cm104729, cm2, cm3, upd_same, List.length_cons, List.length_nil, Int.reduceLT, Int.reduceLE, Nat.reduceAdd, Nat.reduceLeDiff, Nat.reduceLT, Int.reduceToNat, r_for1, r_forL, r_forT, r_lcL, r_lc1, r_yes, r_gtupD, wipe_0, wipe_1, List.cons_append, List.nil_append, r_forS, r_ipI, ite_false, ite_true, Bool.not_true, Bool.not_false, decide_true, decide_false, r_isd, r_islt, cD_ty, cD_ref, tD_non, tD_bl, tD_int, tD_str, tD_ref, tH_lst, tH_tup, tH_dK, tH_ins, ki_self, ki_int_bool, ki_non_int, ki_str_int, ki_lt_lst, ki_lt_tup, r_fld, r_sfld, HO.ins.injEq, cx_K, r_forE]
    refine lp_enum (xs := rr.map V.ref) (by rw [S02 _ _ eR]; rfl) (LvDu R Pl Fr Du O xs H2) ⟨v1, v2, none, none, none, none, none, rfl, fun _ _ _ _ e => e, eF, ⟨[], eD, .nil⟩⟩ (fun i σ H' ⟨_, _, _, _, _, _, _, _, q, _⟩ => by rw [S02 _ _ eR]; exact q _ _ (nF _ _ eR) (nD _ _ eR) (S02 _ _ eR)) ?_ ?_
    · rintro i y σ H3 hy ⟨u1, u2, u7, u8, u9, u10, u11, rfl, k3, eF3, hD3⟩ T0 hT0
      rw [List.getElem?_map] at hy
      obtain ⟨r, hr1, rfl⟩ := Option.map_eq_some_iff.mp hy
      obtain ⟨hi0, e0⟩ := List.getElem?_eq_some_iff.mp hr1
      have hi' : i < xs.length := by rw [← lr]; exact hi0
      have hrt := Paired.at' pR hi0 hi'
      rw [e0] at hrt
      have hy2 : (ysOf xs)[i]? = some (toR4 xs[i]) := by unfold ysOf; rw [List.getElem?_map, List.getElem?_eq_getElem hi']; rfl
      have sn := dr_snoc (f := (plTo (ysOf xs)).f) (B := 150) hy2
      have dn := dr_n (plTo (ysOf xs)).f 150 (ysOf xs) i (by omega)
      have dl := dr_len (plTo (ysOf xs)).f 150 (ysOf xs) i (by omega)
      have mem := List.getElem_mem hi'
      have lab := ok.lab _ mem
      have rw1 := ok.rw _ mem
      have hx : xs[i]? = some xs[i] := List.getElem?_eq_getElem hi'
      have jl : leading xs[i].w = true → ∃ n m, xs[i].a = .int n ∧ (plTo (ysOf xs)).f n = some m ∧ m ≠ i := fun q => by
        obtain ⟨n, m, e1, e2⟩ := ok.jl _ mem q
        refine ⟨n, m, e1, e2, fun z => ?_⟩
        have at1 := pl_at (ysOf xs) (ysOf xs).length (Nat.le_refl _) n m (by rw [List.take_length]; exact e2)
        obtain ⟨_, y, ey, wy⟩ := at1
        rw [z, hy2] at ey
        cases ey
        have wy : xs[i].w = "LABEL" := wy
        rw [wy] at q
        exact absurd q (by decide)
      have sT : Same H3 (L2.upd H3 T0 (.tup [.int (i : Nat), .ref r])) := Same.new' (Same.refl _) hT0
      have eT : L2.upd H3 T0 (.tup [.int (i : Nat), .ref r]) T0 = some (.tup [.int (i : Nat), .ref r]) := upd_same
      generalize L2.upd H3 T0 (.tup [.int (i : Nat), .ref r]) = H4 at *
      have S4 : ∀ b o, H b = some o → H4 b = some o := fun b o e => sT _ _ (k3 _ _ (nF _ _ e) (nD _ _ e) (S02 _ _ e))
      have er := S4 _ _ hrt
      have hP4 : PlD H4 Pl (plTo (ysOf xs)).f 300 := hP2.imp (by obtain ⟨kv, e, _⟩ := hP2; rw [sT _ _ (k3 _ _ PF PD e), e])
      have oO4 : OpD H4 O := by obtain ⟨kv, e, g⟩ := oO; exact ⟨kv, sT _ _ (k3 _ _ FO.symm DO.symm e), g⟩
      generalize xs[i] = x at *
      unfold S13 t_d3b
      unfold v3 at er
      simp only [r_seq, r_next, r_brk, r_cont, r_asg, r_name, r_ret, r_retN, r_drop, r_ifs, r_never, r_var, r_c, r_op, r_un, r_if, r_tst, r_b, r_not, r_and, r_or, r_andV, r_orV, r_notV, r_nil, r_cons, r_tup, r_lst, r_cb, r_call, r_bm, r_bm0, r_sl, r_nopart, r_part, r_rev, r_gnil, r_gcons, r_gsub, r_par, r_aug, r_chain, r_I0, r_I, r_U, r_ixd, r_lend, r_tupd, r_listd, r_sld, r_app, r_ext, r_reverse, r_setl, r_cat, r_int1, r_eqS, r_neS, scal_ii, scal_bb, scal_ss, at0, at1, at2, sq_lst, sq_tup, isLst_lst, List.getElem?_cons_zero, List.getElem?_cons_succ, List.set_cons_zero, List.set_cons_succ, V.int.injEq, V.bl.injEq, V.ref.injEq, V.str.injEq, HO.lst.injEq, HO.tup.injEq, Option.some.injEq, exists_eq_left', exists_eq_left, List.cons.injEq, and_true, true_and, decide_eq_true_eq, reduceCtorEq, false_and, exists_false, or_false, false_or, exists_const, and_assoc, exists_and_left, List.append_nil, ix0, ix1, ix2, cm_mod, cdw1009, cdw2003, cdw7, cdw64, cdw2, cm104729, cm2, cm3, upd_same, List.length_cons, List.length_nil, Int.reduceLT, Int.reduceLE, Nat.reduceAdd, Nat.reduceLeDiff, Nat.reduceLT, Int.reduceToNat, r_for1, r_forL, r_forT, r_lcL, r_lc1, r_yes, r_gtupD, wipe_0, wipe_1, List.cons_append, List.nil_append, r_forS, r_ipI, ite_false, ite_true, Bool.not_true, Bool.not_false, decide_true, decide_false, r_isd, r_islt, cD_ty, cD_ref, tD_non, tD_bl, tD_int, tD_str, tD_ref, tH_lst, tH_tup, tH_dK, tH_ins, ki_self, ki_int_bool, ki_non_int, ki_str_int, ki_lt_lst, ki_lt_tup, r_fld, r_sfld, HO.ins.injEq, cx_K, eT, er, r_dget]
      have go : ∀ m, (leading x.w = true → ∃ n, x.a = .int n ∧ (plTo (ysOf xs)).f n = some m ∧ m ≠ i) → t_d4 K { nx := LvDu R Pl Fr Du O xs H2 (i + 1), rt := Q, bk := tRet (tVar 5) { nx := fun x H' => Q V.non H', rt := Q }, ct := LvDu R Pl Fr Du O xs H2 (i + 1) } (S13 R (some (.int (i : Nat))) (some (.ref r)) (some (.ref Pl)) (some (.ref Fr)) (some (.ref Du)) (some (.ref O)) (some (.str x.w)) (some x.a) (some (lnV x.l)) (some (.bl (leading x.w && decide (m < i)))) u11 none) H4 := fun m q =>
        d4_run (v12 := none) rw1 lab m q ok.hB oO4 (sT _ _ eF3) (hD3.same sT) dn (by omega) (by have := dl.free; omega) dl.o FD FO DO fun v11 H5 k5 eF5 hD5 => ⟨some (.int (i : Nat)), some (.ref r), some (.str x.w), some x.a, some (lnV x.l), some (.bl (leading x.w && decide (m < i))), v11, rfl, fun b o nF nD e => k5 _ _ nF nD (sT _ _ (k3 _ _ nF nD e)), by rw [sn]; exact eF5, by rw [sn]; exact hD5⟩
      have jw := jump_in _ rw1.w
      have jw : (!(Builtin.Str.occurrences x.w (Str.ofString "JUMP") 0 x.w.length 1).isEmpty) = leading x.w := jw
      by_cases c : leading x.w = true
      · rw [if_pos (by rw [jw]; exact c)]
        obtain ⟨n, m, en, em, mi⟩ := jl c
        have g := go m fun _ => ⟨n, en, em, mi⟩
        have dg := hP4.get n
        rw [em, ← en] at dg
        refine ⟨_, dg, _, rfl, ?_⟩
        have e : (leading x.w && decide (m < i)) = decide ((m : Int) < (i : Int)) := by rw [c]; simp
        rw [e] at g
        exact g
      · rw [if_neg (by rw [jw]; exact c)]
        have g := go 0 fun q => absurd q c
        have e : (leading x.w && decide (0 < i)) = false := by simp [c]
        rw [e] at g
        exact g
    · rintro σ H3 ⟨u1, u2, u7, u8, u9, u10, u11, rfl, k3, eF3, hD3⟩
      rw [List.length_map, lr, ← ly, List.take_length] at hD3
      unfold S13
      simp only [r_seq, r_next, r_brk, r_cont, r_asg, r_name, r_ret, r_retN, r_drop, r_ifs, r_never, r_var, r_c, r_op, r_un, r_if, r_tst, r_b, r_not, r_and, r_or, r_andV, r_orV, r_notV, r_nil, r_cons, r_tup, r_lst, r_cb, r_call, r_bm, r_bm0, r_sl, r_nopart, r_part, r_rev, r_gnil, r_gcons, r_gsub, r_par, r_aug, r_chain, r_I0, r_I, r_U, r_ixd, r_lend, r_tupd, r_listd, r_sld, r_app, r_ext, r_reverse, r_setl, r_cat, r_int1, r_eqS, r_neS, scal_ii, scal_bb, scal_ss, at0, at1, at2, sq_lst, sq_tup, isLst_lst, List.getElem?_cons_zero, List.getElem?_cons_succ, List.set_cons_zero, List.set_cons_succ, V.int.injEq, V.bl.injEq, V.ref.injEq, V.str.injEq, HO.lst.injEq, HO.tup.injEq, Option.some.injEq, exists_eq_left', exists_eq_left, List.cons.injEq, and_true, true_and, decide_eq_true_eq, reduceCtorEq, false_and, exists_false, or_false, false_or, exists_const, and_assoc, exists_and_left, List.append_nil, ix0, ix1, ix2, cm_mod, cdw1009, cdw2003, cdw7, cdw64, cdw2, cm104729, cm2, cm3, upd_same, List.length_cons, List.length_nil, Int.reduceLT, Int.reduceLE, Nat.reduceAdd, Nat.reduceLeDiff, Nat.reduceLT, Int.reduceToNat, r_for1, r_forL, r_forT, r_lcL, r_lc1, r_yes, r_gtupD, wipe_0, wipe_1, List.cons_append, List.nil_append, r_forS, r_ipI, ite_false, ite_true, Bool.not_true, Bool.not_false, decide_true, decide_false, r_isd, r_islt, cD_ty, cD_ref, tD_non, tD_bl, tD_int, tD_str, tD_ref, tH_lst, tH_tup, tH_dK, tH_ins, ki_self, ki_int_bool, ki_non_int, ki_str_int, ki_lt_lst, ki_lt_tup, r_fld, r_sfld, HO.ins.injEq, cx_K]
      have hDu0 : H Du = none := by
        cases z : H Du with
        | none => rfl
        | some o => rw [s1 _ _ z] at hDu; cases hDu
      exact kQ Du H3 (fun b o e => k3 _ _ (nF _ _ e) (nD _ _ e) (S02 _ _ e)) hDu0 hD3
end
end C38

set_option maxHeartbeats 2000000
namespace C38
open PySem PySem.Spec PyProof.Rows L2
/-! ### what holds of the drawn rows (pure) -/
structure RowX (x : R3) : Prop where
  w : x.w ∈ LW
  a : leading x.w = true → ∃ n : Int, x.a = .int n
  lab : x.w = "LABEL" → (∃ n : Nat, x.a = .int (n : Nat) ∧ n < 150) ∧ x.l = none
  line : x.w ≠ "LABEL" → x.l ≠ none
theorem lead_lab {z : Str} (h : leading z = true) : z ≠ "LABEL" := fun e => by rw [e] at h; exact absurd h (by decide)
theorem rx_no {z : Str} {a : V} {l : Option Int} (h : z ∈ LW) (q : leading z = false) (nl : z ≠ "LABEL") (hl : l ≠ none) : RowX ⟨z, a, l⟩ := ⟨h, (fun e => by rw [q] at e; cases e), fun e => absurd e nl, fun _ => hl⟩
theorem rx_jp {z : Str} {n : Int} {l : Option Int} (h : z ∈ LW) (q : leading z = true) (hl : l ≠ none) : RowX ⟨z, .int n, l⟩ := ⟨h, fun _ => ⟨n, rfl⟩, fun e => absurd e (lead_lab q), fun _ => hl⟩
theorem rx_lab {n : Nat} (h : n < 150) : RowX ⟨"LABEL", .int (n : Nat), none⟩ := ⟨by show ("LABEL" : Str) ∈ LW; decide, fun e => ⟨_, rfl⟩, fun _ => ⟨⟨n, rfl, h⟩, rfl⟩, fun e => absurd rfl e⟩
theorem l10_ne {k : Nat} : l10 k ≠ none := fun e => by unfold l10 at e; cases e
theorem lb {st k : Nat} (h : st ≤ 5) (q : k < 30) : st * k + 2 < 150 := by
  have := Nat.mul_le_mul h (show k ≤ 29 by omega)
  omega
theorem PartOk.rx {st many k : Nat} {p : List R3} (h : PartOk st many k p) (hs : st ≤ 5) (hk : k < 30) : ∀ x ∈ p, RowX x := by
  have b := lb hs hk
  intro x hx
  cases h with
  | a =>
    simp only [List.mem_cons, List.not_mem_nil, or_false] at hx
    rcases hx with rfl | rfl <;> exact rx_no (by decide) (by decide) (by decide) l10_ne
  | b z hz =>
    simp only [List.mem_cons, List.not_mem_nil, or_false] at hx
    rcases hx with rfl | rfl | rfl | rfl | rfl | rfl
    · exact rx_no (by decide) (by decide) (by decide) l10_ne
    · exact rx_jp (by decide) (by decide) l10_ne
    · exact rx_jp (dir_lead hz).1 (dir_lead hz).2 l10_ne
    · exact rx_lab (by omega)
    · exact rx_no (by decide) (by decide) (by decide) l10_ne
    · exact rx_lab (by omega)
  | c z g hz hg =>
    simp only [List.mem_cons, List.not_mem_nil, or_false] at hx
    rcases hx with rfl | rfl | rfl
    · exact rx_no (by decide) (by decide) (by decide) l10_ne
    · exact rx_no (by decide) (by decide) (by decide) l10_ne
    · exact rx_jp (tst_lead hz).1 (tst_lead hz).2 l10_ne
theorem LastOk.rx {st many : Nat} {p : List R3} (h : LastOk st many p) : ∀ x ∈ p, RowX x := by
  intro x hx
  cases h with
  | ret =>
    simp only [List.mem_cons, List.not_mem_nil, or_false] at hx
    rcases hx with rfl | rfl <;> exact rx_no (by decide) (by decide) (by decide) (fun e => by cases e)
  | jmp z g hz hg =>
    simp only [List.mem_cons, List.not_mem_nil, or_false] at hx
    subst hx
    exact rx_jp (dir_lead hz).1 (dir_lead hz).2 (fun e => by cases e)
theorem nl {z : Str} {a : V} {l : Option Int} (h : z ≠ "LABEL") : ¬ (⟨z, a, l⟩ : R3).w = "LABEL" := h
theorem nld {z : Str} {a : V} {l : Option Int} (h : leading z = false) : ¬ leading (⟨z, a, l⟩ : R3).w = true := fun e => by
  have e : leading z = true := e
  rw [h] at e
  cases e
theorem mem_asmP {st k : Nat} {nm : List Int} {p : List R3} {x : R3} : x ∈ asmP st nm k p ↔ (((st * k + 2 : Nat) : Int) ∈ nm ∧ x = labR st k) ∨ x ∈ p := by
  unfold asmP
  by_cases c : ((st * k + 2 : Nat) : Int) ∈ nm
  · rw [if_pos c, List.mem_append, List.mem_singleton]
    exact ⟨fun h => h.elim (fun e => .inl ⟨c, e⟩) .inr, fun h => h.elim (fun e => .inl e.2) .inr⟩
  · rw [if_neg c, List.nil_append]
    exact ⟨.inr, fun h => h.elim (fun e => absurd e.1 c) id⟩
theorem mem_asm {st : Nat} {nm : List Int} {x : R3} : ∀ {ps : List (List R3)} {k : Nat}, x ∈ asm st nm k ps ↔ ∃ j p, ps[j]? = some p ∧ x ∈ asmP st nm (k + j) p
  | [], k => ⟨(fun h => (nomatch h)), (fun ⟨j, p, h, _⟩ => (nomatch h))⟩
  | q :: r, k => by
    show x ∈ asmP st nm k q ++ asm st nm (k + 1) r ↔ _
    rw [List.mem_append, mem_asm (ps := r) (k := k + 1)]
    constructor
    · rintro (h | ⟨j, p, h1, h2⟩)
      · exact ⟨0, q, rfl, h⟩
      · exact ⟨j + 1, p, h1, by rw [show k + (j + 1) = k + 1 + j by omega]; exact h2⟩
    · rintro ⟨j, p, h1, h2⟩
      cases j with
      | zero => cases h1; exact .inl h2
      | succ j => exact .inr ⟨j, p, h1, by rw [show k + 1 + j = k + (j + 1) by omega]; exact h2⟩
section
variable {st many : Nat} {ps : List (List R3)} {last : List R3}
theorem RowsOk.lt (h : RowsOk st many ps last) {j : Nat} {p : List R3} (e : ps[j]? = some p) : j < 30 := by
  obtain ⟨q, _⟩ := List.getElem?_eq_some_iff.mp e
  have := h.len
  have := h.hmn
  omega
theorem RowsOk.rx (h : RowsOk st many ps last) : ∀ x ∈ rowsOf st ps last, RowX x := by
  intro x hx
  rcases List.mem_append.mp hx with hx | hx
  · obtain ⟨j, p, e, hx⟩ := mem_asm.mp hx
    rw [Nat.zero_add] at hx
    have hj := h.lt e
    rcases mem_asmP.mp hx with ⟨_, rfl⟩ | hx
    · exact rx_lab (lb h.hst.2 hj)
    · exact (h.ok j p e).rx h.hst.2 hj x hx
  · exact h.last.rx x hx
theorem RowsOk.sub (h : RowsOk st many ps last) : ∀ x ∈ ps.flatten ++ last, x ∈ rowsOf st ps last := by
  intro x hx
  rcases List.mem_append.mp hx with hx | hx
  · obtain ⟨p, hp, hx⟩ := List.mem_flatten.mp hx
    obtain ⟨j, hj, ej⟩ := List.getElem_of_mem hp
    exact List.mem_append.mpr (.inl (mem_asm.mpr ⟨j, p, by rw [List.getElem?_eq_getElem hj, ej], mem_asmP.mpr (.inr hx)⟩))
  · exact List.mem_append.mpr (.inr hx)
theorem mem_nmI {xs : List R3} {n : Int} : n ∈ nmI xs ↔ ∃ x ∈ xs, leading x.w = true ∧ labI x.a = n := by
  unfold nmI
  rw [List.mem_map]
  constructor
  · rintro ⟨x, hx, e⟩
    obtain ⟨h1, h2⟩ := List.mem_filter.mp hx
    exact ⟨x, h1, h2, e⟩
  · rintro ⟨x, h1, h2, e⟩
    exact ⟨x, List.mem_filter.mpr ⟨h1, h2⟩, e⟩
/-- each label is one that a jump names -/
theorem RowsOk.told (h : RowsOk st many ps last) : ∀ x ∈ rowsOf st ps last, x.w = "LABEL" → ∃ y ∈ rowsOf st ps last, leading y.w = true ∧ labI y.a = labI x.a := by
  intro x hx hw
  have hx0 := hx
  rcases List.mem_append.mp hx with hx | hx
  · obtain ⟨j, p, e, hx⟩ := mem_asm.mp hx
    rw [Nat.zero_add] at hx
    rcases mem_asmP.mp hx with ⟨hn, rfl⟩ | hx
    · obtain ⟨y, hy, h1, h2⟩ := mem_nmI.mp hn
      exact ⟨y, h.sub y hy, h1, h2⟩
    · have pin : ∀ y ∈ p, y ∈ rowsOf st ps last := fun y hy => List.mem_append.mpr (.inl (mem_asm.mpr ⟨j, p, e, mem_asmP.mpr (.inr hy)⟩))
      have po := h.ok j p e
      cases po with
      | a =>
        simp only [List.mem_cons, List.not_mem_nil, or_false] at hx
        rcases hx with rfl | rfl <;> exact absurd hw (nl (by decide))
      | b z hz =>
        simp only [List.mem_cons, List.not_mem_nil, or_false] at hx
        rcases hx with rfl | rfl | rfl | rfl | rfl | rfl
        · exact absurd hw (nl (by decide))
        · exact absurd hw (nl (by decide))
        · exact absurd hw (lead_lab (dir_lead hz).2)
        · exact ⟨⟨"POP_JUMP_IF_NONE", .int (st * j : Nat), l10 j⟩, pin _ (by simp), (by decide : leading "POP_JUMP_IF_NONE" = true), rfl⟩
        · exact absurd hw (nl (by decide))
        · exact ⟨⟨z, .int (st * j + 1 : Nat), l10 j⟩, pin _ (by simp), (dir_lead hz).2, rfl⟩
      | c z g hz hg =>
        simp only [List.mem_cons, List.not_mem_nil, or_false] at hx
        rcases hx with rfl | rfl | rfl
        · exact absurd hw (nl (by decide))
        · exact absurd hw (nl (by decide))
        · exact absurd hw (lead_lab (tst_lead hz).2)
  · cases h.last with
    | ret =>
      simp only [List.mem_cons, List.not_mem_nil, or_false] at hx
      rcases hx with rfl | rfl <;> exact absurd hw (nl (by decide))
    | jmp z g hz hg =>
      simp only [List.mem_cons, List.not_mem_nil, or_false] at hx
      subst hx
      exact absurd hw (lead_lab (dir_lead hz).2)
/-- each label that a jump names is there -/
theorem RowsOk.there (h : RowsOk st many ps last) : ∀ x ∈ rowsOf st ps last, leading x.w = true → ∃ y ∈ rowsOf st ps last, y.w = "LABEL" ∧ labI y.a = labI x.a := by
  have two : ∀ g, g < many → ∀ x ∈ ps.flatten ++ last, leading x.w = true → labI x.a = ((st * g + 2 : Nat) : Int) → ∃ y ∈ rowsOf st ps last, y.w = "LABEL" ∧ labI y.a = labI x.a := fun g hg x hx h1 h2 => by
    have hg' : g < ps.length := by rw [h.len]; exact hg
    refine ⟨labR st g, List.mem_append.mpr (.inl (mem_asm.mpr ⟨g, ps[g], List.getElem?_eq_getElem hg', ?_⟩)), rfl, by rw [h2]; rfl⟩
    rw [Nat.zero_add]
    exact mem_asmP.mpr (.inl ⟨mem_nmI.mpr ⟨x, hx, h1, h2⟩, rfl⟩)
  intro x hx hw
  rcases List.mem_append.mp hx with hx | hx
  · obtain ⟨j, p, e, hx⟩ := mem_asm.mp hx
    rw [Nat.zero_add] at hx
    rcases mem_asmP.mp hx with ⟨hn, rfl⟩ | hx
    · exact absurd hw (by show ¬ leading "LABEL" = true; decide)
    · have pin : ∀ y ∈ p, y ∈ rowsOf st ps last := fun y hy => List.mem_append.mpr (.inl (mem_asm.mpr ⟨j, p, e, mem_asmP.mpr (.inr hy)⟩))
      have fin : ∀ y ∈ p, y ∈ ps.flatten ++ last := fun y hy => List.mem_append.mpr (.inl (List.mem_flatten.mpr ⟨p, List.mem_of_getElem? e, hy⟩))
      have po := h.ok j p e
      have hx0 := hx
      cases po with
      | a =>
        simp only [List.mem_cons, List.not_mem_nil, or_false] at hx
        rcases hx with rfl | rfl <;> exact absurd hw (nld (by decide))
      | b z hz =>
        simp only [List.mem_cons, List.not_mem_nil, or_false] at hx
        rcases hx with rfl | rfl | rfl | rfl | rfl | rfl
        · exact absurd hw (nld (by decide))
        · exact ⟨⟨"LABEL", .int (st * j : Nat), none⟩, pin _ (by simp), rfl, rfl⟩
        · exact ⟨⟨"LABEL", .int (st * j + 1 : Nat), none⟩, pin _ (by simp), rfl, rfl⟩
        · exact absurd hw (nld (by decide))
        · exact absurd hw (nld (by decide))
        · exact absurd hw (nld (by decide))
      | c z g hz hg =>
        simp only [List.mem_cons, List.not_mem_nil, or_false] at hx
        rcases hx with rfl | rfl | rfl
        · exact absurd hw (nld (by decide))
        · exact absurd hw (nld (by decide))
        · exact two g hg _ (fin _ hx0) hw rfl
  · have hx0 := hx
    cases h.last with
    | ret =>
      simp only [List.mem_cons, List.not_mem_nil, or_false] at hx
      rcases hx with rfl | rfl <;> exact absurd hw (nld (by decide))
    | jmp z g hz hg =>
      have hxe : x = ⟨z, .int (st * g + 2 : Nat), some 70⟩ := by simpa using hx
      refine two g hg x (List.mem_append.mpr (.inr hx0)) hw ?_
      rw [hxe]
      rfl
theorem RowsOk.rows_len (h : RowsOk st many ps last) : (rowsOf st ps last).length ≤ 212 := by
  unfold rowsOf
  have pl : ∀ p ∈ ps, p.length ≤ 6 := fun p hp => by
    obtain ⟨j, hj, ej⟩ := List.getElem_of_mem hp
    exact (h.ok j p (by rw [List.getElem?_eq_getElem hj, ej])).len
  have := asm_len st (nmI (ps.flatten ++ last)) ps 0 pl
  have := h.last.len
  have := h.len
  have := h.hmn
  rw [List.length_append]
  omega
end
end C38

set_option maxHeartbeats 2000000
namespace C38
open PySem PySem.Spec PyProof.Rows L2
/-! ### each drawn row is reached -/
structure GI (g : Go) (d : List R3) : Prop where
  f : g.f = ysOf d
  u : ∀ q ∈ g.u, q.2 = true ∧ ∃ x ∈ d, x.w = "LABEL" ∧ labI x.a = q.1
  t : ∀ x ∈ d, leading x.w = true → labI x.a ∈ g.t
theorem ys_snoc (d : List R3) (x : R3) : ysOf (d ++ [x]) = ysOf d ++ [toR4 x] := List.map_append
theorem mem_putU {u : List (Int × Bool)} {n : Int} {b : Bool} {q : Int × Bool} (h : q ∈ putU u n b) : (q.1 = n ∧ q.2 = b) ∨ q ∈ u := by
  unfold putU at h
  split at h
  · obtain ⟨p, hp, e⟩ := List.mem_map.mp h
    by_cases c : p.1 = n
    · rw [if_pos c] at e
      rw [← e]
      exact .inl ⟨c, rfl⟩
    · rw [if_neg c] at e
      rw [← e]
      exact .inr hp
  · rcases List.mem_append.mp h with h | h
    · exact .inr h
    · rw [List.mem_singleton.mp h]
      exact .inl ⟨rfl, rfl⟩
theorem gi_plain {g : Go} {d : List R3} {x : R3} (h : GI g d) (lv : g.live = true) (nw : x.w ≠ "LABEL") : GI (goStep g x) (d ++ [x]) ∧ (goStep g x).live = !leaving x.w := by
  unfold goStep
  rw [if_neg nw, if_pos lv]
  refine ⟨⟨?_, fun q hq => ?_, fun y hy hl => ?_⟩, rfl⟩
  · show g.f ++ [_] = _
    rw [h.f, ys_snoc]
    rfl
  · obtain ⟨h1, x', h2, h3⟩ := h.u q hq
    exact ⟨h1, x', List.mem_append.mpr (.inl h2), h3⟩
  · show labI y.a ∈ (if leading x.w = true then labI x.a :: g.t else g.t)
    rcases List.mem_append.mp hy with hy | hy
    · have := h.t y hy hl
      split
      · exact List.mem_cons_of_mem _ this
      · exact this
    · rw [List.mem_singleton.mp hy] at hl ⊢
      rw [if_pos hl]
      exact List.mem_cons_self
theorem gi_lab {g : Go} {d : List R3} {x : R3} (h : GI g d) (w : x.w = "LABEL") (l : x.l = none) (q : g.live = true ∨ labI x.a ∈ g.t) : GI (goStep g x) (d ++ [x]) ∧ (goStep g x).live = true := by
  have nl : leading x.w = false := by rw [w]; rfl
  have ef : ysOf (d ++ [x]) = g.f ++ [⟨x.w, x.a, none, .non⟩] := by
    rw [ys_snoc, h.f]
    unfold toR4
    rw [l]
  have tt : ∀ y ∈ d ++ [x], leading y.w = true → labI y.a ∈ g.t := fun y hy hl => by
    rcases List.mem_append.mp hy with hy | hy
    · exact h.t y hy hl
    · rw [List.mem_singleton.mp hy, nl] at hl
      cases hl
  unfold goStep
  rw [if_pos w]
  by_cases c : labI x.a ∈ g.t
  · rw [if_pos c]
    refine ⟨⟨ef.symm, fun q hq => ?_, tt⟩, rfl⟩
    obtain ⟨h1, x', h2, h3⟩ := h.u q hq
    exact ⟨h1, x', List.mem_append.mpr (.inl h2), h3⟩
  · rw [if_neg c]
    have lv : g.live = true := q.elim id fun z => absurd z c
    refine ⟨⟨ef.symm, fun q hq => ?_, tt⟩, lv⟩
    rcases mem_putU hq with ⟨e1, e2⟩ | hq
    · exact ⟨by rw [e2]; exact lv, x, List.mem_append.mpr (.inr (List.mem_singleton.mpr rfl)), w, e1.symm⟩
    · obtain ⟨h1, x', h2, h3⟩ := h.u q hq
      exact ⟨h1, x', List.mem_append.mpr (.inl h2), h3⟩
theorem to_snoc (d : List R3) (x : R3) : goTo [] (d ++ [x]) = goStep (goTo [] d) x := by
  unfold goTo
  rw [List.foldl_append]
  rfl
def Lv (d : List R3) : Prop := GI (goTo [] d) d ∧ (goTo [] d).live = true
theorem lv_nil : Lv [] := ⟨⟨rfl, (fun q h => (nomatch h)), (fun x h => (nomatch h))⟩, rfl⟩
theorem lv_plain {d : List R3} {x : R3} (h : Lv d) (nw : x.w ≠ "LABEL") (nv : leaving x.w = false) : Lv (d ++ [x]) := by
  obtain ⟨h1, h2⟩ := gi_plain h.1 h.2 nw
  unfold Lv
  rw [to_snoc]
  exact ⟨h1, by rw [h2, nv]; rfl⟩
theorem lv_lab {d : List R3} {x : R3} (h : Lv d) (w : x.w = "LABEL") (l : x.l = none) : Lv (d ++ [x]) := by
  obtain ⟨h1, h2⟩ := gi_lab h.1 w l (.inl h.2)
  unfold Lv
  rw [to_snoc]
  exact ⟨h1, h2⟩
theorem lv_jump {d : List R3} {x y : R3} (h : Lv d) (nx : x.w ≠ "LABEL") (w : y.w = "LABEL") (l : y.l = none) (t : ∃ z ∈ d ++ [x], leading z.w = true ∧ labI z.a = labI y.a) : Lv (d ++ [x] ++ [y]) := by
  obtain ⟨h1, _⟩ := gi_plain h.1 h.2 nx
  rw [← to_snoc] at h1
  obtain ⟨z, hz, h3, h4⟩ := t
  have h5 := h1.t z hz h3
  rw [h4] at h5
  obtain ⟨h6, h7⟩ := gi_lab h1 w l (.inr h5)
  unfold Lv
  rw [to_snoc]
  exact ⟨h6, h7⟩
theorem lv_part {st many k : Nat} {p : List R3} (h : PartOk st many k p) {d : List R3} (q : Lv d) : Lv (d ++ p) := by
  cases h with
  | a =>
    have h1 := lv_plain (x := ⟨"LOAD_NAME", .str "a", l10 k⟩) q (nl (by decide)) (by decide : leaving "LOAD_NAME" = false)
    have h2 := lv_plain (x := ⟨"POP_TOP", .non, l10 k⟩) h1 (nl (by decide)) (by decide : leaving "POP_TOP" = false)
    rw [List.append_assoc] at h2
    exact h2
  | b z hz =>
    have h1 := lv_plain (x := ⟨"LOAD_NAME", .str "b", l10 k⟩) q (nl (by decide)) (by decide : leaving "LOAD_NAME" = false)
    have h2 := lv_plain (x := ⟨"POP_JUMP_IF_NONE", .int (st * k : Nat), l10 k⟩) h1 (nl (by decide)) (by decide : leaving "POP_JUMP_IF_NONE" = false)
    have h3 := lv_jump (x := ⟨z, .int (st * k + 1 : Nat), l10 k⟩) (y := ⟨"LABEL", .int (st * k : Nat), none⟩) h2 (nl (lead_lab (dir_lead hz).2)) rfl rfl ⟨⟨"POP_JUMP_IF_NONE", .int (st * k : Nat), l10 k⟩, by simp, (by decide : leading "POP_JUMP_IF_NONE" = true), rfl⟩
    have h4 := lv_plain (x := ⟨"NOP", .non, l10 k⟩) h3 (nl (by decide)) (by decide : leaving "NOP" = false)
    have h5 := lv_lab (x := ⟨"LABEL", .int (st * k + 1 : Nat), none⟩) h4 rfl rfl
    rw [List.append_assoc, List.append_assoc, List.append_assoc, List.append_assoc, List.append_assoc] at h5
    exact h5
  | c z g hz hg =>
    have h1 := lv_plain (x := ⟨"LOAD_NAME", .str "c", l10 k⟩) q (nl (by decide)) (by decide : leaving "LOAD_NAME" = false)
    have h2 := lv_plain (x := ⟨"TO_BOOL", .non, l10 k⟩) h1 (nl (by decide)) (by decide : leaving "TO_BOOL" = false)
    have lz : ∀ z : Str, testing z = true → leaving z = false := fun z hz => by
      unfold testing at hz
      rw [decide_eq_true_iff] at hz
      exact (by decide : ∀ z ∈ (["POP_JUMP_IF_FALSE", "POP_JUMP_IF_TRUE", "POP_JUMP_IF_NONE", "POP_JUMP_IF_NOT_NONE"] : List Str), leaving z = false) z hz
    have h3 := lv_plain (x := ⟨z, .int (st * g + 2 : Nat), l10 k⟩) h2 (nl (lead_lab (tst_lead hz).2)) (lz z hz)
    rw [List.append_assoc, List.append_assoc] at h3
    exact h3
theorem lv_asm {st many : Nat} {nm : List Int} : ∀ {ps : List (List R3)} {k : Nat} {d : List R3}, (∀ j p, ps[j]? = some p → PartOk st many (k + j) p) → Lv d → Lv (d ++ asm st nm k ps)
  | [], k, d, _, h => by rw [show d ++ asm st nm k [] = d from List.append_nil d]; exact h
  | p :: r, k, d, ok, h => by
    show Lv (d ++ (asmP st nm k p ++ asm st nm (k + 1) r))
    rw [← List.append_assoc]
    refine lv_asm (fun j q e => by rw [show k + 1 + j = k + (j + 1) by omega]; exact ok (j + 1) q e) ?_
    have po := ok 0 p rfl
    rw [Nat.add_zero] at po
    unfold asmP
    split
    · rw [← List.append_assoc]
      exact lv_part po (lv_lab h rfl rfl)
    · exact lv_part po h
theorem lw_fw : ∀ z ∈ LW, z ∈ FW := by decide
theorem lw_leave : ∀ z ∈ LW, leading z = false → z ≠ "RETURN_VALUE" → leaving z = false := by decide
theorem pl_snd (ys : List R4) : ∀ i, i ≤ ys.length → ∀ n m, (plTo (ys.take i)).f n = some m → ∃ y ∈ ys, y.w = "LABEL" ∧ labI y.a = n
  | 0, _, n, m, h => by cases h
  | i + 1, hi, n, m, h => by
    have hx : ys[i]? = some ys[i] := List.getElem?_eq_getElem (by omega)
    rw [pl_snoc hx] at h
    have h : (if ys[i].w = "LABEL" then (fun m => if m = labI ys[i].a then some (plTo (ys.take i)).n else (plTo (ys.take i)).f m) else (plTo (ys.take i)).f) n = some m := h
    by_cases c : ys[i].w = "LABEL"
    · rw [if_pos c] at h
      have h : (if n = labI ys[i].a then some (plTo (ys.take i)).n else (plTo (ys.take i)).f n) = some m := h
      by_cases d : n = labI ys[i].a
      · exact ⟨ys[i], List.getElem_mem _, c, d.symm⟩
      · rw [if_neg d] at h
        exact pl_snd ys i (by omega) n m h
    · rw [if_neg c] at h
      exact pl_snd ys i (by omega) n m h
theorem pl_has (ys : List R4) (n : Int) : ∀ i, i ≤ ys.length → (∃ y ∈ ys.take i, y.w = "LABEL" ∧ labI y.a = n) → ∃ m, (plTo (ys.take i)).f n = some m
  | 0, _, ⟨y, h, _⟩ => by cases h
  | i + 1, hi, ⟨y, hy, h1, h2⟩ => by
    have hx : ys[i]? = some ys[i] := List.getElem?_eq_getElem (by omega)
    rw [List.take_add_one, hx] at hy
    have e : (plTo (ys.take (i + 1))).f = if ys[i].w = "LABEL" then (fun m => if m = labI ys[i].a then some (plTo (ys.take i)).n else (plTo (ys.take i)).f m) else (plTo (ys.take i)).f := by rw [pl_snoc hx]; rfl
    rw [e]
    by_cases c : ys[i].w = "LABEL"
    · rw [if_pos c]
      show ∃ m, (if n = labI ys[i].a then some (plTo (ys.take i)).n else (plTo (ys.take i)).f n) = some m
      by_cases d : n = labI ys[i].a
      · exact ⟨_, if_pos d⟩
      · rw [if_neg d]
        rcases List.mem_append.mp hy with hy | hy
        · exact pl_has ys n i (by omega) ⟨y, hy, h1, h2⟩
        · have hy : y = ys[i] := by simpa using hy
          rw [hy] at h2
          exact absurd h2.symm d
    · rw [if_neg c]
      rcases List.mem_append.mp hy with hy | hy
      · exact pl_has ys n i (by omega) ⟨y, hy, h1, h2⟩
      · have hy : y = ys[i] := by simpa using hy
        rw [hy] at h1
        exact absurd h1 c
theorem first_app : ∀ (d r : List R3), (∀ x ∈ d, leaving x.w = false) → firstGo (d ++ r) = ysOf d ++ firstGo r
  | [], r, _ => rfl
  | x :: d, r, h => by
    show toR4 x :: (if leaving x.w = true then [] else firstGo (d ++ r)) = toR4 x :: (ysOf d ++ firstGo r)
    rw [h x List.mem_cons_self, if_neg (by decide), first_app d r fun y hy => h y (List.mem_cons_of_mem _ hy)]
section
variable {st many : Nat} {ps : List (List R3)} {last : List R3}
theorem RowsOk.gi (h : RowsOk st many ps last) : GI (goTo [] (rowsOf st ps last)) (rowsOf st ps last) := by
  have q := lv_asm (nm := nmI (ps.flatten ++ last)) (k := 0) (fun j p e => by rw [Nat.zero_add]; exact h.ok j p e) lv_nil
  rw [List.nil_append] at q
  unfold rowsOf
  generalize asm st (nmI (ps.flatten ++ last)) 0 ps = d at *
  cases h.last with
  | ret =>
    have h1 := lv_plain (x := ⟨"LOAD_NAME", .str "z", some 70⟩) q (nl (by decide)) (by decide : leaving "LOAD_NAME" = false)
    have h2 := (gi_plain (x := ⟨"RETURN_VALUE", .non, some 70⟩) h1.1 h1.2 (nl (by decide))).1
    rw [← to_snoc, List.append_assoc] at h2
    exact h2
  | jmp z g hz hg =>
    have h1 := (gi_plain (x := ⟨z, .int (st * g + 2 : Nat), some 70⟩) q.1 q.2 (nl (lead_lab (dir_lead hz).2))).1
    rw [← to_snoc] at h1
    exact h1
theorem RowsOk.loop (h : RowsOk st many ps last) : loopGo (rowsOf st ps last) 1 (goTo [] (rowsOf st ps last)) = some (goTo [] (rowsOf st ps last)) := by
  have g := h.gi
  unfold loopGo
  rw [if_neg]
  unfold again
  rw [List.any_eq_true]
  rintro ⟨q, hq, e⟩
  rw [(g.u q hq).1] at e
  simp at e
theorem RowsOk.endg (h : RowsOk st many ps last) : endGo (goTo [] (rowsOf st ps last)) = ysOf (rowsOf st ps last) := by
  have g := h.gi
  unfold endGo
  rw [if_pos]
  · exact g.f
  · rw [List.all_eq_true]
    intro q hq
    obtain ⟨_, x, hx, hw, he⟩ := g.u q hq
    obtain ⟨y, hy, h1, h2⟩ := h.told x hx hw
    have := g.t y hy h1
    rw [h2, he] at this
    exact decide_eq_true this
theorem mem_ys {xs : List R3} {y : R4} : y ∈ ysOf xs ↔ ∃ x ∈ xs, toR4 x = y := List.mem_map
theorem RowsOk.jl (h : RowsOk st many ps last) : ∀ x ∈ rowsOf st ps last, leading x.w = true → ∃ n m, x.a = .int n ∧ (plTo (ysOf (rowsOf st ps last))).f n = some m := by
  intro x hx hl
  obtain ⟨n, en⟩ := (h.rx x hx).a hl
  obtain ⟨y, hy, h1, h2⟩ := h.there x hx hl
  rw [en] at h2
  have := pl_has (ysOf (rowsOf st ps last)) n _ (Nat.le_refl _) ⟨toR4 y, by rw [List.take_length]; exact mem_ys.mpr ⟨y, hy, rfl⟩, h1, h2⟩
  rw [List.take_length] at this
  obtain ⟨m, em⟩ := this
  exact ⟨n, m, en, em⟩
theorem RowsOk.hB (h : RowsOk st many ps last) : ∀ n : Nat, 150 ≤ n → (plTo (ysOf (rowsOf st ps last))).f n = none := by
  intro n hn
  cases q : (plTo (ysOf (rowsOf st ps last))).f n with
  | none => rfl
  | some m =>
    obtain ⟨y, hy, h1, h2⟩ := pl_snd (ysOf (rowsOf st ps last)) _ (Nat.le_refl _) n m (by rw [List.take_length]; exact q)
    obtain ⟨x, hx, rfl⟩ := mem_ys.mp hy
    obtain ⟨⟨k, ek, lk⟩, _⟩ := (h.rx x hx).lab h1
    have h2 : labI x.a = (n : Int) := h2
    rw [ek] at h2
    have h2 : (k : Int) = (n : Int) := h2
    omega
theorem RowsOk.due (h : RowsOk st many ps last) : DueOk (rowsOf st ps last) :=
  ⟨fun x hx => ⟨(h.rx x hx).w, (h.rx x hx).a⟩, fun x hx hw => let ⟨⟨n, e, _⟩, _⟩ := (h.rx x hx).lab hw; ⟨_, e⟩, h.jl, h.hB, Nat.le_trans h.rows_len (by decide)⟩
theorem RowsOk.way (h : RowsOk st many ps last) : WayOk (ysOf (rowsOf st ps last)) 150 := by
  refine ⟨fun y hy => ?_, fun y hy hj => ?_, h.hB⟩
  · obtain ⟨x, hx, rfl⟩ := mem_ys.mp hy
    have rx := h.rx x hx
    refine ⟨lw_fw _ rx.w, fun q => ?_⟩
    rcases q with q | q
    · obtain ⟨⟨n, e, _⟩, _⟩ := rx.lab q
      exact ⟨_, e⟩
    · rw [jump_lead] at q
      exact rx.a q
  · obtain ⟨x, hx, rfl⟩ := mem_ys.mp hy
    rw [jump_lead] at hj
    exact h.jl x hx hj
theorem RowsOk.ok3 (h : RowsOk st many ps last) : ∀ x ∈ rowsOf st ps last, Ok3 x := fun x hx => by
  have rx := h.rx x hx
  refine ⟨lw_fw _ rx.w, fun q => ?_, fun q => (rx.lab q).2⟩
  rcases q with q | q
  · obtain ⟨⟨n, e, _⟩, _⟩ := rx.lab q
    exact ⟨_, e⟩
  · exact rx.a q
theorem RowsOk.hasno (h : RowsOk st many ps last) {z : Str} (q : z ∉ LW) : hasW (wsOf (rowsOf st ps last)) z = false := by
  unfold hasW wsOf
  rw [decide_eq_false_iff_not, List.mem_map]
  rintro ⟨x, hx, rfl⟩
  exact q (h.rx x hx).w
theorem RowsOk.line (h : RowsOk st many ps last) : ∀ y ∈ ysOf (rowsOf st ps last), LineOk y := fun y hy => by
  obtain ⟨x, hx, rfl⟩ := mem_ys.mp hy
  exact (h.rx x hx).line
theorem RowsOk.noLab (h : RowsOk st many ps last) (q : hasW (wsOf (rowsOf st ps last)) "LABEL" = false) : ∀ x ∈ rowsOf st ps last, leading x.w = false := fun x hx => by
  cases z : leading x.w with
  | false => rfl
  | true =>
    obtain ⟨y, hy, h1, _⟩ := h.there x hx z
    unfold hasW wsOf at q
    rw [decide_eq_false_iff_not] at q
    exact absurd (List.mem_map.mpr ⟨y, hy, h1⟩) q
theorem RowsOk.first (h : RowsOk st many ps last) (q : hasW (wsOf (rowsOf st ps last)) "LABEL" = false) : firstGo (rowsOf st ps last) = ysOf (rowsOf st ps last) := by
  have nl0 := h.noLab q
  have na : ∀ x ∈ asm st (nmI (ps.flatten ++ last)) 0 ps, leaving x.w = false := fun x hx => by
    have hx1 : x ∈ rowsOf st ps last := List.mem_append.mpr (.inl hx)
    refine lw_leave _ (h.rx x hx1).w (nl0 x hx1) fun e => ?_
    obtain ⟨j, p, ej, hx⟩ := mem_asm.mp hx
    rcases mem_asmP.mp hx with ⟨_, rfl⟩ | hx
    · exact absurd e (by show ¬ ("LABEL" : Str) = "RETURN_VALUE"; decide)
    · have po := h.ok j p ej
      cases po with
      | a =>
        simp only [List.mem_cons, List.not_mem_nil, or_false] at hx
        rcases hx with rfl | rfl
        · exact absurd e (show ¬ ("LOAD_NAME" : Str) = "RETURN_VALUE" by decide)
        · exact absurd e (show ¬ ("POP_TOP" : Str) = "RETURN_VALUE" by decide)
      | b z hz =>
        have := nl0 ⟨z, .int (st * j + 1 : Nat), l10 j⟩ (List.mem_append.mpr (.inl (mem_asm.mpr ⟨j, _, ej, mem_asmP.mpr (.inr (by simp))⟩)))
        rw [show leading z = true from (dir_lead hz).2] at this
        cases this
      | c z g hz hg =>
        have := nl0 ⟨z, .int (st * g + 2 : Nat), l10 j⟩ (List.mem_append.mpr (.inl (mem_asm.mpr ⟨j, _, ej, mem_asmP.mpr (.inr (by simp))⟩)))
        rw [show leading z = true from (tst_lead hz).2] at this
        cases this
  have hl := h.last
  unfold rowsOf at nl0 ⊢
  rw [first_app _ _ na, show ysOf (asm st (nmI (ps.flatten ++ last)) 0 ps ++ last) = ysOf (asm st (nmI (ps.flatten ++ last)) 0 ps) ++ ysOf last from List.map_append]
  congr 1
  cases hl with
  | ret => rfl
  | jmp z g hz hg =>
    have := nl0 ⟨z, .int (st * g + 2 : Nat), some 70⟩ (List.mem_append.mpr (.inr (by simp)))
    rw [show leading z = true from (dir_lead hz).2] at this
    cases this
theorem RowsOk.still (h : RowsOk st many ps last) (q : hasW (wsOf (rowsOf st ps last)) "LABEL" = false) (f : Int → Option Nat) (B : Nat) : (drTo f B (ysOf (rowsOf st ps last))).o = ysOf (rowsOf st ps last) := by
  have nl0 := h.noLab q
  have sg := dr_seg f B (ysOf (rowsOf st ps last)) 0 (ysOf (rowsOf st ps last)).length (by omega) fun k h1 h2 => by
    unfold isJ
    rw [List.getElem?_eq_getElem (by omega : k < (ysOf (rowsOf st ps last)).length)]
    obtain ⟨x, hx, e⟩ := mem_ys.mp (List.getElem_mem (by omega : k < (ysOf (rowsOf st ps last)).length))
    show jumping (ysOf (rowsOf st ps last))[k].w = false
    rw [jump_lead, ← e]
    exact nl0 x hx
  rw [Nat.zero_add, List.take_length] at sg
  rw [sg]
  show [] ++ ((ysOf (rowsOf st ps last)).drop 0).take _ = _
  rw [List.nil_append, List.drop_zero, List.take_length]
end
end C38

set_option maxHeartbeats 4000000
namespace C38
open PySem PySem.Spec PyProof.Rows L2
/-! ### the end of a law, told of the very state in which it is called -/
section
variable {P : Program} {w : World} {K : PySem.W.Frag} {mg mb : Str → Option Value} {fa a : Addr} {cs : List (Addr × Addr)} {s : Shared} {vs : List Value} {ns : List Int}
/-- tracked: the tables of code objects, and the script where nothing written holds it -/
def trk (K : PySem.W.Frag) (T : List Addr) (a : Addr) (vs : List Value) (ns : List Int) : Hp := fun b =>
  if b ∈ T then some (.tbl #[]) else if b = a ∧ K.lookup a = none then some (.frz { cls := .type "list", data := .seq vs.toArray } (.lst (ns.map V.int))) else none
theorem trk_tab {T : List Addr} {b : Addr} (h : b ∈ T) : trk K T a vs ns b = some (.tbl #[]) := if_pos h
theorem trk_cases {T : List Addr} {b : Addr} {u : HO} (h : trk K T a vs ns b = some u) : (b ∈ T ∧ u = .tbl #[]) ∨ (b ∉ T ∧ b = a ∧ K.lookup a = none ∧ u = .frz { cls := .type "list", data := .seq vs.toArray } (.lst (ns.map V.int))) := by
  unfold trk at h
  split at h
  · exact .inl ⟨by assumption, (Option.some.inj h).symm⟩
  · split at h
    · rename_i n q
      exact .inr ⟨n, q.1, q.2, (Option.some.inj h).symm⟩
    · cases h
/-- what the law's run at callerA must do -/
def RunsAt (P : Program) (w : World) (K : PySem.W.Frag) (mg : Str → Option Value) (cs : List (Addr × Addr)) (fa a : Addr) (s : Shared) (ns : List Int) : Prop := ∀ (base : Heap) (H : Hp), K.In base → base.Ns mainGlobals mg → (∀ p ∈ cs, LamX.TabB base mg p.1 p.2) → Env0 P w K mg base callerA [] s H →
  (∀ p ∈ cs, H p.2 = some (.tbl #[])) → SqL K H a (ns.map V.int) → codeAny (model P w) callerA (.call (.ref fa) ⟨[.ref a], []⟩) (CR CX0 [] P w H s (fun v _ => v = .bl true) E0) s
theorem end_run (KX : K.In s.heap) (hns : s.heap.Ns mainGlobals mg) (hb : s.heap.Ns builtinsNs mb) (hbb : ∀ x : Str, x ≠ "__name__" → mb x = bootBuiltins x) (hlim : s.heap.NoLimit) (hg : s.gens = #[])
    (hT : ∀ p ∈ cs, s.heap.get? p.2 = some { cls := .none, data := .fields #[] }) (nT : ∀ p ∈ cs, K.lookup p.2 = none) (C : ∀ p ∈ cs, PySem.W.CodeHd s.heap p.1 p.2)
    (hbm : ∃ (bm : Addr) (ob : Obj), mg "__builtins__" = some (.ref bm) ∧ bm ≠ builtinsNs ∧ s.heap.get? bm = some ob ∧ ob.cls = .type "module" ∧ ob.dict = some builtinsNs ∧ ob.data = .plain)
    (ha : s.heap.get? a = some { cls := .type "list", data := .seq vs.toArray }) (hi : IntsAre vs ns) (hl : ns.length ≤ sizeLine) (R : RunsAt P w K mg cs fa a s ns) :
    codeAny (model P w) callerA (.call (.ref fa) ⟨[.ref a], []⟩) (fun r s' => r = .ok (.ret (.bool true)) ∧ OldK s.heap s'.heap ∧ s'.os = s.os ∧ AllBare s'.gens) s := by
  have lens := hi.length
  obtain ⟨T, eT⟩ : ∃ T, T = cs.map (·.2) := ⟨_, rfl⟩
  have inT : ∀ {b : Addr}, b ∈ T → ∃ p ∈ cs, p.2 = b := fun {b} h => by rw [eT] at h; obtain ⟨p, hp, e⟩ := List.mem_map.mp h; exact ⟨p, hp, e⟩
  have toT : ∀ p ∈ cs, p.2 ∈ T := fun p hp => by rw [eT]; exact List.mem_map_of_mem hp
  have tabO : ∀ {b : Addr}, b ∈ T → s.heap.get? b = some { cls := .none, data := .fields #[] } := fun h => by obtain ⟨p, hp, rfl⟩ := inT h; exact hT p hp
  have aT : a ∉ T := fun h => by
    have := ha.symm.trans (tabO h)
    cases congrArg Obj.data (Option.some.inj this)
  generalize eH : trk K T a vs ns = H
  have cas : ∀ {b u}, H b = some u → (b ∈ T ∧ u = .tbl #[]) ∨ (b ∉ T ∧ b = a ∧ K.lookup a = none ∧ u = .frz { cls := .type "list", data := .seq vs.toArray } (.lst (ns.map V.int))) := fun {b u} h => trk_cases (by rw [eH]; exact h)
  -- what is neither a row of values nor an empty row of fields is hidden from nobody
  have free : ∀ {b : Addr} {o : Obj}, s.heap.get? b = some o → (∀ xs n, o.data ≠ .seq xs n) → o.data ≠ .fields #[] → H b = none := fun {b o} e h1 h2 => by
    cases q : H b with
    | none => rfl
    | some u =>
      rcases cas q with ⟨h, _⟩ | ⟨_, rfl, _⟩
      · cases e.symm.trans (tabO h)
        exact absurd rfl h2
      · cases e.symm.trans ha
        exact absurd rfl (h1 _ _)
  have seen : ∀ {b : Addr} {o : Obj}, s.heap.get? b = some o → (∀ xs n, o.data ≠ .seq xs n) → o.data ≠ .fields #[] → (hidT s.heap H).get? b = some o := fun e h1 h2 => hidT_get e (free e h1 h2)
  have nsS : ∀ {b : Addr} {m : Str → Option Value}, s.heap.Ns b m → (hidT s.heap H).Ns b m := fun ⟨o, es, ep, e, d, r⟩ => ⟨o, es, ep, seen e (by rw [d]; intro _ _ z; cases z) (by rw [d]; intro z; cases z), d, r⟩
  have KB : K.In (hidT s.heap H) := fun b o e => hidT_get (KX b o e) (by
    cases q : H b with
    | none => rfl
    | some u =>
      rcases cas q with ⟨h, _⟩ | ⟨_, rfl, n, _⟩
      · obtain ⟨p, hp, rfl⟩ := inT h
        cases (nT p hp).symm.trans e
      · cases n.symm.trans e)
  have MM : L2.Mod K mg (hidT s.heap H) := ⟨KB, nsS hns, ⟨mb, nsS hb, hbb⟩, by obtain ⟨mc, h1, h2⟩ := hlim; exact ⟨mc, nsS h1, h2⟩⟩
  have OK : HOk P w H s.heap := fun b u q => by
    rcases cas q with ⟨h, rfl⟩ | ⟨_, rfl, _, rfl⟩
    · exact tabO h
    · exact ⟨ha, by rw [List.length_map]; exact hl, vs, _, vals_ints hi, ha⟩
  have SQ : SqL K H a (ns.map V.int) := by
    cases k : K.lookup a with
    | none => exact .inl (.inr ⟨_, by rw [← eH]; unfold trk; rw [if_neg aT, if_pos ⟨rfl, k⟩]⟩)
    | some o =>
      cases (KX a o k).symm.trans ha
      exact .inr ⟨_, vs.toArray, _, k, rfl, rfl, rfl, by rw [List.size_toArray, lens]; exact hl, by simpa using vals_ints hi⟩
  have TB : ∀ p ∈ cs, LamX.TabB (hidT s.heap H) mg p.1 p.2 := fun p hp => by
    refine ⟨?_, ?_, ?_⟩
    · obtain ⟨o, us, file, tf, flags, tg, inF, text, tt, e1, r1, r2, r3, r⟩ := C p hp
      exact ⟨o, us, file, tf, flags, tg, inF, text, tt, seen e1 (by rw [r2]; intro _ _ z; cases z) (by rw [r2]; intro z; cases z; simp at r3), r1, r2, r3, r⟩
    · obtain ⟨bm, ob, b1, b2, b3, b4, b5, b6⟩ := hbm
      refine ⟨bm, ob, b1, b2, ?_, ?_, seen b3 (by rw [b6]; intro _ _ z; cases z) (by rw [b6]; intro z; cases z), b4, b5, b6⟩
      · rintro rfl
        obtain ⟨o, es, ep, e, d, _⟩ := hns
        cases e.symm.trans b3
        cases d.symm.trans b6
      · rintro rfl
        cases (hT p hp).symm.trans b3
        cases b6
    · intro z
      obtain ⟨o, es, ep, e, d, _⟩ := hns
      rw [z] at e
      cases (hT p hp).symm.trans e
      cases d
  have E0' : Env0 P w K mg (hidT s.heap H) callerA [] s H := ⟨rfl, MM, fun b o e => of_hidT e, Nat.le_of_eq (hidT_size _ _), trivial, (fun b hb => by cases hb), OK, .of_eq hg⟩
  refine codeAny_mono (R _ H KB (nsS hns) TB E0' (fun p hp => by rw [← eH]; exact trk_tab (toT p hp)) SQ) fun r s' h => ?_
  cases r with
  | error e => exact False.elim h
  | ok fl =>
    cases fl with
    | ret u =>
      obtain ⟨v, H', os, bare, un, ok', rv, rfl⟩ := h
      obtain rfl : u = Value.bool true := rv
      have stay : ∀ {b : Addr} {o : Obj}, b ∉ T → s.heap.get? b = some o → s'.heap.get? b = some o := fun {b o} n e => by
        cases q : H b with
        | none => exact un.keep b o e q (by intro z; cases z) (by simp)
        | some u =>
          rcases cas q with ⟨h, _⟩ | ⟨_, rfl, _, rfl⟩
          · exact absurd h n
          · cases e.symm.trans ha
            exact (ok' _ _ (un.frzs _ _ _ q)).1
      have more : ∀ {b : Addr}, b ∈ T → ∃ xs : Array Value, s'.heap.get? b = some { cls := .none, data := .fields xs } := fun {b} h => by
        obtain ⟨xs, z⟩ := un.tbls b #[] (by rw [← eH]; exact trk_tab h)
        exact ⟨_, ok' b _ z⟩
      refine ⟨rfl, ⟨fun b o e => ?_, fun b o e => ?_⟩, os, bare⟩
      · rcases Classical.em (b ∈ T) with h | h
        · obtain ⟨xs, hx⟩ := more h
          cases (tabO h).symm.trans e
          obtain ⟨p, hp, rfl⟩ := inT h
          exact .inr (.inl ⟨((C p hp).tab (hT p hp)).isCodeTable, rfl, #[], xs, rfl, hx.trans (by rw [Array.empty_append])⟩)
        · exact .inl (stay h e)
      · rcases Classical.em (b ∈ T) with h | h
        · obtain ⟨xs, hx⟩ := more h
          exact ⟨_, hx⟩
        · exact ⟨o, stay h e⟩
    | _ => exact False.elim h
/-- the law's walk, from its run -/
theorem walk_run {l : PySem.W.OpenLaw} {n : Nat} {q : Program} {loose : List Str} {XP : (Str → Option Value) → Heap → Prop} {YP : World → Heap → Prop} {d : DefRec} (hn : l.most = some n) (hn2 : n ≤ sizeLine) (hdf : d.params.defaults = [])
    (F : ∀ (w : World) (mg : Str → Option Value) (fa : Addr) (h : Heap), YP w h → h.Ns mainGlobals mg → mg d.name = some (.ref fa) → ∃ (K : PySem.W.Frag) (cs : List (Addr × Addr)), K.In h ∧ (∀ p ∈ cs, h.get? p.2 = some { cls := .none, data := .fields #[] }) ∧
      (∀ p ∈ cs, K.lookup p.2 = none) ∧ (∀ p ∈ cs, PySem.W.CodeHd h p.1 p.2) ∧ ∀ (s : Shared) (a : Addr) (ns : List Int), ns.length ≤ n → (∀ z ∈ ns, Builtin.Int.intBits z ≤ 1048576) → RunsAt l.prog w K mg cs fa a s ns) :
    PySem.W.WalkO q loose XP YP l.row.toRowW d [] (fun f vs => PySem.call f vs) := by
  refine Att.attach_callB hn hdf fun w s0 s1 mg mb fa o pm cd doc a vs ns G Y ho hd hcd hmg hobj hints hlen hbits hg => ?_
  obtain ⟨K, cs, kx, hT, nT, C, R⟩ := F w mg fa _ Y G.T.g hmg
  exact end_run kx G.T.g G.T.b G.T.builtins G.T.nolimit hg hT nT C G.T.bmain hobj hints (Nat.le_trans hlen hn2) (R s1 a ns hlen hbits)
end

theorem hu64 {k : Nat} {A : Around} (hr : Room k A) : A.units + 64 < cLine := by
  have := hr.un
  omega
/-! ### rows as data -/
structure OutOk (y : R4) : Prop where
  w : PyData.strOk y.w = true
  a : y.a = .non ∨ (∃ i : Int, y.a = .int i) ∨ ∃ z : Str, y.a = .str z ∧ PyData.strOk z = true
  h : y.h = .non
def dA : V → PyData
  | .int i => .int i
  | .str z => .str z
  | _ => .none
def dR (y : R4) : PyData := .tuple [.str y.w, dA y.a, (match y.l with | none => .none | some i => .int i), .none]
theorem dp_row {K : PySem.W.Frag} {H : Hp} {r : Addr} {y : R4} (h : OutOk y) (e : H r = some (.tup (v4 y))) : Dp K H (.ref r) (dR y) := by
  obtain ⟨w, a, l, hh⟩ := y
  have h3 := h.h
  dsimp only at h3
  subst h3
  refine .tup (SqT.of e) (.cons (.str _) (.cons ?_ (.cons ?_ (.cons .non .nil))))
  · rcases h.a with q | ⟨i, q⟩ | ⟨z, q, _⟩
    · dsimp only at q; subst q; exact .non
    · dsimp only at q; subst q; exact .int _
    · dsimp only at q; subst q; exact .str _
  · cases l with
    | none => exact .non
    | some i => exact .int _
theorem dp_rows {K : PySem.W.Frag} {H : Hp} : ∀ {refs : List Addr} {ys : List R4}, (∀ y ∈ ys, OutOk y) → Paired (fun r y => H r = some (.tup (v4 y))) refs ys → DpAll K H (refs.map V.ref) (ys.map dR)
  | [], [], _, .nil => .nil
  | _ :: _, _ :: _, h, .cons e p => .cons (dp_row (h _ List.mem_cons_self) e) (dp_rows (fun y hy => h y (List.mem_cons_of_mem _ hy)) p)
theorem lay_row {y : R4} (h : OutOk y) : PyData.canLay0 (dR y) = true ∧ PyData.depth (dR y) ≤ 1 := by
  obtain ⟨w, a, l, hh⟩ := y
  have hw := h.w
  dsimp only at hw
  unfold dR
  rcases h.a with q | ⟨i, q⟩ | ⟨z, q, qz⟩
  · dsimp only at q; subst q
    cases l <;> simp [dA, PyData.canLay0, PyData.canLayAll0, PyData.depth, PyData.depthAll, hw]
  · dsimp only at q; subst q
    cases l <;> simp [dA, PyData.canLay0, PyData.canLayAll0, PyData.depth, PyData.depthAll, hw]
  · dsimp only at q; subst q
    cases l <;> simp [dA, PyData.canLay0, PyData.canLayAll0, PyData.depth, PyData.depthAll, hw, qz]
theorem lay_rows : ∀ {ys : List R4}, (∀ y ∈ ys, OutOk y) → PyData.canLayAll0 (ys.map dR) = true ∧ PyData.depthAll (ys.map dR) ≤ 1
  | [], _ => by simp [PyData.canLayAll0, PyData.depthAll]
  | y :: r, h => by
    obtain ⟨h1, h2⟩ := lay_row (h y List.mem_cons_self)
    obtain ⟨h3, h4⟩ := lay_rows fun z hz => h z (List.mem_cons_of_mem _ hz)
    rw [List.map_cons]
    simp only [PyData.canLayAll0, PyData.depthAll, h1, h3]
    exact ⟨rfl, by omega⟩
theorem ne_rows {K : PySem.W.Frag} {H : Hp} {p q : Addr} {ys : List R4} {Q : VK} (ok : ∀ y ∈ ys, OutOk y) (hp : Rs4 H p ys) (hq : Rs4 H q ys) (k : Q (.bl false) H) : rNeD K (.ref p) (.ref q) H Q := by
  obtain ⟨rp, ep, pp⟩ := hp
  obtain ⟨rq, eq, pq⟩ := hq
  obtain ⟨h1, h2⟩ := lay_rows ok
  have sh : SeqAt.shaped (.list (ys.map dR)) = true := by
    unfold SeqAt.shaped
    simp only [PyData.canLay0, PyData.depth, h1]
    exact decide_eq_true (by omega)
  exact ⟨.list (ys.map dR), .list (ys.map dR), .lst (SqL.of ep) (dp_rows ok pp), .lst (SqL.of eq) (dp_rows ok pq), sh, sh, by rw [SeqAt.eqv_refl _ (by simp only [PyData.canLay0, h1])]; exact k⟩
theorem lw_str : ∀ z ∈ LW, PyData.strOk z = true := by decide +kernel
theorem opp_lw : ∀ z ∈ LW, testing z = true → oppos z ∈ LW := by decide +kernel
theorem dr_out (f : Int → Option Nat) (B : Nat) (ys : List R4) (ok : ∀ y ∈ ys, OutOk y ∧ y.w ∈ LW) : ∀ i, i ≤ ys.length → ∀ y ∈ (drTo f B (ys.take i)).o, OutOk y
  | 0, _, y, h => by cases h
  | i + 1, hi, y, h => by
    have hx : ys[i]? = some ys[i] := List.getElem?_eq_getElem (by omega)
    rw [dr_snoc hx] at h
    have ih := dr_out f B ys ok i (by omega)
    obtain ⟨ox, lx⟩ := ok _ (List.getElem_mem (by omega : i < ys.length))
    generalize drTo f B (ys.take i) = s at *
    generalize ys[i] = x at *
    unfold drStep at h
    have fw : PyData.strOk ("JUMP_FORWARD" : Str) = true := by decide +kernel
    have bw : PyData.strOk ("JUMP_BACKWARD" : Str) = true := by decide +kernel
    have bn : PyData.strOk ("JUMP_BACKWARD_NO_INTERRUPT" : Str) = true := by decide +kernel
    have lw : PyData.strOk ("LABEL" : Str) = true := by decide +kernel
    split at h
    · rcases List.mem_append.mp h with h | h
      · exact ih y h
      · rw [List.mem_singleton.mp h]
        refine ⟨?_, ox.a, ox.h⟩
        show PyData.strOk (if upw f s.n x = true then "JUMP_FORWARD" else backW x.w) = true
        split
        · exact fw
        · unfold backW
          split
          · exact bw
          · exact bn
    · split at h
      · rename_i ct
        split at h
        · rcases List.mem_append.mp h with h | h
          · exact ih y h
          · rw [List.mem_singleton.mp h]
            exact ox
        · rcases List.mem_append.mp h with h | h
          · exact ih y h
          · simp only [List.mem_cons, List.not_mem_nil, or_false] at h
            rcases h with rfl | rfl | rfl
            · exact ⟨lw_str _ (opp_lw _ lx ct), .inr (.inl ⟨_, rfl⟩), ox.h⟩
            · exact ⟨bw, ox.a, ox.h⟩
            · exact ⟨lw, .inr (.inl ⟨_, rfl⟩), rfl⟩
      · rcases List.mem_append.mp h with h | h
        · exact ih y h
        · rw [List.mem_singleton.mp h]
          exact ox
def ScA (a : V) : Prop := a = .non ∨ (∃ i : Int, a = .int i) ∨ ∃ z : Str, a = .str z ∧ PyData.strOk z = true
theorem PartOk.sc {st many k : Nat} {p : List R3} (h : PartOk st many k p) : ∀ x ∈ p, ScA x.a := by
  have sa : PyData.strOk ("a" : Str) = true := by decide +kernel
  have sb : PyData.strOk ("b" : Str) = true := by decide +kernel
  have sc : PyData.strOk ("c" : Str) = true := by decide +kernel
  intro x hx
  cases h with
  | a =>
    simp only [List.mem_cons, List.not_mem_nil, or_false] at hx
    rcases hx with rfl | rfl
    · exact .inr (.inr ⟨_, rfl, sa⟩)
    · exact .inl rfl
  | b z hz =>
    simp only [List.mem_cons, List.not_mem_nil, or_false] at hx
    rcases hx with rfl | rfl | rfl | rfl | rfl | rfl
    · exact .inr (.inr ⟨_, rfl, sb⟩)
    · exact .inr (.inl ⟨_, rfl⟩)
    · exact .inr (.inl ⟨_, rfl⟩)
    · exact .inr (.inl ⟨_, rfl⟩)
    · exact .inl rfl
    · exact .inr (.inl ⟨_, rfl⟩)
  | c z g hz hg =>
    simp only [List.mem_cons, List.not_mem_nil, or_false] at hx
    rcases hx with rfl | rfl | rfl
    · exact .inr (.inr ⟨_, rfl, sc⟩)
    · exact .inl rfl
    · exact .inr (.inl ⟨_, rfl⟩)
theorem LastOk.sc {st many : Nat} {p : List R3} (h : LastOk st many p) : ∀ x ∈ p, ScA x.a := by
  have sz : PyData.strOk ("z" : Str) = true := by decide +kernel
  intro x hx
  cases h with
  | ret =>
    simp only [List.mem_cons, List.not_mem_nil, or_false] at hx
    rcases hx with rfl | rfl
    · exact .inr (.inr ⟨_, rfl, sz⟩)
    · exact .inl rfl
  | jmp z g hz hg =>
    simp only [List.mem_cons, List.not_mem_nil, or_false] at hx
    subst hx
    exact .inr (.inl ⟨_, rfl⟩)
theorem RowsOk.outY {st many : Nat} {ps : List (List R3)} {last : List R3} (h : RowsOk st many ps last) : ∀ y ∈ ysOf (rowsOf st ps last), OutOk y ∧ y.w ∈ LW := by
  intro y hy
  obtain ⟨x, hx, rfl⟩ := mem_ys.mp hy
  have lx := (h.rx x hx).w
  refine ⟨⟨lw_str _ lx, ?_, rfl⟩, lx⟩
  show ScA x.a
  rcases List.mem_append.mp hx with hx | hx
  · obtain ⟨j, p, e, hx⟩ := mem_asm.mp hx
    rcases mem_asmP.mp hx with ⟨_, rfl⟩ | hx
    · exact .inr (.inl ⟨_, rfl⟩)
    · exact (h.ok j p e).sc x hx
  · exact h.last.sc x hx
theorem RowsOk.out {st many : Nat} {ps : List (List R3)} {last : List R3} (h : RowsOk st many ps last) (f : Int → Option Nat) (B : Nat) : ∀ y ∈ (drTo f B (ysOf (rowsOf st ps last))).o, OutOk y := by
  have := dr_out f B _ h.outY _ (Nat.le_refl _)
  rw [List.take_length] at this
  exact this
/-! ### the law -/
abbrev Nlaw : List Str := ["_law_script", "_law_cell", "_law_source", "_law_turn", "_law_rows_here"]
abbrev slaw : Stmt := top 94
theorem sclaw : FnScope ["_law_script", "_law_cell", "_law_source", "_law_turn", "_law_rows_here"] ["_law_script"] (defScope slaw) := ⟨rfl, rfl, rfl, by decide +kernel, rfl, by decide +kernel, by decide +kernel⟩

structure LawT (P : Program) (w : World) (K : PySem.W.Frag) (mg : Str → Option Value) (base : Heap) : Prop where
  T : Txt mg
  C_source_of : Cal P w K mg base 1 "_law_source_of" ["_law_cell"] spSrc
  C_rows : Cal P w K mg base 4 "_law_rows" ["_law_source"] spRows
  C_flowed : Cal P w K mg base 4 "flowed" ["rows", "head", "passes"] spFL
  C_head : Cal P w K mg base 1 "_law_head" ["_law_names"] spHead
  C_due : Cal P w K mg base 2 "_law_due" ["_law_rows_here"] spDue
section
variable {P : Program} {w : World} {K : PySem.W.Frag} {mg : Str → Option Value} {base : Heap}
abbrev Xlaw (P : Program) (w : World) (K : PySem.W.Frag) (mg : Str → Option Value) (base : Heap) (fa : Addr) (cdv : Value) (s : Shared) (H : Hp) : Cx := cxOf CX0 P w K mg base Nlaw "law" (defScope slaw) fa cdv callerA [] s H E0
def rSlS (K : PySem.W.Frag) : V → Option Int → Option Int → Hp → VK → Prop := fun x lo hi H Q => ∃ a xs, x = .ref a ∧ SqL K H a xs ∧ ∀ p, H p = none → Q (.ref p) (L2.upd H p (.lst (cutV xs lo hi)))
theorem sl_S {X : Cx} : L2.SlR X (rSlS X.K) := SlR.imp' (sl_list (X := X)) fun x lo hi H Q ⟨a, xs, e, h, q⟩ => ⟨a, xs, e, h, q⟩
theorem r_slS {K : PySem.W.Frag} {x : V} {lo hi : Option Int} {H : Hp} {Q : VK} : rSlS K x lo hi H Q = ∃ a xs, x = .ref a ∧ SqL K H a xs ∧ ∀ p, H p = none → Q (.ref p) (L2.upd H p (.lst (cutV xs lo hi))) := rfl
def t_turn (K : PySem.W.Frag) : TS := tSeq (tAsg (tCall spRows [] E0 (tCons (tVar 2) tNil)) (gName 4)) (tIfS (tTest (tOp (rNeD K) (tCall spFL [] E0 (tCons (tVar 4) (tCons (tCall spHead [] E0 (tCons (tLst tNil) tNil)) (tCons (tC (V.bl false)) tNil)))) (tCall spDue [] E0 (tCons (tVar 4) tNil)))) (tRet (tC (V.bl false))) tNext)
def t_cell (K : PySem.W.Frag) : TS := tSeq (tAsg (tCall spSrc [] E0 (tCons (tVar 1) tNil)) (gName 2)) (tFor (iRng1 (tCons (tC (V.int 2)) tNil)) (gName 3) (t_turn K))
def t_law (K : PySem.W.Frag) : TS := tSeq (tFor (iList K (tOp rCat (L2.tSl (rSlS K) (tVar 0) tNoPart (tPart (tC (V.int 4)))) (tLst (tCons (tC (V.int 0)) tNil)))) (gName 1) (t_cell K)) (tRet (tC (V.bl true)))
theorem law_reads {fa : Addr} {cdv : Value} {s : Shared} {H : Hp} (L : LawT P w K mg base) (hr : Room 5 (Xlaw P w K mg base fa cdv s H).nox.A) :
    PSs (Xlaw P w K mg base fa cdv s H).nox (defBody slaw) (t_law (Xlaw P w K mg base fa cdv s H).nox.K) := by
  have T := L.T
  have C_source_of := L.C_source_of
  have C_rows := L.C_rows
  have C_flowed := L.C_flowed
  have C_head := L.C_head
  have C_due := L.C_due
  have hu := hu64 hr
  unfold t_law t_cell t_turn
  exact (pss_cons (ps_for PassesOwn.never rfl (pi_list (pe_op op_cat (pe_slice sl_S (pv 0) po_none (po_some pe_int)) (pe_lst (pa_cons pe_int pa_nil)))) (pg_name (i := 1) sclaw.nd rfl (Or.inl rfl))
    (pss_cons (ps_set (i := 2) sclaw.nd rfl (Or.inl rfl) (pe_cal C_source_of (hr.mono (by decide)) rfl (pa_cons (pv 1) pa_nil)))
  (pss_one (ps_for PassesOwn.never rfl (pi_range1 rfl T.b_range (pa_cons pe_int pa_nil)) (pg_name (i := 3) sclaw.nd rfl (Or.inl rfl))
    (pss_cons (ps_set (i := 4) sclaw.nd rfl (Or.inl rfl) (pe_cal C_rows (hr.mono (by decide)) rfl (pa_cons (pv 2) pa_nil)))
  (pss_one (ps_if (pt_cmpR (op_neD hu) (pe_cal C_flowed (hr.mono (by decide)) rfl (pa_cons (pv 4) (pa_cons (pe_cal C_head (hr.mono (by decide)) rfl (pa_cons (pe_lst pa_nil) pa_nil)) (pa_cons pe_bl pa_nil)))) (pe_cal C_due (hr.mono (by decide)) rfl (pa_cons (pv 4) pa_nil)) (nomark _))
    (pss_one (ps_ret pe_bl))
    pss_nil)))))))
  (pss_one (ps_ret pe_bl)))
theorem RsL.rs3 {H : Hp} {R : Addr} {xs : List R3} (h : RsL H R xs) : Rs3 H R xs := by
  obtain ⟨rs, e, q⟩ := h
  exact ⟨rs, by rw [e]; rfl, q⟩
theorem turn_run {K : PySem.W.Frag} {D : Ends} {a S : Addr} {n : Int} {v3 v4 : Option V} {H : Hp} (hS : Src H S) (k : ∀ v4 H', Keep S H H' → Src H' S → D.nx [some (.ref a), some (.int n), some (.ref S), v3, v4] H') : t_turn K D [some (.ref a), some (.int n), some (.ref S), v3, v4] H := by
  unfold t_turn
  simp only [r_seq, r_next, r_brk, r_cont, r_asg, r_name, r_ret, r_retN, r_drop, r_ifs, r_never, r_var, r_c, r_op, r_un, r_if, r_tst, r_b, r_not, r_and, r_or, r_andV, r_orV, r_notV, r_nil, r_cons, r_tup, r_lst, r_cb, r_call, r_bm, r_bm0, r_sl, r_nopart, r_part, r_rev, r_gnil, r_gcons, r_gsub, r_par, r_aug, r_chain, r_I0, r_I, r_U, r_ixd, r_lend, r_tupd, r_listd, r_sld, r_app, r_ext, r_reverse, r_setl, r_cat, r_int1, r_eqS, r_neS, scal_ii, scal_bb, scal_ss, at0, at1, at2, sq_lst, sq_tup, isLst_lst, List.getElem?_cons_zero, List.getElem?_cons_succ, List.set_cons_zero, List.set_cons_succ, V.int.injEq, V.bl.injEq, V.ref.injEq, V.str.injEq, HO.lst.injEq, HO.tup.injEq, Option.some.injEq, exists_eq_left', exists_eq_left, List.cons.injEq, and_true, true_and, decide_eq_true_eq, reduceCtorEq, false_and, exists_false, or_false, false_or, exists_const, and_assoc, exists_and_left, List.append_nil, ix0, ix1, ix2, cm_mod, cdw1009, cdw2003, cdw7, cdw64, cdw2, cm104729, cm2, cm3, upd_same, List.length_cons, List.length_nil, Int.reduceLT, Int.reduceLE, Nat.reduceAdd, Nat.reduceLeDiff, Nat.reduceLT, Int.reduceToNat, r_for1, r_forL, r_forT, r_lcL, r_lc1, r_yes, r_gtupD, wipe_0, wipe_1, List.cons_append, List.nil_append, r_forS, r_ipI, ite_false, ite_true, Bool.not_true, Bool.not_false, decide_true, decide_false, r_isd, r_islt, cD_ty, cD_ref, tD_non, tD_bl, tD_int, tD_str, tD_ref, tH_lst, tH_tup, tH_dK, tH_ins, ki_self, ki_int_bool, ki_non_int, ki_str_int, ki_lt_lst, ki_lt_tup, r_fld, r_sfld, HO.ins.injEq, cx_K]
  refine ⟨S, rfl, hS, fun R st many ps last H1 ok hR k1 s1 h1 => ?_⟩
  simp only [r_seq, r_next, r_brk, r_cont, r_asg, r_name, r_ret, r_retN, r_drop, r_ifs, r_never, r_var, r_c, r_op, r_un, r_if, r_tst, r_b, r_not, r_and, r_or, r_andV, r_orV, r_notV, r_nil, r_cons, r_tup, r_lst, r_cb, r_call, r_bm, r_bm0, r_sl, r_nopart, r_part, r_rev, r_gnil, r_gcons, r_gsub, r_par, r_aug, r_chain, r_I0, r_I, r_U, r_ixd, r_lend, r_tupd, r_listd, r_sld, r_app, r_ext, r_reverse, r_setl, r_cat, r_int1, r_eqS, r_neS, scal_ii, scal_bb, scal_ss, at0, at1, at2, sq_lst, sq_tup, isLst_lst, List.getElem?_cons_zero, List.getElem?_cons_succ, List.set_cons_zero, List.set_cons_succ, V.int.injEq, V.bl.injEq, V.ref.injEq, V.str.injEq, HO.lst.injEq, HO.tup.injEq, Option.some.injEq, exists_eq_left', exists_eq_left, List.cons.injEq, and_true, true_and, decide_eq_true_eq, reduceCtorEq, false_and, exists_false, or_false, false_or, exists_const, and_assoc, exists_and_left, List.append_nil, ix0, ix1, ix2, cm_mod, cdw1009, cdw2003, cdw7, cdw64, cdw2, cm104729, cm2, cm3, upd_same, List.length_cons, List.length_nil, Int.reduceLT, Int.reduceLE, Nat.reduceAdd, Nat.reduceLeDiff, Nat.reduceLT, Int.reduceToNat, r_for1, r_forL, r_forT, r_lcL, r_lc1, r_yes, r_gtupD, wipe_0, wipe_1, List.cons_append, List.nil_append, r_forS, r_ipI, ite_false, ite_true, Bool.not_true, Bool.not_false, decide_true, decide_false, r_isd, r_islt, cD_ty, cD_ref, tD_non, tD_bl, tD_int, tD_str, tD_ref, tH_lst, tH_tup, tH_dK, tH_ins, ki_self, ki_int_bool, ki_non_int, ki_str_int, ki_lt_lst, ki_lt_tup, r_fld, r_sfld, HO.ins.injEq, cx_K]
  refine ⟨Nat.zero_le _, fun p hp => ?_⟩
  have sp : Same H1 (L2.upd H1 p (.lst [])) := Same.new' (Same.refl _) hp
  have ep : L2.upd H1 p (.lst []) p = some (.lst []) := upd_same
  generalize L2.upd H1 p (.lst []) = H2 at *
  refine ⟨p, [], rfl, ep, fun v H3 s3 => ?_⟩
  have S13 : Same H1 H3 := fun b o e => s3 _ _ (sp _ _ e)
  have h3 := h1.same S13
  have fin : ∀ (D1 : Addr) H4, Same H3 H4 → Rs4 H4 D1 (drTo (plTo (ysOf (rowsOf st ps last))).f 150 (ysOf (rowsOf st ps last))).o → spDue [V.ref R] H4 (fun y H' => rNeD K (.ref D1) y H' fun x H'' => ∃ b, x = V.bl b ∧ if b = true then D.rt (V.bl false) H'' else D.nx [some (.ref a), some (.int n), some (.ref S), v3, some (.ref R)] H'') E0 := fun D1 H4 s4 r4 =>
    ⟨R, _, rfl, h3.same s4, ok.due, fun D2 H5 s5 f5 r5 => ne_rows (ok.out _ _) (r4.same s5) r5 ⟨_, rfl, k _ _ (keep1 (keep1 (keep1 k1 S13) s4) s5) (((s1.same1 S13).same1 s4).same1 s5)⟩⟩
  have ly : (ysOf (rowsOf st ps last)).length = (rowsOf st ps last).length := List.length_map _
  have rl := ok.rows_len
  refine ⟨R, v, rowsOf st ps last, ysOf (rowsOf st ps last), rfl, h3.rs3, ok.ok3, by omega, ⟨ok.hasno (by decide), ok.hasno (by decide), ok.hasno (by decide)⟩, ok.hasno (by decide), by omega, ok.line, ?_⟩
  cases e : hasW (wsOf (rowsOf st ps last)) "LABEL" with
  | false => exact .inl ⟨rfl, (ok.first e).symm, fun D1 H4 s4 r4 => fin D1 H4 s4 (by rw [ok.still e]; exact r4)⟩
  | true => exact .inr ⟨rfl, 1, goTo [] (rowsOf st ps last), 150, by omega, ok.loop, ok.endg.symm, ok.way, fun D1 H4 s4 r4 => fin D1 H4 s4 r4⟩
theorem cell_run {K : PySem.W.Frag} {D : Ends} {a : Addr} {n : Int} {v2 v3 v4 : Option V} {H : Hp} (k : ∀ v2 v3 v4 H', Same H H' → D.nx [some (.ref a), some (.int n), v2, v3, v4] H') : t_cell K D [some (.ref a), some (.int n), v2, v3, v4] H := by
  unfold t_cell
  simp only [r_seq, r_next, r_brk, r_cont, r_asg, r_name, r_ret, r_retN, r_drop, r_ifs, r_never, r_var, r_c, r_op, r_un, r_if, r_tst, r_b, r_not, r_and, r_or, r_andV, r_orV, r_notV, r_nil, r_cons, r_tup, r_lst, r_cb, r_call, r_bm, r_bm0, r_sl, r_nopart, r_part, r_rev, r_gnil, r_gcons, r_gsub, r_par, r_aug, r_chain, r_I0, r_I, r_U, r_ixd, r_lend, r_tupd, r_listd, r_sld, r_app, r_ext, r_reverse, r_setl, r_cat, r_int1, r_eqS, r_neS, scal_ii, scal_bb, scal_ss, at0, at1, at2, sq_lst, sq_tup, isLst_lst, List.getElem?_cons_zero, List.getElem?_cons_succ, List.set_cons_zero, List.set_cons_succ, V.int.injEq, V.bl.injEq, V.ref.injEq, V.str.injEq, HO.lst.injEq, HO.tup.injEq, Option.some.injEq, exists_eq_left', exists_eq_left, List.cons.injEq, and_true, true_and, decide_eq_true_eq, reduceCtorEq, false_and, exists_false, or_false, false_or, exists_const, and_assoc, exists_and_left, List.append_nil, ix0, ix1, ix2, cm_mod, cdw1009, cdw2003, cdw7, cdw64, cdw2, cm104729, cm2, cm3, upd_same, List.length_cons, List.length_nil, Int.reduceLT, Int.reduceLE, Nat.reduceAdd, Nat.reduceLeDiff, Nat.reduceLT, Int.reduceToNat, r_for1, r_forL, r_forT, r_lcL, r_lc1, r_yes, r_gtupD, wipe_0, wipe_1, List.cons_append, List.nil_append, r_forS, r_ipI, ite_false, ite_true, Bool.not_true, Bool.not_false, decide_true, decide_false, r_isd, r_islt, cD_ty, cD_ref, tD_non, tD_bl, tD_int, tD_str, tD_ref, tH_lst, tH_tup, tH_dK, tH_ins, ki_self, ki_int_bool, ki_non_int, ki_str_int, ki_lt_lst, ki_lt_tup, r_fld, r_sfld, HO.ins.injEq, cx_K]
  refine ⟨n, rfl, fun S H1 hS s1 S1 => ⟨by decide, by decide, ?_⟩⟩
  show LoopR (Itr 0 2) _ _ _ _ _
  refine lp_rng (fun i σ H' => (∃ v3 v4, σ = [some (.ref a), some (.int n), some (.ref S), v3, v4]) ∧ Keep S H1 H' ∧ Src H' S) ⟨⟨_, _, rfl⟩, Keep.refl _ _, S1⟩ ?_ ?_
  · rintro i σ H2 hi ⟨⟨u3, u4, rfl⟩, k2, S2⟩
    simp only [r_seq, r_next, r_brk, r_cont, r_asg, r_name, r_ret, r_retN, r_drop, r_ifs, r_never, r_var, r_c, r_op, r_un, r_if, r_tst, r_b, r_not, r_and, r_or, r_andV, r_orV, r_notV, r_nil, r_cons, r_tup, r_lst, r_cb, r_call, r_bm, r_bm0, r_sl, r_nopart, r_part, r_rev, r_gnil, r_gcons, r_gsub, r_par, r_aug, r_chain, r_I0, r_I, r_U, r_ixd, r_lend, r_tupd, r_listd, r_sld, r_app, r_ext, r_reverse, r_setl, r_cat, r_int1, r_eqS, r_neS, scal_ii, scal_bb, scal_ss, at0, at1, at2, sq_lst, sq_tup, isLst_lst, List.getElem?_cons_zero, List.getElem?_cons_succ, List.set_cons_zero, List.set_cons_succ, V.int.injEq, V.bl.injEq, V.ref.injEq, V.str.injEq, HO.lst.injEq, HO.tup.injEq, Option.some.injEq, exists_eq_left', exists_eq_left, List.cons.injEq, and_true, true_and, decide_eq_true_eq, reduceCtorEq, false_and, exists_false, or_false, false_or, exists_const, and_assoc, exists_and_left, List.append_nil, ix0, ix1, ix2, cm_mod, cdw1009, cdw2003, cdw7, cdw64, cdw2, cm104729, cm2, cm3, upd_same, List.length_cons, List.length_nil, Int.reduceLT, Int.reduceLE, Nat.reduceAdd, Nat.reduceLeDiff, Nat.reduceLT, Int.reduceToNat, r_for1, r_forL, r_forT, r_lcL, r_lc1, r_yes, r_gtupD, wipe_0, wipe_1, List.cons_append, List.nil_append, r_forS, r_ipI, ite_false, ite_true, Bool.not_true, Bool.not_false, decide_true, decide_false, r_isd, r_islt, cD_ty, cD_ref, tD_non, tD_bl, tD_int, tD_str, tD_ref, tH_lst, tH_tup, tH_dK, tH_ins, ki_self, ki_int_bool, ki_non_int, ki_str_int, ki_lt_lst, ki_lt_tup, r_fld, r_sfld, HO.ins.injEq, cx_K]
    exact turn_run S2 fun v4 H3 k3 S3 => ⟨⟨_, _, rfl⟩, k2.trans k3, S3⟩
  · rintro σ H2 ⟨⟨u3, u4, rfl⟩, k2, S2⟩
    exact k _ _ _ H2 fun b o e => k2 _ _ (fun z => by rw [z, hS] at e; cases e) (s1 _ _ e)
theorem law_run {K : PySem.W.Frag} {a : Addr} {H : Hp} {ns : List Int} (hS : SqL K H a (ns.map V.int)) (hn : ns.length ≤ 1000) :
    t_law K { nx := fun _ H' => (fun v (_ : Hp) => v = V.bl true) .non H', rt := fun v _ => v = .bl true } (L2.start Nlaw [.ref a]) H := by
  unfold t_law
  show tSeq _ _ _ [some (.ref a), none, none, none, none] H
  rw [r_seq, r_forL]
  simp only [r_seq, r_next, r_brk, r_cont, r_asg, r_name, r_ret, r_retN, r_drop, r_ifs, r_never, r_var, r_c, r_op, r_un, r_if, r_tst, r_b, r_not, r_and, r_or, r_andV, r_orV, r_notV, r_nil, r_cons, r_tup, r_lst, r_cb, r_call, r_bm, r_bm0, r_sl, r_nopart, r_part, r_rev, r_gnil, r_gcons, r_gsub, r_par, r_aug, r_chain, r_I0, r_I, r_U, r_ixd, r_lend, r_tupd, r_listd, r_sld, r_app, r_ext, r_reverse, r_setl, r_cat, r_int1, r_eqS, r_neS, scal_ii, scal_bb, scal_ss, at0, at1, at2, sq_lst, sq_tup, isLst_lst, List.getElem?_cons_zero, List.getElem?_cons_succ, List.set_cons_zero, List.set_cons_succ, V.int.injEq, V.bl.injEq, V.ref.injEq, V.str.injEq, HO.lst.injEq, HO.tup.injEq, Option.some.injEq, exists_eq_left', exists_eq_left, List.cons.injEq, and_true, true_and, decide_eq_true_eq, reduceCtorEq, false_and, exists_false, or_false, false_or, exists_const, and_assoc, exists_and_left, List.append_nil, ix0, ix1, ix2, cm_mod, cdw1009, cdw2003, cdw7, cdw64, cdw2, cm104729, cm2, cm3, upd_same, List.length_cons, List.length_nil, Int.reduceLT, Int.reduceLE, Nat.reduceAdd, Nat.reduceLeDiff, Nat.reduceLT, Int.reduceToNat, r_for1, r_forL, r_forT, r_lcL, r_lc1, r_yes, r_gtupD, wipe_0, wipe_1, List.cons_append, List.nil_append, r_forS, r_ipI, ite_false, ite_true, Bool.not_true, Bool.not_false, decide_true, decide_false, r_isd, r_islt, cD_ty, cD_ref, tD_non, tD_bl, tD_int, tD_str, tD_ref, tH_lst, tH_tup, tH_dK, tH_ins, ki_self, ki_int_bool, ki_non_int, ki_str_int, ki_lt_lst, ki_lt_tup, r_fld, r_sfld, HO.ins.injEq, cx_K, r_slS]
  refine ⟨_, hS, fun p h0 => ?_⟩
  have isI : ∀ x ∈ cutV (ns.map V.int) none (some 4), ∃ n : Int, x = .int n := by
    intro x hx
    unfold cutV at hx
    obtain ⟨n, _, e⟩ := List.mem_map.mp (List.mem_of_mem_drop (List.mem_of_mem_take hx))
    exact ⟨n, e.symm⟩
  have lc := cutV_length (ns.map V.int) none (some 4)
  rw [List.length_map] at lc
  generalize cutV (ns.map V.int) none (some 4) = cs at *
  have e0 : L2.upd H p (.lst cs) p = some (.lst cs) := upd_same
  generalize L2.upd H p (.lst cs) = H1 at *
  refine ⟨szl (by decide), fun p1 h1 => ?_⟩
  have e1 : L2.upd H1 p1 (.lst [.int 0]) p = some (.lst cs) := by rw [upd_ne (ne_new e0 h1)]; exact e0
  generalize L2.upd H1 p1 (.lst [.int 0]) = H2 at *
  refine ⟨_, e1, Nat.le_trans (by omega : _ ≤ 1001) (by decide), fun p2 h2 => ?_⟩
  have e2 : L2.upd H2 p2 (.lst (cs ++ [.int 0])) p2 = some (.lst (cs ++ [.int 0])) := upd_same
  have in5 : ∀ x ∈ cs ++ [V.int 0], ∃ n : Int, x = .int n := by
    intro x hx
    rcases List.mem_append.mp hx with h | h
    · exact isI x h
    · exact ⟨0, List.mem_singleton.mp h⟩
  generalize cs ++ [V.int 0] = xs at *
  show (∃ ys, SqL K (L2.upd H2 p2 (.lst xs)) p2 ys) ∧ LoopR _ _ _ _ _ (L2.upd H2 p2 (.lst xs))
  generalize L2.upd H2 p2 (.lst xs) = H3 at *
  refine ⟨⟨_, SqL.of e2⟩, lp_list (xs := xs) (fun i σ H' => (∃ v1 v2 v3 v4, σ = [some (.ref a), v1, v2, v3, v4]) ∧ Same H3 H') ⟨⟨_, _, _, _, rfl⟩, Same.refl H3⟩ (fun i σ H' _ h => SqL.of (h.2 _ _ e2)) ?_ ?_⟩
  · rintro i x σ H' hx ⟨⟨v1, v2, v3, v4, rfl⟩, e⟩
    obtain ⟨n, rfl⟩ := in5 x (List.mem_of_getElem? hx)
    show t_cell K _ [some (.ref a), some (.int n), v2, v3, v4] H'
    exact cell_run fun w2 w3 w4 H2 e2 => ⟨⟨_, _, _, _, rfl⟩, fun y o q => e2 y o (e y o q)⟩
  · rintro σ H' ⟨⟨v1, v2, v3, v4, rfl⟩, e⟩
    rfl
end
/-- the law runs well -/
theorem law_runs {P : Program} {w : World} {K : PySem.W.Frag} {mg : Str → Option Value} {fa a : Addr} {cdv : Value} {s : Shared} {ns : List Int} {oc : Value} {od : Option Addr} {dV kV doc pm ct : Value} {an : Option Addr} {osl : Array (Option Value)}
    (L : ∀ base, LawT P w K mg base) (lk : K.lookup fa = some ⟨oc, od, .func (PySem.W.fnOf "law" "law" (defArgs slaw) (defBody slaw) (defScope slaw) dV kV doc pm an cdv ct), osl⟩) (hcd : PySem.W.codeIn K cdv "law" = true)
    (bind : ∀ (s : Shared) (v : Value), BindsTo s (PySem.W.fnOf "law" "law" (defArgs slaw) (defBody slaw) (defScope slaw) dV kV doc pm an cdv ct) ⟨[v], []⟩ [("_law_script", v)]) (hn : ns.length ≤ 1000) : RunsAt P w K mg [] fa a s ns := by
  intro base H KB nsB TB e0 hT hS
  refine LamX.run_ofS (N := Nlaw) (ps := ["_law_script"]) (us := [.ref a]) (vs := [.ref a]) lk hcd sclaw (k := 5) ⟨rfl, by decide, by decide⟩ e0 (bind s (.ref a)) (.cons rfl .nil) rfl fun hr => ?_
  refine ⟨_, (law_reads (L base) hr).nox, ?_⟩
  exact law_run hS hn
end C38

set_option maxHeartbeats 4000000
namespace C38
open PySem PySem.Spec PyProof.Rows L2
/-! ### what the head's facts say -/
theorem tupIn_ok {K : PySem.W.Frag} {a : Addr} {us : List Value} {xs : List V} (h : tupIn K a = some us) (hv : Vals xs us) (hl : us.length ≤ 1000) : KTup K a xs := by
  unfold tupIn at h
  split at h
  · rename_i t dd its n ss e
    split at h
    · rename_i ht
      cases h
      refine ⟨_, its, n, e, by rw [ht], rfl, szl (by simpa using hl), hv⟩
    · cases h
  · cases h
theorem in_one {K : PySem.W.Frag} {x z : Str} {b : Bool} (h : inB K x (z, b) = true) : ∃ o, PySem.W.nsIn K (He.ga K x) z = some o ∧ o.isSome = b := by
  unfold inB at h
  dsimp only at h
  split at h
  · rename_i r e
    exact ⟨r, e, beq_iff_eq.mp h⟩
  · cases h
theorem in_ok {K : PySem.W.Frag} {w : World} {mg : Str → Option Value} {x : Str} {f : Str → Bool} {l : List (Str × Bool)} (kd : ∃ es n, KDict K w (He.ga K x) es n) (g : mg x = some (.ref (He.ga K x))) (h : l.all (inB K x) = true) (hl : l = FW.map fun z => (z, f z)) : InW K w mg x (He.ga K x) f :=
  ⟨kd, g, fun z hz => in_one (List.all_eq_true.mp h _ (by rw [hl]; exact List.mem_map_of_mem hz))⟩
theorem zl_is : ZL = FW.map fun z => (z, leading z) := by decide +kernel
theorem zv_is : ZV = FW.map fun z => (z, leaving z) := by decide +kernel
theorem zt_is : ZT = FW.map fun z => (z, turning z) := by decide +kernel
theorem zd_is : ZD = FW.map fun z => (z, direct z) := by decide +kernel
theorem zo_is : ZO = FW.map fun z => (z, testing z) := by decide +kernel
theorem dk_ok {K : PySem.W.Frag} {w : World} {es : Array DictEntry} {n : Nat} (kd : KDict K w (He.ga K "DIRECTIONS") es n) (h : ZDw.all (dirB K) = true) : ∀ z : Str, direct z = true → ∃ a, KDct K w (He.ga K "DIRECTIONS") z (.ref a) ∧ KTup K a [.str "JUMP_FORWARD", .str (backW z)] := by
  have one : ∀ z : Str, dirB K (z, "JUMP_FORWARD", backW z) = true → ∃ a, KDct K w (He.ga K "DIRECTIONS") z (.ref a) ∧ KTup K a [.str "JUMP_FORWARD", .str (backW z)] := fun z h => by
    unfold dirB at h
    dsimp only at h
    split at h
    · rename_i a e
      split at h
      · rename_i u t v t' e2
        rw [Bool.and_eq_true] at h
        have h1 := of_decide_eq_true h.1
        have h2 := of_decide_eq_true h.2
        subst h1 h2
        exact ⟨a, ⟨es, n, .ref a, kd.at_, kd.lit, e, rfl⟩, tupIn_ok e2 (.cons ⟨t, rfl⟩ (.cons ⟨t', rfl⟩ .nil)) (by show 2 ≤ 1000; decide)⟩
      · cases h
    · cases h
  intro z hz
  unfold direct at hz
  rw [decide_eq_true_iff, List.mem_cons, List.mem_cons] at hz
  rcases hz with rfl | rfl | hz
  · exact one _ (List.all_eq_true.mp h _ (by decide +kernel))
  · exact one _ (List.all_eq_true.mp h _ (by decide +kernel))
  · cases hz
theorem ot_ok {K : PySem.W.Frag} {w : World} {es : Array DictEntry} {n : Nat} (kd : KDict K w (He.ga K "OPPOSITES") es n) (h : ZOw.all (strB K "OPPOSITES") = true) : ∀ z : Str, testing z = true → KDct K w (He.ga K "OPPOSITES") z (.str (oppos z)) := by
  have one : ∀ z : Str, strB K "OPPOSITES" (z, oppos z) = true → KDct K w (He.ga K "OPPOSITES") z (.str (oppos z)) := fun z h => by
    unfold strB at h
    dsimp only at h
    split at h
    · rename_i u t e
      have h1 := of_decide_eq_true h
      subst h1
      exact ⟨es, n, _, kd.at_, kd.lit, e, t, rfl⟩
    · cases h
  intro z hz
  unfold testing at hz
  rw [decide_eq_true_iff, List.mem_cons, List.mem_cons, List.mem_cons, List.mem_cons] at hz
  rcases hz with rfl | rfl | rfl | rfl | hz
  · exact one _ (List.all_eq_true.mp h _ (by decide +kernel))
  · exact one _ (List.all_eq_true.mp h _ (by decide +kernel))
  · exact one _ (List.all_eq_true.mp h _ (by decide +kernel))
  · exact one _ (List.all_eq_true.mp h _ (by decide +kernel))
  · cases hz
/-- the one def that is handed on -/
def SRw (G : Addr) : Addr → Option Sp := fun f => if f = G then some spRW else none
theorem SRw_at {G f : Addr} {sp : Sp} (h : SRw G f = some sp) : f = G ∧ sp = spRW := by
  unfold SRw at h
  split at h
  · rename_i e
    cases h
    exact ⟨e, rfl⟩
  · cases h
end C38

set_option maxHeartbeats 4000000
namespace C38
open PySem PySem.Spec PyProof.Rows L2
abbrev Pgm : Program := PySem.Challenge.pw_codewalk_k38_ways_of_jumps
theorem k38_at {w : World} {mg : Str → Option Value} {fa : Addr} {h : Heap} (Y : hkk.says w h) (G : h.Ns mainGlobals mg) (hmg : mg "law" = some (.ref fa)) : ∃ (K : PySem.W.Frag) (cs : List (Addr × Addr)), K.In h ∧ (∀ p ∈ cs, h.get? p.2 = some { cls := .none, data := .fields #[] }) ∧
    (∀ p ∈ cs, K.lookup p.2 = none) ∧ (∀ p ∈ cs, PySem.W.CodeHd h p.1 p.2) ∧ ∀ (s : Shared) (a : Addr) (ns : List Int), ns.length ≤ 1000 → RunsAt Pgm w K mg cs fa a s ns := by
  obtain ⟨K, X, c⟩ := Y
  have cd := c.t.d
  obtain ⟨fd_words_in, F_words_in⟩ := cd.def_ 0 (d := d_words_in) rfl
  obtain ⟨fd_first_rows, F_first_rows⟩ := cd.def_ 1 (d := d_first_rows) rfl
  obtain ⟨fd_reached_rows, F_reached_rows⟩ := cd.def_ 2 (d := d_reached_rows) rfl
  obtain ⟨fd_reached_without, F_reached_without⟩ := cd.def_ 3 (d := d_reached_without) rfl
  obtain ⟨fd_with_handlers, F_with_handlers⟩ := cd.def_ 4 (d := d_with_handlers) rfl
  obtain ⟨fd_with_lines, F_with_lines⟩ := cd.def_ 5 (d := d_with_lines) rfl
  obtain ⟨fd_with_lines_on_ways, F_with_lines_on_ways⟩ := cd.def_ 6 (d := d_with_lines_on_ways) rfl
  obtain ⟨fd_sources_of, F_sources_of⟩ := cd.def_ 7 (d := d_sources_of) rfl
  obtain ⟨fd_lines_along, F_lines_along⟩ := cd.def_ 8 (d := d_lines_along) rfl
  obtain ⟨fd_with_checks, F_with_checks⟩ := cd.def_ 9 (d := d_with_checks) rfl
  obtain ⟨fd_with_directions, F_with_directions⟩ := cd.def_ 10 (d := d_with_directions) rfl
  obtain ⟨fd_flowed, F_flowed⟩ := cd.def_ 11 (d := d_flowed) rfl
  obtain ⟨fd_l_source_of, F_l_source_of⟩ := cd.def_ 12 (d := d_l_source_of) rfl
  obtain ⟨fd_l_next, F_l_next⟩ := cd.def_ 13 (d := d_l_next) rfl
  obtain ⟨fd_l_one, F_l_one⟩ := cd.def_ 14 (d := d_l_one) rfl
  obtain ⟨fd_l_head, F_l_head⟩ := cd.def_ 15 (d := d_l_head) rfl
  obtain ⟨fd_l_opposite, F_l_opposite⟩ := cd.def_ 16 (d := d_l_opposite) rfl
  obtain ⟨fd_l_words, F_l_words⟩ := cd.def_ 17 (d := d_l_words) rfl
  obtain ⟨fd_l_parts, F_l_parts⟩ := cd.def_ 18 (d := d_l_parts) rfl
  obtain ⟨fd_l_rows, F_l_rows⟩ := cd.def_ 19 (d := d_l_rows) rfl
  obtain ⟨fd_l_due, F_l_due⟩ := cd.def_ 20 (d := d_l_due) rfl
  obtain ⟨fd_law, F_law⟩ := cd.def_ 21 (d := d_law) rfl
  have g_words_in := He.glo_ok X G (cd.fact 0 (f := .glo "words_in") rfl)
  have g_first_rows := He.glo_ok X G (cd.fact 1 (f := .glo "first_rows") rfl)
  have g_reached_rows := He.glo_ok X G (cd.fact 2 (f := .glo "reached_rows") rfl)
  have g_reached_without := He.glo_ok X G (cd.fact 3 (f := .glo "reached_without") rfl)
  have g_with_handlers := He.glo_ok X G (cd.fact 4 (f := .glo "with_handlers") rfl)
  have g_with_lines := He.glo_ok X G (cd.fact 5 (f := .glo "with_lines") rfl)
  have g_with_lines_on_ways := He.glo_ok X G (cd.fact 6 (f := .glo "with_lines_on_ways") rfl)
  have g_sources_of := He.glo_ok X G (cd.fact 7 (f := .glo "sources_of") rfl)
  have g_lines_along := He.glo_ok X G (cd.fact 8 (f := .glo "lines_along") rfl)
  have g_with_checks := He.glo_ok X G (cd.fact 9 (f := .glo "with_checks") rfl)
  have g_with_directions := He.glo_ok X G (cd.fact 10 (f := .glo "with_directions") rfl)
  have g_flowed := He.glo_ok X G (cd.fact 11 (f := .glo "flowed") rfl)
  have g_l_source_of := He.glo_ok X G (cd.fact 12 (f := .glo "_law_source_of") rfl)
  have g_l_next := He.glo_ok X G (cd.fact 13 (f := .glo "_law_next") rfl)
  have g_l_one := He.glo_ok X G (cd.fact 14 (f := .glo "_law_one") rfl)
  have g_l_head := He.glo_ok X G (cd.fact 15 (f := .glo "_law_head") rfl)
  have g_l_opposite := He.glo_ok X G (cd.fact 16 (f := .glo "_law_opposite") rfl)
  have g_l_words := He.glo_ok X G (cd.fact 17 (f := .glo "_law_words") rfl)
  have g_l_parts := He.glo_ok X G (cd.fact 18 (f := .glo "_law_parts") rfl)
  have g_l_rows := He.glo_ok X G (cd.fact 19 (f := .glo "_law_rows") rfl)
  have g_l_due := He.glo_ok X G (cd.fact 20 (f := .glo "_law_due") rfl)
  have g_law := He.glo_ok X G (cd.fact 21 (f := .glo "law") rfl)
  have g_LEADING := He.glo_ok X G (cd.fact 22 (f := .glo "LEADING") rfl)
  have g_LEAVING := He.glo_ok X G (cd.fact 23 (f := .glo "LEAVING") rfl)
  have g_TURNING := He.glo_ok X G (cd.fact 24 (f := .glo "TURNING") rfl)
  have g_DIRECTIONS := He.glo_ok X G (cd.fact 25 (f := .glo "DIRECTIONS") rfl)
  have g_OPPOSITES := He.glo_ok X G (cd.fact 26 (f := .glo "OPPOSITES") rfl)
  have g_NOTHING_handlers := He.glo_ok X G (cd.fact 27 (f := .glo "NOTHING_handlers") rfl)
  have B_words_in : Binds K fd_words_in ["rows"] [] := F_words_in.bindsN fun _ _ _ _ _ _ us hl => match us, hl with | [_], _ => rfl
  have B_first_rows : Binds K fd_first_rows ["rows"] [] := F_first_rows.bindsN fun _ _ _ _ _ _ us hl => match us, hl with | [_], _ => rfl
  have B_reached_rows : Binds K fd_reached_rows ["rows", "go_through"] [] := F_reached_rows.bindsN fun _ _ _ _ _ _ us hl => match us, hl with | [_, _], _ => rfl
  have B_reached_without : Binds K fd_reached_without ["rows", "told"] [] := F_reached_without.bindsN fun _ _ _ _ _ _ us hl => match us, hl with | [_, _], _ => rfl
  have B_with_handlers : Binds K fd_with_handlers ["rows", "words"] [] := F_with_handlers.bindsN fun _ _ _ _ _ _ us hl => match us, hl with | [_, _], _ => rfl
  have B_with_lines : Binds K fd_with_lines ["rows", "words"] [] := F_with_lines.bindsN fun _ _ _ _ _ _ us hl => match us, hl with | [_, _], _ => rfl
  have B_with_lines_on_ways : Binds K fd_with_lines_on_ways ["rows", "bare"] [] := F_with_lines_on_ways.bindsN fun _ _ _ _ _ _ us hl => match us, hl with | [_, _], _ => rfl
  have B_sources_of : Binds K fd_sources_of ["rows", "bare"] [] := F_sources_of.bindsN fun _ _ _ _ _ _ us hl => match us, hl with | [_, _], _ => rfl
  have B_lines_along : Binds K fd_lines_along ["sources", "rows"] [] := F_lines_along.bindsN fun _ _ _ _ _ _ us hl => match us, hl with | [_, _], _ => rfl
  have B_with_checks : Binds K fd_with_checks ["rows", "head", "words"] [] := F_with_checks.bindsN fun _ _ _ _ _ _ us hl => match us, hl with | [_, _, _], _ => rfl
  have B_with_directions : Binds K fd_with_directions ["rows"] [] := F_with_directions.bindsN fun _ _ _ _ _ _ us hl => match us, hl with | [_], _ => rfl
  have B_l_source_of : Binds K fd_l_source_of ["_law_cell"] [] := F_l_source_of.bindsN fun _ _ _ _ _ _ us hl => match us, hl with | [_], _ => rfl
  have B_l_next : Binds K fd_l_next ["_law_source", "_law_many"] [] := F_l_next.bindsN fun _ _ _ _ _ _ us hl => match us, hl with | [_, _], _ => rfl
  have B_l_one : Binds K fd_l_one ["_law_source", "_law_some"] [] := F_l_one.bindsN fun _ _ _ _ _ _ us hl => match us, hl with | [_, _], _ => rfl
  have B_l_head : Binds K fd_l_head ["_law_names"] [] := F_l_head.bindsN fun _ _ _ _ _ _ us hl => match us, hl with | [_], _ => rfl
  have B_l_opposite : Binds K fd_l_opposite [] [] := F_l_opposite.bindsN fun _ _ _ _ _ _ us hl => match us, hl with | [], _ => rfl
  have B_l_words : Binds K fd_l_words [] [] := F_l_words.bindsN fun _ _ _ _ _ _ us hl => match us, hl with | [], _ => rfl
  have B_l_parts : Binds K fd_l_parts ["_law_source", "_law_labels", "_law_many"] [] := F_l_parts.bindsN fun _ _ _ _ _ _ us hl => match us, hl with | [_, _, _], _ => rfl
  have B_l_rows : Binds K fd_l_rows ["_law_source"] [] := F_l_rows.bindsN fun _ _ _ _ _ _ us hl => match us, hl with | [_], _ => rfl
  have B_l_due : Binds K fd_l_due ["_law_rows_here"] [] := F_l_due.bindsN fun _ _ _ _ _ _ us hl => match us, hl with | [_], _ => rfl
  have B_law : Binds K fd_law ["_law_script"] [] := F_law.bindsN fun _ _ _ _ _ _ us hl => match us, hl with | [_], _ => rfl
  obtain ⟨dsA, rA, B_flowed⟩ := F_flowed.binds1 (ps := ["rows", "head", "passes"]) 3 1 (by simp [He.DefD.dvs, d_flowed]) rfl (fun T kV doc pm an cdv ct us its hl hi => match us, hl, its, hi with | [_, _, _], _, [_], _ => ⟨_, rfl, rfl⟩)
  have rA : Vals [] dsA := rA
  cases rA
  have T : Txt mg := ⟨He.free_ok X G (cd.fact 28 (f := .free "len") rfl), He.free_ok X G (cd.fact 29 (f := .free "int") rfl), He.free_ok X G (cd.fact 30 (f := .free "range") rfl), He.free_ok X G (cd.fact 31 (f := .free "tuple") rfl), He.free_ok X G (cd.fact 32 (f := .free "list") rfl), He.free_ok X G (cd.fact 33 (f := .free "isinstance") rfl), He.free_ok X G (cd.fact 34 (f := .free "bool") rfl), He.free_ok X G (cd.fact 35 (f := .free "str") rfl), He.free_ok X G (cd.fact 36 (f := .free "max") rfl), He.free_ok X G (cd.fact 37 (f := .free "min") rfl), He.free_ok X G (cd.fact 38 (f := .free "enumerate") rfl), He.free_ok X G (cd.fact 39 (f := .free "any") rfl), He.free_ok X G (cd.fact 40 (f := .free "all") rfl), He.free_ok X G (cd.fact 41 (f := .free "zip") rfl), He.free_ok X G (cd.fact 42 (f := .free "sum") rfl), He.free_ok X G (cd.fact 43 (f := .free "sorted") rfl), He.free_ok X G (cd.fact 44 (f := .free "repr") rfl), He.free_ok X G (cd.fact 45 (f := .free "dict") rfl)⟩
  obtain ⟨en0, nn0, kn0⟩ := c.t.tab 0
  obtain ⟨en1, nn1, kn1⟩ := c.t.tab 1
  obtain ⟨en2, nn2, kn2⟩ := c.t.tab 2
  obtain ⟨en3, nn3, kn3⟩ := c.t.tab 3
  obtain ⟨en4, nn4, kn4⟩ := c.t.tab 4
  have mo := c.more
  unfold exB exA exF exG at mo
  simp only [Bool.and_eq_true] at mo
  obtain ⟨⟨m1, m2⟩, ⟨m3, m4, m5⟩, m6, m7⟩ := mo
  have TL : InW K w mg "LEADING" (He.ga K "LEADING") leading := in_ok ⟨en0, nn0, ⟨kn0.at_, kn0.lit, kn0.low⟩⟩ g_LEADING m1 zl_is
  have TV : InW K w mg "LEAVING" (He.ga K "LEAVING") leaving := in_ok ⟨en1, nn1, ⟨kn1.at_, kn1.lit, kn1.low⟩⟩ g_LEAVING m2 zv_is
  have TT : InW K w mg "TURNING" (He.ga K "TURNING") turning := in_ok ⟨en2, nn2, ⟨kn2.at_, kn2.lit, kn2.low⟩⟩ g_TURNING m3 zt_is
  have TDi : InW K w mg "DIRECTIONS" (He.ga K "DIRECTIONS") direct := in_ok ⟨en3, nn3, ⟨kn3.at_, kn3.lit, kn3.low⟩⟩ g_DIRECTIONS m4 zd_is
  have TO : InW K w mg "OPPOSITES" (He.ga K "OPPOSITES") testing := in_ok ⟨en4, nn4, ⟨kn4.at_, kn4.lit, kn4.low⟩⟩ g_OPPOSITES m5 zo_is
  have TD : DirT K w mg (He.ga K "TURNING") (He.ga K "DIRECTIONS") (He.ga K "OPPOSITES") := ⟨TT, TDi, TO, dk_ok ⟨kn3.at_, kn3.lit, kn3.low⟩ m6, ot_ok ⟨kn4.at_, kn4.lit, kn4.low⟩ m7⟩
  have cal : ∀ {base : Heap} {k : Nat} {x : Str} {ps : List Str} {sp : Sp} {f : Addr} {fd : FuncData}, FnOk Pgm w K mg base CX0 k f fd ps sp → mg x = some (.ref f) → PySem.W.keepIn K (.ref f) = true → Binds K fd ps [] → Cal Pgm w K mg base k x ps sp := fun F g kp b => ⟨⟨_, _, F, g, kp, b⟩⟩
  have law : ∀ base, LawT Pgm w K mg base := fun base => by
    have O_words_in := ok_words_in (P := Pgm) (w := w) (mg := mg) (base := base) F_words_in
    have C_words_in := cal (base := base) O_words_in g_words_in F_words_in.kp B_words_in
    have O_reached_without := ok_rw (P := Pgm) (w := w) (mg := mg) (base := base) T TT TL TV g_NOTHING_handlers F_reached_without
    have C_reached_without := cal (base := base) O_reached_without g_reached_without F_reached_without.kp B_reached_without
    have hS : ∀ f sp, SRw (He.ga K "reached_without") f = some sp → Held Pgm w K mg base 1 f sp := fun f sp hf => by
      obtain ⟨rfl, rfl⟩ := SRw_at hf
      exact ⟨⟨fd_reached_without, ["rows", "told"], O_reached_without, F_reached_without.kp, B_reached_without⟩⟩
    have O_reached_rows := ok_rr (P := Pgm) (w := w) (mg := mg) (base := base) T hS F_reached_rows
    have C_reached_rows := cal (base := base) O_reached_rows g_reached_rows F_reached_rows.kp B_reached_rows
    have O_first_rows := ok_fr (P := Pgm) (w := w) (mg := mg) (base := base) T TV F_first_rows
    have C_first_rows := cal (base := base) O_first_rows g_first_rows F_first_rows.kp B_first_rows
    have O_with_handlers := ok_wh (P := Pgm) (w := w) (mg := mg) (base := base) (S := SRw (He.ga K "reached_without")) T (if_pos rfl) g_reached_without F_with_handlers C_first_rows C_reached_rows
    have C_with_handlers := cal (base := base) O_with_handlers g_with_handlers F_with_handlers.kp B_with_handlers
    have O_sources_of := ok_so (P := Pgm) (w := w) (mg := mg) (base := base) F_sources_of
    have C_sources_of := cal (base := base) O_sources_of g_sources_of F_sources_of.kp B_sources_of
    have O_lines_along := ok_la (P := Pgm) (w := w) (mg := mg) (base := base) F_lines_along
    have C_lines_along := cal (base := base) O_lines_along g_lines_along F_lines_along.kp B_lines_along
    have O_with_lines_on_ways := ok_wo (P := Pgm) (w := w) (mg := mg) (base := base) T C_sources_of C_lines_along F_with_lines_on_ways
    have C_with_lines_on_ways := cal (base := base) O_with_lines_on_ways g_with_lines_on_ways F_with_lines_on_ways.kp B_with_lines_on_ways
    have O_with_lines := ok_wl (P := Pgm) (w := w) (mg := mg) (base := base) T C_with_lines_on_ways F_with_lines
    have C_with_lines := cal (base := base) O_with_lines g_with_lines F_with_lines.kp B_with_lines
    have O_with_checks := ok_wc (P := Pgm) (w := w) (mg := mg) (base := base) T F_with_checks
    have C_with_checks := cal (base := base) O_with_checks g_with_checks F_with_checks.kp B_with_checks
    have O_with_directions := ok_wd (P := Pgm) (w := w) (mg := mg) (base := base) T TD F_with_directions
    have C_with_directions := cal (base := base) O_with_directions g_with_directions F_with_directions.kp B_with_directions
    have O_flowed := ok_fl (P := Pgm) (w := w) (mg := mg) (base := base) T F_flowed C_words_in C_with_handlers C_with_lines C_with_checks C_with_directions
    have C_flowed := cal (base := base) O_flowed g_flowed F_flowed.kp B_flowed
    have O_l_source_of := ok_source_of (P := Pgm) (w := w) (mg := mg) (base := base) T F_l_source_of
    have C_l_source_of := cal (base := base) O_l_source_of g_l_source_of F_l_source_of.kp B_l_source_of
    have O_l_next := ok_next (P := Pgm) (w := w) (mg := mg) (base := base) T F_l_next
    have C_l_next := cal (base := base) O_l_next g_l_next F_l_next.kp B_l_next
    have O_l_one := ok_one (P := Pgm) (w := w) (mg := mg) (base := base) T F_l_one C_l_next
    have C_l_one := cal (base := base) O_l_one g_l_one F_l_one.kp B_l_one
    have O_l_head := ok_hd (P := Pgm) (w := w) (mg := mg) (base := base) T F_l_head
    have C_l_head := cal (base := base) O_l_head g_l_head F_l_head.kp B_l_head
    have O_l_opposite := ok_op (P := Pgm) (w := w) (mg := mg) (base := base) T F_l_opposite
    have C_l_opposite := cal (base := base) O_l_opposite g_l_opposite F_l_opposite.kp B_l_opposite
    have O_l_words := ok_wo2 (P := Pgm) (w := w) (mg := mg) (base := base) T F_l_words
    have C_l_words := cal (base := base) O_l_words g_l_words F_l_words.kp B_l_words
    have O_l_parts := ok_pts (P := Pgm) (w := w) (mg := mg) (base := base) T C_l_next C_l_one C_l_words F_l_parts
    have C_l_parts := cal (base := base) O_l_parts g_l_parts F_l_parts.kp B_l_parts
    have O_l_rows := ok_rws (P := Pgm) (w := w) (mg := mg) (base := base) T C_l_next C_l_one C_l_parts F_l_rows
    have C_l_rows := cal (base := base) O_l_rows g_l_rows F_l_rows.kp B_l_rows
    have O_l_due := ok_due (P := Pgm) (w := w) (mg := mg) (base := base) T C_l_opposite F_l_due
    have C_l_due := cal (base := base) O_l_due g_l_due F_l_due.kp B_l_due
    exact ⟨T, C_l_source_of, C_l_rows, C_flowed, C_l_head, C_l_due⟩
  have bl := fun s v => F_law.bindsA (ps := ["_law_script"]) (fun _ _ _ _ _ _ us hl => match us, hl with | [_], _ => rfl) s [v] rfl
  obtain ⟨oc2, od2, dV2, kV2, doc2, pm2, an2, cdL, ct2, osl2, rfl, lkL, hcL, _, _⟩ := F_law.ex
  have efa : fa = He.ga K "law" := by
    have := hmg.symm.trans g_law
    cases this
    rfl
  subst efa
  exact ⟨K, [], X, (fun p hp => nomatch hp), (fun p hp => nomatch hp), (fun p hp => nomatch hp), fun s a ns hn => law_runs law lkL hcL bl hn⟩
theorem walk_all (q : Program) (loose : List Str) (XP : (Str → Option Value) → Heap → Prop) (d : DefRec) (hn : d.name = ("law" : Str)) (hd : d.params.defaults = []) : PySem.W.WalkO q loose XP hkk.says (PySem.W.OpenLaw.row PySem.Challenge.rw_codewalk_k38_ways_of_jumps).toRowW d [] (fun f vs => PySem.call f vs) := by
  refine walk_run (l := PySem.Challenge.rw_codewalk_k38_ways_of_jumps) (n := 63) rfl (by decide) hd ?_
  intro w mg fa h Y G hmg
  rw [hn] at hmg
  obtain ⟨K, cs, h1, h2, h3, h4, h5⟩ := k38_at Y G hmg
  exact ⟨K, cs, h1, h2, h3, h4, fun s a ns hl _ => h5 s a ns (Nat.le_trans hl (by decide))⟩
end C38

set_option maxHeartbeats 8000000
open PySem PySem.W PySem.Calls PyProof.Rows
theorem PySem.Challenge.cw_codewalk_k38_ways_of_jumps_holds : PySem.Challenge.rw_codewalk_k38_ways_of_jumps.Holds := by
  w_on; o_law
  refine HandSHeadRun.head_any (r := OpenLaw.row PySem.Challenge.rw_codewalk_k38_ways_of_jumps) (q := view (OpenLaw.row PySem.Challenge.rw_codewalk_k38_ways_of_jumps).prog [94]) (H := C38.hkk) (ob := C38.obk) (M := 16000) (loose := C38.loose) (d := HandSHeadRun.topDef (OpenLaw.row PySem.Challenge.rw_codewalk_k38_ways_of_jumps).prog 94) (kwd := []) C38.obk_eq
    (by kernel_rfl) (fun s => by kernel_rfl) C38.runk (by kernel_rfl) (by kernel_rfl) (by kernel_rfl) (by rfl) (by first | assumption | decide +kernel) (by decide +kernel) ⟨rfl, rfl, rfl, rfl, rfl, by decide +kernel⟩ ?hw ?hc
  case hw => w_witness2
  case hc => exact C38.walk_all _ _ _ _ (by kernel_rfl) (by kernel_rfl)
