import PyProof.Rows.All
import Wide.All
import OpenK.AllK
import Wide.FinOn
import HandS.ExcInit
import HandS.ExcField
import HandS.ExcIs
import HandS.Words
import HandS.Head0
import HandS.Head1
import HandS.Head2
import HandS.HeadHook4
import PySem.Challenge.RW_codewalk_k51_equal_codes
import HandS.ForMost
import HandS.Wide
import HandS.Defaults
import HandS.IsInst
import HandS.Style
import HandS.ForExc
import HandS.Zip
import HandS.Rev
import HandS.RevTup
import KE.KBytesIn
import KE.KStrBytes
import HandS.MapJoin
import HandS.Lambda
import HandS.OwnEq
import HandS.DeepEq
import HandS.More
import PyProof.NeData
import HandS.CallLocal
import KE.BitLaws
import PyProof.Rows.BitMore
import HandS.TupAny
import PyProof.Rows.SeqMore
import PyProof.ReprRoads
import HandS.Dict
import HandS.HeadWalk
import HandS.EndTab
set_option Elab.async false
set_option linter.all false
set_option maxRecDepth 100000
set_option maxHeartbeats 4000000
namespace C51
open PySem PySem.Spec PyProof.Rows L2
def ztop (i : Nat) : Stmt := PySem.Challenge.pw_codewalk_k51_equal_codes.main.body.getD i (.Pass ⟨0, 0, 0, 0⟩)
def zinClass (s : Stmt) (j : Nat) : Stmt := match s with
  | .ClassDef _ _ _ body _ _ _ _ _ _ _ => body.getD j (.Pass ⟨0, 0, 0, 0⟩)
  | _ => .Pass ⟨0, 0, 0, 0⟩
def oexB (K : PySem.W.Frag) (C : Addr) : Bool := match K.lookup C with
  | some ⟨.type t, _, .cls cd, sl⟩ => decide (t = "type") && (match cd.mro, sl.toList with
    | .ref D :: bm, [_, _, _, _, some (.builtin n), _] => decide (D = C) && (decide (n = "ValueError.__new__") && (!cd.hasDel && (cd.hasDict && PySem.HandSPX.refsVE bm)))
    | _, _ => false)
  | _ => false
def excB (K : PySem.W.Frag) (D : Addr) : Bool := He.eqO (PySem.W.findIn K (.ref D) "__getattribute__") (some (some (.builtin "BaseException.__getattribute__"))) && (He.eqO (PySem.W.findIn K (.ref D) "__getattr__") (some none) && (decide (PySem.W.subIn K (.ref D) (.type "BaseException") = some true) &&
  (PySem.W.hasDictIn K D && (He.eqO (PySem.W.findIn K (.ref D) "__class__") (some (some (.builtin "object.__class__"))) && (He.eqO (PySem.W.specialIn K (.builtin "object.__class__") "__get__") (some (some (.builtin "getset_descriptor.__get__"))) &&
  (decide (PySem.W.takesIn K (.builtin "object.__class__") = some true) && (decide (PySem.W.mroIn K D (.type "object") = some true) && (decide (PySem.W.typeIn K (.ref D) = some (.type "type")) && (PySem.W.keepIn K (.ref D) && He.eqO (PySem.W.findIn K (.ref D) "__setattr__") (some (some (.builtin "object.__setattr__"))))))))))))
def kisB (K : PySem.W.Frag) (C : Addr) : Bool := He.eqO (PySem.W.findIn K (.ref C) "__class__") (some (some (.builtin "object.__class__"))) && (decide (PySem.W.mroIn K C (.type "object") = some true) && (["NoneType", "int", "bool", "str", "list", "tuple", "dict"] : List String).all fun t => decide (PySem.W.kitOne K (.type t) (.ref C) = some false))
def mkpB (K : PySem.W.Frag) (C : Addr) : Bool := PySem.W.makesIn K C && (He.eqO (PySem.W.findIn K (.ref C) "__init__") (some (some (.builtin "object.__init__"))) && PySem.W.keepIn K (.ref C))
def exN (K : PySem.W.Frag) (n f : Str) : Bool := oexB K (He.ga K n) && (excB K (He.ga K n) && (He.eqO (PySem.W.findIn K (.ref (He.ga K n)) f) (some none) && (decide (PySem.W.typeIn K (.ref (He.ma K (He.ga K n) "__init__")) = some (.type "function")) && He.eqO (PySem.W.findIn K (.ref (He.ga K n)) "__init__") (some (some (.ref (He.ma K (He.ga K n) "__init__")))))))
def exM (K : PySem.W.Frag) : Bool := decide (PySem.W.mroIn K (He.ga K "Mark") (.type "object") = some true) && (He.eqO (PySem.W.findIn K (.ref (He.ga K "Mark")) "__eq__") (some (some (.builtin "object.__eq__"))) && He.eqO (PySem.W.findIn K (.ref (He.ga K "Code")) "__ne__") (some (some (.builtin "object.__ne__"))))
def distB : List Addr → Bool
  | [] => true
  | a :: r => (r.all fun b => !(a == b)) && distB r
def putNames : List Str := ["put_bytes", "put_number", "put_text", "put_constant", "put_code"]
def exT (K : PySem.W.Frag) : Bool := decide (PySem.W.kitOne K (.ref (He.ga K "Code")) (.type "bool") = some false) && (decide (PySem.W.kitOne K (.ref (He.ga K "Code")) (.type "int") = some false) && (decide (PySem.W.kitOne K (.ref (He.ga K "Code")) (.type "tuple") = some false) &&
  (["NoneType", "int", "bool", "str", "list", "tuple", "dict"] : List String).all fun t => decide (PySem.W.subIn K (.type t) (.ref (He.ga K "Code")) = some false)))
def exB (K : PySem.W.Frag) : Bool := kisB K (He.ga K "Known") && (mkpB K (He.ga K "Mark") && (kisB K (He.ga K "Code") && (exN K "NoCode" "field" && (exM K && (decide (PySem.W.kitOne K (.ref (He.ga K "Code")) (.ref (He.ga K "Code")) = some true) && (exT K && distB (putNames.map (He.ga K))))))))
abbrev znumber_of : Stmt := ztop 12
abbrev zbytes_of : Stmt := ztop 13
abbrev zstring_of : Stmt := ztop 14
abbrev zstrings_of : Stmt := ztop 15
abbrev zis_string : Stmt := ztop 16
abbrev zis_constant : Stmt := ztop 18
abbrev zdepth_of : Stmt := ztop 17
abbrev ztold : Stmt := ztop 19
abbrev zsamec : Stmt := ztop 11
abbrev zareq : Stmt := ztop 10
abbrev zCode_init : Stmt := zinClass (ztop 9) 0
abbrev zceq : Stmt := zinClass (ztop 9) 1
abbrev zpalike : Stmt := zinClass (ztop 9) 2
abbrev zNoCode_init : Stmt := zinClass (ztop 2) 0
abbrev zpfour : Stmt := ztop 38
abbrev zpnumber : Stmt := ztop 39
abbrev zpbytes : Stmt := ztop 41
abbrev zptext : Stmt := ztop 40
abbrev zpinteger : Stmt := ztop 37
abbrev zpcode : Stmt := ztop 35
abbrev zpcon : Stmt := ztop 36
abbrev zwritten : Stmt := ztop 34
abbrev zsource_of : Stmt := ztop 43
abbrev znext : Stmt := ztop 44
abbrev zone : Stmt := ztop 45
abbrev zlcode : Stmt := ztop 46
abbrev zfields : Stmt := ztop 47
abbrev ztext : Stmt := ztop 48
abbrev zlbytes : Stmt := ztop 49
abbrev zconst : Stmt := ztop 50
abbrev zdf : Stmt := ztop 51
abbrev zbcon : Stmt := ztop 52
abbrev zbfld : Stmt := ztop 53
abbrev zlaw : Stmt := ztop 54
def d_number_of : He.DefD := ⟨("number_of", none), "number_of", "number_of", defArgs znumber_of, defBody znumber_of, defScope znumber_of, [], []⟩
def d_bytes_of : He.DefD := ⟨("bytes_of", none), "bytes_of", "bytes_of", defArgs zbytes_of, defBody zbytes_of, defScope zbytes_of, [], []⟩
def d_string_of : He.DefD := ⟨("string_of", none), "string_of", "string_of", defArgs zstring_of, defBody zstring_of, defScope zstring_of, [], []⟩
def d_strings_of : He.DefD := ⟨("strings_of", none), "strings_of", "strings_of", defArgs zstrings_of, defBody zstrings_of, defScope zstrings_of, [], []⟩
def d_is_string : He.DefD := ⟨("is_string", none), "is_string", "is_string", defArgs zis_string, defBody zis_string, defScope zis_string, [], []⟩
def d_is_constant : He.DefD := ⟨("is_constant", none), "is_constant", "is_constant", defArgs zis_constant, defBody zis_constant, defScope zis_constant, [], []⟩
def d_depth_of : He.DefD := ⟨("depth_of", none), "depth_of", "depth_of", defArgs zdepth_of, defBody zdepth_of, defScope zdepth_of, [], []⟩
def d_told : He.DefD := ⟨("told_constants", none), "told_constants", "told_constants", defArgs ztold, defBody ztold, defScope ztold, [], []⟩
def d_samec : He.DefD := ⟨("is_same_constant", none), "is_same_constant", "is_same_constant", defArgs zsamec, defBody zsamec, defScope zsamec, [], []⟩
def d_areq : He.DefD := ⟨("are_equal", none), "are_equal", "are_equal", defArgs zareq, defBody zareq, defScope zareq, [], []⟩
def d_Code_init : He.DefD := ⟨("Code", some "__init__"), "__init__", "Code.__init__", defArgs zCode_init, defBody zCode_init, defScope zCode_init, [], []⟩
def d_ceq : He.DefD := ⟨("Code", some "__eq__"), "__eq__", "Code.__eq__", defArgs zceq, defBody zceq, defScope zceq, [], []⟩
def d_palike : He.DefD := ⟨("Code", some "parts_alike"), "parts_alike", "Code.parts_alike", defArgs zpalike, defBody zpalike, defScope zpalike, [], []⟩
def d_NoCode_init : He.DefD := ⟨("NoCode", some "__init__"), "__init__", "NoCode.__init__", defArgs zNoCode_init, defBody zNoCode_init, defScope zNoCode_init, [], []⟩
def d_pfour : He.DefD := ⟨("put_four", none), "put_four", "put_four", defArgs zpfour, defBody zpfour, defScope zpfour, [], []⟩
def d_pnumber : He.DefD := ⟨("put_number", none), "put_number", "put_number", defArgs zpnumber, defBody zpnumber, defScope zpnumber, [], []⟩
def d_pbytes : He.DefD := ⟨("put_bytes", none), "put_bytes", "put_bytes", defArgs zpbytes, defBody zpbytes, defScope zpbytes, [], []⟩
def d_ptext : He.DefD := ⟨("put_text", none), "put_text", "put_text", defArgs zptext, defBody zptext, defScope zptext, [], []⟩
def d_pinteger : He.DefD := ⟨("put_integer", none), "put_integer", "put_integer", defArgs zpinteger, defBody zpinteger, defScope zpinteger, [], []⟩
def d_pcode : He.DefD := ⟨("put_code", none), "put_code", "put_code", defArgs zpcode, defBody zpcode, defScope zpcode, [], []⟩
def d_pcon : He.DefD := ⟨("put_constant", none), "put_constant", "put_constant", defArgs zpcon, defBody zpcon, defScope zpcon, [], []⟩
def d_written : He.DefD := ⟨("written", none), "written", "written", defArgs zwritten, defBody zwritten, defScope zwritten, [], []⟩
def d_source_of : He.DefD := ⟨("_law_source_of", none), "_law_source_of", "_law_source_of", defArgs zsource_of, defBody zsource_of, defScope zsource_of, [], []⟩
def d_next : He.DefD := ⟨("_law_next", none), "_law_next", "_law_next", defArgs znext, defBody znext, defScope znext, [], []⟩
def d_one : He.DefD := ⟨("_law_one", none), "_law_one", "_law_one", defArgs zone, defBody zone, defScope zone, [], []⟩
def d_lcode : He.DefD := ⟨("_law_code", none), "_law_code", "_law_code", defArgs zlcode, defBody zlcode, defScope zlcode, [], []⟩
def d_fields : He.DefD := ⟨("_law_fields", none), "_law_fields", "_law_fields", defArgs zfields, defBody zfields, defScope zfields, [], []⟩
def d_text : He.DefD := ⟨("_law_text", none), "_law_text", "_law_text", defArgs ztext, defBody ztext, defScope ztext, [], []⟩
def d_lbytes : He.DefD := ⟨("_law_bytes", none), "_law_bytes", "_law_bytes", defArgs zlbytes, defBody zlbytes, defScope zlbytes, [], []⟩
def d_const : He.DefD := ⟨("_law_constant", none), "_law_constant", "_law_constant", defArgs zconst, defBody zconst, defScope zconst, [], []⟩
def d_df : He.DefD := ⟨("_law_drawn_fields", none), "_law_drawn_fields", "_law_drawn_fields", defArgs zdf, defBody zdf, defScope zdf, [], []⟩
def d_bcon : He.DefD := ⟨("_law_bent_constant", none), "_law_bent_constant", "_law_bent_constant", defArgs zbcon, defBody zbcon, defScope zbcon, [], []⟩
def d_bfld : He.DefD := ⟨("_law_bent_fields", none), "_law_bent_fields", "_law_bent_fields", defArgs zbfld, defBody zbfld, defScope zbfld, [], []⟩
def d_law : He.DefD := ⟨("law", none), "law", "law", defArgs zlaw, defBody zlaw, defScope zlaw, [], []⟩
def fns : List He.DefD := [d_number_of, d_bytes_of, d_string_of, d_strings_of, d_is_string, d_is_constant, d_depth_of, d_told, d_samec, d_areq, d_Code_init, d_ceq, d_palike, d_NoCode_init, d_pfour, d_pnumber, d_pbytes, d_ptext, d_pinteger, d_pcode, d_pcon, d_written, d_source_of, d_next, d_one, d_lcode, d_fields, d_text, d_lbytes, d_const, d_df, d_bcon, d_bfld, d_law]
def fas : List He.Fa := [.glo "number_of", .glo "bytes_of", .glo "string_of", .glo "strings_of", .glo "is_string", .glo "is_constant", .glo "depth_of", .glo "told_constants", .glo "is_same_constant", .glo "are_equal", .glo "put_four", .glo "put_number", .glo "put_bytes", .glo "put_text", .glo "put_integer", .glo "put_code", .glo "put_constant", .glo "written", .glo "_law_source_of", .glo "_law_next", .glo "_law_one", .glo "_law_code", .glo "_law_fields", .glo "_law_text", .glo "_law_bytes", .glo "_law_constant", .glo "_law_drawn_fields", .glo "_law_bent_constant", .glo "_law_bent_fields", .glo "law", .glo "Code", .glo "Known", .glo "Mark", .glo "NoCode", .free "len", .free "int", .free "range", .free "tuple", .free "list", .free "isinstance", .free "bool", .free "str", .free "max", .free "reversed", .free "repr", .free "min", .free "enumerate", .free "any", .free "zip", .free "sum", .free "sorted", .free "abs", .free "ord", .int "GREATEST" (2147483647), .int "DEEPEST" (100), .int "BARRED" (37), .int "NONE" (78), .int "TRUE" (84), .int "FALSE" (70), .int "SHORT" (105), .int "LONG" (108), .int "TEXT" (117), .int "BYTES" (115), .int "ROW" (40), .int "CODE" (99), .int "LEAST_SHORT" (-2147483648), .int "GREATEST_SHORT" (2147483647), .int "DIGIT" (32767), .str "FILE" "<tree>", .cls "Code", .cls "Known", .mkr "Code", .meth "Code" "parts_alike", .meth "Code" "__eq__", .noat "Code" "argcount", .noat "Code" "onlycount", .noat "Code" "stacksize", .noat "Code" "flags", .noat "Code" "code", .noat "Code" "depth", .noat "Code" "constants", .noat "Code" "names", .noat "Code" "slots", .noat "Code" "kinds", .noat "Code" "name", .noat "Code" "path", .noat "Code" "line", .noat "Code" "lines", .noat "Code" "handlers", .noat "Code" "identity"]
abbrev Rk : PySem.W.OpenRow := PySem.W.OpenLaw.row PySem.Challenge.rw_codewalk_k51_equal_codes
def tfs : List He.Defn := []
/-! ### a head's hook that looks at the objects of the top in their order, one by one -/
def asY (n : Nat) : List Addr := mainGlobals :: List.range' 11 (n - 11)
def obsY (fa : List He.Fa) (fn : List He.DefD) (ts : List He.Tab) (tf : List He.Defn) (ex : PySem.W.Frag → Bool) (g : Addr → Option Obj) (n : Nat) : He.AlX := (He.obsT fa fn ts (He.frT g (asY n)), ex (He.frT g (asY n)) && He.tabsB g tf (He.frT g (asY n)))
theorem saysY_of {as : List Addr} {fa : List He.Fa} {fn : List He.DefD} {ts : List He.Tab} {tf : List He.Defn} {ex : PySem.W.Frag → Bool} {w : World} {h : Heap} (e1 : He.obsT fa fn ts (He.frT h.get? as) = He.valT fn ts w) (e2 : (ex (He.frT h.get? as) && He.tabsB h.get? tf (He.frT h.get? as)) = true) :
    He.SaysX fa fn ts tf ex w h (He.frT h.get? as) := by
  obtain ⟨h1, h2⟩ := He.ba e2
  have key : ∀ p ∈ tf, PySem.W.codeHdIn (He.frT h.get? as) (He.cT (He.frT h.get? as) p).1 (He.cT (He.frT h.get? as) p).2 = true ∧ ∃ o, h.get? (He.cT (He.frT h.get? as) p).2 = some o ∧ He.emptyTab o = true := fun p hp => by
    obtain ⟨h3, h4⟩ := He.ba (List.all_eq_true.mp h2 p hp)
    refine ⟨h3, ?_⟩
    cases q : h.get? (He.cT (He.frT h.get? as) p).2 with
    | none =>
      rw [q] at h4
      cases h4
    | some o =>
      rw [q] at h4
      exact ⟨o, rfl, h4⟩
  exact ⟨e1, h1, fun p hp => (key p hp).1, fun p hp => by
    obtain ⟨_, o, q, z⟩ := key p hp
    exact He.frT_none q z, fun p hp => by
    obtain ⟨_, o, q, z⟩ := key p hp
    rw [q, He.emptyTab_eq z]⟩
def hookY (fa : List He.Fa) (fn : List He.DefD) (ts : List He.Tab) (tf : List He.Defn) (ex : PySem.W.Frag → Bool) : PySem.W.Hook where
  α := He.AlX
  obs := fun s => obsY fa fn ts tf ex s.heap.get? s.heap.objs.size
  val := fun w => He.valX fn ts w
  says := fun w h => ∃ K : PySem.W.Frag, K.In h ∧ He.SaysX fa fn ts tf ex w h K
  of := fun _ _ e => ⟨_, He.frT_in, saysY_of (congrArg (fun z : He.AlX => z.1) e) (congrArg (fun z : He.AlX => z.2) e)⟩
  keeps := fun _ _ _ ⟨K, hK, c⟩ k => ⟨K, PySem.W.Frag.In.keeps hK k, ⟨c.t, c.more, c.hd, c.out, fun p hp => k _ _ (c.empty p hp)⟩⟩
theorem obsY_eq {fa : List He.Fa} {fn : List He.DefD} {ts : List He.Tab} {tf : List He.Defn} {ex : PySem.W.Frag → Bool} {s : PySem.W.SharedT} : obsY fa fn ts tf ex (HandSHeadRun.getT s) s.n = (hookY fa fn ts tf ex).obs s.abs := by
  have e : HandSHeadRun.getT s = s.abs.heap.get? := funext (HandSHeadRun.getT_eq s)
  have z : s.abs.heap.objs.size = s.n := PySem.W.absHeap_size _ _ _
  show obsY fa fn ts tf ex (HandSHeadRun.getT s) s.n = obsY fa fn ts tf ex s.abs.heap.get? s.abs.heap.objs.size
  rw [z, e]

abbrev hkk : PySem.W.Hook := hookY fas fns [] tfs exB
def obk (s : PySem.W.SharedT) : He.AlX := obsY fas fns [] tfs exB (HandSHeadRun.getT s) s.n
theorem obk_eq (s : PySem.W.SharedT) : obk s = hkk.obs s.abs := obsY_eq
def loose : List Str := (["CodeError", "NoCode", "GREATEST", "DEEPEST", "BARRED", "Known", "Mark", "Code", "are_equal", "is_same_constant", "number_of", "bytes_of", "string_of", "strings_of", "is_string", "depth_of", "is_constant", "told_constants", "NONE", "TRUE"] : List Str) ++ (["FALSE", "SHORT", "LONG", "TEXT", "BYTES", "ROW", "CODE", "FILE", "LEAST_SHORT", "GREATEST_SHORT", "DIGIT", "written", "put_code", "put_constant", "put_integer", "put_four", "put_number", "put_text", "put_bytes", "_law_source_of"] : List Str) ++ (["_law_next", "_law_one", "_law_code", "_law_fields", "_law_text", "_law_bytes", "_law_constant", "_law_drawn_fields", "_law_bent_constant", "_law_bent_fields"] : List Str)
theorem runk (w : World) : HandSHeadRun.RunEq Rk (PySem.W.view Rk.prog [54]) hkk obk 6000 loose w := by
  intro os
  kernel_rfl
end C51

set_option maxHeartbeats 1000000
namespace C51
open PySem PySem.Spec PyProof.Rows L2
def top (i : Nat) : Stmt := PySem.Challenge.pw_codewalk_k51_equal_codes.main.body.getD i (.Pass ⟨0, 0, 0, 0⟩)
abbrev FnP (K : PySem.W.Frag) (x q : Str) (st : Stmt) (f : Addr) (fd : FuncData) : Prop := FunD K x q (defArgs st) (defBody st) (defScope st) [] [] f fd
/-- a def of the program as its callers see it -/
structure Cal (P : Program) (w : World) (K : PySem.W.Frag) (mg : Str → Option Value) (base : Heap) (k : Nat) (x : Str) (ps : List Str) (sp : Sp) : Prop where
  ex : ∃ f fd, FnOk P w K mg base CX0 k f fd ps sp ∧ mg x = some (.ref f) ∧ PySem.W.keepIn K (.ref f) = true ∧ Binds K fd ps []
theorem pe_cal {X : Cx} {k : Nat} {x : Str} {ps : List Str} {sp : Sp} {e : Expr} {es : List Expr} {t : TA} {p pos : Pos} (C : Cal X.prog X.w X.K X.mg X.base k x ps sp) (hr : Room k X.A) (hg : Gl X x) (ha : PA X (e :: es) t)
    (hdb : (x == ("__debug__" : Str)) = false := by decide) (he : starEach (e :: es) X.env = (false, eval e X.env) :: starEach es X.env := by rfl) (hpl : (backTo pos (starEach es X.env)).any (·.1) = false := by rfl) :
    PE X (.Call (.Name x p) (e :: es) [] pos) (tCall sp [] E0 t) := by
  obtain ⟨f, fd, F, m, kp, b⟩ := C.ex
  exact pe_call F hr hg m kp b .nil pass0 ha hdb he hpl
theorem pe_gi {X : Cx} {x : Str} {n : Int} {pos : Pos} (h : ∃ t, X.mg x = some (.int n t)) (hg : Gl X x := by rfl) (hdb : (x == ("__debug__" : Str)) = false := by decide) : PE X (.Name x pos) (tC (.int n)) := by
  obtain ⟨t, h⟩ := h
  exact pe_glob hg h ⟨t, rfl⟩ hdb
/-! ### own rules in a form that simp can reckon: each reading names what it finds in the heap by an equation -/
section
variable {X : Cx}
theorem OpR.imp' {g : Value → Value → Sem Value} {r r' : R2} (h : OpR X g r) (i : ∀ x y H Q, r' x y H Q → r x y H Q) : OpR X g r' := fun pins s σ H x y v u Q I rx ry q => h pins s σ H x y v u Q I rx ry (i _ _ _ _ q)
theorem IxR.imp' {r r' : R2} (h : IxR X r) (i : ∀ x y H Q, r' x y H Q → r x y H Q) : IxR X r' := fun e1 e2 pins s σ H x y v u Q I rx ry q => h e1 e2 pins s σ H x y v u Q I rx ry (i _ _ _ _ q)
theorem CallR.imp' {g : Value} {r r' : List V → Hp → VK → Prop} (h : CallR X g r) (i : ∀ xs H Q, r' xs H Q → r xs H Q) : CallR X g r' := fun pins s σ H xs us Q I rx q => h pins s σ H xs us Q I rx (i _ _ _ q)
theorem SlR.imp' {r r' : V → Option Int → Option Int → Hp → VK → Prop} (h : L2.SlR X r) (i : ∀ x a b H Q, r' x a b H Q → r x a b H Q) : L2.SlR X r' := fun pins s σ H x v vl vu lo hi sl Q I rx hs pl pu q => h pins s σ H x v vl vu lo hi sl Q I rx hs pl pu (i _ _ _ _ _ q)
theorem PE.weak {e : Expr} {t t' : TE} (h : PE X e t) (i : ∀ σ H Q, t' σ H Q → t σ H Q) : PE X e t' := ⟨fun pins s σ H Q I q => h.run pins s σ H Q I (i _ _ _ q)⟩
/-- the monotone closure of a reading -/
def mcl (te : TE) : TE := fun σ H Q => ∃ Q0 : VK, te σ H Q0 ∧ ∀ v H', Q0 v H' → Q v H'
theorem PE.mcl {e : Expr} {te : TE} (h : PE X e te) : PE X e (mcl te) := ⟨fun pins s σ H Q I q => by
  obtain ⟨Q0, q0, m⟩ := q
  exact thn (h.run pins s σ H Q0 I q0) fun u s1 ⟨v, H1, I1, r1, q1⟩ => ⟨v, H1, I1, r1, m _ _ q1⟩⟩
theorem pip_of {op : Operator} {r : R2} (h : OpR X (inplaceOp op) r) : PIp X op r := fun pins s σ H x y v u Q I rx ry q => h pins s σ H x y v u Q I rx ry q
/-- what a list or a tuple holds -/
def sq : Option HO → Option (List V)
  | some (.lst xs) => some xs
  | some (.tup xs) => some xs
  | _ => none
@[simp] theorem sq_lst {xs : List V} : sq (some (.lst xs)) = some xs := rfl
@[simp] theorem sq_tup {xs : List V} : sq (some (.tup xs)) = some xs := rfl
theorem sq_cases {o : Option HO} {xs : List V} (h : sq o = some xs) : o = some (.lst xs) ∨ o = some (.tup xs) := by
  unfold sq at h
  split at h
  · exact .inl (by rw [Option.some.inj h])
  · exact .inr (by rw [Option.some.inj h])
  · cases h
def rIxd : R2 := fun x y H Q => ∃ p i xs v, x = .ref p ∧ y = .int i ∧ sq (H p) = some xs ∧ atI xs i = some v ∧ Q v H
theorem ix_d : IxR X rIxd := IxR.imp' (IxR.or (ix_list (X := X)) (ix_tup (X := X))) fun x y H Q ⟨p, i, xs, v, e1, e2, h, ha, q⟩ => by
  rcases sq_cases h with h | h
  · exact .inl ⟨p, xs, i, v, e1, e2, SqL.of h, ha, q⟩
  · exact .inr ⟨p, xs, i, v, e1, e2, SqT.of h, ha, q⟩
def rLend : List V → Hp → VK → Prop := fun vs H Q => ∃ p xs, vs = [.ref p] ∧ sq (H p) = some xs ∧ Q (.int xs.length) H
theorem call_len_d : CallR X (.builtin "len") rLend := CallR.imp' (call_len_seq (X := X)) fun vs H Q ⟨p, xs, e, h, q⟩ => by
  rcases sq_cases h with h | h
  · exact ⟨p, xs, e, .inl (SqL.of h), q⟩
  · exact ⟨p, xs, e, .inr (SqT.of h), q⟩
/-- tuple(list), list(list), list(tuple) -/
def rTupd : List V → Hp → VK → Prop := fun vs H Q => ∃ p xs, vs = [.ref p] ∧ H p = some (.lst xs) ∧ ∀ l, H l = none → Q (.ref l) (upd H l (.tup xs))
theorem call_tuple_d : CallR X (.type "tuple") rTupd := CallR.imp' (call_tuple_of (X := X)) fun vs H Q ⟨p, xs, e, h, q⟩ => ⟨p, xs, e, .inl ⟨SqL.of h, q⟩⟩
def rListd : List V → Hp → VK → Prop := fun vs H Q => ∃ p xs, vs = [.ref p] ∧ sq (H p) = some xs ∧ ∀ l, H l = none → Q (.ref l) (upd H l (.lst xs))
theorem call_list_d : CallR X (.type "list") rListd := CallR.imp' (call_list_of (X := X)) fun vs H Q ⟨p, xs, e, h, q⟩ => by
  rcases sq_cases h with h | h
  · exact ⟨p, xs, e, .inl (SqL.of h), q⟩
  · exact ⟨p, xs, e, .inr (SqT.of h), q⟩
def rSld : V → Option Int → Option Int → Hp → VK → Prop := fun x lo hi H Q => ∃ a xs, x = .ref a ∧ H a = some (.lst xs) ∧ ∀ p, H p = none → Q (.ref p) (upd H p (.lst (cutV xs lo hi)))
theorem sl_d : L2.SlR X rSld := SlR.imp' (sl_list (X := X)) fun x lo hi H Q ⟨a, xs, e, h, q⟩ => ⟨a, xs, e, SqL.of h, q⟩
def tRevD (te : TE) : TE := fun σ H Q => te σ H fun x H1 => ∃ a xs, x = .ref a ∧ H1 a = some (.lst xs) ∧ ∀ p, H1 p = none → Q (.ref p) (upd H1 p (.lst xs.reverse))
theorem pe_revD {e : Expr} {te : TE} {k : Nat} {p1 p2 p3 pos : Pos} (he : PE X e te) : PE X (.Subscript e (.Slice none none (some (.UnaryOp .USub (.Constant (.int 1) k p1) p2)) p3) pos) (tRevD te) :=
  PE.weak (pe_revL (PE.mcl he)) fun σ H Q q => ⟨_, q, fun v H' ⟨a, xs, e, h, k⟩ => ⟨a, xs, e, SqL.of h, k⟩⟩
theorem PG.weak {tg : Expr} {t t' : TG} (h : PG X tg t) (i : ∀ v σ H Q, t' v σ H Q → t v σ H Q) : PG X tg t' := ⟨fun pins s σ H v u Q I r q => h.run pins s σ H v u Q I r (i _ _ _ _ q)⟩
/-- a, b, .. = a tuple that stands in the heap -/
def gTupD (n : Nat) (t : TGs) : TG := fun v σ H Q => ∃ a xs, v = .ref a ∧ H a = some (.tup xs) ∧ xs.length = n ∧ t xs σ H Q
theorem pg_tupD {es : List Expr} {k : Nat} {t : TGs} {n : Nat} {pos : Pos} (hc : X.calm = true) (h : PGs X es t)
    (hn : (assignEach es X.env).length = n := by rfl) (hst : (assignEach es X.env).findIdx? (·.1) = none := by rfl) : PG X (.Tuple es k pos) (gTupD n t) :=
  PG.weak (pg_tup hc h hn hst) fun v σ H Q ⟨a, xs, e, h, l, q⟩ => ⟨a, xs, e, SqT.of h, l, q⟩
def isLst : Option HO → Bool
  | some (.lst _) => true
  | _ => false
@[simp] theorem isLst_lst {xs : List V} : isLst (some (.lst xs)) = true := rfl
theorem tyV_lst {K : PySem.W.Frag} {H : Hp} {a : Addr} (h : isLst (H a) = true) : tyV K "list" (.ref a) H = True := by
  refine eq_true ?_
  cases e : H a with
  | none =>
    rw [e] at h
    cases h
  | some o =>
    rw [e] at h
    cases o with
    | lst xs => exact .inl ⟨rfl, xs, SqL.of e⟩
    | _ => cases h
end
/-! ### statements and expressions, one step each -/
section
variable {X : Cx} {σ : L2.St} {H : Hp} {Q : VK} {D : Ends} {QT : Bool → Hp → Prop} {QA : List V → Hp → Prop} {QO : Option Int → Hp → Prop}
theorem r_seq {t u : TS} : tSeq t u D σ H = t { D with nx := u D } σ H := rfl
theorem r_next : tNext D σ H = D.nx σ H := rfl
theorem r_brk : tBreak D σ H = D.bk σ H := rfl
theorem r_cont : tCont D σ H = D.ct σ H := rfl
theorem r_asg {te : TE} {g : TG} : tAsg te g D σ H = te σ H (fun x H1 => g x σ H1 D.nx) := rfl
theorem r_name {i : Nat} {v : V} {Q : L2.St → Hp → Prop} : gName i v σ H Q = Q (σ.set i (some v)) H := rfl
theorem r_ret {te : TE} : tRet te D σ H = te σ H D.rt := rfl
theorem r_retN : tRetN D σ H = D.rt .non H := rfl
theorem r_drop {te : TE} : tDrop te D σ H = te σ H (fun _ H1 => D.nx σ H1) := rfl
theorem r_ifs {c : TT} {t u : TS} : tIfS c t u D σ H = c σ H (fun b H1 => if b = true then t D σ H1 else u D σ H1) := rfl
theorem r_never : tNever D σ H = False := rfl
theorem r_var {i : Nat} : tVar i σ H Q = ∃ v, σ[i]? = some (some v) ∧ Q v H := rfl
theorem r_c {v : V} : tC v σ H Q = Q v H := rfl
theorem r_op {r : R2} {ta tb : TE} : tOp r ta tb σ H Q = ta σ H (fun x H1 => tb σ H1 fun y H2 => r x y H2 Q) := rfl
theorem r_un {r : V → Hp → VK → Prop} {ta : TE} : tUn r ta σ H Q = ta σ H (fun x H1 => r x H1 Q) := rfl
theorem r_if {c : TT} {ta tb : TE} : tIf c ta tb σ H Q = c σ H (fun b H1 => if b = true then ta σ H1 Q else tb σ H1 Q) := rfl
theorem r_tst {t : TE} : tTest t σ H QT = t σ H (fun x H' => ∃ k, x = .bl k ∧ QT k H') := rfl
theorem r_b {t : TE} : tB t σ H QT = t σ H (fun x H' => ∃ k, x = .bl k ∧ QT k H') := rfl
theorem r_not {t : TT} : tNot t σ H QT = t σ H (fun c H1 => QT (!c) H1) := rfl
theorem r_and {t u : TT} : tAnd t u σ H QT = t σ H (fun c H1 => if c = true then u σ H1 QT else QT false H1) := rfl
theorem r_or {t u : TT} : tOr t u σ H QT = t σ H (fun c H1 => if c = true then QT true H1 else u σ H1 QT) := rfl
theorem r_andV {ta tb : TE} : tAndV ta tb σ H Q = ta σ H (fun x H1 => ∃ c, x = .bl c ∧ if c = true then tb σ H1 Q else Q (.bl false) H1) := rfl
theorem r_orV {ta tb : TE} : tOrV ta tb σ H Q = ta σ H (fun x H1 => ∃ c, x = .bl c ∧ if c = true then Q (.bl true) H1 else tb σ H1 Q) := rfl
theorem r_notV {ta : TE} : tNotV ta σ H Q = ta σ H (fun x H1 => ∃ c, x = .bl c ∧ Q (.bl (!c)) H1) := rfl
theorem r_nil : tNil σ H QA = QA [] H := rfl
theorem r_cons {ta : TE} {tr : TA} : tCons ta tr σ H QA = ta σ H (fun x H1 => tr σ H1 fun xs H2 => QA (x :: xs) H2) := rfl
theorem r_tup {t : TA} : tTup t σ H Q = t σ H (fun xs H1 => xs.length ≤ sizeLine ∧ ∀ p, H1 p = none → Q (.ref p) (upd H1 p (.tup xs))) := (rfl)
theorem r_lst {t : TA} : tLst t σ H Q = t σ H (fun xs H1 => xs.length ≤ sizeLine ∧ ∀ p, H1 p = none → Q (.ref p) (upd H1 p (.lst xs))) := (rfl)
theorem r_cb {r : List V → Hp → VK → Prop} {t : TA} : tCB r t σ H Q = t σ H (fun vs H1 => r vs H1 Q) := rfl
theorem r_call {sp : Sp} {dvs : List V} {E : XK} {t : TA} : tCall sp dvs E t σ H Q = t σ H (fun vs H1 => sp (vs ++ dvs) H1 Q E) := rfl
theorem r_bm {K : PySem.W.Frag} {T : String} {r : V → List V → Hp → VK → Prop} {to : TE} {t : TA} : tBM K T r to t σ H Q = to σ H (fun x H1 => tyV K T x H1 ∧ t σ H1 fun xs H2 => r x xs H2 Q) := rfl
theorem r_bm0 {K : PySem.W.Frag} {T : String} {r : V → List V → Hp → VK → Prop} {to : TE} : tBM0 K T r to σ H Q = to σ H (fun x H1 => tyV K T x H1 ∧ r x [] H1 Q) := rfl
theorem r_sl {r : V → Option Int → Option Int → Hp → VK → Prop} {te : TE} {tl th : TO} : L2.tSl r te tl th σ H Q = te σ H (fun x H1 => tl σ H1 fun l H2 => th σ H2 fun u H3 => r x l u H3 Q) := rfl
theorem r_nopart : tNoPart σ H QO = QO none H := rfl
theorem r_part {te : TE} : tPart te σ H QO = te σ H (fun x H1 => ∃ i, x = .int i ∧ QO (some i) H1) := rfl
theorem r_rev {te : TE} : tRevD te σ H Q = te σ H (fun x H1 => ∃ a xs, x = .ref a ∧ H1 a = some (.lst xs) ∧ ∀ p, H1 p = none → Q (.ref p) (upd H1 p (.lst xs.reverse))) := rfl
theorem r_gtup {K : PySem.W.Frag} {n : Nat} {t : TGs} {v : V} {Q : L2.St → Hp → Prop} : gTup K n t v σ H Q = ∃ a xs, v = .ref a ∧ SqT K H a xs ∧ xs.length = n ∧ t xs σ H Q := rfl
theorem r_gtupD {n : Nat} {t : TGs} {v : V} {Q : L2.St → Hp → Prop} : gTupD n t v σ H Q = ∃ a xs, v = .ref a ∧ H a = some (.tup xs) ∧ xs.length = n ∧ t xs σ H Q := rfl
theorem r_gnil {vs : List V} {Q : L2.St → Hp → Prop} : gNil vs σ H Q = (vs = [] ∧ Q σ H) := rfl
theorem r_gcons {t : TG} {u : TGs} {vs : List V} {Q : L2.St → Hp → Prop} : gCons t u vs σ H Q = ∃ v r, vs = v :: r ∧ t v σ H (fun σ' H' => u r σ' H' Q) := rfl
theorem r_gsub {to ti : TE} {t : TSet} {v : V} {Q : L2.St → Hp → Prop} : gSub to ti t v σ H Q = to σ H (fun o H1 => ti σ H1 fun i H2 => t o i v H2 fun H3 => Q σ H3) := rfl
theorem r_par {i j : Nat} {ta : TA} : tPar i j ta D σ H = ta σ H (fun vs H1 => ∃ v w, vs = [v, w] ∧ D.nx ((σ.set i (some v)).set j (some w)) H1) := rfl
theorem r_aug {i : Nat} {te : TE} {ti : TIp} : tAug i te ti D σ H = ∃ x, σ[i]? = some (some x) ∧ te σ H (fun y H1 => ti x y H1 fun z H2 => D.nx (σ.set i (some z)) H2) := rfl
theorem r_chain {r r' : R2} {ta tb tc : TE} : tChain r r' ta tb tc σ H Q = ta σ H (fun x H1 => tb σ H1 fun y H2 => r x y H2 fun z H3 => ∃ k, z = .bl k ∧ (if k = true then tc σ H3 fun w' H4 => r' y w' H4 Q else Q (.bl false) H3)) := rfl
theorem r_I0 {g : Int → Int → V} {x y : V} : rI0 g x y H Q = ∃ i j, x = .int i ∧ y = .int j ∧ Q (g i j) H := rfl
theorem r_I {C : Int → Int → Prop} {g : Int → Int → V} {x y : V} : rI C g x y H Q = ∃ i j, x = .int i ∧ y = .int j ∧ C i j ∧ Q (g i j) H := rfl
theorem r_ipI {f : Int → Int → Int} {x y : V} : ipI f x y H Q = ∃ i j, x = .int i ∧ y = .int j ∧ Q (.int (f i j)) H := rfl
theorem r_U {g : Int → V} {x : V} : rU g x H Q = ∃ i, x = .int i ∧ Q (g i) H := rfl
theorem r_ixd {x y : V} : rIxd x y H Q = ∃ p i xs v, x = .ref p ∧ y = .int i ∧ sq (H p) = some xs ∧ atI xs i = some v ∧ Q v H := rfl
theorem r_lend {vs : List V} : rLend vs H Q = ∃ p xs, vs = [.ref p] ∧ sq (H p) = some xs ∧ Q (.int xs.length) H := rfl
theorem r_tupd {vs : List V} : rTupd vs H Q = ∃ p xs, vs = [.ref p] ∧ H p = some (.lst xs) ∧ ∀ l, H l = none → Q (.ref l) (upd H l (.tup xs)) := rfl
theorem r_listd {vs : List V} : rListd vs H Q = ∃ p xs, vs = [.ref p] ∧ sq (H p) = some xs ∧ ∀ l, H l = none → Q (.ref l) (upd H l (.lst xs)) := rfl
theorem r_sld {x : V} {lo hi : Option Int} : rSld x lo hi H Q = ∃ a xs, x = .ref a ∧ H a = some (.lst xs) ∧ ∀ p, H p = none → Q (.ref p) (upd H p (.lst (cutV xs lo hi))) := rfl
theorem r_app {x : V} {vs : List V} : rAppend x vs H Q = ∃ l xs y, x = .ref l ∧ vs = [y] ∧ H l = some (.lst xs) ∧ xs.length < sizeLine ∧ Q .non (upd H l (.lst (xs ++ [y]))) := rfl
theorem r_ext {x : V} {vs : List V} : rExtend x vs H Q = ∃ l b xs zs, x = .ref l ∧ vs = [.ref b] ∧ H l = some (.lst xs) ∧ H b = some (.lst zs) ∧ xs.length + zs.length ≤ sizeLine ∧ Q .non (upd H l (.lst (xs ++ zs))) := rfl
theorem r_reverse {x : V} {vs : List V} : rReverse x vs H Q = ∃ l xs, x = .ref l ∧ vs = [] ∧ H l = some (.lst xs) ∧ Q .non (upd H l (.lst xs.reverse)) := rfl
theorem r_setl {o i v : V} {Q : Hp → Prop} : rSetL o i v H Q = ∃ p xs k j, o = .ref p ∧ i = .int k ∧ H p = some (.lst xs) ∧ ixN xs.length k = some j ∧ Q (upd H p (.lst (xs.set j v))) := rfl
theorem r_cat {x y : V} : rCat x y H Q = ∃ l b xs zs, x = .ref l ∧ y = .ref b ∧ H l = some (.lst xs) ∧ H b = some (.lst zs) ∧ xs.length + zs.length ≤ sizeLine ∧ ∀ p, H p = none → Q (.ref p) (upd H p (.lst (xs ++ zs))) := rfl
theorem r_int1 {xs : List V} : (fun xs H Q => (∃ i, xs = [V.int i] ∧ Q (V.int i) H) ∨ ∃ k, xs = [V.bl k] ∧ Q (V.int (if k = true then 1 else 0)) H : List V → Hp → VK → Prop) xs H Q = ((∃ i, xs = [V.int i] ∧ Q (V.int i) H) ∨ ∃ k, xs = [V.bl k] ∧ Q (V.int (if k = true then 1 else 0)) H) := rfl
theorem r_eqS {x y : V} : rEq x y H Q = (scal x y = true ∧ Q (.bl (decide (x = y))) H) := rfl
theorem r_neS {x y : V} : rNe x y H Q = (scal x y = true ∧ Q (.bl (!decide (x = y))) H) := rfl
theorem scal_ii {i j : Int} : scal (.int i) (.int j) = true := rfl
theorem scal_bb {i j : Bool} : scal (.bl i) (.bl j) = true := rfl
theorem scal_ss {i j : Str} : scal (.str i) (.str j) = true := rfl
theorem at0 {x : V} {xs : List V} : atI (x :: xs) 0 = some x := by
  unfold atI ixN
  rw [if_pos (by decide), if_pos (by simp)]
  rfl
theorem at1 {x y : V} {xs : List V} : atI (x :: y :: xs) 1 = some y := by
  unfold atI ixN
  rw [if_pos (by decide), if_pos (by rw [List.length_cons, List.length_cons]; omega)]
  rfl
theorem at2 {x y z : V} {xs : List V} : atI (x :: y :: z :: xs) 2 = some z := by
  unfold atI ixN
  rw [if_pos (by decide), if_pos (by rw [List.length_cons, List.length_cons, List.length_cons]; omega)]
  rfl
theorem atn {xs : List V} {i : Nat} {v : V} (h : xs[i]? = some v) : atI xs (i : Int) = some v := by
  have hi : i < xs.length := (List.getElem?_eq_some_iff.mp h).1
  unfold atI ixN
  rw [if_pos (Int.natCast_nonneg i), if_pos (by omega)]
  simpa using h
theorem ixn {n i : Nat} (h : i < n) : ixN n (i : Int) = some i := by
  unfold ixN
  rw [if_pos (Int.natCast_nonneg i), if_pos (by omega)]
  simp
theorem ix0 {n : Nat} : ixN (n + 1) 0 = some 0 := by
  unfold ixN
  rw [if_pos (by decide), if_pos (by omega)]
  rfl
theorem ix1 {n : Nat} : ixN (n + 1 + 1) 1 = some 1 := by
  unfold ixN
  rw [if_pos (by decide), if_pos (by omega)]
  rfl
theorem ix2 {n : Nat} : ixN (n + 1 + 1 + 1) 2 = some 2 := by
  unfold ixN
  rw [if_pos (by decide), if_pos (by omega)]
  rfl
theorem cm_l {i j : Int} (h : -(2 ^ 64) < i ∧ i < 2 ^ 64) : CMul i j = True := eq_true (.inl h)
theorem cm_r {i j : Int} (h : -(2 ^ 64) < j ∧ j < 2 ^ 64) : CMul i j = True := eq_true (.inr h)
theorem cm_mod {t j : Int} : CMul (t % 2147483647) j = True := eq_true (.inl ⟨by omega, by omega⟩)
theorem cdw {i j : Int} (h : 0 < j ∧ j < 2 ^ 200) : CDivW i j = True := eq_true (wide_div (b := 200) h.1 (by omega) (by decide) (by decide))
theorem cdw1009 {i : Int} : CDivW i 1009 = True := cdw (by decide)
theorem cdw2003 {i : Int} : CDivW i 2003 = True := cdw (by decide)
theorem cdw7 {i : Int} : CDivW i 7 = True := cdw (by decide)
theorem cdw64 {i : Int} : CDivW i 64 = True := cdw (by decide)
theorem cdw2 {i : Int} : CDivW i 2 = True := cdw (by decide)
theorem cm104729 {i : Int} : CMul 104729 i = True := cm_l (by decide)
theorem cm2 {i : Int} : CMul 2 i = True := cm_l (by decide)
theorem cm3 {i : Int} : CMul 3 i = True := cm_l (by decide)
theorem sz_lit {xs : List V} (h : xs.length ≤ 1000) : (xs.length ≤ sizeLine) = True := eq_true (Nat.le_trans h (by decide))
/-- while by a word of the slots and the heap, a test whose answer is known -/
theorem while_d {c : TT} {tb : TS} (Pv : L2.St → Hp → Prop) (m : L2.St → Hp → Nat) (h0 : Pv σ H)
    (hs : ∀ σ H, Pv σ H → ∃ b, (∀ Q : Bool → Hp → Prop, Q b H → c σ H Q) ∧ (b = true → tb { D with nx := fun σ' H' => Pv σ' H' ∧ m σ' H' < m σ H, ct := fun σ' H' => Pv σ' H' ∧ m σ' H' < m σ H, bk := D.nx } σ H) ∧ (b = false → D.nx σ H)) : tWhile c tb D σ H := by
  refine ⟨fun k σ H => k = m σ H ∧ Pv σ H, ⟨_, rfl, h0⟩, ?_⟩
  rintro k σ H ⟨rfl, p⟩
  obtain ⟨b, hc, h1, h2⟩ := hs σ H p
  refine hc _ ?_
  cases b with
  | true => exact ⟨_, fun σ' H' ⟨p', l⟩ => ⟨_, l, rfl, p'⟩, h1 rfl⟩
  | false => exact h2 rfl
end
/-! ### heaps -/
theorem upd_at {H : Hp} {a b : Addr} {o : HO} : L2.upd H a o b = if b = a then some o else H b := rfl
theorem une {a b : Addr} (h : b ≠ a) : ∀ (H : Hp) (o : HO), L2.upd H a o b = H b := fun H o => upd_ne h
theorem ne_new {H : Hp} {a p : Addr} {o : HO} (h : H a = some o) (hp : H p = none) : a ≠ p := ne_of_none h hp
theorem new_ne {H : Hp} {a p : Addr} {o : HO} (h : H a = some o) (hp : H p = none) : p ≠ a := (ne_of_none h hp).symm
theorem Same.new' {H H1 : Hp} {p : Addr} {o : HO} (h : Same H H1) (hp : H1 p = none) : Same H (L2.upd H1 p o) := fun b u e => by
  have e1 := h b u e
  rw [upd_ne (ne_of_none e1 hp)]
  exact e1
/-! ### loops -/
/-- what a loop over J asks -/
def LoopR (J : It) (g : TG) (tb : TS) (D : Ends) (σ : L2.St) (H1 : Hp) : Prop := ∃ W : Nat → Nat → L2.St → Hp → Prop, (∃ m, W 0 m σ H1) ∧ ∀ i m σ H, W i m σ H →
  (J.stop i H ∧ D.nx σ H) ∨ (J.go i H ∧ ∃ N : L2.St → Hp → Prop, (∀ σ' H', N σ' H' → ∃ m', m' < m ∧ W (i + 1) m' σ' H') ∧ ∀ x H', J.yld i H x H' → g x σ H' fun σ2 H2 => tb { D with nx := N, ct := N, bk := D.nx } σ2 H2)
section
variable {K : PySem.W.Frag} {σ : L2.St} {H : Hp} {D : Ends} {g : TG} {tb : TS}
theorem r_for1 {ta : TA} : tFor (iRng1 ta) g tb D σ H = ta σ H (fun vs H1 => ∃ j : Int, vs = [.int j] ∧ -(2 ^ 62) ≤ j ∧ j < 2 ^ 62 ∧ LoopR (Itr 0 j.toNat) g tb D σ H1) := rfl
theorem r_forL {tl : TE} : tFor (iList K tl) g tb D σ H = tl σ H (fun x H1 => ∃ a, x = .ref a ∧ (∃ xs, SqL K H1 a xs) ∧ LoopR (Itl K a) g tb D σ H1) := rfl
theorem r_forT {tl : TE} : tFor (iTup K tl) g tb D σ H = tl σ H (fun x H1 => ∃ a, x = .ref a ∧ (∃ xs, SqT K H1 a xs) ∧ LoopR (Itt K a) g tb D σ H1) := rfl
theorem lp_rng {n : Nat} (Pv : Nat → L2.St → Hp → Prop) (h0 : Pv 0 σ H)
    (hs : ∀ (i : Nat) σ H, i < n → Pv i σ H → g (.int (i : Int)) σ H fun σ2 H2 => tb { D with nx := Pv (i + 1), ct := Pv (i + 1), bk := D.nx } σ2 H2) (hd : ∀ σ H, Pv n σ H → D.nx σ H) : LoopR (Itr 0 n) g tb D σ H :=
  for_range Pv h0 (fun i σ H hi p => by
    have q := hs i σ H hi p
    rw [Int.zero_add]
    exact q) hd
theorem lp_list {a : Addr} {xs : List V} (Pv : Nat → L2.St → Hp → Prop) (h0 : Pv 0 σ H) (hl : ∀ i σ H, i ≤ xs.length → Pv i σ H → SqL K H a xs)
    (hs : ∀ i x σ H, xs[i]? = some x → Pv i σ H → g x σ H fun σ2 H2 => tb { D with nx := Pv (i + 1), ct := Pv (i + 1), bk := D.nx } σ2 H2) (hd : ∀ σ H, Pv xs.length σ H → D.nx σ H) : LoopR (Itl K a) g tb D σ H := for_list Pv h0 hl hs hd
theorem lp_tup {a : Addr} {xs : List V} (Pv : Nat → L2.St → Hp → Prop) (h0 : Pv 0 σ H) (hl : ∀ i σ H, i ≤ xs.length → Pv i σ H → SqT K H a xs)
    (hs : ∀ i x σ H, xs[i]? = some x → Pv i σ H → g x σ H fun σ2 H2 => tb { D with nx := Pv (i + 1), ct := Pv (i + 1), bk := D.nx } σ2 H2) (hd : ∀ σ H, Pv xs.length σ H → D.nx σ H) : LoopR (Itt K a) g tb D σ H := for_tup Pv h0 hl hs hd
/-- an empty list, an empty tuple -/
theorem lp_nil {a : Addr} (hl : SqL K H a []) (hd : D.nx σ H) : LoopR (Itl K a) g tb D σ H := for_list (xs := []) (fun i s h => s = σ ∧ h = H) ⟨rfl, rfl⟩ (fun i s h _ ⟨_, e⟩ => by rw [e]; exact hl) (fun i x s h e => by cases e) fun s h ⟨e1, e2⟩ => by rw [e1, e2]; exact hd
theorem lp_nilT {a : Addr} (hl : SqT K H a []) (hd : D.nx σ H) : LoopR (Itt K a) g tb D σ H := for_tup (xs := []) (fun i s h => s = σ ∧ h = H) ⟨rfl, rfl⟩ (fun i s h _ ⟨_, e⟩ => by rw [e]; exact hl) (fun i x s h e => by cases e) fun s h ⟨e1, e2⟩ => by rw [e1, e2]; exact hd
/-- a list comprehension over J: what is kept from turn to turn -/
def CompR (J : It) (g : TG) (tt : TT) (te : TE) (vs : List Nat) (σ : L2.St) (Q : VK) (D : Addr) (H0 : Hp) : Prop := ∃ W : Nat → Nat → Hp → Prop, (∃ m, W 0 m H0) ∧ ∀ i m H, W i m H →
  (J.stop i H ∧ Q (.ref D) H) ∨ (J.go i H ∧ ∃ Nx : Hp → Prop, (∀ H', Nx H' → ∃ m', m' < m ∧ W (i + 1) m' H') ∧ ∀ x H', J.yld i H x H' → g x (wipe σ vs) H' fun σ2 H2 => wipe σ2 vs = wipe σ vs ∧ tt σ2 H2 fun b H3 =>
    if b = true then te σ2 H3 fun y H4 => ∃ acc, H4 D = some (.lst acc) ∧ acc.length < sizeLine ∧ Nx (upd H4 D (.lst (acc ++ [y]))) else Nx H3)
theorem r_lcL {tl : TE} {tt : TT} {te : TE} {vs : List Nat} {Q : VK} : tLc (iList K tl) g tt te vs σ H Q = tl σ H (fun x H1 => ∃ a, x = .ref a ∧ (∃ xs, SqL K H1 a xs) ∧ ∀ D, H1 D = none → CompR (Itl K a) g tt te vs σ Q D (upd H1 D (.lst []))) := rfl
theorem r_lc1 {ta : TA} {tt : TT} {te : TE} {vs : List Nat} {Q : VK} : tLc (iRng1 ta) g tt te vs σ H Q = ta σ H (fun us H1 => ∃ j : Int, us = [.int j] ∧ -(2 ^ 62) ≤ j ∧ j < 2 ^ 62 ∧ ∀ D, H1 D = none → CompR (Itr 0 j.toNat) g tt te vs σ Q D (upd H1 D (.lst []))) := rfl
theorem cp_list {a : Addr} {xs : List V} {tt : TT} {te : TE} {vs : List Nat} {A : Addr} {H1 : Hp} {Q : VK} (Pv : Nat → Hp → Prop) (h0 : Pv 0 (upd H1 A (.lst []))) (hl : ∀ i H, i ≤ xs.length → Pv i H → SqL K H a xs)
    (hs : ∀ i x H, xs[i]? = some x → Pv i H → g x (wipe σ vs) H fun σ2 H2 => wipe σ2 vs = wipe σ vs ∧ tt σ2 H2 fun b H3 =>
      if b = true then te σ2 H3 fun y H4 => ∃ acc, H4 A = some (.lst acc) ∧ acc.length < sizeLine ∧ Pv (i + 1) (upd H4 A (.lst (acc ++ [y]))) else Pv (i + 1) H3) (hd : ∀ H, Pv xs.length H → Q (.ref A) H) :
    CompR (Itl K a) g tt te vs σ Q A (upd H1 A (.lst [])) := lc_list Pv h0 hl hs hd
theorem r_yes {QT : Bool → Hp → Prop} : tYes σ H QT = QT true H := rfl
end
theorem wipe_0 {σ : L2.St} : wipe σ [] = σ := rfl
theorem wipe_1 {σ : L2.St} {v : Nat} {vs : List Nat} : wipe σ (v :: vs) = (wipe σ vs).set v none := rfl
theorem cut_init (xs : List V) (x : V) : cutV (xs ++ [x]) none (some (-1)) = xs := by
  have e : HT.sIx (xs ++ [x]).length (xs ++ [x]).length (some (-1)) = xs.length := by
    simp [HT.sIx]
    omega
  unfold cutV
  rw [e, HT.sIx_none, List.drop_zero, Nat.sub_zero, List.take_left']
  rfl
theorem cut_last (xs : List V) (x : V) : cutV (xs ++ [x]) (some (-1)) none = [x] := by
  have e : HT.sIx (xs ++ [x]).length 0 (some (-1)) = xs.length := by
    simp [HT.sIx]
    omega
  unfold cutV
  rw [e, HT.sIx_none, List.drop_left', List.take_of_length_le]
  · rw [List.length_append]
    simp
  · rfl
theorem tyl {K : PySem.W.Frag} {H : Hp} {a : Addr} {xs : List V} (h : H a = some (.lst xs)) : tyV K "list" (.ref a) H := of_eq_true (tyV_lst (by rw [h]; rfl))
theorem szl {n : Nat} (h : n ≤ 1000) : n ≤ sizeLine := Nat.le_trans h (by decide)
theorem szlt {n : Nat} (h : n ≤ 1000) : n < sizeLine := Nat.lt_of_le_of_lt h (by decide)
/-- a loop over a written tuple, turn by turn -/
def UnrT (T : Addr) (all : List V) (g : TG) (tb : TS) (D : Ends) : List V → L2.St → Hp → Prop
  | [], σ, H => D.nx σ H
  | x :: xs, σ, H => g x σ H fun σ2 H2 => tb { D with nx := fun σ' H' => H' T = some (.tup all) ∧ UnrT T all g tb D xs σ' H', ct := fun σ' H' => H' T = some (.tup all) ∧ UnrT T all g tb D xs σ' H', bk := D.nx } σ2 H2
theorem unr_nil {T : Addr} {all : List V} {g : TG} {tb : TS} {D : Ends} {σ : L2.St} {H : Hp} : UnrT T all g tb D [] σ H = D.nx σ H := rfl
theorem unr_cons {T : Addr} {all : List V} {g : TG} {tb : TS} {D : Ends} {x : V} {xs : List V} {σ : L2.St} {H : Hp} : UnrT T all g tb D (x :: xs) σ H = g x σ H fun σ2 H2 => tb { D with nx := fun σ' H' => H' T = some (.tup all) ∧ UnrT T all g tb D xs σ' H', ct := fun σ' H' => H' T = some (.tup all) ∧ UnrT T all g tb D xs σ' H', bk := D.nx } σ2 H2 := rfl
theorem lp_unrT {K : PySem.W.Frag} {T : Addr} {all : List V} {g : TG} {tb : TS} {D : Ends} {σ : L2.St} {H : Hp} (h : H T = some (.tup all)) (u : UnrT T all g tb D all σ H) : LoopR (Itt K T) g tb D σ H := by
  refine lp_tup (xs := all) (fun i σ' H' => H' T = some (.tup all) ∧ UnrT T all g tb D (all.drop i) σ' H') ⟨h, u⟩ (fun i s h' _ q => SqT.of q.1) (fun i x s h' e q => ?_) fun s h' q => ?_
  · have e1 : all.drop i = x :: all.drop (i + 1) := by
      obtain ⟨hi, e2⟩ := List.getElem?_eq_some_iff.mp e
      rw [List.drop_eq_getElem_cons hi, e2]
    obtain ⟨_, q2⟩ := q
    rw [e1] at q2
    exact q2
  · obtain ⟨_, q2⟩ := q
    rw [List.drop_length] at q2
    exact q2
theorem Paired.snoc' {α β : Type} {F : α → β → Prop} : ∀ {l1 : List α} {l2 : List β} {a : α} {b : β}, Paired F l1 l2 → F a b → Paired F (l1 ++ [a]) (l2 ++ [b])
  | _, _, _, _, .nil, h => .cons h .nil
  | _, _, _, _, .cons r t, h => .cons r (Paired.snoc' t h)
theorem Paired.map' {α β : Type} {F G : α → β → Prop} {l1 : List α} {l2 : List β} (p : Paired F l1 l2) (h : ∀ a b, F a b → G a b) : Paired G l1 l2 := Paired.mapP p h
theorem cut_tail (x : V) (xs : List V) : cutV (x :: xs) (some 1) none = xs := by
  have e : HT.sIx (x :: xs).length 0 (some 1) = 1 := by
    simp [HT.sIx]
  unfold cutV
  rw [e, HT.sIx_none]
  simp
/-- for x in a name that holds a list or a tuple -/
def iSeqV (K : PySem.W.Frag) (i : Nat) : TI := fun σ H R => ∃ a, σ[i]? = some (some (.ref a)) ∧ (((∃ xs, H a = some (.lst xs)) ∧ R (Itl K a) H) ∨ ((∃ xs, H a = some (.tup xs)) ∧ R (Itt K a) H))
theorem pi_seqV {X : Cx} (i : Nat) {x : Str} {tg : Expr} {pos : Pos} (hN : X.N[i]? = some x := by rfl) (hv : Vis X.env.scope x := by first | exact Or.inl rfl | exact Or.inr (Or.inl rfl) | exact Or.inr (Or.inr rfl)) (hd : (x == ("__debug__" : Str)) = false := by decide)
    (hcd : (x == ("__classdict__" : Str)) = false := by decide) : PI X tg (.Name x pos) (iSeqV X.K i) := ⟨fun pins s σ H R I h => by
  obtain ⟨a, h0, ⟨⟨xs, e⟩, q⟩ | ⟨⟨xs, e⟩, q⟩⟩ := h
  · exact (pi_list (pe_var hN hv hd hcd)).run pins s σ H R I ⟨_, h0, a, rfl, ⟨_, SqL.of e⟩, q⟩
  · exact (pi_tup (pe_var hN hv hd hcd)).run pins s σ H R I ⟨_, h0, a, rfl, ⟨_, SqT.of e⟩, q⟩⟩
theorem r_forS {K : PySem.W.Frag} {i : Nat} {g : TG} {tb : TS} {D : Ends} {σ : L2.St} {H : Hp} : tFor (iSeqV K i) g tb D σ H = ∃ a, σ[i]? = some (some (.ref a)) ∧ (((∃ xs, H a = some (.lst xs)) ∧ LoopR (Itl K a) g tb D σ H) ∨ ((∃ xs, H a = some (.tup xs)) ∧ LoopR (Itt K a) g tb D σ H)) := rfl
theorem lp_seq {K : PySem.W.Frag} {g : TG} {tb : TS} {D : Ends} {σ : L2.St} {H : Hp} {a : Addr} {xs : List V} (h : sq (H a) = some xs) (Pv : Nat → L2.St → Hp → Prop) (h0 : Pv 0 σ H) (hl : ∀ i σ H', Pv i σ H' → H' a = H a)
    (hs : ∀ i x σ H, xs[i]? = some x → Pv i σ H → g x σ H fun σ2 H2 => tb { D with nx := Pv (i + 1), ct := Pv (i + 1), bk := D.nx } σ2 H2) (hd : ∀ σ H, Pv xs.length σ H → D.nx σ H) :
    ((∃ xs, H a = some (.lst xs)) ∧ LoopR (Itl K a) g tb D σ H) ∨ ((∃ xs, H a = some (.tup xs)) ∧ LoopR (Itt K a) g tb D σ H) := by
  rcases sq_cases h with e | e
  · exact .inl ⟨⟨_, e⟩, lp_list Pv h0 (fun i s h' _ q => SqL.of (by rw [hl i s h' q, e])) hs hd⟩
  · exact .inr ⟨⟨_, e⟩, lp_tup Pv h0 (fun i s h' _ q => SqT.of (by rw [hl i s h' q, e])) hs hd⟩
theorem Paired.at' {α β : Type} {F : α → β → Prop} : ∀ {l1 : List α} {l2 : List β} {i : Nat}, Paired F l1 l2 → (h1 : i < l1.length) → (h2 : i < l2.length) → F l1[i] l2[i]
  | _, _, 0, .cons r _, _, _ => r
  | _, _, i + 1, .cons _ t, h1, h2 => Paired.at' (i := i) t (by simpa using h1) (by simpa using h2)

/-! ### isinstance, in a form that simp can reckon -/
structure ClsI (K : PySem.W.Frag) (C : Addr) : Prop where
  cl : Cls K C
  ha : PySem.W.findIn K (.ref C) "__class__" = some (some (.builtin "object.__class__"))
  hn : PySem.W.specialIn K (.builtin "object.__class__") "__get__" = some (some (.builtin "getset_descriptor.__get__"))
  htk : PySem.W.takesIn K (.builtin "object.__class__") = some true
  hm : PySem.W.mroIn K C (.type "object") = some true
/-- what stands there, by its class (of own classes C alone) -/
def tyH (C : Addr) : Option HO → Option Value
  | some (.lst _) => some (.type "list")
  | some (.tup _) => some (.type "tuple")
  | some (.dK _) => some (.type "dict")
  | some (.ins D _ _) => if D = C then some (.ref C) else none
  | _ => none
def tyD (C : Addr) (H : Hp) : V → Option Value
  | .non => some (.type "NoneType")
  | .bl _ => some (.type "bool")
  | .int _ => some (.type "int")
  | .str _ => some (.type "str")
  | .ref a => tyH C (H a)
  | _ => none
theorem tyD_ok {K : PySem.W.Frag} {C : Addr} {H : Hp} {x : V} {t : Value} (c : ClsI K C) (h : tyD C H x = some t) : TyX K H x t := by
  cases x with
  | non => cases h; exact .base .non
  | bl b => cases h; exact .base (.bl b)
  | int i => cases h; exact .base (.int i)
  | str s => cases h; exact .base (.str s)
  | ref a =>
    have h2 : tyH C (H a) = some t := h
    cases e : H a with
    | none =>
      rw [e] at h2
      cases h2
    | some o =>
      rw [e] at h2
      cases o with
      | lst xs => cases h2; exact .base (.lst e)
      | tup xs => cases h2; exact .base (.tup e)
      | dK kvs => cases h2; exact .base (.dK e)
      | ins D dx fs =>
        have h3 : (if D = C then some (Value.ref C) else none) = some t := h2
        by_cases q : D = C
        · rw [if_pos q] at h3
          cases h3
          subst q
          exact .base (.ins e c.cl c.ha c.hn c.htk c.hm)
        · rw [if_neg q] at h3
          cases h3
      | _ => cases h2
  | _ => cases h
def clsD : V → Option Value
  | .ty n => some (.type n)
  | .ref C => some (.ref C)
  | _ => none
theorem clsD_ok {c : V} {u : Value} (h : clsD c = some u) : ClsV c u := by
  cases c with
  | ty n => cases h; exact .ty n
  | ref C => cases h; exact .own C
  | _ => cases h
def rIsD (K : PySem.W.Frag) (C : Addr) : List V → Hp → VK → Prop := fun vs H Q => ∃ x c t u b, vs = [x, c] ∧ clsD c = some u ∧ tyD C H x = some t ∧ PySem.W.kitOne K t u = some b ∧ Q (.bl b) H
theorem call_is_d {X : Cx} {C : Addr} (c : ClsI X.K C) : CallR X (.builtin "isinstance") (rIsD X.K C) := CallR.imp' (call_isi (X := X)) fun vs H Q ⟨x, d, t, u, b, e, h1, h2, h3, q⟩ => ⟨x, d, t, u, b, e, clsD_ok h1, tyD_ok c h2, h3, q⟩
/-- isinstance(x, (list, tuple)) -/
def rIsLT (K : PySem.W.Frag) (C : Addr) : List V → Hp → VK → Prop := fun vs H Q => ∃ x tp t b, vs = [x, .ref tp] ∧ H tp = some (.tup [.ty "list", .ty "tuple"]) ∧ tyD C H x = some t ∧ PySem.W.kitAny K t [.type "list", .type "tuple"] = some b ∧ Q (.bl b) H
theorem call_is_lt {X : Cx} {C : Addr} (c : ClsI X.K C) : CallR X (.builtin "isinstance") (rIsLT X.K C) := CallR.imp' (call_isiT (X := X)) fun vs H Q ⟨x, tp, t, b, e, h1, h2, h3, q⟩ =>
  ⟨x, tp, _, t, _, b, e, h1, .cons (.ty "list") (.cons (.ty "tuple") .nil), tyD_ok c h2, h3, q⟩
section
variable {K : PySem.W.Frag} {C : Addr} {H : Hp} {Q : VK} {σ : L2.St} {D : Ends}
theorem r_isd {vs : List V} : rIsD K C vs H Q = ∃ x c t u b, vs = [x, c] ∧ clsD c = some u ∧ tyD C H x = some t ∧ PySem.W.kitOne K t u = some b ∧ Q (.bl b) H := rfl
theorem r_islt {vs : List V} : rIsLT K C vs H Q = ∃ x tp t b, vs = [x, .ref tp] ∧ H tp = some (.tup [.ty "list", .ty "tuple"]) ∧ tyD C H x = some t ∧ PySem.W.kitAny K t [.type "list", .type "tuple"] = some b ∧ Q (.bl b) H := rfl
theorem cD_ty {n : String} : clsD (.ty n) = some (.type n) := rfl
theorem cD_ref {a : Addr} : clsD (.ref a) = some (.ref a) := rfl
theorem tD_non : tyD C H .non = some (.type "NoneType") := rfl
theorem tD_bl {b : Bool} : tyD C H (.bl b) = some (.type "bool") := rfl
theorem tD_int {i : Int} : tyD C H (.int i) = some (.type "int") := rfl
theorem tD_str {s : Str} : tyD C H (.str s) = some (.type "str") := rfl
theorem tD_ref {a : Addr} : tyD C H (.ref a) = tyH C (H a) := rfl
theorem tH_lst {xs : List V} : tyH C (some (.lst xs)) = some (.type "list") := rfl
theorem tH_tup {xs : List V} : tyH C (some (.tup xs)) = some (.type "tuple") := rfl
theorem tH_dK {kvs : List (Key × V)} : tyH C (some (.dK kvs)) = some (.type "dict") := rfl
theorem tH_ins {dx : Addr} {fs : List (Str × V)} : tyH C (some (.ins C dx fs)) = some (.ref C) := if_pos rfl
theorem ki_self {t : Value} : PySem.W.kitOne K t t = some true := by
  unfold PySem.W.kitOne
  rw [if_pos (by simp)]
theorem ki_int_bool : PySem.W.kitOne K (.type "int") (.type "bool") = some false := kit_ty (by decide +kernel)
theorem ki_non_int : PySem.W.kitOne K (.type "NoneType") (.type "int") = some false := kit_ty (by decide +kernel)
theorem ki_str_int : PySem.W.kitOne K (.type "str") (.type "int") = some false := kit_ty (by decide +kernel)
theorem ki_lt_lst : PySem.W.kitAny K (.type "list") [.type "list", .type "tuple"] = some true := by
  unfold PySem.W.kitAny
  rw [ki_self]
theorem ki_lt_tup : PySem.W.kitAny K (.type "tuple") [.type "list", .type "tuple"] = some true := by
  have e : PySem.W.kitOne K (.type "tuple") (.type "list") = some false := kit_ty (by decide +kernel)
  unfold PySem.W.kitAny
  rw [e]
  unfold PySem.W.kitAny
  rw [ki_self]
theorem r_fld {ta : TE} {f : Str} : tFld K ta f σ H Q = ta σ H (fun x H1 => ∃ a C dx fs v, x = .ref a ∧ H1 a = some (.ins C dx fs) ∧ Cls K C ∧ NoAttr K C f ∧ fs.lookup f = some v ∧ Q v H1) := rfl
theorem r_sfld {ta tv : TE} {f : Str} : sFld K ta tv f D σ H = tv σ H (fun y H1 => ta σ H1 fun x H2 => ∃ a C dx fs, x = .ref a ∧ H2 a = some (.ins C dx fs) ∧ Cls K C ∧ NoAttr K C f ∧ fs.length < 1000 ∧ D.nx σ (upd H2 a (.ins C dx (putF f y fs)))) := rfl
end
theorem cx_K {CX : CXT} {P : Program} {w : World} {K : PySem.W.Frag} {mg : Str → Option Value} {base : Heap} {N : List Str} {q : Str} {sc : Scope} {f : Addr} {cd : Value} {A : Around} {outer : List Env} {s : Shared} {H : Hp} {E : XK} : (cxOf CX P w K mg base N q sc f cd A outer s H E).K = K := rfl
/-! ### own exceptions with one field -/
def spXInit (C : Addr) (f : Str) : Sp := fun vs H Q _ => ∃ (a : Addr) (v : V), vs = [.ref a, v] ∧ H a = some (exo a C none) ∧ ∀ d, H d = none → d ≠ a → Q .non (upd (upd H d (exd d [(f, v)])) a (exo a C (some d)))
structure Exn (P : Program) (w : World) (K : PySem.W.Frag) (mg : Str → Option Value) (base : Heap) (x : Str) (C : Addr) (f : Str) : Prop where
  ox : OexC K C
  gl : mg x = some (.ref C)
  ex : ∃ fI fd, PySem.W.findIn K (.ref C) "__init__" = some (some (.ref fI)) ∧ PySem.W.typeIn K (.ref fI) = some (.type "function") ∧ FnOk P w K mg base CX0 1 fI fd ["self", f] (spXInit C f) ∧ Binds K fd ["self", f] []
theorem pmk_x {X : Cx} {x f : Str} {C : Addr} {e : Expr} {te : TE} {p pos : Pos} (N : Exn X.prog X.w X.K X.mg X.base x C f) (hr : Room 2 X.A) (hg : Gl X x) (ha : PE X e te)
    (hs : starEach [e] X.env = (false, eval e X.env) :: starEach [] X.env := by rfl) (hdb : (x == ("__debug__" : Str)) = false := by decide) (hpl : (backTo pos (starEach [] X.env)).any (·.1) = false := by rfl) :
    PMk X (.Call (.Name x p) [e] [] pos) (tMkO C (spXInit C f) [] (tCons te tNil)) := by
  obtain ⟨fI, fd, iC, tI, F, b⟩ := N.ex
  exact pmk_oex N.ox iC tI F hr b .nil pass0 hg N.gl (pa_cons ha pa_nil hs) hdb hs hpl
/-- what a raise of such an exception asks -/
theorem raise_x {C : Addr} {f : Str} {te : TE} {σ : L2.St} {H : Hp} {E : XK} {v : V} (h : ∀ Q : VK, Q v H → te σ H Q) (k : ∀ d H', H d = none → Same H H' → H' d = some (.xd [(f, v)]) → E (.ref C) (some d) H') : tMkO C (spXInit C f) [] (tCons te tNil) σ H E := by
  refine h _ ⟨by show 1 ≤ 1000; decide, fun a ha => ⟨a, v, rfl, upd_same, fun d hd da => ⟨rfl, d, [(f, v)], upd_same, ?_, ?_, ?_⟩⟩⟩
  · rw [upd_ne da, upd_same]
  · rw [upd_ne da] at hd
    exact hd
  · rw [upd_ne da] at hd
    refine k d _ hd (fun b o e => ?_) upd_same
    have ba : b ≠ a := ne_new e ha
    have bd : b ≠ d := ne_new e hd
    rw [upd_ne bd, del_ne ba, upd_ne ba, upd_ne bd, upd_ne ba]
    exact e

/-! ### the source of choices -/
def Src (H : Hp) (a : Addr) : Prop := ∃ x y z : Int, H a = some (.lst [.int x, .int y, .int z])
/-- all but a stays -/
def Keep (a : Addr) (H H' : Hp) : Prop := ∀ b o, b ≠ a → H b = some o → H' b = some o
theorem Keep.refl (a : Addr) (H : Hp) : Keep a H H := fun _ _ _ h => h
theorem Keep.trans {a : Addr} {H H1 H2 : Hp} (h : Keep a H H1) (k : Keep a H1 H2) : Keep a H H2 := fun b o n e => k b o n (h b o n e)
theorem Keep.upd {a : Addr} {H H1 : Hp} {o : HO} (h : Keep a H H1) : Keep a H (upd H1 a o) := fun b u n e => by
  rw [upd_ne n]
  exact h b u n e
theorem Keep.new {a p : Addr} {H H1 : Hp} {o : HO} (h : Keep a H H1) (hp : H1 p = none) : Keep a H (L2.upd H1 p o) := fun b u n e => by
  have e1 := h b u n e
  rw [upd_ne (ne_of_none e1 hp)]
  exact e1
theorem Keep.same {a : Addr} {H H1 : Hp} (h : Same H H1) : Keep a H H1 := fun b o _ e => h b o e
theorem Src.new {H : Hp} {a p : Addr} {o : HO} (h : Src H a) (hp : H p = none) : Src (L2.upd H p o) a := by
  obtain ⟨x, y, z, e⟩ := h
  exact ⟨x, y, z, by rw [upd_ne (ne_new e hp)]; exact e⟩
theorem Src.ne {H : Hp} {a p : Addr} (h : Src H a) (hp : H p = none) : p ≠ a := by
  obtain ⟨x, y, z, e⟩ := h
  exact new_ne e hp
structure Txt (mg : Str → Option Value) : Prop where
  b_len : mg "len" = none
  b_int : mg "int" = none
  b_range : mg "range" = none
  b_tuple : mg "tuple" = none
  b_list : mg "list" = none
  b_isinstance : mg "isinstance" = none
  b_bool : mg "bool" = none
  b_str : mg "str" = none
  b_max : mg "max" = none
  b_reversed : mg "reversed" = none
  b_repr : mg "repr" = none
  g_GREATEST : ∃ t, mg "GREATEST" = some (.int 2147483647 t)
  g_DEEPEST : ∃ t, mg "DEEPEST" = some (.int 100 t)
  g_BARRED : ∃ t, mg "BARRED" = some (.int 37 t)
  b_min : mg "min" = none
  b_enumerate : mg "enumerate" = none
  b_any : mg "any" = none
  b_zip : mg "zip" = none
  b_sum : mg "sum" = none
  b_sorted : mg "sorted" = none
def spSrc : Sp := fun vs H Q _ => ∃ n : Int, vs = [.int n] ∧ ∀ p H', H p = none → Same H H' → Src H' p → Q (.ref p) H'
def spNext : Sp := fun vs H Q _ => ∃ (a : Addr) (m : Int), vs = [.ref a, .int m] ∧ Src H a ∧ 0 < m ∧ m < 2 ^ 200 ∧ ∀ (r : Int) H', 0 ≤ r → r < m → Keep a H H' → Src H' a → Q (.int r) H'
def spOne : Sp := fun vs H Q _ => ∃ (a b : Addr) (xs : List V), vs = [.ref a, .ref b] ∧ Src H a ∧ b ≠ a ∧ H b = some (.lst xs) ∧ xs ≠ [] ∧ xs.length ≤ 1000 ∧ ∀ v H', v ∈ xs → Keep a H H' → Src H' a → Q v H'
section
variable {P : Program} {w : World} {K : PySem.W.Frag} {mg : Str → Option Value} {base : Heap} {f : Addr} {fd : FuncData}
abbrev ssource_of : Stmt := top 43
theorem scsource_of : FnScope ["_law_cell"] ["_law_cell"] (defScope ssource_of) := ⟨rfl, rfl, rfl, by decide +kernel, rfl, by decide +kernel, by decide +kernel⟩

abbrev snext : Stmt := top 44
theorem scnext : FnScope ["_law_source", "_law_many", "_law_found", "_law_prime", "_law_number"] ["_law_source", "_law_many"] (defScope snext) := ⟨rfl, rfl, rfl, by decide +kernel, rfl, by decide +kernel, by decide +kernel⟩

abbrev sone : Stmt := top 45
theorem scone : FnScope ["_law_source", "_law_some"] ["_law_source", "_law_some"] (defScope sone) := ⟨rfl, rfl, rfl, by decide +kernel, rfl, by decide +kernel, by decide +kernel⟩

theorem ok_source_of (T : Txt mg) (F : FnP K "_law_source_of" "_law_source_of" ssource_of f fd) : FnOk P w K mg base CX0 1 f fd ["_law_cell"] spSrc := by
  refine F.ok scsource_of (fun vs H Q E h => ?_) (fun cdv A outer s H vs Q E hr h => ?_)
  · obtain ⟨n, rfl, _⟩ := h
    rfl
  · obtain ⟨n, rfl, k⟩ := h
    refine ⟨_, PSs.nox (pss_cons (ps_set (i := 0) scsource_of.nd rfl (Or.inl rfl) (pe_ifExp (pt_cmpR op_ge (pv 0) pe_int (nomark _)) (pv 0) (pe_op op_sub (pe_op op_sub pe_int (pe_op op_mul pe_int (pv 0))) pe_int)))
  (pss_one (ps_ret (pe_lst (pa_cons (pe_op op_mul (pv 0) (pe_callTy call_int1 (by rfl) T.b_int (by decide +kernel) (pa_cons (pe_cmpR op_ge (pv 0) (pe_op op_pow pe_int pe_int) (nomark _)) pa_nil))) (pa_cons (pe_op op_mod (pe_callTy call_int1 (by rfl) T.b_int (by decide +kernel) (pa_cons (pv 0) pa_nil)) pe_int) (pa_cons pe_int pa_nil))))))), ?_⟩
    show (_ : TS) _ [some (.int n)] H
    simp only [r_seq, r_next, r_brk, r_cont, r_asg, r_name, r_ret, r_retN, r_drop, r_ifs, r_never, r_var, r_c, r_op, r_un, r_if, r_tst, r_b, r_not, r_and, r_or, r_andV, r_orV, r_notV, r_nil, r_cons, r_tup, r_lst, r_cb, r_call, r_bm, r_bm0, r_sl, r_nopart, r_part, r_rev, r_gnil, r_gcons, r_gsub, r_par, r_aug, r_chain, r_I0, r_I, r_U, r_ixd, r_lend, r_tupd, r_listd, r_sld, r_app, r_ext, r_reverse, r_setl, r_cat, r_int1, r_eqS, r_neS, scal_ii, scal_bb, scal_ss, at0, at1, at2, sq_lst, sq_tup, isLst_lst, List.getElem?_cons_zero, List.getElem?_cons_succ, List.set_cons_zero, List.set_cons_succ, V.int.injEq, V.bl.injEq, V.ref.injEq, V.str.injEq, HO.lst.injEq, HO.tup.injEq, Option.some.injEq, exists_eq_left', exists_eq_left, List.cons.injEq, and_true, true_and, decide_eq_true_eq, reduceCtorEq, false_and, exists_false, or_false, false_or, exists_const, and_assoc, exists_and_left, List.append_nil, ix0, ix1, ix2, cm_mod, cdw1009, cdw2003, cdw7, cdw64, cdw2, cm104729, cm2, cm3, upd_same, List.length_cons, List.length_nil, Int.reduceLT, Int.reduceLE, Nat.reduceAdd, Nat.reduceLeDiff, Nat.reduceLT, Int.reduceToNat, r_for1, r_forL, r_forT, r_lcL, r_lc1, r_yes, r_gtupD, wipe_0, wipe_1, List.cons_append, List.nil_append, r_forS, r_ipI, ite_false, ite_true, Bool.not_true, Bool.not_false, decide_true, decide_false, r_isd, r_islt, cD_ty, cD_ref, tD_non, tD_bl, tD_int, tD_str, tD_ref, tH_lst, tH_tup, tH_dK, tH_ins, ki_self, ki_int_bool, ki_non_int, ki_str_int, ki_lt_lst, ki_lt_tup, r_fld, r_sfld, HO.ins.injEq, cx_K]
    have k' : ∀ x y z : Int, ∀ p, H p = none → Q (.ref p) (upd H p (.lst [.int x, .int y, .int z])) := fun x y z p hp =>
      k p _ hp (Same.new' (Same.refl H) hp) ⟨x, y, z, upd_same⟩
    have c1 : CPow 10 18 := ⟨by decide, by decide, by decide⟩
    have c2 : ∀ (i : Int) (c : Prop) [Decidable c], CMul i (if c then 1 else 0) := fun i c _ => .inr (by split <;> decide)
    have c3 : CMul 3 n := .inl (by decide)
    exact ite2 (fun _ => ⟨c1, c2 _ _, Nat.le_trans (by decide : 3 ≤ 1000) (by decide), k' _ _ _⟩) (fun _ => ⟨c1, c2 _ _, Nat.le_trans (by decide : 3 ≤ 1000) (by decide), k' _ _ _⟩)
theorem ok_next (T : Txt mg) (F : FnP K "_law_next" "_law_next" snext f fd) : FnOk P w K mg base CX0 1 f fd ["_law_source", "_law_many"] spNext := by
  refine F.ok scnext (fun vs H Q E h => ?_) (fun cdv A outer s H vs Q E hr h => ?_)
  · obtain ⟨a, m, rfl, _⟩ := h
    rfl
  · obtain ⟨a, m, rfl, ⟨x, y, z, hS⟩, m0, m1, k⟩ := h
    refine ⟨_, PSs.nox (pss_cons (ps_if (pt_cmpR op_gt (pe_ix ix_d (pv 0) pe_int (fun _ _ => rfl)) pe_int (nomark _))
    (pss_cons (ps_set (i := 2) scnext.nd rfl (Or.inl rfl) (pe_op op_mod (pe_callTy call_int1 (by rfl) T.b_int (by decide +kernel) (pa_cons (pe_ix ix_d (pv 0) pe_int (fun _ _ => rfl)) pa_nil)) (pv 1)))
  (pss_cons (ps_asg (pe_op op_fdivW (pe_ix ix_d (pv 0) pe_int (fun _ _ => rfl)) (pv 1)) (pg_sub (pv 0) pe_int set_list))
  (pss_one (ps_ret (pv 2)))))
    pss_nil)
  (pss_cons (ps_asg (pe_op op_add (pe_ix ix_d (pv 0) pe_int (fun _ _ => rfl)) pe_int) (pg_sub (pv 0) pe_int set_list))
  (pss_cons (ps_set (i := 3) scnext.nd rfl (Or.inl rfl) pe_int)
  (pss_cons (ps_set (i := 4) scnext.nd rfl (Or.inl rfl) (pe_op op_mod (pe_callTy call_int1 (by rfl) T.b_int (by decide +kernel) (pa_cons (pe_op op_add (pe_op op_add (pe_ix ix_d (pv 0) pe_int (fun _ _ => rfl)) (pe_op op_mul pe_int (pe_ix ix_d (pv 0) pe_int (fun _ _ => rfl)))) pe_int) pa_nil)) (pv 3)))
  (pss_cons (ps_set (i := 4) scnext.nd rfl (Or.inl rfl) (pe_op op_mod (pe_callTy call_int1 (by rfl) T.b_int (by decide +kernel) (pa_cons (pe_op op_mul (pv 4) pe_int) pa_nil)) (pv 3)))
  (pss_cons (ps_set (i := 4) scnext.nd rfl (Or.inl rfl) (pe_op op_mod (pe_callTy call_int1 (by rfl) T.b_int (by decide +kernel) (pa_cons (pe_op op_mul (pv 4) (pe_op op_add (pe_op op_fdivW (pv 4) pe_int) pe_int)) pa_nil)) (pv 3)))
  (pss_cons (ps_set (i := 4) scnext.nd rfl (Or.inl rfl) (pe_op op_mod (pe_callTy call_int1 (by rfl) T.b_int (by decide +kernel) (pa_cons (pe_op op_mul (pv 4) (pe_op op_add (pe_op op_fdivW (pv 4) pe_int) pe_int)) pa_nil)) pe_int))
  (pss_one (ps_ret (pe_op op_mod (pe_callTy call_int1 (by rfl) T.b_int (by decide +kernel) (pa_cons (pe_op op_fdivW (pv 4) pe_int) pa_nil)) (pv 1))))))))))), ?_⟩
    show (_ : TS) _ [some (.ref a), some (.int m), none, none, none] H
    have hC : ∀ i, CDivW i m := fun i => of_eq_true (cdw ⟨m0, m1⟩)
    have kk : ∀ (e : Int) (u v t : Int), Q (.int (e % m)) (upd H a (.lst [.int u, .int v, .int t])) := fun e u v t => k _ _ (Int.emod_nonneg _ (by omega)) (Int.emod_lt_of_pos _ m0) (Keep.upd (Keep.refl a H)) ⟨u, v, t, upd_same⟩
    simp only [r_seq, r_next, r_brk, r_cont, r_asg, r_name, r_ret, r_retN, r_drop, r_ifs, r_never, r_var, r_c, r_op, r_un, r_if, r_tst, r_b, r_not, r_and, r_or, r_andV, r_orV, r_notV, r_nil, r_cons, r_tup, r_lst, r_cb, r_call, r_bm, r_bm0, r_sl, r_nopart, r_part, r_rev, r_gnil, r_gcons, r_gsub, r_par, r_aug, r_chain, r_I0, r_I, r_U, r_ixd, r_lend, r_tupd, r_listd, r_sld, r_app, r_ext, r_reverse, r_setl, r_cat, r_int1, r_eqS, r_neS, scal_ii, scal_bb, scal_ss, at0, at1, at2, sq_lst, sq_tup, isLst_lst, List.getElem?_cons_zero, List.getElem?_cons_succ, List.set_cons_zero, List.set_cons_succ, V.int.injEq, V.bl.injEq, V.ref.injEq, V.str.injEq, HO.lst.injEq, HO.tup.injEq, Option.some.injEq, exists_eq_left', exists_eq_left, List.cons.injEq, and_true, true_and, decide_eq_true_eq, reduceCtorEq, false_and, exists_false, or_false, false_or, exists_const, and_assoc, exists_and_left, List.append_nil, ix0, ix1, ix2, cm_mod, cdw1009, cdw2003, cdw7, cdw64, cdw2, cm104729, cm2, cm3, upd_same, List.length_cons, List.length_nil, Int.reduceLT, Int.reduceLE, Nat.reduceAdd, Nat.reduceLeDiff, Nat.reduceLT, Int.reduceToNat, r_for1, r_forL, r_forT, r_lcL, r_lc1, r_yes, r_gtupD, wipe_0, wipe_1, List.cons_append, List.nil_append, r_forS, r_ipI, ite_false, ite_true, Bool.not_true, Bool.not_false, decide_true, decide_false, r_isd, r_islt, cD_ty, cD_ref, tD_non, tD_bl, tD_int, tD_str, tD_ref, tH_lst, tH_tup, tH_dK, tH_ins, ki_self, ki_int_bool, ki_non_int, ki_str_int, ki_lt_lst, ki_lt_tup, r_fld, r_sfld, HO.ins.injEq, cx_K, hS, m0, hC]
    exact ite2 (fun _ => kk _ _ _ _) (fun _ => kk _ _ _ _)
theorem ok_one (T : Txt mg) (F : FnP K "_law_one" "_law_one" sone f fd) (C_next : Cal P w K mg base 1 "_law_next" ["_law_source", "_law_many"] spNext) : FnOk P w K mg base CX0 2 f fd ["_law_source", "_law_some"] spOne := by
  refine F.ok scone (fun vs H Q E h => ?_) (fun cdv A outer s H vs Q E hr h => ?_)
  · obtain ⟨a, b, xs, rfl, _⟩ := h
    rfl
  · obtain ⟨a, b, xs, rfl, hS, hb, hx, h0, h1, k⟩ := h
    refine ⟨_, PSs.nox (pss_one (ps_ret (pe_ix ix_d (pv 1) (pe_cal C_next (hr.mono (by decide)) rfl (pa_cons (pv 0) (pa_cons (pe_callB call_len_d (by rfl) T.b_len (by decide +kernel) (pa_cons (pv 1) pa_nil)) pa_nil))) (fun _ _ => rfl)))), ?_⟩
    show (_ : TS) _ [some (.ref a), some (.ref b)] H
    simp only [r_seq, r_next, r_brk, r_cont, r_asg, r_name, r_ret, r_retN, r_drop, r_ifs, r_never, r_var, r_c, r_op, r_un, r_if, r_tst, r_b, r_not, r_and, r_or, r_andV, r_orV, r_notV, r_nil, r_cons, r_tup, r_lst, r_cb, r_call, r_bm, r_bm0, r_sl, r_nopart, r_part, r_rev, r_gnil, r_gcons, r_gsub, r_par, r_aug, r_chain, r_I0, r_I, r_U, r_ixd, r_lend, r_tupd, r_listd, r_sld, r_app, r_ext, r_reverse, r_setl, r_cat, r_int1, r_eqS, r_neS, scal_ii, scal_bb, scal_ss, at0, at1, at2, sq_lst, sq_tup, isLst_lst, List.getElem?_cons_zero, List.getElem?_cons_succ, List.set_cons_zero, List.set_cons_succ, V.int.injEq, V.bl.injEq, V.ref.injEq, V.str.injEq, HO.lst.injEq, HO.tup.injEq, Option.some.injEq, exists_eq_left', exists_eq_left, List.cons.injEq, and_true, true_and, decide_eq_true_eq, reduceCtorEq, false_and, exists_false, or_false, false_or, exists_const, and_assoc, exists_and_left, List.append_nil, ix0, ix1, ix2, cm_mod, cdw1009, cdw2003, cdw7, cdw64, cdw2, cm104729, cm2, cm3, upd_same, List.length_cons, List.length_nil, Int.reduceLT, Int.reduceLE, Nat.reduceAdd, Nat.reduceLeDiff, Nat.reduceLT, Int.reduceToNat, r_for1, r_forL, r_forT, r_lcL, r_lc1, r_yes, r_gtupD, wipe_0, wipe_1, List.cons_append, List.nil_append, r_forS, r_ipI, ite_false, ite_true, Bool.not_true, Bool.not_false, decide_true, decide_false, r_isd, r_islt, cD_ty, cD_ref, tD_non, tD_bl, tD_int, tD_str, tD_ref, tH_lst, tH_tup, tH_dK, tH_ins, ki_self, ki_int_bool, ki_non_int, ki_str_int, ki_lt_lst, ki_lt_tup, r_fld, r_sfld, HO.ins.injEq, cx_K, hx]
    have hl : 0 < xs.length := List.length_pos_iff.mpr h0
    refine ⟨a, _, rfl, hS, by omega, by omega, fun r H1 r0 r1 k1 s1 => ?_⟩
    have hx1 := k1 b _ hb hx
    obtain ⟨i, rfl⟩ : ∃ i : Nat, r = i := ⟨r.toNat, by omega⟩
    have hi : i < xs.length := by omega
    have e1 : atI xs (i : Int) = some xs[i] := atn (List.getElem?_eq_getElem hi)
    simp only [r_seq, r_next, r_brk, r_cont, r_asg, r_name, r_ret, r_retN, r_drop, r_ifs, r_never, r_var, r_c, r_op, r_un, r_if, r_tst, r_b, r_not, r_and, r_or, r_andV, r_orV, r_notV, r_nil, r_cons, r_tup, r_lst, r_cb, r_call, r_bm, r_bm0, r_sl, r_nopart, r_part, r_rev, r_gnil, r_gcons, r_gsub, r_par, r_aug, r_chain, r_I0, r_I, r_U, r_ixd, r_lend, r_tupd, r_listd, r_sld, r_app, r_ext, r_reverse, r_setl, r_cat, r_int1, r_eqS, r_neS, scal_ii, scal_bb, scal_ss, at0, at1, at2, sq_lst, sq_tup, isLst_lst, List.getElem?_cons_zero, List.getElem?_cons_succ, List.set_cons_zero, List.set_cons_succ, V.int.injEq, V.bl.injEq, V.ref.injEq, V.str.injEq, HO.lst.injEq, HO.tup.injEq, Option.some.injEq, exists_eq_left', exists_eq_left, List.cons.injEq, and_true, true_and, decide_eq_true_eq, reduceCtorEq, false_and, exists_false, or_false, false_or, exists_const, and_assoc, exists_and_left, List.append_nil, ix0, ix1, ix2, cm_mod, cdw1009, cdw2003, cdw7, cdw64, cdw2, cm104729, cm2, cm3, upd_same, List.length_cons, List.length_nil, Int.reduceLT, Int.reduceLE, Nat.reduceAdd, Nat.reduceLeDiff, Nat.reduceLT, Int.reduceToNat, r_for1, r_forL, r_forT, r_lcL, r_lc1, r_yes, r_gtupD, wipe_0, wipe_1, List.cons_append, List.nil_append, r_forS, r_ipI, ite_false, ite_true, Bool.not_true, Bool.not_false, decide_true, decide_false, r_isd, r_islt, cD_ty, cD_ref, tD_non, tD_bl, tD_int, tD_str, tD_ref, tH_lst, tH_tup, tH_dK, tH_ins, ki_self, ki_int_bool, ki_non_int, ki_str_int, ki_lt_lst, ki_lt_tup, r_fld, r_sfld, HO.ins.injEq, cx_K, hx1, e1]
    exact k _ _ (List.getElem_mem hi) k1 s1
end
end C51

set_option maxHeartbeats 1000000
namespace C51
open PySem PySem.Spec PyProof.Rows L2
/-! ### list(reversed(a tuple)) -/
theorem nolen_rt : typeLookup (.type "reversed") "__len__" = pure none := by rw [typeLookup_type, builtinLookup_eq_fast]; kernel_rfl
theorem hint_rt : typeLookup (.type "reversed") "__length_hint__" = pure (some (.builtin "reversed.__length_hint__")) := by rw [typeLookup_type, builtinLookup_eq_fast]; kernel_rfl
theorem slot_rt_hint : Slot "reversed" "__length_hint__" "reversed.__length_hint__" :=
  .of (owner := "reversed") (n := "__length_hint__") (by rw [typeLookup_type, builtinLookup_eq_fast]; kernel_rfl) (by decide +kernel) (by decide +kernel) (by decide +kernel)
    (by first | exact .inl (by decide +kernel) | exact .inr (by decide +kernel)) (by rw [isSubtype_type]; kernel_rfl)
theorem entry_rt_hint : entryFor table "reversed.__length_hint__" = some Builtin.«reversed.__length_hint__» := entryFor_of_tree (by kernel_rfl)
theorem args_rt_hint (a : Value) : argsOk "reversed.__length_hint__" ⟨[a], []⟩ := by
  unfold argsOk; rw [signature?_of (id := "reversed.__length_hint__") (n := ['_', '_', 't', 'n', 'i', 'h', '_', 'h', 't', 'g', 'n', 'e', 'l', '_', '_']) (o := ['d', 'e', 's', 'r', 'e', 'v', 'e', 'r']) (by kernel_rfl) RT.owner_rt]; kernel_rfl
theorem bind_rt_hint (self : Value) : bindSpecial (.builtin "reversed.__length_hint__") self = pure (.builtin "reversed.__length_hint__", [self]) := by
  unfold bindSpecial
  rw [show typeOf (.builtin "reversed.__length_hint__") = pure (.type "method_descriptor") from by show builtinType _ = _; rw [builtinType_eq_fast]; kernel_rfl]
  rfl
section
variable {prog : Program} {w : World} {A : Around} {E : Value → Shared → Prop} {s : Shared}
theorem rt_len {it t : Addr} {i : Int} {items : Array Value} {Q : Value → Shared → Prop} (hit : RT.IsRt s.heap it t i) (ht : IsTup s.heap t items) (hz : items.size ≤ sizeLine) (hi : i + 1 ≤ (items.size : Int))
    (h : ∀ tk u, Q (.int (i + 1) u) { s with toks := tk }) : wpAny (model prog w) A (call (.builtin "reversed.__length_hint__") [.ref it]) Q E s := by
  obtain ⟨o, ho, hc, hd⟩ := id hit
  have hn := line63
  refine wpAny_call_entry slot_rt_hint hit.typeIs entry_rt_hint ?_ (args_rt_hint _)
  unfold Builtin.«reversed.__length_hint__»
  refine wpAny_bind (wpAny_of_eq (a := Value.ref it) rfl ?_)
  try dsimp only
  refine wpAny_bind (wpAny_field ho hd (x := .ref t) rfl ?_)
  try dsimp only
  rw [if_neg (by intro h; cases h)]
  refine wpAny_bind (PyProof.Rows.len_tuple ht (by omega) ?_)
  refine wpAny_bind (wpAny_of_eq (a := some ((items.size : Nat) : Int)) rfl ?_)
  try dsimp only
  refine wpAny_bind (wpAny_field (s := { s with toks := s.toks + 1 + 1 }) ho hd (x := rawInt i) rfl ?_)
  show wpAny _ _ (if ((items.size : Nat) : Int) < i + 1 then _ else _) _ _ _
  rw [if_neg (by omega)]
  refine wpAny_bind (wpAny_mkInt (wpAny_pure ?_))
  exact ⟨_, rfl, h _ _⟩
theorem rt_hint {it t : Addr} {i : Int} {items : Array Value} {Q : Bool → Shared → Prop} (hit : RT.IsRt s.heap it t i) (ht : IsTup s.heap t items) (hz : items.size ≤ sizeLine) (hi : i + 1 ≤ (items.size : Int)) (hi0 : 0 ≤ i + 1)
    (h : ∀ tk, Q (i + 1 != 0) { s with toks := tk }) : wpAny (model prog w) A (Builtin.List.listLengthHint (.ref it)) Q E s := by
  unfold Builtin.List.listLengthHint
  refine wpAny_bind (wpAny_specialOf hit.typeIs nolen_rt ?_)
  show wpAny _ _ (specialOf (Value.ref it) (Str.ofString "__length_hint__") >>= _) _ _ _
  refine wpAny_bind (wpAny_specialOf hit.typeIs hint_rt ?_)
  generalize hid : ("reversed.__length_hint__" : String) = id0
  wp_delta
  rw [show splitId id0 = some ("reversed", "__length_hint__") from by subst hid; decide +kernel]
  refine wpAny_bind (wpAny_isInstance (b := true) hit.typeIs (by rw [isSubtype_type]; kernel_rfl) ?_)
  subst hid
  try dsimp only
  rw [if_neg (by decide), if_neg (by decide +kernel)]
  refine wpAny_bind (wpAny_rule ?_)
  rw [bind_rt_hint]
  refine wpAny_bind (wpAny_pure ?_)
  refine wpAny_bind (wpAny_attempt (rt_len hit ht hz hi fun tk u => ?_))
  refine wpAny_bind (wpAny_of_eq (a := some (i + 1)) rfl ?_)
  have f1 : Builtin.List.listFitsIndex (i + 1) = true := by
    have hn := line63
    unfold Builtin.List.listFitsIndex
    simp
    omega
  have f2 : Builtin.List.listTooLong (i + 1).toNat = false := by
    have hn := sizeLine_eq
    unfold Builtin.List.listTooLong
    simp
    omega
  show wpAny _ _ (if (!Builtin.List.listFitsIndex (i + 1)) = true then _ else _) _ _ _
  rw [f1, if_neg (by decide)]
  show wpAny _ _ (if (i + 1 : Int) < 0 then _ else _) _ _ _
  rw [if_neg (by omega)]
  show wpAny _ _ (if Builtin.List.listTooLong (i + 1).toNat = true then _ else _) _ _ _
  rw [f2, if_neg (by decide)]
  exact wpAny_pure (h _)
end
section
variable {prog : Program} {w : World} {A : Around} {s : Shared} {R : Result → Shared → Prop}
theorem walks_rt {prog : Program} {w : World} {A : Around} (hh : A.handled = none) (I t : Addr) (hne : t ≠ I) (items : Array Value) (hz : items.size ≤ sizeLine) :
    Walks prog w A I [I, t] [I] items.size (fun i v => items[items.size - 1 - i]? = some v) (fun i h => i ≤ items.size ∧ RT.IsRt h I t ((items.size : Int) - 1 - (i : Int)) ∧ IsTup h t items) where
  sub := fun b hb => by simp at hb; simp [hb]
  frame := fun _ _ _ x hk => ⟨x.1, x.2.1.at fun o e => hk I (by simp) o e, let ⟨o, ho, r⟩ := x.2.2; ⟨o, hk t (by simp) o ho, r⟩⟩
  item := fun i s Q E hi x hQ => by
    have e : (items.size : Int) - 1 - (i : Int) = ((items.size - 1 - i : Nat) : Int) := by omega
    have hit := x.2.1
    rw [e] at hit
    have hx : items[items.size - 1 - i]? = some (items[items.size - 1 - i]'(by omega)) := Array.getElem?_eq_getElem (by omega)
    refine RT.next_rt_item hit x.2.2 hx hz fun h' hit' hs' => ?_
    have e2 : ((items.size - 1 - i : Nat) : Int) - 1 = (items.size : Int) - 1 - ((i + 1 : Nat) : Int) := by omega
    rw [e2] at hit'
    exact hQ _ h' (s.toks + 1) hx ⟨hi, hit', let ⟨o, ho, r⟩ := x.2.2; ⟨o, (hs'.2 t hne).trans ho, r⟩⟩ fun b o hb eo => hs'.extBut b o (fun h => hb (by simp [h])) eo
  done := fun s Q E x hQ => by
    have e : (items.size : Int) - 1 - (items.size : Int) = -1 := by omega
    have hit := x.2.1
    rw [e] at hit
    exact RT.next_rt_end hh hit fun h' he' => hQ h' s.toks fun b o hb eo => he' b o (fun h => hb (by simp [h])) eo
  self := fun _ _ _ _ x hQ => RT.iter_rt x.2.1 hQ
theorem extend_rt {I t : Addr} {items : Array Value} (hh : A.handled = none) (hne : t ≠ I) (hz : items.size ≤ sizeLine) (S : Addr) (res : Value) (c₀ : Nat) (hit : RT.IsRt s.heap I t ((items.size : Int) - 1)) (ht : IsTup s.heap t items) (hSI : S ≠ I) (hSt : S ≠ t)
    (hS : s.heap.get? S = some { cls := .type "list", data := .seq #[] c₀ })
    (hR : ∀ s' acc' c', (∃ tk, s' = { s with heap := s'.heap, toks := tk }) → (∀ b o, b ≠ S → b ≠ I → s.heap.get? b = some o → s'.heap.get? b = some o) → s'.heap.get? S = some { cls := .type "list", dict := none, data := .seq acc' c', slots := #[] } →
      ItemsOf (fun i v => items[items.size - 1 - i]? = some v) acc' items.size → R (.ok (.ret res)) s') :
    wpAny (model prog w) A.in1 (Builtin.List.listExtendWith (.ref S) (.ref I) res)
      (fun fin s' => match fin with | .done f => R (.ok f) s' | .again c' => c'.quiet = true ∧ codeAny (model prog w) A c' R s') (fun e s' => R (.error e) s') s := by
  have W := (walks_rt (prog := prog) (w := w) (A := A.in1) hh I t hne items hz).toS
  have hSf : S ∉ [I, t] := by simp only [List.mem_cons, List.not_mem_nil, or_false, not_or]; exact ⟨hSI, hSt⟩
  unfold Builtin.List.listExtendWith
  refine wpAny_bind (wpAny_typeOf hit.typeIs ?_)
  have h1 : Builtin.List.listSameRef (.ref S) (.ref I) = false := by simp [Builtin.List.listSameRef, hSI]
  have h2 : (Value.type "reversed" == Value.type "list") = false := by decide
  have h3 : (Value.type "reversed" == Value.type "tuple") = false := by decide
  simp only [h1, h2, h3, Bool.or_false, Bool.false_eq_true, if_false]
  refine wpAny_bind (RT.iter_rt hit ?_)
  refine wpAny_bind (wpAny_holding ?_)
  refine rt_hint hit ht hz (by omega) (by omega) fun tk => ?_
  have e0 : ((items.size : Nat) : Int) - 1 - ((0 : Nat) : Int) = (items.size : Int) - 1 := by omega
  by_cases h0 : items.size = 0
  · rw [show ((items.size : Int) - 1 + 1 != 0) = false from by simp [h0]]
    rw [if_neg (by decide +kernel)]
    refine wpAny_pure ⟨plainId_quiet F.plain_extend_loop _, codeAny_extend_loopS W hz _ hSf _ items.size 0 _ _ _ rfl (Nat.zero_le _) ⟨Nat.zero_le _, by rw [e0]; exact hit, ht⟩ hS (ItemsOf.nil _) fun s' acc' c' hm hS' hacc => ?_⟩
    exact hR s' acc' c' (by have e := Moved.eq_with hm; exact ⟨_, e⟩) (fun b o h1 h2 e => hm.heap b o (by simp [h1, h2]) e) hS' hacc
  · rw [show ((items.size : Int) - 1 + 1 != 0) = true from by rw [bne_iff_ne]; omega]
    rw [if_pos (by decide +kernel)]
    refine wpAny_bind (wpAny_rule ?_)
    refine wpAny_bind ?_
    show wpAny _ A.in1 (updateSeq S (·.push .none) >>= fun _ => updateSeq S (·.pop)) _ _ _
    refine wpAny_bind (wpAny_updateSeq hS rfl ?_)
    have hS₂ := Heap.get?_update_self (Obj.mapSeq (·.push Value.none)) hS rfl
    refine wpAny_updateSeq (hz := by seq_fits) hS₂ rfl ?_
    have hS₃ := Heap.get?_update_self (Obj.mapSeq (·.pop)) hS₂ rfl
    have oth : ∀ b o, b ≠ S → s.heap.get? b = some o → ((s.heap.update S (Obj.mapSeq (·.push Value.none))).update S (Obj.mapSeq (·.pop))).get? b = some o :=
      fun b o hb e => (Heap.get?_update_other _ _ (Ne.symm hb)).trans ((Heap.get?_update_other _ _ (Ne.symm hb)).trans e)
    refine wpAny_pure ⟨plainId_quiet F.plain_extend_loop _, codeAny_extend_loopS W hz _ hSf _ items.size 0 _ _ _ rfl (Nat.zero_le _)
      ⟨Nat.zero_le _, by rw [e0]; exact hit.at fun o e => oth I o (Ne.symm hSI) e, let ⟨o, ho, r⟩ := ht; ⟨o, oth t o (Ne.symm hSt) ho, r⟩⟩ hS₃ (ItemsOf.nil _) fun s' acc' c' hm hS' hacc => ?_⟩
    exact hR s' acc' c' (by have e := Moved.eq_with hm; exact ⟨_, e⟩) (fun b o h1 h2 e => hm.heap b o (by simp [h1, h2]) (oth b o h1 e)) hS' hacc
theorem init_rt {I t : Addr} {items : Array Value} (hh : A.handled = none) (hne : t ≠ I) (hz : items.size ≤ sizeLine) (S : Addr) (hit : RT.IsRt s.heap I t ((items.size : Int) - 1)) (ht : IsTup s.heap t items) (hSI : S ≠ I) (hSt : S ≠ t)
    (hS : s.heap.get? S = some { cls := .type "list", data := .seq #[] })
    (hR : ∀ s' acc' c', (∃ tk, s' = { s with heap := s'.heap, toks := tk }) → (∀ b o, b ≠ S → b ≠ I → s.heap.get? b = some o → s'.heap.get? b = some o) → s'.heap.get? S = some { cls := .type "list", dict := none, data := .seq acc' c', slots := #[] } →
      ItemsOf (fun i v => items[items.size - 1 - i]? = some v) acc' items.size → R (.ok (.ret .none)) s') :
    wpAny (model prog w) A.in1 (Builtin.«list.__init__» ⟨[.ref S, .ref I], []⟩)
      (fun fin s' => match fin with | .done f => R (.ok f) s' | .again c' => c'.quiet = true ∧ codeAny (model prog w) A c' R s') (fun e s' => R (.error e) s') s := by
  show wpAny _ A.in1 (do let old ← Builtin.List.listItems (.ref S); Builtin.List.listUpdate (.ref S) (fun _ => #[]); letGo old.toList.reverse; Builtin.List.listExtendWith (.ref S) (.ref I) .none) _ _ s
  refine wpAny_bind ?_
  unfold Builtin.List.listItems
  refine wpAny_bind (wpAny_seqItems hS rfl (wpAny_pure ?_))
  show wpAny _ A.in1 (updateSeq S (fun _ => #[]) >>= fun _ => letGo (#[] : Array Value).toList.reverse >>= fun _ => Builtin.List.listExtendWith (.ref S) (.ref I) .none) _ _ s
  refine wpAny_bind (wpAny_updateSeq hS rfl ?_)
  have hS₂ := Heap.get?_update_self (Obj.mapSeq (fun _ => (#[] : Array Value))) hS rfl
  have oth : ∀ b o, b ≠ S → s.heap.get? b = some o → (s.heap.update S (Obj.mapSeq (fun _ => (#[] : Array Value)))).get? b = some o :=
    fun b o hb e => (Heap.get?_update_other _ _ (Ne.symm hb)).trans e
  refine wpAny_bind (wpAny_letGo ?_)
  refine extend_rt (s := { s with heap := s.heap.update S (Obj.mapSeq (fun _ => (#[] : Array Value))) }) hh hne hz S .none _ (hit.at fun o e => oth I o (Ne.symm hSI) e) (let ⟨o, ho, r⟩ := ht; ⟨o, oth t o (Ne.symm hSt) ho, r⟩) hSI hSt hS₂ fun s' acc' c' ⟨tk, es⟩ hk hS' hacc => ?_
  exact hR s' acc' c' ⟨tk, es⟩ (fun b o h1 h2 e => hk b o h1 h2 (oth b o h1 e)) hS' hacc
end
section
variable {prog : Program} {w : World} {A : Around} {E : Value → Shared → Prop} {s : Shared}
theorem call_list_rt {I t : Addr} {items : Array Value} {Q : Value → Shared → Prop} (hh : A.handled = none) (hne : t ≠ I) (hz : items.size ≤ sizeLine) (hit : RT.IsRt s.heap I t ((items.size : Int) - 1)) (ht : IsTup s.heap t items)
    (hQ : ∀ (h' : Heap) (tk : Nat) (acc : Array Value) (c : Nat), (∀ b o, b ≠ I → s.heap.get? b = some o → h'.get? b = some o) → h'.get? s.heap.objs.size = some { cls := .type "list", dict := none, data := .seq acc c, slots := #[] } →
      ItemsOf (fun i v => items[items.size - 1 - i]? = some v) acc items.size → Q (.ref s.heap.objs.size) { s with heap := h', toks := tk }) :
    wpAny (model prog w) A (call (.type "list") [.ref I]) Q E s := by
  obtain ⟨oi, hoi, _⟩ := id hit
  obtain ⟨ot, hot, _⟩ := id ht
  have hSI : s.heap.objs.size ≠ I := Nat.ne_of_gt (Heap.lt_size hoi)
  have hSt : s.heap.objs.size ≠ t := Nat.ne_of_gt (Heap.lt_size hot)
  refine callType_codes (Q₁ := fun obj s₁ => obj = .ref s.heap.objs.size ∧ s₁ = { s with heap := s.heap.push { cls := .type "list", data := .seq #[] } }) F.called_list (F.typeCall_list_1 _) F.entry_list_init
    (code_list_new _ ⟨rfl, rfl⟩) fun obj s₁ h₁ => ?_
  obtain ⟨rfl, rfl⟩ := h₁
  have hS : (s.heap.push { cls := .type "list", data := .seq #[] }).get? s.heap.objs.size = some { cls := .type "list", data := .seq #[] } := Heap.get?_push_size _ rfl
  refine ⟨⟨_, hS, rfl⟩, F.args_list_init_2 _ _, init_rt (A := A.in1) (s := { s with heap := s.heap.push { cls := .type "list", data := .seq #[] } }) hh hne hz _ (hit.at fun o e => Heap.get?_push_of_some _ e) (let ⟨o, ho, r⟩ := ht; ⟨o, Heap.get?_push_of_some _ ho, r⟩) hSI hSt hS fun s' acc' c' ⟨tk, es⟩ hk hS' hacc => ?_⟩
  have q := hQ s'.heap tk acc' c' (fun b o hb e => hk b o (Nat.ne_of_lt (Heap.lt_size e)) hb (Heap.get?_push_of_some _ e)) hS' hacc
  rw [es]
  exact ⟨rfl, q⟩
end
section
variable {X : Cx}
/-- list(reversed(x)), x a tuple: a new list -/
def tListRev (te : TE) : TE := fun σ H Q => te σ H fun v H1 => ∃ (a : Addr) (xs : List V), v = .ref a ∧ H1 a = some (.tup xs) ∧ ∀ q, H1 q = none → Q (.ref q) (L2.upd H1 q (.lst xs.reverse))
theorem pe_listRevT {e : Expr} {te : TE} {p p2 pos pos2 : Pos} (hc : X.calm = true) (hg : Gl X "list") (hm : X.mg "list" = none) (hg2 : Gl X "reversed") (hm2 : X.mg "reversed" = none) (he : PE X e te)
    (hs : starEach [e] X.env = (false, eval e X.env) :: starEach [] X.env := by rfl)
    (hs2 : starEach [.Call (.Name "reversed" p2) [e] [] pos2] X.env = (false, eval (.Call (.Name "reversed" p2) [e] [] pos2) X.env) :: starEach [] X.env := by rfl) :
    PE X (.Call (.Name "list" p) [.Call (.Name "reversed" p2) [e] [] pos2] [] pos) (tListRev te) := by
  refine ⟨fun pins s σ H Q I h => ?_⟩
  refine Call_ (ld_blt I hg hm boot_list (PyProof.Rows.callWith_type1 (args_cons (Call_ (ld_blt I hg2 hm2 PyProof.Rows.boot_reversed (PyProof.Rows.callWith_type1 (args_cons (thn (he.run pins s σ H _ I h) fun u s1 ⟨v, H1, I1, r1, q1⟩ => args_nil ?_) hs) hs rfl))) hs2) hs2 rfl))
  obtain ⟨a, xs, ev, hq, q⟩ := q1
  subst ev
  obtain rfl : u = Value.ref a := r1
  obtain ⟨its, rv, p', hz⟩ := I1.tuple (SqT.of hq)
  have hl := rv.length
  have hn := line63
  have hz' : its.toArray.size ≤ sizeLine := by rw [List.size_toArray, ← hl]; exact hz
  refine RT.call_reversed_tup p' (fun A E Q k => PyProof.Rows.len_tuple p' (by omega) k) (args_nil ?_)
  have hit : RT.IsRt (s1.heap.push (RT.rtObj a ((its.toArray.size : Int) - 1))) s1.heap.objs.size a ((its.toArray.size : Int) - 1) := ⟨_, Heap.get?_push_size _ rfl, rfl, rfl⟩
  have pt : IsTup (s1.heap.push (RT.rtObj a ((its.toArray.size : Int) - 1))) a its.toArray := let ⟨o, ho, r⟩ := p'; ⟨o, Heap.get?_push_of_some _ ho, r⟩
  have hne : a ≠ s1.heap.objs.size := Nat.ne_of_lt p'.lt
  refine call_list_rt (s := { s1 with heap := s1.heap.push (RT.rtObj a ((its.toArray.size : Int) - 1)), toks := s1.toks + 1 + 1 }) (I1.ok.hd hc) hne hz' hit pt fun h' tk acc c hk hS hi => ?_
  have sz : (s1.heap.push (RT.rtObj a ((its.toArray.size : Int) - 1))).objs.size = s1.heap.objs.size + 1 := by simp [Heap.push]
  have hle : s1.heap.objs.size ≤ (s1.heap.push (RT.rtObj a ((its.toArray.size : Int) - 1))).objs.size := by rw [sz]; exact Nat.le_succ _
  have I3 := I1.laid (t' := tk) (h' := h') (a := (s1.heap.push (RT.rtObj a ((its.toArray.size : Int) - 1))).objs.size) (o := .lst xs.reverse) (fun b o e => hk b o (Nat.ne_of_lt (Heap.lt_size e)) (Heap.get?_push_of_some _ e)) hle
    (show ObjOk X.prog X.w _ h' _ (.lst xs.reverse) from ⟨by rw [List.length_reverse]; exact hz, acc.toList, c, RT.vals_rev rv hi, by rw [Array.toArray_toList]; exact hS⟩)
  exact ⟨.ref _, _, I3, rfl, q _ (I1.hok.fresh hle)⟩
end

/-! ### texts: isascii, isprintable, encode; a number in bytes -/
section
variable {X : Cx}
theorem mt_isascii : MtR X "str.isascii" (fun x xs H Q => ∃ a, x = .str a ∧ xs = [] ∧ True ∧ Q (.bl (Txt.isascii a)) H) :=
  mt0 (C := fun _ => True) (g := fun a => .bl (Txt.isascii a)) fun _ _ s _ _ h => PySem.SC.isascii (h _ s.toks rfl)
theorem mt_isprintable : MtR X "str.isprintable" (fun x xs H Q => ∃ a, x = .str a ∧ xs = [] ∧ True ∧ Q (.bl (Txt.isprintable a)) H) :=
  mt0 (C := fun _ => True) (g := fun a => .bl (Txt.isprintable a)) fun _ _ s _ _ h => PySem.SC.isprintable (h _ s.toks rfl)
theorem mt_encode : MtR X "str.encode" (fun x xs H Q => ∃ a, x = .str a ∧ xs = [] ∧ PySem.W.KSb.Asc a ∧ a.length ≤ 16777216 ∧ ∀ c, PySem.W.KBw.bInts c = PySem.W.KSb.codes a → Q (.byt c) H) := by
  intro pins s σ H x xs v us Q I rx rs h
  obtain ⟨a, rfl, rfl, h1, h2, h⟩ := h
  obtain ⟨t, rfl⟩ := rx
  cases rs
  exact PySem.W.KSb.encode_K h1 h2 fun c t' k e _ _ => ⟨.byt c, H, I.tok k, ⟨_, rfl⟩, h c e⟩
def rNotInI : R2 := fun x y H Q => ∃ (n : Int) (b : Array UInt8), x = .int n ∧ y = .byt b ∧ 0 ≤ n ∧ n < 256 ∧ Q (.bl (!(PySem.W.KBw.bInts b).contains n)) H
theorem op_notInI : OpR X (compareOp .NotIn) rNotInI := by
  intro pins s σ H x y v u Q I rx ry h
  obtain ⟨n, b, rfl, rfl, h0, h1, q⟩ := h
  obtain ⟨t, rfl⟩ := rx
  obtain ⟨t', rfl⟩ := ry
  exact PySem.W.KBi.notIn_K rfl h0 h1 ⟨.bl _, H, I, rfl, q⟩
theorem pe_isascii {o : Expr} {to : TE} {apos pos : Pos} (ho : PE X o to) (hbase : attributeBase o "isascii" X.env (eval o X.env) = eval o X.env := by rfl) (hline : (apos.endLine == pos.line) = true := by rfl) :
    PE X (.Call (.Attribute o "isascii" apos) [] [] pos) (tM0 (fun x xs H Q => ∃ a, x = .str a ∧ xs = [] ∧ True ∧ Q (.bl (Txt.isascii a)) H) to) := pe_m0 F.slot_str_isascii F.type_str_isascii mt_isascii ho hbase hline
theorem pe_isprintable {o : Expr} {to : TE} {apos pos : Pos} (ho : PE X o to) (hbase : attributeBase o "isprintable" X.env (eval o X.env) = eval o X.env := by rfl) (hline : (apos.endLine == pos.line) = true := by rfl) :
    PE X (.Call (.Attribute o "isprintable" apos) [] [] pos) (tM0 (fun x xs H Q => ∃ a, x = .str a ∧ xs = [] ∧ True ∧ Q (.bl (Txt.isprintable a)) H) to) := pe_m0 F.slot_str_isprintable F.type_str_isprintable mt_isprintable ho hbase hline
theorem pe_encode {o : Expr} {to : TE} {apos pos : Pos} (ho : PE X o to) (hbase : attributeBase o "encode" X.env (eval o X.env) = eval o X.env := by rfl) (hline : (apos.endLine == pos.line) = true := by rfl) :
    PE X (.Call (.Attribute o "encode" apos) [] [] pos) (tM0 (fun x xs H Q => ∃ a, x = .str a ∧ xs = [] ∧ PySem.W.KSb.Asc a ∧ a.length ≤ 16777216 ∧ ∀ c, PySem.W.KBw.bInts c = PySem.W.KSb.codes a → Q (.byt c) H) to) := pe_m0 F.slot_str_encode F.type_str_encode mt_encode ho hbase hline
theorem r_m0 {r : V → List V → Hp → VK → Prop} {to : TE} {σ : L2.St} {H : Hp} {Q : VK} : tM0 r to σ H Q = to σ H (fun x H1 => (∃ a, x = .str a) ∧ r x [] H1 Q) := rfl
theorem r_listrev {te : TE} {σ : L2.St} {H : Hp} {Q : VK} : tListRev te σ H Q = te σ H (fun v H1 => ∃ (a : Addr) (xs : List V), v = .ref a ∧ H1 a = some (.tup xs) ∧ ∀ q, H1 q = none → Q (.ref q) (L2.upd H1 q (.lst xs.reverse))) := rfl
theorem r_notInI {x y : V} {H : Hp} {Q : VK} : rNotInI x y H Q = ∃ (n : Int) (b : Array UInt8), x = .int n ∧ y = .byt b ∧ 0 ≤ n ∧ n < 256 ∧ Q (.bl (!(PySem.W.KBw.bInts b).contains n)) H := rfl

end

/-! ### x is True, x is False; isidentifier; C() of a class without an own __init__ -/
def rIsBl : R2 := fun x y H Q => ∃ c : Bool, y = .bl c ∧ Q (.bl (decide (x = .bl c))) H
section
variable {X : Cx}
theorem op_isB : OpR X (compareOp .Is) rIsBl := by
  intro pins s σ H x y v u Q I rx ry h
  obtain ⟨c, rfl, q⟩ := h
  cases (show u = Value.bool c from ry)
  have eq_ : ∀ {b : Bool}, plainIs v (.bool c) = true → (v == Value.bool c) = b → b = decide (x = .bl c) → wpAny (model X.prog X.w) X.A (compareOp .Is v (.bool c)) (EP X pins σ Q) X.xe s := fun h1 h2 h3 => by
    show wpAny _ _ ((isSame v (Value.bool c)) >>= fun z => pure (Value.bool z)) _ _ s
    refine wpAny_bind (wpAny_isSame_plain h1 (wpAny_pure ?_))
    rw [h2]
    exact ⟨.bl _, H, I, by rw [h3]; rfl, q⟩
  cases x with
  | ref a =>
    cases rx
    exact eq_ rfl rfl rfl
  | non => cases rx; exact eq_ rfl rfl rfl
  | bl b => cases rx; cases b <;> cases c <;> exact eq_ rfl rfl rfl
  | int i => obtain ⟨t, rfl⟩ := rx; exact eq_ rfl rfl rfl
  | str x => obtain ⟨t, rfl⟩ := rx; exact eq_ rfl rfl rfl
  | byt x => obtain ⟨t, rfl⟩ := rx; exact eq_ rfl rfl rfl
  | flt x => obtain ⟨t, rfl⟩ := rx; exact eq_ rfl rfl rfl
  | ty n => cases rx; exact eq_ rfl rfl rfl
theorem r_isBl {x y : V} {H : Hp} {Q : VK} : rIsBl x y H Q = ∃ c : Bool, y = .bl c ∧ Q (.bl (decide (x = .bl c))) H := rfl
theorem mt_isidentifier : MtR X "str.isidentifier" (fun x xs H Q => ∃ a, x = .str a ∧ xs = [] ∧ True ∧ Q (.bl (Txt.isidentifier a)) H) :=
  mt0 (C := fun _ => True) (g := fun a => .bl (Txt.isidentifier a)) fun _ _ s _ _ h => PySem.SC.isidentifier (h _ s.toks rfl)
theorem pe_isidentifier {o : Expr} {to : TE} {apos pos : Pos} (ho : PE X o to) (hbase : attributeBase o "isidentifier" X.env (eval o X.env) = eval o X.env := by rfl) (hline : (apos.endLine == pos.line) = true := by rfl) :
    PE X (.Call (.Attribute o "isidentifier" apos) [] [] pos) (tM0 (fun x xs H Q => ∃ a, x = .str a ∧ xs = [] ∧ True ∧ Q (.bl (Txt.isidentifier a)) H) to) := pe_m0 F.slot_str_isidentifier F.type_str_isidentifier mt_isidentifier ho hbase hline
/-- what a class without an own __init__ must have to be made -/
structure MkP (K : PySem.W.Frag) (C : Addr) : Prop where
  makes : PySem.W.makesIn K C = true
  init : PySem.W.findIn K (.ref C) "__init__" = some (some (.builtin "object.__init__"))
  kp : PySem.W.keepIn K (.ref C) = true
def tPlain (C : Addr) : TE := fun _ H Q => ∀ x dx, H x = none → H dx = none → dx ≠ x → Q (.ref x) (upd (upd H dx (.own x)) x (.ins C dx []))
theorem run_plain {C : Addr} {pins : List (Addr × Obj)} {σ : L2.St} {H : Hp} {s : Shared} {Q : VK} (M : MkP X.K C) (I : Inv X pins σ H s)
    (h : ∀ x dx, H x = none → H dx = none → dx ≠ x → Q (.ref x) (upd (upd H dx (.own x)) x (.ins C dx []))) :
    wpAny (model X.prog X.w) X.A (call (.ref C) []) (EP X pins σ Q) X.xe s := by
  have hq := h (s.heap.objs.size + 1) s.heap.objs.size (I.hok.fresh (Nat.le_succ _)) (I.hok.fresh (Nat.le_refl _)) (Nat.ne_of_lt (Nat.lt_succ_self _))
  have I2 := Inv.made (C := C) I
  refine wpAny_call (make_map0 I.kIn M.makes M.init (fun self => PySem.W.Looks.of_pure (PySem.W.oi_bind _)) ?_)
  obtain ⟨hh, g, d, t, os⟩ := s
  obtain ⟨_, _, _, ho, _⟩ := I2.hok (hh.objs.size + 1) _ upd_same
  have t1 : PySem.W.Looks (model X.prog X.w) ((hh.push PySem.W.emptyDict).push (PySem.W.instObj C hh.objs.size)) (typeOf (.ref (hh.objs.size + 1))) (.ref C) := (PySem.W.Looks.ld ho).andThen .now
  refine codeAny_call_builtin PySem.W.oi_plain PySem.W.entry_oi (@PySem.W.check_slot (model X.prog X.w) _ _ _ "object.__init__" "object" "__init__" (.ref (hh.objs.size + 1)) [] [] _ PySem.W.oi_kind PySem.W.oi_split (t1.andThen (PySem.W.makes_of (M := model X.prog X.w) I2.kIn M.makes).top) (PySem.W.oi_args _) ?_)
  rw [PySem.W.oi_run]
  exact wpAny_pure ⟨rfl, ⟨V.ref (hh.objs.size + 1), _, I2, rfl, hq⟩⟩
theorem pe_plain {C : Addr} {x : Str} {p pos : Pos} (M : MkP X.K C) (hg : Gl X x) (hm : X.mg x = some (.ref C)) (hdb : (x == ("__debug__" : Str)) = false := by decide) : PE X (.Call (.Name x p) [] [] pos) (tPlain C) := by
  refine ⟨fun pins s σ H Q I h => ?_⟩
  refine wpAny_Call_Name_kw (ld_glob I hg hm ?_ hdb)
  exact PySem.W.callWith_K0 I.kIn M.kp (run_plain M I h)
theorem r_plain {C : Addr} {σ : L2.St} {H : Hp} {Q : VK} : tPlain C σ H Q = ∀ x dx, H x = none → H dx = none → dx ≠ x → Q (.ref x) (upd (upd H dx (.own x)) x (.ins C dx [])) := rfl
end

/-! ### kinds of values -/
structure CodeT (K : PySem.W.Frag) (mg : Str → Option Value) (C : Addr) : Prop where
  cI : ClsI K C
  g_Code : mg "Code" = some (.ref C)
  no : ∀ t ∈ ["NoneType", "int", "bool", "str", "list", "tuple", "dict"], PySem.W.kitOne K (.type t) (.ref C) = some false
  na : ∀ f ∈ (["argcount", "onlycount", "stacksize", "flags", "code", "depth", "constants", "names", "slots", "kinds", "name", "path", "line", "lines", "handlers", "identity"] : List Str), NoAttr K C f
structure KnownT (K : PySem.W.Frag) (mg : Str → Option Value) (C : Addr) : Prop where
  cI : ClsI K C
  g_Known : mg "Known" = some (.ref C)
  no : ∀ t ∈ ["NoneType", "int", "bool", "str", "list", "tuple", "dict"], PySem.W.kitOne K (.type t) (.ref C) = some false
def tyL : List String := ["NoneType", "int", "bool", "str", "list", "tuple", "dict"]
def kitB (t u : String) : Bool := t == u || (t == "bool" && u == "int")
theorem kit_all {K : PySem.W.Frag} {t u : String} (ht : t ∈ tyL) (hu : u ∈ ["int", "bool", "str", "tuple", "list"]) : PySem.W.kitOne K (.type t) (.type u) = some (kitB t u) := by
  unfold tyL at ht
  simp only [List.mem_cons, List.not_mem_nil, or_false] at ht hu
  rcases ht with rfl | rfl | rfl | rfl | rfl | rfl | rfl <;> rcases hu with rfl | rfl | rfl | rfl | rfl <;> exact kit_ty (by decide +kernel)
theorem kit_lt {K : PySem.W.Frag} {t : String} (ht : t ∈ tyL) : PySem.W.kitAny K (.type t) [.type "list", .type "tuple"] = some (t == "list" || t == "tuple") := by
  unfold PySem.W.kitAny
  rw [kit_all ht (by decide)]
  unfold PySem.W.kitAny
  rw [kit_all ht (by decide)]
  unfold tyL at ht
  simp only [List.mem_cons, List.not_mem_nil, or_false] at ht
  rcases ht with rfl | rfl | rfl | rfl | rfl | rfl | rfl <;> rfl
/-- a value of a kind of the language's own -/
inductive Kd (H : Hp) : V → String → Prop
  | non : Kd H .non "NoneType"
  | bl (b : Bool) : Kd H (.bl b) "bool"
  | int (i : Int) : Kd H (.int i) "int"
  | str (z : Str) : Kd H (.str z) "str"
  | lst {a : Addr} {xs : List V} (h : H a = some (.lst xs)) : Kd H (.ref a) "list"
  | tup {a : Addr} {xs : List V} (h : H a = some (.tup xs)) : Kd H (.ref a) "tuple"
  | dct {a : Addr} {kvs : List (Key × V)} (h : H a = some (.dK kvs)) : Kd H (.ref a) "dict"
theorem Kd.ty {CC : Addr} {H : Hp} {v : V} {t : String} (h : Kd H v t) : tyD CC H v = some (.type t) ∧ t ∈ tyL := by
  cases h with
  | non => exact ⟨rfl, by decide⟩
  | bl b => exact ⟨rfl, by decide⟩
  | int i => exact ⟨rfl, by decide⟩
  | str z => exact ⟨rfl, by decide⟩
  | lst h => exact ⟨by simp [tyD, tyH, h], by decide⟩
  | tup h => exact ⟨by simp [tyD, tyH, h], by decide⟩
  | dct h => exact ⟨by simp [tyD, tyH, h], by decide⟩
theorem Kd.same {H H' : Hp} {v : V} {t : String} (h : Kd H v t) (s : Same H H') : Kd H' v t := by
  cases h with
  | non => exact .non
  | bl b => exact .bl b
  | int i => exact .int i
  | str z => exact .str z
  | lst h => exact .lst (s _ _ h)
  | tup h => exact .tup (s _ _ h)
  | dct h => exact .dct (s _ _ h)
/-- what is raised -/
def ErrF (CN : Addr) (H : Hp) (E : XK) (f : Str) : Prop := ∀ d H', H d = none → Same H H' → H' d = some (.xd [("field", .str f)]) → E (.ref CN) (some d) H'
theorem ErrF.same {CN : Addr} {H H' : Hp} {E : XK} {f : Str} (h : ErrF CN H E f) (s : Same H H') : ErrF CN H' E f := fun d H2 hd s2 hx => h d H2 (s.free hd) (fun y o e => s2 y o (s y o e)) hx
def Num (i : Int) : Prop := 0 ≤ i ∧ i ≤ 2147483647
/-- no number of a code -/
def BadN (H : Hp) (v : V) : Prop := (∃ t, Kd H v t ∧ t ≠ "int" ∧ t ≠ "bool") ∨ (∃ b, v = .bl b) ∨ ∃ i, v = .int i ∧ ¬ Num i
def spNumberOf (CN : Addr) : Sp := fun vs H Q E => ∃ (v : V) (f : Str), vs = [v, .str f] ∧ ((∃ n, v = .int n ∧ Num n ∧ Q (.int n) H) ∨ (BadN H v ∧ ErrF CN H E f))
/-- a text that a code may have -/
def OkS (z : Str) : Prop := Txt.isascii z = true ∧ z.length ≤ 100000 ∧ (Txt.isidentifier z = true ∨ (Txt.isprintable z = true ∧ PySem.W.KSb.Asc z ∧ (PySem.W.KSb.codes z).contains 37 = false))
def BadZ (z : Str) : Prop := Txt.isascii z = true ∧ Txt.isidentifier z = false ∧ Txt.isprintable z = false
def okSb (z : Str) : Bool := Txt.isascii z && (decide (z.length ≤ 100000) && (Txt.isidentifier z || (Txt.isprintable z && (z.cps.toList.all (fun c => decide (c < 128)) && !((PySem.W.KSb.codes z).contains 37)))))
theorem okS_b {z : Str} (h : okSb z = true) : OkS z := by
  unfold okSb at h
  simp only [Bool.and_eq_true, Bool.or_eq_true, decide_eq_true_eq, Bool.not_eq_true'] at h
  obtain ⟨h1, h2, h3⟩ := h
  refine ⟨h1, h2, h3.imp id fun ⟨q1, q2, q3⟩ => ⟨q1, fun c hc => ?_, q3⟩⟩
  exact of_decide_eq_true (List.all_eq_true.mp q2 c hc)
/-- whether a value is a text that a code may have -/
inductive StrV (H : Hp) : V → Bool → Prop
  | ok (z : Str) (h : OkS z) : StrV H (.str z) true
  | bad (z : Str) (h : BadZ z) : StrV H (.str z) false
  | no {v : V} {t : String} (h : Kd H v t) (n : t ≠ "str") : StrV H v false
theorem StrV.same {H H' : Hp} {v : V} {b : Bool} (h : StrV H v b) (s : Same H H') : StrV H' v b := by
  cases h with
  | ok z h => exact .ok z h
  | bad z h => exact .bad z h
  | no h n => exact .no (h.same s) n
def spIsString : Sp := fun vs H Q _ => ∃ (v : V) (b : Bool), vs = [v] ∧ StrV H v b ∧ ∀ H', Same H H' → Q (.bl b) H'
def spStringOf (CN : Addr) : Sp := fun vs H Q E => ∃ (v : V) (f : Str), vs = [v, .str f] ∧ ((StrV H v true ∧ ∀ H', Same H H' → Q v H') ∨ (StrV H v false ∧ ErrF CN H E f))
section
variable {P : Program} {w : World} {K : PySem.W.Frag} {mg : Str → Option Value} {base : Heap} {f : Addr} {fd : FuncData}
abbrev snumber_of : Stmt := top 12
theorem scnumber_of : FnScope ["value", "field"] ["value", "field"] (defScope snumber_of) := ⟨rfl, rfl, rfl, by decide +kernel, rfl, by decide +kernel, by decide +kernel⟩

abbrev sstring_of : Stmt := top 14
theorem scstring_of : FnScope ["value", "field"] ["value", "field"] (defScope sstring_of) := ⟨rfl, rfl, rfl, by decide +kernel, rfl, by decide +kernel, by decide +kernel⟩

abbrev sis_string : Stmt := top 16
theorem scis_string : FnScope ["value"] ["value"] (defScope sis_string) := ⟨rfl, rfl, rfl, by decide +kernel, rfl, by decide +kernel, by decide +kernel⟩

theorem ok_number_of {CC CN : Addr} (T : Txt mg) (I : CodeT K mg CC) (X_NoCode : Exn P w K mg base "NoCode" CN "field") (F : FnP K "number_of" "number_of" snumber_of f fd) : FnOk P w K mg base (CX P w) 3 f fd ["value", "field"] (spNumberOf CN) := by
  refine F.ok scnumber_of (fun vs H Q E h => ?_) (fun cdv A outer s H vs Q E hr h => ?_)
  · obtain ⟨v, f, rfl, _⟩ := h
    rfl
  · refine ⟨_, (pss_cons (ps_if (PW.pt (pw_or (pt_not (pt_val (pe_callB (call_is_d I.cI) (by rfl) T.b_isinstance (by decide +kernel) (pa_cons (pv 0) (pa_cons (pe_bltn (v := .ty "int") (by rfl) T.b_int (by decide +kernel) rfl) pa_nil))))) (pw_or (pt_cmpR op_isB (pv 0) pe_bl (nomark _)) (pw_or (pt_cmpR op_isB (pv 0) pe_bl (nomark _)) (pw_or1 (pt_not (pt_chain op_le op_le pe_int (pv 0) (pe_gi T.g_GREATEST))))))))
    (pss_one (ps_raise rfl (takes_of rfl rfl rfl rfl) (pmk_x X_NoCode (hr.mono (by decide)) rfl (pv 1))))
    pss_nil)
  (pss_one (ps_ret (pv 0)))), ?_⟩
    obtain ⟨v, f, rfl, h⟩ := h
    show (_ : TS) _ [some v, some (.str f)] H
    simp only [r_seq, r_next, r_brk, r_cont, r_asg, r_name, r_ret, r_retN, r_drop, r_ifs, r_never, r_var, r_c, r_op, r_un, r_if, r_tst, r_b, r_not, r_and, r_or, r_andV, r_orV, r_notV, r_nil, r_cons, r_tup, r_lst, r_cb, r_call, r_bm, r_bm0, r_sl, r_nopart, r_part, r_rev, r_gnil, r_gcons, r_gsub, r_par, r_aug, r_chain, r_I0, r_I, r_U, r_ixd, r_lend, r_tupd, r_listd, r_sld, r_app, r_ext, r_reverse, r_setl, r_cat, r_int1, r_eqS, r_neS, scal_ii, scal_bb, scal_ss, at0, at1, at2, sq_lst, sq_tup, isLst_lst, List.getElem?_cons_zero, List.getElem?_cons_succ, List.set_cons_zero, List.set_cons_succ, V.int.injEq, V.bl.injEq, V.ref.injEq, V.str.injEq, HO.lst.injEq, HO.tup.injEq, Option.some.injEq, exists_eq_left', exists_eq_left, List.cons.injEq, and_true, true_and, decide_eq_true_eq, reduceCtorEq, false_and, exists_false, or_false, false_or, exists_const, and_assoc, exists_and_left, List.append_nil, ix0, ix1, ix2, cm_mod, cdw1009, cdw2003, cdw7, cdw64, cdw2, cm104729, cm2, cm3, upd_same, List.length_cons, List.length_nil, Int.reduceLT, Int.reduceLE, Nat.reduceAdd, Nat.reduceLeDiff, Nat.reduceLT, Int.reduceToNat, r_for1, r_forL, r_forT, r_lcL, r_lc1, r_yes, r_gtupD, wipe_0, wipe_1, List.cons_append, List.nil_append, r_forS, r_ipI, ite_false, ite_true, Bool.not_true, Bool.not_false, decide_true, decide_false, r_isd, r_islt, cD_ty, cD_ref, tD_non, tD_bl, tD_int, tD_str, tD_ref, tH_lst, tH_tup, tH_dK, tH_ins, ki_self, ki_int_bool, ki_non_int, ki_str_int, ki_lt_lst, ki_lt_tup, r_fld, r_sfld, HO.ins.injEq, cx_K, r_isBl]
    rcases h with ⟨n, rfl, ⟨h0, h1⟩, k⟩ | ⟨hb, er⟩
    · simp only [r_seq, r_next, r_brk, r_cont, r_asg, r_name, r_ret, r_retN, r_drop, r_ifs, r_never, r_var, r_c, r_op, r_un, r_if, r_tst, r_b, r_not, r_and, r_or, r_andV, r_orV, r_notV, r_nil, r_cons, r_tup, r_lst, r_cb, r_call, r_bm, r_bm0, r_sl, r_nopart, r_part, r_rev, r_gnil, r_gcons, r_gsub, r_par, r_aug, r_chain, r_I0, r_I, r_U, r_ixd, r_lend, r_tupd, r_listd, r_sld, r_app, r_ext, r_reverse, r_setl, r_cat, r_int1, r_eqS, r_neS, scal_ii, scal_bb, scal_ss, at0, at1, at2, sq_lst, sq_tup, isLst_lst, List.getElem?_cons_zero, List.getElem?_cons_succ, List.set_cons_zero, List.set_cons_succ, V.int.injEq, V.bl.injEq, V.ref.injEq, V.str.injEq, HO.lst.injEq, HO.tup.injEq, Option.some.injEq, exists_eq_left', exists_eq_left, List.cons.injEq, and_true, true_and, decide_eq_true_eq, reduceCtorEq, false_and, exists_false, or_false, false_or, exists_const, and_assoc, exists_and_left, List.append_nil, ix0, ix1, ix2, cm_mod, cdw1009, cdw2003, cdw7, cdw64, cdw2, cm104729, cm2, cm3, upd_same, List.length_cons, List.length_nil, Int.reduceLT, Int.reduceLE, Nat.reduceAdd, Nat.reduceLeDiff, Nat.reduceLT, Int.reduceToNat, r_for1, r_forL, r_forT, r_lcL, r_lc1, r_yes, r_gtupD, wipe_0, wipe_1, List.cons_append, List.nil_append, r_forS, r_ipI, ite_false, ite_true, Bool.not_true, Bool.not_false, decide_true, decide_false, r_isd, r_islt, cD_ty, cD_ref, tD_non, tD_bl, tD_int, tD_str, tD_ref, tH_lst, tH_tup, tH_dK, tH_ins, ki_self, ki_int_bool, ki_non_int, ki_str_int, ki_lt_lst, ki_lt_tup, r_fld, r_sfld, HO.ins.injEq, cx_K, h0, h1]
      exact k
    · have raise : (tMkO CN (spXInit CN "field") [] (tCons (tVar 1) tNil) [some v, some (.str f)] H fun cls d H' => E cls d H') := raise_x (v := .str f) (fun Q q => ⟨_, rfl, q⟩) er
      rcases hb with ⟨t, hk, n1, n2⟩ | ⟨b, rfl⟩ | ⟨i, rfl, hn⟩
      · obtain ⟨h1, h2⟩ := hk.ty (CC := CC)
        refine ⟨_, h1, _, kit_all h2 (by decide), ?_⟩
        rw [if_pos (by unfold kitB; simp [n1, n2])]
        exact raise
      · refine ⟨_, rfl, true, kit_all (t := "bool") (by decide) (by decide), ?_⟩
        rw [if_neg (by decide)]
        cases b with
        | true =>
          rw [if_pos rfl]
          exact raise
        | false =>
          rw [if_neg (by decide), if_pos rfl]
          exact raise
      · refine ⟨_, rfl, true, ki_self, ?_⟩
        rw [if_neg (by decide), if_neg (by simp), if_neg (by simp)]
        refine ⟨i, rfl, ?_⟩
        by_cases c : 0 ≤ i
        · rw [if_pos c]
          refine ⟨i, rfl, ?_⟩
          rw [if_pos (by simp; unfold Num at hn; omega)]
          exact raise
        · rw [if_neg c]
          exact raise
theorem ok_is_string {CC : Addr} (T : Txt mg) (I : CodeT K mg CC) (F : FnP K "is_string" "is_string" sis_string f fd) : FnOk P w K mg base CX0 1 f fd ["value"] spIsString := by
  refine F.ok scis_string (fun vs H Q E h => ?_) (fun cdv A outer s H vs Q E hr h => ?_)
  · obtain ⟨v, b, rfl, _⟩ := h
    rfl
  · obtain ⟨v, b, rfl, hv, k⟩ := h
    refine ⟨_, PSs.nox (pss_cons (ps_if (PW.pt (pw_or (pt_not (pt_val (pe_callB (call_is_d I.cI) (by rfl) T.b_isinstance (by decide +kernel) (pa_cons (pv 0) (pa_cons (pe_bltn (v := .ty "str") (by rfl) T.b_str (by decide +kernel) rfl) pa_nil))))) (pw_or1 (pt_not (pt_val (pe_isascii (pv 0)))))))
    (pss_one (ps_ret pe_bl))
    pss_nil)
  (pss_one (ps_ret (pe_or (pe_isidentifier (pv 0)) (pe_one (pe_and (pe_isprintable (pv 0)) (pe_one (pe_cmpR op_notInI (pe_gi T.g_BARRED) (pe_encode (pv 0)) (by rfl))))))))), ?_⟩
    show (_ : TS) _ [some v] H
    simp only [r_seq, r_next, r_brk, r_cont, r_asg, r_name, r_ret, r_retN, r_drop, r_ifs, r_never, r_var, r_c, r_op, r_un, r_if, r_tst, r_b, r_not, r_and, r_or, r_andV, r_orV, r_notV, r_nil, r_cons, r_tup, r_lst, r_cb, r_call, r_bm, r_bm0, r_sl, r_nopart, r_part, r_rev, r_gnil, r_gcons, r_gsub, r_par, r_aug, r_chain, r_I0, r_I, r_U, r_ixd, r_lend, r_tupd, r_listd, r_sld, r_app, r_ext, r_reverse, r_setl, r_cat, r_int1, r_eqS, r_neS, scal_ii, scal_bb, scal_ss, at0, at1, at2, sq_lst, sq_tup, isLst_lst, List.getElem?_cons_zero, List.getElem?_cons_succ, List.set_cons_zero, List.set_cons_succ, V.int.injEq, V.bl.injEq, V.ref.injEq, V.str.injEq, HO.lst.injEq, HO.tup.injEq, Option.some.injEq, exists_eq_left', exists_eq_left, List.cons.injEq, and_true, true_and, decide_eq_true_eq, reduceCtorEq, false_and, exists_false, or_false, false_or, exists_const, and_assoc, exists_and_left, List.append_nil, ix0, ix1, ix2, cm_mod, cdw1009, cdw2003, cdw7, cdw64, cdw2, cm104729, cm2, cm3, upd_same, List.length_cons, List.length_nil, Int.reduceLT, Int.reduceLE, Nat.reduceAdd, Nat.reduceLeDiff, Nat.reduceLT, Int.reduceToNat, r_for1, r_forL, r_forT, r_lcL, r_lc1, r_yes, r_gtupD, wipe_0, wipe_1, List.cons_append, List.nil_append, r_forS, r_ipI, ite_false, ite_true, Bool.not_true, Bool.not_false, decide_true, decide_false, r_isd, r_islt, cD_ty, cD_ref, tD_non, tD_bl, tD_int, tD_str, tD_ref, tH_lst, tH_tup, tH_dK, tH_ins, ki_self, ki_int_bool, ki_non_int, ki_str_int, ki_lt_lst, ki_lt_tup, r_fld, r_sfld, HO.ins.injEq, cx_K, r_m0]
    cases hv with
    | ok z h =>
      obtain ⟨e1, e2, e3⟩ := h
      simp only [r_seq, r_next, r_brk, r_cont, r_asg, r_name, r_ret, r_retN, r_drop, r_ifs, r_never, r_var, r_c, r_op, r_un, r_if, r_tst, r_b, r_not, r_and, r_or, r_andV, r_orV, r_notV, r_nil, r_cons, r_tup, r_lst, r_cb, r_call, r_bm, r_bm0, r_sl, r_nopart, r_part, r_rev, r_gnil, r_gcons, r_gsub, r_par, r_aug, r_chain, r_I0, r_I, r_U, r_ixd, r_lend, r_tupd, r_listd, r_sld, r_app, r_ext, r_reverse, r_setl, r_cat, r_int1, r_eqS, r_neS, scal_ii, scal_bb, scal_ss, at0, at1, at2, sq_lst, sq_tup, isLst_lst, List.getElem?_cons_zero, List.getElem?_cons_succ, List.set_cons_zero, List.set_cons_succ, V.int.injEq, V.bl.injEq, V.ref.injEq, V.str.injEq, HO.lst.injEq, HO.tup.injEq, Option.some.injEq, exists_eq_left', exists_eq_left, List.cons.injEq, and_true, true_and, decide_eq_true_eq, reduceCtorEq, false_and, exists_false, or_false, false_or, exists_const, and_assoc, exists_and_left, List.append_nil, ix0, ix1, ix2, cm_mod, cdw1009, cdw2003, cdw7, cdw64, cdw2, cm104729, cm2, cm3, upd_same, List.length_cons, List.length_nil, Int.reduceLT, Int.reduceLE, Nat.reduceAdd, Nat.reduceLeDiff, Nat.reduceLT, Int.reduceToNat, r_for1, r_forL, r_forT, r_lcL, r_lc1, r_yes, r_gtupD, wipe_0, wipe_1, List.cons_append, List.nil_append, r_forS, r_ipI, ite_false, ite_true, Bool.not_true, Bool.not_false, decide_true, decide_false, r_isd, r_islt, cD_ty, cD_ref, tD_non, tD_bl, tD_int, tD_str, tD_ref, tH_lst, tH_tup, tH_dK, tH_ins, ki_self, ki_int_bool, ki_non_int, ki_str_int, ki_lt_lst, ki_lt_tup, r_fld, r_sfld, HO.ins.injEq, cx_K]
      refine ⟨⟨_, rfl⟩, ?_⟩
      rw [e1, if_neg (by decide)]
      refine ⟨⟨_, rfl⟩, ?_⟩
      rcases e3 with e3 | ⟨e3, e4, e5⟩
      · rw [if_pos e3]
        exact k H (Same.refl H)
      · by_cases c : Txt.isidentifier z = true
        · rw [if_pos c]
          exact k H (Same.refl H)
        · rw [if_neg c, if_pos e3]
          refine ⟨⟨_, rfl⟩, ⟨_, rfl⟩, e4, Nat.le_trans e2 (by decide), fun cc hc => ⟨37, cc, rfl, rfl, by decide, by decide, ?_⟩⟩
          rw [hc, e5]
          exact k H (Same.refl H)
    | bad z h =>
      obtain ⟨e1, e2, e3⟩ := h
      simp only [r_seq, r_next, r_brk, r_cont, r_asg, r_name, r_ret, r_retN, r_drop, r_ifs, r_never, r_var, r_c, r_op, r_un, r_if, r_tst, r_b, r_not, r_and, r_or, r_andV, r_orV, r_notV, r_nil, r_cons, r_tup, r_lst, r_cb, r_call, r_bm, r_bm0, r_sl, r_nopart, r_part, r_rev, r_gnil, r_gcons, r_gsub, r_par, r_aug, r_chain, r_I0, r_I, r_U, r_ixd, r_lend, r_tupd, r_listd, r_sld, r_app, r_ext, r_reverse, r_setl, r_cat, r_int1, r_eqS, r_neS, scal_ii, scal_bb, scal_ss, at0, at1, at2, sq_lst, sq_tup, isLst_lst, List.getElem?_cons_zero, List.getElem?_cons_succ, List.set_cons_zero, List.set_cons_succ, V.int.injEq, V.bl.injEq, V.ref.injEq, V.str.injEq, HO.lst.injEq, HO.tup.injEq, Option.some.injEq, exists_eq_left', exists_eq_left, List.cons.injEq, and_true, true_and, decide_eq_true_eq, reduceCtorEq, false_and, exists_false, or_false, false_or, exists_const, and_assoc, exists_and_left, List.append_nil, ix0, ix1, ix2, cm_mod, cdw1009, cdw2003, cdw7, cdw64, cdw2, cm104729, cm2, cm3, upd_same, List.length_cons, List.length_nil, Int.reduceLT, Int.reduceLE, Nat.reduceAdd, Nat.reduceLeDiff, Nat.reduceLT, Int.reduceToNat, r_for1, r_forL, r_forT, r_lcL, r_lc1, r_yes, r_gtupD, wipe_0, wipe_1, List.cons_append, List.nil_append, r_forS, r_ipI, ite_false, ite_true, Bool.not_true, Bool.not_false, decide_true, decide_false, r_isd, r_islt, cD_ty, cD_ref, tD_non, tD_bl, tD_int, tD_str, tD_ref, tH_lst, tH_tup, tH_dK, tH_ins, ki_self, ki_int_bool, ki_non_int, ki_str_int, ki_lt_lst, ki_lt_tup, r_fld, r_sfld, HO.ins.injEq, cx_K]
      refine ⟨⟨_, rfl⟩, ?_⟩
      rw [e1, if_neg (by decide)]
      refine ⟨⟨_, rfl⟩, ?_⟩
      rw [e2, if_neg (by decide), e3, if_neg (by decide)]
      exact ⟨⟨_, rfl⟩, k H (Same.refl H)⟩
    | @no _ t h n =>
      obtain ⟨h1, h2⟩ := h.ty (CC := CC)
      refine ⟨_, h1, _, kit_all h2 (by decide), ?_⟩
      rw [if_pos (by unfold kitB; simp [n])]
      exact k H (Same.refl H)
theorem ok_string_of {CC CN : Addr} (T : Txt mg) (I : CodeT K mg CC) (X_NoCode : Exn P w K mg base "NoCode" CN "field") (F : FnP K "string_of" "string_of" sstring_of f fd) (C_is_string : Cal P w K mg base 1 "is_string" ["value"] spIsString) : FnOk P w K mg base (CX P w) 3 f fd ["value", "field"] (spStringOf CN) := by
  refine F.ok scstring_of (fun vs H Q E h => ?_) (fun cdv A outer s H vs Q E hr h => ?_)
  · obtain ⟨v, f, rfl, _⟩ := h
    rfl
  · refine ⟨_, (pss_cons (ps_if (pt_not (pt_val (pe_cal C_is_string (hr.mono (by decide)) rfl (pa_cons (pv 0) pa_nil))))
    (pss_one (ps_raise rfl (takes_of rfl rfl rfl rfl) (pmk_x X_NoCode (hr.mono (by decide)) rfl (pv 1))))
    pss_nil)
  (pss_one (ps_ret (pv 0)))), ?_⟩
    obtain ⟨v, f, rfl, h⟩ := h
    show (_ : TS) _ [some v, some (.str f)] H
    simp only [r_seq, r_next, r_brk, r_cont, r_asg, r_name, r_ret, r_retN, r_drop, r_ifs, r_never, r_var, r_c, r_op, r_un, r_if, r_tst, r_b, r_not, r_and, r_or, r_andV, r_orV, r_notV, r_nil, r_cons, r_tup, r_lst, r_cb, r_call, r_bm, r_bm0, r_sl, r_nopart, r_part, r_rev, r_gnil, r_gcons, r_gsub, r_par, r_aug, r_chain, r_I0, r_I, r_U, r_ixd, r_lend, r_tupd, r_listd, r_sld, r_app, r_ext, r_reverse, r_setl, r_cat, r_int1, r_eqS, r_neS, scal_ii, scal_bb, scal_ss, at0, at1, at2, sq_lst, sq_tup, isLst_lst, List.getElem?_cons_zero, List.getElem?_cons_succ, List.set_cons_zero, List.set_cons_succ, V.int.injEq, V.bl.injEq, V.ref.injEq, V.str.injEq, HO.lst.injEq, HO.tup.injEq, Option.some.injEq, exists_eq_left', exists_eq_left, List.cons.injEq, and_true, true_and, decide_eq_true_eq, reduceCtorEq, false_and, exists_false, or_false, false_or, exists_const, and_assoc, exists_and_left, List.append_nil, ix0, ix1, ix2, cm_mod, cdw1009, cdw2003, cdw7, cdw64, cdw2, cm104729, cm2, cm3, upd_same, List.length_cons, List.length_nil, Int.reduceLT, Int.reduceLE, Nat.reduceAdd, Nat.reduceLeDiff, Nat.reduceLT, Int.reduceToNat, r_for1, r_forL, r_forT, r_lcL, r_lc1, r_yes, r_gtupD, wipe_0, wipe_1, List.cons_append, List.nil_append, r_forS, r_ipI, ite_false, ite_true, Bool.not_true, Bool.not_false, decide_true, decide_false, r_isd, r_islt, cD_ty, cD_ref, tD_non, tD_bl, tD_int, tD_str, tD_ref, tH_lst, tH_tup, tH_dK, tH_ins, ki_self, ki_int_bool, ki_non_int, ki_str_int, ki_lt_lst, ki_lt_tup, r_fld, r_sfld, HO.ins.injEq, cx_K]
    rcases h with ⟨hv, k⟩ | ⟨hv, er⟩
    · refine ⟨v, true, rfl, hv, fun H1 s1 => ⟨true, rfl, ?_⟩⟩
      rw [if_neg (by decide)]
      exact k H1 s1
    · refine ⟨v, false, rfl, hv, fun H1 s1 => ⟨false, rfl, ?_⟩⟩
      rw [if_pos (by decide)]
      exact raise_x (v := .str f) (fun Q q => ⟨_, rfl, q⟩) (er.same s1)
end
end C51

set_option maxHeartbeats 2000000
namespace C51
open PySem PySem.Spec PyProof.Rows L2
theorem call_tup_d {X : Cx} : CallR X (.type "tuple") (fun xs H Q => ∃ (p : Addr) (ys : List V), xs = [.ref p] ∧ sq (H p) = some ys ∧ ∀ l H', Same H H' → H' l = some (.tup ys) → Q (.ref l) H') :=
  CallR.imp' (call_tuple_of (X := X)) fun vs H Q ⟨p, ys, e, h, k⟩ => ⟨p, ys, e, by
    rcases sq_cases h with h | h
    · exact .inl ⟨SqL.of h, fun l hl => k l _ (Same.new' (Same.refl H) hl) upd_same⟩
    · exact .inr ⟨SqT.of h, k p H (Same.refl H) h⟩⟩
/-! ### rows of bytes and of texts -/
def vn (xs : List Nat) : List V := xs.map fun d : Nat => V.int (d : Int)
theorem vn_app {xs ys : List Nat} : vn (xs ++ ys) = vn xs ++ vn ys := by
  unfold vn
  rw [List.map_append]
theorem vn_len {xs : List Nat} : (vn xs).length = xs.length := by
  unfold vn
  rw [List.length_map]
theorem vn_get {xs : List Nat} {i : Nat} (h : i < (vn xs).length) : (vn xs)[i] = .int ((xs[i]'(by rw [vn_len] at h; exact h) : Nat) : Int) := by
  exact List.getElem_map ..
def BadB (H : Hp) (x : V) : Prop := (∃ t, Kd H x t ∧ t ≠ "int") ∨ ∃ i, x = .int i ∧ ¬ (0 ≤ i ∧ i ≤ 255)
theorem BadB.same {H H' : Hp} {x : V} (h : BadB H x) (s : Same H H') : BadB H' x := h.imp (fun ⟨t, k, n⟩ => ⟨t, k.same s, n⟩) id
/-- what a row is, and whether all of it is as F says -/
def NoRow (H : Hp) (v : V) : Prop := ∃ t, Kd H v t ∧ t ≠ "list" ∧ t ≠ "tuple"
def BadRow (H : Hp) (v : V) : Prop := NoRow H v ∨ ∃ (a : Addr) (pre : List Nat) (x : V) (post : List V), v = .ref a ∧ sq (H a) = some (vn pre ++ x :: post) ∧ (∀ n ∈ pre, n < 256) ∧ BadB H x
def spBytesOf (CN : Addr) : Sp := fun vs H Q E => ∃ (v : V) (f : Str), vs = [v, .str f] ∧ ((∃ (a : Addr) (ns : List Nat), v = .ref a ∧ sq (H a) = some (vn ns) ∧ (∀ n ∈ ns, n < 256) ∧ ∀ p H', Same H H' → H' p = some (.tup (vn ns)) → Q (.ref p) H') ∨ (BadRow H v ∧ ErrF CN H E f))
def BadRowS (H : Hp) (v : V) : Prop := NoRow H v ∨ ∃ (a : Addr) (pre : List V) (x : V) (post : List V), v = .ref a ∧ sq (H a) = some (pre ++ x :: post) ∧ (∀ y ∈ pre, StrV H y true) ∧ StrV H x false
def spStringsOf (CN : Addr) : Sp := fun vs H Q E => ∃ (v : V) (f : Str), vs = [v, .str f] ∧ ((∃ (a : Addr) (zs : List Str), v = .ref a ∧ sq (H a) = some (zs.map V.str) ∧ (∀ z ∈ zs, OkS z) ∧ ∀ p H', Same H H' → H' p = some (.tup (zs.map V.str)) → Q (.ref p) H') ∨ (BadRowS H v ∧ ErrF CN H E f))
theorem sq_ty {CC a : Addr} {H : Hp} {xs : List V} (h : sq (H a) = some xs) : ∃ t, Kd H (.ref a) t ∧ (t = "list" ∨ t = "tuple") := by
  rcases sq_cases h with h | h
  · exact ⟨_, .lst h, .inl rfl⟩
  · exact ⟨_, .tup h, .inr rfl⟩
theorem sq_same {a : Addr} {H H' : Hp} {xs : List V} (h : sq (H a) = some xs) (s : Same H H') : sq (H' a) = some xs := by
  rcases sq_cases h with e | e
  · rw [s _ _ e]
    rfl
  · rw [s _ _ e]
    rfl
section
variable {P : Program} {w : World} {K : PySem.W.Frag} {mg : Str → Option Value} {base : Heap} {f : Addr} {fd : FuncData}
abbrev sbytes_of : Stmt := top 13
theorem scbytes_of : FnScope ["row", "field", "value"] ["row", "field"] (defScope sbytes_of) := ⟨rfl, rfl, rfl, by decide +kernel, rfl, by decide +kernel, by decide +kernel⟩

abbrev sstrings_of : Stmt := top 15
theorem scstrings_of : FnScope ["row", "field", "value"] ["row", "field"] (defScope sstrings_of) := ⟨rfl, rfl, rfl, by decide +kernel, rfl, by decide +kernel, by decide +kernel⟩

theorem ok_bytes_of {CC KC CN : Addr} (T : Txt mg) (I : CodeT K mg CC) (IK : KnownT K mg KC) (X_NoCode : Exn P w K mg base "NoCode" CN "field") (F : FnP K "bytes_of" "bytes_of" sbytes_of f fd) : FnOk P w K mg base (CX P w) 3 f fd ["row", "field"] (spBytesOf CN) := by
  refine F.ok scbytes_of (fun vs H Q E h => ?_) (fun cdv A outer s H vs Q E hr h => ?_)
  · obtain ⟨v, f, rfl, _⟩ := h
    rfl
  · refine ⟨_, (pss_cons (ps_if (pt_val (pe_callB (call_is_d IK.cI) (by rfl) T.b_isinstance (by decide +kernel) (pa_cons (pv 0) (pa_cons (pe_glob (v := .ref _) rfl IK.g_Known rfl) pa_nil))))
    (pss_one (ps_ret (pe_callTy call_tuple_d (by rfl) T.b_tuple (by decide +kernel) (pa_cons (pe_fld (pv 0) rfl) pa_nil))))
    pss_nil)
  (pss_cons (ps_if (pt_not (pt_val (pe_callB (call_is_lt I.cI) (by rfl) T.b_isinstance (by decide +kernel) (pa_cons (pv 0) (pa_cons (pe_tup (pa_cons (pe_bltn (v := .ty "list") (by rfl) T.b_list (by decide +kernel) rfl) (pa_cons (pe_bltn (v := .ty "tuple") (by rfl) T.b_tuple (by decide +kernel) rfl) pa_nil))) pa_nil)))))
    (pss_one (ps_raise rfl (takes_of rfl rfl rfl rfl) (pmk_x X_NoCode (hr.mono (by decide)) rfl (pv 1))))
    pss_nil)
  (pss_cons (ps_for (passes_of rfl) rfl (pi_seqV 0) (pg_name (i := 2) scbytes_of.nd rfl (Or.inl rfl))
    (pss_one (ps_if (PW.pt (pw_or (pt_not (pt_val (pe_callB (call_is_d I.cI) (by rfl) T.b_isinstance (by decide +kernel) (pa_cons (pv 2) (pa_cons (pe_bltn (v := .ty "int") (by rfl) T.b_int (by decide +kernel) rfl) pa_nil))))) (pw_or (pt_val (pe_callB (call_is_d I.cI) (by rfl) T.b_isinstance (by decide +kernel) (pa_cons (pv 2) (pa_cons (pe_bltn (v := .ty "bool") (by rfl) T.b_bool (by decide +kernel) rfl) pa_nil)))) (pw_or1 (pt_not (pt_chain op_le op_le pe_int (pv 2) pe_int))))))
    (pss_one (ps_raise rfl (takes_of rfl rfl rfl rfl) (pmk_x X_NoCode (hr.mono (by decide)) rfl (pv 1))))
    pss_nil)))
  (pss_one (ps_ret (pe_callTy call_tup_d (by rfl) T.b_tuple (by decide +kernel) (pa_cons (pv 0) pa_nil))))))), ?_⟩
    obtain ⟨v, f, rfl, h⟩ := h
    show (_ : TS) _ [some v, some (.str f), none] H
    simp only [r_seq, r_next, r_brk, r_cont, r_asg, r_name, r_ret, r_retN, r_drop, r_ifs, r_never, r_var, r_c, r_op, r_un, r_if, r_tst, r_b, r_not, r_and, r_or, r_andV, r_orV, r_notV, r_nil, r_cons, r_tup, r_lst, r_cb, r_call, r_bm, r_bm0, r_sl, r_nopart, r_part, r_rev, r_gnil, r_gcons, r_gsub, r_par, r_aug, r_chain, r_I0, r_I, r_U, r_ixd, r_lend, r_tupd, r_listd, r_sld, r_app, r_ext, r_reverse, r_setl, r_cat, r_int1, r_eqS, r_neS, scal_ii, scal_bb, scal_ss, at0, at1, at2, sq_lst, sq_tup, isLst_lst, List.getElem?_cons_zero, List.getElem?_cons_succ, List.set_cons_zero, List.set_cons_succ, V.int.injEq, V.bl.injEq, V.ref.injEq, V.str.injEq, HO.lst.injEq, HO.tup.injEq, Option.some.injEq, exists_eq_left', exists_eq_left, List.cons.injEq, and_true, true_and, decide_eq_true_eq, reduceCtorEq, false_and, exists_false, or_false, false_or, exists_const, and_assoc, exists_and_left, List.append_nil, ix0, ix1, ix2, cm_mod, cdw1009, cdw2003, cdw7, cdw64, cdw2, cm104729, cm2, cm3, upd_same, List.length_cons, List.length_nil, Int.reduceLT, Int.reduceLE, Nat.reduceAdd, Nat.reduceLeDiff, Nat.reduceLT, Int.reduceToNat, r_for1, r_forL, r_forT, r_lcL, r_lc1, r_yes, r_gtupD, wipe_0, wipe_1, List.cons_append, List.nil_append, r_forS, r_ipI, ite_false, ite_true, Bool.not_true, Bool.not_false, decide_true, decide_false, r_isd, r_islt, cD_ty, cD_ref, tD_non, tD_bl, tD_int, tD_str, tD_ref, tH_lst, tH_tup, tH_dK, tH_ins, ki_self, ki_int_bool, ki_non_int, ki_str_int, ki_lt_lst, ki_lt_tup, r_fld, r_sfld, HO.ins.injEq, cx_K]
    have kd : ∃ t, Kd H v t := by
      rcases h with ⟨a, ns, rfl, h1, _⟩ | ⟨⟨t, h1, _⟩ | ⟨a, pre, x, post, rfl, h1, _⟩, _⟩
      · obtain ⟨t, q, _⟩ := sq_ty (CC := CC) h1
        exact ⟨t, q⟩
      · exact ⟨t, h1⟩
      · obtain ⟨t, q, _⟩ := sq_ty (CC := CC) h1
        exact ⟨t, q⟩
    obtain ⟨t, kt⟩ := kd
    obtain ⟨h1, h2⟩ := kt.ty (CC := CC)
    obtain ⟨h1', _⟩ := kt.ty (CC := KC)
    refine ⟨_, h1', false, IK.no t h2, ?_⟩
    rw [if_neg (by decide)]
    refine ⟨szl (by decide), fun p hp => ?_⟩
    have sp := Same.new' (o := .tup [.ty "list", .ty "tuple"]) (Same.refl H) hp
    generalize L2.upd H p (.tup [.ty "list", .ty "tuple"]) = G at *
    obtain ⟨h3, _⟩ := (kt.same sp).ty (CC := CC)
    refine ⟨_, h3, _, kit_lt h2, ?_⟩
    have raise : ∀ (G' : Hp) (v3 : Option V), Same H G' → ErrF CN H E f → (tMkO CN (spXInit CN "field") [] (tCons (tVar 1) tNil) [some v, some (.str f), v3] G' fun cls d H' => E cls d H') := fun G' v3 s1 er => raise_x (v := .str f) (fun Q q => ⟨_, rfl, q⟩) (er.same s1)
    have row : ∀ (a : Addr) (xs : List V), v = .ref a → sq (H a) = some xs → (t == "list" || t == "tuple") = true := fun a xs e q => by
      subst e
      rcases sq_cases q with q | q
      · cases kt with
        | lst _ => rfl
        | tup z => rw [q] at z; cases z
        | dct z => rw [q] at z; cases z
      · cases kt with
        | lst z => rw [q] at z; cases z
        | tup _ => rfl
        | dct z => rw [q] at z; cases z
    have cs : (∃ (a : Addr) (xs : List V) (m : Nat), v = .ref a ∧ sq (H a) = some xs ∧ (∀ i (h : i < xs.length), i < m → ∃ n : Nat, xs[i] = .int (n : Int) ∧ n < 256) ∧ ((m = xs.length ∧ ∀ p H', Same H H' → H' p = some (.tup xs) → Q (.ref p) H') ∨ (∃ h : m < xs.length, BadB H xs[m] ∧ ErrF CN H E f))) ∨ (NoRow H v ∧ ErrF CN H E f) := by
      rcases h with ⟨a, ns, e, q, hb, k⟩ | ⟨nr | ⟨a, pre, x, post, e, q, hb, bx⟩, er⟩
      · exact .inl ⟨a, _, ns.length, e, q, fun i hi _ => ⟨_, vn_get hi, hb _ (List.getElem_mem _)⟩, .inl ⟨vn_len.symm, k⟩⟩
      · exact .inr ⟨nr, er⟩
      · have lt : (vn pre).length < (vn pre ++ x :: post).length := by rw [List.length_append, List.length_cons]; omega
        exact .inl ⟨a, _, (vn pre).length, e, q, fun i hi hm => ⟨_, by rw [List.getElem_append_left hm]; exact vn_get hm, hb _ (List.getElem_mem _)⟩, .inr ⟨lt, by rw [List.getElem_append_right (Nat.le_refl _)]; simpa using bx, er⟩⟩
    rcases cs with ⟨a, xs, m, e, q, hpre, hend⟩ | ⟨⟨t', k1, n1, n2⟩, er⟩
    · rw [row a _ e q, if_neg (by decide)]
      subst e
      refine ⟨a, rfl, lp_seq (sq_same q sp) (fun i σ H' => (∃ v3, σ = [some (.ref a), some (.str f), v3]) ∧ H' = G ∧ i ≤ m) ⟨⟨_, rfl⟩, rfl, Nat.zero_le _⟩ (fun i σ H' h => by rw [h.2.1]) ?_ ?_⟩
      · rintro i x σ H' hx ⟨⟨v3, rfl⟩, rfl, him⟩
        obtain ⟨hi, rfl⟩ := List.getElem?_eq_some_iff.mp hx
        simp only [r_seq, r_next, r_brk, r_cont, r_asg, r_name, r_ret, r_retN, r_drop, r_ifs, r_never, r_var, r_c, r_op, r_un, r_if, r_tst, r_b, r_not, r_and, r_or, r_andV, r_orV, r_notV, r_nil, r_cons, r_tup, r_lst, r_cb, r_call, r_bm, r_bm0, r_sl, r_nopart, r_part, r_rev, r_gnil, r_gcons, r_gsub, r_par, r_aug, r_chain, r_I0, r_I, r_U, r_ixd, r_lend, r_tupd, r_listd, r_sld, r_app, r_ext, r_reverse, r_setl, r_cat, r_int1, r_eqS, r_neS, scal_ii, scal_bb, scal_ss, at0, at1, at2, sq_lst, sq_tup, isLst_lst, List.getElem?_cons_zero, List.getElem?_cons_succ, List.set_cons_zero, List.set_cons_succ, V.int.injEq, V.bl.injEq, V.ref.injEq, V.str.injEq, HO.lst.injEq, HO.tup.injEq, Option.some.injEq, exists_eq_left', exists_eq_left, List.cons.injEq, and_true, true_and, decide_eq_true_eq, reduceCtorEq, false_and, exists_false, or_false, false_or, exists_const, and_assoc, exists_and_left, List.append_nil, ix0, ix1, ix2, cm_mod, cdw1009, cdw2003, cdw7, cdw64, cdw2, cm104729, cm2, cm3, upd_same, List.length_cons, List.length_nil, Int.reduceLT, Int.reduceLE, Nat.reduceAdd, Nat.reduceLeDiff, Nat.reduceLT, Int.reduceToNat, r_for1, r_forL, r_forT, r_lcL, r_lc1, r_yes, r_gtupD, wipe_0, wipe_1, List.cons_append, List.nil_append, r_forS, r_ipI, ite_false, ite_true, Bool.not_true, Bool.not_false, decide_true, decide_false, r_isd, r_islt, cD_ty, cD_ref, tD_non, tD_bl, tD_int, tD_str, tD_ref, tH_lst, tH_tup, tH_dK, tH_ins, ki_self, ki_int_bool, ki_non_int, ki_str_int, ki_lt_lst, ki_lt_tup, r_fld, r_sfld, HO.ins.injEq, cx_K]
        by_cases c : i < m
        · obtain ⟨n, e, hn⟩ := hpre i hi c
          have c1 : (0 : Int) ≤ (n : Int) := by omega
          have c2 : (n : Int) ≤ 255 := by omega
          rw [e]
          simp only [r_seq, r_next, r_brk, r_cont, r_asg, r_name, r_ret, r_retN, r_drop, r_ifs, r_never, r_var, r_c, r_op, r_un, r_if, r_tst, r_b, r_not, r_and, r_or, r_andV, r_orV, r_notV, r_nil, r_cons, r_tup, r_lst, r_cb, r_call, r_bm, r_bm0, r_sl, r_nopart, r_part, r_rev, r_gnil, r_gcons, r_gsub, r_par, r_aug, r_chain, r_I0, r_I, r_U, r_ixd, r_lend, r_tupd, r_listd, r_sld, r_app, r_ext, r_reverse, r_setl, r_cat, r_int1, r_eqS, r_neS, scal_ii, scal_bb, scal_ss, at0, at1, at2, sq_lst, sq_tup, isLst_lst, List.getElem?_cons_zero, List.getElem?_cons_succ, List.set_cons_zero, List.set_cons_succ, V.int.injEq, V.bl.injEq, V.ref.injEq, V.str.injEq, HO.lst.injEq, HO.tup.injEq, Option.some.injEq, exists_eq_left', exists_eq_left, List.cons.injEq, and_true, true_and, decide_eq_true_eq, reduceCtorEq, false_and, exists_false, or_false, false_or, exists_const, and_assoc, exists_and_left, List.append_nil, ix0, ix1, ix2, cm_mod, cdw1009, cdw2003, cdw7, cdw64, cdw2, cm104729, cm2, cm3, upd_same, List.length_cons, List.length_nil, Int.reduceLT, Int.reduceLE, Nat.reduceAdd, Nat.reduceLeDiff, Nat.reduceLT, Int.reduceToNat, r_for1, r_forL, r_forT, r_lcL, r_lc1, r_yes, r_gtupD, wipe_0, wipe_1, List.cons_append, List.nil_append, r_forS, r_ipI, ite_false, ite_true, Bool.not_true, Bool.not_false, decide_true, decide_false, r_isd, r_islt, cD_ty, cD_ref, tD_non, tD_bl, tD_int, tD_str, tD_ref, tH_lst, tH_tup, tH_dK, tH_ins, ki_self, ki_int_bool, ki_non_int, ki_str_int, ki_lt_lst, ki_lt_tup, r_fld, r_sfld, HO.ins.injEq, cx_K, c1, c2]
          exact ⟨⟨_, rfl⟩, c⟩
        · have em : i = m := by omega
          subst em
          rcases hend with ⟨h, _⟩ | ⟨h, hb, er⟩
          · omega
          · have rz : ∀ x : V, (tMkO CN (spXInit CN (Str.ofString "field")) [] (tCons (tVar 1) tNil) [some (.ref a), some (.str f), some x] H' fun cls d H' => E cls d H') := fun x => raise _ _ sp er
            generalize xs[i] = x at *
            rcases hb.same sp with ⟨t', hk, n1⟩ | ⟨j, rfl, hj⟩
            · obtain ⟨k1, k2⟩ := hk.ty (CC := CC)
              refine ⟨_, k1, _, kit_all k2 (by decide), ?_⟩
              by_cases cb : t' = "bool"
              · subst cb
                rw [if_neg (by decide)]
                refine ⟨_, k1, true, ki_self, ?_⟩
                rw [if_pos rfl]
                exact rz x
              · rw [if_pos (by unfold kitB; simp [n1, cb])]
                exact rz x
            · refine ⟨_, rfl, true, ki_self, ?_⟩
              rw [if_neg (by decide)]
              refine ⟨_, rfl, false, ki_int_bool, ?_⟩
              rw [if_neg (by decide)]
              refine ⟨j, rfl, ?_⟩
              by_cases c0 : 0 ≤ j
              · rw [if_pos c0]
                refine ⟨j, rfl, ?_⟩
                rw [if_pos (by simp; omega)]
                exact rz _
              · rw [if_neg c0]
                exact rz _
      · rintro σ H' ⟨⟨v3, rfl⟩, rfl, him⟩
        rcases hend with ⟨h, k⟩ | ⟨h, _⟩
        · simp only [r_seq, r_next, r_brk, r_cont, r_asg, r_name, r_ret, r_retN, r_drop, r_ifs, r_never, r_var, r_c, r_op, r_un, r_if, r_tst, r_b, r_not, r_and, r_or, r_andV, r_orV, r_notV, r_nil, r_cons, r_tup, r_lst, r_cb, r_call, r_bm, r_bm0, r_sl, r_nopart, r_part, r_rev, r_gnil, r_gcons, r_gsub, r_par, r_aug, r_chain, r_I0, r_I, r_U, r_ixd, r_lend, r_tupd, r_listd, r_sld, r_app, r_ext, r_reverse, r_setl, r_cat, r_int1, r_eqS, r_neS, scal_ii, scal_bb, scal_ss, at0, at1, at2, sq_lst, sq_tup, isLst_lst, List.getElem?_cons_zero, List.getElem?_cons_succ, List.set_cons_zero, List.set_cons_succ, V.int.injEq, V.bl.injEq, V.ref.injEq, V.str.injEq, HO.lst.injEq, HO.tup.injEq, Option.some.injEq, exists_eq_left', exists_eq_left, List.cons.injEq, and_true, true_and, decide_eq_true_eq, reduceCtorEq, false_and, exists_false, or_false, false_or, exists_const, and_assoc, exists_and_left, List.append_nil, ix0, ix1, ix2, cm_mod, cdw1009, cdw2003, cdw7, cdw64, cdw2, cm104729, cm2, cm3, upd_same, List.length_cons, List.length_nil, Int.reduceLT, Int.reduceLE, Nat.reduceAdd, Nat.reduceLeDiff, Nat.reduceLT, Int.reduceToNat, r_for1, r_forL, r_forT, r_lcL, r_lc1, r_yes, r_gtupD, wipe_0, wipe_1, List.cons_append, List.nil_append, r_forS, r_ipI, ite_false, ite_true, Bool.not_true, Bool.not_false, decide_true, decide_false, r_isd, r_islt, cD_ty, cD_ref, tD_non, tD_bl, tD_int, tD_str, tD_ref, tH_lst, tH_tup, tH_dK, tH_ins, ki_self, ki_int_bool, ki_non_int, ki_str_int, ki_lt_lst, ki_lt_tup, r_fld, r_sfld, HO.ins.injEq, cx_K]
          exact ⟨_, sq_same q sp, fun l H2 s2 h2 => k l H2 (fun y o e => s2 y o (sp y o e)) h2⟩
        · omega
    · have el : (t == "list" || t == "tuple") = false := by
        have et : t = t' := by
          obtain ⟨q1, _⟩ := k1.ty (CC := CC)
          rw [h1] at q1
          exact Value.type.inj (Option.some.inj q1)
        subst et
        simp [n1, n2]
      rw [el, if_pos (by decide)]
      exact raise _ _ sp er
end
end C51

set_option maxHeartbeats 2000000
namespace C51
open PySem PySem.Spec PyProof.Rows L2
section
variable {P : Program} {w : World} {K : PySem.W.Frag} {mg : Str → Option Value} {base : Heap} {f : Addr} {fd : FuncData}
theorem ok_strings_of {CC CN : Addr} (T : Txt mg) (I : CodeT K mg CC) (X_NoCode : Exn P w K mg base "NoCode" CN "field") (F : FnP K "strings_of" "strings_of" sstrings_of f fd) (C_is_string : Cal P w K mg base 1 "is_string" ["value"] spIsString) : FnOk P w K mg base (CX P w) 3 f fd ["row", "field"] (spStringsOf CN) := by
  refine F.ok scstrings_of (fun vs H Q E h => ?_) (fun cdv A outer s H vs Q E hr h => ?_)
  · obtain ⟨v, f, rfl, _⟩ := h
    rfl
  · refine ⟨_, (pss_cons (ps_if (pt_not (pt_val (pe_callB (call_is_lt I.cI) (by rfl) T.b_isinstance (by decide +kernel) (pa_cons (pv 0) (pa_cons (pe_tup (pa_cons (pe_bltn (v := .ty "list") (by rfl) T.b_list (by decide +kernel) rfl) (pa_cons (pe_bltn (v := .ty "tuple") (by rfl) T.b_tuple (by decide +kernel) rfl) pa_nil))) pa_nil)))))
    (pss_one (ps_raise rfl (takes_of rfl rfl rfl rfl) (pmk_x X_NoCode (hr.mono (by decide)) rfl (pv 1))))
    pss_nil)
  (pss_cons (ps_for (passes_of rfl) rfl (pi_seqV 0) (pg_name (i := 2) scstrings_of.nd rfl (Or.inl rfl))
    (pss_one (ps_if (pt_not (pt_val (pe_cal C_is_string (hr.mono (by decide)) rfl (pa_cons (pv 2) pa_nil))))
    (pss_one (ps_raise rfl (takes_of rfl rfl rfl rfl) (pmk_x X_NoCode (hr.mono (by decide)) rfl (pv 1))))
    pss_nil)))
  (pss_one (ps_ret (pe_callTy call_tup_d (by rfl) T.b_tuple (by decide +kernel) (pa_cons (pv 0) pa_nil)))))), ?_⟩
    obtain ⟨v, f, rfl, h⟩ := h
    show (_ : TS) _ [some v, some (.str f), none] H
    simp only [r_seq, r_next, r_brk, r_cont, r_asg, r_name, r_ret, r_retN, r_drop, r_ifs, r_never, r_var, r_c, r_op, r_un, r_if, r_tst, r_b, r_not, r_and, r_or, r_andV, r_orV, r_notV, r_nil, r_cons, r_tup, r_lst, r_cb, r_call, r_bm, r_bm0, r_sl, r_nopart, r_part, r_rev, r_gnil, r_gcons, r_gsub, r_par, r_aug, r_chain, r_I0, r_I, r_U, r_ixd, r_lend, r_tupd, r_listd, r_sld, r_app, r_ext, r_reverse, r_setl, r_cat, r_int1, r_eqS, r_neS, scal_ii, scal_bb, scal_ss, at0, at1, at2, sq_lst, sq_tup, isLst_lst, List.getElem?_cons_zero, List.getElem?_cons_succ, List.set_cons_zero, List.set_cons_succ, V.int.injEq, V.bl.injEq, V.ref.injEq, V.str.injEq, HO.lst.injEq, HO.tup.injEq, Option.some.injEq, exists_eq_left', exists_eq_left, List.cons.injEq, and_true, true_and, decide_eq_true_eq, reduceCtorEq, false_and, exists_false, or_false, false_or, exists_const, and_assoc, exists_and_left, List.append_nil, ix0, ix1, ix2, cm_mod, cdw1009, cdw2003, cdw7, cdw64, cdw2, cm104729, cm2, cm3, upd_same, List.length_cons, List.length_nil, Int.reduceLT, Int.reduceLE, Nat.reduceAdd, Nat.reduceLeDiff, Nat.reduceLT, Int.reduceToNat, r_for1, r_forL, r_forT, r_lcL, r_lc1, r_yes, r_gtupD, wipe_0, wipe_1, List.cons_append, List.nil_append, r_forS, r_ipI, ite_false, ite_true, Bool.not_true, Bool.not_false, decide_true, decide_false, r_isd, r_islt, cD_ty, cD_ref, tD_non, tD_bl, tD_int, tD_str, tD_ref, tH_lst, tH_tup, tH_dK, tH_ins, ki_self, ki_int_bool, ki_non_int, ki_str_int, ki_lt_lst, ki_lt_tup, r_fld, r_sfld, HO.ins.injEq, cx_K]
    have kd : ∃ t, Kd H v t := by
      rcases h with ⟨a, ns, rfl, h1, _⟩ | ⟨⟨t, h1, _⟩ | ⟨a, pre, x, post, rfl, h1, _⟩, _⟩
      · obtain ⟨t, q, _⟩ := sq_ty (CC := CC) h1
        exact ⟨t, q⟩
      · exact ⟨t, h1⟩
      · obtain ⟨t, q, _⟩ := sq_ty (CC := CC) h1
        exact ⟨t, q⟩
    obtain ⟨t, kt⟩ := kd
    obtain ⟨h1, h2⟩ := kt.ty (CC := CC)
    refine ⟨szl (by decide), fun p hp => ?_⟩
    have sp := Same.new' (o := .tup [.ty "list", .ty "tuple"]) (Same.refl H) hp
    generalize L2.upd H p (.tup [.ty "list", .ty "tuple"]) = G at *
    obtain ⟨h3, _⟩ := (kt.same sp).ty (CC := CC)
    refine ⟨_, h3, _, kit_lt h2, ?_⟩
    have raise : ∀ (G' : Hp) (v3 : Option V), Same H G' → ErrF CN H E f → (tMkO CN (spXInit CN "field") [] (tCons (tVar 1) tNil) [some v, some (.str f), v3] G' fun cls d H' => E cls d H') := fun G' v3 s1 er => raise_x (v := .str f) (fun Q q => ⟨_, rfl, q⟩) (er.same s1)
    have row : ∀ (a : Addr) (xs : List V), v = .ref a → sq (H a) = some xs → (t == "list" || t == "tuple") = true := fun a xs e q => by
      subst e
      rcases sq_cases q with q | q
      · cases kt with
        | lst _ => rfl
        | tup z => rw [q] at z; cases z
        | dct z => rw [q] at z; cases z
      · cases kt with
        | lst z => rw [q] at z; cases z
        | tup _ => rfl
        | dct z => rw [q] at z; cases z
    have cs : (∃ (a : Addr) (xs : List V) (m : Nat), v = .ref a ∧ sq (H a) = some xs ∧ (∀ i (h : i < xs.length), i < m → StrV H xs[i] true) ∧ ((m = xs.length ∧ ∀ p H', Same H H' → H' p = some (.tup xs) → Q (.ref p) H') ∨ (∃ h : m < xs.length, StrV H xs[m] false ∧ ErrF CN H E f))) ∨ (NoRow H v ∧ ErrF CN H E f) := by
      rcases h with ⟨a, zs, e, q, hb, k⟩ | ⟨nr | ⟨a, pre, x, post, e, q, hb, bx⟩, er⟩
      · refine .inl ⟨a, _, zs.length, e, q, fun i hi _ => ?_, .inl ⟨(List.length_map ..).symm, k⟩⟩
        rw [List.getElem_map]
        exact .ok _ (hb _ (List.getElem_mem _))
      · exact .inr ⟨nr, er⟩
      · have lt : pre.length < (pre ++ x :: post).length := by rw [List.length_append, List.length_cons]; omega
        exact .inl ⟨a, _, pre.length, e, q, fun i hi hm => by rw [List.getElem_append_left hm]; exact hb _ (List.getElem_mem _), .inr ⟨lt, by rw [List.getElem_append_right (Nat.le_refl _)]; simpa using bx, er⟩⟩
    rcases cs with ⟨a, xs, m, e, q, hpre, hend⟩ | ⟨⟨t', k1, n1, n2⟩, er⟩
    · rw [row a _ e q, if_neg (by decide)]
      subst e
      refine ⟨a, rfl, lp_seq (sq_same q sp) (fun i σ H' => (∃ v3, σ = [some (.ref a), some (.str f), v3]) ∧ (Same H H' ∧ H' a = G a) ∧ i ≤ m) ⟨⟨_, rfl⟩, ⟨sp, rfl⟩, Nat.zero_le _⟩ (fun i σ H' h => h.2.1.2) ?_ ?_⟩
      · rintro i x σ H' hx ⟨⟨v3, rfl⟩, ⟨s1, ea⟩, him⟩
        obtain ⟨hi, rfl⟩ := List.getElem?_eq_some_iff.mp hx
        simp only [r_seq, r_next, r_brk, r_cont, r_asg, r_name, r_ret, r_retN, r_drop, r_ifs, r_never, r_var, r_c, r_op, r_un, r_if, r_tst, r_b, r_not, r_and, r_or, r_andV, r_orV, r_notV, r_nil, r_cons, r_tup, r_lst, r_cb, r_call, r_bm, r_bm0, r_sl, r_nopart, r_part, r_rev, r_gnil, r_gcons, r_gsub, r_par, r_aug, r_chain, r_I0, r_I, r_U, r_ixd, r_lend, r_tupd, r_listd, r_sld, r_app, r_ext, r_reverse, r_setl, r_cat, r_int1, r_eqS, r_neS, scal_ii, scal_bb, scal_ss, at0, at1, at2, sq_lst, sq_tup, isLst_lst, List.getElem?_cons_zero, List.getElem?_cons_succ, List.set_cons_zero, List.set_cons_succ, V.int.injEq, V.bl.injEq, V.ref.injEq, V.str.injEq, HO.lst.injEq, HO.tup.injEq, Option.some.injEq, exists_eq_left', exists_eq_left, List.cons.injEq, and_true, true_and, decide_eq_true_eq, reduceCtorEq, false_and, exists_false, or_false, false_or, exists_const, and_assoc, exists_and_left, List.append_nil, ix0, ix1, ix2, cm_mod, cdw1009, cdw2003, cdw7, cdw64, cdw2, cm104729, cm2, cm3, upd_same, List.length_cons, List.length_nil, Int.reduceLT, Int.reduceLE, Nat.reduceAdd, Nat.reduceLeDiff, Nat.reduceLT, Int.reduceToNat, r_for1, r_forL, r_forT, r_lcL, r_lc1, r_yes, r_gtupD, wipe_0, wipe_1, List.cons_append, List.nil_append, r_forS, r_ipI, ite_false, ite_true, Bool.not_true, Bool.not_false, decide_true, decide_false, r_isd, r_islt, cD_ty, cD_ref, tD_non, tD_bl, tD_int, tD_str, tD_ref, tH_lst, tH_tup, tH_dK, tH_ins, ki_self, ki_int_bool, ki_non_int, ki_str_int, ki_lt_lst, ki_lt_tup, r_fld, r_sfld, HO.ins.injEq, cx_K]
        by_cases c : i < m
        · refine ⟨_, true, rfl, (hpre i hi c).same s1, fun H2 s2 => ⟨true, rfl, ?_⟩⟩
          rw [if_neg (by decide)]
          refine ⟨⟨_, rfl⟩, fun y o e => s2 y o (s1 y o e), ?_, c⟩
          rcases sq_cases (sq_same q sp) with z | z
          · rw [z] at ea ⊢
            exact s2 _ _ ea
          · rw [z] at ea ⊢
            exact s2 _ _ ea
        · have em : i = m := by omega
          subst em
          rcases hend with ⟨h, _⟩ | ⟨h, hb, er⟩
          · omega
          · refine ⟨_, false, rfl, hb.same s1, fun H2 s2 => ⟨false, rfl, ?_⟩⟩
            rw [if_pos (by decide)]
            exact raise _ _ (fun y o e => s2 y o (s1 y o e)) er
      · rintro σ H' ⟨⟨v3, rfl⟩, ⟨s1, ea⟩, him⟩
        rcases hend with ⟨h, k⟩ | ⟨h, _⟩
        · simp only [r_seq, r_next, r_brk, r_cont, r_asg, r_name, r_ret, r_retN, r_drop, r_ifs, r_never, r_var, r_c, r_op, r_un, r_if, r_tst, r_b, r_not, r_and, r_or, r_andV, r_orV, r_notV, r_nil, r_cons, r_tup, r_lst, r_cb, r_call, r_bm, r_bm0, r_sl, r_nopart, r_part, r_rev, r_gnil, r_gcons, r_gsub, r_par, r_aug, r_chain, r_I0, r_I, r_U, r_ixd, r_lend, r_tupd, r_listd, r_sld, r_app, r_ext, r_reverse, r_setl, r_cat, r_int1, r_eqS, r_neS, scal_ii, scal_bb, scal_ss, at0, at1, at2, sq_lst, sq_tup, isLst_lst, List.getElem?_cons_zero, List.getElem?_cons_succ, List.set_cons_zero, List.set_cons_succ, V.int.injEq, V.bl.injEq, V.ref.injEq, V.str.injEq, HO.lst.injEq, HO.tup.injEq, Option.some.injEq, exists_eq_left', exists_eq_left, List.cons.injEq, and_true, true_and, decide_eq_true_eq, reduceCtorEq, false_and, exists_false, or_false, false_or, exists_const, and_assoc, exists_and_left, List.append_nil, ix0, ix1, ix2, cm_mod, cdw1009, cdw2003, cdw7, cdw64, cdw2, cm104729, cm2, cm3, upd_same, List.length_cons, List.length_nil, Int.reduceLT, Int.reduceLE, Nat.reduceAdd, Nat.reduceLeDiff, Nat.reduceLT, Int.reduceToNat, r_for1, r_forL, r_forT, r_lcL, r_lc1, r_yes, r_gtupD, wipe_0, wipe_1, List.cons_append, List.nil_append, r_forS, r_ipI, ite_false, ite_true, Bool.not_true, Bool.not_false, decide_true, decide_false, r_isd, r_islt, cD_ty, cD_ref, tD_non, tD_bl, tD_int, tD_str, tD_ref, tH_lst, tH_tup, tH_dK, tH_ins, ki_self, ki_int_bool, ki_non_int, ki_str_int, ki_lt_lst, ki_lt_tup, r_fld, r_sfld, HO.ins.injEq, cx_K]
          exact ⟨_, sq_same q s1, fun l H2 s2 h2 => k l H2 (fun y o e => s2 y o (s1 y o e)) h2⟩
        · omega
    · have el : (t == "list" || t == "tuple") = false := by
        have et : t = t' := by
          obtain ⟨q1, _⟩ := k1.ty (CC := CC)
          rw [h1] at q1
          exact Value.type.inj (Option.some.inj q1)
        subst et
        simp [n1, n2]
      rw [el, if_pos (by decide)]
      exact raise _ _ sp er
end
end C51

set_option maxHeartbeats 2000000
namespace C51
open PySem PySem.Spec PyProof.Rows L2
/-- while by a word that may carry a number that falls -/
theorem while_w {σ : L2.St} {H : Hp} {D : Ends} {c : TT} {tb : TS} (W : Nat → L2.St → Hp → Prop) {m0 : Nat} (h0 : W m0 σ H)
    (hs : ∀ m σ H, W m σ H → ∃ b, (∀ Q : Bool → Hp → Prop, Q b H → c σ H Q) ∧ (b = true → tb { D with nx := fun σ' H' => ∃ m', m' < m ∧ W m' σ' H', ct := fun σ' H' => ∃ m', m' < m ∧ W m' σ' H', bk := D.nx } σ H) ∧ (b = false → D.nx σ H)) : tWhile c tb D σ H := by
  refine ⟨W, ⟨m0, h0⟩, ?_⟩
  intro m σ H p
  obtain ⟨b, hc, h1, h2⟩ := hs m σ H p
  refine hc _ ?_
  cases b with
  | true => exact ⟨_, fun σ' H' h => h, h1 rfl⟩
  | false => exact h2 rfl
mutual
/-- data, how deep it may nest, its size, and whether it is a constant -/
inductive KV (H : Hp) : Nat → V → Nat → Bool → Prop
  | non (k : Nat) : KV H k .non 1 true
  | bl (k : Nat) (b : Bool) : KV H k (.bl b) 1 true
  | int (k : Nat) (i : Int) : KV H k (.int i) 1 true
  | str {k : Nat} {z : Str} {b : Bool} (h : StrV H (.str z) b) : KV H k (.str z) 1 b
  | no {k : Nat} {v : V} {t : String} (h : Kd H v t) (n : t = "list" ∨ t = "dict") : KV H k v 1 false
  | tup0 {a : Addr} {xs : List V} (h : H a = some (.tup xs)) : KV H 0 (.ref a) 1 false
  | tup {k : Nat} {a : Addr} {xs : List V} {n : Nat} {b : Bool} (h : H a = some (.tup xs)) (t : KVs H k xs n b) : KV H (k + 1) (.ref a) (n + 1) b
inductive KVs (H : Hp) : Nat → List V → Nat → Bool → Prop
  | nil (k : Nat) : KVs H k [] 0 true
  | cons {k : Nat} {x : V} {xs : List V} {n m : Nat} {b c : Bool} (h : KV H k x n b) (t : KVs H k xs m c) : KVs H k (x :: xs) (n + m) (b && c)
end
mutual
theorem KV.same {H H' : Hp} (s : Same H H') : ∀ {k : Nat} {v : V} {n : Nat} {b : Bool}, KV H k v n b → KV H' k v n b
  | _, _, _, _, .non k => .non k
  | _, _, _, _, .bl k b => .bl k b
  | _, _, _, _, .int k i => .int k i
  | _, _, _, _, .str h => .str (h.same s)
  | _, _, _, _, .no h n => .no (h.same s) n
  | _, _, _, _, .tup0 h => .tup0 (s _ _ h)
  | _, _, _, _, .tup h t => .tup (s _ _ h) (KVs.same s t)
theorem KVs.same {H H' : Hp} (s : Same H H') : ∀ {k : Nat} {vs : List V} {n : Nat} {b : Bool}, KVs H k vs n b → KVs H' k vs n b
  | _, _, _, _, .nil k => .nil k
  | _, _, _, _, .cons h t => .cons (KV.same s h) (KVs.same s t)
end
theorem Paired.snocR {α β : Type} {F : α → β → Prop} : ∀ {l : List α} {ys : List β} {y : β}, Paired F l (ys ++ [y]) → ∃ xs x, l = xs ++ [x] ∧ Paired F xs ys ∧ F x y
  | _, [], _, .cons h .nil => ⟨[], _, rfl, .nil, h⟩
  | _, _ :: _, _, .cons h t => by
    obtain ⟨xs, x, rfl, p, e⟩ := Paired.snocR t
    exact ⟨_ :: xs, x, rfl, .cons h p, e⟩
theorem KV.pos {H : Hp} : ∀ {k : Nat} {v : V} {n : Nat} {b : Bool}, KV H k v n b → 1 ≤ n
  | _, _, _, _, .non k => Nat.le_refl 1
  | _, _, _, _, .bl k b => Nat.le_refl 1
  | _, _, _, _, .int k i => Nat.le_refl 1
  | _, _, _, _, .str h => Nat.le_refl 1
  | _, _, _, _, .no h n => Nat.le_refl 1
  | _, _, _, _, .tup0 h => Nat.le_refl 1
  | _, _, _, _, .tup h t => Nat.le_add_left 1 _
abbrev It4 : Type := V × Nat × Nat × Bool
def szs (its : List It4) : Nat := (its.map (·.2.2.1)).sum
def alls (its : List It4) : Bool := its.all (·.2.2.2)
theorem KVs.items {H : Hp} (a : Nat) : ∀ {k : Nat} {vs : List V} {n : Nat} {b : Bool}, KVs H k vs n b → ∃ its : List It4, its.map (·.1) = vs ∧ (∀ it ∈ its, it.2.1 = a ∧ KV H k it.1 it.2.2.1 it.2.2.2) ∧ szs its = n ∧ alls its = b
  | _, _, _, _, .nil k => ⟨[], rfl, (fun it (h : it ∈ []) => nomatch h), rfl, rfl⟩
  | _, _, _, _, .cons (x := x) (n := n) (b := b) h t => by
    obtain ⟨its, h1, h2, h3, h4⟩ := KVs.items a t
    refine ⟨(x, a, n, b) :: its, by rw [List.map_cons, h1], fun it hi => ?_, by unfold szs at *; rw [List.map_cons, List.sum_cons, h3], by unfold alls at *; rw [List.all_cons, h4]⟩
    rcases List.mem_cons.mp hi with rfl | hi
    · exact ⟨rfl, h⟩
    · exact h2 it hi
theorem items_len {its : List It4} (h : ∀ it ∈ its, 1 ≤ it.2.2.1) : its.length ≤ szs its := by
  unfold szs
  induction its with
  | nil => exact Nat.le_refl 0
  | cons it its ih =>
    have h1 := h it List.mem_cons_self
    have h2 := ih fun x hx => h x (List.mem_cons_of_mem _ hx)
    rw [List.map_cons, List.sum_cons, List.length_cons]
    omega
theorem pair_fst {α : Type} {a : Nat} {F : α → V → Prop} {G : α → It4 → Prop} (h : ∀ r (it : It4), it.2.1 = a → F r it.1 → G r it) : ∀ {rs : List α} {its : List It4}, Paired F rs (its.map (·.1)) → (∀ it ∈ its, it.2.1 = a) → Paired G rs its
  | [], [], _, _ => .nil
  | r :: rs, it :: its, .cons p q, e => .cons (h r it (e it List.mem_cons_self) p) (pair_fst h q fun x hx => e x (List.mem_cons_of_mem _ hx))
theorem Paired.app' {α β : Type} {F : α → β → Prop} : ∀ {l1 m1 : List α} {l2 m2 : List β}, Paired F l1 l2 → Paired F m1 m2 → Paired F (l1 ++ m1) (l2 ++ m2)
  | _, _, _, _, .nil, h => h
  | _, _, _, _, .cons h t, k => .cons h (Paired.app' t k)
theorem r_pop {x : V} {vs : List V} {H : Hp} {Q : VK} : rPop x vs H Q = ∃ l xs y, x = .ref l ∧ vs = [] ∧ H l = some (.lst xs) ∧ xs[xs.length - 1]? = some y ∧ Q y (L2.upd H l (.lst xs.dropLast)) := rfl
theorem r_lcT {K : PySem.W.Frag} {σ : L2.St} {H : Hp} {g : TG} {tl : TE} {tt : TT} {te : TE} {vs : List Nat} {Q : VK} : tLc (iTup K tl) g tt te vs σ H Q = tl σ H (fun x H1 => ∃ a, x = .ref a ∧ (∃ xs, SqT K H1 a xs) ∧ ∀ D, H1 D = none → CompR (Itt K a) g tt te vs σ Q D (L2.upd H1 D (.lst []))) := rfl
theorem cp_tup {K : PySem.W.Frag} {σ : L2.St} {g : TG} {a : Addr} {xs : List V} {tt : TT} {te : TE} {vs : List Nat} {A : Addr} {H1 : Hp} {Q : VK} (Pv : Nat → Hp → Prop) (h0 : Pv 0 (L2.upd H1 A (.lst []))) (hl : ∀ i H, i ≤ xs.length → Pv i H → SqT K H a xs)
    (hs : ∀ i x H, xs[i]? = some x → Pv i H → g x (wipe σ vs) H fun σ2 H2 => wipe σ2 vs = wipe σ vs ∧ tt σ2 H2 fun b H3 =>
      if b = true then te σ2 H3 fun y H4 => ∃ acc, H4 A = some (.lst acc) ∧ acc.length < sizeLine ∧ Pv (i + 1) (L2.upd H4 A (.lst (acc ++ [y]))) else Pv (i + 1) H3) (hd : ∀ H, Pv xs.length H → Q (.ref A) H) :
    CompR (Itt K a) g tt te vs σ Q A (L2.upd H1 A (.lst [])) := lc_tup Pv h0 hl hs hd
/-- what waits -/
def Wait (H : Hp) (W : Addr) (B : Bool) (m : Nat) (σ : L2.St) (H' : Hp) : Prop := (∃ v0 v2, σ = [v0, some (.ref W), v2, none]) ∧ Same H H' ∧ ∃ (refs : List Addr) (its : List It4), H' W = some (.lst (refs.map V.ref)) ∧ Paired (fun r it => r ≠ W ∧ H' r = some (.tup [it.1, .int (it.2.1 : Int)])) refs its ∧ (∀ it ∈ its, it.2.1 ≤ 100 ∧ KV H (100 - it.2.1) it.1 it.2.2.1 it.2.2.2) ∧ m = szs its ∧ alls its = B ∧ m ≤ 100000
def t_cturn (K : PySem.W.Frag) (CC : Addr) : TS := tSeq (tAsg (tBM0 K "list" rPop (tVar 1)) (gTupD 2 (gCons (gName 0) (gCons (gName 2) gNil))))
  (tIfS (tAnd (tB (tCB (rIsD K CC) (tCons (tVar 0) (tCons (tC (V.ty "tuple")) tNil)))) (tTest (tOp (rI0 fun i j => V.bl (decide (i < j))) (tVar 2) (tC (V.int 100)))))
    (tDrop (tBM K "list" rExtend (tVar 1) (tCons (tLc (iTup K (tVar 0)) (gName 3) tYes (tTup (tCons (tVar 3) (tCons (tOp (rI0 fun i j => V.int (i + j)) (tVar 2) (tC (V.int 1))) tNil))) (List.map (fun x => x.snd) [((Str.ofString "inner", 3) : Str × Nat)])) tNil)))
    (tIfS (tAnd (tTest (tOp (fun x y H Q => y = V.non ∧ Q (V.bl !decide (x = V.non)) H) (tVar 0) (tC V.non))) (tAnd (tNot (tB (tCB (rIsD K CC) (tCons (tVar 0) (tCons (tC (V.ty "int")) tNil))))) (tNot (tB (tCall spIsString [] E0 (tCons (tVar 0) tNil))))))
      (tRet (tC (V.bl false))) tNext))
def spIsConst : Sp := fun vs H Q _ => ∃ (v : V) (n : Nat) (b : Bool), vs = [v] ∧ KV H 100 v n b ∧ n ≤ 100000 ∧ ∀ H', Same H H' → Q (.bl b) H'
theorem cturn_run {K : PySem.W.Frag} {CC W : Addr} {B : Bool} {H H1 : Hp} {m : Nat} {v0 v2 : Option V} {refs : List Addr} {its : List It4} {r : Addr} {it : It4} {Dn : Ends} (W0 : H W = none) (s1 : Same H H1) (h1 : H1 W = some (.lst ((refs ++ [r]).map V.ref))) (pr : Paired (fun r it => r ≠ W ∧ H1 r = some (.tup [it.1, .int (it.2.1 : Int)])) (refs ++ [r]) (its ++ [it]))
    (ok : ∀ it' ∈ its ++ [it], it'.2.1 ≤ 100 ∧ KV H (100 - it'.2.1) it'.1 it'.2.2.1 it'.2.2.2) (em : m = szs (its ++ [it])) (eb : alls (its ++ [it]) = B) (hm : m ≤ 100000) (k : ∀ m' σ H', m' < m → Wait H W B m' σ H' → Dn.nx σ H') (kf : B = false → ∀ H', Same H H' → Dn.rt (.bl false) H') : t_cturn K CC Dn [v0, some (.ref W), v2, none] H1 := by
  obtain ⟨p1, rW, hr⟩ : Paired (fun r it => r ≠ W ∧ H1 r = some (.tup [it.1, .int (it.2.1 : Int)])) refs its ∧ r ≠ W ∧ H1 r = some (.tup [it.1, .int (it.2.1 : Int)]) := by
    obtain ⟨xs, x, e, q1, q2⟩ := Paired.snocR pr
    obtain ⟨e1, e2⟩ := List.append_inj' e rfl
    cases e2
    rw [e1]
    exact ⟨q1, q2⟩
  obtain ⟨it1, it2⟩ := ok it (by simp)
  have em2 : m = szs its + it.2.2.1 := by rw [em]; unfold szs; rw [List.map_append, List.sum_append]; simp
  have eb2 : (alls its && it.2.2.2) = B := by rw [← eb]; unfold alls; rw [List.all_append]; simp
  have oki : ∀ it' ∈ its, it'.2.1 ≤ 100 ∧ KV H (100 - it'.2.1) it'.1 it'.2.2.1 it'.2.2.2 := fun x hx => ok x (List.mem_append_left _ hx)
  have lr := Paired.length p1
  have ip : ∀ it' ∈ its, 1 ≤ it'.2.2.1 := fun x hx => (oki x hx).2.pos
  have il := items_len ip
  have pos := it2.pos
  unfold t_cturn
  have rl : ((refs ++ [r]).map V.ref)[((refs ++ [r]).map V.ref).length - 1]? = some (.ref r) := by simp
  have dl : ((refs ++ [r]).map V.ref).dropLast = refs.map V.ref := by simp
  obtain ⟨v, a, n, b⟩ := it
  have hr : H1 r = some (.tup [v, .int (a : Int)]) := hr
  have it2 : KV H (100 - a) v n b := it2
  have hr2 : L2.upd H1 W (.lst (refs.map V.ref)) r = some (.tup [v, .int (a : Int)]) := by rw [upd_ne rW]; exact hr
  simp only [r_seq, r_next, r_brk, r_cont, r_asg, r_name, r_ret, r_retN, r_drop, r_ifs, r_never, r_var, r_c, r_op, r_un, r_if, r_tst, r_b, r_not, r_and, r_or, r_andV, r_orV, r_notV, r_nil, r_cons, r_tup, r_lst, r_cb, r_call, r_bm, r_bm0, r_sl, r_nopart, r_part, r_rev, r_gnil, r_gcons, r_gsub, r_par, r_aug, r_chain, r_I0, r_I, r_U, r_ixd, r_lend, r_tupd, r_listd, r_sld, r_app, r_ext, r_reverse, r_setl, r_cat, r_int1, r_eqS, r_neS, scal_ii, scal_bb, scal_ss, at0, at1, at2, sq_lst, sq_tup, isLst_lst, List.getElem?_cons_zero, List.getElem?_cons_succ, List.set_cons_zero, List.set_cons_succ, V.int.injEq, V.bl.injEq, V.ref.injEq, V.str.injEq, HO.lst.injEq, HO.tup.injEq, Option.some.injEq, exists_eq_left', exists_eq_left, List.cons.injEq, and_true, true_and, decide_eq_true_eq, reduceCtorEq, false_and, exists_false, or_false, false_or, exists_const, and_assoc, exists_and_left, List.append_nil, ix0, ix1, ix2, cm_mod, cdw1009, cdw2003, cdw7, cdw64, cdw2, cm104729, cm2, cm3, upd_same, List.length_cons, List.length_nil, Int.reduceLT, Int.reduceLE, Nat.reduceAdd, Nat.reduceLeDiff, Nat.reduceLT, Int.reduceToNat, r_for1, r_forL, r_forT, r_lcL, r_lc1, r_yes, r_gtupD, wipe_0, wipe_1, List.cons_append, List.nil_append, r_forS, r_ipI, ite_false, ite_true, Bool.not_true, Bool.not_false, decide_true, decide_false, r_isd, r_islt, cD_ty, cD_ref, tD_non, tD_bl, tD_int, tD_str, tD_ref, tH_lst, tH_tup, tH_dK, tH_ins, ki_self, ki_int_bool, ki_non_int, ki_str_int, ki_lt_lst, ki_lt_tup, r_fld, r_sfld, HO.ins.injEq, cx_K, r_pop, h1, rl, dl, hr2]
  refine ⟨tyl h1, ?_⟩
  have s2 : Same H (L2.upd H1 W (.lst (refs.map V.ref))) := fun y o e => by
    rw [upd_ne (ne_new e W0)]
    exact s1 y o e
  have h2 : L2.upd H1 W (.lst (refs.map V.ref)) W = some (.lst (refs.map V.ref)) := upd_same
  have p2 : Paired (fun r it => r ≠ W ∧ L2.upd H1 W (.lst (refs.map V.ref)) r = some (.tup [it.1, .int (it.2.1 : Int)])) refs its := Paired.map' p1 fun x y h => ⟨h.1, by rw [upd_ne h.1]; exact h.2⟩
  generalize L2.upd H1 W (.lst (refs.map V.ref)) = G at *
  have em3 : m = szs its + n := em2
  have eb3 : (alls its && b) = B := eb2
  have pos : 1 ≤ n := pos
  have la : a ≤ 100 := it1
  have leaf : b = true → ∀ v0 v2 H3, Same G H3 → Dn.nx [v0, some (.ref W), v2, none] H3 := fun hb v0 v2 H3 s3 => k (szs its) _ H3 (by omega) ⟨⟨_, _, rfl⟩, fun y o e => s3 y o (s2 y o e), refs, its, s3 _ _ h2, Paired.map' p2 fun x y h => ⟨h.1, s3 _ _ h.2⟩, oki, rfl, by rw [← eb3, hb, Bool.and_true], by omega⟩
  have bad : b = false → ∀ H3, Same G H3 → Dn.rt (.bl false) H3 := fun hb H3 s3 => kf (by rw [← eb3, hb, Bool.and_false]) H3 fun y o e => s3 y o (s2 y o e)
  obtain ⟨q, hq⟩ : ∃ q, q = 100 - a := ⟨_, rfl⟩
  rw [← hq] at it2
  -- what is no tuple that is looked into
  have el : ∀ {t : String}, Kd G v t → v ≠ .non → t ≠ "int" → t ≠ "bool" → StrV G v b → (if (!decide (v = V.non)) = true then ∃ x, tyD CC G v = some x ∧ ∃ x_2, PySem.W.kitOne K x (.type "int") = some x_2 ∧ if (!x_2) = true then spIsString [v] G (fun x H' => ∃ k, x = V.bl k ∧ if (!k) = true then Dn.rt (V.bl false) H' else Dn.nx [some v, some (.ref W), some (.int (a : Int)), none] H') E0 else Dn.nx [some v, some (.ref W), some (.int (a : Int)), none] G else Dn.nx [some v, some (.ref W), some (.int (a : Int)), none] G) := fun {t} kd n1 n2 n3 sv => by
    obtain ⟨k1, k2⟩ := kd.ty (CC := CC)
    rw [if_pos (by simp [n1])]
    refine ⟨_, k1, _, kit_all k2 (by decide), ?_⟩
    rw [if_pos (by unfold kitB; simp [n2, n3])]
    refine ⟨v, b, rfl, sv, fun H3 s3 => ⟨b, rfl, ?_⟩⟩
    cases b with
    | true =>
      rw [if_neg (by decide)]
      exact leaf rfl _ _ H3 s3
    | false =>
      rw [if_pos (by decide)]
      exact bad rfl H3 s3
  cases it2 with
  | non =>
    refine ⟨_, rfl, false, kit_all (t := "NoneType") (by decide) (by decide), ?_⟩
    rw [if_neg (by decide), if_neg (by decide)]
    exact leaf rfl _ _ G (Same.refl G)
  | bl _ b =>
    refine ⟨_, rfl, false, kit_all (t := "bool") (by decide) (by decide), ?_⟩
    rw [if_neg (by decide), if_pos (by simp)]
    refine ⟨_, rfl, true, kit_all (t := "bool") (by decide) (by decide), ?_⟩
    rw [if_neg (by decide)]
    exact leaf rfl _ _ G (Same.refl G)
  | int _ i =>
    refine ⟨_, rfl, false, kit_all (t := "int") (by decide) (by decide), ?_⟩
    rw [if_neg (by decide), if_pos (by simp)]
    refine ⟨_, rfl, true, ki_self, ?_⟩
    rw [if_neg (by decide)]
    exact leaf rfl _ _ G (Same.refl G)
  | @str _ z b' h =>
    refine ⟨_, rfl, false, kit_all (t := "str") (by decide) (by decide), ?_⟩
    rw [if_neg (by decide)]
    exact el (.str z) (by simp) (by decide) (by decide) (h.same s2)
  | @no _ _ t h n =>
    have h' := h.same s2
    obtain ⟨k1, k2⟩ := h'.ty (CC := CC)
    have nn : v ≠ .non := fun e => by
      subst e
      cases h with
      | non => simp at n
    refine ⟨_, k1, _, kit_all k2 (by decide), ?_⟩
    rw [if_neg (by rcases n with rfl | rfl <;> decide)]
    exact el h' nn (by rcases n with rfl | rfl <;> decide) (by rcases n with rfl | rfl <;> decide) (.no h' (by rcases n with rfl | rfl <;> decide))
  | @tup0 b xs ht =>
    have hb := s2 _ _ ht
    refine ⟨.type "tuple", by simp [tyD, tyH, hb], true, ki_self, ?_⟩
    rw [if_pos rfl, if_neg (by omega)]
    exact el (.tup hb) (by simp) (by decide) (by decide) (.no (.tup hb) (by decide))
  | @tup q b xs n' b' ht t =>
    have hb := s2 _ _ ht
    obtain ⟨its2, j1, j2, j3, j4⟩ := KVs.items (a + 1) t
    have j6 := items_len fun x hx => (j2 x hx).2.pos
    have j5 : its2.length = xs.length := by rw [← j1, List.length_map]
    rw [j3] at j6
    refine ⟨.type "tuple", by simp [tyD, tyH, hb], true, ki_self, ?_⟩
    rw [if_pos rfl, if_pos (by omega), r_lcT]
    refine ⟨tyl h2, .ref b, rfl, b, rfl, ⟨_, SqT.of hb⟩, fun D hD => ?_⟩
    have DW : W ≠ D := ne_new h2 hD
    refine cp_tup (xs := xs) (fun i H' => Same G H' ∧ ∃ qs : List Addr, H' D = some (.lst (qs.map V.ref)) ∧ Paired (fun q x => G q = none ∧ H' q = some (.tup [x, .int ((a + 1 : Nat) : Int)])) qs (xs.take i)) ⟨Same.new' (Same.refl G) hD, [], upd_same, .nil⟩ (fun i H' _ h => SqT.of (h.1 _ _ hb)) ?_ ?_
    · rintro i x H2 hx ⟨s3, qs, hq2, hp2⟩
      obtain ⟨hi, rfl⟩ := List.getElem?_eq_some_iff.mp hx
      have lq := Paired.length hp2
      rw [List.length_take] at lq
      simp only [r_seq, r_next, r_brk, r_cont, r_asg, r_name, r_ret, r_retN, r_drop, r_ifs, r_never, r_var, r_c, r_op, r_un, r_if, r_tst, r_b, r_not, r_and, r_or, r_andV, r_orV, r_notV, r_nil, r_cons, r_tup, r_lst, r_cb, r_call, r_bm, r_bm0, r_sl, r_nopart, r_part, r_rev, r_gnil, r_gcons, r_gsub, r_par, r_aug, r_chain, r_I0, r_I, r_U, r_ixd, r_lend, r_tupd, r_listd, r_sld, r_app, r_ext, r_reverse, r_setl, r_cat, r_int1, r_eqS, r_neS, scal_ii, scal_bb, scal_ss, at0, at1, at2, sq_lst, sq_tup, isLst_lst, List.getElem?_cons_zero, List.getElem?_cons_succ, List.set_cons_zero, List.set_cons_succ, V.int.injEq, V.bl.injEq, V.ref.injEq, V.str.injEq, HO.lst.injEq, HO.tup.injEq, Option.some.injEq, exists_eq_left', exists_eq_left, List.cons.injEq, and_true, true_and, decide_eq_true_eq, reduceCtorEq, false_and, exists_false, or_false, false_or, exists_const, and_assoc, exists_and_left, List.append_nil, ix0, ix1, ix2, cm_mod, cdw1009, cdw2003, cdw7, cdw64, cdw2, cm104729, cm2, cm3, upd_same, List.length_cons, List.length_nil, Int.reduceLT, Int.reduceLE, Nat.reduceAdd, Nat.reduceLeDiff, Nat.reduceLT, Int.reduceToNat, r_for1, r_forL, r_forT, r_lcL, r_lc1, r_yes, r_gtupD, wipe_0, wipe_1, List.cons_append, List.nil_append, r_forS, r_ipI, ite_false, ite_true, Bool.not_true, Bool.not_false, decide_true, decide_false, r_isd, r_islt, cD_ty, cD_ref, tD_non, tD_bl, tD_int, tD_str, tD_ref, tH_lst, tH_tup, tH_dK, tH_ins, ki_self, ki_int_bool, ki_non_int, ki_str_int, ki_lt_lst, ki_lt_tup, r_fld, r_sfld, HO.ins.injEq, cx_K, List.map_cons, List.map_nil]
      refine ⟨szl (by decide : 2 ≤ 1000), fun p hp => ⟨qs.map V.ref, by rw [upd_ne (ne_new hq2 hp)]; exact hq2, Nat.lt_of_le_of_lt (by rw [List.length_map]; omega : _ ≤ 100000) (by decide), fun y o e => ?_, qs ++ [p], by rw [List.map_append]; rfl, ?_⟩⟩
      · have e3 := s3 y o e
        rw [upd_ne (ne_new e hD), upd_ne (ne_new e3 hp)]
        exact e3
      · rw [List.take_succ_eq_append_getElem hi]
        have pD : p ≠ D := new_ne hq2 hp
        refine Paired.snoc' (Paired.map' hp2 fun x y h => ⟨h.1, ?_⟩) ⟨s3.free hp, ?_⟩
        · have xD : x ≠ D := fun z => by rw [z, hq2] at h; cases h.2
          rw [upd_ne xD, upd_ne (ne_new h.2 hp)]
          exact h.2
        · rw [upd_ne pD, upd_same, Int.natCast_add]
          rfl
    · rintro H2 ⟨s3, qs, hq2, hp2⟩
      rw [List.take_length] at hp2
      have lq := Paired.length hp2
      have s5 : Same H (L2.upd H2 W (.lst (refs.map V.ref ++ qs.map V.ref))) := fun y o e => by
        rw [upd_ne (ne_new e W0)]
        exact s3 _ _ (s2 _ _ e)
      refine ⟨D, rfl, _, s3 _ _ h2, _, hq2, Nat.le_trans (by rw [List.length_map, List.length_map]; omega : _ ≤ 200000) (by decide), ?_⟩
      have h6 : L2.upd H2 W (.lst (refs.map V.ref ++ qs.map V.ref)) W = some (.lst ((refs ++ qs).map V.ref)) := by rw [upd_same, List.map_append]
      have h7 : szs its + n' = szs (its ++ its2) := by unfold szs at *; rw [List.map_append, List.sum_append, j3]
      have h8 : alls (its ++ its2) = B := by unfold alls at *; rw [List.all_append, j4, eb3]
      refine k (szs its + n') _ _ (by omega) ⟨⟨_, _, rfl⟩, s5, refs ++ qs, its ++ its2, h6, ?_, fun it' hi => ?_, h7, h8, by omega⟩
      · refine Paired.app' (Paired.map' p2 fun x y h => ⟨h.1, by rw [upd_ne h.1]; exact s3 _ _ h.2⟩) ?_
        have z : Paired (fun r x => r ≠ W ∧ L2.upd H2 W (.lst (refs.map V.ref ++ qs.map V.ref)) r = some (.tup [x, .int ((a + 1 : Nat) : Int)])) qs (its2.map (·.1)) := by
          rw [j1]
          refine Paired.map' hp2 fun x y h => ?_
          have xW : x ≠ W := fun z => by rw [z, h2] at h; cases h.1
          exact ⟨xW, by rw [upd_ne xW]; exact h.2⟩
        exact pair_fst (fun r it h e => ⟨e.1, by rw [h]; exact e.2⟩) z (fun it h => (j2 it h).1)
      · rcases List.mem_append.mp hi with hi | hi
        · exact oki it' hi
        · obtain ⟨q1, q2⟩ := j2 it' hi
          rw [q1]
          exact ⟨by omega, by rw [show 100 - (a + 1) = q from by omega]; exact q2⟩
section
variable {P : Program} {w : World} {K : PySem.W.Frag} {mg : Str → Option Value} {base : Heap} {f : Addr} {fd : FuncData}
abbrev sis_constant : Stmt := top 18
theorem scis_constant : FnScope ["value", "waiting", "around", "inner"] ["value"] (defScope sis_constant) := ⟨rfl, rfl, rfl, by decide +kernel, rfl, by decide +kernel, by decide +kernel⟩

theorem ok_is_constant {CC : Addr} (T : Txt mg) (I : CodeT K mg CC) (F : FnP K "is_constant" "is_constant" sis_constant f fd) (C_is_string : Cal P w K mg base 1 "is_string" ["value"] spIsString) : FnOk P w K mg base CX0 2 f fd ["value"] spIsConst := by
  refine F.ok scis_constant (fun vs H Q E h => ?_) (fun cdv A outer s H vs Q E hr h => ?_)
  · obtain ⟨v, n, b, rfl, _⟩ := h
    rfl
  · obtain ⟨v, n, b, rfl, hv, hn, k⟩ := h
    refine ⟨_, PSs.nox (pss_cons (ps_if (PW.pt (pw_or (pt_cmpR op_isN (pv 0) pe_non (nomark _)) (pw_or1 (pt_val (pe_callB (call_is_d I.cI) (by rfl) T.b_isinstance (by decide +kernel) (pa_cons (pv 0) (pa_cons (pe_bltn (v := .ty "int") (by rfl) T.b_int (by decide +kernel) rfl) pa_nil)))))))
    (pss_one (ps_ret pe_bl))
    pss_nil)
  (pss_cons (ps_if (pt_not (pt_val (pe_callB (call_is_d I.cI) (by rfl) T.b_isinstance (by decide +kernel) (pa_cons (pv 0) (pa_cons (pe_bltn (v := .ty "tuple") (by rfl) T.b_tuple (by decide +kernel) rfl) pa_nil)))))
    (pss_one (ps_ret (pe_cal C_is_string (hr.mono (by decide)) rfl (pa_cons (pv 0) pa_nil))))
    pss_nil)
  (pss_cons (ps_set (i := 1) scis_constant.nd rfl (Or.inl rfl) (pe_lst (pa_cons (pe_tup (pa_cons (pv 0) (pa_cons pe_int pa_nil))) pa_nil)))
  (pss_cons (ps_while PassesOwn.never (pt_truth (pv 1) (by intro _; rfl))
    (pss_cons (ps_asg (pe_bm0 PySem.F.plainAttrs_list PySem.F.slot_list_pop PySem.F.type_list_pop mt_pop (pv 1)) (pg_tupD (n := 2) rfl (pgs_cons (pg_name (i := 0) scis_constant.nd rfl (Or.inl rfl)) (pgs_cons (pg_name (i := 2) scis_constant.nd rfl (Or.inr rfl)) pgs_nil))))
  (pss_one (ps_if (PW.pt (pw_and (pt_val (pe_callB (call_is_d I.cI) (by rfl) T.b_isinstance (by decide +kernel) (pa_cons (pv 0) (pa_cons (pe_bltn (v := .ty "tuple") (by rfl) T.b_tuple (by decide +kernel) rfl) pa_nil)))) (pw_and1 (pt_cmpR op_lt (pv 2) (pe_gi T.g_DEEPEST) (nomark _)))))
    (pss_one (ps_expr (pe_bm PySem.F.plainAttrs_list PySem.F.slot_list_extend PySem.F.type_list_extend mt_extend (pv 1) (pa_cons (pe_lc (own := [("inner", 3)]) (g := gName 3) (tt := tYes) rfl scis_constant.nd (pi_tup (pv 0)) (blkOk_by (own := [("inner", 3)]) (N := ["value", "waiting", "around", "inner"]) (sc := defScope sis_constant) (by decide +kernel)) (fun _ _ _ _ _ => (pg_name (i := 3) scis_constant.nd rfl (Or.inl rfl))) (fun _ _ _ _ _ => pts_nil) (fun _ _ _ _ _ => (pe_tup (pa_cons (pv 3) (pa_cons (pe_op op_add (pv 2) pe_int) pa_nil))))) pa_nil))))
    (pss_one (ps_if (PW.pt (pw_and (pt_cmpR op_notN (pv 0) pe_non (nomark _)) (pw_and (pt_not (pt_val (pe_callB (call_is_d I.cI) (by rfl) T.b_isinstance (by decide +kernel) (pa_cons (pv 0) (pa_cons (pe_bltn (v := .ty "int") (by rfl) T.b_int (by decide +kernel) rfl) pa_nil))))) (pw_and1 (pt_not (pt_val (pe_cal C_is_string (hr.mono (by decide)) rfl (pa_cons (pv 0) pa_nil))))))))
    (pss_one (ps_ret pe_bl))
    pss_nil))))))
  (pss_one (ps_ret pe_bl)))))), ?_⟩
    show (_ : TS) _ [some v, none, none, none] H
    simp only [r_seq, r_next, r_brk, r_cont, r_asg, r_name, r_ret, r_retN, r_drop, r_ifs, r_never, r_var, r_c, r_op, r_un, r_if, r_tst, r_b, r_not, r_and, r_or, r_andV, r_orV, r_notV, r_nil, r_cons, r_tup, r_lst, r_cb, r_call, r_bm, r_bm0, r_sl, r_nopart, r_part, r_rev, r_gnil, r_gcons, r_gsub, r_par, r_aug, r_chain, r_I0, r_I, r_U, r_ixd, r_lend, r_tupd, r_listd, r_sld, r_app, r_ext, r_reverse, r_setl, r_cat, r_int1, r_eqS, r_neS, scal_ii, scal_bb, scal_ss, at0, at1, at2, sq_lst, sq_tup, isLst_lst, List.getElem?_cons_zero, List.getElem?_cons_succ, List.set_cons_zero, List.set_cons_succ, V.int.injEq, V.bl.injEq, V.ref.injEq, V.str.injEq, HO.lst.injEq, HO.tup.injEq, Option.some.injEq, exists_eq_left', exists_eq_left, List.cons.injEq, and_true, true_and, decide_eq_true_eq, reduceCtorEq, false_and, exists_false, or_false, false_or, exists_const, and_assoc, exists_and_left, List.append_nil, ix0, ix1, ix2, cm_mod, cdw1009, cdw2003, cdw7, cdw64, cdw2, cm104729, cm2, cm3, upd_same, List.length_cons, List.length_nil, Int.reduceLT, Int.reduceLE, Nat.reduceAdd, Nat.reduceLeDiff, Nat.reduceLT, Int.reduceToNat, r_for1, r_forL, r_forT, r_lcL, r_lc1, r_yes, r_gtupD, wipe_0, wipe_1, List.cons_append, List.nil_append, r_forS, r_ipI, ite_false, ite_true, Bool.not_true, Bool.not_false, decide_true, decide_false, r_isd, r_islt, cD_ty, cD_ref, tD_non, tD_bl, tD_int, tD_str, tD_ref, tH_lst, tH_tup, tH_dK, tH_ins, ki_self, ki_int_bool, ki_non_int, ki_str_int, ki_lt_lst, ki_lt_tup, r_fld, r_sfld, HO.ins.injEq, cx_K]
    have other : ∀ {t : String}, Kd H v t → v ≠ .non → t ≠ "int" → t ≠ "bool" → t ≠ "tuple" → StrV H v b → ∃ x, tyD CC H v = some x ∧ ∃ x_1, PySem.W.kitOne K x (.type "int") = some x_1 ∧ (x_1 = false ∧ ∃ x, tyD CC H v = some x ∧ ∃ x_2, PySem.W.kitOne K x (.type "tuple") = some x_2 ∧ (x_2 = false ∧ spIsString [v] H Q E0)) := fun {t} kd n1 n2 n3 n4 sv => by
      obtain ⟨k1, k2⟩ := kd.ty (CC := CC)
      exact ⟨_, k1, _, kit_all k2 (by decide), by unfold kitB; simp [n2, n3], _, k1, _, kit_all k2 (by decide), by unfold kitB; simp [n4], v, b, rfl, sv, k⟩
    cases hv with
    | non =>
      rw [if_pos rfl]
      exact k H (Same.refl H)
    | bl _ b =>
      rw [if_neg (by simp)]
      refine ⟨_, rfl, true, kit_all (t := "bool") (by decide) (by decide), ?_⟩
      rw [if_pos rfl]
      exact k H (Same.refl H)
    | int _ i =>
      rw [if_neg (by simp)]
      refine ⟨_, rfl, true, ki_self, ?_⟩
      rw [if_pos rfl]
      exact k H (Same.refl H)
    | @str _ z b' h =>
      rw [if_neg (by simp)]
      obtain ⟨x, e1, x1, e2, e3, y, e4, x2, e5, e6, e7⟩ := other (.str z) (by simp) (by decide) (by decide) (by decide) h
      refine ⟨x, e1, x1, e2, ?_⟩
      rw [e3, if_neg (by decide)]
      refine ⟨y, e4, x2, e5, ?_⟩
      rw [e6, if_pos (by decide)]
      exact e7
    | @no _ _ t h n =>
      have nn : v ≠ .non := fun e => by
        subst e
        cases h with
        | non => simp at n
      rw [if_neg nn]
      obtain ⟨x, e1, x1, e2, e3, y, e4, x2, e5, e6, e7⟩ := other h nn (by rcases n with rfl | rfl <;> decide) (by rcases n with rfl | rfl <;> decide) (by rcases n with rfl | rfl <;> decide) (.no h (by rcases n with rfl | rfl <;> decide))
      refine ⟨x, e1, x1, e2, ?_⟩
      rw [e3, if_neg (by decide)]
      refine ⟨y, e4, x2, e5, ?_⟩
      rw [e6, if_pos (by decide)]
      exact e7
    | @tup q c xs n' b' ht t =>
      rw [if_neg (by simp)]
      have hv : KV H 100 (.ref c) (n' + 1) b := .tup ht t
      have et : tyD CC H (.ref c) = some (.type "tuple") := by simp [tyD, tyH, ht]
      refine ⟨_, et, false, kit_all (t := "tuple") (by decide) (by decide), ?_⟩
      rw [if_neg (by decide)]
      refine ⟨_, et, true, ki_self, ?_⟩
      rw [if_neg (by decide)]
      refine ⟨szl (by decide : 2 ≤ 1000), fun p hp => ⟨szl (by decide : 1 ≤ 1000), fun W hW => ?_⟩⟩
      have pW : p ≠ W := ne_new upd_same hW
      have W0 : H W = none := (Same.new' (Same.refl H) hp).free hW
      have s1 : Same H (L2.upd (L2.upd H p (.tup [.ref c, .int 0])) W (.lst [.ref p])) := Same.new' (Same.new' (Same.refl H) hp) hW
      refine while_w (tb := t_cturn K CC) (Wait H W b) (m0 := n' + 1) ⟨⟨_, _, rfl⟩, s1, [p], [(.ref c, 0, n' + 1, b)], upd_same, .cons ⟨pW, by rw [upd_ne pW]; exact upd_same⟩ .nil, fun it hi => ?_, by simp [szs], by simp [alls], hn⟩ ?_
      · rw [List.mem_singleton.mp hi]
        exact ⟨Nat.zero_le _, hv⟩
      · rintro m σ H1 ⟨⟨v0, v2, rfl⟩, s2, refs, its, h2, pr, ok, em, eb, hm⟩
        refine ⟨!(refs.map V.ref).isEmpty, fun QT q => ⟨.ref W, rfl, _, .inl ⟨_, SqL.of h2, rfl⟩, q⟩, fun hb => ?_, fun hb => ?_⟩
        · rcases List.eq_nil_or_concat refs with rfl | ⟨rs, r, rfl⟩
          · cases hb
          · rw [List.concat_eq_append] at *
            have ln := Paired.length pr
            rcases List.eq_nil_or_concat its with rfl | ⟨is, it, rfl⟩
            · simp at ln
            · rw [List.concat_eq_append] at *
              exact cturn_run W0 s2 h2 pr ok em eb hm (fun m' σ H' lt w => ⟨m', lt, w⟩) fun eB H' sH' => by rw [← eB]; exact k H' sH'
        · have e0 : refs = [] := by
            cases refs with
            | nil => rfl
            | cons x l => cases hb
          subst e0
          have ln := Paired.length pr
          have i0 : its = [] := List.length_eq_zero_iff.mp (by simpa using ln.symm)
          subst i0
          simp only [r_seq, r_next, r_brk, r_cont, r_asg, r_name, r_ret, r_retN, r_drop, r_ifs, r_never, r_var, r_c, r_op, r_un, r_if, r_tst, r_b, r_not, r_and, r_or, r_andV, r_orV, r_notV, r_nil, r_cons, r_tup, r_lst, r_cb, r_call, r_bm, r_bm0, r_sl, r_nopart, r_part, r_rev, r_gnil, r_gcons, r_gsub, r_par, r_aug, r_chain, r_I0, r_I, r_U, r_ixd, r_lend, r_tupd, r_listd, r_sld, r_app, r_ext, r_reverse, r_setl, r_cat, r_int1, r_eqS, r_neS, scal_ii, scal_bb, scal_ss, at0, at1, at2, sq_lst, sq_tup, isLst_lst, List.getElem?_cons_zero, List.getElem?_cons_succ, List.set_cons_zero, List.set_cons_succ, V.int.injEq, V.bl.injEq, V.ref.injEq, V.str.injEq, HO.lst.injEq, HO.tup.injEq, Option.some.injEq, exists_eq_left', exists_eq_left, List.cons.injEq, and_true, true_and, decide_eq_true_eq, reduceCtorEq, false_and, exists_false, or_false, false_or, exists_const, and_assoc, exists_and_left, List.append_nil, ix0, ix1, ix2, cm_mod, cdw1009, cdw2003, cdw7, cdw64, cdw2, cm104729, cm2, cm3, upd_same, List.length_cons, List.length_nil, Int.reduceLT, Int.reduceLE, Nat.reduceAdd, Nat.reduceLeDiff, Nat.reduceLT, Int.reduceToNat, r_for1, r_forL, r_forT, r_lcL, r_lc1, r_yes, r_gtupD, wipe_0, wipe_1, List.cons_append, List.nil_append, r_forS, r_ipI, ite_false, ite_true, Bool.not_true, Bool.not_false, decide_true, decide_false, r_isd, r_islt, cD_ty, cD_ref, tD_non, tD_bl, tD_int, tD_str, tD_ref, tH_lst, tH_tup, tH_dK, tH_ins, ki_self, ki_int_bool, ki_non_int, ki_str_int, ki_lt_lst, ki_lt_tup, r_fld, r_sfld, HO.ins.injEq, cx_K]
          rw [show b = true from eb.symm]  at k
          exact k H1 s2
end
end C51

set_option maxHeartbeats 2000000
namespace C51
open PySem PySem.Spec PyProof.Rows L2
/-- one constant, and how deep it makes a code -/
def ItemC (CC : Addr) (H : Hp) (x : V) (e : Nat) : Prop := (∃ n, KV H 100 x n true ∧ n ≤ 100000 ∧ e = 0) ∨ ∃ (c dx : Addr) (fs : List (Str × V)) (d : Nat), x = .ref c ∧ H c = some (.ins CC dx fs) ∧ fs.lookup ("depth" : Str) = some (.int (d : Int)) ∧ e = d + 1
def depF (es : List Nat) : Nat := es.foldl max 1
theorem ItemC.same {CC : Addr} {H H' : Hp} {x : V} {e : Nat} (h : ItemC CC H x e) (s : Same H H') : ItemC CC H' x e := by
  rcases h with ⟨n, h1, h2, h3⟩ | ⟨c, dx, fs, d, h1, h2, h3, h4⟩
  · exact .inl ⟨n, h1.same s, h2, h3⟩
  · exact .inr ⟨c, dx, fs, d, h1, s _ _ h2, h3, h4⟩
def BadC (H : Hp) (x : V) : Prop := ∃ n, KV H 100 x n false ∧ n ≤ 100000
def BadRowC (CC : Addr) (H : Hp) (v : V) : Prop := NoRow H v ∨ ∃ (a : Addr) (pre : List V) (es : List Nat) (x : V) (post : List V), v = .ref a ∧ sq (H a) = some (pre ++ x :: post) ∧ Paired (ItemC CC H) pre es ∧ BadC H x
def spDepthOf (CC CN : Addr) : Sp := fun vs H Q E => ∃ v : V, vs = [v] ∧ ((∃ (a : Addr) (xs : List V) (es : List Nat), v = .ref a ∧ sq (H a) = some xs ∧ Paired (ItemC CC H) xs es ∧ depF es ≤ 100 ∧ ∀ H', Same H H' → Q (.int (depF es : Int)) H') ∨ (BadRowC CC H v ∧ ErrF CN H E "constants"))
/-- data by its kind -/
theorem KV.kd {H : Hp} {k n : Nat} {v : V} {b : Bool} (h : KV H k v n b) : ∃ t, Kd H v t := by
  cases h with
  | non => exact ⟨_, .non⟩
  | bl _ b => exact ⟨_, .bl b⟩
  | int _ i => exact ⟨_, .int i⟩
  | str h => exact ⟨_, .str _⟩
  | no h n => exact ⟨_, h⟩
  | tup0 h => exact ⟨_, .tup h⟩
  | tup h t => exact ⟨_, .tup h⟩
section
variable {P : Program} {w : World} {K : PySem.W.Frag} {mg : Str → Option Value} {base : Heap} {f : Addr} {fd : FuncData}
abbrev sdepth_of : Stmt := top 17
theorem scdepth_of : FnScope ["constants", "depth", "value"] ["constants"] (defScope sdepth_of) := ⟨rfl, rfl, rfl, by decide +kernel, rfl, by decide +kernel, by decide +kernel⟩

theorem ok_depth_of {CC CN : Addr} (T : Txt mg) (I : CodeT K mg CC) (yes : PySem.W.kitOne K (.ref CC) (.ref CC) = some true) (X_NoCode : Exn P w K mg base "NoCode" CN "field") (F : FnP K "depth_of" "depth_of" sdepth_of f fd) (C_is_constant : Cal P w K mg base 2 "is_constant" ["value"] spIsConst) : FnOk P w K mg base (CX P w) 3 f fd ["constants"] (spDepthOf CC CN) := by
  refine F.ok scdepth_of (fun vs H Q E h => ?_) (fun cdv A outer s H vs Q E hr h => ?_)
  · obtain ⟨v, rfl, _⟩ := h
    rfl
  · refine ⟨_, (pss_cons (ps_if (pt_not (pt_val (pe_callB (call_is_lt I.cI) (by rfl) T.b_isinstance (by decide +kernel) (pa_cons (pv 0) (pa_cons (pe_tup (pa_cons (pe_bltn (v := .ty "list") (by rfl) T.b_list (by decide +kernel) rfl) (pa_cons (pe_bltn (v := .ty "tuple") (by rfl) T.b_tuple (by decide +kernel) rfl) pa_nil))) pa_nil)))))
    (pss_one (ps_raise rfl (takes_of rfl rfl rfl rfl) (pmk_x X_NoCode (hr.mono (by decide)) rfl pe_str)))
    pss_nil)
  (pss_cons (ps_set (i := 1) scdepth_of.nd rfl (Or.inl rfl) pe_int)
  (pss_cons (ps_for (passes_of rfl) rfl (pi_seqV 0) (pg_name (i := 2) scdepth_of.nd rfl (Or.inl rfl))
    (pss_one (ps_if (pt_val (pe_callB (call_is_d I.cI) (by rfl) T.b_isinstance (by decide +kernel) (pa_cons (pv 2) (pa_cons (pe_glob (v := .ref _) rfl I.g_Code rfl) pa_nil))))
    (pss_one (ps_set (i := 1) scdepth_of.nd rfl (Or.inl rfl) (pe_callB (call_max2 rfl) (by rfl) T.b_max (by decide +kernel) (pa_cons (pv 1) (pa_cons (pe_op op_add (pe_fld (pv 2) rfl) pe_int) pa_nil)))))
    (pss_one (ps_if (pt_not (pt_val (pe_cal C_is_constant (hr.mono (by decide)) rfl (pa_cons (pv 2) pa_nil))))
    (pss_one (ps_raise rfl (takes_of rfl rfl rfl rfl) (pmk_x X_NoCode (hr.mono (by decide)) rfl pe_str)))
    pss_nil)))))
  (pss_cons (ps_if (pt_cmpR op_gt (pv 1) (pe_gi T.g_DEEPEST) (nomark _))
    (pss_one (ps_raise rfl (takes_of rfl rfl rfl rfl) (pmk_x X_NoCode (hr.mono (by decide)) rfl pe_str)))
    pss_nil)
  (pss_one (ps_ret (pv 1))))))), ?_⟩
    obtain ⟨v, rfl, h⟩ := h
    show (_ : TS) _ [some v, none, none] H
    simp only [r_seq, r_next, r_brk, r_cont, r_asg, r_name, r_ret, r_retN, r_drop, r_ifs, r_never, r_var, r_c, r_op, r_un, r_if, r_tst, r_b, r_not, r_and, r_or, r_andV, r_orV, r_notV, r_nil, r_cons, r_tup, r_lst, r_cb, r_call, r_bm, r_bm0, r_sl, r_nopart, r_part, r_rev, r_gnil, r_gcons, r_gsub, r_par, r_aug, r_chain, r_I0, r_I, r_U, r_ixd, r_lend, r_tupd, r_listd, r_sld, r_app, r_ext, r_reverse, r_setl, r_cat, r_int1, r_eqS, r_neS, scal_ii, scal_bb, scal_ss, at0, at1, at2, sq_lst, sq_tup, isLst_lst, List.getElem?_cons_zero, List.getElem?_cons_succ, List.set_cons_zero, List.set_cons_succ, V.int.injEq, V.bl.injEq, V.ref.injEq, V.str.injEq, HO.lst.injEq, HO.tup.injEq, Option.some.injEq, exists_eq_left', exists_eq_left, List.cons.injEq, and_true, true_and, decide_eq_true_eq, reduceCtorEq, false_and, exists_false, or_false, false_or, exists_const, and_assoc, exists_and_left, List.append_nil, ix0, ix1, ix2, cm_mod, cdw1009, cdw2003, cdw7, cdw64, cdw2, cm104729, cm2, cm3, upd_same, List.length_cons, List.length_nil, Int.reduceLT, Int.reduceLE, Nat.reduceAdd, Nat.reduceLeDiff, Nat.reduceLT, Int.reduceToNat, r_for1, r_forL, r_forT, r_lcL, r_lc1, r_yes, r_gtupD, wipe_0, wipe_1, List.cons_append, List.nil_append, r_forS, r_ipI, ite_false, ite_true, Bool.not_true, Bool.not_false, decide_true, decide_false, r_isd, r_islt, cD_ty, cD_ref, tD_non, tD_bl, tD_int, tD_str, tD_ref, tH_lst, tH_tup, tH_dK, tH_ins, ki_self, ki_int_bool, ki_non_int, ki_str_int, ki_lt_lst, ki_lt_tup, r_fld, r_sfld, HO.ins.injEq, cx_K]
    have kd : ∃ t, Kd H v t := by
      rcases h with ⟨a, xs, es, rfl, h1, _⟩ | ⟨⟨t, h1, _⟩ | ⟨a, pre, es, x, post, rfl, h1, _⟩, _⟩
      · obtain ⟨t, q, _⟩ := sq_ty (CC := CC) h1
        exact ⟨t, q⟩
      · exact ⟨t, h1⟩
      · obtain ⟨t, q, _⟩ := sq_ty (CC := CC) h1
        exact ⟨t, q⟩
    obtain ⟨t, kt⟩ := kd
    obtain ⟨h1, h2⟩ := kt.ty (CC := CC)
    refine ⟨szl (by decide), fun p hp => ?_⟩
    have sp := Same.new' (o := .tup [.ty "list", .ty "tuple"]) (Same.refl H) hp
    generalize L2.upd H p (.tup [.ty "list", .ty "tuple"]) = G at *
    obtain ⟨h3, _⟩ := (kt.same sp).ty (CC := CC)
    refine ⟨_, h3, _, kit_lt h2, ?_⟩
    have raise : ∀ (G' : Hp) (σ : L2.St), Same H G' → ErrF CN H E "constants" → (tMkO CN (spXInit CN "field") [] (tCons (tC (V.str "constants")) tNil) σ G' fun cls d H' => E cls d H') := fun G' v3 s1 er => raise_x (v := .str "constants") (fun Q q => q) (er.same s1)
    have row : ∀ (a : Addr) (xs : List V), v = .ref a → sq (H a) = some xs → (t == "list" || t == "tuple") = true := fun a xs e q => by
      subst e
      rcases sq_cases q with q | q
      · cases kt with
        | lst _ => rfl
        | tup z => rw [q] at z; cases z
        | dct z => rw [q] at z; cases z
      · cases kt with
        | lst z => rw [q] at z; cases z
        | tup _ => rfl
        | dct z => rw [q] at z; cases z
    have cs : (∃ (a : Addr) (xs : List V) (m : Nat) (es : List Nat), v = .ref a ∧ sq (H a) = some xs ∧ m = es.length ∧ (∀ i (h : i < xs.length) (h2 : i < es.length), ItemC CC H xs[i] es[i]) ∧ ((m = xs.length ∧ depF es ≤ 100 ∧ ∀ H', Same H H' → Q (.int (depF es : Int)) H') ∨ (∃ h : m < xs.length, BadC H xs[m] ∧ ErrF CN H E "constants"))) ∨ (NoRow H v ∧ ErrF CN H E "constants") := by
      rcases h with ⟨a, xs, es, e, q, pr, hd, k⟩ | ⟨nr | ⟨a, pre, es, x, post, e, q, pr, bx⟩, er⟩
      · exact .inl ⟨a, xs, es.length, es, e, q, rfl, fun i hi hi2 => Paired.at' pr hi hi2, .inl ⟨(Paired.length pr).symm, hd, k⟩⟩
      · exact .inr ⟨nr, er⟩
      · have lp := Paired.length pr
        have lt : es.length < (pre ++ x :: post).length := by rw [List.length_append, List.length_cons]; omega
        exact .inl ⟨a, _, es.length, es, e, q, rfl, fun i hi hm => by rw [List.getElem_append_left (by omega)]; exact Paired.at' pr (by omega) hm, .inr ⟨lt, by rw [List.getElem_append_right (by omega)]; simpa [lp] using bx, er⟩⟩
    rcases cs with ⟨a, xs, m, es, e, q, em, hpre, hend⟩ | ⟨⟨t', k1, n1, n2⟩, er⟩
    · rw [row a _ e q, if_neg (by decide)]
      subst e
      refine ⟨a, rfl, lp_seq (sq_same q sp) (fun i σ H' => (∃ v3, σ = [some (.ref a), some (.int (depF (es.take i) : Int)), v3]) ∧ (Same H H' ∧ H' a = G a) ∧ i ≤ m) ⟨⟨_, rfl⟩, ⟨sp, rfl⟩, Nat.zero_le _⟩ (fun i σ H' h => h.2.1.2) ?_ ?_⟩
      · rintro i x σ H1 hx ⟨⟨v3, rfl⟩, ⟨s1, ea⟩, him⟩
        obtain ⟨hi, rfl⟩ := List.getElem?_eq_some_iff.mp hx
        have keepA : ∀ H2, Same H1 H2 → H2 a = G a := fun H2 s2 => by
          rcases sq_cases (sq_same q sp) with z | z
          · rw [z] at ea ⊢
            exact s2 _ _ ea
          · rw [z] at ea ⊢
            exact s2 _ _ ea
        by_cases c : i < m
        · have hi2 : i < es.length := by omega
          have it := (hpre i hi hi2).same s1
          have nx : depF (es.take (i + 1)) = max (depF (es.take i)) es[i] := by
            unfold depF
            rw [List.take_succ_eq_append_getElem hi2, List.foldl_append]
            rfl
          have pos : 1 ≤ depF (es.take i) := by
            unfold depF
            generalize es.take i = l
            have : ∀ (l : List Nat) (n : Nat), n ≤ l.foldl max n := by
              intro l
              induction l with
              | nil => exact fun n => Nat.le_refl n
              | cons x l ih => exact fun n => Nat.le_trans (Nat.le_max_left n x) (ih _)
            exact this l 1
          rw [nx]
          generalize es[i] = e at *
          generalize xs[i] = x at *
          have cl := I.cI.cl
          have na := I.na "depth" (by decide)
          simp only [r_seq, r_next, r_brk, r_cont, r_asg, r_name, r_ret, r_retN, r_drop, r_ifs, r_never, r_var, r_c, r_op, r_un, r_if, r_tst, r_b, r_not, r_and, r_or, r_andV, r_orV, r_notV, r_nil, r_cons, r_tup, r_lst, r_cb, r_call, r_bm, r_bm0, r_sl, r_nopart, r_part, r_rev, r_gnil, r_gcons, r_gsub, r_par, r_aug, r_chain, r_I0, r_I, r_U, r_ixd, r_lend, r_tupd, r_listd, r_sld, r_app, r_ext, r_reverse, r_setl, r_cat, r_int1, r_eqS, r_neS, scal_ii, scal_bb, scal_ss, at0, at1, at2, sq_lst, sq_tup, isLst_lst, List.getElem?_cons_zero, List.getElem?_cons_succ, List.set_cons_zero, List.set_cons_succ, V.int.injEq, V.bl.injEq, V.ref.injEq, V.str.injEq, HO.lst.injEq, HO.tup.injEq, Option.some.injEq, exists_eq_left', exists_eq_left, List.cons.injEq, and_true, true_and, decide_eq_true_eq, reduceCtorEq, false_and, exists_false, or_false, false_or, exists_const, and_assoc, exists_and_left, List.append_nil, ix0, ix1, ix2, cm_mod, cdw1009, cdw2003, cdw7, cdw64, cdw2, cm104729, cm2, cm3, upd_same, List.length_cons, List.length_nil, Int.reduceLT, Int.reduceLE, Nat.reduceAdd, Nat.reduceLeDiff, Nat.reduceLT, Int.reduceToNat, r_for1, r_forL, r_forT, r_lcL, r_lc1, r_yes, r_gtupD, wipe_0, wipe_1, List.cons_append, List.nil_append, r_forS, r_ipI, ite_false, ite_true, Bool.not_true, Bool.not_false, decide_true, decide_false, r_isd, r_islt, cD_ty, cD_ref, tD_non, tD_bl, tD_int, tD_str, tD_ref, tH_lst, tH_tup, tH_dK, tH_ins, ki_self, ki_int_bool, ki_non_int, ki_str_int, ki_lt_lst, ki_lt_tup, r_fld, r_sfld, HO.ins.injEq, cx_K, cl, na]
          rcases it with ⟨n, h1', h2', rfl⟩ | ⟨c', dx, fs, d, rfl, h1', h2', rfl⟩
          · obtain ⟨t1, kd1⟩ := h1'.kd
            obtain ⟨h4, h5⟩ := kd1.ty (CC := CC)
            refine ⟨_, h4, false, I.no t1 h5, ?_⟩
            rw [if_neg (by decide)]
            refine ⟨x, n, true, rfl, h1', h2', fun H2 s2 => ⟨true, rfl, ?_⟩⟩
            rw [if_neg (by decide), Nat.max_eq_left (Nat.zero_le _)]
            exact ⟨rfl, ⟨_, rfl⟩, fun y o e => s2 y o (s1 y o e), keepA H2 s2, c⟩
          · refine ⟨.ref CC, by simp [tyD, tyH, h1'], true, yes, ?_⟩
            rw [if_pos rfl]
            refine ⟨c', rfl, CC, dx, fs, h1', cl, na, _, h2', (d : Int), rfl, ?_, ⟨_, rfl⟩, s1, ea, c⟩
            split <;> omega
        · have em' : i = m := by omega
          rcases hend with ⟨h, _⟩ | ⟨h, ⟨n, hb, hn⟩, er⟩
          · omega
          · subst em'
            generalize xs[i] = x at *
            have hb' := hb.same s1
            obtain ⟨t1, kd1⟩ := hb'.kd
            obtain ⟨h4, h5⟩ := kd1.ty (CC := CC)
            simp only [r_seq, r_next, r_brk, r_cont, r_asg, r_name, r_ret, r_retN, r_drop, r_ifs, r_never, r_var, r_c, r_op, r_un, r_if, r_tst, r_b, r_not, r_and, r_or, r_andV, r_orV, r_notV, r_nil, r_cons, r_tup, r_lst, r_cb, r_call, r_bm, r_bm0, r_sl, r_nopart, r_part, r_rev, r_gnil, r_gcons, r_gsub, r_par, r_aug, r_chain, r_I0, r_I, r_U, r_ixd, r_lend, r_tupd, r_listd, r_sld, r_app, r_ext, r_reverse, r_setl, r_cat, r_int1, r_eqS, r_neS, scal_ii, scal_bb, scal_ss, at0, at1, at2, sq_lst, sq_tup, isLst_lst, List.getElem?_cons_zero, List.getElem?_cons_succ, List.set_cons_zero, List.set_cons_succ, V.int.injEq, V.bl.injEq, V.ref.injEq, V.str.injEq, HO.lst.injEq, HO.tup.injEq, Option.some.injEq, exists_eq_left', exists_eq_left, List.cons.injEq, and_true, true_and, decide_eq_true_eq, reduceCtorEq, false_and, exists_false, or_false, false_or, exists_const, and_assoc, exists_and_left, List.append_nil, ix0, ix1, ix2, cm_mod, cdw1009, cdw2003, cdw7, cdw64, cdw2, cm104729, cm2, cm3, upd_same, List.length_cons, List.length_nil, Int.reduceLT, Int.reduceLE, Nat.reduceAdd, Nat.reduceLeDiff, Nat.reduceLT, Int.reduceToNat, r_for1, r_forL, r_forT, r_lcL, r_lc1, r_yes, r_gtupD, wipe_0, wipe_1, List.cons_append, List.nil_append, r_forS, r_ipI, ite_false, ite_true, Bool.not_true, Bool.not_false, decide_true, decide_false, r_isd, r_islt, cD_ty, cD_ref, tD_non, tD_bl, tD_int, tD_str, tD_ref, tH_lst, tH_tup, tH_dK, tH_ins, ki_self, ki_int_bool, ki_non_int, ki_str_int, ki_lt_lst, ki_lt_tup, r_fld, r_sfld, HO.ins.injEq, cx_K]
            refine ⟨_, h4, false, I.no t1 h5, ?_⟩
            rw [if_neg (by decide)]
            refine ⟨x, n, false, rfl, hb', hn, fun H2 s2 => ⟨false, rfl, ?_⟩⟩
            rw [if_pos (by decide)]
            exact raise _ _ (fun y o e => s2 y o (s1 y o e)) er
      · rintro σ H1 ⟨⟨v3, rfl⟩, ⟨s1, ea⟩, him⟩
        rcases hend with ⟨h, hd, k⟩ | ⟨h, _⟩
        · rw [show xs.length = es.length from by omega, List.take_length]
          simp only [r_seq, r_next, r_brk, r_cont, r_asg, r_name, r_ret, r_retN, r_drop, r_ifs, r_never, r_var, r_c, r_op, r_un, r_if, r_tst, r_b, r_not, r_and, r_or, r_andV, r_orV, r_notV, r_nil, r_cons, r_tup, r_lst, r_cb, r_call, r_bm, r_bm0, r_sl, r_nopart, r_part, r_rev, r_gnil, r_gcons, r_gsub, r_par, r_aug, r_chain, r_I0, r_I, r_U, r_ixd, r_lend, r_tupd, r_listd, r_sld, r_app, r_ext, r_reverse, r_setl, r_cat, r_int1, r_eqS, r_neS, scal_ii, scal_bb, scal_ss, at0, at1, at2, sq_lst, sq_tup, isLst_lst, List.getElem?_cons_zero, List.getElem?_cons_succ, List.set_cons_zero, List.set_cons_succ, V.int.injEq, V.bl.injEq, V.ref.injEq, V.str.injEq, HO.lst.injEq, HO.tup.injEq, Option.some.injEq, exists_eq_left', exists_eq_left, List.cons.injEq, and_true, true_and, decide_eq_true_eq, reduceCtorEq, false_and, exists_false, or_false, false_or, exists_const, and_assoc, exists_and_left, List.append_nil, ix0, ix1, ix2, cm_mod, cdw1009, cdw2003, cdw7, cdw64, cdw2, cm104729, cm2, cm3, upd_same, List.length_cons, List.length_nil, Int.reduceLT, Int.reduceLE, Nat.reduceAdd, Nat.reduceLeDiff, Nat.reduceLT, Int.reduceToNat, r_for1, r_forL, r_forT, r_lcL, r_lc1, r_yes, r_gtupD, wipe_0, wipe_1, List.cons_append, List.nil_append, r_forS, r_ipI, ite_false, ite_true, Bool.not_true, Bool.not_false, decide_true, decide_false, r_isd, r_islt, cD_ty, cD_ref, tD_non, tD_bl, tD_int, tD_str, tD_ref, tH_lst, tH_tup, tH_dK, tH_ins, ki_self, ki_int_bool, ki_non_int, ki_str_int, ki_lt_lst, ki_lt_tup, r_fld, r_sfld, HO.ins.injEq, cx_K]
          rw [if_neg (by omega)]
          exact k H1 s1
        · omega
    · have el : (t == "list" || t == "tuple") = false := by
        have et : t = t' := by
          obtain ⟨q1, _⟩ := k1.ty (CC := CC)
          rw [h1] at q1
          exact Value.type.inj (Option.some.inj q1)
        subst et
        simp [n1, n2]
      rw [el, if_pos (by decide)]
      exact raise _ _ sp er
end
end C51

set_option maxHeartbeats 4000000
namespace C51
open PySem PySem.Spec PyProof.Rows L2
/-! ### a def that may raise, as its callers see it -/
structure CalE (P : Program) (w : World) (K : PySem.W.Frag) (mg : Str → Option Value) (base : Heap) (k : Nat) (x : Str) (ps : List Str) (sp : Sp) : Prop where
  ex : ∃ f fd, FnOk P w K mg base (L2.CX P w) k f fd ps sp ∧ mg x = some (.ref f) ∧ PySem.W.keepIn K (.ref f) = true ∧ Binds K fd ps []
theorem pe_calE {X : Cx} {W : WX} {E : XK} {k : Nat} {x : Str} {ps : List Str} {sp : Sp} {e : Expr} {es : List Expr} {t : TA} {p pos : Pos} (C : CalE X.prog X.w X.K X.mg X.base k x ps sp) (hr : Room k X.A) (hg : Gl X x) (tk : Takes X W) (hW : ∀ cls d σ H, E cls d H → W cls d σ H) (ha : PA X (e :: es) t)
    (hdb : (x == ("__debug__" : Str)) = false := by decide) (he : starEach (e :: es) X.env = (false, eval e X.env) :: starEach es X.env := by rfl) (hpl : (backTo pos (starEach es X.env)).any (·.1) = false := by rfl) :
    PE X (.Call (.Name x p) (e :: es) [] pos) (tCall sp [] E t) := by
  obtain ⟨f, fd, F, m, kp, b⟩ := C.ex
  exact pe_call F hr hg m kp b .nil (passes_call tk hW) ha hdb he hpl

/-- a method of a class of the text -/
def inClass (s : Stmt) (j : Nat) : Stmt := match s with
  | .ClassDef _ _ _ body _ _ _ _ _ _ _ => body.getD j (.Pass ⟨0, 0, 0, 0⟩)
  | _ => .Pass ⟨0, 0, 0, 0⟩
theorem lnF {f : Str} {v : V} {fs : List (Str × V)} {n : Nat} (h : fs.length ≤ n) : (putF f v fs).length ≤ n + 1 := Nat.le_trans (length_putF f v fs) (Nat.succ_le_succ h)
/-- one statement, what follows being kept closed -/
theorem seq_intro {t u : TS} {D : Ends} {σ : L2.St} {H : Hp} (h : ∀ N : L2.St → Hp → Prop, (∀ σ' H', N σ' H' = u D σ' H') → t { D with nx := N } σ H) : tSeq t u D σ H := h _ fun _ _ => rfl
/-- an instance that is being filled: all else stays, and what is known of its fields -/
def Ini (CC c dx : Addr) (H0 : Hp) (L : List (Str × V)) (Hk : Hp) : Prop := Keep c H0 Hk ∧ ∃ fs, Hk c = some (.ins CC dx fs) ∧ fs.length ≤ L.length ∧ ∀ f, fs.lookup f = L.lookup f
theorem lkS {L fs : List (Str × V)} (h : ∀ f, fs.lookup f = L.lookup f) (f : Str) (v : V) (e : L.lookup f = some v) : fs.lookup f = some v := (h f).trans e
theorem Ini.store {CC c dx : Addr} {H0 Hk : Hp} {L fs : List (Str × V)} {f : Str} {y : V} (kk : Keep c H0 Hk) (hl : fs.length ≤ L.length) (lk : ∀ f, fs.lookup f = L.lookup f) :
    Ini CC c dx H0 ((f, y) :: L) (L2.upd Hk c (.ins CC dx (putF f y fs))) := by
  refine ⟨Keep.upd kk, _, upd_same, lnF hl, fun g => ?_⟩
  rw [lookup_putF, List.lookup_cons]
  by_cases e : g = f
  · subst e
    rw [beq_self_eq_true, if_pos rfl]
  · rw [if_neg e, show (g == f) = false from beq_eq_false_iff_ne.mpr e]
    exact lk g
section
variable {H H' : Hp} {c CC dx : Addr}
theorem Kd.keep (hc : H c = some (.ins CC dx [])) (s : Keep c H H') {v : V} {t : String} (h : Kd H v t) : Kd H' v t := by
  cases h with
  | non => exact .non
  | bl b => exact .bl b
  | int i => exact .int i
  | str z => exact .str z
  | @lst a xs h => exact .lst (s _ _ (fun z => by rw [z, hc] at h; cases h) h)
  | @tup a xs h => exact .tup (s _ _ (fun z => by rw [z, hc] at h; cases h) h)
  | @dct a kvs h => exact .dct (s _ _ (fun z => by rw [z, hc] at h; cases h) h)
theorem sq_keep (hc : H c = some (.ins CC dx [])) (s : Keep c H H') {a : Addr} {xs : List V} (h : sq (H a) = some xs) : sq (H' a) = some xs := by
  rcases sq_cases h with e | e
  · rw [s _ _ (fun z => by rw [z, hc] at e; cases e) e]
    rfl
  · rw [s _ _ (fun z => by rw [z, hc] at e; cases e) e]
    rfl
theorem StrV.keep {v : V} {b : Bool} (h : StrV H v b) (hc : H c = some (.ins CC dx [])) (s : Keep c H H') : StrV H' v b := by
  cases h with
  | ok z h => exact .ok z h
  | bad z h => exact .bad z h
  | no h n => exact .no (h.keep hc s) n
theorem BadN.keep {v : V} (h : BadN H v) (hc : H c = some (.ins CC dx [])) (s : Keep c H H') : BadN H' v := h.imp (fun ⟨t, k, n⟩ => ⟨t, k.keep hc s, n⟩) id
theorem BadB.keep {v : V} (h : BadB H v) (hc : H c = some (.ins CC dx [])) (s : Keep c H H') : BadB H' v := h.imp (fun ⟨t, k, n⟩ => ⟨t, k.keep hc s, n⟩) id
theorem NoRow.keep {v : V} (h : NoRow H v) (hc : H c = some (.ins CC dx [])) (s : Keep c H H') : NoRow H' v := let ⟨t, k, n⟩ := h; ⟨t, k.keep hc s, n⟩
theorem BadRow.keep {v : V} (h : BadRow H v) (hc : H c = some (.ins CC dx [])) (s : Keep c H H') : BadRow H' v := h.imp (fun h => h.keep hc s) fun ⟨a, pre, x, post, e, q, p, b⟩ => ⟨a, pre, x, post, e, sq_keep hc s q, p, b.keep hc s⟩
theorem BadRowS.keep {v : V} (h : BadRowS H v) (hc : H c = some (.ins CC dx [])) (s : Keep c H H') : BadRowS H' v := h.imp (fun h => h.keep hc s) fun ⟨a, pre, x, post, e, q, p, b⟩ => ⟨a, pre, x, post, e, sq_keep hc s q, fun y hy => (p y hy).keep hc s, b.keep hc s⟩
mutual
theorem KV.keep (hc : H c = some (.ins CC dx [])) (s : Keep c H H') : ∀ {k : Nat} {v : V} {n : Nat} {b : Bool}, KV H k v n b → KV H' k v n b
  | _, _, _, _, .non k => .non k
  | _, _, _, _, .bl k b => .bl k b
  | _, _, _, _, .int k i => .int k i
  | _, _, _, _, .str h => .str (h.keep hc s)
  | _, _, _, _, .no h n => .no (h.keep hc s) n
  | _, _, _, _, .tup0 h => .tup0 (s _ _ (fun z => by rw [z, hc] at h; cases h) h)
  | _, _, _, _, .tup h t => .tup (s _ _ (fun z => by rw [z, hc] at h; cases h) h) (KVs.keep hc s t)
theorem KVs.keep (hc : H c = some (.ins CC dx [])) (s : Keep c H H') : ∀ {k : Nat} {vs : List V} {n : Nat} {b : Bool}, KVs H k vs n b → KVs H' k vs n b
  | _, _, _, _, .nil k => .nil k
  | _, _, _, _, .cons h t => .cons (KV.keep hc s h) (KVs.keep hc s t)
end
theorem ItemC.keep {x : V} {e : Nat} (hc : H c = some (.ins CC dx [])) (s : Keep c H H') (h : ItemC CC H x e) : ItemC CC H' x e := by
  rcases h with ⟨n, h1, h2, h3⟩ | ⟨c', dx', fs, d, h1, h2, h3, h4⟩
  · exact .inl ⟨n, h1.keep hc s, h2, h3⟩
  · refine .inr ⟨c', dx', fs, d, h1, s _ _ (fun z => ?_) h2, h3, h4⟩
    rw [z, hc] at h2
    cases h2
    cases h3
theorem BadRowC.keep {v : V} (h : BadRowC CC H v) (hc : H c = some (.ins CC dx [])) (s : Keep c H H') : BadRowC CC H' v := h.imp (fun h => h.keep hc s) fun ⟨a, pre, es, x, post, e, q, p, n, b, hn⟩ => ⟨a, pre, es, x, post, e, sq_keep hc s q, Paired.map' p fun y e h => ItemC.keep hc s h, n, b.keep hc s, hn⟩
end
/-- the fields that are handed in -/
structure Fld where
  i0 : Int
  i1 : Int
  i2 : Int
  i3 : Int
  i4 : Int
  z1 : Str
  z2 : Str
  ds : List Nat
  kds : List Nat
  lns : List Nat
  gds : List Nat
  ks : List V
  es : List Nat
  zs : List Str
  ss : List Str
/-- a code with these fields -/
structure CodeX (CC MM : Addr) (H : Hp) (c : Addr) (X : Fld) (m : Addr) : Prop where
  ex : ∃ (dx : Addr) (fs : List (Str × V)) (u k n s kd t g : Addr), H c = some (.ins CC dx fs) ∧ fs.lookup ("argcount" : Str) = some (.int X.i0) ∧ fs.lookup ("onlycount" : Str) = some (.int X.i1) ∧ fs.lookup ("stacksize" : Str) = some (.int X.i2) ∧ fs.lookup ("flags" : Str) = some (.int X.i3) ∧
    fs.lookup ("code" : Str) = some (.ref u) ∧ fs.lookup ("depth" : Str) = some (.int (depF X.es : Int)) ∧ fs.lookup ("constants" : Str) = some (.ref k) ∧ fs.lookup ("names" : Str) = some (.ref n) ∧ fs.lookup ("slots" : Str) = some (.ref s) ∧ fs.lookup ("kinds" : Str) = some (.ref kd) ∧
    fs.lookup ("name" : Str) = some (.str X.z1) ∧ fs.lookup ("path" : Str) = some (.str X.z2) ∧ fs.lookup ("line" : Str) = some (.int X.i4) ∧ fs.lookup ("lines" : Str) = some (.ref t) ∧ fs.lookup ("handlers" : Str) = some (.ref g) ∧ fs.lookup ("identity" : Str) = some (.ref m) ∧
    H u = some (.tup (vn X.ds)) ∧ H k = some (.tup X.ks) ∧ H n = some (.tup (X.zs.map V.str)) ∧ H s = some (.tup (X.ss.map V.str)) ∧ H kd = some (.tup (vn X.kds)) ∧ H t = some (.tup (vn X.lns)) ∧ H g = some (.tup (vn X.gds)) ∧ (∃ md, H m = some (.ins MM md [])) ∧ fs.lookup ("parts_alike" : Str) = none
/-- what is raised while an instance is filled -/
def ErrK (CN : Addr) (H : Hp) (c : Addr) (E : XK) (f : Str) : Prop := ∀ d H', H d = none → Keep c H H' → H' d = some (.xd [("field", .str f)]) → E (.ref CN) (some d) H'
section
variable (H : Hp) (er : Str → Prop)
def fN (f : Str) (v : V) (k : Int → Prop) : Prop := (∃ n, v = .int n ∧ Num n ∧ k n) ∨ (BadN H v ∧ er f)
def fB (f : Str) (v : V) (k : List Nat → Prop) : Prop := (∃ (a : Addr) (ns : List Nat), v = .ref a ∧ sq (H a) = some (vn ns) ∧ (∀ n ∈ ns, n < 256) ∧ k ns) ∨ (BadRow H v ∧ er f)
def fS (f : Str) (v : V) (k : List Str → Prop) : Prop := (∃ (a : Addr) (zs : List Str), v = .ref a ∧ sq (H a) = some (zs.map V.str) ∧ (∀ z ∈ zs, OkS z) ∧ k zs) ∨ (BadRowS H v ∧ er f)
def fC (CC : Addr) (v : V) (k : List V → List Nat → Prop) : Prop := (∃ (a : Addr) (xs : List V) (es : List Nat), v = .ref a ∧ sq (H a) = some xs ∧ Paired (ItemC CC H) xs es ∧ depF es ≤ 100 ∧ k xs es) ∨ (BadRowC CC H v ∧ er "constants")
def fZ (f : Str) (v : V) (k : Str → Prop) : Prop := (∃ z, v = .str z ∧ OkS z ∧ k z) ∨ (StrV H v false ∧ er f)
def fL (kds : List Nat) (ss : List Str) (k : Prop) : Prop := (kds.length = ss.length ∧ k) ∨ (kds.length ≠ ss.length ∧ er "kinds")
end
/-- what becomes of fields -/
def fAll (CC : Addr) (H : Hp) (er : Str → Prop) (v0 v1 v2 v3 v4 v5 v6 v7 v8 v9 v10 v11 v12 v13 : V) (k : Fld → Prop) : Prop :=
  fN H er "argcount" v0 fun i0 => fN H er "onlycount" v1 fun i1 => fN H er "stacksize" v2 fun i2 => fN H er "flags" v3 fun i3 => fB H er "code" v4 fun ds => fC H er CC v5 fun ks es => fS H er "names" v6 fun zs => fS H er "slots" v7 fun ss => fB H er "kinds" v8 fun kds =>
    fL er kds ss (fZ H er "name" v9 fun z1 => fZ H er "path" v10 fun z2 => fN H er "line" v11 fun i4 => fB H er "lines" v12 fun lns => fB H er "handlers" v13 fun gds => k ⟨i0, i1, i2, i3, i4, z1, z2, ds, kds, lns, gds, ks, es, zs, ss⟩)
def spCodeInit (CC CN MM : Addr) : Sp := fun vs H Q E => ∃ (c dx : Addr) (v0 v1 v2 v3 v4 v5 v6 v7 v8 v9 v10 v11 v12 v13 : V), vs = [.ref c, v0, v1, v2, v3, v4, v5, v6, v7, v8, v9, v10, v11, v12, v13] ∧ H c = some (.ins CC dx []) ∧
  fAll CC H (ErrK CN H c E) v0 v1 v2 v3 v4 v5 v6 v7 v8 v9 v10 v11 v12 v13 fun X => ∀ m H', H m = none → Keep c H H' → CodeX CC MM H' c X m → Q .non H'
section
variable {P : Program} {w : World} {K : PySem.W.Frag} {mg : Str → Option Value} {base : Heap} {f : Addr} {fd : FuncData}
abbrev sCode_init : Stmt := inClass (top 9) 0
theorem scCode_init : FnScope ["self", "argcount", "onlycount", "stacksize", "flags", "code", "constants", "names", "slots", "kinds", "name", "path", "line", "lines", "handlers"] ["self", "argcount", "onlycount", "stacksize", "flags", "code", "constants", "names", "slots", "kinds", "name", "path", "line", "lines", "handlers"] (defScope sCode_init) := ⟨rfl, rfl, rfl, by decide +kernel, rfl, by decide +kernel, by decide +kernel⟩

theorem ok_Code_init {CC CN MM : Addr} (T : Txt mg) (I : CodeT K mg CC) (X_NoCode : Exn P w K mg base "NoCode" CN "field") (F : FnP K "__init__" "Code.__init__" sCode_init f fd) (C_number_of : CalE P w K mg base 3 "number_of" ["value", "field"] (spNumberOf CN)) (C_bytes_of : CalE P w K mg base 3 "bytes_of" ["row", "field"] (spBytesOf CN))
    (C_string_of : CalE P w K mg base 3 "string_of" ["value", "field"] (spStringOf CN)) (C_strings_of : CalE P w K mg base 3 "strings_of" ["row", "field"] (spStringsOf CN)) (C_depth_of : CalE P w K mg base 3 "depth_of" ["constants"] (spDepthOf CC CN)) (PM : MkP K MM) (gM : mg "Mark" = some (.ref MM)) :
    FnOk P w K mg base (CX P w) 4 f fd ["self", "argcount", "onlycount", "stacksize", "flags", "code", "constants", "names", "slots", "kinds", "name", "path", "line", "lines", "handlers"] (spCodeInit CC CN MM) := by
  refine F.ok scCode_init (fun vs H Q E h => ?_) (fun cdv A outer s H vs Q E hr h => ?_)
  · obtain ⟨c, dx, v0, v1, v2, v3, v4, v5, v6, v7, v8, v9, v10, v11, v12, v13, rfl, _⟩ := h
    rfl
  · skip
    refine ⟨_, (pss_cons (ps_fld (pv 0) (pe_calE C_number_of (hr.mono (by decide)) rfl (takes_of rfl rfl rfl rfl) (fun _ _ _ _ z => z) (pa_cons (pv 1) (pa_cons pe_str pa_nil))) rfl)
  (pss_cons (ps_fld (pv 0) (pe_calE C_number_of (hr.mono (by decide)) rfl (takes_of rfl rfl rfl rfl) (fun _ _ _ _ z => z) (pa_cons (pv 2) (pa_cons pe_str pa_nil))) rfl)
  (pss_cons (ps_fld (pv 0) (pe_calE C_number_of (hr.mono (by decide)) rfl (takes_of rfl rfl rfl rfl) (fun _ _ _ _ z => z) (pa_cons (pv 3) (pa_cons pe_str pa_nil))) rfl)
  (pss_cons (ps_fld (pv 0) (pe_calE C_number_of (hr.mono (by decide)) rfl (takes_of rfl rfl rfl rfl) (fun _ _ _ _ z => z) (pa_cons (pv 4) (pa_cons pe_str pa_nil))) rfl)
  (pss_cons (ps_fld (pv 0) (pe_calE C_bytes_of (hr.mono (by decide)) rfl (takes_of rfl rfl rfl rfl) (fun _ _ _ _ z => z) (pa_cons (pv 5) (pa_cons pe_str pa_nil))) rfl)
  (pss_cons (ps_fld (pv 0) (pe_calE C_depth_of (hr.mono (by decide)) rfl (takes_of rfl rfl rfl rfl) (fun _ _ _ _ z => z) (pa_cons (pv 6) pa_nil)) rfl)
  (pss_cons (ps_fld (pv 0) (pe_callTy call_tup_d (by rfl) T.b_tuple (by decide +kernel) (pa_cons (pv 6) pa_nil)) rfl)
  (pss_cons (ps_fld (pv 0) (pe_calE C_strings_of (hr.mono (by decide)) rfl (takes_of rfl rfl rfl rfl) (fun _ _ _ _ z => z) (pa_cons (pv 7) (pa_cons pe_str pa_nil))) rfl)
  (pss_cons (ps_fld (pv 0) (pe_calE C_strings_of (hr.mono (by decide)) rfl (takes_of rfl rfl rfl rfl) (fun _ _ _ _ z => z) (pa_cons (pv 8) (pa_cons pe_str pa_nil))) rfl)
  (pss_cons (ps_fld (pv 0) (pe_calE C_bytes_of (hr.mono (by decide)) rfl (takes_of rfl rfl rfl rfl) (fun _ _ _ _ z => z) (pa_cons (pv 9) (pa_cons pe_str pa_nil))) rfl)
  (pss_cons (ps_if (pt_cmpR op_ne (pe_callB call_len_d (by rfl) T.b_len (by decide +kernel) (pa_cons (pe_fld (pv 0) rfl) pa_nil)) (pe_callB call_len_d (by rfl) T.b_len (by decide +kernel) (pa_cons (pe_fld (pv 0) rfl) pa_nil)) (nomark _))
    (pss_one (ps_raise rfl (takes_of rfl rfl rfl rfl) (pmk_x X_NoCode (hr.mono (by decide)) rfl pe_str)))
    pss_nil)
  (pss_cons (ps_fld (pv 0) (pe_calE C_string_of (hr.mono (by decide)) rfl (takes_of rfl rfl rfl rfl) (fun _ _ _ _ z => z) (pa_cons (pv 10) (pa_cons pe_str pa_nil))) rfl)
  (pss_cons (ps_fld (pv 0) (pe_calE C_string_of (hr.mono (by decide)) rfl (takes_of rfl rfl rfl rfl) (fun _ _ _ _ z => z) (pa_cons (pv 11) (pa_cons pe_str pa_nil))) rfl)
  (pss_cons (ps_fld (pv 0) (pe_calE C_number_of (hr.mono (by decide)) rfl (takes_of rfl rfl rfl rfl) (fun _ _ _ _ z => z) (pa_cons (pv 12) (pa_cons pe_str pa_nil))) rfl)
  (pss_cons (ps_fld (pv 0) (pe_calE C_bytes_of (hr.mono (by decide)) rfl (takes_of rfl rfl rfl rfl) (fun _ _ _ _ z => z) (pa_cons (pv 13) (pa_cons pe_str pa_nil))) rfl)
  (pss_cons (ps_fld (pv 0) (pe_calE C_bytes_of (hr.mono (by decide)) rfl (takes_of rfl rfl rfl rfl) (fun _ _ _ _ z => z) (pa_cons (pv 14) (pa_cons pe_str pa_nil))) rfl)
  (pss_one (ps_fld (pv 0) (pe_plain PM rfl gM) rfl)))))))))))))))))), ?_⟩
    obtain ⟨c, dx, v0, v1, v2, v3, v4, v5, v6, v7, v8, v9, v10, v11, v12, v13, rfl, hc0, h⟩ := h
    show (_ : TS) _ [some (.ref c), some v0, some v1, some v2, some v3, some v4, some v5, some v6, some v7, some v8, some v9, some v10, some v11, some v12, some v13] H
    have cl := I.cI.cl
    have n0 := eq_true (I.na "argcount" (by decide))
    have n1 := eq_true (I.na "onlycount" (by decide))
    have n2 := eq_true (I.na "stacksize" (by decide))
    have n3 := eq_true (I.na "flags" (by decide))
    have n4 := eq_true (I.na "code" (by decide))
    have n5 := eq_true (I.na "depth" (by decide))
    have n6 := eq_true (I.na "constants" (by decide))
    have n7 := eq_true (I.na "names" (by decide))
    have n8 := eq_true (I.na "slots" (by decide))
    have n9 := eq_true (I.na "kinds" (by decide))
    have n10 := eq_true (I.na "name" (by decide))
    have n11 := eq_true (I.na "path" (by decide))
    have n12 := eq_true (I.na "line" (by decide))
    have n13 := eq_true (I.na "lines" (by decide))
    have n14 := eq_true (I.na "handlers" (by decide))
    have n15 := eq_true (I.na "identity" (by decide))
    have er : ∀ {f : Str} {Hk : Hp} {fs : List (Str × V)}, ErrK CN H c E f → Keep c H Hk → Hk c = some (.ins CC dx fs) → ErrF CN Hk E f := fun {f Hk fs} h0 kk hk d H' hd s hx => by
      refine h0 d H' ?_ (kk.trans (Keep.same s)) hx
      cases q : H d with
      | none => rfl
      | some o =>
        by_cases dc : d = c
        · rw [dc, hk] at hd
          cases hd
        · rw [kk d o dc q] at hd
          cases hd
    have i0 : Ini CC c dx H [] H := ⟨Keep.refl c H, [], hc0, Nat.le_refl _, fun f => rfl⟩
    -- argcount
    refine seq_intro fun N e => ?_
    have j := i0
    obtain ⟨kk, fs, hc, hl, lk⟩ := i0
    have l0 : fs.length < 1000 := Nat.lt_of_le_of_lt hl (by simp only [List.length_cons, List.length_nil]; decide)
    simp only [r_seq, r_next, r_brk, r_cont, r_asg, r_name, r_ret, r_retN, r_drop, r_ifs, r_never, r_var, r_c, r_op, r_un, r_if, r_tst, r_b, r_not, r_and, r_or, r_andV, r_orV, r_notV, r_nil, r_cons, r_tup, r_lst, r_cb, r_call, r_bm, r_bm0, r_sl, r_nopart, r_part, r_rev, r_gnil, r_gcons, r_gsub, r_par, r_aug, r_chain, r_I0, r_I, r_U, r_ixd, r_lend, r_tupd, r_listd, r_sld, r_app, r_ext, r_reverse, r_setl, r_cat, r_int1, r_eqS, r_neS, scal_ii, scal_bb, scal_ss, at0, at1, at2, sq_lst, sq_tup, isLst_lst, List.getElem?_cons_zero, List.getElem?_cons_succ, List.set_cons_zero, List.set_cons_succ, V.int.injEq, V.bl.injEq, V.ref.injEq, V.str.injEq, HO.lst.injEq, HO.tup.injEq, Option.some.injEq, exists_eq_left', exists_eq_left, List.cons.injEq, and_true, true_and, decide_eq_true_eq, reduceCtorEq, false_and, exists_false, or_false, false_or, exists_const, and_assoc, exists_and_left, List.append_nil, ix0, ix1, ix2, cm_mod, cdw1009, cdw2003, cdw7, cdw64, cdw2, cm104729, cm2, cm3, upd_same, List.length_cons, List.length_nil, Int.reduceLT, Int.reduceLE, Nat.reduceAdd, Nat.reduceLeDiff, Nat.reduceLT, Int.reduceToNat, r_for1, r_forL, r_forT, r_lcL, r_lc1, r_yes, r_gtupD, wipe_0, wipe_1, List.cons_append, List.nil_append, r_forS, r_ipI, ite_false, ite_true, Bool.not_true, Bool.not_false, decide_true, decide_false, r_isd, r_islt, cD_ty, cD_ref, tD_non, tD_bl, tD_int, tD_str, tD_ref, tH_lst, tH_tup, tH_dK, tH_ins, ki_self, ki_int_bool, ki_non_int, ki_str_int, ki_lt_lst, ki_lt_tup, r_fld, r_sfld, HO.ins.injEq, cx_K]
    rcases h with ⟨i0, rfl, oi0, h⟩ | ⟨hb, h⟩
    rotate_left
    · exact ⟨_, _, rfl, .inr ⟨hb.keep hc0 kk, er h kk hc⟩⟩
    obtain ⟨G, eG⟩ : ∃ G, G = H := ⟨_, rfl⟩
    have sG : Same H G := by rw [eG]; exact Same.refl _
    refine ⟨_, _, rfl, .inl ⟨i0, rfl, oi0, ?_⟩⟩
    rw [← eG]
    have hc1 := sG c _ hc
    simp only [r_seq, r_next, r_brk, r_cont, r_asg, r_name, r_ret, r_retN, r_drop, r_ifs, r_never, r_var, r_c, r_op, r_un, r_if, r_tst, r_b, r_not, r_and, r_or, r_andV, r_orV, r_notV, r_nil, r_cons, r_tup, r_lst, r_cb, r_call, r_bm, r_bm0, r_sl, r_nopart, r_part, r_rev, r_gnil, r_gcons, r_gsub, r_par, r_aug, r_chain, r_I0, r_I, r_U, r_ixd, r_lend, r_tupd, r_listd, r_sld, r_app, r_ext, r_reverse, r_setl, r_cat, r_int1, r_eqS, r_neS, scal_ii, scal_bb, scal_ss, at0, at1, at2, sq_lst, sq_tup, isLst_lst, List.getElem?_cons_zero, List.getElem?_cons_succ, List.set_cons_zero, List.set_cons_succ, V.int.injEq, V.bl.injEq, V.ref.injEq, V.str.injEq, HO.lst.injEq, HO.tup.injEq, Option.some.injEq, exists_eq_left', exists_eq_left, List.cons.injEq, and_true, true_and, decide_eq_true_eq, reduceCtorEq, false_and, exists_false, or_false, false_or, exists_const, and_assoc, exists_and_left, List.append_nil, ix0, ix1, ix2, cm_mod, cdw1009, cdw2003, cdw7, cdw64, cdw2, cm104729, cm2, cm3, upd_same, List.length_cons, List.length_nil, Int.reduceLT, Int.reduceLE, Nat.reduceAdd, Nat.reduceLeDiff, Nat.reduceLT, Int.reduceToNat, r_for1, r_forL, r_forT, r_lcL, r_lc1, r_yes, r_gtupD, wipe_0, wipe_1, List.cons_append, List.nil_append, r_forS, r_ipI, ite_false, ite_true, Bool.not_true, Bool.not_false, decide_true, decide_false, r_isd, r_islt, cD_ty, cD_ref, tD_non, tD_bl, tD_int, tD_str, tD_ref, tH_lst, tH_tup, tH_dK, tH_ins, ki_self, ki_int_bool, ki_non_int, ki_str_int, ki_lt_lst, ki_lt_tup, r_fld, r_sfld, HO.ins.injEq, cx_K, hc1, n0, l0, cl]
    rw [e]
    have i1 := Ini.store (CC := CC) (dx := dx) (f := "argcount") (y := .int i0) (kk.trans (Keep.same sG)) hl lk
    have kp : Keep c G (L2.upd G c (.ins CC dx (putF "argcount" (.int i0) fs))) := Keep.upd (Keep.refl c G)
    clear hc e N l0 hc1 j kp eG
    generalize L2.upd G c (.ins CC dx (putF "argcount" (.int i0) fs)) = H1 at i1 ⊢
    clear kk hl lk sG fs
    -- onlycount
    refine seq_intro fun N e => ?_
    have j := i1
    obtain ⟨kk, fs, hc, hl, lk⟩ := i1
    have l0 : fs.length < 1000 := Nat.lt_of_le_of_lt hl (by simp only [List.length_cons, List.length_nil]; decide)
    simp only [r_seq, r_next, r_brk, r_cont, r_asg, r_name, r_ret, r_retN, r_drop, r_ifs, r_never, r_var, r_c, r_op, r_un, r_if, r_tst, r_b, r_not, r_and, r_or, r_andV, r_orV, r_notV, r_nil, r_cons, r_tup, r_lst, r_cb, r_call, r_bm, r_bm0, r_sl, r_nopart, r_part, r_rev, r_gnil, r_gcons, r_gsub, r_par, r_aug, r_chain, r_I0, r_I, r_U, r_ixd, r_lend, r_tupd, r_listd, r_sld, r_app, r_ext, r_reverse, r_setl, r_cat, r_int1, r_eqS, r_neS, scal_ii, scal_bb, scal_ss, at0, at1, at2, sq_lst, sq_tup, isLst_lst, List.getElem?_cons_zero, List.getElem?_cons_succ, List.set_cons_zero, List.set_cons_succ, V.int.injEq, V.bl.injEq, V.ref.injEq, V.str.injEq, HO.lst.injEq, HO.tup.injEq, Option.some.injEq, exists_eq_left', exists_eq_left, List.cons.injEq, and_true, true_and, decide_eq_true_eq, reduceCtorEq, false_and, exists_false, or_false, false_or, exists_const, and_assoc, exists_and_left, List.append_nil, ix0, ix1, ix2, cm_mod, cdw1009, cdw2003, cdw7, cdw64, cdw2, cm104729, cm2, cm3, upd_same, List.length_cons, List.length_nil, Int.reduceLT, Int.reduceLE, Nat.reduceAdd, Nat.reduceLeDiff, Nat.reduceLT, Int.reduceToNat, r_for1, r_forL, r_forT, r_lcL, r_lc1, r_yes, r_gtupD, wipe_0, wipe_1, List.cons_append, List.nil_append, r_forS, r_ipI, ite_false, ite_true, Bool.not_true, Bool.not_false, decide_true, decide_false, r_isd, r_islt, cD_ty, cD_ref, tD_non, tD_bl, tD_int, tD_str, tD_ref, tH_lst, tH_tup, tH_dK, tH_ins, ki_self, ki_int_bool, ki_non_int, ki_str_int, ki_lt_lst, ki_lt_tup, r_fld, r_sfld, HO.ins.injEq, cx_K]
    rcases h with ⟨i1, rfl, oi1, h⟩ | ⟨hb, h⟩
    rotate_left
    · exact ⟨_, _, rfl, .inr ⟨hb.keep hc0 kk, er h kk hc⟩⟩
    obtain ⟨G, eG⟩ : ∃ G, G = H1 := ⟨_, rfl⟩
    have sG : Same H1 G := by rw [eG]; exact Same.refl _
    refine ⟨_, _, rfl, .inl ⟨i1, rfl, oi1, ?_⟩⟩
    rw [← eG]
    have hc1 := sG c _ hc
    simp only [r_seq, r_next, r_brk, r_cont, r_asg, r_name, r_ret, r_retN, r_drop, r_ifs, r_never, r_var, r_c, r_op, r_un, r_if, r_tst, r_b, r_not, r_and, r_or, r_andV, r_orV, r_notV, r_nil, r_cons, r_tup, r_lst, r_cb, r_call, r_bm, r_bm0, r_sl, r_nopart, r_part, r_rev, r_gnil, r_gcons, r_gsub, r_par, r_aug, r_chain, r_I0, r_I, r_U, r_ixd, r_lend, r_tupd, r_listd, r_sld, r_app, r_ext, r_reverse, r_setl, r_cat, r_int1, r_eqS, r_neS, scal_ii, scal_bb, scal_ss, at0, at1, at2, sq_lst, sq_tup, isLst_lst, List.getElem?_cons_zero, List.getElem?_cons_succ, List.set_cons_zero, List.set_cons_succ, V.int.injEq, V.bl.injEq, V.ref.injEq, V.str.injEq, HO.lst.injEq, HO.tup.injEq, Option.some.injEq, exists_eq_left', exists_eq_left, List.cons.injEq, and_true, true_and, decide_eq_true_eq, reduceCtorEq, false_and, exists_false, or_false, false_or, exists_const, and_assoc, exists_and_left, List.append_nil, ix0, ix1, ix2, cm_mod, cdw1009, cdw2003, cdw7, cdw64, cdw2, cm104729, cm2, cm3, upd_same, List.length_cons, List.length_nil, Int.reduceLT, Int.reduceLE, Nat.reduceAdd, Nat.reduceLeDiff, Nat.reduceLT, Int.reduceToNat, r_for1, r_forL, r_forT, r_lcL, r_lc1, r_yes, r_gtupD, wipe_0, wipe_1, List.cons_append, List.nil_append, r_forS, r_ipI, ite_false, ite_true, Bool.not_true, Bool.not_false, decide_true, decide_false, r_isd, r_islt, cD_ty, cD_ref, tD_non, tD_bl, tD_int, tD_str, tD_ref, tH_lst, tH_tup, tH_dK, tH_ins, ki_self, ki_int_bool, ki_non_int, ki_str_int, ki_lt_lst, ki_lt_tup, r_fld, r_sfld, HO.ins.injEq, cx_K, hc1, n1, l0, cl]
    rw [e]
    have i2 := Ini.store (CC := CC) (dx := dx) (f := "onlycount") (y := .int i1) (kk.trans (Keep.same sG)) hl lk
    have kp : Keep c G (L2.upd G c (.ins CC dx (putF "onlycount" (.int i1) fs))) := Keep.upd (Keep.refl c G)
    clear hc e N l0 hc1 j kp eG
    generalize L2.upd G c (.ins CC dx (putF "onlycount" (.int i1) fs)) = H2 at i2 ⊢
    clear kk hl lk sG fs
    -- stacksize
    refine seq_intro fun N e => ?_
    have j := i2
    obtain ⟨kk, fs, hc, hl, lk⟩ := i2
    have l0 : fs.length < 1000 := Nat.lt_of_le_of_lt hl (by simp only [List.length_cons, List.length_nil]; decide)
    simp only [r_seq, r_next, r_brk, r_cont, r_asg, r_name, r_ret, r_retN, r_drop, r_ifs, r_never, r_var, r_c, r_op, r_un, r_if, r_tst, r_b, r_not, r_and, r_or, r_andV, r_orV, r_notV, r_nil, r_cons, r_tup, r_lst, r_cb, r_call, r_bm, r_bm0, r_sl, r_nopart, r_part, r_rev, r_gnil, r_gcons, r_gsub, r_par, r_aug, r_chain, r_I0, r_I, r_U, r_ixd, r_lend, r_tupd, r_listd, r_sld, r_app, r_ext, r_reverse, r_setl, r_cat, r_int1, r_eqS, r_neS, scal_ii, scal_bb, scal_ss, at0, at1, at2, sq_lst, sq_tup, isLst_lst, List.getElem?_cons_zero, List.getElem?_cons_succ, List.set_cons_zero, List.set_cons_succ, V.int.injEq, V.bl.injEq, V.ref.injEq, V.str.injEq, HO.lst.injEq, HO.tup.injEq, Option.some.injEq, exists_eq_left', exists_eq_left, List.cons.injEq, and_true, true_and, decide_eq_true_eq, reduceCtorEq, false_and, exists_false, or_false, false_or, exists_const, and_assoc, exists_and_left, List.append_nil, ix0, ix1, ix2, cm_mod, cdw1009, cdw2003, cdw7, cdw64, cdw2, cm104729, cm2, cm3, upd_same, List.length_cons, List.length_nil, Int.reduceLT, Int.reduceLE, Nat.reduceAdd, Nat.reduceLeDiff, Nat.reduceLT, Int.reduceToNat, r_for1, r_forL, r_forT, r_lcL, r_lc1, r_yes, r_gtupD, wipe_0, wipe_1, List.cons_append, List.nil_append, r_forS, r_ipI, ite_false, ite_true, Bool.not_true, Bool.not_false, decide_true, decide_false, r_isd, r_islt, cD_ty, cD_ref, tD_non, tD_bl, tD_int, tD_str, tD_ref, tH_lst, tH_tup, tH_dK, tH_ins, ki_self, ki_int_bool, ki_non_int, ki_str_int, ki_lt_lst, ki_lt_tup, r_fld, r_sfld, HO.ins.injEq, cx_K]
    rcases h with ⟨i2, rfl, oi2, h⟩ | ⟨hb, h⟩
    rotate_left
    · exact ⟨_, _, rfl, .inr ⟨hb.keep hc0 kk, er h kk hc⟩⟩
    obtain ⟨G, eG⟩ : ∃ G, G = H2 := ⟨_, rfl⟩
    have sG : Same H2 G := by rw [eG]; exact Same.refl _
    refine ⟨_, _, rfl, .inl ⟨i2, rfl, oi2, ?_⟩⟩
    rw [← eG]
    have hc1 := sG c _ hc
    simp only [r_seq, r_next, r_brk, r_cont, r_asg, r_name, r_ret, r_retN, r_drop, r_ifs, r_never, r_var, r_c, r_op, r_un, r_if, r_tst, r_b, r_not, r_and, r_or, r_andV, r_orV, r_notV, r_nil, r_cons, r_tup, r_lst, r_cb, r_call, r_bm, r_bm0, r_sl, r_nopart, r_part, r_rev, r_gnil, r_gcons, r_gsub, r_par, r_aug, r_chain, r_I0, r_I, r_U, r_ixd, r_lend, r_tupd, r_listd, r_sld, r_app, r_ext, r_reverse, r_setl, r_cat, r_int1, r_eqS, r_neS, scal_ii, scal_bb, scal_ss, at0, at1, at2, sq_lst, sq_tup, isLst_lst, List.getElem?_cons_zero, List.getElem?_cons_succ, List.set_cons_zero, List.set_cons_succ, V.int.injEq, V.bl.injEq, V.ref.injEq, V.str.injEq, HO.lst.injEq, HO.tup.injEq, Option.some.injEq, exists_eq_left', exists_eq_left, List.cons.injEq, and_true, true_and, decide_eq_true_eq, reduceCtorEq, false_and, exists_false, or_false, false_or, exists_const, and_assoc, exists_and_left, List.append_nil, ix0, ix1, ix2, cm_mod, cdw1009, cdw2003, cdw7, cdw64, cdw2, cm104729, cm2, cm3, upd_same, List.length_cons, List.length_nil, Int.reduceLT, Int.reduceLE, Nat.reduceAdd, Nat.reduceLeDiff, Nat.reduceLT, Int.reduceToNat, r_for1, r_forL, r_forT, r_lcL, r_lc1, r_yes, r_gtupD, wipe_0, wipe_1, List.cons_append, List.nil_append, r_forS, r_ipI, ite_false, ite_true, Bool.not_true, Bool.not_false, decide_true, decide_false, r_isd, r_islt, cD_ty, cD_ref, tD_non, tD_bl, tD_int, tD_str, tD_ref, tH_lst, tH_tup, tH_dK, tH_ins, ki_self, ki_int_bool, ki_non_int, ki_str_int, ki_lt_lst, ki_lt_tup, r_fld, r_sfld, HO.ins.injEq, cx_K, hc1, n2, l0, cl]
    rw [e]
    have i3 := Ini.store (CC := CC) (dx := dx) (f := "stacksize") (y := .int i2) (kk.trans (Keep.same sG)) hl lk
    have kp : Keep c G (L2.upd G c (.ins CC dx (putF "stacksize" (.int i2) fs))) := Keep.upd (Keep.refl c G)
    clear hc e N l0 hc1 j kp eG
    generalize L2.upd G c (.ins CC dx (putF "stacksize" (.int i2) fs)) = H3 at i3 ⊢
    clear kk hl lk sG fs
    -- flags
    refine seq_intro fun N e => ?_
    have j := i3
    obtain ⟨kk, fs, hc, hl, lk⟩ := i3
    have l0 : fs.length < 1000 := Nat.lt_of_le_of_lt hl (by simp only [List.length_cons, List.length_nil]; decide)
    simp only [r_seq, r_next, r_brk, r_cont, r_asg, r_name, r_ret, r_retN, r_drop, r_ifs, r_never, r_var, r_c, r_op, r_un, r_if, r_tst, r_b, r_not, r_and, r_or, r_andV, r_orV, r_notV, r_nil, r_cons, r_tup, r_lst, r_cb, r_call, r_bm, r_bm0, r_sl, r_nopart, r_part, r_rev, r_gnil, r_gcons, r_gsub, r_par, r_aug, r_chain, r_I0, r_I, r_U, r_ixd, r_lend, r_tupd, r_listd, r_sld, r_app, r_ext, r_reverse, r_setl, r_cat, r_int1, r_eqS, r_neS, scal_ii, scal_bb, scal_ss, at0, at1, at2, sq_lst, sq_tup, isLst_lst, List.getElem?_cons_zero, List.getElem?_cons_succ, List.set_cons_zero, List.set_cons_succ, V.int.injEq, V.bl.injEq, V.ref.injEq, V.str.injEq, HO.lst.injEq, HO.tup.injEq, Option.some.injEq, exists_eq_left', exists_eq_left, List.cons.injEq, and_true, true_and, decide_eq_true_eq, reduceCtorEq, false_and, exists_false, or_false, false_or, exists_const, and_assoc, exists_and_left, List.append_nil, ix0, ix1, ix2, cm_mod, cdw1009, cdw2003, cdw7, cdw64, cdw2, cm104729, cm2, cm3, upd_same, List.length_cons, List.length_nil, Int.reduceLT, Int.reduceLE, Nat.reduceAdd, Nat.reduceLeDiff, Nat.reduceLT, Int.reduceToNat, r_for1, r_forL, r_forT, r_lcL, r_lc1, r_yes, r_gtupD, wipe_0, wipe_1, List.cons_append, List.nil_append, r_forS, r_ipI, ite_false, ite_true, Bool.not_true, Bool.not_false, decide_true, decide_false, r_isd, r_islt, cD_ty, cD_ref, tD_non, tD_bl, tD_int, tD_str, tD_ref, tH_lst, tH_tup, tH_dK, tH_ins, ki_self, ki_int_bool, ki_non_int, ki_str_int, ki_lt_lst, ki_lt_tup, r_fld, r_sfld, HO.ins.injEq, cx_K]
    rcases h with ⟨i3, rfl, oi3, h⟩ | ⟨hb, h⟩
    rotate_left
    · exact ⟨_, _, rfl, .inr ⟨hb.keep hc0 kk, er h kk hc⟩⟩
    obtain ⟨G, eG⟩ : ∃ G, G = H3 := ⟨_, rfl⟩
    have sG : Same H3 G := by rw [eG]; exact Same.refl _
    refine ⟨_, _, rfl, .inl ⟨i3, rfl, oi3, ?_⟩⟩
    rw [← eG]
    have hc1 := sG c _ hc
    simp only [r_seq, r_next, r_brk, r_cont, r_asg, r_name, r_ret, r_retN, r_drop, r_ifs, r_never, r_var, r_c, r_op, r_un, r_if, r_tst, r_b, r_not, r_and, r_or, r_andV, r_orV, r_notV, r_nil, r_cons, r_tup, r_lst, r_cb, r_call, r_bm, r_bm0, r_sl, r_nopart, r_part, r_rev, r_gnil, r_gcons, r_gsub, r_par, r_aug, r_chain, r_I0, r_I, r_U, r_ixd, r_lend, r_tupd, r_listd, r_sld, r_app, r_ext, r_reverse, r_setl, r_cat, r_int1, r_eqS, r_neS, scal_ii, scal_bb, scal_ss, at0, at1, at2, sq_lst, sq_tup, isLst_lst, List.getElem?_cons_zero, List.getElem?_cons_succ, List.set_cons_zero, List.set_cons_succ, V.int.injEq, V.bl.injEq, V.ref.injEq, V.str.injEq, HO.lst.injEq, HO.tup.injEq, Option.some.injEq, exists_eq_left', exists_eq_left, List.cons.injEq, and_true, true_and, decide_eq_true_eq, reduceCtorEq, false_and, exists_false, or_false, false_or, exists_const, and_assoc, exists_and_left, List.append_nil, ix0, ix1, ix2, cm_mod, cdw1009, cdw2003, cdw7, cdw64, cdw2, cm104729, cm2, cm3, upd_same, List.length_cons, List.length_nil, Int.reduceLT, Int.reduceLE, Nat.reduceAdd, Nat.reduceLeDiff, Nat.reduceLT, Int.reduceToNat, r_for1, r_forL, r_forT, r_lcL, r_lc1, r_yes, r_gtupD, wipe_0, wipe_1, List.cons_append, List.nil_append, r_forS, r_ipI, ite_false, ite_true, Bool.not_true, Bool.not_false, decide_true, decide_false, r_isd, r_islt, cD_ty, cD_ref, tD_non, tD_bl, tD_int, tD_str, tD_ref, tH_lst, tH_tup, tH_dK, tH_ins, ki_self, ki_int_bool, ki_non_int, ki_str_int, ki_lt_lst, ki_lt_tup, r_fld, r_sfld, HO.ins.injEq, cx_K, hc1, n3, l0, cl]
    rw [e]
    have i4 := Ini.store (CC := CC) (dx := dx) (f := "flags") (y := .int i3) (kk.trans (Keep.same sG)) hl lk
    have kp : Keep c G (L2.upd G c (.ins CC dx (putF "flags" (.int i3) fs))) := Keep.upd (Keep.refl c G)
    clear hc e N l0 hc1 j kp eG
    generalize L2.upd G c (.ins CC dx (putF "flags" (.int i3) fs)) = H4 at i4 ⊢
    clear kk hl lk sG fs
    -- code
    refine seq_intro fun N e => ?_
    have j := i4
    obtain ⟨kk, fs, hc, hl, lk⟩ := i4
    have l0 : fs.length < 1000 := Nat.lt_of_le_of_lt hl (by simp only [List.length_cons, List.length_nil]; decide)
    simp only [r_seq, r_next, r_brk, r_cont, r_asg, r_name, r_ret, r_retN, r_drop, r_ifs, r_never, r_var, r_c, r_op, r_un, r_if, r_tst, r_b, r_not, r_and, r_or, r_andV, r_orV, r_notV, r_nil, r_cons, r_tup, r_lst, r_cb, r_call, r_bm, r_bm0, r_sl, r_nopart, r_part, r_rev, r_gnil, r_gcons, r_gsub, r_par, r_aug, r_chain, r_I0, r_I, r_U, r_ixd, r_lend, r_tupd, r_listd, r_sld, r_app, r_ext, r_reverse, r_setl, r_cat, r_int1, r_eqS, r_neS, scal_ii, scal_bb, scal_ss, at0, at1, at2, sq_lst, sq_tup, isLst_lst, List.getElem?_cons_zero, List.getElem?_cons_succ, List.set_cons_zero, List.set_cons_succ, V.int.injEq, V.bl.injEq, V.ref.injEq, V.str.injEq, HO.lst.injEq, HO.tup.injEq, Option.some.injEq, exists_eq_left', exists_eq_left, List.cons.injEq, and_true, true_and, decide_eq_true_eq, reduceCtorEq, false_and, exists_false, or_false, false_or, exists_const, and_assoc, exists_and_left, List.append_nil, ix0, ix1, ix2, cm_mod, cdw1009, cdw2003, cdw7, cdw64, cdw2, cm104729, cm2, cm3, upd_same, List.length_cons, List.length_nil, Int.reduceLT, Int.reduceLE, Nat.reduceAdd, Nat.reduceLeDiff, Nat.reduceLT, Int.reduceToNat, r_for1, r_forL, r_forT, r_lcL, r_lc1, r_yes, r_gtupD, wipe_0, wipe_1, List.cons_append, List.nil_append, r_forS, r_ipI, ite_false, ite_true, Bool.not_true, Bool.not_false, decide_true, decide_false, r_isd, r_islt, cD_ty, cD_ref, tD_non, tD_bl, tD_int, tD_str, tD_ref, tH_lst, tH_tup, tH_dK, tH_ins, ki_self, ki_int_bool, ki_non_int, ki_str_int, ki_lt_lst, ki_lt_tup, r_fld, r_sfld, HO.ins.injEq, cx_K]
    rcases h with ⟨a, ds, rfl, hq, ods, h⟩ | ⟨hb, h⟩
    rotate_left
    · exact ⟨_, _, rfl, .inr ⟨hb.keep hc0 kk, er h kk hc⟩⟩
    refine ⟨_, _, rfl, .inl ⟨a, ds, rfl, sq_keep hc0 kk hq, ods, fun pu G sG hG => ?_⟩⟩
    have hc1 := sG c _ hc
    simp only [r_seq, r_next, r_brk, r_cont, r_asg, r_name, r_ret, r_retN, r_drop, r_ifs, r_never, r_var, r_c, r_op, r_un, r_if, r_tst, r_b, r_not, r_and, r_or, r_andV, r_orV, r_notV, r_nil, r_cons, r_tup, r_lst, r_cb, r_call, r_bm, r_bm0, r_sl, r_nopart, r_part, r_rev, r_gnil, r_gcons, r_gsub, r_par, r_aug, r_chain, r_I0, r_I, r_U, r_ixd, r_lend, r_tupd, r_listd, r_sld, r_app, r_ext, r_reverse, r_setl, r_cat, r_int1, r_eqS, r_neS, scal_ii, scal_bb, scal_ss, at0, at1, at2, sq_lst, sq_tup, isLst_lst, List.getElem?_cons_zero, List.getElem?_cons_succ, List.set_cons_zero, List.set_cons_succ, V.int.injEq, V.bl.injEq, V.ref.injEq, V.str.injEq, HO.lst.injEq, HO.tup.injEq, Option.some.injEq, exists_eq_left', exists_eq_left, List.cons.injEq, and_true, true_and, decide_eq_true_eq, reduceCtorEq, false_and, exists_false, or_false, false_or, exists_const, and_assoc, exists_and_left, List.append_nil, ix0, ix1, ix2, cm_mod, cdw1009, cdw2003, cdw7, cdw64, cdw2, cm104729, cm2, cm3, upd_same, List.length_cons, List.length_nil, Int.reduceLT, Int.reduceLE, Nat.reduceAdd, Nat.reduceLeDiff, Nat.reduceLT, Int.reduceToNat, r_for1, r_forL, r_forT, r_lcL, r_lc1, r_yes, r_gtupD, wipe_0, wipe_1, List.cons_append, List.nil_append, r_forS, r_ipI, ite_false, ite_true, Bool.not_true, Bool.not_false, decide_true, decide_false, r_isd, r_islt, cD_ty, cD_ref, tD_non, tD_bl, tD_int, tD_str, tD_ref, tH_lst, tH_tup, tH_dK, tH_ins, ki_self, ki_int_bool, ki_non_int, ki_str_int, ki_lt_lst, ki_lt_tup, r_fld, r_sfld, HO.ins.injEq, cx_K, hc1, n4, l0, cl]
    rw [e]
    have i5 := Ini.store (CC := CC) (dx := dx) (f := "code") (y := .ref pu) (kk.trans (Keep.same sG)) hl lk
    have kp : Keep c G (L2.upd G c (.ins CC dx (putF "code" (.ref pu) fs))) := Keep.upd (Keep.refl c G)
    have xpu : pu ≠ c := fun z => by rw [z, hc1] at hG; cases hG
    have tpu := kp pu _ xpu hG
    clear hc e N l0 hc1 j kp hq
    generalize L2.upd G c (.ins CC dx (putF "code" (.ref pu) fs)) = H5 at i5 tpu ⊢
    clear kk hl lk sG fs hG
    -- depth
    refine seq_intro fun N e => ?_
    have j := i5
    obtain ⟨kk, fs, hc, hl, lk⟩ := i5
    have l0 : fs.length < 1000 := Nat.lt_of_le_of_lt hl (by simp only [List.length_cons, List.length_nil]; decide)
    simp only [r_seq, r_next, r_brk, r_cont, r_asg, r_name, r_ret, r_retN, r_drop, r_ifs, r_never, r_var, r_c, r_op, r_un, r_if, r_tst, r_b, r_not, r_and, r_or, r_andV, r_orV, r_notV, r_nil, r_cons, r_tup, r_lst, r_cb, r_call, r_bm, r_bm0, r_sl, r_nopart, r_part, r_rev, r_gnil, r_gcons, r_gsub, r_par, r_aug, r_chain, r_I0, r_I, r_U, r_ixd, r_lend, r_tupd, r_listd, r_sld, r_app, r_ext, r_reverse, r_setl, r_cat, r_int1, r_eqS, r_neS, scal_ii, scal_bb, scal_ss, at0, at1, at2, sq_lst, sq_tup, isLst_lst, List.getElem?_cons_zero, List.getElem?_cons_succ, List.set_cons_zero, List.set_cons_succ, V.int.injEq, V.bl.injEq, V.ref.injEq, V.str.injEq, HO.lst.injEq, HO.tup.injEq, Option.some.injEq, exists_eq_left', exists_eq_left, List.cons.injEq, and_true, true_and, decide_eq_true_eq, reduceCtorEq, false_and, exists_false, or_false, false_or, exists_const, and_assoc, exists_and_left, List.append_nil, ix0, ix1, ix2, cm_mod, cdw1009, cdw2003, cdw7, cdw64, cdw2, cm104729, cm2, cm3, upd_same, List.length_cons, List.length_nil, Int.reduceLT, Int.reduceLE, Nat.reduceAdd, Nat.reduceLeDiff, Nat.reduceLT, Int.reduceToNat, r_for1, r_forL, r_forT, r_lcL, r_lc1, r_yes, r_gtupD, wipe_0, wipe_1, List.cons_append, List.nil_append, r_forS, r_ipI, ite_false, ite_true, Bool.not_true, Bool.not_false, decide_true, decide_false, r_isd, r_islt, cD_ty, cD_ref, tD_non, tD_bl, tD_int, tD_str, tD_ref, tH_lst, tH_tup, tH_dK, tH_ins, ki_self, ki_int_bool, ki_non_int, ki_str_int, ki_lt_lst, ki_lt_tup, r_fld, r_sfld, HO.ins.injEq, cx_K]
    rcases h with ⟨ac, ks, es, rfl, hks, hit, hdp, h⟩ | ⟨hb, h⟩
    rotate_left
    · exact ⟨_, rfl, .inr ⟨hb.keep hc0 kk, er h kk hc⟩⟩
    refine ⟨_, rfl, .inl ⟨ac, ks, es, rfl, sq_keep hc0 kk hks, Paired.map' hit fun x e q => ItemC.keep hc0 kk q, hdp, fun G sG => ?_⟩⟩
    have hc1 := sG c _ hc
    simp only [r_seq, r_next, r_brk, r_cont, r_asg, r_name, r_ret, r_retN, r_drop, r_ifs, r_never, r_var, r_c, r_op, r_un, r_if, r_tst, r_b, r_not, r_and, r_or, r_andV, r_orV, r_notV, r_nil, r_cons, r_tup, r_lst, r_cb, r_call, r_bm, r_bm0, r_sl, r_nopart, r_part, r_rev, r_gnil, r_gcons, r_gsub, r_par, r_aug, r_chain, r_I0, r_I, r_U, r_ixd, r_lend, r_tupd, r_listd, r_sld, r_app, r_ext, r_reverse, r_setl, r_cat, r_int1, r_eqS, r_neS, scal_ii, scal_bb, scal_ss, at0, at1, at2, sq_lst, sq_tup, isLst_lst, List.getElem?_cons_zero, List.getElem?_cons_succ, List.set_cons_zero, List.set_cons_succ, V.int.injEq, V.bl.injEq, V.ref.injEq, V.str.injEq, HO.lst.injEq, HO.tup.injEq, Option.some.injEq, exists_eq_left', exists_eq_left, List.cons.injEq, and_true, true_and, decide_eq_true_eq, reduceCtorEq, false_and, exists_false, or_false, false_or, exists_const, and_assoc, exists_and_left, List.append_nil, ix0, ix1, ix2, cm_mod, cdw1009, cdw2003, cdw7, cdw64, cdw2, cm104729, cm2, cm3, upd_same, List.length_cons, List.length_nil, Int.reduceLT, Int.reduceLE, Nat.reduceAdd, Nat.reduceLeDiff, Nat.reduceLT, Int.reduceToNat, r_for1, r_forL, r_forT, r_lcL, r_lc1, r_yes, r_gtupD, wipe_0, wipe_1, List.cons_append, List.nil_append, r_forS, r_ipI, ite_false, ite_true, Bool.not_true, Bool.not_false, decide_true, decide_false, r_isd, r_islt, cD_ty, cD_ref, tD_non, tD_bl, tD_int, tD_str, tD_ref, tH_lst, tH_tup, tH_dK, tH_ins, ki_self, ki_int_bool, ki_non_int, ki_str_int, ki_lt_lst, ki_lt_tup, r_fld, r_sfld, HO.ins.injEq, cx_K, hc1, n5, l0, cl]
    rw [e]
    have i6 := Ini.store (CC := CC) (dx := dx) (f := "depth") (y := .int (depF es : Int)) (kk.trans (Keep.same sG)) hl lk
    have kp : Keep c G (L2.upd G c (.ins CC dx (putF "depth" (.int (depF es : Int)) fs))) := Keep.upd (Keep.refl c G)
    have tpu := kp pu _ xpu (sG _ _ tpu)
    clear hc e N l0 hc1 j kp
    generalize L2.upd G c (.ins CC dx (putF "depth" (.int (depF es : Int)) fs)) = H6 at i6 tpu ⊢
    clear kk hl lk sG fs
    -- constants
    refine seq_intro fun N e => ?_
    have j := i6
    obtain ⟨kk, fs, hc, hl, lk⟩ := i6
    have l0 : fs.length < 1000 := Nat.lt_of_le_of_lt hl (by simp only [List.length_cons, List.length_nil]; decide)
    simp only [r_seq, r_next, r_brk, r_cont, r_asg, r_name, r_ret, r_retN, r_drop, r_ifs, r_never, r_var, r_c, r_op, r_un, r_if, r_tst, r_b, r_not, r_and, r_or, r_andV, r_orV, r_notV, r_nil, r_cons, r_tup, r_lst, r_cb, r_call, r_bm, r_bm0, r_sl, r_nopart, r_part, r_rev, r_gnil, r_gcons, r_gsub, r_par, r_aug, r_chain, r_I0, r_I, r_U, r_ixd, r_lend, r_tupd, r_listd, r_sld, r_app, r_ext, r_reverse, r_setl, r_cat, r_int1, r_eqS, r_neS, scal_ii, scal_bb, scal_ss, at0, at1, at2, sq_lst, sq_tup, isLst_lst, List.getElem?_cons_zero, List.getElem?_cons_succ, List.set_cons_zero, List.set_cons_succ, V.int.injEq, V.bl.injEq, V.ref.injEq, V.str.injEq, HO.lst.injEq, HO.tup.injEq, Option.some.injEq, exists_eq_left', exists_eq_left, List.cons.injEq, and_true, true_and, decide_eq_true_eq, reduceCtorEq, false_and, exists_false, or_false, false_or, exists_const, and_assoc, exists_and_left, List.append_nil, ix0, ix1, ix2, cm_mod, cdw1009, cdw2003, cdw7, cdw64, cdw2, cm104729, cm2, cm3, upd_same, List.length_cons, List.length_nil, Int.reduceLT, Int.reduceLE, Nat.reduceAdd, Nat.reduceLeDiff, Nat.reduceLT, Int.reduceToNat, r_for1, r_forL, r_forT, r_lcL, r_lc1, r_yes, r_gtupD, wipe_0, wipe_1, List.cons_append, List.nil_append, r_forS, r_ipI, ite_false, ite_true, Bool.not_true, Bool.not_false, decide_true, decide_false, r_isd, r_islt, cD_ty, cD_ref, tD_non, tD_bl, tD_int, tD_str, tD_ref, tH_lst, tH_tup, tH_dK, tH_ins, ki_self, ki_int_bool, ki_non_int, ki_str_int, ki_lt_lst, ki_lt_tup, r_fld, r_sfld, HO.ins.injEq, cx_K]
    refine ⟨_, sq_keep hc0 kk hks, fun pk G sG hG => ?_⟩
    have hc1 := sG c _ hc
    simp only [r_seq, r_next, r_brk, r_cont, r_asg, r_name, r_ret, r_retN, r_drop, r_ifs, r_never, r_var, r_c, r_op, r_un, r_if, r_tst, r_b, r_not, r_and, r_or, r_andV, r_orV, r_notV, r_nil, r_cons, r_tup, r_lst, r_cb, r_call, r_bm, r_bm0, r_sl, r_nopart, r_part, r_rev, r_gnil, r_gcons, r_gsub, r_par, r_aug, r_chain, r_I0, r_I, r_U, r_ixd, r_lend, r_tupd, r_listd, r_sld, r_app, r_ext, r_reverse, r_setl, r_cat, r_int1, r_eqS, r_neS, scal_ii, scal_bb, scal_ss, at0, at1, at2, sq_lst, sq_tup, isLst_lst, List.getElem?_cons_zero, List.getElem?_cons_succ, List.set_cons_zero, List.set_cons_succ, V.int.injEq, V.bl.injEq, V.ref.injEq, V.str.injEq, HO.lst.injEq, HO.tup.injEq, Option.some.injEq, exists_eq_left', exists_eq_left, List.cons.injEq, and_true, true_and, decide_eq_true_eq, reduceCtorEq, false_and, exists_false, or_false, false_or, exists_const, and_assoc, exists_and_left, List.append_nil, ix0, ix1, ix2, cm_mod, cdw1009, cdw2003, cdw7, cdw64, cdw2, cm104729, cm2, cm3, upd_same, List.length_cons, List.length_nil, Int.reduceLT, Int.reduceLE, Nat.reduceAdd, Nat.reduceLeDiff, Nat.reduceLT, Int.reduceToNat, r_for1, r_forL, r_forT, r_lcL, r_lc1, r_yes, r_gtupD, wipe_0, wipe_1, List.cons_append, List.nil_append, r_forS, r_ipI, ite_false, ite_true, Bool.not_true, Bool.not_false, decide_true, decide_false, r_isd, r_islt, cD_ty, cD_ref, tD_non, tD_bl, tD_int, tD_str, tD_ref, tH_lst, tH_tup, tH_dK, tH_ins, ki_self, ki_int_bool, ki_non_int, ki_str_int, ki_lt_lst, ki_lt_tup, r_fld, r_sfld, HO.ins.injEq, cx_K, hc1, n6, l0, cl]
    rw [e]
    have i7 := Ini.store (CC := CC) (dx := dx) (f := "constants") (y := .ref pk) (kk.trans (Keep.same sG)) hl lk
    have kp : Keep c G (L2.upd G c (.ins CC dx (putF "constants" (.ref pk) fs))) := Keep.upd (Keep.refl c G)
    have tpu := kp pu _ xpu (sG _ _ tpu)
    have xpk : pk ≠ c := fun z => by rw [z, hc1] at hG; cases hG
    have tpk := kp pk _ xpk hG
    clear hc e N l0 hc1 j kp
    generalize L2.upd G c (.ins CC dx (putF "constants" (.ref pk) fs)) = H7 at i7 tpu tpk ⊢
    clear kk hl lk sG fs hG
    -- names
    refine seq_intro fun N e => ?_
    have j := i7
    obtain ⟨kk, fs, hc, hl, lk⟩ := i7
    have l0 : fs.length < 1000 := Nat.lt_of_le_of_lt hl (by simp only [List.length_cons, List.length_nil]; decide)
    simp only [r_seq, r_next, r_brk, r_cont, r_asg, r_name, r_ret, r_retN, r_drop, r_ifs, r_never, r_var, r_c, r_op, r_un, r_if, r_tst, r_b, r_not, r_and, r_or, r_andV, r_orV, r_notV, r_nil, r_cons, r_tup, r_lst, r_cb, r_call, r_bm, r_bm0, r_sl, r_nopart, r_part, r_rev, r_gnil, r_gcons, r_gsub, r_par, r_aug, r_chain, r_I0, r_I, r_U, r_ixd, r_lend, r_tupd, r_listd, r_sld, r_app, r_ext, r_reverse, r_setl, r_cat, r_int1, r_eqS, r_neS, scal_ii, scal_bb, scal_ss, at0, at1, at2, sq_lst, sq_tup, isLst_lst, List.getElem?_cons_zero, List.getElem?_cons_succ, List.set_cons_zero, List.set_cons_succ, V.int.injEq, V.bl.injEq, V.ref.injEq, V.str.injEq, HO.lst.injEq, HO.tup.injEq, Option.some.injEq, exists_eq_left', exists_eq_left, List.cons.injEq, and_true, true_and, decide_eq_true_eq, reduceCtorEq, false_and, exists_false, or_false, false_or, exists_const, and_assoc, exists_and_left, List.append_nil, ix0, ix1, ix2, cm_mod, cdw1009, cdw2003, cdw7, cdw64, cdw2, cm104729, cm2, cm3, upd_same, List.length_cons, List.length_nil, Int.reduceLT, Int.reduceLE, Nat.reduceAdd, Nat.reduceLeDiff, Nat.reduceLT, Int.reduceToNat, r_for1, r_forL, r_forT, r_lcL, r_lc1, r_yes, r_gtupD, wipe_0, wipe_1, List.cons_append, List.nil_append, r_forS, r_ipI, ite_false, ite_true, Bool.not_true, Bool.not_false, decide_true, decide_false, r_isd, r_islt, cD_ty, cD_ref, tD_non, tD_bl, tD_int, tD_str, tD_ref, tH_lst, tH_tup, tH_dK, tH_ins, ki_self, ki_int_bool, ki_non_int, ki_str_int, ki_lt_lst, ki_lt_tup, r_fld, r_sfld, HO.ins.injEq, cx_K]
    rcases h with ⟨a, zs, rfl, hq, ozs, h⟩ | ⟨hb, h⟩
    rotate_left
    · exact ⟨_, _, rfl, .inr ⟨hb.keep hc0 kk, er h kk hc⟩⟩
    refine ⟨_, _, rfl, .inl ⟨a, zs, rfl, sq_keep hc0 kk hq, ozs, fun pn G sG hG => ?_⟩⟩
    have hc1 := sG c _ hc
    simp only [r_seq, r_next, r_brk, r_cont, r_asg, r_name, r_ret, r_retN, r_drop, r_ifs, r_never, r_var, r_c, r_op, r_un, r_if, r_tst, r_b, r_not, r_and, r_or, r_andV, r_orV, r_notV, r_nil, r_cons, r_tup, r_lst, r_cb, r_call, r_bm, r_bm0, r_sl, r_nopart, r_part, r_rev, r_gnil, r_gcons, r_gsub, r_par, r_aug, r_chain, r_I0, r_I, r_U, r_ixd, r_lend, r_tupd, r_listd, r_sld, r_app, r_ext, r_reverse, r_setl, r_cat, r_int1, r_eqS, r_neS, scal_ii, scal_bb, scal_ss, at0, at1, at2, sq_lst, sq_tup, isLst_lst, List.getElem?_cons_zero, List.getElem?_cons_succ, List.set_cons_zero, List.set_cons_succ, V.int.injEq, V.bl.injEq, V.ref.injEq, V.str.injEq, HO.lst.injEq, HO.tup.injEq, Option.some.injEq, exists_eq_left', exists_eq_left, List.cons.injEq, and_true, true_and, decide_eq_true_eq, reduceCtorEq, false_and, exists_false, or_false, false_or, exists_const, and_assoc, exists_and_left, List.append_nil, ix0, ix1, ix2, cm_mod, cdw1009, cdw2003, cdw7, cdw64, cdw2, cm104729, cm2, cm3, upd_same, List.length_cons, List.length_nil, Int.reduceLT, Int.reduceLE, Nat.reduceAdd, Nat.reduceLeDiff, Nat.reduceLT, Int.reduceToNat, r_for1, r_forL, r_forT, r_lcL, r_lc1, r_yes, r_gtupD, wipe_0, wipe_1, List.cons_append, List.nil_append, r_forS, r_ipI, ite_false, ite_true, Bool.not_true, Bool.not_false, decide_true, decide_false, r_isd, r_islt, cD_ty, cD_ref, tD_non, tD_bl, tD_int, tD_str, tD_ref, tH_lst, tH_tup, tH_dK, tH_ins, ki_self, ki_int_bool, ki_non_int, ki_str_int, ki_lt_lst, ki_lt_tup, r_fld, r_sfld, HO.ins.injEq, cx_K, hc1, n7, l0, cl]
    rw [e]
    have i8 := Ini.store (CC := CC) (dx := dx) (f := "names") (y := .ref pn) (kk.trans (Keep.same sG)) hl lk
    have kp : Keep c G (L2.upd G c (.ins CC dx (putF "names" (.ref pn) fs))) := Keep.upd (Keep.refl c G)
    have tpu := kp pu _ xpu (sG _ _ tpu)
    have tpk := kp pk _ xpk (sG _ _ tpk)
    have xpn : pn ≠ c := fun z => by rw [z, hc1] at hG; cases hG
    have tpn := kp pn _ xpn hG
    clear hc e N l0 hc1 j kp hq
    generalize L2.upd G c (.ins CC dx (putF "names" (.ref pn) fs)) = H8 at i8 tpu tpk tpn ⊢
    clear kk hl lk sG fs hG
    -- slots
    refine seq_intro fun N e => ?_
    have j := i8
    obtain ⟨kk, fs, hc, hl, lk⟩ := i8
    have l0 : fs.length < 1000 := Nat.lt_of_le_of_lt hl (by simp only [List.length_cons, List.length_nil]; decide)
    simp only [r_seq, r_next, r_brk, r_cont, r_asg, r_name, r_ret, r_retN, r_drop, r_ifs, r_never, r_var, r_c, r_op, r_un, r_if, r_tst, r_b, r_not, r_and, r_or, r_andV, r_orV, r_notV, r_nil, r_cons, r_tup, r_lst, r_cb, r_call, r_bm, r_bm0, r_sl, r_nopart, r_part, r_rev, r_gnil, r_gcons, r_gsub, r_par, r_aug, r_chain, r_I0, r_I, r_U, r_ixd, r_lend, r_tupd, r_listd, r_sld, r_app, r_ext, r_reverse, r_setl, r_cat, r_int1, r_eqS, r_neS, scal_ii, scal_bb, scal_ss, at0, at1, at2, sq_lst, sq_tup, isLst_lst, List.getElem?_cons_zero, List.getElem?_cons_succ, List.set_cons_zero, List.set_cons_succ, V.int.injEq, V.bl.injEq, V.ref.injEq, V.str.injEq, HO.lst.injEq, HO.tup.injEq, Option.some.injEq, exists_eq_left', exists_eq_left, List.cons.injEq, and_true, true_and, decide_eq_true_eq, reduceCtorEq, false_and, exists_false, or_false, false_or, exists_const, and_assoc, exists_and_left, List.append_nil, ix0, ix1, ix2, cm_mod, cdw1009, cdw2003, cdw7, cdw64, cdw2, cm104729, cm2, cm3, upd_same, List.length_cons, List.length_nil, Int.reduceLT, Int.reduceLE, Nat.reduceAdd, Nat.reduceLeDiff, Nat.reduceLT, Int.reduceToNat, r_for1, r_forL, r_forT, r_lcL, r_lc1, r_yes, r_gtupD, wipe_0, wipe_1, List.cons_append, List.nil_append, r_forS, r_ipI, ite_false, ite_true, Bool.not_true, Bool.not_false, decide_true, decide_false, r_isd, r_islt, cD_ty, cD_ref, tD_non, tD_bl, tD_int, tD_str, tD_ref, tH_lst, tH_tup, tH_dK, tH_ins, ki_self, ki_int_bool, ki_non_int, ki_str_int, ki_lt_lst, ki_lt_tup, r_fld, r_sfld, HO.ins.injEq, cx_K]
    rcases h with ⟨a, ss, rfl, hq, oss, h⟩ | ⟨hb, h⟩
    rotate_left
    · exact ⟨_, _, rfl, .inr ⟨hb.keep hc0 kk, er h kk hc⟩⟩
    refine ⟨_, _, rfl, .inl ⟨a, ss, rfl, sq_keep hc0 kk hq, oss, fun ps G sG hG => ?_⟩⟩
    have hc1 := sG c _ hc
    simp only [r_seq, r_next, r_brk, r_cont, r_asg, r_name, r_ret, r_retN, r_drop, r_ifs, r_never, r_var, r_c, r_op, r_un, r_if, r_tst, r_b, r_not, r_and, r_or, r_andV, r_orV, r_notV, r_nil, r_cons, r_tup, r_lst, r_cb, r_call, r_bm, r_bm0, r_sl, r_nopart, r_part, r_rev, r_gnil, r_gcons, r_gsub, r_par, r_aug, r_chain, r_I0, r_I, r_U, r_ixd, r_lend, r_tupd, r_listd, r_sld, r_app, r_ext, r_reverse, r_setl, r_cat, r_int1, r_eqS, r_neS, scal_ii, scal_bb, scal_ss, at0, at1, at2, sq_lst, sq_tup, isLst_lst, List.getElem?_cons_zero, List.getElem?_cons_succ, List.set_cons_zero, List.set_cons_succ, V.int.injEq, V.bl.injEq, V.ref.injEq, V.str.injEq, HO.lst.injEq, HO.tup.injEq, Option.some.injEq, exists_eq_left', exists_eq_left, List.cons.injEq, and_true, true_and, decide_eq_true_eq, reduceCtorEq, false_and, exists_false, or_false, false_or, exists_const, and_assoc, exists_and_left, List.append_nil, ix0, ix1, ix2, cm_mod, cdw1009, cdw2003, cdw7, cdw64, cdw2, cm104729, cm2, cm3, upd_same, List.length_cons, List.length_nil, Int.reduceLT, Int.reduceLE, Nat.reduceAdd, Nat.reduceLeDiff, Nat.reduceLT, Int.reduceToNat, r_for1, r_forL, r_forT, r_lcL, r_lc1, r_yes, r_gtupD, wipe_0, wipe_1, List.cons_append, List.nil_append, r_forS, r_ipI, ite_false, ite_true, Bool.not_true, Bool.not_false, decide_true, decide_false, r_isd, r_islt, cD_ty, cD_ref, tD_non, tD_bl, tD_int, tD_str, tD_ref, tH_lst, tH_tup, tH_dK, tH_ins, ki_self, ki_int_bool, ki_non_int, ki_str_int, ki_lt_lst, ki_lt_tup, r_fld, r_sfld, HO.ins.injEq, cx_K, hc1, n8, l0, cl]
    rw [e]
    have i9 := Ini.store (CC := CC) (dx := dx) (f := "slots") (y := .ref ps) (kk.trans (Keep.same sG)) hl lk
    have kp : Keep c G (L2.upd G c (.ins CC dx (putF "slots" (.ref ps) fs))) := Keep.upd (Keep.refl c G)
    have tpu := kp pu _ xpu (sG _ _ tpu)
    have tpk := kp pk _ xpk (sG _ _ tpk)
    have tpn := kp pn _ xpn (sG _ _ tpn)
    have xps : ps ≠ c := fun z => by rw [z, hc1] at hG; cases hG
    have tps := kp ps _ xps hG
    clear hc e N l0 hc1 j kp hq
    generalize L2.upd G c (.ins CC dx (putF "slots" (.ref ps) fs)) = H9 at i9 tpu tpk tpn tps ⊢
    clear kk hl lk sG fs hG
    -- kinds
    refine seq_intro fun N e => ?_
    have j := i9
    obtain ⟨kk, fs, hc, hl, lk⟩ := i9
    have l0 : fs.length < 1000 := Nat.lt_of_le_of_lt hl (by simp only [List.length_cons, List.length_nil]; decide)
    simp only [r_seq, r_next, r_brk, r_cont, r_asg, r_name, r_ret, r_retN, r_drop, r_ifs, r_never, r_var, r_c, r_op, r_un, r_if, r_tst, r_b, r_not, r_and, r_or, r_andV, r_orV, r_notV, r_nil, r_cons, r_tup, r_lst, r_cb, r_call, r_bm, r_bm0, r_sl, r_nopart, r_part, r_rev, r_gnil, r_gcons, r_gsub, r_par, r_aug, r_chain, r_I0, r_I, r_U, r_ixd, r_lend, r_tupd, r_listd, r_sld, r_app, r_ext, r_reverse, r_setl, r_cat, r_int1, r_eqS, r_neS, scal_ii, scal_bb, scal_ss, at0, at1, at2, sq_lst, sq_tup, isLst_lst, List.getElem?_cons_zero, List.getElem?_cons_succ, List.set_cons_zero, List.set_cons_succ, V.int.injEq, V.bl.injEq, V.ref.injEq, V.str.injEq, HO.lst.injEq, HO.tup.injEq, Option.some.injEq, exists_eq_left', exists_eq_left, List.cons.injEq, and_true, true_and, decide_eq_true_eq, reduceCtorEq, false_and, exists_false, or_false, false_or, exists_const, and_assoc, exists_and_left, List.append_nil, ix0, ix1, ix2, cm_mod, cdw1009, cdw2003, cdw7, cdw64, cdw2, cm104729, cm2, cm3, upd_same, List.length_cons, List.length_nil, Int.reduceLT, Int.reduceLE, Nat.reduceAdd, Nat.reduceLeDiff, Nat.reduceLT, Int.reduceToNat, r_for1, r_forL, r_forT, r_lcL, r_lc1, r_yes, r_gtupD, wipe_0, wipe_1, List.cons_append, List.nil_append, r_forS, r_ipI, ite_false, ite_true, Bool.not_true, Bool.not_false, decide_true, decide_false, r_isd, r_islt, cD_ty, cD_ref, tD_non, tD_bl, tD_int, tD_str, tD_ref, tH_lst, tH_tup, tH_dK, tH_ins, ki_self, ki_int_bool, ki_non_int, ki_str_int, ki_lt_lst, ki_lt_tup, r_fld, r_sfld, HO.ins.injEq, cx_K]
    rcases h with ⟨a, kds, rfl, hq, okds, h⟩ | ⟨hb, h⟩
    rotate_left
    · exact ⟨_, _, rfl, .inr ⟨hb.keep hc0 kk, er h kk hc⟩⟩
    refine ⟨_, _, rfl, .inl ⟨a, kds, rfl, sq_keep hc0 kk hq, okds, fun pd G sG hG => ?_⟩⟩
    have hc1 := sG c _ hc
    simp only [r_seq, r_next, r_brk, r_cont, r_asg, r_name, r_ret, r_retN, r_drop, r_ifs, r_never, r_var, r_c, r_op, r_un, r_if, r_tst, r_b, r_not, r_and, r_or, r_andV, r_orV, r_notV, r_nil, r_cons, r_tup, r_lst, r_cb, r_call, r_bm, r_bm0, r_sl, r_nopart, r_part, r_rev, r_gnil, r_gcons, r_gsub, r_par, r_aug, r_chain, r_I0, r_I, r_U, r_ixd, r_lend, r_tupd, r_listd, r_sld, r_app, r_ext, r_reverse, r_setl, r_cat, r_int1, r_eqS, r_neS, scal_ii, scal_bb, scal_ss, at0, at1, at2, sq_lst, sq_tup, isLst_lst, List.getElem?_cons_zero, List.getElem?_cons_succ, List.set_cons_zero, List.set_cons_succ, V.int.injEq, V.bl.injEq, V.ref.injEq, V.str.injEq, HO.lst.injEq, HO.tup.injEq, Option.some.injEq, exists_eq_left', exists_eq_left, List.cons.injEq, and_true, true_and, decide_eq_true_eq, reduceCtorEq, false_and, exists_false, or_false, false_or, exists_const, and_assoc, exists_and_left, List.append_nil, ix0, ix1, ix2, cm_mod, cdw1009, cdw2003, cdw7, cdw64, cdw2, cm104729, cm2, cm3, upd_same, List.length_cons, List.length_nil, Int.reduceLT, Int.reduceLE, Nat.reduceAdd, Nat.reduceLeDiff, Nat.reduceLT, Int.reduceToNat, r_for1, r_forL, r_forT, r_lcL, r_lc1, r_yes, r_gtupD, wipe_0, wipe_1, List.cons_append, List.nil_append, r_forS, r_ipI, ite_false, ite_true, Bool.not_true, Bool.not_false, decide_true, decide_false, r_isd, r_islt, cD_ty, cD_ref, tD_non, tD_bl, tD_int, tD_str, tD_ref, tH_lst, tH_tup, tH_dK, tH_ins, ki_self, ki_int_bool, ki_non_int, ki_str_int, ki_lt_lst, ki_lt_tup, r_fld, r_sfld, HO.ins.injEq, cx_K, hc1, n9, l0, cl]
    rw [e]
    have i10 := Ini.store (CC := CC) (dx := dx) (f := "kinds") (y := .ref pd) (kk.trans (Keep.same sG)) hl lk
    have kp : Keep c G (L2.upd G c (.ins CC dx (putF "kinds" (.ref pd) fs))) := Keep.upd (Keep.refl c G)
    have tpu := kp pu _ xpu (sG _ _ tpu)
    have tpk := kp pk _ xpk (sG _ _ tpk)
    have tpn := kp pn _ xpn (sG _ _ tpn)
    have tps := kp ps _ xps (sG _ _ tps)
    have xpd : pd ≠ c := fun z => by rw [z, hc1] at hG; cases hG
    have tpd := kp pd _ xpd hG
    clear hc e N l0 hc1 j kp hq
    generalize L2.upd G c (.ins CC dx (putF "kinds" (.ref pd) fs)) = H10 at i10 tpu tpk tpn tps tpd ⊢
    clear kk hl lk sG fs hG
    -- test
    refine seq_intro fun N e => ?_
    have j := i10
    obtain ⟨kk, fs, hc, hl, lk⟩ := j
    have y9 := lkS lk "slots" _ rfl
    have y10 := lkS lk "kinds" _ rfl
    rcases h with ⟨okl, h⟩ | ⟨okl, h⟩
    rotate_left
    · have ln : ¬ ((vn kds).length : Int) = ((ss.map V.str).length : Int) := by rw [vn_len, List.length_map]; omega
      simp only [r_seq, r_next, r_brk, r_cont, r_asg, r_name, r_ret, r_retN, r_drop, r_ifs, r_never, r_var, r_c, r_op, r_un, r_if, r_tst, r_b, r_not, r_and, r_or, r_andV, r_orV, r_notV, r_nil, r_cons, r_tup, r_lst, r_cb, r_call, r_bm, r_bm0, r_sl, r_nopart, r_part, r_rev, r_gnil, r_gcons, r_gsub, r_par, r_aug, r_chain, r_I0, r_I, r_U, r_ixd, r_lend, r_tupd, r_listd, r_sld, r_app, r_ext, r_reverse, r_setl, r_cat, r_int1, r_eqS, r_neS, scal_ii, scal_bb, scal_ss, at0, at1, at2, sq_lst, sq_tup, isLst_lst, List.getElem?_cons_zero, List.getElem?_cons_succ, List.set_cons_zero, List.set_cons_succ, V.int.injEq, V.bl.injEq, V.ref.injEq, V.str.injEq, HO.lst.injEq, HO.tup.injEq, Option.some.injEq, exists_eq_left', exists_eq_left, List.cons.injEq, and_true, true_and, decide_eq_true_eq, reduceCtorEq, false_and, exists_false, or_false, false_or, exists_const, and_assoc, exists_and_left, List.append_nil, ix0, ix1, ix2, cm_mod, cdw1009, cdw2003, cdw7, cdw64, cdw2, cm104729, cm2, cm3, upd_same, List.length_cons, List.length_nil, Int.reduceLT, Int.reduceLE, Nat.reduceAdd, Nat.reduceLeDiff, Nat.reduceLT, Int.reduceToNat, r_for1, r_forL, r_forT, r_lcL, r_lc1, r_yes, r_gtupD, wipe_0, wipe_1, List.cons_append, List.nil_append, r_forS, r_ipI, ite_false, ite_true, Bool.not_true, Bool.not_false, decide_true, decide_false, r_isd, r_islt, cD_ty, cD_ref, tD_non, tD_bl, tD_int, tD_str, tD_ref, tH_lst, tH_tup, tH_dK, tH_ins, ki_self, ki_int_bool, ki_non_int, ki_str_int, ki_lt_lst, ki_lt_tup, r_fld, r_sfld, HO.ins.injEq, cx_K, hc, n8, n9, cl, y9, y10, tps, tpd, ln]
      exact raise_x (v := .str "kinds") (fun Q q => q) (er h kk hc)
    have ln : ((vn kds).length : Int) = ((ss.map V.str).length : Int) := by rw [vn_len, List.length_map, okl]
    simp only [r_seq, r_next, r_brk, r_cont, r_asg, r_name, r_ret, r_retN, r_drop, r_ifs, r_never, r_var, r_c, r_op, r_un, r_if, r_tst, r_b, r_not, r_and, r_or, r_andV, r_orV, r_notV, r_nil, r_cons, r_tup, r_lst, r_cb, r_call, r_bm, r_bm0, r_sl, r_nopart, r_part, r_rev, r_gnil, r_gcons, r_gsub, r_par, r_aug, r_chain, r_I0, r_I, r_U, r_ixd, r_lend, r_tupd, r_listd, r_sld, r_app, r_ext, r_reverse, r_setl, r_cat, r_int1, r_eqS, r_neS, scal_ii, scal_bb, scal_ss, at0, at1, at2, sq_lst, sq_tup, isLst_lst, List.getElem?_cons_zero, List.getElem?_cons_succ, List.set_cons_zero, List.set_cons_succ, V.int.injEq, V.bl.injEq, V.ref.injEq, V.str.injEq, HO.lst.injEq, HO.tup.injEq, Option.some.injEq, exists_eq_left', exists_eq_left, List.cons.injEq, and_true, true_and, decide_eq_true_eq, reduceCtorEq, false_and, exists_false, or_false, false_or, exists_const, and_assoc, exists_and_left, List.append_nil, ix0, ix1, ix2, cm_mod, cdw1009, cdw2003, cdw7, cdw64, cdw2, cm104729, cm2, cm3, upd_same, List.length_cons, List.length_nil, Int.reduceLT, Int.reduceLE, Nat.reduceAdd, Nat.reduceLeDiff, Nat.reduceLT, Int.reduceToNat, r_for1, r_forL, r_forT, r_lcL, r_lc1, r_yes, r_gtupD, wipe_0, wipe_1, List.cons_append, List.nil_append, r_forS, r_ipI, ite_false, ite_true, Bool.not_true, Bool.not_false, decide_true, decide_false, r_isd, r_islt, cD_ty, cD_ref, tD_non, tD_bl, tD_int, tD_str, tD_ref, tH_lst, tH_tup, tH_dK, tH_ins, ki_self, ki_int_bool, ki_non_int, ki_str_int, ki_lt_lst, ki_lt_tup, r_fld, r_sfld, HO.ins.injEq, cx_K, hc, n8, n9, cl, y9, y10, tps, tpd, ln]
    rw [e]
    clear e N kk fs hc hl lk y9 y10 ln
    -- name
    refine seq_intro fun N e => ?_
    have j := i10
    obtain ⟨kk, fs, hc, hl, lk⟩ := i10
    have l0 : fs.length < 1000 := Nat.lt_of_le_of_lt hl (by simp only [List.length_cons, List.length_nil]; decide)
    simp only [r_seq, r_next, r_brk, r_cont, r_asg, r_name, r_ret, r_retN, r_drop, r_ifs, r_never, r_var, r_c, r_op, r_un, r_if, r_tst, r_b, r_not, r_and, r_or, r_andV, r_orV, r_notV, r_nil, r_cons, r_tup, r_lst, r_cb, r_call, r_bm, r_bm0, r_sl, r_nopart, r_part, r_rev, r_gnil, r_gcons, r_gsub, r_par, r_aug, r_chain, r_I0, r_I, r_U, r_ixd, r_lend, r_tupd, r_listd, r_sld, r_app, r_ext, r_reverse, r_setl, r_cat, r_int1, r_eqS, r_neS, scal_ii, scal_bb, scal_ss, at0, at1, at2, sq_lst, sq_tup, isLst_lst, List.getElem?_cons_zero, List.getElem?_cons_succ, List.set_cons_zero, List.set_cons_succ, V.int.injEq, V.bl.injEq, V.ref.injEq, V.str.injEq, HO.lst.injEq, HO.tup.injEq, Option.some.injEq, exists_eq_left', exists_eq_left, List.cons.injEq, and_true, true_and, decide_eq_true_eq, reduceCtorEq, false_and, exists_false, or_false, false_or, exists_const, and_assoc, exists_and_left, List.append_nil, ix0, ix1, ix2, cm_mod, cdw1009, cdw2003, cdw7, cdw64, cdw2, cm104729, cm2, cm3, upd_same, List.length_cons, List.length_nil, Int.reduceLT, Int.reduceLE, Nat.reduceAdd, Nat.reduceLeDiff, Nat.reduceLT, Int.reduceToNat, r_for1, r_forL, r_forT, r_lcL, r_lc1, r_yes, r_gtupD, wipe_0, wipe_1, List.cons_append, List.nil_append, r_forS, r_ipI, ite_false, ite_true, Bool.not_true, Bool.not_false, decide_true, decide_false, r_isd, r_islt, cD_ty, cD_ref, tD_non, tD_bl, tD_int, tD_str, tD_ref, tH_lst, tH_tup, tH_dK, tH_ins, ki_self, ki_int_bool, ki_non_int, ki_str_int, ki_lt_lst, ki_lt_tup, r_fld, r_sfld, HO.ins.injEq, cx_K]
    rcases h with ⟨z1, rfl, oz1, h⟩ | ⟨hb, h⟩
    rotate_left
    · exact ⟨_, _, rfl, .inr ⟨hb.keep hc0 kk, er h kk hc⟩⟩
    refine ⟨_, _, rfl, .inl ⟨.ok z1 oz1, fun G sG => ?_⟩⟩
    have hc1 := sG c _ hc
    simp only [r_seq, r_next, r_brk, r_cont, r_asg, r_name, r_ret, r_retN, r_drop, r_ifs, r_never, r_var, r_c, r_op, r_un, r_if, r_tst, r_b, r_not, r_and, r_or, r_andV, r_orV, r_notV, r_nil, r_cons, r_tup, r_lst, r_cb, r_call, r_bm, r_bm0, r_sl, r_nopart, r_part, r_rev, r_gnil, r_gcons, r_gsub, r_par, r_aug, r_chain, r_I0, r_I, r_U, r_ixd, r_lend, r_tupd, r_listd, r_sld, r_app, r_ext, r_reverse, r_setl, r_cat, r_int1, r_eqS, r_neS, scal_ii, scal_bb, scal_ss, at0, at1, at2, sq_lst, sq_tup, isLst_lst, List.getElem?_cons_zero, List.getElem?_cons_succ, List.set_cons_zero, List.set_cons_succ, V.int.injEq, V.bl.injEq, V.ref.injEq, V.str.injEq, HO.lst.injEq, HO.tup.injEq, Option.some.injEq, exists_eq_left', exists_eq_left, List.cons.injEq, and_true, true_and, decide_eq_true_eq, reduceCtorEq, false_and, exists_false, or_false, false_or, exists_const, and_assoc, exists_and_left, List.append_nil, ix0, ix1, ix2, cm_mod, cdw1009, cdw2003, cdw7, cdw64, cdw2, cm104729, cm2, cm3, upd_same, List.length_cons, List.length_nil, Int.reduceLT, Int.reduceLE, Nat.reduceAdd, Nat.reduceLeDiff, Nat.reduceLT, Int.reduceToNat, r_for1, r_forL, r_forT, r_lcL, r_lc1, r_yes, r_gtupD, wipe_0, wipe_1, List.cons_append, List.nil_append, r_forS, r_ipI, ite_false, ite_true, Bool.not_true, Bool.not_false, decide_true, decide_false, r_isd, r_islt, cD_ty, cD_ref, tD_non, tD_bl, tD_int, tD_str, tD_ref, tH_lst, tH_tup, tH_dK, tH_ins, ki_self, ki_int_bool, ki_non_int, ki_str_int, ki_lt_lst, ki_lt_tup, r_fld, r_sfld, HO.ins.injEq, cx_K, hc1, n10, l0, cl]
    rw [e]
    have i11 := Ini.store (CC := CC) (dx := dx) (f := "name") (y := .str z1) (kk.trans (Keep.same sG)) hl lk
    have kp : Keep c G (L2.upd G c (.ins CC dx (putF "name" (.str z1) fs))) := Keep.upd (Keep.refl c G)
    have tpu := kp pu _ xpu (sG _ _ tpu)
    have tpk := kp pk _ xpk (sG _ _ tpk)
    have tpn := kp pn _ xpn (sG _ _ tpn)
    have tps := kp ps _ xps (sG _ _ tps)
    have tpd := kp pd _ xpd (sG _ _ tpd)
    clear hc e N l0 hc1 j kp
    generalize L2.upd G c (.ins CC dx (putF "name" (.str z1) fs)) = H11 at i11 tpu tpk tpn tps tpd ⊢
    clear kk hl lk sG fs
    -- path
    refine seq_intro fun N e => ?_
    have j := i11
    obtain ⟨kk, fs, hc, hl, lk⟩ := i11
    have l0 : fs.length < 1000 := Nat.lt_of_le_of_lt hl (by simp only [List.length_cons, List.length_nil]; decide)
    simp only [r_seq, r_next, r_brk, r_cont, r_asg, r_name, r_ret, r_retN, r_drop, r_ifs, r_never, r_var, r_c, r_op, r_un, r_if, r_tst, r_b, r_not, r_and, r_or, r_andV, r_orV, r_notV, r_nil, r_cons, r_tup, r_lst, r_cb, r_call, r_bm, r_bm0, r_sl, r_nopart, r_part, r_rev, r_gnil, r_gcons, r_gsub, r_par, r_aug, r_chain, r_I0, r_I, r_U, r_ixd, r_lend, r_tupd, r_listd, r_sld, r_app, r_ext, r_reverse, r_setl, r_cat, r_int1, r_eqS, r_neS, scal_ii, scal_bb, scal_ss, at0, at1, at2, sq_lst, sq_tup, isLst_lst, List.getElem?_cons_zero, List.getElem?_cons_succ, List.set_cons_zero, List.set_cons_succ, V.int.injEq, V.bl.injEq, V.ref.injEq, V.str.injEq, HO.lst.injEq, HO.tup.injEq, Option.some.injEq, exists_eq_left', exists_eq_left, List.cons.injEq, and_true, true_and, decide_eq_true_eq, reduceCtorEq, false_and, exists_false, or_false, false_or, exists_const, and_assoc, exists_and_left, List.append_nil, ix0, ix1, ix2, cm_mod, cdw1009, cdw2003, cdw7, cdw64, cdw2, cm104729, cm2, cm3, upd_same, List.length_cons, List.length_nil, Int.reduceLT, Int.reduceLE, Nat.reduceAdd, Nat.reduceLeDiff, Nat.reduceLT, Int.reduceToNat, r_for1, r_forL, r_forT, r_lcL, r_lc1, r_yes, r_gtupD, wipe_0, wipe_1, List.cons_append, List.nil_append, r_forS, r_ipI, ite_false, ite_true, Bool.not_true, Bool.not_false, decide_true, decide_false, r_isd, r_islt, cD_ty, cD_ref, tD_non, tD_bl, tD_int, tD_str, tD_ref, tH_lst, tH_tup, tH_dK, tH_ins, ki_self, ki_int_bool, ki_non_int, ki_str_int, ki_lt_lst, ki_lt_tup, r_fld, r_sfld, HO.ins.injEq, cx_K]
    rcases h with ⟨z2, rfl, oz2, h⟩ | ⟨hb, h⟩
    rotate_left
    · exact ⟨_, _, rfl, .inr ⟨hb.keep hc0 kk, er h kk hc⟩⟩
    refine ⟨_, _, rfl, .inl ⟨.ok z2 oz2, fun G sG => ?_⟩⟩
    have hc1 := sG c _ hc
    simp only [r_seq, r_next, r_brk, r_cont, r_asg, r_name, r_ret, r_retN, r_drop, r_ifs, r_never, r_var, r_c, r_op, r_un, r_if, r_tst, r_b, r_not, r_and, r_or, r_andV, r_orV, r_notV, r_nil, r_cons, r_tup, r_lst, r_cb, r_call, r_bm, r_bm0, r_sl, r_nopart, r_part, r_rev, r_gnil, r_gcons, r_gsub, r_par, r_aug, r_chain, r_I0, r_I, r_U, r_ixd, r_lend, r_tupd, r_listd, r_sld, r_app, r_ext, r_reverse, r_setl, r_cat, r_int1, r_eqS, r_neS, scal_ii, scal_bb, scal_ss, at0, at1, at2, sq_lst, sq_tup, isLst_lst, List.getElem?_cons_zero, List.getElem?_cons_succ, List.set_cons_zero, List.set_cons_succ, V.int.injEq, V.bl.injEq, V.ref.injEq, V.str.injEq, HO.lst.injEq, HO.tup.injEq, Option.some.injEq, exists_eq_left', exists_eq_left, List.cons.injEq, and_true, true_and, decide_eq_true_eq, reduceCtorEq, false_and, exists_false, or_false, false_or, exists_const, and_assoc, exists_and_left, List.append_nil, ix0, ix1, ix2, cm_mod, cdw1009, cdw2003, cdw7, cdw64, cdw2, cm104729, cm2, cm3, upd_same, List.length_cons, List.length_nil, Int.reduceLT, Int.reduceLE, Nat.reduceAdd, Nat.reduceLeDiff, Nat.reduceLT, Int.reduceToNat, r_for1, r_forL, r_forT, r_lcL, r_lc1, r_yes, r_gtupD, wipe_0, wipe_1, List.cons_append, List.nil_append, r_forS, r_ipI, ite_false, ite_true, Bool.not_true, Bool.not_false, decide_true, decide_false, r_isd, r_islt, cD_ty, cD_ref, tD_non, tD_bl, tD_int, tD_str, tD_ref, tH_lst, tH_tup, tH_dK, tH_ins, ki_self, ki_int_bool, ki_non_int, ki_str_int, ki_lt_lst, ki_lt_tup, r_fld, r_sfld, HO.ins.injEq, cx_K, hc1, n11, l0, cl]
    rw [e]
    have i12 := Ini.store (CC := CC) (dx := dx) (f := "path") (y := .str z2) (kk.trans (Keep.same sG)) hl lk
    have kp : Keep c G (L2.upd G c (.ins CC dx (putF "path" (.str z2) fs))) := Keep.upd (Keep.refl c G)
    have tpu := kp pu _ xpu (sG _ _ tpu)
    have tpk := kp pk _ xpk (sG _ _ tpk)
    have tpn := kp pn _ xpn (sG _ _ tpn)
    have tps := kp ps _ xps (sG _ _ tps)
    have tpd := kp pd _ xpd (sG _ _ tpd)
    clear hc e N l0 hc1 j kp
    generalize L2.upd G c (.ins CC dx (putF "path" (.str z2) fs)) = H12 at i12 tpu tpk tpn tps tpd ⊢
    clear kk hl lk sG fs
    -- line
    refine seq_intro fun N e => ?_
    have j := i12
    obtain ⟨kk, fs, hc, hl, lk⟩ := i12
    have l0 : fs.length < 1000 := Nat.lt_of_le_of_lt hl (by simp only [List.length_cons, List.length_nil]; decide)
    simp only [r_seq, r_next, r_brk, r_cont, r_asg, r_name, r_ret, r_retN, r_drop, r_ifs, r_never, r_var, r_c, r_op, r_un, r_if, r_tst, r_b, r_not, r_and, r_or, r_andV, r_orV, r_notV, r_nil, r_cons, r_tup, r_lst, r_cb, r_call, r_bm, r_bm0, r_sl, r_nopart, r_part, r_rev, r_gnil, r_gcons, r_gsub, r_par, r_aug, r_chain, r_I0, r_I, r_U, r_ixd, r_lend, r_tupd, r_listd, r_sld, r_app, r_ext, r_reverse, r_setl, r_cat, r_int1, r_eqS, r_neS, scal_ii, scal_bb, scal_ss, at0, at1, at2, sq_lst, sq_tup, isLst_lst, List.getElem?_cons_zero, List.getElem?_cons_succ, List.set_cons_zero, List.set_cons_succ, V.int.injEq, V.bl.injEq, V.ref.injEq, V.str.injEq, HO.lst.injEq, HO.tup.injEq, Option.some.injEq, exists_eq_left', exists_eq_left, List.cons.injEq, and_true, true_and, decide_eq_true_eq, reduceCtorEq, false_and, exists_false, or_false, false_or, exists_const, and_assoc, exists_and_left, List.append_nil, ix0, ix1, ix2, cm_mod, cdw1009, cdw2003, cdw7, cdw64, cdw2, cm104729, cm2, cm3, upd_same, List.length_cons, List.length_nil, Int.reduceLT, Int.reduceLE, Nat.reduceAdd, Nat.reduceLeDiff, Nat.reduceLT, Int.reduceToNat, r_for1, r_forL, r_forT, r_lcL, r_lc1, r_yes, r_gtupD, wipe_0, wipe_1, List.cons_append, List.nil_append, r_forS, r_ipI, ite_false, ite_true, Bool.not_true, Bool.not_false, decide_true, decide_false, r_isd, r_islt, cD_ty, cD_ref, tD_non, tD_bl, tD_int, tD_str, tD_ref, tH_lst, tH_tup, tH_dK, tH_ins, ki_self, ki_int_bool, ki_non_int, ki_str_int, ki_lt_lst, ki_lt_tup, r_fld, r_sfld, HO.ins.injEq, cx_K]
    rcases h with ⟨i4, rfl, oi4, h⟩ | ⟨hb, h⟩
    rotate_left
    · exact ⟨_, _, rfl, .inr ⟨hb.keep hc0 kk, er h kk hc⟩⟩
    obtain ⟨G, eG⟩ : ∃ G, G = H12 := ⟨_, rfl⟩
    have sG : Same H12 G := by rw [eG]; exact Same.refl _
    refine ⟨_, _, rfl, .inl ⟨i4, rfl, oi4, ?_⟩⟩
    rw [← eG]
    have hc1 := sG c _ hc
    simp only [r_seq, r_next, r_brk, r_cont, r_asg, r_name, r_ret, r_retN, r_drop, r_ifs, r_never, r_var, r_c, r_op, r_un, r_if, r_tst, r_b, r_not, r_and, r_or, r_andV, r_orV, r_notV, r_nil, r_cons, r_tup, r_lst, r_cb, r_call, r_bm, r_bm0, r_sl, r_nopart, r_part, r_rev, r_gnil, r_gcons, r_gsub, r_par, r_aug, r_chain, r_I0, r_I, r_U, r_ixd, r_lend, r_tupd, r_listd, r_sld, r_app, r_ext, r_reverse, r_setl, r_cat, r_int1, r_eqS, r_neS, scal_ii, scal_bb, scal_ss, at0, at1, at2, sq_lst, sq_tup, isLst_lst, List.getElem?_cons_zero, List.getElem?_cons_succ, List.set_cons_zero, List.set_cons_succ, V.int.injEq, V.bl.injEq, V.ref.injEq, V.str.injEq, HO.lst.injEq, HO.tup.injEq, Option.some.injEq, exists_eq_left', exists_eq_left, List.cons.injEq, and_true, true_and, decide_eq_true_eq, reduceCtorEq, false_and, exists_false, or_false, false_or, exists_const, and_assoc, exists_and_left, List.append_nil, ix0, ix1, ix2, cm_mod, cdw1009, cdw2003, cdw7, cdw64, cdw2, cm104729, cm2, cm3, upd_same, List.length_cons, List.length_nil, Int.reduceLT, Int.reduceLE, Nat.reduceAdd, Nat.reduceLeDiff, Nat.reduceLT, Int.reduceToNat, r_for1, r_forL, r_forT, r_lcL, r_lc1, r_yes, r_gtupD, wipe_0, wipe_1, List.cons_append, List.nil_append, r_forS, r_ipI, ite_false, ite_true, Bool.not_true, Bool.not_false, decide_true, decide_false, r_isd, r_islt, cD_ty, cD_ref, tD_non, tD_bl, tD_int, tD_str, tD_ref, tH_lst, tH_tup, tH_dK, tH_ins, ki_self, ki_int_bool, ki_non_int, ki_str_int, ki_lt_lst, ki_lt_tup, r_fld, r_sfld, HO.ins.injEq, cx_K, hc1, n12, l0, cl]
    rw [e]
    have i13 := Ini.store (CC := CC) (dx := dx) (f := "line") (y := .int i4) (kk.trans (Keep.same sG)) hl lk
    have kp : Keep c G (L2.upd G c (.ins CC dx (putF "line" (.int i4) fs))) := Keep.upd (Keep.refl c G)
    have tpu := kp pu _ xpu (sG _ _ tpu)
    have tpk := kp pk _ xpk (sG _ _ tpk)
    have tpn := kp pn _ xpn (sG _ _ tpn)
    have tps := kp ps _ xps (sG _ _ tps)
    have tpd := kp pd _ xpd (sG _ _ tpd)
    clear hc e N l0 hc1 j kp eG
    generalize L2.upd G c (.ins CC dx (putF "line" (.int i4) fs)) = H13 at i13 tpu tpk tpn tps tpd ⊢
    clear kk hl lk sG fs
    -- lines
    refine seq_intro fun N e => ?_
    have j := i13
    obtain ⟨kk, fs, hc, hl, lk⟩ := i13
    have l0 : fs.length < 1000 := Nat.lt_of_le_of_lt hl (by simp only [List.length_cons, List.length_nil]; decide)
    simp only [r_seq, r_next, r_brk, r_cont, r_asg, r_name, r_ret, r_retN, r_drop, r_ifs, r_never, r_var, r_c, r_op, r_un, r_if, r_tst, r_b, r_not, r_and, r_or, r_andV, r_orV, r_notV, r_nil, r_cons, r_tup, r_lst, r_cb, r_call, r_bm, r_bm0, r_sl, r_nopart, r_part, r_rev, r_gnil, r_gcons, r_gsub, r_par, r_aug, r_chain, r_I0, r_I, r_U, r_ixd, r_lend, r_tupd, r_listd, r_sld, r_app, r_ext, r_reverse, r_setl, r_cat, r_int1, r_eqS, r_neS, scal_ii, scal_bb, scal_ss, at0, at1, at2, sq_lst, sq_tup, isLst_lst, List.getElem?_cons_zero, List.getElem?_cons_succ, List.set_cons_zero, List.set_cons_succ, V.int.injEq, V.bl.injEq, V.ref.injEq, V.str.injEq, HO.lst.injEq, HO.tup.injEq, Option.some.injEq, exists_eq_left', exists_eq_left, List.cons.injEq, and_true, true_and, decide_eq_true_eq, reduceCtorEq, false_and, exists_false, or_false, false_or, exists_const, and_assoc, exists_and_left, List.append_nil, ix0, ix1, ix2, cm_mod, cdw1009, cdw2003, cdw7, cdw64, cdw2, cm104729, cm2, cm3, upd_same, List.length_cons, List.length_nil, Int.reduceLT, Int.reduceLE, Nat.reduceAdd, Nat.reduceLeDiff, Nat.reduceLT, Int.reduceToNat, r_for1, r_forL, r_forT, r_lcL, r_lc1, r_yes, r_gtupD, wipe_0, wipe_1, List.cons_append, List.nil_append, r_forS, r_ipI, ite_false, ite_true, Bool.not_true, Bool.not_false, decide_true, decide_false, r_isd, r_islt, cD_ty, cD_ref, tD_non, tD_bl, tD_int, tD_str, tD_ref, tH_lst, tH_tup, tH_dK, tH_ins, ki_self, ki_int_bool, ki_non_int, ki_str_int, ki_lt_lst, ki_lt_tup, r_fld, r_sfld, HO.ins.injEq, cx_K]
    rcases h with ⟨a, lns, rfl, hq, olns, h⟩ | ⟨hb, h⟩
    rotate_left
    · exact ⟨_, _, rfl, .inr ⟨hb.keep hc0 kk, er h kk hc⟩⟩
    refine ⟨_, _, rfl, .inl ⟨a, lns, rfl, sq_keep hc0 kk hq, olns, fun pt G sG hG => ?_⟩⟩
    have hc1 := sG c _ hc
    simp only [r_seq, r_next, r_brk, r_cont, r_asg, r_name, r_ret, r_retN, r_drop, r_ifs, r_never, r_var, r_c, r_op, r_un, r_if, r_tst, r_b, r_not, r_and, r_or, r_andV, r_orV, r_notV, r_nil, r_cons, r_tup, r_lst, r_cb, r_call, r_bm, r_bm0, r_sl, r_nopart, r_part, r_rev, r_gnil, r_gcons, r_gsub, r_par, r_aug, r_chain, r_I0, r_I, r_U, r_ixd, r_lend, r_tupd, r_listd, r_sld, r_app, r_ext, r_reverse, r_setl, r_cat, r_int1, r_eqS, r_neS, scal_ii, scal_bb, scal_ss, at0, at1, at2, sq_lst, sq_tup, isLst_lst, List.getElem?_cons_zero, List.getElem?_cons_succ, List.set_cons_zero, List.set_cons_succ, V.int.injEq, V.bl.injEq, V.ref.injEq, V.str.injEq, HO.lst.injEq, HO.tup.injEq, Option.some.injEq, exists_eq_left', exists_eq_left, List.cons.injEq, and_true, true_and, decide_eq_true_eq, reduceCtorEq, false_and, exists_false, or_false, false_or, exists_const, and_assoc, exists_and_left, List.append_nil, ix0, ix1, ix2, cm_mod, cdw1009, cdw2003, cdw7, cdw64, cdw2, cm104729, cm2, cm3, upd_same, List.length_cons, List.length_nil, Int.reduceLT, Int.reduceLE, Nat.reduceAdd, Nat.reduceLeDiff, Nat.reduceLT, Int.reduceToNat, r_for1, r_forL, r_forT, r_lcL, r_lc1, r_yes, r_gtupD, wipe_0, wipe_1, List.cons_append, List.nil_append, r_forS, r_ipI, ite_false, ite_true, Bool.not_true, Bool.not_false, decide_true, decide_false, r_isd, r_islt, cD_ty, cD_ref, tD_non, tD_bl, tD_int, tD_str, tD_ref, tH_lst, tH_tup, tH_dK, tH_ins, ki_self, ki_int_bool, ki_non_int, ki_str_int, ki_lt_lst, ki_lt_tup, r_fld, r_sfld, HO.ins.injEq, cx_K, hc1, n13, l0, cl]
    rw [e]
    have i14 := Ini.store (CC := CC) (dx := dx) (f := "lines") (y := .ref pt) (kk.trans (Keep.same sG)) hl lk
    have kp : Keep c G (L2.upd G c (.ins CC dx (putF "lines" (.ref pt) fs))) := Keep.upd (Keep.refl c G)
    have tpu := kp pu _ xpu (sG _ _ tpu)
    have tpk := kp pk _ xpk (sG _ _ tpk)
    have tpn := kp pn _ xpn (sG _ _ tpn)
    have tps := kp ps _ xps (sG _ _ tps)
    have tpd := kp pd _ xpd (sG _ _ tpd)
    have xpt : pt ≠ c := fun z => by rw [z, hc1] at hG; cases hG
    have tpt := kp pt _ xpt hG
    clear hc e N l0 hc1 j kp hq
    generalize L2.upd G c (.ins CC dx (putF "lines" (.ref pt) fs)) = H14 at i14 tpu tpk tpn tps tpd tpt ⊢
    clear kk hl lk sG fs hG
    -- handlers
    refine seq_intro fun N e => ?_
    have j := i14
    obtain ⟨kk, fs, hc, hl, lk⟩ := i14
    have l0 : fs.length < 1000 := Nat.lt_of_le_of_lt hl (by simp only [List.length_cons, List.length_nil]; decide)
    simp only [r_seq, r_next, r_brk, r_cont, r_asg, r_name, r_ret, r_retN, r_drop, r_ifs, r_never, r_var, r_c, r_op, r_un, r_if, r_tst, r_b, r_not, r_and, r_or, r_andV, r_orV, r_notV, r_nil, r_cons, r_tup, r_lst, r_cb, r_call, r_bm, r_bm0, r_sl, r_nopart, r_part, r_rev, r_gnil, r_gcons, r_gsub, r_par, r_aug, r_chain, r_I0, r_I, r_U, r_ixd, r_lend, r_tupd, r_listd, r_sld, r_app, r_ext, r_reverse, r_setl, r_cat, r_int1, r_eqS, r_neS, scal_ii, scal_bb, scal_ss, at0, at1, at2, sq_lst, sq_tup, isLst_lst, List.getElem?_cons_zero, List.getElem?_cons_succ, List.set_cons_zero, List.set_cons_succ, V.int.injEq, V.bl.injEq, V.ref.injEq, V.str.injEq, HO.lst.injEq, HO.tup.injEq, Option.some.injEq, exists_eq_left', exists_eq_left, List.cons.injEq, and_true, true_and, decide_eq_true_eq, reduceCtorEq, false_and, exists_false, or_false, false_or, exists_const, and_assoc, exists_and_left, List.append_nil, ix0, ix1, ix2, cm_mod, cdw1009, cdw2003, cdw7, cdw64, cdw2, cm104729, cm2, cm3, upd_same, List.length_cons, List.length_nil, Int.reduceLT, Int.reduceLE, Nat.reduceAdd, Nat.reduceLeDiff, Nat.reduceLT, Int.reduceToNat, r_for1, r_forL, r_forT, r_lcL, r_lc1, r_yes, r_gtupD, wipe_0, wipe_1, List.cons_append, List.nil_append, r_forS, r_ipI, ite_false, ite_true, Bool.not_true, Bool.not_false, decide_true, decide_false, r_isd, r_islt, cD_ty, cD_ref, tD_non, tD_bl, tD_int, tD_str, tD_ref, tH_lst, tH_tup, tH_dK, tH_ins, ki_self, ki_int_bool, ki_non_int, ki_str_int, ki_lt_lst, ki_lt_tup, r_fld, r_sfld, HO.ins.injEq, cx_K]
    rcases h with ⟨a, gds, rfl, hq, ogds, h⟩ | ⟨hb, h⟩
    rotate_left
    · exact ⟨_, _, rfl, .inr ⟨hb.keep hc0 kk, er h kk hc⟩⟩
    refine ⟨_, _, rfl, .inl ⟨a, gds, rfl, sq_keep hc0 kk hq, ogds, fun pg G sG hG => ?_⟩⟩
    have hc1 := sG c _ hc
    simp only [r_seq, r_next, r_brk, r_cont, r_asg, r_name, r_ret, r_retN, r_drop, r_ifs, r_never, r_var, r_c, r_op, r_un, r_if, r_tst, r_b, r_not, r_and, r_or, r_andV, r_orV, r_notV, r_nil, r_cons, r_tup, r_lst, r_cb, r_call, r_bm, r_bm0, r_sl, r_nopart, r_part, r_rev, r_gnil, r_gcons, r_gsub, r_par, r_aug, r_chain, r_I0, r_I, r_U, r_ixd, r_lend, r_tupd, r_listd, r_sld, r_app, r_ext, r_reverse, r_setl, r_cat, r_int1, r_eqS, r_neS, scal_ii, scal_bb, scal_ss, at0, at1, at2, sq_lst, sq_tup, isLst_lst, List.getElem?_cons_zero, List.getElem?_cons_succ, List.set_cons_zero, List.set_cons_succ, V.int.injEq, V.bl.injEq, V.ref.injEq, V.str.injEq, HO.lst.injEq, HO.tup.injEq, Option.some.injEq, exists_eq_left', exists_eq_left, List.cons.injEq, and_true, true_and, decide_eq_true_eq, reduceCtorEq, false_and, exists_false, or_false, false_or, exists_const, and_assoc, exists_and_left, List.append_nil, ix0, ix1, ix2, cm_mod, cdw1009, cdw2003, cdw7, cdw64, cdw2, cm104729, cm2, cm3, upd_same, List.length_cons, List.length_nil, Int.reduceLT, Int.reduceLE, Nat.reduceAdd, Nat.reduceLeDiff, Nat.reduceLT, Int.reduceToNat, r_for1, r_forL, r_forT, r_lcL, r_lc1, r_yes, r_gtupD, wipe_0, wipe_1, List.cons_append, List.nil_append, r_forS, r_ipI, ite_false, ite_true, Bool.not_true, Bool.not_false, decide_true, decide_false, r_isd, r_islt, cD_ty, cD_ref, tD_non, tD_bl, tD_int, tD_str, tD_ref, tH_lst, tH_tup, tH_dK, tH_ins, ki_self, ki_int_bool, ki_non_int, ki_str_int, ki_lt_lst, ki_lt_tup, r_fld, r_sfld, HO.ins.injEq, cx_K, hc1, n14, l0, cl]
    rw [e]
    have i15 := Ini.store (CC := CC) (dx := dx) (f := "handlers") (y := .ref pg) (kk.trans (Keep.same sG)) hl lk
    have kp : Keep c G (L2.upd G c (.ins CC dx (putF "handlers" (.ref pg) fs))) := Keep.upd (Keep.refl c G)
    have tpu := kp pu _ xpu (sG _ _ tpu)
    have tpk := kp pk _ xpk (sG _ _ tpk)
    have tpn := kp pn _ xpn (sG _ _ tpn)
    have tps := kp ps _ xps (sG _ _ tps)
    have tpd := kp pd _ xpd (sG _ _ tpd)
    have tpt := kp pt _ xpt (sG _ _ tpt)
    have xpg : pg ≠ c := fun z => by rw [z, hc1] at hG; cases hG
    have tpg := kp pg _ xpg hG
    clear hc e N l0 hc1 j kp hq
    generalize L2.upd G c (.ins CC dx (putF "handlers" (.ref pg) fs)) = H15 at i15 tpu tpk tpn tps tpd tpt tpg ⊢
    clear kk hl lk sG fs hG
    -- identity
    have j := i15
    obtain ⟨kk, fs, hc, hl, lk⟩ := j
    have y0 := lkS lk "argcount" _ rfl
    have y1 := lkS lk "onlycount" _ rfl
    have y2 := lkS lk "stacksize" _ rfl
    have y3 := lkS lk "flags" _ rfl
    have y4 := lkS lk "code" _ rfl
    have y5 := lkS lk "depth" _ rfl
    have y6 := lkS lk "constants" _ rfl
    have y7 := lkS lk "names" _ rfl
    have y8 := lkS lk "slots" _ rfl
    have y9 := lkS lk "kinds" _ rfl
    have y10 := lkS lk "name" _ rfl
    have y11 := lkS lk "path" _ rfl
    have y12 := lkS lk "line" _ rfl
    have y13 := lkS lk "lines" _ rfl
    have y14 := lkS lk "handlers" _ rfl
    have l0 : fs.length < 1000 := Nat.lt_of_le_of_lt hl (by simp only [List.length_cons, List.length_nil]; decide)
    simp only [r_seq, r_next, r_brk, r_cont, r_asg, r_name, r_ret, r_retN, r_drop, r_ifs, r_never, r_var, r_c, r_op, r_un, r_if, r_tst, r_b, r_not, r_and, r_or, r_andV, r_orV, r_notV, r_nil, r_cons, r_tup, r_lst, r_cb, r_call, r_bm, r_bm0, r_sl, r_nopart, r_part, r_rev, r_gnil, r_gcons, r_gsub, r_par, r_aug, r_chain, r_I0, r_I, r_U, r_ixd, r_lend, r_tupd, r_listd, r_sld, r_app, r_ext, r_reverse, r_setl, r_cat, r_int1, r_eqS, r_neS, scal_ii, scal_bb, scal_ss, at0, at1, at2, sq_lst, sq_tup, isLst_lst, List.getElem?_cons_zero, List.getElem?_cons_succ, List.set_cons_zero, List.set_cons_succ, V.int.injEq, V.bl.injEq, V.ref.injEq, V.str.injEq, HO.lst.injEq, HO.tup.injEq, Option.some.injEq, exists_eq_left', exists_eq_left, List.cons.injEq, and_true, true_and, decide_eq_true_eq, reduceCtorEq, false_and, exists_false, or_false, false_or, exists_const, and_assoc, exists_and_left, List.append_nil, ix0, ix1, ix2, cm_mod, cdw1009, cdw2003, cdw7, cdw64, cdw2, cm104729, cm2, cm3, upd_same, List.length_cons, List.length_nil, Int.reduceLT, Int.reduceLE, Nat.reduceAdd, Nat.reduceLeDiff, Nat.reduceLT, Int.reduceToNat, r_for1, r_forL, r_forT, r_lcL, r_lc1, r_yes, r_gtupD, wipe_0, wipe_1, List.cons_append, List.nil_append, r_forS, r_ipI, ite_false, ite_true, Bool.not_true, Bool.not_false, decide_true, decide_false, r_isd, r_islt, cD_ty, cD_ref, tD_non, tD_bl, tD_int, tD_str, tD_ref, tH_lst, tH_tup, tH_dK, tH_ins, ki_self, ki_int_bool, ki_non_int, ki_str_int, ki_lt_lst, ki_lt_tup, r_fld, r_sfld, HO.ins.injEq, cx_K, r_plain]
    intro m md hm hmd nm
    have hc1 : L2.upd (L2.upd H15 md (.own m)) m (.ins MM md []) c = some (.ins CC dx fs) := by rw [upd_ne (ne_new hc hm), upd_ne (ne_new hc hmd)]; exact hc
    simp only [r_seq, r_next, r_brk, r_cont, r_asg, r_name, r_ret, r_retN, r_drop, r_ifs, r_never, r_var, r_c, r_op, r_un, r_if, r_tst, r_b, r_not, r_and, r_or, r_andV, r_orV, r_notV, r_nil, r_cons, r_tup, r_lst, r_cb, r_call, r_bm, r_bm0, r_sl, r_nopart, r_part, r_rev, r_gnil, r_gcons, r_gsub, r_par, r_aug, r_chain, r_I0, r_I, r_U, r_ixd, r_lend, r_tupd, r_listd, r_sld, r_app, r_ext, r_reverse, r_setl, r_cat, r_int1, r_eqS, r_neS, scal_ii, scal_bb, scal_ss, at0, at1, at2, sq_lst, sq_tup, isLst_lst, List.getElem?_cons_zero, List.getElem?_cons_succ, List.set_cons_zero, List.set_cons_succ, V.int.injEq, V.bl.injEq, V.ref.injEq, V.str.injEq, HO.lst.injEq, HO.tup.injEq, Option.some.injEq, exists_eq_left', exists_eq_left, List.cons.injEq, and_true, true_and, decide_eq_true_eq, reduceCtorEq, false_and, exists_false, or_false, false_or, exists_const, and_assoc, exists_and_left, List.append_nil, ix0, ix1, ix2, cm_mod, cdw1009, cdw2003, cdw7, cdw64, cdw2, cm104729, cm2, cm3, upd_same, List.length_cons, List.length_nil, Int.reduceLT, Int.reduceLE, Nat.reduceAdd, Nat.reduceLeDiff, Nat.reduceLT, Int.reduceToNat, r_for1, r_forL, r_forT, r_lcL, r_lc1, r_yes, r_gtupD, wipe_0, wipe_1, List.cons_append, List.nil_append, r_forS, r_ipI, ite_false, ite_true, Bool.not_true, Bool.not_false, decide_true, decide_false, r_isd, r_islt, cD_ty, cD_ref, tD_non, tD_bl, tD_int, tD_str, tD_ref, tH_lst, tH_tup, tH_dK, tH_ins, ki_self, ki_int_bool, ki_non_int, ki_str_int, ki_lt_lst, ki_lt_tup, r_fld, r_sfld, HO.ins.injEq, cx_K, hc1, cl, l0, n15]
    have u := fun (b : Addr) (o : HO) (nb : b ≠ c) (e : H15 b = some o) (o3 : HO) => (show L2.upd (L2.upd (L2.upd H15 md (.own m)) m (.ins MM md [])) c o3 b = some o from by rw [upd_ne nb, upd_ne (ne_new e hm), upd_ne (ne_new e hmd)]; exact e)
    have hm0 : H m = none := by
      cases q : H m with
      | none => rfl
      | some o =>
        by_cases dc : m = c
        · rw [dc, hc] at hm
          cases hm
        · rw [kk m o dc q] at hm
          cases hm
    refine h m _ hm0 (fun b o nb e => u b o nb (kk b o nb e) _) ⟨dx, _, pu, pk, pn, ps, pd, pt, pg, upd_same, ?_, ?_, ?_, ?_, ?_, ?_, ?_, ?_, ?_, ?_, ?_, ?_, ?_, ?_, ?_, ?_, u _ _ xpu tpu _, u _ _ xpk tpk _, u _ _ xpn tpn _, u _ _ xps tps _, u _ _ xpd tpd _, u _ _ xpt tpt _, u _ _ xpg tpg _, ⟨md, by rw [upd_ne (ne_new hc hm).symm, upd_same]⟩, ?_⟩
    · rw [lookup_putF, if_neg (by decide)]
      exact y0
    · rw [lookup_putF, if_neg (by decide)]
      exact y1
    · rw [lookup_putF, if_neg (by decide)]
      exact y2
    · rw [lookup_putF, if_neg (by decide)]
      exact y3
    · rw [lookup_putF, if_neg (by decide)]
      exact y4
    · rw [lookup_putF, if_neg (by decide)]
      exact y5
    · rw [lookup_putF, if_neg (by decide)]
      exact y6
    · rw [lookup_putF, if_neg (by decide)]
      exact y7
    · rw [lookup_putF, if_neg (by decide)]
      exact y8
    · rw [lookup_putF, if_neg (by decide)]
      exact y9
    · rw [lookup_putF, if_neg (by decide)]
      exact y10
    · rw [lookup_putF, if_neg (by decide)]
      exact y11
    · rw [lookup_putF, if_neg (by decide)]
      exact y12
    · rw [lookup_putF, if_neg (by decide)]
      exact y13
    · rw [lookup_putF, if_neg (by decide)]
      exact y14
    · rw [lookup_putF, if_pos rfl]
    · rw [lookup_putF, if_neg (by decide)]
      exact (lk "parts_alike").trans rfl
end
end C51

set_option maxHeartbeats 2000000
namespace C51
open PySem PySem.Spec PyProof.Rows L2
/-! ### fields, in a heap that grows -/
theorem BadN.same {H H' : Hp} {v : V} (h : BadN H v) (s : Same H H') : BadN H' v := h.imp (fun ⟨t, k, n⟩ => ⟨t, k.same s, n⟩) id
theorem NoRow.same {H H' : Hp} {v : V} (h : NoRow H v) (s : Same H H') : NoRow H' v := let ⟨t, k, n⟩ := h; ⟨t, k.same s, n⟩
theorem BadRow.same {H H' : Hp} {v : V} (h : BadRow H v) (s : Same H H') : BadRow H' v := h.imp (fun h => h.same s) fun ⟨a, pre, x, post, e, q, p, b⟩ => ⟨a, pre, x, post, e, sq_same q s, p, b.same s⟩
theorem BadRowS.same {H H' : Hp} {v : V} (h : BadRowS H v) (s : Same H H') : BadRowS H' v := h.imp (fun h => h.same s) fun ⟨a, pre, x, post, e, q, p, b⟩ => ⟨a, pre, x, post, e, sq_same q s, fun y hy => (p y hy).same s, b.same s⟩
theorem BadRowC.same {CC : Addr} {H H' : Hp} {v : V} (h : BadRowC CC H v) (s : Same H H') : BadRowC CC H' v := h.imp (fun h => h.same s) fun ⟨a, pre, es, x, post, e, q, p, n, b, hn⟩ => ⟨a, pre, es, x, post, e, sq_same q s, Paired.map' p fun y e h => h.same s, n, b.same s, hn⟩
section
variable {H H' : Hp} {er er' : Str → Prop} {CC : Addr}
theorem fN.imp {f : Str} {v : V} {k k' : Int → Prop} (s : Same H H') (e : ∀ f, er f → er' f) (hk : ∀ n, k n → k' n) (h : fN H er f v k) : fN H' er' f v k' := Or.imp (fun ⟨n, a, b, c⟩ => ⟨n, a, b, hk n c⟩) (fun ⟨a, b⟩ => ⟨a.same s, e _ b⟩) h
theorem fB.imp {f : Str} {v : V} {k k' : List Nat → Prop} (s : Same H H') (e : ∀ f, er f → er' f) (hk : ∀ n, k n → k' n) (h : fB H er f v k) : fB H' er' f v k' := Or.imp (fun ⟨a, ns, x, y, z, c⟩ => ⟨a, ns, x, sq_same y s, z, hk ns c⟩) (fun ⟨a, b⟩ => ⟨a.same s, e _ b⟩) h
theorem fS.imp {f : Str} {v : V} {k k' : List Str → Prop} (s : Same H H') (e : ∀ f, er f → er' f) (hk : ∀ n, k n → k' n) (h : fS H er f v k) : fS H' er' f v k' := Or.imp (fun ⟨a, ns, x, y, z, c⟩ => ⟨a, ns, x, sq_same y s, z, hk ns c⟩) (fun ⟨a, b⟩ => ⟨a.same s, e _ b⟩) h
theorem fC.imp {v : V} {k k' : List V → List Nat → Prop} (s : Same H H') (e : ∀ f, er f → er' f) (hk : ∀ n m, k n m → k' n m) (h : fC H er CC v k) : fC H' er' CC v k' := Or.imp (fun ⟨a, xs, es, x, y, z, d, c⟩ => ⟨a, xs, es, x, sq_same y s, Paired.map' z fun x e q => q.same s, d, hk xs es c⟩) (fun ⟨a, b⟩ => ⟨a.same s, e _ b⟩) h
theorem fZ.imp {f : Str} {v : V} {k k' : Str → Prop} (s : Same H H') (e : ∀ f, er f → er' f) (hk : ∀ n, k n → k' n) (h : fZ H er f v k) : fZ H' er' f v k' := Or.imp (fun ⟨n, a, b, c⟩ => ⟨n, a, b, hk n c⟩) (fun ⟨a, b⟩ => ⟨a.same s, e _ b⟩) h
theorem fL.imp {kds : List Nat} {ss : List Str} {k k' : Prop} (e : ∀ f, er f → er' f) (hk : k → k') (h : fL er kds ss k) : fL er' kds ss k' := Or.imp (fun ⟨a, b⟩ => ⟨a, hk b⟩) (fun ⟨a, b⟩ => ⟨a, e _ b⟩) h
theorem fAll.imp {v0 v1 v2 v3 v4 v5 v6 v7 v8 v9 v10 v11 v12 v13 : V} {k k' : Fld → Prop} (s : Same H H') (e : ∀ f, er f → er' f) (hk : ∀ X, k X → k' X) (h : fAll CC H er v0 v1 v2 v3 v4 v5 v6 v7 v8 v9 v10 v11 v12 v13 k) : fAll CC H' er' v0 v1 v2 v3 v4 v5 v6 v7 v8 v9 v10 v11 v12 v13 k' :=
  fN.imp s e (fun _ => fN.imp s e fun _ => fN.imp s e fun _ => fN.imp s e fun _ => fB.imp s e fun _ => fC.imp s e fun _ _ => fS.imp s e fun _ => fS.imp s e fun _ => fB.imp s e fun _ => fL.imp e (fZ.imp s e fun _ => fZ.imp s e fun _ => fN.imp s e fun _ => fB.imp s e fun _ => fB.imp s e fun _ => hk _)) h
end
/-- the class Code as its callers see it -/
structure MkCode (P : Program) (w : World) (K : PySem.W.Frag) (mg : Str → Option Value) (base : Heap) (CC CN MM : Addr) : Prop where
  ex : ∃ f fd, Mk K CC f ∧ FnOk P w K mg base (L2.CX P w) 4 f fd ["self", "argcount", "onlycount", "stacksize", "flags", "code", "constants", "names", "slots", "kinds", "name", "path", "line", "lines", "handlers"] (spCodeInit CC CN MM) ∧ mg "Code" = some (.ref CC) ∧
    Binds K fd ["self", "argcount", "onlycount", "stacksize", "flags", "code", "constants", "names", "slots", "kinds", "name", "path", "line", "lines", "handlers"] []
theorem pe_makE {X : Cx} {W : WX} {E : XK} {CC CN MM : Addr} {e : Expr} {es : List Expr} {t : TA} {p pos : Pos} (M : MkCode X.prog X.w X.K X.mg X.base CC CN MM) (hr : Room 5 X.A) (hg : Gl X "Code") (tk : Takes X W) (hW : ∀ cls d σ H, E cls d H → W cls d σ H) (ha : PA X (e :: es) t)
    (he : starEach (e :: es) X.env = (false, eval e X.env) :: starEach es X.env := by rfl) (hpl : (backTo pos (starEach es X.env)).any (·.1) = false := by rfl) :
    PE X (.Call (.Name "Code" p) (e :: es) [] pos) (tMake CC (spCodeInit CC CN MM) [] E t) := by
  obtain ⟨f, fd, M, F, m, b⟩ := M.ex
  exact pe_make M F hr hg m b .nil (passes_call tk hW) ha (by decide) he hpl
theorem r_make {C : Addr} {sp : Sp} {dvs : List V} {E : XK} {t : TA} {σ : L2.St} {H : Hp} {Q : VK} : tMake C sp dvs E t σ H Q = t σ H (fun vs H1 => ∀ x dx, H1 x = none → H1 dx = none → dx ≠ x → sp (.ref x :: (vs ++ dvs)) (L2.upd (L2.upd H1 dx (.own x)) x (.ins C dx [])) (fun v H2 => v = .non ∧ Q (.ref x) H2) E) := rfl
/-- fourteen fields in a list, made to a code -/
def spLCode (CC CN MM : Addr) : Sp := fun vs H Q E => ∃ (a : Addr) (v0 v1 v2 v3 v4 v5 v6 v7 v8 v9 v10 v11 v12 v13 : V), vs = [.ref a] ∧ H a = some (.lst [v0, v1, v2, v3, v4, v5, v6, v7, v8, v9, v10, v11, v12, v13]) ∧
  fAll CC H (ErrF CN H E) v0 v1 v2 v3 v4 v5 v6 v7 v8 v9 v10 v11 v12 v13 fun X => ∀ c m H', H c = none → H m = none → Same H H' → CodeX CC MM H' c X m → Q (.ref c) H'
section
variable {P : Program} {w : World} {K : PySem.W.Frag} {mg : Str → Option Value} {base : Heap} {f : Addr} {fd : FuncData}
abbrev slcode : Stmt := top 46
theorem sclcode : FnScope ["_law_some"] ["_law_some"] (defScope slcode) := ⟨rfl, rfl, rfl, by decide +kernel, rfl, by decide +kernel, by decide +kernel⟩

theorem ok_lcode {CC CN MM : Addr} (T : Txt mg) (M_Code : MkCode P w K mg base CC CN MM) (F : FnP K "_law_code" "_law_code" slcode f fd) : FnOk P w K mg base (CX P w) 6 f fd ["_law_some"] (spLCode CC CN MM) := by
  refine F.ok sclcode (fun vs H Q E h => ?_) (fun cdv A outer s H vs Q E hr h => ?_)
  · obtain ⟨a, v0, v1, v2, v3, v4, v5, v6, v7, v8, v9, v10, v11, v12, v13, rfl, _⟩ := h
    rfl
  · refine ⟨_, pss_one (ps_ret (pe_makE M_Code hr rfl (takes_of rfl rfl rfl rfl) (fun _ _ _ _ z => z) (pa_cons (pe_ix ix_d (pv 0) pe_int (fun _ _ => rfl)) (pa_cons (pe_ix ix_d (pv 0) pe_int (fun _ _ => rfl)) (pa_cons (pe_ix ix_d (pv 0) pe_int (fun _ _ => rfl)) (pa_cons (pe_ix ix_d (pv 0) pe_int (fun _ _ => rfl)) (pa_cons (pe_ix ix_d (pv 0) pe_int (fun _ _ => rfl)) (pa_cons (pe_ix ix_d (pv 0) pe_int (fun _ _ => rfl)) (pa_cons (pe_ix ix_d (pv 0) pe_int (fun _ _ => rfl)) (pa_cons (pe_ix ix_d (pv 0) pe_int (fun _ _ => rfl)) (pa_cons (pe_ix ix_d (pv 0) pe_int (fun _ _ => rfl)) (pa_cons (pe_ix ix_d (pv 0) pe_int (fun _ _ => rfl)) (pa_cons (pe_ix ix_d (pv 0) pe_int (fun _ _ => rfl)) (pa_cons (pe_ix ix_d (pv 0) pe_int (fun _ _ => rfl)) (pa_cons (pe_ix ix_d (pv 0) pe_int (fun _ _ => rfl)) (pa_cons (pe_ix ix_d (pv 0) pe_int (fun _ _ => rfl)) pa_nil)))))))))))))))), ?_⟩
    obtain ⟨a, v0, v1, v2, v3, v4, v5, v6, v7, v8, v9, v10, v11, v12, v13, rfl, ha, h⟩ := h
    show (_ : TS) _ [some (.ref a)] H
    have a0 : atI [v0, v1, v2, v3, v4, v5, v6, v7, v8, v9, v10, v11, v12, v13] 0 = some v0 := atn (i := 0) rfl
    have a1 : atI [v0, v1, v2, v3, v4, v5, v6, v7, v8, v9, v10, v11, v12, v13] 1 = some v1 := atn (i := 1) rfl
    have a2 : atI [v0, v1, v2, v3, v4, v5, v6, v7, v8, v9, v10, v11, v12, v13] 2 = some v2 := atn (i := 2) rfl
    have a3 : atI [v0, v1, v2, v3, v4, v5, v6, v7, v8, v9, v10, v11, v12, v13] 3 = some v3 := atn (i := 3) rfl
    have a4 : atI [v0, v1, v2, v3, v4, v5, v6, v7, v8, v9, v10, v11, v12, v13] 4 = some v4 := atn (i := 4) rfl
    have a5 : atI [v0, v1, v2, v3, v4, v5, v6, v7, v8, v9, v10, v11, v12, v13] 5 = some v5 := atn (i := 5) rfl
    have a6 : atI [v0, v1, v2, v3, v4, v5, v6, v7, v8, v9, v10, v11, v12, v13] 6 = some v6 := atn (i := 6) rfl
    have a7 : atI [v0, v1, v2, v3, v4, v5, v6, v7, v8, v9, v10, v11, v12, v13] 7 = some v7 := atn (i := 7) rfl
    have a8 : atI [v0, v1, v2, v3, v4, v5, v6, v7, v8, v9, v10, v11, v12, v13] 8 = some v8 := atn (i := 8) rfl
    have a9 : atI [v0, v1, v2, v3, v4, v5, v6, v7, v8, v9, v10, v11, v12, v13] 9 = some v9 := atn (i := 9) rfl
    have a10 : atI [v0, v1, v2, v3, v4, v5, v6, v7, v8, v9, v10, v11, v12, v13] 10 = some v10 := atn (i := 10) rfl
    have a11 : atI [v0, v1, v2, v3, v4, v5, v6, v7, v8, v9, v10, v11, v12, v13] 11 = some v11 := atn (i := 11) rfl
    have a12 : atI [v0, v1, v2, v3, v4, v5, v6, v7, v8, v9, v10, v11, v12, v13] 12 = some v12 := atn (i := 12) rfl
    have a13 : atI [v0, v1, v2, v3, v4, v5, v6, v7, v8, v9, v10, v11, v12, v13] 13 = some v13 := atn (i := 13) rfl
    simp only [r_seq, r_next, r_brk, r_cont, r_asg, r_name, r_ret, r_retN, r_drop, r_ifs, r_never, r_var, r_c, r_op, r_un, r_if, r_tst, r_b, r_not, r_and, r_or, r_andV, r_orV, r_notV, r_nil, r_cons, r_tup, r_lst, r_cb, r_call, r_bm, r_bm0, r_sl, r_nopart, r_part, r_rev, r_gnil, r_gcons, r_gsub, r_par, r_aug, r_chain, r_I0, r_I, r_U, r_ixd, r_lend, r_tupd, r_listd, r_sld, r_app, r_ext, r_reverse, r_setl, r_cat, r_int1, r_eqS, r_neS, scal_ii, scal_bb, scal_ss, at0, at1, at2, sq_lst, sq_tup, isLst_lst, List.getElem?_cons_zero, List.getElem?_cons_succ, List.set_cons_zero, List.set_cons_succ, V.int.injEq, V.bl.injEq, V.ref.injEq, V.str.injEq, HO.lst.injEq, HO.tup.injEq, Option.some.injEq, exists_eq_left', exists_eq_left, List.cons.injEq, and_true, true_and, decide_eq_true_eq, reduceCtorEq, false_and, exists_false, or_false, false_or, exists_const, and_assoc, exists_and_left, List.append_nil, ix0, ix1, ix2, cm_mod, cdw1009, cdw2003, cdw7, cdw64, cdw2, cm104729, cm2, cm3, upd_same, List.length_cons, List.length_nil, Int.reduceLT, Int.reduceLE, Nat.reduceAdd, Nat.reduceLeDiff, Nat.reduceLT, Int.reduceToNat, r_for1, r_forL, r_forT, r_lcL, r_lc1, r_yes, r_gtupD, wipe_0, wipe_1, List.cons_append, List.nil_append, r_forS, r_ipI, ite_false, ite_true, Bool.not_true, Bool.not_false, decide_true, decide_false, r_isd, r_islt, cD_ty, cD_ref, tD_non, tD_bl, tD_int, tD_str, tD_ref, tH_lst, tH_tup, tH_dK, tH_ins, ki_self, ki_int_bool, ki_non_int, ki_str_int, ki_lt_lst, ki_lt_tup, r_fld, r_sfld, HO.ins.injEq, cx_K, r_make, ha, a0, a1, a2, a3, a4, a5, a6, a7, a8, a9, a10, a11, a12, a13]
    intro x dx hx hd nd
    have ww : Same H (L2.upd (L2.upd H dx (.own x)) x (.ins CC dx [])) := fun b o e => by
      rw [upd_ne (ne_new e hx), upd_ne (ne_new e hd)]
      exact e
    refine ⟨x, dx, v0, v1, v2, v3, v4, v5, v6, v7, v8, v9, v10, v11, v12, v13, rfl, upd_same, fAll.imp ww (fun f er d H' hdd kk hxd => er d H' (ww.free hdd) (fun b o e => kk b o (ne_new e hx) (ww b o e)) hxd) (fun X k m H' hm kk cx => ⟨rfl, k x m H' hx (ww.free hm) (fun b o e => kk b o (ne_new e hx) (ww b o e)) cx⟩) h⟩
end
end C51

set_option maxHeartbeats 2000000
namespace C51
open PySem PySem.Spec PyProof.Rows L2
/-! ### texts, bytes and constants that are drawn -/
theorem cp_rng {n : Nat} {g : TG} {tt : TT} {te : TE} {vs : List Nat} {σ : L2.St} {A : Addr} {H1 : Hp} {Q : VK} (Pv : Nat → Hp → Prop) (h0 : Pv 0 (L2.upd H1 A (.lst [])))
    (hs : ∀ i H, i < n → Pv i H → g (.int (0 + (i : Nat))) (wipe σ vs) H fun σ2 H2 => wipe σ2 vs = wipe σ vs ∧ tt σ2 H2 fun b H3 =>
      if b = true then te σ2 H3 fun y H4 => ∃ acc, H4 A = some (.lst acc) ∧ acc.length < sizeLine ∧ Pv (i + 1) (L2.upd H4 A (.lst (acc ++ [y]))) else Pv (i + 1) H3) (hd : ∀ H, Pv n H → Q (.ref A) H) :
    CompR (Itr 0 n) g tt te vs σ Q A (L2.upd H1 A (.lst [])) := lc_range Pv h0 hs hd
theorem Src.lst {H : Hp} {a : Addr} (S : Src H a) : ∃ xs, H a = some (.lst xs) := let ⟨_, _, _, e⟩ := S; ⟨_, e⟩
theorem Src.off {H : Hp} {a b : Addr} {o : HO} (S : Src H a) (h : H b = some o) (n : ∀ xs, o ≠ .lst xs) : b ≠ a := fun z => by
  obtain ⟨xs, e⟩ := S.lst
  rw [z, e] at h
  exact n xs (Option.some.inj h).symm
theorem Src.same {H H' : Hp} {a : Addr} (S : Src H a) (s : Same H H') : Src H' a := let ⟨x, y, z, e⟩ := S; ⟨x, y, z, s _ _ e⟩
theorem free_keep {a p : Addr} {H H' : Hp} (S : Src H' a) (k : Keep a H H') (h : H' p = none) : H p = none := by
  cases c : H p with
  | none => rfl
  | some o =>
    rw [k _ _ (S.ne h) c] at h
    cases h
def lettersL : List Str := ["a", "b", "_", " ", "<", "0", "zz", "#"]
def chB (c : Nat) : Bool := decide (c < 128) && (Unicode.isPrintable c && !(c == 37))
/-- texts of such letters, of at most eight -/
def TxtOk (z : Str) : Prop := z.length ≤ 8 ∧ ∀ c ∈ z.cps.toList, chB c = true
theorem okS_of {z : Str} (h1 : z.length ≤ 100000) (h2 : ∀ c ∈ z.cps.toList, chB c = true) : OkS z := by
  have h3 : ∀ c ∈ z.cps.toList, c < 128 ∧ Unicode.isPrintable c = true ∧ c ≠ 37 := fun c hc => by
    have := h2 c hc
    unfold chB at this
    simp only [Bool.and_eq_true, decide_eq_true_eq, Bool.not_eq_true', beq_eq_false_iff_ne] at this
    exact this
  refine ⟨?_, h1, .inr ⟨?_, fun c hc => (h3 c hc).1, ?_⟩⟩
  · unfold Txt.isascii
    rw [← Array.all_toList]
    exact List.all_eq_true.mpr fun c hc => by simpa using (h3 c hc).1
  · unfold Txt.isprintable
    rw [← Array.all_toList]
    exact List.all_eq_true.mpr fun c hc => (h3 c hc).2.1
  · unfold PySem.W.KSb.codes
    cases q : (z.cps.toList.map fun c => ((c : Nat) : Int)).contains 37 with
    | false => rfl
    | true =>
      obtain ⟨c, hc, e⟩ := List.mem_map.mp (List.contains_iff_mem.mp q)
      exact absurd (by omega : c = 37) (h3 c hc).2.2
theorem TxtOk.ok {z : Str} (h : TxtOk z) : OkS z := okS_of (Nat.le_trans h.1 (by decide)) h.2
theorem joinL_mem {p : Nat → Prop} : ∀ {l : List (List Nat)}, (∀ x ∈ l, ∀ c ∈ x, p c) → ∀ c ∈ TL.joinL [] l, p c
  | [], _, c, h => by cases h
  | [x], hl, c, h => hl x List.mem_cons_self c h
  | x :: y :: r, hl, c, h => by
    rcases List.mem_append.mp (show c ∈ x ++ ([] ++ TL.joinL [] (y :: r)) from h) with h | h
    · exact hl x List.mem_cons_self c h
    · exact joinL_mem (fun z hz => hl z (List.mem_cons_of_mem _ hz)) c h
theorem joinL_len : ∀ {l : List (List Nat)}, (∀ x ∈ l, x.length ≤ 2) → (TL.joinL [] l).length ≤ 2 * l.length
  | [], _ => Nat.le_refl 0
  | [x], hl => hl x List.mem_cons_self
  | x :: y :: r, hl => by
    have h1 := hl x List.mem_cons_self
    have h2 := joinL_len (l := y :: r) fun z hz => hl z (List.mem_cons_of_mem _ hz)
    show (x ++ ([] ++ TL.joinL [] (y :: r))).length ≤ _
    rw [List.length_append, List.nil_append, List.length_cons]
    omega
theorem letters_ok : lettersL.all (fun z => decide (z.cps.toList.length ≤ 2) && z.cps.toList.all chB) = true := by decide +kernel
theorem join_ok {l : List Str} (h : ∀ x ∈ l, x ∈ lettersL) (hl : l.length ≤ 4) : TxtOk (Txt.join "" l) := by
  have e : TL.tl (Txt.join "" l) = TL.joinL [] (l.map TL.tl) := by
    show TL.tl (Builtin.Str.glued "" l) = _
    rw [StrLaws.glued_eq_join, TL.tl_join]
    rfl
  have f : ∀ x ∈ l, x.cps.toList.length ≤ 2 ∧ ∀ c ∈ x.cps.toList, chB c = true := fun x hx => by
    have := List.all_eq_true.mp letters_ok x (h x hx)
    rw [Bool.and_eq_true] at this
    exact ⟨of_decide_eq_true this.1, fun c hc => List.all_eq_true.mp this.2 c hc⟩
  refine ⟨?_, ?_⟩
  · rw [TL.len_tl, e]
    have := joinL_len (l := l.map TL.tl) fun x hx => by
      obtain ⟨y, hy, rfl⟩ := List.mem_map.mp hx
      exact (f y hy).1
    rw [List.length_map] at this
    omega
  · show ∀ c ∈ TL.tl (Txt.join "" l), _
    rw [e]
    exact joinL_mem fun x hx => by
      obtain ⟨y, hy, rfl⟩ := List.mem_map.mp hx
      exact (f y hy).2
theorem sum_two : ∀ {l : List Str}, (∀ x ∈ l, x.length ≤ 2) → (l.map (fun x => x.length)).sum ≤ 2 * l.length
  | [], _ => Nat.le_refl 0
  | x :: l, f => by
    have h1 := f x List.mem_cons_self
    have h2 := sum_two fun z hz => f z (List.mem_cons_of_mem _ hz)
    rw [List.map_cons, List.sum_cons, List.length_cons]
    omega
theorem r_m1 {r : V → List V → Hp → VK → Prop} {to te : TE} {σ : L2.St} {H : Hp} {Q : VK} : tM1 r to te σ H Q = to σ H (fun x H1 => (∃ a, x = .str a) ∧ te σ H1 fun y H2 => r x [y] H2 Q) := rfl
def spText : Sp := fun vs H Q _ => ∃ a : Addr, vs = [.ref a] ∧ Src H a ∧ ∀ z H', TxtOk z → Keep a H H' → Src H' a → Q (.str z) H'
section
variable {P : Program} {w : World} {K : PySem.W.Frag} {mg : Str → Option Value} {base : Heap} {f : Addr} {fd : FuncData}
abbrev stext : Stmt := top 48
theorem sctext : FnScope ["_law_source", "_law_k"] ["_law_source"] (defScope stext) := ⟨rfl, rfl, rfl, by decide +kernel, rfl, by decide +kernel, by decide +kernel⟩

theorem ok_text (T : Txt mg) (F : FnP K "_law_text" "_law_text" stext f fd) (C_next : Cal P w K mg base 1 "_law_next" ["_law_source", "_law_many"] spNext) (C_one : Cal P w K mg base 2 "_law_one" ["_law_source", "_law_some"] spOne) : FnOk P w K mg base CX0 3 f fd ["_law_source"] spText := by
  refine F.ok sctext (fun vs H Q E h => ?_) (fun cdv A outer s H vs Q E hr h => ?_)
  · obtain ⟨a, rfl, _⟩ := h
    rfl
  · obtain ⟨a, rfl, hS, k⟩ := h
    refine ⟨_, PSs.nox (pss_one (ps_ret (pe_join pe_str (pe_lc (own := [("_law_k", 1)]) (g := gName 1) (tt := tYes) rfl sctext.nd (pi_range1 rfl T.b_range (pa_cons (pe_cal C_next (hr.mono (by decide)) rfl (pa_cons (pv 0) (pa_cons pe_int pa_nil))) pa_nil)) (blkOk_by (own := [("_law_k", 1)]) (N := ["_law_source", "_law_k"]) (sc := defScope stext) (by decide +kernel)) (fun _ _ _ _ _ => (pg_name (i := 1) sctext.nd rfl (Or.inl rfl))) (fun _ _ _ _ _ => pts_nil) (fun _ _ _ _ _ => (pe_cal C_one (hr.mono (by decide)) rfl (pa_cons (pv 0) (pa_cons (pe_lst (pa_cons pe_str (pa_cons pe_str (pa_cons pe_str (pa_cons pe_str (pa_cons pe_str (pa_cons pe_str (pa_cons pe_str (pa_cons pe_str pa_nil))))))))) pa_nil)))))))), ?_⟩
    show (_ : TS) _ [some (.ref a), none] H
    simp only [r_seq, r_next, r_brk, r_cont, r_asg, r_name, r_ret, r_retN, r_drop, r_ifs, r_never, r_var, r_c, r_op, r_un, r_if, r_tst, r_b, r_not, r_and, r_or, r_andV, r_orV, r_notV, r_nil, r_cons, r_tup, r_lst, r_cb, r_call, r_bm, r_bm0, r_sl, r_nopart, r_part, r_rev, r_gnil, r_gcons, r_gsub, r_par, r_aug, r_chain, r_I0, r_I, r_U, r_ixd, r_lend, r_tupd, r_listd, r_sld, r_app, r_ext, r_reverse, r_setl, r_cat, r_int1, r_eqS, r_neS, scal_ii, scal_bb, scal_ss, at0, at1, at2, sq_lst, sq_tup, isLst_lst, List.getElem?_cons_zero, List.getElem?_cons_succ, List.set_cons_zero, List.set_cons_succ, V.int.injEq, V.bl.injEq, V.ref.injEq, V.str.injEq, HO.lst.injEq, HO.tup.injEq, Option.some.injEq, exists_eq_left', exists_eq_left, List.cons.injEq, and_true, true_and, decide_eq_true_eq, reduceCtorEq, false_and, exists_false, or_false, false_or, exists_const, and_assoc, exists_and_left, List.append_nil, ix0, ix1, ix2, cm_mod, cdw1009, cdw2003, cdw7, cdw64, cdw2, cm104729, cm2, cm3, upd_same, List.length_cons, List.length_nil, Int.reduceLT, Int.reduceLE, Nat.reduceAdd, Nat.reduceLeDiff, Nat.reduceLT, Int.reduceToNat, r_for1, r_forL, r_forT, r_lcL, r_lc1, r_yes, r_gtupD, wipe_0, wipe_1, List.cons_append, List.nil_append, r_forS, r_ipI, ite_false, ite_true, Bool.not_true, Bool.not_false, decide_true, decide_false, r_isd, r_islt, cD_ty, cD_ref, tD_non, tD_bl, tD_int, tD_str, tD_ref, tH_lst, tH_tup, tH_dK, tH_ins, ki_self, ki_int_bool, ki_non_int, ki_str_int, ki_lt_lst, ki_lt_tup, r_fld, r_sfld, HO.ins.injEq, cx_K, r_m1]
    refine ⟨⟨_, rfl⟩, a, 5, rfl, hS, by decide, by decide, fun n H1 b1 b2 k1 S1 => ⟨n, rfl, by omega, by omega, fun D hD => ?_⟩⟩
    have Da : D ≠ a := S1.ne hD
    refine cp_rng (n := n.toNat) (fun i H' => Keep a H1 H' ∧ Src H' a ∧ ∃ l : List Str, l.length = i ∧ (∀ x ∈ l, x ∈ lettersL) ∧ H' D = some (.lst (l.map V.str))) ⟨(Keep.refl a H1).new hD, S1.new hD, [], rfl, (fun x (h : x ∈ []) => nomatch h), upd_same⟩ ?_ ?_
    · rintro i H2 hi ⟨k2, S2, l, hl, hm, hD2⟩
      refine ⟨rfl, ?_⟩
      simp only [r_seq, r_next, r_brk, r_cont, r_asg, r_name, r_ret, r_retN, r_drop, r_ifs, r_never, r_var, r_c, r_op, r_un, r_if, r_tst, r_b, r_not, r_and, r_or, r_andV, r_orV, r_notV, r_nil, r_cons, r_tup, r_lst, r_cb, r_call, r_bm, r_bm0, r_sl, r_nopart, r_part, r_rev, r_gnil, r_gcons, r_gsub, r_par, r_aug, r_chain, r_I0, r_I, r_U, r_ixd, r_lend, r_tupd, r_listd, r_sld, r_app, r_ext, r_reverse, r_setl, r_cat, r_int1, r_eqS, r_neS, scal_ii, scal_bb, scal_ss, at0, at1, at2, sq_lst, sq_tup, isLst_lst, List.getElem?_cons_zero, List.getElem?_cons_succ, List.set_cons_zero, List.set_cons_succ, V.int.injEq, V.bl.injEq, V.ref.injEq, V.str.injEq, HO.lst.injEq, HO.tup.injEq, Option.some.injEq, exists_eq_left', exists_eq_left, List.cons.injEq, and_true, true_and, decide_eq_true_eq, reduceCtorEq, false_and, exists_false, or_false, false_or, exists_const, and_assoc, exists_and_left, List.append_nil, ix0, ix1, ix2, cm_mod, cdw1009, cdw2003, cdw7, cdw64, cdw2, cm104729, cm2, cm3, upd_same, List.length_cons, List.length_nil, Int.reduceLT, Int.reduceLE, Nat.reduceAdd, Nat.reduceLeDiff, Nat.reduceLT, Int.reduceToNat, r_for1, r_forL, r_forT, r_lcL, r_lc1, r_yes, r_gtupD, wipe_0, wipe_1, List.cons_append, List.nil_append, r_forS, r_ipI, ite_false, ite_true, Bool.not_true, Bool.not_false, decide_true, decide_false, r_isd, r_islt, cD_ty, cD_ref, tD_non, tD_bl, tD_int, tD_str, tD_ref, tH_lst, tH_tup, tH_dK, tH_ins, ki_self, ki_int_bool, ki_non_int, ki_str_int, ki_lt_lst, ki_lt_tup, r_fld, r_sfld, HO.ins.injEq, cx_K, List.map_cons, List.map_nil]
      refine ⟨szl (by decide : 8 ≤ 1000), fun p hp => ⟨a, p, _, rfl, S2.new hp, S2.ne hp, upd_same, by simp, (by simp : _ ≤ 1000), fun v H3 hv k3 S3 => ?_⟩⟩
      obtain ⟨z, hz, rfl⟩ : ∃ z ∈ lettersL, v = .str z := by
        have : v ∈ lettersL.map V.str := hv
        obtain ⟨z, hz, e⟩ := List.mem_map.mp this
        exact ⟨z, hz, e.symm⟩
      have k13 : Keep a H2 H3 := ((Keep.refl a H2).new hp).trans k3
      have hD3 := k13 _ _ Da hD2
      refine ⟨_, hD3, Nat.lt_of_le_of_lt (by rw [List.length_map]; omega : _ ≤ 1000) (by decide), fun y o ny e => ?_, ?_, l ++ [z], by rw [List.length_append, hl]; rfl, fun x hx => ?_, by rw [List.map_append]; rfl⟩
      · rw [upd_ne (ne_new e hD)]
        exact k13 y o ny (k2 y o ny e)
      · obtain ⟨x1, x2, x3, e⟩ := S3
        exact ⟨x1, x2, x3, by rw [upd_ne Da.symm]; exact e⟩
      · rcases List.mem_append.mp hx with hx | hx
        · exact hm x hx
        · rw [List.mem_singleton.mp hx]
          exact hz
    · rintro H2 ⟨k2, S2, l, hl, hm, hD2⟩
      have tok := join_ok hm (by omega)
      refine ⟨D, rfl, l, .inl (SqL.of hD2), ?_, k _ H2 tok (k1.trans k2) S2⟩
      have : (l.map (fun x => x.length)).sum ≤ 2 * l.length := by
        have f : ∀ x ∈ l, x.length ≤ 2 := fun x hx => by
          have := List.all_eq_true.mp letters_ok x (hm x hx)
          rw [Bool.and_eq_true] at this
          have h2 := of_decide_eq_true this.1
          rw [TL.len_tl]
          exact h2
        exact sum_two f
      have l0 : ("" : Str).length = 0 := by decide +kernel
      rw [show (Str.ofString "").length = 0 from l0]
      omega
end
end C51

set_option maxHeartbeats 2000000
namespace C51
open PySem PySem.Spec PyProof.Rows L2
/-! ### what stays, whatever is done to lists and tables -/
structure Mo (H H' : Hp) : Prop where
  ob : ∀ b o, H b = some o → (∀ u, o ≠ .tbl u) → (∀ xs, o ≠ .lst xs) → H' b = some o
  ls : ∀ b xs, H b = some (.lst xs) → ∃ ys, H' b = some (.lst ys)
theorem Src.off' {a b : Addr} {H : Hp} {o : HO} (S : Src H a) (e : H b = some o) (n : ∀ xs, o ≠ .lst xs) : b ≠ a := fun z => by
  obtain ⟨_, _, _, q⟩ := S
  rw [z, q] at e
  exact n _ (Option.some.inj e).symm
section
variable {H H' : Hp}
theorem Mo.refl (H : Hp) : Mo H H := ⟨fun _ _ e _ _ => e, fun _ xs e => ⟨xs, e⟩⟩
theorem Mo.same (s : Same H H') : Mo H H' := ⟨fun b o e _ _ => s b o e, fun b xs e => ⟨xs, s b _ e⟩⟩
theorem Mo.keep {a : Addr} (S : Src H a) (S' : Src H' a) (s : Keep a H H') : Mo H H' := ⟨fun b o e _ n => s b o (S.off' e n) e, fun b xs e => by
  by_cases c : b = a
  · subst c
    obtain ⟨_, _, _, q⟩ := S'
    exact ⟨_, q⟩
  · exact ⟨xs, s b _ c e⟩⟩
theorem Mo.upd {b : Addr} {xs ys : List V} (h : H b = some (.lst xs)) : Mo H (L2.upd H b (.lst ys)) := ⟨fun c o e _ n => by
  rw [upd_ne (fun z => by rw [z, h] at e; exact n _ (Option.some.inj e).symm)]
  exact e, fun c zs e => by
  by_cases q : c = b
  · subst q
    exact ⟨ys, upd_same⟩
  · exact ⟨zs, by rw [upd_ne q]; exact e⟩⟩
theorem Mo.tup {b : Addr} {xs : List V} (m : Mo H H') (h : H b = some (.tup xs)) : H' b = some (.tup xs) := m.ob b _ h (fun _ z => nomatch z) fun _ z => nomatch z
theorem Mo.ins {b C dx : Addr} {fs : List (Str × V)} (m : Mo H H') (h : H b = some (.ins C dx fs)) : H' b = some (.ins C dx fs) := m.ob b _ h (fun _ z => nomatch z) fun _ z => nomatch z
theorem Mo.trans {H2 : Hp} (m : Mo H H') (n : Mo H' H2) : Mo H H2 := ⟨fun b o e u v => n.ob b o (m.ob b o e u v) u v, fun b xs e => let ⟨ys, q⟩ := m.ls b xs e; n.ls b ys q⟩
end
/-! ### constants, as values -/
inductive CV where
  | non
  | bl (b : Bool)
  | int (i : Int)
  | str (z : Str)
  | tup (xs : List CV)
mutual
def szC : CV → Nat
  | .tup xs => szCs xs + 1
  | .non => 1
  | .bl _ => 1
  | .int _ => 1
  | .str _ => 1
def szCs : List CV → Nat
  | [] => 0
  | x :: xs => szC x + szCs xs
end
mutual
/-- nested at most so deep, of texts that a code may have -/
def kOk : CV → Nat → Prop
  | .tup xs, k => ∃ j, k = j + 1 ∧ kOks xs j
  | .str z, _ => OkS z
  | .non, _ => True
  | .bl _, _ => True
  | .int _, _ => True
def kOks : List CV → Nat → Prop
  | [], _ => True
  | x :: xs, k => kOk x k ∧ kOks xs k
end
mutual
/-- all numbers in it are of at most so many bits, all texts of at most so many signs -/
def bOk (b : Nat) : CV → Prop
  | .tup xs => xs.length ≤ b ∧ bOks b xs
  | .str z => z.length ≤ b
  | .non => True
  | .bl _ => True
  | .int i => -(2 ^ b : Int) ≤ i ∧ i ≤ 2 ^ b
def bOks (b : Nat) : List CV → Prop
  | [] => True
  | x :: xs => bOk b x ∧ bOks b xs
end
mutual
inductive Rc (H : Hp) : V → CV → Prop
  | non : Rc H .non .non
  | bl (b : Bool) : Rc H (.bl b) (.bl b)
  | int (i : Int) : Rc H (.int i) (.int i)
  | str (z : Str) : Rc H (.str z) (.str z)
  | tup {a : Addr} {vs : List V} {xs : List CV} (h : H a = some (.tup vs)) (t : Rcs H vs xs) : Rc H (.ref a) (.tup xs)
inductive Rcs (H : Hp) : List V → List CV → Prop
  | nil : Rcs H [] []
  | cons {v : V} {vs : List V} {x : CV} {xs : List CV} (h : Rc H v x) (t : Rcs H vs xs) : Rcs H (v :: vs) (x :: xs)
end
section
variable {H H' : Hp}
mutual
theorem Rc.mo (m : Mo H H') : ∀ {v : V} {x : CV}, Rc H v x → Rc H' v x
  | _, _, .non => .non
  | _, _, .bl b => .bl b
  | _, _, .int i => .int i
  | _, _, .str z => .str z
  | _, _, .tup h t => .tup (m.tup h) (Rcs.mo m t)
theorem Rcs.mo (m : Mo H H') : ∀ {vs : List V} {xs : List CV}, Rcs H vs xs → Rcs H' vs xs
  | _, _, .nil => .nil
  | _, _, .cons h t => .cons (Rc.mo m h) (Rcs.mo m t)
end
mutual
theorem Rc.kv : ∀ {v : V} {x : CV} {k : Nat}, Rc H v x → kOk x k → KV H k v (szC x) true
  | _, _, k, .non, _ => .non k
  | _, _, k, .bl b, _ => .bl k b
  | _, _, k, .int i, _ => .int k i
  | _, _, k, .str z, h => .str (.ok z (by simpa [kOk] using h))
  | _, _, k, .tup e t, h => by
    unfold kOk at h
    obtain ⟨j, rfl, h⟩ := h
    unfold szC
    exact .tup e (Rcs.kv t h)
theorem Rcs.kv : ∀ {vs : List V} {xs : List CV} {k : Nat}, Rcs H vs xs → kOks xs k → KVs H k vs (szCs xs) true
  | _, _, k, .nil, _ => by
    unfold szCs
    exact .nil k
  | _, _, k, .cons h t, q => by
    unfold kOks at q
    unfold szCs
    exact .cons (b := true) (c := true) (Rc.kv h q.1) (Rcs.kv t q.2)
end
theorem Rcs.length : ∀ {vs : List V} {xs : List CV}, Rcs H vs xs → vs.length = xs.length
  | _, _, .nil => rfl
  | _, _, .cons _ t => by rw [List.length_cons, List.length_cons, Rcs.length t]
theorem Rcs.snoc : ∀ {vs : List V} {xs : List CV} {v : V} {x : CV}, Rcs H vs xs → Rc H v x → Rcs H (vs ++ [v]) (xs ++ [x])
  | _, _, _, _, .nil, h => .cons h .nil
  | _, _, _, _, .cons g t, h => .cons g (Rcs.snoc t h)
theorem Rcs.app : ∀ {vs ws : List V} {xs ys : List CV}, Rcs H vs xs → Rcs H ws ys → Rcs H (vs ++ ws) (xs ++ ys)
  | _, _, _, _, .nil, h => h
  | _, _, _, _, .cons g t, h => .cons g (Rcs.app t h)
end
mutual
theorem kOk.mono : ∀ {x : CV} {k l : Nat}, kOk x k → k ≤ l → kOk x l
  | .non, _, _, _, _ => by unfold kOk; trivial
  | .bl _, _, _, _, _ => by unfold kOk; trivial
  | .int _, _, _, _, _ => by unfold kOk; trivial
  | .str z, _, _, h, _ => by
    unfold kOk at h ⊢
    exact h
  | .tup xs, k, l, h, e => by
    unfold kOk at h ⊢
    obtain ⟨j, rfl, h⟩ := h
    exact ⟨l - 1, by omega, kOks.mono h (by omega)⟩
theorem kOks.mono : ∀ {xs : List CV} {k l : Nat}, kOks xs k → k ≤ l → kOks xs l
  | [], _, _, _, _ => by unfold kOks; trivial
  | x :: xs, k, l, h, e => by
    unfold kOks at h ⊢
    exact ⟨kOk.mono h.1 e, kOks.mono h.2 e⟩
end
theorem szC_pos : ∀ x : CV, 1 ≤ szC x
  | .tup xs => by unfold szC; omega
  | .non => by unfold szC; omega
  | .bl _ => by unfold szC; omega
  | .int _ => by unfold szC; omega
  | .str _ => by unfold szC; omega
theorem kOks_iff {xs : List CV} {k : Nat} : kOks xs k ↔ ∀ x ∈ xs, kOk x k := by
  induction xs with
  | nil => simp [kOks]
  | cons x xs ih => simp [kOks, ih]
theorem bOks_iff {xs : List CV} {b : Nat} : bOks b xs ↔ ∀ x ∈ xs, bOk b x := by
  induction xs with
  | nil => simp [bOks]
  | cons x xs ih => simp [bOks, ih]
theorem szCs_le {xs : List CV} {m : Nat} (h : ∀ x ∈ xs, szC x ≤ m) : szCs xs ≤ xs.length * m := by
  induction xs with
  | nil => simp [szCs]
  | cons x xs ih =>
    have := h x List.mem_cons_self
    have := ih fun y hy => h y (List.mem_cons_of_mem _ hy)
    unfold szCs
    rw [List.length_cons, Nat.succ_mul]
    omega
/-- a constant of at most so deep, of at most so much -/
def CD (H : Hp) (d : Nat) (v : V) : Prop := ∃ x, Rc H v x ∧ szC x ≤ 4 ^ d ∧ kOk x (d + 1) ∧ bOk 200 x
theorem CD.mo {H H' : Hp} {d : Nat} {v : V} (m : Mo H H') (h : CD H d v) : CD H' d v := let ⟨x, h1, h2⟩ := h; ⟨x, h1.mo m, h2⟩
theorem CD.list {H : Hp} {d : Nat} : ∀ {vs : List V}, (∀ v ∈ vs, CD H d v) → ∃ xs, Rcs H vs xs ∧ ∀ x ∈ xs, szC x ≤ 4 ^ d ∧ kOk x (d + 1) ∧ bOk 200 x
  | [], _ => ⟨[], .nil, fun x h => nomatch h⟩
  | v :: vs, h => by
    obtain ⟨x, h1, h2⟩ := h v List.mem_cons_self
    obtain ⟨xs, g1, g2⟩ := CD.list fun y hy => h y (List.mem_cons_of_mem _ hy)
    refine ⟨x :: xs, .cons h1 g1, fun y hy => ?_⟩
    rcases List.mem_cons.mp hy with rfl | hy
    · exact h2
    · exact g2 y hy
theorem CD.leafN {H : Hp} {d : Nat} : CD H d .non := ⟨.non, .non, by unfold szC; exact Nat.one_le_pow _ _ (by decide), by unfold kOk; trivial, by unfold bOk; trivial⟩
theorem CD.leafB {H : Hp} {d : Nat} {b : Bool} : CD H d (.bl b) := ⟨.bl b, .bl b, by unfold szC; exact Nat.one_le_pow _ _ (by decide), by unfold kOk; trivial, by unfold bOk; trivial⟩
theorem CD.leafI {H : Hp} {d : Nat} {i : Int} (h : -(2 ^ 200 : Int) ≤ i ∧ i ≤ 2 ^ 200) : CD H d (.int i) := ⟨.int i, .int i, by unfold szC; exact Nat.one_le_pow _ _ (by decide), by unfold kOk; trivial, by unfold bOk; exact h⟩
theorem CD.leafS {H : Hp} {d : Nat} {z : Str} (h : TxtOk z) : CD H d (.str z) := ⟨.str z, .str z, by unfold szC; exact Nat.one_le_pow _ _ (by decide), by unfold kOk; exact h.ok, by unfold bOk; exact Nat.le_trans h.1 (by decide)⟩
theorem CD.tup {H : Hp} {d : Nat} {a : Addr} {vs : List V} (h : H a = some (.tup vs)) (hl : vs.length ≤ 3) (hv : ∀ v ∈ vs, CD H d v) : CD H (d + 1) (.ref a) := by
  obtain ⟨xs, g1, g2⟩ := CD.list hv
  have l := g1.length
  refine ⟨.tup xs, .tup h g1, ?_, ?_, ?_⟩
  · unfold szC
    have h1 := szCs_le (m := 4 ^ d) fun x hx => (g2 x hx).1
    have h2 := Nat.mul_le_mul_right (4 ^ d) (show xs.length ≤ 3 by omega)
    have h3 : 1 ≤ 4 ^ d := Nat.one_le_pow _ _ (by decide)
    rw [Nat.pow_succ]
    omega
  · unfold kOk
    exact ⟨d + 1, rfl, kOks_iff.mpr fun x hx => (g2 x hx).2.1⟩
  · unfold bOk
    exact ⟨by omega, bOks_iff.mpr fun x hx => (g2 x hx).2.2⟩
end C51

set_option maxHeartbeats 2000000
namespace C51
open PySem PySem.Spec PyProof.Rows L2
/-! ### bytes and constants that are drawn -/
def spLBytes : Sp := fun vs H Q _ => ∃ (a : Addr) (m : Nat), vs = [.ref a, .int (m : Int)] ∧ m ≤ 100 ∧ Src H a ∧ ∀ (p : Addr) (ns : List Nat) H', H p = none → ns.length ≤ m → (∀ n ∈ ns, n < 256) → Keep a H H' → Src H' a → H' p = some (.tup (vn ns)) → Q (.ref p) H'
def spConst (d : Nat) : Sp := fun vs H Q _ => ∃ a : Addr, vs = [.ref a, .int (d : Int)] ∧ Src H a ∧ ∀ (v : V) H', Keep a H H' → Src H' a → CD H' d v → Q v H'
section
variable {P : Program} {w : World} {K : PySem.W.Frag} {mg : Str → Option Value} {base : Heap} {f : Addr} {fd : FuncData}
abbrev slbytes : Stmt := top 49
theorem sclbytes : FnScope ["_law_source", "_law_most", "_law_k"] ["_law_source", "_law_most"] (defScope slbytes) := ⟨rfl, rfl, rfl, by decide +kernel, rfl, by decide +kernel, by decide +kernel⟩

abbrev sconst : Stmt := top 50
theorem scconst : FnScope ["_law_source", "_law_deep", "_law_some", "_law_k"] ["_law_source", "_law_deep"] (defScope sconst) := ⟨rfl, rfl, rfl, by decide +kernel, rfl, by decide +kernel, by decide +kernel⟩

theorem ok_lbytes (T : Txt mg) (F : FnP K "_law_bytes" "_law_bytes" slbytes f fd) (C_next : Cal P w K mg base 1 "_law_next" ["_law_source", "_law_many"] spNext) (C_one : Cal P w K mg base 2 "_law_one" ["_law_source", "_law_some"] spOne) : FnOk P w K mg base CX0 3 f fd ["_law_source", "_law_most"] spLBytes := by
  refine F.ok sclbytes (fun vs H Q E h => ?_) (fun cdv A outer s H vs Q E hr h => ?_)
  · obtain ⟨a, m, rfl, _⟩ := h
    rfl
  · obtain ⟨a, m, rfl, hm, hS, k⟩ := h
    refine ⟨_, PSs.nox (pss_one (ps_ret (pe_callTy call_tuple_d (by rfl) T.b_tuple (by decide +kernel) (pa_cons (pe_lc (own := [("_law_k", 2)]) (g := gName 2) (tt := tYes) rfl sclbytes.nd (pi_range1 rfl T.b_range (pa_cons (pe_cal C_next (hr.mono (by decide)) rfl (pa_cons (pv 0) (pa_cons (pe_op op_add (pv 1) pe_int) pa_nil))) pa_nil)) (blkOk_by (own := [("_law_k", 2)]) (N := ["_law_source", "_law_most", "_law_k"]) (sc := defScope slbytes) (by decide +kernel)) (fun _ _ _ _ _ => (pg_name (i := 2) sclbytes.nd rfl (Or.inl rfl))) (fun _ _ _ _ _ => pts_nil) (fun _ _ _ _ _ => (pe_cal C_one (hr.mono (by decide)) rfl (pa_cons (pv 0) (pa_cons (pe_lst (pa_cons pe_int (pa_cons pe_int (pa_cons (pe_cal C_next (hr.mono (by decide)) rfl (pa_cons (pv 0) (pa_cons pe_int pa_nil))) pa_nil)))) pa_nil))))) pa_nil)))), ?_⟩
    show (_ : TS) _ [some (.ref a), some (.int (m : Int)), none] H
    simp only [r_seq, r_next, r_brk, r_cont, r_asg, r_name, r_ret, r_retN, r_drop, r_ifs, r_never, r_var, r_c, r_op, r_un, r_if, r_tst, r_b, r_not, r_and, r_or, r_andV, r_orV, r_notV, r_nil, r_cons, r_tup, r_lst, r_cb, r_call, r_bm, r_bm0, r_sl, r_nopart, r_part, r_rev, r_gnil, r_gcons, r_gsub, r_par, r_aug, r_chain, r_I0, r_I, r_U, r_ixd, r_lend, r_tupd, r_listd, r_sld, r_app, r_ext, r_reverse, r_setl, r_cat, r_int1, r_eqS, r_neS, scal_ii, scal_bb, scal_ss, at0, at1, at2, sq_lst, sq_tup, isLst_lst, List.getElem?_cons_zero, List.getElem?_cons_succ, List.set_cons_zero, List.set_cons_succ, V.int.injEq, V.bl.injEq, V.ref.injEq, V.str.injEq, HO.lst.injEq, HO.tup.injEq, Option.some.injEq, exists_eq_left', exists_eq_left, List.cons.injEq, and_true, true_and, decide_eq_true_eq, reduceCtorEq, false_and, exists_false, or_false, false_or, exists_const, and_assoc, exists_and_left, List.append_nil, ix0, ix1, ix2, cm_mod, cdw1009, cdw2003, cdw7, cdw64, cdw2, cm104729, cm2, cm3, upd_same, List.length_cons, List.length_nil, Int.reduceLT, Int.reduceLE, Nat.reduceAdd, Nat.reduceLeDiff, Nat.reduceLT, Int.reduceToNat, r_for1, r_forL, r_forT, r_lcL, r_lc1, r_yes, r_gtupD, wipe_0, wipe_1, List.cons_append, List.nil_append, r_forS, r_ipI, ite_false, ite_true, Bool.not_true, Bool.not_false, decide_true, decide_false, r_isd, r_islt, cD_ty, cD_ref, tD_non, tD_bl, tD_int, tD_str, tD_ref, tH_lst, tH_tup, tH_dK, tH_ins, ki_self, ki_int_bool, ki_non_int, ki_str_int, ki_lt_lst, ki_lt_tup, r_fld, r_sfld, HO.ins.injEq, cx_K]
    refine ⟨a, _, rfl, hS, by omega, by omega, fun n H1 b1 b2 k1 S1 => ⟨n, rfl, by omega, by omega, fun D hD => ?_⟩⟩
    have Da : D ≠ a := S1.ne hD
    refine cp_rng (n := n.toNat) (fun i H' => Keep a H1 H' ∧ Src H' a ∧ ∃ ns : List Nat, ns.length = i ∧ (∀ x ∈ ns, x < 256) ∧ H' D = some (.lst (vn ns))) ⟨(Keep.refl a H1).new hD, S1.new hD, [], rfl, (fun x (h : x ∈ []) => nomatch h), upd_same⟩ ?_ ?_
    · rintro i H2 hi ⟨k2, S2, ns, hl, hb, hD2⟩
      refine ⟨rfl, ?_⟩
      simp only [r_seq, r_next, r_brk, r_cont, r_asg, r_name, r_ret, r_retN, r_drop, r_ifs, r_never, r_var, r_c, r_op, r_un, r_if, r_tst, r_b, r_not, r_and, r_or, r_andV, r_orV, r_notV, r_nil, r_cons, r_tup, r_lst, r_cb, r_call, r_bm, r_bm0, r_sl, r_nopart, r_part, r_rev, r_gnil, r_gcons, r_gsub, r_par, r_aug, r_chain, r_I0, r_I, r_U, r_ixd, r_lend, r_tupd, r_listd, r_sld, r_app, r_ext, r_reverse, r_setl, r_cat, r_int1, r_eqS, r_neS, scal_ii, scal_bb, scal_ss, at0, at1, at2, sq_lst, sq_tup, isLst_lst, List.getElem?_cons_zero, List.getElem?_cons_succ, List.set_cons_zero, List.set_cons_succ, V.int.injEq, V.bl.injEq, V.ref.injEq, V.str.injEq, HO.lst.injEq, HO.tup.injEq, Option.some.injEq, exists_eq_left', exists_eq_left, List.cons.injEq, and_true, true_and, decide_eq_true_eq, reduceCtorEq, false_and, exists_false, or_false, false_or, exists_const, and_assoc, exists_and_left, List.append_nil, ix0, ix1, ix2, cm_mod, cdw1009, cdw2003, cdw7, cdw64, cdw2, cm104729, cm2, cm3, upd_same, List.length_cons, List.length_nil, Int.reduceLT, Int.reduceLE, Nat.reduceAdd, Nat.reduceLeDiff, Nat.reduceLT, Int.reduceToNat, r_for1, r_forL, r_forT, r_lcL, r_lc1, r_yes, r_gtupD, wipe_0, wipe_1, List.cons_append, List.nil_append, r_forS, r_ipI, ite_false, ite_true, Bool.not_true, Bool.not_false, decide_true, decide_false, r_isd, r_islt, cD_ty, cD_ref, tD_non, tD_bl, tD_int, tD_str, tD_ref, tH_lst, tH_tup, tH_dK, tH_ins, ki_self, ki_int_bool, ki_non_int, ki_str_int, ki_lt_lst, ki_lt_tup, r_fld, r_sfld, HO.ins.injEq, cx_K, List.map_cons, List.map_nil]
      refine ⟨a, 256, rfl, S2, by decide, by decide, fun n2 H3 c1 c2 k3 S3 => ⟨szl (by decide : 3 ≤ 1000), fun p hp => ⟨a, p, _, rfl, S3.new hp, S3.ne hp, upd_same, by simp, (by simp : _ ≤ 1000), fun v H4 hv k4 S4 => ?_⟩⟩⟩
      obtain ⟨z, hz, rfl⟩ : ∃ z : Nat, z < 256 ∧ v = .int (z : Int) := by
        simp only [List.mem_cons, List.not_mem_nil, or_false] at hv
        rcases hv with e | e | e
        · exact ⟨0, by decide, e⟩
        · exact ⟨255, by decide, e⟩
        · exact ⟨n2.toNat, by omega, by rw [e]; congr 1; omega⟩
      have k24 : Keep a H2 H4 := (k3.new hp).trans k4
      have hD4 := k24 _ _ Da hD2
      refine ⟨_, hD4, Nat.lt_of_le_of_lt (by rw [vn_len]; omega : _ ≤ 1000) (by decide), fun y o ny e => ?_, ?_, ns ++ [z], by rw [List.length_append, hl]; rfl, fun x hx => ?_, by rw [vn_app]; rfl⟩
      · rw [upd_ne (ne_new e hD)]
        exact k24 y o ny (k2 y o ny e)
      · obtain ⟨x1, x2, x3, e⟩ := S4
        exact ⟨x1, x2, x3, by rw [upd_ne Da.symm]; exact e⟩
      · rcases List.mem_append.mp hx with hx | hx
        · exact hb x hx
        · rw [List.mem_singleton.mp hx]
          exact hz
    · rintro H2 ⟨k2, S2, ns, hl, hb, hD2⟩
      refine ⟨D, rfl, _, hD2, fun l hl2 => k l ns _ (free_keep S2 (k1.trans k2) hl2) (by omega) hb ((k1.trans k2).new hl2) (S2.new hl2) upd_same⟩
theorem ok_const (T : Txt mg) (F : FnP K "_law_constant" "_law_constant" sconst f fd) (g : mg "_law_constant" = some (.ref f)) (bF : Binds K fd ["_law_source", "_law_deep"] []) (C_next : Cal P w K mg base 1 "_law_next" ["_law_source", "_law_many"] spNext) (C_one : Cal P w K mg base 2 "_law_one" ["_law_source", "_law_some"] spOne)
    (C_text : Cal P w K mg base 3 "_law_text" ["_law_source"] spText) : ∀ d, d ≤ 3 → FnOk P w K mg base CX0 (4 + d) f fd ["_law_source", "_law_deep"] (spConst d) := by
  have step : ∀ (d : Nat) (sp : Sp), d ≤ 3 → (0 < d → sp = spConst (d - 1)) → Cal P w K mg base (3 + d) "_law_constant" ["_law_source", "_law_deep"] sp → FnOk P w K mg base CX0 (4 + d) f fd ["_law_source", "_law_deep"] (spConst d) := by
    intro d sp hd3 hsp C_constant
    rw [show 4 + d = 3 + d + 1 from by omega]
    refine F.ok scconst (fun vs H Q E h => ?_) (fun cdv A outer s H vs Q E hr h => ?_)
    · obtain ⟨a, rfl, _⟩ := h
      rfl
    · obtain ⟨a, rfl, hS, k⟩ := h
      refine ⟨_, PSs.nox (pss_cons (ps_if (PW.pt (pw_and (pt_cmpR op_gt (pv 1) pe_int (nomark _)) (pw_and1 (pt_cmpR op_eq (pe_cal C_next (hr.mono (by omega)) rfl (pa_cons (pv 0) (pa_cons pe_int pa_nil))) pe_int (nomark _)))))
    (pss_one (ps_ret (pe_callTy call_tuple_d (by rfl) T.b_tuple (by decide +kernel) (pa_cons (pe_lc (own := [("_law_k", 3)]) (g := gName 3) (tt := tYes) rfl scconst.nd (pi_range1 rfl T.b_range (pa_cons (pe_cal C_next (hr.mono (by omega)) rfl (pa_cons (pv 0) (pa_cons pe_int pa_nil))) pa_nil)) (blkOk_by (own := [("_law_k", 3)]) (N := ["_law_source", "_law_deep", "_law_some", "_law_k"]) (sc := defScope sconst) (by decide +kernel)) (fun _ _ _ _ _ => (pg_name (i := 3) scconst.nd rfl (Or.inl rfl))) (fun _ _ _ _ _ => pts_nil) (fun _ _ _ _ _ => (pe_cal C_constant hr rfl (pa_cons (pv 0) (pa_cons (pe_op op_sub (pv 1) pe_int) pa_nil))))) pa_nil))))
    pss_nil)
  (pss_cons (ps_set (i := 2) scconst.nd rfl (Or.inl rfl) (pe_lst (pa_cons pe_non (pa_cons pe_bl (pa_cons pe_bl (pa_cons pe_int (pa_cons pe_int (pa_cons (pe_op op_sub pe_int pe_int) (pa_cons pe_int (pa_cons pe_int (pa_cons (pe_op op_sub pe_int pe_int) (pa_cons (pe_op op_sub pe_int pe_int) (pa_cons (pe_op op_pow pe_int pe_int) pa_nil)))))))))))))
  (pss_cons (ps_set (i := 2) scconst.nd rfl (Or.inl rfl) (pe_op op_cat (pv 2) (pe_lst (pa_cons (pe_op op_sub (pe_cal C_next (hr.mono (by omega)) rfl (pa_cons (pv 0) (pa_cons (pe_op op_pow pe_int pe_int) pa_nil))) (pe_op op_pow pe_int pe_int)) (pa_cons (pe_cal C_text (hr.mono (by omega)) rfl (pa_cons (pv 0) pa_nil)) (pa_cons (pe_cal C_text (hr.mono (by omega)) rfl (pa_cons (pv 0) pa_nil)) (pa_cons (pe_op op_sub (pe_op op_pow pe_int pe_int) pe_int) pa_nil)))))))
  (pss_one (ps_ret (pe_cal C_one (hr.mono (by omega)) rfl (pa_cons (pv 0) (pa_cons (pv 2) pa_nil)))))))), ?_⟩
      show (_ : TS) _ [some (.ref a), some (.int (d : Int)), none, none] H
      simp only [r_seq, r_next, r_brk, r_cont, r_asg, r_name, r_ret, r_retN, r_drop, r_ifs, r_never, r_var, r_c, r_op, r_un, r_if, r_tst, r_b, r_not, r_and, r_or, r_andV, r_orV, r_notV, r_nil, r_cons, r_tup, r_lst, r_cb, r_call, r_bm, r_bm0, r_sl, r_nopart, r_part, r_rev, r_gnil, r_gcons, r_gsub, r_par, r_aug, r_chain, r_I0, r_I, r_U, r_ixd, r_lend, r_tupd, r_listd, r_sld, r_app, r_ext, r_reverse, r_setl, r_cat, r_int1, r_eqS, r_neS, scal_ii, scal_bb, scal_ss, at0, at1, at2, sq_lst, sq_tup, isLst_lst, List.getElem?_cons_zero, List.getElem?_cons_succ, List.set_cons_zero, List.set_cons_succ, V.int.injEq, V.bl.injEq, V.ref.injEq, V.str.injEq, HO.lst.injEq, HO.tup.injEq, Option.some.injEq, exists_eq_left', exists_eq_left, List.cons.injEq, and_true, true_and, decide_eq_true_eq, reduceCtorEq, false_and, exists_false, or_false, false_or, exists_const, and_assoc, exists_and_left, List.append_nil, ix0, ix1, ix2, cm_mod, cdw1009, cdw2003, cdw7, cdw64, cdw2, cm104729, cm2, cm3, upd_same, List.length_cons, List.length_nil, Int.reduceLT, Int.reduceLE, Nat.reduceAdd, Nat.reduceLeDiff, Nat.reduceLT, Int.reduceToNat, r_for1, r_forL, r_forT, r_lcL, r_lc1, r_yes, r_gtupD, wipe_0, wipe_1, List.cons_append, List.nil_append, r_forS, r_ipI, ite_false, ite_true, Bool.not_true, Bool.not_false, decide_true, decide_false, r_isd, r_islt, cD_ty, cD_ref, tD_non, tD_bl, tD_int, tD_str, tD_ref, tH_lst, tH_tup, tH_dK, tH_ins, ki_self, ki_int_bool, ki_non_int, ki_str_int, ki_lt_lst, ki_lt_tup, r_fld, r_sfld, HO.ins.injEq, cx_K]
      have tail : ∀ H1, Keep a H H1 → Src H1 a → CPow 32768 3 ∧ 11 ≤ sizeLine ∧ ∀ p, H1 p = none → CPow 10 30 ∧ spNext [.ref a, .int (10 ^ 30)] (L2.upd H1 p (.lst [.non, .bl true, .bl false, .int 0, .int 1, .int (0 - 1), .int 2147483647, .int 2147483648, .int (0 - 2147483648), .int (0 - 2147483649), .int (32768 ^ 3)]))
          (fun x H1 => CPow 10 29 ∧ ∃ i, x = .int i ∧ spText [.ref a] H1 (fun x H1 => spText [.ref a] H1 (fun x_1 H1 => CPow 1073741824 4 ∧ 4 ≤ sizeLine ∧ ∀ p_1, H1 p_1 = none → ∃ x_2, L2.upd H1 p_1 (.lst [.int (i - 10 ^ 29), x, x_1, .int (1073741824 ^ 4 - 1)]) p = some (.lst x_2) ∧ x_2.length + 4 ≤ sizeLine ∧ ∀ p_2, L2.upd H1 p_1 (.lst [.int (i - 10 ^ 29), x, x_1, .int (1073741824 ^ 4 - 1)]) p_2 = none →
            spOne [.ref a, .ref p_2] (L2.upd (L2.upd H1 p_1 (.lst [.int (i - 10 ^ 29), x, x_1, .int (1073741824 ^ 4 - 1)])) p_2 (.lst (x_2 ++ [.int (i - 10 ^ 29), x, x_1, .int (1073741824 ^ 4 - 1)]))) Q E0) E0) E0) E0 := by
        intro H1 k1 S1
        refine ⟨⟨by decide, by decide, by decide⟩, szl (by decide : 11 ≤ 1000), fun p hp => ⟨⟨by decide, by decide, by decide⟩, a, _, rfl, S1.new hp, by decide, by decide, fun n H2 b1 b2 k2 S2 => ⟨⟨by decide, by decide, by decide⟩, n, rfl, a, rfl, S2, fun z1 H3 t1 k3 S3 => ⟨a, rfl, S3, fun z2 H4 t2 k4 S4 => ⟨⟨by decide, by decide, by decide⟩, szl (by decide : 4 ≤ 1000), fun q hq => ?_⟩⟩⟩⟩⟩
        have pa := S1.ne hp
        have K4 : Keep a (L2.upd H1 p _) H4 := (k2.trans k3).trans k4
        have e4 := K4 _ _ pa upd_same
        refine ⟨_, by rw [upd_ne (ne_new e4 hq)]; exact e4, Nat.le_trans (by simp : _ ≤ 1000) (by decide), fun r hr => ⟨a, r, _, rfl, (S4.new hq).new hr, (S4.new hq).ne hr, upd_same, by simp, (by simp : _ ≤ 1000), fun v H5 hv k5 S5 => ?_⟩⟩
        refine k v H5 ((((((Keep.refl a H1).new hp).trans K4).new hq).new hr).trans k5 |> fun z => k1.trans z) S5 ?_
        simp only [List.mem_append, List.mem_cons, List.not_mem_nil, or_false] at hv
        rcases hv with (e | e | e | e | e | e | e | e | e | e | e) | (e | e | e | e) <;> subst e
        · exact .leafN
        · exact .leafB
        · exact .leafB
        · exact .leafI (by decide)
        · exact .leafI (by decide)
        · exact .leafI (by decide)
        · exact .leafI (by decide)
        · exact .leafI (by decide)
        · exact .leafI (by decide)
        · exact .leafI (by decide)
        · exact .leafI (by decide)
        · refine .leafI ⟨?_, ?_⟩
          · have : (0 : Int) ≤ n := b1
            have e1 : (10 : Int) ^ 29 ≤ 2 ^ 200 := by decide
            omega
          · have e2 : (10 : Int) ^ 30 ≤ 2 ^ 200 := by decide
            have e3 : (0 : Int) ≤ 10 ^ 29 := by decide
            omega
        · exact .leafS t1
        · exact .leafS t2
        · exact .leafI (by decide)
      by_cases c : 0 < d
      · rw [if_pos (by omega)]
        have es := hsp c
        subst es
        refine ⟨a, 3, rfl, hS, by decide, by decide, fun n H1 b1 b2 k1 S1 => ⟨rfl, ?_⟩⟩
        by_cases c2 : V.int n = V.int 0
        · rw [if_pos c2]
          refine ⟨a, 4, rfl, S1, by decide, by decide, fun m H2 b3 b4 k2 S2 => ⟨m, rfl, by omega, by omega, fun D hD => ?_⟩⟩
          have Da : D ≠ a := S2.ne hD
          refine cp_rng (n := m.toNat) (fun i H' => Keep a H2 H' ∧ Src H' a ∧ ∃ vs : List V, vs.length = i ∧ (∀ x ∈ vs, CD H' (d - 1) x) ∧ H' D = some (.lst vs)) ⟨(Keep.refl a H2).new hD, S2.new hD, [], rfl, (fun x (h : x ∈ []) => nomatch h), upd_same⟩ ?_ ?_
          · rintro i H3 hi ⟨k3, S3, vs, hl, hv, hD3⟩
            refine ⟨rfl, ?_⟩
            simp only [r_seq, r_next, r_brk, r_cont, r_asg, r_name, r_ret, r_retN, r_drop, r_ifs, r_never, r_var, r_c, r_op, r_un, r_if, r_tst, r_b, r_not, r_and, r_or, r_andV, r_orV, r_notV, r_nil, r_cons, r_tup, r_lst, r_cb, r_call, r_bm, r_bm0, r_sl, r_nopart, r_part, r_rev, r_gnil, r_gcons, r_gsub, r_par, r_aug, r_chain, r_I0, r_I, r_U, r_ixd, r_lend, r_tupd, r_listd, r_sld, r_app, r_ext, r_reverse, r_setl, r_cat, r_int1, r_eqS, r_neS, scal_ii, scal_bb, scal_ss, at0, at1, at2, sq_lst, sq_tup, isLst_lst, List.getElem?_cons_zero, List.getElem?_cons_succ, List.set_cons_zero, List.set_cons_succ, V.int.injEq, V.bl.injEq, V.ref.injEq, V.str.injEq, HO.lst.injEq, HO.tup.injEq, Option.some.injEq, exists_eq_left', exists_eq_left, List.cons.injEq, and_true, true_and, decide_eq_true_eq, reduceCtorEq, false_and, exists_false, or_false, false_or, exists_const, and_assoc, exists_and_left, List.append_nil, ix0, ix1, ix2, cm_mod, cdw1009, cdw2003, cdw7, cdw64, cdw2, cm104729, cm2, cm3, upd_same, List.length_cons, List.length_nil, Int.reduceLT, Int.reduceLE, Nat.reduceAdd, Nat.reduceLeDiff, Nat.reduceLT, Int.reduceToNat, r_for1, r_forL, r_forT, r_lcL, r_lc1, r_yes, r_gtupD, wipe_0, wipe_1, List.cons_append, List.nil_append, r_forS, r_ipI, ite_false, ite_true, Bool.not_true, Bool.not_false, decide_true, decide_false, r_isd, r_islt, cD_ty, cD_ref, tD_non, tD_bl, tD_int, tD_str, tD_ref, tH_lst, tH_tup, tH_dK, tH_ins, ki_self, ki_int_bool, ki_non_int, ki_str_int, ki_lt_lst, ki_lt_tup, r_fld, r_sfld, HO.ins.injEq, cx_K, List.map_cons, List.map_nil]
            refine ⟨a, by rw [show ((d - 1 : Nat) : Int) = (d : Int) - 1 from by omega], S3, fun v H4 k4 S4 hc => ?_⟩
            have hD4 := k4 _ _ Da hD3
            refine ⟨_, hD4, Nat.lt_of_le_of_lt (by omega : _ ≤ 1000) (by decide), fun y o ny e => ?_, ?_, vs ++ [v], by rw [List.length_append, hl]; rfl, fun x hx => ?_, rfl⟩
            · rw [upd_ne (ne_new e hD)]
              exact k4 y o ny (k3 y o ny e)
            · obtain ⟨x1, x2, x3, e⟩ := S4
              exact ⟨x1, x2, x3, by rw [upd_ne Da.symm]; exact e⟩
            · have up := Mo.upd (ys := vs ++ [v]) hD4
              rcases List.mem_append.mp hx with hx | hx
              · exact ((hv x hx).mo (Mo.keep S3 S4 k4)).mo up
              · rw [List.mem_singleton.mp hx]
                exact hc.mo up
          · rintro H3 ⟨k3, S3, vs, hl, hv, hD3⟩
            refine ⟨D, rfl, vs, hD3, fun l hl2 => k (.ref l) _ (((k1.trans k2).trans k3).new hl2) (S3.new hl2) ?_⟩
            have e1 : d = (d - 1) + 1 := by omega
            rw [e1]
            exact CD.tup upd_same (by omega) fun x hx => (hv x hx).mo (Mo.same (Same.new' (Same.refl H3) hl2))
        · rw [if_neg c2]
          exact tail H1 k1 S1
      · rw [if_neg (by omega)]
        exact tail H (Keep.refl a H) hS
  intro d
  induction d with
  | zero =>
    intro _
    have F0 : FnOk P w K mg base CX0 3 f fd ["_law_source", "_law_deep"] (fun _ _ _ _ => False) := ⟨fun _ _ _ _ h => h.elim, fun _ _ _ _ _ _ _ _ _ _ _ _ _ h => h.elim⟩
    exact step 0 _ (by decide) (fun h => absurd h (by decide)) ⟨⟨f, fd, F0, g, F.kp, bF⟩⟩
  | succ d ih =>
    intro hd
    exact step (d + 1) _ hd (fun _ => rfl) ⟨⟨f, fd, by rw [show 3 + (d + 1) = 4 + d from by omega]; exact ih (by omega), g, F.kp, bF⟩⟩
end
end C51

set_option maxHeartbeats 2000000
namespace C51
open PySem PySem.Spec PyProof.Rows L2
/-! ### codes, as values -/
/-- all fields but the constants -/
structure PF where
  i0 : Int
  i1 : Int
  i2 : Int
  i3 : Int
  i4 : Int
  z1 : Str
  z2 : Str
  ds : List Nat
  kds : List Nat
  lns : List Nat
  gds : List Nat
  zs : List Str
  ss : List Str
inductive PV where
  | con (x : CV)
  | cod (p : PF) (ks : List PV)
mutual
def depK : PV → Nat
  | .con _ => 0
  | .cod _ ks => depF (depKs ks) + 1
def depKs : List PV → List Nat
  | [] => []
  | k :: ks => depK k :: depKs ks
end
mutual
def szV : PV → Nat
  | .con _ => 1
  | .cod _ ks => szVs ks + 1
def szVs : List PV → Nat
  | [] => 0
  | k :: ks => szV k + szVs ks
end
mutual
/-- how much there is in all -/
def tz : PV → Nat
  | .con x => szC x
  | .cod _ ks => tzs ks + 1
def tzs : List PV → Nat
  | [] => 0
  | k :: ks => tz k + tzs ks
end
theorem tzs_le {ks : List PV} {m : Nat} (h : ∀ k ∈ ks, tz k ≤ m) : tzs ks ≤ ks.length * m := by
  induction ks with
  | nil => simp [tzs]
  | cons x xs ih =>
    have := h x List.mem_cons_self
    have := ih fun y hy => h y (List.mem_cons_of_mem _ hy)
    unfold tzs
    rw [List.length_cons, Nat.succ_mul]
    omega
/-- how much there is at most in what is drawn -/
def Bz : Nat → Nat
  | 0 => 16
  | 1 => 16
  | e + 2 => 6 * Bz (e + 1) + 1
theorem Bz_succ : ∀ e, Bz e ≤ Bz (e + 1)
  | 0 => Nat.le_refl 16
  | e + 1 => by
    show Bz (e + 1) ≤ 6 * Bz (e + 1) + 1
    omega
theorem Bz_mono {e f : Nat} (h : e ≤ f) : Bz e ≤ Bz f := by
  induction h with
  | refl => exact Nat.le_refl _
  | step _ ih => exact Nat.le_trans ih (Bz_succ _)
def PF.fld (p : PF) (ks : List V) (es : List Nat) : Fld := ⟨p.i0, p.i1, p.i2, p.i3, p.i4, p.z1, p.z2, p.ds, p.kds, p.lns, p.gds, ks, es, p.zs, p.ss⟩
/-- a short text of such letters -/
def TxtN (n : Nat) (z : Str) : Prop := z.length ≤ n ∧ OkS z ∧ ∀ c ∈ z.cps.toList, chB c = true
structure PfOk (n : Nat) (p : PF) : Prop where
  i0 : Num p.i0
  i1 : Num p.i1
  i2 : Num p.i2
  i3 : Num p.i3
  i4 : Num p.i4
  z1 : TxtN n p.z1
  z2 : TxtN n p.z2
  ds : (∀ x ∈ p.ds, x < 256) ∧ p.ds.length ≤ n
  kds : (∀ x ∈ p.kds, x < 256) ∧ p.kds.length ≤ n
  lns : (∀ x ∈ p.lns, x < 256) ∧ p.lns.length ≤ n
  gds : (∀ x ∈ p.gds, x < 256) ∧ p.gds.length ≤ n
  zs : (∀ z ∈ p.zs, TxtN n z) ∧ p.zs.length ≤ n
  ss : (∀ z ∈ p.ss, TxtN n z) ∧ p.ss.length ≤ n
  kl : p.kds.length = p.ss.length
theorem TxtN.mono {n m : Nat} {z : Str} (h : TxtN n z) (e : n ≤ m) : TxtN m z := ⟨Nat.le_trans h.1 e, h.2⟩
theorem PfOk.mono {n m : Nat} {p : PF} (h : PfOk n p) (e : n ≤ m) : PfOk m p := ⟨h.i0, h.i1, h.i2, h.i3, h.i4, h.z1.mono e, h.z2.mono e, ⟨h.ds.1, Nat.le_trans h.ds.2 e⟩, ⟨h.kds.1, Nat.le_trans h.kds.2 e⟩, ⟨h.lns.1, Nat.le_trans h.lns.2 e⟩, ⟨h.gds.1, Nat.le_trans h.gds.2 e⟩, ⟨fun z hz => (h.zs.1 z hz).mono e, Nat.le_trans h.zs.2 e⟩, ⟨fun z hz => (h.ss.1 z hz).mono e, Nat.le_trans h.ss.2 e⟩, h.kl⟩
mutual
/-- what may stand among constants: constants nested at most d deep, numbers of at most b bits, codes whose rows have at most n parts -/
def gV (d b n : Nat) : PV → Prop
  | .con x => kOk x d ∧ szC x ≤ 100000 ∧ bOk b x
  | .cod p ks => PfOk n p ∧ ks.length ≤ n ∧ depF (depKs ks) ≤ 100 ∧ gVs d b n ks
def gVs (d b n : Nat) : List PV → Prop
  | [] => True
  | k :: ks => gV d b n k ∧ gVs d b n ks
end
theorem gVs_iff {d b n : Nat} {ks : List PV} : gVs d b n ks ↔ ∀ k ∈ ks, gV d b n k := by
  induction ks with
  | nil => simp [gVs]
  | cons k ks ih => simp [gVs, ih]
mutual
theorem bOk.mono {b c : Nat} (e : b ≤ c) : ∀ {x : CV}, bOk b x → bOk c x
  | .non, _ => by unfold bOk; trivial
  | .bl _, _ => by unfold bOk; trivial
  | .int i, h => by
    unfold bOk at h ⊢
    have : (2 : Int) ^ b ≤ 2 ^ c := by
      have h2 := Nat.pow_le_pow_right (n := 2) (by decide) e
      have h3 : ((2 ^ b : Nat) : Int) ≤ ((2 ^ c : Nat) : Int) := by exact_mod_cast h2
      simpa using h3
    omega
  | .str z, h => by
    unfold bOk at h ⊢
    omega
  | .tup xs, h => by
    unfold bOk at h ⊢
    exact ⟨by omega, bOks.mono e h.2⟩
theorem bOks.mono {b c : Nat} (e : b ≤ c) : ∀ {xs : List CV}, bOks b xs → bOks c xs
  | [], _ => by unfold bOks; trivial
  | x :: xs, h => by
    unfold bOks at h ⊢
    exact ⟨bOk.mono e h.1, bOks.mono e h.2⟩
end
mutual
theorem gV.mono {d b n d' b' n' : Nat} (hd : d ≤ d') (hb : b ≤ b') (hn : n ≤ n') : ∀ {k : PV}, gV d b n k → gV d' b' n' k
  | .con x, h => by
    unfold gV at h ⊢
    exact ⟨h.1.mono hd, h.2.1, bOk.mono hb h.2.2⟩
  | .cod p ks, h => by
    unfold gV at h ⊢
    exact ⟨h.1.mono hn, Nat.le_trans h.2.1 hn, h.2.2.1, gVs.mono hd hb hn h.2.2.2⟩
theorem gVs.mono {d b n d' b' n' : Nat} (hd : d ≤ d') (hb : b ≤ b') (hn : n ≤ n') : ∀ {ks : List PV}, gVs d b n ks → gVs d' b' n' ks
  | [], _ => by unfold gVs; trivial
  | k :: ks, h => by
    unfold gVs at h ⊢
    exact ⟨gV.mono hd hb hn h.1, gVs.mono hd hb hn h.2⟩
end
theorem depKs_map : ∀ ks : List PV, depKs ks = ks.map depK
  | [] => by unfold depKs; rfl
  | k :: ks => by
    unfold depKs
    rw [depKs_map ks]
    rfl
/-- where the rows of fields stand -/
structure FP where
  L : Addr
  pu : Addr
  pk : Addr
  pn : Addr
  ps : Addr
  pd : Addr
  pt : Addr
  pg : Addr
def FP.vs (A : FP) (p : PF) : List V := [.int p.i0, .int p.i1, .int p.i2, .int p.i3, .ref A.pu, .ref A.pk, .ref A.pn, .ref A.ps, .ref A.pd, .str p.z1, .str p.z2, .int p.i4, .ref A.pt, .ref A.pg]
/-- where the fields of a code stand -/
def CodeAt (CC MM : Addr) (H : Hp) (c : Addr) (p : PF) (d : Nat) (vs : List V) (A : FP) (m : Addr) : Prop := ∃ (dx : Addr) (fs : List (Str × V)), H c = some (.ins CC dx fs) ∧ fs.lookup ("argcount" : Str) = some (.int p.i0) ∧ fs.lookup ("onlycount" : Str) = some (.int p.i1) ∧ fs.lookup ("stacksize" : Str) = some (.int p.i2) ∧ fs.lookup ("flags" : Str) = some (.int p.i3) ∧
    fs.lookup ("code" : Str) = some (.ref A.pu) ∧ fs.lookup ("depth" : Str) = some (.int (d : Int)) ∧ fs.lookup ("constants" : Str) = some (.ref A.pk) ∧ fs.lookup ("names" : Str) = some (.ref A.pn) ∧ fs.lookup ("slots" : Str) = some (.ref A.ps) ∧ fs.lookup ("kinds" : Str) = some (.ref A.pd) ∧
    fs.lookup ("name" : Str) = some (.str p.z1) ∧ fs.lookup ("path" : Str) = some (.str p.z2) ∧ fs.lookup ("line" : Str) = some (.int p.i4) ∧ fs.lookup ("lines" : Str) = some (.ref A.pt) ∧ fs.lookup ("handlers" : Str) = some (.ref A.pg) ∧ fs.lookup ("identity" : Str) = some (.ref m) ∧
    H A.pu = some (.tup (vn p.ds)) ∧ H A.pk = some (.tup vs) ∧ H A.pn = some (.tup (p.zs.map V.str)) ∧ H A.ps = some (.tup (p.ss.map V.str)) ∧ H A.pd = some (.tup (vn p.kds)) ∧ H A.pt = some (.tup (vn p.lns)) ∧ H A.pg = some (.tup (vn p.gds)) ∧ (∃ md, H m = some (.ins MM md [])) ∧ fs.lookup ("parts_alike" : Str) = none
theorem CodeAt.mo {CC MM c m : Addr} {H H' : Hp} {p : PF} {d : Nat} {vs : List V} {A : FP} (e : Mo H H') (h : CodeAt CC MM H c p d vs A m) : CodeAt CC MM H' c p d vs A m := by
  obtain ⟨dx, fs, f1, f2, f3, f4, f5, f6, f7, f8, f9, f10, f11, f12, f13, f14, f15, f16, f17, f18, f19, f20, f21, f22, f23, f24, ⟨md, f25⟩, f26⟩ := h
  exact ⟨dx, fs, e.ins f1, f2, f3, f4, f5, f6, f7, f8, f9, f10, f11, f12, f13, f14, f15, f16, f17, e.tup f18, e.tup f19, e.tup f20, e.tup f21, e.tup f22, e.tup f23, e.tup f24, ⟨md, e.ins f25⟩, f26⟩
/-- marks, and the code that each is of -/
abbrev Mks := Addr → Option PV
def Mks.le (μ ν : Mks) : Prop := ∀ m x, μ m = some x → ν m = some x
theorem Mks.le_refl (μ : Mks) : Mks.le μ μ := fun _ _ h => h
theorem Mks.le.trans {μ ν ξ : Mks} (a : Mks.le μ ν) (b : Mks.le ν ξ) : Mks.le μ ξ := fun m x h => b m x (a m x h)
/-- all marks are there -/
def Wm (MM : Addr) (μ : Mks) (H : Hp) : Prop := ∀ m x, μ m = some x → ∃ md, H m = some (.ins MM md [])
theorem Wm.mo {MM : Addr} {μ : Mks} {H H' : Hp} (h : Wm MM μ H) (e : Mo H H') : Wm MM μ H' := fun m x q => let ⟨md, z⟩ := h m x q; ⟨md, e.ins z⟩
mutual
inductive Rp (CC MM : Addr) (μ : Mks) (H : Hp) : V → PV → Prop
  | con {v : V} {x : CV} (h : Rc H v x) : Rp CC MM μ H v (.con x)
  | cod {c m : Addr} {vs : List V} {p : PF} {ks : List PV} {A : FP} (h : CodeAt CC MM H c p (depF (depKs ks)) vs A m) (t : Rps CC MM μ H vs ks) (hm : μ m = some (.cod p ks)) : Rp CC MM μ H (.ref c) (.cod p ks)
inductive Rps (CC MM : Addr) (μ : Mks) (H : Hp) : List V → List PV → Prop
  | nil : Rps CC MM μ H [] []
  | cons {v : V} {vs : List V} {k : PV} {ks : List PV} (h : Rp CC MM μ H v k) (t : Rps CC MM μ H vs ks) : Rps CC MM μ H (v :: vs) (k :: ks)
end
section
variable {CC MM : Addr} {μ ν : Mks} {H H' : Hp}
mutual
theorem Rp.mo (m : Mo H H') (l : Mks.le μ ν) : ∀ {v : V} {k : PV}, Rp CC MM μ H v k → Rp CC MM ν H' v k
  | _, _, .con h => .con (h.mo m)
  | _, _, .cod h t hm => .cod (h.mo m) (Rps.mo m l t) (l _ _ hm)
theorem Rps.mo (m : Mo H H') (l : Mks.le μ ν) : ∀ {vs : List V} {ks : List PV}, Rps CC MM μ H vs ks → Rps CC MM ν H' vs ks
  | _, _, .nil => .nil
  | _, _, .cons h t => .cons (Rp.mo m l h) (Rps.mo m l t)
end
theorem Rps.length : ∀ {vs : List V} {ks : List PV}, Rps CC MM μ H vs ks → vs.length = ks.length
  | _, _, .nil => rfl
  | _, _, .cons _ t => by rw [List.length_cons, List.length_cons, Rps.length t]
theorem Rps.app : ∀ {vs ws : List V} {ks ls : List PV}, Rps CC MM μ H vs ks → Rps CC MM μ H ws ls → Rps CC MM μ H (vs ++ ws) (ks ++ ls)
  | _, _, _, _, .nil, h => h
  | _, _, _, _, .cons g t, h => .cons g (Rps.app t h)
theorem Rps.at : ∀ {vs : List V} {ks : List PV} {i : Nat} {v : V} {k : PV}, Rps CC MM μ H vs ks → vs[i]? = some v → ks[i]? = some k → Rp CC MM μ H v k
  | _, _, i, _, _, .nil, h, _ => by simp at h
  | _, _, 0, _, _, .cons g t, h, q => by
    cases h
    cases q
    exact g
  | _, _, i + 1, _, _, .cons g t, h, q => Rps.at t (by simpa using h) (by simpa using q)
theorem Rps.take : ∀ {vs : List V} {ks : List PV} (n : Nat), Rps CC MM μ H vs ks → Rps CC MM μ H (vs.take n) (ks.take n)
  | _, _, 0, _ => .nil
  | _, _, n + 1, .nil => .nil
  | _, _, n + 1, .cons g t => .cons g (Rps.take n t)
theorem Rps.drop : ∀ {vs : List V} {ks : List PV} (n : Nat), Rps CC MM μ H vs ks → Rps CC MM μ H (vs.drop n) (ks.drop n)
  | _, _, 0, h => h
  | _, _, n + 1, .nil => .nil
  | _, _, n + 1, .cons g t => Rps.drop n t
theorem Rp.item {b n : Nat} {v : V} {k : PV} (h : Rp CC MM μ H v k) (g : gV 100 b n k) : ItemC CC H v (depK k) := by
  cases h with
  | con h =>
    unfold gV at g
    unfold depK
    exact .inl ⟨_, h.kv g.1, g.2.1, rfl⟩
  | cod h t hm =>
    unfold depK
    obtain ⟨dx, fs, f1, f2, f3, f4, f5, f6, f7, _⟩ := h
    exact .inr ⟨_, dx, fs, _, rfl, f1, f7, rfl⟩
theorem Rps.items {b n : Nat} : ∀ {vs : List V} {ks : List PV}, Rps CC MM μ H vs ks → gVs 100 b n ks → Paired (ItemC CC H) vs (depKs ks)
  | _, _, .nil, _ => by
    unfold depKs
    exact .nil
  | _, _, .cons h t, g => by
    unfold gVs at g
    unfold depKs
    exact .cons (h.item g.1) (Rps.items t g.2)
end
/-- fourteen fields in a list, rows as lists or tuples -/
def LfAt (CC MM : Addr) (μ : Mks) (H : Hp) (a : Addr) (p : PF) (ks : List PV) : Prop := ∃ (A : FP) (vs : List V), H a = some (.lst (A.vs p)) ∧ sq (H A.pu) = some (vn p.ds) ∧ sq (H A.pk) = some vs ∧ sq (H A.pn) = some (p.zs.map V.str) ∧ sq (H A.ps) = some (p.ss.map V.str) ∧ sq (H A.pd) = some (vn p.kds) ∧ sq (H A.pt) = some (vn p.lns) ∧ sq (H A.pg) = some (vn p.gds) ∧ Rps CC MM μ H vs ks
/-- a code made of them -/
theorem made {CC CN MM : Addr} {μ : Mks} {H : Hp} {a : Addr} {p : PF} {ks : List PV} {b n : Nat} {Q : VK} {E : XK} (W : Wm MM μ H) (h : LfAt CC MM μ H a p ks) (ok : PfOk n p) (g : gVs 100 b n ks) (dp : depF (depKs ks) ≤ 100)
    (q : ∀ c ν H', H c = none → Same H H' → Mks.le μ ν → Wm MM ν H' → Rp CC MM ν H' (.ref c) (.cod p ks) → Q (.ref c) H') : spLCode CC CN MM [.ref a] H Q E := by
  obtain ⟨A, vs, h0, h1, h2, h3, h4, h5, h6, h7, R⟩ := h
  refine ⟨a, _, _, _, _, _, _, _, _, _, _, _, _, _, _, rfl, h0, ?_⟩
  refine .inl ⟨_, rfl, ok.i0, .inl ⟨_, rfl, ok.i1, .inl ⟨_, rfl, ok.i2, .inl ⟨_, rfl, ok.i3, .inl ⟨_, _, rfl, h1, ok.ds.1, .inl ⟨_, _, _, rfl, h2, R.items g, dp, .inl ⟨_, _, rfl, h3, fun z hz => (ok.zs.1 z hz).2.1, .inl ⟨_, _, rfl, h4, fun z hz => (ok.ss.1 z hz).2.1, .inl ⟨_, _, rfl, h5, ok.kds.1, .inl ⟨ok.kl, .inl ⟨_, rfl, ok.z1.2.1, .inl ⟨_, rfl, ok.z2.2.1, .inl ⟨_, rfl, ok.i4, .inl ⟨_, _, rfl, h6, ok.lns.1, .inl ⟨_, _, rfl, h7, ok.gds.1, ?_⟩⟩⟩⟩⟩⟩⟩⟩⟩⟩⟩⟩⟩⟩⟩
  intro c m H' hc hm s cx
  obtain ⟨dx, fs, u, k, n', s', kd, t, g', f1, f2, f3, f4, f5, f6, f7, f8, f9, f10, f11, f12, f13, f14, f15, f16, f17, f18, f19, f20, f21, f22, f23, f24, ⟨md, f25⟩, f26⟩ := cx.ex
  have fresh : ∀ y x, μ y = some x → y ≠ m := fun y x e z => by
    obtain ⟨md, q⟩ := W y x e
    rw [z, hm] at q
    cases q
  have le : Mks.le μ (fun y => if y = m then some (.cod p ks) else μ y) := fun y x e => by
    show (if y = m then some (PV.cod p ks) else μ y) = some x
    rw [if_neg (fresh y x e)]
    exact e
  refine q c (fun y => if y = m then some (.cod p ks) else μ y) H' hc s le (fun y x e => ?_) (.cod (m := m) (vs := vs) (A := ⟨a, u, k, n', s', kd, t, g'⟩) ⟨dx, fs, f1, f2, f3, f4, f5, f6, f7, f8, f9, f10, f11, f12, f13, f14, f15, f16, f17, f18, f19, f20, f21, f22, f23, f24, ⟨md, f25⟩, f26⟩ (R.mo (Mo.same s) le) (if_pos rfl))
  by_cases c' : y = m
  · subst c'
    exact ⟨md, f25⟩
  · have e' : (if y = m then some (PV.cod p ks) else μ y) = some x := e
    rw [if_neg c'] at e'
    obtain ⟨md', q'⟩ := W y x e'
    exact ⟨md', s _ _ q'⟩
end C51

set_option maxHeartbeats 2000000
namespace C51
open PySem PySem.Spec PyProof.Rows L2
/-- an item of a row of constants -/
def It (CC MM : Addr) (e : Nat) (μ : Mks) (H : Hp) (v : V) : Prop := ∃ k, (depK k ≤ e ∧ tz k ≤ Bz e) ∧ gV 3 200 10 k ∧ Rp CC MM μ H v k
theorem It.mo {CC MM : Addr} {e : Nat} {μ ν : Mks} {H H' : Hp} {v : V} (m : Mo H H') (l : Mks.le μ ν) (h : It CC MM e μ H v) : It CC MM e ν H' v := let ⟨k, h1, h2, h3⟩ := h; ⟨k, h1, h2, h3.mo m l⟩
theorem It.up {CC MM : Addr} {e f : Nat} {μ : Mks} {H : Hp} {v : V} (h : It CC MM e μ H v) (l : e ≤ f) : It CC MM f μ H v := let ⟨k, h1, h2, h3⟩ := h; ⟨k, ⟨Nat.le_trans h1.1 l, Nat.le_trans h1.2 (Bz_mono l)⟩, h2, h3⟩
theorem CD.it {CC MM : Addr} {μ : Mks} {H : Hp} {v : V} (h : CD H 2 v) : It CC MM 0 μ H v := by
  obtain ⟨x, h1, h2, h3, h4⟩ := h
  exact ⟨.con x, ⟨by unfold depK; exact Nat.le_refl 0, by unfold tz; exact h2⟩, by unfold gV; exact ⟨h3, Nat.le_trans h2 (by decide), h4⟩, .con h1⟩
/-- fields as drawn: rows are tuples -/
structure Rows (CC MM : Addr) (μ : Mks) (H : Hp) (A : FP) (p : PF) (ks : List PV) (vs : List V) : Prop where
  u : H A.pu = some (.tup (vn p.ds))
  k : H A.pk = some (.tup vs)
  n : H A.pn = some (.tup (p.zs.map V.str))
  s : H A.ps = some (.tup (p.ss.map V.str))
  d : H A.pd = some (.tup (vn p.kds))
  t : H A.pt = some (.tup (vn p.lns))
  g : H A.pg = some (.tup (vn p.gds))
  it : Rps CC MM μ H vs ks
theorem Rows.mo {CC MM : Addr} {μ ν : Mks} {H H' : Hp} {A : FP} {p : PF} {ks : List PV} {vs : List V} (m : Mo H H') (l : Mks.le μ ν) (h : Rows CC MM μ H A p ks vs) : Rows CC MM ν H' A p ks vs := ⟨m.tup h.u, m.tup h.k, m.tup h.n, m.tup h.s, m.tup h.d, m.tup h.t, m.tup h.g, h.it.mo m l⟩
theorem Rows.lf {CC MM : Addr} {μ : Mks} {H : Hp} {A : FP} {p : PF} {ks : List PV} {vs : List V} (h : Rows CC MM μ H A p ks vs) (hL : H A.L = some (.lst (A.vs p))) : LfAt CC MM μ H A.L p ks := by
  have sqT : ∀ {q : Addr} {xs : List V}, H q = some (.tup xs) → sq (H q) = some xs := fun h => by rw [h]; rfl
  exact ⟨A, vs, hL, sqT h.u, sqT h.k, sqT h.n, sqT h.s, sqT h.d, sqT h.t, sqT h.g, h.it⟩
def spDF (CC MM : Addr) (d : Nat) : Sp := fun vs H Q _ => ∃ (a : Addr) (μ : Mks), vs = [.ref a, .int (d : Int)] ∧ Src H a ∧ Wm MM μ H ∧ ∀ (A : FP) (p : PF) (ks : List PV) (ws : List V) (ν : Mks) H', Keep a H H' → Src H' a → Mks.le μ ν → Wm MM ν H' → H A.L = none → A.L ≠ a → H' A.L = some (.lst (A.vs p)) → Rows CC MM ν H' A p ks ws → PfOk 10 p → gVs 3 200 10 ks → ks.length ≤ 6 → (∀ k ∈ ks, depK k ≤ d + 1 ∧ tz k ≤ Bz (d + 1)) → Q (.ref A.L) H'
def t_rng (n : TE) (te : TE) : TE := tLc (iRng1 (tCons n tNil)) (gName 8) tYes te [8]
def t_nx (k : Int) : TE := tCall spNext [] E0 (tCons (tVar 0) (tCons (tC (V.int k)) tNil))
def t_num : TE := tCall spOne [] E0 (tCons (tVar 0) (tCons (tLst (tCons (tC (V.int 0)) (tCons (tC (V.int 1)) (tCons (tC (V.int 3)) (tCons (tC (V.int 255)) (tCons (tC (V.int 2147483647)) (tCons (t_nx 2147483648) tNil))))))) tNil))
def t_sort : TE := tCall spOne [] E0 (tCons (tVar 0) (tCons (tLst (tCons (tC (V.int 32)) (tCons (tC (V.int 64)) (tCons (tC (V.int 96)) (tCons (tC (V.int 128)) (tCons (t_nx 256) tNil)))))) tNil))
def t_txt : TE := tCall spText [] E0 (tCons (tVar 0) tNil)
def t_byt (k : Int) : TE := tCall spLBytes [] E0 (tCons (tVar 0) (tCons (tC (V.int k)) tNil))
def t_con : TE := tCall (spConst 2) [] E0 (tCons (tVar 0) (tCons (tC (V.int 2)) tNil))
def t_cod (CC CN MM : Addr) (sp : Sp) : TE := tCall (spLCode CC CN MM) [] E0 (tCons (tCall sp [] E0 (tCons (tVar 0) (tCons (tOp (rI0 fun i j => V.int (i - j)) (tVar 1) (tC (V.int 1))) tNil))) tNil)
def t_nums : TS := tAsg (t_rng (tC (V.int 4)) t_num) (gName 2)
def t_wares : TS := tAsg (t_rng (t_nx 5) t_con) (gName 3)
def t_nest (CC CN MM : Addr) (sp : Sp) : TS := tIfS (tTest (tOp (rI0 fun i j => V.bl (decide (j < i))) (tVar 1) (tC (V.int 0)))) (tSeq (tAsg (t_rng (t_nx 3) (t_cod CC CN MM sp)) (gName 4)) (tAsg (tOp rCat (tOp rCat (tSl rSld (tVar 3) tNoPart (tPart (tC (V.int 2)))) (tVar 4)) (tSl rSld (tVar 3) (tPart (tC (V.int 2))) tNoPart)) (gName 3))) tNext
def t_slots : TS := tAsg (t_rng (t_nx 4) t_txt) (gName 5)
def t_sorts (K : PySem.W.Frag) : TS := tAsg (tCB rTupd (tCons (tLc (iList K (tVar 5)) (gName 9) tYes t_sort [9]) tNil)) (gName 6)
def t_names : TS := tAsg (t_rng (t_nx 4) t_txt) (gName 7)
def t_found : TS := tAsg (tOp rCat (tVar 2) (tLst (tCons (t_byt 9) (tCons (tCB rTupd (tCons (tVar 3) tNil)) (tCons (tCB rTupd (tCons (tVar 7) tNil)) (tCons (tCB rTupd (tCons (tVar 5) tNil)) (tCons (tVar 6) (tCons t_txt tNil)))))))) (gName 2)
def t_end : TS := tRet (tOp rCat (tVar 2) (tLst (tCons t_txt (tCons (t_nx 1000) (tCons (t_byt 5) (tCons (t_byt 5) tNil))))))
def t_df (K : PySem.W.Frag) (CC CN MM : Addr) (sp : Sp) : TS := tSeq t_nums (tSeq t_wares (tSeq (t_nest CC CN MM sp) (tSeq t_slots (tSeq (t_sorts K) (tSeq t_names (tSeq t_found t_end))))))
section
variable {P : Program} {w : World} {K : PySem.W.Frag} {mg : Str → Option Value} {base : Heap} {f : Addr} {fd : FuncData}
abbrev sdf : Stmt := top 51
theorem scdf : FnScope ["_law_source", "_law_deep", "_law_found", "_law_wares", "_law_nest", "_law_slots", "_law_sorts", "_law_names", "_law_k", "_law_name"] ["_law_source", "_law_deep"] (defScope sdf) := ⟨rfl, rfl, rfl, by decide +kernel, rfl, by decide +kernel, by decide +kernel⟩

theorem df_reads {CC CN MM : Addr} {A : Around} {outer : List Env} {s : Shared} {H : Hp} {E : XK} {cdv : Value} {d : Nat} {sp : Sp} (T : Txt mg) (hr : Room (6 + d) (cxOf CX0 P w K mg base ["_law_source", "_law_deep", "_law_found", "_law_wares", "_law_nest", "_law_slots", "_law_sorts", "_law_names", "_law_k", "_law_name"] "_law_drawn_fields" (defScope sdf) f cdv A outer s H E).nox.A) (C_next : Cal P w K mg base 1 "_law_next" ["_law_source", "_law_many"] spNext) (C_one : Cal P w K mg base 2 "_law_one" ["_law_source", "_law_some"] spOne)
    (C_text : Cal P w K mg base 3 "_law_text" ["_law_source"] spText) (C_bytes : Cal P w K mg base 3 "_law_bytes" ["_law_source", "_law_most"] spLBytes) (C_constant : Cal P w K mg base 6 "_law_constant" ["_law_source", "_law_deep"] (spConst 2)) (CE_code : CalE P w K mg base 6 "_law_code" ["_law_some"] (spLCode CC CN MM))
    (C_self : Cal P w K mg base (6 + d) "_law_drawn_fields" ["_law_source", "_law_deep"] sp) 
    : PSs (cxOf CX0 P w K mg base ["_law_source", "_law_deep", "_law_found", "_law_wares", "_law_nest", "_law_slots", "_law_sorts", "_law_names", "_law_k", "_law_name"] "_law_drawn_fields" (defScope sdf) f cdv A outer s H E).nox (defBody sdf) (t_df K CC CN MM sp) := by
  unfold t_df t_nums t_wares t_nest t_slots t_sorts t_names t_found t_end t_rng t_num t_sort t_txt t_byt t_con t_cod t_nx
  exact (pss_cons (ps_setLc (i := 2) (own := [("_law_k", 8)]) (g := gName 8) (tt := tYes) rfl scdf.nd rfl rfl (sw_true rfl rfl rfl (by decide +kernel)) (pi_range1 rfl T.b_range (pa_cons pe_int pa_nil)) (blkOk_by (own := [("_law_k", 8)]) (N := ["_law_source", "_law_deep", "_law_found", "_law_wares", "_law_nest", "_law_slots", "_law_sorts", "_law_names", "_law_k", "_law_name"]) (sc := defScope sdf) (by decide +kernel)) (fun _ _ _ _ _ => (pg_name (i := 8) scdf.nd rfl (Or.inl rfl))) (fun _ _ _ _ _ => pts_nil) (fun _ _ _ _ _ => (pe_cal C_one (hr.mono (by omega)) rfl (pa_cons (pv 0) (pa_cons (pe_lst (pa_cons pe_int (pa_cons pe_int (pa_cons pe_int (pa_cons pe_int (pa_cons pe_int (pa_cons (pe_cal C_next (hr.mono (by omega)) rfl (pa_cons (pv 0) (pa_cons pe_int pa_nil))) pa_nil))))))) pa_nil)))))
  (pss_cons (ps_setLc (i := 3) (own := [("_law_k", 8)]) (g := gName 8) (tt := tYes) rfl scdf.nd rfl rfl (sw_true rfl rfl rfl (by decide +kernel)) (pi_range1 rfl T.b_range (pa_cons (pe_cal C_next (hr.mono (by omega)) rfl (pa_cons (pv 0) (pa_cons pe_int pa_nil))) pa_nil)) (blkOk_by (own := [("_law_k", 8)]) (N := ["_law_source", "_law_deep", "_law_found", "_law_wares", "_law_nest", "_law_slots", "_law_sorts", "_law_names", "_law_k", "_law_name"]) (sc := defScope sdf) (by decide +kernel)) (fun _ _ _ _ _ => (pg_name (i := 8) scdf.nd rfl (Or.inl rfl))) (fun _ _ _ _ _ => pts_nil) (fun _ _ _ _ _ => (pe_cal C_constant (hr.mono (by omega)) rfl (pa_cons (pv 0) (pa_cons pe_int pa_nil)))))
  (pss_cons (ps_if (pt_cmpR op_gt (pv 1) pe_int (nomark _))
    (pss_cons (ps_setLc (i := 4) (own := [("_law_k", 8)]) (g := gName 8) (tt := tYes) rfl scdf.nd rfl rfl (sw_true rfl rfl rfl (by decide +kernel)) (pi_range1 rfl T.b_range (pa_cons (pe_cal C_next (hr.mono (by omega)) rfl (pa_cons (pv 0) (pa_cons pe_int pa_nil))) pa_nil)) (blkOk_by (own := [("_law_k", 8)]) (N := ["_law_source", "_law_deep", "_law_found", "_law_wares", "_law_nest", "_law_slots", "_law_sorts", "_law_names", "_law_k", "_law_name"]) (sc := defScope sdf) (by decide +kernel)) (fun _ _ _ _ _ => (pg_name (i := 8) scdf.nd rfl (Or.inl rfl))) (fun _ _ _ _ _ => pts_nil) (fun _ _ _ _ _ => (pe_calE CE_code (hr.mono (by omega)) rfl LamX.takes0 (fun _ _ _ _ z => z) (pa_cons (pe_cal C_self hr rfl (pa_cons (pv 0) (pa_cons (pe_op op_sub (pv 1) pe_int) pa_nil))) pa_nil))))
  (pss_one (ps_set (i := 3) scdf.nd rfl (Or.inl rfl) (pe_op op_cat (pe_op op_cat (pe_slice sl_d (pv 3) po_none (po_some pe_int)) (pv 4)) (pe_slice sl_d (pv 3) (po_some pe_int) po_none)))))
    pss_nil)
  (pss_cons (ps_setLc (i := 5) (own := [("_law_k", 8)]) (g := gName 8) (tt := tYes) rfl scdf.nd rfl rfl (sw_true rfl rfl rfl (by decide +kernel)) (pi_range1 rfl T.b_range (pa_cons (pe_cal C_next (hr.mono (by omega)) rfl (pa_cons (pv 0) (pa_cons pe_int pa_nil))) pa_nil)) (blkOk_by (own := [("_law_k", 8)]) (N := ["_law_source", "_law_deep", "_law_found", "_law_wares", "_law_nest", "_law_slots", "_law_sorts", "_law_names", "_law_k", "_law_name"]) (sc := defScope sdf) (by decide +kernel)) (fun _ _ _ _ _ => (pg_name (i := 8) scdf.nd rfl (Or.inl rfl))) (fun _ _ _ _ _ => pts_nil) (fun _ _ _ _ _ => (pe_cal C_text (hr.mono (by omega)) rfl (pa_cons (pv 0) pa_nil))))
  (pss_cons (ps_set (i := 6) scdf.nd rfl (Or.inl rfl) (pe_callTy call_tuple_d (by rfl) T.b_tuple (by decide +kernel) (pa_cons (pe_lc (own := [("_law_name", 9)]) (g := gName 9) (tt := tYes) rfl scdf.nd (pi_list (pv 5)) (blkOk_by (own := [("_law_name", 9)]) (N := ["_law_source", "_law_deep", "_law_found", "_law_wares", "_law_nest", "_law_slots", "_law_sorts", "_law_names", "_law_k", "_law_name"]) (sc := defScope sdf) (by decide +kernel)) (fun _ _ _ _ _ => (pg_name (i := 9) scdf.nd rfl (Or.inl rfl))) (fun _ _ _ _ _ => pts_nil) (fun _ _ _ _ _ => (pe_cal C_one (hr.mono (by omega)) rfl (pa_cons (pv 0) (pa_cons (pe_lst (pa_cons pe_int (pa_cons pe_int (pa_cons pe_int (pa_cons pe_int (pa_cons (pe_cal C_next (hr.mono (by omega)) rfl (pa_cons (pv 0) (pa_cons pe_int pa_nil))) pa_nil)))))) pa_nil))))) pa_nil)))
  (pss_cons (ps_setLc (i := 7) (own := [("_law_k", 8)]) (g := gName 8) (tt := tYes) rfl scdf.nd rfl rfl (sw_true rfl rfl rfl (by decide +kernel)) (pi_range1 rfl T.b_range (pa_cons (pe_cal C_next (hr.mono (by omega)) rfl (pa_cons (pv 0) (pa_cons pe_int pa_nil))) pa_nil)) (blkOk_by (own := [("_law_k", 8)]) (N := ["_law_source", "_law_deep", "_law_found", "_law_wares", "_law_nest", "_law_slots", "_law_sorts", "_law_names", "_law_k", "_law_name"]) (sc := defScope sdf) (by decide +kernel)) (fun _ _ _ _ _ => (pg_name (i := 8) scdf.nd rfl (Or.inl rfl))) (fun _ _ _ _ _ => pts_nil) (fun _ _ _ _ _ => (pe_cal C_text (hr.mono (by omega)) rfl (pa_cons (pv 0) pa_nil))))
  (pss_cons (ps_set (i := 2) scdf.nd rfl (Or.inl rfl) (pe_op op_cat (pv 2) (pe_lst (pa_cons (pe_cal C_bytes (hr.mono (by omega)) rfl (pa_cons (pv 0) (pa_cons pe_int pa_nil))) (pa_cons (pe_callTy call_tuple_d (by rfl) T.b_tuple (by decide +kernel) (pa_cons (pv 3) pa_nil)) (pa_cons (pe_callTy call_tuple_d (by rfl) T.b_tuple (by decide +kernel) (pa_cons (pv 7) pa_nil)) (pa_cons (pe_callTy call_tuple_d (by rfl) T.b_tuple (by decide +kernel) (pa_cons (pv 5) pa_nil)) (pa_cons (pv 6) (pa_cons (pe_cal C_text (hr.mono (by omega)) rfl (pa_cons (pv 0) pa_nil)) pa_nil)))))))))
  (pss_one (ps_ret (pe_op op_cat (pv 2) (pe_lst (pa_cons (pe_cal C_text (hr.mono (by omega)) rfl (pa_cons (pv 0) pa_nil)) (pa_cons (pe_cal C_next (hr.mono (by omega)) rfl (pa_cons (pv 0) (pa_cons pe_int pa_nil))) (pa_cons (pe_cal C_bytes (hr.mono (by omega)) rfl (pa_cons (pv 0) (pa_cons pe_int pa_nil))) (pa_cons (pe_cal C_bytes (hr.mono (by omega)) rfl (pa_cons (pv 0) (pa_cons pe_int pa_nil))) pa_nil)))))))))))))))
end
/-! ### lists of what is drawn -/
/-- what stays, whatever is done to lists -/
structure Stays (Pv : Hp → V → Prop) : Prop where
  mo : ∀ {H H' : Hp} {v : V}, Mo H H' → Pv H v → Pv H' v
theorem stays_pure (p : V → Prop) : Stays fun _ v => p v := ⟨fun _ h => h⟩
theorem stays_it {CC MM : Addr} {e : Nat} {μ : Mks} : Stays (It CC MM e μ) := ⟨fun m h => h.mo m (Mks.le_refl μ)⟩
section
variable {K : PySem.W.Frag} {a : Addr} {Pv : Hp → V → Prop} {te : TE} {D : Addr} {H1 : Hp} {Q : VK} {s1 s2 s3 s4 s5 s6 s7 s8 s9 : Option V}
theorem drawn_comp {n : Nat} (st : Stays Pv) (hn : n ≤ 100) (S1 : Src H1 a) (hD : H1 D = none) (ht : ∀ (i : Int) H2 QV, Src H2 a → (∀ v H3, Keep a H2 H3 → Src H3 a → Pv H3 v → QV v H3) → te [some (.ref a), s1, s2, s3, s4, s5, s6, s7, some (.int i), s9] H2 QV)
    (k : ∀ vs H', Keep a H1 H' → Src H' a → vs.length = n → (∀ v ∈ vs, Pv H' v) → H' D = some (.lst vs) → Q (.ref D) H') : CompR (Itr 0 n) (gName 8) tYes te [8] [some (.ref a), s1, s2, s3, s4, s5, s6, s7, s8, s9] Q D (L2.upd H1 D (.lst [])) := by
  have Da : D ≠ a := S1.ne hD
  refine cp_rng (n := n) (fun i H' => Keep a H1 H' ∧ Src H' a ∧ ∃ vs : List V, vs.length = i ∧ (∀ x ∈ vs, Pv H' x) ∧ H' D = some (.lst vs)) ⟨(Keep.refl a H1).new hD, S1.new hD, [], rfl, (fun x (h : x ∈ []) => nomatch h), upd_same⟩ ?_ ?_
  · rintro i H2 hi ⟨k2, S2, vs, hl, hv, hD2⟩
    refine ⟨rfl, ?_⟩
    rw [r_yes, if_pos rfl]
    refine ht _ H2 _ S2 fun v H3 k3 S3 hp => ?_
    have hD3 := k3 _ _ Da hD2
    have S3' := S3
    refine ⟨vs, hD3, Nat.lt_of_le_of_lt (by omega : _ ≤ 1000) (by decide), fun y o ny e => ?_, ?_, vs ++ [v], by rw [List.length_append, hl]; rfl, fun x hx => ?_, upd_same⟩
    · rw [upd_ne (ne_new e hD)]
      exact k3 y o ny (k2 y o ny e)
    · obtain ⟨x1, x2, x3, e⟩ := S3
      exact ⟨x1, x2, x3, by rw [upd_ne Da.symm]; exact e⟩
    · rcases List.mem_append.mp hx with hx | hx
      · exact st.mo ((Mo.keep S2 S3' k3).trans (Mo.upd hD3)) (hv x hx)
      · rw [List.mem_singleton.mp hx]
        exact st.mo (Mo.upd hD3) hp
  · rintro H2 ⟨k2, S2, vs, hl, hv, hD2⟩
    exact k vs H2 k2 S2 hl hv hD2
theorem drawn_compL {L : Addr} {xs : List V} (st : Stays Pv) (hn : xs.length ≤ 100) (S1 : Src H1 a) (hD : H1 D = none) (hL : H1 L = some (.lst xs)) (La : L ≠ a) (ht : ∀ (x : V) H2 QV, Src H2 a → (∀ v H3, Keep a H2 H3 → Src H3 a → Pv H3 v → QV v H3) → te [some (.ref a), s1, s2, s3, s4, s5, s6, s7, s8, some x] H2 QV)
    (k : ∀ vs H', Keep a H1 H' → Src H' a → vs.length = xs.length → (∀ v ∈ vs, Pv H' v) → H' D = some (.lst vs) → Q (.ref D) H') : CompR (Itl K L) (gName 9) tYes te [9] [some (.ref a), s1, s2, s3, s4, s5, s6, s7, s8, s9] Q D (L2.upd H1 D (.lst [])) := by
  have Da : D ≠ a := S1.ne hD
  have LD : L ≠ D := ne_new hL hD
  refine cp_list (xs := xs) (fun i H' => Keep a H1 H' ∧ Src H' a ∧ ∃ vs : List V, vs.length = i ∧ (∀ x ∈ vs, Pv H' x) ∧ H' D = some (.lst vs)) ⟨(Keep.refl a H1).new hD, S1.new hD, [], rfl, (fun x (h : x ∈ []) => nomatch h), upd_same⟩ (fun i H' _ h => SqL.of (h.1 _ _ La hL)) ?_ ?_
  · rintro i y H2 hx ⟨k2, S2, vs, hl, hv, hD2⟩
    have hi := (List.getElem?_eq_some_iff.mp hx).1
    refine ⟨rfl, ?_⟩
    rw [r_yes, if_pos rfl]
    refine ht _ H2 _ S2 fun v H3 k3 S3 hp => ?_
    have hD3 := k3 _ _ Da hD2
    have S3' := S3
    refine ⟨vs, hD3, Nat.lt_of_le_of_lt (by omega : _ ≤ 1000) (by decide), fun y o ny e => ?_, ?_, vs ++ [v], by rw [List.length_append, hl]; rfl, fun x hx => ?_, upd_same⟩
    · rw [upd_ne (ne_new e hD)]
      exact k3 y o ny (k2 y o ny e)
    · obtain ⟨x1, x2, x3, e⟩ := S3
      exact ⟨x1, x2, x3, by rw [upd_ne Da.symm]; exact e⟩
    · rcases List.mem_append.mp hx with hx | hx
      · exact st.mo ((Mo.keep S2 S3' k3).trans (Mo.upd hD3)) (hv x hx)
      · rw [List.mem_singleton.mp hx]
        exact st.mo (Mo.upd hD3) hp
  · rintro H2 ⟨k2, S2, vs, hl, hv, hD2⟩
    exact k vs H2 k2 S2 hl hv hD2
theorem drawn_compM {CC MM : Addr} {e : Nat} {μ : Mks} {n : Nat} (W1 : Wm MM μ H1) (hn : n ≤ 100) (S1 : Src H1 a) (hD : H1 D = none) (ht : ∀ (i : Int) H2 ν QV, Src H2 a → Wm MM ν H2 → (∀ v H3 ξ, Keep a H2 H3 → Src H3 a → Mks.le ν ξ → Wm MM ξ H3 → It CC MM e ξ H3 v → QV v H3) → te [some (.ref a), s1, s2, s3, s4, s5, s6, s7, some (.int i), s9] H2 QV)
    (k : ∀ vs H' ν, Keep a H1 H' → Src H' a → Mks.le μ ν → Wm MM ν H' → vs.length = n → (∀ v ∈ vs, It CC MM e ν H' v) → H' D = some (.lst vs) → Q (.ref D) H') : CompR (Itr 0 n) (gName 8) tYes te [8] [some (.ref a), s1, s2, s3, s4, s5, s6, s7, s8, s9] Q D (L2.upd H1 D (.lst [])) := by
  have Da : D ≠ a := S1.ne hD
  refine cp_rng (n := n) (fun i H' => Keep a H1 H' ∧ Src H' a ∧ ∃ (vs : List V) (ν : Mks), Mks.le μ ν ∧ Wm MM ν H' ∧ vs.length = i ∧ (∀ x ∈ vs, It CC MM e ν H' x) ∧ H' D = some (.lst vs)) ⟨(Keep.refl a H1).new hD, S1.new hD, [], μ, Mks.le_refl μ, W1.mo (Mo.same (Same.new' (Same.refl H1) hD)), rfl, (fun x (h : x ∈ []) => nomatch h), upd_same⟩ ?_ ?_
  · rintro i H2 hi ⟨k2, S2, vs, ν, lν, Wν, hl, hv, hD2⟩
    refine ⟨rfl, ?_⟩
    rw [r_yes, if_pos rfl]
    refine ht _ H2 ν _ S2 Wν fun v H3 ξ k3 S3 lξ Wξ hp => ?_
    have hD3 := k3 _ _ Da hD2
    have S3' := S3
    refine ⟨vs, hD3, Nat.lt_of_le_of_lt (by omega : _ ≤ 1000) (by decide), fun y o ny e => ?_, ?_, vs ++ [v], ξ, lν.trans lξ, Wξ.mo (Mo.upd hD3), by rw [List.length_append, hl]; rfl, fun x hx => ?_, upd_same⟩
    · rw [upd_ne (ne_new e hD)]
      exact k3 y o ny (k2 y o ny e)
    · obtain ⟨x1, x2, x3, e⟩ := S3
      exact ⟨x1, x2, x3, by rw [upd_ne Da.symm]; exact e⟩
    · rcases List.mem_append.mp hx with hx | hx
      · exact (hv x hx).mo ((Mo.keep S2 S3' k3).trans (Mo.upd hD3)) lξ
      · rw [List.mem_singleton.mp hx]
        exact hp.mo (Mo.upd hD3) (Mks.le_refl ξ)
  · rintro H2 ⟨k2, S2, vs, ν, lν, Wν, hl, hv, hD2⟩
    exact k vs H2 ν k2 S2 lν Wν hl hv hD2
/-! ### what is drawn, one by one -/
abbrev St10 (a : Addr) (s1 s2 s3 s4 s5 s6 s7 s8 s9 : Option V) : L2.St := [some (.ref a), s1, s2, s3, s4, s5, s6, s7, s8, s9]
theorem nx_run {H : Hp} {m : Int} (h0 : 0 < m) (h1 : m < 2 ^ 200) (S : Src H a) (k : ∀ n H', 0 ≤ n → n < m → Keep a H H' → Src H' a → Q (.int n) H') : t_nx m (St10 a s1 s2 s3 s4 s5 s6 s7 s8 s9) H Q := by
  unfold t_nx
  simp only [r_seq, r_next, r_brk, r_cont, r_asg, r_name, r_ret, r_retN, r_drop, r_ifs, r_never, r_var, r_c, r_op, r_un, r_if, r_tst, r_b, r_not, r_and, r_or, r_andV, r_orV, r_notV, r_nil, r_cons, r_tup, r_lst, r_cb, r_call, r_bm, r_bm0, r_sl, r_nopart, r_part, r_rev, r_gnil, r_gcons, r_gsub, r_par, r_aug, r_chain, r_I0, r_I, r_U, r_ixd, r_lend, r_tupd, r_listd, r_sld, r_app, r_ext, r_reverse, r_setl, r_cat, r_int1, r_eqS, r_neS, scal_ii, scal_bb, scal_ss, at0, at1, at2, sq_lst, sq_tup, isLst_lst, List.getElem?_cons_zero, List.getElem?_cons_succ, List.set_cons_zero, List.set_cons_succ, V.int.injEq, V.bl.injEq, V.ref.injEq, V.str.injEq, HO.lst.injEq, HO.tup.injEq, Option.some.injEq, exists_eq_left', exists_eq_left, List.cons.injEq, and_true, true_and, decide_eq_true_eq, reduceCtorEq, false_and, exists_false, or_false, false_or, exists_const, and_assoc, exists_and_left, List.append_nil, ix0, ix1, ix2, cm_mod, cdw1009, cdw2003, cdw7, cdw64, cdw2, cm104729, cm2, cm3, upd_same, List.length_cons, List.length_nil, Int.reduceLT, Int.reduceLE, Nat.reduceAdd, Nat.reduceLeDiff, Nat.reduceLT, Int.reduceToNat, r_for1, r_forL, r_forT, r_lcL, r_lc1, r_yes, r_gtupD, wipe_0, wipe_1, List.cons_append, List.nil_append, r_forS, r_ipI, ite_false, ite_true, Bool.not_true, Bool.not_false, decide_true, decide_false, r_isd, r_islt, cD_ty, cD_ref, tD_non, tD_bl, tD_int, tD_str, tD_ref, tH_lst, tH_tup, tH_dK, tH_ins, ki_self, ki_int_bool, ki_non_int, ki_str_int, ki_lt_lst, ki_lt_tup, r_fld, r_sfld, HO.ins.injEq, cx_K]
  exact ⟨a, m, rfl, S, h0, h1, k⟩
theorem num_run {H : Hp} (S : Src H a) (k : ∀ v H', Keep a H H' → Src H' a → (∃ i, v = .int i ∧ Num i) → Q v H') : t_num (St10 a s1 s2 s3 s4 s5 s6 s7 s8 s9) H Q := by
  unfold t_num t_nx
  simp only [r_seq, r_next, r_brk, r_cont, r_asg, r_name, r_ret, r_retN, r_drop, r_ifs, r_never, r_var, r_c, r_op, r_un, r_if, r_tst, r_b, r_not, r_and, r_or, r_andV, r_orV, r_notV, r_nil, r_cons, r_tup, r_lst, r_cb, r_call, r_bm, r_bm0, r_sl, r_nopart, r_part, r_rev, r_gnil, r_gcons, r_gsub, r_par, r_aug, r_chain, r_I0, r_I, r_U, r_ixd, r_lend, r_tupd, r_listd, r_sld, r_app, r_ext, r_reverse, r_setl, r_cat, r_int1, r_eqS, r_neS, scal_ii, scal_bb, scal_ss, at0, at1, at2, sq_lst, sq_tup, isLst_lst, List.getElem?_cons_zero, List.getElem?_cons_succ, List.set_cons_zero, List.set_cons_succ, V.int.injEq, V.bl.injEq, V.ref.injEq, V.str.injEq, HO.lst.injEq, HO.tup.injEq, Option.some.injEq, exists_eq_left', exists_eq_left, List.cons.injEq, and_true, true_and, decide_eq_true_eq, reduceCtorEq, false_and, exists_false, or_false, false_or, exists_const, and_assoc, exists_and_left, List.append_nil, ix0, ix1, ix2, cm_mod, cdw1009, cdw2003, cdw7, cdw64, cdw2, cm104729, cm2, cm3, upd_same, List.length_cons, List.length_nil, Int.reduceLT, Int.reduceLE, Nat.reduceAdd, Nat.reduceLeDiff, Nat.reduceLT, Int.reduceToNat, r_for1, r_forL, r_forT, r_lcL, r_lc1, r_yes, r_gtupD, wipe_0, wipe_1, List.cons_append, List.nil_append, r_forS, r_ipI, ite_false, ite_true, Bool.not_true, Bool.not_false, decide_true, decide_false, r_isd, r_islt, cD_ty, cD_ref, tD_non, tD_bl, tD_int, tD_str, tD_ref, tH_lst, tH_tup, tH_dK, tH_ins, ki_self, ki_int_bool, ki_non_int, ki_str_int, ki_lt_lst, ki_lt_tup, r_fld, r_sfld, HO.ins.injEq, cx_K]
  refine ⟨a, _, rfl, S, by decide, by decide, fun n H2 c1 c2 k2 S2 => ⟨szl (by decide : 6 ≤ 1000), fun p hp => ⟨a, p, _, rfl, S2.new hp, S2.ne hp, upd_same, by simp, (by simp : _ ≤ 1000), fun v H3 hv k3 S3 => k v H3 ((k2.new hp).trans k3) S3 ?_⟩⟩⟩
  simp only [List.mem_cons, List.not_mem_nil, or_false] at hv
  rcases hv with e | e | e | e | e | e
  · exact ⟨_, e, by decide, by decide⟩
  · exact ⟨_, e, by decide, by decide⟩
  · exact ⟨_, e, by decide, by decide⟩
  · exact ⟨_, e, by decide, by decide⟩
  · exact ⟨_, e, by decide, by decide⟩
  · exact ⟨_, e, by omega, by omega⟩
theorem sort_run {H : Hp} (S : Src H a) (k : ∀ v H', Keep a H H' → Src H' a → (∃ i : Nat, v = .int (i : Int) ∧ i < 256) → Q v H') : t_sort (St10 a s1 s2 s3 s4 s5 s6 s7 s8 s9) H Q := by
  unfold t_sort t_nx
  simp only [r_seq, r_next, r_brk, r_cont, r_asg, r_name, r_ret, r_retN, r_drop, r_ifs, r_never, r_var, r_c, r_op, r_un, r_if, r_tst, r_b, r_not, r_and, r_or, r_andV, r_orV, r_notV, r_nil, r_cons, r_tup, r_lst, r_cb, r_call, r_bm, r_bm0, r_sl, r_nopart, r_part, r_rev, r_gnil, r_gcons, r_gsub, r_par, r_aug, r_chain, r_I0, r_I, r_U, r_ixd, r_lend, r_tupd, r_listd, r_sld, r_app, r_ext, r_reverse, r_setl, r_cat, r_int1, r_eqS, r_neS, scal_ii, scal_bb, scal_ss, at0, at1, at2, sq_lst, sq_tup, isLst_lst, List.getElem?_cons_zero, List.getElem?_cons_succ, List.set_cons_zero, List.set_cons_succ, V.int.injEq, V.bl.injEq, V.ref.injEq, V.str.injEq, HO.lst.injEq, HO.tup.injEq, Option.some.injEq, exists_eq_left', exists_eq_left, List.cons.injEq, and_true, true_and, decide_eq_true_eq, reduceCtorEq, false_and, exists_false, or_false, false_or, exists_const, and_assoc, exists_and_left, List.append_nil, ix0, ix1, ix2, cm_mod, cdw1009, cdw2003, cdw7, cdw64, cdw2, cm104729, cm2, cm3, upd_same, List.length_cons, List.length_nil, Int.reduceLT, Int.reduceLE, Nat.reduceAdd, Nat.reduceLeDiff, Nat.reduceLT, Int.reduceToNat, r_for1, r_forL, r_forT, r_lcL, r_lc1, r_yes, r_gtupD, wipe_0, wipe_1, List.cons_append, List.nil_append, r_forS, r_ipI, ite_false, ite_true, Bool.not_true, Bool.not_false, decide_true, decide_false, r_isd, r_islt, cD_ty, cD_ref, tD_non, tD_bl, tD_int, tD_str, tD_ref, tH_lst, tH_tup, tH_dK, tH_ins, ki_self, ki_int_bool, ki_non_int, ki_str_int, ki_lt_lst, ki_lt_tup, r_fld, r_sfld, HO.ins.injEq, cx_K]
  refine ⟨a, _, rfl, S, by decide, by decide, fun n H2 c1 c2 k2 S2 => ⟨szl (by decide : 5 ≤ 1000), fun p hp => ⟨a, p, _, rfl, S2.new hp, S2.ne hp, upd_same, by simp, (by simp : _ ≤ 1000), fun v H3 hv k3 S3 => k v H3 ((k2.new hp).trans k3) S3 ?_⟩⟩⟩
  simp only [List.mem_cons, List.not_mem_nil, or_false] at hv
  rcases hv with e | e | e | e | e
  · exact ⟨32, e, by decide⟩
  · exact ⟨64, e, by decide⟩
  · exact ⟨96, e, by decide⟩
  · exact ⟨128, e, by decide⟩
  · exact ⟨n.toNat, by rw [e]; congr 1; omega, by omega⟩
theorem txt_run {H : Hp} (S : Src H a) (k : ∀ v H', Keep a H H' → Src H' a → (∃ z, v = .str z ∧ TxtOk z) → Q v H') : t_txt (St10 a s1 s2 s3 s4 s5 s6 s7 s8 s9) H Q := by
  unfold t_txt
  simp only [r_seq, r_next, r_brk, r_cont, r_asg, r_name, r_ret, r_retN, r_drop, r_ifs, r_never, r_var, r_c, r_op, r_un, r_if, r_tst, r_b, r_not, r_and, r_or, r_andV, r_orV, r_notV, r_nil, r_cons, r_tup, r_lst, r_cb, r_call, r_bm, r_bm0, r_sl, r_nopart, r_part, r_rev, r_gnil, r_gcons, r_gsub, r_par, r_aug, r_chain, r_I0, r_I, r_U, r_ixd, r_lend, r_tupd, r_listd, r_sld, r_app, r_ext, r_reverse, r_setl, r_cat, r_int1, r_eqS, r_neS, scal_ii, scal_bb, scal_ss, at0, at1, at2, sq_lst, sq_tup, isLst_lst, List.getElem?_cons_zero, List.getElem?_cons_succ, List.set_cons_zero, List.set_cons_succ, V.int.injEq, V.bl.injEq, V.ref.injEq, V.str.injEq, HO.lst.injEq, HO.tup.injEq, Option.some.injEq, exists_eq_left', exists_eq_left, List.cons.injEq, and_true, true_and, decide_eq_true_eq, reduceCtorEq, false_and, exists_false, or_false, false_or, exists_const, and_assoc, exists_and_left, List.append_nil, ix0, ix1, ix2, cm_mod, cdw1009, cdw2003, cdw7, cdw64, cdw2, cm104729, cm2, cm3, upd_same, List.length_cons, List.length_nil, Int.reduceLT, Int.reduceLE, Nat.reduceAdd, Nat.reduceLeDiff, Nat.reduceLT, Int.reduceToNat, r_for1, r_forL, r_forT, r_lcL, r_lc1, r_yes, r_gtupD, wipe_0, wipe_1, List.cons_append, List.nil_append, r_forS, r_ipI, ite_false, ite_true, Bool.not_true, Bool.not_false, decide_true, decide_false, r_isd, r_islt, cD_ty, cD_ref, tD_non, tD_bl, tD_int, tD_str, tD_ref, tH_lst, tH_tup, tH_dK, tH_ins, ki_self, ki_int_bool, ki_non_int, ki_str_int, ki_lt_lst, ki_lt_tup, r_fld, r_sfld, HO.ins.injEq, cx_K]
  exact ⟨a, rfl, S, fun z H' tz k' S' => k _ H' k' S' ⟨z, rfl, tz⟩⟩
theorem byt_run {H : Hp} {m : Nat} (hm : m ≤ 100) (S : Src H a) (k : ∀ p ns H', Keep a H H' → Src H' a → ns.length ≤ m → (∀ n ∈ ns, n < 256) → H' p = some (.tup (vn ns)) → Q (.ref p) H') : t_byt (m : Int) (St10 a s1 s2 s3 s4 s5 s6 s7 s8 s9) H Q := by
  unfold t_byt
  simp only [r_seq, r_next, r_brk, r_cont, r_asg, r_name, r_ret, r_retN, r_drop, r_ifs, r_never, r_var, r_c, r_op, r_un, r_if, r_tst, r_b, r_not, r_and, r_or, r_andV, r_orV, r_notV, r_nil, r_cons, r_tup, r_lst, r_cb, r_call, r_bm, r_bm0, r_sl, r_nopart, r_part, r_rev, r_gnil, r_gcons, r_gsub, r_par, r_aug, r_chain, r_I0, r_I, r_U, r_ixd, r_lend, r_tupd, r_listd, r_sld, r_app, r_ext, r_reverse, r_setl, r_cat, r_int1, r_eqS, r_neS, scal_ii, scal_bb, scal_ss, at0, at1, at2, sq_lst, sq_tup, isLst_lst, List.getElem?_cons_zero, List.getElem?_cons_succ, List.set_cons_zero, List.set_cons_succ, V.int.injEq, V.bl.injEq, V.ref.injEq, V.str.injEq, HO.lst.injEq, HO.tup.injEq, Option.some.injEq, exists_eq_left', exists_eq_left, List.cons.injEq, and_true, true_and, decide_eq_true_eq, reduceCtorEq, false_and, exists_false, or_false, false_or, exists_const, and_assoc, exists_and_left, List.append_nil, ix0, ix1, ix2, cm_mod, cdw1009, cdw2003, cdw7, cdw64, cdw2, cm104729, cm2, cm3, upd_same, List.length_cons, List.length_nil, Int.reduceLT, Int.reduceLE, Nat.reduceAdd, Nat.reduceLeDiff, Nat.reduceLT, Int.reduceToNat, r_for1, r_forL, r_forT, r_lcL, r_lc1, r_yes, r_gtupD, wipe_0, wipe_1, List.cons_append, List.nil_append, r_forS, r_ipI, ite_false, ite_true, Bool.not_true, Bool.not_false, decide_true, decide_false, r_isd, r_islt, cD_ty, cD_ref, tD_non, tD_bl, tD_int, tD_str, tD_ref, tH_lst, tH_tup, tH_dK, tH_ins, ki_self, ki_int_bool, ki_non_int, ki_str_int, ki_lt_lst, ki_lt_tup, r_fld, r_sfld, HO.ins.injEq, cx_K]
  exact ⟨a, m, rfl, hm, S, fun p ns H' _ hl hb k' S' hp => k p ns H' k' S' hl hb hp⟩
theorem con_run {H : Hp} {CC MM : Addr} {μ : Mks} (S : Src H a) (k : ∀ v H', Keep a H H' → Src H' a → It CC MM 0 μ H' v → Q v H') : t_con (St10 a s1 s2 s3 s4 s5 s6 s7 s8 s9) H Q := by
  unfold t_con
  simp only [r_seq, r_next, r_brk, r_cont, r_asg, r_name, r_ret, r_retN, r_drop, r_ifs, r_never, r_var, r_c, r_op, r_un, r_if, r_tst, r_b, r_not, r_and, r_or, r_andV, r_orV, r_notV, r_nil, r_cons, r_tup, r_lst, r_cb, r_call, r_bm, r_bm0, r_sl, r_nopart, r_part, r_rev, r_gnil, r_gcons, r_gsub, r_par, r_aug, r_chain, r_I0, r_I, r_U, r_ixd, r_lend, r_tupd, r_listd, r_sld, r_app, r_ext, r_reverse, r_setl, r_cat, r_int1, r_eqS, r_neS, scal_ii, scal_bb, scal_ss, at0, at1, at2, sq_lst, sq_tup, isLst_lst, List.getElem?_cons_zero, List.getElem?_cons_succ, List.set_cons_zero, List.set_cons_succ, V.int.injEq, V.bl.injEq, V.ref.injEq, V.str.injEq, HO.lst.injEq, HO.tup.injEq, Option.some.injEq, exists_eq_left', exists_eq_left, List.cons.injEq, and_true, true_and, decide_eq_true_eq, reduceCtorEq, false_and, exists_false, or_false, false_or, exists_const, and_assoc, exists_and_left, List.append_nil, ix0, ix1, ix2, cm_mod, cdw1009, cdw2003, cdw7, cdw64, cdw2, cm104729, cm2, cm3, upd_same, List.length_cons, List.length_nil, Int.reduceLT, Int.reduceLE, Nat.reduceAdd, Nat.reduceLeDiff, Nat.reduceLT, Int.reduceToNat, r_for1, r_forL, r_forT, r_lcL, r_lc1, r_yes, r_gtupD, wipe_0, wipe_1, List.cons_append, List.nil_append, r_forS, r_ipI, ite_false, ite_true, Bool.not_true, Bool.not_false, decide_true, decide_false, r_isd, r_islt, cD_ty, cD_ref, tD_non, tD_bl, tD_int, tD_str, tD_ref, tH_lst, tH_tup, tH_dK, tH_ins, ki_self, ki_int_bool, ki_non_int, ki_str_int, ki_lt_lst, ki_lt_tup, r_fld, r_sfld, HO.ins.injEq, cx_K]
  exact ⟨a, rfl, S, fun v H' k' S' hc => k v H' k' S' hc.it⟩
theorem dep_le {d : Nat} : ∀ {es : List Nat} (n : Nat), n ≤ d → (∀ e ∈ es, e ≤ d) → es.foldl max n ≤ d
  | [], n, h, _ => h
  | e :: es, n, h, k => dep_le (max n e) (Nat.max_le.mpr ⟨h, k e List.mem_cons_self⟩) fun x hx => k x (List.mem_cons_of_mem _ hx)
theorem depKs_le {d : Nat} {ks : List PV} (h1 : 1 ≤ d) (h : ∀ k ∈ ks, depK k ≤ d) : depF (depKs ks) ≤ d := by
  rw [depKs_map]
  exact dep_le 1 h1 fun e he => by
    obtain ⟨k, hk, rfl⟩ := List.mem_map.mp he
    exact h k hk
theorem cod_run {H : Hp} {CC CN MM : Addr} {d : Nat} {s2 : Option V} {μ : Mks} (hd : d ≤ 50) (S : Src H a) (W : Wm MM μ H) (k : ∀ v H' ν, Keep a H H' → Src H' a → Mks.le μ ν → Wm MM ν H' → It CC MM (d + 2) ν H' v → Q v H') : t_cod CC CN MM (spDF CC MM d) (St10 a (some (.int ((d + 1 : Nat) : Int))) s2 s3 s4 s5 s6 s7 s8 s9) H Q := by
  unfold t_cod
  simp only [r_seq, r_next, r_brk, r_cont, r_asg, r_name, r_ret, r_retN, r_drop, r_ifs, r_never, r_var, r_c, r_op, r_un, r_if, r_tst, r_b, r_not, r_and, r_or, r_andV, r_orV, r_notV, r_nil, r_cons, r_tup, r_lst, r_cb, r_call, r_bm, r_bm0, r_sl, r_nopart, r_part, r_rev, r_gnil, r_gcons, r_gsub, r_par, r_aug, r_chain, r_I0, r_I, r_U, r_ixd, r_lend, r_tupd, r_listd, r_sld, r_app, r_ext, r_reverse, r_setl, r_cat, r_int1, r_eqS, r_neS, scal_ii, scal_bb, scal_ss, at0, at1, at2, sq_lst, sq_tup, isLst_lst, List.getElem?_cons_zero, List.getElem?_cons_succ, List.set_cons_zero, List.set_cons_succ, V.int.injEq, V.bl.injEq, V.ref.injEq, V.str.injEq, HO.lst.injEq, HO.tup.injEq, Option.some.injEq, exists_eq_left', exists_eq_left, List.cons.injEq, and_true, true_and, decide_eq_true_eq, reduceCtorEq, false_and, exists_false, or_false, false_or, exists_const, and_assoc, exists_and_left, List.append_nil, ix0, ix1, ix2, cm_mod, cdw1009, cdw2003, cdw7, cdw64, cdw2, cm104729, cm2, cm3, upd_same, List.length_cons, List.length_nil, Int.reduceLT, Int.reduceLE, Nat.reduceAdd, Nat.reduceLeDiff, Nat.reduceLT, Int.reduceToNat, r_for1, r_forL, r_forT, r_lcL, r_lc1, r_yes, r_gtupD, wipe_0, wipe_1, List.cons_append, List.nil_append, r_forS, r_ipI, ite_false, ite_true, Bool.not_true, Bool.not_false, decide_true, decide_false, r_isd, r_islt, cD_ty, cD_ref, tD_non, tD_bl, tD_int, tD_str, tD_ref, tH_lst, tH_tup, tH_dK, tH_ins, ki_self, ki_int_bool, ki_non_int, ki_str_int, ki_lt_lst, ki_lt_tup, r_fld, r_sfld, HO.ins.injEq, cx_K]
  refine ⟨a, μ, by rw [show ((d + 1 : Nat) : Int) - 1 = (d : Int) from by omega], S, W, fun A p ks ws ν H2 k2 S2 l2 W2 L0 La hL hr hok hg hkl hdp => ?_⟩
  have dl := depKs_le (d := d + 1) (by omega) fun k hk => (hdp k hk).1
  refine made W2 (hr.lf hL) hok (gVs.mono (by decide) (Nat.le_refl 200) (Nat.le_refl 10) hg) (by omega) fun c ξ H3 hc s3 l3 W3 R => ?_
  refine k (.ref c) H3 ξ (k2.trans (Keep.same s3)) (S2.same s3) (l2.trans l3) W3 ⟨.cod p ks, ⟨?_, ?_⟩, ?_, R⟩
  · unfold depK
    omega
  · have h1 := tzs_le fun k hk => (hdp k hk).2
    have h2 := Nat.mul_le_mul_right (Bz (d + 1)) hkl
    unfold tz
    show tzs ks + 1 ≤ 6 * Bz (d + 1) + 1
    omega
  · unfold gV
    exact ⟨hok, by omega, by omega, hg⟩
end
end C51

set_option maxHeartbeats 2000000
namespace C51
open PySem PySem.Spec PyProof.Rows L2
/-! ### drawn fields, step by step -/
theorem r_rng {n te : TE} {σ : L2.St} {H : Hp} {Q : VK} : t_rng n te σ H Q = n σ H (fun x H1 => ∃ j : Int, [x] = [.int j] ∧ -(2 ^ 62) ≤ j ∧ j < 2 ^ 62 ∧ ∀ D, H1 D = none → CompR (Itr 0 j.toNat) (gName 8) tYes te [8] σ Q D (L2.upd H1 D (.lst []))) := rfl
theorem strs_of : ∀ {vs : List V}, (∀ v ∈ vs, ∃ z, v = .str z ∧ TxtOk z) → ∃ zs : List Str, vs = zs.map V.str ∧ ∀ z ∈ zs, TxtOk z
  | [], _ => ⟨[], rfl, fun z (h : z ∈ []) => nomatch h⟩
  | v :: vs, h => by
    obtain ⟨z, rfl, hz⟩ := h v List.mem_cons_self
    obtain ⟨zs, rfl, hzs⟩ := strs_of fun x hx => h x (List.mem_cons_of_mem _ hx)
    refine ⟨z :: zs, rfl, fun y hy => ?_⟩
    rcases List.mem_cons.mp hy with rfl | hy
    · exact hz
    · exact hzs y hy
theorem nums_of : ∀ {vs : List V}, (∀ v ∈ vs, ∃ i : Nat, v = .int (i : Int) ∧ i < 256) → ∃ ns : List Nat, vs = vn ns ∧ ∀ n ∈ ns, n < 256
  | [], _ => ⟨[], rfl, fun z (h : z ∈ []) => nomatch h⟩
  | v :: vs, h => by
    obtain ⟨z, rfl, hz⟩ := h v List.mem_cons_self
    obtain ⟨zs, rfl, hzs⟩ := nums_of fun x hx => h x (List.mem_cons_of_mem _ hx)
    refine ⟨z :: zs, rfl, fun y hy => ?_⟩
    rcases List.mem_cons.mp hy with rfl | hy
    · exact hz
    · exact hzs y hy
theorem items_of {CC MM : Addr} {μ : Mks} {H : Hp} {d : Nat} : ∀ {vs : List V}, (∀ v ∈ vs, It CC MM d μ H v) → ∃ ks : List PV, Rps CC MM μ H vs ks ∧ gVs 3 200 10 ks ∧ ∀ k ∈ ks, depK k ≤ d ∧ tz k ≤ Bz d
  | [], _ => ⟨[], .nil, by unfold gVs; trivial, fun z (h : z ∈ []) => nomatch h⟩
  | v :: vs, h => by
    obtain ⟨k, h1, h2, h3⟩ := h v List.mem_cons_self
    obtain ⟨ks, p, g, hes⟩ := items_of fun x hx => h x (List.mem_cons_of_mem _ hx)
    refine ⟨k :: ks, .cons h3 p, by unfold gVs; exact ⟨h2, g⟩, fun y hy => ?_⟩
    rcases List.mem_cons.mp hy with rfl | hy
    · exact h1
    · exact hes y hy
section
variable {K : PySem.W.Frag} {CC CN MM a : Addr} {D : Ends} {H : Hp} {s1 s2 s3 s4 s5 s6 s7 s8 s9 : Option V}
theorem nums_run (S : Src H a) (k : ∀ L i0 i1 i2 i3 H', Keep a H H' → Src H' a → L ≠ a → H' L = some (.lst [.int i0, .int i1, .int i2, .int i3]) → Num i0 → Num i1 → Num i2 → Num i3 → D.nx (St10 a s1 (some (.ref L)) s3 s4 s5 s6 s7 s8 s9) H') : t_nums D (St10 a s1 s2 s3 s4 s5 s6 s7 s8 s9) H := by
  unfold t_nums
  rw [r_asg, r_rng]
  refine ⟨4, rfl, by decide, by decide, fun L hL => drawn_comp (n := 4) (stays_pure fun v => ∃ i, v = .int i ∧ Num i) (by decide) S hL (fun i H2 QV S2 q => num_run S2 q) fun vs H' k1 S1 hl hv hLv => ?_⟩
  match vs, hl, hv, hLv with
  | [v0, v1, v2, v3], _, hv, hLv =>
    obtain ⟨i0, rfl, h0⟩ := hv v0 (by simp)
    obtain ⟨i1, rfl, h1⟩ := hv v1 (by simp)
    obtain ⟨i2, rfl, h2⟩ := hv v2 (by simp)
    obtain ⟨i3, rfl, h3⟩ := hv v3 (by simp)
    exact k L i0 i1 i2 i3 H' k1 S1 (S.ne hL) hLv h0 h1 h2 h3
theorem sIx_nat2 (l d n : Nat) : HT.sIx l d (some (n : Int)) = min n l := by
  simp [HT.sIx]
  omega
theorem cut_take {xs : List V} {n : Nat} : cutV xs none (some (n : Int)) = xs.take n := by
  unfold cutV
  rw [sIx_nat2, HT.sIx_none, List.drop_zero, Nat.sub_zero]
  by_cases c : n ≤ xs.length
  · rw [Nat.min_eq_left c]
  · rw [Nat.min_eq_right (by omega), List.take_length, List.take_of_length_le (by omega)]
theorem cut_drop {xs : List V} {n : Nat} : cutV xs (some (n : Int)) none = xs.drop n := by
  unfold cutV
  rw [sIx_nat2, HT.sIx_none]
  by_cases c : n ≤ xs.length
  · rw [Nat.min_eq_left c]
    exact List.take_of_length_le (by rw [List.length_drop]; omega)
  · rw [Nat.min_eq_right (by omega), List.drop_length, List.take_nil, List.drop_of_length_le (by omega)]
theorem dwares_run {μ : Mks} (S : Src H a) (k : ∀ W vs H', Keep a H H' → Src H' a → W ≠ a → H' W = some (.lst vs) → vs.length ≤ 4 → (∀ v ∈ vs, It CC MM 0 μ H' v) → D.nx (St10 a s1 s2 (some (.ref W)) s4 s5 s6 s7 s8 s9) H') : t_wares D (St10 a s1 s2 s3 s4 s5 s6 s7 s8 s9) H := by
  unfold t_wares
  rw [r_asg, r_rng]
  refine nx_run (by decide) (by decide) S fun n H1 b1 b2 k1 S1 => ⟨n, rfl, by omega, by omega, fun W hW => drawn_comp (stays_it (CC := CC) (MM := MM) (e := 0) (μ := μ)) (by omega) S1 hW (fun i H2 QV S2 q => con_run S2 q) fun vs H' k2 S2 hl hv hWv => ?_⟩
  exact k W vs H' (k1.trans k2) S2 (S1.ne hW) hWv (by omega) hv
theorem nest_run {W : Addr} {vs : List V} {d : Nat} {sp : Sp} {μ : Mks} (hsp : 0 < d → sp = spDF CC MM (d - 1)) (hd : d ≤ 50) (S : Src H a) (Wm0 : Wm MM μ H) (Wa : W ≠ a) (hW : H W = some (.lst vs)) (hl : vs.length ≤ 4) (hv : ∀ v ∈ vs, It CC MM 0 μ H v)
    (k : ∀ s4' W' ws H' ν, Keep a H H' → Src H' a → Mks.le μ ν → Wm MM ν H' → W' ≠ a → H' W' = some (.lst ws) → ws.length ≤ 6 → (∀ v ∈ ws, It CC MM (d + 1) ν H' v) → D.nx (St10 a (some (.int (d : Int))) s2 (some (.ref W')) s4' s5 s6 s7 s8 s9) H') : t_nest CC CN MM sp D (St10 a (some (.int (d : Int))) s2 (some (.ref W)) s4 s5 s6 s7 s8 s9) H := by
  unfold t_nest
  simp only [r_seq, r_next, r_brk, r_cont, r_asg, r_name, r_ret, r_retN, r_drop, r_ifs, r_never, r_var, r_c, r_op, r_un, r_if, r_tst, r_b, r_not, r_and, r_or, r_andV, r_orV, r_notV, r_nil, r_cons, r_tup, r_lst, r_cb, r_call, r_bm, r_bm0, r_sl, r_nopart, r_part, r_rev, r_gnil, r_gcons, r_gsub, r_par, r_aug, r_chain, r_I0, r_I, r_U, r_ixd, r_lend, r_tupd, r_listd, r_sld, r_app, r_ext, r_reverse, r_setl, r_cat, r_int1, r_eqS, r_neS, scal_ii, scal_bb, scal_ss, at0, at1, at2, sq_lst, sq_tup, isLst_lst, List.getElem?_cons_zero, List.getElem?_cons_succ, List.set_cons_zero, List.set_cons_succ, V.int.injEq, V.bl.injEq, V.ref.injEq, V.str.injEq, HO.lst.injEq, HO.tup.injEq, Option.some.injEq, exists_eq_left', exists_eq_left, List.cons.injEq, and_true, true_and, decide_eq_true_eq, reduceCtorEq, false_and, exists_false, or_false, false_or, exists_const, and_assoc, exists_and_left, List.append_nil, ix0, ix1, ix2, cm_mod, cdw1009, cdw2003, cdw7, cdw64, cdw2, cm104729, cm2, cm3, upd_same, List.length_cons, List.length_nil, Int.reduceLT, Int.reduceLE, Nat.reduceAdd, Nat.reduceLeDiff, Nat.reduceLT, Int.reduceToNat, r_for1, r_forL, r_forT, r_lcL, r_lc1, r_yes, r_gtupD, wipe_0, wipe_1, List.cons_append, List.nil_append, r_forS, r_ipI, ite_false, ite_true, Bool.not_true, Bool.not_false, decide_true, decide_false, r_isd, r_islt, cD_ty, cD_ref, tD_non, tD_bl, tD_int, tD_str, tD_ref, tH_lst, tH_tup, tH_dK, tH_ins, ki_self, ki_int_bool, ki_non_int, ki_str_int, ki_lt_lst, ki_lt_tup, r_fld, r_sfld, HO.ins.injEq, cx_K]
  by_cases c : 0 < d
  · rw [if_pos (by omega), hsp c, r_rng]
    refine nx_run (by decide) (by decide) S fun n H1 b1 b2 k1 S1 => ⟨n, rfl, by omega, by omega, fun N hN => ?_⟩
    have e1 : St10 a (some (.int (d : Int))) s2 (some (.ref W)) s4 s5 s6 s7 s8 s9 = St10 a (some (.int ((d - 1 + 1 : Nat) : Int))) s2 (some (.ref W)) s4 s5 s6 s7 s8 s9 := by rw [show d - 1 + 1 = d from by omega]
    show CompR _ _ _ _ _ (St10 a (some (.int (d : Int))) s2 (some (.ref W)) s4 s5 s6 s7 s8 s9) _ _ _
    refine drawn_compM (CC := CC) (MM := MM) (e := d + 1) (Wm0.mo (Mo.keep S S1 k1)) (by omega) S1 hN (fun i H2 ν' QV S2 W2 q => ?_) fun ws H2 ν k2 S2 lν Wν hlw hw hNw => ?_
    · have := cod_run (CC := CC) (CN := CN) (MM := MM) (d := d - 1) (H := H2) (Q := QV) (s2 := s2) (s3 := some (.ref W)) (s4 := s4) (s5 := s5) (s6 := s6) (s7 := s7) (s8 := some (.int i)) (s9 := s9) (by omega) S2 W2 fun v H3 ξ k3 S3 lξ Wξ h => q v H3 ξ k3 S3 lξ Wξ (h.up (by omega))
      rw [show d - 1 + 1 = d from by omega] at this
      exact this
    · have hW2 := (k1.trans k2) _ _ Wa hW
      have Na := S1.ne hN
      refine ⟨_, hW2, fun p1 h1 => ⟨N, rfl, _, by rw [upd_ne (ne_new hNw h1)]; exact hNw, ?_, fun p2 h2 => ?_⟩⟩
      · exact Nat.le_trans (by unfold cutV; rw [List.length_take, List.length_drop]; omega : _ ≤ 1000) (by decide)
      have c1 := Same.new' (o := .lst (cutV vs none (some 2))) (Same.refl H2) h1
      have S3 := S2.new (o := .lst (cutV vs none (some 2))) h1
      generalize L2.upd H2 p1 (.lst (cutV vs none (some 2))) = G1 at *
      have c2 := Same.new' (o := .lst (cutV vs none (some 2) ++ ws)) (Same.refl G1) h2
      have q2 : L2.upd G1 p2 (.lst (cutV vs none (some 2) ++ ws)) p2 = some (.lst (cutV vs none (some 2) ++ ws)) := upd_same
      have S4 := S3.new (o := .lst (cutV vs none (some 2) ++ ws)) h2
      generalize L2.upd G1 p2 (.lst (cutV vs none (some 2) ++ ws)) = G2 at *
      have hW4 := c2 _ _ (c1 _ _ hW2)
      refine ⟨_, hW4, fun p3 h3 => ⟨_, by rw [upd_ne (ne_new q2 h3)]; exact q2, ?_, fun p4 h4 => ?_⟩⟩
      · exact Nat.le_trans (by unfold cutV; rw [List.length_append, List.length_take, List.length_drop, List.length_take, List.length_drop]; omega : _ ≤ 1000) (by decide)
      have c3 := Same.new' (o := .lst (cutV vs (some 2) none)) (Same.refl G2) h3
      have S5 := S4.new (o := .lst (cutV vs (some 2) none)) h3
      generalize L2.upd G2 p3 (.lst (cutV vs (some 2) none)) = G3 at *
      have c4 := Same.new' (o := .lst (cutV vs none (some 2) ++ ws ++ cutV vs (some 2) none)) (Same.refl G3) h4
      have sm : Same H2 (L2.upd G3 p4 (.lst (cutV vs none (some 2) ++ ws ++ cutV vs (some 2) none))) := fun y o e => c4 y o (c3 y o (c2 y o (c1 y o e)))
      refine k _ p4 _ _ ν ((k1.trans k2).trans (Keep.same sm)) (S5.new h4) lν (Wν.mo (Mo.same sm)) (S5.ne h4) upd_same ?_ fun v hv' => ?_
      · have e2 : cutV vs none (some 2) = vs.take 2 := cut_take (n := 2)
        have e3 : cutV vs (some 2) none = vs.drop 2 := cut_drop (n := 2)
        rw [e2, e3, List.length_append, List.length_append, List.length_take, List.length_drop]
        omega
      · have old : v ∈ vs → It CC MM (d + 1) ν (L2.upd G3 p4 (.lst (cutV vs none (some 2) ++ ws ++ cutV vs (some 2) none))) v := fun hm => ((hv v hm).up (by omega)).mo (((Mo.keep S S1 k1).trans (Mo.keep S1 S2 k2)).trans (Mo.same sm)) lν
        have inC : ∀ {lo hi : Option Int}, v ∈ cutV vs lo hi → v ∈ vs := fun h => by
          unfold cutV at h
          exact List.mem_of_mem_drop (List.mem_of_mem_take h)
        rcases List.mem_append.mp hv' with hv' | hv'
        · rcases List.mem_append.mp hv' with hv' | hv'
          · exact old (inC hv')
          · exact (hw v hv').mo (Mo.same sm) (Mks.le_refl ν)
        · exact old (inC hv')
  · rw [if_neg (by omega)]
    exact k _ W vs H μ (Keep.refl a H) S (Mks.le_refl μ) Wm0 Wa hW (by omega) fun v h => (hv v h).up (by omega)
theorem dslots_run (S : Src H a) (k : ∀ L (zs : List Str) H', Keep a H H' → Src H' a → L ≠ a → H' L = some (.lst (zs.map V.str)) → zs.length ≤ 3 → (∀ z ∈ zs, TxtOk z) → D.nx (St10 a s1 s2 s3 s4 (some (.ref L)) s6 s7 s8 s9) H') : t_slots D (St10 a s1 s2 s3 s4 s5 s6 s7 s8 s9) H := by
  unfold t_slots
  rw [r_asg, r_rng]
  refine nx_run (by decide) (by decide) S fun n H1 b1 b2 k1 S1 => ⟨n, rfl, by omega, by omega, fun L hL => drawn_comp (stays_pure fun v => ∃ z, v = .str z ∧ TxtOk z) (by omega) S1 hL (fun i H2 QV S2 q => txt_run S2 q) fun vs H' k2 S2 hl hv hLv => ?_⟩
  obtain ⟨zs, rfl, hz⟩ := strs_of hv
  exact k L zs H' (k1.trans k2) S2 (S1.ne hL) hLv (by rw [List.length_map] at hl; omega) hz
theorem dnames_run (S : Src H a) (k : ∀ L (zs : List Str) H', Keep a H H' → Src H' a → L ≠ a → H' L = some (.lst (zs.map V.str)) → zs.length ≤ 3 → (∀ z ∈ zs, TxtOk z) → D.nx (St10 a s1 s2 s3 s4 s5 s6 (some (.ref L)) s8 s9) H') : t_names D (St10 a s1 s2 s3 s4 s5 s6 s7 s8 s9) H := by
  unfold t_names
  rw [r_asg, r_rng]
  refine nx_run (by decide) (by decide) S fun n H1 b1 b2 k1 S1 => ⟨n, rfl, by omega, by omega, fun L hL => drawn_comp (stays_pure fun v => ∃ z, v = .str z ∧ TxtOk z) (by omega) S1 hL (fun i H2 QV S2 q => txt_run S2 q) fun vs H' k2 S2 hl hv hLv => ?_⟩
  obtain ⟨zs, rfl, hz⟩ := strs_of hv
  exact k L zs H' (k1.trans k2) S2 (S1.ne hL) hLv (by rw [List.length_map] at hl; omega) hz
theorem sorts_run {L : Addr} {zs : List Str} (S : Src H a) (La : L ≠ a) (hL : H L = some (.lst (zs.map V.str))) (hl : zs.length ≤ 3) (k : ∀ p ks H', Keep a H H' → Src H' a → H' p = some (.tup (vn ks)) → ks.length = zs.length → (∀ n ∈ ks, n < 256) → D.nx (St10 a s1 s2 s3 s4 (some (.ref L)) (some (.ref p)) s7 s8 s9) H') :
    t_sorts K D (St10 a s1 s2 s3 s4 (some (.ref L)) s6 s7 s8 s9) H := by
  unfold t_sorts
  simp only [r_seq, r_next, r_brk, r_cont, r_asg, r_name, r_ret, r_retN, r_drop, r_ifs, r_never, r_var, r_c, r_op, r_un, r_if, r_tst, r_b, r_not, r_and, r_or, r_andV, r_orV, r_notV, r_nil, r_cons, r_tup, r_lst, r_cb, r_call, r_bm, r_bm0, r_sl, r_nopart, r_part, r_rev, r_gnil, r_gcons, r_gsub, r_par, r_aug, r_chain, r_I0, r_I, r_U, r_ixd, r_lend, r_tupd, r_listd, r_sld, r_app, r_ext, r_reverse, r_setl, r_cat, r_int1, r_eqS, r_neS, scal_ii, scal_bb, scal_ss, at0, at1, at2, sq_lst, sq_tup, isLst_lst, List.getElem?_cons_zero, List.getElem?_cons_succ, List.set_cons_zero, List.set_cons_succ, V.int.injEq, V.bl.injEq, V.ref.injEq, V.str.injEq, HO.lst.injEq, HO.tup.injEq, Option.some.injEq, exists_eq_left', exists_eq_left, List.cons.injEq, and_true, true_and, decide_eq_true_eq, reduceCtorEq, false_and, exists_false, or_false, false_or, exists_const, and_assoc, exists_and_left, List.append_nil, ix0, ix1, ix2, cm_mod, cdw1009, cdw2003, cdw7, cdw64, cdw2, cm104729, cm2, cm3, upd_same, List.length_cons, List.length_nil, Int.reduceLT, Int.reduceLE, Nat.reduceAdd, Nat.reduceLeDiff, Nat.reduceLT, Int.reduceToNat, r_for1, r_forL, r_forT, r_lcL, r_lc1, r_yes, r_gtupD, wipe_0, wipe_1, List.cons_append, List.nil_append, r_forS, r_ipI, ite_false, ite_true, Bool.not_true, Bool.not_false, decide_true, decide_false, r_isd, r_islt, cD_ty, cD_ref, tD_non, tD_bl, tD_int, tD_str, tD_ref, tH_lst, tH_tup, tH_dK, tH_ins, ki_self, ki_int_bool, ki_non_int, ki_str_int, ki_lt_lst, ki_lt_tup, r_fld, r_sfld, HO.ins.injEq, cx_K]
  refine ⟨⟨_, SqL.of hL⟩, fun F hF => drawn_compL (stays_pure fun v => ∃ i : Nat, v = .int (i : Int) ∧ i < 256) (by rw [List.length_map]; omega) S hF hL La (fun x H2 QV S2 q => sort_run S2 q) fun vs H' k1 S1 hlv hv hFv => ?_⟩
  obtain ⟨ns, rfl, hn⟩ := nums_of hv
  refine ⟨F, rfl, _, hFv, fun p hp => k p ns _ (k1.new hp) (S1.new hp) upd_same (by rw [vn_len, List.length_map] at hlv; exact hlv) hn⟩
end
end C51

set_option maxHeartbeats 2000000
namespace C51
open PySem PySem.Spec PyProof.Rows L2
theorem Keep.back {a p : Addr} {H H' : Hp} (k : Keep a H H') (n : p ≠ a) (h : H' p = none) : H p = none := by
  cases e : H p with
  | none => rfl
  | some o => rw [k _ _ n e] at h; cases h
section
variable {K : PySem.W.Frag} {CC CN MM a : Addr} {D : Ends} {H : Hp} {s1 s2 s3 s4 s5 s6 s7 s8 s9 : Option V}
theorem found_run {L W NN SL ps : Addr} {is ws : List V} {zs ss : List Str} (hli : is.length = 4) (S : Src H a) (La : L ≠ a) (hL : H L = some (.lst is)) (Wa : W ≠ a) (hW : H W = some (.lst ws)) (hwl : ws.length ≤ 6)
    (Na : NN ≠ a) (hN : H NN = some (.lst (zs.map V.str))) (hzl : zs.length ≤ 3) (Ta : SL ≠ a) (hT : H SL = some (.lst (ss.map V.str))) (hsl : ss.length ≤ 3)
    (k : ∀ L' pu pk pn pss (ns : List Nat) z H', Keep a H H' → Src H' a → L' ≠ a → H' L' = some (.lst (is ++ [.ref pu, .ref pk, .ref pn, .ref pss, .ref ps, .str z])) → ns.length ≤ 9 → (∀ n ∈ ns, n < 256) → H' pu = some (.tup (vn ns)) → H' pk = some (.tup ws) → H' pn = some (.tup (zs.map V.str)) → H' pss = some (.tup (ss.map V.str)) → TxtOk z →
      D.nx (St10 a s1 (some (.ref L')) (some (.ref W)) s4 (some (.ref SL)) (some (.ref ps)) (some (.ref NN)) s8 s9) H') : t_found D (St10 a s1 (some (.ref L)) (some (.ref W)) s4 (some (.ref SL)) (some (.ref ps)) (some (.ref NN)) s8 s9) H := by
  unfold t_found
  simp only [r_seq, r_next, r_brk, r_cont, r_asg, r_name, r_ret, r_retN, r_drop, r_ifs, r_never, r_var, r_c, r_op, r_un, r_if, r_tst, r_b, r_not, r_and, r_or, r_andV, r_orV, r_notV, r_nil, r_cons, r_tup, r_lst, r_cb, r_call, r_bm, r_bm0, r_sl, r_nopart, r_part, r_rev, r_gnil, r_gcons, r_gsub, r_par, r_aug, r_chain, r_I0, r_I, r_U, r_ixd, r_lend, r_tupd, r_listd, r_sld, r_app, r_ext, r_reverse, r_setl, r_cat, r_int1, r_eqS, r_neS, scal_ii, scal_bb, scal_ss, at0, at1, at2, sq_lst, sq_tup, isLst_lst, List.getElem?_cons_zero, List.getElem?_cons_succ, List.set_cons_zero, List.set_cons_succ, V.int.injEq, V.bl.injEq, V.ref.injEq, V.str.injEq, HO.lst.injEq, HO.tup.injEq, Option.some.injEq, exists_eq_left', exists_eq_left, List.cons.injEq, and_true, true_and, decide_eq_true_eq, reduceCtorEq, false_and, exists_false, or_false, false_or, exists_const, and_assoc, exists_and_left, List.append_nil, ix0, ix1, ix2, cm_mod, cdw1009, cdw2003, cdw7, cdw64, cdw2, cm104729, cm2, cm3, upd_same, List.length_cons, List.length_nil, Int.reduceLT, Int.reduceLE, Nat.reduceAdd, Nat.reduceLeDiff, Nat.reduceLT, Int.reduceToNat, r_for1, r_forL, r_forT, r_lcL, r_lc1, r_yes, r_gtupD, wipe_0, wipe_1, List.cons_append, List.nil_append, r_forS, r_ipI, ite_false, ite_true, Bool.not_true, Bool.not_false, decide_true, decide_false, r_isd, r_islt, cD_ty, cD_ref, tD_non, tD_bl, tD_int, tD_str, tD_ref, tH_lst, tH_tup, tH_dK, tH_ins, ki_self, ki_int_bool, ki_non_int, ki_str_int, ki_lt_lst, ki_lt_tup, r_fld, r_sfld, HO.ins.injEq, cx_K]
  refine byt_run (m := 9) (by decide) S fun pu ns H1 k1 S1 hnl hn hpu => ?_
  have tp : ∀ {H H' : Hp} {p : Addr} {xs : List V}, Src H a → Keep a H H' → H p = some (.tup xs) → H' p = some (.tup xs) := fun S s h => s _ _ (S.off h fun _ z => by cases z) h
  refine ⟨ws, k1 _ _ Wa hW, fun pk hk => ⟨zs.map V.str, by rw [upd_ne (ne_new (k1 _ _ Na hN) hk)]; exact k1 _ _ Na hN, fun pn hpn => ⟨ss.map V.str, ?_, fun pss hps => ?_⟩⟩⟩
  · have e := k1 _ _ Ta hT
    have e2 : L2.upd H1 pk (.tup ws) SL = some (.lst (ss.map V.str)) := by rw [upd_ne (ne_new e hk)]; exact e
    rw [upd_ne (ne_new e2 hpn)]
    exact e2
  have c1 : Same H1 (L2.upd (L2.upd (L2.upd H1 pk (.tup ws)) pn (.tup (zs.map V.str))) pss (.tup (ss.map V.str))) := Same.new' (Same.new' (Same.new' (Same.refl H1) hk) hpn) hps
  have qs : (L2.upd (L2.upd (L2.upd H1 pk (.tup ws)) pn (.tup (zs.map V.str))) pss (.tup (ss.map V.str))) pss = some (.tup (ss.map V.str)) := upd_same
  have qn : (L2.upd (L2.upd (L2.upd H1 pk (.tup ws)) pn (.tup (zs.map V.str))) pss (.tup (ss.map V.str))) pn = some (.tup (zs.map V.str)) := Same.new' (Same.refl _) hps _ _ upd_same
  have qk : (L2.upd (L2.upd (L2.upd H1 pk (.tup ws)) pn (.tup (zs.map V.str))) pss (.tup (ss.map V.str))) pk = some (.tup ws) := Same.new' (Same.new' (Same.refl _) hpn) hps _ _ upd_same
  have S2 : Src (L2.upd (L2.upd (L2.upd H1 pk (.tup ws)) pn (.tup (zs.map V.str))) pss (.tup (ss.map V.str))) a := ((S1.new hk).new hpn).new hps
  generalize L2.upd (L2.upd (L2.upd H1 pk (.tup ws)) pn (.tup (zs.map V.str))) pss (.tup (ss.map V.str)) = G at *
  refine txt_run S2 fun v H3 k3 S3 hz => ?_
  obtain ⟨z, rfl, tz⟩ := hz
  refine ⟨szl (by decide : 6 ≤ 1000), fun q hq => ⟨is, ?_, by rw [hli]; exact szl (by decide : 10 ≤ 1000), fun r hr => ?_⟩⟩
  · have e := k3 _ _ La (c1 _ _ (k1 _ _ La hL))
    rw [upd_ne (ne_new e hq)]
    exact e
  have c4 := Same.new' (o := .lst (is ++ [.ref pu, .ref pk, .ref pn, .ref pss, .ref ps, .str z])) (Same.new' (Same.refl H3) hq) hr
  have kk := (k1.trans (Keep.same c1)).trans (k3.trans (Keep.same c4))
  have S5 := S3.same c4
  have up : ∀ {p : Addr} {xs : List V}, G p = some (.tup xs) → L2.upd (L2.upd H3 q (.lst [.ref pu, .ref pk, .ref pn, .ref pss, .ref ps, .str z])) r (.lst (is ++ [.ref pu, .ref pk, .ref pn, .ref pss, .ref ps, .str z])) p = some (.tup xs) := fun h => c4 _ _ (tp S2 k3 h)
  exact k r pu pk pn pss ns z _ kk S5 (S3.new hq |>.ne hr) upd_same hnl hn (up (c1 _ _ hpu)) (up qk) (up qn) (up qs) tz
theorem dend_run {L W SL ps NN : Addr} {is : List V} (hli : is.length = 10) (S : Src H a) (La : L ≠ a) (hL : H L = some (.lst is))
    (k : ∀ L' pt pg (i : Int) (ts gs : List Nat) z H', Keep a H H' → Src H' a → H L' = none → L' ≠ a → H' L' = some (.lst (is ++ [.str z, .int i, .ref pt, .ref pg])) → 0 ≤ i → i < 1000 → ts.length ≤ 5 → (∀ n ∈ ts, n < 256) → gs.length ≤ 5 → (∀ n ∈ gs, n < 256) → H' pt = some (.tup (vn ts)) → H' pg = some (.tup (vn gs)) → TxtOk z →
      D.rt (.ref L') H') : t_end D (St10 a s1 (some (.ref L)) (some (.ref W)) s4 (some (.ref SL)) (some (.ref ps)) (some (.ref NN)) s8 s9) H := by
  unfold t_end
  simp only [r_seq, r_next, r_brk, r_cont, r_asg, r_name, r_ret, r_retN, r_drop, r_ifs, r_never, r_var, r_c, r_op, r_un, r_if, r_tst, r_b, r_not, r_and, r_or, r_andV, r_orV, r_notV, r_nil, r_cons, r_tup, r_lst, r_cb, r_call, r_bm, r_bm0, r_sl, r_nopart, r_part, r_rev, r_gnil, r_gcons, r_gsub, r_par, r_aug, r_chain, r_I0, r_I, r_U, r_ixd, r_lend, r_tupd, r_listd, r_sld, r_app, r_ext, r_reverse, r_setl, r_cat, r_int1, r_eqS, r_neS, scal_ii, scal_bb, scal_ss, at0, at1, at2, sq_lst, sq_tup, isLst_lst, List.getElem?_cons_zero, List.getElem?_cons_succ, List.set_cons_zero, List.set_cons_succ, V.int.injEq, V.bl.injEq, V.ref.injEq, V.str.injEq, HO.lst.injEq, HO.tup.injEq, Option.some.injEq, exists_eq_left', exists_eq_left, List.cons.injEq, and_true, true_and, decide_eq_true_eq, reduceCtorEq, false_and, exists_false, or_false, false_or, exists_const, and_assoc, exists_and_left, List.append_nil, ix0, ix1, ix2, cm_mod, cdw1009, cdw2003, cdw7, cdw64, cdw2, cm104729, cm2, cm3, upd_same, List.length_cons, List.length_nil, Int.reduceLT, Int.reduceLE, Nat.reduceAdd, Nat.reduceLeDiff, Nat.reduceLT, Int.reduceToNat, r_for1, r_forL, r_forT, r_lcL, r_lc1, r_yes, r_gtupD, wipe_0, wipe_1, List.cons_append, List.nil_append, r_forS, r_ipI, ite_false, ite_true, Bool.not_true, Bool.not_false, decide_true, decide_false, r_isd, r_islt, cD_ty, cD_ref, tD_non, tD_bl, tD_int, tD_str, tD_ref, tH_lst, tH_tup, tH_dK, tH_ins, ki_self, ki_int_bool, ki_non_int, ki_str_int, ki_lt_lst, ki_lt_tup, r_fld, r_sfld, HO.ins.injEq, cx_K]
  refine txt_run S fun v H1 k1 S1 hz => ?_
  obtain ⟨z, rfl, tz⟩ := hz
  refine nx_run (by decide) (by decide) S1 fun i H2 b1 b2 k2 S2 => ?_
  refine byt_run (m := 5) (by decide) S2 fun pt ts H3 k3 S3 htl ht hpt => ?_
  refine byt_run (m := 5) (by decide) S3 fun pg gs H4 k4 S4 hgl hg hpg => ?_
  refine ⟨szl (by decide : 4 ≤ 1000), fun q hq => ⟨is, ?_, by rw [hli]; exact szl (by decide : 14 ≤ 1000), fun r hr => ?_⟩⟩
  · have e := k4 _ _ La (k3 _ _ La (k2 _ _ La (k1 _ _ La hL)))
    rw [upd_ne (ne_new e hq)]
    exact e
  have kk := ((k1.trans k2).trans (k3.trans k4))
  have ra : r ≠ a := (S4.new hq).ne hr
  have c4 := Same.new' (o := .lst (is ++ [.str z, .int i, .ref pt, .ref pg])) (Same.new' (Same.refl H4) hq) hr
  have tp : ∀ {H H' : Hp} {p : Addr} {xs : List V}, Src H a → Keep a H H' → H p = some (.tup xs) → H' p = some (.tup xs) := fun S s h => s _ _ (S.off h fun _ z => by cases z) h
  exact k r pt pg i ts gs z _ (kk.trans (Keep.same c4)) (S4.same c4) ((kk.new hq).back ra hr) ra upd_same b1 b2 htl ht hgl hg (c4 _ _ (tp S3 k4 hpt)) (c4 _ _ hpg) tz
end
end C51

set_option maxHeartbeats 2000000
namespace C51
open PySem PySem.Spec PyProof.Rows L2
section
variable {K : PySem.W.Frag} {CC CN MM a : Addr} {D : Ends} {H : Hp}
theorem tup_kt {H H' : Hp} {p : Addr} {xs : List V} (S : Src H a) (s : Keep a H H') (h : H p = some (.tup xs)) : H' p = some (.tup xs) := s _ _ (S.off h fun _ z => by cases z) h
theorem TxtOk.n {z : Str} (h : TxtOk z) : TxtN 10 z := ⟨Nat.le_trans h.1 (by decide), h.ok, h.2⟩
theorem df_run {d : Nat} {sp : Sp} {μ : Mks} (hsp : 0 < d → sp = spDF CC MM (d - 1)) (hd : d ≤ 50) (S : Src H a) (W0 : Wm MM μ H)
    (k : ∀ (A : FP) (p : PF) (ks : List PV) (ws : List V) (ν : Mks) H', Keep a H H' → Src H' a → Mks.le μ ν → Wm MM ν H' → H A.L = none → A.L ≠ a → H' A.L = some (.lst (A.vs p)) → Rows CC MM ν H' A p ks ws → PfOk 10 p → gVs 3 200 10 ks → ks.length ≤ 6 → (∀ k ∈ ks, depK k ≤ d + 1 ∧ tz k ≤ Bz (d + 1)) → D.rt (.ref A.L) H') :
    t_df K CC CN MM sp D [some (.ref a), some (.int (d : Int)), none, none, none, none, none, none, none, none] H := by
  unfold t_df
  rw [r_seq]
  refine nums_run S fun L i0 i1 i2 i3 H1 k1 S1 La hL n0 n1 n2 n3 => ?_
  show tSeq _ _ _ _ _
  rw [r_seq]
  refine dwares_run (CC := CC) (MM := MM) (μ := μ) S1 fun W vs H2 k2 S2 Wa hW hl hv => ?_
  show tSeq _ _ _ _ _
  rw [r_seq]
  refine nest_run (CC := CC) (CN := CN) (MM := MM) hsp hd S2 ((W0.mo (Mo.keep S S1 k1)).mo (Mo.keep S1 S2 k2)) Wa hW hl hv fun s4' W' ws H3 ν k3 S3 lν Wν Wa' hW' hwl hw => ?_
  show tSeq _ _ _ _ _
  rw [r_seq]
  refine dslots_run S3 fun SL ss H4 k4 S4 Sa hS hsl hss => ?_
  show tSeq _ _ _ _ _
  rw [r_seq]
  refine sorts_run S4 Sa hS hsl fun ps kds H5 k5 S5 hps hkl hkd => ?_
  show tSeq _ _ _ _ _
  rw [r_seq]
  refine dnames_run S5 fun NN zs H6 k6 S6 Na hN hzl hzs => ?_
  show tSeq _ _ _ _ _
  rw [r_seq]
  have L6 : H6 L = some (.lst [.int i0, .int i1, .int i2, .int i3]) := k6 _ _ La (k5 _ _ La (k4 _ _ La (k3 _ _ La (k2 _ _ La hL))))
  have W6 : H6 W' = some (.lst ws) := k6 _ _ Wa' (k5 _ _ Wa' (k4 _ _ Wa' hW'))
  have T6 : H6 SL = some (.lst (ss.map V.str)) := k6 _ _ Sa (k5 _ _ Sa hS)
  have P6 : H6 ps = some (.tup (vn kds)) := tup_kt S5 k6 hps
  have m6 : Mo H3 H6 := ((Mo.keep S3 S4 k4).trans (Mo.keep S4 S5 k5)).trans (Mo.keep S5 S6 k6)
  refine found_run rfl S6 La L6 Wa' W6 hwl Na hN hzl Sa T6 hsl fun L7 pu pk pn pss ns z1 H7 k7 S7 La7 hL7 hnl hns hpu hpk hpn hpss tz1 => ?_
  refine dend_run rfl S7 La7 hL7 fun L8 pt pg i4 ts gs z2 H8 k8 S8 hL8 La8 hL8' b1 b2 htl ht hgl hg hpt hpg tz2 => ?_
  have m8 : Mo H3 H8 := m6.trans ((Mo.keep S6 S7 k7).trans (Mo.keep S7 S8 k8))
  have w8 : ∀ v ∈ ws, It CC MM (d + 1) ν H8 v := fun v h => (hw v h).mo m8 (Mks.le_refl ν)
  obtain ⟨ks, hp, hgk, hdk⟩ := items_of w8
  have lk := hp.length
  have kk := ((k1.trans k2).trans (k3.trans k4)).trans ((k5.trans k6).trans k7)
  exact k ⟨L8, pu, pk, pn, pss, ps, pt, pg⟩ ⟨i0, i1, i2, i3, i4, z1, z2, ns, kds, ts, gs, zs, ss⟩ ks ws ν H8 (kk.trans k8) S8 lν (Wν.mo m8) (kk.back La8 hL8) La8 hL8'
    ⟨tup_kt S7 k8 hpu, tup_kt S7 k8 hpk, tup_kt S7 k8 hpn, tup_kt S7 k8 hpss, tup_kt S7 k8 (tup_kt S6 k7 P6), hpt, hpg, hp⟩
    ⟨n0, n1, n2, n3, ⟨b1, by show i4 ≤ 2147483647; omega⟩, tz1.n, tz2.n, ⟨hns, by show ns.length ≤ 10; omega⟩, ⟨hkd, by show kds.length ≤ 10; omega⟩, ⟨ht, by show ts.length ≤ 10; omega⟩, ⟨hg, by show gs.length ≤ 10; omega⟩, ⟨fun z hz => (hzs z hz).n, by show zs.length ≤ 10; omega⟩, ⟨fun z hz => (hss z hz).n, by show ss.length ≤ 10; omega⟩, hkl⟩
    hgk (by omega) hdk
end
section
variable {P : Program} {w : World} {K : PySem.W.Frag} {mg : Str → Option Value} {base : Heap} {f : Addr} {fd : FuncData}
abbrev sdff : Stmt := top 51
theorem scdff : FnScope ["_law_source", "_law_deep", "_law_found", "_law_wares", "_law_nest", "_law_slots", "_law_sorts", "_law_names", "_law_k", "_law_name"] ["_law_source", "_law_deep"] (defScope sdff) := ⟨rfl, rfl, rfl, by decide +kernel, rfl, by decide +kernel, by decide +kernel⟩

theorem ok_df {CC CN MM : Addr} (T : Txt mg) (F : FnP K "_law_drawn_fields" "_law_drawn_fields" sdff f fd) (g : mg "_law_drawn_fields" = some (.ref f)) (bF : Binds K fd ["_law_source", "_law_deep"] []) (C_next : Cal P w K mg base 1 "_law_next" ["_law_source", "_law_many"] spNext) (C_one : Cal P w K mg base 2 "_law_one" ["_law_source", "_law_some"] spOne)
    (C_text : Cal P w K mg base 3 "_law_text" ["_law_source"] spText) (C_bytes : Cal P w K mg base 3 "_law_bytes" ["_law_source", "_law_most"] spLBytes) (C_constant : Cal P w K mg base 6 "_law_constant" ["_law_source", "_law_deep"] (spConst 2)) (CE_code : CalE P w K mg base 6 "_law_code" ["_law_some"] (spLCode CC CN MM)) :
    ∀ d, d ≤ 50 → FnOk P w K mg base CX0 (7 + d) f fd ["_law_source", "_law_deep"] (spDF CC MM d) := by
  have step : ∀ (d : Nat) (sp : Sp), d ≤ 50 → (0 < d → sp = spDF CC MM (d - 1)) → Cal P w K mg base (6 + d) "_law_drawn_fields" ["_law_source", "_law_deep"] sp → FnOk P w K mg base CX0 (7 + d) f fd ["_law_source", "_law_deep"] (spDF CC MM d) := by
    intro d sp hd hsp C_self
    rw [show 7 + d = 6 + d + 1 from by omega]
    refine F.ok scdff (fun vs H Q E h => ?_) (fun cdv A outer s H vs Q E hr h => ?_)
    · obtain ⟨a, μ, rfl, _⟩ := h
      rfl
    · obtain ⟨a, μ, rfl, hS, W0, k⟩ := h
      refine ⟨_, PSs.nox (df_reads (CC := CC) (CN := CN) (MM := MM) T hr C_next C_one C_text C_bytes C_constant CE_code C_self), ?_⟩
      exact df_run hsp hd hS W0 k
  intro d
  induction d with
  | zero =>
    intro _
    have F0 : FnOk P w K mg base CX0 6 f fd ["_law_source", "_law_deep"] (fun _ _ _ _ => False) := ⟨fun _ _ _ _ h => h.elim, fun _ _ _ _ _ _ _ _ _ _ _ _ _ h => h.elim⟩
    exact step 0 _ (by decide) (fun h => absurd h (by decide)) ⟨⟨f, fd, F0, g, F.kp, bF⟩⟩
  | succ d ih =>
    intro hd
    exact step (d + 1) _ hd (fun _ => rfl) ⟨⟨f, fd, by rw [show 6 + (d + 1) = 7 + d from by omega]; exact ih (by omega), g, F.kp, bF⟩⟩
end
end C51

set_option maxHeartbeats 2000000
namespace C51
open PySem PySem.Spec PyProof.Rows L2
/-! ### == and != of own instances: by object's, or by an own __eq__ behind object's __ne__ -/
section
variable {MO : Model} {PR : Program} {WW : World} {AA : Around} {EE : Value → Shared → Prop} {sh : Shared} {KK : PySem.W.Frag} {i1 i2 cl ef : Addr} {ob1 ob2 : Obj} {dd1 dd2 : Option Obj}
/-- a way of object's is found and handed the instance -/
theorem obj_way {nm : Str} {wy : String} {rest : List Value} {QQ : Option Value → Shared → Prop} (sl : Slot "object" nm wy) (XX : KK.In sh.heap) (II : PySem.W.InstAt sh.heap i1 ob1 cl dd1) (fi : PySem.W.findIn KK (.ref cl) nm = some (some (.builtin wy)))
    (go : wpAny MO AA (call (.builtin wy) (.ref i1 :: rest)) (fun v => QQ (some v)) EE sh) : wpAny MO AA (callSpecialIfBound? (.ref i1) nm rest) QQ EE sh := by
  unfold callSpecialIfBound?
  refine wpAny_holding (wpAny_bind ?_)
  unfold bindSpecialIfBound?
  refine wpAny_bind (wpAny_bind (II.type.here ((PySem.W.looks_findIn XX fi).here ?_)))
  refine wpAny_bind (wpAny_askSetting (wpAny_ite ?_))
  have last : wpAny MO AA (call (.builtin wy) ([.ref i1] ++ rest) >>= fun v => pure (some v)) QQ EE sh := wpAny_bind (wpAny_mono go (fun _ _ q => wpAny_pure q) fun _ _ q => q)
  split
  · exact wpAny_bind (wpAny_of_eq (sl.bind _) (wpAny_pure (by exact last)))
  · exact wpAny_tryCatch (wpAny_bind (wpAny_of_eq (sl.bind _) (wpAny_pure (by exact last))))
/-- the call of object's way, once its body is known -/
theorem obj_eq_call {QQ : Value → Shared → Prop} (XX : KK.In sh.heap) (II : PySem.W.InstAt sh.heap i1 ob1 cl dd1) (mo : PySem.W.mroIn KK cl (.type "object") = some true)
    (bd : wpAny (model PR WW) AA.in1 (Builtin.«object.__eq__» ⟨[.ref i1, .ref i2], []⟩) (fun f s' => match f with
      | .done (.ret v) => QQ v s'
      | _ => False) EE sh) : wpAny (model PR WW) AA (call (.builtin "object.__eq__") [.ref i1, .ref i2]) QQ EE sh := by
  refine wpAny_call (codeAny_call_builtin F.cmp_object.eq.plain F.cmpEntry_eq (PySem.W.check_slot F.cmpKind_eq F.cmpSplit_eq (II.type.andThen (PySem.W.looks_mroIn XX mo)) (F.cmpArgs_eq _ _) ?_))
  refine wpAny_mono bd (fun f s' h => ?_) fun _ _ h => h
  split at h
  · exact h
  · exact h.elim
theorem try_eq_same (XX : KK.In sh.heap) (II : PySem.W.InstAt sh.heap i1 ob1 cl dd1) (mo : PySem.W.mroIn KK cl (.type "object") = some true) (fi : PySem.W.findIn KK (.ref cl) "__eq__" = some (some (.builtin "object.__eq__"))) :
    wpAny (model PR WW) AA (tryCompare (.ref i1) "__eq__" (.ref i1)) (fun r s' => r = some (.bool true) ∧ s' = sh) EE sh := by
  unfold tryCompare
  exact wpAny_bind (obj_way F.cmp_object.eq XX II fi (obj_eq_call XX II mo (objEq_entry_same (wpAny_pure ⟨rfl, rfl⟩))))
theorem try_eq_other (XX : KK.In sh.heap) (II : PySem.W.InstAt sh.heap i1 ob1 cl dd1) (mo : PySem.W.mroIn KK cl (.type "object") = some true) (fi : PySem.W.findIn KK (.ref cl) "__eq__" = some (some (.builtin "object.__eq__"))) (ne : i1 ≠ i2) (h2 : sh.heap.get? i2 = some ob2) :
    wpAny (model PR WW) AA (tryCompare (.ref i1) "__eq__" (.ref i2)) (fun r s' => r = none ∧ s' = sh) EE sh := by
  unfold tryCompare
  refine wpAny_bind (obj_way F.cmp_object.eq XX II fi (obj_eq_call XX II mo (objEq_entry_other ne II.at_ h2 (fun e => ?_) (wpAny_pure ⟨rfl, rfl⟩))))
  rw [II.cls] at e
  cases e
/-- two instances of a class without an own __eq__ are equal when they are one -/
theorem rc_one {QQ : Value → Shared → Prop} (hu : AA.units < cLine) (XX : KK.In sh.heap) (I1 : PySem.W.InstAt sh.heap i1 ob1 cl dd1) (I2 : PySem.W.InstAt sh.heap i2 ob2 cl dd2) (mo : PySem.W.mroIn KK cl (.type "object") = some true)
    (fi : PySem.W.findIn KK (.ref cl) "__eq__" = some (some (.builtin "object.__eq__"))) (q : QQ (.bool (decide (i1 = i2))) sh) : wpAny (model PR WW) AA (richCompare .Eq (.ref i1) (.ref i2)) QQ EE sh := by
  unfold richCompare
  simp only [oneThing_ref, cmpInfo_Eq]
  refine wpAny_holding (wpAny_bind (wpAny_cRoomFor hu ?_))
  refine wpAny_bind (I1.type.here (wpAny_bind (I2.type.here ?_)))
  split
  · rename_i z
    exact absurd z (by simp)
  · refine wpAny_bind (wpAny_pure ?_)
    simp only [Bool.false_eq_true, if_false, Bool.not_false, if_true]
    by_cases e : i1 = i2
    · subst e
      refine wpAny_bind (m := tryCompare (.ref i1) _ (.ref i1)) (wpAny_mono (try_eq_same XX I1 mo fi) (fun r t z => ?_) fun _ _ h => h)
      obtain ⟨z1, z2⟩ := z
      subst z1 z2
      rw [decide_eq_true rfl] at q
      exact wpAny_pure q
    · rw [decide_eq_false e] at q
      refine wpAny_bind (m := tryCompare (.ref i1) _ (.ref i2)) (wpAny_mono (try_eq_other XX I1 mo fi e I2.at_) (fun r t z => ?_) fun _ _ h => h)
      obtain ⟨z1, z2⟩ := z
      subst z1 z2
      refine wpAny_bind (m := tryCompare (.ref i2) _ (.ref i1)) (wpAny_mono (try_eq_other XX I2 mo fi (Ne.symm e) I1.at_) (fun r t z => ?_) fun _ _ h => h)
      obtain ⟨z1, z2⟩ := z
      subst z1 z2
      refine wpAny_bind (wpAny_rule (wpAny_bind (wpAny_isSame_ref_other e I1.at_ I2.at_ (fun h => ?_) (wpAny_pure q))))
      rw [I1.cls] at h
      cases h
/-- object's __ne__ asks the own __eq__ -/
theorem ne_body {QQ : Fin → Shared → Prop} (hu : AA.units < cLine) (XX : KK.In sh.heap) (I1 : PySem.W.InstAt sh.heap i1 ob1 cl dd1) (fe : PySem.W.findIn KK (.ref cl) "__eq__" = some (some (.ref ef))) (hf : PySem.W.isFn KK (.ref ef) = true)
    (go : wpAny MO AA (call (.ref ef) [.ref i1, .ref i2]) (fun v s' => v = .bool true ∧ QQ (.done (.ret (.bool false))) s') EE sh) : wpAny MO AA (Builtin.«object.__ne__» ⟨[.ref i1, .ref i2], []⟩) QQ EE sh := by
  unfold Builtin.«object.__ne__»
  repeat (first | with_reducible refine wpAny_cRoomFor hu ?_ | with_reducible refine PySem.W.ifBound_K XX I1 fe hf (wpAny_mono go (fun v t h => ?_) fun _ _ h => h) | wp_step)
  obtain ⟨e, h⟩ := h
  subst e
  dsimp only
  exact wpAny_bind (wpAny_truthy_bool (wpAny_pure h))
/-- != of two instances whose own __eq__ gives True -/
theorem rc_ne {QQ : Value → Shared → Prop} (hu : AA.units + 1 < cLine) (XX : KK.In sh.heap) (I1 : PySem.W.InstAt sh.heap i1 ob1 cl dd1) (I2 : PySem.W.InstAt sh.heap i2 ob2 cl dd2) (mo : PySem.W.mroIn KK cl (.type "object") = some true)
    (fn : PySem.W.findIn KK (.ref cl) "__ne__" = some (some (.builtin "object.__ne__"))) (fe : PySem.W.findIn KK (.ref cl) "__eq__" = some (some (.ref ef))) (hf : PySem.W.isFn KK (.ref ef) = true)
    (go : wpAny (model PR WW) AA.in1 (call (.ref ef) [.ref i1, .ref i2]) (fun v s' => v = .bool true ∧ QQ (.bool false) s') EE sh) : wpAny (model PR WW) AA (richCompare .NotEq (.ref i1) (.ref i2)) QQ EE sh := by
  have one : wpAny (model PR WW) AA (tryCompare (.ref i1) "__ne__" (.ref i2)) (fun r s' => r = some (.bool false) ∧ QQ (.bool false) s') EE sh := by
    unfold tryCompare
    refine wpAny_bind (obj_way F.cmp_object.ne XX I1 fn (wpAny_call (codeAny_call_builtin F.cmp_object.ne.plain F.cmpEntry_ne (PySem.W.check_slot F.cmpKind_ne F.cmpSplit_ne (I1.type.andThen (PySem.W.looks_mroIn XX mo)) (F.cmpArgs_ne _ _) ?_))))
    exact ne_body (by show AA.units + 1 < cLine; exact hu) XX I1 fe hf (wpAny_mono go (fun v s' h => ⟨h.1, wpAny_pure ⟨rfl, h.2⟩⟩) fun _ _ h => h)
  unfold richCompare
  simp only [oneThing_ref, cmpInfo_NotEq]
  refine wpAny_holding (wpAny_bind (wpAny_cRoomFor (by omega) ?_))
  refine wpAny_bind (I1.type.here (wpAny_bind (I2.type.here ?_)))
  split
  · rename_i z
    exact absurd z (by simp)
  · refine wpAny_bind (wpAny_pure ?_)
    simp only [Bool.false_eq_true, if_false, Bool.not_false, if_true]
    refine wpAny_bind (m := tryCompare (.ref i1) _ (.ref i2)) (wpAny_mono one (fun r t z => ?_) fun _ _ h => h)
    obtain ⟨z1, z2⟩ := z
    subst z1
    exact wpAny_pure z2
end
section
variable {X : Cx}
/-- == of two instances of a class without an own __eq__ -/
def rIdn (K : PySem.W.Frag) : R2 := fun x y H Q => ∃ (a b C dx dy : Addr) (fs gs : List (Str × V)), x = .ref a ∧ y = .ref b ∧ H a = some (.ins C dx fs) ∧ H b = some (.ins C dy gs) ∧ PySem.W.mroIn K C (.type "object") = some true ∧
  PySem.W.findIn K (.ref C) "__eq__" = some (some (.builtin "object.__eq__")) ∧ Q (.bl (decide (a = b))) H
theorem op_idn (hu : X.A.units < cLine) : OpR X (compareOp .Eq) (rIdn X.K) := fun pins s σ H x y v u Q I rx ry h => by
  obtain ⟨a, b, C, dx, dy, fs, gs, rfl, rfl, ha, hb, hm, hs, q⟩ := h
  cases rx
  cases ry
  obtain ⟨_, oa, _⟩ := ins_get I.hok ha
  obtain ⟨_, ob, _⟩ := ins_get I.hok hb
  obtain ⟨_, ia, _⟩ := oa.look
  obtain ⟨_, ib, _⟩ := ob.look
  exact rc_one hu I.kIn ia ib hm hs ⟨.bl _, H, I, rfl, q⟩
/-- an own __eq__ is called, somewhere below the body that runs -/
theorem eq_called {CX : CXT} {n : Nat} {g : Addr} {gd : FuncData} {ps : List Str} {R : Addr → Addr → Hp → Prop} {E : XK} {B : Around} {pins : List (Addr × Obj)} {s : Shared} {σ : L2.St} {H : Hp} {a b : Addr} {QQ : Value → Shared → Prop} (G : FnOk X.prog X.w X.K X.mg X.base CX n g gd ps (spEq R)) (bi : Binds X.K gd ps [])
    (pa : Passes CX X E) (ro : Room n B) (fr : B.frames = X.A.frames) (I : L2.Inv X pins σ H s) (hR : R a b H) (q : ∀ s' H', L2.Inv X pins σ H' s' → Ext H H' → QQ (.bool true) s') : wpAny (model X.prog X.w) B (call (.ref g) [.ref a, .ref b]) QQ X.xe s := by
  have pr : spEq R [.ref a, .ref b] H (fun v H' => v = .bl true ∧ Ext H H') E := ⟨a, b, rfl, hR, fun H' e => ⟨rfl, e⟩⟩
  have en : Env0 X.prog X.w X.K X.mg X.base B X.stack s H := by
    obtain ⟨z1, z2, z3, z4, z5, z6, z7, z8⟩ := I.env0
    exact ⟨fr.trans z1, z2, z3, z4, z5, z6, z7, z8⟩
  have two : Vals [V.ref a, V.ref b] [Value.ref a, Value.ref b] := .cons rfl (.cons rfl .nil)
  have bo := bi s [.ref a, .ref b] I.kIn (by have := G.len _ _ _ _ pr; simpa using this)
  refine wpAny_call (codeAny_mono (G.run B X.stack s H ⟨[.ref a, .ref b], []⟩ [.ref a, .ref b] [.ref a, .ref b] _ E ro en (by simpa using bo) two pr) fun r t h => ?_)
  match r, h with
  | .error e, h => exact pa pins σ H s e t I h
  | .ok (.ret w), h =>
    obtain ⟨z, H', J, rz, ez, ex⟩ := I.after h
    subst ez
    cases rz
    exact q t H' J ex
/-- x != y of two instances whose own == gives True -/
def rNeO (C : Addr) (R : Addr → Addr → Hp → Prop) : R2 := fun x y H Q => ∃ (a b dx dy : Addr) (fs gs : List (Str × V)), x = .ref a ∧ y = .ref b ∧ H a = some (.ins C dx fs) ∧ H b = some (.ins C dy gs) ∧ R a b H ∧ ∀ H', Ext H H' → Q (.bl false) H'
theorem op_neO {CX : CXT} {n : Nat} {C g : Addr} {gd : FuncData} {ps : List Str} {R : Addr → Addr → Hp → Prop} {E : XK} (G : FnOk X.prog X.w X.K X.mg X.base CX n g gd ps (spEq R)) (bi : Binds X.K gd ps []) (pa : Passes CX X E) (ro : Room (n + 1) X.A)
    (mo : PySem.W.mroIn X.K C (.type "object") = some true) (fn : PySem.W.findIn X.K (.ref C) "__ne__" = some (some (.builtin "object.__ne__"))) (fe : PySem.W.findIn X.K (.ref C) "__eq__" = some (some (.ref g))) (hf : PySem.W.isFn X.K (.ref g) = true) : OpR X (compareOp .NotEq) (rNeO C R) := fun pins s σ H x y v u Q I rx ry h => by
  obtain ⟨a, b, dx, dy, fs, gs, rfl, rfl, ha, hb, hR, q⟩ := h
  cases rx
  cases ry
  obtain ⟨_, oa, _⟩ := ins_get I.hok ha
  obtain ⟨_, ob, _⟩ := ins_get I.hok hb
  obtain ⟨_, ia, _⟩ := oa.look
  obtain ⟨_, ib, _⟩ := ob.look
  have un := ro.un
  exact rc_ne (by omega) I.kIn ia ib mo fn fe hf (eq_called G bi pa ro.in1 rfl I hR fun s' H' J e => ⟨rfl, .bl false, H', J, rfl, q H' e⟩)
/-- one and the same value is equal to itself inside a container -/
def DSame : Eqv := fun x y _ => x = y ∧ (flatB x = true ∨ ∃ a, x = .ref a)
theorem mon_same : Mon DSame := fun _ _ _ _ _ d => d
theorem eqG_same {pn : Nat} : EqG X pn DSame := fun A pins s σ H x y u v sb I rx ry d => by
  obtain ⟨e, d⟩ := d
  subst e
  rcases d with f | ⟨a, rfl⟩
  · exact eqAt_same rx ry f X.prog X.w X.xe _ ⟨rfl, H, I, Ext.rfl'⟩
  · cases rx
    cases ry
    exact SeqAt.EqAt.same _ X.prog X.w X.xe _ ⟨rfl, H, I, Ext.rfl'⟩
end

/-! ### == and != of data of any depth -/
def rEqW (K : PySem.W.Frag) : R2 := fun x y H Q => ∃ d e : PyData, Dp K H x d ∧ Dp K H y e ∧ d.canLay0 = true ∧ e.canLay0 = true ∧ min d.depth e.depth ≤ 150 ∧ Q (.bl (PyData.eqv d e)) H
def rNeW (K : PySem.W.Frag) : R2 := fun x y H Q => ∃ d e : PyData, Dp K H x d ∧ Dp K H y e ∧ d.canLay0 = true ∧ e.canLay0 = true ∧ min d.depth e.depth ≤ 150 ∧ Q (.bl (!PyData.eqv d e)) H
theorem op_eqW {X : Cx} (hu : X.A.units + 200 < cLine) : OpR X (compareOp .Eq) (rEqW X.K) := fun pins s σ H x y v u Q I rx ry h => by
  obtain ⟨d, e, hd, he, c1, c2, hdp, q⟩ := h
  obtain ⟨as, r1⟩ := Dp.reads I d x v hd rx
  obtain ⟨bs, r2⟩ := Dp.reads I e y u he ry
  exact SeqAt.compareEq_reads r1 r2 c1 c2 (by omega) ⟨.bl _, H, I, rfl, q⟩
theorem op_neW {X : Cx} (hu : X.A.units + 200 < cLine) : OpR X (compareOp .NotEq) (rNeW X.K) := fun pins s σ H x y v u Q I rx ry h => by
  obtain ⟨d, e, hd, he, c1, c2, hdp, q⟩ := h
  obtain ⟨as, r1⟩ := Dp.reads I d x v hd rx
  obtain ⟨bs, r2⟩ := Dp.reads I e y u he ry
  exact SeqAt.compareNe_reads r1 r2 c1 c2 (by omega) ⟨.bl _, H, I, rfl, q⟩
theorem r_eqW {K : PySem.W.Frag} {x y : V} {H : Hp} {Q : VK} : rEqW K x y H Q = ∃ d e : PyData, Dp K H x d ∧ Dp K H y e ∧ d.canLay0 = true ∧ e.canLay0 = true ∧ min d.depth e.depth ≤ 150 ∧ Q (.bl (PyData.eqv d e)) H := rfl
theorem r_neW {K : PySem.W.Frag} {x y : V} {H : Hp} {Q : VK} : rNeW K x y H Q = ∃ d e : PyData, Dp K H x d ∧ Dp K H y e ∧ d.canLay0 = true ∧ e.canLay0 = true ∧ min d.depth e.depth ≤ 150 ∧ Q (.bl (!PyData.eqv d e)) H := rfl
/-! ### constants as data -/
mutual
def dC : CV → PyData
  | .non => .none
  | .bl b => .bool b
  | .int i => .int i
  | .str z => .str z
  | .tup xs => .tuple (dCs xs)
def dCs : List CV → List PyData
  | [] => []
  | x :: xs => dC x :: dCs xs
end
mutual
theorem Rc.dp {K : PySem.W.Frag} {H : Hp} : ∀ {v : V} {x : CV}, Rc H v x → Dp K H v (dC x)
  | _, _, .non => by unfold dC; exact .non
  | _, _, .bl b => by unfold dC; exact .bl b
  | _, _, .int i => by unfold dC; exact .int i
  | _, _, .str z => by unfold dC; exact .str z
  | _, _, .tup h t => by unfold dC; exact .tup (SqT.of h) (Rcs.dp t)
theorem Rcs.dp {K : PySem.W.Frag} {H : Hp} : ∀ {vs : List V} {xs : List CV}, Rcs H vs xs → DpAll K H vs (dCs xs)
  | _, _, .nil => by unfold dCs; exact .nil
  | _, _, .cons h t => by unfold dCs; exact .cons (Rc.dp h) (Rcs.dp t)
end
theorem lay_okS {z : Str} (h : OkS z) : PyData.canLay0 (.str z) = true := by
  have h1 := h.1
  simp only [PyData.canLay0]
  show z.cps.all (· < 0x110000) = true
  rw [← Array.all_toList]
  refine List.all_eq_true.mpr fun c hc => ?_
  have h2 : z.cps.all (fun c => decide (c < 128)) = true := h1
  rw [← Array.all_toList] at h2
  have := of_decide_eq_true (List.all_eq_true.mp h2 c hc)
  simp only [decide_eq_true_eq]
  omega
mutual
theorem lay_C : ∀ {x : CV} {k : Nat}, kOk x k → (dC x).canLay0 = true
  | .non, _, _ => by unfold dC; rfl
  | .bl _, _, _ => by unfold dC; rfl
  | .int _, _, _ => by unfold dC; rfl
  | .str z, _, h => by
    unfold kOk at h
    unfold dC
    exact lay_okS h
  | .tup xs, k, h => by
    unfold kOk at h
    obtain ⟨j, _, h⟩ := h
    unfold dC
    simp only [PyData.canLay0]
    exact lay_Cs h
theorem lay_Cs : ∀ {xs : List CV} {k : Nat}, kOks xs k → PyData.canLayAll0 (dCs xs) = true
  | [], _, _ => by unfold dCs; rfl
  | x :: xs, k, h => by
    unfold kOks at h
    unfold dCs
    simp only [PyData.canLayAll0, lay_C h.1, lay_Cs h.2, Bool.and_self]
end
mutual
theorem dep_C : ∀ {x : CV} {k : Nat}, kOk x k → (dC x).depth ≤ k
  | .non, _, _ => by unfold dC; simp [PyData.depth]
  | .bl _, _, _ => by unfold dC; simp [PyData.depth]
  | .int _, _, _ => by unfold dC; simp [PyData.depth]
  | .str z, _, h => by unfold dC; simp [PyData.depth]
  | .tup xs, k, h => by
    unfold kOk at h
    obtain ⟨j, e, h⟩ := h
    have := dep_Cs h
    unfold dC
    simp only [PyData.depth]
    omega
theorem dep_Cs : ∀ {xs : List CV} {k : Nat}, kOks xs k → PyData.depthAll (dCs xs) ≤ k
  | [], _, _ => by unfold dCs; simp [PyData.depthAll]
  | x :: xs, k, h => by
    unfold kOks at h
    have h1 := dep_C h.1
    have h2 := dep_Cs h.2
    unfold dCs
    simp only [PyData.depthAll]
    omega
end
end C51

set_option maxHeartbeats 2000000
namespace C51
open PySem PySem.Spec PyProof.Rows L2
/-- the parts but for the constants -/
def pas (A : FP) (p : PF) : List V := [.int p.i0, .int p.i1, .int p.i2, .int p.i3, .ref A.pu, .ref A.pn, .ref A.ps, .ref A.pd, .str p.z1, .str p.z2, .int p.i4, .ref A.pt, .ref A.pg]
def spPartsAlike (CC MM : Addr) : Sp := fun vs H Q _ => ∃ (c : Addr) (p : PF) (d : Nat) (ks : List V) (A : FP) (m : Addr), vs = [.ref c] ∧ CodeAt CC MM H c p d ks A m ∧ ∀ q, H q = none → Q (.ref q) (L2.upd H q (.tup (pas A p)))
section
variable {P : Program} {w : World} {K : PySem.W.Frag} {mg : Str → Option Value} {base : Heap} {f : Addr} {fd : FuncData}
abbrev spalike : Stmt := inClass (top 9) 2
theorem scpalike : FnScope ["self"] ["self"] (defScope spalike) := ⟨rfl, rfl, rfl, by decide +kernel, rfl, by decide +kernel, by decide +kernel⟩

theorem ok_palike {CC MM : Addr} (T : Txt mg) (I : CodeT K mg CC) (F : FnP K "parts_alike" "Code.parts_alike" spalike f fd) : FnOk P w K mg base CX0 1 f fd ["self"] (spPartsAlike CC MM) := by
  refine F.ok scpalike (fun vs H Q E h => ?_) (fun cdv A outer s H vs Q E hr h => ?_)
  · obtain ⟨c, p, d, ks, A, m, rfl, _⟩ := h
    rfl
  · refine ⟨_, PSs.nox (pss_one (ps_ret (pe_tup (pa_cons (pe_fld (pv 0) rfl) (pa_cons (pe_fld (pv 0) rfl) (pa_cons (pe_fld (pv 0) rfl) (pa_cons (pe_fld (pv 0) rfl) (pa_cons (pe_fld (pv 0) rfl) (pa_cons (pe_fld (pv 0) rfl) (pa_cons (pe_fld (pv 0) rfl) (pa_cons (pe_fld (pv 0) rfl) (pa_cons (pe_fld (pv 0) rfl) (pa_cons (pe_fld (pv 0) rfl) (pa_cons (pe_fld (pv 0) rfl) (pa_cons (pe_fld (pv 0) rfl) (pa_cons (pe_fld (pv 0) rfl) pa_nil)))))))))))))))), ?_⟩
    obtain ⟨c, p, d, ks, A, m, rfl, ⟨dx, fs, f1, f2, f3, f4, f5, f6, f7, f8, f9, f10, f11, f12, f13, f14, f15, f16, f17, f18, f19, f20, f21, f22, f23, f24, ⟨md, f25⟩, f26⟩, k⟩ := h
    show (_ : TS) _ [some (.ref c)] H
    have cl := I.cI.cl
    have n1 := I.na "argcount" (by decide)
    have n2 := I.na "onlycount" (by decide)
    have n3 := I.na "stacksize" (by decide)
    have n4 := I.na "flags" (by decide)
    have n5 := I.na "code" (by decide)
    have n8 := I.na "names" (by decide)
    have n9 := I.na "slots" (by decide)
    have n10 := I.na "kinds" (by decide)
    have n11 := I.na "name" (by decide)
    have n12 := I.na "path" (by decide)
    have n13 := I.na "line" (by decide)
    have n14 := I.na "lines" (by decide)
    have n15 := I.na "handlers" (by decide)
    simp only [r_seq, r_next, r_brk, r_cont, r_asg, r_name, r_ret, r_retN, r_drop, r_ifs, r_never, r_var, r_c, r_op, r_un, r_if, r_tst, r_b, r_not, r_and, r_or, r_andV, r_orV, r_notV, r_nil, r_cons, r_tup, r_lst, r_cb, r_call, r_bm, r_bm0, r_sl, r_nopart, r_part, r_rev, r_gnil, r_gcons, r_gsub, r_par, r_aug, r_chain, r_I0, r_I, r_U, r_ixd, r_lend, r_tupd, r_listd, r_sld, r_app, r_ext, r_reverse, r_setl, r_cat, r_int1, r_eqS, r_neS, scal_ii, scal_bb, scal_ss, at0, at1, at2, sq_lst, sq_tup, isLst_lst, List.getElem?_cons_zero, List.getElem?_cons_succ, List.set_cons_zero, List.set_cons_succ, V.int.injEq, V.bl.injEq, V.ref.injEq, V.str.injEq, HO.lst.injEq, HO.tup.injEq, Option.some.injEq, exists_eq_left', exists_eq_left, List.cons.injEq, and_true, true_and, decide_eq_true_eq, reduceCtorEq, false_and, exists_false, or_false, false_or, exists_const, and_assoc, exists_and_left, List.append_nil, ix0, ix1, ix2, cm_mod, cdw1009, cdw2003, cdw7, cdw64, cdw2, cm104729, cm2, cm3, upd_same, List.length_cons, List.length_nil, Int.reduceLT, Int.reduceLE, Nat.reduceAdd, Nat.reduceLeDiff, Nat.reduceLT, Int.reduceToNat, r_for1, r_forL, r_forT, r_lcL, r_lc1, r_yes, r_gtupD, wipe_0, wipe_1, List.cons_append, List.nil_append, r_forS, r_ipI, ite_false, ite_true, Bool.not_true, Bool.not_false, decide_true, decide_false, r_isd, r_islt, cD_ty, cD_ref, tD_non, tD_bl, tD_int, tD_str, tD_ref, tH_lst, tH_tup, tH_dK, tH_ins, ki_self, ki_int_bool, ki_non_int, ki_str_int, ki_lt_lst, ki_lt_tup, r_fld, r_sfld, HO.ins.injEq, cx_K]
    exact ⟨CC, dx, fs, f1, cl, n1, _, f2, CC, dx, fs, f1, cl, n2, _, f3, CC, dx, fs, f1, cl, n3, _, f4, CC, dx, fs, f1, cl, n4, _, f5, CC, dx, fs, f1, cl, n5, _, f6, CC, dx, fs, f1, cl, n8, _, f9, CC, dx, fs, f1, cl, n9, _, f10, CC, dx, fs, f1, cl, n10, _, f11,
      CC, dx, fs, f1, cl, n11, _, f12, CC, dx, fs, f1, cl, n12, _, f13, CC, dx, fs, f1, cl, n13, _, f14, CC, dx, fs, f1, cl, n14, _, f15, CC, dx, fs, f1, cl, n15, _, f16, szl (by decide : 13 ≤ 1000), fun q hq => k q hq⟩
end
/-! ### the parts as data -/
def numsD (ns : List Nat) : PyData := .tuple (ns.map fun (n : Nat) => PyData.int (n : Int))
def strsD (zs : List Str) : PyData := .tuple (zs.map PyData.str)
def pasD (p : PF) : PyData := .tuple [.int p.i0, .int p.i1, .int p.i2, .int p.i3, numsD p.ds, strsD p.zs, strsD p.ss, numsD p.kds, .str p.z1, .str p.z2, .int p.i4, numsD p.lns, numsD p.gds]
section
variable {K : PySem.W.Frag} {H : Hp}
theorem dp_vn : ∀ {ns : List Nat}, DpAll K H (vn ns) (ns.map fun (n : Nat) => PyData.int (n : Int))
  | [] => .nil
  | n :: ns => .cons (.int _) dp_vn
theorem dp_zs : ∀ {zs : List Str}, DpAll K H (zs.map V.str) (zs.map PyData.str)
  | [] => .nil
  | z :: zs => .cons (.str _) dp_zs
theorem dp_pas {CC MM c q m : Addr} {p : PF} {d : Nat} {ks : List V} {A : FP} (h : CodeAt CC MM H c p d ks A m) (hq : H q = some (.tup (pas A p))) : Dp K H (.ref q) (pasD p) := by
  obtain ⟨dx, fs, f1, f2, f3, f4, f5, f6, f7, f8, f9, f10, f11, f12, f13, f14, f15, f16, f17, f18, f19, f20, f21, f22, f23, f24, ⟨md, f25⟩, f26⟩ := h
  exact .tup (SqT.of hq) (.cons (.int _) (.cons (.int _) (.cons (.int _) (.cons (.int _) (.cons (.tup (SqT.of f18) dp_vn) (.cons (.tup (SqT.of f20) dp_zs) (.cons (.tup (SqT.of f21) dp_zs) (.cons (.tup (SqT.of f22) dp_vn) (.cons (.str _) (.cons (.str _) (.cons (.int _) (.cons (.tup (SqT.of f23) dp_vn) (.cons (.tup (SqT.of f24) dp_vn) .nil)))))))))))))
end
theorem lay_n : ∀ (ns : List Nat), PyData.canLayAll0 (ns.map fun (n : Nat) => PyData.int (n : Int)) = true
  | [] => rfl
  | n :: ns => by
    simp only [List.map_cons, PyData.canLayAll0, PyData.canLay0, Bool.true_and]
    exact lay_n ns
theorem lay_s : ∀ (zs : List Str), (∀ z ∈ zs, OkS z) → PyData.canLayAll0 (zs.map PyData.str) = true
  | [], _ => rfl
  | z :: zs, h => by
    simp only [List.map_cons, PyData.canLayAll0, Bool.and_eq_true]
    exact ⟨lay_okS (h z List.mem_cons_self), lay_s zs fun x hx => h x (List.mem_cons_of_mem _ hx)⟩
theorem dep_n : ∀ (ns : List Nat), PyData.depthAll (ns.map fun (n : Nat) => PyData.int (n : Int)) = 0
  | [] => rfl
  | n :: ns => by
    simp only [List.map_cons, PyData.depthAll, PyData.depth]
    rw [dep_n ns]
    rfl
theorem dep_s : ∀ (zs : List Str), PyData.depthAll (zs.map PyData.str) = 0
  | [] => rfl
  | z :: zs => by
    simp only [List.map_cons, PyData.depthAll, PyData.depth]
    rw [dep_s zs]
    rfl
theorem lay_pas {p : PF} {n : Nat} (ok : PfOk n p) : (pasD p).canLay0 = true := by
  unfold pasD numsD strsD
  simp only [PyData.canLay0, PyData.canLayAll0, lay_n, lay_s _ fun z hz => (ok.zs.1 z hz).2.1, lay_s _ fun z hz => (ok.ss.1 z hz).2.1, Bool.true_and, Bool.and_true, Bool.and_eq_true]
  have h1 := lay_okS ok.z1.2.1
  have h2 := lay_okS ok.z2.2.1
  simp only [PyData.canLay0] at h1 h2
  exact ⟨h1, h2⟩
theorem sh_pas {p : PF} {n : Nat} (ok : PfOk n p) : SeqAt.shaped (pasD p) = true := by
  unfold SeqAt.shaped
  rw [lay_pas ok, Bool.true_and]
  unfold pasD numsD strsD
  simp only [PyData.depth, PyData.depthAll, dep_n, dep_s]
  decide
theorem eqv_n : ∀ {ns ms : List Nat}, PyData.eqvAll (ns.map fun (n : Nat) => PyData.int (n : Int)) (ms.map fun (n : Nat) => PyData.int (n : Int)) = true ↔ ns = ms
  | [], [] => by simp [PyData.eqvAll]
  | [], _ :: _ => by simp [PyData.eqvAll]
  | _ :: _, [] => by simp [PyData.eqvAll]
  | n :: ns, m :: ms => by
    simp only [List.map_cons, PyData.eqvAll, PyData.eqv, Bool.and_eq_true, eqv_n (ns := ns) (ms := ms), List.cons.injEq, beq_iff_eq, Int.ofNat_inj]
theorem eqv_s : ∀ {ns ms : List Str}, PyData.eqvAll (ns.map PyData.str) (ms.map PyData.str) = true ↔ ns = ms
  | [], [] => by simp [PyData.eqvAll]
  | [], _ :: _ => by simp [PyData.eqvAll]
  | _ :: _, [] => by simp [PyData.eqvAll]
  | n :: ns, m :: ms => by
    simp only [List.map_cons, PyData.eqvAll, PyData.eqv, Bool.and_eq_true, eqv_s (ns := ns) (ms := ms), List.cons.injEq, beq_iff_eq]
theorem eqv_pas {p q : PF} : PyData.eqv (pasD p) (pasD q) = true ↔ p = q := by
  obtain ⟨a0, a1, a2, a3, a4, a5, a6, a7, a8, a9, a10, a11, a12⟩ := p
  obtain ⟨b0, b1, b2, b3, b4, b5, b6, b7, b8, b9, b10, b11, b12⟩ := q
  unfold pasD numsD strsD
  simp only [PyData.eqv, PyData.eqvAll, Bool.and_eq_true, eqv_n, eqv_s, PF.mk.injEq, beq_iff_eq, and_true]
  constructor
  · rintro ⟨h1, h2, h3, h4, h5, h6, h7, h8, h9, h10, h11, h12, h13⟩
    exact ⟨h1, h2, h3, h4, h11, h9, h10, h5, h8, h12, h13, h6, h7⟩
  · rintro ⟨h1, h2, h3, h4, h11, h9, h10, h5, h8, h12, h13, h6, h7⟩
    exact ⟨h1, h2, h3, h4, h5, h6, h7, h8, h9, h10, h11, h12, h13⟩
end C51

set_option maxHeartbeats 2000000
namespace C51
open PySem PySem.Spec PyProof.Rows L2
/-! ### constants told apart -/
mutual
def tlC : CV → List V
  | .non => [.str "bool", .non]
  | .bl b => [.str "bool", .bl b]
  | .int i => [.str "int", .int i]
  | .str z => [.str "str", .str z]
  | .tup xs => .str "tuple" :: .int (xs.length : Int) :: tlCs xs
def tlCs : List CV → List V
  | [] => []
  | x :: xs => tlC x ++ tlCs xs
end
mutual
def tdC : CV → List PyData
  | .non => [.str "bool", .none]
  | .bl b => [.str "bool", .bool b]
  | .int i => [.str "int", .int i]
  | .str z => [.str "str", .str z]
  | .tup xs => .str "tuple" :: .int (xs.length : Int) :: tdCs xs
def tdCs : List CV → List PyData
  | [] => []
  | x :: xs => tdC x ++ tdCs xs
end
theorem tlCs_app : ∀ (xs ys : List CV), tlCs (xs ++ ys) = tlCs xs ++ tlCs ys
  | [], ys => by rw [List.nil_append, tlCs, List.nil_append]
  | x :: xs, ys => by rw [List.cons_append, tlCs, tlCs_app xs ys, tlCs, List.append_assoc]
theorem tdCs_app : ∀ (xs ys : List CV), tdCs (xs ++ ys) = tdCs xs ++ tdCs ys
  | [], ys => by rw [List.nil_append, tdCs, List.nil_append]
  | x :: xs, ys => by rw [List.cons_append, tdCs, tdCs_app xs ys, tdCs, List.append_assoc]
theorem szCs_app : ∀ (xs ys : List CV), szCs (xs ++ ys) = szCs xs + szCs ys
  | [], ys => by rw [List.nil_append, szCs, Nat.zero_add]
  | x :: xs, ys => by rw [List.cons_append, szCs, szCs_app xs ys, szCs, Nat.add_assoc]
theorem len_le_sz : ∀ xs : List CV, xs.length ≤ szCs xs
  | [] => by unfold szCs; exact Nat.le_refl 0
  | x :: xs => by
    have := szC_pos x
    have := len_le_sz xs
    unfold szCs
    rw [List.length_cons]
    omega
def Tell (H : Hp) (p F W : Addr) (tot : List V) (m : Nat) (σ : L2.St) (H1 : Hp) : Prop := (∃ v3, σ = [some (.ref p), some (.ref F), some (.ref W), v3]) ∧ Same H H1 ∧ ∃ (acc ws : List V) (xs : List CV), H1 F = some (.lst acc) ∧ H1 W = some (.lst ws.reverse) ∧ Rcs H ws xs ∧ szCs xs = m ∧ acc ++ tlCs xs = tot ∧ acc.length + 2 * m ≤ 200000 ∧ m ≤ 100000
def t_tell (K : PySem.W.Frag) (CC : Addr) : TS := tSeq (tAsg (tBM0 K "list" rPop (tVar 2)) (gName 3)) (tIfS (tB (tCB (rIsD K CC) (tCons (tVar 3) (tCons (tC (V.ty "tuple")) tNil))))
  (tSeq (tDrop (tBM K "list" rExtend (tVar 1) (tCons (tLst (tCons (tC (V.str "tuple")) (tCons (tCB rLend (tCons (tVar 3) tNil)) tNil))) tNil))) (tDrop (tBM K "list" rExtend (tVar 2) (tCons (tListRev (tVar 3)) tNil))))
  (tIfS (tOr (tTest (tOp (fun x y H Q => y = V.non ∧ Q (V.bl (decide (x = V.non))) H) (tVar 3) (tC V.non))) (tB (tCB (rIsD K CC) (tCons (tVar 3) (tCons (tC (V.ty "bool")) tNil)))))
    (tDrop (tBM K "list" rExtend (tVar 1) (tCons (tLst (tCons (tC (V.str "bool")) (tCons (tVar 3) tNil))) tNil)))
    (tDrop (tBM K "list" rExtend (tVar 1) (tCons (tLst (tCons (tIf (tB (tCB (rIsD K CC) (tCons (tVar 3) (tCons (tC (V.ty "int")) tNil)))) (tC (V.str "int")) (tC (V.str "str"))) (tCons (tVar 3) tNil))) tNil)))))
def t_told (K : PySem.W.Frag) (CC : Addr) : TS := tSeq (tAsg (tLst tNil) (gName 1)) (tSeq (tAsg (tListRev (tVar 0)) (gName 2)) (tSeq (tWhile (fun σ H_1 Q => tVar 2 σ H_1 fun x H' => ∃ k, TruV K x H' k ∧ Q k H') (t_tell K CC)) (tRet (tCB rTupd (tCons (tVar 1) tNil)))))
theorem tell_run {K : PySem.W.Frag} {CC p F W : Addr} {H H1 : Hp} {v3 : Option V} {acc ws : List V} {v : V} {x : CV} {xs : List CV} {tot : List V} {Dn : Ends} (F0 : H F = none) (W0 : H W = none) (FW : F ≠ W) (s1 : Same H H1) (hF : H1 F = some (.lst acc)) (hW : H1 W = some (.lst (v :: ws).reverse)) (hv : Rc H v x) (hw : Rcs H ws xs)
    (ht : acc ++ tlCs (x :: xs) = tot) (hb : acc.length + 2 * szCs (x :: xs) ≤ 200000) (hm : szCs (x :: xs) ≤ 100000) (q : ∀ m' σ H', m' < szCs (x :: xs) → Tell H p F W tot m' σ H' → Dn.nx σ H') : t_tell K CC Dn [some (.ref p), some (.ref F), some (.ref W), v3] H1 := by
  unfold t_tell
  have rl : ((v :: ws).reverse)[((v :: ws).reverse).length - 1]? = some v := by simp
  have dl : ((v :: ws).reverse).dropLast = ws.reverse := by simp
  have pos := szC_pos x
  have esz : szCs (x :: xs) = szC x + szCs xs := by rw [szCs]
  rw [esz] at hb hm q
  have r_lr : ∀ {te : TE} {σ : L2.St} {H : Hp} {Q : VK}, tListRev te σ H Q = te σ H fun v H1 => ∃ (a : Addr) (xs : List V), v = .ref a ∧ H1 a = some (.tup xs) ∧ ∀ q, H1 q = none → Q (.ref q) (L2.upd H1 q (.lst xs.reverse)) := fun {_ _ _ _} => rfl
  simp only [r_seq, r_next, r_brk, r_cont, r_asg, r_name, r_ret, r_retN, r_drop, r_ifs, r_never, r_var, r_c, r_op, r_un, r_if, r_tst, r_b, r_not, r_and, r_or, r_andV, r_orV, r_notV, r_nil, r_cons, r_tup, r_lst, r_cb, r_call, r_bm, r_bm0, r_sl, r_nopart, r_part, r_rev, r_gnil, r_gcons, r_gsub, r_par, r_aug, r_chain, r_I0, r_I, r_U, r_ixd, r_lend, r_tupd, r_listd, r_sld, r_app, r_ext, r_reverse, r_setl, r_cat, r_int1, r_eqS, r_neS, scal_ii, scal_bb, scal_ss, at0, at1, at2, sq_lst, sq_tup, isLst_lst, List.getElem?_cons_zero, List.getElem?_cons_succ, List.set_cons_zero, List.set_cons_succ, V.int.injEq, V.bl.injEq, V.ref.injEq, V.str.injEq, HO.lst.injEq, HO.tup.injEq, Option.some.injEq, exists_eq_left', exists_eq_left, List.cons.injEq, and_true, true_and, decide_eq_true_eq, reduceCtorEq, false_and, exists_false, or_false, false_or, exists_const, and_assoc, exists_and_left, List.append_nil, ix0, ix1, ix2, cm_mod, cdw1009, cdw2003, cdw7, cdw64, cdw2, cm104729, cm2, cm3, upd_same, List.length_cons, List.length_nil, Int.reduceLT, Int.reduceLE, Nat.reduceAdd, Nat.reduceLeDiff, Nat.reduceLT, Int.reduceToNat, r_for1, r_forL, r_forT, r_lcL, r_lc1, r_yes, r_gtupD, wipe_0, wipe_1, List.cons_append, List.nil_append, r_forS, r_ipI, ite_false, ite_true, Bool.not_true, Bool.not_false, decide_true, decide_false, r_isd, r_islt, cD_ty, cD_ref, tD_non, tD_bl, tD_int, tD_str, tD_ref, tH_lst, tH_tup, tH_dK, tH_ins, ki_self, ki_int_bool, ki_non_int, ki_str_int, ki_lt_lst, ki_lt_tup, r_fld, r_sfld, HO.ins.injEq, cx_K, r_pop, hW, rl, dl, r_lr]
  refine ⟨tyl hW, ?_⟩
  have s2 : Same H (L2.upd H1 W (.lst ws.reverse)) := fun y o e => by
    rw [upd_ne (ne_new e W0)]
    exact s1 y o e
  have gF : L2.upd H1 W (.lst ws.reverse) F = some (.lst acc) := by rw [upd_ne FW]; exact hF
  have gW : L2.upd H1 W (.lst ws.reverse) W = some (.lst ws.reverse) := upd_same
  generalize L2.upd H1 W (.lst ws.reverse) = G at *
  have leaf : ∀ (t : Str), tlC x = [.str t, v] → (2 ≤ sizeLine ∧ ∀ p1, G p1 = none → ∃ x, L2.upd G p1 (.lst [.str t, v]) F = some (.lst x) ∧ x.length + 2 ≤ sizeLine ∧ Dn.nx [some (.ref p), some (.ref F), some (.ref W), some v] (L2.upd (L2.upd G p1 (.lst [.str t, v])) F (.lst (x ++ [.str t, v])))) := by
    intro t e
    refine ⟨szl (by decide : 2 ≤ 1000), fun p1 h1 => ⟨acc, by rw [upd_ne (ne_new gF h1)]; exact gF, Nat.le_trans (by omega : _ ≤ 200002) (by decide), q (szCs xs) _ _ (by omega) ⟨⟨_, rfl⟩, fun y o e => ?_, acc ++ [.str t, v], ws, xs, upd_same, ?_, hw, rfl, ?_, ?_, by omega⟩⟩⟩
    · rw [upd_ne (ne_new e F0), upd_ne (ne_new (s2 y o e) h1)]
      exact s2 y o e
    · rw [upd_ne (Ne.symm FW), upd_ne (ne_new gW h1)]
      exact gW
    · rw [← ht, tlCs, e, List.append_assoc]
    · rw [List.length_append]
      show acc.length + 2 + 2 * szCs xs ≤ 200000
      omega
  cases hv with
  | non =>
    refine ⟨_, rfl, false, kit_all (t := "NoneType") (by decide) (by decide), ?_⟩
    rw [if_neg (by decide), if_pos rfl]
    exact ⟨tyl gF, leaf "bool" (by rw [tlC])⟩
  | bl b =>
    refine ⟨_, rfl, false, kit_all (t := "bool") (by decide) (by decide), ?_⟩
    rw [if_neg (by decide), if_neg (by simp)]
    refine ⟨_, rfl, true, ki_self, ?_⟩
    rw [if_pos rfl]
    exact ⟨tyl gF, leaf "bool" (by rw [tlC])⟩
  | int i =>
    refine ⟨_, rfl, false, kit_all (t := "int") (by decide) (by decide), ?_⟩
    rw [if_neg (by decide), if_neg (by simp)]
    refine ⟨_, rfl, false, kit_all (t := "int") (by decide) (by decide), ?_⟩
    rw [if_neg (by decide)]
    refine ⟨tyl gF, _, rfl, true, ki_self, ?_⟩
    rw [if_pos rfl]
    exact leaf "int" (by rw [tlC])
  | str z =>
    refine ⟨_, rfl, false, kit_all (t := "str") (by decide) (by decide), ?_⟩
    rw [if_neg (by decide), if_neg (by simp)]
    refine ⟨_, rfl, false, kit_all (t := "str") (by decide) (by decide), ?_⟩
    rw [if_neg (by decide)]
    refine ⟨tyl gF, _, rfl, false, kit_all (t := "str") (by decide) (by decide), ?_⟩
    rw [if_neg (by decide)]
    exact leaf "str" (by rw [tlC])
  | @tup b vs ys e t =>
    have gb := s2 _ _ e
    refine ⟨.type "tuple", by simp [tyD, tyH, gb], true, ki_self, ?_⟩
    rw [if_pos rfl]
    have lx := t.length
    have ly := len_le_sz ys
    have lw := hw.length
    have lz := len_le_sz xs
    have e1 : szC (.tup ys) = szCs ys + 1 := by rw [szC]
    have bF : b ≠ F := fun z => by rw [z, F0] at e; cases e
    refine ⟨tyl gF, b, rfl, vs, by rw [gb]; rfl, szl (by decide : 2 ≤ 1000), fun p2 h2 => ⟨acc, by rw [upd_ne (ne_new gF h2)]; exact gF, Nat.le_trans (by omega : _ ≤ 200002) (by decide), ?_⟩⟩
    have s3 : Same H (L2.upd (L2.upd G p2 (.lst [.str "tuple", .int (vs.length : Int)])) F (.lst (acc ++ [.str "tuple", .int (vs.length : Int)]))) := fun y o e => by
      rw [upd_ne (ne_new e F0), upd_ne (ne_new (s2 y o e) h2)]
      exact s2 y o e
    have g3F : L2.upd (L2.upd G p2 (.lst [.str "tuple", .int (vs.length : Int)])) F (.lst (acc ++ [.str "tuple", .int (vs.length : Int)])) F = some (.lst (acc ++ [.str "tuple", .int (vs.length : Int)])) := upd_same
    have g3W : L2.upd (L2.upd G p2 (.lst [.str "tuple", .int (vs.length : Int)])) F (.lst (acc ++ [.str "tuple", .int (vs.length : Int)])) W = some (.lst ws.reverse) := by rw [upd_ne (Ne.symm FW), upd_ne (ne_new gW h2)]; exact gW
    generalize L2.upd (L2.upd G p2 (.lst [.str "tuple", .int (vs.length : Int)])) F (.lst (acc ++ [.str "tuple", .int (vs.length : Int)])) = G3 at *
    refine ⟨tyl g3W, b, rfl, vs, s3 _ _ e, fun z hz => ⟨ws.reverse, by rw [upd_ne (ne_new g3W hz)]; exact g3W, Nat.le_trans (by rw [List.length_reverse, List.length_reverse]; omega : _ ≤ 100000) (by decide), q (szCs ys + szCs xs) _ _ (by omega) ⟨⟨_, rfl⟩, fun y o e => ?_, acc ++ [.str "tuple", .int (vs.length : Int)], vs ++ ws, ys ++ xs, ?_, ?_, t.app hw, szCs_app ys xs, ?_, ?_, by omega⟩⟩⟩
    · rw [upd_ne (ne_new e W0), upd_ne (ne_new (s3 y o e) hz)]
      exact s3 y o e
    · rw [upd_ne FW, upd_ne (ne_new g3F hz)]
      exact g3F
    · rw [List.reverse_append]
      exact upd_same
    · rw [← ht, tlCs, tlC, tlCs_app, List.append_assoc, lx]
      rfl
    · rw [List.length_append]
      show acc.length + 2 + 2 * (szCs ys + szCs xs) ≤ 200000
      omega
section
variable {P : Program} {w : World} {K : PySem.W.Frag} {mg : Str → Option Value} {base : Heap} {f : Addr} {fd : FuncData}
abbrev stold : Stmt := top 19
theorem sctold : FnScope ["constants", "found", "waiting", "value"] ["constants"] (defScope stold) := ⟨rfl, rfl, rfl, by decide +kernel, rfl, by decide +kernel, by decide +kernel⟩

theorem told_reads {CC : Addr} {A : Around} {outer : List Env} {s : Shared} {H : Hp} {E : XK} {cdv : Value} (T : Txt mg) (I : CodeT K mg CC) (hr : Room 0 (cxOf CX0 P w K mg base ["constants", "found", "waiting", "value"] "told_constants" (defScope stold) f cdv A outer s H E).nox.A) :
    PSs (cxOf CX0 P w K mg base ["constants", "found", "waiting", "value"] "told_constants" (defScope stold) f cdv A outer s H E).nox (defBody stold) (t_told K CC) := by
  unfold t_told t_tell
  exact (pss_cons (ps_set (i := 1) sctold.nd rfl (Or.inl rfl) (pe_lst pa_nil))
  (pss_cons (ps_set (i := 2) sctold.nd rfl (Or.inl rfl) (pe_listRevT rfl rfl T.b_list rfl T.b_reversed (pv 0)))
  (pss_cons (ps_while PassesOwn.never (pt_truth (pv 2) (by intro _; rfl))
    (pss_cons (ps_set (i := 3) sctold.nd rfl (Or.inl rfl) (pe_bm0 PySem.F.plainAttrs_list PySem.F.slot_list_pop PySem.F.type_list_pop mt_pop (pv 2)))
  (pss_one (ps_if (pt_val (pe_callB (call_is_d I.cI) (by rfl) T.b_isinstance (by decide +kernel) (pa_cons (pv 3) (pa_cons (pe_bltn (v := .ty "tuple") (by rfl) T.b_tuple (by decide +kernel) rfl) pa_nil))))
    (pss_cons (ps_expr (pe_bm PySem.F.plainAttrs_list PySem.F.slot_list_extend PySem.F.type_list_extend mt_extend (pv 1) (pa_cons (pe_lst (pa_cons pe_str (pa_cons (pe_callB call_len_d (by rfl) T.b_len (by decide +kernel) (pa_cons (pv 3) pa_nil)) pa_nil))) pa_nil)))
  (pss_one (ps_expr (pe_bm PySem.F.plainAttrs_list PySem.F.slot_list_extend PySem.F.type_list_extend mt_extend (pv 2) (pa_cons (pe_listRevT rfl rfl T.b_list rfl T.b_reversed (pv 3)) pa_nil)))))
    (pss_one (ps_if (PW.pt (pw_or (pt_cmpR op_isN (pv 3) pe_non (nomark _)) (pw_or1 (pt_val (pe_callB (call_is_d I.cI) (by rfl) T.b_isinstance (by decide +kernel) (pa_cons (pv 3) (pa_cons (pe_bltn (v := .ty "bool") (by rfl) T.b_bool (by decide +kernel) rfl) pa_nil)))))))
    (pss_one (ps_expr (pe_bm PySem.F.plainAttrs_list PySem.F.slot_list_extend PySem.F.type_list_extend mt_extend (pv 1) (pa_cons (pe_lst (pa_cons pe_str (pa_cons (pv 3) pa_nil))) pa_nil))))
    (pss_one (ps_expr (pe_bm PySem.F.plainAttrs_list PySem.F.slot_list_extend PySem.F.type_list_extend mt_extend (pv 1) (pa_cons (pe_lst (pa_cons (pe_ifExp (pt_val (pe_callB (call_is_d I.cI) (by rfl) T.b_isinstance (by decide +kernel) (pa_cons (pv 3) (pa_cons (pe_bltn (v := .ty "int") (by rfl) T.b_int (by decide +kernel) rfl) pa_nil)))) pe_str pe_str) (pa_cons (pv 3) pa_nil))) pa_nil))))))))))
  (pss_one (ps_ret (pe_callTy call_tuple_d (by rfl) T.b_tuple (by decide +kernel) (pa_cons (pv 1) pa_nil)))))))
end
end C51

set_option maxHeartbeats 2000000
namespace C51
open PySem PySem.Spec PyProof.Rows L2
def spTold : Sp := fun vs H Q _ => ∃ (p : Addr) (ws : List V) (xs : List CV), vs = [.ref p] ∧ H p = some (.tup ws) ∧ Rcs H ws xs ∧ szCs xs ≤ 100000 ∧ ∀ q H', Same H H' → H' q = some (.tup (tlCs xs)) → Q (.ref q) H'
theorem told_run {K : PySem.W.Frag} {CC p : Addr} {ws : List V} {xs : List CV} {H : Hp} {D : Ends} (hp : H p = some (.tup ws)) (kv : Rcs H ws xs) (hn : szCs xs ≤ 100000) (q : ∀ q H', Same H H' → H' q = some (.tup (tlCs xs)) → D.rt (.ref q) H') : t_told K CC D [some (.ref p), none, none, none] H := by
  unfold t_told
  have r_lr : ∀ {te : TE} {σ : L2.St} {H : Hp} {Q : VK}, tListRev te σ H Q = te σ H fun v H1 => ∃ (a : Addr) (xs : List V), v = .ref a ∧ H1 a = some (.tup xs) ∧ ∀ q, H1 q = none → Q (.ref q) (L2.upd H1 q (.lst xs.reverse)) := fun {_ _ _ _} => rfl
  simp only [r_seq, r_next, r_brk, r_cont, r_asg, r_name, r_ret, r_retN, r_drop, r_ifs, r_never, r_var, r_c, r_op, r_un, r_if, r_tst, r_b, r_not, r_and, r_or, r_andV, r_orV, r_notV, r_nil, r_cons, r_tup, r_lst, r_cb, r_call, r_bm, r_bm0, r_sl, r_nopart, r_part, r_rev, r_gnil, r_gcons, r_gsub, r_par, r_aug, r_chain, r_I0, r_I, r_U, r_ixd, r_lend, r_tupd, r_listd, r_sld, r_app, r_ext, r_reverse, r_setl, r_cat, r_int1, r_eqS, r_neS, scal_ii, scal_bb, scal_ss, at0, at1, at2, sq_lst, sq_tup, isLst_lst, List.getElem?_cons_zero, List.getElem?_cons_succ, List.set_cons_zero, List.set_cons_succ, V.int.injEq, V.bl.injEq, V.ref.injEq, V.str.injEq, HO.lst.injEq, HO.tup.injEq, Option.some.injEq, exists_eq_left', exists_eq_left, List.cons.injEq, and_true, true_and, decide_eq_true_eq, reduceCtorEq, false_and, exists_false, or_false, false_or, exists_const, and_assoc, exists_and_left, List.append_nil, ix0, ix1, ix2, cm_mod, cdw1009, cdw2003, cdw7, cdw64, cdw2, cm104729, cm2, cm3, upd_same, List.length_cons, List.length_nil, Int.reduceLT, Int.reduceLE, Nat.reduceAdd, Nat.reduceLeDiff, Nat.reduceLT, Int.reduceToNat, r_for1, r_forL, r_forT, r_lcL, r_lc1, r_yes, r_gtupD, wipe_0, wipe_1, List.cons_append, List.nil_append, r_forS, r_ipI, ite_false, ite_true, Bool.not_true, Bool.not_false, decide_true, decide_false, r_isd, r_islt, cD_ty, cD_ref, tD_non, tD_bl, tD_int, tD_str, tD_ref, tH_lst, tH_tup, tH_dK, tH_ins, ki_self, ki_int_bool, ki_non_int, ki_str_int, ki_lt_lst, ki_lt_tup, r_fld, r_sfld, HO.ins.injEq, cx_K, r_lr]
  refine ⟨szl (by decide : 0 ≤ 1000), fun F hF => ⟨ws, by rw [upd_ne (ne_new hp hF)]; exact hp, fun W hW => ?_⟩⟩
  have sF := Same.new' (o := .lst []) (Same.refl H) hF
  have W0 : H W = none := sF.free hW
  have FW : F ≠ W := ne_new upd_same hW
  have g1 : L2.upd (L2.upd H F (.lst [])) W (.lst ws.reverse) F = some (.lst []) := by rw [upd_ne FW]; exact upd_same
  refine while_w (tb := t_tell K CC) (Tell H p F W (tlCs xs)) (m0 := szCs xs) ⟨⟨_, rfl⟩, Same.new' sF hW, [], ws, xs, g1, upd_same, kv, rfl, rfl, by show 0 + 2 * szCs xs ≤ 200000; omega, hn⟩ ?_
  rintro m σ H1 ⟨⟨v3, rfl⟩, s1, acc, ws', xs', h1, h2, gw, hf, ht, hb, hm⟩
  refine ⟨!(ws'.reverse).isEmpty, fun QT qt => ⟨.ref W, rfl, _, .inl ⟨_, SqL.of h2, rfl⟩, qt⟩, fun hbt => ?_, fun hbt => ?_⟩
  · cases gw with
    | nil => cases hbt
    | cons h t =>
      subst hf
      exact tell_run hF W0 FW s1 h1 h2 h t ht hb hm fun m' σ H' lt w => ⟨m', lt, w⟩
  · have e0 : ws' = [] := by
      cases ws' with
      | nil => rfl
      | cons x l => simp at hbt
    subst e0
    cases gw
    have ea : acc = tlCs xs := by
      rw [← ht, tlCs, List.append_nil]
    subst ea
    simp only [r_seq, r_next, r_brk, r_cont, r_asg, r_name, r_ret, r_retN, r_drop, r_ifs, r_never, r_var, r_c, r_op, r_un, r_if, r_tst, r_b, r_not, r_and, r_or, r_andV, r_orV, r_notV, r_nil, r_cons, r_tup, r_lst, r_cb, r_call, r_bm, r_bm0, r_sl, r_nopart, r_part, r_rev, r_gnil, r_gcons, r_gsub, r_par, r_aug, r_chain, r_I0, r_I, r_U, r_ixd, r_lend, r_tupd, r_listd, r_sld, r_app, r_ext, r_reverse, r_setl, r_cat, r_int1, r_eqS, r_neS, scal_ii, scal_bb, scal_ss, at0, at1, at2, sq_lst, sq_tup, isLst_lst, List.getElem?_cons_zero, List.getElem?_cons_succ, List.set_cons_zero, List.set_cons_succ, V.int.injEq, V.bl.injEq, V.ref.injEq, V.str.injEq, HO.lst.injEq, HO.tup.injEq, Option.some.injEq, exists_eq_left', exists_eq_left, List.cons.injEq, and_true, true_and, decide_eq_true_eq, reduceCtorEq, false_and, exists_false, or_false, false_or, exists_const, and_assoc, exists_and_left, List.append_nil, ix0, ix1, ix2, cm_mod, cdw1009, cdw2003, cdw7, cdw64, cdw2, cm104729, cm2, cm3, upd_same, List.length_cons, List.length_nil, Int.reduceLT, Int.reduceLE, Nat.reduceAdd, Nat.reduceLeDiff, Nat.reduceLT, Int.reduceToNat, r_for1, r_forL, r_forT, r_lcL, r_lc1, r_yes, r_gtupD, wipe_0, wipe_1, List.cons_append, List.nil_append, r_forS, r_ipI, ite_false, ite_true, Bool.not_true, Bool.not_false, decide_true, decide_false, r_isd, r_islt, cD_ty, cD_ref, tD_non, tD_bl, tD_int, tD_str, tD_ref, tH_lst, tH_tup, tH_dK, tH_ins, ki_self, ki_int_bool, ki_non_int, ki_str_int, ki_lt_lst, ki_lt_tup, r_fld, r_sfld, HO.ins.injEq, cx_K]
    exact ⟨_, h1, fun l hl => q l _ (Same.new' s1 hl) upd_same⟩
section
variable {P : Program} {w : World} {K : PySem.W.Frag} {mg : Str → Option Value} {base : Heap} {f : Addr} {fd : FuncData}
theorem ok_told {CC : Addr} (T : Txt mg) (I : CodeT K mg CC) (F : FnP K "told_constants" "told_constants" stold f fd) : FnOk P w K mg base CX0 1 f fd ["constants"] spTold := by
  refine F.ok sctold (fun vs H Q E h => ?_) (fun cdv A outer s H vs Q E hr h => ?_)
  · obtain ⟨p, ws, xs, rfl, _⟩ := h
    rfl
  · refine ⟨_, PSs.nox (told_reads (CC := CC) T I hr), ?_⟩
    obtain ⟨p, ws, xs, rfl, h1, h2, h3, h4⟩ := h
    exact told_run h1 h2 h3 h4
end
end C51

set_option maxHeartbeats 2000000
namespace C51
open PySem PySem.Spec PyProof.Rows L2
open Classical in
noncomputable def eqB {α : Type} (x y : α) : Bool := decide (x = y)
theorem eqB_iff {α : Type} {x y : α} : eqB x y = true ↔ x = y := by
  classical
  unfold eqB
  exact @decide_eq_true_iff _ (Classical.propDecidable _)
theorem eqB_ne {α : Type} {x y : α} (h : x ≠ y) : eqB x y = false := by
  unfold eqB
  exact @decide_eq_false _ (Classical.propDecidable _) h
theorem eqB_self {α : Type} (x : α) : eqB x x = true := eqB_iff.mpr rfl
/-! ### what is told of constants tells them apart -/
theorem eqvAll_app {a b : PyData} {xs ys : List PyData} : PyData.eqvAll (a :: xs) (b :: ys) = (PyData.eqv a b && PyData.eqvAll xs ys) := by simp only [PyData.eqvAll]
theorem td_inj : ∀ (n : Nat) (xs ys : List CV), szCs xs ≤ n → PyData.eqvAll (tdCs xs) (tdCs ys) = true → xs = ys
  | n, [], ys, _, h => by
    cases ys with
    | nil => rfl
    | cons y ys =>
      rw [tdCs, tdCs] at h
      cases y <;> simp [tdC, PyData.eqvAll] at h
  | 0, x :: xs, ys, hn, h => by
    have := szC_pos x
    unfold szCs at hn
    omega
  | n + 1, x :: xs, [], _, h => by
    rw [tdCs, tdCs] at h
    cases x <;> simp [tdC, PyData.eqvAll] at h
  | n + 1, x :: xs, y :: ys, hn, h => by
    have px := szC_pos x
    have hs : szCs (x :: xs) = szC x + szCs xs := by rw [szCs]
    rw [tdCs, tdCs] at h
    cases x with
    | non =>
      cases y with
      | non =>
        simp only [tdC, List.cons_append, List.nil_append, PyData.eqvAll, PyData.eqv, Bool.and_eq_true] at h
        rw [td_inj n xs ys (by omega) h.2.2]
      | bl b => simp [tdC, PyData.eqvAll, PyData.eqv] at h
      | int i => simp [tdC, PyData.eqvAll, PyData.eqv] at h
      | str z => simp [tdC, PyData.eqvAll, PyData.eqv] at h
      | tup zs => exact absurd h (by simp [tdC, PyData.eqvAll, PyData.eqv])
    | bl b =>
      cases y with
      | non => simp [tdC, PyData.eqvAll, PyData.eqv] at h
      | bl c =>
        simp only [tdC, List.cons_append, List.nil_append, PyData.eqvAll, PyData.eqv, Bool.and_eq_true, beq_iff_eq] at h
        rw [h.2.1, td_inj n xs ys (by omega) h.2.2]
      | int i => exact absurd h (by simp only [tdC, List.cons_append, List.nil_append, PyData.eqvAll, PyData.eqv, Bool.and_eq_true]; rintro ⟨h, _⟩; revert h; decide)
      | str z => simp [tdC, PyData.eqvAll, PyData.eqv] at h
      | tup zs => exact absurd h (by simp only [tdC, List.cons_append, List.nil_append, PyData.eqvAll, PyData.eqv, Bool.and_eq_true]; rintro ⟨h, _⟩; revert h; decide)
    | int i =>
      cases y with
      | non => simp [tdC, PyData.eqvAll, PyData.eqv] at h
      | bl c => exact absurd h (by simp only [tdC, List.cons_append, List.nil_append, PyData.eqvAll, PyData.eqv, Bool.and_eq_true]; rintro ⟨h, _⟩; revert h; decide)
      | int j =>
        simp only [tdC, List.cons_append, List.nil_append, PyData.eqvAll, PyData.eqv, Bool.and_eq_true, beq_iff_eq] at h
        rw [h.2.1, td_inj n xs ys (by omega) h.2.2]
      | str z => simp [tdC, PyData.eqvAll, PyData.eqv] at h
      | tup zs => exact absurd h (by simp only [tdC, List.cons_append, List.nil_append, PyData.eqvAll, PyData.eqv, Bool.and_eq_true]; rintro ⟨h, _⟩; revert h; decide)
    | str z =>
      cases y with
      | non => simp [tdC, PyData.eqvAll, PyData.eqv] at h
      | bl c => simp [tdC, PyData.eqvAll, PyData.eqv] at h
      | int j => simp [tdC, PyData.eqvAll, PyData.eqv] at h
      | str z' =>
        simp only [tdC, List.cons_append, List.nil_append, PyData.eqvAll, PyData.eqv, Bool.and_eq_true, beq_iff_eq] at h
        rw [h.2.1, td_inj n xs ys (by omega) h.2.2]
      | tup zs => simp [tdC, PyData.eqvAll, PyData.eqv] at h
    | tup us =>
      cases y with
      | non => exact absurd h (by simp [tdC, PyData.eqvAll, PyData.eqv])
      | bl c => exact absurd h (by simp only [tdC, List.cons_append, List.nil_append, PyData.eqvAll, PyData.eqv, Bool.and_eq_true]; rintro ⟨h, _⟩; revert h; decide)
      | int j => exact absurd h (by simp only [tdC, List.cons_append, List.nil_append, PyData.eqvAll, PyData.eqv, Bool.and_eq_true]; rintro ⟨h, _⟩; revert h; decide)
      | str z => simp [tdC, PyData.eqvAll, PyData.eqv] at h
      | tup ws =>
        simp only [tdC, List.cons_append, PyData.eqvAll, PyData.eqv, Bool.and_eq_true, beq_iff_eq, Int.ofNat_inj] at h
        obtain ⟨_, hl, h⟩ := h
        rw [← tdCs_app, ← tdCs_app] at h
        have e1 : szC (.tup us) = szCs us + 1 := by rw [szC]
        have e := td_inj n (us ++ xs) (ws ++ ys) (by rw [szCs_app]; omega) h
        obtain ⟨e2, e3⟩ := List.append_inj e hl
        rw [e2, e3]
mutual
theorem dp_tl {K : PySem.W.Frag} {H : Hp} : ∀ (x : CV) {vs : List V} {ds : List PyData}, DpAll K H vs ds → DpAll K H (tlC x ++ vs) (tdC x ++ ds)
  | .non, _, _, h => by rw [tlC, tdC]; exact .cons (.str _) (.cons .non h)
  | .bl b, _, _, h => by rw [tlC, tdC]; exact .cons (.str _) (.cons (.bl b) h)
  | .int i, _, _, h => by rw [tlC, tdC]; exact .cons (.str _) (.cons (.int i) h)
  | .str z, _, _, h => by rw [tlC, tdC]; exact .cons (.str _) (.cons (.str z) h)
  | .tup xs, _, _, h => by
    rw [tlC, tdC]
    exact .cons (.str _) (.cons (.int _) (dp_tls xs h))
theorem dp_tls {K : PySem.W.Frag} {H : Hp} : ∀ (xs : List CV) {vs : List V} {ds : List PyData}, DpAll K H vs ds → DpAll K H (tlCs xs ++ vs) (tdCs xs ++ ds)
  | [], _, _, h => by rw [tlCs, tdCs]; exact h
  | x :: xs, _, _, h => by
    rw [tlCs, tdCs, List.append_assoc, List.append_assoc]
    exact dp_tl x (dp_tls xs h)
end
theorem layAll_app : ∀ {xs ys : List PyData}, PyData.canLayAll0 xs = true → PyData.canLayAll0 ys = true → PyData.canLayAll0 (xs ++ ys) = true
  | [], _, _, h => h
  | x :: xs, ys, h, k => by
    simp only [PyData.canLayAll0, Bool.and_eq_true, List.cons_append] at h ⊢
    exact ⟨h.1, layAll_app h.2 k⟩
theorem lay_w (z : Str) (h : (z.cps.all (· < 0x110000)) = true) : PyData.canLay0 (.str z) = true := h
mutual
theorem lay_td : ∀ {x : CV} {k : Nat}, kOk x k → PyData.canLayAll0 (tdC x) = true
  | .non, _, _ => by rw [tdC]; decide +kernel
  | .bl b, _, _ => by rw [tdC]; simp only [PyData.canLayAll0, PyData.canLay0, Bool.and_true]; decide +kernel
  | .int i, _, _ => by rw [tdC]; simp only [PyData.canLayAll0, PyData.canLay0, Bool.and_true]; decide +kernel
  | .str z, _, h => by
    unfold kOk at h
    have := lay_okS h
    rw [tdC]
    simp only [PyData.canLayAll0, this, Bool.and_true]
    decide +kernel
  | .tup xs, k, h => by
    unfold kOk at h
    obtain ⟨j, _, h⟩ := h
    rw [tdC]
    have e1 : PyData.canLay0 (.str "tuple") = true := by decide +kernel
    simp only [PyData.canLayAll0, lay_tds h, Bool.and_true, e1, Bool.true_and]
    rfl
theorem lay_tds : ∀ {xs : List CV} {k : Nat}, kOks xs k → PyData.canLayAll0 (tdCs xs) = true
  | [], _, _ => by rw [tdCs]; rfl
  | x :: xs, k, h => by
    unfold kOks at h
    rw [tdCs]
    exact layAll_app (lay_td h.1) (lay_tds h.2)
end
theorem depAll_app : ∀ {xs ys : List PyData}, PyData.depthAll xs = 0 → PyData.depthAll ys = 0 → PyData.depthAll (xs ++ ys) = 0
  | [], _, _, h => h
  | x :: xs, ys, h, k => by
    simp only [PyData.depthAll, List.cons_append] at h ⊢
    have := depAll_app (xs := xs) (by omega) k
    omega
mutual
theorem dep_td : ∀ (x : CV), PyData.depthAll (tdC x) = 0
  | .non => by rw [tdC]; rfl
  | .bl _ => by rw [tdC]; rfl
  | .int _ => by rw [tdC]; rfl
  | .str _ => by rw [tdC]; rfl
  | .tup xs => by
    rw [tdC]
    simp only [PyData.depthAll, PyData.depth, dep_tds xs]
    rfl
theorem dep_tds : ∀ (xs : List CV), PyData.depthAll (tdCs xs) = 0
  | [] => by rw [tdCs]; rfl
  | x :: xs => by
    rw [tdCs]
    exact depAll_app (dep_td x) (dep_tds xs)
end
def isB : CV → Bool
  | .bl _ => true
  | _ => false
theorem dC_eq {x y : CV} (h : ∀ us, x ≠ .tup us) : ((isB x == isB y) && PyData.eqv (dC x) (dC y)) = eqB x y := by
  rw [Bool.eq_iff_iff, eqB_iff]
  cases x with
  | tup us => exact absurd rfl (h us)
  | non => cases y <;> simp [isB, dC, PyData.eqv]
  | bl b => cases y <;> simp [isB, dC, PyData.eqv]
  | int i => cases y <;> simp [isB, dC, PyData.eqv]
  | str z => cases y <;> simp [isB, dC, PyData.eqv]
theorem td_eq {xs ys : List CV} {k : Nat} (h : kOks xs k) : PyData.eqv (.tuple (tdCs xs)) (.tuple (tdCs ys)) = eqB (CV.tup xs) (CV.tup ys) := by
  rw [Bool.eq_iff_iff, PyData.eqv, eqB_iff]
  refine ⟨fun e => by rw [td_inj _ xs ys (Nat.le_refl _) e], fun e => ?_⟩
  cases e
  exact SeqAt.eqvAll_refl _ (lay_tds h)
def tyF : CV → String
  | .non => "NoneType"
  | .bl _ => "bool"
  | .int _ => "int"
  | .str _ => "str"
  | .tup _ => "tuple"
theorem Rc.kd {H : Hp} {v : V} {x : CV} (h : Rc H v x) : Kd H v (tyF x) := by
  cases h with
  | non => exact .non
  | bl b => exact .bl b
  | int i => exact .int i
  | str z => exact .str z
  | tup e t => exact .tup e
def isT : CV → Bool
  | .tup _ => true
  | _ => false
theorem kit_T {K : PySem.W.Frag} (x : CV) : PySem.W.kitOne K (.type (tyF x)) (.type "tuple") = some (isT x) := by
  cases x with
  | tup us => exact ki_self
  | non => exact kit_all (t := "NoneType") (by decide) (by decide)
  | bl b => exact kit_all (t := "bool") (by decide) (by decide)
  | int i => exact kit_all (t := "int") (by decide) (by decide)
  | str z => exact kit_all (t := "str") (by decide) (by decide)
theorem kit_B {K : PySem.W.Frag} (x : CV) : PySem.W.kitOne K (.type (tyF x)) (.type "bool") = some (isB x) := by
  cases x with
  | tup us => exact kit_all (t := "tuple") (by decide) (by decide)
  | non => exact kit_all (t := "NoneType") (by decide) (by decide)
  | bl b => exact ki_self
  | int i => exact kit_all (t := "int") (by decide) (by decide)
  | str z => exact kit_all (t := "str") (by decide) (by decide)
def spSameC : Sp := fun vs H Q _ => ∃ (v u : V) (x y : CV), vs = [v, u] ∧ Rc H v x ∧ Rc H u y ∧ kOk x 100 ∧ kOk y 100 ∧ szC x ≤ 100000 ∧ szC y ≤ 100000 ∧ ∀ H', Same H H' → Q (.bl (eqB x y)) H'
section
variable {P : Program} {w : World} {K : PySem.W.Frag} {mg : Str → Option Value} {base : Heap} {f : Addr} {fd : FuncData}
abbrev ssamec : Stmt := top 11
theorem scsamec : FnScope ["one", "other"] ["one", "other"] (defScope ssamec) := ⟨rfl, rfl, rfl, by decide +kernel, rfl, by decide +kernel, by decide +kernel⟩

theorem ok_samec {CC : Addr} (T : Txt mg) (I : CodeT K mg CC) (F : FnP K "is_same_constant" "is_same_constant" ssamec f fd) (C_told_constants : Cal P w K mg base 1 "told_constants" ["constants"] spTold) : FnOk P w K mg base CX0 2 f fd ["one", "other"] spSameC := by
  refine F.ok scsamec (fun vs H Q E h => ?_) (fun cdv A outer s H vs Q E hr h => ?_)
  · obtain ⟨v, u, x, y, rfl, _⟩ := h
    rfl
  · have hu : (cxOf CX0 P w K mg base ["one", "other"] "is_same_constant" (defScope ssamec) f cdv A outer s H E).nox.A.units + 200 < cLine := by
      refine Nat.lt_of_le_of_lt ?_ hr.un
      show (A.deeper (envOfC "is_same_constant" (defScope ssamec) s.heap.objs.size f cdv)).units + 200 ≤ (A.deeper (envOfC "is_same_constant" (defScope ssamec) s.heap.objs.size f cdv)).units + 16 * 1 + 200
      omega
    refine ⟨_, PSs.nox (pss_cons (ps_if (pt_val (pe_callB (call_is_d I.cI) (by rfl) T.b_isinstance (by decide +kernel) (pa_cons (pv 0) (pa_cons (pe_bltn (v := .ty "tuple") (by rfl) T.b_tuple (by decide +kernel) rfl) pa_nil))))
    (pss_one (ps_ret (pe_and (pe_callB (call_is_d I.cI) (by rfl) T.b_isinstance (by decide +kernel) (pa_cons (pv 1) (pa_cons (pe_bltn (v := .ty "tuple") (by rfl) T.b_tuple (by decide +kernel) rfl) pa_nil))) (pe_one (pe_cmpR (op_eqW hu) (pe_cal C_told_constants (hr.mono (by decide)) rfl (pa_cons (pv 0) pa_nil)) (pe_cal C_told_constants (hr.mono (by decide)) rfl (pa_cons (pv 1) pa_nil)) (nomark _))))))
    pss_nil)
  (pss_one (ps_ret (pe_and (pe_cmpR op_eq (pe_callB (call_is_d I.cI) (by rfl) T.b_isinstance (by decide +kernel) (pa_cons (pv 0) (pa_cons (pe_bltn (v := .ty "bool") (by rfl) T.b_bool (by decide +kernel) rfl) pa_nil))) (pe_callB (call_is_d I.cI) (by rfl) T.b_isinstance (by decide +kernel) (pa_cons (pv 1) (pa_cons (pe_bltn (v := .ty "bool") (by rfl) T.b_bool (by decide +kernel) rfl) pa_nil))) (nomark _)) (pe_one (pe_cmpR (op_eqW hu) (pv 0) (pv 1) (nomark _))))))), ?_⟩
    obtain ⟨v, u, x, y, rfl, rx, ry, kx, ky, zx, zy, k⟩ := h
    show (_ : TS) _ [some v, some u] H
    simp only [r_seq, r_next, r_brk, r_cont, r_asg, r_name, r_ret, r_retN, r_drop, r_ifs, r_never, r_var, r_c, r_op, r_un, r_if, r_tst, r_b, r_not, r_and, r_or, r_andV, r_orV, r_notV, r_nil, r_cons, r_tup, r_lst, r_cb, r_call, r_bm, r_bm0, r_sl, r_nopart, r_part, r_rev, r_gnil, r_gcons, r_gsub, r_par, r_aug, r_chain, r_I0, r_I, r_U, r_ixd, r_lend, r_tupd, r_listd, r_sld, r_app, r_ext, r_reverse, r_setl, r_cat, r_int1, r_eqS, r_neS, scal_ii, scal_bb, scal_ss, at0, at1, at2, sq_lst, sq_tup, isLst_lst, List.getElem?_cons_zero, List.getElem?_cons_succ, List.set_cons_zero, List.set_cons_succ, V.int.injEq, V.bl.injEq, V.ref.injEq, V.str.injEq, HO.lst.injEq, HO.tup.injEq, Option.some.injEq, exists_eq_left', exists_eq_left, List.cons.injEq, and_true, true_and, decide_eq_true_eq, reduceCtorEq, false_and, exists_false, or_false, false_or, exists_const, and_assoc, exists_and_left, List.append_nil, ix0, ix1, ix2, cm_mod, cdw1009, cdw2003, cdw7, cdw64, cdw2, cm104729, cm2, cm3, upd_same, List.length_cons, List.length_nil, Int.reduceLT, Int.reduceLE, Nat.reduceAdd, Nat.reduceLeDiff, Nat.reduceLT, Int.reduceToNat, r_for1, r_forL, r_forT, r_lcL, r_lc1, r_yes, r_gtupD, wipe_0, wipe_1, List.cons_append, List.nil_append, r_forS, r_ipI, ite_false, ite_true, Bool.not_true, Bool.not_false, decide_true, decide_false, r_isd, r_islt, cD_ty, cD_ref, tD_non, tD_bl, tD_int, tD_str, tD_ref, tH_lst, tH_tup, tH_dK, tH_ins, ki_self, ki_int_bool, ki_non_int, ki_str_int, ki_lt_lst, ki_lt_tup, r_fld, r_sfld, HO.ins.injEq, cx_K, r_eqW]
    have e1 := (rx.kd.ty (CC := CC)).1
    have e2 := (ry.kd.ty (CC := CC)).1
    refine ⟨_, e1, _, kit_T x, ?_⟩
    by_cases cx : isT x = true
    · rw [if_pos cx]
      refine ⟨_, e2, _, kit_T y, ?_⟩
      by_cases cy : isT y = true
      · rw [if_pos cy]
        cases x with
        | non => cases cx
        | bl b => cases cx
        | int i => cases cx
        | str z => cases cx
        | tup xs =>
          cases y with
          | non => cases cy
          | bl b => cases cy
          | int i => cases cy
          | str z => cases cy
          | tup ys =>
            cases rx with
            | tup ex tx =>
              cases ry with
              | tup ey ty =>
                have sx : szC (.tup xs) = szCs xs + 1 := by rw [szC]
                have sy : szC (.tup ys) = szCs ys + 1 := by rw [szC]
                unfold kOk at kx ky
                obtain ⟨j, _, kx⟩ := kx
                obtain ⟨l, _, ky⟩ := ky
                refine ⟨_, _, xs, rfl, ex, tx, by omega, fun q1 H1 s1 h1 => ⟨_, _, ys, rfl, s1 _ _ ey, ty.mo (Mo.same s1), by omega, fun q2 H2 s2 h2 => ?_⟩⟩
                have d1 : Dp K H2 (.ref q1) (.tuple (tdCs xs)) := .tup (SqT.of (s2 _ _ h1)) (by simpa using dp_tls xs (K := K) (H := H2) .nil)
                have d2 : Dp K H2 (.ref q2) (.tuple (tdCs ys)) := .tup (SqT.of h2) (by simpa using dp_tls ys (K := K) (H := H2) .nil)
                refine ⟨_, d1, _, d2, lay_tds kx, lay_tds ky, ?_, ?_⟩
                · simp only [PyData.depth, dep_tds]
                  decide
                · rw [td_eq kx]
                  exact k H2 fun y o e => s2 y o (s1 y o e)
      · rw [if_neg cy]
        have ne : eqB x y = false := eqB_ne fun z => cy (z ▸ cx)
        rw [← ne]
        exact k H (Same.refl H)
    · rw [if_neg cx]
      have nt : ∀ us, x ≠ .tup us := fun us z => cx (by rw [z]; rfl)
      have fin := dC_eq (y := y) nt
      refine ⟨_, e1, _, kit_B x, _, e2, _, kit_B y, ?_⟩
      by_cases cb : isB x = isB y
      · rw [if_pos cb]
        refine ⟨_, rx.dp, _, ry.dp, lay_C kx, lay_C ky, ?_, ?_⟩
        · have := dep_C kx
          omega
        · rw [show (isB x == isB y) = true from by rw [cb]; exact beq_self_eq_true _, Bool.true_and] at fin
          rw [fin]
          exact k H (Same.refl H)
      · rw [if_neg cb]
        rw [show (isB x == isB y) = false from beq_eq_false_iff_ne.mpr cb, Bool.false_and] at fin
        rw [fin]
        exact k H (Same.refl H)
end
end C51

set_option maxHeartbeats 2000000
namespace C51
open PySem PySem.Spec PyProof.Rows L2
def t_pop2 (K : PySem.W.Frag) : TS := tAsg (tBM0 K "list" rPop (tVar 2)) (gTupD 2 (gCons (gName 0) (gCons (gName 1) gNil)))
def t_idn (K : PySem.W.Frag) : TS := tIfS (tTest (tOp (rIdn K) (tFld K (tVar 0) "identity") (tFld K (tVar 1) "identity"))) tCont tNext
def t_parts (K : PySem.W.Frag) (CC MM : Addr) : TS := tIfS (tOr (tTest (tOp (rNeD K) (tMeth CC "parts_alike" (spPartsAlike CC MM) [] E0 (tVar 0) tNil) (tMeth CC "parts_alike" (spPartsAlike CC MM) [] E0 (tVar 1) tNil))) (tTest (tOp rNe (tCB rLend (tCons (tFld K (tVar 0) "constants") tNil)) (tCB rLend (tCons (tFld K (tVar 1) "constants") tNil))))) (tRet (tC (V.bl false))) tNext
def t_each (K : PySem.W.Frag) (CC : Addr) : TS := tIfS (tAnd (tB (tCB (rIsD K CC) (tCons (tVar 3) (tCons (tC (V.ref CC)) tNil)))) (tB (tCB (rIsD K CC) (tCons (tVar 4) (tCons (tC (V.ref CC)) tNil))))) (tDrop (tBM K "list" rAppend (tVar 2) (tCons (tTup (tCons (tVar 3) (tCons (tVar 4) tNil))) tNil)))
  (tIfS (tNot (tB (tCall spSameC [] E0 (tCons (tVar 3) (tCons (tVar 4) tNil))))) (tRet (tC (V.bl false))) tNext)
def t_zip (K : PySem.W.Frag) (CC : Addr) : TS := tFor (RZ.iZipA K (tCons (tFld K (tVar 0) "constants") (tCons (tFld K (tVar 1) "constants") tNil))) (gTupD 2 (gCons (gName 3) (gCons (gName 4) gNil))) (t_each K CC)
def t_eqT (K : PySem.W.Frag) (CC MM : Addr) : TS := tSeq (t_pop2 K) (tSeq (t_idn K) (tSeq (t_parts K CC MM) (t_zip K CC)))
def t_eq (K : PySem.W.Frag) (CC MM : Addr) : TS := tSeq (tAsg (tLst (tCons (tTup (tCons (tVar 0) (tCons (tVar 1) tNil))) tNil)) (gName 2)) (tSeq (tWhile (fun σ H_1 Q => tVar 2 σ H_1 fun x H' => ∃ k, TruV K x H' k ∧ Q k H') (t_eqT K CC MM)) (tRet (tC (V.bl true))))
/-- what the class of the marks must have -/
structure MarkT (K : PySem.W.Frag) (MM : Addr) : Prop where
  mo : PySem.W.mroIn K MM (.type "object") = some true
  fe : PySem.W.findIn K (.ref MM) "__eq__" = some (some (.builtin "object.__eq__"))

/-! ### pairs that are to be compared -/
mutual
/-- codes stand where codes stand -/
def Al : PV → PV → Prop
  | .con _, .con _ => True
  | .cod _ ks, .cod _ ls => Als ks ls
  | _, _ => False
def Als : List PV → List PV → Prop
  | k :: ks, l :: ls => Al k l ∧ Als ks ls
  | _, _ => True
end
mutual
theorem Al.refl : ∀ k : PV, Al k k
  | .con _ => by unfold Al; trivial
  | .cod _ ks => by unfold Al; exact Als.refl ks
theorem Als.refl : ∀ ks : List PV, Als ks ks
  | [] => by unfold Als; trivial
  | k :: ks => by unfold Als; exact ⟨Al.refl k, Als.refl ks⟩
end
theorem Als.at : ∀ {ks ls : List PV} {i : Nat} {k l : PV}, Als ks ls → ks[i]? = some k → ls[i]? = some l → Al k l
  | [], _, i, _, _, _, h, _ => by simp at h
  | _ :: _, [], i, _, _, _, _, h => by simp at h
  | k :: ks, l :: ls, 0, _, _, a, h, q => by
    unfold Als at a
    cases h
    cases q
    exact a.1
  | k :: ks, l :: ls, i + 1, _, _, a, h, q => by
    unfold Als at a
    exact Als.at a.2 (by simpa using h) (by simpa using q)
def isC : PV → Prop
  | .cod _ _ => True
  | .con _ => False
def PairAt (CC MM : Addr) (μ : Mks) (bb nn : Nat) (W : Addr) (H H1 : Hp) (r : Addr) (p : PV × PV) : Prop := r ≠ W ∧ ∃ c c' : Addr, H1 r = some (.tup [.ref c, .ref c']) ∧ Rp CC MM μ H (.ref c) p.1 ∧ Rp CC MM μ H (.ref c') p.2 ∧ isC p.1 ∧ isC p.2 ∧ Al p.1 p.2 ∧ gV 100 bb nn p.1 ∧ gV 100 bb nn p.2
def sumZ : List (PV × PV) → Nat
  | [] => 0
  | p :: ps => szV p.1 + sumZ ps
theorem sumZ_app : ∀ (ps qs : List (PV × PV)), sumZ (ps ++ qs) = sumZ ps + sumZ qs
  | [], qs => by rw [List.nil_append, sumZ, Nat.zero_add]
  | p :: ps, qs => by rw [List.cons_append, sumZ, sumZ_app ps qs, sumZ, Nat.add_assoc]
theorem szV_pos : ∀ k : PV, 1 ≤ szV k
  | .con _ => by unfold szV; exact Nat.le_refl 1
  | .cod _ ks => by unfold szV; omega
theorem len_sumZ : ∀ ps : List (PV × PV), ps.length ≤ sumZ ps
  | [] => Nat.le_refl 0
  | p :: ps => by
    have := szV_pos p.1
    have := len_sumZ ps
    unfold sumZ
    rw [List.length_cons]
    omega
theorem szVs_take : ∀ {ks : List PV} {i : Nat} {k : PV}, ks[i]? = some k → szVs (ks.take (i + 1)) = szVs (ks.take i) + szV k
  | [], i, _, h => by simp at h
  | k :: ks, 0, _, h => by
    cases h
    simp [szVs]
  | k :: ks, i + 1, _, h => by
    have := szVs_take (ks := ks) (i := i) (by simpa using h)
    rw [List.take_succ_cons, List.take_succ_cons, szVs, szVs, this, Nat.add_assoc]
theorem szVs_take_le : ∀ (ks : List PV) (i : Nat), szVs (ks.take i) ≤ szVs ks
  | [], i => by simp
  | k :: ks, 0 => by simp [szVs]
  | k :: ks, i + 1 => by
    rw [List.take_succ_cons, szVs, szVs]
    have := szVs_take_le ks i
    omega
theorem gVs_at {b n : Nat} {ks : List PV} {i : Nat} {k : PV} (g : gVs 100 b n ks) (h : ks[i]? = some k) : gV 100 b n k := gVs_iff.mp g k (List.mem_of_getElem? h)
section
variable {K : PySem.W.Frag} {CC MM W a b : Addr} {μ : Mks} {bb nn : Nat} {H H1 H2 : Hp} {Dn : Ends} {v0 v1 v2 v3 v4 : Option V}
theorem PairAt.same {r : Addr} {p : PV × PV} (h : PairAt CC MM μ bb nn W H H1 r p) (s : Same H1 H2) : PairAt CC MM μ bb nn W H H2 r p := let ⟨n, c, c', e, q⟩ := h; ⟨n, c, c', s _ _ e, q⟩
theorem PairAt.upd {r : Addr} {p : PV × PV} {o : HO} (h : PairAt CC MM μ bb nn W H H1 r p) : PairAt CC MM μ bb nn W H (L2.upd H1 W o) r p := let ⟨n, c, c', e, q⟩ := h; ⟨n, c, c', by rw [upd_ne n]; exact e, q⟩
theorem parts_run {f g : PF} {vs us : List V} {d e : Nat} {A B : FP} {m m' : Addr} (cl : Cls K CC) (na : NoAttr K CC "constants") (ca : CodeAt CC MM H a f d vs A m) (cb : CodeAt CC MM H b g e us B m') (okf : PfOk nn f) (okg : PfOk nn g)
    (q1 : f ≠ g ∨ vs.length ≠ us.length → ∀ H', Same H H' → Dn.rt (.bl false) H') (q2 : f = g → vs.length = us.length → ∀ H', Same H H' → Dn.nx [some (.ref a), some (.ref b), v2, v3, v4] H') : t_parts K CC MM Dn [some (.ref a), some (.ref b), v2, v3, v4] H := by
  unfold t_parts
  have r_meth0 : ∀ {C : Addr} {m : Str} {sp : Sp} {E : XK} {te : TE} {σ : L2.St} {H : Hp} {Q : VK}, tMeth C m sp [] E te tNil σ H Q = te σ H (fun x H1 => ∃ (a dx : Addr) (fs : List (Str × V)), x = .ref a ∧ H1 a = some (.ins C dx fs) ∧ fs.lookup m = none ∧ sp [x] H1 Q E) := fun {_ _ _ _ _ _ _ _} => rfl
  have r_neD : ∀ {x y : V} {H : Hp} {Q : VK}, rNeD K x y H Q = ∃ d e, Dp K H x d ∧ Dp K H y e ∧ SeqAt.shaped d = true ∧ SeqAt.shaped e = true ∧ Q (.bl (!PyData.eqv d e)) H := fun {_ _ _ _} => rfl
  simp only [r_seq, r_next, r_brk, r_cont, r_asg, r_name, r_ret, r_retN, r_drop, r_ifs, r_never, r_var, r_c, r_op, r_un, r_if, r_tst, r_b, r_not, r_and, r_or, r_andV, r_orV, r_notV, r_nil, r_cons, r_tup, r_lst, r_cb, r_call, r_bm, r_bm0, r_sl, r_nopart, r_part, r_rev, r_gnil, r_gcons, r_gsub, r_par, r_aug, r_chain, r_I0, r_I, r_U, r_ixd, r_lend, r_tupd, r_listd, r_sld, r_app, r_ext, r_reverse, r_setl, r_cat, r_int1, r_eqS, r_neS, scal_ii, scal_bb, scal_ss, at0, at1, at2, sq_lst, sq_tup, isLst_lst, List.getElem?_cons_zero, List.getElem?_cons_succ, List.set_cons_zero, List.set_cons_succ, V.int.injEq, V.bl.injEq, V.ref.injEq, V.str.injEq, HO.lst.injEq, HO.tup.injEq, Option.some.injEq, exists_eq_left', exists_eq_left, List.cons.injEq, and_true, true_and, decide_eq_true_eq, reduceCtorEq, false_and, exists_false, or_false, false_or, exists_const, and_assoc, exists_and_left, List.append_nil, ix0, ix1, ix2, cm_mod, cdw1009, cdw2003, cdw7, cdw64, cdw2, cm104729, cm2, cm3, upd_same, List.length_cons, List.length_nil, Int.reduceLT, Int.reduceLE, Nat.reduceAdd, Nat.reduceLeDiff, Nat.reduceLT, Int.reduceToNat, r_for1, r_forL, r_forT, r_lcL, r_lc1, r_yes, r_gtupD, wipe_0, wipe_1, List.cons_append, List.nil_append, r_forS, r_ipI, ite_false, ite_true, Bool.not_true, Bool.not_false, decide_true, decide_false, r_isd, r_islt, cD_ty, cD_ref, tD_non, tD_bl, tD_int, tD_str, tD_ref, tH_lst, tH_tup, tH_dK, tH_ins, ki_self, ki_int_bool, ki_non_int, ki_str_int, ki_lt_lst, ki_lt_tup, r_fld, r_sfld, HO.ins.injEq, cx_K, r_meth0, r_neD]
  obtain ⟨dx, fs, f1, f2, f3, f4, f5, f6, f7, f8, f9, f10, f11, f12, f13, f14, f15, f16, f17, f18, f19, f20, f21, f22, f23, f24, ⟨md, f25⟩, f26⟩ := id ca
  obtain ⟨dy, gs, g1, g2, g3, g4, g5, g6, g7, g8, g9, g10, g11, g12, g13, g14, g15, g16, g17, g18, g19, g20, g21, g22, g23, g24, ⟨md', g25⟩, g26⟩ := id cb
  refine ⟨dx, fs, f1, f26, a, f, d, vs, A, m, rfl, ca, fun p hp => ?_⟩
  have s1 := Same.new' (o := .tup (pas A f)) (Same.refl H) hp
  refine ⟨dy, gs, s1 _ _ g1, g26, b, g, e, us, B, m', rfl, cb.mo (Mo.same s1), fun p2 hp2 => ?_⟩
  have s2 := Same.new' (o := .tup (pas B g)) s1 hp2
  have e1 : L2.upd (L2.upd H p (.tup (pas A f))) p2 (.tup (pas B g)) p = some (.tup (pas A f)) := Same.new' (Same.refl _) hp2 _ _ upd_same
  have e2 : L2.upd (L2.upd H p (.tup (pas A f))) p2 (.tup (pas B g)) p2 = some (.tup (pas B g)) := upd_same
  generalize L2.upd (L2.upd H p (.tup (pas A f))) p2 (.tup (pas B g)) = G at *
  refine ⟨pasD f, dp_pas (ca.mo (Mo.same s2)) e1, pasD g, dp_pas (cb.mo (Mo.same s2)) e2, sh_pas okf, sh_pas okg, ?_⟩
  by_cases c : f = g
  · rw [eqv_pas.mpr c, if_neg (by decide)]
    refine ⟨CC, dx, fs, s2 _ _ f1, cl, na, _, f8, A.pk, rfl, vs, by rw [s2 _ _ f19]; rfl, CC, dy, gs, s2 _ _ g1, cl, na, _, g8, B.pk, rfl, us, by rw [s2 _ _ g19]; rfl, ?_⟩
    by_cases l : vs.length = us.length
    · rw [if_neg (by simp [l])]
      exact q2 c l G s2
    · rw [if_pos (by simp; omega)]
      exact q1 (.inr l) G s2
  · rw [if_pos (by
      have : PyData.eqv (pasD f) (pasD g) = false := Bool.eq_false_iff.mpr fun z => c (eqv_pas.mp z)
      rw [this]
      rfl)]
    exact q1 (.inl c) G s2
theorem each_run {x y : V} {k l : PV} {rs : List Addr} (I0 : ∀ t ∈ ["NoneType", "int", "bool", "str", "list", "tuple", "dict"], PySem.W.kitOne K (.type t) (.ref CC) = some false) (yes : PySem.W.kitOne K (.ref CC) (.ref CC) = some true) (W0 : H W = none) (s1 : Same H H1)
    (rx : Rp CC MM μ H x k) (ry : Rp CC MM μ H y l) (al : Al k l) (gk : gV 100 bb nn k) (gl : gV 100 bb nn l) (hW : H1 W = some (.lst (rs.map V.ref))) (hl : rs.length ≤ 200000)
    (q0 : k ≠ l → ∀ H', Same H H' → Dn.rt (.bl false) H') (q1 : k = l → ¬ isC k → ∀ H', Same H H' → Same H1 H' → Dn.nx [v0, v1, some (.ref W), some x, some y] H')
    (q2 : ∀ r H', isC k → Same H H' → H1 r = none → H' W = some (.lst ((rs ++ [r]).map V.ref)) → PairAt CC MM μ bb nn W H H' r (k, l) → (∀ z o, z ≠ W → H1 z = some o → H' z = some o) → Dn.nx [v0, v1, some (.ref W), some x, some y] H') : t_each K CC Dn [v0, v1, some (.ref W), some x, some y] H1 := by
  unfold t_each
  simp only [r_seq, r_next, r_brk, r_cont, r_asg, r_name, r_ret, r_retN, r_drop, r_ifs, r_never, r_var, r_c, r_op, r_un, r_if, r_tst, r_b, r_not, r_and, r_or, r_andV, r_orV, r_notV, r_nil, r_cons, r_tup, r_lst, r_cb, r_call, r_bm, r_bm0, r_sl, r_nopart, r_part, r_rev, r_gnil, r_gcons, r_gsub, r_par, r_aug, r_chain, r_I0, r_I, r_U, r_ixd, r_lend, r_tupd, r_listd, r_sld, r_app, r_ext, r_reverse, r_setl, r_cat, r_int1, r_eqS, r_neS, scal_ii, scal_bb, scal_ss, at0, at1, at2, sq_lst, sq_tup, isLst_lst, List.getElem?_cons_zero, List.getElem?_cons_succ, List.set_cons_zero, List.set_cons_succ, V.int.injEq, V.bl.injEq, V.ref.injEq, V.str.injEq, HO.lst.injEq, HO.tup.injEq, Option.some.injEq, exists_eq_left', exists_eq_left, List.cons.injEq, and_true, true_and, decide_eq_true_eq, reduceCtorEq, false_and, exists_false, or_false, false_or, exists_const, and_assoc, exists_and_left, List.append_nil, ix0, ix1, ix2, cm_mod, cdw1009, cdw2003, cdw7, cdw64, cdw2, cm104729, cm2, cm3, upd_same, List.length_cons, List.length_nil, Int.reduceLT, Int.reduceLE, Nat.reduceAdd, Nat.reduceLeDiff, Nat.reduceLT, Int.reduceToNat, r_for1, r_forL, r_forT, r_lcL, r_lc1, r_yes, r_gtupD, wipe_0, wipe_1, List.cons_append, List.nil_append, r_forS, r_ipI, ite_false, ite_true, Bool.not_true, Bool.not_false, decide_true, decide_false, r_isd, r_islt, cD_ty, cD_ref, tD_non, tD_bl, tD_int, tD_str, tD_ref, tH_lst, tH_tup, tH_dK, tH_ins, ki_self, ki_int_bool, ki_non_int, ki_str_int, ki_lt_lst, ki_lt_tup, r_fld, r_sfld, HO.ins.injEq, cx_K]
  cases rx with
  | con hx =>
    cases ry with
    | con hy =>
      rename_i cx cy
      unfold gV at gk gl
      obtain ⟨e1, m1⟩ := (hx.mo (Mo.same s1)).kd.ty (CC := CC)
      refine ⟨_, e1, false, I0 _ m1, ?_⟩
      rw [if_neg (by decide)]
      refine ⟨x, y, cx, cy, rfl, hx.mo (Mo.same s1), hy.mo (Mo.same s1), gk.1, gl.1, gk.2.1, gl.2.1, fun H2 s2 => ⟨_, rfl, ?_⟩⟩
      have s12 : Same H H2 := fun z o e => s2 z o (s1 z o e)
      by_cases c : cx = cy
      · rw [eqB_iff.mpr c, if_neg (by decide)]
        exact q1 (by rw [c]) (fun z => z) H2 s12 s2
      · rw [eqB_ne c, if_pos (by decide)]
        exact q0 (fun z => c (by cases z; rfl)) H2 s12
    | cod => unfold Al at al; exact al.elim
  | cod ca ta hma =>
    cases ry with
    | con hy => unfold Al at al; exact al.elim
    | cod cb tb hmb =>
      rename_i c m vs p ks A c' m' us p' ls B
      obtain ⟨dx, fs, f1, _⟩ := id ca
      obtain ⟨dy, gs, g1, _⟩ := id cb
      have h1 := s1 _ _ f1
      have h2 := s1 _ _ g1
      refine ⟨.ref CC, by simp [tyD, tyH, h1], true, yes, ?_⟩
      rw [if_pos rfl]
      refine ⟨.ref CC, by simp [tyD, tyH, h2], true, yes, ?_⟩
      rw [if_pos rfl]
      refine ⟨tyl hW, szl (by decide : 2 ≤ 1000), fun r hr => ⟨rs.map V.ref, by rw [upd_ne (ne_new hW hr)]; exact hW, Nat.lt_of_le_of_lt (by rw [List.length_map]; exact hl : _ ≤ 200000) (by decide), ?_⟩⟩
      have rW : r ≠ W := new_ne hW hr
      refine q2 r _ trivial (fun z o e => ?_) hr (by rw [List.map_append]; exact upd_same) ⟨rW, c, c', by rw [upd_ne rW]; exact upd_same, .cod ca ta hma, .cod cb tb hmb, trivial, trivial, al, gk, gl⟩ fun z o nz e => ?_
      · rw [upd_ne (ne_new e W0), upd_ne (ne_new (s1 z o e) hr)]
        exact s1 z o e
      · rw [upd_ne nz, upd_ne (ne_new e hr)]
        exact e
end
section
variable {P : Program} {w : World} {K : PySem.W.Frag} {mg : Str → Option Value} {base : Heap} {f g : Addr} {fd gd : FuncData}
abbrev sareq : Stmt := top 10
theorem scareq : FnScope ["one", "other", "waiting", "mine", "its"] ["one", "other"] (defScope sareq) := ⟨rfl, rfl, rfl, by decide +kernel, rfl, by decide +kernel, by decide +kernel⟩

theorem areq_reads {CC MM : Addr} {A : Around} {outer : List Env} {s : Shared} {H : Hp} {E : XK} {cdv : Value} (T : Txt mg) (I : CodeT K mg CC) (C_is_same_constant : Cal P w K mg base 2 "is_same_constant" ["one", "other"] spSameC) (G : FnOk P w K mg base CX0 1 g gd ["self"] (spPartsAlike CC MM)) (bg : Binds K gd ["self"] []) (me : Meth K CC "parts_alike" g)
    (hr : Room 2 (cxOf CX0 P w K mg base ["one", "other", "waiting", "mine", "its"] "are_equal" (defScope sareq) f cdv A outer s H E).nox.A) (hu : (cxOf CX0 P w K mg base ["one", "other", "waiting", "mine", "its"] "are_equal" (defScope sareq) f cdv A outer s H E).nox.A.units + 64 < cLine) :
    PSs (cxOf CX0 P w K mg base ["one", "other", "waiting", "mine", "its"] "are_equal" (defScope sareq) f cdv A outer s H E).nox (defBody sareq) (t_eq K CC MM) := by
  unfold t_eq t_eqT t_pop2 t_idn t_parts t_zip t_each
  exact (pss_cons (ps_set (i := 2) scareq.nd rfl (Or.inl rfl) (pe_lst (pa_cons (pe_tup (pa_cons (pv 0) (pa_cons (pv 1) pa_nil))) pa_nil)))
  (pss_cons (ps_while PassesOwn.never (pt_truth (pv 2) (by intro _; rfl))
    (pss_cons (ps_asg (pe_bm0 PySem.F.plainAttrs_list PySem.F.slot_list_pop PySem.F.type_list_pop mt_pop (pv 2)) (pg_tupD (n := 2) rfl (pgs_cons (pg_name (i := 0) scareq.nd rfl (Or.inl rfl)) (pgs_cons (pg_name (i := 1) scareq.nd rfl (Or.inl rfl)) pgs_nil))))
  (pss_cons (ps_if (pt_cmpR (op_idn (Nat.lt_of_le_of_lt (Nat.le_add_right _ 64) hu)) (pe_fld (pv 0) rfl) (pe_fld (pv 1) rfl) (nomark _))
    (pss_one ps_continue)
    pss_nil)
  (pss_cons (ps_if (PW.pt (pw_or (pt_cmpR (op_neD hu) (pe_meth0 (pv 0) I.cI.cl me G (hr.mono (by decide)) bg .nil pass0) (pe_meth0 (pv 1) I.cI.cl me G (hr.mono (by decide)) bg .nil pass0) (nomark _)) (pw_or1 (pt_cmpR op_ne (pe_callB call_len_d (by rfl) T.b_len (by decide +kernel) (pa_cons (pe_fld (pv 0) rfl) pa_nil)) (pe_callB call_len_d (by rfl) T.b_len (by decide +kernel) (pa_cons (pe_fld (pv 1) rfl) pa_nil)) (nomark _)))))
    (pss_one (ps_ret pe_bl))
    pss_nil)
  (pss_one (ps_for PassesOwn.never rfl (RZ.pi_zipA rfl T.b_zip (pa_cons (pe_fld (pv 0) rfl) (pa_cons (pe_fld (pv 1) rfl) pa_nil))) (pg_tupD (n := 2) rfl (pgs_cons (pg_name (i := 3) scareq.nd rfl (Or.inl rfl)) (pgs_cons (pg_name (i := 4) scareq.nd rfl (Or.inl rfl)) pgs_nil)))
    (pss_one (ps_if (PW.pt (pw_and (pt_val (pe_callB (call_is_d I.cI) (by rfl) T.b_isinstance (by decide +kernel) (pa_cons (pv 3) (pa_cons (pe_glob (v := .ref _) rfl I.g_Code rfl) pa_nil)))) (pw_and1 (pt_val (pe_callB (call_is_d I.cI) (by rfl) T.b_isinstance (by decide +kernel) (pa_cons (pv 4) (pa_cons (pe_glob (v := .ref _) rfl I.g_Code rfl) pa_nil)))))))
    (pss_one (ps_expr (pe_bm PySem.F.plainAttrs_list PySem.F.slot_list_append PySem.F.type_list_append mt_append (pv 2) (pa_cons (pe_tup (pa_cons (pv 3) (pa_cons (pv 4) pa_nil))) pa_nil))))
    (pss_one (ps_if (pt_not (pt_val (pe_cal C_is_same_constant (hr.mono (by decide)) rfl (pa_cons (pv 3) (pa_cons (pv 4) pa_nil)))))
    (pss_one (ps_ret pe_bl))
    pss_nil))))))))))
  (pss_one (ps_ret pe_bl))))
end
end C51

set_option maxHeartbeats 2000000
namespace C51
open PySem PySem.Spec PyProof.Rows L2
theorem paired_snoc {α β : Type} {F : α → β → Prop} : ∀ {l1 : List α} {l2 : List β} {x : α} {y : β}, Paired F l1 l2 → F x y → Paired F (l1 ++ [x]) (l2 ++ [y])
  | _, _, _, _, .nil, h => .cons h .nil
  | _, _, _, _, .cons g t, h => .cons g (paired_snoc t h)
theorem paired_len {α β : Type} {F : α → β → Prop} : ∀ {l1 : List α} {l2 : List β}, Paired F l1 l2 → l1.length = l2.length
  | _, _, .nil => rfl
  | _, _, .cons _ t => by rw [List.length_cons, List.length_cons, paired_len t]
theorem take_one {α : Type} {xs : List α} {i : Nat} {x : α} (h : xs[i]? = some x) : xs.take (i + 1) = xs.take i ++ [x] := by
  rw [List.take_succ, h]
  rfl
theorem app_one {α : Type} {xs ys : List α} {x y : α} : xs ++ [x] = ys ++ [y] ↔ xs = ys ∧ x = y := by
  constructor
  · intro h
    obtain ⟨e1, e2⟩ := List.append_inj' h rfl
    exact ⟨e1, by simpa using e2⟩
  · rintro ⟨rfl, rfl⟩
    rfl
section
variable {K : PySem.W.Frag} {CC MM W a b : Addr} {μ : Mks} {bb nn : Nat} {H H1 : Hp} {Dn : Ends} {v0 v1 v2 v3 v4 : Option V}
theorem zip_run {f g : PF} {vs us : List V} {ks ls : List PV} {d e : Nat} {A B : FP} {m m' : Addr} {rs : List Addr} {ps : List (PV × PV)} (I0 : ∀ t ∈ ["NoneType", "int", "bool", "str", "list", "tuple", "dict"], PySem.W.kitOne K (.type t) (.ref CC) = some false) (yes : PySem.W.kitOne K (.ref CC) (.ref CC) = some true) (cl : Cls K CC) (na : NoAttr K CC "constants") (W0 : H W = none) (s1 : Same H H1)
    (ca : CodeAt CC MM H a f d vs A m) (cb : CodeAt CC MM H b g e us B m') (ta : Rps CC MM μ H vs ks) (tb : Rps CC MM μ H us ls) (hl : vs.length = us.length) (al : Als ks ls) (gk : gVs 100 bb nn ks) (gl : gVs 100 bb nn ls) (hW : H1 W = some (.lst (rs.map V.ref))) (hps : Paired (PairAt CC MM μ bb nn W H H1) rs ps) (hb : sumZ ps + szVs ks ≤ 100000)
    (q0 : ks ≠ ls → ∀ H', Same H H' → Dn.rt (.bl false) H')
    (q1 : ∀ v3 v4 rs' as H', Same H H' → H' W = some (.lst (rs'.map V.ref)) → Paired (PairAt CC MM μ bb nn W H H') rs' (ps ++ as) → sumZ as ≤ szVs ks → (ks = ls ↔ ∀ p ∈ as, p.1 = p.2) → Dn.nx [some (.ref a), some (.ref b), some (.ref W), v3, v4] H') : t_zip K CC Dn [some (.ref a), some (.ref b), some (.ref W), v3, v4] H1 := by
  unfold t_zip
  obtain ⟨dx, fs, f1, f2, f3, f4, f5, f6, f7, f8, f9, f10, f11, f12, f13, f14, f15, f16, f17, f18, f19, _⟩ := id ca
  obtain ⟨dy, gs, g1, g2, g3, g4, g5, g6, g7, g8, g9, g10, g11, g12, g13, g14, g15, g16, g17, g18, g19, _⟩ := id cb
  have l1 := ta.length
  have l2 := tb.length
  have r_zipA : ∀ {ta : TA} {g : TG} {tb : TS} {D : Ends} {σ : L2.St} {H : Hp}, tFor (RZ.iZipA K ta) g tb D σ H = ta σ H fun vs H1 => ∃ a b xs ys, vs = [.ref a, .ref b] ∧ ((SqL K H1 a xs ∧ SqL K H1 b ys ∧ LoopR (Itz K a b) g tb D σ H1) ∨ (SqT K H1 a xs ∧ SqT K H1 b ys ∧ LoopR (RZ.ItzT K a b) g tb D σ H1)) := fun {_ _ _ _ _ _} => rfl
  simp only [r_seq, r_next, r_brk, r_cont, r_asg, r_name, r_ret, r_retN, r_drop, r_ifs, r_never, r_var, r_c, r_op, r_un, r_if, r_tst, r_b, r_not, r_and, r_or, r_andV, r_orV, r_notV, r_nil, r_cons, r_tup, r_lst, r_cb, r_call, r_bm, r_bm0, r_sl, r_nopart, r_part, r_rev, r_gnil, r_gcons, r_gsub, r_par, r_aug, r_chain, r_I0, r_I, r_U, r_ixd, r_lend, r_tupd, r_listd, r_sld, r_app, r_ext, r_reverse, r_setl, r_cat, r_int1, r_eqS, r_neS, scal_ii, scal_bb, scal_ss, at0, at1, at2, sq_lst, sq_tup, isLst_lst, List.getElem?_cons_zero, List.getElem?_cons_succ, List.set_cons_zero, List.set_cons_succ, V.int.injEq, V.bl.injEq, V.ref.injEq, V.str.injEq, HO.lst.injEq, HO.tup.injEq, Option.some.injEq, exists_eq_left', exists_eq_left, List.cons.injEq, and_true, true_and, decide_eq_true_eq, reduceCtorEq, false_and, exists_false, or_false, false_or, exists_const, and_assoc, exists_and_left, List.append_nil, ix0, ix1, ix2, cm_mod, cdw1009, cdw2003, cdw7, cdw64, cdw2, cm104729, cm2, cm3, upd_same, List.length_cons, List.length_nil, Int.reduceLT, Int.reduceLE, Nat.reduceAdd, Nat.reduceLeDiff, Nat.reduceLT, Int.reduceToNat, r_for1, r_forL, r_forT, r_lcL, r_lc1, r_yes, r_gtupD, wipe_0, wipe_1, List.cons_append, List.nil_append, r_forS, r_ipI, ite_false, ite_true, Bool.not_true, Bool.not_false, decide_true, decide_false, r_isd, r_islt, cD_ty, cD_ref, tD_non, tD_bl, tD_int, tD_str, tD_ref, tH_lst, tH_tup, tH_dK, tH_ins, ki_self, ki_int_bool, ki_non_int, ki_str_int, ki_lt_lst, ki_lt_tup, r_fld, r_sfld, HO.ins.injEq, cx_K, r_zipA]
  refine ⟨CC, dx, fs, s1 _ _ f1, cl, na, _, f8, CC, dy, gs, s1 _ _ g1, cl, na, _, g8, A.pk, rfl, B.pk, rfl, vs, us, .inr ⟨SqT.of (s1 _ _ f19), SqT.of (s1 _ _ g19), ?_⟩⟩
  refine RZ.for_zipT hl (fun i σ H' => (∃ v3 v4, σ = [some (.ref a), some (.ref b), some (.ref W), v3, v4]) ∧ Same H H' ∧ ∃ rs' as, H' W = some (.lst (rs'.map V.ref)) ∧ Paired (PairAt CC MM μ bb nn W H H') rs' (ps ++ as) ∧ sumZ as ≤ szVs (ks.take i) ∧ (ks.take i = ls.take i ↔ ∀ p ∈ as, p.1 = p.2))
    ⟨⟨v3, v4, rfl⟩, s1, rs, [], hW, by rw [List.append_nil]; exact hps, by rw [sumZ]; exact Nat.zero_le _, by simp⟩ (fun i σ H' P => ⟨SqT.of (P.2.1 _ _ f19), SqT.of (P.2.1 _ _ g19)⟩) ?_ ?_
  · rintro i x y T σ H' hx hy ⟨⟨v3, v4, rfl⟩, s, rs', as, hW', hp', hz, iff⟩ hT
    have hT2 : L2.upd H' T (.tup [x, y]) T = some (.tup [x, y]) := upd_same
    simp only [r_seq, r_next, r_brk, r_cont, r_asg, r_name, r_ret, r_retN, r_drop, r_ifs, r_never, r_var, r_c, r_op, r_un, r_if, r_tst, r_b, r_not, r_and, r_or, r_andV, r_orV, r_notV, r_nil, r_cons, r_tup, r_lst, r_cb, r_call, r_bm, r_bm0, r_sl, r_nopart, r_part, r_rev, r_gnil, r_gcons, r_gsub, r_par, r_aug, r_chain, r_I0, r_I, r_U, r_ixd, r_lend, r_tupd, r_listd, r_sld, r_app, r_ext, r_reverse, r_setl, r_cat, r_int1, r_eqS, r_neS, scal_ii, scal_bb, scal_ss, at0, at1, at2, sq_lst, sq_tup, isLst_lst, List.getElem?_cons_zero, List.getElem?_cons_succ, List.set_cons_zero, List.set_cons_succ, V.int.injEq, V.bl.injEq, V.ref.injEq, V.str.injEq, HO.lst.injEq, HO.tup.injEq, Option.some.injEq, exists_eq_left', exists_eq_left, List.cons.injEq, and_true, true_and, decide_eq_true_eq, reduceCtorEq, false_and, exists_false, or_false, false_or, exists_const, and_assoc, exists_and_left, List.append_nil, ix0, ix1, ix2, cm_mod, cdw1009, cdw2003, cdw7, cdw64, cdw2, cm104729, cm2, cm3, upd_same, List.length_cons, List.length_nil, Int.reduceLT, Int.reduceLE, Nat.reduceAdd, Nat.reduceLeDiff, Nat.reduceLT, Int.reduceToNat, r_for1, r_forL, r_forT, r_lcL, r_lc1, r_yes, r_gtupD, wipe_0, wipe_1, List.cons_append, List.nil_append, r_forS, r_ipI, ite_false, ite_true, Bool.not_true, Bool.not_false, decide_true, decide_false, r_isd, r_islt, cD_ty, cD_ref, tD_non, tD_bl, tD_int, tD_str, tD_ref, tH_lst, tH_tup, tH_dK, tH_ins, ki_self, ki_int_bool, ki_non_int, ki_str_int, ki_lt_lst, ki_lt_tup, r_fld, r_sfld, HO.ins.injEq, cx_K, hT2]
    have i1 := (List.getElem?_eq_some_iff.mp hx).1
    have i2 := (List.getElem?_eq_some_iff.mp hy).1
    obtain ⟨k, hk⟩ : ∃ k, ks[i]? = some k := ⟨_, List.getElem?_eq_getElem (by omega)⟩
    obtain ⟨l, hl'⟩ : ∃ l, ls[i]? = some l := ⟨_, List.getElem?_eq_getElem (by omega)⟩
    have s2 := Same.new' (o := .tup [x, y]) s hT
    have sT := Same.new' (o := .tup [x, y]) (Same.refl H') hT
    have lr := paired_len hp'
    have lz := len_sumZ (ps ++ as)
    rw [sumZ_app] at lz
    have tk := szVs_take_le ks i
    have tk1 := szVs_take hk
    refine each_run I0 yes W0 s2 (ta.at hx hk) (tb.at hy hl') (al.at hk hl') (gVs_at gk hk) (gVs_at gl hl') (sT _ _ hW') (by omega) (fun ne => q0 fun z => ne ?_) (fun e nc H2 s3 s4 => ⟨⟨_, _, rfl⟩, s3, rs', s4 _ _ (sT _ _ hW'), as, Paired.map' hp' fun _ _ h => (h.same sT).same s4, by omega, ?_⟩) (fun r H2 ic s3 hr hW2 hpr keep => ⟨⟨_, _, rfl⟩, s3, rs' ++ [r], hW2, as ++ [(k, l)], ?_, ?_, ?_⟩)
    · subst z
      rw [hk] at hl'
      exact Option.some.inj hl'
    · subst e
      rw [take_one hk, take_one hl', app_one, iff]
      exact ⟨fun h => h.1, fun h => ⟨h, rfl⟩⟩
    · rw [← List.append_assoc]
      refine paired_snoc (Paired.map' hp' fun _ _ h => ?_) hpr
      obtain ⟨n, c, c', e, q⟩ := h.same sT
      exact ⟨n, c, c', keep _ _ n e, q⟩
    · rw [sumZ_app, sumZ, sumZ, tk1]
      show sumZ as + (szV k + 0) ≤ _
      omega
    · rw [take_one hk, take_one hl', app_one, iff]
      constructor
      · rintro ⟨h1, h2⟩ p hp
        rcases List.mem_append.mp hp with hp | hp
        · exact h1 p hp
        · rw [List.mem_singleton.mp hp]
          exact h2
      · exact fun h => ⟨fun p hp => h p (List.mem_append_left _ hp), h (k, l) (by simp)⟩
  · rintro σ H' ⟨⟨v3, v4, rfl⟩, s, rs', as, hW', hp', hz, iff⟩
    rw [List.take_of_length_le (by omega), List.take_of_length_le (by omega)] at iff
    have := szVs_take_le ks vs.length
    exact q1 v3 v4 rs' as H' s hW' hp' (by omega) iff
/-- pairs that wait -/
def Eqw (CC MM : Addr) (μ : Mks) (bb nn : Nat) (H : Hp) (W : Addr) (R : Prop) (m : Nat) (σ : L2.St) (H1 : Hp) : Prop := (∃ v0 v1 v3 v4, σ = [v0, v1, some (.ref W), v3, v4]) ∧ Same H H1 ∧ ∃ (rs : List Addr) (ps : List (PV × PV)), H1 W = some (.lst (rs.map V.ref)) ∧ Paired (PairAt CC MM μ bb nn W H H1) rs ps ∧ sumZ ps = m ∧ m ≤ 100000 ∧ (R ↔ ∀ p ∈ ps, p.1 = p.2)
theorem turn_run {rs : List Addr} {ps : List (PV × PV)} {r : Addr} {p : PV × PV} {R : Prop} (I0 : ∀ t ∈ ["NoneType", "int", "bool", "str", "list", "tuple", "dict"], PySem.W.kitOne K (.type t) (.ref CC) = some false) (yes : PySem.W.kitOne K (.ref CC) (.ref CC) = some true) (cl : Cls K CC) (na : NoAttr K CC "identity") (nc : NoAttr K CC "constants") (M : MarkT K MM) (Wμ : Wm MM μ H) (W0 : H W = none) (s1 : Same H H1)
    (hW : H1 W = some (.lst ((rs ++ [r]).map V.ref))) (hps : Paired (PairAt CC MM μ bb nn W H H1) rs ps) (hp : PairAt CC MM μ bb nn W H H1 r p) (hb : sumZ ps + szV p.1 ≤ 100000) (iff : R ↔ ∀ x ∈ ps ++ [p], x.1 = x.2)
    (q0 : ¬ R → ∀ H', Same H H' → Dn.rt (.bl false) H') (q1 : ∀ m' σ H', m' < sumZ ps + szV p.1 → Eqw CC MM μ bb nn H W R m' σ H' → Dn.nx σ H' ∧ Dn.ct σ H') : t_eqT K CC MM Dn [v0, v1, some (.ref W), v3, v4] H1 := by
  obtain ⟨p1, p2⟩ := p
  obtain ⟨rW, c, c', hr, R1, R2, i1, i2, al, g1, g2⟩ := hp
  cases R1 with
  | con h => exact i1.elim
  | cod ca ta hma =>
  cases R2 with
  | con h => exact i2.elim
  | cod cb tb hmb =>
  rename_i m vs f ks A m' us g ls B
  unfold t_eqT t_pop2 t_idn
  have rl : ((rs ++ [r]).map V.ref)[((rs ++ [r]).map V.ref).length - 1]? = some (.ref r) := by simp
  have dl : ((rs ++ [r]).map V.ref).dropLast = rs.map V.ref := by simp
  have hr2 : L2.upd H1 W (.lst (rs.map V.ref)) r = some (.tup [.ref c, .ref c']) := by rw [upd_ne rW]; exact hr
  have r_idn : ∀ {K : PySem.W.Frag} {x y : V} {H : Hp} {Q : VK}, rIdn K x y H Q = ∃ (a b C dx dy : Addr) (fs gs : List (Str × V)), x = .ref a ∧ y = .ref b ∧ H a = some (.ins C dx fs) ∧ H b = some (.ins C dy gs) ∧ PySem.W.mroIn K C (.type "object") = some true ∧
    PySem.W.findIn K (.ref C) "__eq__" = some (some (.builtin "object.__eq__")) ∧ Q (.bl (decide (a = b))) H := fun {_ _ _ _ _} => rfl
  simp only [r_seq, r_next, r_brk, r_cont, r_asg, r_name, r_ret, r_retN, r_drop, r_ifs, r_never, r_var, r_c, r_op, r_un, r_if, r_tst, r_b, r_not, r_and, r_or, r_andV, r_orV, r_notV, r_nil, r_cons, r_tup, r_lst, r_cb, r_call, r_bm, r_bm0, r_sl, r_nopart, r_part, r_rev, r_gnil, r_gcons, r_gsub, r_par, r_aug, r_chain, r_I0, r_I, r_U, r_ixd, r_lend, r_tupd, r_listd, r_sld, r_app, r_ext, r_reverse, r_setl, r_cat, r_int1, r_eqS, r_neS, scal_ii, scal_bb, scal_ss, at0, at1, at2, sq_lst, sq_tup, isLst_lst, List.getElem?_cons_zero, List.getElem?_cons_succ, List.set_cons_zero, List.set_cons_succ, V.int.injEq, V.bl.injEq, V.ref.injEq, V.str.injEq, HO.lst.injEq, HO.tup.injEq, Option.some.injEq, exists_eq_left', exists_eq_left, List.cons.injEq, and_true, true_and, decide_eq_true_eq, reduceCtorEq, false_and, exists_false, or_false, false_or, exists_const, and_assoc, exists_and_left, List.append_nil, ix0, ix1, ix2, cm_mod, cdw1009, cdw2003, cdw7, cdw64, cdw2, cm104729, cm2, cm3, upd_same, List.length_cons, List.length_nil, Int.reduceLT, Int.reduceLE, Nat.reduceAdd, Nat.reduceLeDiff, Nat.reduceLT, Int.reduceToNat, r_for1, r_forL, r_forT, r_lcL, r_lc1, r_yes, r_gtupD, wipe_0, wipe_1, List.cons_append, List.nil_append, r_forS, r_ipI, ite_false, ite_true, Bool.not_true, Bool.not_false, decide_true, decide_false, r_isd, r_islt, cD_ty, cD_ref, tD_non, tD_bl, tD_int, tD_str, tD_ref, tH_lst, tH_tup, tH_dK, tH_ins, ki_self, ki_int_bool, ki_non_int, ki_str_int, ki_lt_lst, ki_lt_tup, r_fld, r_sfld, HO.ins.injEq, cx_K, r_pop, hW, rl, dl, hr2, r_idn]
  obtain ⟨dx, fs, f1, f2, f3, f4, f5, f6, f7, f8, f9, f10, f11, f12, f13, f14, f15, f16, f17, f18, f19, f20, f21, f22, f23, f24, ⟨md, f25⟩, f26⟩ := id ca
  obtain ⟨dy, gs, g1', g2', g3, g4, g5, g6, g7, g8, g9, g10, g11, g12, g13, g14, g15, g16, g17, g18, g19, g20, g21, g22, g23, g24, ⟨md', g25⟩, g26⟩ := id cb
  have s2 : Same H (L2.upd H1 W (.lst (rs.map V.ref))) := fun y o e => by
    rw [upd_ne (ne_new e W0)]
    exact s1 y o e
  have hW2 : L2.upd H1 W (.lst (rs.map V.ref)) W = some (.lst (rs.map V.ref)) := upd_same
  have hps2 : Paired (PairAt CC MM μ bb nn W H (L2.upd H1 W (.lst (rs.map V.ref)))) rs ps := Paired.map' hps fun _ _ h => h.upd
  generalize L2.upd H1 W (.lst (rs.map V.ref)) = G at *
  have pos := szV_pos (.cod f ks)
  refine ⟨tyl hW, CC, dx, fs, s2 _ _ f1, cl, na, _, f17, CC, dy, gs, s2 _ _ g1', cl, na, _, g17, m, rfl, m', rfl, MM, md, md', [], s2 _ _ f25, [], s2 _ _ g25, M.mo, M.fe, ?_⟩
  by_cases e : m = m'
  · rw [if_pos e]
    subst e
    rw [hma] at hmb
    have e2 := Option.some.inj hmb
    refine (q1 (sumZ ps) _ _ (by show sumZ ps < sumZ ps + szV (.cod f ks); omega) ⟨⟨_, _, _, _, rfl⟩, s2, rs, ps, hW2, hps2, rfl, by omega, ?_⟩).2
    rw [iff]
    constructor
    · exact fun h x hx => h x (List.mem_append_left _ hx)
    · intro h x hx
      rcases List.mem_append.mp hx with hx | hx
      · exact h x hx
      · rw [List.mem_singleton.mp hx]
        exact e2
  · rw [if_neg e]
    have nR : (PV.cod f ks ≠ PV.cod g ls) → ¬ R := fun ne hR => ne (iff.mp hR (PV.cod f ks, PV.cod g ls) (by simp))
    have l1 := ta.length
    have l2 := tb.length
    unfold gV at g1 g2
    unfold Al at al
    have e3 : szV (.cod f ks) = szVs ks + 1 := by rw [szV]
    have hb' : sumZ ps + szV (.cod f ks) ≤ 100000 := hb
    have q1' : ∀ m' σ H', m' < sumZ ps + szV (.cod f ks) → Eqw CC MM μ bb nn H W R m' σ H' → Dn.nx σ H' ∧ Dn.ct σ H' := q1
    refine parts_run cl nc (ca.mo (Mo.same s2)) (cb.mo (Mo.same s2)) g1.1 g2.1 (fun h H3 s3 => q0 (nR fun z => ?_) H3 fun y o e => s3 y o (s2 y o e)) fun ef el H3 s3 => ?_
    · cases z
      rcases h with h | h
      · exact h rfl
      · exact h (by omega)
    · have s13 : Same H H3 := fun y o e => s3 y o (s2 y o e)
      subst ef
      refine zip_run I0 yes cl nc W0 s13 ca cb ta tb el al g1.2.2.2 g2.2.2.2 (s3 _ _ hW2) (Paired.map' hps2 fun _ _ h => h.same s3) (by omega) (fun ne => q0 (nR fun z => ne (by cases z; rfl))) fun v3 v4 rs' as H4 s4 hW4 hp4 hz iff2 => ?_
      refine (q1' (sumZ (ps ++ as)) _ _ (by rw [sumZ_app]; omega) ⟨⟨_, _, _, _, rfl⟩, s4, rs', ps ++ as, hW4, hp4, rfl, by rw [sumZ_app]; omega, ?_⟩).1
      rw [iff]
      constructor
      · intro h x hx
        rcases List.mem_append.mp hx with hx | hx
        · exact h x (List.mem_append_left _ hx)
        · have := h (PV.cod f ks, PV.cod f ls) (by simp)
          exact iff2.mp (by cases this; rfl) x hx
      · intro h x hx
        rcases List.mem_append.mp hx with hx | hx
        · exact h x (List.mem_append_left _ hx)
        · rw [List.mem_singleton.mp hx]
          show PV.cod f ks = PV.cod f ls
          rw [iff2.mpr fun y hy => h y (List.mem_append_right _ hy)]
theorem eq_run {pa pb : PV} (I0 : ∀ t ∈ ["NoneType", "int", "bool", "str", "list", "tuple", "dict"], PySem.W.kitOne K (.type t) (.ref CC) = some false) (yes : PySem.W.kitOne K (.ref CC) (.ref CC) = some true) (cl : Cls K CC) (na : NoAttr K CC "identity") (nc : NoAttr K CC "constants") (M : MarkT K MM) (Wμ : Wm MM μ H)
    (ra : Rp CC MM μ H (.ref a) pa) (rb : Rp CC MM μ H (.ref b) pb) (ia : isC pa) (ib : isC pb) (al : Al pa pb) (ga : gV 100 bb nn pa) (gb : gV 100 bb nn pb) (hz : szV pa ≤ 100000) (q : ∀ H', Same H H' → Dn.rt (.bl (eqB pa pb)) H') : t_eq K CC MM Dn [some (.ref a), some (.ref b), none, none, none] H := by
  unfold t_eq
  simp only [r_seq, r_next, r_brk, r_cont, r_asg, r_name, r_ret, r_retN, r_drop, r_ifs, r_never, r_var, r_c, r_op, r_un, r_if, r_tst, r_b, r_not, r_and, r_or, r_andV, r_orV, r_notV, r_nil, r_cons, r_tup, r_lst, r_cb, r_call, r_bm, r_bm0, r_sl, r_nopart, r_part, r_rev, r_gnil, r_gcons, r_gsub, r_par, r_aug, r_chain, r_I0, r_I, r_U, r_ixd, r_lend, r_tupd, r_listd, r_sld, r_app, r_ext, r_reverse, r_setl, r_cat, r_int1, r_eqS, r_neS, scal_ii, scal_bb, scal_ss, at0, at1, at2, sq_lst, sq_tup, isLst_lst, List.getElem?_cons_zero, List.getElem?_cons_succ, List.set_cons_zero, List.set_cons_succ, V.int.injEq, V.bl.injEq, V.ref.injEq, V.str.injEq, HO.lst.injEq, HO.tup.injEq, Option.some.injEq, exists_eq_left', exists_eq_left, List.cons.injEq, and_true, true_and, decide_eq_true_eq, reduceCtorEq, false_and, exists_false, or_false, false_or, exists_const, and_assoc, exists_and_left, List.append_nil, ix0, ix1, ix2, cm_mod, cdw1009, cdw2003, cdw7, cdw64, cdw2, cm104729, cm2, cm3, upd_same, List.length_cons, List.length_nil, Int.reduceLT, Int.reduceLE, Nat.reduceAdd, Nat.reduceLeDiff, Nat.reduceLT, Int.reduceToNat, r_for1, r_forL, r_forT, r_lcL, r_lc1, r_yes, r_gtupD, wipe_0, wipe_1, List.cons_append, List.nil_append, r_forS, r_ipI, ite_false, ite_true, Bool.not_true, Bool.not_false, decide_true, decide_false, r_isd, r_islt, cD_ty, cD_ref, tD_non, tD_bl, tD_int, tD_str, tD_ref, tH_lst, tH_tup, tH_dK, tH_ins, ki_self, ki_int_bool, ki_non_int, ki_str_int, ki_lt_lst, ki_lt_tup, r_fld, r_sfld, HO.ins.injEq, cx_K]
  refine ⟨szl (by decide : 2 ≤ 1000), fun p hp => ⟨szl (by decide : 1 ≤ 1000), fun W hW => ?_⟩⟩
  have sp := Same.new' (o := .tup [.ref a, .ref b]) (Same.refl H) hp
  have W0 : H W = none := sp.free hW
  have pW : p ≠ W := ne_new upd_same hW
  refine while_w (tb := t_eqT K CC MM) (Eqw CC MM μ bb nn H W (pa = pb)) (m0 := szV pa) ⟨⟨_, _, _, _, rfl⟩, Same.new' sp hW, [p], [(pa, pb)], upd_same, .cons ⟨pW, a, b, by rw [upd_ne pW]; exact upd_same, ra, rb, ia, ib, al, ga, gb⟩ .nil, by rw [sumZ, sumZ]; rfl, hz, by simp⟩ ?_
  rintro m σ H1 ⟨⟨v0, v1, v3, v4, rfl⟩, s1, rs, ps, h1, hps, hm, hm2, iff⟩
  refine ⟨!(rs.map V.ref).isEmpty, fun QT qt => ⟨.ref W, rfl, _, .inl ⟨_, SqL.of h1, rfl⟩, qt⟩, fun hb => ?_, fun hb => ?_⟩
  · rcases List.eq_nil_or_concat ps with rfl | ⟨ps', p', rfl⟩
    · cases hps
      cases hb
    · rw [List.concat_eq_append] at *
      obtain ⟨rs', r, rfl, t, hr⟩ := Paired.snocR hps
      rw [sumZ_app, sumZ, sumZ] at hm
      subst hm
      exact turn_run I0 yes cl na nc M Wμ W0 s1 h1 t hr (by omega) iff (fun nR H' s => by rw [← eqB_ne nR]; exact q H' s) fun m' σ H' lt w => ⟨⟨m', by omega, w⟩, ⟨m', by omega, w⟩⟩
  · have e0 : rs = [] := by
      cases rs with
      | nil => rfl
      | cons x l => simp at hb
    subst e0
    cases hps
    simp only [r_seq, r_next, r_brk, r_cont, r_asg, r_name, r_ret, r_retN, r_drop, r_ifs, r_never, r_var, r_c, r_op, r_un, r_if, r_tst, r_b, r_not, r_and, r_or, r_andV, r_orV, r_notV, r_nil, r_cons, r_tup, r_lst, r_cb, r_call, r_bm, r_bm0, r_sl, r_nopart, r_part, r_rev, r_gnil, r_gcons, r_gsub, r_par, r_aug, r_chain, r_I0, r_I, r_U, r_ixd, r_lend, r_tupd, r_listd, r_sld, r_app, r_ext, r_reverse, r_setl, r_cat, r_int1, r_eqS, r_neS, scal_ii, scal_bb, scal_ss, at0, at1, at2, sq_lst, sq_tup, isLst_lst, List.getElem?_cons_zero, List.getElem?_cons_succ, List.set_cons_zero, List.set_cons_succ, V.int.injEq, V.bl.injEq, V.ref.injEq, V.str.injEq, HO.lst.injEq, HO.tup.injEq, Option.some.injEq, exists_eq_left', exists_eq_left, List.cons.injEq, and_true, true_and, decide_eq_true_eq, reduceCtorEq, false_and, exists_false, or_false, false_or, exists_const, and_assoc, exists_and_left, List.append_nil, ix0, ix1, ix2, cm_mod, cdw1009, cdw2003, cdw7, cdw64, cdw2, cm104729, cm2, cm3, upd_same, List.length_cons, List.length_nil, Int.reduceLT, Int.reduceLE, Nat.reduceAdd, Nat.reduceLeDiff, Nat.reduceLT, Int.reduceToNat, r_for1, r_forL, r_forT, r_lcL, r_lc1, r_yes, r_gtupD, wipe_0, wipe_1, List.cons_append, List.nil_append, r_forS, r_ipI, ite_false, ite_true, Bool.not_true, Bool.not_false, decide_true, decide_false, r_isd, r_islt, cD_ty, cD_ref, tD_non, tD_bl, tD_int, tD_str, tD_ref, tH_lst, tH_tup, tH_dK, tH_ins, ki_self, ki_int_bool, ki_non_int, ki_str_int, ki_lt_lst, ki_lt_tup, r_fld, r_sfld, HO.ins.injEq, cx_K]
    have : eqB pa pb = true := eqB_iff.mpr (iff.mpr fun p hp => nomatch hp)
    rw [← this]
    exact q H1 s1
end
/-- two codes, whatever they are of -/
def REq (CC MM : Addr) (a b : Addr) (H : Hp) (r : Bool) : Prop := ∃ (μ : Mks) (bb nn : Nat) (pa pb : PV), Wm MM μ H ∧ Rp CC MM μ H (.ref a) pa ∧ Rp CC MM μ H (.ref b) pb ∧ isC pa ∧ isC pb ∧ Al pa pb ∧ gV 100 bb nn pa ∧ gV 100 bb nn pb ∧ szV pa ≤ 100000 ∧ r = eqB pa pb
def spEqB (CC MM : Addr) : Sp := fun vs H Q _ => ∃ (a b : Addr) (r : Bool), vs = [.ref a, .ref b] ∧ REq CC MM a b H r ∧ ∀ H', Same H H' → Q (.bl r) H'
section
variable {P : Program} {w : World} {K : PySem.W.Frag} {mg : Str → Option Value} {base : Heap} {f g : Addr} {fd gd : FuncData}
theorem ok_areq {CC MM : Addr} (T : Txt mg) (I : CodeT K mg CC) (yes : PySem.W.kitOne K (.ref CC) (.ref CC) = some true) (M : MarkT K MM) (F : FnP K "are_equal" "are_equal" sareq f fd) (C_is_same_constant : Cal P w K mg base 2 "is_same_constant" ["one", "other"] spSameC) (G : FnOk P w K mg base CX0 1 g gd ["self"] (spPartsAlike CC MM)) (bg : Binds K gd ["self"] []) (me : Meth K CC "parts_alike" g) : FnOk P w K mg base CX0 3 f fd ["one", "other"] (spEqB CC MM) := by
  refine F.ok scareq (fun vs H Q E h => ?_) (fun cdv A outer s H vs Q E hr h => ?_)
  · obtain ⟨a, b, r, rfl, _⟩ := h
    rfl
  · have hu : (A.deeper (envOfC "are_equal" (defScope sareq) s.heap.objs.size f cdv)).units + 64 < cLine := by
      refine Nat.lt_of_le_of_lt ?_ hr.un
      show _ ≤ (A.deeper (envOfC "are_equal" (defScope sareq) s.heap.objs.size f cdv)).units + 16 * 2 + 200
      omega
    refine ⟨_, PSs.nox (areq_reads (CC := CC) (MM := MM) T I C_is_same_constant G bg me hr hu), ?_⟩
    obtain ⟨a, b, r, rfl, ⟨μ, bb, nn, pa, pb, Wμ, ra, rb, ia, ib, al, ga, gb, hz, rfl⟩, k⟩ := h
    exact eq_run I.no yes I.cI.cl (I.na _ (by decide)) (I.na _ (by decide)) M Wμ ra rb ia ib al ga gb hz k
end
end C51

set_option maxHeartbeats 2000000
namespace C51
open PySem PySem.Spec PyProof.Rows L2
/-! ### == and != by an own __eq__, whatever is on the right, whatever it gives -/
section
variable {MO : Model} {PR : Program} {WW : World} {AA : Around} {EE : Value → Shared → Prop} {sh : Shared} {KK : PySem.W.Frag} {i1 cl ef : Addr} {ob1 : Obj} {dd1 : Option Obj} {ub : Value} {tb : Value}
theorem looks_ty {T : String} (h : sh.TypeIs ub T) : PySem.W.Looks (model PR WW) sh.heap (typeOf ub) (.type T) := by
  unfold Shared.TypeIs at h
  split at h
  · obtain ⟨o, e, c⟩ := h
    rw [← c]
    exact (PySem.W.Looks.ld e).andThen .now
  · rw [h]
    exact .now
/-- object's __ne__ asks the own __eq__ -/
theorem ne_bodyB {QQ : Fin → Shared → Prop} (hu : AA.units < cLine) (XX : KK.In sh.heap) (I1 : PySem.W.InstAt sh.heap i1 ob1 cl dd1) (fe : PySem.W.findIn KK (.ref cl) "__eq__" = some (some (.ref ef))) (hf : PySem.W.isFn KK (.ref ef) = true)
    (go : wpAny MO AA (call (.ref ef) [.ref i1, ub]) (fun v s' => ∃ r, v = .bool r ∧ QQ (.done (.ret (.bool (!r)))) s') EE sh) : wpAny MO AA (Builtin.«object.__ne__» ⟨[.ref i1, ub], []⟩) QQ EE sh := by
  unfold Builtin.«object.__ne__»
  repeat (first | with_reducible refine wpAny_cRoomFor hu ?_ | with_reducible refine PySem.W.ifBound_K XX I1 fe hf (wpAny_mono go (fun v t h => ?_) fun _ _ h => h) | wp_step)
  obtain ⟨r, e, h⟩ := h
  subst e
  dsimp only
  exact wpAny_bind (wpAny_truthy_bool (wpAny_pure h))
theorem rc_neB {QQ : Value → Shared → Prop} (hu : AA.units + 1 < cLine) (XX : KK.In sh.heap) (I1 : PySem.W.InstAt sh.heap i1 ob1 cl dd1) (hb : PySem.W.Looks (model PR WW) sh.heap (typeOf ub) tb) (hn : PySem.W.notFirst KK cl tb = true) (mo : PySem.W.mroIn KK cl (.type "object") = some true)
    (fn : PySem.W.findIn KK (.ref cl) "__ne__" = some (some (.builtin "object.__ne__"))) (fe : PySem.W.findIn KK (.ref cl) "__eq__" = some (some (.ref ef))) (hf : PySem.W.isFn KK (.ref ef) = true)
    (go : wpAny (model PR WW) AA.in1 (call (.ref ef) [.ref i1, ub]) (fun v s' => ∃ r, v = .bool r ∧ QQ (.bool (!r)) s') EE sh) : wpAny (model PR WW) AA (richCompare .NotEq (.ref i1) ub) QQ EE sh := by
  have one : wpAny (model PR WW) AA (tryCompare (.ref i1) "__ne__" ub) (fun r s' => ∃ v, r = some v ∧ QQ v s') EE sh := by
    unfold tryCompare
    refine wpAny_bind (obj_way F.cmp_object.ne XX I1 fn (wpAny_call (codeAny_call_builtin F.cmp_object.ne.plain F.cmpEntry_ne (PySem.W.check_slot F.cmpKind_ne F.cmpSplit_ne (I1.type.andThen (PySem.W.looks_mroIn XX mo)) (F.cmpArgs_ne _ _) ?_))))
    refine ne_bodyB (by show AA.units + 1 < cLine; exact hu) XX I1 fe hf (wpAny_mono go (fun v s' h => ?_) fun _ _ h => h)
    obtain ⟨r, e, h⟩ := h
    exact ⟨r, e, wpAny_pure ⟨_, rfl, h⟩⟩
  unfold richCompare
  simp only [oneThing_ref, cmpInfo_NotEq]
  refine wpAny_holding (wpAny_bind (wpAny_cRoomFor (by omega) ?_))
  refine wpAny_bind (I1.type.here (wpAny_bind (hb.here ?_)))
  split
  · rename_i q
    have e : PySem.W.subIn KK tb (.ref cl) = some false := by
      rcases Bool.or_eq_true_iff.mp hn with e | e
      · rw [beq_iff_eq.mp e] at q; simp at q
      · exact beq_iff_eq.mp e
    refine wpAny_bind ((PySem.W.looks_subIn XX e).here ?_)
    simp only [Bool.false_eq_true, if_false]
    refine wpAny_bind (m := tryCompare (.ref i1) _ ub) (wpAny_mono one (fun r t z => ?_) fun _ _ h => h)
    obtain ⟨v, z1, z2⟩ := z
    subst z1
    exact wpAny_pure z2
  · refine wpAny_bind (wpAny_pure ?_)
    simp only [Bool.false_eq_true, if_false]
    refine wpAny_bind (m := tryCompare (.ref i1) _ ub) (wpAny_mono one (fun r t z => ?_) fun _ _ h => h)
    obtain ⟨v, z1, z2⟩ := z
    subst z1
    exact wpAny_pure z2
end
section
variable {X : Cx}
/-- an own def is called, somewhere below the body that runs -/
theorem own_called {CX : CXT} {n : Nat} {g : Addr} {gd : FuncData} {ps : List Str} {sp : Sp} {E : XK} {B : Around} {pins : List (Addr × Obj)} {s : Shared} {σ : L2.St} {H : Hp} {vs : List V} {us : List Value} {Q : VK} (G : FnOk X.prog X.w X.K X.mg X.base CX n g gd ps sp) (bi : Binds X.K gd ps [])
    (pa : Passes CX X E) (ro : Room n B) (fr : B.frames = X.A.frames) (I : L2.Inv X pins σ H s) (two : Vals vs us) (h : sp vs H Q E) : wpAny (model X.prog X.w) B (call (.ref g) us) (fun w s' => ∃ z H', L2.Inv X pins σ H' s' ∧ RelV z w ∧ Q z H') X.xe s := by
  have en : Env0 X.prog X.w X.K X.mg X.base B X.stack s H := by
    obtain ⟨z1, z2, z3, z4, z5, z6, z7, z8⟩ := I.env0
    exact ⟨fr.trans z1, z2, z3, z4, z5, z6, z7, z8⟩
  have el : us.length = ps.length := two.length.symm.trans (G.len _ _ _ _ h)
  have bo := bi s us I.kIn (by rw [List.append_nil]; exact el)
  rw [List.append_nil] at bo
  refine wpAny_call (codeAny_mono (G.run B X.stack s H ⟨us, []⟩ us vs _ E ro en bo two h) fun r t h => ?_)
  match r, h with
  | .error e, h => exact pa pins σ H s e t I h
  | .ok (.ret w), h =>
    obtain ⟨z, H', J, rz, ez⟩ := I.after h
    exact ⟨z, H', J, rz, ez⟩
def rEqC (K : PySem.W.Frag) (C : Addr) (sp : Sp) (g : Bool → Bool) : R2 := fun x y H Q => ∃ (a dx : Addr) (fs : List (Str × V)), x = .ref a ∧ H a = some (.ins C dx fs) ∧ ((∃ (b dy : Addr) (gs : List (Str × V)), y = .ref b ∧ H b = some (.ins C dy gs)) ∨ ∃ T : String, TyB K H y T ∧ PySem.W.subIn K (.type T) (.ref C) = some false) ∧
  sp [x, y] H (fun v H' => ∃ r, v = .bl r ∧ Q (.bl (g r)) H') E0
theorem op_eqC {CX : CXT} {n : Nat} {C g : Addr} {gd : FuncData} {ps : List Str} {sp : Sp} (G : FnOk X.prog X.w X.K X.mg X.base CX n g gd ps sp) (bi : Binds X.K gd ps []) (pa : Passes CX X E0) (ro : Room n X.A)
    (fe : PySem.W.findIn X.K (.ref C) "__eq__" = some (some (.ref g))) (hf : PySem.W.isFn X.K (.ref g) = true) : OpR X (compareOp .Eq) (rEqC X.K C sp id) := fun pins s σ H x y v u Q I rx ry h => by
  obtain ⟨a, dx, fs, rfl, ha, hy, q⟩ := h
  cases rx
  obtain ⟨_, oa, _⟩ := ins_get I.hok ha
  obtain ⟨_, ia, _⟩ := oa.look
  obtain ⟨m, hF⟩ := I.fr
  have go := own_called G bi pa ro rfl I (us := [.ref a, u]) (vs := [.ref a, y]) (.cons rfl (.cons ry .nil)) q
  have fin : ∀ w s', (∃ z H', L2.Inv X pins σ H' s' ∧ RelV z w ∧ ∃ r, z = .bl r ∧ Q (.bl (id r)) H') → PySem.W.CmpBack (EP X pins σ Q) w s' := fun w s' ⟨z, H', J, rz, r, ez, hq⟩ => by
    subst ez
    cases rz
    exact ⟨.bl r, H', J, rfl, hq⟩
  rcases hy with ⟨b, dy, gs, rfl, hb⟩ | ⟨T, ty, sb⟩
  · cases ry
    obtain ⟨_, ob, _⟩ := ins_get I.hok hb
    obtain ⟨_, ib, _⟩ := ob.look
    exact PySem.W.cmp_K (op := .Eq) (tb := .ref C) ro.units0 hF I.ok.mod.kin ia ib.type (by simp [PySem.W.notFirst]) fe hf (wpAny_mono go (fun w s' z => fin w s' z) fun _ _ z => z)
  · exact PySem.W.cmp_K (op := .Eq) (tb := .type T) ro.units0 hF I.ok.mod.kin ia (looks_ty (TyB.is I ry ty)) (by simp [PySem.W.notFirst, sb]) fe hf (wpAny_mono go (fun w s' z => fin w s' z) fun _ _ z => z)
theorem op_neC {CX : CXT} {n : Nat} {C g : Addr} {gd : FuncData} {ps : List Str} {sp : Sp} (G : FnOk X.prog X.w X.K X.mg X.base CX n g gd ps sp) (bi : Binds X.K gd ps []) (pa : Passes CX X E0) (ro : Room (n + 1) X.A)
    (mo : PySem.W.mroIn X.K C (.type "object") = some true) (fn : PySem.W.findIn X.K (.ref C) "__ne__" = some (some (.builtin "object.__ne__"))) (fe : PySem.W.findIn X.K (.ref C) "__eq__" = some (some (.ref g))) (hf : PySem.W.isFn X.K (.ref g) = true) : OpR X (compareOp .NotEq) (rEqC X.K C sp not) := fun pins s σ H x y v u Q I rx ry h => by
  obtain ⟨a, dx, fs, rfl, ha, hy, q⟩ := h
  cases rx
  obtain ⟨_, oa, _⟩ := ins_get I.hok ha
  obtain ⟨_, ia, _⟩ := oa.look
  have un := ro.un
  have go := own_called G bi pa ro.in1 rfl I (us := [.ref a, u]) (vs := [.ref a, y]) (.cons rfl (.cons ry .nil)) q
  have fin : ∀ w s', (∃ z H', L2.Inv X pins σ H' s' ∧ RelV z w ∧ ∃ r, z = .bl r ∧ Q (.bl (not r)) H') → ∃ r, w = .bool r ∧ EP X pins σ Q (.bool (!r)) s' := fun w s' ⟨z, H', J, rz, r, ez, hq⟩ => by
    subst ez
    cases rz
    exact ⟨r, rfl, .bl (!r), H', J, rfl, hq⟩
  rcases hy with ⟨b, dy, gs, rfl, hb⟩ | ⟨T, ty, sb⟩
  · cases ry
    obtain ⟨_, ob, _⟩ := ins_get I.hok hb
    obtain ⟨_, ib, _⟩ := ob.look
    exact rc_neB (tb := .ref C) (by omega) I.kIn ia ib.type (by simp [PySem.W.notFirst]) mo fn fe hf (wpAny_mono go (fun w s' z => fin w s' z) fun _ _ z => z)
  · exact rc_neB (tb := .type T) (by omega) I.kIn ia (looks_ty (TyB.is I ry ty)) (by simp [PySem.W.notFirst, sb]) mo fn fe hf (wpAny_mono go (fun w s' z => fin w s' z) fun _ _ z => z)
end

/-- ==: of two codes what they are of decides, what is no code is unlike -/
def spCeq (CC MM : Addr) : Sp := fun vs H Q _ => ∃ (a : Addr) (v : V) (r : Bool), vs = [.ref a, v] ∧ ((∃ b, v = .ref b ∧ REq CC MM a b H r) ∨ (r = false ∧ ∃ t, Kd H v t)) ∧ ∀ H', Same H H' → Q (.bl r) H'
section
variable {P : Program} {w : World} {K : PySem.W.Frag} {mg : Str → Option Value} {base : Heap} {f : Addr} {fd : FuncData}
abbrev sceq : Stmt := inClass (top 9) 1
theorem scceq : FnScope ["self", "other"] ["self", "other"] (defScope sceq) := ⟨rfl, rfl, rfl, by decide +kernel, rfl, by decide +kernel, by decide +kernel⟩

theorem ok_ceq {CC MM : Addr} (T : Txt mg) (I : CodeT K mg CC) (yes : PySem.W.kitOne K (.ref CC) (.ref CC) = some true) (F : FnP K "__eq__" "Code.__eq__" sceq f fd) (C_are_equal : Cal P w K mg base 3 "are_equal" ["one", "other"] (spEqB CC MM)) : FnOk P w K mg base CX0 4 f fd ["self", "other"] (spCeq CC MM) := by
  refine F.ok scceq (fun vs H Q E h => ?_) (fun cdv A outer s H vs Q E hr h => ?_)
  · obtain ⟨a, v, r, rfl, _⟩ := h
    rfl
  · refine ⟨_, PSs.nox (pss_one (ps_ret (pe_and (pe_callB (call_is_d I.cI) (by rfl) T.b_isinstance (by decide +kernel) (pa_cons (pv 1) (pa_cons (pe_glob (v := .ref _) rfl I.g_Code rfl) pa_nil))) (pe_one (pe_cal C_are_equal (hr.mono (by decide)) rfl (pa_cons (pv 0) (pa_cons (pv 1) pa_nil))))))), ?_⟩
    obtain ⟨a, v, r, rfl, R, k⟩ := h
    show (_ : TS) _ [some (.ref a), some v] H
    simp only [r_seq, r_next, r_brk, r_cont, r_asg, r_name, r_ret, r_retN, r_drop, r_ifs, r_never, r_var, r_c, r_op, r_un, r_if, r_tst, r_b, r_not, r_and, r_or, r_andV, r_orV, r_notV, r_nil, r_cons, r_tup, r_lst, r_cb, r_call, r_bm, r_bm0, r_sl, r_nopart, r_part, r_rev, r_gnil, r_gcons, r_gsub, r_par, r_aug, r_chain, r_I0, r_I, r_U, r_ixd, r_lend, r_tupd, r_listd, r_sld, r_app, r_ext, r_reverse, r_setl, r_cat, r_int1, r_eqS, r_neS, scal_ii, scal_bb, scal_ss, at0, at1, at2, sq_lst, sq_tup, isLst_lst, List.getElem?_cons_zero, List.getElem?_cons_succ, List.set_cons_zero, List.set_cons_succ, V.int.injEq, V.bl.injEq, V.ref.injEq, V.str.injEq, HO.lst.injEq, HO.tup.injEq, Option.some.injEq, exists_eq_left', exists_eq_left, List.cons.injEq, and_true, true_and, decide_eq_true_eq, reduceCtorEq, false_and, exists_false, or_false, false_or, exists_const, and_assoc, exists_and_left, List.append_nil, ix0, ix1, ix2, cm_mod, cdw1009, cdw2003, cdw7, cdw64, cdw2, cm104729, cm2, cm3, upd_same, List.length_cons, List.length_nil, Int.reduceLT, Int.reduceLE, Nat.reduceAdd, Nat.reduceLeDiff, Nat.reduceLT, Int.reduceToNat, r_for1, r_forL, r_forT, r_lcL, r_lc1, r_yes, r_gtupD, wipe_0, wipe_1, List.cons_append, List.nil_append, r_forS, r_ipI, ite_false, ite_true, Bool.not_true, Bool.not_false, decide_true, decide_false, r_isd, r_islt, cD_ty, cD_ref, tD_non, tD_bl, tD_int, tD_str, tD_ref, tH_lst, tH_tup, tH_dK, tH_ins, ki_self, ki_int_bool, ki_non_int, ki_str_int, ki_lt_lst, ki_lt_tup, r_fld, r_sfld, HO.ins.injEq, cx_K]
    rcases R with ⟨b, rfl, R⟩ | ⟨rfl, t, kd⟩
    · have R' := R
      obtain ⟨μ, bb, nn, pa, pb, Wμ, ra, rb, ia, ib, al, ga, gb, hz, rfl⟩ := R'
      cases rb with
      | con h => exact ib.elim
      | cod cb tb hmb =>
        obtain ⟨dy, gs, g1, _⟩ := id cb
        have ec : tyD CC H (.ref b) = some (.ref CC) := by simp [tyD, tyH, g1]
        refine ⟨_, ec, true, yes, ?_⟩
        rw [if_pos rfl]
        exact ⟨a, b, _, rfl, R, k⟩
    · obtain ⟨e1, m1⟩ := kd.ty (CC := CC)
      refine ⟨_, e1, false, I.no _ m1, ?_⟩
      rw [if_neg (by decide)]
      exact k H (Same.refl H)
end
end C51

set_option maxHeartbeats 2000000
namespace C51
open PySem PySem.Spec PyProof.Rows L2
/-! ### list.extend of a tuple; comprehensions over any walk -/
def rExtendT : V → List V → Hp → VK → Prop := fun x vs H Q => ∃ l b xs zs, x = .ref l ∧ vs = [.ref b] ∧ H l = some (.lst xs) ∧ H b = some (.tup zs) ∧ xs.length + zs.length ≤ sizeLine ∧ Q .non (upd H l (.lst (xs ++ zs)))
theorem r_extT {x : V} {vs : List V} {H : Hp} {Q : VK} : rExtendT x vs H Q = ∃ l b xs zs, x = .ref l ∧ vs = [.ref b] ∧ H l = some (.lst xs) ∧ H b = some (.tup zs) ∧ xs.length + zs.length ≤ sizeLine ∧ Q .non (upd H l (.lst (xs ++ zs))) := rfl
theorem list_extend_tupG (l : Addr) (items : Array Value) (n : Nat) (b : Addr) (items2 : Array Value) (n2 : Nat) (dd : Option Addr) (ss : Array (Option Value)) (hs0 : ¬(!items.isEmpty && Builtin.List.listTooLong (items.size + items2.size)) = true) (hs1 : items.size ≤ sizeLine) (hs2 : items.size + items2.size ≤ sizeLine + 1) :
    Meets (Builtin.«list.extend» ⟨[.ref l, .ref b], []⟩) (fun _ R s => s.heap.get? l = some { cls := .type "list", dict := none, data := .seq items n, slots := #[] } ∧ s.heap.get? b = some { cls := .type "tuple", dict := dd, data := .seq items2 n2, slots := ss } ∧ R (.ok (.ret Value.none)) { s with heap := s.heap.update l (Obj.mapSeq fun x => x ++ items2), toks := s.toks }) :=
  .of_wp fun prog w A R s h => by
    obtain ⟨hp, g, d, tk, os⟩ := s
    obtain ⟨hl, hb, h⟩ := h
    have f1 := PySem.AutoSeq1.idx_int
    have f2 := PySem.AutoSeq1.sub_tuple_tuple
    have f3 := PySem.AutoSeq1.sub_list_list
    have f4 := PySem.AutoSeq1.sub_tuple_list
    have f5 := PySem.AutoSeq1.sub_list_tuple
    have hz' : (items ++ items2).size ≤ sizeLine + 1 := by rw [Array.size_append]; exact hs2
    wp_walk using (wpAny_updateSeq hl rfl (hz := hs1) (_hz' := hz')), PySem.AutoSeq1.wpAny_loadPart' hl, PySem.AutoSeq1.wpAny_loadPart' hb
    exact ⟨_, rfl, h⟩
theorem mt_extendT {X : Cx} : MtM X "list.extend" rExtendT := by
  intro pins s σ H x vs v us Q I rx rv h
  obtain ⟨l, b, xs, zs, rfl, rfl, hH, hB, hz, q⟩ := h
  cases rx
  obtain ⟨u, rfl, ru⟩ := rv.one
  cases ru
  obtain ⟨z, its, n, r, hl, e⟩ := I.lstM hH
  obtain ⟨z2, its2, r2, o2, e2, ec, n2, ed⟩ := I.hok b _ hB
  obtain ⟨cc, dd, da, ss⟩ := o2
  dsimp only at ec ed
  subst ec ed
  have hl2 := r2.length
  have hsz : its.toArray.size + its2.toArray.size ≤ sizeLine := by rw [List.size_toArray, List.size_toArray]; omega
  have hlong : ¬ (!its.toArray.isEmpty && Builtin.List.listTooLong (its.toArray.size + its2.toArray.size)) = true := by
    rw [notLongL hsz, Bool.and_false]
    exact Bool.false_ne_true
  refine call_meets F.slot_list_extend ⟨_, e, rfl⟩ F.entry_list_extend (F.args_list_extend_2 _ _)
    (list_extend_tupG l its.toArray n b its2.toArray n2 dd ss hlong (by rw [List.size_toArray]; omega) (by omega)) ⟨e, e2, ?_⟩
  refine ⟨.non, _, I.lset (its' := its ++ its2) hH e (by simp) (r.append r2) ?_, rfl, q⟩
  rw [List.length_append]
  omega
theorem cp_any {J : L2.It} {xs : List V} {g : TG} {tt : TT} {te : TE} {vs : List Nat} {σ : L2.St} {D : Addr} {H0 : Hp} {Q : VK} (Pv : Nat → Hp → Prop) (h0 : Pv 0 H0) (hgo : ∀ i H, i < xs.length → Pv i H → J.go i H) (hst : ∀ H, Pv xs.length H → J.stop xs.length H) (hy : ∀ i H x H', i < xs.length → Pv i H → J.yld i H x H' → H' = H ∧ xs[i]? = some x)
    (hs : ∀ i x H, xs[i]? = some x → Pv i H → g x (wipe σ vs) H fun σ2 H2 => wipe σ2 vs = wipe σ vs ∧ tt σ2 H2 fun b H3 =>
      if b = true then te σ2 H3 fun y H4 => ∃ acc, H4 D = some (.lst acc) ∧ acc.length < sizeLine ∧ Pv (i + 1) (upd H4 D (.lst (acc ++ [y]))) else Pv (i + 1) H3) (hd : ∀ H, Pv xs.length H → Q (.ref D) H) : CompR J g tt te vs σ Q D H0 := by
  refine ⟨fun i m H => m = xs.length - i ∧ i ≤ xs.length ∧ Pv i H, ⟨xs.length, rfl, Nat.zero_le _, h0⟩, ?_⟩
  rintro i m H ⟨rfl, hi, p⟩
  by_cases hlt : i < xs.length
  · refine .inr ⟨hgo i H hlt p, Pv (i + 1), fun H' p' => ⟨xs.length - (i + 1), by omega, rfl, hlt, p'⟩, fun x H' y => ?_⟩
    obtain ⟨e, hx⟩ := hy i H x H' hlt p y
    subst e
    exact hs i x _ hx p
  · have e : i = xs.length := by omega
    subst e
    exact .inl ⟨hst H p, hd H p⟩
/-- [.. for c in text] -/
theorem cp_str {z : Str} {g : TG} {tt : TT} {te : TE} {vs : List Nat} {σ : L2.St} {D : Addr} {H0 : Hp} {Q : VK} (Pv : Nat → Hp → Prop) (h0 : Pv 0 H0)
    (hs : ∀ i c H, z.cps.toList[i]? = some c → Pv i H → g (.str ⟨#[c]⟩) (wipe σ vs) H fun σ2 H2 => wipe σ2 vs = wipe σ vs ∧ tt σ2 H2 fun b H3 =>
      if b = true then te σ2 H3 fun y H4 => ∃ acc, H4 D = some (.lst acc) ∧ acc.length < sizeLine ∧ Pv (i + 1) (upd H4 D (.lst (acc ++ [y]))) else Pv (i + 1) H3) (hd : ∀ H, Pv z.cps.size H → Q (.ref D) H) : CompR (Its z) g tt te vs σ Q D H0 := by
  have el : (z.cps.toList.map fun c => V.str ⟨#[c]⟩).length = z.cps.size := by rw [List.length_map, Array.length_toList]
  refine cp_any (xs := z.cps.toList.map fun c => V.str ⟨#[c]⟩) Pv h0 (fun i H hi _ => by rw [el] at hi; exact hi) (fun H _ => by rw [el]; exact Nat.le_refl _) (fun i H x H' hi _ y => ?_) (fun i x H hx p => ?_) fun H p => hd H (by rw [← el]; exact p)
  · obtain ⟨e, c, hc, rfl⟩ := y
    refine ⟨e, ?_⟩
    rw [List.getElem?_map, Array.getElem?_toList, hc]
    rfl
  · rw [List.getElem?_map] at hx
    cases e : z.cps.toList[i]? with
    | none => rw [e] at hx; cases hx
    | some c =>
      rw [e] at hx
      cases hx
      exact hs i c H e p
/-- [.. for x in reversed(tuple)] -/
theorem cp_revT {K : PySem.W.Frag} {a : Addr} {xs : List V} {g : TG} {tt : TT} {te : TE} {vs : List Nat} {σ : L2.St} {D : Addr} {H0 : Hp} {Q : VK} (Pv : Nat → Hp → Prop) (h0 : Pv 0 H0) (hq : ∀ i H, Pv i H → SqT K H a xs)
    (hs : ∀ i x H, xs.reverse[i]? = some x → Pv i H → g x (wipe σ vs) H fun σ2 H2 => wipe σ2 vs = wipe σ vs ∧ tt σ2 H2 fun b H3 =>
      if b = true then te σ2 H3 fun y H4 => ∃ acc, H4 D = some (.lst acc) ∧ acc.length < sizeLine ∧ Pv (i + 1) (upd H4 D (.lst (acc ++ [y]))) else Pv (i + 1) H3) (hd : ∀ H, Pv xs.length H → Q (.ref D) H) : CompR (RT.ItvT K a xs.length) g tt te vs σ Q D H0 := by
  have el : xs.reverse.length = xs.length := List.length_reverse
  refine cp_any (xs := xs.reverse) Pv h0 (fun i H hi p => ?_) (fun H _ => by rw [el]; exact Nat.le_refl _) (fun i H x H' hi p y => ?_) hs fun H p => hd H (by rw [← el]; exact p)
  · rw [el] at hi
    exact ⟨hi, xs, _, hq i H p, List.getElem?_eq_getElem (by omega)⟩
  · rw [el] at hi
    obtain ⟨e, hx⟩ := y
    refine ⟨e, ?_⟩
    rw [List.getElem?_reverse hi]
    exact hx xs (hq i H p)
theorem r_lcS {z : TE} {σ : L2.St} {H : Hp} {g : TG} {tt : TT} {te : TE} {vs : List Nat} {Q : VK} : tLc (iStr z) g tt te vs σ H Q = z σ H (fun x H1 => ∃ s, x = .str s ∧ ∀ D, H1 D = none → CompR (Its s) g tt te vs σ Q D (L2.upd H1 D (.lst []))) := rfl
theorem r_lcRT {K : PySem.W.Frag} {z : TE} {σ : L2.St} {H : Hp} {g : TG} {tt : TT} {te : TE} {vs : List Nat} {Q : VK} : tLc (RT.iRevA K z) g tt te vs σ H Q = z σ H (fun x H1 => ∃ (a : Addr) (xs : List V), x = .ref a ∧ ((SqL K H1 a xs ∧ ∀ D, H1 D = none → CompR (Itv K a xs.length) g tt te vs σ Q D (L2.upd H1 D (.lst []))) ∨ (SqT K H1 a xs ∧ ∀ D, H1 D = none → CompR (RT.ItvT K a xs.length) g tt te vs σ Q D (L2.upd H1 D (.lst []))))) := rfl

end C51

set_option maxHeartbeats 2000000
namespace C51
open PySem PySem.Spec PyProof.Rows L2
/-! ### the bytes of things -/
def four (i : Int) : List Nat := [(i % 256).toNat, (i / 256 % 256).toNat, (i / 65536 % 256).toNat, (i / 16777216 % 256).toNat]
def dg15 (n : Nat) : List Nat := if n = 0 then [] else n % 32768 :: dg15 (n / 32768)
termination_by n
decreasing_by omega
def dpairs (ds : List Nat) : List Nat := ds.flatMap fun d => [d % 256, d / 256]
def encI (i : Int) : List Nat := if -2147483648 ≤ i ∧ i ≤ 2147483647 then 105 :: four i else 108 :: (four (if 0 < i then ((dg15 i.natAbs).length : Int) else -((dg15 i.natAbs).length : Int)) ++ dpairs (dg15 i.natAbs))
def encT (z : Str) : List Nat := 117 :: (four (z.length : Int) ++ z.cps.toList)
def encB (ns : List Nat) : List Nat := 115 :: (four (ns.length : Int) ++ ns)
mutual
def encC : CV → List Nat
  | .non => [78]
  | .bl b => [if b then 84 else 70]
  | .int i => encI i
  | .str z => encT z
  | .tup xs => 40 :: (four (xs.length : Int) ++ encCs xs)
def encCs : List CV → List Nat
  | [] => []
  | x :: xs => encC x ++ encCs xs
end
mutual
def encP : PV → List Nat
  | .con x => encC x
  | .cod p ks => 99 :: (four p.i0 ++ four 0 ++ four p.i1 ++ four p.i2 ++ four p.i3) ++ (encB p.ds ++ ((40 :: (four (ks.length : Int) ++ encPs ks)) ++ (encC (.tup (p.zs.map CV.str)) ++ (encC (.tup (p.ss.map CV.str)) ++ (encB p.kds ++ (encT "<tree>" ++ (encT p.z1 ++ (encT p.z2 ++ (four p.i4 ++ (encB p.lns ++ encB p.gds))))))))))
def encPs : List PV → List Nat
  | [] => []
  | k :: ks => encP k ++ encPs ks
end
theorem vn_four (i : Int) : [V.int (i % 256), V.int (i / 256 % 256), V.int (i / 65536 % 256), V.int (i / 16777216 % 256)] = vn (four i) := by
  unfold four vn
  simp only [List.map_cons, List.map_nil]
  congr 1
  · congr 1; omega
  congr 1
  · congr 1; omega
  congr 1
  · congr 1; omega
  congr 1
  congr 1; omega
theorem four_len (i : Int) : (four i).length = 4 := rfl
/-- constants of the text -/
structure TxtW (mg : Str → Option Value) : Prop extends Txt mg where
  g_NONE : ∃ t, mg "NONE" = some (.int 78 t)
  g_TRUE : ∃ t, mg "TRUE" = some (.int 84 t)
  g_FALSE : ∃ t, mg "FALSE" = some (.int 70 t)
  g_SHORT : ∃ t, mg "SHORT" = some (.int 105 t)
  g_LONG : ∃ t, mg "LONG" = some (.int 108 t)
  g_TEXT : ∃ t, mg "TEXT" = some (.int 117 t)
  g_BYTES : ∃ t, mg "BYTES" = some (.int 115 t)
  g_ROW : ∃ t, mg "ROW" = some (.int 40 t)
  g_CODE : ∃ t, mg "CODE" = some (.int 99 t)
  g_FILE : ∃ t, mg "FILE" = some (.str "<tree>" t)
  g_LEAST_SHORT : ∃ t, mg "LEAST_SHORT" = some (.int (-2147483648) t)
  g_GREATEST_SHORT : ∃ t, mg "GREATEST_SHORT" = some (.int 2147483647 t)
  g_DIGIT : ∃ t, mg "DIGIT" = some (.int 32767 t)
  b_abs : mg "abs" = none
  b_ord : mg "ord" = none
def spFour : Sp := fun vs H Q _ => ∃ (F : Addr) (i : Int) (xs : List V), vs = [.ref F, .int i] ∧ H F = some (.lst xs) ∧ xs.length ≤ 10000000 ∧ ∀ H', Keep F H H' → H' F = some (.lst (xs ++ vn (four i))) → Q .non H'
theorem Keep.fresh {F p : Addr} {H : Hp} {o o' : HO} (hp : H p = none) (h : ∃ u, H F = some u) : Keep F H (L2.upd (L2.upd H p o) F o') := fun b u n e => by
  rw [upd_ne n, upd_ne (ne_new e hp)]
  exact e
section
variable {P : Program} {w : World} {K : PySem.W.Frag} {mg : Str → Option Value} {base : Heap} {f : Addr} {fd : FuncData}
abbrev spfour : Stmt := top 38
theorem scpfour : FnScope ["found", "number"] ["found", "number"] (defScope spfour) := ⟨rfl, rfl, rfl, by decide +kernel, rfl, by decide +kernel, by decide +kernel⟩

theorem ok_pfour (T : TxtW mg) (F : FnP K "put_four" "put_four" spfour f fd) : FnOk P w K mg base CX0 1 f fd ["found", "number"] spFour := by
  refine F.ok scpfour (fun vs H Q E h => ?_) (fun cdv A outer s H vs Q E hr h => ?_)
  · obtain ⟨F, i, xs, rfl, _⟩ := h
    rfl
  · refine ⟨_, PSs.nox (pss_one (ps_expr (pe_bm PySem.F.plainAttrs_list PySem.F.slot_list_extend PySem.F.type_list_extend mt_extend (pv 0) (pa_cons (pe_lst (pa_cons (pe_op op_and (pv 1) pe_int) (pa_cons (pe_op op_and (pe_op op_shr (pv 1) pe_int) pe_int) (pa_cons (pe_op op_and (pe_op op_shr (pv 1) pe_int) pe_int) (pa_cons (pe_op op_and (pe_op op_shr (pv 1) pe_int) pe_int) pa_nil))))) pa_nil)))), ?_⟩
    obtain ⟨F, i, xs, rfl, hF, hl, k⟩ := h
    show (_ : TS) _ [some (.ref F), some (.int i)] H
    have e8 : (2 : Int) ^ 8 = 256 := by decide
    have e16 : (2 : Int) ^ 16 = 65536 := by decide
    have e24 : (2 : Int) ^ 24 = 16777216 := by decide
    simp only [r_seq, r_next, r_brk, r_cont, r_asg, r_name, r_ret, r_retN, r_drop, r_ifs, r_never, r_var, r_c, r_op, r_un, r_if, r_tst, r_b, r_not, r_and, r_or, r_andV, r_orV, r_notV, r_nil, r_cons, r_tup, r_lst, r_cb, r_call, r_bm, r_bm0, r_sl, r_nopart, r_part, r_rev, r_gnil, r_gcons, r_gsub, r_par, r_aug, r_chain, r_I0, r_I, r_U, r_ixd, r_lend, r_tupd, r_listd, r_sld, r_app, r_ext, r_reverse, r_setl, r_cat, r_int1, r_eqS, r_neS, scal_ii, scal_bb, scal_ss, at0, at1, at2, sq_lst, sq_tup, isLst_lst, List.getElem?_cons_zero, List.getElem?_cons_succ, List.set_cons_zero, List.set_cons_succ, V.int.injEq, V.bl.injEq, V.ref.injEq, V.str.injEq, HO.lst.injEq, HO.tup.injEq, Option.some.injEq, exists_eq_left', exists_eq_left, List.cons.injEq, and_true, true_and, decide_eq_true_eq, reduceCtorEq, false_and, exists_false, or_false, false_or, exists_const, and_assoc, exists_and_left, List.append_nil, ix0, ix1, ix2, cm_mod, cdw1009, cdw2003, cdw7, cdw64, cdw2, cm104729, cm2, cm3, upd_same, List.length_cons, List.length_nil, Int.reduceLT, Int.reduceLE, Nat.reduceAdd, Nat.reduceLeDiff, Nat.reduceLT, Int.reduceToNat, r_for1, r_forL, r_forT, r_lcL, r_lc1, r_yes, r_gtupD, wipe_0, wipe_1, List.cons_append, List.nil_append, r_forS, r_ipI, ite_false, ite_true, Bool.not_true, Bool.not_false, decide_true, decide_false, r_isd, r_islt, cD_ty, cD_ref, tD_non, tD_bl, tD_int, tD_str, tD_ref, tH_lst, tH_tup, tH_dK, tH_ins, ki_self, ki_int_bool, ki_non_int, ki_str_int, ki_lt_lst, ki_lt_tup, r_fld, r_sfld, HO.ins.injEq, cx_K, bitAnd_m8, e8, e16, e24, r_ext]
    refine ⟨tyl hF, szl (by decide : 4 ≤ 1000), fun p hp => ⟨xs, by rw [upd_ne (ne_new hF hp)]; exact hF, Nat.le_trans (by omega : _ ≤ 10000004) (by decide), ?_⟩⟩
    refine k _ (Keep.fresh hp ⟨_, hF⟩) ?_
    rw [upd_same, vn_four]
abbrev spnumber : Stmt := top 39
theorem scpnumber : FnScope ["found", "number", "_"] ["found", "number", "_"] (defScope spnumber) := ⟨rfl, rfl, rfl, by decide +kernel, rfl, by decide +kernel, by decide +kernel⟩

def spNumber : Sp := fun vs H Q _ => ∃ (F : Addr) (i : Int) (xs : List V) (v : V), vs = [.ref F, .int i, v] ∧ H F = some (.lst xs) ∧ xs.length ≤ 10000000 ∧ ∀ H', Keep F H H' → H' F = some (.lst (xs ++ vn (four i))) → Q .non H'
theorem ok_pnumber (T : TxtW mg) (F : FnP K "put_number" "put_number" spnumber f fd) (C_put_four : Cal P w K mg base 1 "put_four" ["found", "number"] spFour) : FnOk P w K mg base CX0 2 f fd ["found", "number", "_"] spNumber := by
  refine F.ok scpnumber (fun vs H Q E h => ?_) (fun cdv A outer s H vs Q E hr h => ?_)
  · obtain ⟨F, i, xs, v, rfl, _⟩ := h
    rfl
  · refine ⟨_, PSs.nox (pss_one (ps_expr (pe_cal C_put_four (hr.mono (by decide)) rfl (pa_cons (pv 0) (pa_cons (pv 1) pa_nil))))), ?_⟩
    obtain ⟨F, i, xs, v, rfl, hF, hl, k⟩ := h
    show (_ : TS) _ [some (.ref F), some (.int i), some v] H
    simp only [r_seq, r_next, r_brk, r_cont, r_asg, r_name, r_ret, r_retN, r_drop, r_ifs, r_never, r_var, r_c, r_op, r_un, r_if, r_tst, r_b, r_not, r_and, r_or, r_andV, r_orV, r_notV, r_nil, r_cons, r_tup, r_lst, r_cb, r_call, r_bm, r_bm0, r_sl, r_nopart, r_part, r_rev, r_gnil, r_gcons, r_gsub, r_par, r_aug, r_chain, r_I0, r_I, r_U, r_ixd, r_lend, r_tupd, r_listd, r_sld, r_app, r_ext, r_reverse, r_setl, r_cat, r_int1, r_eqS, r_neS, scal_ii, scal_bb, scal_ss, at0, at1, at2, sq_lst, sq_tup, isLst_lst, List.getElem?_cons_zero, List.getElem?_cons_succ, List.set_cons_zero, List.set_cons_succ, V.int.injEq, V.bl.injEq, V.ref.injEq, V.str.injEq, HO.lst.injEq, HO.tup.injEq, Option.some.injEq, exists_eq_left', exists_eq_left, List.cons.injEq, and_true, true_and, decide_eq_true_eq, reduceCtorEq, false_and, exists_false, or_false, false_or, exists_const, and_assoc, exists_and_left, List.append_nil, ix0, ix1, ix2, cm_mod, cdw1009, cdw2003, cdw7, cdw64, cdw2, cm104729, cm2, cm3, upd_same, List.length_cons, List.length_nil, Int.reduceLT, Int.reduceLE, Nat.reduceAdd, Nat.reduceLeDiff, Nat.reduceLT, Int.reduceToNat, r_for1, r_forL, r_forT, r_lcL, r_lc1, r_yes, r_gtupD, wipe_0, wipe_1, List.cons_append, List.nil_append, r_forS, r_ipI, ite_false, ite_true, Bool.not_true, Bool.not_false, decide_true, decide_false, r_isd, r_islt, cD_ty, cD_ref, tD_non, tD_bl, tD_int, tD_str, tD_ref, tH_lst, tH_tup, tH_dK, tH_ins, ki_self, ki_int_bool, ki_non_int, ki_str_int, ki_lt_lst, ki_lt_tup, r_fld, r_sfld, HO.ins.injEq, cx_K]
    exact ⟨F, i, xs, rfl, hF, hl, k⟩
abbrev spbytes : Stmt := top 41
theorem scpbytes : FnScope ["found", "row", "_"] ["found", "row", "_"] (defScope spbytes) := ⟨rfl, rfl, rfl, by decide +kernel, rfl, by decide +kernel, by decide +kernel⟩

def spPBytes : Sp := fun vs H Q _ => ∃ (F a : Addr) (ns : List Nat) (xs : List V) (v : V), vs = [.ref F, .ref a, v] ∧ H F = some (.lst xs) ∧ H a = some (.tup (vn ns)) ∧ xs.length + ns.length ≤ 9000000 ∧ ∀ H', Keep F H H' → H' F = some (.lst (xs ++ vn (encB ns))) → Q .non H'
theorem ok_pbytes (T : TxtW mg) (F : FnP K "put_bytes" "put_bytes" spbytes f fd) (C_put_four : Cal P w K mg base 1 "put_four" ["found", "number"] spFour) : FnOk P w K mg base CX0 2 f fd ["found", "row", "_"] spPBytes := by
  refine F.ok scpbytes (fun vs H Q E h => ?_) (fun cdv A outer s H vs Q E hr h => ?_)
  · obtain ⟨F, a, ns, xs, v, rfl, _⟩ := h
    rfl
  · refine ⟨_, PSs.nox (pss_cons (ps_expr (pe_bm PySem.F.plainAttrs_list PySem.F.slot_list_append PySem.F.type_list_append mt_append (pv 0) (pa_cons (pe_gi T.g_BYTES) pa_nil)))
  (pss_cons (ps_expr (pe_cal C_put_four (hr.mono (by decide)) rfl (pa_cons (pv 0) (pa_cons (pe_callB call_len_d (by rfl) T.b_len (by decide +kernel) (pa_cons (pv 1) pa_nil)) pa_nil))))
  (pss_one (ps_expr (pe_bm PySem.F.plainAttrs_list PySem.F.slot_list_extend PySem.F.type_list_extend mt_extendT (pv 0) (pa_cons (pv 1) pa_nil)))))), ?_⟩
    obtain ⟨F, a, ns, xs, v, rfl, hF, ha, hl, k⟩ := h
    show (_ : TS) _ [some (.ref F), some (.ref a), some v] H
    have aF : a ≠ F := fun z => by rw [z, hF] at ha; cases ha
    simp only [r_seq, r_next, r_brk, r_cont, r_asg, r_name, r_ret, r_retN, r_drop, r_ifs, r_never, r_var, r_c, r_op, r_un, r_if, r_tst, r_b, r_not, r_and, r_or, r_andV, r_orV, r_notV, r_nil, r_cons, r_tup, r_lst, r_cb, r_call, r_bm, r_bm0, r_sl, r_nopart, r_part, r_rev, r_gnil, r_gcons, r_gsub, r_par, r_aug, r_chain, r_I0, r_I, r_U, r_ixd, r_lend, r_tupd, r_listd, r_sld, r_app, r_ext, r_reverse, r_setl, r_cat, r_int1, r_eqS, r_neS, scal_ii, scal_bb, scal_ss, at0, at1, at2, sq_lst, sq_tup, isLst_lst, List.getElem?_cons_zero, List.getElem?_cons_succ, List.set_cons_zero, List.set_cons_succ, V.int.injEq, V.bl.injEq, V.ref.injEq, V.str.injEq, HO.lst.injEq, HO.tup.injEq, Option.some.injEq, exists_eq_left', exists_eq_left, List.cons.injEq, and_true, true_and, decide_eq_true_eq, reduceCtorEq, false_and, exists_false, or_false, false_or, exists_const, and_assoc, exists_and_left, List.append_nil, ix0, ix1, ix2, cm_mod, cdw1009, cdw2003, cdw7, cdw64, cdw2, cm104729, cm2, cm3, upd_same, List.length_cons, List.length_nil, Int.reduceLT, Int.reduceLE, Nat.reduceAdd, Nat.reduceLeDiff, Nat.reduceLT, Int.reduceToNat, r_for1, r_forL, r_forT, r_lcL, r_lc1, r_yes, r_gtupD, wipe_0, wipe_1, List.cons_append, List.nil_append, r_forS, r_ipI, ite_false, ite_true, Bool.not_true, Bool.not_false, decide_true, decide_false, r_isd, r_islt, cD_ty, cD_ref, tD_non, tD_bl, tD_int, tD_str, tD_ref, tH_lst, tH_tup, tH_dK, tH_ins, ki_self, ki_int_bool, ki_non_int, ki_str_int, ki_lt_lst, ki_lt_tup, r_fld, r_sfld, HO.ins.injEq, cx_K, r_extT]
    have ha1 : L2.upd H F (.lst (xs ++ [.int 115])) a = some (.tup (vn ns)) := by rw [upd_ne aF]; exact ha
    refine ⟨tyl hF, xs, hF, Nat.lt_of_le_of_lt (by omega : _ ≤ 9000000) (by decide), vn ns, by rw [ha1]; rfl, F, _, _, rfl, upd_same, by simp; omega, fun H1 k1 h1 => ?_⟩
    have ha2 := k1 _ _ aF ha1
    refine ⟨tyl h1, _, h1, vn ns, ha2, ?_, k _ (fun b o n e => ?_) ?_⟩
    · simp only [List.length_append, vn_len, four_len, List.length_cons, List.length_nil]
      exact Nat.le_trans (by omega : _ ≤ 9000010) (by decide)
    · rw [upd_ne n]
      exact k1 b o n (by rw [upd_ne n]; exact e)
    · rw [upd_same, vn_len]
      unfold encB
      simp [vn]
end
end C51

set_option maxHeartbeats 2000000
namespace C51
open PySem PySem.Spec PyProof.Rows L2
def spPText : Sp := fun vs H Q _ => ∃ (F : Addr) (z : Str) (xs : List V) (v : V), vs = [.ref F, .str z, v] ∧ H F = some (.lst xs) ∧ xs.length + z.length ≤ 9000000 ∧ ∀ H', Keep F H H' → H' F = some (.lst (xs ++ vn (encT z))) → Q .non H'
/-! ### the digits of a great number -/
theorem and15 (r : Nat) : Builtin.bitAnd (r : Int) 32767 = ((r % 32768 : Nat) : Int) := by
  have e : Builtin.bitAnd (r : Int) 32767 = (((r : Int).toNat &&& (32767 : Int).toNat : Nat) : Int) := bitAnd_pp (Int.natCast_nonneg r) (by decide)
  rw [e, Int.toNat_natCast, show (32767 : Int).toNat = 2 ^ 15 - 1 from rfl, Nat.and_two_pow_sub_one_eq_mod]
theorem dg15_pos {n : Nat} (h : 0 < n) : dg15 n = n % 32768 :: dg15 (n / 32768) := by
  rw [dg15, if_neg (by omega)]
theorem dg15_zero : dg15 0 = [] := by rw [dg15, if_pos rfl]
theorem dg15_lt : ∀ (n : Nat), ∀ d ∈ dg15 n, d < 32768 := by
  intro n
  induction n using Nat.strongRecOn with
  | ind n ih =>
    intro d hd
    by_cases h : n = 0
    · subst h
      rw [dg15_zero] at hd
      cases hd
    · rw [dg15_pos (by omega)] at hd
      rcases List.mem_cons.mp hd with rfl | hd
      · omega
      · exact ih _ (by omega) d hd
theorem dg15_len : ∀ (k n : Nat), n < 32768 ^ k → (dg15 n).length ≤ k
  | 0, n, h => by
    have : n = 0 := by simpa using h
    subst this
    rw [dg15_zero]
    exact Nat.le_refl 0
  | k + 1, n, h => by
    by_cases c : n = 0
    · subst c
      rw [dg15_zero]
      exact Nat.zero_le _
    · rw [dg15_pos (by omega), List.length_cons]
      have := dg15_len k (n / 32768) (by rw [Nat.pow_succ] at h; omega)
      omega
theorem dpairs_cons {d : Nat} {ds : List Nat} : dpairs (d :: ds) = [d % 256, d / 256] ++ dpairs ds := by
  unfold dpairs
  rw [List.flatMap_cons]
theorem dpairs_snoc {d : Nat} {ds : List Nat} : dpairs (ds ++ [d]) = dpairs ds ++ [d % 256, d / 256] := by
  unfold dpairs
  rw [List.flatMap_append]
  simp
theorem dpairs_len : ∀ ds : List Nat, (dpairs ds).length = 2 * ds.length
  | [] => rfl
  | d :: ds => by
    rw [dpairs_cons, List.length_append, dpairs_len ds, List.length_cons, List.length_cons, List.length_cons, List.length_nil]
    omega
def t_small (K : PySem.W.Frag) : TS := tIfS (tTest (tChain (rI0 fun i j => V.bl (decide (i ≤ j))) (rI0 fun i j => V.bl (decide (i ≤ j))) (tC (V.int (-2147483648))) (tVar 1) (tC (V.int 2147483647)))) (tSeq (tDrop (tBM K "list" rAppend (tVar 0) (tCons (tC (V.int 105)) tNil))) (tSeq (tDrop (tCall spFour [] E0 (tCons (tVar 0) (tCons (tVar 1) tNil)))) tRetN)) tNext
def t_dig1 (K : PySem.W.Frag) : TS := tSeq (tDrop (tBM K "list" rAppend (tVar 2) (tCons (tOp (rI0 fun i j => V.int (Builtin.bitAnd i j)) (tVar 3) (tC (V.int 32767))) tNil))) (tAug 3 (tC (V.int 15)) (rI (fun x j => 0 ≤ j) fun i j => V.int (i / 2 ^ j.toNat)))
def t_dig (K : PySem.W.Frag) : TS := tWhile (tTest (tOp (rI0 fun i j => V.bl (decide (j < i))) (tVar 3) (tC (V.int 0)))) (t_dig1 K)
def t_cnt : TS := tDrop (tCall spFour [] E0 (tCons (tVar 0) (tCons (tIf (tTest (tOp (rI0 fun i j => V.bl (decide (j < i))) (tVar 1) (tC (V.int 0)))) (tCB rLend (tCons (tVar 2) tNil)) (tUn (rU fun i => V.int (-i)) (tCB rLend (tCons (tVar 2) tNil)))) tNil)))
def t_pair (K : PySem.W.Frag) : TS := tDrop (tBM K "list" rExtend (tVar 0) (tCons (tLst (tCons (tOp (rI0 fun i j => V.int (Builtin.bitAnd i j)) (tVar 4) (tC (V.int 255))) (tCons (tOp (rI (fun x j => 0 ≤ j) fun i j => V.int (i / 2 ^ j.toNat)) (tVar 4) (tC (V.int 8))) tNil))) tNil))
def t_pairs (K : PySem.W.Frag) : TS := tFor (iList K (tVar 2)) (gName 4) (t_pair K)
def t_int (K : PySem.W.Frag) : TS := tSeq (t_small K) (tSeq (tAsg (tLst tNil) (gName 2)) (tSeq (tAsg (tCB (fun xs H Q => ∃ i, xs = [V.int i] ∧ Q (V.int (if i < 0 then -i else i)) H) (tCons (tVar 1) tNil)) (gName 3)) (tSeq (t_dig K) (tSeq (tDrop (tBM K "list" rAppend (tVar 0) (tCons (tC (V.int 108)) tNil))) (tSeq t_cnt (t_pairs K))))))
section
variable {K : PySem.W.Frag} {D : Ends} {F L : Addr} {H : Hp} {v : Option V} {i : Int}
theorem dig_run {n : Nat} {s4 : Option V} (hL : H L = some (.lst [])) (hn : (dg15 n).length ≤ 100000) (k : ∀ s3 H', Keep L H H' → H' L = some (.lst (vn (dg15 n))) → D.nx [some (.ref F), v, some (.ref L), s3, s4] H') : t_dig K D [some (.ref F), v, some (.ref L), some (.int (n : Int)), s4] H := by
  unfold t_dig
  refine while_w (fun m σ H' => σ = [some (.ref F), v, some (.ref L), some (.int (m : Int)), s4] ∧ Keep L H H' ∧ ∃ ds : List Nat, H' L = some (.lst (vn ds)) ∧ ds ++ dg15 m = dg15 n) (m0 := n) ⟨rfl, Keep.refl L H, [], hL, rfl⟩ ?_
  rintro m σ H1 ⟨rfl, k1, ds, h1, e⟩
  refine ⟨decide (0 < m), fun QT qt => ?_, fun hb => ?_, fun hb => ?_⟩
  · simp only [r_seq, r_next, r_brk, r_cont, r_asg, r_name, r_ret, r_retN, r_drop, r_ifs, r_never, r_var, r_c, r_op, r_un, r_if, r_tst, r_b, r_not, r_and, r_or, r_andV, r_orV, r_notV, r_nil, r_cons, r_tup, r_lst, r_cb, r_call, r_bm, r_bm0, r_sl, r_nopart, r_part, r_rev, r_gnil, r_gcons, r_gsub, r_par, r_aug, r_chain, r_I0, r_I, r_U, r_ixd, r_lend, r_tupd, r_listd, r_sld, r_app, r_ext, r_reverse, r_setl, r_cat, r_int1, r_eqS, r_neS, scal_ii, scal_bb, scal_ss, at0, at1, at2, sq_lst, sq_tup, isLst_lst, List.getElem?_cons_zero, List.getElem?_cons_succ, List.set_cons_zero, List.set_cons_succ, V.int.injEq, V.bl.injEq, V.ref.injEq, V.str.injEq, HO.lst.injEq, HO.tup.injEq, Option.some.injEq, exists_eq_left', exists_eq_left, List.cons.injEq, and_true, true_and, decide_eq_true_eq, reduceCtorEq, false_and, exists_false, or_false, false_or, exists_const, and_assoc, exists_and_left, List.append_nil, ix0, ix1, ix2, cm_mod, cdw1009, cdw2003, cdw7, cdw64, cdw2, cm104729, cm2, cm3, upd_same, List.length_cons, List.length_nil, Int.reduceLT, Int.reduceLE, Nat.reduceAdd, Nat.reduceLeDiff, Nat.reduceLT, Int.reduceToNat, r_for1, r_forL, r_forT, r_lcL, r_lc1, r_yes, r_gtupD, wipe_0, wipe_1, List.cons_append, List.nil_append, r_forS, r_ipI, ite_false, ite_true, Bool.not_true, Bool.not_false, decide_true, decide_false, r_isd, r_islt, cD_ty, cD_ref, tD_non, tD_bl, tD_int, tD_str, tD_ref, tH_lst, tH_tup, tH_dK, tH_ins, ki_self, ki_int_bool, ki_non_int, ki_str_int, ki_lt_lst, ki_lt_tup, r_fld, r_sfld, HO.ins.injEq, cx_K]
    rw [show decide ((0 : Int) < (m : Int)) = decide (0 < m) from by simp]
    exact qt
  · have hm : 0 < m := of_decide_eq_true hb
    have ll : ds.length ≤ 100000 := by
      have := congrArg List.length e
      rw [List.length_append] at this
      omega
    unfold t_dig1
    have e15 : (2 : Int) ^ 15 = 32768 := by decide
    simp only [r_seq, r_next, r_brk, r_cont, r_asg, r_name, r_ret, r_retN, r_drop, r_ifs, r_never, r_var, r_c, r_op, r_un, r_if, r_tst, r_b, r_not, r_and, r_or, r_andV, r_orV, r_notV, r_nil, r_cons, r_tup, r_lst, r_cb, r_call, r_bm, r_bm0, r_sl, r_nopart, r_part, r_rev, r_gnil, r_gcons, r_gsub, r_par, r_aug, r_chain, r_I0, r_I, r_U, r_ixd, r_lend, r_tupd, r_listd, r_sld, r_app, r_ext, r_reverse, r_setl, r_cat, r_int1, r_eqS, r_neS, scal_ii, scal_bb, scal_ss, at0, at1, at2, sq_lst, sq_tup, isLst_lst, List.getElem?_cons_zero, List.getElem?_cons_succ, List.set_cons_zero, List.set_cons_succ, V.int.injEq, V.bl.injEq, V.ref.injEq, V.str.injEq, HO.lst.injEq, HO.tup.injEq, Option.some.injEq, exists_eq_left', exists_eq_left, List.cons.injEq, and_true, true_and, decide_eq_true_eq, reduceCtorEq, false_and, exists_false, or_false, false_or, exists_const, and_assoc, exists_and_left, List.append_nil, ix0, ix1, ix2, cm_mod, cdw1009, cdw2003, cdw7, cdw64, cdw2, cm104729, cm2, cm3, upd_same, List.length_cons, List.length_nil, Int.reduceLT, Int.reduceLE, Nat.reduceAdd, Nat.reduceLeDiff, Nat.reduceLT, Int.reduceToNat, r_for1, r_forL, r_forT, r_lcL, r_lc1, r_yes, r_gtupD, wipe_0, wipe_1, List.cons_append, List.nil_append, r_forS, r_ipI, ite_false, ite_true, Bool.not_true, Bool.not_false, decide_true, decide_false, r_isd, r_islt, cD_ty, cD_ref, tD_non, tD_bl, tD_int, tD_str, tD_ref, tH_lst, tH_tup, tH_dK, tH_ins, ki_self, ki_int_bool, ki_non_int, ki_str_int, ki_lt_lst, ki_lt_tup, r_fld, r_sfld, HO.ins.injEq, cx_K, and15, e15]
    refine ⟨tyl h1, vn ds, h1, Nat.lt_of_le_of_lt (by rw [vn_len]; exact ll) (by decide), m / 32768, by omega, ?_, Keep.upd k1, ds ++ [m % 32768], ?_, ?_⟩
    · rw [Int.natCast_ediv]
      rfl
    · rw [vn_app]
      rfl
    · rw [List.append_assoc, ← e, dg15_pos hm]
      rfl
  · have hm : m = 0 := by simpa using hb
    subst hm
    rw [dg15_zero, List.append_nil] at e
    rw [← e] at k
    exact k _ H1 k1 h1
theorem pairs_run {ds : List Nat} {xs : List V} {s1 s3 s4 : Option V} (FL : L ≠ F) (hF : H F = some (.lst xs)) (hL : H L = some (.lst (vn ds))) (hd : xs.length + 2 * ds.length ≤ 10000000) (hlt : ∀ d ∈ ds, d < 32768) (k : ∀ s4 H', Keep F H H' → H' F = some (.lst (xs ++ vn (dpairs ds))) → D.nx [some (.ref F), s1, some (.ref L), s3, s4] H') : t_pairs K D [some (.ref F), s1, some (.ref L), s3, s4] H := by
  unfold t_pairs
  rw [r_forL]
  refine ⟨.ref L, rfl, L, rfl, ⟨_, SqL.of hL⟩, lp_list (xs := vn ds) (fun i σ H' => (∃ s4, σ = [some (.ref F), s1, some (.ref L), s3, s4]) ∧ Keep F H H' ∧ H' F = some (.lst (xs ++ vn (dpairs (ds.take i))))) ⟨⟨_, rfl⟩, Keep.refl F H, by simpa [dpairs, vn] using hF⟩ (fun i σ H' _ ⟨_, e, _⟩ => SqL.of (e _ _ FL hL)) ?_ ?_⟩
  · rintro i x σ H' hx ⟨⟨s4, rfl⟩, k1, h1⟩
    obtain ⟨d, hd', rfl⟩ : ∃ d, ds[i]? = some d ∧ x = .int (d : Int) := by
      unfold vn at hx
      rw [List.getElem?_map] at hx
      cases e : ds[i]? with
      | none => rw [e] at hx; cases hx
      | some d => rw [e] at hx; cases hx; exact ⟨d, rfl, rfl⟩
    unfold t_pair
    have e8 : (2 : Int) ^ 8 = 256 := by decide
    simp only [r_seq, r_next, r_brk, r_cont, r_asg, r_name, r_ret, r_retN, r_drop, r_ifs, r_never, r_var, r_c, r_op, r_un, r_if, r_tst, r_b, r_not, r_and, r_or, r_andV, r_orV, r_notV, r_nil, r_cons, r_tup, r_lst, r_cb, r_call, r_bm, r_bm0, r_sl, r_nopart, r_part, r_rev, r_gnil, r_gcons, r_gsub, r_par, r_aug, r_chain, r_I0, r_I, r_U, r_ixd, r_lend, r_tupd, r_listd, r_sld, r_app, r_ext, r_reverse, r_setl, r_cat, r_int1, r_eqS, r_neS, scal_ii, scal_bb, scal_ss, at0, at1, at2, sq_lst, sq_tup, isLst_lst, List.getElem?_cons_zero, List.getElem?_cons_succ, List.set_cons_zero, List.set_cons_succ, V.int.injEq, V.bl.injEq, V.ref.injEq, V.str.injEq, HO.lst.injEq, HO.tup.injEq, Option.some.injEq, exists_eq_left', exists_eq_left, List.cons.injEq, and_true, true_and, decide_eq_true_eq, reduceCtorEq, false_and, exists_false, or_false, false_or, exists_const, and_assoc, exists_and_left, List.append_nil, ix0, ix1, ix2, cm_mod, cdw1009, cdw2003, cdw7, cdw64, cdw2, cm104729, cm2, cm3, upd_same, List.length_cons, List.length_nil, Int.reduceLT, Int.reduceLE, Nat.reduceAdd, Nat.reduceLeDiff, Nat.reduceLT, Int.reduceToNat, r_for1, r_forL, r_forT, r_lcL, r_lc1, r_yes, r_gtupD, wipe_0, wipe_1, List.cons_append, List.nil_append, r_forS, r_ipI, ite_false, ite_true, Bool.not_true, Bool.not_false, decide_true, decide_false, r_isd, r_islt, cD_ty, cD_ref, tD_non, tD_bl, tD_int, tD_str, tD_ref, tH_lst, tH_tup, tH_dK, tH_ins, ki_self, ki_int_bool, ki_non_int, ki_str_int, ki_lt_lst, ki_lt_tup, r_fld, r_sfld, HO.ins.injEq, cx_K, bitAnd_m8, e8, r_ext]
    have hi := (List.getElem?_eq_some_iff.mp hd').1
    have tl : (ds.take i).length ≤ ds.length := by rw [List.length_take]; omega
    have tl2 : (ds.take i).length = i := by rw [List.length_take]; omega
    refine ⟨tyl h1, szl (by decide : 2 ≤ 1000), fun p hp => ⟨_, by rw [upd_ne (ne_new h1 hp)]; exact h1, ?_, ⟨_, rfl⟩, k1.trans (Keep.fresh hp ⟨_, h1⟩), ?_⟩⟩
    · rw [List.length_append, vn_len, dpairs_len]
      exact Nat.le_trans (by omega : _ ≤ 10000002) (by decide)
    · rw [take_one hd', dpairs_snoc, vn_app, ← List.append_assoc]
      rw [show [V.int ((d : Int) % 256), V.int ((d : Int) / 256)] = vn [d % 256, d / 256] from rfl]
  · rintro σ H' ⟨⟨s4, rfl⟩, k1, h1⟩
    rw [vn_len, List.take_length] at h1
    exact k s4 H' k1 h1
end
def spPInt : Sp := fun vs H Q _ => ∃ (F : Addr) (i : Int) (xs : List V), vs = [.ref F, .int i] ∧ H F = some (.lst xs) ∧ xs.length ≤ 8000000 ∧ (dg15 i.natAbs).length ≤ 100000 ∧ ∀ H', Keep F H H' → H' F = some (.lst (xs ++ vn (encI i))) → Q .non H'
theorem abs_nat (i : Int) : (if i < 0 then -i else i) = ((i.natAbs : Nat) : Int) := by
  split <;> omega
section
variable {P : Program} {w : World} {K : PySem.W.Frag} {mg : Str → Option Value} {base : Heap} {f : Addr} {fd : FuncData}
abbrev sptext : Stmt := top 40
theorem scptext : FnScope ["found", "text", "_", "character"] ["found", "text", "_"] (defScope sptext) := ⟨rfl, rfl, rfl, by decide +kernel, rfl, by decide +kernel, by decide +kernel⟩

theorem ok_ptext (T : TxtW mg) (F : FnP K "put_text" "put_text" sptext f fd) (C_put_four : Cal P w K mg base 1 "put_four" ["found", "number"] spFour) : FnOk P w K mg base CX0 2 f fd ["found", "text", "_"] spPText := by
  refine F.ok scptext (fun vs H Q E h => ?_) (fun cdv A outer s H vs Q E hr h => ?_)
  · obtain ⟨F, z, xs, v, rfl, _⟩ := h
    rfl
  · refine ⟨_, PSs.nox (pss_cons (ps_expr (pe_bm PySem.F.plainAttrs_list PySem.F.slot_list_append PySem.F.type_list_append mt_append (pv 0) (pa_cons (pe_gi T.g_TEXT) pa_nil)))
  (pss_cons (ps_expr (pe_cal C_put_four (hr.mono (by decide)) rfl (pa_cons (pv 0) (pa_cons (pe_callB call_len_str (by rfl) T.b_len (by decide +kernel) (pa_cons (pv 1) pa_nil)) pa_nil))))
  (pss_one (ps_expr (pe_bm PySem.F.plainAttrs_list PySem.F.slot_list_extend PySem.F.type_list_extend mt_extend (pv 0) (pa_cons (pe_lc (own := [("character", 3)]) (g := gName 3) (tt := tYes) rfl scptext.nd (pi_str (pv 1)) (blkOk_by (own := [("character", 3)]) (N := ["found", "text", "_", "character"]) (sc := defScope sptext) (by decide +kernel)) (fun _ _ _ _ _ => (pg_name (i := 3) scptext.nd rfl (Or.inl rfl))) (fun _ _ _ _ _ => pts_nil) (fun _ _ _ _ _ => (pe_callB call_ord (by rfl) T.b_ord (by decide +kernel) (pa_cons (pv 3) pa_nil)))) pa_nil)))))), ?_⟩
    obtain ⟨F, z, xs, v, rfl, hF, hl, k⟩ := h
    show (_ : TS) _ [some (.ref F), some (.str z), some v, none] H
    simp only [r_seq, r_next, r_brk, r_cont, r_asg, r_name, r_ret, r_retN, r_drop, r_ifs, r_never, r_var, r_c, r_op, r_un, r_if, r_tst, r_b, r_not, r_and, r_or, r_andV, r_orV, r_notV, r_nil, r_cons, r_tup, r_lst, r_cb, r_call, r_bm, r_bm0, r_sl, r_nopart, r_part, r_rev, r_gnil, r_gcons, r_gsub, r_par, r_aug, r_chain, r_I0, r_I, r_U, r_ixd, r_lend, r_tupd, r_listd, r_sld, r_app, r_ext, r_reverse, r_setl, r_cat, r_int1, r_eqS, r_neS, scal_ii, scal_bb, scal_ss, at0, at1, at2, sq_lst, sq_tup, isLst_lst, List.getElem?_cons_zero, List.getElem?_cons_succ, List.set_cons_zero, List.set_cons_succ, V.int.injEq, V.bl.injEq, V.ref.injEq, V.str.injEq, HO.lst.injEq, HO.tup.injEq, Option.some.injEq, exists_eq_left', exists_eq_left, List.cons.injEq, and_true, true_and, decide_eq_true_eq, reduceCtorEq, false_and, exists_false, or_false, false_or, exists_const, and_assoc, exists_and_left, List.append_nil, ix0, ix1, ix2, cm_mod, cdw1009, cdw2003, cdw7, cdw64, cdw2, cm104729, cm2, cm3, upd_same, List.length_cons, List.length_nil, Int.reduceLT, Int.reduceLE, Nat.reduceAdd, Nat.reduceLeDiff, Nat.reduceLT, Int.reduceToNat, r_for1, r_forL, r_forT, r_lcL, r_lc1, r_yes, r_gtupD, wipe_0, wipe_1, List.cons_append, List.nil_append, r_forS, r_ipI, ite_false, ite_true, Bool.not_true, Bool.not_false, decide_true, decide_false, r_isd, r_islt, cD_ty, cD_ref, tD_non, tD_bl, tD_int, tD_str, tD_ref, tH_lst, tH_tup, tH_dK, tH_ins, ki_self, ki_int_bool, ki_non_int, ki_str_int, ki_lt_lst, ki_lt_tup, r_fld, r_sfld, HO.ins.injEq, cx_K, r_ext, r_lcS]
    refine ⟨tyl hF, xs, hF, Nat.lt_of_le_of_lt (by omega : _ ≤ 9000000) (by decide), Nat.le_trans (by omega : _ ≤ 9000000) (by decide), F, _, _, rfl, upd_same, by simp; omega, fun H1 k1 h1 => ⟨tyl h1, fun D hD => ?_⟩⟩
    have FD : F ≠ D := ne_new h1 hD
    have el : z.cps.size = z.length := rfl
    refine cp_str (z := z) (fun i H' => Keep D H1 H' ∧ H' D = some (.lst (vn (z.cps.toList.take i)))) ⟨fun b o n e => by rw [upd_ne n]; exact e, upd_same⟩ ?_ ?_
    · rintro i c H2 hc ⟨k2, h2⟩
      refine ⟨rfl, ?_⟩
      simp only [r_seq, r_next, r_brk, r_cont, r_asg, r_name, r_ret, r_retN, r_drop, r_ifs, r_never, r_var, r_c, r_op, r_un, r_if, r_tst, r_b, r_not, r_and, r_or, r_andV, r_orV, r_notV, r_nil, r_cons, r_tup, r_lst, r_cb, r_call, r_bm, r_bm0, r_sl, r_nopart, r_part, r_rev, r_gnil, r_gcons, r_gsub, r_par, r_aug, r_chain, r_I0, r_I, r_U, r_ixd, r_lend, r_tupd, r_listd, r_sld, r_app, r_ext, r_reverse, r_setl, r_cat, r_int1, r_eqS, r_neS, scal_ii, scal_bb, scal_ss, at0, at1, at2, sq_lst, sq_tup, isLst_lst, List.getElem?_cons_zero, List.getElem?_cons_succ, List.set_cons_zero, List.set_cons_succ, V.int.injEq, V.bl.injEq, V.ref.injEq, V.str.injEq, HO.lst.injEq, HO.tup.injEq, Option.some.injEq, exists_eq_left', exists_eq_left, List.cons.injEq, and_true, true_and, decide_eq_true_eq, reduceCtorEq, false_and, exists_false, or_false, false_or, exists_const, and_assoc, exists_and_left, List.append_nil, ix0, ix1, ix2, cm_mod, cdw1009, cdw2003, cdw7, cdw64, cdw2, cm104729, cm2, cm3, upd_same, List.length_cons, List.length_nil, Int.reduceLT, Int.reduceLE, Nat.reduceAdd, Nat.reduceLeDiff, Nat.reduceLT, Int.reduceToNat, r_for1, r_forL, r_forT, r_lcL, r_lc1, r_yes, r_gtupD, wipe_0, wipe_1, List.cons_append, List.nil_append, r_forS, r_ipI, ite_false, ite_true, Bool.not_true, Bool.not_false, decide_true, decide_false, r_isd, r_islt, cD_ty, cD_ref, tD_non, tD_bl, tD_int, tD_str, tD_ref, tH_lst, tH_tup, tH_dK, tH_ins, ki_self, ki_int_bool, ki_non_int, ki_str_int, ki_lt_lst, ki_lt_tup, r_fld, r_sfld, HO.ins.injEq, cx_K]
      have hi := (List.getElem?_eq_some_iff.mp hc).1
      rw [Array.length_toList] at hi
      refine ⟨.str ⟨#[c]⟩, rfl, ⟨#[c]⟩, rfl, rfl, _, h2, Nat.lt_of_le_of_lt (by rw [vn_len, List.length_take]; omega : _ ≤ 9000000) (by decide), Keep.upd k2, ?_⟩
      rw [take_one hc, vn_app]
      rfl
    · rintro H2 ⟨k2, h2⟩
      rw [List.take_of_length_le (by rw [Array.length_toList]; exact Nat.le_refl _)] at h2
      have hF2 := k2 _ _ FD h1
      refine ⟨D, rfl, _, hF2, _, h2, ?_, k _ (fun b o n e => ?_) ?_⟩
      · simp only [List.length_append, vn_len, four_len, List.length_cons, List.length_nil, Array.length_toList]
        exact Nat.le_trans (by omega : _ ≤ 9000010) (by decide)
      · rw [upd_ne n]
        have e1 := k1 b o n (by rw [upd_ne n]; exact e)
        exact k2 b o (ne_new e1 hD) e1
      · rw [upd_same]
        unfold encT
        simp [vn]
abbrev spinteger : Stmt := top 37
theorem scpinteger : FnScope ["found", "value", "digits", "rest", "digit"] ["found", "value"] (defScope spinteger) := ⟨rfl, rfl, rfl, by decide +kernel, rfl, by decide +kernel, by decide +kernel⟩

theorem ok_pinteger (T : TxtW mg) (F : FnP K "put_integer" "put_integer" spinteger f fd) (C_put_four : Cal P w K mg base 1 "put_four" ["found", "number"] spFour) : FnOk P w K mg base CX0 2 f fd ["found", "value"] spPInt := by
  refine F.ok scpinteger (fun vs H Q E h => ?_) (fun cdv A outer s H vs Q E hr h => ?_)
  · obtain ⟨F, i, xs, rfl, _⟩ := h
    rfl
  · refine ⟨t_int K, PSs.nox (by
      unfold t_int t_small t_dig t_dig1 t_cnt t_pairs t_pair
      exact (pss_cons (ps_if (pt_chain op_le op_le (pe_gi T.g_LEAST_SHORT) (pv 1) (pe_gi T.g_GREATEST_SHORT))
    (pss_cons (ps_expr (pe_bm PySem.F.plainAttrs_list PySem.F.slot_list_append PySem.F.type_list_append mt_append (pv 0) (pa_cons (pe_gi T.g_SHORT) pa_nil)))
  (pss_cons (ps_expr (pe_cal C_put_four (hr.mono (by decide)) rfl (pa_cons (pv 0) (pa_cons (pv 1) pa_nil))))
  (pss_one ps_retN)))
    pss_nil)
  (pss_cons (ps_set (i := 2) scpinteger.nd rfl (Or.inl rfl) (pe_lst pa_nil))
  (pss_cons (ps_set (i := 3) scpinteger.nd rfl (Or.inl rfl) (pe_callB call_abs (by rfl) T.b_abs (by decide +kernel) (pa_cons (pv 1) pa_nil)))
  (pss_cons (ps_while PassesOwn.never (pt_cmpR op_gt (pv 3) pe_int (nomark _))
    (pss_cons (ps_expr (pe_bm PySem.F.plainAttrs_list PySem.F.slot_list_append PySem.F.type_list_append mt_append (pv 2) (pa_cons (pe_op op_and (pv 3) (pe_gi T.g_DIGIT)) pa_nil)))
  (pss_one (ps_aug (i := 3) scpinteger.nd rfl (.inl rfl) pe_int (pip_of iop_shr)))))
  (pss_cons (ps_expr (pe_bm PySem.F.plainAttrs_list PySem.F.slot_list_append PySem.F.type_list_append mt_append (pv 0) (pa_cons (pe_gi T.g_LONG) pa_nil)))
  (pss_cons (ps_expr (pe_cal C_put_four (hr.mono (by decide)) rfl (pa_cons (pv 0) (pa_cons (pe_ifExp (pt_cmpR op_gt (pv 1) pe_int (nomark _)) (pe_callB call_len_d (by rfl) T.b_len (by decide +kernel) (pa_cons (pv 2) pa_nil)) (pe_un un_neg (pe_callB call_len_d (by rfl) T.b_len (by decide +kernel) (pa_cons (pv 2) pa_nil)))) pa_nil))))
  (pss_one (ps_for PassesOwn.never rfl (pi_list (pv 2)) (pg_name (i := 4) scpinteger.nd rfl (Or.inl rfl))
    (pss_one (ps_expr (pe_bm PySem.F.plainAttrs_list PySem.F.slot_list_extend PySem.F.type_list_extend mt_extend (pv 0) (pa_cons (pe_lst (pa_cons (pe_op op_and (pv 4) pe_int) (pa_cons (pe_op op_shr (pv 4) pe_int) pa_nil))) pa_nil))))))))))))), ?_⟩
    obtain ⟨F, i, xs, rfl, hF, hl, hdl, k⟩ := h
    show t_int K _ [some (.ref F), some (.int i), none, none, none] H
    unfold t_int
    rw [r_seq]
    unfold t_small
    simp only [r_seq, r_next, r_brk, r_cont, r_asg, r_name, r_ret, r_retN, r_drop, r_ifs, r_never, r_var, r_c, r_op, r_un, r_if, r_tst, r_b, r_not, r_and, r_or, r_andV, r_orV, r_notV, r_nil, r_cons, r_tup, r_lst, r_cb, r_call, r_bm, r_bm0, r_sl, r_nopart, r_part, r_rev, r_gnil, r_gcons, r_gsub, r_par, r_aug, r_chain, r_I0, r_I, r_U, r_ixd, r_lend, r_tupd, r_listd, r_sld, r_app, r_ext, r_reverse, r_setl, r_cat, r_int1, r_eqS, r_neS, scal_ii, scal_bb, scal_ss, at0, at1, at2, sq_lst, sq_tup, isLst_lst, List.getElem?_cons_zero, List.getElem?_cons_succ, List.set_cons_zero, List.set_cons_succ, V.int.injEq, V.bl.injEq, V.ref.injEq, V.str.injEq, HO.lst.injEq, HO.tup.injEq, Option.some.injEq, exists_eq_left', exists_eq_left, List.cons.injEq, and_true, true_and, decide_eq_true_eq, reduceCtorEq, false_and, exists_false, or_false, false_or, exists_const, and_assoc, exists_and_left, List.append_nil, ix0, ix1, ix2, cm_mod, cdw1009, cdw2003, cdw7, cdw64, cdw2, cm104729, cm2, cm3, upd_same, List.length_cons, List.length_nil, Int.reduceLT, Int.reduceLE, Nat.reduceAdd, Nat.reduceLeDiff, Nat.reduceLT, Int.reduceToNat, r_for1, r_forL, r_forT, r_lcL, r_lc1, r_yes, r_gtupD, wipe_0, wipe_1, List.cons_append, List.nil_append, r_forS, r_ipI, ite_false, ite_true, Bool.not_true, Bool.not_false, decide_true, decide_false, r_isd, r_islt, cD_ty, cD_ref, tD_non, tD_bl, tD_int, tD_str, tD_ref, tH_lst, tH_tup, tH_dK, tH_ins, ki_self, ki_int_bool, ki_non_int, ki_str_int, ki_lt_lst, ki_lt_tup, r_fld, r_sfld, HO.ins.injEq, cx_K]
    by_cases c : -2147483648 ≤ i ∧ i ≤ 2147483647
    · rw [if_pos c.1, if_pos c.2]
      refine ⟨tyl hF, xs, hF, Nat.lt_of_le_of_lt hl (by decide), F, i, _, rfl, upd_same, by simp; omega, fun H1 k1 h1 => k H1 (fun b o n e => k1 b o n (by rw [upd_ne n]; exact e)) ?_⟩
      rw [h1]
      unfold encI
      rw [if_pos c]
      simp [vn]
    · have big : (∀ p, H p = none → t_dig K { nx := tSeq (tDrop (tBM K "list" rAppend (tVar 0) (tCons (tC (V.int 108)) tNil))) (tSeq t_cnt (t_pairs K)) { nx := fun x H' => Q V.non H', rt := Q }, rt := Q } [some (V.ref F), some (V.int i), some (V.ref p), some (V.int (if i < 0 then -i else i)), none] (upd H p (HO.lst []))) := by
        intro p hp
        rw [abs_nat]
        have Fp : F ≠ p := ne_new hF hp
        refine dig_run upd_same hdl fun s3 H1 k1 h1 => ?_
        have kk : ∀ b o, H b = some o → H1 b = some o := fun b o e => k1 b o (ne_new e hp) (by rw [upd_ne (ne_new e hp)]; exact e)
        have hF1 := kk _ _ hF
        show tSeq _ _ _ _ _
        simp only [r_seq, r_next, r_brk, r_cont, r_asg, r_name, r_ret, r_retN, r_drop, r_ifs, r_never, r_var, r_c, r_op, r_un, r_if, r_tst, r_b, r_not, r_and, r_or, r_andV, r_orV, r_notV, r_nil, r_cons, r_tup, r_lst, r_cb, r_call, r_bm, r_bm0, r_sl, r_nopart, r_part, r_rev, r_gnil, r_gcons, r_gsub, r_par, r_aug, r_chain, r_I0, r_I, r_U, r_ixd, r_lend, r_tupd, r_listd, r_sld, r_app, r_ext, r_reverse, r_setl, r_cat, r_int1, r_eqS, r_neS, scal_ii, scal_bb, scal_ss, at0, at1, at2, sq_lst, sq_tup, isLst_lst, List.getElem?_cons_zero, List.getElem?_cons_succ, List.set_cons_zero, List.set_cons_succ, V.int.injEq, V.bl.injEq, V.ref.injEq, V.str.injEq, HO.lst.injEq, HO.tup.injEq, Option.some.injEq, exists_eq_left', exists_eq_left, List.cons.injEq, and_true, true_and, decide_eq_true_eq, reduceCtorEq, false_and, exists_false, or_false, false_or, exists_const, and_assoc, exists_and_left, List.append_nil, ix0, ix1, ix2, cm_mod, cdw1009, cdw2003, cdw7, cdw64, cdw2, cm104729, cm2, cm3, upd_same, List.length_cons, List.length_nil, Int.reduceLT, Int.reduceLE, Nat.reduceAdd, Nat.reduceLeDiff, Nat.reduceLT, Int.reduceToNat, r_for1, r_forL, r_forT, r_lcL, r_lc1, r_yes, r_gtupD, wipe_0, wipe_1, List.cons_append, List.nil_append, r_forS, r_ipI, ite_false, ite_true, Bool.not_true, Bool.not_false, decide_true, decide_false, r_isd, r_islt, cD_ty, cD_ref, tD_non, tD_bl, tD_int, tD_str, tD_ref, tH_lst, tH_tup, tH_dK, tH_ins, ki_self, ki_int_bool, ki_non_int, ki_str_int, ki_lt_lst, ki_lt_tup, r_fld, r_sfld, HO.ins.injEq, cx_K]
        refine ⟨tyl hF1, xs, hF1, Nat.lt_of_le_of_lt hl (by decide), ?_⟩
        have pF : p ≠ F := fun z => Fp z.symm
        have h2 : L2.upd H1 F (.lst (xs ++ [.int 108])) p = some (.lst (vn (dg15 i.natAbs))) := by rw [upd_ne pF]; exact h1
        have h3 : L2.upd H1 F (.lst (xs ++ [.int 108])) F = some (.lst (xs ++ [.int 108])) := upd_same
        have kk2 : ∀ b o, b ≠ F → H b = some o → L2.upd H1 F (.lst (xs ++ [.int 108])) b = some o := fun b o n e => by rw [upd_ne n]; exact kk b o e
        generalize L2.upd H1 F (.lst (xs ++ [.int 108])) = G at *
        unfold t_cnt
        simp only [r_seq, r_next, r_brk, r_cont, r_asg, r_name, r_ret, r_retN, r_drop, r_ifs, r_never, r_var, r_c, r_op, r_un, r_if, r_tst, r_b, r_not, r_and, r_or, r_andV, r_orV, r_notV, r_nil, r_cons, r_tup, r_lst, r_cb, r_call, r_bm, r_bm0, r_sl, r_nopart, r_part, r_rev, r_gnil, r_gcons, r_gsub, r_par, r_aug, r_chain, r_I0, r_I, r_U, r_ixd, r_lend, r_tupd, r_listd, r_sld, r_app, r_ext, r_reverse, r_setl, r_cat, r_int1, r_eqS, r_neS, scal_ii, scal_bb, scal_ss, at0, at1, at2, sq_lst, sq_tup, isLst_lst, List.getElem?_cons_zero, List.getElem?_cons_succ, List.set_cons_zero, List.set_cons_succ, V.int.injEq, V.bl.injEq, V.ref.injEq, V.str.injEq, HO.lst.injEq, HO.tup.injEq, Option.some.injEq, exists_eq_left', exists_eq_left, List.cons.injEq, and_true, true_and, decide_eq_true_eq, reduceCtorEq, false_and, exists_false, or_false, false_or, exists_const, and_assoc, exists_and_left, List.append_nil, ix0, ix1, ix2, cm_mod, cdw1009, cdw2003, cdw7, cdw64, cdw2, cm104729, cm2, cm3, upd_same, List.length_cons, List.length_nil, Int.reduceLT, Int.reduceLE, Nat.reduceAdd, Nat.reduceLeDiff, Nat.reduceLT, Int.reduceToNat, r_for1, r_forL, r_forT, r_lcL, r_lc1, r_yes, r_gtupD, wipe_0, wipe_1, List.cons_append, List.nil_append, r_forS, r_ipI, ite_false, ite_true, Bool.not_true, Bool.not_false, decide_true, decide_false, r_isd, r_islt, cD_ty, cD_ref, tD_non, tD_bl, tD_int, tD_str, tD_ref, tH_lst, tH_tup, tH_dK, tH_ins, ki_self, ki_int_bool, ki_non_int, ki_str_int, ki_lt_lst, ki_lt_tup, r_fld, r_sfld, HO.ins.injEq, cx_K, h2]
        have fin : ∀ j : Int, j = (if 0 < i then ((dg15 i.natAbs).length : Int) else -((dg15 i.natAbs).length : Int)) → spFour [V.ref F, V.int j] G (fun x H1 => t_pairs K { nx := fun x H' => Q V.non H', rt := Q } [some (V.ref F), some (V.int i), some (V.ref p), s3, none] H1) E0 := by
          intro j ej
          refine ⟨F, j, _, rfl, h3, by simp; omega, fun H2 k2 e2 => ?_⟩
          refine pairs_run pF e2 (k2 _ _ pF h2) ?_ (dg15_lt _) fun s4 H3 k3 e3 => k H3 (fun b o n e => k3 b o n (k2 b o n (kk2 b o n e))) ?_
          · simp only [List.length_append, vn_len, four_len, List.length_cons, List.length_nil]
            omega
          · rw [e3, ej]
            unfold encI
            rw [if_neg c]
            simp [vn]
        by_cases c2 : 0 < i
        · rw [if_pos c2]
          exact fin _ (by rw [if_pos c2, vn_len])
        · rw [if_neg c2]
          exact fin _ (by rw [if_neg c2, vn_len])
      by_cases c1 : -2147483648 ≤ i
      · rw [if_pos c1, if_neg (fun z => c ⟨c1, z⟩)]
        exact ⟨Nat.zero_le _, big⟩
      · rw [if_neg c1]
        exact ⟨Nat.zero_le _, big⟩
end
end C51

set_option maxHeartbeats 2000000
namespace C51
open PySem PySem.Spec PyProof.Rows L2
/-! ### what waits to be written -/
inductive Tk where
  | bytes (ns : List Nat)
  | num (i : Int)
  | text (z : Str)
  | con (k : PV)
  | row (ks : List PV)
  | cod (k : PV)
def encK : Tk → List Nat
  | .bytes ns => encB ns
  | .num i => four i
  | .text z => encT z
  | .con k => encP k
  | .row ks => 40 :: (four (ks.length : Int) ++ encPs ks)
  | .cod k => encP k
def encKs : List Tk → List Nat
  | [] => []
  | t :: ts => encK t ++ encKs ts
theorem encKs_app : ∀ (xs ys : List Tk), encKs (xs ++ ys) = encKs xs ++ encKs ys
  | [], ys => rfl
  | x :: xs, ys => by rw [List.cons_append, encKs, encKs_app xs ys, encKs, List.append_assoc]
/-- the functions that put -/
structure PA where
  fB : Addr
  fN : Addr
  fT : Addr
  fC : Addr
  fK : Addr
def PA.of (A : PA) : Tk → Addr
  | .bytes _ => A.fB
  | .num _ => A.fN
  | .text _ => A.fT
  | .con _ => A.fC
  | .row _ => A.fC
  | .cod _ => A.fK
structure PG (mg : Str → Option Value) (A : PA) : Prop where
  gB : mg "put_bytes" = some (.ref A.fB)
  gN : mg "put_number" = some (.ref A.fN)
  gT : mg "put_text" = some (.ref A.fT)
  gC : mg "put_constant" = some (.ref A.fC)
  gK : mg "put_code" = some (.ref A.fK)
/-- what a value stands for -/
def TV (CC MM : Addr) (μ : Mks) (H : Hp) (v : V) : Tk → Prop
  | .bytes ns => ∃ a, v = .ref a ∧ H a = some (.tup (vn ns))
  | .num i => v = .int i
  | .text z => v = .str z
  | .con k => Rp CC MM μ H v k
  | .row ks => ∃ a vs, v = .ref a ∧ H a = some (.tup vs) ∧ Rps CC MM μ H vs ks
  | .cod k => Rp CC MM μ H v k ∧ isC k
theorem TV.mo {CC MM : Addr} {μ : Mks} {H H' : Hp} {v : V} (m : Mo H H') : ∀ {t : Tk}, TV CC MM μ H v t → TV CC MM μ H' v t
  | .bytes _, ⟨a, e, h⟩ => ⟨a, e, m.tup h⟩
  | .num _, h => h
  | .text _, h => h
  | .con _, h => Rp.mo m (Mks.le_refl μ) h
  | .row _, ⟨a, vs, e, h, r⟩ => ⟨a, vs, e, m.tup h, Rps.mo m (Mks.le_refl μ) r⟩
  | .cod _, ⟨h, i⟩ => ⟨Rp.mo m (Mks.le_refl μ) h, i⟩
def gT (n : Nat) : Tk → Prop
  | .con k => gV 100 4000 n k
  | .row ks => gVs 100 4000 n ks ∧ ks.length ≤ 4000
  | .cod k => gV 100 4000 n k
  | _ => True
def TaskAt (CC MM : Addr) (μ : Mks) (A : PA) (n : Nat) (H : Hp) (r : Addr) (t : Tk) : Prop := ∃ v, H r = some (.tup [.ref (A.of t), v]) ∧ TV CC MM μ H v t ∧ gT n t
/-- all but two stay -/
def Keep2 (F W : Addr) (H H' : Hp) : Prop := ∀ b o, b ≠ F → b ≠ W → H b = some o → H' b = some o
/-! ### pairs of a function and a value, one by one -/
def GT (σ : L2.St) (H0 : Hp) (te : TE) (fv : Addr × V) : Prop := ∀ H Q, Same H0 H → (∀ r, H r = none → Q (.ref r) (L2.upd H r (.tup [.ref fv.1, fv.2]))) → te σ H Q
def GTs (σ : L2.St) (H0 : Hp) (ta : TA) (fvs : List (Addr × V)) : Prop := ∀ H QA, Same H0 H → (∀ (rs : List Addr) H', Same H H' → Paired (fun r fv => H r = none ∧ H' r = some (.tup [.ref fv.1, fv.2])) rs fvs → QA (rs.map V.ref) H') → ta σ H QA
section
variable {σ : L2.St} {H0 : Hp} {te : TE} {ta : TA}
theorem gts_nil : GTs σ H0 tNil [] := fun H QA s k => k [] H (Same.refl H) .nil
theorem gts_cons {fv : Addr × V} {fvs : List (Addr × V)} (h : GT σ H0 te fv) (t : GTs σ H0 ta fvs) : GTs σ H0 (tCons te ta) (fv :: fvs) := fun H QA s k => h H _ s fun r hr => by
  have s1 := Same.new' (o := .tup [.ref fv.1, fv.2]) (Same.refl H) hr
  refine t _ _ (fun b o e => s1 b o (s b o e)) fun rs H' s2 p => k (r :: rs) H' (fun b o e => s2 b o (s1 b o e)) (.cons ⟨hr, s2 _ _ upd_same⟩ (Paired.map' p fun a b h => ⟨s1.free h.1, h.2⟩))
theorem gt_fld {K : PySem.W.Frag} {CC c dx f : Addr} {fs : List (Str × V)} {i : Nat} {name : Str} {v : V} (hσ : σ[i]? = some (some (.ref c))) (h : H0 c = some (.ins CC dx fs)) (cl : Cls K CC) (na : NoAttr K CC name) (l : fs.lookup name = some v) :
    GT σ H0 (tTup (tCons (tC (.ref f)) (tCons (tFld K (tVar i) name) tNil))) (f, v) := fun H Q s k => by
  show (tTup (tCons (tC (.ref f)) (tCons (tFld K (tVar i) name) tNil))) σ H Q
  rw [r_tup, r_cons, r_c, r_cons, r_fld]
  exact ⟨.ref c, hσ, c, CC, dx, fs, v, rfl, s _ _ h, cl, na, l, szl (by decide : 2 ≤ 1000), fun r hr => k r hr⟩
theorem gt_c {f : Addr} {v : V} : GT σ H0 (tTup (tCons (tC (.ref f)) (tCons (tC v) tNil))) (f, v) := fun H Q s k => by
  show 2 ≤ sizeLine ∧ _
  exact ⟨szl (by decide : 2 ≤ 1000), fun r hr => k r hr⟩
end
end C51

set_option maxHeartbeats 2000000
namespace C51
open PySem PySem.Spec PyProof.Rows L2
/-- what a put does: bytes behind what is found, tasks behind what waits -/
def Put (CC MM : Addr) (μ : Mks) (A : PA) (n : Nat) (F W : Addr) (H : Hp) (xs ws : List V) (t : Tk) (Q : VK) : Prop := ∀ (d : List Nat) (nr : List Addr) (nt : List Tk) H', Keep2 F W H H' → H' F = some (.lst (xs ++ vn d)) → H' W = some (.lst (ws ++ nr.map V.ref)) → (∀ r ∈ nr, r ≠ F ∧ r ≠ W) → Paired (TaskAt CC MM μ A n H') nr nt → encK t = d ++ encKs nt.reverse → d ≠ [] → Q .non H'
def spPCod (CC MM : Addr) (A : PA) : Sp := fun vs H Q _ => ∃ (F W : Addr) (v : V) (xs ws : List V) (k : PV) (μ : Mks) (n : Nat), vs = [.ref F, v, .ref W] ∧ F ≠ W ∧ H F = some (.lst xs) ∧ H W = some (.lst ws) ∧ Rp CC MM μ H v k ∧ isC k ∧ gV 100 4000 n k ∧ n ≤ 4000 ∧ xs.length ≤ 5000000 ∧ ws.length ≤ 5000000 ∧ Put CC MM μ A n F W H xs ws (.cod k) Q
theorem rps_strs {CC MM : Addr} {μ : Mks} {H : Hp} : ∀ (zs : List Str), Rps CC MM μ H (zs.map V.str) (zs.map fun z => PV.con (.str z))
  | [] => .nil
  | z :: zs => .cons (.con (.str z)) (rps_strs zs)
theorem enc_strs : ∀ (zs : List Str), encPs (zs.map fun z => PV.con (.str z)) = encCs (zs.map CV.str)
  | [] => by rw [List.map_nil, List.map_nil, encPs, encCs]
  | z :: zs => by rw [List.map_cons, List.map_cons, encPs, encCs, encP, enc_strs zs]
theorem gVs_strs {n : Nat} : ∀ {zs : List Str}, (∀ z ∈ zs, OkS z ∧ z.length ≤ 4000) → gVs 100 4000 n (zs.map fun z => PV.con (.str z))
  | [], _ => by unfold gVs; trivial
  | z :: zs, h => by
    have h1 := h z List.mem_cons_self
    rw [List.map_cons]
    unfold gVs gV
    refine ⟨⟨?_, ?_, ?_⟩, gVs_strs fun y hy => h y (List.mem_cons_of_mem _ hy)⟩
    · unfold kOk
      exact h1.1
    · unfold szC
      decide
    · unfold bOk
      exact h1.2
/-- the eleven tasks of a code, the last first -/
def codeTasks (p : PF) (ks : List PV) : List Tk := [.bytes p.gds, .bytes p.lns, .num p.i4, .text p.z2, .text p.z1, .text "<tree>", .bytes p.kds, .row (p.ss.map fun z => PV.con (.str z)), .row (p.zs.map fun z => PV.con (.str z)), .row ks, .bytes p.ds]
theorem enc_code (p : PF) (ks : List PV) : encP (.cod p ks) = 99 :: (four p.i0 ++ four 0 ++ four p.i1 ++ four p.i2 ++ four p.i3) ++ encKs (codeTasks p ks).reverse := by
  rw [encP]
  unfold codeTasks
  simp only [List.reverse_cons, List.reverse_nil, List.nil_append, List.cons_append, List.append_nil, encKs, encK, enc_strs, encC, List.length_map]
theorem pe_gs {X : Cx} {x z : Str} {pos : Pos} (h : ∃ t, X.mg x = some (.str z t)) (hg : Gl X x := by rfl) (hdb : (x == ("__debug__" : Str)) = false := by decide) : PE X (.Name x pos) (tC (.str z)) := by
  obtain ⟨t, h⟩ := h
  exact pe_glob hg h ⟨t, rfl⟩ hdb
theorem paired_at {α β : Type} {F : α → β → Prop} : ∀ {l1 : List α} {l2 : List β} {i : Nat} {x : α}, Paired F l1 l2 → l1[i]? = some x → ∃ y, l2[i]? = some y ∧ F x y
  | _, _, i, _, .nil, h => by simp at h
  | _, _, 0, _, .cons g t, h => by
    cases h
    exact ⟨_, rfl, g⟩
  | _, _, i + 1, _, .cons g t, h => by
    obtain ⟨y, e, f⟩ := paired_at t (by simpa using h)
    exact ⟨y, by simpa using e, f⟩
theorem paired_zip {α β γ : Type} {F : α → β → Prop} {R : β → γ → Prop} {G : α → γ → Prop} : ∀ {l1 : List α} {l2 : List β} {l3 : List γ}, Paired F l1 l2 → Paired R l2 l3 → (∀ a b c, F a b → R b c → G a c) → Paired G l1 l3
  | _, _, _, .nil, .nil, _ => .nil
  | _, _, _, .cons f t, .cons r u, h => .cons (h _ _ _ f r) (paired_zip t u h)
def t_pc1 (K : PySem.W.Frag) : TS := tDrop (tBM K "list" rAppend (tVar 0) (tCons (tC (V.int 99)) tNil))
def t_pc2 (K : PySem.W.Frag) : TS := tFor (iTup K (tTup (tCons (tFld K (tVar 1) "argcount") (tCons (tC (V.int 0)) (tCons (tFld K (tVar 1) "onlycount") (tCons (tFld K (tVar 1) "stacksize") (tCons (tFld K (tVar 1) "flags") tNil))))))) (gName 3) (tDrop (tCall spFour [] E0 (tCons (tVar 0) (tCons (tVar 3) tNil))))
def t_eleven (K : PySem.W.Frag) (A : PA) : TA := (tCons (tTup (tCons (tC (V.ref A.fB)) (tCons (tFld K (tVar 1) "handlers") tNil))) (tCons (tTup (tCons (tC (V.ref A.fB)) (tCons (tFld K (tVar 1) "lines") tNil))) (tCons (tTup (tCons (tC (V.ref A.fN)) (tCons (tFld K (tVar 1) "line") tNil))) (tCons (tTup (tCons (tC (V.ref A.fT)) (tCons (tFld K (tVar 1) "path") tNil))) (tCons (tTup (tCons (tC (V.ref A.fT)) (tCons (tFld K (tVar 1) "name") tNil))) (tCons (tTup (tCons (tC (V.ref A.fT)) (tCons (tC (V.str "<tree>")) tNil))) (tCons (tTup (tCons (tC (V.ref A.fB)) (tCons (tFld K (tVar 1) "kinds") tNil))) (tCons (tTup (tCons (tC (V.ref A.fC)) (tCons (tFld K (tVar 1) "slots") tNil))) (tCons (tTup (tCons (tC (V.ref A.fC)) (tCons (tFld K (tVar 1) "names") tNil))) (tCons (tTup (tCons (tC (V.ref A.fC)) (tCons (tFld K (tVar 1) "constants") tNil))) (tCons (tTup (tCons (tC (V.ref A.fB)) (tCons (tFld K (tVar 1) "code") tNil))) tNil)))))))))))
def t_pc3 (K : PySem.W.Frag) (A : PA) : TS := tDrop (tBM K "list" rExtend (tVar 2) (tCons (tLst (t_eleven K A)) tNil))
def elevenV (A : PA) (B : FP) (p : PF) : List (Addr × V) := [(A.fB, .ref B.pg), (A.fB, .ref B.pt), (A.fN, .int p.i4), (A.fT, .str p.z2), (A.fT, .str p.z1), (A.fT, .str "<tree>"), (A.fB, .ref B.pd), (A.fC, .ref B.ps), (A.fC, .ref B.pn), (A.fC, .ref B.pk), (A.fB, .ref B.pu)]
theorem eleven_run {K : PySem.W.Frag} {mg : Str → Option Value} {CC MM c m : Addr} {H : Hp} {A : PA} {p : PF} {d : Nat} {vs : List V} {B : FP} {s0 s2 s3 : Option V} (I : CodeT K mg CC) (ca : CodeAt CC MM H c p d vs B m) : GTs [s0, some (.ref c), s2, s3] H (t_eleven K A) (elevenV A B p) := by
  obtain ⟨dx, fs, f1, f2, f3, f4, f5, f6, f7, f8, f9, f10, f11, f12, f13, f14, f15, f16, f17, f18, f19, f20, f21, f22, f23, f24, ⟨md, f25⟩, f26⟩ := id ca
  have cl := I.cI.cl
  unfold t_eleven elevenV
  exact (gts_cons (gt_fld (i := 1) rfl f1 cl (I.na "handlers" (by decide)) f16) (gts_cons (gt_fld (i := 1) rfl f1 cl (I.na "lines" (by decide)) f15) (gts_cons (gt_fld (i := 1) rfl f1 cl (I.na "line" (by decide)) f14) (gts_cons (gt_fld (i := 1) rfl f1 cl (I.na "path" (by decide)) f13) (gts_cons (gt_fld (i := 1) rfl f1 cl (I.na "name" (by decide)) f12) (gts_cons gt_c (gts_cons (gt_fld (i := 1) rfl f1 cl (I.na "kinds" (by decide)) f11) (gts_cons (gt_fld (i := 1) rfl f1 cl (I.na "slots" (by decide)) f10) (gts_cons (gt_fld (i := 1) rfl f1 cl (I.na "names" (by decide)) f9) (gts_cons (gt_fld (i := 1) rfl f1 cl (I.na "constants" (by decide)) f8) (gts_cons (gt_fld (i := 1) rfl f1 cl (I.na "code" (by decide)) f6) gts_nil)))))))))))
theorem pc2_run {K : PySem.W.Frag} {mg : Str → Option Value} {CC MM c m F : Addr} {H : Hp} {p : PF} {d : Nat} {vs xs : List V} {B : FP} {s2 s3 : Option V} {D : Ends} (I : CodeT K mg CC) (ca : CodeAt CC MM H c p d vs B m) (hF : H F = some (.lst xs)) (hl : xs.length ≤ 6000000) (k : ∀ s3 H', Keep F H H' → H' F = some (.lst (xs ++ vn (four p.i0 ++ four 0 ++ four p.i1 ++ four p.i2 ++ four p.i3))) → D.nx [some (.ref F), some (.ref c), s2, s3] H') : t_pc2 K D [some (.ref F), some (.ref c), s2, s3] H := by
  obtain ⟨dx, fs, f1, f2, f3, f4, f5, f6, f7, f8, f9, f10, f11, f12, f13, f14, f15, f16, f17, f18, f19, f20, f21, f22, f23, f24, ⟨md, f25⟩, f26⟩ := id ca
  have cl := I.cI.cl
  unfold t_pc2
  simp only [r_seq, r_next, r_brk, r_cont, r_asg, r_name, r_ret, r_retN, r_drop, r_ifs, r_never, r_var, r_c, r_op, r_un, r_if, r_tst, r_b, r_not, r_and, r_or, r_andV, r_orV, r_notV, r_nil, r_cons, r_tup, r_lst, r_cb, r_call, r_bm, r_bm0, r_sl, r_nopart, r_part, r_rev, r_gnil, r_gcons, r_gsub, r_par, r_aug, r_chain, r_I0, r_I, r_U, r_ixd, r_lend, r_tupd, r_listd, r_sld, r_app, r_ext, r_reverse, r_setl, r_cat, r_int1, r_eqS, r_neS, scal_ii, scal_bb, scal_ss, at0, at1, at2, sq_lst, sq_tup, isLst_lst, List.getElem?_cons_zero, List.getElem?_cons_succ, List.set_cons_zero, List.set_cons_succ, V.int.injEq, V.bl.injEq, V.ref.injEq, V.str.injEq, HO.lst.injEq, HO.tup.injEq, Option.some.injEq, exists_eq_left', exists_eq_left, List.cons.injEq, and_true, true_and, decide_eq_true_eq, reduceCtorEq, false_and, exists_false, or_false, false_or, exists_const, and_assoc, exists_and_left, List.append_nil, ix0, ix1, ix2, cm_mod, cdw1009, cdw2003, cdw7, cdw64, cdw2, cm104729, cm2, cm3, upd_same, List.length_cons, List.length_nil, Int.reduceLT, Int.reduceLE, Nat.reduceAdd, Nat.reduceLeDiff, Nat.reduceLT, Int.reduceToNat, r_for1, r_forL, r_forT, r_lcL, r_lc1, r_yes, r_gtupD, wipe_0, wipe_1, List.cons_append, List.nil_append, r_forS, r_ipI, ite_false, ite_true, Bool.not_true, Bool.not_false, decide_true, decide_false, r_isd, r_islt, cD_ty, cD_ref, tD_non, tD_bl, tD_int, tD_str, tD_ref, tH_lst, tH_tup, tH_dK, tH_ins, ki_self, ki_int_bool, ki_non_int, ki_str_int, ki_lt_lst, ki_lt_tup, r_fld, r_sfld, HO.ins.injEq, cx_K]
  refine ⟨CC, dx, fs, f1, cl, I.na "argcount" (by decide), _, f2, CC, dx, fs, f1, cl, I.na "onlycount" (by decide), _, f3, CC, dx, fs, f1, cl, I.na "stacksize" (by decide), _, f4, CC, dx, fs, f1, cl, I.na "flags" (by decide), _, f5, szl (by decide : 5 ≤ 1000), fun t ht => ⟨⟨_, SqT.of upd_same⟩, ?_⟩⟩
  have st := Same.new' (o := .tup [.int p.i0, .int 0, .int p.i1, .int p.i2, .int p.i3]) (Same.refl H) ht
  have qt : L2.upd H t (.tup [.int p.i0, .int 0, .int p.i1, .int p.i2, .int p.i3]) t = some (.tup [.int p.i0, .int 0, .int p.i1, .int p.i2, .int p.i3]) := upd_same
  have tF : t ≠ F := new_ne hF ht
  have hF1 := st _ _ hF
  generalize L2.upd H t (.tup [.int p.i0, .int 0, .int p.i1, .int p.i2, .int p.i3]) = G at *
  refine lp_tup (xs := [.int p.i0, .int 0, .int p.i1, .int p.i2, .int p.i3]) (fun i σ H' => (∃ s3, σ = [some (.ref F), some (.ref c), s2, s3]) ∧ Keep F G H' ∧ H' F = some (.lst (xs ++ vn (([p.i0, 0, p.i1, p.i2, p.i3].take i).flatMap four)))) ⟨⟨_, rfl⟩, Keep.refl F G, by simpa [vn] using hF1⟩ (fun i σ H' _ ⟨_, e, _⟩ => SqT.of (e _ _ tF qt)) ?_ ?_
  · rintro i x σ H' hx ⟨⟨s3, rfl⟩, k1, h1⟩
    obtain ⟨j, hj, rfl⟩ : ∃ j : Int, [p.i0, 0, p.i1, p.i2, p.i3][i]? = some j ∧ x = .int j := by
      match i, hx with
      | 0, hx => cases hx; exact ⟨_, rfl, rfl⟩
      | 1, hx => cases hx; exact ⟨_, rfl, rfl⟩
      | 2, hx => cases hx; exact ⟨_, rfl, rfl⟩
      | 3, hx => cases hx; exact ⟨_, rfl, rfl⟩
      | 4, hx => cases hx; exact ⟨_, rfl, rfl⟩
    simp only [r_seq, r_next, r_brk, r_cont, r_asg, r_name, r_ret, r_retN, r_drop, r_ifs, r_never, r_var, r_c, r_op, r_un, r_if, r_tst, r_b, r_not, r_and, r_or, r_andV, r_orV, r_notV, r_nil, r_cons, r_tup, r_lst, r_cb, r_call, r_bm, r_bm0, r_sl, r_nopart, r_part, r_rev, r_gnil, r_gcons, r_gsub, r_par, r_aug, r_chain, r_I0, r_I, r_U, r_ixd, r_lend, r_tupd, r_listd, r_sld, r_app, r_ext, r_reverse, r_setl, r_cat, r_int1, r_eqS, r_neS, scal_ii, scal_bb, scal_ss, at0, at1, at2, sq_lst, sq_tup, isLst_lst, List.getElem?_cons_zero, List.getElem?_cons_succ, List.set_cons_zero, List.set_cons_succ, V.int.injEq, V.bl.injEq, V.ref.injEq, V.str.injEq, HO.lst.injEq, HO.tup.injEq, Option.some.injEq, exists_eq_left', exists_eq_left, List.cons.injEq, and_true, true_and, decide_eq_true_eq, reduceCtorEq, false_and, exists_false, or_false, false_or, exists_const, and_assoc, exists_and_left, List.append_nil, ix0, ix1, ix2, cm_mod, cdw1009, cdw2003, cdw7, cdw64, cdw2, cm104729, cm2, cm3, upd_same, List.length_cons, List.length_nil, Int.reduceLT, Int.reduceLE, Nat.reduceAdd, Nat.reduceLeDiff, Nat.reduceLT, Int.reduceToNat, r_for1, r_forL, r_forT, r_lcL, r_lc1, r_yes, r_gtupD, wipe_0, wipe_1, List.cons_append, List.nil_append, r_forS, r_ipI, ite_false, ite_true, Bool.not_true, Bool.not_false, decide_true, decide_false, r_isd, r_islt, cD_ty, cD_ref, tD_non, tD_bl, tD_int, tD_str, tD_ref, tH_lst, tH_tup, tH_dK, tH_ins, ki_self, ki_int_bool, ki_non_int, ki_str_int, ki_lt_lst, ki_lt_tup, r_fld, r_sfld, HO.ins.injEq, cx_K]
    have hi := (List.getElem?_eq_some_iff.mp hj).1
    have fl : ∀ l : List Int, (l.flatMap four).length = 4 * l.length := fun l => by
      induction l with
      | nil => rfl
      | cons a l ih => rw [List.flatMap_cons, List.length_append, ih, four_len, List.length_cons]; omega
    refine ⟨F, j, _, rfl, h1, ?_, fun H2 k2 h2 => ⟨⟨_, rfl⟩, k1.trans k2, ?_⟩⟩
    · rw [List.length_append, vn_len, fl, List.length_take]
      have : [p.i0, 0, p.i1, p.i2, p.i3].length = 5 := rfl
      omega
    · rw [h2, take_one hj, List.flatMap_append, vn_app, ← List.append_assoc]
      simp
  · rintro σ H' ⟨⟨s3, rfl⟩, k1, h1⟩
    refine k s3 H' (fun b o n e => k1 b o n (st b o e)) ?_
    rw [h1]
    simp [List.flatMap]
section
variable {P : Program} {w : World} {K : PySem.W.Frag} {mg : Str → Option Value} {base : Heap} {f : Addr} {fd : FuncData}
abbrev spcode : Stmt := top 35
theorem scpcode : FnScope ["found", "code", "waiting", "number"] ["found", "code", "waiting"] (defScope spcode) := ⟨rfl, rfl, rfl, by decide +kernel, rfl, by decide +kernel, by decide +kernel⟩

theorem ok_pcode {CC MM : Addr} {A : PA} (T : TxtW mg) (I : CodeT K mg CC) (G : PG mg A) (F : FnP K "put_code" "put_code" spcode f fd) (C_put_four : Cal P w K mg base 1 "put_four" ["found", "number"] spFour) : FnOk P w K mg base CX0 2 f fd ["found", "code", "waiting"] (spPCod CC MM A) := by
  refine F.ok scpcode (fun vs H Q E h => ?_) (fun cdv A' outer s H vs Q E hr h => ?_)
  · obtain ⟨F, W, v, xs, ws, k, μ, n, rfl, _⟩ := h
    rfl
  · refine ⟨_, PSs.nox (pss_cons (ps_expr (pe_bm PySem.F.plainAttrs_list PySem.F.slot_list_append PySem.F.type_list_append mt_append (pv 0) (pa_cons (pe_gi T.g_CODE) pa_nil)))
  (pss_cons (ps_for PassesOwn.never rfl (pi_tup (pe_tup (pa_cons (pe_fld (pv 1) rfl) (pa_cons pe_int (pa_cons (pe_fld (pv 1) rfl) (pa_cons (pe_fld (pv 1) rfl) (pa_cons (pe_fld (pv 1) rfl) pa_nil))))))) (pg_name (i := 3) scpcode.nd rfl (Or.inl rfl))
    (pss_one (ps_expr (pe_cal C_put_four (hr.mono (by decide)) rfl (pa_cons (pv 0) (pa_cons (pv 3) pa_nil))))))
  (pss_one (ps_expr (pe_bm PySem.F.plainAttrs_list PySem.F.slot_list_extend PySem.F.type_list_extend mt_extend (pv 2) (pa_cons (pe_lst (pa_cons (pe_tup (pa_cons (pe_glob (v := .ref _) rfl G.gB rfl) (pa_cons (pe_fld (pv 1) rfl) pa_nil))) (pa_cons (pe_tup (pa_cons (pe_glob (v := .ref _) rfl G.gB rfl) (pa_cons (pe_fld (pv 1) rfl) pa_nil))) (pa_cons (pe_tup (pa_cons (pe_glob (v := .ref _) rfl G.gN rfl) (pa_cons (pe_fld (pv 1) rfl) pa_nil))) (pa_cons (pe_tup (pa_cons (pe_glob (v := .ref _) rfl G.gT rfl) (pa_cons (pe_fld (pv 1) rfl) pa_nil))) (pa_cons (pe_tup (pa_cons (pe_glob (v := .ref _) rfl G.gT rfl) (pa_cons (pe_fld (pv 1) rfl) pa_nil))) (pa_cons (pe_tup (pa_cons (pe_glob (v := .ref _) rfl G.gT rfl) (pa_cons (pe_gs T.g_FILE) pa_nil))) (pa_cons (pe_tup (pa_cons (pe_glob (v := .ref _) rfl G.gB rfl) (pa_cons (pe_fld (pv 1) rfl) pa_nil))) (pa_cons (pe_tup (pa_cons (pe_glob (v := .ref _) rfl G.gC rfl) (pa_cons (pe_fld (pv 1) rfl) pa_nil))) (pa_cons (pe_tup (pa_cons (pe_glob (v := .ref _) rfl G.gC rfl) (pa_cons (pe_fld (pv 1) rfl) pa_nil))) (pa_cons (pe_tup (pa_cons (pe_glob (v := .ref _) rfl G.gC rfl) (pa_cons (pe_fld (pv 1) rfl) pa_nil))) (pa_cons (pe_tup (pa_cons (pe_glob (v := .ref _) rfl G.gB rfl) (pa_cons (pe_fld (pv 1) rfl) pa_nil))) pa_nil)))))))))))) pa_nil)))))), ?_⟩
    obtain ⟨F, W, v, xs, ws, k, μ, n, rfl, FW, hF, hW, R, ic, gk, hn, hl, hl2, q⟩ := h
    cases R with
    | con h => exact ic.elim
    | cod ca ta hm =>
    rename_i c m vs p ks B
    unfold gV at gk
    obtain ⟨dx, fs, f1, f2, f3, f4, f5, f6, f7, f8, f9, f10, f11, f12, f13, f14, f15, f16, f17, f18, f19, f20, f21, f22, f23, f24, ⟨md, f25⟩, f26⟩ := id ca
    have cl := I.cI.cl
    have cF : c ≠ F := fun z => by rw [z, hF] at f1; cases f1
    have cW : c ≠ W := fun z => by rw [z, hW] at f1; cases f1
    show tSeq (t_pc1 K) (tSeq (t_pc2 K) (t_pc3 K A)) _ [some (.ref F), some (.ref c), some (.ref W), none] H
    rw [r_seq]
    unfold t_pc1
    simp only [r_seq, r_next, r_brk, r_cont, r_asg, r_name, r_ret, r_retN, r_drop, r_ifs, r_never, r_var, r_c, r_op, r_un, r_if, r_tst, r_b, r_not, r_and, r_or, r_andV, r_orV, r_notV, r_nil, r_cons, r_tup, r_lst, r_cb, r_call, r_bm, r_bm0, r_sl, r_nopart, r_part, r_rev, r_gnil, r_gcons, r_gsub, r_par, r_aug, r_chain, r_I0, r_I, r_U, r_ixd, r_lend, r_tupd, r_listd, r_sld, r_app, r_ext, r_reverse, r_setl, r_cat, r_int1, r_eqS, r_neS, scal_ii, scal_bb, scal_ss, at0, at1, at2, sq_lst, sq_tup, isLst_lst, List.getElem?_cons_zero, List.getElem?_cons_succ, List.set_cons_zero, List.set_cons_succ, V.int.injEq, V.bl.injEq, V.ref.injEq, V.str.injEq, HO.lst.injEq, HO.tup.injEq, Option.some.injEq, exists_eq_left', exists_eq_left, List.cons.injEq, and_true, true_and, decide_eq_true_eq, reduceCtorEq, false_and, exists_false, or_false, false_or, exists_const, and_assoc, exists_and_left, List.append_nil, ix0, ix1, ix2, cm_mod, cdw1009, cdw2003, cdw7, cdw64, cdw2, cm104729, cm2, cm3, upd_same, List.length_cons, List.length_nil, Int.reduceLT, Int.reduceLE, Nat.reduceAdd, Nat.reduceLeDiff, Nat.reduceLT, Int.reduceToNat, r_for1, r_forL, r_forT, r_lcL, r_lc1, r_yes, r_gtupD, wipe_0, wipe_1, List.cons_append, List.nil_append, r_forS, r_ipI, ite_false, ite_true, Bool.not_true, Bool.not_false, decide_true, decide_false, r_isd, r_islt, cD_ty, cD_ref, tD_non, tD_bl, tD_int, tD_str, tD_ref, tH_lst, tH_tup, tH_dK, tH_ins, ki_self, ki_int_bool, ki_non_int, ki_str_int, ki_lt_lst, ki_lt_tup, r_fld, r_sfld, HO.ins.injEq, cx_K]
    refine ⟨tyl hF, xs, hF, Nat.lt_of_le_of_lt hl (by decide), ?_⟩
    have m1 := Mo.upd (ys := xs ++ [.int 99]) hF
    have hF1 : L2.upd H F (.lst (xs ++ [.int 99])) F = some (.lst (xs ++ [.int 99])) := upd_same
    have hW1 : L2.upd H F (.lst (xs ++ [.int 99])) W = some (.lst ws) := by rw [upd_ne FW.symm]; exact hW
    have k0 : Keep F H (L2.upd H F (.lst (xs ++ [.int 99]))) := Keep.upd (Keep.refl F H)
    generalize L2.upd H F (.lst (xs ++ [.int 99])) = G1 at *
    show tSeq _ _ _ _ _
    rw [r_seq]
    refine pc2_run I (ca.mo m1) hF1 (by simp; omega) fun s3 H2 k2 hF2 => ?_
    have m2 : Mo G1 H2 := ⟨fun b o e u n' => k2 b o (fun z => by rw [z, hF1] at e; exact n' _ (Option.some.inj e).symm) e, fun b ys e => by
      by_cases z : b = F
      · subst z
        exact ⟨_, hF2⟩
      · exact ⟨ys, k2 b _ z e⟩⟩
    have hW2 := k2 _ _ FW.symm hW1
    have c2 := (ca.mo m1).mo m2
    show t_pc3 K A _ _ _
    unfold t_pc3
    simp only [r_seq, r_next, r_brk, r_cont, r_asg, r_name, r_ret, r_retN, r_drop, r_ifs, r_never, r_var, r_c, r_op, r_un, r_if, r_tst, r_b, r_not, r_and, r_or, r_andV, r_orV, r_notV, r_nil, r_cons, r_tup, r_lst, r_cb, r_call, r_bm, r_bm0, r_sl, r_nopart, r_part, r_rev, r_gnil, r_gcons, r_gsub, r_par, r_aug, r_chain, r_I0, r_I, r_U, r_ixd, r_lend, r_tupd, r_listd, r_sld, r_app, r_ext, r_reverse, r_setl, r_cat, r_int1, r_eqS, r_neS, scal_ii, scal_bb, scal_ss, at0, at1, at2, sq_lst, sq_tup, isLst_lst, List.getElem?_cons_zero, List.getElem?_cons_succ, List.set_cons_zero, List.set_cons_succ, V.int.injEq, V.bl.injEq, V.ref.injEq, V.str.injEq, HO.lst.injEq, HO.tup.injEq, Option.some.injEq, exists_eq_left', exists_eq_left, List.cons.injEq, and_true, true_and, decide_eq_true_eq, reduceCtorEq, false_and, exists_false, or_false, false_or, exists_const, and_assoc, exists_and_left, List.append_nil, ix0, ix1, ix2, cm_mod, cdw1009, cdw2003, cdw7, cdw64, cdw2, cm104729, cm2, cm3, upd_same, List.length_cons, List.length_nil, Int.reduceLT, Int.reduceLE, Nat.reduceAdd, Nat.reduceLeDiff, Nat.reduceLT, Int.reduceToNat, r_for1, r_forL, r_forT, r_lcL, r_lc1, r_yes, r_gtupD, wipe_0, wipe_1, List.cons_append, List.nil_append, r_forS, r_ipI, ite_false, ite_true, Bool.not_true, Bool.not_false, decide_true, decide_false, r_isd, r_islt, cD_ty, cD_ref, tD_non, tD_bl, tD_int, tD_str, tD_ref, tH_lst, tH_tup, tH_dK, tH_ins, ki_self, ki_int_bool, ki_non_int, ki_str_int, ki_lt_lst, ki_lt_tup, r_fld, r_sfld, HO.ins.injEq, cx_K, r_ext]
    refine ⟨tyl hW2, eleven_run I c2 _ _ (Same.refl H2) fun rs H3 s3' pr => ?_⟩
    have lr := paired_len pr
    have l11 : rs.length = 11 := lr
    refine ⟨by rw [List.length_map, l11]; exact szl (by decide), fun l hl3 => ⟨ws, ?_, ?_, ?_⟩⟩
    · have e := s3' _ _ hW2
      rw [upd_ne (ne_new e hl3)]
      exact e
    · rw [List.length_map, l11]
      exact Nat.le_trans (by omega : _ ≤ 5000011) (by decide)
    · have fresh : ∀ r ∈ rs, H2 r = none := fun r hr' => by
        obtain ⟨i, hi, e⟩ := List.mem_iff_getElem.mp hr'
        obtain ⟨y, _, h⟩ := paired_at pr (List.getElem?_eq_getElem hi)
        rw [e] at h
        exact h.1
      have s4 := Same.new' (o := .lst (rs.map V.ref)) s3' hl3
      refine q (99 :: (four p.i0 ++ four 0 ++ four p.i1 ++ four p.i2 ++ four p.i3)) rs (codeTasks p ks) _ (fun b o bF bW e => ?_) ?_ upd_same (fun r hr' => ⟨fun z => ?_, fun z => ?_⟩) ?_ (enc_code p ks) (by simp)
      · rw [upd_ne bW]
        exact s4 _ _ (k2 _ _ bF (k0 _ _ bF e))
      · rw [upd_ne FW]
        rw [s4 _ _ hF2]
        simp [vn]
      · have := fresh r hr'
        rw [z, hF2] at this
        cases this
      · have := fresh r hr'
        rw [z, hW2] at this
        cases this
      · have hW4 := s4 _ _ hW2
        have mf := ((m1.trans m2).trans (Mo.same s4)).trans (Mo.upd (ys := ws ++ rs.map V.ref) hW4)
        have hz : ∀ {zs : List Str}, ((∀ z ∈ zs, TxtN n z) ∧ zs.length ≤ n) → ∀ z ∈ zs, OkS z ∧ z.length ≤ 4000 := fun h z hz => ⟨(h.1 z hz).2.1, Nat.le_trans (h.1 z hz).1 hn⟩
        refine paired_zip (R := fun (fv : Addr × V) t => fv.1 = A.of t ∧ TV CC MM μ (L2.upd (L2.upd H3 l (.lst (rs.map V.ref))) W (.lst (ws ++ rs.map V.ref))) fv.2 t ∧ gT n t) pr ?_ fun r fv t h1 h2 => ⟨fv.2, ?_, h2.2⟩
        · unfold elevenV codeTasks
          exact .cons ⟨rfl, ⟨_, rfl, mf.tup f24⟩, trivial⟩ (.cons ⟨rfl, ⟨_, rfl, mf.tup f23⟩, trivial⟩ (.cons ⟨rfl, rfl, trivial⟩ (.cons ⟨rfl, rfl, trivial⟩ (.cons ⟨rfl, rfl, trivial⟩ (.cons ⟨rfl, rfl, trivial⟩ (.cons ⟨rfl, ⟨_, rfl, mf.tup f22⟩, trivial⟩
            (.cons ⟨rfl, ⟨_, _, rfl, mf.tup f21, rps_strs _⟩, ⟨gVs_strs (hz gk.1.ss), by rw [List.length_map]; exact Nat.le_trans gk.1.ss.2 hn⟩⟩ (.cons ⟨rfl, ⟨_, _, rfl, mf.tup f20, rps_strs _⟩, ⟨gVs_strs (hz gk.1.zs), by rw [List.length_map]; exact Nat.le_trans gk.1.zs.2 hn⟩⟩ (.cons ⟨rfl, ⟨_, _, rfl, mf.tup f19, ta.mo mf (Mks.le_refl μ)⟩, ⟨gk.2.2.2, Nat.le_trans gk.2.1 hn⟩⟩ (.cons ⟨rfl, ⟨_, rfl, mf.tup f18⟩, trivial⟩ .nil))))))))))
        · rw [← h2.1, upd_ne (fun z => by rw [z, hW2] at h1; cases h1.1)]
          exact Same.new' (Same.refl H3) hl3 _ _ h1.2
end
end C51

set_option maxHeartbeats 2000000
namespace C51
open PySem PySem.Spec PyProof.Rows L2
def isCon : Tk → Prop
  | .con _ => True
  | .row _ => True
  | _ => False
def spPCon (CC MM : Addr) (A : PA) : Sp := fun vs H Q _ => ∃ (F W : Addr) (v : V) (xs ws : List V) (t : Tk) (μ : Mks) (n : Nat), vs = [.ref F, v, .ref W] ∧ F ≠ W ∧ H F = some (.lst xs) ∧ H W = some (.lst ws) ∧ TV CC MM μ H v t ∧ isCon t ∧ gT n t ∧ n ≤ 4000 ∧ xs.length ≤ 4000000 ∧ ws.length ≤ 4000000 ∧ Put CC MM μ A n F W H xs ws t Q
theorem rps_con {CC MM : Addr} {μ : Mks} {H : Hp} : ∀ {vs : List V} {xs : List CV}, Rcs H vs xs → Rps CC MM μ H vs (xs.map PV.con)
  | _, _, .nil => .nil
  | _, _, .cons h t => .cons (.con h) (rps_con t)
theorem enc_con : ∀ (xs : List CV), encPs (xs.map PV.con) = encCs xs
  | [] => by rw [List.map_nil, encPs, encCs]
  | x :: xs => by rw [List.map_cons, encPs, encCs, encP, enc_con xs]
theorem szC_mem {x : CV} : ∀ {xs : List CV}, x ∈ xs → szC x ≤ szCs xs
  | y :: ys, h => by
    unfold szCs
    rcases List.mem_cons.mp h with rfl | h
    · omega
    · have := szC_mem h
      omega
theorem gVs_con {n : Nat} {xs : List CV} (h : gV 100 4000 n (.con (.tup xs))) : gVs 100 4000 n (xs.map PV.con) ∧ xs.length ≤ 4000 := by
  unfold gV at h
  obtain ⟨h1, h2, h3⟩ := h
  unfold kOk at h1
  unfold bOk at h3
  unfold szC at h2
  obtain ⟨j, e, h1⟩ := h1
  refine ⟨gVs_iff.mpr fun k hk => ?_, h3.1⟩
  obtain ⟨x, hx, rfl⟩ := List.mem_map.mp hk
  unfold gV
  have := szC_mem hx
  exact ⟨(kOks_iff.mp h1 x hx).mono (by omega), by omega, bOks_iff.mp h3.2 x hx⟩
theorem encKs_con : ∀ ks : List PV, encKs (ks.map Tk.con) = encPs ks
  | [] => by rw [List.map_nil, encKs, encPs]
  | k :: ks => by rw [List.map_cons, encKs, encPs, encK, encKs_con ks]
theorem dig_bOk {i : Int} (h : bOk 4000 (.int i)) : (dg15 i.natAbs).length ≤ 100000 := by
  unfold bOk at h
  refine Nat.le_trans (dg15_len 267 _ ?_) (by decide)
  have e : (2 : Int) ^ 4000 = ((2 ^ 4000 : Nat) : Int) := by simp
  rw [e] at h
  have h2 : i.natAbs ≤ 2 ^ 4000 := by omega
  refine Nat.lt_of_le_of_lt h2 ?_
  rw [show (32768 : Nat) = 2 ^ 15 from rfl, ← Nat.pow_mul]
  exact Nat.pow_lt_pow_right (by decide) (by decide)
theorem paired_map {α β γ : Type} {F : α → γ → Prop} {g : β → γ} : ∀ {l1 : List α} {l2 : List β}, Paired (fun a b => F a (g b)) l1 l2 → Paired F l1 (l2.map g)
  | _, _, .nil => .nil
  | _, _, .cons h t => .cons h (paired_map t)
theorem paired_rev {α β : Type} {F : α → β → Prop} : ∀ {l1 : List α} {l2 : List β}, Paired F l1 l2 → Paired F l1.reverse l2.reverse
  | _, _, .nil => .nil
  | _, _, .cons h t => by
    rw [List.reverse_cons, List.reverse_cons]
    exact paired_snoc (paired_rev t) h
theorem rps_paired {CC MM : Addr} {μ : Mks} {H : Hp} {b n : Nat} : ∀ {vs : List V} {ks : List PV}, Rps CC MM μ H vs ks → gVs 100 b n ks → Paired (fun v k => Rp CC MM μ H v k ∧ gV 100 b n k) vs ks
  | _, _, .nil, _ => .nil
  | _, _, .cons h t, g => by
    unfold gVs at g
    exact .cons ⟨h, g.1⟩ (rps_paired t g.2)
section
variable {CC MM F W : Addr} {μ : Mks} {A : PA} {n : Nat} {H : Hp} {xs ws : List V} {t : Tk} {Q : VK}
theorem Put.leaf (q : Put CC MM μ A n F W H xs ws t Q) (FW : F ≠ W) (hW : H W = some (.lst ws)) {d : List Nat} (e : encK t = d) (hd : d ≠ []) : ∀ H', Keep F H H' → H' F = some (.lst (xs ++ vn d)) → Q .non H' := fun H' k h =>
  q d [] [] H' (fun b o bF _ e => k b o bF e) h (by rw [List.map_nil, List.append_nil]; exact k _ _ FW.symm hW) (fun r hr => nomatch hr) .nil (by rw [e, List.reverse_nil, encKs, List.append_nil]) hd
end
section
variable {P : Program} {w : World} {K : PySem.W.Frag} {mg : Str → Option Value} {base : Heap} {f : Addr} {fd : FuncData}
abbrev spcon : Stmt := top 36
theorem scpcon : FnScope ["found", "value", "waiting", "inner"] ["found", "value", "waiting"] (defScope spcon) := ⟨rfl, rfl, rfl, by decide +kernel, rfl, by decide +kernel, by decide +kernel⟩

theorem ok_pcon {CC MM : Addr} {A : PA} (T : TxtW mg) (I : CodeT K mg CC) (yes : PySem.W.kitOne K (.ref CC) (.ref CC) = some true) (nt : PySem.W.kitOne K (.ref CC) (.type "tuple") = some false) (G : PG mg A) (F : FnP K "put_constant" "put_constant" spcon f fd) (C_put_four : Cal P w K mg base 1 "put_four" ["found", "number"] spFour)
    (C_put_code : Cal P w K mg base 2 "put_code" ["found", "code", "waiting"] (spPCod CC MM A)) (C_put_text : Cal P w K mg base 2 "put_text" ["found", "text", "_"] spPText) (C_put_integer : Cal P w K mg base 2 "put_integer" ["found", "value"] spPInt) : FnOk P w K mg base CX0 3 f fd ["found", "value", "waiting"] (spPCon CC MM A) := by
  refine F.ok scpcon (fun vs H Q E h => ?_) (fun cdv A' outer s H vs Q E hr h => ?_)
  · obtain ⟨F, W, v, xs, ws, t, μ, n, rfl, _⟩ := h
    rfl
  · refine ⟨_, PSs.nox (pss_one (ps_if (pt_val (pe_callB (call_is_d I.cI) (by rfl) T.b_isinstance (by decide +kernel) (pa_cons (pv 1) (pa_cons (pe_bltn (v := .ty "tuple") (by rfl) T.b_tuple (by decide +kernel) rfl) pa_nil))))
    (pss_cons (ps_expr (pe_bm PySem.F.plainAttrs_list PySem.F.slot_list_append PySem.F.type_list_append mt_append (pv 0) (pa_cons (pe_gi T.g_ROW) pa_nil)))
  (pss_cons (ps_expr (pe_cal C_put_four (hr.mono (by decide)) rfl (pa_cons (pv 0) (pa_cons (pe_callB call_len_d (by rfl) T.b_len (by decide +kernel) (pa_cons (pv 1) pa_nil)) pa_nil))))
  (pss_one (ps_expr (pe_bm PySem.F.plainAttrs_list PySem.F.slot_list_extend PySem.F.type_list_extend mt_extend (pv 2) (pa_cons (pe_lc (own := [("inner", 3)]) (g := gName 3) (tt := tYes) rfl scpcon.nd (RT.pi_revA rfl T.b_reversed (pv 1)) (blkOk_by (own := [("inner", 3)]) (N := ["found", "value", "waiting", "inner"]) (sc := defScope spcon) (by decide +kernel)) (fun _ _ _ _ _ => (pg_name (i := 3) scpcon.nd rfl (Or.inl rfl))) (fun _ _ _ _ _ => pts_nil) (fun _ _ _ _ _ => (pe_tup (pa_cons (pe_glob (v := .ref _) rfl G.gC rfl) (pa_cons (pv 3) pa_nil))))) pa_nil))))))
    (pss_one (ps_if (pt_val (pe_callB (call_is_d I.cI) (by rfl) T.b_isinstance (by decide +kernel) (pa_cons (pv 1) (pa_cons (pe_glob (v := .ref _) rfl I.g_Code rfl) pa_nil))))
    (pss_one (ps_expr (pe_cal C_put_code (hr.mono (by decide)) rfl (pa_cons (pv 0) (pa_cons (pv 1) (pa_cons (pv 2) pa_nil))))))
    (pss_one (ps_if (pt_val (pe_callB (call_is_d I.cI) (by rfl) T.b_isinstance (by decide +kernel) (pa_cons (pv 1) (pa_cons (pe_bltn (v := .ty "str") (by rfl) T.b_str (by decide +kernel) rfl) pa_nil))))
    (pss_one (ps_expr (pe_cal C_put_text (hr.mono (by decide)) rfl (pa_cons (pv 0) (pa_cons (pv 1) (pa_cons (pv 2) pa_nil))))))
    (pss_one (ps_if (pt_cmpR op_isN (pv 1) pe_non (nomark _))
    (pss_one (ps_expr (pe_bm PySem.F.plainAttrs_list PySem.F.slot_list_append PySem.F.type_list_append mt_append (pv 0) (pa_cons (pe_gi T.g_NONE) pa_nil))))
    (pss_one (ps_if (pt_val (pe_callB (call_is_d I.cI) (by rfl) T.b_isinstance (by decide +kernel) (pa_cons (pv 1) (pa_cons (pe_bltn (v := .ty "bool") (by rfl) T.b_bool (by decide +kernel) rfl) pa_nil))))
    (pss_one (ps_expr (pe_bm PySem.F.plainAttrs_list PySem.F.slot_list_append PySem.F.type_list_append mt_append (pv 0) (pa_cons (pe_ifExp (pt_truth (pv 1) (by intro _; rfl)) (pe_gi T.g_TRUE) (pe_gi T.g_FALSE)) pa_nil))))
    (pss_one (ps_expr (pe_cal C_put_integer (hr.mono (by decide)) rfl (pa_cons (pv 0) (pa_cons (pv 1) pa_nil))))))))))))))), ?_⟩
    obtain ⟨F, W, v, xs, ws, t, μ, n, rfl, FW, hF, hW, tv, ic, gt, hn, hl, hl2, q⟩ := h
    show (_ : TS) _ [some (.ref F), some v, some (.ref W), none] H
    simp only [r_seq, r_next, r_brk, r_cont, r_asg, r_name, r_ret, r_retN, r_drop, r_ifs, r_never, r_var, r_c, r_op, r_un, r_if, r_tst, r_b, r_not, r_and, r_or, r_andV, r_orV, r_notV, r_nil, r_cons, r_tup, r_lst, r_cb, r_call, r_bm, r_bm0, r_sl, r_nopart, r_part, r_rev, r_gnil, r_gcons, r_gsub, r_par, r_aug, r_chain, r_I0, r_I, r_U, r_ixd, r_lend, r_tupd, r_listd, r_sld, r_app, r_ext, r_reverse, r_setl, r_cat, r_int1, r_eqS, r_neS, scal_ii, scal_bb, scal_ss, at0, at1, at2, sq_lst, sq_tup, isLst_lst, List.getElem?_cons_zero, List.getElem?_cons_succ, List.set_cons_zero, List.set_cons_succ, V.int.injEq, V.bl.injEq, V.ref.injEq, V.str.injEq, HO.lst.injEq, HO.tup.injEq, Option.some.injEq, exists_eq_left', exists_eq_left, List.cons.injEq, and_true, true_and, decide_eq_true_eq, reduceCtorEq, false_and, exists_false, or_false, false_or, exists_const, and_assoc, exists_and_left, List.append_nil, ix0, ix1, ix2, cm_mod, cdw1009, cdw2003, cdw7, cdw64, cdw2, cm104729, cm2, cm3, upd_same, List.length_cons, List.length_nil, Int.reduceLT, Int.reduceLE, Nat.reduceAdd, Nat.reduceLeDiff, Nat.reduceLT, Int.reduceToNat, r_for1, r_forL, r_forT, r_lcL, r_lc1, r_yes, r_gtupD, wipe_0, wipe_1, List.cons_append, List.nil_append, r_forS, r_ipI, ite_false, ite_true, Bool.not_true, Bool.not_false, decide_true, decide_false, r_isd, r_islt, cD_ty, cD_ref, tD_non, tD_bl, tD_int, tD_str, tD_ref, tH_lst, tH_tup, tH_dK, tH_ins, ki_self, ki_int_bool, ki_non_int, ki_str_int, ki_lt_lst, ki_lt_tup, r_fld, r_sfld, HO.ins.injEq, cx_K, r_ext, r_lcRT]
    have tup : ∀ (a : Addr) (us : List V) (ks : List PV), v = .ref a → H a = some (.tup us) → Rps CC MM μ H us ks → gVs 100 4000 n ks → ks.length ≤ 4000 → encK t = 40 :: (four (ks.length : Int) ++ encPs ks) → ∃ x, H F = some (.lst x) ∧ x.length < sizeLine ∧ ∃ p, v = .ref p ∧ ∃ x_2, sq (L2.upd H F (.lst (x ++ [.int 40])) p) = some x_2 ∧ spFour [.ref F, .int x_2.length] (L2.upd H F (.lst (x ++ [.int 40]))) (fun x H1 => tyV K "list" (.ref W) H1 ∧ ∃ a, v = .ref a ∧ ∃ x, (SqL K H1 a x ∧ ∀ D, H1 D = none → CompR (Itv K a x.length) (gName 3) tYes (tTup (tCons (tC (.ref A.fC)) (tCons (tVar 3) tNil))) (List.map (fun x => x.snd) [((Str.ofString "inner", 3) : Str × Nat)]) [some (.ref F), some v, some (.ref W), none]
        (fun x H1 => ∃ x_3, x = .ref x_3 ∧ ∃ x, H1 W = some (.lst x) ∧ ∃ x_4, H1 x_3 = some (.lst x_4) ∧ x.length + x_4.length ≤ sizeLine ∧ Q .non (L2.upd H1 W (.lst (x ++ x_4)))) D (L2.upd H1 D (.lst []))) ∨ SqT K H1 a x ∧ ∀ D, H1 D = none → CompR (RT.ItvT K a x.length) (gName 3) tYes (tTup (tCons (tC (.ref A.fC)) (tCons (tVar 3) tNil))) (List.map (fun x => x.snd) [((Str.ofString "inner", 3) : Str × Nat)]) [some (.ref F), some v, some (.ref W), none]
        (fun x H1 => ∃ x_3, x = .ref x_3 ∧ ∃ x, H1 W = some (.lst x) ∧ ∃ x_4, H1 x_3 = some (.lst x_4) ∧ x.length + x_4.length ≤ sizeLine ∧ Q .non (L2.upd H1 W (.lst (x ++ x_4)))) D (L2.upd H1 D (.lst []))) E0 := by
      intro a us ks ev ha R g kl enc
      subst ev
      have aF : a ≠ F := fun z => by rw [z, hF] at ha; cases ha
      have lu := R.length
      have m1 := Mo.upd (ys := xs ++ [.int 40]) hF
      have ha1 := m1.tup ha
      refine ⟨xs, hF, Nat.lt_of_le_of_lt hl (by decide), a, rfl, us, by rw [ha1]; rfl, F, _, _, rfl, upd_same, by simp; omega, fun H1 k1 h1 => ?_⟩
      have hW1 : H1 W = some (.lst ws) := k1 _ _ FW.symm (by rw [upd_ne FW.symm]; exact hW)
      have ha2 := k1 _ _ aF ha1
      refine ⟨tyl hW1, a, rfl, us, .inr ⟨SqT.of ha2, fun D hD => ?_⟩⟩
      have aD : a ≠ D := ne_new ha2 hD
      refine cp_revT (K := K) (a := a) (xs := us) (fun i H' => (∀ b o, H1 b = some o → H' b = some o) ∧ ∃ rs : List Addr, H' D = some (.lst (rs.map V.ref)) ∧ Paired (fun r v => H1 r = none ∧ r ≠ D ∧ H' r = some (.tup [.ref A.fC, v])) rs (us.reverse.take i)) ⟨fun b o e => by rw [upd_ne (ne_new e hD)]; exact e, [], upd_same, .nil⟩ (fun i H' p => SqT.of (p.1 _ _ ha2)) ?_ ?_
      · rintro i x H2 hx ⟨s2, rs, h2, pr⟩
        refine ⟨rfl, ?_⟩
        simp only [r_seq, r_next, r_brk, r_cont, r_asg, r_name, r_ret, r_retN, r_drop, r_ifs, r_never, r_var, r_c, r_op, r_un, r_if, r_tst, r_b, r_not, r_and, r_or, r_andV, r_orV, r_notV, r_nil, r_cons, r_tup, r_lst, r_cb, r_call, r_bm, r_bm0, r_sl, r_nopart, r_part, r_rev, r_gnil, r_gcons, r_gsub, r_par, r_aug, r_chain, r_I0, r_I, r_U, r_ixd, r_lend, r_tupd, r_listd, r_sld, r_app, r_ext, r_reverse, r_setl, r_cat, r_int1, r_eqS, r_neS, scal_ii, scal_bb, scal_ss, at0, at1, at2, sq_lst, sq_tup, isLst_lst, List.getElem?_cons_zero, List.getElem?_cons_succ, List.set_cons_zero, List.set_cons_succ, V.int.injEq, V.bl.injEq, V.ref.injEq, V.str.injEq, HO.lst.injEq, HO.tup.injEq, Option.some.injEq, exists_eq_left', exists_eq_left, List.cons.injEq, and_true, true_and, decide_eq_true_eq, reduceCtorEq, false_and, exists_false, or_false, false_or, exists_const, and_assoc, exists_and_left, List.append_nil, ix0, ix1, ix2, cm_mod, cdw1009, cdw2003, cdw7, cdw64, cdw2, cm104729, cm2, cm3, upd_same, List.length_cons, List.length_nil, Int.reduceLT, Int.reduceLE, Nat.reduceAdd, Nat.reduceLeDiff, Nat.reduceLT, Int.reduceToNat, r_for1, r_forL, r_forT, r_lcL, r_lc1, r_yes, r_gtupD, wipe_0, wipe_1, List.cons_append, List.nil_append, r_forS, r_ipI, ite_false, ite_true, Bool.not_true, Bool.not_false, decide_true, decide_false, r_isd, r_islt, cD_ty, cD_ref, tD_non, tD_bl, tD_int, tD_str, tD_ref, tH_lst, tH_tup, tH_dK, tH_ins, ki_self, ki_int_bool, ki_non_int, ki_str_int, ki_lt_lst, ki_lt_tup, r_fld, r_sfld, HO.ins.injEq, cx_K]
        have lr := paired_len pr
        rw [List.length_take, List.length_reverse] at lr
        have pF0 : ∀ p, H2 p = none → H1 p = none := fun p hp => by
          cases e : H1 p with
          | none => rfl
          | some o => rw [s2 _ _ e] at hp; cases hp
        refine ⟨x, rfl, szl (by decide : 2 ≤ 1000), fun p hp => ⟨rs.map V.ref, by rw [upd_ne (ne_new h2 hp)]; exact h2, Nat.lt_of_le_of_lt (by rw [List.length_map]; omega : _ ≤ 4000) (by decide), fun b o e => ?_, rs ++ [p], by rw [List.map_append]; rfl, ?_⟩⟩
        · rw [upd_ne (ne_new e hD), upd_ne (ne_new (s2 _ _ e) hp)]
          exact s2 _ _ e
        · have pD : p ≠ D := new_ne h2 hp
          rw [take_one hx]
          refine paired_snoc (Paired.map' pr fun r v' h => ⟨h.1, h.2.1, ?_⟩) ⟨pF0 p hp, pD, ?_⟩
          · rw [upd_ne h.2.1, upd_ne (ne_new h.2.2 hp)]
            exact h.2.2
          · rw [upd_ne pD, upd_same]
      · rintro H2 ⟨s2, rs, h2, pr⟩
        rw [show us.reverse.take us.length = us.reverse from List.take_of_length_le (by rw [List.length_reverse]; exact Nat.le_refl _)] at pr
        have lr := paired_len pr
        rw [List.length_reverse] at lr
        have hW2 := s2 _ _ hW1
        refine ⟨D, rfl, ws, hW2, _, h2, ?_, ?_⟩
        · rw [List.length_map]
          exact Nat.le_trans (by omega : _ ≤ 4004000) (by decide)
        · have m2 : Mo (L2.upd H F (.lst (xs ++ [.int 40]))) H1 := ⟨fun b o e u n' => k1 b o (fun z => by rw [z, upd_same] at e; exact n' _ (Option.some.inj e).symm) e, fun b ys e => by
            by_cases z : b = F
            · subst z
              exact ⟨_, h1⟩
            · exact ⟨ys, k1 b _ z e⟩⟩
          have mf : Mo H (L2.upd H2 W (.lst (ws ++ rs.map V.ref))) := ((m1.trans m2).trans (Mo.same s2)).trans (Mo.upd hW2)
          have R2 := R.mo mf (Mks.le_refl μ)
          have prr : Paired (fun v k => Rp CC MM μ (L2.upd H2 W (.lst (ws ++ rs.map V.ref))) v k ∧ gV 100 4000 n k) us.reverse ks.reverse := paired_rev (rps_paired R2 g)
          refine q (40 :: four (ks.length : Int)) rs (ks.map Tk.con).reverse _ (fun b o bF bW e => ?_) ?_ upd_same (fun r hr' => ⟨fun z => ?_, fun z => ?_⟩) ?_ ?_ (by simp)
          · rw [upd_ne bW]
            exact s2 _ _ (k1 _ _ bF (by rw [upd_ne bF]; exact e))
          · rw [upd_ne FW, s2 _ _ h1, lu]
            simp [vn]
          · obtain ⟨i, hi, e⟩ := List.mem_iff_getElem.mp hr'
            obtain ⟨y, _, h⟩ := paired_at pr (List.getElem?_eq_getElem hi)
            rw [e, z, h1] at h
            cases h.1
          · obtain ⟨i, hi, e⟩ := List.mem_iff_getElem.mp hr'
            obtain ⟨y, _, h⟩ := paired_at pr (List.getElem?_eq_getElem hi)
            rw [e, z, hW1] at h
            cases h.1
          · rw [← List.map_reverse]
            refine paired_map (paired_zip (G := fun r k => TaskAt CC MM μ A n (L2.upd H2 W (.lst (ws ++ rs.map V.ref))) r (.con k)) pr prr fun r v' k h1' h2' => ⟨v', ?_, h2'.1, h2'.2⟩)
            rw [upd_ne (fun z => by rw [z, hW1] at h1'; cases h1'.1)]
            exact h1'.2.2
          · rw [List.reverse_reverse, encKs_con, enc]
            rfl
    have codF : PySem.W.kitOne K (.ref CC) (.type "tuple") = some false := nt
    have fin : ∀ (d : List Nat) (H' : Hp), encK t = d → d ≠ [] → Keep F H H' → H' F = some (.lst (xs ++ vn d)) → Q .non H' := fun d H' e hd k h => q.leaf FW hW e hd H' k h
    have app : ∀ (b : Nat), encK t = [b] → ∃ x, H F = some (.lst x) ∧ x.length < sizeLine ∧ Q .non (L2.upd H F (.lst (x ++ [.int (b : Int)]))) := fun b e => ⟨xs, hF, Nat.lt_of_le_of_lt hl (by decide), fin [b] _ e (by simp) (Keep.upd (Keep.refl F H)) upd_same⟩
    cases t with
    | bytes _ => exact ic.elim
    | num _ => exact ic.elim
    | text _ => exact ic.elim
    | cod _ => exact ic.elim
    | row ks =>
      obtain ⟨a, us, rfl, ha, R⟩ := id tv
      refine ⟨.type "tuple", by simp [tyD, tyH, ha], true, ki_self, ?_⟩
      rw [if_pos rfl]
      exact ⟨tyl hF, tup a us ks rfl ha R gt.1 gt.2 rfl⟩
    | con k =>
      cases id (show Rp CC MM μ H v k from tv) with
      | cod ca ta hm =>
        obtain ⟨dx, fs, f1, _⟩ := id ca
        refine ⟨.ref CC, by simp [tyD, tyH, f1], false, codF, ?_⟩
        rw [if_neg (by decide)]
        refine ⟨.ref CC, by simp [tyD, tyH, f1], true, yes, ?_⟩
        rw [if_pos rfl]
        exact ⟨F, W, _, xs, ws, _, μ, n, rfl, FW, hF, hW, tv, trivial, gt, hn, by omega, by omega, q⟩
      | con hx =>
        rename_i x
        obtain ⟨e1, m1⟩ := hx.kd.ty (CC := CC)
        refine ⟨_, e1, _, kit_T x, ?_⟩
        by_cases ct : isT x = true
        · rw [if_pos ct]
          cases x with
          | non => cases ct
          | bl b => cases ct
          | int i => cases ct
          | str z => cases ct
          | tup ys =>
            cases hx with
            | tup ha tr =>
              obtain ⟨g1, g2⟩ := gVs_con gt
              exact ⟨tyl hF, tup _ _ _ rfl ha (rps_con tr) g1 (by rw [List.length_map]; exact g2) (by rw [encK, encP, encC, enc_con, List.length_map])⟩
        · rw [if_neg ct]
          refine ⟨_, e1, false, I.no _ m1, ?_⟩
          rw [if_neg (by decide)]
          have gt' : kOk x 100 ∧ szC x ≤ 100000 ∧ bOk 4000 x := by
            have := gt
            unfold gT gV at this
            exact this
          cases x with
          | tup ys => exact absurd rfl ct
          | str z =>
            cases hx
            refine ⟨_, e1, true, ki_self, ?_⟩
            rw [if_pos rfl]
            have lz : z.length ≤ 4000 := by
              have := gt'.2.2
              unfold bOk at this
              exact this
            exact ⟨F, z, xs, _, rfl, hF, by omega, fun H' k h => fin _ H' (by rw [encK, encP, encC]) (by simp [encT]) k h⟩
          | non =>
            cases hx
            refine ⟨_, e1, false, kit_all (t := "NoneType") (by decide) (by decide), ?_⟩
            rw [if_neg (by decide), if_pos rfl]
            exact ⟨tyl hF, app 78 (by rw [encK, encP, encC])⟩
          | bl b =>
            cases hx
            refine ⟨_, e1, false, kit_all (t := "bool") (by decide) (by decide), ?_⟩
            rw [if_neg (by decide), if_neg (by simp)]
            refine ⟨_, e1, true, ki_self, ?_⟩
            rw [if_pos rfl]
            refine ⟨tyl hF, b, rfl, ?_⟩
            cases b with
            | true =>
              rw [if_pos rfl]
              exact app 84 (by rw [encK, encP, encC]; rfl)
            | false =>
              rw [if_neg (by decide)]
              exact app 70 (by rw [encK, encP, encC]; rfl)
          | int i =>
            cases hx
            refine ⟨_, e1, false, kit_all (t := "int") (by decide) (by decide), ?_⟩
            rw [if_neg (by decide), if_neg (by simp)]
            refine ⟨_, e1, false, kit_all (t := "int") (by decide) (by decide), ?_⟩
            rw [if_neg (by decide)]
            exact ⟨F, i, xs, rfl, hF, by omega, dig_bOk gt'.2.2, fun H' k h => fin _ H' (by rw [encK, encP, encC]) (by unfold encI; split <;> simp) k h⟩
end
end C51

set_option maxHeartbeats 2000000
namespace C51
open PySem PySem.Spec PyProof.Rows L2
/-! ### whatever is put, by its function -/
def kindT : Tk → Nat
  | .bytes _ => 0
  | .num _ => 1
  | .text _ => 2
  | .con _ => 3
  | .row _ => 3
  | .cod _ => 4
def spTask (CC MM : Addr) (A : PA) (j : Nat) : Sp := fun vs H Q _ => ∃ (F W : Addr) (v : V) (xs ws : List V) (t : Tk) (μ : Mks) (n : Nat), vs = [.ref F, v, .ref W] ∧ kindT t = j ∧ F ≠ W ∧ H F = some (.lst xs) ∧ H W = some (.lst ws) ∧ TV CC MM μ H v t ∧ gT n t ∧ n ≤ 4000 ∧ xs.length + (encK t).length ≤ 4000000 ∧ ws.length ≤ 4000000 ∧ Put CC MM μ A n F W H xs ws t Q
theorem encB_len (ns : List Nat) : (encB ns).length = ns.length + 5 := by
  unfold encB
  simp [four]
theorem encT_len (z : Str) : (encT z).length = z.length + 5 := by
  unfold encT
  simp only [List.length_cons, List.length_append, four_len, Array.length_toList]
  show 4 + z.cps.size + 1 = z.cps.size + 5
  omega
theorem encI_pos (i : Int) : encI i ≠ [] := by
  unfold encI
  split <;> simp
theorem encC_pos : ∀ x : CV, encC x ≠ []
  | .non => by rw [encC]; simp
  | .bl b => by rw [encC]; simp
  | .int i => by rw [encC]; exact encI_pos i
  | .str z => by rw [encC]; simp [encT]
  | .tup xs => by rw [encC]; simp
theorem encP_pos : ∀ k : PV, encP k ≠ []
  | .con x => by rw [encP]; exact encC_pos x
  | .cod p ks => by rw [encP]; simp
theorem encK_pos : ∀ t : Tk, encK t ≠ []
  | .bytes ns => by simp [encK, encB]
  | .num i => by simp [encK, four]
  | .text z => by simp [encK, encT]
  | .con k => encP_pos k
  | .row ks => by simp [encK]
  | .cod k => encP_pos k
theorem len_encKs : ∀ ts : List Tk, ts.length ≤ (encKs ts).length
  | [] => Nat.le_refl 0
  | t :: ts => by
    have h1 := len_encKs ts
    have h2 : 1 ≤ (encK t).length := by
      cases e : encK t with
      | nil => exact absurd e (encK_pos t)
      | cons _ _ => simp
    rw [encKs, List.length_append, List.length_cons]
    omega
section
variable {P : Program} {w : World} {K : PySem.W.Frag} {mg : Str → Option Value} {base : Heap} {f : Addr} {fd : FuncData} {CC MM : Addr} {A : PA}
theorem task_bytes {ps : List Str} {k : Nat} (F : FnOk P w K mg base CX0 k f fd ps spPBytes) : FnOk P w K mg base CX0 k f fd ps (spTask CC MM A 0) := F.imp fun vs H Q E h => by
  obtain ⟨F, W, v, xs, ws, t, μ, n, rfl, kt, FW, hF, hW, tv, gt, hn, hl, hl2, q⟩ := h
  cases t with
  | bytes ns =>
    obtain ⟨a, rfl, ha⟩ := tv
    have e : (encK (.bytes ns)).length = ns.length + 5 := encB_len ns
    exact ⟨F, a, ns, xs, _, rfl, hF, ha, by omega, fun H' k h => q.leaf FW hW rfl (encK_pos (.bytes ns)) H' k h⟩
  | _ => cases kt
theorem task_num {ps : List Str} {k : Nat} (F : FnOk P w K mg base CX0 k f fd ps spNumber) : FnOk P w K mg base CX0 k f fd ps (spTask CC MM A 1) := F.imp fun vs H Q E h => by
  obtain ⟨F, W, v, xs, ws, t, μ, n, rfl, kt, FW, hF, hW, tv, gt, hn, hl, hl2, q⟩ := h
  cases t with
  | num i =>
    obtain rfl : v = .int i := tv
    exact ⟨F, i, xs, _, rfl, hF, by omega, fun H' k h => q.leaf FW hW rfl (encK_pos (.num i)) H' k h⟩
  | _ => cases kt
theorem task_text {ps : List Str} {k : Nat} (F : FnOk P w K mg base CX0 k f fd ps spPText) : FnOk P w K mg base CX0 k f fd ps (spTask CC MM A 2) := F.imp fun vs H Q E h => by
  obtain ⟨F, W, v, xs, ws, t, μ, n, rfl, kt, FW, hF, hW, tv, gt, hn, hl, hl2, q⟩ := h
  cases t with
  | text z =>
    obtain rfl : v = .str z := tv
    have e : (encK (.text z)).length = z.length + 5 := encT_len z
    exact ⟨F, z, xs, _, rfl, hF, by omega, fun H' k h => q.leaf FW hW rfl (encK_pos (.text z)) H' k h⟩
  | _ => cases kt
theorem task_con {ps : List Str} {k : Nat} (F : FnOk P w K mg base CX0 k f fd ps (spPCon CC MM A)) : FnOk P w K mg base CX0 k f fd ps (spTask CC MM A 3) := F.imp fun vs H Q E h => by
  obtain ⟨F, W, v, xs, ws, t, μ, n, rfl, kt, FW, hF, hW, tv, gt, hn, hl, hl2, q⟩ := h
  refine ⟨F, W, v, xs, ws, t, μ, n, rfl, FW, hF, hW, tv, ?_, gt, hn, by omega, by omega, q⟩
  cases t with
  | con _ => trivial
  | row _ => trivial
  | _ => cases kt
theorem task_cod {ps : List Str} {k : Nat} (F : FnOk P w K mg base CX0 k f fd ps (spPCod CC MM A)) : FnOk P w K mg base CX0 k f fd ps (spTask CC MM A 4) := F.imp fun vs H Q E h => by
  obtain ⟨F, W, v, xs, ws, t, μ, n, rfl, kt, FW, hF, hW, tv, gt, hn, hl, hl2, q⟩ := h
  cases t with
  | cod k => exact ⟨F, W, v, xs, ws, k, μ, n, rfl, FW, hF, hW, tv.1, tv.2, gt, hn, by omega, by omega, q⟩
  | _ => cases kt
end
structure Dst (A : PA) : Prop where
  NB : A.fN ≠ A.fB
  TB : A.fT ≠ A.fB
  TN : A.fT ≠ A.fN
  CB : A.fC ≠ A.fB
  CN : A.fC ≠ A.fN
  CT : A.fC ≠ A.fT
  KB : A.fK ≠ A.fB
  KN : A.fK ≠ A.fN
  KT : A.fK ≠ A.fT
  KC : A.fK ≠ A.fC
def SPut (CC MM : Addr) (A : PA) : Addr → Option Sp := fun f => if f = A.fB then some (spTask CC MM A 0) else if f = A.fN then some (spTask CC MM A 1) else if f = A.fT then some (spTask CC MM A 2) else if f = A.fC then some (spTask CC MM A 3) else if f = A.fK then some (spTask CC MM A 4) else none
theorem sput_at {CC MM : Addr} {A : PA} (d : Dst A) (t : Tk) : SPut CC MM A (A.of t) = some (spTask CC MM A (kindT t)) := by
  unfold SPut PA.of kindT
  cases t with
  | bytes ns => rw [if_pos rfl]
  | num i => rw [if_neg d.NB, if_pos rfl]
  | text z => rw [if_neg d.TB, if_neg d.TN, if_pos rfl]
  | con k => rw [if_neg d.CB, if_neg d.CN, if_neg d.CT, if_pos rfl]
  | row k => rw [if_neg d.CB, if_neg d.CN, if_neg d.CT, if_pos rfl]
  | cod k => rw [if_neg d.KB, if_neg d.KN, if_neg d.KT, if_neg d.KC, if_pos rfl]
theorem paired_and {α β : Type} {F : α → β → Prop} {P Q : α → Prop} : ∀ {l1 : List α} {l2 : List β}, Paired F l1 l2 → (∀ x ∈ l1, P x ∧ Q x) → Paired (fun a b => P a ∧ Q a ∧ F a b) l1 l2
  | _, _, .nil, _ => .nil
  | _, _, .cons h t, g => .cons ⟨(g _ List.mem_cons_self).1, (g _ List.mem_cons_self).2, h⟩ (paired_and t fun x hx => g x (List.mem_cons_of_mem _ hx))
/-- what waits to be written -/
def Wr (CC MM : Addr) (μ : Mks) (A : PA) (n : Nat) (H : Hp) (F W : Addr) (tot : List Nat) (m : Nat) (σ : L2.St) (H1 : Hp) : Prop := (∃ v0 v3 v4, σ = [v0, some (.ref F), some (.ref W), v3, v4]) ∧ Same H H1 ∧ ∃ (acc : List Nat) (rs : List Addr) (ts : List Tk), H1 F = some (.lst (vn acc)) ∧ H1 W = some (.lst (rs.map V.ref)) ∧ Paired (fun r t => r ≠ F ∧ r ≠ W ∧ TaskAt CC MM μ A n H1 r t) rs ts ∧ acc ++ encKs ts.reverse = tot ∧ m = (encKs ts.reverse).length
def t_wturn (K : PySem.W.Frag) (CC MM : Addr) (A : PA) : TS := tSeq (tAsg (tBM0 K "list" rPop (tVar 2)) (gTupD 2 (gCons (gName 3) (gCons (gName 4) gNil)))) (tDrop (tCallA 3 (SPut CC MM A) (tCons (tVar 1) (tCons (tVar 4) (tCons (tVar 2) tNil)))))
theorem wturn_run {K : PySem.W.Frag} {CC MM F W : Addr} {μ : Mks} {A : PA} {n : Nat} {H H1 : Hp} {D : Ends} {v0 v3 v4 : Option V} {tot acc : List Nat} {rs : List Addr} {ts : List Tk} {r : Addr} {t : Tk} (dA : Dst A) (hn : n ≤ 4000) (F0 : H F = none) (W0 : H W = none) (FW : F ≠ W) (s1 : Same H H1) (hF : H1 F = some (.lst (vn acc))) (hW : H1 W = some (.lst ((rs ++ [r]).map V.ref))) (pr : Paired (fun r t => r ≠ F ∧ r ≠ W ∧ TaskAt CC MM μ A n H1 r t) rs ts) (pt : r ≠ F ∧ r ≠ W ∧ TaskAt CC MM μ A n H1 r t)
    (ht : acc ++ (encK t ++ encKs ts.reverse) = tot) (hb : tot.length ≤ 4000000) (q : ∀ m σ H', m < (encK t ++ encKs ts.reverse).length → Wr CC MM μ A n H F W tot m σ H' → D.nx σ H') : t_wturn K CC MM A D [v0, some (.ref F), some (.ref W), v3, v4] H1 := by
  obtain ⟨rF, rW, v, hr, tv, gt⟩ := pt
  unfold t_wturn
  have rl : ((rs ++ [r]).map V.ref)[((rs ++ [r]).map V.ref).length - 1]? = some (.ref r) := by simp
  have dl : ((rs ++ [r]).map V.ref).dropLast = rs.map V.ref := by simp
  have hr2 : L2.upd H1 W (.lst (rs.map V.ref)) r = some (.tup [.ref (A.of t), v]) := by rw [upd_ne rW]; exact hr
  have r_callA : ∀ {i : Nat} {S : Addr → Option Sp} {ta : TA} {σ : L2.St} {H : Hp} {Q : VK}, L2.tCallA i S ta σ H Q = ∃ f sp, σ[i]? = some (some (.ref f)) ∧ S f = some sp ∧ ta σ H fun vs H1 => sp vs H1 Q E0 := fun {_ _ _ _ _ _} => rfl
  simp only [r_seq, r_next, r_brk, r_cont, r_asg, r_name, r_ret, r_retN, r_drop, r_ifs, r_never, r_var, r_c, r_op, r_un, r_if, r_tst, r_b, r_not, r_and, r_or, r_andV, r_orV, r_notV, r_nil, r_cons, r_tup, r_lst, r_cb, r_call, r_bm, r_bm0, r_sl, r_nopart, r_part, r_rev, r_gnil, r_gcons, r_gsub, r_par, r_aug, r_chain, r_I0, r_I, r_U, r_ixd, r_lend, r_tupd, r_listd, r_sld, r_app, r_ext, r_reverse, r_setl, r_cat, r_int1, r_eqS, r_neS, scal_ii, scal_bb, scal_ss, at0, at1, at2, sq_lst, sq_tup, isLst_lst, List.getElem?_cons_zero, List.getElem?_cons_succ, List.set_cons_zero, List.set_cons_succ, V.int.injEq, V.bl.injEq, V.ref.injEq, V.str.injEq, HO.lst.injEq, HO.tup.injEq, Option.some.injEq, exists_eq_left', exists_eq_left, List.cons.injEq, and_true, true_and, decide_eq_true_eq, reduceCtorEq, false_and, exists_false, or_false, false_or, exists_const, and_assoc, exists_and_left, List.append_nil, ix0, ix1, ix2, cm_mod, cdw1009, cdw2003, cdw7, cdw64, cdw2, cm104729, cm2, cm3, upd_same, List.length_cons, List.length_nil, Int.reduceLT, Int.reduceLE, Nat.reduceAdd, Nat.reduceLeDiff, Nat.reduceLT, Int.reduceToNat, r_for1, r_forL, r_forT, r_lcL, r_lc1, r_yes, r_gtupD, wipe_0, wipe_1, List.cons_append, List.nil_append, r_forS, r_ipI, ite_false, ite_true, Bool.not_true, Bool.not_false, decide_true, decide_false, r_isd, r_islt, cD_ty, cD_ref, tD_non, tD_bl, tD_int, tD_str, tD_ref, tH_lst, tH_tup, tH_dK, tH_ins, ki_self, ki_int_bool, ki_non_int, ki_str_int, ki_lt_lst, ki_lt_tup, r_fld, r_sfld, HO.ins.injEq, cx_K, r_pop, hW, rl, dl, hr2, r_callA]
  have m1 := Mo.upd (ys := rs.map V.ref) hW
  have s2 : Same H (L2.upd H1 W (.lst (rs.map V.ref))) := fun b o e => by
    rw [upd_ne (ne_new e W0)]
    exact s1 b o e
  have hF2 : L2.upd H1 W (.lst (rs.map V.ref)) F = some (.lst (vn acc)) := by rw [upd_ne FW]; exact hF
  have hW2 : L2.upd H1 W (.lst (rs.map V.ref)) W = some (.lst (rs.map V.ref)) := upd_same
  have pr2 : Paired (fun r t => r ≠ F ∧ r ≠ W ∧ TaskAt CC MM μ A n (L2.upd H1 W (.lst (rs.map V.ref))) r t) rs ts := Paired.map' pr fun r t ⟨h1, h2, v, e, tv, g⟩ => ⟨h1, h2, v, by rw [upd_ne h2]; exact e, tv.mo m1, g⟩
  have tv2 := tv.mo m1
  generalize L2.upd H1 W (.lst (rs.map V.ref)) = G at *
  have lt := congrArg List.length ht
  rw [List.length_append, List.length_append] at lt
  have lts := len_encKs ts.reverse
  rw [List.length_reverse] at lts
  have lr := paired_len pr2
  refine ⟨tyl hW, _, sput_at dA t, F, W, v, _, _, t, μ, n, rfl, rfl, FW, hF2, hW2, tv2, gt, hn, by rw [vn_len]; omega, by rw [List.length_map]; omega, fun d nr nt H' k2 h1 h2 hnr hnt he hd => ?_⟩
  have m2 : Mo G H' := ⟨fun b o e u n' => k2 b o (fun z => by rw [z, hF2] at e; exact n' _ (Option.some.inj e).symm) (fun z => by rw [z, hW2] at e; exact n' _ (Option.some.inj e).symm) e, fun b ys e => by
    by_cases z : b = F
    · subst z
      exact ⟨_, h1⟩
    · by_cases z2 : b = W
      · subst z2
        exact ⟨_, h2⟩
      · exact ⟨ys, k2 b _ z z2 e⟩⟩
  have ld : 1 ≤ d.length := by
    cases d with
    | nil => exact absurd rfl hd
    | cons _ _ => simp
  refine q (encKs (ts ++ nt).reverse).length _ H' ?_ ⟨⟨_, _, _, rfl⟩, fun b o e => k2 b o (ne_new e F0) (ne_new e W0) (s2 b o e), acc ++ d, rs ++ nr, ts ++ nt, ?_, ?_, ?_, ?_, rfl⟩
  · rw [List.reverse_append, encKs_app, he]
    simp only [List.length_append]
    omega
  · rw [h1, vn_app]
  · rw [h2, List.map_append]
  · refine Paired.app' (Paired.map' pr2 fun r t ⟨h1, h2, v, e, tv, g⟩ => ⟨h1, h2, v, k2 _ _ h1 h2 e, tv.mo m2, g⟩) (paired_and hnt hnr)
  · rw [← ht, List.reverse_append, encKs_app, he]
    simp only [List.append_assoc]
end C51

set_option maxHeartbeats 2000000
namespace C51
open PySem PySem.Spec PyProof.Rows L2
/-- the bytes of a code; what is no code is refused -/
def spWritten (CC CN MM : Addr) : Sp := fun vs H Q E => ∃ v, vs = [v] ∧ ((∃ (c : Addr) (k : PV) (μ : Mks) (n : Nat), v = .ref c ∧ Rp CC MM μ H (.ref c) k ∧ isC k ∧ gV 100 4000 n k ∧ n ≤ 4000 ∧ (encP k).length ≤ 4000000 ∧ ∀ q H', Same H H' → H q = none → H' q = some (.tup (vn (encP k))) → Q (.ref q) H') ∨ ((∃ t, Kd H v t) ∧ ErrF CN H E "code"))
section
variable {P : Program} {w : World} {K : PySem.W.Frag} {mg : Str → Option Value} {base : Heap} {f : Addr} {fd : FuncData}
abbrev swritten : Stmt := top 34
theorem scwritten : FnScope ["code", "found", "waiting", "action", "value"] ["code"] (defScope swritten) := ⟨rfl, rfl, rfl, by decide +kernel, rfl, by decide +kernel, by decide +kernel⟩

theorem ok_written {CC CN MM : Addr} {A : PA} (T : TxtW mg) (I : CodeT K mg CC) (yes : PySem.W.kitOne K (.ref CC) (.ref CC) = some true) (G : PG mg A) (dA : Dst A) (X_NoCode : Exn P w K mg base "NoCode" CN "field") (F : FnP K "written" "written" swritten f fd) (hS : ∀ f sp, SPut CC MM A f = some sp → Held P w K mg base 3 f sp) : FnOk P w K mg base (L2.CX P w) 4 f fd ["code"] (spWritten CC CN MM) := by
  refine F.ok scwritten (fun vs H Q E h => ?_) (fun cdv A' outer s H vs Q E hr h => ?_)
  · obtain ⟨v, rfl, _⟩ := h
    rfl
  · refine ⟨_, (pss_cons (ps_if (pt_not (pt_val (pe_callB (call_is_d I.cI) (by rfl) T.b_isinstance (by decide +kernel) (pa_cons (pv 0) (pa_cons (pe_glob (v := .ref _) rfl I.g_Code rfl) pa_nil)))))
    (pss_one (ps_raise rfl (takes_of rfl rfl rfl rfl) (pmk_x X_NoCode (hr.mono (by decide)) rfl pe_str)))
    pss_nil)
  (pss_cons (ps_set (i := 1) scwritten.nd rfl (Or.inl rfl) (pe_lst pa_nil))
  (pss_cons (ps_set (i := 2) scwritten.nd rfl (Or.inl rfl) (pe_lst (pa_cons (pe_tup (pa_cons (pe_glob (v := .ref _) rfl G.gK rfl) (pa_cons (pv 0) pa_nil))) pa_nil)))
  (pss_cons (ps_while (passes_of rfl) (pt_truth (pv 2) (by intro _; rfl))
    (pss_cons (ps_asg (pe_bm0 PySem.F.plainAttrs_list PySem.F.slot_list_pop PySem.F.type_list_pop mt_pop (pv 2)) (pg_tupD (n := 2) rfl (pgs_cons (pg_name (i := 3) scwritten.nd rfl (Or.inl rfl)) (pgs_cons (pg_name (i := 4) scwritten.nd rfl (Or.inl rfl)) pgs_nil))))
  (pss_one (ps_expr (pe_callA (i := 3) hS hr (by rfl) (Or.inl rfl) (pa_cons (pv 1) (pa_cons (pv 4) (pa_cons (pv 2) pa_nil))))))))
  (pss_one (ps_ret (pe_callTy call_tuple_d (by rfl) T.b_tuple (by decide +kernel) (pa_cons (pv 1) pa_nil)))))))), ?_⟩
    obtain ⟨v, rfl, h⟩ := h
    show (_ : TS) _ [some v, none, none, none, none] H
    simp only [r_seq, r_next, r_brk, r_cont, r_asg, r_name, r_ret, r_retN, r_drop, r_ifs, r_never, r_var, r_c, r_op, r_un, r_if, r_tst, r_b, r_not, r_and, r_or, r_andV, r_orV, r_notV, r_nil, r_cons, r_tup, r_lst, r_cb, r_call, r_bm, r_bm0, r_sl, r_nopart, r_part, r_rev, r_gnil, r_gcons, r_gsub, r_par, r_aug, r_chain, r_I0, r_I, r_U, r_ixd, r_lend, r_tupd, r_listd, r_sld, r_app, r_ext, r_reverse, r_setl, r_cat, r_int1, r_eqS, r_neS, scal_ii, scal_bb, scal_ss, at0, at1, at2, sq_lst, sq_tup, isLst_lst, List.getElem?_cons_zero, List.getElem?_cons_succ, List.set_cons_zero, List.set_cons_succ, V.int.injEq, V.bl.injEq, V.ref.injEq, V.str.injEq, HO.lst.injEq, HO.tup.injEq, Option.some.injEq, exists_eq_left', exists_eq_left, List.cons.injEq, and_true, true_and, decide_eq_true_eq, reduceCtorEq, false_and, exists_false, or_false, false_or, exists_const, and_assoc, exists_and_left, List.append_nil, ix0, ix1, ix2, cm_mod, cdw1009, cdw2003, cdw7, cdw64, cdw2, cm104729, cm2, cm3, upd_same, List.length_cons, List.length_nil, Int.reduceLT, Int.reduceLE, Nat.reduceAdd, Nat.reduceLeDiff, Nat.reduceLT, Int.reduceToNat, r_for1, r_forL, r_forT, r_lcL, r_lc1, r_yes, r_gtupD, wipe_0, wipe_1, List.cons_append, List.nil_append, r_forS, r_ipI, ite_false, ite_true, Bool.not_true, Bool.not_false, decide_true, decide_false, r_isd, r_islt, cD_ty, cD_ref, tD_non, tD_bl, tD_int, tD_str, tD_ref, tH_lst, tH_tup, tH_dK, tH_ins, ki_self, ki_int_bool, ki_non_int, ki_str_int, ki_lt_lst, ki_lt_tup, r_fld, r_sfld, HO.ins.injEq, cx_K]
    rcases h with ⟨c, k, μ, n, rfl, R, ic, g, hn, hb, q⟩ | ⟨⟨t, kd⟩, er⟩
    · cases R with
      | con h => exact ic.elim
      | cod ca ta hm =>
      rename_i m vs p ks B
      obtain ⟨dx, fs, f1, _⟩ := id ca
      refine ⟨.ref CC, by simp [tyD, tyH, f1], true, yes, ?_⟩
      rw [if_neg (show ¬ (!true) = true from by decide)]
      refine ⟨Nat.zero_le _, fun F0 hF => ⟨szl (by decide : 2 ≤ 1000), fun r hr' => ⟨szl (by decide : 1 ≤ 1000), fun W hW => ?_⟩⟩⟩
      have s1 := Same.new' (o := .lst []) (Same.refl H) hF
      have s2 := Same.new' (o := .tup [.ref A.fK, .ref c]) s1 hr'
      have s3 := Same.new' (o := .lst [.ref r]) s2 hW
      have H0F : H F0 = none := hF
      have H0W : H W = none := s2.free hW
      have rF : r ≠ F0 := new_ne upd_same hr'
      have rW : r ≠ W := ne_new upd_same hW
      have FW : F0 ≠ W := ne_new (Same.new' (Same.refl _) hr' _ _ upd_same) hW
      have e1 : L2.upd (L2.upd (L2.upd H F0 (.lst [])) r (.tup [.ref A.fK, .ref c])) W (.lst [.ref r]) F0 = some (.lst []) := by rw [upd_ne FW, upd_ne rF.symm]; exact upd_same
      have e2 : L2.upd (L2.upd (L2.upd H F0 (.lst [])) r (.tup [.ref A.fK, .ref c])) W (.lst [.ref r]) W = some (.lst [.ref r]) := upd_same
      have e3 : L2.upd (L2.upd (L2.upd H F0 (.lst [])) r (.tup [.ref A.fK, .ref c])) W (.lst [.ref r]) r = some (.tup [.ref A.fK, .ref c]) := by rw [upd_ne rW]; exact upd_same
      generalize L2.upd (L2.upd (L2.upd H F0 (.lst [])) r (.tup [.ref A.fK, .ref c])) W (.lst [.ref r]) = G0 at *
      have R0 : Rp CC MM μ G0 (.ref c) (.cod p ks) := (Rp.cod ca ta hm).mo (Mo.same s3) (Mks.le_refl μ)
      refine while_w (tb := t_wturn K CC MM A) (Wr CC MM μ A n H F0 W (encP (.cod p ks))) (m0 := (encKs [Tk.cod (.cod p ks)].reverse).length) ⟨⟨_, _, _, rfl⟩, s3, [], [r], [.cod (.cod p ks)], e1, e2, .cons ⟨rF, rW, .ref c, e3, ⟨R0, trivial⟩, g⟩ .nil, by simp [encKs, encK], rfl⟩ ?_
      rintro m' σ H1 ⟨⟨v0, v3, v4, rfl⟩, sm, acc, rs, ts, h1, h2, pr, ht, hm'⟩
      refine ⟨!(rs.map V.ref).isEmpty, fun QT qt => ⟨.ref W, rfl, _, .inl ⟨_, SqL.of h2, rfl⟩, qt⟩, fun hbt => ?_, fun hbt => ?_⟩
      · rcases List.eq_nil_or_concat ts with rfl | ⟨ts', t', rfl⟩
        · cases pr
          cases hbt
        · rw [List.concat_eq_append] at *
          obtain ⟨rs', r', rfl, pr', pt⟩ := Paired.snocR pr
          have er : (ts' ++ [t']).reverse = t' :: ts'.reverse := by simp
          rw [er, encKs] at ht hm'
          subst hm'
          exact wturn_run dA hn H0F H0W FW sm h1 h2 pr' pt ht hb fun m σ H' lt w => ⟨m, lt, w⟩
      · have e0 : rs = [] := by
          cases rs with
          | nil => rfl
          | cons x l => simp at hbt
        subst e0
        cases pr
        rw [List.reverse_nil, encKs, List.append_nil] at ht
        subst ht
        simp only [r_seq, r_next, r_brk, r_cont, r_asg, r_name, r_ret, r_retN, r_drop, r_ifs, r_never, r_var, r_c, r_op, r_un, r_if, r_tst, r_b, r_not, r_and, r_or, r_andV, r_orV, r_notV, r_nil, r_cons, r_tup, r_lst, r_cb, r_call, r_bm, r_bm0, r_sl, r_nopart, r_part, r_rev, r_gnil, r_gcons, r_gsub, r_par, r_aug, r_chain, r_I0, r_I, r_U, r_ixd, r_lend, r_tupd, r_listd, r_sld, r_app, r_ext, r_reverse, r_setl, r_cat, r_int1, r_eqS, r_neS, scal_ii, scal_bb, scal_ss, at0, at1, at2, sq_lst, sq_tup, isLst_lst, List.getElem?_cons_zero, List.getElem?_cons_succ, List.set_cons_zero, List.set_cons_succ, V.int.injEq, V.bl.injEq, V.ref.injEq, V.str.injEq, HO.lst.injEq, HO.tup.injEq, Option.some.injEq, exists_eq_left', exists_eq_left, List.cons.injEq, and_true, true_and, decide_eq_true_eq, reduceCtorEq, false_and, exists_false, or_false, false_or, exists_const, and_assoc, exists_and_left, List.append_nil, ix0, ix1, ix2, cm_mod, cdw1009, cdw2003, cdw7, cdw64, cdw2, cm104729, cm2, cm3, upd_same, List.length_cons, List.length_nil, Int.reduceLT, Int.reduceLE, Nat.reduceAdd, Nat.reduceLeDiff, Nat.reduceLT, Int.reduceToNat, r_for1, r_forL, r_forT, r_lcL, r_lc1, r_yes, r_gtupD, wipe_0, wipe_1, List.cons_append, List.nil_append, r_forS, r_ipI, ite_false, ite_true, Bool.not_true, Bool.not_false, decide_true, decide_false, r_isd, r_islt, cD_ty, cD_ref, tD_non, tD_bl, tD_int, tD_str, tD_ref, tH_lst, tH_tup, tH_dK, tH_ins, ki_self, ki_int_bool, ki_non_int, ki_str_int, ki_lt_lst, ki_lt_tup, r_fld, r_sfld, HO.ins.injEq, cx_K]
        exact ⟨_, h1, fun q' hq' => q q' _ (Same.new' sm hq') (sm.free hq') upd_same⟩
    · obtain ⟨e1, m1⟩ := kd.ty (CC := CC)
      refine ⟨_, e1, false, I.no _ m1, ?_⟩
      rw [if_pos (show (!false) = true from rfl)]
      exact raise_x (v := .str "code") (fun Q q => q) er
end
end C51

set_option maxHeartbeats 2000000
namespace C51
open PySem PySem.Spec PyProof.Rows L2
/-! ### what is written tells what it is of -/
theorem four_inj {i j : Int} (hi : -2147483648 ≤ i ∧ i < 2147483648) (hj : -2147483648 ≤ j ∧ j < 2147483648) (h : four i = four j) : i = j := by
  unfold four at h
  simp only [List.cons.injEq, and_true] at h
  obtain ⟨h1, h2, h3, h4⟩ := h
  omega
theorem four_app {i j : Int} {s t : List Nat} (hi : -2147483648 ≤ i ∧ i < 2147483648) (hj : -2147483648 ≤ j ∧ j < 2147483648) (h : four i ++ s = four j ++ t) : i = j ∧ s = t := by
  obtain ⟨h1, h2⟩ := List.append_inj h rfl
  exact ⟨four_inj hi hj h1, h2⟩
theorem len_app {n m : Nat} {xs ys s t : List Nat} (hn : n ≤ 100000) (hm : m ≤ 100000) (lx : xs.length = n) (ly : ys.length = m) (h : four (n : Int) ++ (xs ++ s) = four (m : Int) ++ (ys ++ t)) : xs = ys ∧ s = t := by
  obtain ⟨h1, h2⟩ := four_app (by omega) (by omega) h
  exact List.append_inj h2 (by omega)
theorem encB_app {ns ms s t : List Nat} (h1 : ns.length ≤ 4000) (h2 : ms.length ≤ 4000) (h : encB ns ++ s = encB ms ++ t) : ns = ms ∧ s = t := by
  unfold encB at h
  rw [List.cons_append, List.cons_append, List.append_assoc, List.append_assoc] at h
  exact len_app (by omega) (by omega) rfl rfl (List.cons.inj h).2
theorem encT_app {z y : Str} {s t : List Nat} (h1 : z.length ≤ 4000) (h2 : y.length ≤ 4000) (h : encT z ++ s = encT y ++ t) : z = y ∧ s = t := by
  unfold encT at h
  rw [List.cons_append, List.cons_append, List.append_assoc, List.append_assoc] at h
  obtain ⟨e1, e2⟩ := len_app (n := z.length) (m := y.length) (by omega) (by omega) (by rw [Array.length_toList]; rfl) (by rw [Array.length_toList]; rfl) (List.cons.inj h).2
  refine ⟨?_, e2⟩
  obtain ⟨zc⟩ := z
  obtain ⟨yc⟩ := y
  congr 1
  exact Array.toList_inj.mp e1
def undg : List Nat → Nat
  | [] => 0
  | d :: ds => d + 32768 * undg ds
theorem undg_dg : ∀ n : Nat, undg (dg15 n) = n := by
  intro n
  induction n using Nat.strongRecOn with
  | ind n ih =>
    by_cases h : n = 0
    · subst h
      rw [dg15_zero, undg]
    · rw [dg15_pos (by omega), undg, ih _ (by omega)]
      omega
theorem dpairs_inj : ∀ {ds es : List Nat}, dpairs ds = dpairs es → ds = es
  | [], [], _ => rfl
  | [], e :: es, h => by rw [dpairs_cons] at h; cases h
  | d :: ds, [], h => by rw [dpairs_cons] at h; cases h
  | d :: ds, e :: es, h => by
    rw [dpairs_cons, dpairs_cons] at h
    simp only [List.cons_append, List.nil_append, List.cons.injEq] at h
    rw [dpairs_inj h.2.2, show d = e by omega]
theorem encI_app {i j : Int} {s t : List Nat} (h1 : (dg15 i.natAbs).length ≤ 100000) (h2 : (dg15 j.natAbs).length ≤ 100000) (h : encI i ++ s = encI j ++ t) : i = j ∧ s = t := by
  unfold encI at h
  by_cases ci : -2147483648 ≤ i ∧ i ≤ 2147483647
  · rw [if_pos ci] at h
    by_cases cj : -2147483648 ≤ j ∧ j ≤ 2147483647
    · rw [if_pos cj, List.cons_append, List.cons_append] at h
      exact four_app (by omega) (by omega) (List.cons.inj h).2
    · rw [if_neg cj, List.cons_append, List.cons_append] at h
      exact absurd (List.cons.inj h).1 (by decide)
  · rw [if_neg ci] at h
    by_cases cj : -2147483648 ≤ j ∧ j ≤ 2147483647
    · rw [if_pos cj, List.cons_append, List.cons_append] at h
      exact absurd (List.cons.inj h).1 (by decide)
    · rw [if_neg cj, List.cons_append, List.cons_append, List.append_assoc, List.append_assoc] at h
      obtain ⟨e1, e2⟩ := four_app (by split <;> omega) (by split <;> omega) (List.cons.inj h).2
      have pi : (dg15 i.natAbs).length ≠ 0 := by
        rw [dg15_pos (by omega), List.length_cons]
        omega
      have pj : (dg15 j.natAbs).length ≠ 0 := by
        rw [dg15_pos (by omega), List.length_cons]
        omega
      have sg : (0 < i ↔ 0 < j) ∧ (dg15 i.natAbs).length = (dg15 j.natAbs).length := by
        split at e1 <;> split at e1 <;> omega
      obtain ⟨e3, e4⟩ := List.append_inj e2 (by rw [dpairs_len, dpairs_len, sg.2])
      have e5 := dpairs_inj e3
      have e6 : i.natAbs = j.natAbs := by rw [← undg_dg i.natAbs, e5, undg_dg]
      exact ⟨by omega, e4⟩
mutual
theorem encC_app : ∀ (x y : CV) {s t : List Nat}, bOk 4000 x → bOk 4000 y → encC x ++ s = encC y ++ t → x = y ∧ s = t
  | .non, y, s, t, hx, hy, h => by
    cases y with
    | non => simpa [encC] using h
    | bl b => cases b <;> simp [encC] at h
    | int i => simp only [encC, encI] at h; split at h <;> simp at h
    | str z => simp [encC, encT] at h
    | tup ys => simp [encC] at h
  | .bl b, y, s, t, hx, hy, h => by
    cases y with
    | non => cases b <;> simp [encC] at h
    | bl c => cases b <;> cases c <;> simp [encC] at h ⊢ <;> exact h
    | int i =>
      have hb : (if b then 84 else 70 : Nat) = 84 ∨ (if b then 84 else 70 : Nat) = 70 := by cases b <;> simp
      simp only [encC] at h
      generalize (if b then 84 else 70 : Nat) = c at h hb
      unfold encI at h
      split at h
      · have := (List.cons.inj h).1
        omega
      · have := (List.cons.inj h).1
        omega
    | str z => cases b <;> simp [encC, encT] at h
    | tup ys => cases b <;> simp [encC] at h
  | .int i, y, s, t, hx, hy, h => by
    cases y with
    | non => simp only [encC, encI] at h; split at h <;> simp at h
    | bl c => simp only [encC, encI] at h; cases c <;> (split at h <;> simp at h)
    | int j =>
      rw [encC, encC] at h
      obtain ⟨e1, e2⟩ := encI_app (dig_bOk hx) (dig_bOk hy) h
      exact ⟨by rw [e1], e2⟩
    | str z => simp only [encC, encI, encT] at h; split at h <;> simp at h
    | tup ys => simp only [encC, encI] at h; split at h <;> simp at h
  | .str z, y, s, t, hx, hy, h => by
    cases y with
    | non => simp [encC, encT] at h
    | bl c => cases c <;> simp [encC, encT] at h
    | int j => simp only [encC, encI, encT] at h; split at h <;> simp at h
    | str z' =>
      unfold bOk at hx hy
      rw [encC, encC] at h
      obtain ⟨e1, e2⟩ := encT_app hx hy h
      exact ⟨by rw [e1], e2⟩
    | tup ys => simp [encC, encT] at h
  | .tup xs, y, s, t, hx, hy, h => by
    cases y with
    | non => simp [encC] at h
    | bl c => cases c <;> simp [encC] at h
    | int j => simp only [encC, encI] at h; split at h <;> simp at h
    | str z' => simp [encC, encT] at h
    | tup ys =>
      unfold bOk at hx hy
      rw [encC, encC, List.cons_append, List.cons_append, List.append_assoc, List.append_assoc] at h
      obtain ⟨e1, e2⟩ := four_app (by omega) (by omega) (List.cons.inj h).2
      obtain ⟨e3, e4⟩ := encCs_app xs ys (by omega) hx.2 hy.2 e2
      exact ⟨by rw [e3], e4⟩
theorem encCs_app : ∀ (xs ys : List CV) {s t : List Nat}, xs.length = ys.length → bOks 4000 xs → bOks 4000 ys → encCs xs ++ s = encCs ys ++ t → xs = ys ∧ s = t
  | [], [], s, t, _, _, _, h => ⟨rfl, by simpa [encCs] using h⟩
  | [], _ :: _, _, _, l, _, _, _ => by simp at l
  | _ :: _, [], _, _, l, _, _, _ => by simp at l
  | x :: xs, y :: ys, s, t, l, hx, hy, h => by
    unfold bOks at hx hy
    rw [encCs, encCs, List.append_assoc, List.append_assoc] at h
    obtain ⟨e1, e2⟩ := encC_app x y hx.1 hy.1 h
    obtain ⟨e3, e4⟩ := encCs_app xs ys (by simpa using l) hx.2 hy.2 e2
    exact ⟨by rw [e1, e3], e4⟩
end
theorem bOk_strs {n : Nat} {zs : List Str} (hn : n ≤ 4000) (h : (∀ z ∈ zs, TxtN n z) ∧ zs.length ≤ n) : bOk 4000 (.tup (zs.map CV.str)) := by
  unfold bOk
  refine ⟨by rw [List.length_map]; omega, bOks_iff.mpr fun x hx => ?_⟩
  obtain ⟨z, hz, rfl⟩ := List.mem_map.mp hx
  unfold bOk
  exact Nat.le_trans (h.1 z hz).1 hn
theorem strs_inj {zs ys : List Str} (h : CV.tup (zs.map CV.str) = CV.tup (ys.map CV.str)) : zs = ys := by
  have h2 : zs.map CV.str = ys.map CV.str := CV.tup.inj h
  exact (List.map_inj_right fun a b e => CV.str.inj e).mp h2
mutual
theorem encP_app {n : Nat} (hn : n ≤ 4000) : ∀ (k l : PV) {s t : List Nat}, gV 100 4000 n k → gV 100 4000 n l → encP k ++ s = encP l ++ t → k = l ∧ s = t
  | .con x, l, s, t, hk, hl, h => by
    cases l with
    | con y =>
      unfold gV at hk hl
      rw [encP, encP] at h
      obtain ⟨e1, e2⟩ := encC_app x y hk.2.2 hl.2.2 h
      exact ⟨by rw [e1], e2⟩
    | cod q ls =>
      rw [encP, encP] at h
      cases x with
      | non => simp [encC] at h
      | bl c => cases c <;> simp [encC] at h
      | int j => simp only [encC, encI] at h; split at h <;> simp at h
      | str z' => simp [encC, encT] at h
      | tup ys => simp [encC] at h
  | .cod p ks, l, s, t, hk, hl, h => by
    cases l with
    | con x =>
      rw [encP, encP] at h
      cases x with
      | non => simp [encC] at h
      | bl c => cases c <;> simp [encC] at h
      | int j => simp only [encC, encI] at h; split at h <;> simp at h
      | str z' => simp [encC, encT] at h
      | tup ys => simp [encC] at h
    | cod q ls =>
      unfold gV at hk hl
      obtain ⟨ok, kl, _, gk⟩ := hk
      obtain ⟨ol, ll, _, gl⟩ := hl
      have nm : ∀ {i : Int}, Num i → -2147483648 ≤ i ∧ i < 2147483648 := fun h => by unfold Num at h; omega
      rw [encP, encP] at h
      simp only [List.cons_append, List.append_assoc, List.cons.injEq, true_and] at h
      obtain ⟨a1, h⟩ := four_app (nm ok.i0) (nm ol.i0) h
      obtain ⟨_, h⟩ := four_app (by decide) (by decide) h
      obtain ⟨a2, h⟩ := four_app (nm ok.i1) (nm ol.i1) h
      obtain ⟨a3, h⟩ := four_app (nm ok.i2) (nm ol.i2) h
      obtain ⟨a4, h⟩ := four_app (nm ok.i3) (nm ol.i3) h
      obtain ⟨b1, h⟩ := encB_app (Nat.le_trans ok.ds.2 hn) (Nat.le_trans ol.ds.2 hn) h
      simp only [List.cons_append, List.append_assoc, List.cons.injEq, true_and] at h
      obtain ⟨b2, h⟩ := four_app (by omega) (by omega) h
      obtain ⟨b3, h⟩ := encPs_app hn ks ls (by omega) gk gl h
      obtain ⟨b4, h⟩ := encC_app _ _ (bOk_strs hn ok.zs) (bOk_strs hn ol.zs) h
      obtain ⟨b5, h⟩ := encC_app _ _ (bOk_strs hn ok.ss) (bOk_strs hn ol.ss) h
      obtain ⟨b6, h⟩ := encB_app (Nat.le_trans ok.kds.2 hn) (Nat.le_trans ol.kds.2 hn) h
      obtain ⟨_, h⟩ := encT_app (by decide) (by decide) h
      obtain ⟨b7, h⟩ := encT_app (Nat.le_trans ok.z1.1 hn) (Nat.le_trans ol.z1.1 hn) h
      obtain ⟨b8, h⟩ := encT_app (Nat.le_trans ok.z2.1 hn) (Nat.le_trans ol.z2.1 hn) h
      obtain ⟨b9, h⟩ := four_app (nm ok.i4) (nm ol.i4) h
      obtain ⟨b10, h⟩ := encB_app (Nat.le_trans ok.lns.2 hn) (Nat.le_trans ol.lns.2 hn) h
      obtain ⟨b11, h⟩ := encB_app (Nat.le_trans ok.gds.2 hn) (Nat.le_trans ol.gds.2 hn) h
      refine ⟨?_, h⟩
      obtain ⟨i0, i1, i2, i3, i4, z1, z2, ds, kds, lns, gds, zs, ss⟩ := p
      obtain ⟨j0, j1, j2, j3, j4, y1, y2, es, les, mns, hds, ys, us⟩ := q
      have c4 := strs_inj b4
      have c5 := strs_inj b5
      simp only at a1 a2 a3 a4 b1 b6 b7 b8 b9 b10 b11 c4 c5
      subst a1 a2 a3 a4 b1 b3 b6 b7 b8 b9 b10 b11 c4 c5
      rfl
theorem encPs_app {n : Nat} (hn : n ≤ 4000) : ∀ (ks ls : List PV) {s t : List Nat}, ks.length = ls.length → gVs 100 4000 n ks → gVs 100 4000 n ls → encPs ks ++ s = encPs ls ++ t → ks = ls ∧ s = t
  | [], [], s, t, _, _, _, h => ⟨rfl, by simpa [encPs] using h⟩
  | [], _ :: _, _, _, l, _, _, _ => by simp at l
  | _ :: _, [], _, _, l, _, _, _ => by simp at l
  | x :: xs, y :: ys, s, t, l, hx, hy, h => by
    unfold gVs at hx hy
    rw [encPs, encPs, List.append_assoc, List.append_assoc] at h
    obtain ⟨e1, e2⟩ := encP_app hn x y hx.1 hy.1 h
    obtain ⟨e3, e4⟩ := encPs_app hn xs ys (by simpa using l) hx.2 hy.2 e2
    exact ⟨by rw [e1, e3], e4⟩
end
theorem enc_inj {n : Nat} (hn : n ≤ 4000) {k l : PV} (hk : gV 100 4000 n k) (hl : gV 100 4000 n l) (h : encP k = encP l) : k = l := (encP_app hn k l (s := []) (t := []) hk hl (by rw [h])).1
end C51

set_option maxHeartbeats 2000000
namespace C51
open PySem PySem.Spec PyProof.Rows L2
/-! ### a tuple of anything beside the empty one -/
def rNeE : R2 := fun x y H Q => ∃ (a b : Addr) (xs : List V), x = .ref a ∧ y = .ref b ∧ H a = some (.tup xs) ∧ H b = some (.tup []) ∧ Q (.bl (!xs.isEmpty)) H
theorem r_neE {x y : V} {H : Hp} {Q : VK} : rNeE x y H Q = ∃ (a b : Addr) (xs : List V), x = .ref a ∧ y = .ref b ∧ H a = some (.tup xs) ∧ H b = some (.tup []) ∧ Q (.bl (!xs.isEmpty)) H := rfl
theorem op_neE {X : Cx} (hu : X.A.units < cLine) : OpR X (compareOp .NotEq) rNeE := fun pins s σ H x y v u Q I rx ry h => by
  obtain ⟨a, b, xs, rfl, rfl, ha, hb, q⟩ := h
  cases rx
  cases ry
  obtain ⟨z1, its, r1, o1, e1, c1, n1, d1⟩ := I.hok a _ ha
  obtain ⟨z2, its2, r2, o2, e2, c2, n2, d2⟩ := I.hok b _ hb
  have l1 := r1.length
  cases r2
  have hr : (!((List.range (min its.toArray.size (#[] : Array Value).size)).all (fun _ => true) && its.toArray.size == (#[] : Array Value).size)) = !xs.isEmpty := by
    cases xs with
    | nil =>
      cases r1
      rfl
    | cons x xs =>
      cases r1
      simp
  have := SeqAt.RcNeAt.tuples (A := X.A) (s := s) (e := fun _ => true) (show s.heap.IsTuple a its.toArray from ⟨o1, e1, c1, n1, d1⟩) (show s.heap.IsTuple b #[] from ⟨o2, e2, c2, n2, d2⟩) hu (fun j j1 j2 => absurd j2 (by simp))
  rw [hr] at this
  exact this X.prog X.w X.xe _ ⟨.bl _, H, I, rfl, q⟩

end C51

set_option maxHeartbeats 2000000
namespace C51
open PySem PySem.Spec PyProof.Rows L2
/-! ### something else in the place of a value -/
structure BC (x y : CV) : Prop where
  ne : x ≠ y
  sz : szC y ≤ szC x + 1
  ok : ∀ j, kOk x j → kOk y (j + 1)
  bo : bOk 200 x → bOk 201 y
structure BP (k l : PV) : Prop where
  ne : k ≠ l
  al : Al k l
  ic : isC k ↔ isC l
  dp : depK l = depK k
  tz : C51.tz l ≤ C51.tz k + 1
  g : C51.tz k ≤ 50000 → gV 3 200 10 k → gV 4 201 11 l
theorem BC.bp {x y : CV} (h : BC x y) : BP (.con x) (.con y) := by
  refine ⟨fun e => h.ne (by cases e; rfl), by unfold Al; trivial, Iff.rfl, by unfold depK; rfl, by unfold C51.tz; exact h.sz, fun t g => ?_⟩
  unfold C51.tz at t
  unfold gV at g ⊢
  have := h.sz
  exact ⟨h.ok 3 g.1, by omega, h.bo g.2.2⟩
theorem bc_wrap {x : CV} (h : ∀ us, x = .tup us → us = []) : BC x (.tup [x]) := by
  refine ⟨fun e => ?_, ?_, fun j k => ?_, fun b => ?_⟩
  · have := congrArg szC e
    rw [szC, szCs, szCs] at this
    omega
  · rw [szC, szCs, szCs]
    omega
  · unfold kOk kOks
    exact ⟨j, rfl, k, by unfold kOks; trivial⟩
  · unfold bOk bOks
    exact ⟨by simp, bOk.mono (by decide) b, by unfold bOks; trivial⟩
theorem bc_bl {b : Bool} : BC (.bl b) (.int (if b then 1 else 0)) := by
  refine ⟨fun e => CV.noConfusion e, by rw [szC, szC]; omega, fun j _ => by unfold kOk; trivial, fun _ => ?_⟩
  unfold bOk
  cases b <;> decide
theorem bc_01 {i : Int} (h : i = 0 ∨ i = 1) : BC (.int i) (.bl (decide (i = 1))) :=
  ⟨fun e => CV.noConfusion e, by rw [szC, szC]; omega, fun j _ => by unfold kOk; trivial, fun _ => by unfold bOk; trivial⟩
theorem bc_int {i : Int} : BC (.int i) (.int (i + 1)) := by
  refine ⟨fun e => ?_, by rw [szC, szC]; omega, fun j _ => by unfold kOk; trivial, fun h => ?_⟩
  · have := CV.int.inj e
    omega
  · unfold bOk at h ⊢
    have : (2 : Int) ^ 201 = 2 ^ 200 * 2 := by decide
    have : (1 : Int) ≤ 2 ^ 200 := by decide
    omega
theorem szCs_one {a b : List CV} {x : CV} : szCs (a ++ (x :: b)) = szCs a + szC x + szCs b := by
  rw [szCs_app, szCs]
  omega
theorem bc_tup {a b : List CV} {x y : CV} (h : BC x y) : BC (.tup (a ++ (x :: b))) (.tup (a ++ (y :: b))) := by
  refine ⟨fun e => ?_, ?_, fun j k => ?_, fun k => ?_⟩
  · obtain ⟨_, e2⟩ := List.append_inj (CV.tup.inj e) rfl
    exact h.ne (List.cons.inj e2).1
  · rw [szC, szC, szCs_one, szCs_one]
    have := h.sz
    omega
  · unfold kOk at k ⊢
    obtain ⟨j', rfl, k⟩ := k
    refine ⟨j' + 1, rfl, kOks_iff.mpr fun z hz => ?_⟩
    rcases List.mem_append.mp hz with hz | hz
    · exact (kOks_iff.mp k z (List.mem_append_left _ hz)).mono (by omega)
    · rcases List.mem_cons.mp hz with rfl | hz
      · exact h.ok _ (kOks_iff.mp k x (by simp))
      · exact (kOks_iff.mp k z (by simp [hz])).mono (by omega)
  · unfold bOk at k ⊢
    refine ⟨by simp at k ⊢; omega, bOks_iff.mpr fun z hz => ?_⟩
    rcases List.mem_append.mp hz with hz | hz
    · exact bOk.mono (by decide) (bOks_iff.mp k.2 z (List.mem_append_left _ hz))
    · rcases List.mem_cons.mp hz with rfl | hz
      · exact h.bo (bOks_iff.mp k.2 x (by simp))
      · exact bOk.mono (by decide) (bOks_iff.mp k.2 z (by simp [hz]))
/-! ### otherwise in one field -/
structure BF (p : PF) (ks : List PV) (q : PF) (ls : List PV) : Prop where
  ne : p ≠ q ∨ ks ≠ ls
  al : Als ks ls
  dp : depF (depKs ls) = depF (depKs ks)
  tz : tzs ls ≤ tzs ks + 1
  ok : PfOk 10 p → PfOk 11 q
  len : ls.length ≤ ks.length + 1
  g : tzs ks ≤ 50000 → gVs 3 200 10 ks → gVs 4 201 11 ls
theorem BF.bp {p q : PF} {ks ls : List PV} (h : BF p ks q ls) : BP (.cod p ks) (.cod q ls) := by
  refine ⟨fun e => ?_, by unfold Al; exact h.al, Iff.rfl, by unfold depK; rw [h.dp], ?_, fun t g => ?_⟩
  · cases e
    exact h.ne.elim (fun z => z rfl) fun z => z rfl
  · have := h.tz
    unfold C51.tz
    omega
  · unfold C51.tz at t
    unfold gV at g ⊢
    have := h.len
    exact ⟨h.ok g.1, by omega, by rw [h.dp]; exact g.2.2.1, h.g (by omega) g.2.2.2⟩
theorem bf_pf {p q : PF} {ks : List PV} (ne : p ≠ q) (ok : PfOk 10 p → PfOk 11 q) : BF p ks q ks :=
  ⟨.inl ne, Als.refl ks, rfl, Nat.le_succ _, ok, Nat.le_succ _, fun _ g => gVs.mono (by decide) (by decide) (by decide) g⟩
theorem als_pre : ∀ (a : List PV) {b c : List PV}, Als b c → Als (a ++ b) (a ++ c)
  | [], _, _, h => h
  | x :: a, b, c, h => by
    rw [List.cons_append, List.cons_append]
    unfold Als
    exact ⟨Al.refl x, als_pre a h⟩
theorem tzs_app : ∀ (a b : List PV), tzs (a ++ b) = tzs a + tzs b
  | [], b => by rw [List.nil_append, tzs, Nat.zero_add]
  | x :: a, b => by rw [List.cons_append, tzs, tzs_app a b, tzs, Nat.add_assoc]
theorem tz_mem {k : PV} : ∀ {ks : List PV}, k ∈ ks → tz k ≤ tzs ks
  | y :: ys, h => by
    unfold tzs
    rcases List.mem_cons.mp h with rfl | h
    · omega
    · have := tz_mem h
      omega
theorem depF_app0 {es : List Nat} : depF (es ++ [0]) = depF es := by
  unfold depF
  rw [List.foldl_append]
  simp
theorem bf_add {p : PF} {ks : List PV} : BF p ks p (ks ++ [.con (.str "x")]) := by
  refine ⟨.inr fun e => ?_, ?_, ?_, ?_, fun h => h.mono (by decide), by simp, fun t g => ?_⟩
  · have := congrArg List.length e
    simp at this
  · have := als_pre ks (b := []) (c := [.con (.str "x")]) (by unfold Als; trivial)
    rwa [List.append_nil] at this
  · rw [depKs_map, depKs_map, List.map_append]
    show depF (ks.map depK ++ [depK (.con (.str "x"))]) = _
    rw [show depK (.con (.str "x")) = 0 from by rw [depK], depF_app0]
  · rw [tzs_app, tzs, tzs, C51.tz, szC]
    omega
  · refine gVs_iff.mpr fun k hk => ?_
    rcases List.mem_append.mp hk with hk | hk
    · exact gV.mono (by decide) (by decide) (by decide) (gVs_iff.mp g k hk)
    · rw [List.mem_singleton.mp hk]
      unfold gV
      refine ⟨?_, by rw [szC]; decide, ?_⟩
      · unfold kOk
        exact okS_b (by decide +kernel)
      · unfold bOk
        decide
theorem bf_set {p : PF} {a b : List PV} {k l : PV} (h : BP k l) : BF p (a ++ (k :: b)) p (a ++ (l :: b)) := by
  refine ⟨.inr fun e => ?_, als_pre a ?_, ?_, ?_, fun h => h.mono (by decide), by simp, fun t g => ?_⟩
  · obtain ⟨_, e2⟩ := List.append_inj e rfl
    exact h.ne (List.cons.inj e2).1
  · unfold Als
    exact ⟨h.al, Als.refl b⟩
  · rw [depKs_map, depKs_map, List.map_append, List.map_append, List.map_cons, List.map_cons, h.dp]
  · rw [tzs_app, tzs_app, tzs, tzs]
    have := h.tz
    omega
  · refine gVs_iff.mpr fun z hz => ?_
    rcases List.mem_append.mp hz with hz | hz
    · exact gV.mono (by decide) (by decide) (by decide) (gVs_iff.mp g z (List.mem_append_left _ hz))
    · rcases List.mem_cons.mp hz with rfl | hz
      · exact h.g (Nat.le_trans (tz_mem (by simp)) t) (gVs_iff.mp g k (by simp))
      · exact gV.mono (by decide) (by decide) (by decide) (gVs_iff.mp g z (by simp [hz]))
/-! ### the fields but the constants -/
def bump (i : Int) : Int := if i < 5 then i + 1 else i - 1
theorem bump_ne (i : Int) : i ≠ bump i := by
  unfold bump
  split <;> omega
theorem bump_ok {i : Int} (h : Num i) : Num (bump i) := by
  unfold Num bump at *
  split <;> omega
theorem txt_x {n : Nat} {z : Str} (hn : n ≤ 1000) (h : TxtN n z) : TxtN (n + 1) (z ++ "x") := by
  have e : (z ++ ("x" : Str)).cps = z.cps ++ ("x" : Str).cps := rfl
  have l : (z ++ ("x" : Str)).length = z.length + 1 := by
    show (z ++ ("x" : Str)).cps.size = z.cps.size + 1
    rw [e, Array.size_append]
    rfl
  have c : ∀ c ∈ (z ++ ("x" : Str)).cps.toList, chB c = true := fun c hc => by
    rw [e, Array.toList_append] at hc
    rcases List.mem_append.mp hc with hc | hc
    · exact h.2.2 c hc
    · have : ∀ c ∈ ("x" : Str).cps.toList, chB c = true := by decide +kernel
      exact this c hc
  have := h.1
  exact ⟨by omega, okS_of (by omega) c, c⟩
theorem x_ok : TxtN 11 "x" := ⟨by decide, okS_b (by decide +kernel), by decide +kernel⟩
theorem str_x_ne (z : Str) : z ≠ z ++ "x" := fun e => by
  have l : (z ++ ("x" : Str)).length = z.length + 1 := by
    show (z.cps ++ ("x" : Str).cps).size = z.cps.size + 1
    rw [Array.size_append]
    rfl
  rw [← e] at l
  omega
end C51

set_option maxHeartbeats 2000000
namespace C51
open PySem PySem.Spec PyProof.Rows L2
/-! ### slices and sums of tuples, whichever object they are -/
def rSlW : V → Option Int → Option Int → Hp → VK → Prop := fun x lo hi H Q => ∃ (a : Addr) (xs : List V), x = .ref a ∧ H a = some (.tup xs) ∧ ∀ p H', Same H H' → H' p = some (.tup (cutV xs lo hi)) → Q (.ref p) H'
theorem sl_W {X : Cx} : L2.SlR X rSlW := SlR.imp' (sl_tupA (X := X)) fun x lo hi H Q ⟨a, xs, e, h, q⟩ => ⟨a, xs, e, SqT.of h, fun ⟨c1, c2⟩ => q a H (Same.refl H) (by
  have : cutV xs lo hi = xs := by
    unfold cutV
    rw [c1, c2, List.drop_zero, Nat.sub_zero, List.take_length]
  rw [this]
  exact h), fun _ p hp => q p _ (Same.new' (Same.refl H) hp) upd_same⟩
theorem r_slW {x : V} {lo hi : Option Int} {H : Hp} {Q : VK} : rSlW x lo hi H Q = ∃ (a : Addr) (xs : List V), x = .ref a ∧ H a = some (.tup xs) ∧ ∀ p H', Same H H' → H' p = some (.tup (cutV xs lo hi)) → Q (.ref p) H' := rfl
def rCatW : R2 := fun x y H Q => ∃ (a b : Addr) (xs ys : List V), x = .ref a ∧ y = .ref b ∧ H a = some (.tup xs) ∧ H b = some (.tup ys) ∧ xs.length + ys.length ≤ sizeLine ∧ ∀ p H', Same H H' → H' p = some (.tup (xs ++ ys)) → Q (.ref p) H'
theorem op_catW {X : Cx} : OpR X (binaryOp .Add) rCatW := fun pins s σ H x y v u Q I rx ry ⟨a, b, xs, ys, ex, ey, ha, hb, hz, q⟩ => op_catA pins s σ H x y v u Q I rx ry ⟨a, b, xs, ys, ex, ey, SqT.of ha, SqT.of hb, hz, fun e => q b H (Same.refl H) (by rw [e, List.nil_append]; exact hb), fun _ e => q a H (Same.refl H) (by rw [e, List.append_nil]; exact ha), fun _ _ p hp => q p _ (Same.new' (Same.refl H) hp) upd_same⟩
theorem r_catW {x y : V} {H : Hp} {Q : VK} : rCatW x y H Q = ∃ (a b : Addr) (xs ys : List V), x = .ref a ∧ y = .ref b ∧ H a = some (.tup xs) ∧ H b = some (.tup ys) ∧ xs.length + ys.length ≤ sizeLine ∧ ∀ p H', Same H H' → H' p = some (.tup (xs ++ ys)) → Q (.ref p) H' := rfl

section
variable {P : Program} {w : World} {K : PySem.W.Frag} {mg : Str → Option Value} {base : Heap} {f : Addr} {fd : FuncData}
abbrev sfields : Stmt := top 47
theorem scfields : FnScope ["_law_made", "_law_found"] ["_law_made"] (defScope sfields) := ⟨rfl, rfl, rfl, by decide +kernel, rfl, by decide +kernel, by decide +kernel⟩

/-- its fields in a new list -/
def spFields (CC MM : Addr) : Sp := fun vs H Q _ => ∃ (c : Addr) (p : PF) (d : Nat) (ws : List V) (A : FP) (m : Addr), vs = [.ref c] ∧ CodeAt CC MM H c p d ws A m ∧ ∀ L H', H L = none → Same H H' → H' L = some (.lst (A.vs p)) → Q (.ref L) H'
theorem ok_fields {CC MM : Addr} (T : Txt mg) (I : CodeT K mg CC) (F : FnP K "_law_fields" "_law_fields" sfields f fd) : FnOk P w K mg base CX0 1 f fd ["_law_made"] (spFields CC MM) := by
  refine F.ok scfields (fun vs H Q E h => ?_) (fun cdv A outer s H vs Q E hr h => ?_)
  · obtain ⟨c, p, d, ws, A, m, rfl, _⟩ := h
    rfl
  · refine ⟨_, PSs.nox (pss_cons (ps_set (i := 1) scfields.nd rfl (Or.inl rfl) (pe_lst (pa_cons (pe_fld (pv 0) rfl) (pa_cons (pe_fld (pv 0) rfl) (pa_cons (pe_fld (pv 0) rfl) (pa_cons (pe_fld (pv 0) rfl) (pa_cons (pe_fld (pv 0) rfl) (pa_cons (pe_fld (pv 0) rfl) (pa_cons (pe_fld (pv 0) rfl) pa_nil)))))))))
  (pss_one (ps_ret (pe_op op_cat (pv 1) (pe_lst (pa_cons (pe_fld (pv 0) rfl) (pa_cons (pe_fld (pv 0) rfl) (pa_cons (pe_fld (pv 0) rfl) (pa_cons (pe_fld (pv 0) rfl) (pa_cons (pe_fld (pv 0) rfl) (pa_cons (pe_fld (pv 0) rfl) (pa_cons (pe_fld (pv 0) rfl) pa_nil)))))))))))), ?_⟩
    obtain ⟨c, X, d, ws, A, m, rfl, ⟨dx, fs, f1, f2, f3, f4, f5, f6, f7, f8, f9, f10, f11, f12, f13, f14, f15, f16, f17, f18, f19, f20, f21, f22, f23, f24, ⟨md, f25⟩, f26⟩, k⟩ := h
    show (_ : TS) _ [some (.ref c), none] H
    have cl := I.cI.cl
    have n1 := I.na "argcount" (by decide)
    have n2 := I.na "onlycount" (by decide)
    have n3 := I.na "stacksize" (by decide)
    have n4 := I.na "flags" (by decide)
    have n5 := I.na "code" (by decide)
    have n7 := I.na "constants" (by decide)
    have n8 := I.na "names" (by decide)
    have n9 := I.na "slots" (by decide)
    have n10 := I.na "kinds" (by decide)
    have n11 := I.na "name" (by decide)
    have n12 := I.na "path" (by decide)
    have n13 := I.na "line" (by decide)
    have n14 := I.na "lines" (by decide)
    have n15 := I.na "handlers" (by decide)
    simp only [r_seq, r_next, r_brk, r_cont, r_asg, r_name, r_ret, r_retN, r_drop, r_ifs, r_never, r_var, r_c, r_op, r_un, r_if, r_tst, r_b, r_not, r_and, r_or, r_andV, r_orV, r_notV, r_nil, r_cons, r_tup, r_lst, r_cb, r_call, r_bm, r_bm0, r_sl, r_nopart, r_part, r_rev, r_gnil, r_gcons, r_gsub, r_par, r_aug, r_chain, r_I0, r_I, r_U, r_ixd, r_lend, r_tupd, r_listd, r_sld, r_app, r_ext, r_reverse, r_setl, r_cat, r_int1, r_eqS, r_neS, scal_ii, scal_bb, scal_ss, at0, at1, at2, sq_lst, sq_tup, isLst_lst, List.getElem?_cons_zero, List.getElem?_cons_succ, List.set_cons_zero, List.set_cons_succ, V.int.injEq, V.bl.injEq, V.ref.injEq, V.str.injEq, HO.lst.injEq, HO.tup.injEq, Option.some.injEq, exists_eq_left', exists_eq_left, List.cons.injEq, and_true, true_and, decide_eq_true_eq, reduceCtorEq, false_and, exists_false, or_false, false_or, exists_const, and_assoc, exists_and_left, List.append_nil, ix0, ix1, ix2, cm_mod, cdw1009, cdw2003, cdw7, cdw64, cdw2, cm104729, cm2, cm3, upd_same, List.length_cons, List.length_nil, Int.reduceLT, Int.reduceLE, Nat.reduceAdd, Nat.reduceLeDiff, Nat.reduceLT, Int.reduceToNat, r_for1, r_forL, r_forT, r_lcL, r_lc1, r_yes, r_gtupD, wipe_0, wipe_1, List.cons_append, List.nil_append, r_forS, r_ipI, ite_false, ite_true, Bool.not_true, Bool.not_false, decide_true, decide_false, r_isd, r_islt, cD_ty, cD_ref, tD_non, tD_bl, tD_int, tD_str, tD_ref, tH_lst, tH_tup, tH_dK, tH_ins, ki_self, ki_int_bool, ki_non_int, ki_str_int, ki_lt_lst, ki_lt_tup, r_fld, r_sfld, HO.ins.injEq, cx_K]
    refine ⟨CC, dx, fs, f1, cl, n1, _, f2, CC, dx, fs, f1, cl, n2, _, f3, CC, dx, fs, f1, cl, n3, _, f4, CC, dx, fs, f1, cl, n4, _, f5, CC, dx, fs, f1, cl, n5, _, f6, CC, dx, fs, f1, cl, n7, _, f8, CC, dx, fs, f1, cl, n8, _, f9, szl (by decide : 7 ≤ 1000), fun p hp => ?_⟩
    have g1 : ∀ o, L2.upd H p o c = some (.ins CC dx fs) := fun o => by rw [upd_ne (ne_new f1 hp)]; exact f1
    refine ⟨CC, dx, fs, g1 _, cl, n9, _, f10, CC, dx, fs, g1 _, cl, n10, _, f11, CC, dx, fs, g1 _, cl, n11, _, f12, CC, dx, fs, g1 _, cl, n12, _, f13, CC, dx, fs, g1 _, cl, n13, _, f14, CC, dx, fs, g1 _, cl, n14, _, f15, CC, dx, fs, g1 _, cl, n15, _, f16, szl (by decide : 7 ≤ 1000), fun q hq => ?_⟩
    have e1 : L2.upd H p (.lst [.int X.i0, .int X.i1, .int X.i2, .int X.i3, .ref A.pu, .ref A.pk, .ref A.pn]) p = some (.lst [.int X.i0, .int X.i1, .int X.i2, .int X.i3, .ref A.pu, .ref A.pk, .ref A.pn]) := upd_same
    refine ⟨[.int X.i0, .int X.i1, .int X.i2, .int X.i3, .ref A.pu, .ref A.pk, .ref A.pn], by rw [upd_ne (ne_new e1 hq)]; exact e1, Nat.le_trans (by decide : 14 ≤ 1000) (by decide), fun r hr' => ?_⟩
    have sm := Same.new' (o := .lst [.int X.i0, .int X.i1, .int X.i2, .int X.i3, .ref A.pu, .ref A.pk, .ref A.pn]) (Same.refl H) hp
    exact k r _ (Same.free (Same.new' sm hq) hr') (Same.new' (Same.new' sm hq) hr') upd_same
end
end C51

set_option maxHeartbeats 2000000
namespace C51
open PySem PySem.Spec PyProof.Rows L2
structure BX (k l : PV) : Prop where
  bp : BP k l
  bc : ∀ x, k = .con x → ∃ y, l = .con y ∧ BC x y
/-- something else in the place of a value: of codes at most c deep, of constants nested at most t deep -/
def spBC (CC MM : Addr) (c t : Nat) : Sp := fun vs H Q _ => ∃ (a : Addr) (v : V) (k : PV) (μ : Mks), vs = [.ref a, v] ∧ Src H a ∧ Wm MM μ H ∧ Rp CC MM μ H v k ∧ (∀ x, k = .con x → kOk x t) ∧ depK k ≤ c ∧ gV 3 200 10 k ∧ tz k ≤ 50000 ∧
  ∀ w l (ν : Mks) H', Keep a H H' → Src H' a → Mks.le μ ν → Wm MM ν H' → Rp CC MM ν H' w l → BX k l → Q w H'
/-- fields that differ in one place -/
def spBF (CC MM : Addr) (c : Nat) : Sp := fun vs H Q _ => ∃ (a L : Addr) (A : FP) (p : PF) (ks : List PV) (ws : List V) (μ : Mks), vs = [.ref a, .ref L] ∧ Src H a ∧ L ≠ a ∧ Wm MM μ H ∧ H L = some (.lst (A.vs p)) ∧ Rows CC MM μ H A p ks ws ∧ PfOk 10 p ∧ gVs 3 200 10 ks ∧ tzs ks ≤ 50000 ∧ ks.length ≤ 10 ∧ depF (depKs ks) ≤ 100 ∧ (∀ k ∈ ks, depK k ≤ c) ∧
  ∀ L' q ls (ν : Mks) H', Keep a H H' → Src H' a → L' ≠ a → Mks.le μ ν → Wm MM ν H' → LfAt CC MM ν H' L' q ls → BF p ks q ls → Q (.ref L') H'
theorem in_01 (i : Int) : inV (.int i) [.int 0, .int 1] = decide (i = 0 ∨ i = 1) := by
  unfold inV
  by_cases h0 : i = 0
  · subst h0
    rfl
  by_cases h1 : i = 1
  · subst h1
    rfl
  rw [decide_eq_false (by omega)]
  simp [eqV]
  omega
theorem foldl_max_ge : ∀ (xs : List Nat) (m : Nat), m ≤ xs.foldl max m ∧ ∀ x ∈ xs, x ≤ xs.foldl max m
  | [], m => ⟨Nat.le_refl m, fun x h => nomatch h⟩
  | y :: ys, m => by
    obtain ⟨h1, h2⟩ := foldl_max_ge ys (max m y)
    rw [List.foldl_cons]
    refine ⟨Nat.le_trans (Nat.le_max_left m y) h1, fun x hx => ?_⟩
    rcases List.mem_cons.mp hx with rfl | hx
    · exact Nat.le_trans (Nat.le_max_right m _) h1
    · exact h2 x hx
theorem dep_mem {k : PV} {ks : List PV} (hk : k ∈ ks) : depK k ≤ depF (depKs ks) := by
  rw [depKs_map]
  exact (foldl_max_ge (ks.map depK) 1).2 _ (List.mem_map_of_mem hk)
theorem cut_to {xs : List V} {i : Nat} (h : i ≤ xs.length) : cutV xs none (some (i : Int)) = xs.take i := by
  have e : HT.sIx xs.length xs.length (some (i : Int)) = i := by
    rw [HT.sIx_nat]
    omega
  have e0 : HT.sIx xs.length 0 none = 0 := rfl
  unfold cutV
  rw [e, e0, List.drop_zero, Nat.sub_zero]
theorem cut_from {xs : List V} {i : Nat} (h : i ≤ xs.length) : cutV xs (some (i : Int)) none = xs.drop i := by
  have e : HT.sIx xs.length 0 (some (i : Int)) = i := by
    rw [HT.sIx_nat]
    omega
  have e0 : HT.sIx xs.length xs.length none = xs.length := rfl
  unfold cutV
  rw [e, e0]
  exact List.take_of_length_le (by rw [List.length_drop]; exact Nat.le_refl _)
def t_src (sp : Sp) (te : TE) : TE := tCall sp [] E0 (tCons (tVar 0) (tCons te tNil))
/-- a row with something else in one spot -/
def t_spot (sp : Sp) (tx : TE) (i : Nat) : TE := tOp rCatW (tOp rCatW (tSl rSlW tx tNoPart (tPart (tVar i))) (tTup (tCons (t_src sp (tOp rIxd tx (tVar i))) tNil))) (tSl rSlW tx (tPart (tOp (rI0 fun i j => V.int (i + j)) (tVar i) (tC (V.int 1)))) tNoPart)
def t_ofcode (CC CN MM : Addr) (sp : Sp) : TE := tCall (spLCode CC CN MM) [] (fun _ _ _ => False) (tCons (t_src sp (tCall (spFields CC MM) [] E0 (tCons (tVar 1) tNil))) tNil)
def t_bcon (K : PySem.W.Frag) (CC CN MM : Addr) (sp1 sp2 : Sp) : TS := tSeq (tIfS (tB (tCB (rIsD K CC) (tCons (tVar 1) (tCons (tC (V.ty "bool")) tNil)))) (tRet (tCB (fun xs H Q => (∃ i, xs = [V.int i] ∧ Q (V.int i) H) ∨ ∃ k, xs = [V.bl k] ∧ Q (V.int (if k = true then 1 else 0)) H) (tCons (tVar 1) tNil))) tNext)
  (tSeq (tIfS (tB (tCB (rIsD K CC) (tCons (tVar 1) (tCons (tC (V.ty "int")) tNil))))
    (tRet (tIf (tTest (tOp (rIn K false) (tVar 1) (tTup (tCons (tC (V.int 0)) (tCons (tC (V.int 1)) tNil))))) (tOp rEq (tVar 1) (tC (V.int 1))) (tOp (rI0 fun i j => V.int (i + j)) (tVar 1) (tC (V.int 1))))) tNext)
  (tSeq (tIfS (tAnd (tB (tCB (rIsD K CC) (tCons (tVar 1) (tCons (tC (V.ty "tuple")) tNil)))) (tTest (tOp rNeE (tVar 1) (tTup tNil))))
    (tSeq (tAsg (t_src spNext (tCB rLend (tCons (tVar 1) tNil))) (gName 2)) (tRet (t_spot sp1 (tVar 1) 2))) tNext)
  (tSeq (tIfS (tB (tCB (rIsD K CC) (tCons (tVar 1) (tCons (tC (V.ref CC)) tNil)))) (tRet (t_ofcode CC CN MM sp2)) tNext) (tRet (tTup (tCons (tVar 1) tNil))))))
section
variable {CC CN MM a b : Addr} {H : Hp} {μ : Mks}
theorem rcs_of {xs : List CV} : ∀ {vs : List V} , Rps CC MM μ H vs (xs.map PV.con) → Rcs H vs xs := by
  induction xs with
  | nil =>
    intro vs h
    cases h
    exact .nil
  | cons x xs ih =>
    intro vs h
    cases h with
    | cons g t =>
      cases g with
      | con g => exact .cons g (ih t)
theorem spot_run {c t i n : Nat} {σ : L2.St} {tx : TE} {us : List V} {xs ys : List PV} {x : PV} {Q : VK} (hx : ∀ H' (Q : VK), Keep a H H' → Q (.ref b) H' → tx σ H' Q) (h0 : σ[0]? = some (some (.ref a))) (hi : σ[i]? = some (some (.int (n : Int)))) (S : Src H a) (W0 : Wm MM μ H)
    (hb : H b = some (.tup us)) (R : Rps CC MM μ H us (xs ++ (x :: ys))) (hn : n = xs.length) (hl : us.length ≤ 900) (kt : ∀ y, x = .con y → kOk y t) (dk : depK x ≤ c) (g : gV 3 200 10 x) (tk : tz x ≤ 50000)
    (q : ∀ p ws l (ν : Mks) H', Keep a H H' → Src H' a → Mks.le μ ν → Wm MM ν H' → H' p = some (.tup ws) → Rps CC MM ν H' ws (xs ++ (l :: ys)) → BX x l → Q (.ref p) H') : t_spot (spBC CC MM c t) tx i σ H Q := by
  have lu := R.length
  rw [List.length_append, List.length_cons] at lu
  have hu : n < us.length := by omega
  have R1 : Rps CC MM μ H (us.take n) xs := by
    have := R.take n
    rw [hn, List.take_left] at this
    rw [hn]
    exact this
  have R2 : Rps CC MM μ H (us.drop (n + 1)) ys := by
    have := R.drop (n + 1)
    rw [hn, show (xs ++ (x :: ys)).drop (xs.length + 1) = ys from by rw [List.drop_append, List.drop_of_length_le (by omega)]; simp] at this
    rw [hn]
    exact this
  have Rx : Rp CC MM μ H us[n] x := R.at (List.getElem?_eq_getElem hu) (by rw [hn]; simp)
  unfold t_spot t_src
  show tOp _ _ _ _ _ _
  rw [r_op]
  rw [r_op]
  rw [r_sl]
  refine hx H _ (Keep.refl a H) ?_
  rw [r_nopart, r_part, r_var]
  refine ⟨_, hi, ?_⟩
  refine ⟨_, rfl, b, us, rfl, hb, fun p1 H1 s1 q1 => ?_⟩
  rw [cut_to (by omega)] at q1
  have k1 : Keep a H H1 := Keep.same s1
  have S1 := S.same s1
  rw [r_tup, r_cons]
  rw [show tCall (spBC CC MM c t) [] E0 (tCons (tVar 0) (tCons (tOp rIxd tx (tVar i)) tNil)) = fun σ H Q => (tCons (tVar 0) (tCons (tOp rIxd tx (tVar i)) tNil)) σ H (fun xs H' => spBC CC MM c t xs H' Q E0) from rfl]
  show tCons _ _ _ _ _
  rw [r_cons, r_var]
  refine ⟨_, h0, ?_⟩
  rw [r_cons, r_op]
  refine hx H1 _ k1 ?_
  rw [r_var]
  refine ⟨_, hi, ?_⟩
  have hb1 := s1 _ _ hb
  refine ⟨b, (n : Int), us, us[n], rfl, rfl, by rw [hb1]; rfl, atI_nat (List.getElem?_eq_getElem hu), ?_⟩
  show (tNil : TA) _ _ _
  rw [r_nil]
  have m1 := Mo.keep S S1 k1
  refine ⟨a, us[n], x, μ, rfl, S1, W0.mo m1, Rx.mo m1 (Mks.le_refl μ), kt, dk, g, tk, fun w l ν H2 k2 S2 lν W2 rw2 bp => ?_⟩
  have m2 := Mo.keep S1 S2 k2
  show (tNil : TA) _ _ _
  rw [r_nil]
  refine ⟨szl (by decide : 1 ≤ 1000), fun p2 hp2 => ?_⟩
  have s3 := Same.new' (o := .tup [w]) (Same.refl H2) hp2
  have S3 := S2.same s3
  have q2 : L2.upd H2 p2 (.tup [w]) p2 = some (.tup [w]) := upd_same
  generalize L2.upd H2 p2 (.tup [w]) = G at *
  have k3 : Keep a H2 G := Keep.same s3
  have hl1 : (us.take n).length + [w].length ≤ 1000 := by
    rw [List.length_take, List.length_singleton]
    omega
  refine ⟨p1, p2, _, _, rfl, rfl, (m2.trans (Mo.same s3)).tup q1, q2, szl hl1, fun p3 H4 s4 q4 => ?_⟩
  have S4 := S3.same s4
  have k4 : Keep a H H4 := (k1.trans k2).trans (k3.trans (Keep.same s4))
  have m4 := Mo.keep S S4 k4
  show tSl _ _ _ _ _ _ _
  rw [r_sl]
  refine hx H4 _ k4 ?_
  rw [r_part, r_op, r_var]
  refine ⟨_, hi, ?_⟩
  rw [r_c]
  refine ⟨(n : Int), 1, rfl, rfl, _, rfl, ?_⟩
  show tNoPart _ _ _
  rw [r_nopart]
  refine ⟨b, us, rfl, m4.tup hb, fun p5 H5 s5 q5 => ?_⟩
  rw [show (n : Int) + 1 = ((n + 1 : Nat) : Int) from by omega, cut_from (by omega)] at q5
  have S5 := S4.same s5
  have k5 : Keep a H H5 := k4.trans (Keep.same s5)
  have m5 := Mo.keep S S5 k5
  have hl2 : (us.take n ++ [w]).length + (us.drop (n + 1)).length ≤ 1000 := by
    rw [List.length_append, List.length_take, List.length_singleton, List.length_drop]
    omega
  refine ⟨p3, p5, _, _, rfl, rfl, s5 _ _ q4, q5, szl hl2, fun p6 H6 s6 q6 => ?_⟩
  have S6 := S5.same s6
  have k6 : Keep a H H6 := k5.trans (Keep.same s6)
  have m6 := Mo.keep S S6 k6
  have m26 : Mo H2 H6 := (Mo.same s3).trans ((Mo.same s4).trans ((Mo.same s5).trans (Mo.same s6)))
  refine q p6 _ l ν H6 k6 S6 lν (W2.mo m26) q6 ?_ bp
  rw [List.append_assoc]
  exact (R1.mo m6 lν).app (.cons (rw2.mo m26 (Mks.le_refl ν)) (R2.mo m6 lν))
end
section
variable {P : Program} {w : World} {K : PySem.W.Frag} {mg : Str → Option Value} {base : Heap} {f : Addr} {fd : FuncData}
abbrev sbcon : Stmt := top 52
theorem scbcon : FnScope ["_law_source", "_law_value", "_law_at"] ["_law_source", "_law_value"] (defScope sbcon) := ⟨rfl, rfl, rfl, by decide +kernel, rfl, by decide +kernel, by decide +kernel⟩

theorem bcon_reads {CC CN MM : Addr} {sp1 sp2 : Sp} {n : Nat} {A : Around} {outer : List Env} {s : Shared} {H : Hp} {E : XK} {cdv : Value} (hn : 6 ≤ n) (T : Txt mg) (I : CodeT K mg CC) (hr : Room n (cxOf CX0 P w K mg base ["_law_source", "_law_value", "_law_at"] "_law_bent_constant" (defScope sbcon) f cdv A outer s H E).nox.A)
    (hu : (cxOf CX0 P w K mg base ["_law_source", "_law_value", "_law_at"] "_law_bent_constant" (defScope sbcon) f cdv A outer s H E).nox.A.units < cLine)
    (C_next : Cal P w K mg base 1 "_law_next" ["_law_source", "_law_many"] spNext) (C_fields : Cal P w K mg base 1 "_law_fields" ["_law_made"] (spFields CC MM)) (CE_code : CalE P w K mg base 6 "_law_code" ["_law_some"] (spLCode CC CN MM))
    (C_bent_constant : Cal P w K mg base n "_law_bent_constant" ["_law_source", "_law_value"] sp1) (C_bent_fields : Cal P w K mg base n "_law_bent_fields" ["_law_source", "_law_some"] sp2)
    : PSs (cxOf CX0 P w K mg base ["_law_source", "_law_value", "_law_at"] "_law_bent_constant" (defScope sbcon) f cdv A outer s H E).nox (defBody sbcon) (t_bcon K CC CN MM sp1 sp2) := by
  unfold t_bcon t_spot t_ofcode t_src
  exact (pss_cons (ps_if (pt_val (pe_callB (call_is_d I.cI) (by rfl) T.b_isinstance (by decide +kernel) (pa_cons (pv 1) (pa_cons (pe_bltn (v := .ty "bool") (by rfl) T.b_bool (by decide +kernel) rfl) pa_nil))))
    (pss_one (ps_ret (pe_callTy call_int1 (by rfl) T.b_int (by decide +kernel) (pa_cons (pv 1) pa_nil))))
    pss_nil)
  (pss_cons (ps_if (pt_val (pe_callB (call_is_d I.cI) (by rfl) T.b_isinstance (by decide +kernel) (pa_cons (pv 1) (pa_cons (pe_bltn (v := .ty "int") (by rfl) T.b_int (by decide +kernel) rfl) pa_nil))))
    (pss_one (ps_ret (pe_ifExp (pt_cmpR op_in_seq (pv 1) (pe_tup (pa_cons pe_int (pa_cons pe_int pa_nil))) (by rfl)) (pe_cmpR op_eq (pv 1) pe_int (nomark _)) (pe_op op_add (pv 1) pe_int))))
    pss_nil)
  (pss_cons (ps_if (PW.pt (pw_and (pt_val (pe_callB (call_is_d I.cI) (by rfl) T.b_isinstance (by decide +kernel) (pa_cons (pv 1) (pa_cons (pe_bltn (v := .ty "tuple") (by rfl) T.b_tuple (by decide +kernel) rfl) pa_nil)))) (pw_and1 (pt_cmpR (op_neE hu) (pv 1) (pe_tup pa_nil) (nomark _)))))
    (pss_cons (ps_set (i := 2) scbcon.nd rfl (Or.inl rfl) (pe_cal C_next (hr.mono (by omega)) rfl (pa_cons (pv 0) (pa_cons (pe_callB call_len_d (by rfl) T.b_len (by decide +kernel) (pa_cons (pv 1) pa_nil)) pa_nil))))
  (pss_one (ps_ret (pe_op op_catW (pe_op op_catW (pe_slice sl_W (pv 1) po_none (po_some (pv 2))) (pe_tup (pa_cons (pe_cal C_bent_constant hr rfl (pa_cons (pv 0) (pa_cons (pe_ix ix_d (pv 1) (pv 2) (fun _ _ => rfl)) pa_nil))) pa_nil))) (pe_slice sl_W (pv 1) (po_some (pe_op op_add (pv 2) pe_int)) po_none)))))
    pss_nil)
  (pss_cons (ps_if (pt_val (pe_callB (call_is_d I.cI) (by rfl) T.b_isinstance (by decide +kernel) (pa_cons (pv 1) (pa_cons (pe_glob (v := .ref _) rfl I.g_Code rfl) pa_nil))))
    (pss_one (ps_ret (pe_calE CE_code (hr.mono (by omega)) rfl LamX.takes0 (fun _ _ _ _ z => z) (pa_cons (pe_cal C_bent_fields hr rfl (pa_cons (pv 0) (pa_cons (pe_cal C_fields (hr.mono (by omega)) rfl (pa_cons (pv 1) pa_nil)) pa_nil))) pa_nil))))
    pss_nil)
  (pss_one (ps_ret (pe_tup (pa_cons (pv 1) pa_nil))))))))
theorem bcon_step {CC CN MM : Addr} {sp1 sp2 : Sp} {c t n : Nat} (hn : 6 ≤ n) (h1 : ∀ j, t = j + 1 → sp1 = spBC CC MM c j) (h2 : ∀ e, c = e + 1 → sp2 = spBF CC MM e) (T : Txt mg) (I : CodeT K mg CC) (F : FnP K "_law_bent_constant" "_law_bent_constant" sbcon f fd) (yes : PySem.W.kitOne K (.ref CC) (.ref CC) = some true) (nb : PySem.W.kitOne K (.ref CC) (.type "bool") = some false) (ni : PySem.W.kitOne K (.ref CC) (.type "int") = some false) (nt : PySem.W.kitOne K (.ref CC) (.type "tuple") = some false)
    (C_next : Cal P w K mg base 1 "_law_next" ["_law_source", "_law_many"] spNext) (C_fields : Cal P w K mg base 1 "_law_fields" ["_law_made"] (spFields CC MM)) (CE_code : CalE P w K mg base 6 "_law_code" ["_law_some"] (spLCode CC CN MM))
    (C_bent_constant : Cal P w K mg base n "_law_bent_constant" ["_law_source", "_law_value"] sp1) (C_bent_fields : Cal P w K mg base n "_law_bent_fields" ["_law_source", "_law_some"] sp2) : FnOk P w K mg base CX0 (n + 1) f fd ["_law_source", "_law_value"] (spBC CC MM c t) := by
  refine F.ok scbcon (fun vs H Q E h => ?_) (fun cdv A outer s H vs Q E hr h => ?_)
  · obtain ⟨a, v, k, μ, rfl, _⟩ := h
    rfl
  · have hu : (cxOf CX0 P w K mg base ["_law_source", "_law_value", "_law_at"] "_law_bent_constant" (defScope sbcon) f cdv A outer s H E).nox.A.units < cLine := by
      have := hr.un
      show (A.deeper (envOfC "_law_bent_constant" (defScope sbcon) s.heap.objs.size f cdv)).units < cLine
      omega
    refine ⟨_, PSs.nox (bcon_reads hn T I hr hu C_next C_fields CE_code C_bent_constant C_bent_fields), ?_⟩
    obtain ⟨a, v, k, μ, rfl, S, W0, R, kt, dk, g, tk, q⟩ := h
    show (_ : TS) _ [some (.ref a), some v, none] H
    unfold t_bcon
    simp only [r_seq, r_next, r_brk, r_cont, r_asg, r_name, r_ret, r_retN, r_drop, r_ifs, r_never, r_var, r_c, r_op, r_un, r_if, r_tst, r_b, r_not, r_and, r_or, r_andV, r_orV, r_notV, r_nil, r_cons, r_tup, r_lst, r_cb, r_call, r_bm, r_bm0, r_sl, r_nopart, r_part, r_rev, r_gnil, r_gcons, r_gsub, r_par, r_aug, r_chain, r_I0, r_I, r_U, r_ixd, r_lend, r_tupd, r_listd, r_sld, r_app, r_ext, r_reverse, r_setl, r_cat, r_int1, r_eqS, r_neS, scal_ii, scal_bb, scal_ss, at0, at1, at2, sq_lst, sq_tup, isLst_lst, List.getElem?_cons_zero, List.getElem?_cons_succ, List.set_cons_zero, List.set_cons_succ, V.int.injEq, V.bl.injEq, V.ref.injEq, V.str.injEq, HO.lst.injEq, HO.tup.injEq, Option.some.injEq, exists_eq_left', exists_eq_left, List.cons.injEq, and_true, true_and, decide_eq_true_eq, reduceCtorEq, false_and, exists_false, or_false, false_or, exists_const, and_assoc, exists_and_left, List.append_nil, ix0, ix1, ix2, cm_mod, cdw1009, cdw2003, cdw7, cdw64, cdw2, cm104729, cm2, cm3, upd_same, List.length_cons, List.length_nil, Int.reduceLT, Int.reduceLE, Nat.reduceAdd, Nat.reduceLeDiff, Nat.reduceLT, Int.reduceToNat, r_for1, r_forL, r_forT, r_lcL, r_lc1, r_yes, r_gtupD, wipe_0, wipe_1, List.cons_append, List.nil_append, r_forS, r_ipI, ite_false, ite_true, Bool.not_true, Bool.not_false, decide_true, decide_false, r_isd, r_islt, cD_ty, cD_ref, tD_non, tD_bl, tD_int, tD_str, tD_ref, tH_lst, tH_tup, tH_dK, tH_ins, ki_self, ki_int_bool, ki_non_int, ki_str_int, ki_lt_lst, ki_lt_tup, r_fld, r_sfld, HO.ins.injEq, cx_K, r_neE]
    cases R with
    | cod ca ta hm =>
      rename_i co m us p ks A'
      obtain ⟨dx, fs, f1, _⟩ := id ca
      have ec : tyD CC H (.ref co) = some (.ref CC) := by simp [tyD, tyH, f1]
      refine ⟨_, ec, false, nb, ?_⟩
      rw [if_neg (by decide)]
      refine ⟨_, ec, false, ni, ?_⟩
      rw [if_neg (by decide)]
      refine ⟨_, ec, false, nt, ?_⟩
      rw [if_neg (by decide)]
      refine ⟨_, ec, true, yes, ?_⟩
      rw [if_pos rfl]
      obtain ⟨e, rfl⟩ : ∃ e, c = e + 1 := by
        unfold depK at dk
        exact ⟨c - 1, by omega⟩
      cases h2 e rfl
      unfold t_ofcode t_src
      simp only [r_seq, r_next, r_brk, r_cont, r_asg, r_name, r_ret, r_retN, r_drop, r_ifs, r_never, r_var, r_c, r_op, r_un, r_if, r_tst, r_b, r_not, r_and, r_or, r_andV, r_orV, r_notV, r_nil, r_cons, r_tup, r_lst, r_cb, r_call, r_bm, r_bm0, r_sl, r_nopart, r_part, r_rev, r_gnil, r_gcons, r_gsub, r_par, r_aug, r_chain, r_I0, r_I, r_U, r_ixd, r_lend, r_tupd, r_listd, r_sld, r_app, r_ext, r_reverse, r_setl, r_cat, r_int1, r_eqS, r_neS, scal_ii, scal_bb, scal_ss, at0, at1, at2, sq_lst, sq_tup, isLst_lst, List.getElem?_cons_zero, List.getElem?_cons_succ, List.set_cons_zero, List.set_cons_succ, V.int.injEq, V.bl.injEq, V.ref.injEq, V.str.injEq, HO.lst.injEq, HO.tup.injEq, Option.some.injEq, exists_eq_left', exists_eq_left, List.cons.injEq, and_true, true_and, decide_eq_true_eq, reduceCtorEq, false_and, exists_false, or_false, false_or, exists_const, and_assoc, exists_and_left, List.append_nil, ix0, ix1, ix2, cm_mod, cdw1009, cdw2003, cdw7, cdw64, cdw2, cm104729, cm2, cm3, upd_same, List.length_cons, List.length_nil, Int.reduceLT, Int.reduceLE, Nat.reduceAdd, Nat.reduceLeDiff, Nat.reduceLT, Int.reduceToNat, r_for1, r_forL, r_forT, r_lcL, r_lc1, r_yes, r_gtupD, wipe_0, wipe_1, List.cons_append, List.nil_append, r_forS, r_ipI, ite_false, ite_true, Bool.not_true, Bool.not_false, decide_true, decide_false, r_isd, r_islt, cD_ty, cD_ref, tD_non, tD_bl, tD_int, tD_str, tD_ref, tH_lst, tH_tup, tH_dK, tH_ins, ki_self, ki_int_bool, ki_non_int, ki_str_int, ki_lt_lst, ki_lt_tup, r_fld, r_sfld, HO.ins.injEq, cx_K]
      unfold gV at g
      obtain ⟨g1, g2, g3, g4⟩ := g
      unfold tz at tk
      unfold depK at dk
      refine ⟨co, p, _, us, A', m, rfl, ca, fun L H1 hL s1 hL1 => ?_⟩
      have S1 := S.same s1
      have c1 := ca.mo (Mo.same s1)
      obtain ⟨_, _, _, _, _, _, _, _, _, _, _, _, _, _, _, _, _, _, _, f18, f19, f20, f21, f22, f23, f24, _⟩ := c1
      refine ⟨a, L, A', p, ks, us, μ, rfl, S1, S.ne hL, W0.mo (Mo.same s1), hL1, ⟨f18, f19, f20, f21, f22, f23, f24, ta.mo (Mo.same s1) (Mks.le_refl μ)⟩, g1, g4, by omega, g2, g3, fun k hk => ?_, fun L' q' ls ν H2 k2 S2 nL lν W2 lf bf => ?_⟩
      · have := dep_mem hk
        omega
      · refine made W2 lf (bf.ok g1) (gVs.mono (by decide) (Nat.le_refl 201) (Nat.le_refl 11) (bf.g (by omega) g4)) (by rw [bf.dp]; exact g3) fun c' ν' H3 hc s3 l3 W3 R3 => ?_
        exact q _ _ ν' H3 ((Keep.same s1).trans (k2.trans (Keep.same s3))) (S2.same s3) (lν.trans l3) W3 R3 ⟨bf.bp, fun x e => nomatch e⟩
    | con hx =>
      rename_i x
      obtain ⟨e1, m1⟩ := hx.kd.ty (CC := CC)
      refine ⟨_, e1, _, kit_B x, ?_⟩
      have gk : kOk x 3 ∧ szC x ≤ 100000 ∧ bOk 200 x := by
        unfold gV at g
        exact g
      have fin : ∀ w y H', Keep a H H' → Src H' a → Rc H' w y → BC x y → Q w H' := fun w y H' k1 S1 r b => q w (.con y) μ H' k1 S1 (Mks.le_refl μ) (W0.mo (Mo.keep S S1 k1)) (.con r) ⟨b.bp, fun z e => by cases e; exact ⟨y, rfl, b⟩⟩
      have wrap : ∀ H', Same H H' → (∀ us, x = .tup us → us = []) → ∀ p, H' p = none → Q (.ref p) (L2.upd H' p (.tup [v])) := fun H' s0 hn p hp => by
        have s1 := Same.new' (o := .tup [v]) s0 hp
        exact fin _ _ _ (Keep.same s1) (S.same s1) (.tup upd_same (.cons (hx.mo (Mo.same s1)) .nil)) (bc_wrap hn)
      cases x with
      | bl b =>
        cases hx
        rw [if_pos (show isB (CV.bl b) = true from rfl)]
        exact .inr ⟨b, rfl, fin _ _ H (Keep.refl a H) S (.int _) bc_bl⟩
      | non =>
        cases hx
        rw [if_neg (by simp [isB])]
        refine ⟨_, e1, false, kit_all (t := "NoneType") (by decide) (by decide), ?_⟩
        rw [if_neg (by decide)]
        refine ⟨_, e1, false, kit_all (t := "NoneType") (by decide) (by decide), ?_⟩
        rw [if_neg (by decide)]
        refine ⟨_, e1, false, I.no _ m1, ?_⟩
        rw [if_neg (by decide)]
        exact ⟨szl (by decide : 1 ≤ 1000), wrap H (Same.refl H) fun us e => nomatch e⟩
      | int i =>
        cases hx
        rw [if_neg (by simp [isB])]
        refine ⟨_, e1, true, ki_self, ?_⟩
        rw [if_pos rfl]
        refine ⟨szl (by decide : 2 ≤ 1000), fun p hp => ⟨p, _, rfl, .inr (SqT.of upd_same), rfl, rfl, ?_⟩⟩
        have sp := Same.new' (o := .tup [.int 0, .int 1]) (Same.refl H) hp
        refine ⟨_, congrArg V.bl (in_01 i), ?_⟩
        by_cases c1 : i = 0 ∨ i = 1
        · rw [if_pos (decide_eq_true c1)]
          refine ⟨rfl, ?_⟩
          rw [show (decide (V.int i = V.int 1)) = decide (i = 1) from by simp]
          exact fin _ _ _ (Keep.same sp) (S.same sp) (.bl _) (bc_01 c1)
        · rw [if_neg (by rw [decide_eq_false c1]; decide)]
          exact ⟨i, rfl, fin _ _ _ (Keep.same sp) (S.same sp) (.int _) bc_int⟩
      | str z =>
        cases hx
        rw [if_neg (by simp [isB])]
        refine ⟨_, e1, false, kit_all (t := "str") (by decide) (by decide), ?_⟩
        rw [if_neg (by decide)]
        refine ⟨_, e1, false, kit_all (t := "str") (by decide) (by decide), ?_⟩
        rw [if_neg (by decide)]
        refine ⟨_, e1, false, I.no _ m1, ?_⟩
        rw [if_neg (by decide)]
        exact ⟨szl (by decide : 1 ≤ 1000), wrap H (Same.refl H) fun us e => nomatch e⟩
      | tup ys =>
        cases hx with
        | tup ha tr =>
          rename_i b us
          rw [if_neg (by simp [isB])]
          refine ⟨_, e1, false, kit_all (t := "tuple") (by decide) (by decide), ?_⟩
          rw [if_neg (by decide)]
          refine ⟨_, e1, true, ki_self, ?_⟩
          rw [if_pos rfl]
          refine ⟨Nat.zero_le _, fun p hp => ?_⟩
          have sp := Same.new' (o := .tup []) (Same.refl H) hp
          have Sp := S.same sp
          refine ⟨b, rfl, us, sp _ _ ha, ?_⟩
          have lu := tr.length
          by_cases c1 : us = []
          · subst c1
            rw [if_neg (by decide)]
            refine ⟨.type "tuple", by simp [tyD, tyH, sp _ _ ha], false, I.no _ (by decide), ?_⟩
            rw [if_neg (by decide)]
            refine ⟨szl (by decide : 1 ≤ 1000), wrap _ sp fun vs e => ?_⟩
            cases e
            cases tr
            rfl
          · rw [if_pos (by cases us with
              | nil => exact absurd rfl c1
              | cons x xs => rfl)]
            unfold t_src
            simp only [r_seq, r_next, r_brk, r_cont, r_asg, r_name, r_ret, r_retN, r_drop, r_ifs, r_never, r_var, r_c, r_op, r_un, r_if, r_tst, r_b, r_not, r_and, r_or, r_andV, r_orV, r_notV, r_nil, r_cons, r_tup, r_lst, r_cb, r_call, r_bm, r_bm0, r_sl, r_nopart, r_part, r_rev, r_gnil, r_gcons, r_gsub, r_par, r_aug, r_chain, r_I0, r_I, r_U, r_ixd, r_lend, r_tupd, r_listd, r_sld, r_app, r_ext, r_reverse, r_setl, r_cat, r_int1, r_eqS, r_neS, scal_ii, scal_bb, scal_ss, at0, at1, at2, sq_lst, sq_tup, isLst_lst, List.getElem?_cons_zero, List.getElem?_cons_succ, List.set_cons_zero, List.set_cons_succ, V.int.injEq, V.bl.injEq, V.ref.injEq, V.str.injEq, HO.lst.injEq, HO.tup.injEq, Option.some.injEq, exists_eq_left', exists_eq_left, List.cons.injEq, and_true, true_and, decide_eq_true_eq, reduceCtorEq, false_and, exists_false, or_false, false_or, exists_const, and_assoc, exists_and_left, List.append_nil, ix0, ix1, ix2, cm_mod, cdw1009, cdw2003, cdw7, cdw64, cdw2, cm104729, cm2, cm3, upd_same, List.length_cons, List.length_nil, Int.reduceLT, Int.reduceLE, Nat.reduceAdd, Nat.reduceLeDiff, Nat.reduceLT, Int.reduceToNat, r_for1, r_forL, r_forT, r_lcL, r_lc1, r_yes, r_gtupD, wipe_0, wipe_1, List.cons_append, List.nil_append, r_forS, r_ipI, ite_false, ite_true, Bool.not_true, Bool.not_false, decide_true, decide_false, r_isd, r_islt, cD_ty, cD_ref, tD_non, tD_bl, tD_int, tD_str, tD_ref, tH_lst, tH_tup, tH_dK, tH_ins, ki_self, ki_int_bool, ki_non_int, ki_str_int, ki_lt_lst, ki_lt_tup, r_fld, r_sfld, HO.ins.injEq, cx_K]
            obtain ⟨j, rfl, kj⟩ : ∃ j, t = j + 1 ∧ kOks ys j := by
              have := kt _ rfl
              unfold kOk at this
              exact this
            cases h1 j rfl
            have l0 : 0 < us.length := by
              cases us with
              | nil => exact absurd rfl c1
              | cons x xs => simp
            have hb2 := gk.2.2
            unfold bOk at hb2
            unfold szC at gk
            refine ⟨us, by rw [sp _ _ ha]; rfl, a, (us.length : Int), rfl, Sp, by omega, ?_, fun r H1 r0 r1 k1 S1 => ?_⟩
            · have : ((1000 : Nat) : Int) < 2 ^ 200 := by decide
              omega
            · obtain ⟨n', rfl⟩ : ∃ n' : Nat, r = (n' : Int) := ⟨r.toNat, by omega⟩
              obtain ⟨xs, x, zs, rfl, hxs⟩ : ∃ xs x zs, ys = xs ++ (x :: zs) ∧ n' = xs.length := ⟨ys.take n', ys[n']'(by omega), ys.drop (n' + 1), by simp, by rw [List.length_take]; omega⟩
              have k2 := (Keep.same sp).trans k1
              have mo := Mo.keep S S1 k2
              have Rc' := rps_con (CC := CC) (MM := MM) (μ := μ) (tr.mo mo)
              rw [List.map_append, List.map_cons] at Rc'
              refine spot_run (c := c) (t := j) (i := 2) (x := .con x) (xs := xs.map PV.con) (ys := zs.map PV.con) (fun H' Q k q => ⟨_, rfl, q⟩) rfl rfl S1 (W0.mo mo) (mo.tup ha) Rc' (by rw [List.length_map]; exact hxs) (by omega) (fun y e => by cases e; exact kOks_iff.mp kj x (by simp)) (by unfold depK; exact Nat.zero_le _) ?_ ?_ fun p' ws l ν H2 k3 S2 lν W2 hp' R2 bx => ?_
              · unfold gV
                have := gk.2.1
                have sx := szC_mem (x := x) (xs := xs ++ (x :: zs)) (by simp)
                have k3 := gk.1
                unfold kOk at k3
                obtain ⟨j', e3, k3⟩ := k3
                exact ⟨(kOks_iff.mp k3 x (by simp)).mono (by omega), by omega, bOks_iff.mp hb2.2 x (by simp)⟩
              · have sx := szC_mem (x := x) (xs := xs ++ (x :: zs)) (by simp)
                unfold tz szC at tk
                unfold tz
                omega
              · obtain ⟨y, rfl, bc⟩ := bx.bc x rfl
                have R3 : Rps CC MM ν H2 ws ((xs ++ (y :: zs)).map PV.con) := by
                  rw [List.map_append, List.map_cons]
                  exact R2
                exact q _ (.con (.tup (xs ++ (y :: zs)))) ν H2 (k2.trans k3) S2 lν W2 (.con (.tup hp' (rcs_of R3))) ⟨(bc_tup bc).bp, fun z e => by cases e; exact ⟨_, rfl, bc_tup bc⟩⟩
end
end C51

set_option maxHeartbeats 2000000
namespace C51
open PySem PySem.Spec PyProof.Rows L2
def t_fd (te : TE) : TE := tOp rIxd (tVar 1) te
def t_put (v : TE) (i : TE) : TS := tAsg v (gSub (tVar 3) i rSetL)
def t_bh : TS := tPar 2 3 (tCons (tCall spOne [] E0 (tCons (tVar 0) (tCons (tLst (tCons (tCall spNext [] E0 (tCons (tVar 0) (tCons (tC (V.int 14)) tNil))) (tCons (tC (V.int 5)) (tCons (tC (V.int 5)) tNil)))) tNil))) (tCons (tCB rListd (tCons (tVar 1) tNil)) tNil))
def t_bN : TS := t_put (tIf (tTest (tOp (rI0 fun i j => V.bl (decide (i < j))) (t_fd (tVar 2)) (tC (V.int 5)))) (tOp (rI0 fun i j => V.int (i + j)) (t_fd (tVar 2)) (tC (V.int 1))) (tOp (rI0 fun i j => V.int (i - j)) (t_fd (tVar 2)) (tC (V.int 1)))) (tVar 2)
def t_bC (sp : Sp) : TS := tSeq (tAsg (tCall spNext [] E0 (tCons (tVar 0) (tCons (tCB rLend (tCons (t_fd (tC (V.int 5))) tNil)) tNil))) (gName 4)) (t_put (t_spot sp (t_fd (tC (V.int 5))) 4) (tC (V.int 5)))
def t_b7 : TS := tAsg (tTup (tCons (tOp rCatW (t_fd (tC (V.int 7))) (tTup (tCons (tC (V.str (Str.ofString "x"))) tNil))) (tCons (tOp rCatW (t_fd (tC (V.int 8))) (tTup (tCons (tC (V.int 32)) tNil))) tNil))) (gTupD 2 (gCons (gSub (tVar 3) (tC (V.int 7)) rSetL) (gCons (gSub (tVar 3) (tC (V.int 8)) rSetL) gNil)))
def t_b8 : TS := t_put (tOp rCatW (tTup (tCons (tOp (rI (fun _ j => 0 < j) fun i j => V.int (i % j)) (tCB (fun xs H Q => (∃ i, xs = [V.int i] ∧ Q (V.int i) H) ∨ ∃ k, xs = [V.bl k] ∧ Q (V.int (if k = true then 1 else 0)) H) (tCons (tOp (rI0 fun i j => V.int (i + j)) (tOp rIxd (t_fd (tC (V.int 8))) (tC (V.int 0))) (tC (V.int 1))) tNil)) (tC (V.int 256))) tNil))
  (tSl rSlW (t_fd (tC (V.int 8))) (tPart (tC (V.int 1))) tNoPart)) (tC (V.int 8))
def t_bA (v : V) : TS := t_put (tOp rCatW (t_fd (tVar 2)) (tTup (tCons (tC v) tNil))) (tVar 2)
def t_bE : TS := t_put (tOp (fun x y H Q => ∃ i j, x = V.str i ∧ y = V.str j ∧ i.length + j.length ≤ sizeLine ∧ Q (V.str (i ++ j)) H) (t_fd (tC (V.int 9))) (tC (V.str (Str.ofString "x")))) (tC (V.int 9))
def t_q1 (K : PySem.W.Frag) : TS := tIfS (tTest (tOp (rIn K false) (tVar 2) (tTup (tCons (tC (V.int 4)) (tCons (tC (V.int 12)) (tCons (tC (V.int 13)) tNil)))))) (t_bA (.int 0))
  (tIfS (tTest (tOp (rIn K false) (tVar 2) (tTup (tCons (tC (V.int 5)) (tCons (tC (V.int 6)) tNil))))) (t_bA (.str (Str.ofString "x"))) t_bE)
def t_q2 (K : PySem.W.Frag) : TS := tIfS (tAnd (tTest (tOp rEq (tVar 2) (tC (V.int 8)))) (tTest (tOp rNeE (t_fd (tC (V.int 7))) (tTup tNil)))) t_b8 (t_q1 K)
def t_q3 (K : PySem.W.Frag) : TS := tIfS (tTest (tOp rEq (tVar 2) (tC (V.int 7)))) t_b7 (t_q2 K)
def t_q4 (K : PySem.W.Frag) (sp : Sp) : TS := tIfS (tAnd (tTest (tOp rEq (tVar 2) (tC (V.int 5)))) (tTest (tOp rNeE (t_fd (tC (V.int 5))) (tTup tNil)))) (t_bC sp) (t_q3 K)
def t_bfs (K : PySem.W.Frag) (sp : Sp) : TS := tIfS (tOr (tTest (tOp (rI0 fun i j => V.bl (decide (i < j))) (tVar 2) (tC (V.int 4)))) (tTest (tOp rEq (tVar 2) (tC (V.int 11))))) t_bN (t_q4 K sp)
def t_bfld (K : PySem.W.Frag) (sp : Sp) : TS := tSeq t_bh (tSeq (t_bfs K sp) (tRet (tVar 3)))
/-- before one field is put in another way -/
structure BE (CC MM a L M : Addr) (A : FP) (p : PF) (ks : List PV) (ws : List V) (μ : Mks) (c : Nat) (H0 H : Hp) : Prop where
  nM : H0 M = none
  k0 : Keep a H0 H
  S : Src H a
  La : L ≠ a
  Ma : M ≠ a
  W : Wm MM μ H
  hL : H L = some (.lst (A.vs p))
  hM : H M = some (.lst (A.vs p))
  R : Rows CC MM μ H A p ks ws
  ok : PfOk 10 p
  g : gVs 3 200 10 ks
  tk : tzs ks ≤ 50000
  kl : ks.length ≤ 10
  kd : ∀ k ∈ ks, depK k ≤ c
section
variable {CC MM a L M : Addr} {A : FP} {p : PF} {ks : List PV} {ws : List V} {μ : Mks} {c : Nat} {H0 H : Hp} {D : Ends} {k : Nat} {s4 : Option V} {K : PySem.W.Frag}
def St5 (a L M : Addr) (k : Nat) (s4 : Option V) : L2.St := [some (.ref a), some (.ref L), some (.int (k : Int)), some (.ref M), s4]
/-- after it -/
def BK (CC MM a L M : Addr) (p : PF) (ks : List PV) (μ : Mks) (k : Nat) (H0 : Hp) (D : Ends) : Prop := ∀ q ls (ν : Mks) s4 H', Keep a H0 H' → Src H' a → Mks.le μ ν → Wm MM ν H' → LfAt CC MM ν H' M q ls → BF p ks q ls → D.nx (St5 a L M k s4) H'
theorem BE.same {H' : Hp} (h : BE CC MM a L M A p ks ws μ c H0 H) (s : Same H H') : BE CC MM a L M A p ks ws μ c H0 H' := ⟨h.nM, h.k0.trans (Keep.same s), h.S.same s, h.La, h.Ma, h.W.mo (Mo.same s), s _ _ h.hL, s _ _ h.hM, h.R.mo (Mo.same s) (Mks.le_refl μ), h.ok, h.g, h.tk, h.kl, h.kd⟩
theorem BE.keep {H' : Hp} (h : BE CC MM a L M A p ks ws μ c H0 H) (s : Keep a H H') (S' : Src H' a) : BE CC MM a L M A p ks ws μ c H0 H' := ⟨h.nM, h.k0.trans s, S', h.La, h.Ma, h.W.mo (Mo.keep h.S S' s), s _ _ h.La h.hL, s _ _ h.Ma h.hM, h.R.mo (Mo.keep h.S S' s) (Mks.le_refl μ), h.ok, h.g, h.tk, h.kl, h.kd⟩
/-- the new list once written -/
theorem BK.fin {A' : FP} {q : PF} {ls : List PV} {us : List V} {ν : Mks} {H' : Hp} {s4 : Option V} (kk : BK CC MM a L M p ks μ k H0 D) (nM : H0 M = none) (Ma : M ≠ a) (k1 : Keep a H0 H') (S1 : Src H' a) (lν : Mks.le μ ν) (W1 : Wm MM ν H') {xs : List V} (hM : H' M = some (.lst xs)) (R : Rows CC MM ν H' A' q ls us) (bf : BF p ks q ls) :
    ∀ zs, zs = A'.vs q → D.nx (St5 a L M k s4) (L2.upd H' M (.lst zs)) := by
  rintro zs rfl
  have m := Mo.upd (ys := A'.vs q) hM
  have hM' : L2.upd H' M (.lst (A'.vs q)) M = some (.lst (A'.vs q)) := upd_same
  have R' := R.mo m (Mks.le_refl ν)
  have sqT : ∀ {q' : Addr} {xs : List V}, L2.upd H' M (.lst (A'.vs q)) q' = some (.tup xs) → sq (L2.upd H' M (.lst (A'.vs q)) q') = some xs := fun h => by rw [h]; rfl
  exact kk q ls ν s4 _ (fun b o n e => by rw [upd_ne (ne_new e nM)]; exact k1 b o n e) (by obtain ⟨x, y, z, e⟩ := S1; exact ⟨x, y, z, by rw [upd_ne (Ne.symm Ma)]; exact e⟩) lν (W1.mo m) ⟨A', us, hM', sqT R'.u, sqT R'.k, sqT R'.n, sqT R'.s, sqT R'.d, sqT R'.t, sqT R'.g, R'.it⟩ bf
theorem bN_run {i : Int} {q : PF} (h : BE CC MM a L M A p ks ws μ c H0 H) (hi : ixN 14 (k : Int) = some k) (ha : atI (A.vs p) (k : Int) = some (.int i)) (hs : (A.vs p).set k (.int (bump i)) = A.vs q) (Rq : Rows CC MM μ H A q ks ws) (bf : BF p ks q ks) (kk : BK CC MM a L M p ks μ k H0 D) : t_bN D (St5 a L M k s4) H := by
  unfold t_bN t_put t_fd St5
  simp only [r_seq, r_next, r_brk, r_cont, r_asg, r_name, r_ret, r_retN, r_drop, r_ifs, r_never, r_var, r_c, r_op, r_un, r_if, r_tst, r_b, r_not, r_and, r_or, r_andV, r_orV, r_notV, r_nil, r_cons, r_tup, r_lst, r_cb, r_call, r_bm, r_bm0, r_sl, r_nopart, r_part, r_rev, r_gnil, r_gcons, r_gsub, r_par, r_aug, r_chain, r_I0, r_I, r_U, r_ixd, r_lend, r_tupd, r_listd, r_sld, r_app, r_ext, r_reverse, r_setl, r_cat, r_int1, r_eqS, r_neS, scal_ii, scal_bb, scal_ss, at0, at1, at2, sq_lst, sq_tup, isLst_lst, List.getElem?_cons_zero, List.getElem?_cons_succ, List.set_cons_zero, List.set_cons_succ, V.int.injEq, V.bl.injEq, V.ref.injEq, V.str.injEq, HO.lst.injEq, HO.tup.injEq, Option.some.injEq, exists_eq_left', exists_eq_left, List.cons.injEq, and_true, true_and, decide_eq_true_eq, reduceCtorEq, false_and, exists_false, or_false, false_or, exists_const, and_assoc, exists_and_left, List.append_nil, ix0, ix1, ix2, cm_mod, cdw1009, cdw2003, cdw7, cdw64, cdw2, cm104729, cm2, cm3, upd_same, List.length_cons, List.length_nil, Int.reduceLT, Int.reduceLE, Nat.reduceAdd, Nat.reduceLeDiff, Nat.reduceLT, Int.reduceToNat, r_for1, r_forL, r_forT, r_lcL, r_lc1, r_yes, r_gtupD, wipe_0, wipe_1, List.cons_append, List.nil_append, r_forS, r_ipI, ite_false, ite_true, Bool.not_true, Bool.not_false, decide_true, decide_false, r_isd, r_islt, cD_ty, cD_ref, tD_non, tD_bl, tD_int, tD_str, tD_ref, tH_lst, tH_tup, tH_dK, tH_ins, ki_self, ki_int_bool, ki_non_int, ki_str_int, ki_lt_lst, ki_lt_tup, r_fld, r_sfld, HO.ins.injEq, cx_K]
  refine ⟨_, by rw [h.hL]; rfl, _, ha, i, rfl, ?_⟩
  by_cases c5 : i < 5
  · rw [if_pos c5]
    refine ⟨_, by rw [h.hL]; rfl, _, ha, i, rfl, _, h.hM, k, hi, ?_⟩
    exact kk.fin h.nM h.Ma h.k0 h.S (Mks.le_refl μ) h.W h.hM Rq bf _ (by rw [← hs]; unfold bump; rw [if_pos c5])
  · rw [if_neg c5]
    refine ⟨_, by rw [h.hL]; rfl, _, ha, i, rfl, _, h.hM, k, hi, ?_⟩
    exact kk.fin h.nM h.Ma h.k0 h.S (Mks.le_refl μ) h.W h.hM Rq bf _ (by rw [← hs]; unfold bump; rw [if_neg c5])
theorem bA_run {v : V} {t : Addr} {us ws' : List V} {A' : Addr → FP} {q : PF} {ls : List PV} (h : BE CC MM a L M A p ks ws μ c H0 H) (hi : ixN 14 (k : Int) = some k) (ha : atI (A.vs p) (k : Int) = some (.ref t)) (ht : H t = some (.tup us)) (hl : us.length ≤ 900) (hs : ∀ t', (A.vs p).set k (.ref t') = (A' t').vs q) (Rq : ∀ t' H', Same H H' → H' t' = some (.tup (us ++ [v])) → Rows CC MM μ H' (A' t') q ls ws') (bf : BF p ks q ls)
    (kk : BK CC MM a L M p ks μ k H0 D) : t_bA v D (St5 a L M k s4) H := by
  unfold t_bA t_put t_fd St5
  simp only [r_seq, r_next, r_brk, r_cont, r_asg, r_name, r_ret, r_retN, r_drop, r_ifs, r_never, r_var, r_c, r_op, r_un, r_if, r_tst, r_b, r_not, r_and, r_or, r_andV, r_orV, r_notV, r_nil, r_cons, r_tup, r_lst, r_cb, r_call, r_bm, r_bm0, r_sl, r_nopart, r_part, r_rev, r_gnil, r_gcons, r_gsub, r_par, r_aug, r_chain, r_I0, r_I, r_U, r_ixd, r_lend, r_tupd, r_listd, r_sld, r_app, r_ext, r_reverse, r_setl, r_cat, r_int1, r_eqS, r_neS, scal_ii, scal_bb, scal_ss, at0, at1, at2, sq_lst, sq_tup, isLst_lst, List.getElem?_cons_zero, List.getElem?_cons_succ, List.set_cons_zero, List.set_cons_succ, V.int.injEq, V.bl.injEq, V.ref.injEq, V.str.injEq, HO.lst.injEq, HO.tup.injEq, Option.some.injEq, exists_eq_left', exists_eq_left, List.cons.injEq, and_true, true_and, decide_eq_true_eq, reduceCtorEq, false_and, exists_false, or_false, false_or, exists_const, and_assoc, exists_and_left, List.append_nil, ix0, ix1, ix2, cm_mod, cdw1009, cdw2003, cdw7, cdw64, cdw2, cm104729, cm2, cm3, upd_same, List.length_cons, List.length_nil, Int.reduceLT, Int.reduceLE, Nat.reduceAdd, Nat.reduceLeDiff, Nat.reduceLT, Int.reduceToNat, r_for1, r_forL, r_forT, r_lcL, r_lc1, r_yes, r_gtupD, wipe_0, wipe_1, List.cons_append, List.nil_append, r_forS, r_ipI, ite_false, ite_true, Bool.not_true, Bool.not_false, decide_true, decide_false, r_isd, r_islt, cD_ty, cD_ref, tD_non, tD_bl, tD_int, tD_str, tD_ref, tH_lst, tH_tup, tH_dK, tH_ins, ki_self, ki_int_bool, ki_non_int, ki_str_int, ki_lt_lst, ki_lt_tup, r_fld, r_sfld, HO.ins.injEq, cx_K, r_catW]
  refine ⟨_, by rw [h.hL]; rfl, _, ha, szl (by decide : 1 ≤ 1000), fun p1 hp1 => ⟨t, rfl, us, ?_, ?_⟩⟩
  · rw [upd_ne (ne_new ht hp1)]
    exact ht
  · refine ⟨szl (by omega : _ ≤ 1000), fun p2 H2 s2 q2 => ?_⟩
    have s1 := Same.new' (o := .tup [v]) (Same.refl H) hp1
    have s12 : Same H H2 := fun x o e => s2 x o (s1 x o e)
    have h2 := h.same s12
    refine ⟨_, h2.hM, k, hi, ?_⟩
    exact kk.fin h2.nM h2.Ma h2.k0 h2.S (Mks.le_refl μ) h2.W h2.hM (Rq p2 H2 s12 q2) bf _ (hs p2)
theorem bE_run (h : BE CC MM a L M A p ks ws μ c H0 H) (kk : BK CC MM a L M p ks μ k H0 D) : t_bE D (St5 a L M k s4) H := by
  unfold t_bE t_put t_fd St5
  simp only [r_seq, r_next, r_brk, r_cont, r_asg, r_name, r_ret, r_retN, r_drop, r_ifs, r_never, r_var, r_c, r_op, r_un, r_if, r_tst, r_b, r_not, r_and, r_or, r_andV, r_orV, r_notV, r_nil, r_cons, r_tup, r_lst, r_cb, r_call, r_bm, r_bm0, r_sl, r_nopart, r_part, r_rev, r_gnil, r_gcons, r_gsub, r_par, r_aug, r_chain, r_I0, r_I, r_U, r_ixd, r_lend, r_tupd, r_listd, r_sld, r_app, r_ext, r_reverse, r_setl, r_cat, r_int1, r_eqS, r_neS, scal_ii, scal_bb, scal_ss, at0, at1, at2, sq_lst, sq_tup, isLst_lst, List.getElem?_cons_zero, List.getElem?_cons_succ, List.set_cons_zero, List.set_cons_succ, V.int.injEq, V.bl.injEq, V.ref.injEq, V.str.injEq, HO.lst.injEq, HO.tup.injEq, Option.some.injEq, exists_eq_left', exists_eq_left, List.cons.injEq, and_true, true_and, decide_eq_true_eq, reduceCtorEq, false_and, exists_false, or_false, false_or, exists_const, and_assoc, exists_and_left, List.append_nil, ix0, ix1, ix2, cm_mod, cdw1009, cdw2003, cdw7, cdw64, cdw2, cm104729, cm2, cm3, upd_same, List.length_cons, List.length_nil, Int.reduceLT, Int.reduceLE, Nat.reduceAdd, Nat.reduceLeDiff, Nat.reduceLT, Int.reduceToNat, r_for1, r_forL, r_forT, r_lcL, r_lc1, r_yes, r_gtupD, wipe_0, wipe_1, List.cons_append, List.nil_append, r_forS, r_ipI, ite_false, ite_true, Bool.not_true, Bool.not_false, decide_true, decide_false, r_isd, r_islt, cD_ty, cD_ref, tD_non, tD_bl, tD_int, tD_str, tD_ref, tH_lst, tH_tup, tH_dK, tH_ins, ki_self, ki_int_bool, ki_non_int, ki_str_int, ki_lt_lst, ki_lt_tup, r_fld, r_sfld, HO.ins.injEq, cx_K]
  have l1 := h.ok.z1.1
  refine ⟨_, by rw [h.hL]; rfl, _, rfl, _, rfl, ?_, _, h.hM, 9, rfl, ?_⟩
  · refine Nat.le_trans (?_ : _ ≤ 1000) (by decide)
    have : ("x" : Str).length = 1 := rfl
    omega
  · exact kk.fin (A' := A) (q := { p with z1 := p.z1 ++ "x" }) h.nM h.Ma h.k0 h.S (Mks.le_refl μ) h.W h.hM ⟨h.R.u, h.R.k, h.R.n, h.R.s, h.R.d, h.R.t, h.R.g, h.R.it⟩ (bf_pf (fun e => str_x_ne p.z1 (congrArg PF.z1 e)) fun o => { o.mono (by decide : 10 ≤ 11) with z1 := txt_x (by decide) o.z1 }) _ rfl
theorem bC_run (h : BE CC MM a L M A p ks ws μ c H0 H) (hw : ws ≠ []) (kk : BK CC MM a L M p ks μ k H0 D) : t_bC (spBC CC MM c 3) D (St5 a L M k s4) H := by
  unfold t_bC t_put t_fd St5
  rw [r_seq]
  simp only [r_seq, r_next, r_brk, r_cont, r_asg, r_name, r_ret, r_retN, r_drop, r_ifs, r_never, r_var, r_c, r_op, r_un, r_if, r_tst, r_b, r_not, r_and, r_or, r_andV, r_orV, r_notV, r_nil, r_cons, r_tup, r_lst, r_cb, r_call, r_bm, r_bm0, r_sl, r_nopart, r_part, r_rev, r_gnil, r_gcons, r_gsub, r_par, r_aug, r_chain, r_I0, r_I, r_U, r_ixd, r_lend, r_tupd, r_listd, r_sld, r_app, r_ext, r_reverse, r_setl, r_cat, r_int1, r_eqS, r_neS, scal_ii, scal_bb, scal_ss, at0, at1, at2, sq_lst, sq_tup, isLst_lst, List.getElem?_cons_zero, List.getElem?_cons_succ, List.set_cons_zero, List.set_cons_succ, V.int.injEq, V.bl.injEq, V.ref.injEq, V.str.injEq, HO.lst.injEq, HO.tup.injEq, Option.some.injEq, exists_eq_left', exists_eq_left, List.cons.injEq, and_true, true_and, decide_eq_true_eq, reduceCtorEq, false_and, exists_false, or_false, false_or, exists_const, and_assoc, exists_and_left, List.append_nil, ix0, ix1, ix2, cm_mod, cdw1009, cdw2003, cdw7, cdw64, cdw2, cm104729, cm2, cm3, upd_same, List.length_cons, List.length_nil, Int.reduceLT, Int.reduceLE, Nat.reduceAdd, Nat.reduceLeDiff, Nat.reduceLT, Int.reduceToNat, r_for1, r_forL, r_forT, r_lcL, r_lc1, r_yes, r_gtupD, wipe_0, wipe_1, List.cons_append, List.nil_append, r_forS, r_ipI, ite_false, ite_true, Bool.not_true, Bool.not_false, decide_true, decide_false, r_isd, r_islt, cD_ty, cD_ref, tD_non, tD_bl, tD_int, tD_str, tD_ref, tH_lst, tH_tup, tH_dK, tH_ins, ki_self, ki_int_bool, ki_non_int, ki_str_int, ki_lt_lst, ki_lt_tup, r_fld, r_sfld, HO.ins.injEq, cx_K]
  have lk := h.R.it.length
  have l0 : 0 < ws.length := by
    cases ws with
    | nil => exact absurd rfl hw
    | cons x xs => simp
  have kl := h.kl
  refine ⟨_, by rw [h.hL]; rfl, _, rfl, A.pk, rfl, ws, by rw [h.R.k]; rfl, a, (ws.length : Int), rfl, h.S, by omega, ?_, fun r H1 r0 r1 k1 S1 => ?_⟩
  · have : ((1000 : Nat) : Int) < 2 ^ 200 := by decide
    omega
  · obtain ⟨n', rfl⟩ : ∃ n' : Nat, r = (n' : Int) := ⟨r.toNat, by omega⟩
    obtain ⟨xs, x, zs, rfl, hxs⟩ : ∃ xs x zs, ks = xs ++ (x :: zs) ∧ n' = xs.length := ⟨ks.take n', ks[n']'(by omega), ks.drop (n' + 1), by simp, by rw [List.length_take]; omega⟩
    have h1 := h.keep k1 S1
    have gx := gVs_iff.mp h.g x (by simp)
    have tx := tz_mem (k := x) (ks := xs ++ (x :: zs)) (by simp)
    have tk := h.tk
    refine spot_run (b := A.pk) (fun H' Q k q => ⟨.ref L, rfl, L, 5, _, .ref A.pk, rfl, rfl, by rw [k _ _ h.La h1.hL]; rfl, rfl, q⟩) rfl rfl S1 h1.W h1.R.k h1.R.it hxs (by omega) (fun y e => by subst e; unfold gV at gx; exact gx.1) (h.kd x (by simp)) gx (by omega) fun p' ws' l ν H2 k2 S2 lν W2 hp' R2 bx => ?_
    have h2 := h1.keep k2 S2
    refine ⟨_, h2.hM, 5, rfl, ?_⟩
    exact kk.fin (A' := { A with pk := p' }) (q := p) h2.nM h2.Ma h2.k0 S2 lν W2 h2.hM ⟨h2.R.u, hp', h2.R.n, h2.R.s, h2.R.d, h2.R.t, h2.R.g, R2⟩ (bf_set bx.bp) _ rfl
theorem b7_run (h : BE CC MM a L M A p ks ws μ c H0 H) (kk : BK CC MM a L M p ks μ k H0 D) : t_b7 D (St5 a L M k s4) H := by
  unfold t_b7 t_fd St5
  simp only [r_seq, r_next, r_brk, r_cont, r_asg, r_name, r_ret, r_retN, r_drop, r_ifs, r_never, r_var, r_c, r_op, r_un, r_if, r_tst, r_b, r_not, r_and, r_or, r_andV, r_orV, r_notV, r_nil, r_cons, r_tup, r_lst, r_cb, r_call, r_bm, r_bm0, r_sl, r_nopart, r_part, r_rev, r_gnil, r_gcons, r_gsub, r_par, r_aug, r_chain, r_I0, r_I, r_U, r_ixd, r_lend, r_tupd, r_listd, r_sld, r_app, r_ext, r_reverse, r_setl, r_cat, r_int1, r_eqS, r_neS, scal_ii, scal_bb, scal_ss, at0, at1, at2, sq_lst, sq_tup, isLst_lst, List.getElem?_cons_zero, List.getElem?_cons_succ, List.set_cons_zero, List.set_cons_succ, V.int.injEq, V.bl.injEq, V.ref.injEq, V.str.injEq, HO.lst.injEq, HO.tup.injEq, Option.some.injEq, exists_eq_left', exists_eq_left, List.cons.injEq, and_true, true_and, decide_eq_true_eq, reduceCtorEq, false_and, exists_false, or_false, false_or, exists_const, and_assoc, exists_and_left, List.append_nil, ix0, ix1, ix2, cm_mod, cdw1009, cdw2003, cdw7, cdw64, cdw2, cm104729, cm2, cm3, upd_same, List.length_cons, List.length_nil, Int.reduceLT, Int.reduceLE, Nat.reduceAdd, Nat.reduceLeDiff, Nat.reduceLT, Int.reduceToNat, r_for1, r_forL, r_forT, r_lcL, r_lc1, r_yes, r_gtupD, wipe_0, wipe_1, List.cons_append, List.nil_append, r_forS, r_ipI, ite_false, ite_true, Bool.not_true, Bool.not_false, decide_true, decide_false, r_isd, r_islt, cD_ty, cD_ref, tD_non, tD_bl, tD_int, tD_str, tD_ref, tH_lst, tH_tup, tH_dK, tH_ins, ki_self, ki_int_bool, ki_non_int, ki_str_int, ki_lt_lst, ki_lt_tup, r_fld, r_sfld, HO.ins.injEq, cx_K, r_catW]
  have l7 := h.ok.ss.2
  have l8 := h.ok.kds.2
  refine ⟨_, by rw [h.hL]; rfl, _, rfl, szl (by decide : 1 ≤ 1000), fun p1 hp1 => ?_⟩
  have s1 := Same.new' (o := .tup [.str "x"]) (Same.refl H) hp1
  refine ⟨A.ps, rfl, _, s1 _ _ h.R.s, szl (by rw [List.length_map]; omega : _ ≤ 1000), fun p2 H2 s2 q2 => ?_⟩
  have s12 : Same H H2 := fun x o e => s2 x o (s1 x o e)
  have h2 := h.same s12
  refine ⟨_, by rw [h2.hL]; rfl, _, rfl, szl (by decide : 1 ≤ 1000), fun p3 hp3 => ?_⟩
  have s3 := Same.new' (o := .tup [.int 32]) (Same.refl H2) hp3
  refine ⟨A.pd, rfl, _, s3 _ _ h2.R.d, szl (by rw [vn_len]; omega : _ ≤ 1000), fun p4 H4 s4 q4 => ?_⟩
  have s34 : Same H2 H4 := fun x o e => s4 x o (s3 x o e)
  refine ⟨szl (by decide : 2 ≤ 1000), fun p5 hp5 => ?_⟩
  have s5 := Same.new' (o := .tup [.ref p2, .ref p4]) (Same.refl H4) hp5
  have h5 := (h2.same s34).same s5
  have q2' := s5 _ _ (s34 _ _ q2)
  have q4' := s5 _ _ q4
  generalize L2.upd H4 p5 (.tup [.ref p2, .ref p4]) = G at *
  refine ⟨_, h5.hM, 7, rfl, 8, rfl, ?_⟩
  have m6 := Mo.upd (ys := (A.vs p).set 7 (.ref p2)) h5.hM
  have R6 := h5.R.mo m6 (Mks.le_refl μ)
  have S6 : Src (L2.upd G M (.lst ((A.vs p).set 7 (.ref p2)))) a := by
    obtain ⟨x, y, z, e⟩ := h5.S
    exact ⟨x, y, z, by rw [upd_ne (Ne.symm h5.Ma)]; exact e⟩
  have ex : ("x" : Str) = Str.ofString "x" := rfl
  refine kk.fin (A' := { A with ps := p2, pd := p4 }) (q := { p with ss := p.ss ++ [("x" : Str)], kds := p.kds ++ [32] }) h5.nM h5.Ma (fun b o n e => by rw [upd_ne (ne_new e h5.nM)]; exact h5.k0 b o n e) S6 (Mks.le_refl μ) (h5.W.mo m6) upd_same ⟨R6.u, R6.k, R6.n, ?_, ?_, R6.t, R6.g, R6.it⟩ (bf_pf (fun e => ?_) fun o => { o.mono (by decide : 10 ≤ 11) with ss := ⟨fun z hz => ?_, ?_⟩, kds := ⟨fun y hy => ?_, ?_⟩, kl := ?_ }) _ rfl
  · rw [List.map_append]
    exact m6.tup q2'
  · rw [show vn (p.kds ++ [32]) = vn p.kds ++ [.int 32] from by unfold vn; rw [List.map_append]; rfl]
    exact m6.tup q4'
  · have := congrArg (fun q => q.ss.length) e
    simp at this
  · rcases List.mem_append.mp hy with hy | hy
    · exact o.kds.1 y hy
    · rw [List.mem_singleton.mp hy]
      decide
  · rw [List.length_append, List.length_singleton]
    omega
  · rcases List.mem_append.mp hz with hz | hz
    · exact (o.ss.1 z hz).mono (by decide)
    · rw [List.mem_singleton.mp hz]
      exact x_ok
  · rw [List.length_append, List.length_singleton]
    omega
  · rw [List.length_append, List.length_append, o.kl]
    rfl
theorem b8_run (h : BE CC MM a L M A p ks ws μ c H0 H) (hss : p.ss ≠ []) (kk : BK CC MM a L M p ks μ k H0 D) : t_b8 D (St5 a L M k s4) H := by
  unfold t_b8 t_put t_fd St5
  simp only [r_seq, r_next, r_brk, r_cont, r_asg, r_name, r_ret, r_retN, r_drop, r_ifs, r_never, r_var, r_c, r_op, r_un, r_if, r_tst, r_b, r_not, r_and, r_or, r_andV, r_orV, r_notV, r_nil, r_cons, r_tup, r_lst, r_cb, r_call, r_bm, r_bm0, r_sl, r_nopart, r_part, r_rev, r_gnil, r_gcons, r_gsub, r_par, r_aug, r_chain, r_I0, r_I, r_U, r_ixd, r_lend, r_tupd, r_listd, r_sld, r_app, r_ext, r_reverse, r_setl, r_cat, r_int1, r_eqS, r_neS, scal_ii, scal_bb, scal_ss, at0, at1, at2, sq_lst, sq_tup, isLst_lst, List.getElem?_cons_zero, List.getElem?_cons_succ, List.set_cons_zero, List.set_cons_succ, V.int.injEq, V.bl.injEq, V.ref.injEq, V.str.injEq, HO.lst.injEq, HO.tup.injEq, Option.some.injEq, exists_eq_left', exists_eq_left, List.cons.injEq, and_true, true_and, decide_eq_true_eq, reduceCtorEq, false_and, exists_false, or_false, false_or, exists_const, and_assoc, exists_and_left, List.append_nil, ix0, ix1, ix2, cm_mod, cdw1009, cdw2003, cdw7, cdw64, cdw2, cm104729, cm2, cm3, upd_same, List.length_cons, List.length_nil, Int.reduceLT, Int.reduceLE, Nat.reduceAdd, Nat.reduceLeDiff, Nat.reduceLT, Int.reduceToNat, r_for1, r_forL, r_forT, r_lcL, r_lc1, r_yes, r_gtupD, wipe_0, wipe_1, List.cons_append, List.nil_append, r_forS, r_ipI, ite_false, ite_true, Bool.not_true, Bool.not_false, decide_true, decide_false, r_isd, r_islt, cD_ty, cD_ref, tD_non, tD_bl, tD_int, tD_str, tD_ref, tH_lst, tH_tup, tH_dK, tH_ins, ki_self, ki_int_bool, ki_non_int, ki_str_int, ki_lt_lst, ki_lt_tup, r_fld, r_sfld, HO.ins.injEq, cx_K, r_catW, r_slW]
  obtain ⟨n0, rest, e0⟩ : ∃ n0 rest, p.kds = n0 :: rest := by
    have := h.ok.kl
    cases e : p.kds with
    | nil =>
      rw [e] at this
      exact absurd (List.length_eq_zero_iff.mp this.symm) hss
    | cons x xs => exact ⟨x, xs, rfl⟩
  have l8 := h.ok.kds.2
  have b8 := h.ok.kds.1
  rw [e0] at l8 b8
  rw [List.length_cons] at l8
  have d8 := h.R.d
  rw [e0] at d8
  refine ⟨_, by rw [h.hL]; rfl, _, rfl, A.pd, rfl, vn (n0 :: rest), by rw [d8]; rfl, .int (n0 : Int), at0, _, rfl, szl (by decide : 1 ≤ 1000), fun p1 hp1 => ?_⟩
  have s1 := Same.new' (o := .tup [.int (((n0 : Int) + 1) % 256)]) (Same.refl H) hp1
  have h1 := h.same s1
  have q1 : L2.upd H p1 (.tup [.int (((n0 : Int) + 1) % 256)]) p1 = some (.tup [.int (((n0 : Int) + 1) % 256)]) := upd_same
  generalize L2.upd H p1 (.tup [.int (((n0 : Int) + 1) % 256)]) = G at *
  have e1 : cutV (vn (n0 :: rest)) (some 1) none = vn rest := cut_tail _ _
  refine ⟨_, by rw [h1.hL]; rfl, _, rfl, A.pd, rfl, _, s1 _ _ d8, fun p2 H2 s2 q2 => ?_⟩
  rw [e1] at q2
  refine ⟨_, s2 _ _ q1, _, q2, szl (by rw [vn_len, List.length_singleton]; omega : _ ≤ 1000), fun p3 H3 s3 q3 => ?_⟩
  have h3 := (h1.same s2).same s3
  refine ⟨_, h3.hM, 8, rfl, ?_⟩
  have hn := b8 n0 (by simp)
  have e3 : [V.int (((n0 : Int) + 1) % 256)] ++ vn rest = vn (((n0 + 1) % 256) :: rest) := by
    show _ = V.int _ :: vn rest
    rw [List.singleton_append, show (((n0 + 1) % 256 : Nat) : Int) = ((n0 : Int) + 1) % 256 from by omega]
  rw [e3] at q3
  refine kk.fin (A' := { A with pd := p3 }) (q := { p with kds := ((n0 + 1) % 256) :: rest }) h3.nM h3.Ma h3.k0 h3.S (Mks.le_refl μ) h3.W h3.hM ⟨h3.R.u, h3.R.k, h3.R.n, h3.R.s, q3, h3.R.t, h3.R.g, h3.R.it⟩ (bf_pf (fun e => ?_) fun o => { o.mono (by decide : 10 ≤ 11) with kds := ⟨fun y hy => ?_, ?_⟩, kl := ?_ }) _ rfl
  · have := congrArg PF.kds e
    rw [e0] at this
    have := (List.cons.inj this).1
    omega
  · rcases List.mem_cons.mp hy with rfl | hy
    · omega
    · exact b8 y (by simp [hy])
  · rw [List.length_cons]
    omega
  · have := o.kl
    rw [e0] at this
    exact this
theorem in_c : ∀ k : Nat, k < 14 → inV (V.int (k : Int)) [.int 4, .int 12, .int 13] = decide (k = 4 ∨ k = 12 ∨ k = 13) := by decide +kernel
theorem in_d : ∀ k : Nat, k < 14 → inV (V.int (k : Int)) [.int 5, .int 6] = decide (k = 5 ∨ k = 6) := by decide +kernel
theorem ne_emp {xs : List V} (h : ¬ xs = []) : (!xs.isEmpty) = true := by
  cases xs with
  | nil => exact absurd rfl h
  | cons x xs => rfl
theorem vn_0 {ns : List Nat} : vn (ns ++ [0]) = vn ns ++ [.int 0] := by
  unfold vn
  rw [List.map_append]
  rfl
theorem by_0 {n : Nat} {ns : List Nat} (h : (∀ x ∈ ns, x < 256) ∧ ns.length ≤ n) : (∀ x ∈ ns ++ [0], x < 256) ∧ (ns ++ [0]).length ≤ n + 1 := by
  refine ⟨fun y hy => ?_, ?_⟩
  · rcases List.mem_append.mp hy with hy | hy
    · exact h.1 y hy
    · rw [List.mem_singleton.mp hy]
      decide
  · rw [List.length_append, List.length_singleton]
    have := h.2
    omega
theorem app_ne {α : Type} {xs : List α} {x : α} (h : xs = xs ++ [x]) : False := by
  have := congrArg List.length h
  simp at this
theorem q1_run (hk : k < 14) (h : BE CC MM a L M A p ks ws μ c H0 H) (kk : BK CC MM a L M p ks μ k H0 D) : t_q1 K D (St5 a L M k s4) H := by
  unfold t_q1 St5
  simp only [r_seq, r_next, r_brk, r_cont, r_asg, r_name, r_ret, r_retN, r_drop, r_ifs, r_never, r_var, r_c, r_op, r_un, r_if, r_tst, r_b, r_not, r_and, r_or, r_andV, r_orV, r_notV, r_nil, r_cons, r_tup, r_lst, r_cb, r_call, r_bm, r_bm0, r_sl, r_nopart, r_part, r_rev, r_gnil, r_gcons, r_gsub, r_par, r_aug, r_chain, r_I0, r_I, r_U, r_ixd, r_lend, r_tupd, r_listd, r_sld, r_app, r_ext, r_reverse, r_setl, r_cat, r_int1, r_eqS, r_neS, scal_ii, scal_bb, scal_ss, at0, at1, at2, sq_lst, sq_tup, isLst_lst, List.getElem?_cons_zero, List.getElem?_cons_succ, List.set_cons_zero, List.set_cons_succ, V.int.injEq, V.bl.injEq, V.ref.injEq, V.str.injEq, HO.lst.injEq, HO.tup.injEq, Option.some.injEq, exists_eq_left', exists_eq_left, List.cons.injEq, and_true, true_and, decide_eq_true_eq, reduceCtorEq, false_and, exists_false, or_false, false_or, exists_const, and_assoc, exists_and_left, List.append_nil, ix0, ix1, ix2, cm_mod, cdw1009, cdw2003, cdw7, cdw64, cdw2, cm104729, cm2, cm3, upd_same, List.length_cons, List.length_nil, Int.reduceLT, Int.reduceLE, Nat.reduceAdd, Nat.reduceLeDiff, Nat.reduceLT, Int.reduceToNat, r_for1, r_forL, r_forT, r_lcL, r_lc1, r_yes, r_gtupD, wipe_0, wipe_1, List.cons_append, List.nil_append, r_forS, r_ipI, ite_false, ite_true, Bool.not_true, Bool.not_false, decide_true, decide_false, r_isd, r_islt, cD_ty, cD_ref, tD_non, tD_bl, tD_int, tD_str, tD_ref, tH_lst, tH_tup, tH_dK, tH_ins, ki_self, ki_int_bool, ki_non_int, ki_str_int, ki_lt_lst, ki_lt_tup, r_fld, r_sfld, HO.ins.injEq, cx_K]
  refine ⟨szl (by decide : 3 ≤ 1000), fun p1 hp1 => ⟨p1, _, rfl, .inr (SqT.of upd_same), rfl, rfl, ?_⟩⟩
  have s1 := Same.new' (o := .tup [.int 4, .int 12, .int 13]) (Same.refl H) hp1
  have h1 := h.same s1
  generalize L2.upd H p1 (.tup [.int 4, .int 12, .int 13]) = G at *
  refine ⟨_, congrArg V.bl (in_c k hk), ?_⟩
  by_cases c3 : k = 4 ∨ k = 12 ∨ k = 13
  · rw [if_pos (decide_eq_true c3)]
    rcases c3 with rfl | rfl | rfl
    · have l := h.ok.ds.2
      refine bA_run (k := 4) (A' := fun t => { A with pu := t }) (q := { p with ds := p.ds ++ [0] }) (us := vn p.ds) (ws' := ws) h1 rfl rfl h1.R.u (by rw [vn_len]; omega) (fun _ => rfl) (fun t' H' s e => ?_) (bf_pf (fun e => app_ne (congrArg PF.ds e)) fun o => { o.mono (by decide : 10 ≤ 11) with ds := by_0 o.ds }) kk
      have R := (h1.same s).R
      exact ⟨by rw [vn_0]; exact e, R.k, R.n, R.s, R.d, R.t, R.g, R.it⟩
    · have l := h.ok.lns.2
      refine bA_run (k := 12) (A' := fun t => { A with pt := t }) (q := { p with lns := p.lns ++ [0] }) (us := vn p.lns) (ws' := ws) h1 rfl rfl h1.R.t (by rw [vn_len]; omega) (fun _ => rfl) (fun t' H' s e => ?_) (bf_pf (fun e => app_ne (congrArg PF.lns e)) fun o => { o.mono (by decide : 10 ≤ 11) with lns := by_0 o.lns }) kk
      have R := (h1.same s).R
      exact ⟨R.u, R.k, R.n, R.s, R.d, by rw [vn_0]; exact e, R.g, R.it⟩
    · have l := h.ok.gds.2
      refine bA_run (k := 13) (A' := fun t => { A with pg := t }) (q := { p with gds := p.gds ++ [0] }) (us := vn p.gds) (ws' := ws) h1 rfl rfl h1.R.g (by rw [vn_len]; omega) (fun _ => rfl) (fun t' H' s e => ?_) (bf_pf (fun e => app_ne (congrArg PF.gds e)) fun o => { o.mono (by decide : 10 ≤ 11) with gds := by_0 o.gds }) kk
      have R := (h1.same s).R
      exact ⟨R.u, R.k, R.n, R.s, R.d, R.t, by rw [vn_0]; exact e, R.it⟩
  rw [if_neg (by rw [decide_eq_false c3]; decide)]
  refine ⟨szl (by decide : 2 ≤ 1000), fun p2 hp2 => ⟨p2, _, rfl, .inr (SqT.of upd_same), rfl, rfl, ?_⟩⟩
  have s2 := Same.new' (o := .tup [.int 5, .int 6]) (Same.refl G) hp2
  have h2 := h1.same s2
  generalize L2.upd G p2 (.tup [.int 5, .int 6]) = G2 at *
  refine ⟨_, congrArg V.bl (in_d k hk), ?_⟩
  by_cases c5 : k = 5 ∨ k = 6
  · rw [if_pos (decide_eq_true c5)]
    rcases c5 with rfl | rfl
    · have l := h.R.it.length
      have l2 := h.kl
      refine bA_run (k := 5) (A' := fun t => { A with pk := t }) (q := p) (ls := ks ++ [.con (.str "x")]) (us := ws) (ws' := ws ++ [.str "x"]) h2 rfl rfl h2.R.k (by omega) (fun _ => rfl) (fun t' H' s e => ?_) bf_add kk
      have R := (h2.same s).R
      exact ⟨R.u, e, R.n, R.s, R.d, R.t, R.g, R.it.app (.cons (.con (.str _)) .nil)⟩
    · have l := h.ok.zs.2
      refine bA_run (k := 6) (A' := fun t => { A with pn := t }) (q := { p with zs := p.zs ++ [("x" : Str)] }) (us := p.zs.map V.str) (ws' := ws) h2 rfl rfl h2.R.n (by rw [List.length_map]; omega) (fun _ => rfl) (fun t' H' s e => ?_) (bf_pf (fun e => app_ne (congrArg PF.zs e)) fun o => { o.mono (by decide : 10 ≤ 11) with zs := ⟨fun z hz => ?_, ?_⟩ }) kk
      · have R := (h2.same s).R
        exact ⟨R.u, R.k, by rw [List.map_append]; exact e, R.s, R.d, R.t, R.g, R.it⟩
      · rcases List.mem_append.mp hz with hz | hz
        · exact (o.zs.1 z hz).mono (by decide)
        · rw [List.mem_singleton.mp hz]
          exact x_ok
      · rw [List.length_append, List.length_singleton]
        omega
  · rw [if_neg (by rw [decide_eq_false c5]; decide)]
    exact bE_run h2 kk
theorem q2_run (hk : k < 14) (h : BE CC MM a L M A p ks ws μ c H0 H) (kk : BK CC MM a L M p ks μ k H0 D) : t_q2 K D (St5 a L M k s4) H := by
  unfold t_q2 t_fd St5
  simp only [r_seq, r_next, r_brk, r_cont, r_asg, r_name, r_ret, r_retN, r_drop, r_ifs, r_never, r_var, r_c, r_op, r_un, r_if, r_tst, r_b, r_not, r_and, r_or, r_andV, r_orV, r_notV, r_nil, r_cons, r_tup, r_lst, r_cb, r_call, r_bm, r_bm0, r_sl, r_nopart, r_part, r_rev, r_gnil, r_gcons, r_gsub, r_par, r_aug, r_chain, r_I0, r_I, r_U, r_ixd, r_lend, r_tupd, r_listd, r_sld, r_app, r_ext, r_reverse, r_setl, r_cat, r_int1, r_eqS, r_neS, scal_ii, scal_bb, scal_ss, at0, at1, at2, sq_lst, sq_tup, isLst_lst, List.getElem?_cons_zero, List.getElem?_cons_succ, List.set_cons_zero, List.set_cons_succ, V.int.injEq, V.bl.injEq, V.ref.injEq, V.str.injEq, HO.lst.injEq, HO.tup.injEq, Option.some.injEq, exists_eq_left', exists_eq_left, List.cons.injEq, and_true, true_and, decide_eq_true_eq, reduceCtorEq, false_and, exists_false, or_false, false_or, exists_const, and_assoc, exists_and_left, List.append_nil, ix0, ix1, ix2, cm_mod, cdw1009, cdw2003, cdw7, cdw64, cdw2, cm104729, cm2, cm3, upd_same, List.length_cons, List.length_nil, Int.reduceLT, Int.reduceLE, Nat.reduceAdd, Nat.reduceLeDiff, Nat.reduceLT, Int.reduceToNat, r_for1, r_forL, r_forT, r_lcL, r_lc1, r_yes, r_gtupD, wipe_0, wipe_1, List.cons_append, List.nil_append, r_forS, r_ipI, ite_false, ite_true, Bool.not_true, Bool.not_false, decide_true, decide_false, r_isd, r_islt, cD_ty, cD_ref, tD_non, tD_bl, tD_int, tD_str, tD_ref, tH_lst, tH_tup, tH_dK, tH_ins, ki_self, ki_int_bool, ki_non_int, ki_str_int, ki_lt_lst, ki_lt_tup, r_fld, r_sfld, HO.ins.injEq, cx_K, r_neE]
  by_cases c8 : k = 8
  · rw [if_pos (by omega)]
    refine ⟨_, by rw [h.hL]; rfl, _, rfl, Nat.zero_le _, fun p1 hp1 => ?_⟩
    have s1 := Same.new' (o := .tup []) (Same.refl H) hp1
    have h1 := h.same s1
    refine ⟨A.ps, rfl, _, h1.R.s, ?_⟩
    by_cases e : p.ss = []
    · rw [if_neg (by rw [e]; decide)]
      exact q1_run hk h1 kk
    · rw [if_pos (ne_emp (by simpa using e))]
      exact b8_run h1 e kk
  · rw [if_neg (by omega)]
    exact q1_run hk h kk
theorem q3_run (hk : k < 14) (h : BE CC MM a L M A p ks ws μ c H0 H) (kk : BK CC MM a L M p ks μ k H0 D) : t_q3 K D (St5 a L M k s4) H := by
  unfold t_q3 St5
  simp only [r_seq, r_next, r_brk, r_cont, r_asg, r_name, r_ret, r_retN, r_drop, r_ifs, r_never, r_var, r_c, r_op, r_un, r_if, r_tst, r_b, r_not, r_and, r_or, r_andV, r_orV, r_notV, r_nil, r_cons, r_tup, r_lst, r_cb, r_call, r_bm, r_bm0, r_sl, r_nopart, r_part, r_rev, r_gnil, r_gcons, r_gsub, r_par, r_aug, r_chain, r_I0, r_I, r_U, r_ixd, r_lend, r_tupd, r_listd, r_sld, r_app, r_ext, r_reverse, r_setl, r_cat, r_int1, r_eqS, r_neS, scal_ii, scal_bb, scal_ss, at0, at1, at2, sq_lst, sq_tup, isLst_lst, List.getElem?_cons_zero, List.getElem?_cons_succ, List.set_cons_zero, List.set_cons_succ, V.int.injEq, V.bl.injEq, V.ref.injEq, V.str.injEq, HO.lst.injEq, HO.tup.injEq, Option.some.injEq, exists_eq_left', exists_eq_left, List.cons.injEq, and_true, true_and, decide_eq_true_eq, reduceCtorEq, false_and, exists_false, or_false, false_or, exists_const, and_assoc, exists_and_left, List.append_nil, ix0, ix1, ix2, cm_mod, cdw1009, cdw2003, cdw7, cdw64, cdw2, cm104729, cm2, cm3, upd_same, List.length_cons, List.length_nil, Int.reduceLT, Int.reduceLE, Nat.reduceAdd, Nat.reduceLeDiff, Nat.reduceLT, Int.reduceToNat, r_for1, r_forL, r_forT, r_lcL, r_lc1, r_yes, r_gtupD, wipe_0, wipe_1, List.cons_append, List.nil_append, r_forS, r_ipI, ite_false, ite_true, Bool.not_true, Bool.not_false, decide_true, decide_false, r_isd, r_islt, cD_ty, cD_ref, tD_non, tD_bl, tD_int, tD_str, tD_ref, tH_lst, tH_tup, tH_dK, tH_ins, ki_self, ki_int_bool, ki_non_int, ki_str_int, ki_lt_lst, ki_lt_tup, r_fld, r_sfld, HO.ins.injEq, cx_K]
  by_cases c7 : k = 7
  · rw [if_pos (by omega)]
    exact b7_run h kk
  · rw [if_neg (by omega)]
    exact q2_run hk h kk
theorem q4_run (hk : k < 14) (h : BE CC MM a L M A p ks ws μ c H0 H) (kk : BK CC MM a L M p ks μ k H0 D) : t_q4 K (spBC CC MM c 3) D (St5 a L M k s4) H := by
  unfold t_q4 t_fd St5
  simp only [r_seq, r_next, r_brk, r_cont, r_asg, r_name, r_ret, r_retN, r_drop, r_ifs, r_never, r_var, r_c, r_op, r_un, r_if, r_tst, r_b, r_not, r_and, r_or, r_andV, r_orV, r_notV, r_nil, r_cons, r_tup, r_lst, r_cb, r_call, r_bm, r_bm0, r_sl, r_nopart, r_part, r_rev, r_gnil, r_gcons, r_gsub, r_par, r_aug, r_chain, r_I0, r_I, r_U, r_ixd, r_lend, r_tupd, r_listd, r_sld, r_app, r_ext, r_reverse, r_setl, r_cat, r_int1, r_eqS, r_neS, scal_ii, scal_bb, scal_ss, at0, at1, at2, sq_lst, sq_tup, isLst_lst, List.getElem?_cons_zero, List.getElem?_cons_succ, List.set_cons_zero, List.set_cons_succ, V.int.injEq, V.bl.injEq, V.ref.injEq, V.str.injEq, HO.lst.injEq, HO.tup.injEq, Option.some.injEq, exists_eq_left', exists_eq_left, List.cons.injEq, and_true, true_and, decide_eq_true_eq, reduceCtorEq, false_and, exists_false, or_false, false_or, exists_const, and_assoc, exists_and_left, List.append_nil, ix0, ix1, ix2, cm_mod, cdw1009, cdw2003, cdw7, cdw64, cdw2, cm104729, cm2, cm3, upd_same, List.length_cons, List.length_nil, Int.reduceLT, Int.reduceLE, Nat.reduceAdd, Nat.reduceLeDiff, Nat.reduceLT, Int.reduceToNat, r_for1, r_forL, r_forT, r_lcL, r_lc1, r_yes, r_gtupD, wipe_0, wipe_1, List.cons_append, List.nil_append, r_forS, r_ipI, ite_false, ite_true, Bool.not_true, Bool.not_false, decide_true, decide_false, r_isd, r_islt, cD_ty, cD_ref, tD_non, tD_bl, tD_int, tD_str, tD_ref, tH_lst, tH_tup, tH_dK, tH_ins, ki_self, ki_int_bool, ki_non_int, ki_str_int, ki_lt_lst, ki_lt_tup, r_fld, r_sfld, HO.ins.injEq, cx_K, r_neE]
  by_cases c5 : k = 5
  · rw [if_pos (by omega)]
    refine ⟨_, by rw [h.hL]; rfl, _, rfl, Nat.zero_le _, fun p1 hp1 => ?_⟩
    have s1 := Same.new' (o := .tup []) (Same.refl H) hp1
    have h1 := h.same s1
    refine ⟨A.pk, rfl, _, h1.R.k, ?_⟩
    by_cases e : ws = []
    · rw [if_neg (by rw [e]; decide)]
      exact q3_run hk h1 kk
    · rw [if_pos (ne_emp e)]
      exact bC_run h1 e kk
  · rw [if_neg (by omega)]
    exact q3_run hk h kk
theorem bfs_run (hk : k < 14) (h : BE CC MM a L M A p ks ws μ c H0 H) (kk : BK CC MM a L M p ks μ k H0 D) : t_bfs K (spBC CC MM c 3) D (St5 a L M k s4) H := by
  unfold t_bfs St5
  simp only [r_seq, r_next, r_brk, r_cont, r_asg, r_name, r_ret, r_retN, r_drop, r_ifs, r_never, r_var, r_c, r_op, r_un, r_if, r_tst, r_b, r_not, r_and, r_or, r_andV, r_orV, r_notV, r_nil, r_cons, r_tup, r_lst, r_cb, r_call, r_bm, r_bm0, r_sl, r_nopart, r_part, r_rev, r_gnil, r_gcons, r_gsub, r_par, r_aug, r_chain, r_I0, r_I, r_U, r_ixd, r_lend, r_tupd, r_listd, r_sld, r_app, r_ext, r_reverse, r_setl, r_cat, r_int1, r_eqS, r_neS, scal_ii, scal_bb, scal_ss, at0, at1, at2, sq_lst, sq_tup, isLst_lst, List.getElem?_cons_zero, List.getElem?_cons_succ, List.set_cons_zero, List.set_cons_succ, V.int.injEq, V.bl.injEq, V.ref.injEq, V.str.injEq, HO.lst.injEq, HO.tup.injEq, Option.some.injEq, exists_eq_left', exists_eq_left, List.cons.injEq, and_true, true_and, decide_eq_true_eq, reduceCtorEq, false_and, exists_false, or_false, false_or, exists_const, and_assoc, exists_and_left, List.append_nil, ix0, ix1, ix2, cm_mod, cdw1009, cdw2003, cdw7, cdw64, cdw2, cm104729, cm2, cm3, upd_same, List.length_cons, List.length_nil, Int.reduceLT, Int.reduceLE, Nat.reduceAdd, Nat.reduceLeDiff, Nat.reduceLT, Int.reduceToNat, r_for1, r_forL, r_forT, r_lcL, r_lc1, r_yes, r_gtupD, wipe_0, wipe_1, List.cons_append, List.nil_append, r_forS, r_ipI, ite_false, ite_true, Bool.not_true, Bool.not_false, decide_true, decide_false, r_isd, r_islt, cD_ty, cD_ref, tD_non, tD_bl, tD_int, tD_str, tD_ref, tH_lst, tH_tup, tH_dK, tH_ins, ki_self, ki_int_bool, ki_non_int, ki_str_int, ki_lt_lst, ki_lt_tup, r_fld, r_sfld, HO.ins.injEq, cx_K]
  have num : k < 4 ∨ k = 11 → t_bN D (St5 a L M k s4) H := fun ck => by
    have R := h.R
    rcases (by omega : k = 0 ∨ k = 1 ∨ k = 2 ∨ k = 3 ∨ k = 11) with rfl | rfl | rfl | rfl | rfl
    · exact bN_run (q := { p with i0 := bump p.i0 }) h rfl rfl rfl ⟨R.u, R.k, R.n, R.s, R.d, R.t, R.g, R.it⟩ (bf_pf (fun e => bump_ne _ (congrArg PF.i0 e)) fun o => { o.mono (by decide : 10 ≤ 11) with i0 := bump_ok o.i0 }) kk
    · exact bN_run (q := { p with i1 := bump p.i1 }) h rfl rfl rfl ⟨R.u, R.k, R.n, R.s, R.d, R.t, R.g, R.it⟩ (bf_pf (fun e => bump_ne _ (congrArg PF.i1 e)) fun o => { o.mono (by decide : 10 ≤ 11) with i1 := bump_ok o.i1 }) kk
    · exact bN_run (q := { p with i2 := bump p.i2 }) h rfl rfl rfl ⟨R.u, R.k, R.n, R.s, R.d, R.t, R.g, R.it⟩ (bf_pf (fun e => bump_ne _ (congrArg PF.i2 e)) fun o => { o.mono (by decide : 10 ≤ 11) with i2 := bump_ok o.i2 }) kk
    · exact bN_run (q := { p with i3 := bump p.i3 }) h rfl rfl rfl ⟨R.u, R.k, R.n, R.s, R.d, R.t, R.g, R.it⟩ (bf_pf (fun e => bump_ne _ (congrArg PF.i3 e)) fun o => { o.mono (by decide : 10 ≤ 11) with i3 := bump_ok o.i3 }) kk
    · exact bN_run (q := { p with i4 := bump p.i4 }) h rfl rfl rfl ⟨R.u, R.k, R.n, R.s, R.d, R.t, R.g, R.it⟩ (bf_pf (fun e => bump_ne _ (congrArg PF.i4 e)) fun o => { o.mono (by decide : 10 ≤ 11) with i4 := bump_ok o.i4 }) kk
  by_cases c1 : k < 4
  · rw [if_pos (by omega)]
    exact num (.inl c1)
  rw [if_neg (by omega)]
  by_cases c2 : k = 11
  · rw [if_pos (by omega)]
    exact num (.inr c2)
  rw [if_neg (by omega)]
  exact q4_run hk h kk
end
section
variable {P : Program} {w : World} {K : PySem.W.Frag} {mg : Str → Option Value} {base : Heap} {f : Addr} {fd : FuncData}
abbrev sbfld : Stmt := top 53
theorem scbfld : FnScope ["_law_source", "_law_some", "_law_spot", "_law_found", "_law_at"] ["_law_source", "_law_some"] (defScope sbfld) := ⟨rfl, rfl, rfl, by decide +kernel, rfl, by decide +kernel, by decide +kernel⟩

theorem bfld_step {CC MM : Addr} {sp1 : Sp} {n c : Nat} (hn : 6 ≤ n) (h1 : sp1 = spBC CC MM c 3) (T : Txt mg) (I : CodeT K mg CC) (F : FnP K "_law_bent_fields" "_law_bent_fields" sbfld f fd)
    (C_next : Cal P w K mg base 1 "_law_next" ["_law_source", "_law_many"] spNext) (C_one : Cal P w K mg base 2 "_law_one" ["_law_source", "_law_some"] spOne)
    (C_bent_constant : Cal P w K mg base n "_law_bent_constant" ["_law_source", "_law_value"] sp1) : FnOk P w K mg base CX0 (n + 1) f fd ["_law_source", "_law_some"] (spBF CC MM c) := by
  refine F.ok scbfld (fun vs H Q E h => ?_) (fun cdv A outer s H vs Q E hr h => ?_)
  · obtain ⟨a, L, A, p, ks, ws, μ, rfl, _⟩ := h
    rfl
  · have hu : (cxOf CX0 P w K mg base ["_law_source", "_law_some", "_law_spot", "_law_found", "_law_at"] "_law_bent_fields" (defScope sbfld) f cdv A outer s H E).nox.A.units < cLine := by
      have := hr.un
      show (A.deeper (envOfC "_law_bent_fields" (defScope sbfld) s.heap.objs.size f cdv)).units < cLine
      omega
    refine ⟨t_bfld K sp1, PSs.nox (by unfold t_bfld t_bh t_bfs t_q4 t_q3 t_q2 t_q1 t_bN t_bC t_b7 t_b8 t_bA t_bE t_put t_spot t_src t_fd; exact (pss_cons (ps_par (i := 2) (j := 3) (by rfl) scbfld.nd rfl rfl (by decide) rfl rfl (pa_cons (pe_cal C_one (hr.mono (by omega)) rfl (pa_cons (pv 0) (pa_cons (pe_lst (pa_cons (pe_cal C_next (hr.mono (by omega)) rfl (pa_cons (pv 0) (pa_cons pe_int pa_nil))) (pa_cons pe_int (pa_cons pe_int pa_nil)))) pa_nil))) (pa_cons (pe_callTy call_list_d (by rfl) T.b_list (by decide +kernel) (pa_cons (pv 1) pa_nil)) pa_nil)) (by rfl))
  (pss_cons (ps_if (PW.pt (pw_or (pt_cmpR op_lt (pv 2) pe_int (nomark _)) (pw_or1 (pt_cmpR op_eq (pv 2) pe_int (nomark _)))))
    (pss_one (ps_asg (pe_ifExp (pt_cmpR op_lt (pe_ix ix_d (pv 1) (pv 2) (fun _ _ => rfl)) pe_int (nomark _)) (pe_op op_add (pe_ix ix_d (pv 1) (pv 2) (fun _ _ => rfl)) pe_int) (pe_op op_sub (pe_ix ix_d (pv 1) (pv 2) (fun _ _ => rfl)) pe_int)) (pg_sub (pv 3) (pv 2) set_list)))
    (pss_one (ps_if (PW.pt (pw_and (pt_cmpR op_eq (pv 2) pe_int (nomark _)) (pw_and1 (pt_cmpR (op_neE hu) (pe_ix ix_d (pv 1) pe_int (fun _ _ => rfl)) (pe_tup pa_nil) (nomark _)))))
    (pss_cons (ps_set (i := 4) scbfld.nd rfl (Or.inl rfl) (pe_cal C_next (hr.mono (by omega)) rfl (pa_cons (pv 0) (pa_cons (pe_callB call_len_d (by rfl) T.b_len (by decide +kernel) (pa_cons (pe_ix ix_d (pv 1) pe_int (fun _ _ => rfl)) pa_nil)) pa_nil))))
  (pss_one (ps_asg (pe_op op_catW (pe_op op_catW (pe_slice sl_W (pe_ix ix_d (pv 1) pe_int (fun _ _ => rfl)) po_none (po_some (pv 4))) (pe_tup (pa_cons (pe_cal C_bent_constant hr rfl (pa_cons (pv 0) (pa_cons (pe_ix ix_d (pe_ix ix_d (pv 1) pe_int (fun _ _ => rfl)) (pv 4) (fun _ _ => rfl)) pa_nil))) pa_nil))) (pe_slice sl_W (pe_ix ix_d (pv 1) pe_int (fun _ _ => rfl)) (po_some (pe_op op_add (pv 4) pe_int)) po_none)) (pg_sub (pv 3) pe_int set_list))))
    (pss_one (ps_if (pt_cmpR op_eq (pv 2) pe_int (nomark _))
    (pss_one (ps_asg (pe_tup (pa_cons (pe_op op_catW (pe_ix ix_d (pv 1) pe_int (fun _ _ => rfl)) (pe_tup (pa_cons pe_str pa_nil))) (pa_cons (pe_op op_catW (pe_ix ix_d (pv 1) pe_int (fun _ _ => rfl)) (pe_tup (pa_cons pe_int pa_nil))) pa_nil))) (pg_tupD (n := 2) rfl (pgs_cons (pg_sub (pv 3) pe_int set_list) (pgs_cons (pg_sub (pv 3) pe_int set_list) pgs_nil)))))
    (pss_one (ps_if (PW.pt (pw_and (pt_cmpR op_eq (pv 2) pe_int (nomark _)) (pw_and1 (pt_cmpR (op_neE hu) (pe_ix ix_d (pv 1) pe_int (fun _ _ => rfl)) (pe_tup pa_nil) (nomark _)))))
    (pss_one (ps_asg (pe_op op_catW (pe_tup (pa_cons (pe_op op_mod (pe_callTy call_int1 (by rfl) T.b_int (by decide +kernel) (pa_cons (pe_op op_add (pe_ix ix_d (pe_ix ix_d (pv 1) pe_int (fun _ _ => rfl)) pe_int (fun _ _ => rfl)) pe_int) pa_nil)) pe_int) pa_nil)) (pe_slice sl_W (pe_ix ix_d (pv 1) pe_int (fun _ _ => rfl)) (po_some pe_int) po_none)) (pg_sub (pv 3) pe_int set_list)))
    (pss_one (ps_if (pt_cmpR op_in_seq (pv 2) (pe_tup (pa_cons pe_int (pa_cons pe_int (pa_cons pe_int pa_nil)))) (by rfl))
    (pss_one (ps_asg (pe_op op_catW (pe_ix ix_d (pv 1) (pv 2) (fun _ _ => rfl)) (pe_tup (pa_cons pe_int pa_nil))) (pg_sub (pv 3) (pv 2) set_list)))
    (pss_one (ps_if (pt_cmpR op_in_seq (pv 2) (pe_tup (pa_cons pe_int (pa_cons pe_int pa_nil))) (by rfl))
    (pss_one (ps_asg (pe_op op_catW (pe_ix ix_d (pv 1) (pv 2) (fun _ _ => rfl)) (pe_tup (pa_cons pe_str pa_nil))) (pg_sub (pv 3) (pv 2) set_list)))
    (pss_one (ps_asg (pe_op op_add_str (pe_ix ix_d (pv 1) pe_int (fun _ _ => rfl)) pe_str) (pg_sub (pv 3) pe_int set_list))))))))))))))
  (pss_one (ps_ret (pv 3)))))), ?_⟩
    subst h1
    obtain ⟨a, L, A', p, ks, ws, μ, rfl, S, La, W0, hL, R, ok, g, tk, kl, dp, kd, q⟩ := h
    show (_ : TS) _ [some (.ref a), some (.ref L), none, none, none] H
    unfold t_bfld t_bh
    simp only [r_seq, r_next, r_brk, r_cont, r_asg, r_name, r_ret, r_retN, r_drop, r_ifs, r_never, r_var, r_c, r_op, r_un, r_if, r_tst, r_b, r_not, r_and, r_or, r_andV, r_orV, r_notV, r_nil, r_cons, r_tup, r_lst, r_cb, r_call, r_bm, r_bm0, r_sl, r_nopart, r_part, r_rev, r_gnil, r_gcons, r_gsub, r_par, r_aug, r_chain, r_I0, r_I, r_U, r_ixd, r_lend, r_tupd, r_listd, r_sld, r_app, r_ext, r_reverse, r_setl, r_cat, r_int1, r_eqS, r_neS, scal_ii, scal_bb, scal_ss, at0, at1, at2, sq_lst, sq_tup, isLst_lst, List.getElem?_cons_zero, List.getElem?_cons_succ, List.set_cons_zero, List.set_cons_succ, V.int.injEq, V.bl.injEq, V.ref.injEq, V.str.injEq, HO.lst.injEq, HO.tup.injEq, Option.some.injEq, exists_eq_left', exists_eq_left, List.cons.injEq, and_true, true_and, decide_eq_true_eq, reduceCtorEq, false_and, exists_false, or_false, false_or, exists_const, and_assoc, exists_and_left, List.append_nil, ix0, ix1, ix2, cm_mod, cdw1009, cdw2003, cdw7, cdw64, cdw2, cm104729, cm2, cm3, upd_same, List.length_cons, List.length_nil, Int.reduceLT, Int.reduceLE, Nat.reduceAdd, Nat.reduceLeDiff, Nat.reduceLT, Int.reduceToNat, r_for1, r_forL, r_forT, r_lcL, r_lc1, r_yes, r_gtupD, wipe_0, wipe_1, List.cons_append, List.nil_append, r_forS, r_ipI, ite_false, ite_true, Bool.not_true, Bool.not_false, decide_true, decide_false, r_isd, r_islt, cD_ty, cD_ref, tD_non, tD_bl, tD_int, tD_str, tD_ref, tH_lst, tH_tup, tH_dK, tH_ins, ki_self, ki_int_bool, ki_non_int, ki_str_int, ki_lt_lst, ki_lt_tup, r_fld, r_sfld, HO.ins.injEq, cx_K]
    refine ⟨a, 14, rfl, S, by decide, by decide, fun r H1 r0 r1 k1 S1 => ⟨szl (by decide : 3 ≤ 1000), fun p1 hp1 => ⟨a, p1, _, rfl, S1.new hp1, S1.ne hp1, upd_same, by simp, by simp, fun v H2 hv k2 S2 => ?_⟩⟩⟩
    obtain ⟨k, rfl, hk⟩ : ∃ k : Nat, v = .int (k : Int) ∧ k < 14 := by
      simp only [List.mem_cons, List.not_mem_nil, or_false] at hv
      rcases hv with rfl | rfl | rfl
      · exact ⟨r.toNat, by rw [show ((r.toNat : Nat) : Int) = r from by omega], by omega⟩
      · exact ⟨5, rfl, by decide⟩
      · exact ⟨5, rfl, by decide⟩
    have k12 : Keep a H H2 := (k1.new hp1).trans k2
    have hL2 := k12 _ _ La hL
    refine ⟨_, by rw [hL2]; rfl, fun M hM => ?_⟩
    have s3 := Same.new' (o := .lst (A'.vs p)) (Same.refl H2) hM
    have k13 := k12.trans (Keep.same s3 : Keep a H2 _)
    have S3 := S2.new (o := .lst (A'.vs p)) hM
    have m := Mo.keep S S3 k13
    exact bfs_run hk ⟨hM, Keep.same s3, S3, La, S2.ne hM, W0.mo m, s3 _ _ hL2, upd_same, R.mo m (Mks.le_refl μ), ok, g, tk, kl, kd⟩ fun q' ls ν s4 H' k4 S4 lν W4 lf bf => ⟨.ref M, rfl, q M q' ls ν H' (k12.trans k4) S4 (S2.ne hM) lν W4 lf bf⟩
theorem bent_two {CC CN MM f1 f2 : Addr} {d1 d2 : FuncData} (T : Txt mg) (I : CodeT K mg CC) (F1 : FnP K "_law_bent_constant" "_law_bent_constant" sbcon f1 d1) (F2 : FnP K "_law_bent_fields" "_law_bent_fields" sbfld f2 d2) (g1 : mg "_law_bent_constant" = some (.ref f1)) (g2 : mg "_law_bent_fields" = some (.ref f2)) (b1 : Binds K d1 ["_law_source", "_law_value"] []) (b2 : Binds K d2 ["_law_source", "_law_some"] [])
    (yes : PySem.W.kitOne K (.ref CC) (.ref CC) = some true) (nb : PySem.W.kitOne K (.ref CC) (.type "bool") = some false) (ni : PySem.W.kitOne K (.ref CC) (.type "int") = some false) (nt : PySem.W.kitOne K (.ref CC) (.type "tuple") = some false)
    (C_next : Cal P w K mg base 1 "_law_next" ["_law_source", "_law_many"] spNext) (C_one : Cal P w K mg base 2 "_law_one" ["_law_source", "_law_some"] spOne) (C_fields : Cal P w K mg base 1 "_law_fields" ["_law_made"] (spFields CC MM)) (CE_code : CalE P w K mg base 6 "_law_code" ["_law_some"] (spLCode CC CN MM)) :
    ∀ c, (∀ t, t ≤ 3 → FnOk P w K mg base CX0 (7 + 5 * c + t) f1 d1 ["_law_source", "_law_value"] (spBC CC MM c t)) ∧ FnOk P w K mg base CX0 (11 + 5 * c) f2 d2 ["_law_source", "_law_some"] (spBF CC MM c) := by
  have no1 : ∀ n, FnOk P w K mg base CX0 n f1 d1 ["_law_source", "_law_value"] (fun _ _ _ _ => False) := fun n => ⟨fun _ _ _ _ h => h.elim, fun _ _ _ _ _ _ _ _ _ _ _ _ _ h => h.elim⟩
  have no2 : ∀ n, FnOk P w K mg base CX0 n f2 d2 ["_law_source", "_law_some"] (fun _ _ _ _ => False) := fun n => ⟨fun _ _ _ _ h => h.elim, fun _ _ _ _ _ _ _ _ _ _ _ _ _ h => h.elim⟩
  have cons : ∀ (c : Nat) (sp2 : Sp), (∀ e, c = e + 1 → sp2 = spBF CC MM e) → FnOk P w K mg base CX0 (6 + 5 * c) f2 d2 ["_law_source", "_law_some"] sp2 → ∀ t, t ≤ 3 → FnOk P w K mg base CX0 (7 + 5 * c + t) f1 d1 ["_law_source", "_law_value"] (spBC CC MM c t) := by
    intro c sp2 h2 F2' t
    have C2 : ∀ t, Cal P w K mg base (6 + 5 * c + t) "_law_bent_fields" ["_law_source", "_law_some"] sp2 := fun t => ⟨⟨f2, d2, F2'.mono (by omega), g2, F2.kp, b2⟩⟩
    induction t with
    | zero =>
      intro _
      rw [show 7 + 5 * c + 0 = 6 + 5 * c + 1 from by omega]
      exact bcon_step (n := 6 + 5 * c) (by omega) (fun j (e : 0 = j + 1) => absurd e (by omega)) h2 T I F1 yes nb ni nt C_next C_fields CE_code ⟨⟨f1, d1, no1 _, g1, F1.kp, b1⟩⟩ (C2 0)
    | succ t ih =>
      intro ht
      rw [show 7 + 5 * c + (t + 1) = 6 + 5 * c + (t + 1) + 1 from by omega]
      exact bcon_step (n := 6 + 5 * c + (t + 1)) (t := t + 1) (by omega) (fun j (e : t + 1 = j + 1) => by cases e; rfl) h2 T I F1 yes nb ni nt C_next C_fields CE_code ⟨⟨f1, d1, by rw [show 6 + 5 * c + (t + 1) = 7 + 5 * c + t from by omega]; exact ih (by omega), g1, F1.kp, b1⟩⟩ (C2 (t + 1))
  have flds : ∀ c, FnOk P w K mg base CX0 (10 + 5 * c) f1 d1 ["_law_source", "_law_value"] (spBC CC MM c 3) → FnOk P w K mg base CX0 (11 + 5 * c) f2 d2 ["_law_source", "_law_some"] (spBF CC MM c) := fun c h => by
    rw [show 11 + 5 * c = 10 + 5 * c + 1 from by omega]
    exact bfld_step (n := 10 + 5 * c) (by omega) rfl T I F2 C_next C_one ⟨⟨f1, d1, h, g1, F1.kp, b1⟩⟩
  intro c
  induction c with
  | zero =>
    have h := cons 0 _ (fun _ e => nomatch e) (no2 _)
    exact ⟨h, flds 0 (h 3 (by decide))⟩
  | succ c ih =>
    have h := cons (c + 1) _ (fun e he => by cases he; rfl) (by rw [show 6 + 5 * (c + 1) = 11 + 5 * c from by omega]; exact ih.2)
    exact ⟨h, flds (c + 1) (by rw [show 10 + 5 * (c + 1) = 7 + 5 * (c + 1) + 3 from by omega]; exact h 3 (by decide))⟩
end
end C51

set_option maxHeartbeats 2000000
namespace C51
open PySem PySem.Spec PyProof.Rows L2
/-! ### how many bytes there are at most -/
theorem encI_len {i : Int} (h : bOk 201 (.int i)) : (encI i).length ≤ 600 := by
  unfold encI
  split
  · rw [List.length_cons, four_len]
    decide
  · rw [List.length_cons, List.length_append, four_len, dpairs_len]
    have : (dg15 i.natAbs).length ≤ 14 := by
      refine dg15_len 14 _ ?_
      unfold bOk at h
      have e : (2 : Int) ^ 201 = ((2 ^ 201 : Nat) : Int) := by simp
      rw [e] at h
      have h2 : i.natAbs ≤ 2 ^ 201 := by omega
      exact Nat.lt_of_le_of_lt h2 (by decide)
    omega
mutual
theorem encC_len : ∀ {x : CV}, bOk 201 x → (encC x).length ≤ 600 * szC x
  | .non, _ => by rw [encC, szC]; decide
  | .bl b, _ => by rw [encC, szC]; simp
  | .int i, h => by
    rw [encC, szC]
    exact encI_len h
  | .str z, h => by
    rw [encC, szC, encT_len]
    unfold bOk at h
    omega
  | .tup xs, h => by
    rw [encC, szC, List.length_cons, List.length_append, four_len]
    unfold bOk at h
    have := encCs_len h.2
    omega
theorem encCs_len : ∀ {xs : List CV}, bOks 201 xs → (encCs xs).length ≤ 600 * szCs xs
  | [], _ => by rw [encCs, szCs]; exact Nat.le_refl 0
  | x :: xs, h => by
    rw [encCs, szCs, List.length_append]
    unfold bOks at h
    have := encC_len h.1
    have := encCs_len h.2
    omega
end
theorem encCs_strs {n : Nat} : ∀ {zs : List Str}, (∀ z ∈ zs, TxtN n z) → (encCs (zs.map CV.str)).length ≤ zs.length * (5 + n)
  | [], _ => by rw [List.map_nil, encCs]; exact Nat.zero_le _
  | z :: zs, h => by
    rw [List.map_cons, encCs, encC, List.length_append, encT_len, List.length_cons, Nat.succ_mul]
    have := (h z List.mem_cons_self).1
    have := encCs_strs fun y hy => h y (List.mem_cons_of_mem _ hy)
    omega
theorem encC_strs {zs : List Str} (h : (∀ z ∈ zs, TxtN 11 z) ∧ zs.length ≤ 11) : (encC (.tup (zs.map CV.str))).length ≤ 181 := by
  rw [encC, List.length_cons, List.length_append, four_len]
  have := encCs_strs h.1
  have := Nat.mul_le_mul_right (5 + 11) h.2
  omega
mutual
theorem encP_len {d : Nat} : ∀ {k : PV}, gV d 201 11 k → (encP k).length ≤ 600 * tz k
  | .con x, h => by
    rw [encP, tz]
    unfold gV at h
    exact encC_len h.2.2
  | .cod p ks, h => by
    unfold gV at h
    have a := encPs_len h.2.2.2
    have b1 := encC_strs h.1.zs
    have b2 := encC_strs h.1.ss
    have c1 := h.1.ds.2
    have c2 := h.1.kds.2
    have c3 := h.1.lns.2
    have c4 := h.1.gds.2
    have c5 := h.1.z1.1
    have c6 := h.1.z2.1
    have c7 : (encT "<tree>").length = 11 := rfl
    rw [encP, tz]
    simp only [List.length_append, List.length_cons, four_len, encB_len, c7]
    rw [encT_len, encT_len]
    omega
theorem encPs_len {d : Nat} : ∀ {ks : List PV}, gVs d 201 11 ks → (encPs ks).length ≤ 600 * tzs ks
  | [], _ => by rw [encPs, tzs]; exact Nat.le_refl 0
  | k :: ks, h => by
    rw [encPs, tzs, List.length_append]
    unfold gVs at h
    have := encP_len h.1
    have := encPs_len h.2
    omega
end
mutual
theorem sz_tz : ∀ k : PV, szV k ≤ tz k
  | .con x => by
    rw [szV, tz]
    exact szC_pos x
  | .cod p ks => by
    rw [szV, tz]
    have := szs_tzs ks
    omega
theorem szs_tzs : ∀ ks : List PV, szVs ks ≤ tzs ks
  | [] => by rw [szVs, tzs]; exact Nat.le_refl 0
  | k :: ks => by
    rw [szVs, tzs]
    have := sz_tz k
    have := szs_tzs ks
    omega
end
end C51

set_option maxHeartbeats 2000000
namespace E51
open PySem PySem.Spec PyProof.Rows L2
namespace E6
/-! ### the end of a law, told of the very state in which it is called -/
section
variable {P : Program} {w : World} {K : PySem.W.Frag} {mg mb : Str → Option Value} {fa a : Addr} {cs : List (Addr × Addr)} {s : Shared} {vs : List Value} {ns : List Int}
/-- tracked: the tables of code objects, and the script where nothing written holds it -/
def trk (K : PySem.W.Frag) (T : List Addr) (a : Addr) (vs : List Value) (ns : List Int) : Hp := fun b =>
  if b ∈ T then some (.tbl #[]) else if b = a ∧ K.lookup a = none then some (.frz { cls := .type "list", data := .seq vs.toArray } (.lst (ns.map V.int))) else none
theorem trk_tab {T : List Addr} {b : Addr} (h : b ∈ T) : trk K T a vs ns b = some (.tbl #[]) := if_pos h
theorem trk_cases {T : List Addr} {b : Addr} {u : HO} (h : trk K T a vs ns b = some u) : (b ∈ T ∧ u = .tbl #[]) ∨ (b ∉ T ∧ b = a ∧ K.lookup a = none ∧ u = .frz { cls := .type "list", data := .seq vs.toArray } (.lst (ns.map V.int))) := by
  unfold trk at h
  split at h
  · exact .inl ⟨by assumption, (Option.some.inj h).symm⟩
  · split at h
    · rename_i n q
      exact .inr ⟨n, q.1, q.2, (Option.some.inj h).symm⟩
    · cases h
/-- what the law's run at callerA must do -/
def RunsAt (P : Program) (w : World) (K : PySem.W.Frag) (mg : Str → Option Value) (cs : List (Addr × Addr)) (fa a : Addr) (s : Shared) (ns : List Int) : Prop := ∀ (base : Heap) (H : Hp), K.In base → base.Ns mainGlobals mg → (∀ p ∈ cs, LamX.TabB base mg p.1 p.2) → Env0 P w K mg base callerA [] s H →
  (∀ p ∈ cs, H p.2 = some (.tbl #[])) → SqL K H a (ns.map V.int) → codeAny (model P w) callerA (.call (.ref fa) ⟨[.ref a], []⟩) (CR CX0 [] P w H s (fun v _ => v = .bl true) E0) s
theorem end_run (KX : K.In s.heap) (hns : s.heap.Ns mainGlobals mg) (hb : s.heap.Ns builtinsNs mb) (hbb : ∀ x : Str, x ≠ "__name__" → mb x = bootBuiltins x) (hlim : s.heap.NoLimit) (hg : s.gens = #[])
    (hT : ∀ p ∈ cs, s.heap.get? p.2 = some { cls := .none, data := .fields #[] }) (nT : ∀ p ∈ cs, K.lookup p.2 = none) (C : ∀ p ∈ cs, PySem.W.CodeHd s.heap p.1 p.2)
    (hbm : ∃ (bm : Addr) (ob : Obj), mg "__builtins__" = some (.ref bm) ∧ bm ≠ builtinsNs ∧ s.heap.get? bm = some ob ∧ ob.cls = .type "module" ∧ ob.dict = some builtinsNs ∧ ob.data = .plain)
    (ha : s.heap.get? a = some { cls := .type "list", data := .seq vs.toArray }) (hi : IntsAre vs ns) (hl : ns.length ≤ sizeLine) (R : RunsAt P w K mg cs fa a s ns) :
    codeAny (model P w) callerA (.call (.ref fa) ⟨[.ref a], []⟩) (fun r s' => r = .ok (.ret (.bool true)) ∧ OldK s.heap s'.heap ∧ s'.os = s.os ∧ AllBare s'.gens) s := by
  have lens := hi.length
  obtain ⟨T, eT⟩ : ∃ T, T = cs.map (·.2) := ⟨_, rfl⟩
  have inT : ∀ {b : Addr}, b ∈ T → ∃ p ∈ cs, p.2 = b := fun {b} h => by rw [eT] at h; obtain ⟨p, hp, e⟩ := List.mem_map.mp h; exact ⟨p, hp, e⟩
  have toT : ∀ p ∈ cs, p.2 ∈ T := fun p hp => by rw [eT]; exact List.mem_map_of_mem hp
  have tabO : ∀ {b : Addr}, b ∈ T → s.heap.get? b = some { cls := .none, data := .fields #[] } := fun h => by obtain ⟨p, hp, rfl⟩ := inT h; exact hT p hp
  have aT : a ∉ T := fun h => by
    have := ha.symm.trans (tabO h)
    cases congrArg Obj.data (Option.some.inj this)
  generalize eH : trk K T a vs ns = H
  have cas : ∀ {b u}, H b = some u → (b ∈ T ∧ u = .tbl #[]) ∨ (b ∉ T ∧ b = a ∧ K.lookup a = none ∧ u = .frz { cls := .type "list", data := .seq vs.toArray } (.lst (ns.map V.int))) := fun {b u} h => trk_cases (by rw [eH]; exact h)
  -- what is neither a row of values nor an empty row of fields is hidden from nobody
  have free : ∀ {b : Addr} {o : Obj}, s.heap.get? b = some o → (∀ xs n, o.data ≠ .seq xs n) → o.data ≠ .fields #[] → H b = none := fun {b o} e h1 h2 => by
    cases q : H b with
    | none => rfl
    | some u =>
      rcases cas q with ⟨h, _⟩ | ⟨_, rfl, _⟩
      · cases e.symm.trans (tabO h)
        exact absurd rfl h2
      · cases e.symm.trans ha
        exact absurd rfl (h1 _ _)
  have seen : ∀ {b : Addr} {o : Obj}, s.heap.get? b = some o → (∀ xs n, o.data ≠ .seq xs n) → o.data ≠ .fields #[] → (hidT s.heap H).get? b = some o := fun e h1 h2 => hidT_get e (free e h1 h2)
  have nsS : ∀ {b : Addr} {m : Str → Option Value}, s.heap.Ns b m → (hidT s.heap H).Ns b m := fun ⟨o, es, ep, e, d, r⟩ => ⟨o, es, ep, seen e (by rw [d]; intro _ _ z; cases z) (by rw [d]; intro z; cases z), d, r⟩
  have KB : K.In (hidT s.heap H) := fun b o e => hidT_get (KX b o e) (by
    cases q : H b with
    | none => rfl
    | some u =>
      rcases cas q with ⟨h, _⟩ | ⟨_, rfl, n, _⟩
      · obtain ⟨p, hp, rfl⟩ := inT h
        cases (nT p hp).symm.trans e
      · cases n.symm.trans e)
  have MM : L2.Mod K mg (hidT s.heap H) := ⟨KB, nsS hns, ⟨mb, nsS hb, hbb⟩, by obtain ⟨mc, h1, h2⟩ := hlim; exact ⟨mc, nsS h1, h2⟩⟩
  have OK : HOk P w H s.heap := fun b u q => by
    rcases cas q with ⟨h, rfl⟩ | ⟨_, rfl, _, rfl⟩
    · exact tabO h
    · exact ⟨ha, by rw [List.length_map]; exact hl, vs, _, vals_ints hi, ha⟩
  have SQ : SqL K H a (ns.map V.int) := by
    cases k : K.lookup a with
    | none => exact .inl (.inr ⟨_, by rw [← eH]; unfold trk; rw [if_neg aT, if_pos ⟨rfl, k⟩]⟩)
    | some o =>
      cases (KX a o k).symm.trans ha
      exact .inr ⟨_, vs.toArray, _, k, rfl, rfl, rfl, by rw [List.size_toArray, lens]; exact hl, by simpa using vals_ints hi⟩
  have TB : ∀ p ∈ cs, LamX.TabB (hidT s.heap H) mg p.1 p.2 := fun p hp => by
    refine ⟨?_, ?_, ?_⟩
    · obtain ⟨o, us, file, tf, flags, tg, inF, text, tt, e1, r1, r2, r3, r⟩ := C p hp
      exact ⟨o, us, file, tf, flags, tg, inF, text, tt, seen e1 (by rw [r2]; intro _ _ z; cases z) (by rw [r2]; intro z; cases z; simp at r3), r1, r2, r3, r⟩
    · obtain ⟨bm, ob, b1, b2, b3, b4, b5, b6⟩ := hbm
      refine ⟨bm, ob, b1, b2, ?_, ?_, seen b3 (by rw [b6]; intro _ _ z; cases z) (by rw [b6]; intro z; cases z), b4, b5, b6⟩
      · rintro rfl
        obtain ⟨o, es, ep, e, d, _⟩ := hns
        cases e.symm.trans b3
        cases d.symm.trans b6
      · rintro rfl
        cases (hT p hp).symm.trans b3
        cases b6
    · intro z
      obtain ⟨o, es, ep, e, d, _⟩ := hns
      rw [z] at e
      cases (hT p hp).symm.trans e
      cases d
  have E0' : Env0 P w K mg (hidT s.heap H) callerA [] s H := ⟨rfl, MM, fun b o e => of_hidT e, Nat.le_of_eq (hidT_size _ _), trivial, (fun b hb => by cases hb), OK, .of_eq hg⟩
  refine codeAny_mono (R _ H KB (nsS hns) TB E0' (fun p hp => by rw [← eH]; exact trk_tab (toT p hp)) SQ) fun r s' h => ?_
  cases r with
  | error e => exact False.elim h
  | ok fl =>
    cases fl with
    | ret u =>
      obtain ⟨v, H', os, bare, un, ok', rv, rfl⟩ := h
      obtain rfl : u = Value.bool true := rv
      have stay : ∀ {b : Addr} {o : Obj}, b ∉ T → s.heap.get? b = some o → s'.heap.get? b = some o := fun {b o} n e => by
        cases q : H b with
        | none => exact un.keep b o e q (by intro z; cases z) (by simp)
        | some u =>
          rcases cas q with ⟨h, _⟩ | ⟨_, rfl, _, rfl⟩
          · exact absurd h n
          · cases e.symm.trans ha
            exact (ok' _ _ (un.frzs _ _ _ q)).1
      have more : ∀ {b : Addr}, b ∈ T → ∃ xs : Array Value, s'.heap.get? b = some { cls := .none, data := .fields xs } := fun {b} h => by
        obtain ⟨xs, z⟩ := un.tbls b #[] (by rw [← eH]; exact trk_tab h)
        exact ⟨_, ok' b _ z⟩
      refine ⟨rfl, ⟨fun b o e => ?_, fun b o e => ?_⟩, os, bare⟩
      · rcases Classical.em (b ∈ T) with h | h
        · obtain ⟨xs, hx⟩ := more h
          cases (tabO h).symm.trans e
          obtain ⟨p, hp, rfl⟩ := inT h
          exact .inr (.inl ⟨((C p hp).tab (hT p hp)).isCodeTable, rfl, #[], xs, rfl, hx.trans (by rw [Array.empty_append])⟩)
        · exact .inl (stay h e)
      · rcases Classical.em (b ∈ T) with h | h
        · obtain ⟨xs, hx⟩ := more h
          exact ⟨_, hx⟩
        · exact ⟨o, stay h e⟩
    | _ => exact False.elim h
/-- the law's walk, from its run -/
theorem walk_run {l : PySem.W.OpenLaw} {n : Nat} {q : Program} {loose : List Str} {XP : (Str → Option Value) → Heap → Prop} {YP : World → Heap → Prop} {d : DefRec} (hn : l.most = some n) (hn2 : n ≤ sizeLine) (hdf : d.params.defaults = [])
    (F : ∀ (w : World) (mg : Str → Option Value) (fa : Addr) (h : Heap), YP w h → h.Ns mainGlobals mg → mg d.name = some (.ref fa) → ∃ (K : PySem.W.Frag) (cs : List (Addr × Addr)), K.In h ∧ (∀ p ∈ cs, h.get? p.2 = some { cls := .none, data := .fields #[] }) ∧
      (∀ p ∈ cs, K.lookup p.2 = none) ∧ (∀ p ∈ cs, PySem.W.CodeHd h p.1 p.2) ∧ ∀ (s : Shared) (a : Addr) (ns : List Int), ns.length ≤ n → (∀ z ∈ ns, Builtin.Int.intBits z ≤ 1048576) → RunsAt l.prog w K mg cs fa a s ns) :
    PySem.W.WalkO q loose XP YP l.row.toRowW d [] (fun f vs => PySem.call f vs) := by
  refine Att.attach_callB hn hdf fun w s0 s1 mg mb fa o pm cd doc a vs ns G Y ho hd hcd hmg hobj hints hlen hbits hg => ?_
  obtain ⟨K, cs, kx, hT, nT, C, R⟩ := F w mg fa _ Y G.T.g hmg
  exact end_run kx G.T.g G.T.b G.T.builtins G.T.nolimit hg hT nT C G.T.bmain hobj hints (Nat.le_trans hlen hn2) (R s1 a ns hlen hbits)
end

end E6
section
variable {X : Cx}
/-! ### the script + a written list -/
def rCatS (K : PySem.W.Frag) : R2 := fun x y H Q => ∃ l b xs zs, x = .ref l ∧ y = .ref b ∧ SqL K H l xs ∧ H b = some (.lst zs) ∧ xs.length + zs.length ≤ sizeLine ∧ ∀ p, H p = none → Q (.ref p) (L2.upd H p (.lst (xs ++ zs)))
theorem op_catS : OpR X (binaryOp .Add) (rCatS X.K) := by
  rintro pins s σ H x y v u Q I rx ry ⟨l, b, xs, zs, rfl, rfl, hs, hb, hz, q⟩
  cases rx
  cases ry
  obtain ⟨i1, r1, ⟨⟨c1, d1, t1, sl1⟩, n1, e1, k1, _, k2⟩, _⟩ := I.list hs
  obtain ⟨_, i2, n2, r2, l2, e2⟩ := I.lstM hb
  dsimp only at k1 k2
  subst k1 k2
  have l1 := r1.length
  refine concat_meets ⟨_, e1, rfl⟩ ⟨_, e2, rfl⟩ noFill_list_add seq_list_add PySem.F.slot_list_add PySem.F.entry_list_add (PySem.F.args_list_add_2 _ _) (list_addW l b i1.toArray i2.toArray n1 n2 d1 none sl1 #[] (by rw [List.size_toArray, List.size_toArray]; omega)) ⟨e1, e2, ?_⟩
  rw [show i1.toArray ++ i2.toArray = (i1 ++ i2).toArray from by simp]
  exact ⟨.ref _, _, I.lnew (t' := s.toks) (r1.append r2) (by rw [List.length_append]; omega), rfl, q _ I.fresh⟩
end

end E51
namespace C51
open PySem PySem.Spec PyProof.Rows L2 E51 E51.E6
abbrev Nlaw : List Str := ["_law_script", "_law_cell", "_law_source", "_law_some", "_law_one_here", "_law_same", "_law_turn", "_law_other", "_law_odd", "_law_row"]
abbrev slaw : Stmt := top 54
theorem sclaw : FnScope ["_law_script", "_law_cell", "_law_source", "_law_some", "_law_one_here", "_law_same", "_law_turn", "_law_other", "_law_odd", "_law_row"] ["_law_script"] (defScope slaw) := ⟨rfl, rfl, rfl, by decide +kernel, rfl, by decide +kernel, by decide +kernel⟩

/-- what the law calls -/
structure LawT (P : Program) (w : World) (K : PySem.W.Frag) (mg : Str → Option Value) (base : Heap) (CC CN MM : Addr) : Prop where
  T : Txt mg
  I : CodeT K mg CC
  C_source_of : Cal P w K mg base 1 "_law_source_of" ["_law_cell"] spSrc
  C_df : Cal P w K mg base 9 "_law_drawn_fields" ["_law_source", "_law_deep"] (spDF CC MM 2)
  C_bf : Cal P w K mg base 26 "_law_bent_fields" ["_law_source", "_law_some"] (spBF CC MM 3)
  CE_code : CalE P w K mg base 6 "_law_code" ["_law_some"] (spLCode CC CN MM)
  CE_written : CalE P w K mg base 4 "written" ["code"] (spWritten CC CN MM)
  eq : ∃ (g : Addr) (gd : FuncData), FnOk P w K mg base CX0 4 g gd ["self", "other"] (spCeq CC MM) ∧ Binds K gd ["self", "other"] [] ∧ PySem.W.findIn K (.ref CC) "__eq__" = some (some (.ref g)) ∧ PySem.W.isFn K (.ref g) = true
  mo : PySem.W.mroIn K CC (.type "object") = some true
  fn : PySem.W.findIn K (.ref CC) "__ne__" = some (some (.builtin "object.__ne__"))
  sub : ∀ t ∈ ["NoneType", "int", "bool", "str", "list", "tuple", "dict"], PySem.W.subIn K (.type t) (.ref CC) = some false
/-! ### the reading of the law, in parts -/
def t_wr (CC CN MM : Addr) (i : Nat) : TE := tCall (spWritten CC CN MM) [] E0 (tCons (tVar i) tNil)
def t_mk (CC CN MM : Addr) (te : TE) : TE := tCall (spLCode CC CN MM) [] E0 (tCons te tNil)
def t_eqc (K : PySem.W.Frag) (CC MM : Addr) (g : Bool → Bool) (i j : Nat) : TT := tTest (tOp (rEqC K CC (spCeq CC MM) g) (tVar i) (tVar j))
def t_lists (K : PySem.W.Frag) : TE := tOp rCat (tOp rCat (tSl rSld (tVar 3) tNoPart (tPart (tC (V.int 4)))) (tLc (iList K (tSl rSld (tVar 3) (tPart (tC (V.int 4))) (tPart (tC (V.int 9))))) (gName 9) tYes (tCB rListd (tCons (tVar 9) tNil)) [9])) (tSl rSld (tVar 3) (tPart (tC (V.int 9))) tNoPart)
def t_c1 (K : PySem.W.Frag) (CC CN MM : Addr) : TS := tIfS (tOr (tNot (t_eqc K CC MM id 4 5)) (tOr (t_eqc K CC MM not 4 5) (tOr (tNot (t_eqc K CC MM id 5 4)) (tTest (tOp (rNeW K) (t_wr CC CN MM 4) (t_wr CC CN MM 5)))))) (tRet (tC (V.bl false))) tNext
def t_c2 (K : PySem.W.Frag) (CC CN MM : Addr) : TS := tIfS (tOr (t_eqc K CC MM id 4 7) (tOr (tNot (t_eqc K CC MM not 4 7)) (tOr (t_eqc K CC MM id 7 4) (tTest (tOp (rEqW K) (t_wr CC CN MM 4) (t_wr CC CN MM 7)))))) (tRet (tC (V.bl false))) tNext
def t_c3 (K : PySem.W.Frag) (CC MM : Addr) : TS := tIfS (tOr (t_eqc K CC MM id 4 8) (tNot (t_eqc K CC MM not 4 8))) (tRet (tC (V.bl false))) tNext
def t_turn (K : PySem.W.Frag) (CC CN MM : Addr) : TS := tSeq (tAsg (t_mk CC CN MM (tCall (spBF CC MM 3) [] E0 (tCons (tVar 2) (tCons (tVar 3) tNil)))) (gName 7)) (t_c2 K CC CN MM)
def t_odds (CC CN MM : Addr) : TE := tTup (tCons (tC V.non) (tCons (tC (V.int 5)) (tCons (tC (V.str (Str.ofString "a"))) (tCons (tVar 3) (tCons (tCB rTupd (tCons (tVar 3) tNil)) (tCons (t_wr CC CN MM 4) (tCons tDNewK (tCons (tC (V.bl true)) tNil))))))))
def t_cell (K : PySem.W.Frag) (CC CN MM : Addr) : TS := tSeq (tAsg (tCall spSrc [] E0 (tCons (tVar 1) tNil)) (gName 2)) (tSeq (tAsg (tCall (spDF CC MM 2) [] E0 (tCons (tVar 2) (tCons (tC (V.int 2)) tNil))) (gName 3)) (tSeq (tAsg (t_mk CC CN MM (tVar 3)) (gName 4)) (tSeq (tAsg (t_mk CC CN MM (t_lists K)) (gName 5)) (tSeq (t_c1 K CC CN MM)
  (tSeq (tFor (iRng1 (tCons (tC (V.int 6)) tNil)) (gName 6) (t_turn K CC CN MM)) (tFor (iTup K (t_odds CC CN MM)) (gName 8) (t_c3 K CC MM)))))))
def t_law (K : PySem.W.Frag) (CC CN MM : Addr) : TS := tSeq (tFor (iList K (tSl rSld (tOp (rCatS K) (tVar 0) (tLst (tCons (tC (V.int 0)) tNil))) tNoPart (tPart (tC (V.int 5))))) (gName 1) (t_cell K CC CN MM)) (tRet (tC (V.bl true)))
section
variable {P : Program} {w : World} {K : PySem.W.Frag} {mg : Str → Option Value} {base : Heap}
abbrev Xlaw (P : Program) (w : World) (K : PySem.W.Frag) (mg : Str → Option Value) (base : Heap) (fa : Addr) (cdv : Value) (s : Shared) (H : Hp) : Cx := cxOf CX0 P w K mg base Nlaw "law" (defScope slaw) fa cdv callerA [] s H E0
theorem law_reads {CC CN MM fa : Addr} {cdv : Value} {s : Shared} {H : Hp} (L : LawT P w K mg base CC CN MM) (hr : Room 26 (Xlaw P w K mg base fa cdv s H).nox.A) (hgd : (Xlaw P w K mg base fa cdv s H).nox.A.guards = some []) :
    PSs (Xlaw P w K mg base fa cdv s H).nox (defBody slaw) (t_law (Xlaw P w K mg base fa cdv s H).nox.K CC CN MM) := by
  have hu200 : (Xlaw P w K mg base fa cdv s H).nox.A.units + 200 < cLine := by have := hr.un; omega
  have T := L.T
  have C_source_of := L.C_source_of
  have C_drawn_fields := L.C_df
  obtain ⟨gE, gdE, FE, bE, fE, nE⟩ := L.eq
  unfold t_law t_cell t_odds t_turn t_c3 t_c2 t_c1 t_lists t_eqc t_mk t_wr
  exact (pss_cons (ps_for PassesOwn.never rfl (pi_list (pe_slice sl_d (pe_op op_catS (pv 0) (pe_lst (pa_cons pe_int pa_nil))) po_none (po_some pe_int))) (pg_name (i := 1) sclaw.nd rfl (Or.inl rfl))
    (pss_cons (ps_set (i := 2) sclaw.nd rfl (Or.inl rfl) (pe_cal C_source_of (hr.mono (by decide)) rfl (pa_cons (pv 1) pa_nil)))
  (pss_cons (ps_set (i := 3) sclaw.nd rfl (Or.inl rfl) (pe_cal C_drawn_fields (hr.mono (by decide)) rfl (pa_cons (pv 2) (pa_cons pe_int pa_nil))))
  (pss_cons (ps_set (i := 4) sclaw.nd rfl (Or.inl rfl) (pe_calE L.CE_code (hr.mono (by decide)) rfl LamX.takes0 (fun _ _ _ _ z => z) (pa_cons (pv 3) pa_nil)))
  (pss_cons (ps_set (i := 5) sclaw.nd rfl (Or.inl rfl) (pe_calE L.CE_code (hr.mono (by decide)) rfl LamX.takes0 (fun _ _ _ _ z => z) (pa_cons (pe_op op_cat (pe_op op_cat (pe_slice sl_d (pv 3) po_none (po_some pe_int)) (pe_lc (own := [("_law_row", 9)]) (g := gName 9) (tt := tYes) rfl sclaw.nd (pi_list (pe_slice sl_d (pv 3) (po_some pe_int) (po_some pe_int))) (blkOk_by (own := [("_law_row", 9)]) (N := ["_law_script", "_law_cell", "_law_source", "_law_some", "_law_one_here", "_law_same", "_law_turn", "_law_other", "_law_odd", "_law_row"]) (sc := defScope slaw) (by decide +kernel)) (fun _ _ _ _ _ => (pg_name (i := 9) sclaw.nd rfl (Or.inl rfl))) (fun _ _ _ _ _ => pts_nil) (fun _ _ _ _ _ => (pe_callTy call_list_d (by rfl) T.b_list (by decide +kernel) (pa_cons (pv 9) pa_nil))))) (pe_slice sl_d (pv 3) (po_some pe_int) po_none)) pa_nil)))
  (pss_cons (ps_if (PW.pt (pw_or (pt_not (pt_cmpR (op_eqC FE bE pass0 (hr.mono (by decide)) fE nE) (pv 4) (pv 5) (nomark _))) (pw_or (pt_cmpR (op_neC FE bE pass0 (hr.mono (by decide)) L.mo L.fn fE nE) (pv 4) (pv 5) (nomark _)) (pw_or (pt_not (pt_cmpR (op_eqC FE bE pass0 (hr.mono (by decide)) fE nE) (pv 5) (pv 4) (nomark _))) (pw_or1 (pt_cmpR (op_neW hu200) (pe_calE L.CE_written (hr.mono (by decide)) rfl LamX.takes0 (fun _ _ _ _ z => z) (pa_cons (pv 4) pa_nil)) (pe_calE L.CE_written (hr.mono (by decide)) rfl LamX.takes0 (fun _ _ _ _ z => z) (pa_cons (pv 5) pa_nil)) (nomark _)))))))
    (pss_one (ps_ret pe_bl))
    pss_nil)
  (pss_cons (ps_for PassesOwn.never rfl (pi_range1 rfl T.b_range (pa_cons pe_int pa_nil)) (pg_name (i := 6) sclaw.nd rfl (Or.inl rfl))
    (pss_cons (ps_set (i := 7) sclaw.nd rfl (Or.inl rfl) (pe_calE L.CE_code (hr.mono (by decide)) rfl LamX.takes0 (fun _ _ _ _ z => z) (pa_cons (pe_cal L.C_bf hr rfl (pa_cons (pv 2) (pa_cons (pv 3) pa_nil))) pa_nil)))
  (pss_one (ps_if (PW.pt (pw_or (pt_cmpR (op_eqC FE bE pass0 (hr.mono (by decide)) fE nE) (pv 4) (pv 7) (nomark _)) (pw_or (pt_not (pt_cmpR (op_neC FE bE pass0 (hr.mono (by decide)) L.mo L.fn fE nE) (pv 4) (pv 7) (nomark _))) (pw_or (pt_cmpR (op_eqC FE bE pass0 (hr.mono (by decide)) fE nE) (pv 7) (pv 4) (nomark _)) (pw_or1 (pt_cmpR (op_eqW hu200) (pe_calE L.CE_written (hr.mono (by decide)) rfl LamX.takes0 (fun _ _ _ _ z => z) (pa_cons (pv 4) pa_nil)) (pe_calE L.CE_written (hr.mono (by decide)) rfl LamX.takes0 (fun _ _ _ _ z => z) (pa_cons (pv 7) pa_nil)) (nomark _)))))))
    (pss_one (ps_ret pe_bl))
    pss_nil))))
  (pss_one (ps_for PassesOwn.never rfl (pi_tup (pe_tup (pa_cons pe_non (pa_cons pe_int (pa_cons pe_str (pa_cons (pv 3) (pa_cons (pe_callTy call_tuple_d (by rfl) T.b_tuple (by decide +kernel) (pa_cons (pv 3) pa_nil)) (pa_cons (pe_calE L.CE_written (hr.mono (by decide)) rfl LamX.takes0 (fun _ _ _ _ z => z) (pa_cons (pv 4) pa_nil)) (pa_cons pe_dnewK (pa_cons pe_bl pa_nil)))))))))) (pg_name (i := 8) sclaw.nd rfl (Or.inl rfl))
    (pss_one (ps_if (PW.pt (pw_or (pt_cmpR (op_eqC FE bE pass0 (hr.mono (by decide)) fE nE) (pv 4) (pv 8) (nomark _)) (pw_or1 (pt_not (pt_cmpR (op_neC FE bE pass0 (hr.mono (by decide)) L.mo L.fn fE nE) (pv 4) (pv 8) (nomark _))))))
    (pss_one (ps_ret pe_bl))
    pss_nil)))))))))))
  (pss_one (ps_ret pe_bl)))
end
end C51

set_option maxHeartbeats 2000000
namespace C51
open PySem PySem.Spec PyProof.Rows L2 E51 E51.E6
mutual
theorem Al.symm : ∀ {k l : PV}, Al k l → Al l k
  | .con _, .con _, _ => by unfold Al; trivial
  | .cod _ ks, .cod _ ls, h => by
    unfold Al at h ⊢
    exact Als.symm h
  | .con _, .cod _ _, h => by
    unfold Al at h
    exact h.elim
  | .cod _ _, .con _, h => by
    unfold Al at h
    exact h.elim
theorem Als.symm : ∀ {ks ls : List PV}, Als ks ls → Als ls ks
  | k :: ks, l :: ls, h => by
    unfold Als at h ⊢
    exact ⟨Al.symm h.1, Als.symm h.2⟩
  | [], [], _ => by unfold Als; trivial
  | [], _ :: _, _ => by unfold Als; trivial
  | _ :: _, [], _ => by unfold Als; trivial
end
theorem Kd.tyb {K : PySem.W.Frag} {H : Hp} {v : V} {t : String} (h : Kd H v t) : TyB K H v t := by
  cases h with
  | non => exact .non
  | bl b => exact .bl b
  | int i => exact .int i
  | str z => exact .str z
  | lst h => exact .lst (SqL.of h)
  | tup h => exact .tup (SqT.of h)
  | dct h => exact .dK h
/-- a code fit for all that the law asks -/
structure Fit (k : PV) : Prop where
  c : isC k
  g : gV 4 201 11 k
  sz : tz k ≤ 6000
/-- what stays through the turns -/
structure Sit (CC MM a L c1 : Addr) (A : FP) (p : PF) (ks : List PV) (ws : List V) (μ : Mks) (H : Hp) : Prop where
  S : Src H a
  La : L ≠ a
  W : Wm MM μ H
  hL : H L = some (.lst (A.vs p))
  R : Rows CC MM μ H A p ks ws
  r : Rp CC MM μ H (.ref c1) (.cod p ks)
section
variable {K : PySem.W.Frag} {CC CN MM a L c1 c2 : Addr} {A : FP} {p : PF} {ks : List PV} {ws : List V} {μ ν : Mks} {H H' : Hp} {D : Ends} {pa pb : PV}
theorem Sit.same (S : Sit CC MM a L c1 A p ks ws μ H) (s : Same H H') (l : Mks.le μ ν) (W : Wm MM ν H') : Sit CC MM a L c1 A p ks ws ν H' := ⟨S.S.same s, S.La, W, s _ _ S.hL, S.R.mo (Mo.same s) l, S.r.mo (Mo.same s) l⟩
theorem Sit.keep (S : Sit CC MM a L c1 A p ks ws μ H) (s : Keep a H H') (S' : Src H' a) (l : Mks.le μ ν) (W : Wm MM ν H') : Sit CC MM a L c1 A p ks ws ν H' := ⟨S', S.La, W, s _ _ S.La S.hL, S.R.mo (Mo.keep S.S S' s) l, S.r.mo (Mo.keep S.S S' s) l⟩
theorem Fit.g100 (f : Fit pa) : gV 100 201 11 pa := gV.mono (by decide) (Nat.le_refl 201) (Nat.le_refl 11) f.g
theorem rp_ins (r : Rp CC MM μ H (.ref c1) pa) (ic : isC pa) : ∃ dx fs, H c1 = some (.ins CC dx fs) := by
  cases r with
  | con h => exact ic.elim
  | cod h t hm =>
    obtain ⟨dx, fs, f1, _⟩ := h
    exact ⟨dx, fs, f1⟩
theorem eqc_run {g : Bool → Bool} {Q : VK} (W : Wm MM μ H) (r1 : Rp CC MM μ H (.ref c1) pa) (r2 : Rp CC MM μ H (.ref c2) pb) (f1 : Fit pa) (f2 : Fit pb) (al : Al pa pb) (q : ∀ H', Same H H' → Q (.bl (g (eqB pa pb))) H') : rEqC K CC (spCeq CC MM) g (.ref c1) (.ref c2) H Q := by
  obtain ⟨dx, fs, e1⟩ := rp_ins r1 f1.c
  obtain ⟨dy, gs, e2⟩ := rp_ins r2 f2.c
  have h1 := sz_tz pa
  have h2 := f1.sz
  exact ⟨c1, dx, fs, rfl, e1, .inl ⟨c2, dy, gs, rfl, e2⟩, c1, .ref c2, _, rfl, .inl ⟨c2, rfl, μ, 201, 11, pa, pb, W, r1, r2, f1.c, f2.c, al, f1.g100, f2.g100, by omega, rfl⟩, fun H' s => ⟨_, rfl, q H' s⟩⟩
theorem eqo_run {g : Bool → Bool} {Q : VK} {v : V} {t : String} (sub : ∀ t ∈ ["NoneType", "int", "bool", "str", "list", "tuple", "dict"], PySem.W.subIn K (.type t) (.ref CC) = some false) (r1 : Rp CC MM μ H (.ref c1) pa) (f1 : Fit pa) (kd : Kd H v t) (q : ∀ H', Same H H' → Q (.bl (g false)) H') : rEqC K CC (spCeq CC MM) g (.ref c1) v H Q := by
  obtain ⟨dx, fs, e1⟩ := rp_ins r1 f1.c
  exact ⟨c1, dx, fs, rfl, e1, .inr ⟨t, kd.tyb, sub t (kd.ty (CC := CC)).2⟩, c1, v, false, rfl, .inr ⟨rfl, t, kd⟩, fun H' s => ⟨_, rfl, q H' s⟩⟩
theorem wr_run {σ : L2.St} {i : Nat} {Q : VK} (hi : σ[i]? = some (some (.ref c1))) (r1 : Rp CC MM μ H (.ref c1) pa) (f : Fit pa) (q : ∀ p H', Same H H' → H p = none → H' p = some (.tup (vn (encP pa))) → Q (.ref p) H') : t_wr CC CN MM i σ H Q := by
  have h1 := encP_len f.g
  have h2 := f.sz
  exact ⟨.ref c1, hi, .ref c1, rfl, .inl ⟨c1, pa, μ, 11, rfl, r1, f.c, gV.mono (by decide) (by decide) (Nat.le_refl 11) f.g, by decide, by omega, q⟩⟩
theorem dp_tup {p : Addr} {ns : List Nat} (h : H p = some (.tup (vn ns))) : Dp K H (.ref p) (numsD ns) := .tup (SqT.of h) dp_vn
theorem lay_numsD {ns : List Nat} : (numsD ns).canLay0 = true := by
  unfold numsD
  simp only [PyData.canLay0, lay_n]
theorem dep_numsD {ns : List Nat} : (numsD ns).depth ≤ 150 := by
  unfold numsD
  simp only [PyData.depth, dep_n]
  decide
theorem eqv_numsD {ns ms : List Nat} : PyData.eqv (numsD ns) (numsD ms) = eqB ns ms := by
  unfold numsD
  simp only [PyData.eqv]
  by_cases c : ns = ms
  · rw [eqv_n.mpr c, eqB_iff.mpr c]
  · rw [eqB_ne c]
    cases e : PyData.eqvAll (ns.map fun (n : Nat) => PyData.int (n : Int)) (ms.map fun (n : Nat) => PyData.int (n : Int)) with
    | false => rfl
    | true => exact absurd (eqv_n.mp e) c
theorem eqc_tt {g : Bool → Bool} {i j : Nat} {σ : L2.St} {Q : Bool → Hp → Prop} (hi : σ[i]? = some (some (.ref c1))) {v : V} (hj : σ[j]? = some (some v)) (h : rEqC K CC (spCeq CC MM) g (.ref c1) v H fun x H' => ∃ k, x = .bl k ∧ Q k H') : t_eqc K CC MM g i j σ H Q := ⟨.ref c1, hi, v, hj, h⟩
/-- the code and another made of the same -/
theorem c1_run {s0 s1 s2 s3 s6 s7 s8 s9 : Option V} (W : Wm MM μ H) (r1 : Rp CC MM μ H (.ref c1) pa) (r2 : Rp CC MM μ H (.ref c2) pa) (f : Fit pa) (q : ∀ H', Same H H' → D.nx [s0, s1, s2, s3, some (.ref c1), some (.ref c2), s6, s7, s8, s9] H') : t_c1 K CC CN MM D [s0, s1, s2, s3, some (.ref c1), some (.ref c2), s6, s7, s8, s9] H := by
  have me : eqB pa pa = true := eqB_self pa
  unfold t_c1
  rw [r_ifs, r_or, r_not]
  refine eqc_tt rfl rfl (eqc_run W r1 r2 f f (Al.refl pa) fun H1 s1 => ⟨_, rfl, ?_⟩)
  rw [me, if_neg (by decide), r_or]
  have m1 := Mo.same s1
  refine eqc_tt rfl rfl (eqc_run (W.mo m1) (r1.mo m1 (Mks.le_refl μ)) (r2.mo m1 (Mks.le_refl μ)) f f (Al.refl pa) fun H2 s2 => ⟨_, rfl, ?_⟩)
  rw [me, if_neg (by decide), r_or, r_not]
  have m2 := m1.trans (Mo.same s2)
  refine eqc_tt rfl rfl (eqc_run (W.mo m2) (r2.mo m2 (Mks.le_refl μ)) (r1.mo m2 (Mks.le_refl μ)) f f (Al.refl pa) fun H3 s3 => ⟨_, rfl, ?_⟩)
  rw [me, if_neg (by decide)]
  have m3 := m2.trans (Mo.same s3)
  show tTest _ _ _ _
  rw [r_tst, r_op]
  refine wr_run rfl (r1.mo m3 (Mks.le_refl μ)) f fun p1 H4 s4 n4 q4 => ?_
  have m4 := m3.trans (Mo.same s4)
  refine wr_run rfl (r2.mo m4 (Mks.le_refl μ)) f fun p2 H5 s5 n5 q5 => ?_
  refine ⟨_, _, dp_tup (s5 _ _ q4), dp_tup q5, lay_numsD, lay_numsD, Nat.le_trans (Nat.min_le_left _ _) dep_numsD, _, rfl, ?_⟩
  rw [eqv_numsD, eqB_self, if_neg (by decide), r_next]
  exact q H5 fun b o e => s5 b o (s4 b o (s3 b o (s2 b o (s1 b o e))))
/-- the code and one made of other fields -/
theorem c2_run {s0 s1 s2 s3 s5 s6 s8 s9 : Option V} (W : Wm MM μ H) (r1 : Rp CC MM μ H (.ref c1) pa) (r2 : Rp CC MM μ H (.ref c2) pb) (f1 : Fit pa) (f2 : Fit pb) (al : Al pa pb) (ne : pa ≠ pb) (q : ∀ H', Same H H' → D.nx [s0, s1, s2, s3, some (.ref c1), s5, s6, some (.ref c2), s8, s9] H') : t_c2 K CC CN MM D [s0, s1, s2, s3, some (.ref c1), s5, s6, some (.ref c2), s8, s9] H := by
  have me : eqB pa pb = false := eqB_ne ne
  have me2 : eqB pb pa = false := eqB_ne (Ne.symm ne)
  unfold t_c2
  rw [r_ifs, r_or]
  refine eqc_tt rfl rfl (eqc_run W r1 r2 f1 f2 al fun H1 s1 => ⟨_, rfl, ?_⟩)
  rw [me, if_neg (by decide), r_or, r_not]
  have m1 := Mo.same s1
  refine eqc_tt rfl rfl (eqc_run (W.mo m1) (r1.mo m1 (Mks.le_refl μ)) (r2.mo m1 (Mks.le_refl μ)) f1 f2 al fun H2 s2 => ⟨_, rfl, ?_⟩)
  rw [me, if_neg (by decide), r_or]
  have m2 := m1.trans (Mo.same s2)
  refine eqc_tt rfl rfl (eqc_run (W.mo m2) (r2.mo m2 (Mks.le_refl μ)) (r1.mo m2 (Mks.le_refl μ)) f2 f1 al.symm fun H3 s3 => ⟨_, rfl, ?_⟩)
  rw [me2, if_neg (by decide)]
  have m3 := m2.trans (Mo.same s3)
  show tTest _ _ _ _
  rw [r_tst, r_op]
  refine wr_run rfl (r1.mo m3 (Mks.le_refl μ)) f1 fun p1 H4 s4 n4 q4 => ?_
  have m4 := m3.trans (Mo.same s4)
  refine wr_run rfl (r2.mo m4 (Mks.le_refl μ)) f2 fun p2 H5 s5 n5 q5 => ?_
  refine ⟨_, _, dp_tup (s5 _ _ q4), dp_tup q5, lay_numsD, lay_numsD, Nat.le_trans (Nat.min_le_left _ _) dep_numsD, _, rfl, ?_⟩
  have ee : encP pa ≠ encP pb := fun e => ne (enc_inj (n := 11) (by decide) (gV.mono (by decide) (by decide) (Nat.le_refl 11) f1.g) (gV.mono (by decide) (by decide) (Nat.le_refl 11) f2.g) e)
  rw [eqv_numsD, eqB_ne ee, if_neg (by decide), r_next]
  exact q H5 fun b o e => s5 b o (s4 b o (s3 b o (s2 b o (s1 b o e))))
/-- the code and what is none -/
theorem c3_run {s0 s1 s2 s3 s5 s6 s7 s9 : Option V} {v : V} {t : String} (sub : ∀ t ∈ ["NoneType", "int", "bool", "str", "list", "tuple", "dict"], PySem.W.subIn K (.type t) (.ref CC) = some false) (r1 : Rp CC MM μ H (.ref c1) pa) (f1 : Fit pa) (kd : Kd H v t) (q : ∀ H', Same H H' → D.nx [s0, s1, s2, s3, some (.ref c1), s5, s6, s7, some v, s9] H') : t_c3 K CC MM D [s0, s1, s2, s3, some (.ref c1), s5, s6, s7, some v, s9] H := by
  unfold t_c3
  rw [r_ifs, r_or]
  refine eqc_tt rfl rfl (eqo_run sub r1 f1 kd fun H1 s1 => ⟨_, rfl, ?_⟩)
  rw [if_neg (by decide), r_not]
  refine eqc_tt rfl rfl (eqo_run sub (r1.mo (Mo.same s1) (Mks.le_refl μ)) f1 (kd.same s1) fun H2 s2 => ⟨_, rfl, ?_⟩)
  rw [if_neg (by decide), r_next]
  exact q H2 fun b o e => s2 b o (s1 b o e)
/-- one turn -/
theorem lturn_run {s0 s1 s5 s6 s7 s8 s9 : Option V} (S : Sit CC MM a L c1 A p ks ws μ H) (ok : PfOk 10 p) (g : gVs 3 200 10 ks) (kl : ks.length ≤ 6) (kd : ∀ k ∈ ks, depK k ≤ 3) (tk : tzs ks ≤ 5000)
    (q : ∀ s7 ν H', Keep a H H' → Sit CC MM a L c1 A p ks ws ν H' → D.nx [s0, s1, some (.ref a), some (.ref L), some (.ref c1), s5, s6, s7, s8, s9] H') : t_turn K CC CN MM D [s0, s1, some (.ref a), some (.ref L), some (.ref c1), s5, s6, s7, s8, s9] H := by
  have dp : depF (depKs ks) ≤ 3 := depKs_le (by decide) kd
  unfold t_turn t_mk
  simp only [r_seq, r_next, r_brk, r_cont, r_asg, r_name, r_ret, r_retN, r_drop, r_ifs, r_never, r_var, r_c, r_op, r_un, r_if, r_tst, r_b, r_not, r_and, r_or, r_andV, r_orV, r_notV, r_nil, r_cons, r_tup, r_lst, r_cb, r_call, r_bm, r_bm0, r_sl, r_nopart, r_part, r_rev, r_gnil, r_gcons, r_gsub, r_par, r_aug, r_chain, r_I0, r_I, r_U, r_ixd, r_lend, r_tupd, r_listd, r_sld, r_app, r_ext, r_reverse, r_setl, r_cat, r_int1, r_eqS, r_neS, scal_ii, scal_bb, scal_ss, at0, at1, at2, sq_lst, sq_tup, isLst_lst, List.getElem?_cons_zero, List.getElem?_cons_succ, List.set_cons_zero, List.set_cons_succ, V.int.injEq, V.bl.injEq, V.ref.injEq, V.str.injEq, HO.lst.injEq, HO.tup.injEq, Option.some.injEq, exists_eq_left', exists_eq_left, List.cons.injEq, and_true, true_and, decide_eq_true_eq, reduceCtorEq, false_and, exists_false, or_false, false_or, exists_const, and_assoc, exists_and_left, List.append_nil, ix0, ix1, ix2, cm_mod, cdw1009, cdw2003, cdw7, cdw64, cdw2, cm104729, cm2, cm3, upd_same, List.length_cons, List.length_nil, Int.reduceLT, Int.reduceLE, Nat.reduceAdd, Nat.reduceLeDiff, Nat.reduceLT, Int.reduceToNat, r_for1, r_forL, r_forT, r_lcL, r_lc1, r_yes, r_gtupD, wipe_0, wipe_1, List.cons_append, List.nil_append, r_forS, r_ipI, ite_false, ite_true, Bool.not_true, Bool.not_false, decide_true, decide_false, r_isd, r_islt, cD_ty, cD_ref, tD_non, tD_bl, tD_int, tD_str, tD_ref, tH_lst, tH_tup, tH_dK, tH_ins, ki_self, ki_int_bool, ki_non_int, ki_str_int, ki_lt_lst, ki_lt_tup, r_fld, r_sfld, HO.ins.injEq, cx_K]
  refine ⟨a, L, A, p, ks, ws, μ, rfl, S.S, S.La, S.W, S.hL, S.R, ok, g, by omega, by omega, by omega, kd, fun L' q' ls ν H1 k1 S1 nL lν W1 lf bf => ?_⟩
  have gl := bf.g (by omega) g
  have tl := bf.tz
  refine made W1 lf (bf.ok ok) (gVs.mono (by decide) (Nat.le_refl 201) (Nat.le_refl 11) gl) (by rw [bf.dp]; omega) fun c2 ξ H2 hc s2 lξ W2 r2 => ?_
  have St := (S.keep k1 S1 lν W1).same s2 lξ W2
  have f1 : Fit (.cod p ks) := ⟨trivial, by unfold gV; exact ⟨ok.mono (by decide), by omega, by omega, gVs.mono (by decide) (by decide) (by decide) g⟩, by unfold tz; omega⟩
  have f2 : Fit (.cod q' ls) := ⟨trivial, by unfold gV; exact ⟨bf.ok ok, by have := bf.len; omega, by rw [bf.dp]; omega, gl⟩, by unfold tz; omega⟩
  exact c2_run W2 St.r r2 f1 f2 bf.bp.al bf.bp.ne fun H3 s3 => q _ ξ H3 (k1.trans ((Keep.same s2).trans (Keep.same s3))) (St.same s3 (Mks.le_refl ξ) (W2.mo (Mo.same s3)))
end
end C51

set_option maxHeartbeats 2000000
namespace C51
open PySem PySem.Spec PyProof.Rows L2 E51 E51.E6
theorem Same.trans' {H H1 H2 : Hp} (s : Same H H1) (t : Same H1 H2) : Same H H2 := fun b o e => t b o (s b o e)
theorem cut_mid {xs : List V} {i j : Nat} (h : i ≤ j) (hj : j ≤ xs.length) : cutV xs (some (i : Int)) (some (j : Int)) = (xs.drop i).take (j - i) := by
  have e : HT.sIx xs.length 0 (some (i : Int)) = i := by
    rw [HT.sIx_nat]
    omega
  have e2 : HT.sIx xs.length xs.length (some (j : Int)) = j := by
    rw [HT.sIx_nat]
    omega
  unfold cutV
  rw [e, e2]
section
variable {K : PySem.W.Frag} {CC CN MM a L c1 c2 : Addr} {A : FP} {p : PF} {ks : List PV} {ws : List V} {μ ν : Mks} {H H' : Hp} {D : Ends} {pa pb : PV}
/-- the same fields, rows as lists -/
theorem lists_run {s0 s1 s2 s4 s5 s6 s7 s8 s9 : Option V} {Q : VK} (hL : H L = some (.lst (A.vs p))) (R : Rows CC MM μ H A p ks ws) (q : ∀ M H', Same H H' → LfAt CC MM μ H' M p ks → Q (.ref M) H') : t_lists K [s0, s1, s2, some (.ref L), s4, s5, s6, s7, s8, s9] H Q := by
  have c4 : cutV (A.vs p) none (some 4) = [.int p.i0, .int p.i1, .int p.i2, .int p.i3] := (cut_to (xs := A.vs p) (i := 4) (Nat.le_of_ble_eq_true rfl)).trans rfl
  have c49 : cutV (A.vs p) (some 4) (some 9) = [.ref A.pu, .ref A.pk, .ref A.pn, .ref A.ps, .ref A.pd] := (cut_mid (xs := A.vs p) (i := 4) (j := 9) (by decide) (Nat.le_of_ble_eq_true rfl)).trans rfl
  have c9 : cutV (A.vs p) (some 9) none = [.str p.z1, .str p.z2, .int p.i4, .ref A.pt, .ref A.pg] := (cut_from (xs := A.vs p) (i := 9) (Nat.le_of_ble_eq_true rfl)).trans rfl
  unfold t_lists
  simp only [r_seq, r_next, r_brk, r_cont, r_asg, r_name, r_ret, r_retN, r_drop, r_ifs, r_never, r_var, r_c, r_op, r_un, r_if, r_tst, r_b, r_not, r_and, r_or, r_andV, r_orV, r_notV, r_nil, r_cons, r_tup, r_lst, r_cb, r_call, r_bm, r_bm0, r_sl, r_nopart, r_part, r_rev, r_gnil, r_gcons, r_gsub, r_par, r_aug, r_chain, r_I0, r_I, r_U, r_ixd, r_lend, r_tupd, r_listd, r_sld, r_app, r_ext, r_reverse, r_setl, r_cat, r_int1, r_eqS, r_neS, scal_ii, scal_bb, scal_ss, at0, at1, at2, sq_lst, sq_tup, isLst_lst, List.getElem?_cons_zero, List.getElem?_cons_succ, List.set_cons_zero, List.set_cons_succ, V.int.injEq, V.bl.injEq, V.ref.injEq, V.str.injEq, HO.lst.injEq, HO.tup.injEq, Option.some.injEq, exists_eq_left', exists_eq_left, List.cons.injEq, and_true, true_and, decide_eq_true_eq, reduceCtorEq, false_and, exists_false, or_false, false_or, exists_const, and_assoc, exists_and_left, List.append_nil, ix0, ix1, ix2, cm_mod, cdw1009, cdw2003, cdw7, cdw64, cdw2, cm104729, cm2, cm3, upd_same, List.length_cons, List.length_nil, Int.reduceLT, Int.reduceLE, Nat.reduceAdd, Nat.reduceLeDiff, Nat.reduceLT, Int.reduceToNat, r_for1, r_forL, r_forT, r_lcL, r_lc1, r_yes, r_gtupD, wipe_0, wipe_1, List.cons_append, List.nil_append, r_forS, r_ipI, ite_false, ite_true, Bool.not_true, Bool.not_false, decide_true, decide_false, r_isd, r_islt, cD_ty, cD_ref, tD_non, tD_bl, tD_int, tD_str, tD_ref, tH_lst, tH_tup, tH_dK, tH_ins, ki_self, ki_int_bool, ki_non_int, ki_str_int, ki_lt_lst, ki_lt_tup, r_fld, r_sfld, HO.ins.injEq, cx_K, hL, c4]
  intro p1 hp1
  have s1 := Same.new' (o := .lst [.int p.i0, .int p.i1, .int p.i2, .int p.i3]) (Same.refl H) hp1
  have q1 : L2.upd H p1 (.lst [.int p.i0, .int p.i1, .int p.i2, .int p.i3]) p1 = some (.lst [.int p.i0, .int p.i1, .int p.i2, .int p.i3]) := upd_same
  generalize L2.upd H p1 (.lst [.int p.i0, .int p.i1, .int p.i2, .int p.i3]) = G1 at *
  refine ⟨_, s1 _ _ hL, fun p2 hp2 => ?_⟩
  rw [c49]
  have s2 := Same.new' (o := .lst [.ref A.pu, .ref A.pk, .ref A.pn, .ref A.ps, .ref A.pd]) (Same.refl G1) hp2
  have q2 : L2.upd G1 p2 (.lst [.ref A.pu, .ref A.pk, .ref A.pn, .ref A.ps, .ref A.pd]) p2 = some (.lst [.ref A.pu, .ref A.pk, .ref A.pn, .ref A.ps, .ref A.pd]) := upd_same
  generalize L2.upd G1 p2 (.lst [.ref A.pu, .ref A.pk, .ref A.pn, .ref A.ps, .ref A.pd]) = G at *
  have s12 : Same H G := fun b o e => s2 b o (s1 b o e)
  have RG := R.mo (Mo.same s12) (Mks.le_refl μ)
  have rows : ∀ (i : Nat) (x : V), ([.ref A.pu, .ref A.pk, .ref A.pn, .ref A.ps, .ref A.pd] : List V)[i]? = some x → ∃ r us, x = .ref r ∧ ([vn p.ds, ws, p.zs.map V.str, p.ss.map V.str, vn p.kds] : List (List V))[i]? = some us ∧ G r = some (.tup us) := fun i x hx => by
    match i, hx with
    | 0, hx => exact ⟨A.pu, _, (Option.some.inj hx).symm, rfl, RG.u⟩
    | 1, hx => exact ⟨A.pk, _, (Option.some.inj hx).symm, rfl, RG.k⟩
    | 2, hx => exact ⟨A.pn, _, (Option.some.inj hx).symm, rfl, RG.n⟩
    | 3, hx => exact ⟨A.ps, _, (Option.some.inj hx).symm, rfl, RG.s⟩
    | 4, hx => exact ⟨A.pd, _, (Option.some.inj hx).symm, rfl, RG.d⟩
    | n + 5, hx => simp at hx
  refine ⟨⟨_, SqL.of q2⟩, fun D hD => ?_⟩
  refine cp_list (xs := [.ref A.pu, .ref A.pk, .ref A.pn, .ref A.ps, .ref A.pd]) (fun i H' => Same G H' ∧ ∃ rs : List Addr, H' D = some (.lst (rs.map V.ref)) ∧ Paired (fun r us => G r = none ∧ r ≠ D ∧ H' r = some (.lst us)) rs (([vn p.ds, ws, p.zs.map V.str, p.ss.map V.str, vn p.kds] : List (List V)).take i)) ⟨Same.new' (Same.refl G) hD, [], upd_same, .nil⟩ (fun i H' _ q => SqL.of (q.1 _ _ q2)) ?_ ?_
  · rintro i x H1 hx ⟨sg, rs, hd, pr⟩
    obtain ⟨r, us, rfl, hu, hr⟩ := rows i x hx
    simp only [r_seq, r_next, r_brk, r_cont, r_asg, r_name, r_ret, r_retN, r_drop, r_ifs, r_never, r_var, r_c, r_op, r_un, r_if, r_tst, r_b, r_not, r_and, r_or, r_andV, r_orV, r_notV, r_nil, r_cons, r_tup, r_lst, r_cb, r_call, r_bm, r_bm0, r_sl, r_nopart, r_part, r_rev, r_gnil, r_gcons, r_gsub, r_par, r_aug, r_chain, r_I0, r_I, r_U, r_ixd, r_lend, r_tupd, r_listd, r_sld, r_app, r_ext, r_reverse, r_setl, r_cat, r_int1, r_eqS, r_neS, scal_ii, scal_bb, scal_ss, at0, at1, at2, sq_lst, sq_tup, isLst_lst, List.getElem?_cons_zero, List.getElem?_cons_succ, List.set_cons_zero, List.set_cons_succ, V.int.injEq, V.bl.injEq, V.ref.injEq, V.str.injEq, HO.lst.injEq, HO.tup.injEq, Option.some.injEq, exists_eq_left', exists_eq_left, List.cons.injEq, and_true, true_and, decide_eq_true_eq, reduceCtorEq, false_and, exists_false, or_false, false_or, exists_const, and_assoc, exists_and_left, List.append_nil, ix0, ix1, ix2, cm_mod, cdw1009, cdw2003, cdw7, cdw64, cdw2, cm104729, cm2, cm3, upd_same, List.length_cons, List.length_nil, Int.reduceLT, Int.reduceLE, Nat.reduceAdd, Nat.reduceLeDiff, Nat.reduceLT, Int.reduceToNat, r_for1, r_forL, r_forT, r_lcL, r_lc1, r_yes, r_gtupD, wipe_0, wipe_1, List.cons_append, List.nil_append, r_forS, r_ipI, ite_false, ite_true, Bool.not_true, Bool.not_false, decide_true, decide_false, r_isd, r_islt, cD_ty, cD_ref, tD_non, tD_bl, tD_int, tD_str, tD_ref, tH_lst, tH_tup, tH_dK, tH_ins, ki_self, ki_int_bool, ki_non_int, ki_str_int, ki_lt_lst, ki_lt_tup, r_fld, r_sfld, HO.ins.injEq, cx_K]
    have lr := paired_len pr
    rw [List.length_take] at lr
    refine ⟨us, by rw [sg _ _ hr]; rfl, fun l hl => ⟨rs.map V.ref, by rw [upd_ne (ne_new hd hl)]; exact hd, ?_, fun b o e => ?_, rs ++ [l], by rw [List.map_append]; rfl, ?_⟩⟩
    · refine Nat.lt_of_le_of_lt (?_ : _ ≤ 1000) (by decide)
      rw [List.length_map, lr]
      exact Nat.le_trans (Nat.min_le_right _ _) (Nat.le_of_ble_eq_true rfl)
    · rw [upd_ne (ne_new e hD), upd_ne (ne_new (sg _ _ e) hl)]
      exact sg _ _ e
    · have lD : l ≠ D := new_ne hd hl
      have lG : G l = none := by
        cases e : G l with
        | none => rfl
        | some o => rw [sg _ _ e] at hl; cases hl
      rw [take_one hu]
      refine paired_snoc (Paired.map' pr fun r v' h => ⟨h.1, h.2.1, ?_⟩) ⟨lG, lD, ?_⟩
      · rw [upd_ne h.2.1, upd_ne (ne_new h.2.2 hl)]
        exact h.2.2
      · rw [upd_ne lD, upd_same]
  · rintro H2 ⟨sg, rs, hd, pr⟩
    have e5 : ([vn p.ds, ws, p.zs.map V.str, p.ss.map V.str, vn p.kds] : List (List V)).take ([.ref A.pu, .ref A.pk, .ref A.pn, .ref A.ps, .ref A.pd] : List V).length = [vn p.ds, ws, p.zs.map V.str, p.ss.map V.str, vn p.kds] := rfl
    rw [e5] at pr
    cases pr with
    | cons h0 pr =>
    cases pr with
    | cons h1 pr =>
    cases pr with
    | cons h2 pr =>
    cases pr with
    | cons h3 pr =>
    cases pr with
    | cons h4 pr =>
    cases pr with
    | nil =>
    rename_i r0 r1 r2 r3 r4
    refine ⟨D, rfl, _, sg _ _ (s2 _ _ q1), _, hd, szl (by decide : 9 ≤ 1000), fun p3 hp3 => ?_⟩
    have s3 := Same.new' (o := .lst ([.int p.i0, .int p.i1, .int p.i2, .int p.i3] ++ [r0, r1, r2, r3, r4].map V.ref)) (Same.refl H2) hp3
    have q3 : L2.upd H2 p3 (.lst ([.int p.i0, .int p.i1, .int p.i2, .int p.i3] ++ [r0, r1, r2, r3, r4].map V.ref)) p3 = some (.lst ([.int p.i0, .int p.i1, .int p.i2, .int p.i3] ++ [r0, r1, r2, r3, r4].map V.ref)) := upd_same
    generalize L2.upd H2 p3 (.lst ([.int p.i0, .int p.i1, .int p.i2, .int p.i3] ++ [r0, r1, r2, r3, r4].map V.ref)) = G3 at *
    refine ⟨A.vs p, s3 _ _ (sg _ _ (s12 _ _ hL)), fun p4 hp4 => ?_⟩
    rw [c9]
    have s4 := Same.new' (o := .lst [.str p.z1, .str p.z2, .int p.i4, .ref A.pt, .ref A.pg]) (Same.refl G3) hp4
    refine ⟨_, s4 _ _ q3, szl (by decide : 14 ≤ 1000), fun p5 hp5 => ?_⟩
    generalize L2.upd G3 p4 (.lst [.str p.z1, .str p.z2, .int p.i4, .ref A.pt, .ref A.pg]) = G4 at *
    have s5 := Same.new' (o := .lst ([.int p.i0, .int p.i1, .int p.i2, .int p.i3] ++ [r0, r1, r2, r3, r4].map V.ref ++ [.str p.z1, .str p.z2, .int p.i4, .ref A.pt, .ref A.pg])) (Same.refl G4) hp5
    have s25 := Same.trans' (Same.trans' s3 s4) s5
    have all := Same.trans' (Same.trans' s12 sg) s25
    have R' := R.mo (Mo.same all) (Mks.le_refl μ)
    have f : ∀ {r us}, H2 r = some (.lst us) → sq (L2.upd G4 p5 (.lst ([.int p.i0, .int p.i1, .int p.i2, .int p.i3] ++ [r0, r1, r2, r3, r4].map V.ref ++ [.str p.z1, .str p.z2, .int p.i4, .ref A.pt, .ref A.pg])) r) = some us := fun h => by rw [s25 _ _ h]; rfl
    have f2 : ∀ {r us}, L2.upd G4 p5 (.lst ([.int p.i0, .int p.i1, .int p.i2, .int p.i3] ++ [r0, r1, r2, r3, r4].map V.ref ++ [.str p.z1, .str p.z2, .int p.i4, .ref A.pt, .ref A.pg])) r = some (.tup us) → sq (L2.upd G4 p5 (.lst ([.int p.i0, .int p.i1, .int p.i2, .int p.i3] ++ [r0, r1, r2, r3, r4].map V.ref ++ [.str p.z1, .str p.z2, .int p.i4, .ref A.pt, .ref A.pg])) r) = some us := fun h => by rw [h]; rfl
    exact q p5 _ all ⟨⟨p5, r0, r1, r2, r3, r4, A.pt, A.pg⟩, ws, upd_same, f h0.2.2, f h1.2.2, f h2.2.2, f h3.2.2, f h4.2.2, f2 R'.t, f2 R'.g, R'.it⟩
end
end C51

set_option maxHeartbeats 2000000
namespace C51
open PySem PySem.Spec PyProof.Rows L2 E51 E51.E6
section
variable {K : PySem.W.Frag} {CC CN MM a L c1 c2 : Addr} {A : FP} {p : PF} {ks : List PV} {ws : List V} {μ ν : Mks} {H H' : Hp} {D : Ends} {pa pb : PV}
def St10' (s0 s1 : Option V) (a L c1 : Addr) (s5 s6 s7 s8 s9 : Option V) : L2.St := [s0, s1, some (.ref a), some (.ref L), some (.ref c1), s5, s6, s7, s8, s9]
theorem mk_tt {te : TE} {σ : L2.St} {Q : VK} : t_mk CC CN MM te σ H Q = te σ H (fun v H1 => spLCode CC CN MM [v] H1 Q E0) := rfl
theorem odds_run {s0 s1 s5 s6 s7 s8 s9 : Option V} (sub : ∀ t ∈ ["NoneType", "int", "bool", "str", "list", "tuple", "dict"], PySem.W.subIn K (.type t) (.ref CC) = some false) (S : Sit CC MM a L c1 A p ks ws μ H) (f : Fit (.cod p ks)) (q : ∀ s8 H', Same H H' → D.nx (St10' s0 s1 a L c1 s5 s6 s7 s8 s9) H') :
    tFor (iTup K (t_odds CC CN MM)) (gName 8) (t_c3 K CC MM) D (St10' s0 s1 a L c1 s5 s6 s7 s8 s9) H := by
  rw [r_forT]
  unfold t_odds St10'
  simp only [r_seq, r_next, r_brk, r_cont, r_asg, r_name, r_ret, r_retN, r_drop, r_ifs, r_never, r_var, r_c, r_op, r_un, r_if, r_tst, r_b, r_not, r_and, r_or, r_andV, r_orV, r_notV, r_nil, r_cons, r_tup, r_lst, r_cb, r_call, r_bm, r_bm0, r_sl, r_nopart, r_part, r_rev, r_gnil, r_gcons, r_gsub, r_par, r_aug, r_chain, r_I0, r_I, r_U, r_ixd, r_lend, r_tupd, r_listd, r_sld, r_app, r_ext, r_reverse, r_setl, r_cat, r_int1, r_eqS, r_neS, scal_ii, scal_bb, scal_ss, at0, at1, at2, sq_lst, sq_tup, isLst_lst, List.getElem?_cons_zero, List.getElem?_cons_succ, List.set_cons_zero, List.set_cons_succ, V.int.injEq, V.bl.injEq, V.ref.injEq, V.str.injEq, HO.lst.injEq, HO.tup.injEq, Option.some.injEq, exists_eq_left', exists_eq_left, List.cons.injEq, and_true, true_and, decide_eq_true_eq, reduceCtorEq, false_and, exists_false, or_false, false_or, exists_const, and_assoc, exists_and_left, List.append_nil, ix0, ix1, ix2, cm_mod, cdw1009, cdw2003, cdw7, cdw64, cdw2, cm104729, cm2, cm3, upd_same, List.length_cons, List.length_nil, Int.reduceLT, Int.reduceLE, Nat.reduceAdd, Nat.reduceLeDiff, Nat.reduceLT, Int.reduceToNat, r_for1, r_forL, r_forT, r_lcL, r_lc1, r_yes, r_gtupD, wipe_0, wipe_1, List.cons_append, List.nil_append, r_forS, r_ipI, ite_false, ite_true, Bool.not_true, Bool.not_false, decide_true, decide_false, r_isd, r_islt, cD_ty, cD_ref, tD_non, tD_bl, tD_int, tD_str, tD_ref, tH_lst, tH_tup, tH_dK, tH_ins, ki_self, ki_int_bool, ki_non_int, ki_str_int, ki_lt_lst, ki_lt_tup, r_fld, r_sfld, HO.ins.injEq, cx_K, S.hL]
  intro t1 ht1
  have s1' := Same.new' (o := .tup (A.vs p)) (Same.refl H) ht1
  have q1 : L2.upd H t1 (.tup (A.vs p)) t1 = some (.tup (A.vs p)) := upd_same
  have hL := S.hL
  generalize L2.upd H t1 (.tup (A.vs p)) = G1 at *
  refine wr_run rfl (S.r.mo (Mo.same s1') (Mks.le_refl μ)) f fun p1 H2 s2 n2 q2 => ?_
  intro d hd
  have s3 := Same.new' (o := .dK []) (Same.refl H2) hd
  have q3 : L2.upd H2 d (.dK []) d = some (.dK []) := upd_same
  generalize L2.upd H2 d (.dK []) = G3 at *
  refine ⟨szl (by decide : 8 ≤ 1000), fun e he => ⟨⟨_, SqT.of upd_same⟩, ?_⟩⟩
  have s4 := Same.new' (o := .tup [.non, .int 5, .str (Str.ofString "a"), .ref L, .ref t1, .ref p1, .ref d, .bl true]) (Same.refl G3) he
  have q4 : L2.upd G3 e (.tup [.non, .int 5, .str (Str.ofString "a"), .ref L, .ref t1, .ref p1, .ref d, .bl true]) e = some (.tup [.non, .int 5, .str (Str.ofString "a"), .ref L, .ref t1, .ref p1, .ref d, .bl true]) := upd_same
  generalize L2.upd G3 e (.tup [.non, .int 5, .str (Str.ofString "a"), .ref L, .ref t1, .ref p1, .ref d, .bl true]) = G at *
  have s34 := Same.trans' s3 s4
  have s24 := Same.trans' s2 s34
  have all := Same.trans' s1' s24
  have kds : ∀ (i : Nat) (x : V), ([.non, .int 5, .str (Str.ofString "a"), .ref L, .ref t1, .ref p1, .ref d, .bl true] : List V)[i]? = some x → ∃ t, Kd G x t := fun i x hx => by
    match i, hx with
    | 0, hx => cases hx; exact ⟨_, .non⟩
    | 1, hx => cases hx; exact ⟨_, .int _⟩
    | 2, hx => cases hx; exact ⟨_, .str _⟩
    | 3, hx => cases hx; exact ⟨_, .lst (all _ _ hL)⟩
    | 4, hx => cases hx; exact ⟨_, .tup (s24 _ _ q1)⟩
    | 5, hx => cases hx; exact ⟨_, .tup (s34 _ _ q2)⟩
    | 6, hx => cases hx; exact ⟨_, .dct (s4 _ _ q3)⟩
    | 7, hx => cases hx; exact ⟨_, .bl _⟩
    | n + 8, hx => simp at hx
  refine lp_tup (xs := [.non, .int 5, .str (Str.ofString "a"), .ref L, .ref t1, .ref p1, .ref d, .bl true]) (fun i σ H' => (∃ s8, σ = St10' s0 s1 a L c1 s5 s6 s7 s8 s9) ∧ Same G H') ⟨⟨_, rfl⟩, Same.refl G⟩ (fun i σ H' _ q => SqT.of (q.2 _ _ q4)) ?_ ?_
  · rintro i x σ H' hx ⟨⟨s8, rfl⟩, sg⟩
    obtain ⟨t, kd⟩ := kds i x hx
    show t_c3 K CC MM _ [s0, s1, some (.ref a), some (.ref L), some (.ref c1), s5, s6, s7, some x, s9] H'
    exact c3_run sub (S.r.mo (Mo.same (Same.trans' all sg)) (Mks.le_refl μ)) f (kd.same sg) fun H3 s5 => ⟨⟨_, rfl⟩, Same.trans' sg s5⟩
  · rintro σ H' ⟨⟨s8, rfl⟩, sg⟩
    exact q s8 H' (Same.trans' all sg)
theorem cell_run {s0 s2 s3 s4 s5 s6 s7 s8 s9 : Option V} {n : Int} (sub : ∀ t ∈ ["NoneType", "int", "bool", "str", "list", "tuple", "dict"], PySem.W.subIn K (.type t) (.ref CC) = some false) (q : ∀ s2 s3 s4 s5 s6 s7 s8 s9 H', Same H H' → D.nx [s0, some (.int n), s2, s3, s4, s5, s6, s7, s8, s9] H') :
    t_cell K CC CN MM D [s0, some (.int n), s2, s3, s4, s5, s6, s7, s8, s9] H := by
  unfold t_cell
  refine ⟨_, rfl, n, rfl, fun a H1 ha s1 src => ⟨.ref a, rfl, a, fun _ => none, rfl, src, (show Wm MM (fun _ => none) H1 from fun m x e => by cases e), fun A p ks ws ν H2 k2 S2 lν W2 nL La hL R ok g kl hk => ?_⟩⟩
  have kd : ∀ k ∈ ks, depK k ≤ 3 := fun k h => (hk k h).1
  have dp : depF (depKs ks) ≤ 3 := depKs_le (by decide) kd
  have tk : tzs ks ≤ 5000 := by
    have h1 := tzs_le (m := 583) fun k h => (hk k h).2
    have h2 := Nat.mul_le_mul_right 583 kl
    omega
  have f : Fit (.cod p ks) := ⟨trivial, by unfold gV; exact ⟨ok.mono (by decide), by omega, by omega, gVs.mono (by decide) (by decide) (by decide) g⟩, by unfold tz; omega⟩
  have g100 : gVs 100 201 11 ks := gVs.mono (by decide) (by decide) (by decide) g
  show tSeq (tAsg (t_mk CC CN MM (tVar 3)) (gName 4)) _ _ [s0, some (.int n), some (.ref a), some (.ref A.L), s4, s5, s6, s7, s8, s9] H2
  rw [r_seq, r_asg, mk_tt]
  refine ⟨_, rfl, ?_⟩
  refine made (CN := CN) W2 (R.lf hL) (ok.mono (by decide : 10 ≤ 11)) g100 (by omega) fun c1 ν1 H3 n3 s3 l3 W3 r3 => ?_
  have R3 := R.mo (Mo.same s3) l3
  show tSeq (tAsg (t_mk CC CN MM (t_lists K)) (gName 5)) _ _ [s0, some (.int n), some (.ref a), some (.ref A.L), some (.ref c1), s5, s6, s7, s8, s9] H3
  rw [r_seq, r_asg, mk_tt]
  refine lists_run (s3 _ _ hL) R3 fun M H4 s4 lf => ?_
  refine made (CN := CN) (W3.mo (Mo.same s4)) lf (ok.mono (by decide : 10 ≤ 11)) g100 (by omega) fun c2 ν2 H5 n5 s5' l5 W5 r5 => ?_
  show tSeq (t_c1 K CC CN MM) _ _ [s0, some (.int n), some (.ref a), some (.ref A.L), some (.ref c1), some (.ref c2), s6, s7, s8, s9] H5
  rw [r_seq]
  have s35 := Same.trans' s4 s5'
  have S5 : Sit CC MM a A.L c1 A p ks ws ν2 H5 := ⟨S2.same (Same.trans' s3 s35), La, W5, s35 _ _ (s3 _ _ hL), R3.mo (Mo.same s35) l5, r3.mo (Mo.same s35) l5⟩
  have k5 : Keep a H H5 := (Keep.same s1).trans (k2.trans (Keep.same (Same.trans' s3 s35)))
  refine c1_run W5 S5.r r5 f fun H6 s6' => ?_
  have S6 := S5.same s6' (Mks.le_refl ν2) (W5.mo (Mo.same s6'))
  have k6 : Keep a H H6 := k5.trans (Keep.same s6')
  show tSeq (tFor (iRng1 (tCons (tC (V.int 6)) tNil)) (gName 6) (t_turn K CC CN MM)) _ _ _ _
  rw [r_seq]
  refine ⟨6, rfl, by decide, by decide, lp_rng (n := 6) (fun i σ H' => (∃ s6 s7 s8 s9, σ = St10' s0 (some (.int n)) a A.L c1 (some (.ref c2)) s6 s7 s8 s9) ∧ Keep a H H' ∧ ∃ ξ, Sit CC MM a A.L c1 A p ks ws ξ H') ⟨⟨_, _, _, _, rfl⟩, k6, _, S6⟩ ?_ ?_⟩
  · rintro i σ H7 hi ⟨⟨t6, t7, t8, t9, rfl⟩, k7, ξ, S7⟩
    refine lturn_run S7 ok g kl kd tk fun s7 ξ' H8 k8 S8 => ⟨⟨_, _, _, _, rfl⟩, k7.trans k8, ξ', S8⟩
  · rintro σ H7 ⟨⟨t6, t7, t8, t9, rfl⟩, k7, ξ, S7⟩
    exact odds_run sub S7 f fun s8 H8 s8' => q _ _ _ _ _ _ _ _ H8 fun b o e => s8' b o (k7 b o (ne_new e ha) e)
theorem law_run {H : Hp} {ns : List Int} (sub : ∀ t ∈ ["NoneType", "int", "bool", "str", "list", "tuple", "dict"], PySem.W.subIn K (.type t) (.ref CC) = some false) (hS : SqL K H a (ns.map V.int)) (hn : ns.length ≤ 1000) :
    t_law K CC CN MM { nx := fun _ H' => (fun v (_ : Hp) => v = V.bl true) .non H', rt := fun v _ => v = .bl true } (L2.start Nlaw [.ref a]) H := by
  have sqL_same : ∀ {H H' : Hp} {a : Addr} {xs : List V}, SqL K H a xs → Same H H' → SqL K H' a xs := fun h s => by
    rcases h with (h | ⟨o, h⟩) | h
    · exact .inl (.inl (s _ _ h))
    · exact .inl (.inr ⟨o, s _ _ h⟩)
    · exact .inr h
  unfold t_law
  show tSeq _ _ _ [some (.ref a), none, none, none, none, none, none, none, none, none] H
  rw [r_seq]
  refine ⟨_, rfl, szl (by decide), fun p0 h0 => ⟨a, p0, _, _, rfl, rfl, sqL_same hS (fun b o e => Same.new' (Same.refl H) h0 b o e), upd_same, Nat.le_trans (by rw [List.length_map, List.length_singleton]; omega : _ ≤ 1001) (by decide), fun p1 h1 => ⟨5, rfl, p1, _, rfl, upd_same, fun p2 h2 => ⟨p2, rfl, ⟨_, SqL.of upd_same⟩, ?_⟩⟩⟩⟩
  generalize L2.upd H p0 (.lst [.int 0]) = G1 at *
  generalize L2.upd G1 p1 (.lst (ns.map V.int ++ [.int 0])) = G2 at *
  have isInt : ∀ x ∈ cutV (ns.map V.int ++ [.int 0]) none (some 5), ∃ n : Int, x = .int n := by
    intro x hx
    unfold cutV at hx
    have h := List.mem_of_mem_drop (List.mem_of_mem_take hx)
    rcases List.mem_append.mp h with h | h
    · obtain ⟨n, _, e⟩ := List.mem_map.mp h
      exact ⟨n, e.symm⟩
    · exact ⟨0, List.mem_singleton.mp h⟩
  generalize cutV (ns.map V.int ++ [.int 0]) none (some 5) = xs at *
  have q3 : L2.upd G2 p2 (.lst xs) p2 = some (.lst xs) := upd_same
  generalize L2.upd G2 p2 (.lst xs) = G3 at *
  refine lp_list (xs := xs) (fun i σ H' => (∃ v1 v2 v3 v4 v5 v6 v7 v8 v9, σ = [some (.ref a), v1, v2, v3, v4, v5, v6, v7, v8, v9]) ∧ Same G3 H') ⟨⟨_, _, _, _, _, _, _, _, _, rfl⟩, Same.refl G3⟩ (fun i σ H' _ ⟨_, e⟩ => SqL.of (e _ _ q3)) ?_ ?_
  · rintro i x σ H' hx ⟨⟨v1, v2, v3, v4, v5, v6, v7, v8, v9, rfl⟩, e⟩
    obtain ⟨n, rfl⟩ := isInt x (List.mem_of_getElem? hx)
    show t_cell K CC CN MM _ [some (.ref a), some (.int n), v2, v3, v4, v5, v6, v7, v8, v9] H'
    exact cell_run sub fun w2 w3 w4 w5 w6 w7 w8 w9 H2 e2 => ⟨⟨_, _, _, _, _, _, _, _, _, rfl⟩, Same.trans' e e2⟩
  · rintro σ H' ⟨_, e⟩
    rfl
end
/-- the law runs well -/
theorem law_runs {P : Program} {w : World} {K : PySem.W.Frag} {mg : Str → Option Value} {CC CN MM fa a : Addr} {cdv : Value} {s : Shared} {ns : List Int} {oc : Value} {od : Option Addr} {dV kV doc pm ct : Value} {an : Option Addr} {osl : Array (Option Value)}
    (L : ∀ base, LawT P w K mg base CC CN MM) (lk : K.lookup fa = some ⟨oc, od, .func (PySem.W.fnOf "law" "law" (defArgs slaw) (defBody slaw) (defScope slaw) dV kV doc pm an cdv ct), osl⟩) (hcd : PySem.W.codeIn K cdv "law" = true)
    (bind : ∀ (s : Shared) (v : Value), BindsTo s (PySem.W.fnOf "law" "law" (defArgs slaw) (defBody slaw) (defScope slaw) dV kV doc pm an cdv ct) ⟨[v], []⟩ [("_law_script", v)]) (hn : ns.length ≤ 1000) : RunsAt P w K mg [] fa a s ns := by
  intro base H KB nsB TB e0 hT hS
  refine LamX.run_ofS (N := Nlaw) (ps := ["_law_script"]) (us := [.ref a]) (vs := [.ref a]) lk hcd sclaw (k := 26) ⟨rfl, by decide, by decide⟩ e0 (bind s (.ref a)) (.cons rfl .nil) rfl fun hr => ?_
  refine ⟨_, (law_reads (L base) hr rfl).nox, ?_⟩
  exact law_run (L base).sub hS hn
end C51

set_option maxHeartbeats 4000000
namespace C51
open PySem PySem.Spec PyProof.Rows L2 E51 E51.E6
/-! ### the exception's __init__ -/
section
variable {P : Program} {w : World} {K : PySem.W.Frag} {mg : Str → Option Value} {base : Heap} {f : Addr} {fd : FuncData}
abbrev sNoCode_init : Stmt := inClass (top 2) 0
theorem scNoCode_init : FnScope ["self", "field"] ["self", "field"] (defScope sNoCode_init) := ⟨rfl, rfl, rfl, by decide +kernel, rfl, by decide +kernel, by decide +kernel⟩

theorem ok_NoCode_init {CN : Addr} (ox : OexC K CN) (no : PySem.W.findIn K (.ref CN) "field" = some none) (F : FnP K "__init__" "NoCode.__init__" sNoCode_init f fd) : FnOk P w K mg base CX0 1 f fd ["self", "field"] (spXInit CN "field") := by
  refine F.ok scNoCode_init (fun vs H Q E h => ?_) (fun cdv A outer s H vs Q E hr h => ?_)
  · obtain ⟨a, v, rfl, _⟩ := h
    rfl
  · obtain ⟨a, v, rfl, ha, k⟩ := h
    refine ⟨_, PSs.nox (pss_one (ps_ost (pv 0) (pv 1))), ?_⟩
    exact ⟨v, rfl, .ref a, rfl, a, CN, rfl, ox, no, .inl ⟨ha, fun d hd nd => k d hd nd⟩⟩
end
/-! ### what the head's facts say -/
theorem oexB_ok {K : PySem.W.Frag} {C : Addr} (h : oexB K C = true) : ∃ nm q N bs bm sn sub ab col dd k0 k1 k2 k3 k5, K.lookup C = some (excClassObj nm q C N bs bm true sn sub ab col dd k0 k1 k2 k3 k5 "ValueError.__new__") ∧ PySem.HandSPX.refsVE bm = true := by
  unfold oexB at h
  split at h
  · rename_i t dd cd sl e
    rw [Bool.and_eq_true] at h
    obtain ⟨ht, h⟩ := h
    split at h
    · rename_i D bm y0 y1 y2 y3 n y5 em es
      simp only [Bool.and_eq_true, decide_eq_true_eq, Bool.not_eq_true'] at h
      obtain ⟨h1, h2, h3, h4, h5⟩ := h
      have ht := of_decide_eq_true ht
      obtain ⟨nm, bs, mro, ns, qn, hd, sn, sub, ab, col, del⟩ := cd
      obtain ⟨l⟩ := sl
      dsimp only at em es h3 h4
      subst em es h1 h2 h3 h4 ht
      exact ⟨_, _, _, _, bm, _, _, _, _, _, _, _, _, _, _, e, h5⟩
    · cases h
  · cases h
theorem excB_ok {K : PySem.W.Frag} {D : Addr} (h : excB K D = true) : ExcC K D ∧ XfC K D ∧ PySem.W.typeIn K (.ref D) = some (.type "type") ∧ PySem.W.keepIn K (.ref D) = true ∧ PySem.W.findIn K (.ref D) "__setattr__" = some (some (.builtin "object.__setattr__")) := by
  unfold excB at h
  simp only [Bool.and_eq_true, decide_eq_true_eq] at h
  obtain ⟨h1, h2, h3, h4, h5, h6, h7, h8, h9, h10, h11⟩ := h
  exact ⟨⟨He.eqO_ok h1, He.eqO_ok h2, h3, h4, He.eqO_ok h5, He.eqO_ok h6, h7, h8⟩, ⟨He.eqO_ok h1, He.eqO_ok h2, h3, h4⟩, h9, h10, He.eqO_ok h11⟩
theorem dist_ne : ∀ {l : List Addr}, distB l = true → ∀ {i j : Nat} {x y : Addr}, j < i → l[j]? = some x → l[i]? = some y → y ≠ x
  | [], _, i, j, x, y, _, h, _ => by cases h
  | a :: r, h, 0, j, x, y, lt, _, _ => absurd lt (Nat.not_lt_zero _)
  | a :: r, h, i + 1, 0, x, y, _, hx, hy => by
    have h2 : ((r.all fun b => !(a == b)) && distB r) = true := h
    rw [Bool.and_eq_true] at h2
    cases hx
    have := List.all_eq_true.mp h2.1 y (List.mem_of_getElem? (show r[i]? = some y from hy))
    intro e
    subst e
    simp at this
  | a :: r, h, i + 1, j + 1, x, y, lt, hx, hy => by
    have h2 : ((r.all fun b => !(a == b)) && distB r) = true := h
    rw [Bool.and_eq_true] at h2
    exact dist_ne h2.2 (Nat.lt_of_succ_lt_succ lt) hx hy
abbrev paOf (K : PySem.W.Frag) : PA := ⟨He.ga K "put_bytes", He.ga K "put_number", He.ga K "put_text", He.ga K "put_constant", He.ga K "put_code"⟩
theorem dst_ok {K : PySem.W.Frag} (h : distB (putNames.map (He.ga K)) = true) : Dst (paOf K) := by
  refine ⟨?_, ?_, ?_, ?_, ?_, ?_, ?_, ?_, ?_, ?_⟩
  · exact dist_ne (i := 1) (j := 0) h (by decide) rfl rfl
  · exact dist_ne (i := 2) (j := 0) h (by decide) rfl rfl
  · exact dist_ne (i := 2) (j := 1) h (by decide) rfl rfl
  · exact dist_ne (i := 3) (j := 0) h (by decide) rfl rfl
  · exact dist_ne (i := 3) (j := 1) h (by decide) rfl rfl
  · exact dist_ne (i := 3) (j := 2) h (by decide) rfl rfl
  · exact dist_ne (i := 4) (j := 0) h (by decide) rfl rfl
  · exact dist_ne (i := 4) (j := 1) h (by decide) rfl rfl
  · exact dist_ne (i := 4) (j := 2) h (by decide) rfl rfl
  · exact dist_ne (i := 4) (j := 3) h (by decide) rfl rfl
end C51

set_option maxHeartbeats 4000000
namespace C51
open PySem PySem.Spec PyProof.Rows L2 E51 E51.E6
abbrev Pk : Program := PySem.Challenge.pw_codewalk_k51_equal_codes
theorem k51_at {w : World} {mg : Str → Option Value} {fa : Addr} {h : Heap} (Y : hkk.says w h) (G : h.Ns mainGlobals mg) (hmg : mg "law" = some (.ref fa)) : ∃ (K : PySem.W.Frag) (cs : List (Addr × Addr)), K.In h ∧ (∀ p ∈ cs, h.get? p.2 = some { cls := .none, data := .fields #[] }) ∧
    (∀ p ∈ cs, K.lookup p.2 = none) ∧ (∀ p ∈ cs, PySem.W.CodeHd h p.1 p.2) ∧ ∀ (s : Shared) (a : Addr) (ns : List Int), ns.length ≤ 1000 → RunsAt Pk w K mg cs fa a s ns := by
  obtain ⟨K, X, c⟩ := Y
  have cd := c.t.d
  obtain ⟨fd_number_of, F_number_of⟩ := cd.def_ 0 (d := d_number_of) rfl
  obtain ⟨fd_bytes_of, F_bytes_of⟩ := cd.def_ 1 (d := d_bytes_of) rfl
  obtain ⟨fd_string_of, F_string_of⟩ := cd.def_ 2 (d := d_string_of) rfl
  obtain ⟨fd_strings_of, F_strings_of⟩ := cd.def_ 3 (d := d_strings_of) rfl
  obtain ⟨fd_is_string, F_is_string⟩ := cd.def_ 4 (d := d_is_string) rfl
  obtain ⟨fd_is_constant, F_is_constant⟩ := cd.def_ 5 (d := d_is_constant) rfl
  obtain ⟨fd_depth_of, F_depth_of⟩ := cd.def_ 6 (d := d_depth_of) rfl
  obtain ⟨fd_told, F_told⟩ := cd.def_ 7 (d := d_told) rfl
  obtain ⟨fd_samec, F_samec⟩ := cd.def_ 8 (d := d_samec) rfl
  obtain ⟨fd_areq, F_areq⟩ := cd.def_ 9 (d := d_areq) rfl
  obtain ⟨fd_Code_init, F_Code_init⟩ := cd.def_ 10 (d := d_Code_init) rfl
  obtain ⟨fd_ceq, F_ceq⟩ := cd.def_ 11 (d := d_ceq) rfl
  obtain ⟨fd_palike, F_palike⟩ := cd.def_ 12 (d := d_palike) rfl
  obtain ⟨fd_NoCode_init, F_NoCode_init⟩ := cd.def_ 13 (d := d_NoCode_init) rfl
  obtain ⟨fd_pfour, F_pfour⟩ := cd.def_ 14 (d := d_pfour) rfl
  obtain ⟨fd_pnumber, F_pnumber⟩ := cd.def_ 15 (d := d_pnumber) rfl
  obtain ⟨fd_pbytes, F_pbytes⟩ := cd.def_ 16 (d := d_pbytes) rfl
  obtain ⟨fd_ptext, F_ptext⟩ := cd.def_ 17 (d := d_ptext) rfl
  obtain ⟨fd_pinteger, F_pinteger⟩ := cd.def_ 18 (d := d_pinteger) rfl
  obtain ⟨fd_pcode, F_pcode⟩ := cd.def_ 19 (d := d_pcode) rfl
  obtain ⟨fd_pcon, F_pcon⟩ := cd.def_ 20 (d := d_pcon) rfl
  obtain ⟨fd_written, F_written⟩ := cd.def_ 21 (d := d_written) rfl
  obtain ⟨fd_source_of, F_source_of⟩ := cd.def_ 22 (d := d_source_of) rfl
  obtain ⟨fd_next, F_next⟩ := cd.def_ 23 (d := d_next) rfl
  obtain ⟨fd_one, F_one⟩ := cd.def_ 24 (d := d_one) rfl
  obtain ⟨fd_lcode, F_lcode⟩ := cd.def_ 25 (d := d_lcode) rfl
  obtain ⟨fd_fields, F_fields⟩ := cd.def_ 26 (d := d_fields) rfl
  obtain ⟨fd_text, F_text⟩ := cd.def_ 27 (d := d_text) rfl
  obtain ⟨fd_lbytes, F_lbytes⟩ := cd.def_ 28 (d := d_lbytes) rfl
  obtain ⟨fd_const, F_const⟩ := cd.def_ 29 (d := d_const) rfl
  obtain ⟨fd_df, F_df⟩ := cd.def_ 30 (d := d_df) rfl
  obtain ⟨fd_bcon, F_bcon⟩ := cd.def_ 31 (d := d_bcon) rfl
  obtain ⟨fd_bfld, F_bfld⟩ := cd.def_ 32 (d := d_bfld) rfl
  obtain ⟨fd_law, F_law⟩ := cd.def_ 33 (d := d_law) rfl
  have g_number_of := He.glo_ok X G (cd.fact 0 (f := .glo "number_of") rfl)
  have g_bytes_of := He.glo_ok X G (cd.fact 1 (f := .glo "bytes_of") rfl)
  have g_string_of := He.glo_ok X G (cd.fact 2 (f := .glo "string_of") rfl)
  have g_strings_of := He.glo_ok X G (cd.fact 3 (f := .glo "strings_of") rfl)
  have g_is_string := He.glo_ok X G (cd.fact 4 (f := .glo "is_string") rfl)
  have g_is_constant := He.glo_ok X G (cd.fact 5 (f := .glo "is_constant") rfl)
  have g_depth_of := He.glo_ok X G (cd.fact 6 (f := .glo "depth_of") rfl)
  have g_told := He.glo_ok X G (cd.fact 7 (f := .glo "told_constants") rfl)
  have g_samec := He.glo_ok X G (cd.fact 8 (f := .glo "is_same_constant") rfl)
  have g_areq := He.glo_ok X G (cd.fact 9 (f := .glo "are_equal") rfl)
  have g_pfour := He.glo_ok X G (cd.fact 10 (f := .glo "put_four") rfl)
  have g_pnumber := He.glo_ok X G (cd.fact 11 (f := .glo "put_number") rfl)
  have g_pbytes := He.glo_ok X G (cd.fact 12 (f := .glo "put_bytes") rfl)
  have g_ptext := He.glo_ok X G (cd.fact 13 (f := .glo "put_text") rfl)
  have g_pinteger := He.glo_ok X G (cd.fact 14 (f := .glo "put_integer") rfl)
  have g_pcode := He.glo_ok X G (cd.fact 15 (f := .glo "put_code") rfl)
  have g_pcon := He.glo_ok X G (cd.fact 16 (f := .glo "put_constant") rfl)
  have g_written := He.glo_ok X G (cd.fact 17 (f := .glo "written") rfl)
  have g_source_of := He.glo_ok X G (cd.fact 18 (f := .glo "_law_source_of") rfl)
  have g_next := He.glo_ok X G (cd.fact 19 (f := .glo "_law_next") rfl)
  have g_one := He.glo_ok X G (cd.fact 20 (f := .glo "_law_one") rfl)
  have g_lcode := He.glo_ok X G (cd.fact 21 (f := .glo "_law_code") rfl)
  have g_fields := He.glo_ok X G (cd.fact 22 (f := .glo "_law_fields") rfl)
  have g_text := He.glo_ok X G (cd.fact 23 (f := .glo "_law_text") rfl)
  have g_lbytes := He.glo_ok X G (cd.fact 24 (f := .glo "_law_bytes") rfl)
  have g_const := He.glo_ok X G (cd.fact 25 (f := .glo "_law_constant") rfl)
  have g_df := He.glo_ok X G (cd.fact 26 (f := .glo "_law_drawn_fields") rfl)
  have g_bcon := He.glo_ok X G (cd.fact 27 (f := .glo "_law_bent_constant") rfl)
  have g_bfld := He.glo_ok X G (cd.fact 28 (f := .glo "_law_bent_fields") rfl)
  have g_law := He.glo_ok X G (cd.fact 29 (f := .glo "law") rfl)
  have g_Code := He.glo_ok X G (cd.fact 30 (f := .glo "Code") rfl)
  have g_Known := He.glo_ok X G (cd.fact 31 (f := .glo "Known") rfl)
  have g_Mark := He.glo_ok X G (cd.fact 32 (f := .glo "Mark") rfl)
  have g_NoCode := He.glo_ok X G (cd.fact 33 (f := .glo "NoCode") rfl)
  have B_number_of : Binds K fd_number_of ["value", "field"] [] := F_number_of.bindsN fun _ _ _ _ _ _ us hl => match us, hl with | [_, _], _ => rfl
  have B_bytes_of : Binds K fd_bytes_of ["row", "field"] [] := F_bytes_of.bindsN fun _ _ _ _ _ _ us hl => match us, hl with | [_, _], _ => rfl
  have B_string_of : Binds K fd_string_of ["value", "field"] [] := F_string_of.bindsN fun _ _ _ _ _ _ us hl => match us, hl with | [_, _], _ => rfl
  have B_strings_of : Binds K fd_strings_of ["row", "field"] [] := F_strings_of.bindsN fun _ _ _ _ _ _ us hl => match us, hl with | [_, _], _ => rfl
  have B_is_string : Binds K fd_is_string ["value"] [] := F_is_string.bindsN fun _ _ _ _ _ _ us hl => match us, hl with | [_], _ => rfl
  have B_is_constant : Binds K fd_is_constant ["value"] [] := F_is_constant.bindsN fun _ _ _ _ _ _ us hl => match us, hl with | [_], _ => rfl
  have B_depth_of : Binds K fd_depth_of ["constants"] [] := F_depth_of.bindsN fun _ _ _ _ _ _ us hl => match us, hl with | [_], _ => rfl
  have B_told : Binds K fd_told ["constants"] [] := F_told.bindsN fun _ _ _ _ _ _ us hl => match us, hl with | [_], _ => rfl
  have B_samec : Binds K fd_samec ["one", "other"] [] := F_samec.bindsN fun _ _ _ _ _ _ us hl => match us, hl with | [_, _], _ => rfl
  have B_areq : Binds K fd_areq ["one", "other"] [] := F_areq.bindsN fun _ _ _ _ _ _ us hl => match us, hl with | [_, _], _ => rfl
  have B_Code_init : Binds K fd_Code_init ["self", "argcount", "onlycount", "stacksize", "flags", "code", "constants", "names", "slots", "kinds", "name", "path", "line", "lines", "handlers"] [] := F_Code_init.bindsN fun _ _ _ _ _ _ us hl => match us, hl with | [_, _, _, _, _, _, _, _, _, _, _, _, _, _, _], _ => rfl
  have B_ceq : Binds K fd_ceq ["self", "other"] [] := F_ceq.bindsN fun _ _ _ _ _ _ us hl => match us, hl with | [_, _], _ => rfl
  have B_palike : Binds K fd_palike ["self"] [] := F_palike.bindsN fun _ _ _ _ _ _ us hl => match us, hl with | [_], _ => rfl
  have B_NoCode_init : Binds K fd_NoCode_init ["self", "field"] [] := F_NoCode_init.bindsN fun _ _ _ _ _ _ us hl => match us, hl with | [_, _], _ => rfl
  have B_pfour : Binds K fd_pfour ["found", "number"] [] := F_pfour.bindsN fun _ _ _ _ _ _ us hl => match us, hl with | [_, _], _ => rfl
  have B_pnumber : Binds K fd_pnumber ["found", "number", "_"] [] := F_pnumber.bindsN fun _ _ _ _ _ _ us hl => match us, hl with | [_, _, _], _ => rfl
  have B_pbytes : Binds K fd_pbytes ["found", "row", "_"] [] := F_pbytes.bindsN fun _ _ _ _ _ _ us hl => match us, hl with | [_, _, _], _ => rfl
  have B_ptext : Binds K fd_ptext ["found", "text", "_"] [] := F_ptext.bindsN fun _ _ _ _ _ _ us hl => match us, hl with | [_, _, _], _ => rfl
  have B_pinteger : Binds K fd_pinteger ["found", "value"] [] := F_pinteger.bindsN fun _ _ _ _ _ _ us hl => match us, hl with | [_, _], _ => rfl
  have B_pcode : Binds K fd_pcode ["found", "code", "waiting"] [] := F_pcode.bindsN fun _ _ _ _ _ _ us hl => match us, hl with | [_, _, _], _ => rfl
  have B_pcon : Binds K fd_pcon ["found", "value", "waiting"] [] := F_pcon.bindsN fun _ _ _ _ _ _ us hl => match us, hl with | [_, _, _], _ => rfl
  have B_written : Binds K fd_written ["code"] [] := F_written.bindsN fun _ _ _ _ _ _ us hl => match us, hl with | [_], _ => rfl
  have B_source_of : Binds K fd_source_of ["_law_cell"] [] := F_source_of.bindsN fun _ _ _ _ _ _ us hl => match us, hl with | [_], _ => rfl
  have B_next : Binds K fd_next ["_law_source", "_law_many"] [] := F_next.bindsN fun _ _ _ _ _ _ us hl => match us, hl with | [_, _], _ => rfl
  have B_one : Binds K fd_one ["_law_source", "_law_some"] [] := F_one.bindsN fun _ _ _ _ _ _ us hl => match us, hl with | [_, _], _ => rfl
  have B_lcode : Binds K fd_lcode ["_law_some"] [] := F_lcode.bindsN fun _ _ _ _ _ _ us hl => match us, hl with | [_], _ => rfl
  have B_fields : Binds K fd_fields ["_law_made"] [] := F_fields.bindsN fun _ _ _ _ _ _ us hl => match us, hl with | [_], _ => rfl
  have B_text : Binds K fd_text ["_law_source"] [] := F_text.bindsN fun _ _ _ _ _ _ us hl => match us, hl with | [_], _ => rfl
  have B_lbytes : Binds K fd_lbytes ["_law_source", "_law_most"] [] := F_lbytes.bindsN fun _ _ _ _ _ _ us hl => match us, hl with | [_, _], _ => rfl
  have B_const : Binds K fd_const ["_law_source", "_law_deep"] [] := F_const.bindsN fun _ _ _ _ _ _ us hl => match us, hl with | [_, _], _ => rfl
  have B_df : Binds K fd_df ["_law_source", "_law_deep"] [] := F_df.bindsN fun _ _ _ _ _ _ us hl => match us, hl with | [_, _], _ => rfl
  have B_bcon : Binds K fd_bcon ["_law_source", "_law_value"] [] := F_bcon.bindsN fun _ _ _ _ _ _ us hl => match us, hl with | [_, _], _ => rfl
  have B_bfld : Binds K fd_bfld ["_law_source", "_law_some"] [] := F_bfld.bindsN fun _ _ _ _ _ _ us hl => match us, hl with | [_, _], _ => rfl
  have B_law : Binds K fd_law ["_law_script"] [] := F_law.bindsN fun _ _ _ _ _ _ us hl => match us, hl with | [_], _ => rfl
  have T : Txt mg := ⟨He.free_ok X G (cd.fact 34 (f := .free "len") rfl), He.free_ok X G (cd.fact 35 (f := .free "int") rfl), He.free_ok X G (cd.fact 36 (f := .free "range") rfl), He.free_ok X G (cd.fact 37 (f := .free "tuple") rfl), He.free_ok X G (cd.fact 38 (f := .free "list") rfl), He.free_ok X G (cd.fact 39 (f := .free "isinstance") rfl), He.free_ok X G (cd.fact 40 (f := .free "bool") rfl), He.free_ok X G (cd.fact 41 (f := .free "str") rfl), He.free_ok X G (cd.fact 42 (f := .free "max") rfl), He.free_ok X G (cd.fact 43 (f := .free "reversed") rfl), He.free_ok X G (cd.fact 44 (f := .free "repr") rfl), He.int_ok X G (cd.fact 53 (f := .int "GREATEST" (2147483647)) rfl), He.int_ok X G (cd.fact 54 (f := .int "DEEPEST" (100)) rfl), He.int_ok X G (cd.fact 55 (f := .int "BARRED" (37)) rfl), He.free_ok X G (cd.fact 45 (f := .free "min") rfl), He.free_ok X G (cd.fact 46 (f := .free "enumerate") rfl), He.free_ok X G (cd.fact 47 (f := .free "any") rfl), He.free_ok X G (cd.fact 48 (f := .free "zip") rfl), He.free_ok X G (cd.fact 49 (f := .free "sum") rfl), He.free_ok X G (cd.fact 50 (f := .free "sorted") rfl)⟩
  have TW : TxtW mg := ⟨T, He.int_ok X G (cd.fact 56 (f := .int "NONE" (78)) rfl), He.int_ok X G (cd.fact 57 (f := .int "TRUE" (84)) rfl), He.int_ok X G (cd.fact 58 (f := .int "FALSE" (70)) rfl), He.int_ok X G (cd.fact 59 (f := .int "SHORT" (105)) rfl), He.int_ok X G (cd.fact 60 (f := .int "LONG" (108)) rfl), He.int_ok X G (cd.fact 61 (f := .int "TEXT" (117)) rfl), He.int_ok X G (cd.fact 62 (f := .int "BYTES" (115)) rfl), He.int_ok X G (cd.fact 63 (f := .int "ROW" (40)) rfl), He.int_ok X G (cd.fact 64 (f := .int "CODE" (99)) rfl), He.str_ok X G (cd.fact 68 (f := .str "FILE" "<tree>") rfl), He.int_ok X G (cd.fact 65 (f := .int "LEAST_SHORT" (-2147483648)) rfl), He.int_ok X G (cd.fact 66 (f := .int "GREATEST_SHORT" (2147483647)) rfl), He.int_ok X G (cd.fact 67 (f := .int "DIGIT" (32767)) rfl), He.free_ok X G (cd.fact 51 (f := .free "abs") rfl), He.free_ok X G (cd.fact 52 (f := .free "ord") rfl)⟩
  have mo := c.more
  unfold exB exM exN exT at mo
  simp only [Bool.and_eq_true, decide_eq_true_eq] at mo
  obtain ⟨mk, mm, m1, ⟨n1, n2, n3, n4, n5⟩, ⟨q1, q2, q3⟩, m8, ⟨tb, ti, tt, ts⟩, di⟩ := mo
  have dA := dst_ok di
  have sub : ∀ t ∈ ["NoneType", "int", "bool", "str", "list", "tuple", "dict"], PySem.W.subIn K (.type t) (.ref (He.ga K "Code")) = some false := fun t ht => of_decide_eq_true (List.all_eq_true.mp ts t ht)
  have PGA : PG mg (paOf K) := ⟨g_pbytes, g_pnumber, g_ptext, g_pcon, g_pcode⟩
  obtain ⟨eC, eF, eT, eK, eS⟩ := excB_ok n2
  unfold kisB at m1
  simp only [Bool.and_eq_true, decide_eq_true_eq] at m1
  obtain ⟨m11, m12, m13⟩ := m1
  unfold kisB at mk
  simp only [Bool.and_eq_true, decide_eq_true_eq] at mk
  obtain ⟨mk1, mk2, mk3⟩ := mk
  unfold mkpB at mm
  simp only [Bool.and_eq_true, decide_eq_true_eq] at mm
  obtain ⟨mm1, mm2, mm3⟩ := mm
  have PM : MkP K (He.ga K "Mark") := ⟨mm1, He.eqO_ok mm2, mm3⟩
  have IM : MarkT K (He.ga K "Mark") := ⟨q1, He.eqO_ok q2⟩
  have IK : KnownT K mg (He.ga K "Known") := ⟨⟨He.cls_ok (cd.fact 70 (f := .cls "Known") rfl), He.eqO_ok mk1, eC.hn, eC.ht, mk2⟩, g_Known, fun t ht => of_decide_eq_true (List.all_eq_true.mp mk3 t ht)⟩
  have cls := He.cls_ok (cd.fact 69 (f := .cls "Code") rfl)
  have I : CodeT K mg (He.ga K "Code") := by
    refine ⟨⟨cls, He.eqO_ok m11, eC.hn, eC.ht, m12⟩, g_Code, fun t ht => of_decide_eq_true (List.all_eq_true.mp m13 t ht), fun f hf => ?_⟩
    simp only [List.mem_cons, List.not_mem_nil, or_false] at hf
    rcases hf with rfl | rfl | rfl | rfl | rfl | rfl | rfl | rfl | rfl | rfl | rfl | rfl | rfl | rfl | rfl | rfl
    · exact He.noat_ok (cd.fact 74 (f := .noat "Code" "argcount") rfl)
    · exact He.noat_ok (cd.fact 75 (f := .noat "Code" "onlycount") rfl)
    · exact He.noat_ok (cd.fact 76 (f := .noat "Code" "stacksize") rfl)
    · exact He.noat_ok (cd.fact 77 (f := .noat "Code" "flags") rfl)
    · exact He.noat_ok (cd.fact 78 (f := .noat "Code" "code") rfl)
    · exact He.noat_ok (cd.fact 79 (f := .noat "Code" "depth") rfl)
    · exact He.noat_ok (cd.fact 80 (f := .noat "Code" "constants") rfl)
    · exact He.noat_ok (cd.fact 81 (f := .noat "Code" "names") rfl)
    · exact He.noat_ok (cd.fact 82 (f := .noat "Code" "slots") rfl)
    · exact He.noat_ok (cd.fact 83 (f := .noat "Code" "kinds") rfl)
    · exact He.noat_ok (cd.fact 84 (f := .noat "Code" "name") rfl)
    · exact He.noat_ok (cd.fact 85 (f := .noat "Code" "path") rfl)
    · exact He.noat_ok (cd.fact 86 (f := .noat "Code" "line") rfl)
    · exact He.noat_ok (cd.fact 87 (f := .noat "Code" "lines") rfl)
    · exact He.noat_ok (cd.fact 88 (f := .noat "Code" "handlers") rfl)
    · exact He.noat_ok (cd.fact 89 (f := .noat "Code" "identity") rfl)
  have ox : OexC K (He.ga K "NoCode") := ⟨oexB_ok n1, eS, eC.hs, eT, eK⟩
  have meP := He.meth_ok (cd.fact 72 (f := .meth "Code" "parts_alike") rfl)
  have meE := He.meth_ok (cd.fact 73 (f := .meth "Code" "__eq__") rfl)
  have cal : ∀ {base : Heap} {k : Nat} {x : Str} {ps : List Str} {sp : Sp} {f : Addr} {fd : FuncData}, FnOk Pk w K mg base CX0 k f fd ps sp → mg x = some (.ref f) → PySem.W.keepIn K (.ref f) = true → Binds K fd ps [] → Cal Pk w K mg base k x ps sp := fun F g kp b => ⟨⟨_, _, F, g, kp, b⟩⟩
  have calE : ∀ {base : Heap} {k : Nat} {x : Str} {ps : List Str} {sp : Sp} {f : Addr} {fd : FuncData}, FnOk Pk w K mg base (CX Pk w) k f fd ps sp → mg x = some (.ref f) → PySem.W.keepIn K (.ref f) = true → Binds K fd ps [] → CalE Pk w K mg base k x ps sp := fun F g kp b => ⟨⟨_, _, F, g, kp, b⟩⟩
  have law : ∀ base, LawT Pk w K mg base (He.ga K "Code") (He.ga K "NoCode") (He.ga K "Mark") := fun base => by
    have XN : Exn Pk w K mg base "NoCode" (He.ga K "NoCode") "field" := ⟨ox, g_NoCode, _, _, He.eqO_ok n5, n4, ok_NoCode_init ox (He.eqO_ok n3) F_NoCode_init, B_NoCode_init⟩
    have O_source_of := ok_source_of (P := Pk) (w := w) (base := base) T F_source_of
    have C_source_of := cal (base := base) O_source_of g_source_of F_source_of.kp B_source_of
    have O_next := ok_next (P := Pk) (w := w) (base := base) T F_next
    have C_next := cal (base := base) O_next g_next F_next.kp B_next
    have O_one := ok_one (P := Pk) (w := w) (base := base) T F_one C_next
    have C_one := cal (base := base) O_one g_one F_one.kp B_one
    have O_number_of := ok_number_of (P := Pk) (w := w) (base := base) T I XN F_number_of
    have C_number_of := calE (base := base) O_number_of g_number_of F_number_of.kp B_number_of
    have O_bytes_of := ok_bytes_of (P := Pk) (w := w) (base := base) T I IK XN F_bytes_of
    have C_bytes_of := calE (base := base) O_bytes_of g_bytes_of F_bytes_of.kp B_bytes_of
    have O_is_string := ok_is_string (P := Pk) (w := w) (base := base) T I F_is_string
    have C_is_string := cal (base := base) O_is_string g_is_string F_is_string.kp B_is_string
    have O_string_of := ok_string_of (P := Pk) (w := w) (base := base) T I XN F_string_of C_is_string
    have C_string_of := calE (base := base) O_string_of g_string_of F_string_of.kp B_string_of
    have O_strings_of := ok_strings_of (P := Pk) (w := w) (base := base) T I XN F_strings_of C_is_string
    have C_strings_of := calE (base := base) O_strings_of g_strings_of F_strings_of.kp B_strings_of
    have O_is_constant := ok_is_constant (P := Pk) (w := w) (base := base) T I F_is_constant C_is_string
    have C_is_constant := cal (base := base) O_is_constant g_is_constant F_is_constant.kp B_is_constant
    have O_depth_of := ok_depth_of (P := Pk) (w := w) (base := base) T I m8 XN F_depth_of C_is_constant
    have C_depth_of := calE (base := base) O_depth_of g_depth_of F_depth_of.kp B_depth_of
    have O_init := ok_Code_init (P := Pk) (w := w) (base := base) T I XN F_Code_init C_number_of C_bytes_of C_string_of C_strings_of C_depth_of PM g_Mark
    have MC : MkCode Pk w K mg base (He.ga K "Code") (He.ga K "NoCode") (He.ga K "Mark") := ⟨⟨_, _, He.mkr_ok (cd.fact 71 (f := .mkr "Code") rfl), O_init, g_Code, B_Code_init⟩⟩
    have O_lcode := ok_lcode (P := Pk) (w := w) (base := base) T MC F_lcode
    have C_lcode := calE (base := base) O_lcode g_lcode F_lcode.kp B_lcode
    have O_fields := ok_fields (P := Pk) (w := w) (base := base) (MM := He.ga K "Mark") T I F_fields
    have C_fields := cal (base := base) O_fields g_fields F_fields.kp B_fields
    have O_text := ok_text (P := Pk) (w := w) (base := base) T F_text C_next C_one
    have C_text := cal (base := base) O_text g_text F_text.kp B_text
    have O_lbytes := ok_lbytes (P := Pk) (w := w) (base := base) T F_lbytes C_next C_one
    have C_lbytes := cal (base := base) O_lbytes g_lbytes F_lbytes.kp B_lbytes
    have C_const := cal (base := base) (ok_const (P := Pk) (w := w) (base := base) T F_const g_const B_const C_next C_one C_text 2 (by decide)) g_const F_const.kp B_const
    have C_df := cal (base := base) (ok_df (P := Pk) (w := w) (base := base) T F_df g_df B_df C_next C_one C_text C_lbytes C_const C_lcode 2 (by decide)) g_df F_df.kp B_df
    have O_told := ok_told (P := Pk) (w := w) (base := base) T I F_told
    have C_told := cal (base := base) O_told g_told F_told.kp B_told
    have O_samec := ok_samec (P := Pk) (w := w) (base := base) T I F_samec C_told
    have C_samec := cal (base := base) O_samec g_samec F_samec.kp B_samec
    have O_palike := ok_palike (P := Pk) (w := w) (base := base) (MM := He.ga K "Mark") T I F_palike
    have O_areq := ok_areq (P := Pk) (w := w) (base := base) T I m8 IM F_areq C_samec O_palike B_palike meP
    have C_areq := cal (base := base) O_areq g_areq F_areq.kp B_areq
    have O_ceq := ok_ceq (P := Pk) (w := w) (base := base) (MM := He.ga K "Mark") T I m8 F_ceq C_areq
    have EQ : ∃ (g : Addr) (gd : FuncData), FnOk Pk w K mg base CX0 4 g gd ["self", "other"] (spCeq (He.ga K "Code") (He.ga K "Mark")) ∧ Binds K gd ["self", "other"] [] ∧ PySem.W.findIn K (.ref (He.ga K "Code")) "__eq__" = some (some (.ref g)) ∧ PySem.W.isFn K (.ref g) = true := ⟨_, _, O_ceq, B_ceq, meE.at_, meE.fn⟩
    have O_pfour := ok_pfour (P := Pk) (w := w) (base := base) TW F_pfour
    have C_pfour := cal (base := base) O_pfour g_pfour F_pfour.kp B_pfour
    have O_pnumber := ok_pnumber (P := Pk) (w := w) (base := base) TW F_pnumber C_pfour
    have C_pnumber := cal (base := base) O_pnumber g_pnumber F_pnumber.kp B_pnumber
    have O_pbytes := ok_pbytes (P := Pk) (w := w) (base := base) TW F_pbytes C_pfour
    have C_pbytes := cal (base := base) O_pbytes g_pbytes F_pbytes.kp B_pbytes
    have O_ptext := ok_ptext (P := Pk) (w := w) (base := base) TW F_ptext C_pfour
    have C_ptext := cal (base := base) O_ptext g_ptext F_ptext.kp B_ptext
    have O_pinteger := ok_pinteger (P := Pk) (w := w) (base := base) TW F_pinteger C_pfour
    have C_pinteger := cal (base := base) O_pinteger g_pinteger F_pinteger.kp B_pinteger
    have O_pcode := ok_pcode (P := Pk) (w := w) (base := base) (MM := He.ga K "Mark") TW I PGA F_pcode C_pfour
    have C_pcode := cal (base := base) O_pcode g_pcode F_pcode.kp B_pcode
    have O_pcon := ok_pcon (P := Pk) (w := w) (base := base) (MM := He.ga K "Mark") TW I m8 tt PGA F_pcon C_pfour C_pcode C_ptext C_pinteger
    have C_pcon := cal (base := base) O_pcon g_pcon F_pcon.kp B_pcon
    have hS : ∀ f sp, SPut (He.ga K "Code") (He.ga K "Mark") (paOf K) f = some sp → Held Pk w K mg base 3 f sp := fun f sp hf => by
      unfold SPut at hf
      split at hf
      · rename_i e
        cases hf
        rw [e]
        exact ⟨⟨fd_pbytes, ["found", "row", "_"], (task_bytes O_pbytes).mono (by decide), F_pbytes.kp, B_pbytes⟩⟩
      split at hf
      · rename_i e
        cases hf
        rw [e]
        exact ⟨⟨fd_pnumber, ["found", "number", "_"], (task_num O_pnumber).mono (by decide), F_pnumber.kp, B_pnumber⟩⟩
      split at hf
      · rename_i e
        cases hf
        rw [e]
        exact ⟨⟨fd_ptext, ["found", "text", "_"], (task_text O_ptext).mono (by decide), F_ptext.kp, B_ptext⟩⟩
      split at hf
      · rename_i e
        cases hf
        rw [e]
        exact ⟨⟨fd_pcon, ["found", "value", "waiting"], task_con O_pcon, F_pcon.kp, B_pcon⟩⟩
      split at hf
      · rename_i e
        cases hf
        rw [e]
        exact ⟨⟨fd_pcode, ["found", "code", "waiting"], (task_cod O_pcode).mono (by decide), F_pcode.kp, B_pcode⟩⟩
      · cases hf
    have O_written := ok_written (P := Pk) (w := w) (base := base) TW I m8 PGA dA XN F_written hS
    have C_written := calE (base := base) O_written g_written F_written.kp B_written
    have BT := bent_two (P := Pk) (w := w) (base := base) (MM := He.ga K "Mark") T I F_bcon F_bfld g_bcon g_bfld B_bcon B_bfld m8 tb ti tt C_next C_one C_fields C_lcode 3
    have C_bf := cal (base := base) BT.2 g_bfld F_bfld.kp B_bfld
    exact ⟨T, I, C_source_of, C_df, C_bf, C_lcode, C_written, EQ, m12, He.eqO_ok q3, sub⟩
  have bl := fun s v => F_law.bindsA (ps := ["_law_script"]) (fun _ _ _ _ _ _ us hl => match us, hl with | [_], _ => rfl) s [v] rfl
  obtain ⟨oc2, od2, dV2, kV2, doc2, pm2, an2, cdL, ct2, osl2, rfl, lkL, hcL, _, _⟩ := F_law.ex
  have efa : fa = He.ga K "law" := by
    have := hmg.symm.trans g_law
    cases this
    rfl
  subst efa
  exact ⟨K, [], X, (fun p hp => nomatch hp), (fun p hp => nomatch hp), (fun p hp => nomatch hp), fun s a ns hn => law_runs law lkL hcL bl hn⟩
end C51
open PySem PySem.W PySem.Calls PyProof.Rows
theorem PySem.Challenge.cw_codewalk_k51_equal_codes_holds : PySem.Challenge.rw_codewalk_k51_equal_codes.Holds := by
  w_on; o_law
  refine HandSHeadRun.head_any (r := OpenLaw.row PySem.Challenge.rw_codewalk_k51_equal_codes) (q := view (OpenLaw.row PySem.Challenge.rw_codewalk_k51_equal_codes).prog [54]) (H := C51.hkk) (ob := C51.obk) (M := 6000) (loose := C51.loose) (d := HandSHeadRun.topDef (OpenLaw.row PySem.Challenge.rw_codewalk_k51_equal_codes).prog 54) (kwd := []) C51.obk_eq
    (by kernel_rfl) (fun s => by kernel_rfl) C51.runk (by kernel_rfl) (by kernel_rfl) (by kernel_rfl) (by rfl) (by first | assumption | decide +kernel) (by decide +kernel) ⟨rfl, rfl, rfl, rfl, rfl, by decide +kernel⟩ ?hw ?hc
  case hw => w_witness2
  case hc =>
    refine E51.E6.walk_run (l := PySem.Challenge.rw_codewalk_k51_equal_codes) (n := 63) rfl (by decide) (by kernel_rfl) ?_
    intro w mg fa h Y G hmg0
    have hmg : mg ("law" : PySem.Str) = some (.ref fa) := by
      have e : (HandSHeadRun.topDef (OpenLaw.row PySem.Challenge.rw_codewalk_k51_equal_codes).prog 54).name = ("law" : PySem.Str) := by kernel_rfl
      rw [← e]
      exact hmg0
    obtain ⟨K, cs, h1, h2, h3, h4, h5⟩ := C51.k51_at Y G hmg
    exact ⟨K, cs, h1, h2, h3, h4, fun s a ns hl _ => h5 s a ns (Nat.le_trans hl (by decide))⟩
