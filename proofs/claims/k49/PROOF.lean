import PyProof.Rows.All
import Wide.All
import OpenK.AllK
import Wide.FinOn
import HandS.ForMost
import HandS.Wide
import HandS.Defaults
import HandS.IsInst
import HandS.Style
import HandS.ForExc
import HandS.ExcInit
import HandS.ExcField
import HandS.ExcIs
import PySem.Challenge.RW_codewalk_k49_tables_spoilt
import HandS.Star
import HandS.WideBits
import HandS.TryOnly
import PyProof.EnumMake
import PyProof.Draws
import KE.GoesMore
import HandS.Rev
import HandS.RevTup
import KE.KBytesIn
import KE.KStrBytes
import HandS.TryMany
import HandS.Lambda
import KE.KExcIs
import HandS.WrittenGet
import PyProof.Rows.SeqMore
import PyProof.ReprRoads
import HandS.Dict
import HandS.HeadWalk
import HandS.HeadHook4
import HandS.EndTab
import PyProof.ReprLen
import PyProof.ReprBulk
import HandS.Head0
import HandS.Head1
import HandS.Head2
set_option Elab.async false
set_option linter.all false
set_option maxRecDepth 100000
set_option maxHeartbeats 1000000
namespace C49
open PySem PySem.Spec PyProof.Rows L2
def top (i : Nat) : Stmt := PySem.Challenge.pw_codewalk_k49_tables_spoilt.main.body.getD i (.Pass ⟨0, 0, 0, 0⟩)
abbrev FnP (K : PySem.W.Frag) (x q : Str) (st : Stmt) (f : Addr) (fd : FuncData) : Prop := FunD K x q (defArgs st) (defBody st) (defScope st) [] [] f fd
/-- a def of the program as its callers see it -/
structure Cal (P : Program) (w : World) (K : PySem.W.Frag) (mg : Str → Option Value) (base : Heap) (k : Nat) (x : Str) (ps : List Str) (sp : Sp) : Prop where
  ex : ∃ f fd, FnOk P w K mg base CX0 k f fd ps sp ∧ mg x = some (.ref f) ∧ PySem.W.keepIn K (.ref f) = true ∧ Binds K fd ps []
theorem pe_cal {X : Cx} {k : Nat} {x : Str} {ps : List Str} {sp : Sp} {e : Expr} {es : List Expr} {t : TA} {p pos : Pos} (C : Cal X.prog X.w X.K X.mg X.base k x ps sp) (hr : Room k X.A) (hg : Gl X x) (ha : PA X (e :: es) t)
    (hdb : (x == ("__debug__" : Str)) = false := by decide) (he : starEach (e :: es) X.env = (false, eval e X.env) :: starEach es X.env := by rfl) (hpl : (backTo pos (starEach es X.env)).any (·.1) = false := by rfl) :
    PE X (.Call (.Name x p) (e :: es) [] pos) (tCall sp [] E0 t) := by
  obtain ⟨f, fd, F, m, kp, b⟩ := C.ex
  exact pe_call F hr hg m kp b .nil pass0 ha hdb he hpl
theorem pe_gi {X : Cx} {x : Str} {n : Int} {pos : Pos} (h : ∃ t, X.mg x = some (.int n t)) (hg : Gl X x := by rfl) (hdb : (x == ("__debug__" : Str)) = false := by decide) : PE X (.Name x pos) (tC (.int n)) := by
  obtain ⟨t, h⟩ := h
  exact pe_glob hg h ⟨t, rfl⟩ hdb
/-! ### own rules in a form that simp can reckon: each reading names what it finds in the heap by an equation -/
section
variable {X : Cx}
theorem OpR.imp' {g : Value → Value → Sem Value} {r r' : R2} (h : OpR X g r) (i : ∀ x y H Q, r' x y H Q → r x y H Q) : OpR X g r' := fun pins s σ H x y v u Q I rx ry q => h pins s σ H x y v u Q I rx ry (i _ _ _ _ q)
theorem IxR.imp' {r r' : R2} (h : IxR X r) (i : ∀ x y H Q, r' x y H Q → r x y H Q) : IxR X r' := fun e1 e2 pins s σ H x y v u Q I rx ry q => h e1 e2 pins s σ H x y v u Q I rx ry (i _ _ _ _ q)
theorem CallR.imp' {g : Value} {r r' : List V → Hp → VK → Prop} (h : CallR X g r) (i : ∀ xs H Q, r' xs H Q → r xs H Q) : CallR X g r' := fun pins s σ H xs us Q I rx q => h pins s σ H xs us Q I rx (i _ _ _ q)
theorem SlR.imp' {r r' : V → Option Int → Option Int → Hp → VK → Prop} (h : L2.SlR X r) (i : ∀ x a b H Q, r' x a b H Q → r x a b H Q) : L2.SlR X r' := fun pins s σ H x v vl vu lo hi sl Q I rx hs pl pu q => h pins s σ H x v vl vu lo hi sl Q I rx hs pl pu (i _ _ _ _ _ q)
theorem PE.weak {e : Expr} {t t' : TE} (h : PE X e t) (i : ∀ σ H Q, t' σ H Q → t σ H Q) : PE X e t' := ⟨fun pins s σ H Q I q => h.run pins s σ H Q I (i _ _ _ q)⟩
/-- the monotone closure of a reading -/
def mcl (te : TE) : TE := fun σ H Q => ∃ Q0 : VK, te σ H Q0 ∧ ∀ v H', Q0 v H' → Q v H'
theorem PE.mcl {e : Expr} {te : TE} (h : PE X e te) : PE X e (mcl te) := ⟨fun pins s σ H Q I q => by
  obtain ⟨Q0, q0, m⟩ := q
  exact thn (h.run pins s σ H Q0 I q0) fun u s1 ⟨v, H1, I1, r1, q1⟩ => ⟨v, H1, I1, r1, m _ _ q1⟩⟩
theorem pip_of {op : Operator} {r : R2} (h : OpR X (inplaceOp op) r) : PIp X op r := fun pins s σ H x y v u Q I rx ry q => h pins s σ H x y v u Q I rx ry q
/-- what a list or a tuple holds -/
def sq : Option HO → Option (List V)
  | some (.lst xs) => some xs
  | some (.tup xs) => some xs
  | _ => none
@[simp] theorem sq_lst {xs : List V} : sq (some (.lst xs)) = some xs := rfl
@[simp] theorem sq_tup {xs : List V} : sq (some (.tup xs)) = some xs := rfl
theorem sq_cases {o : Option HO} {xs : List V} (h : sq o = some xs) : o = some (.lst xs) ∨ o = some (.tup xs) := by
  unfold sq at h
  split at h
  · exact .inl (by rw [Option.some.inj h])
  · exact .inr (by rw [Option.some.inj h])
  · cases h
def rIxd : R2 := fun x y H Q => ∃ p i xs v, x = .ref p ∧ y = .int i ∧ sq (H p) = some xs ∧ atI xs i = some v ∧ Q v H
theorem ix_d : IxR X rIxd := IxR.imp' (IxR.or (ix_list (X := X)) (ix_tup (X := X))) fun x y H Q ⟨p, i, xs, v, e1, e2, h, ha, q⟩ => by
  rcases sq_cases h with h | h
  · exact .inl ⟨p, xs, i, v, e1, e2, SqL.of h, ha, q⟩
  · exact .inr ⟨p, xs, i, v, e1, e2, SqT.of h, ha, q⟩
def rLend : List V → Hp → VK → Prop := fun vs H Q => ∃ p xs, vs = [.ref p] ∧ sq (H p) = some xs ∧ Q (.int xs.length) H
theorem call_len_d : CallR X (.builtin "len") rLend := CallR.imp' (call_len_seq (X := X)) fun vs H Q ⟨p, xs, e, h, q⟩ => by
  rcases sq_cases h with h | h
  · exact ⟨p, xs, e, .inl (SqL.of h), q⟩
  · exact ⟨p, xs, e, .inr (SqT.of h), q⟩
/-- tuple(list), list(list), list(tuple) -/
def rTupd : List V → Hp → VK → Prop := fun vs H Q => ∃ p xs, vs = [.ref p] ∧ H p = some (.lst xs) ∧ ∀ l, H l = none → Q (.ref l) (upd H l (.tup xs))
theorem call_tuple_d : CallR X (.type "tuple") rTupd := CallR.imp' (call_tuple_of (X := X)) fun vs H Q ⟨p, xs, e, h, q⟩ => ⟨p, xs, e, .inl ⟨SqL.of h, q⟩⟩
def rListd : List V → Hp → VK → Prop := fun vs H Q => ∃ p xs, vs = [.ref p] ∧ sq (H p) = some xs ∧ ∀ l, H l = none → Q (.ref l) (upd H l (.lst xs))
theorem call_list_d : CallR X (.type "list") rListd := CallR.imp' (call_list_of (X := X)) fun vs H Q ⟨p, xs, e, h, q⟩ => by
  rcases sq_cases h with h | h
  · exact ⟨p, xs, e, .inl (SqL.of h), q⟩
  · exact ⟨p, xs, e, .inr (SqT.of h), q⟩
def rSld : V → Option Int → Option Int → Hp → VK → Prop := fun x lo hi H Q => ∃ a xs, x = .ref a ∧ H a = some (.lst xs) ∧ ∀ p, H p = none → Q (.ref p) (upd H p (.lst (cutV xs lo hi)))
theorem sl_d : L2.SlR X rSld := SlR.imp' (sl_list (X := X)) fun x lo hi H Q ⟨a, xs, e, h, q⟩ => ⟨a, xs, e, SqL.of h, q⟩
def tRevD (te : TE) : TE := fun σ H Q => te σ H fun x H1 => ∃ a xs, x = .ref a ∧ H1 a = some (.lst xs) ∧ ∀ p, H1 p = none → Q (.ref p) (upd H1 p (.lst xs.reverse))
theorem pe_revD {e : Expr} {te : TE} {k : Nat} {p1 p2 p3 pos : Pos} (he : PE X e te) : PE X (.Subscript e (.Slice none none (some (.UnaryOp .USub (.Constant (.int 1) k p1) p2)) p3) pos) (tRevD te) :=
  PE.weak (pe_revL (PE.mcl he)) fun σ H Q q => ⟨_, q, fun v H' ⟨a, xs, e, h, k⟩ => ⟨a, xs, e, SqL.of h, k⟩⟩
theorem PG.weak {tg : Expr} {t t' : TG} (h : PG X tg t) (i : ∀ v σ H Q, t' v σ H Q → t v σ H Q) : PG X tg t' := ⟨fun pins s σ H v u Q I r q => h.run pins s σ H v u Q I r (i _ _ _ _ q)⟩
/-- a, b, .. = a tuple that stands in the heap -/
def gTupD (n : Nat) (t : TGs) : TG := fun v σ H Q => ∃ a xs, v = .ref a ∧ H a = some (.tup xs) ∧ xs.length = n ∧ t xs σ H Q
theorem pg_tupD {es : List Expr} {k : Nat} {t : TGs} {n : Nat} {pos : Pos} (hc : X.calm = true) (h : PGs X es t)
    (hn : (assignEach es X.env).length = n := by rfl) (hst : (assignEach es X.env).findIdx? (·.1) = none := by rfl) : PG X (.Tuple es k pos) (gTupD n t) :=
  PG.weak (pg_tup hc h hn hst) fun v σ H Q ⟨a, xs, e, h, l, q⟩ => ⟨a, xs, e, SqT.of h, l, q⟩
def isLst : Option HO → Bool
  | some (.lst _) => true
  | _ => false
@[simp] theorem isLst_lst {xs : List V} : isLst (some (.lst xs)) = true := rfl
theorem tyV_lst {K : PySem.W.Frag} {H : Hp} {a : Addr} (h : isLst (H a) = true) : tyV K "list" (.ref a) H = True := by
  refine eq_true ?_
  cases e : H a with
  | none =>
    rw [e] at h
    cases h
  | some o =>
    rw [e] at h
    cases o with
    | lst xs => exact .inl ⟨rfl, xs, SqL.of e⟩
    | _ => cases h
end
/-! ### statements and expressions, one step each -/
section
variable {X : Cx} {σ : L2.St} {H : Hp} {Q : VK} {D : Ends} {QT : Bool → Hp → Prop} {QA : List V → Hp → Prop} {QO : Option Int → Hp → Prop}
theorem r_seq {t u : TS} : tSeq t u D σ H = t { D with nx := u D } σ H := rfl
theorem r_next : tNext D σ H = D.nx σ H := rfl
theorem r_brk : tBreak D σ H = D.bk σ H := rfl
theorem r_cont : tCont D σ H = D.ct σ H := rfl
theorem r_asg {te : TE} {g : TG} : tAsg te g D σ H = te σ H (fun x H1 => g x σ H1 D.nx) := rfl
theorem r_name {i : Nat} {v : V} {Q : L2.St → Hp → Prop} : gName i v σ H Q = Q (σ.set i (some v)) H := rfl
theorem r_ret {te : TE} : tRet te D σ H = te σ H D.rt := rfl
theorem r_retN : tRetN D σ H = D.rt .non H := rfl
theorem r_drop {te : TE} : tDrop te D σ H = te σ H (fun _ H1 => D.nx σ H1) := rfl
theorem r_ifs {c : TT} {t u : TS} : tIfS c t u D σ H = c σ H (fun b H1 => if b = true then t D σ H1 else u D σ H1) := rfl
theorem r_never : tNever D σ H = False := rfl
theorem r_var {i : Nat} : tVar i σ H Q = ∃ v, σ[i]? = some (some v) ∧ Q v H := rfl
theorem r_c {v : V} : tC v σ H Q = Q v H := rfl
theorem r_op {r : R2} {ta tb : TE} : tOp r ta tb σ H Q = ta σ H (fun x H1 => tb σ H1 fun y H2 => r x y H2 Q) := rfl
theorem r_un {r : V → Hp → VK → Prop} {ta : TE} : tUn r ta σ H Q = ta σ H (fun x H1 => r x H1 Q) := rfl
theorem r_if {c : TT} {ta tb : TE} : tIf c ta tb σ H Q = c σ H (fun b H1 => if b = true then ta σ H1 Q else tb σ H1 Q) := rfl
theorem r_tst {t : TE} : tTest t σ H QT = t σ H (fun x H' => ∃ k, x = .bl k ∧ QT k H') := rfl
theorem r_b {t : TE} : tB t σ H QT = t σ H (fun x H' => ∃ k, x = .bl k ∧ QT k H') := rfl
theorem r_not {t : TT} : tNot t σ H QT = t σ H (fun c H1 => QT (!c) H1) := rfl
theorem r_and {t u : TT} : tAnd t u σ H QT = t σ H (fun c H1 => if c = true then u σ H1 QT else QT false H1) := rfl
theorem r_or {t u : TT} : tOr t u σ H QT = t σ H (fun c H1 => if c = true then QT true H1 else u σ H1 QT) := rfl
theorem r_andV {ta tb : TE} : tAndV ta tb σ H Q = ta σ H (fun x H1 => ∃ c, x = .bl c ∧ if c = true then tb σ H1 Q else Q (.bl false) H1) := rfl
theorem r_orV {ta tb : TE} : tOrV ta tb σ H Q = ta σ H (fun x H1 => ∃ c, x = .bl c ∧ if c = true then Q (.bl true) H1 else tb σ H1 Q) := rfl
theorem r_notV {ta : TE} : tNotV ta σ H Q = ta σ H (fun x H1 => ∃ c, x = .bl c ∧ Q (.bl (!c)) H1) := rfl
theorem r_nil : tNil σ H QA = QA [] H := rfl
theorem r_cons {ta : TE} {tr : TA} : tCons ta tr σ H QA = ta σ H (fun x H1 => tr σ H1 fun xs H2 => QA (x :: xs) H2) := rfl
theorem r_tup {t : TA} : tTup t σ H Q = t σ H (fun xs H1 => xs.length ≤ sizeLine ∧ ∀ p, H1 p = none → Q (.ref p) (upd H1 p (.tup xs))) := (rfl)
theorem r_lst {t : TA} : tLst t σ H Q = t σ H (fun xs H1 => xs.length ≤ sizeLine ∧ ∀ p, H1 p = none → Q (.ref p) (upd H1 p (.lst xs))) := (rfl)
theorem r_cb {r : List V → Hp → VK → Prop} {t : TA} : tCB r t σ H Q = t σ H (fun vs H1 => r vs H1 Q) := rfl
theorem r_call {sp : Sp} {dvs : List V} {E : XK} {t : TA} : tCall sp dvs E t σ H Q = t σ H (fun vs H1 => sp (vs ++ dvs) H1 Q E) := rfl
theorem r_bm {K : PySem.W.Frag} {T : String} {r : V → List V → Hp → VK → Prop} {to : TE} {t : TA} : tBM K T r to t σ H Q = to σ H (fun x H1 => tyV K T x H1 ∧ t σ H1 fun xs H2 => r x xs H2 Q) := rfl
theorem r_bm0 {K : PySem.W.Frag} {T : String} {r : V → List V → Hp → VK → Prop} {to : TE} : tBM0 K T r to σ H Q = to σ H (fun x H1 => tyV K T x H1 ∧ r x [] H1 Q) := rfl
theorem r_sl {r : V → Option Int → Option Int → Hp → VK → Prop} {te : TE} {tl th : TO} : L2.tSl r te tl th σ H Q = te σ H (fun x H1 => tl σ H1 fun l H2 => th σ H2 fun u H3 => r x l u H3 Q) := rfl
theorem r_nopart : tNoPart σ H QO = QO none H := rfl
theorem r_part {te : TE} : tPart te σ H QO = te σ H (fun x H1 => ∃ i, x = .int i ∧ QO (some i) H1) := rfl
theorem r_rev {te : TE} : tRevD te σ H Q = te σ H (fun x H1 => ∃ a xs, x = .ref a ∧ H1 a = some (.lst xs) ∧ ∀ p, H1 p = none → Q (.ref p) (upd H1 p (.lst xs.reverse))) := rfl
theorem r_gtup {K : PySem.W.Frag} {n : Nat} {t : TGs} {v : V} {Q : L2.St → Hp → Prop} : gTup K n t v σ H Q = ∃ a xs, v = .ref a ∧ SqT K H a xs ∧ xs.length = n ∧ t xs σ H Q := rfl
theorem r_gtupD {n : Nat} {t : TGs} {v : V} {Q : L2.St → Hp → Prop} : gTupD n t v σ H Q = ∃ a xs, v = .ref a ∧ H a = some (.tup xs) ∧ xs.length = n ∧ t xs σ H Q := rfl
theorem r_gnil {vs : List V} {Q : L2.St → Hp → Prop} : gNil vs σ H Q = (vs = [] ∧ Q σ H) := rfl
theorem r_gcons {t : TG} {u : TGs} {vs : List V} {Q : L2.St → Hp → Prop} : gCons t u vs σ H Q = ∃ v r, vs = v :: r ∧ t v σ H (fun σ' H' => u r σ' H' Q) := rfl
theorem r_gsub {to ti : TE} {t : TSet} {v : V} {Q : L2.St → Hp → Prop} : gSub to ti t v σ H Q = to σ H (fun o H1 => ti σ H1 fun i H2 => t o i v H2 fun H3 => Q σ H3) := rfl
theorem r_par {i j : Nat} {ta : TA} : tPar i j ta D σ H = ta σ H (fun vs H1 => ∃ v w, vs = [v, w] ∧ D.nx ((σ.set i (some v)).set j (some w)) H1) := rfl
theorem r_aug {i : Nat} {te : TE} {ti : TIp} : tAug i te ti D σ H = ∃ x, σ[i]? = some (some x) ∧ te σ H (fun y H1 => ti x y H1 fun z H2 => D.nx (σ.set i (some z)) H2) := rfl
theorem r_chain {r r' : R2} {ta tb tc : TE} : tChain r r' ta tb tc σ H Q = ta σ H (fun x H1 => tb σ H1 fun y H2 => r x y H2 fun z H3 => ∃ k, z = .bl k ∧ (if k = true then tc σ H3 fun w' H4 => r' y w' H4 Q else Q (.bl false) H3)) := rfl
theorem r_I0 {g : Int → Int → V} {x y : V} : rI0 g x y H Q = ∃ i j, x = .int i ∧ y = .int j ∧ Q (g i j) H := rfl
theorem r_I {C : Int → Int → Prop} {g : Int → Int → V} {x y : V} : rI C g x y H Q = ∃ i j, x = .int i ∧ y = .int j ∧ C i j ∧ Q (g i j) H := rfl
theorem r_ipI {f : Int → Int → Int} {x y : V} : ipI f x y H Q = ∃ i j, x = .int i ∧ y = .int j ∧ Q (.int (f i j)) H := rfl
theorem r_U {g : Int → V} {x : V} : rU g x H Q = ∃ i, x = .int i ∧ Q (g i) H := rfl
theorem r_ixd {x y : V} : rIxd x y H Q = ∃ p i xs v, x = .ref p ∧ y = .int i ∧ sq (H p) = some xs ∧ atI xs i = some v ∧ Q v H := rfl
theorem r_lend {vs : List V} : rLend vs H Q = ∃ p xs, vs = [.ref p] ∧ sq (H p) = some xs ∧ Q (.int xs.length) H := rfl
theorem r_tupd {vs : List V} : rTupd vs H Q = ∃ p xs, vs = [.ref p] ∧ H p = some (.lst xs) ∧ ∀ l, H l = none → Q (.ref l) (upd H l (.tup xs)) := rfl
theorem r_listd {vs : List V} : rListd vs H Q = ∃ p xs, vs = [.ref p] ∧ sq (H p) = some xs ∧ ∀ l, H l = none → Q (.ref l) (upd H l (.lst xs)) := rfl
theorem r_sld {x : V} {lo hi : Option Int} : rSld x lo hi H Q = ∃ a xs, x = .ref a ∧ H a = some (.lst xs) ∧ ∀ p, H p = none → Q (.ref p) (upd H p (.lst (cutV xs lo hi))) := rfl
theorem r_app {x : V} {vs : List V} : rAppend x vs H Q = ∃ l xs y, x = .ref l ∧ vs = [y] ∧ H l = some (.lst xs) ∧ xs.length < sizeLine ∧ Q .non (upd H l (.lst (xs ++ [y]))) := rfl
theorem r_ext {x : V} {vs : List V} : rExtend x vs H Q = ∃ l b xs zs, x = .ref l ∧ vs = [.ref b] ∧ H l = some (.lst xs) ∧ H b = some (.lst zs) ∧ xs.length + zs.length ≤ sizeLine ∧ Q .non (upd H l (.lst (xs ++ zs))) := rfl
theorem r_reverse {x : V} {vs : List V} : rReverse x vs H Q = ∃ l xs, x = .ref l ∧ vs = [] ∧ H l = some (.lst xs) ∧ Q .non (upd H l (.lst xs.reverse)) := rfl
theorem r_setl {o i v : V} {Q : Hp → Prop} : rSetL o i v H Q = ∃ p xs k j, o = .ref p ∧ i = .int k ∧ H p = some (.lst xs) ∧ ixN xs.length k = some j ∧ Q (upd H p (.lst (xs.set j v))) := rfl
theorem r_cat {x y : V} : rCat x y H Q = ∃ l b xs zs, x = .ref l ∧ y = .ref b ∧ H l = some (.lst xs) ∧ H b = some (.lst zs) ∧ xs.length + zs.length ≤ sizeLine ∧ ∀ p, H p = none → Q (.ref p) (upd H p (.lst (xs ++ zs))) := rfl
theorem r_int1 {xs : List V} : (fun xs H Q => (∃ i, xs = [V.int i] ∧ Q (V.int i) H) ∨ ∃ k, xs = [V.bl k] ∧ Q (V.int (if k = true then 1 else 0)) H : List V → Hp → VK → Prop) xs H Q = ((∃ i, xs = [V.int i] ∧ Q (V.int i) H) ∨ ∃ k, xs = [V.bl k] ∧ Q (V.int (if k = true then 1 else 0)) H) := rfl
theorem r_eqS {x y : V} : rEq x y H Q = (scal x y = true ∧ Q (.bl (decide (x = y))) H) := rfl
theorem r_neS {x y : V} : rNe x y H Q = (scal x y = true ∧ Q (.bl (!decide (x = y))) H) := rfl
theorem scal_ii {i j : Int} : scal (.int i) (.int j) = true := rfl
theorem scal_bb {i j : Bool} : scal (.bl i) (.bl j) = true := rfl
theorem scal_ss {i j : Str} : scal (.str i) (.str j) = true := rfl
theorem at0 {x : V} {xs : List V} : atI (x :: xs) 0 = some x := by
  unfold atI ixN
  rw [if_pos (by decide), if_pos (by simp)]
  rfl
theorem at1 {x y : V} {xs : List V} : atI (x :: y :: xs) 1 = some y := by
  unfold atI ixN
  rw [if_pos (by decide), if_pos (by rw [List.length_cons, List.length_cons]; omega)]
  rfl
theorem at2 {x y z : V} {xs : List V} : atI (x :: y :: z :: xs) 2 = some z := by
  unfold atI ixN
  rw [if_pos (by decide), if_pos (by rw [List.length_cons, List.length_cons, List.length_cons]; omega)]
  rfl
theorem atn {xs : List V} {i : Nat} {v : V} (h : xs[i]? = some v) : atI xs (i : Int) = some v := by
  have hi : i < xs.length := (List.getElem?_eq_some_iff.mp h).1
  unfold atI ixN
  rw [if_pos (Int.natCast_nonneg i), if_pos (by omega)]
  simpa using h
theorem ixn {n i : Nat} (h : i < n) : ixN n (i : Int) = some i := by
  unfold ixN
  rw [if_pos (Int.natCast_nonneg i), if_pos (by omega)]
  simp
theorem ix0 {n : Nat} : ixN (n + 1) 0 = some 0 := by
  unfold ixN
  rw [if_pos (by decide), if_pos (by omega)]
  rfl
theorem ix1 {n : Nat} : ixN (n + 1 + 1) 1 = some 1 := by
  unfold ixN
  rw [if_pos (by decide), if_pos (by omega)]
  rfl
theorem ix2 {n : Nat} : ixN (n + 1 + 1 + 1) 2 = some 2 := by
  unfold ixN
  rw [if_pos (by decide), if_pos (by omega)]
  rfl
theorem cm_l {i j : Int} (h : -(2 ^ 64) < i ∧ i < 2 ^ 64) : CMul i j = True := eq_true (.inl h)
theorem cm_r {i j : Int} (h : -(2 ^ 64) < j ∧ j < 2 ^ 64) : CMul i j = True := eq_true (.inr h)
theorem cm_mod {t j : Int} : CMul (t % 2147483647) j = True := eq_true (.inl ⟨by omega, by omega⟩)
theorem cdw {i j : Int} (h : 0 < j ∧ j < 2 ^ 200) : CDivW i j = True := eq_true (wide_div (b := 200) h.1 (by omega) (by decide) (by decide))
theorem cdw1009 {i : Int} : CDivW i 1009 = True := cdw (by decide)
theorem cdw2003 {i : Int} : CDivW i 2003 = True := cdw (by decide)
theorem cdw7 {i : Int} : CDivW i 7 = True := cdw (by decide)
theorem cdw64 {i : Int} : CDivW i 64 = True := cdw (by decide)
theorem cdw2 {i : Int} : CDivW i 2 = True := cdw (by decide)
theorem cm104729 {i : Int} : CMul 104729 i = True := cm_l (by decide)
theorem cm2 {i : Int} : CMul 2 i = True := cm_l (by decide)
theorem cm3 {i : Int} : CMul 3 i = True := cm_l (by decide)
theorem sz_lit {xs : List V} (h : xs.length ≤ 1000) : (xs.length ≤ sizeLine) = True := eq_true (Nat.le_trans h (by decide))
/-- while by a word of the slots and the heap, a test whose answer is known -/
theorem while_d {c : TT} {tb : TS} (Pv : L2.St → Hp → Prop) (m : L2.St → Hp → Nat) (h0 : Pv σ H)
    (hs : ∀ σ H, Pv σ H → ∃ b, (∀ Q : Bool → Hp → Prop, Q b H → c σ H Q) ∧ (b = true → tb { D with nx := fun σ' H' => Pv σ' H' ∧ m σ' H' < m σ H, ct := fun σ' H' => Pv σ' H' ∧ m σ' H' < m σ H, bk := D.nx } σ H) ∧ (b = false → D.nx σ H)) : tWhile c tb D σ H := by
  refine ⟨fun k σ H => k = m σ H ∧ Pv σ H, ⟨_, rfl, h0⟩, ?_⟩
  rintro k σ H ⟨rfl, p⟩
  obtain ⟨b, hc, h1, h2⟩ := hs σ H p
  refine hc _ ?_
  cases b with
  | true => exact ⟨_, fun σ' H' ⟨p', l⟩ => ⟨_, l, rfl, p'⟩, h1 rfl⟩
  | false => exact h2 rfl
end
/-! ### heaps -/
theorem upd_at {H : Hp} {a b : Addr} {o : HO} : L2.upd H a o b = if b = a then some o else H b := rfl
theorem une {a b : Addr} (h : b ≠ a) : ∀ (H : Hp) (o : HO), L2.upd H a o b = H b := fun H o => upd_ne h
theorem ne_new {H : Hp} {a p : Addr} {o : HO} (h : H a = some o) (hp : H p = none) : a ≠ p := ne_of_none h hp
theorem new_ne {H : Hp} {a p : Addr} {o : HO} (h : H a = some o) (hp : H p = none) : p ≠ a := (ne_of_none h hp).symm
theorem Same.new' {H H1 : Hp} {p : Addr} {o : HO} (h : Same H H1) (hp : H1 p = none) : Same H (L2.upd H1 p o) := fun b u e => by
  have e1 := h b u e
  rw [upd_ne (ne_of_none e1 hp)]
  exact e1
/-! ### loops -/
/-- what a loop over J asks -/
def LoopR (J : It) (g : TG) (tb : TS) (D : Ends) (σ : L2.St) (H1 : Hp) : Prop := ∃ W : Nat → Nat → L2.St → Hp → Prop, (∃ m, W 0 m σ H1) ∧ ∀ i m σ H, W i m σ H →
  (J.stop i H ∧ D.nx σ H) ∨ (J.go i H ∧ ∃ N : L2.St → Hp → Prop, (∀ σ' H', N σ' H' → ∃ m', m' < m ∧ W (i + 1) m' σ' H') ∧ ∀ x H', J.yld i H x H' → g x σ H' fun σ2 H2 => tb { D with nx := N, ct := N, bk := D.nx } σ2 H2)
section
variable {K : PySem.W.Frag} {σ : L2.St} {H : Hp} {D : Ends} {g : TG} {tb : TS}
theorem r_for1 {ta : TA} : tFor (iRng1 ta) g tb D σ H = ta σ H (fun vs H1 => ∃ j : Int, vs = [.int j] ∧ -(2 ^ 62) ≤ j ∧ j < 2 ^ 62 ∧ LoopR (Itr 0 j.toNat) g tb D σ H1) := rfl
theorem r_forL {tl : TE} : tFor (iList K tl) g tb D σ H = tl σ H (fun x H1 => ∃ a, x = .ref a ∧ (∃ xs, SqL K H1 a xs) ∧ LoopR (Itl K a) g tb D σ H1) := rfl
theorem r_forT {tl : TE} : tFor (iTup K tl) g tb D σ H = tl σ H (fun x H1 => ∃ a, x = .ref a ∧ (∃ xs, SqT K H1 a xs) ∧ LoopR (Itt K a) g tb D σ H1) := rfl
theorem lp_rng {n : Nat} (Pv : Nat → L2.St → Hp → Prop) (h0 : Pv 0 σ H)
    (hs : ∀ (i : Nat) σ H, i < n → Pv i σ H → g (.int (i : Int)) σ H fun σ2 H2 => tb { D with nx := Pv (i + 1), ct := Pv (i + 1), bk := D.nx } σ2 H2) (hd : ∀ σ H, Pv n σ H → D.nx σ H) : LoopR (Itr 0 n) g tb D σ H :=
  for_range Pv h0 (fun i σ H hi p => by
    have q := hs i σ H hi p
    rw [Int.zero_add]
    exact q) hd
theorem lp_list {a : Addr} {xs : List V} (Pv : Nat → L2.St → Hp → Prop) (h0 : Pv 0 σ H) (hl : ∀ i σ H, i ≤ xs.length → Pv i σ H → SqL K H a xs)
    (hs : ∀ i x σ H, xs[i]? = some x → Pv i σ H → g x σ H fun σ2 H2 => tb { D with nx := Pv (i + 1), ct := Pv (i + 1), bk := D.nx } σ2 H2) (hd : ∀ σ H, Pv xs.length σ H → D.nx σ H) : LoopR (Itl K a) g tb D σ H := for_list Pv h0 hl hs hd
theorem lp_tup {a : Addr} {xs : List V} (Pv : Nat → L2.St → Hp → Prop) (h0 : Pv 0 σ H) (hl : ∀ i σ H, i ≤ xs.length → Pv i σ H → SqT K H a xs)
    (hs : ∀ i x σ H, xs[i]? = some x → Pv i σ H → g x σ H fun σ2 H2 => tb { D with nx := Pv (i + 1), ct := Pv (i + 1), bk := D.nx } σ2 H2) (hd : ∀ σ H, Pv xs.length σ H → D.nx σ H) : LoopR (Itt K a) g tb D σ H := for_tup Pv h0 hl hs hd
/-- an empty list, an empty tuple -/
theorem lp_nil {a : Addr} (hl : SqL K H a []) (hd : D.nx σ H) : LoopR (Itl K a) g tb D σ H := for_list (xs := []) (fun i s h => s = σ ∧ h = H) ⟨rfl, rfl⟩ (fun i s h _ ⟨_, e⟩ => by rw [e]; exact hl) (fun i x s h e => by cases e) fun s h ⟨e1, e2⟩ => by rw [e1, e2]; exact hd
theorem lp_nilT {a : Addr} (hl : SqT K H a []) (hd : D.nx σ H) : LoopR (Itt K a) g tb D σ H := for_tup (xs := []) (fun i s h => s = σ ∧ h = H) ⟨rfl, rfl⟩ (fun i s h _ ⟨_, e⟩ => by rw [e]; exact hl) (fun i x s h e => by cases e) fun s h ⟨e1, e2⟩ => by rw [e1, e2]; exact hd
/-- a list comprehension over J: what is kept from turn to turn -/
def CompR (J : It) (g : TG) (tt : TT) (te : TE) (vs : List Nat) (σ : L2.St) (Q : VK) (D : Addr) (H0 : Hp) : Prop := ∃ W : Nat → Nat → Hp → Prop, (∃ m, W 0 m H0) ∧ ∀ i m H, W i m H →
  (J.stop i H ∧ Q (.ref D) H) ∨ (J.go i H ∧ ∃ Nx : Hp → Prop, (∀ H', Nx H' → ∃ m', m' < m ∧ W (i + 1) m' H') ∧ ∀ x H', J.yld i H x H' → g x (wipe σ vs) H' fun σ2 H2 => wipe σ2 vs = wipe σ vs ∧ tt σ2 H2 fun b H3 =>
    if b = true then te σ2 H3 fun y H4 => ∃ acc, H4 D = some (.lst acc) ∧ acc.length < sizeLine ∧ Nx (upd H4 D (.lst (acc ++ [y]))) else Nx H3)
theorem r_lcL {tl : TE} {tt : TT} {te : TE} {vs : List Nat} {Q : VK} : tLc (iList K tl) g tt te vs σ H Q = tl σ H (fun x H1 => ∃ a, x = .ref a ∧ (∃ xs, SqL K H1 a xs) ∧ ∀ D, H1 D = none → CompR (Itl K a) g tt te vs σ Q D (upd H1 D (.lst []))) := rfl
theorem r_lc1 {ta : TA} {tt : TT} {te : TE} {vs : List Nat} {Q : VK} : tLc (iRng1 ta) g tt te vs σ H Q = ta σ H (fun us H1 => ∃ j : Int, us = [.int j] ∧ -(2 ^ 62) ≤ j ∧ j < 2 ^ 62 ∧ ∀ D, H1 D = none → CompR (Itr 0 j.toNat) g tt te vs σ Q D (upd H1 D (.lst []))) := rfl
theorem cp_list {a : Addr} {xs : List V} {tt : TT} {te : TE} {vs : List Nat} {A : Addr} {H1 : Hp} {Q : VK} (Pv : Nat → Hp → Prop) (h0 : Pv 0 (upd H1 A (.lst []))) (hl : ∀ i H, i ≤ xs.length → Pv i H → SqL K H a xs)
    (hs : ∀ i x H, xs[i]? = some x → Pv i H → g x (wipe σ vs) H fun σ2 H2 => wipe σ2 vs = wipe σ vs ∧ tt σ2 H2 fun b H3 =>
      if b = true then te σ2 H3 fun y H4 => ∃ acc, H4 A = some (.lst acc) ∧ acc.length < sizeLine ∧ Pv (i + 1) (upd H4 A (.lst (acc ++ [y]))) else Pv (i + 1) H3) (hd : ∀ H, Pv xs.length H → Q (.ref A) H) :
    CompR (Itl K a) g tt te vs σ Q A (upd H1 A (.lst [])) := lc_list Pv h0 hl hs hd
theorem r_yes {QT : Bool → Hp → Prop} : tYes σ H QT = QT true H := rfl
end
theorem wipe_0 {σ : L2.St} : wipe σ [] = σ := rfl
theorem wipe_1 {σ : L2.St} {v : Nat} {vs : List Nat} : wipe σ (v :: vs) = (wipe σ vs).set v none := rfl
theorem cut_init (xs : List V) (x : V) : cutV (xs ++ [x]) none (some (-1)) = xs := by
  have e : HT.sIx (xs ++ [x]).length (xs ++ [x]).length (some (-1)) = xs.length := by
    simp [HT.sIx]
    omega
  unfold cutV
  rw [e, HT.sIx_none, List.drop_zero, Nat.sub_zero, List.take_left']
  rfl
theorem cut_last (xs : List V) (x : V) : cutV (xs ++ [x]) (some (-1)) none = [x] := by
  have e : HT.sIx (xs ++ [x]).length 0 (some (-1)) = xs.length := by
    simp [HT.sIx]
    omega
  unfold cutV
  rw [e, HT.sIx_none, List.drop_left', List.take_of_length_le]
  · rw [List.length_append]
    simp
  · rfl
theorem tyl {K : PySem.W.Frag} {H : Hp} {a : Addr} {xs : List V} (h : H a = some (.lst xs)) : tyV K "list" (.ref a) H := of_eq_true (tyV_lst (by rw [h]; rfl))
theorem szl {n : Nat} (h : n ≤ 1000) : n ≤ sizeLine := Nat.le_trans h (by decide)
theorem szlt {n : Nat} (h : n ≤ 1000) : n < sizeLine := Nat.lt_of_le_of_lt h (by decide)
/-- a loop over a written tuple, turn by turn -/
def UnrT (T : Addr) (all : List V) (g : TG) (tb : TS) (D : Ends) : List V → L2.St → Hp → Prop
  | [], σ, H => D.nx σ H
  | x :: xs, σ, H => g x σ H fun σ2 H2 => tb { D with nx := fun σ' H' => H' T = some (.tup all) ∧ UnrT T all g tb D xs σ' H', ct := fun σ' H' => H' T = some (.tup all) ∧ UnrT T all g tb D xs σ' H', bk := D.nx } σ2 H2
theorem unr_nil {T : Addr} {all : List V} {g : TG} {tb : TS} {D : Ends} {σ : L2.St} {H : Hp} : UnrT T all g tb D [] σ H = D.nx σ H := rfl
theorem unr_cons {T : Addr} {all : List V} {g : TG} {tb : TS} {D : Ends} {x : V} {xs : List V} {σ : L2.St} {H : Hp} : UnrT T all g tb D (x :: xs) σ H = g x σ H fun σ2 H2 => tb { D with nx := fun σ' H' => H' T = some (.tup all) ∧ UnrT T all g tb D xs σ' H', ct := fun σ' H' => H' T = some (.tup all) ∧ UnrT T all g tb D xs σ' H', bk := D.nx } σ2 H2 := rfl
theorem lp_unrT {K : PySem.W.Frag} {T : Addr} {all : List V} {g : TG} {tb : TS} {D : Ends} {σ : L2.St} {H : Hp} (h : H T = some (.tup all)) (u : UnrT T all g tb D all σ H) : LoopR (Itt K T) g tb D σ H := by
  refine lp_tup (xs := all) (fun i σ' H' => H' T = some (.tup all) ∧ UnrT T all g tb D (all.drop i) σ' H') ⟨h, u⟩ (fun i s h' _ q => SqT.of q.1) (fun i x s h' e q => ?_) fun s h' q => ?_
  · have e1 : all.drop i = x :: all.drop (i + 1) := by
      obtain ⟨hi, e2⟩ := List.getElem?_eq_some_iff.mp e
      rw [List.drop_eq_getElem_cons hi, e2]
    obtain ⟨_, q2⟩ := q
    rw [e1] at q2
    exact q2
  · obtain ⟨_, q2⟩ := q
    rw [List.drop_length] at q2
    exact q2
theorem Paired.snoc' {α β : Type} {F : α → β → Prop} : ∀ {l1 : List α} {l2 : List β} {a : α} {b : β}, Paired F l1 l2 → F a b → Paired F (l1 ++ [a]) (l2 ++ [b])
  | _, _, _, _, .nil, h => .cons h .nil
  | _, _, _, _, .cons r t, h => .cons r (Paired.snoc' t h)
theorem Paired.map' {α β : Type} {F G : α → β → Prop} {l1 : List α} {l2 : List β} (p : Paired F l1 l2) (h : ∀ a b, F a b → G a b) : Paired G l1 l2 := Paired.mapP p h
theorem cut_tail (x : V) (xs : List V) : cutV (x :: xs) (some 1) none = xs := by
  have e : HT.sIx (x :: xs).length 0 (some 1) = 1 := by
    simp [HT.sIx]
  unfold cutV
  rw [e, HT.sIx_none]
  simp
/-- for x in a name that holds a list or a tuple -/
def iSeqV (K : PySem.W.Frag) (i : Nat) : TI := fun σ H R => ∃ a, σ[i]? = some (some (.ref a)) ∧ (((∃ xs, H a = some (.lst xs)) ∧ R (Itl K a) H) ∨ ((∃ xs, H a = some (.tup xs)) ∧ R (Itt K a) H))
theorem pi_seqV {X : Cx} (i : Nat) {x : Str} {tg : Expr} {pos : Pos} (hN : X.N[i]? = some x := by rfl) (hv : Vis X.env.scope x := by first | exact Or.inl rfl | exact Or.inr (Or.inl rfl) | exact Or.inr (Or.inr rfl)) (hd : (x == ("__debug__" : Str)) = false := by decide)
    (hcd : (x == ("__classdict__" : Str)) = false := by decide) : PI X tg (.Name x pos) (iSeqV X.K i) := ⟨fun pins s σ H R I h => by
  obtain ⟨a, h0, ⟨⟨xs, e⟩, q⟩ | ⟨⟨xs, e⟩, q⟩⟩ := h
  · exact (pi_list (pe_var hN hv hd hcd)).run pins s σ H R I ⟨_, h0, a, rfl, ⟨_, SqL.of e⟩, q⟩
  · exact (pi_tup (pe_var hN hv hd hcd)).run pins s σ H R I ⟨_, h0, a, rfl, ⟨_, SqT.of e⟩, q⟩⟩
theorem r_forS {K : PySem.W.Frag} {i : Nat} {g : TG} {tb : TS} {D : Ends} {σ : L2.St} {H : Hp} : tFor (iSeqV K i) g tb D σ H = ∃ a, σ[i]? = some (some (.ref a)) ∧ (((∃ xs, H a = some (.lst xs)) ∧ LoopR (Itl K a) g tb D σ H) ∨ ((∃ xs, H a = some (.tup xs)) ∧ LoopR (Itt K a) g tb D σ H)) := rfl
theorem lp_seq {K : PySem.W.Frag} {g : TG} {tb : TS} {D : Ends} {σ : L2.St} {H : Hp} {a : Addr} {xs : List V} (h : sq (H a) = some xs) (Pv : Nat → L2.St → Hp → Prop) (h0 : Pv 0 σ H) (hl : ∀ i σ H', Pv i σ H' → H' a = H a)
    (hs : ∀ i x σ H, xs[i]? = some x → Pv i σ H → g x σ H fun σ2 H2 => tb { D with nx := Pv (i + 1), ct := Pv (i + 1), bk := D.nx } σ2 H2) (hd : ∀ σ H, Pv xs.length σ H → D.nx σ H) :
    ((∃ xs, H a = some (.lst xs)) ∧ LoopR (Itl K a) g tb D σ H) ∨ ((∃ xs, H a = some (.tup xs)) ∧ LoopR (Itt K a) g tb D σ H) := by
  rcases sq_cases h with e | e
  · exact .inl ⟨⟨_, e⟩, lp_list Pv h0 (fun i s h' _ q => SqL.of (by rw [hl i s h' q, e])) hs hd⟩
  · exact .inr ⟨⟨_, e⟩, lp_tup Pv h0 (fun i s h' _ q => SqT.of (by rw [hl i s h' q, e])) hs hd⟩
theorem Paired.at' {α β : Type} {F : α → β → Prop} : ∀ {l1 : List α} {l2 : List β} {i : Nat}, Paired F l1 l2 → (h1 : i < l1.length) → (h2 : i < l2.length) → F l1[i] l2[i]
  | _, _, 0, .cons r _, _, _ => r
  | _, _, i + 1, .cons _ t, h1, h2 => Paired.at' (i := i) t (by simpa using h1) (by simpa using h2)

/-! ### isinstance, in a form that simp can reckon -/
structure ClsI (K : PySem.W.Frag) (C : Addr) : Prop where
  cl : Cls K C
  ha : PySem.W.findIn K (.ref C) "__class__" = some (some (.builtin "object.__class__"))
  hn : PySem.W.specialIn K (.builtin "object.__class__") "__get__" = some (some (.builtin "getset_descriptor.__get__"))
  htk : PySem.W.takesIn K (.builtin "object.__class__") = some true
  hm : PySem.W.mroIn K C (.type "object") = some true
/-- what stands there, by its class (of own classes C alone) -/
def tyH (C : Addr) : Option HO → Option Value
  | some (.lst _) => some (.type "list")
  | some (.tup _) => some (.type "tuple")
  | some (.dK _) => some (.type "dict")
  | some (.ins D _ _) => if D = C then some (.ref C) else none
  | _ => none
def tyD (C : Addr) (H : Hp) : V → Option Value
  | .non => some (.type "NoneType")
  | .bl _ => some (.type "bool")
  | .int _ => some (.type "int")
  | .str _ => some (.type "str")
  | .ref a => tyH C (H a)
  | _ => none
theorem tyD_ok {K : PySem.W.Frag} {C : Addr} {H : Hp} {x : V} {t : Value} (c : ClsI K C) (h : tyD C H x = some t) : TyX K H x t := by
  cases x with
  | non => cases h; exact .base .non
  | bl b => cases h; exact .base (.bl b)
  | int i => cases h; exact .base (.int i)
  | str s => cases h; exact .base (.str s)
  | ref a =>
    have h2 : tyH C (H a) = some t := h
    cases e : H a with
    | none =>
      rw [e] at h2
      cases h2
    | some o =>
      rw [e] at h2
      cases o with
      | lst xs => cases h2; exact .base (.lst e)
      | tup xs => cases h2; exact .base (.tup e)
      | dK kvs => cases h2; exact .base (.dK e)
      | ins D dx fs =>
        have h3 : (if D = C then some (Value.ref C) else none) = some t := h2
        by_cases q : D = C
        · rw [if_pos q] at h3
          cases h3
          subst q
          exact .base (.ins e c.cl c.ha c.hn c.htk c.hm)
        · rw [if_neg q] at h3
          cases h3
      | _ => cases h2
  | _ => cases h
def clsD : V → Option Value
  | .ty n => some (.type n)
  | .ref C => some (.ref C)
  | _ => none
theorem clsD_ok {c : V} {u : Value} (h : clsD c = some u) : ClsV c u := by
  cases c with
  | ty n => cases h; exact .ty n
  | ref C => cases h; exact .own C
  | _ => cases h
def rIsD (K : PySem.W.Frag) (C : Addr) : List V → Hp → VK → Prop := fun vs H Q => ∃ x c t u b, vs = [x, c] ∧ clsD c = some u ∧ tyD C H x = some t ∧ PySem.W.kitOne K t u = some b ∧ Q (.bl b) H
theorem call_is_d {X : Cx} {C : Addr} (c : ClsI X.K C) : CallR X (.builtin "isinstance") (rIsD X.K C) := CallR.imp' (call_isi (X := X)) fun vs H Q ⟨x, d, t, u, b, e, h1, h2, h3, q⟩ => ⟨x, d, t, u, b, e, clsD_ok h1, tyD_ok c h2, h3, q⟩
/-- isinstance(x, (list, tuple)) -/
def rIsLT (K : PySem.W.Frag) (C : Addr) : List V → Hp → VK → Prop := fun vs H Q => ∃ x tp t b, vs = [x, .ref tp] ∧ H tp = some (.tup [.ty "list", .ty "tuple"]) ∧ tyD C H x = some t ∧ PySem.W.kitAny K t [.type "list", .type "tuple"] = some b ∧ Q (.bl b) H
theorem call_is_lt {X : Cx} {C : Addr} (c : ClsI X.K C) : CallR X (.builtin "isinstance") (rIsLT X.K C) := CallR.imp' (call_isiT (X := X)) fun vs H Q ⟨x, tp, t, b, e, h1, h2, h3, q⟩ =>
  ⟨x, tp, _, t, _, b, e, h1, .cons (.ty "list") (.cons (.ty "tuple") .nil), tyD_ok c h2, h3, q⟩
section
variable {K : PySem.W.Frag} {C : Addr} {H : Hp} {Q : VK} {σ : L2.St} {D : Ends}
theorem r_isd {vs : List V} : rIsD K C vs H Q = ∃ x c t u b, vs = [x, c] ∧ clsD c = some u ∧ tyD C H x = some t ∧ PySem.W.kitOne K t u = some b ∧ Q (.bl b) H := rfl
theorem r_islt {vs : List V} : rIsLT K C vs H Q = ∃ x tp t b, vs = [x, .ref tp] ∧ H tp = some (.tup [.ty "list", .ty "tuple"]) ∧ tyD C H x = some t ∧ PySem.W.kitAny K t [.type "list", .type "tuple"] = some b ∧ Q (.bl b) H := rfl
theorem cD_ty {n : String} : clsD (.ty n) = some (.type n) := rfl
theorem cD_ref {a : Addr} : clsD (.ref a) = some (.ref a) := rfl
theorem tD_non : tyD C H .non = some (.type "NoneType") := rfl
theorem tD_bl {b : Bool} : tyD C H (.bl b) = some (.type "bool") := rfl
theorem tD_int {i : Int} : tyD C H (.int i) = some (.type "int") := rfl
theorem tD_str {s : Str} : tyD C H (.str s) = some (.type "str") := rfl
theorem tD_ref {a : Addr} : tyD C H (.ref a) = tyH C (H a) := rfl
theorem tH_lst {xs : List V} : tyH C (some (.lst xs)) = some (.type "list") := rfl
theorem tH_tup {xs : List V} : tyH C (some (.tup xs)) = some (.type "tuple") := rfl
theorem tH_dK {kvs : List (Key × V)} : tyH C (some (.dK kvs)) = some (.type "dict") := rfl
theorem tH_ins {dx : Addr} {fs : List (Str × V)} : tyH C (some (.ins C dx fs)) = some (.ref C) := if_pos rfl
theorem ki_self {t : Value} : PySem.W.kitOne K t t = some true := by
  unfold PySem.W.kitOne
  rw [if_pos (by simp)]
theorem ki_int_bool : PySem.W.kitOne K (.type "int") (.type "bool") = some false := kit_ty (by decide +kernel)
theorem ki_non_int : PySem.W.kitOne K (.type "NoneType") (.type "int") = some false := kit_ty (by decide +kernel)
theorem ki_str_int : PySem.W.kitOne K (.type "str") (.type "int") = some false := kit_ty (by decide +kernel)
theorem ki_lt_lst : PySem.W.kitAny K (.type "list") [.type "list", .type "tuple"] = some true := by
  unfold PySem.W.kitAny
  rw [ki_self]
theorem ki_lt_tup : PySem.W.kitAny K (.type "tuple") [.type "list", .type "tuple"] = some true := by
  have e : PySem.W.kitOne K (.type "tuple") (.type "list") = some false := kit_ty (by decide +kernel)
  unfold PySem.W.kitAny
  rw [e]
  unfold PySem.W.kitAny
  rw [ki_self]
theorem r_fld {ta : TE} {f : Str} : tFld K ta f σ H Q = ta σ H (fun x H1 => ∃ a C dx fs v, x = .ref a ∧ H1 a = some (.ins C dx fs) ∧ Cls K C ∧ NoAttr K C f ∧ fs.lookup f = some v ∧ Q v H1) := rfl
theorem r_sfld {ta tv : TE} {f : Str} : sFld K ta tv f D σ H = tv σ H (fun y H1 => ta σ H1 fun x H2 => ∃ a C dx fs, x = .ref a ∧ H2 a = some (.ins C dx fs) ∧ Cls K C ∧ NoAttr K C f ∧ fs.length < 1000 ∧ D.nx σ (upd H2 a (.ins C dx (putF f y fs)))) := rfl
end
theorem cx_K {CX : CXT} {P : Program} {w : World} {K : PySem.W.Frag} {mg : Str → Option Value} {base : Heap} {N : List Str} {q : Str} {sc : Scope} {f : Addr} {cd : Value} {A : Around} {outer : List Env} {s : Shared} {H : Hp} {E : XK} : (cxOf CX P w K mg base N q sc f cd A outer s H E).K = K := rfl
/-! ### own exceptions with one field -/
def spXInit (C : Addr) (f : Str) : Sp := fun vs H Q _ => ∃ (a : Addr) (v : V), vs = [.ref a, v] ∧ H a = some (exo a C none) ∧ ∀ d, H d = none → d ≠ a → Q .non (upd (upd H d (exd d [(f, v)])) a (exo a C (some d)))
structure Exn (P : Program) (w : World) (K : PySem.W.Frag) (mg : Str → Option Value) (base : Heap) (x : Str) (C : Addr) (f : Str) : Prop where
  ox : OexC K C
  gl : mg x = some (.ref C)
  ex : ∃ fI fd, PySem.W.findIn K (.ref C) "__init__" = some (some (.ref fI)) ∧ PySem.W.typeIn K (.ref fI) = some (.type "function") ∧ FnOk P w K mg base CX0 1 fI fd ["self", f] (spXInit C f) ∧ Binds K fd ["self", f] []
theorem pmk_x {X : Cx} {x f : Str} {C : Addr} {e : Expr} {te : TE} {p pos : Pos} (N : Exn X.prog X.w X.K X.mg X.base x C f) (hr : Room 2 X.A) (hg : Gl X x) (ha : PE X e te)
    (hs : starEach [e] X.env = (false, eval e X.env) :: starEach [] X.env := by rfl) (hdb : (x == ("__debug__" : Str)) = false := by decide) (hpl : (backTo pos (starEach [] X.env)).any (·.1) = false := by rfl) :
    PMk X (.Call (.Name x p) [e] [] pos) (tMkO C (spXInit C f) [] (tCons te tNil)) := by
  obtain ⟨fI, fd, iC, tI, F, b⟩ := N.ex
  exact pmk_oex N.ox iC tI F hr b .nil pass0 hg N.gl (pa_cons ha pa_nil hs) hdb hs hpl
/-- what a raise of such an exception asks -/
theorem raise_x {C : Addr} {f : Str} {te : TE} {σ : L2.St} {H : Hp} {E : XK} {v : V} (h : ∀ Q : VK, Q v H → te σ H Q) (k : ∀ d H', H d = none → Same H H' → H' d = some (.xd [(f, v)]) → E (.ref C) (some d) H') : tMkO C (spXInit C f) [] (tCons te tNil) σ H E := by
  refine h _ ⟨by show 1 ≤ 1000; decide, fun a ha => ⟨a, v, rfl, upd_same, fun d hd da => ⟨rfl, d, [(f, v)], upd_same, ?_, ?_, ?_⟩⟩⟩
  · rw [upd_ne da, upd_same]
  · rw [upd_ne da] at hd
    exact hd
  · rw [upd_ne da] at hd
    refine k d _ hd (fun b o e => ?_) upd_same
    have ba : b ≠ a := ne_new e ha
    have bd : b ≠ d := ne_new e hd
    rw [upd_ne bd, del_ne ba, upd_ne ba, upd_ne bd, upd_ne ba]
    exact e

/-! ### the source of choices -/
def Src (H : Hp) (a : Addr) : Prop := ∃ x y z : Int, H a = some (.lst [.int x, .int y, .int z])
/-- all but a stays -/
def Keep (a : Addr) (H H' : Hp) : Prop := ∀ b o, b ≠ a → H b = some o → H' b = some o
theorem Keep.refl (a : Addr) (H : Hp) : Keep a H H := fun _ _ _ h => h
theorem Keep.trans {a : Addr} {H H1 H2 : Hp} (h : Keep a H H1) (k : Keep a H1 H2) : Keep a H H2 := fun b o n e => k b o n (h b o n e)
theorem Keep.upd {a : Addr} {H H1 : Hp} {o : HO} (h : Keep a H H1) : Keep a H (upd H1 a o) := fun b u n e => by
  rw [upd_ne n]
  exact h b u n e
theorem Keep.new {a p : Addr} {H H1 : Hp} {o : HO} (h : Keep a H H1) (hp : H1 p = none) : Keep a H (L2.upd H1 p o) := fun b u n e => by
  have e1 := h b u n e
  rw [upd_ne (ne_of_none e1 hp)]
  exact e1
theorem Keep.same {a : Addr} {H H1 : Hp} (h : Same H H1) : Keep a H H1 := fun b o _ e => h b o e
theorem Src.new {H : Hp} {a p : Addr} {o : HO} (h : Src H a) (hp : H p = none) : Src (L2.upd H p o) a := by
  obtain ⟨x, y, z, e⟩ := h
  exact ⟨x, y, z, by rw [upd_ne (ne_new e hp)]; exact e⟩
theorem Src.ne {H : Hp} {a p : Addr} (h : Src H a) (hp : H p = none) : p ≠ a := by
  obtain ⟨x, y, z, e⟩ := h
  exact new_ne e hp
structure Txt (mg : Str → Option Value) : Prop where
  b_len : mg "len" = none
  b_int : mg "int" = none
  b_range : mg "range" = none
  b_tuple : mg "tuple" = none
  b_list : mg "list" = none
  b_isinstance : mg "isinstance" = none
  b_bool : mg "bool" = none
  b_str : mg "str" = none
  b_max : mg "max" = none
  b_reversed : mg "reversed" = none
  b_repr : mg "repr" = none
  g_GREATEST : ∃ t, mg "GREATEST" = some (.int 2147483647 t)
  g_DEEPEST : ∃ t, mg "DEEPEST" = some (.int 100 t)
  g_BARRED : ∃ t, mg "BARRED" = some (.int 37 t)
  g_BEGINS : ∃ t, mg "BEGINS" = some (.int 128 t)
  g_GOES_ON : ∃ t, mg "GOES_ON" = some (.int 64 t)
  b_min : mg "min" = none
  g_WITH_LINE : ∃ t, mg "WITH_LINE" = some (.int 232 t)
  g_WITHOUT_LINE : ∃ t, mg "WITHOUT_LINE" = some (.int 248 t)
  g_MOST_UNITS : ∃ t, mg "MOST_UNITS" = some (.int 8 t)
  b_enumerate : mg "enumerate" = none
def spSrc : Sp := fun vs H Q _ => ∃ n : Int, vs = [.int n] ∧ ∀ p H', H p = none → Same H H' → Src H' p → Q (.ref p) H'
def spNext : Sp := fun vs H Q _ => ∃ (a : Addr) (m : Int), vs = [.ref a, .int m] ∧ Src H a ∧ 0 < m ∧ m < 2 ^ 200 ∧ ∀ (r : Int) H', 0 ≤ r → r < m → Keep a H H' → Src H' a → Q (.int r) H'
def spOne : Sp := fun vs H Q _ => ∃ (a b : Addr) (xs : List V), vs = [.ref a, .ref b] ∧ Src H a ∧ b ≠ a ∧ H b = some (.lst xs) ∧ xs ≠ [] ∧ xs.length ≤ 1000 ∧ ∀ v H', v ∈ xs → Keep a H H' → Src H' a → Q v H'
section
variable {P : Program} {w : World} {K : PySem.W.Frag} {mg : Str → Option Value} {base : Heap} {f : Addr} {fd : FuncData}
abbrev ssource_of : Stmt := top 35
theorem scsource_of : FnScope ["_law_cell"] ["_law_cell"] (defScope ssource_of) := ⟨rfl, rfl, rfl, by decide +kernel, rfl, by decide +kernel, by decide +kernel⟩

abbrev snext : Stmt := top 36
theorem scnext : FnScope ["_law_source", "_law_many", "_law_found", "_law_prime", "_law_number"] ["_law_source", "_law_many"] (defScope snext) := ⟨rfl, rfl, rfl, by decide +kernel, rfl, by decide +kernel, by decide +kernel⟩

abbrev sone : Stmt := top 37
theorem scone : FnScope ["_law_source", "_law_some"] ["_law_source", "_law_some"] (defScope sone) := ⟨rfl, rfl, rfl, by decide +kernel, rfl, by decide +kernel, by decide +kernel⟩

theorem ok_source_of (T : Txt mg) (F : FnP K "_law_source_of" "_law_source_of" ssource_of f fd) : FnOk P w K mg base CX0 1 f fd ["_law_cell"] spSrc := by
  refine F.ok scsource_of (fun vs H Q E h => ?_) (fun cdv A outer s H vs Q E hr h => ?_)
  · obtain ⟨n, rfl, _⟩ := h
    rfl
  · obtain ⟨n, rfl, k⟩ := h
    refine ⟨_, PSs.nox (pss_cons (ps_set (i := 0) scsource_of.nd rfl (Or.inl rfl) (pe_ifExp (pt_cmpR op_ge (pv 0) pe_int (nomark _)) (pv 0) (pe_op op_sub (pe_op op_sub pe_int (pe_op op_mul pe_int (pv 0))) pe_int)))
  (pss_one (ps_ret (pe_lst (pa_cons (pe_op op_mul (pv 0) (pe_callTy call_int1 (by rfl) T.b_int (by decide +kernel) (pa_cons (pe_cmpR op_ge (pv 0) (pe_op op_pow pe_int pe_int) (nomark _)) pa_nil))) (pa_cons (pe_op op_mod (pe_callTy call_int1 (by rfl) T.b_int (by decide +kernel) (pa_cons (pv 0) pa_nil)) pe_int) (pa_cons pe_int pa_nil))))))), ?_⟩
    show (_ : TS) _ [some (.int n)] H
    simp only [r_seq, r_next, r_brk, r_cont, r_asg, r_name, r_ret, r_retN, r_drop, r_ifs, r_never, r_var, r_c, r_op, r_un, r_if, r_tst, r_b, r_not, r_and, r_or, r_andV, r_orV, r_notV, r_nil, r_cons, r_tup, r_lst, r_cb, r_call, r_bm, r_bm0, r_sl, r_nopart, r_part, r_rev, r_gnil, r_gcons, r_gsub, r_par, r_aug, r_chain, r_I0, r_I, r_U, r_ixd, r_lend, r_tupd, r_listd, r_sld, r_app, r_ext, r_reverse, r_setl, r_cat, r_int1, r_eqS, r_neS, scal_ii, scal_bb, scal_ss, at0, at1, at2, sq_lst, sq_tup, isLst_lst, List.getElem?_cons_zero, List.getElem?_cons_succ, List.set_cons_zero, List.set_cons_succ, V.int.injEq, V.bl.injEq, V.ref.injEq, V.str.injEq, HO.lst.injEq, HO.tup.injEq, Option.some.injEq, exists_eq_left', exists_eq_left, List.cons.injEq, and_true, true_and, decide_eq_true_eq, reduceCtorEq, false_and, exists_false, or_false, false_or, exists_const, and_assoc, exists_and_left, List.append_nil, ix0, ix1, ix2, cm_mod, cdw1009, cdw2003, cdw7, cdw64, cdw2, cm104729, cm2, cm3, upd_same, List.length_cons, List.length_nil, Int.reduceLT, Int.reduceLE, Nat.reduceAdd, Nat.reduceLeDiff, Nat.reduceLT, Int.reduceToNat, r_for1, r_forL, r_forT, r_lcL, r_lc1, r_yes, r_gtupD, wipe_0, wipe_1, List.cons_append, List.nil_append, r_forS, r_ipI, ite_false, ite_true, Bool.not_true, Bool.not_false, decide_true, decide_false, r_isd, r_islt, cD_ty, cD_ref, tD_non, tD_bl, tD_int, tD_str, tD_ref, tH_lst, tH_tup, tH_dK, tH_ins, ki_self, ki_int_bool, ki_non_int, ki_str_int, ki_lt_lst, ki_lt_tup, r_fld, r_sfld, HO.ins.injEq, cx_K]
    have k' : ∀ x y z : Int, ∀ p, H p = none → Q (.ref p) (upd H p (.lst [.int x, .int y, .int z])) := fun x y z p hp =>
      k p _ hp (Same.new' (Same.refl H) hp) ⟨x, y, z, upd_same⟩
    have c1 : CPow 10 18 := ⟨by decide, by decide, by decide⟩
    have c2 : ∀ (i : Int) (c : Prop) [Decidable c], CMul i (if c then 1 else 0) := fun i c _ => .inr (by split <;> decide)
    have c3 : CMul 3 n := .inl (by decide)
    exact ite2 (fun _ => ⟨c1, c2 _ _, Nat.le_trans (by decide : 3 ≤ 1000) (by decide), k' _ _ _⟩) (fun _ => ⟨c1, c2 _ _, Nat.le_trans (by decide : 3 ≤ 1000) (by decide), k' _ _ _⟩)
theorem ok_next (T : Txt mg) (F : FnP K "_law_next" "_law_next" snext f fd) : FnOk P w K mg base CX0 1 f fd ["_law_source", "_law_many"] spNext := by
  refine F.ok scnext (fun vs H Q E h => ?_) (fun cdv A outer s H vs Q E hr h => ?_)
  · obtain ⟨a, m, rfl, _⟩ := h
    rfl
  · obtain ⟨a, m, rfl, ⟨x, y, z, hS⟩, m0, m1, k⟩ := h
    refine ⟨_, PSs.nox (pss_cons (ps_if (pt_cmpR op_gt (pe_ix ix_d (pv 0) pe_int (fun _ _ => rfl)) pe_int (nomark _))
    (pss_cons (ps_set (i := 2) scnext.nd rfl (Or.inl rfl) (pe_op op_mod (pe_callTy call_int1 (by rfl) T.b_int (by decide +kernel) (pa_cons (pe_ix ix_d (pv 0) pe_int (fun _ _ => rfl)) pa_nil)) (pv 1)))
  (pss_cons (ps_asg (pe_op op_fdivW (pe_ix ix_d (pv 0) pe_int (fun _ _ => rfl)) (pv 1)) (pg_sub (pv 0) pe_int set_list))
  (pss_one (ps_ret (pv 2)))))
    pss_nil)
  (pss_cons (ps_asg (pe_op op_add (pe_ix ix_d (pv 0) pe_int (fun _ _ => rfl)) pe_int) (pg_sub (pv 0) pe_int set_list))
  (pss_cons (ps_set (i := 3) scnext.nd rfl (Or.inl rfl) pe_int)
  (pss_cons (ps_set (i := 4) scnext.nd rfl (Or.inl rfl) (pe_op op_mod (pe_callTy call_int1 (by rfl) T.b_int (by decide +kernel) (pa_cons (pe_op op_add (pe_op op_add (pe_ix ix_d (pv 0) pe_int (fun _ _ => rfl)) (pe_op op_mul pe_int (pe_ix ix_d (pv 0) pe_int (fun _ _ => rfl)))) pe_int) pa_nil)) (pv 3)))
  (pss_cons (ps_set (i := 4) scnext.nd rfl (Or.inl rfl) (pe_op op_mod (pe_callTy call_int1 (by rfl) T.b_int (by decide +kernel) (pa_cons (pe_op op_mul (pv 4) pe_int) pa_nil)) (pv 3)))
  (pss_cons (ps_set (i := 4) scnext.nd rfl (Or.inl rfl) (pe_op op_mod (pe_callTy call_int1 (by rfl) T.b_int (by decide +kernel) (pa_cons (pe_op op_mul (pv 4) (pe_op op_add (pe_op op_fdivW (pv 4) pe_int) pe_int)) pa_nil)) (pv 3)))
  (pss_cons (ps_set (i := 4) scnext.nd rfl (Or.inl rfl) (pe_op op_mod (pe_callTy call_int1 (by rfl) T.b_int (by decide +kernel) (pa_cons (pe_op op_mul (pv 4) (pe_op op_add (pe_op op_fdivW (pv 4) pe_int) pe_int)) pa_nil)) pe_int))
  (pss_one (ps_ret (pe_op op_mod (pe_callTy call_int1 (by rfl) T.b_int (by decide +kernel) (pa_cons (pe_op op_fdivW (pv 4) pe_int) pa_nil)) (pv 1))))))))))), ?_⟩
    show (_ : TS) _ [some (.ref a), some (.int m), none, none, none] H
    have hC : ∀ i, CDivW i m := fun i => of_eq_true (cdw ⟨m0, m1⟩)
    have kk : ∀ (e : Int) (u v t : Int), Q (.int (e % m)) (upd H a (.lst [.int u, .int v, .int t])) := fun e u v t => k _ _ (Int.emod_nonneg _ (by omega)) (Int.emod_lt_of_pos _ m0) (Keep.upd (Keep.refl a H)) ⟨u, v, t, upd_same⟩
    simp only [r_seq, r_next, r_brk, r_cont, r_asg, r_name, r_ret, r_retN, r_drop, r_ifs, r_never, r_var, r_c, r_op, r_un, r_if, r_tst, r_b, r_not, r_and, r_or, r_andV, r_orV, r_notV, r_nil, r_cons, r_tup, r_lst, r_cb, r_call, r_bm, r_bm0, r_sl, r_nopart, r_part, r_rev, r_gnil, r_gcons, r_gsub, r_par, r_aug, r_chain, r_I0, r_I, r_U, r_ixd, r_lend, r_tupd, r_listd, r_sld, r_app, r_ext, r_reverse, r_setl, r_cat, r_int1, r_eqS, r_neS, scal_ii, scal_bb, scal_ss, at0, at1, at2, sq_lst, sq_tup, isLst_lst, List.getElem?_cons_zero, List.getElem?_cons_succ, List.set_cons_zero, List.set_cons_succ, V.int.injEq, V.bl.injEq, V.ref.injEq, V.str.injEq, HO.lst.injEq, HO.tup.injEq, Option.some.injEq, exists_eq_left', exists_eq_left, List.cons.injEq, and_true, true_and, decide_eq_true_eq, reduceCtorEq, false_and, exists_false, or_false, false_or, exists_const, and_assoc, exists_and_left, List.append_nil, ix0, ix1, ix2, cm_mod, cdw1009, cdw2003, cdw7, cdw64, cdw2, cm104729, cm2, cm3, upd_same, List.length_cons, List.length_nil, Int.reduceLT, Int.reduceLE, Nat.reduceAdd, Nat.reduceLeDiff, Nat.reduceLT, Int.reduceToNat, r_for1, r_forL, r_forT, r_lcL, r_lc1, r_yes, r_gtupD, wipe_0, wipe_1, List.cons_append, List.nil_append, r_forS, r_ipI, ite_false, ite_true, Bool.not_true, Bool.not_false, decide_true, decide_false, r_isd, r_islt, cD_ty, cD_ref, tD_non, tD_bl, tD_int, tD_str, tD_ref, tH_lst, tH_tup, tH_dK, tH_ins, ki_self, ki_int_bool, ki_non_int, ki_str_int, ki_lt_lst, ki_lt_tup, r_fld, r_sfld, HO.ins.injEq, cx_K, hS, m0, hC]
    exact ite2 (fun _ => kk _ _ _ _) (fun _ => kk _ _ _ _)
theorem ok_one (T : Txt mg) (F : FnP K "_law_one" "_law_one" sone f fd) (C_next : Cal P w K mg base 1 "_law_next" ["_law_source", "_law_many"] spNext) : FnOk P w K mg base CX0 2 f fd ["_law_source", "_law_some"] spOne := by
  refine F.ok scone (fun vs H Q E h => ?_) (fun cdv A outer s H vs Q E hr h => ?_)
  · obtain ⟨a, b, xs, rfl, _⟩ := h
    rfl
  · obtain ⟨a, b, xs, rfl, hS, hb, hx, h0, h1, k⟩ := h
    refine ⟨_, PSs.nox (pss_one (ps_ret (pe_ix ix_d (pv 1) (pe_cal C_next (hr.mono (by decide)) rfl (pa_cons (pv 0) (pa_cons (pe_callB call_len_d (by rfl) T.b_len (by decide +kernel) (pa_cons (pv 1) pa_nil)) pa_nil))) (fun _ _ => rfl)))), ?_⟩
    show (_ : TS) _ [some (.ref a), some (.ref b)] H
    simp only [r_seq, r_next, r_brk, r_cont, r_asg, r_name, r_ret, r_retN, r_drop, r_ifs, r_never, r_var, r_c, r_op, r_un, r_if, r_tst, r_b, r_not, r_and, r_or, r_andV, r_orV, r_notV, r_nil, r_cons, r_tup, r_lst, r_cb, r_call, r_bm, r_bm0, r_sl, r_nopart, r_part, r_rev, r_gnil, r_gcons, r_gsub, r_par, r_aug, r_chain, r_I0, r_I, r_U, r_ixd, r_lend, r_tupd, r_listd, r_sld, r_app, r_ext, r_reverse, r_setl, r_cat, r_int1, r_eqS, r_neS, scal_ii, scal_bb, scal_ss, at0, at1, at2, sq_lst, sq_tup, isLst_lst, List.getElem?_cons_zero, List.getElem?_cons_succ, List.set_cons_zero, List.set_cons_succ, V.int.injEq, V.bl.injEq, V.ref.injEq, V.str.injEq, HO.lst.injEq, HO.tup.injEq, Option.some.injEq, exists_eq_left', exists_eq_left, List.cons.injEq, and_true, true_and, decide_eq_true_eq, reduceCtorEq, false_and, exists_false, or_false, false_or, exists_const, and_assoc, exists_and_left, List.append_nil, ix0, ix1, ix2, cm_mod, cdw1009, cdw2003, cdw7, cdw64, cdw2, cm104729, cm2, cm3, upd_same, List.length_cons, List.length_nil, Int.reduceLT, Int.reduceLE, Nat.reduceAdd, Nat.reduceLeDiff, Nat.reduceLT, Int.reduceToNat, r_for1, r_forL, r_forT, r_lcL, r_lc1, r_yes, r_gtupD, wipe_0, wipe_1, List.cons_append, List.nil_append, r_forS, r_ipI, ite_false, ite_true, Bool.not_true, Bool.not_false, decide_true, decide_false, r_isd, r_islt, cD_ty, cD_ref, tD_non, tD_bl, tD_int, tD_str, tD_ref, tH_lst, tH_tup, tH_dK, tH_ins, ki_self, ki_int_bool, ki_non_int, ki_str_int, ki_lt_lst, ki_lt_tup, r_fld, r_sfld, HO.ins.injEq, cx_K, hx]
    have hl : 0 < xs.length := List.length_pos_iff.mpr h0
    refine ⟨a, _, rfl, hS, by omega, by omega, fun r H1 r0 r1 k1 s1 => ?_⟩
    have hx1 := k1 b _ hb hx
    obtain ⟨i, rfl⟩ : ∃ i : Nat, r = i := ⟨r.toNat, by omega⟩
    have hi : i < xs.length := by omega
    have e1 : atI xs (i : Int) = some xs[i] := atn (List.getElem?_eq_getElem hi)
    simp only [r_seq, r_next, r_brk, r_cont, r_asg, r_name, r_ret, r_retN, r_drop, r_ifs, r_never, r_var, r_c, r_op, r_un, r_if, r_tst, r_b, r_not, r_and, r_or, r_andV, r_orV, r_notV, r_nil, r_cons, r_tup, r_lst, r_cb, r_call, r_bm, r_bm0, r_sl, r_nopart, r_part, r_rev, r_gnil, r_gcons, r_gsub, r_par, r_aug, r_chain, r_I0, r_I, r_U, r_ixd, r_lend, r_tupd, r_listd, r_sld, r_app, r_ext, r_reverse, r_setl, r_cat, r_int1, r_eqS, r_neS, scal_ii, scal_bb, scal_ss, at0, at1, at2, sq_lst, sq_tup, isLst_lst, List.getElem?_cons_zero, List.getElem?_cons_succ, List.set_cons_zero, List.set_cons_succ, V.int.injEq, V.bl.injEq, V.ref.injEq, V.str.injEq, HO.lst.injEq, HO.tup.injEq, Option.some.injEq, exists_eq_left', exists_eq_left, List.cons.injEq, and_true, true_and, decide_eq_true_eq, reduceCtorEq, false_and, exists_false, or_false, false_or, exists_const, and_assoc, exists_and_left, List.append_nil, ix0, ix1, ix2, cm_mod, cdw1009, cdw2003, cdw7, cdw64, cdw2, cm104729, cm2, cm3, upd_same, List.length_cons, List.length_nil, Int.reduceLT, Int.reduceLE, Nat.reduceAdd, Nat.reduceLeDiff, Nat.reduceLT, Int.reduceToNat, r_for1, r_forL, r_forT, r_lcL, r_lc1, r_yes, r_gtupD, wipe_0, wipe_1, List.cons_append, List.nil_append, r_forS, r_ipI, ite_false, ite_true, Bool.not_true, Bool.not_false, decide_true, decide_false, r_isd, r_islt, cD_ty, cD_ref, tD_non, tD_bl, tD_int, tD_str, tD_ref, tH_lst, tH_tup, tH_dK, tH_ins, ki_self, ki_int_bool, ki_non_int, ki_str_int, ki_lt_lst, ki_lt_tup, r_fld, r_sfld, HO.ins.injEq, cx_K, hx1, e1]
    exact k _ _ (List.getElem_mem hi) k1 s1
end
end C49

set_option maxHeartbeats 1000000
namespace C49
open PySem PySem.Spec PyProof.Rows L2
/-! ### numbers in pieces of six bits -/
def rest (n : Nat) : List Nat := if h : n < 64 then [] else (n / 64 % 64) :: rest (n / 64)
termination_by n
decreasing_by omega
def low (n : Nat) : List Nat := (n % 64) :: rest n
theorem rest_lt {n : Nat} (h : n < 64) : rest n = [] := by
  rw [rest, dif_pos h]
theorem rest_ge {n : Nat} (h : ¬ n < 64) : rest n = low (n / 64) := by
  rw [rest, dif_neg h, low]
def vn (xs : List Nat) : List V := xs.map fun d : Nat => V.int (d : Int)
theorem vn_app {xs ys : List Nat} : vn (xs ++ ys) = vn xs ++ vn ys := by
  unfold vn
  rw [List.map_append]
theorem vn_len {xs : List Nat} : (vn xs).length = xs.length := by
  unfold vn
  rw [List.length_map]
theorem rest_len : ∀ (k n : Nat), n < 64 ^ (k + 1) → (rest n).length ≤ k
  | 0, n, h => by rw [rest_lt (by simpa using h)]; exact Nat.le_refl _
  | k + 1, n, h => by
    by_cases c : n < 64
    · rw [rest_lt c]
      exact Nat.zero_le _
    · rw [rest_ge c, low, List.length_cons]
      have := rest_len k (n / 64) (by rw [Nat.pow_succ] at h; omega)
      omega
def spPieces : Sp := fun vs H Q _ => ∃ n : Nat, vs = [.int (n : Int)] ∧ n < 64 ^ 60 ∧ ∀ p H', H p = none → Same H H' → H' p = some (.lst (vn (low n))) → Q (.ref p) H'
def lvPieces (H : Hp) (p : Addr) (n : Nat) (i : Nat) (σ : L2.St) (H' : Hp) : Prop := ∃ (m : Nat) (ds : List Nat) (v : Option V), σ = [some (.int (m : Int)), some (.ref p), v] ∧ Same H H' ∧ H' p = some (.lst (vn ds)) ∧ ds ++ rest m = low n ∧ m = n / 64 ^ i ∧ ds.length ≤ 1 + i
section
variable {P : Program} {w : World} {K : PySem.W.Frag} {mg : Str → Option Value} {base : Heap} {f : Addr} {fd : FuncData}
abbrev spieces : Stmt := top 38
theorem scpieces : FnScope ["_law_number", "_law_found", "_law_k"] ["_law_number"] (defScope spieces) := ⟨rfl, rfl, rfl, by decide +kernel, rfl, by decide +kernel, by decide +kernel⟩

abbrev smarked : Stmt := top 39
theorem scmarked : FnScope ["_law_some", "_law_piece"] ["_law_some"] (defScope smarked) := ⟨rfl, rfl, rfl, by decide +kernel, rfl, by decide +kernel, by decide +kernel⟩

theorem ok_pieces (T : Txt mg) (F : FnP K "_law_pieces" "_law_pieces" spieces f fd) : FnOk P w K mg base CX0 1 f fd ["_law_number"] spPieces := by
  refine F.ok scpieces (fun vs H Q E h => ?_) (fun cdv A outer s H vs Q E hr h => ?_)
  · obtain ⟨n, rfl, _⟩ := h
    rfl
  · obtain ⟨n, rfl, hn, k⟩ := h
    refine ⟨_, PSs.nox (pss_cons (ps_set (i := 1) scpieces.nd rfl (Or.inl rfl) (pe_lst (pa_cons (pe_op op_mod (pe_callTy call_int1 (by rfl) T.b_int (by decide +kernel) (pa_cons (pv 0) pa_nil)) pe_int) pa_nil)))
  (pss_cons (ps_for PassesOwn.never rfl (pi_range1 rfl T.b_range (pa_cons pe_int pa_nil)) (pg_name (i := 2) scpieces.nd rfl (Or.inl rfl))
    (pss_cons (ps_set (i := 0) scpieces.nd rfl (Or.inl rfl) (pe_op op_fdivW (pv 0) pe_int))
  (pss_one (ps_if (pt_cmpR op_gt (pv 0) pe_int (nomark _))
    (pss_one (ps_expr (pe_bm PySem.F.plainAttrs_list PySem.F.slot_list_append PySem.F.type_list_append mt_append (pv 1) (pa_cons (pe_op op_mod (pe_callTy call_int1 (by rfl) T.b_int (by decide +kernel) (pa_cons (pv 0) pa_nil)) pe_int) pa_nil))))
    pss_nil))))
  (pss_one (ps_ret (pv 1))))), ?_⟩
    show (_ : TS) _ [some (.int (n : Int)), none, none] H
    simp only [r_seq, r_next, r_brk, r_cont, r_asg, r_name, r_ret, r_retN, r_drop, r_ifs, r_never, r_var, r_c, r_op, r_un, r_if, r_tst, r_b, r_not, r_and, r_or, r_andV, r_orV, r_notV, r_nil, r_cons, r_tup, r_lst, r_cb, r_call, r_bm, r_bm0, r_sl, r_nopart, r_part, r_rev, r_gnil, r_gcons, r_gsub, r_par, r_aug, r_chain, r_I0, r_I, r_U, r_ixd, r_lend, r_tupd, r_listd, r_sld, r_app, r_ext, r_reverse, r_setl, r_cat, r_int1, r_eqS, r_neS, scal_ii, scal_bb, scal_ss, at0, at1, at2, sq_lst, sq_tup, isLst_lst, List.getElem?_cons_zero, List.getElem?_cons_succ, List.set_cons_zero, List.set_cons_succ, V.int.injEq, V.bl.injEq, V.ref.injEq, V.str.injEq, HO.lst.injEq, HO.tup.injEq, Option.some.injEq, exists_eq_left', exists_eq_left, List.cons.injEq, and_true, true_and, decide_eq_true_eq, reduceCtorEq, false_and, exists_false, or_false, false_or, exists_const, and_assoc, exists_and_left, List.append_nil, ix0, ix1, ix2, cm_mod, cdw1009, cdw2003, cdw7, cdw64, cdw2, cm104729, cm2, cm3, upd_same, List.length_cons, List.length_nil, Int.reduceLT, Int.reduceLE, Nat.reduceAdd, Nat.reduceLeDiff, Nat.reduceLT, Int.reduceToNat, r_for1, r_forL, r_forT, r_lcL, r_lc1, r_yes, r_gtupD, wipe_0, wipe_1, List.cons_append, List.nil_append, r_forS, r_ipI, ite_false, ite_true, Bool.not_true, Bool.not_false, decide_true, decide_false, r_isd, r_islt, cD_ty, cD_ref, tD_non, tD_bl, tD_int, tD_str, tD_ref, tH_lst, tH_tup, tH_dK, tH_ins, ki_self, ki_int_bool, ki_non_int, ki_str_int, ki_lt_lst, ki_lt_tup, r_fld, r_sfld, HO.ins.injEq, cx_K]
    refine ⟨by decide, fun p hp => ⟨by decide, by decide, lp_rng (n := 60) (lvPieces H p n)
      ⟨n, [n % 64], none, rfl, Same.new' (Same.refl H) hp, by rw [upd_same]; simp [vn], by rw [low]; rfl, by simp, by simp⟩ ?_ ?_⟩⟩
    · rintro i σ H1 hi ⟨m, ds, v, rfl, s1, h1, e1, em, hl⟩
      have hm : (0 : Int) < (m : Int) / 64 ↔ ¬ m < 64 := by omega
      have hd : ((m : Int) / 64 % 64) = ((m / 64 % 64 : Nat) : Int) := by omega
      have em' : m / 64 = n / 64 ^ (i + 1) := by rw [em, Nat.div_div_eq_div_mul, Nat.pow_succ]
      have pne : ∀ {b : Addr} {o : HO}, H b = some o → b ≠ p := fun e => ne_new e hp
      simp only [r_seq, r_next, r_brk, r_cont, r_asg, r_name, r_ret, r_retN, r_drop, r_ifs, r_never, r_var, r_c, r_op, r_un, r_if, r_tst, r_b, r_not, r_and, r_or, r_andV, r_orV, r_notV, r_nil, r_cons, r_tup, r_lst, r_cb, r_call, r_bm, r_bm0, r_sl, r_nopart, r_part, r_rev, r_gnil, r_gcons, r_gsub, r_par, r_aug, r_chain, r_I0, r_I, r_U, r_ixd, r_lend, r_tupd, r_listd, r_sld, r_app, r_ext, r_reverse, r_setl, r_cat, r_int1, r_eqS, r_neS, scal_ii, scal_bb, scal_ss, at0, at1, at2, sq_lst, sq_tup, isLst_lst, List.getElem?_cons_zero, List.getElem?_cons_succ, List.set_cons_zero, List.set_cons_succ, V.int.injEq, V.bl.injEq, V.ref.injEq, V.str.injEq, HO.lst.injEq, HO.tup.injEq, Option.some.injEq, exists_eq_left', exists_eq_left, List.cons.injEq, and_true, true_and, decide_eq_true_eq, reduceCtorEq, false_and, exists_false, or_false, false_or, exists_const, and_assoc, exists_and_left, List.append_nil, ix0, ix1, ix2, cm_mod, cdw1009, cdw2003, cdw7, cdw64, cdw2, cm104729, cm2, cm3, upd_same, List.length_cons, List.length_nil, Int.reduceLT, Int.reduceLE, Nat.reduceAdd, Nat.reduceLeDiff, Nat.reduceLT, Int.reduceToNat, r_for1, r_forL, r_forT, r_lcL, r_lc1, r_yes, r_gtupD, wipe_0, wipe_1, List.cons_append, List.nil_append, r_forS, r_ipI, ite_false, ite_true, Bool.not_true, Bool.not_false, decide_true, decide_false, r_isd, r_islt, cD_ty, cD_ref, tD_non, tD_bl, tD_int, tD_str, tD_ref, tH_lst, tH_tup, tH_dK, tH_ins, ki_self, ki_int_bool, ki_non_int, ki_str_int, ki_lt_lst, ki_lt_tup, r_fld, r_sfld, HO.ins.injEq, cx_K, h1, tyV_lst]
      refine ite2 (fun c => ⟨by rw [vn_len]; exact Nat.lt_of_le_of_lt (by omega : ds.length ≤ 100) (by decide), m / 64, ds ++ [m / 64 % 64], _, by rw [Int.natCast_ediv]; rfl, ?_, ?_, ?_, em', by simp; omega⟩) (fun c => ⟨m / 64, ds, _, by rw [Int.natCast_ediv]; rfl, s1, h1, ?_, em', by omega⟩)
      · exact fun b o e => by
          rw [upd_ne (pne e)]
          exact s1 b o e
      · rw [upd_same, vn_app, hd]
        rfl
      · rw [← e1, rest_ge (hm.mp c), low]
        simp
      · rw [← e1, rest_lt (n := m) (by omega), rest_lt (by omega)]
    · rintro σ H1 ⟨m, ds, v, rfl, s1, h1, e1, em, hl⟩
      simp only [r_seq, r_next, r_brk, r_cont, r_asg, r_name, r_ret, r_retN, r_drop, r_ifs, r_never, r_var, r_c, r_op, r_un, r_if, r_tst, r_b, r_not, r_and, r_or, r_andV, r_orV, r_notV, r_nil, r_cons, r_tup, r_lst, r_cb, r_call, r_bm, r_bm0, r_sl, r_nopart, r_part, r_rev, r_gnil, r_gcons, r_gsub, r_par, r_aug, r_chain, r_I0, r_I, r_U, r_ixd, r_lend, r_tupd, r_listd, r_sld, r_app, r_ext, r_reverse, r_setl, r_cat, r_int1, r_eqS, r_neS, scal_ii, scal_bb, scal_ss, at0, at1, at2, sq_lst, sq_tup, isLst_lst, List.getElem?_cons_zero, List.getElem?_cons_succ, List.set_cons_zero, List.set_cons_succ, V.int.injEq, V.bl.injEq, V.ref.injEq, V.str.injEq, HO.lst.injEq, HO.tup.injEq, Option.some.injEq, exists_eq_left', exists_eq_left, List.cons.injEq, and_true, true_and, decide_eq_true_eq, reduceCtorEq, false_and, exists_false, or_false, false_or, exists_const, and_assoc, exists_and_left, List.append_nil, ix0, ix1, ix2, cm_mod, cdw1009, cdw2003, cdw7, cdw64, cdw2, cm104729, cm2, cm3, upd_same, List.length_cons, List.length_nil, Int.reduceLT, Int.reduceLE, Nat.reduceAdd, Nat.reduceLeDiff, Nat.reduceLT, Int.reduceToNat, r_for1, r_forL, r_forT, r_lcL, r_lc1, r_yes, r_gtupD, wipe_0, wipe_1, List.cons_append, List.nil_append, r_forS, r_ipI, ite_false, ite_true, Bool.not_true, Bool.not_false, decide_true, decide_false, r_isd, r_islt, cD_ty, cD_ref, tD_non, tD_bl, tD_int, tD_str, tD_ref, tH_lst, tH_tup, tH_dK, tH_ins, ki_self, ki_int_bool, ki_non_int, ki_str_int, ki_lt_lst, ki_lt_tup, r_fld, r_sfld, HO.ins.injEq, cx_K]
      have : m < 64 := by rw [em]; exact Nat.lt_of_lt_of_le (Nat.div_lt_of_lt_mul (by rw [Nat.mul_one]; exact hn)) (by decide : 1 ≤ 64)
      rw [rest_lt this, List.append_nil] at e1
      exact k p _ hp s1 (by rw [h1, e1])
end
end C49

set_option maxHeartbeats 1000000
namespace C49
open PySem PySem.Spec PyProof.Rows L2
def up (ds : List Nat) : List Nat := ds.map (· + 64)
theorem up_app {xs ys : List Nat} : up (xs ++ ys) = up xs ++ up ys := by
  unfold up
  rw [List.map_append]
/-- a number's pieces, the highest first, marked -/
def mk (n : Nat) : List Nat := up (rest n).reverse ++ [n % 64]
def spMarked : Sp := fun vs H Q _ => ∃ (a : Addr) (ds : List Nat) (d : Nat), vs = [.ref a] ∧ H a = some (.lst (vn (ds ++ [d]))) ∧ ds.length ≤ 100 ∧ ∀ p H', H p = none → Same H H' → H' p = some (.lst (vn (up ds ++ [d]))) → Q (.ref p) H'
def lvMarked (H : Hp) (p D : Addr) (ds : List Nat) (i : Nat) (H' : Hp) : Prop := Same H H' ∧ H' p = some (.lst (vn ds)) ∧ H' D = some (.lst (vn (up (ds.take i))))
section
variable {P : Program} {w : World} {K : PySem.W.Frag} {mg : Str → Option Value} {base : Heap} {f : Addr} {fd : FuncData}
theorem ok_marked (T : Txt mg) (F : FnP K "_law_marked" "_law_marked" smarked f fd) : FnOk P w K mg base CX0 1 f fd ["_law_some"] spMarked := by
  refine F.ok scmarked (fun vs H Q E h => ?_) (fun cdv A outer s H vs Q E hr h => ?_)
  · obtain ⟨a, ds, d, rfl, _⟩ := h
    rfl
  · obtain ⟨a, ds, d, rfl, ha, hl, k⟩ := h
    refine ⟨_, PSs.nox (pss_one (ps_ret (pe_op op_cat (pe_lc (own := [("_law_piece", 1)]) (g := gName 1) (tt := tYes) rfl scmarked.nd (pi_list (pe_slice sl_d (pv 0) po_none (po_some (pe_un un_neg pe_int)))) (blkOk_by (own := [("_law_piece", 1)]) (N := ["_law_some", "_law_piece"]) (sc := defScope smarked) (by decide +kernel)) (fun _ _ _ _ _ => (pg_name (i := 1) scmarked.nd rfl (Or.inl rfl))) (fun _ _ _ _ _ => pts_nil) (fun _ _ _ _ _ => (pe_op op_add (pv 1) pe_int))) (pe_slice sl_d (pv 0) (po_some (pe_un un_neg pe_int)) po_none)))), ?_⟩
    show (_ : TS) _ [some (.ref a), none] H
    have hv : vn (ds ++ [d]) = vn ds ++ [.int (d : Int)] := by rw [vn_app]; rfl
    simp only [r_seq, r_next, r_brk, r_cont, r_asg, r_name, r_ret, r_retN, r_drop, r_ifs, r_never, r_var, r_c, r_op, r_un, r_if, r_tst, r_b, r_not, r_and, r_or, r_andV, r_orV, r_notV, r_nil, r_cons, r_tup, r_lst, r_cb, r_call, r_bm, r_bm0, r_sl, r_nopart, r_part, r_rev, r_gnil, r_gcons, r_gsub, r_par, r_aug, r_chain, r_I0, r_I, r_U, r_ixd, r_lend, r_tupd, r_listd, r_sld, r_app, r_ext, r_reverse, r_setl, r_cat, r_int1, r_eqS, r_neS, scal_ii, scal_bb, scal_ss, at0, at1, at2, sq_lst, sq_tup, isLst_lst, List.getElem?_cons_zero, List.getElem?_cons_succ, List.set_cons_zero, List.set_cons_succ, V.int.injEq, V.bl.injEq, V.ref.injEq, V.str.injEq, HO.lst.injEq, HO.tup.injEq, Option.some.injEq, exists_eq_left', exists_eq_left, List.cons.injEq, and_true, true_and, decide_eq_true_eq, reduceCtorEq, false_and, exists_false, or_false, false_or, exists_const, and_assoc, exists_and_left, List.append_nil, ix0, ix1, ix2, cm_mod, cdw1009, cdw2003, cdw7, cdw64, cdw2, cm104729, cm2, cm3, upd_same, List.length_cons, List.length_nil, Int.reduceLT, Int.reduceLE, Nat.reduceAdd, Nat.reduceLeDiff, Nat.reduceLT, Int.reduceToNat, r_for1, r_forL, r_forT, r_lcL, r_lc1, r_yes, r_gtupD, wipe_0, wipe_1, List.cons_append, List.nil_append, r_forS, r_ipI, ite_false, ite_true, Bool.not_true, Bool.not_false, decide_true, decide_false, r_isd, r_islt, cD_ty, cD_ref, tD_non, tD_bl, tD_int, tD_str, tD_ref, tH_lst, tH_tup, tH_dK, tH_ins, ki_self, ki_int_bool, ki_non_int, ki_str_int, ki_lt_lst, ki_lt_tup, r_fld, r_sfld, HO.ins.injEq, cx_K, ha, hv, cut_init]
    intro p hp
    have ap : a ≠ p := ne_new ha hp
    refine ⟨⟨_, SqL.of upd_same⟩, fun D hD => ?_⟩
    have Dp : D ≠ p := fun e => by
      rw [e, upd_same] at hD
      cases hD
    have HD : H D = none := by
      rw [upd_ne Dp] at hD
      exact hD
    have aD : a ≠ D := ne_new ha HD
    refine cp_list (xs := vn ds) (lvMarked H p D ds) ⟨Same.new' (Same.new' (Same.refl H) hp) hD, by rw [upd_ne Dp.symm, upd_same], by rw [upd_same]; rfl⟩ (fun i H' _ ⟨_, h, _⟩ => SqL.of h) ?_ ?_
    · rintro i x H1 hx ⟨s1, h1, h2⟩
      have hi : i < ds.length := by
        have := (List.getElem?_eq_some_iff.mp hx).1
        rwa [vn_len] at this
      obtain rfl : x = .int ((ds[i] : Nat) : Int) := by
        unfold vn at hx
        rw [List.getElem?_map, List.getElem?_eq_getElem hi] at hx
        exact (Option.some.inj hx).symm
      have e64 : ((ds[i] : Nat) : Int) + 64 = ((ds[i] + 64 : Nat) : Int) := by omega
      simp only [r_seq, r_next, r_brk, r_cont, r_asg, r_name, r_ret, r_retN, r_drop, r_ifs, r_never, r_var, r_c, r_op, r_un, r_if, r_tst, r_b, r_not, r_and, r_or, r_andV, r_orV, r_notV, r_nil, r_cons, r_tup, r_lst, r_cb, r_call, r_bm, r_bm0, r_sl, r_nopart, r_part, r_rev, r_gnil, r_gcons, r_gsub, r_par, r_aug, r_chain, r_I0, r_I, r_U, r_ixd, r_lend, r_tupd, r_listd, r_sld, r_app, r_ext, r_reverse, r_setl, r_cat, r_int1, r_eqS, r_neS, scal_ii, scal_bb, scal_ss, at0, at1, at2, sq_lst, sq_tup, isLst_lst, List.getElem?_cons_zero, List.getElem?_cons_succ, List.set_cons_zero, List.set_cons_succ, V.int.injEq, V.bl.injEq, V.ref.injEq, V.str.injEq, HO.lst.injEq, HO.tup.injEq, Option.some.injEq, exists_eq_left', exists_eq_left, List.cons.injEq, and_true, true_and, decide_eq_true_eq, reduceCtorEq, false_and, exists_false, or_false, false_or, exists_const, and_assoc, exists_and_left, List.append_nil, ix0, ix1, ix2, cm_mod, cdw1009, cdw2003, cdw7, cdw64, cdw2, cm104729, cm2, cm3, upd_same, List.length_cons, List.length_nil, Int.reduceLT, Int.reduceLE, Nat.reduceAdd, Nat.reduceLeDiff, Nat.reduceLT, Int.reduceToNat, r_for1, r_forL, r_forT, r_lcL, r_lc1, r_yes, r_gtupD, wipe_0, wipe_1, List.cons_append, List.nil_append, r_forS, r_ipI, ite_false, ite_true, Bool.not_true, Bool.not_false, decide_true, decide_false, r_isd, r_islt, cD_ty, cD_ref, tD_non, tD_bl, tD_int, tD_str, tD_ref, tH_lst, tH_tup, tH_dK, tH_ins, ki_self, ki_int_bool, ki_non_int, ki_str_int, ki_lt_lst, ki_lt_tup, r_fld, r_sfld, HO.ins.injEq, cx_K, h2, e64, List.map_cons, List.map_nil]
      refine ⟨by rw [vn_len]; exact Nat.lt_of_le_of_lt (by simp [up]; omega : _ ≤ 100) (by decide), fun b o e => ?_, ?_, ?_⟩
      · rw [upd_ne (ne_new e HD)]
        exact s1 b o e
      · rw [upd_ne Dp.symm]
        exact h1
      · rw [upd_same, List.take_succ_eq_append_getElem hi, up_app, vn_app]
        rfl
    · rintro H1 ⟨s1, h1, h2⟩
      rw [vn_len, List.take_length] at h2
      have ha1 := s1 a _ ha
      simp only [r_seq, r_next, r_brk, r_cont, r_asg, r_name, r_ret, r_retN, r_drop, r_ifs, r_never, r_var, r_c, r_op, r_un, r_if, r_tst, r_b, r_not, r_and, r_or, r_andV, r_orV, r_notV, r_nil, r_cons, r_tup, r_lst, r_cb, r_call, r_bm, r_bm0, r_sl, r_nopart, r_part, r_rev, r_gnil, r_gcons, r_gsub, r_par, r_aug, r_chain, r_I0, r_I, r_U, r_ixd, r_lend, r_tupd, r_listd, r_sld, r_app, r_ext, r_reverse, r_setl, r_cat, r_int1, r_eqS, r_neS, scal_ii, scal_bb, scal_ss, at0, at1, at2, sq_lst, sq_tup, isLst_lst, List.getElem?_cons_zero, List.getElem?_cons_succ, List.set_cons_zero, List.set_cons_succ, V.int.injEq, V.bl.injEq, V.ref.injEq, V.str.injEq, HO.lst.injEq, HO.tup.injEq, Option.some.injEq, exists_eq_left', exists_eq_left, List.cons.injEq, and_true, true_and, decide_eq_true_eq, reduceCtorEq, false_and, exists_false, or_false, false_or, exists_const, and_assoc, exists_and_left, List.append_nil, ix0, ix1, ix2, cm_mod, cdw1009, cdw2003, cdw7, cdw64, cdw2, cm104729, cm2, cm3, upd_same, List.length_cons, List.length_nil, Int.reduceLT, Int.reduceLE, Nat.reduceAdd, Nat.reduceLeDiff, Nat.reduceLT, Int.reduceToNat, r_for1, r_forL, r_forT, r_lcL, r_lc1, r_yes, r_gtupD, wipe_0, wipe_1, List.cons_append, List.nil_append, r_forS, r_ipI, ite_false, ite_true, Bool.not_true, Bool.not_false, decide_true, decide_false, r_isd, r_islt, cD_ty, cD_ref, tD_non, tD_bl, tD_int, tD_str, tD_ref, tH_lst, tH_tup, tH_dK, tH_ins, ki_self, ki_int_bool, ki_non_int, ki_str_int, ki_lt_lst, ki_lt_tup, r_fld, r_sfld, HO.ins.injEq, cx_K, ha1, h2, hv, cut_last]
      intro p2 hp2
      have Dp2 : D ≠ p2 := ne_new h2 hp2
      simp only [r_seq, r_next, r_brk, r_cont, r_asg, r_name, r_ret, r_retN, r_drop, r_ifs, r_never, r_var, r_c, r_op, r_un, r_if, r_tst, r_b, r_not, r_and, r_or, r_andV, r_orV, r_notV, r_nil, r_cons, r_tup, r_lst, r_cb, r_call, r_bm, r_bm0, r_sl, r_nopart, r_part, r_rev, r_gnil, r_gcons, r_gsub, r_par, r_aug, r_chain, r_I0, r_I, r_U, r_ixd, r_lend, r_tupd, r_listd, r_sld, r_app, r_ext, r_reverse, r_setl, r_cat, r_int1, r_eqS, r_neS, scal_ii, scal_bb, scal_ss, at0, at1, at2, sq_lst, sq_tup, isLst_lst, List.getElem?_cons_zero, List.getElem?_cons_succ, List.set_cons_zero, List.set_cons_succ, V.int.injEq, V.bl.injEq, V.ref.injEq, V.str.injEq, HO.lst.injEq, HO.tup.injEq, Option.some.injEq, exists_eq_left', exists_eq_left, List.cons.injEq, and_true, true_and, decide_eq_true_eq, reduceCtorEq, false_and, exists_false, or_false, false_or, exists_const, and_assoc, exists_and_left, List.append_nil, ix0, ix1, ix2, cm_mod, cdw1009, cdw2003, cdw7, cdw64, cdw2, cm104729, cm2, cm3, upd_same, List.length_cons, List.length_nil, Int.reduceLT, Int.reduceLE, Nat.reduceAdd, Nat.reduceLeDiff, Nat.reduceLT, Int.reduceToNat, r_for1, r_forL, r_forT, r_lcL, r_lc1, r_yes, r_gtupD, wipe_0, wipe_1, List.cons_append, List.nil_append, r_forS, r_ipI, ite_false, ite_true, Bool.not_true, Bool.not_false, decide_true, decide_false, r_isd, r_islt, cD_ty, cD_ref, tD_non, tD_bl, tD_int, tD_str, tD_ref, tH_lst, tH_tup, tH_dK, tH_ins, ki_self, ki_int_bool, ki_non_int, ki_str_int, ki_lt_lst, ki_lt_tup, r_fld, r_sfld, HO.ins.injEq, cx_K, une Dp2, h2]
      refine ⟨by rw [vn_len]; exact Nat.le_trans (by simp [up]; omega : _ ≤ 1000) (by decide), fun p3 hp3 => ?_⟩
      have s2 : Same H (upd (upd H1 p2 (.lst [.int (d : Int)])) p3 (.lst (vn (up ds) ++ [.int (d : Int)]))) := Same.new' (Same.new' s1 hp2) hp3
      refine k p3 _ ?_ s2 (by rw [upd_same, vn_app]; rfl)
      exact (Same.new' s1 hp2).free hp3
end
end C49

set_option maxHeartbeats 1000000
namespace C49
open PySem PySem.Spec PyProof.Rows L2
/-! ### rows of lines -/
structure LR where
  lo : Nat
  hi : Nat
  ln : Option Int
def lnV : Option Int → V
  | none => .non
  | some i => .int i
def lv (R : LR) : List V := [.int (R.lo : Int), .int (R.hi : Int), lnV R.ln]
def LRows (H : Hp) (F : Addr) (Rs : List LR) : Prop := ∃ refs : List Addr, H F = some (.lst (refs.map V.ref)) ∧ Paired (fun r R => H r = some (.tup (lv R))) refs Rs
def LRowsS (H : Hp) (F : Addr) (Rs : List LR) : Prop := ∃ refs : List Addr, sq (H F) = some (refs.map V.ref) ∧ Paired (fun r R => H r = some (.tup (lv R))) refs Rs
/-- one row more, joined to the last one if the line is the same -/
def jstep (acc : List LR) (R : LR) : List LR := match acc.getLast? with
  | some q => if q.ln = R.ln then acc.dropLast ++ [⟨q.lo, R.hi, R.ln⟩] else acc ++ [R]
  | none => [R]
def joinL (Rs : List LR) : List LR := Rs.foldl jstep []
theorem jstep_nil (R : LR) : jstep [] R = [R] := rfl
theorem jstep_snoc (acc : List LR) (q R : LR) : jstep (acc ++ [q]) R = if q.ln = R.ln then acc ++ [⟨q.lo, R.hi, R.ln⟩] else acc ++ [q] ++ [R] := by
  unfold jstep
  rw [List.getLast?_concat]
  simp
theorem joinL_snoc (Rs : List LR) (R : LR) : joinL (Rs ++ [R]) = jstep (joinL Rs) R := by
  unfold joinL
  rw [List.foldl_append]
  rfl
theorem jstep_len (acc : List LR) (R : LR) : (jstep acc R).length ≤ acc.length + 1 := by
  rcases List.eq_nil_or_concat acc with rfl | ⟨xs, q, rfl⟩
  · simp [jstep_nil]
  · rw [List.concat_eq_append, jstep_snoc]
    split <;> simp
theorem fold_len : ∀ (Rs acc : List LR), (Rs.foldl jstep acc).length ≤ acc.length + Rs.length
  | [], acc => by simp
  | R :: Rs, acc => by
    have h1 := fold_len Rs (jstep acc R)
    have h2 := jstep_len acc R
    rw [List.foldl_cons, List.length_cons]
    omega
theorem joinL_len (Rs : List LR) : (joinL Rs).length ≤ Rs.length := by
  have := fold_len Rs []
  simpa [joinL] using this
/-- two rows of one line that follow one another count as one -/
theorem jstep_two (acc : List LR) (lo mid hi : Nat) (l : Option Int) : jstep (jstep acc ⟨lo, mid, l⟩) ⟨mid, hi, l⟩ = jstep acc ⟨lo, hi, l⟩ := by
  rcases List.eq_nil_or_concat acc with rfl | ⟨xs, q, rfl⟩
  · rw [jstep_nil, jstep_nil]
    rw [show ([⟨lo, mid, l⟩] : List LR) = [] ++ [⟨lo, mid, l⟩] from rfl, jstep_snoc]
    simp
  · rw [List.concat_eq_append, jstep_snoc, jstep_snoc]
    by_cases e : q.ln = l
    · rw [if_pos e, if_pos e, jstep_snoc, if_pos rfl]
    · rw [if_neg e, if_neg e, jstep_snoc, if_pos rfl]
def lnD : Option Int → PyData
  | none => .none
  | some i => .int i
theorem dp_ln {K : PySem.W.Frag} {H : Hp} (l : Option Int) : Dp K H (lnV l) (lnD l) := by
  cases l with
  | none => exact .non
  | some i => exact .int i
theorem shaped_ln (l : Option Int) : SeqAt.shaped (lnD l) = true := by
  cases l <;> rfl
theorem eqv_ln (a b : Option Int) : PyData.eqv (lnD a) (lnD b) = decide (a = b) := by
  cases a with
  | none => cases b <;> simp [lnD, PyData.eqv]
  | some i => cases b with
    | none => simp [lnD, PyData.eqv]
    | some j =>
      simp only [lnD, PyData.eqv, Option.some.injEq]
      rfl
theorem eq_ln {K : PySem.W.Frag} {H : Hp} {a b : Option Int} {Q : VK} (k : Q (.bl (decide (a = b))) H) : rEqD K (lnV a) (lnV b) H Q := ⟨_, _, dp_ln a, dp_ln b, shaped_ln a, shaped_ln b, by rw [eqv_ln]; exact k⟩
theorem ix_last (n : Nat) : ixN (n + 1) (-1) = some n := by
  unfold ixN
  rw [if_neg (by decide), if_pos (by omega)]
  congr 1
  omega
theorem at_last {xs : List V} {x : V} : atI (xs ++ [x]) (-1) = some x := by
  unfold atI
  rw [List.length_append, List.length_singleton, ix_last]
  simp
theorem set_last {xs : List V} {x y : V} : (xs ++ [x]).set xs.length y = xs ++ [y] := by
  rw [List.set_append_right _ _ (Nat.le_refl _)]
  simp
theorem LRows.same {H H' : Hp} {F : Addr} {Rs : List LR} (r : LRows H F Rs) (s : Same H H') : LRows H' F Rs := by
  obtain ⟨refs, e, p⟩ := r
  exact ⟨refs, s _ _ e, Paired.map' p fun a b h => s _ _ h⟩
theorem LRows.s {H : Hp} {F : Addr} {Rs : List LR} (r : LRows H F Rs) : LRowsS H F Rs := by
  obtain ⟨refs, e, p⟩ := r
  exact ⟨refs, by rw [e]; rfl, p⟩
def spJoined : Sp := fun vs H Q _ => ∃ (a : Addr) (Rs : List LR), vs = [.ref a] ∧ LRowsS H a Rs ∧ Rs.length ≤ 100000 ∧ ∀ F H', H F = none → Same H H' → LRows H' F (joinL Rs) → Q (.ref F) H'
def lvJoined (H : Hp) (a F : Addr) (Rs : List LR) (i : Nat) (σ : L2.St) (H' : Hp) : Prop := ∃ v1 v2 v3 : Option V, σ = [some (.ref a), some (.ref F), v1, v2, v3] ∧ Same H H' ∧ LRows H' F (joinL (Rs.take i))
/-- the step on the heap: the found list is written, a new tuple is laid -/
theorem rows_put {H0 H : Hp} {F t : Addr} {l : List V} {refs : List Addr} {acc : List LR} {R : LR} (nF : H0 F = none) (s : Same H0 H) (hF : H F = some (.lst l)) (p : Paired (fun r R => H r = some (.tup (lv R))) refs acc) (ht : H t = none) :
    Same H0 (L2.upd (L2.upd H t (.tup (lv R))) F (.lst (refs.map V.ref ++ [.ref t]))) ∧ LRows (L2.upd (L2.upd H t (.tup (lv R))) F (.lst (refs.map V.ref ++ [.ref t]))) F (acc ++ [R]) := by
  have tF : t ≠ F := new_ne hF ht
  have st : ∀ r (Q : LR), H r = some (.tup (lv Q)) → L2.upd (L2.upd H t (.tup (lv R))) F (.lst (refs.map V.ref ++ [.ref t])) r = some (.tup (lv Q)) := fun r Q e => by
    have rF : r ≠ F := fun z => by rw [z, hF] at e; cases e
    rw [upd_ne rF, upd_ne (ne_new e ht)]
    exact e
  refine ⟨fun b o e => ?_, refs ++ [t], by rw [upd_same, List.map_append]; rfl, Paired.snoc' (Paired.map' p fun a b h => st a b h) ?_⟩
  · rw [upd_ne (ne_new e nF), upd_ne (ne_new (s b o e) ht)]
    exact s b o e
  · rw [upd_ne tF]
    exact upd_same
theorem Paired.snocR {α β : Type} {F : α → β → Prop} : ∀ {l : List α} {ys : List β} {y : β}, Paired F l (ys ++ [y]) → ∃ xs x, l = xs ++ [x] ∧ Paired F xs ys ∧ F x y
  | _, [], _, .cons h .nil => ⟨[], _, rfl, .nil, h⟩
  | _, _ :: _, _, .cons h t => by
    obtain ⟨xs, x, rfl, p, e⟩ := Paired.snocR t
    exact ⟨_ :: xs, x, rfl, .cons h p, e⟩
end C49

set_option maxHeartbeats 1000000
namespace C49
open PySem PySem.Spec PyProof.Rows L2
theorem hu64 {k : Nat} {A : Around} (hr : Room k A) : A.units + 64 < cLine := by
  have := hr.un
  omega
theorem nextJ {Rs : List LR} {i : Nat} (h : i < Rs.length) : joinL (Rs.take (i + 1)) = jstep (joinL (Rs.take i)) Rs[i] := by
  rw [← joinL_snoc, List.take_append_getElem h]
section
variable {P : Program} {w : World} {K : PySem.W.Frag} {mg : Str → Option Value} {base : Heap} {f : Addr} {fd : FuncData}
abbrev sljoined : Stmt := top 42
theorem scljoined : FnScope ["_law_some", "_law_found", "_law_low", "_law_high", "_law_line"] ["_law_some"] (defScope sljoined) := ⟨rfl, rfl, rfl, by decide +kernel, rfl, by decide +kernel, by decide +kernel⟩

end
/-- rows as data -/
def lrD (R : LR) : PyData := .tuple [.int (R.lo : Int), .int (R.hi : Int), lnD R.ln]
theorem dp_lr {K : PySem.W.Frag} {H : Hp} {r : Addr} {R : LR} (h : H r = some (.tup (lv R))) : Dp K H (.ref r) (lrD R) := .tup (SqT.of h) (.cons (.int _) (.cons (.int _) (.cons (dp_ln _) .nil)))
theorem dp_lrs {K : PySem.W.Frag} {H : Hp} : ∀ {refs : List Addr} {Rs : List LR}, Paired (fun r R => H r = some (.tup (lv R))) refs Rs → DpAll K H (refs.map V.ref) (Rs.map lrD)
  | _, _, .nil => .nil
  | _, _, .cons h t => .cons (dp_lr h) (dp_lrs t)
theorem lay_ln (l : Option Int) : PyData.canLay0 (lnD l) = true := by cases l <;> simp [lnD, PyData.canLay0]
theorem dep_ln (l : Option Int) : PyData.depth (lnD l) = 0 := by cases l <;> simp [lnD, PyData.depth]
theorem lay_lrs : ∀ Rs : List LR, PyData.canLayAll0 (Rs.map lrD) = true
  | [] => by simp [PyData.canLayAll0]
  | R :: Rs => by
    simp only [List.map_cons, lrD, PyData.canLayAll0, PyData.canLay0, lay_ln, lay_lrs Rs]
    rfl
theorem dep_lrs : ∀ Rs : List LR, PyData.depthAll (Rs.map lrD) ≤ 1
  | [] => by simp [PyData.depthAll]
  | R :: Rs => by
    have := dep_lrs Rs
    simp only [List.map_cons, lrD, PyData.depthAll, PyData.depth, dep_ln]
    exact Nat.max_le.mpr ⟨by decide, this⟩
theorem shaped_lrs (Rs : List LR) : SeqAt.shaped (.list (Rs.map lrD)) = true := by
  have := dep_lrs Rs
  unfold SeqAt.shaped
  rw [Bool.and_eq_true]
  exact ⟨by simp only [PyData.canLay0, lay_lrs], decide_eq_true (by simp only [PyData.depth]; omega)⟩
theorem ne_none {K : PySem.W.Frag} {H : Hp} {F e : Addr} {refs : List Addr} {Rs : List LR} {Q : VK} (hF : H F = some (.lst (refs.map V.ref))) (p : Paired (fun r R => H r = some (.tup (lv R))) refs Rs) (he : H e = some (.lst [])) (k : Q (.bl (!Rs.isEmpty)) H) : rNeD K (.ref F) (.ref e) H Q := by
  refine ⟨.list (Rs.map lrD), .list [], .lst (SqL.of hF) (dp_lrs p), .lst (SqL.of he) .nil, shaped_lrs Rs, by decide, ?_⟩
  rw [show PyData.eqv (.list (Rs.map lrD)) (.list []) = Rs.isEmpty from by cases Rs <;> simp [PyData.eqv, PyData.eqvAll]]
  exact k
def spJoinedL : Sp := fun vs H Q _ => ∃ (a : Addr) (Rs : List LR), vs = [.ref a] ∧ LRows H a Rs ∧ Rs.length ≤ 100000 ∧ ∀ F H', H F = none → Same H H' → LRows H' F (joinL Rs) → Q (.ref F) H'
section
variable {P : Program} {w : World} {K : PySem.W.Frag} {mg : Str → Option Value} {base : Heap} {f : Addr} {fd : FuncData}
theorem ok_ljoined (T : Txt mg) (F : FnP K "_law_joined" "_law_joined" sljoined f fd) : FnOk P w K mg base CX0 1 f fd ["_law_some"] spJoinedL := by
  refine F.ok scljoined (fun vs H Q E h => ?_) (fun cdv A outer s H vs Q E hr h => ?_)
  · obtain ⟨a, Rs, rfl, _⟩ := h
    rfl
  · obtain ⟨a, Rs, rfl, ⟨refs, ha, hP⟩, hl, k⟩ := h
    refine ⟨_, PSs.nox (pss_cons (ps_set (i := 1) scljoined.nd rfl (Or.inl rfl) (pe_lst pa_nil))
  (pss_cons (ps_for PassesOwn.never rfl (pi_list (pv 0)) (pg_tupD (n := 3) rfl (pgs_cons (pg_name (i := 2) scljoined.nd rfl (Or.inl rfl)) (pgs_cons (pg_name (i := 3) scljoined.nd rfl (Or.inl rfl)) (pgs_cons (pg_name (i := 4) scljoined.nd rfl (Or.inl rfl)) pgs_nil))))
    (pss_one (ps_if (PW.pt (pw_and (pt_cmpR (op_neD (hu64 hr)) (pv 1) (pe_lst pa_nil) (nomark _)) (pw_and1 (pt_cmpR (op_eqD (hu64 hr)) (pe_ix ix_d (pe_ix ix_d (pv 1) (pe_un un_neg pe_int) (fun _ _ => rfl)) pe_int (fun _ _ => rfl)) (pv 4) (nomark _)))))
    (pss_one (ps_asg (pe_tup (pa_cons (pe_ix ix_d (pe_ix ix_d (pv 1) (pe_un un_neg pe_int) (fun _ _ => rfl)) pe_int (fun _ _ => rfl)) (pa_cons (pv 3) (pa_cons (pv 4) pa_nil)))) (pg_sub (pv 1) (pe_un un_neg pe_int) set_list)))
    (pss_one (ps_expr (pe_bm PySem.F.plainAttrs_list PySem.F.slot_list_append PySem.F.type_list_append mt_append (pv 1) (pa_cons (pe_tup (pa_cons (pv 2) (pa_cons (pv 3) (pa_cons (pv 4) pa_nil)))) pa_nil)))))))
  (pss_one (ps_ret (pv 1))))), ?_⟩
    show (_ : TS) _ [some (.ref a), none, none, none, none] H
    simp only [r_seq, r_next, r_brk, r_cont, r_asg, r_name, r_ret, r_retN, r_drop, r_ifs, r_never, r_var, r_c, r_op, r_un, r_if, r_tst, r_b, r_not, r_and, r_or, r_andV, r_orV, r_notV, r_nil, r_cons, r_tup, r_lst, r_cb, r_call, r_bm, r_bm0, r_sl, r_nopart, r_part, r_rev, r_gnil, r_gcons, r_gsub, r_par, r_aug, r_chain, r_I0, r_I, r_U, r_ixd, r_lend, r_tupd, r_listd, r_sld, r_app, r_ext, r_reverse, r_setl, r_cat, r_int1, r_eqS, r_neS, scal_ii, scal_bb, scal_ss, at0, at1, at2, sq_lst, sq_tup, isLst_lst, List.getElem?_cons_zero, List.getElem?_cons_succ, List.set_cons_zero, List.set_cons_succ, V.int.injEq, V.bl.injEq, V.ref.injEq, V.str.injEq, HO.lst.injEq, HO.tup.injEq, Option.some.injEq, exists_eq_left', exists_eq_left, List.cons.injEq, and_true, true_and, decide_eq_true_eq, reduceCtorEq, false_and, exists_false, or_false, false_or, exists_const, and_assoc, exists_and_left, List.append_nil, ix0, ix1, ix2, cm_mod, cdw1009, cdw2003, cdw7, cdw64, cdw2, cm104729, cm2, cm3, upd_same, List.length_cons, List.length_nil, Int.reduceLT, Int.reduceLE, Nat.reduceAdd, Nat.reduceLeDiff, Nat.reduceLT, Int.reduceToNat, r_for1, r_forL, r_forT, r_lcL, r_lc1, r_yes, r_gtupD, wipe_0, wipe_1, List.cons_append, List.nil_append, r_forS, r_ipI, ite_false, ite_true, Bool.not_true, Bool.not_false, decide_true, decide_false, r_isd, r_islt, cD_ty, cD_ref, tD_non, tD_bl, tD_int, tD_str, tD_ref, tH_lst, tH_tup, tH_dK, tH_ins, ki_self, ki_int_bool, ki_non_int, ki_str_int, ki_lt_lst, ki_lt_tup, r_fld, r_sfld, HO.ins.injEq, cx_K]
    refine ⟨szl (by decide), fun F hF => ?_⟩
    have aF : a ≠ F := fun z => by
      rw [z, hF] at ha
      cases ha
    have ha1 : L2.upd H F (.lst []) a = some (.lst (refs.map V.ref)) := by rw [upd_ne aF]; exact ha
    refine ⟨⟨_, SqL.of ha1⟩, lp_list (xs := refs.map V.ref) (lvJoined H a F Rs) ⟨none, none, none, rfl, Same.new' (Same.refl H) hF, [], by rw [upd_same]; rfl, by rw [List.take_zero]; exact .nil⟩ ?_ ?_ ?_⟩
    · rintro i σ H1 _ ⟨_, _, _, _, s1, _⟩
      exact SqL.of (s1 _ _ ha)
    · rintro i x σ H1 hx ⟨v1, v2, v3, rfl, s1, accR, hacc, pacc⟩
      have hir : i < refs.length := by
        have := (List.getElem?_eq_some_iff.mp hx).1
        rwa [List.length_map] at this
      have hiR : i < Rs.length := by rw [← Paired.length hP]; exact hir
      obtain rfl : x = .ref refs[i] := by
        rw [List.getElem?_map, List.getElem?_eq_getElem hir] at hx
        exact (Option.some.inj hx).symm
      have hrow : H1 refs[i] = some (.tup (lv Rs[i])) := s1 _ _ (Paired.at' hP hir hiR)
      have nx := nextJ hiR
      obtain ⟨R, hRe⟩ : ∃ R, R = Rs[i] := ⟨_, rfl⟩
      rw [← hRe] at hrow nx
      have la : (joinL (Rs.take i)).length ≤ 100000 := Nat.le_trans (joinL_len _) (by rw [List.length_take]; omega)
      obtain ⟨acc, hac⟩ : ∃ acc, acc = joinL (Rs.take i) := ⟨_, rfl⟩
      rw [← hac] at pacc nx la
      have lr := Paired.length pacc
      simp only [r_seq, r_next, r_brk, r_cont, r_asg, r_name, r_ret, r_retN, r_drop, r_ifs, r_never, r_var, r_c, r_op, r_un, r_if, r_tst, r_b, r_not, r_and, r_or, r_andV, r_orV, r_notV, r_nil, r_cons, r_tup, r_lst, r_cb, r_call, r_bm, r_bm0, r_sl, r_nopart, r_part, r_rev, r_gnil, r_gcons, r_gsub, r_par, r_aug, r_chain, r_I0, r_I, r_U, r_ixd, r_lend, r_tupd, r_listd, r_sld, r_app, r_ext, r_reverse, r_setl, r_cat, r_int1, r_eqS, r_neS, scal_ii, scal_bb, scal_ss, at0, at1, at2, sq_lst, sq_tup, isLst_lst, List.getElem?_cons_zero, List.getElem?_cons_succ, List.set_cons_zero, List.set_cons_succ, V.int.injEq, V.bl.injEq, V.ref.injEq, V.str.injEq, HO.lst.injEq, HO.tup.injEq, Option.some.injEq, exists_eq_left', exists_eq_left, List.cons.injEq, and_true, true_and, decide_eq_true_eq, reduceCtorEq, false_and, exists_false, or_false, false_or, exists_const, and_assoc, exists_and_left, List.append_nil, ix0, ix1, ix2, cm_mod, cdw1009, cdw2003, cdw7, cdw64, cdw2, cm104729, cm2, cm3, upd_same, List.length_cons, List.length_nil, Int.reduceLT, Int.reduceLE, Nat.reduceAdd, Nat.reduceLeDiff, Nat.reduceLT, Int.reduceToNat, r_for1, r_forL, r_forT, r_lcL, r_lc1, r_yes, r_gtupD, wipe_0, wipe_1, List.cons_append, List.nil_append, r_forS, r_ipI, ite_false, ite_true, Bool.not_true, Bool.not_false, decide_true, decide_false, r_isd, r_islt, cD_ty, cD_ref, tD_non, tD_bl, tD_int, tD_str, tD_ref, tH_lst, tH_tup, tH_dK, tH_ins, ki_self, ki_int_bool, ki_non_int, ki_str_int, ki_lt_lst, ki_lt_tup, r_fld, r_sfld, HO.ins.injEq, cx_K, hrow, lv, hacc]
      refine ⟨Nat.zero_le _, fun e he => ?_⟩
      have s2 := Same.new' (o := .lst []) (Same.refl H1) he
      refine ne_none (s2 _ _ hacc) (Paired.map' pacc fun a b h => s2 _ _ h) upd_same ?_
      have hacc := s2 _ _ hacc
      have pacc := Paired.map' pacc fun a b h => s2 _ _ h
      have s1 : Same H (L2.upd H1 e (.lst [])) := fun b o q => s2 b o (s1 b o q)
      clear he
      generalize L2.upd H1 e (.lst []) = H1 at *
      have app : ∀ {t : Addr}, H1 t = none → lvJoined H a F Rs (i + 1) [some (.ref a), some (.ref F), some (.int (R.lo : Int)), some (.int (R.hi : Int)), some (lnV R.ln)] (L2.upd (L2.upd H1 t (.tup [.int (R.lo : Int), .int (R.hi : Int), lnV R.ln])) F (.lst (accR.map V.ref ++ [.ref t]))) ∨ ¬ (jstep acc R = acc ++ [R]) := by
        intro t ht
        by_cases c : jstep acc R = acc ++ [R]
        · obtain ⟨p1, p2⟩ := rows_put (R := R) hF s1 hacc pacc ht
          exact .inl ⟨_, _, _, rfl, p1, by rw [nx, c]; exact p2⟩
        · exact .inr c
      rcases List.eq_nil_or_concat acc with rfl | ⟨xs, q, rfl⟩
      · obtain rfl : accR = [] := List.length_eq_zero_iff.mp lr
        simp only [r_seq, r_next, r_brk, r_cont, r_asg, r_name, r_ret, r_retN, r_drop, r_ifs, r_never, r_var, r_c, r_op, r_un, r_if, r_tst, r_b, r_not, r_and, r_or, r_andV, r_orV, r_notV, r_nil, r_cons, r_tup, r_lst, r_cb, r_call, r_bm, r_bm0, r_sl, r_nopart, r_part, r_rev, r_gnil, r_gcons, r_gsub, r_par, r_aug, r_chain, r_I0, r_I, r_U, r_ixd, r_lend, r_tupd, r_listd, r_sld, r_app, r_ext, r_reverse, r_setl, r_cat, r_int1, r_eqS, r_neS, scal_ii, scal_bb, scal_ss, at0, at1, at2, sq_lst, sq_tup, isLst_lst, List.getElem?_cons_zero, List.getElem?_cons_succ, List.set_cons_zero, List.set_cons_succ, V.int.injEq, V.bl.injEq, V.ref.injEq, V.str.injEq, HO.lst.injEq, HO.tup.injEq, Option.some.injEq, exists_eq_left', exists_eq_left, List.cons.injEq, and_true, true_and, decide_eq_true_eq, reduceCtorEq, false_and, exists_false, or_false, false_or, exists_const, and_assoc, exists_and_left, List.append_nil, ix0, ix1, ix2, cm_mod, cdw1009, cdw2003, cdw7, cdw64, cdw2, cm104729, cm2, cm3, upd_same, List.length_cons, List.length_nil, Int.reduceLT, Int.reduceLE, Nat.reduceAdd, Nat.reduceLeDiff, Nat.reduceLT, Int.reduceToNat, r_for1, r_forL, r_forT, r_lcL, r_lc1, r_yes, r_gtupD, wipe_0, wipe_1, List.cons_append, List.nil_append, r_forS, r_ipI, ite_false, ite_true, Bool.not_true, Bool.not_false, decide_true, decide_false, r_isd, r_islt, cD_ty, cD_ref, tD_non, tD_bl, tD_int, tD_str, tD_ref, tH_lst, tH_tup, tH_dK, tH_ins, ki_self, ki_int_bool, ki_non_int, ki_str_int, ki_lt_lst, ki_lt_tup, r_fld, r_sfld, HO.ins.injEq, cx_K, List.isEmpty_nil]
        refine ⟨tyl hacc, szl (by decide), fun t ht => ⟨_, by rw [upd_ne (ne_new hacc ht)]; exact hacc, by decide, ?_⟩⟩
        exact (app ht).resolve_right fun z => z (jstep_nil R)
      · rw [List.concat_eq_append] at pacc nx la app
        obtain ⟨rs, rq, rfl, prs, hq⟩ := Paired.snocR pacc
        have hq1 : H1 rq = some (.tup [.int (q.lo : Int), .int (q.hi : Int), lnV q.ln]) := hq
        have eA : (rs ++ [rq]).map V.ref = rs.map V.ref ++ [.ref rq] := by simp
        have hacc' := hacc
        rw [eA] at hacc'
        rw [show (xs.concat q).isEmpty = false from by simp]
        simp only [r_seq, r_next, r_brk, r_cont, r_asg, r_name, r_ret, r_retN, r_drop, r_ifs, r_never, r_var, r_c, r_op, r_un, r_if, r_tst, r_b, r_not, r_and, r_or, r_andV, r_orV, r_notV, r_nil, r_cons, r_tup, r_lst, r_cb, r_call, r_bm, r_bm0, r_sl, r_nopart, r_part, r_rev, r_gnil, r_gcons, r_gsub, r_par, r_aug, r_chain, r_I0, r_I, r_U, r_ixd, r_lend, r_tupd, r_listd, r_sld, r_app, r_ext, r_reverse, r_setl, r_cat, r_int1, r_eqS, r_neS, scal_ii, scal_bb, scal_ss, at0, at1, at2, sq_lst, sq_tup, isLst_lst, List.getElem?_cons_zero, List.getElem?_cons_succ, List.set_cons_zero, List.set_cons_succ, V.int.injEq, V.bl.injEq, V.ref.injEq, V.str.injEq, HO.lst.injEq, HO.tup.injEq, Option.some.injEq, exists_eq_left', exists_eq_left, List.cons.injEq, and_true, true_and, decide_eq_true_eq, reduceCtorEq, false_and, exists_false, or_false, false_or, exists_const, and_assoc, exists_and_left, List.append_nil, ix0, ix1, ix2, cm_mod, cdw1009, cdw2003, cdw7, cdw64, cdw2, cm104729, cm2, cm3, upd_same, List.length_cons, List.length_nil, Int.reduceLT, Int.reduceLE, Nat.reduceAdd, Nat.reduceLeDiff, Nat.reduceLT, Int.reduceToNat, r_for1, r_forL, r_forT, r_lcL, r_lc1, r_yes, r_gtupD, wipe_0, wipe_1, List.cons_append, List.nil_append, r_forS, r_ipI, ite_false, ite_true, Bool.not_true, Bool.not_false, decide_true, decide_false, r_isd, r_islt, cD_ty, cD_ref, tD_non, tD_bl, tD_int, tD_str, tD_ref, tH_lst, tH_tup, tH_dK, tH_ins, ki_self, ki_int_bool, ki_non_int, ki_str_int, ki_lt_lst, ki_lt_tup, r_fld, r_sfld, HO.ins.injEq, cx_K, eA, at_last, hq1, hacc']
        refine eq_ln ?_
        by_cases c : q.ln = R.ln
        · simp only [r_seq, r_next, r_brk, r_cont, r_asg, r_name, r_ret, r_retN, r_drop, r_ifs, r_never, r_var, r_c, r_op, r_un, r_if, r_tst, r_b, r_not, r_and, r_or, r_andV, r_orV, r_notV, r_nil, r_cons, r_tup, r_lst, r_cb, r_call, r_bm, r_bm0, r_sl, r_nopart, r_part, r_rev, r_gnil, r_gcons, r_gsub, r_par, r_aug, r_chain, r_I0, r_I, r_U, r_ixd, r_lend, r_tupd, r_listd, r_sld, r_app, r_ext, r_reverse, r_setl, r_cat, r_int1, r_eqS, r_neS, scal_ii, scal_bb, scal_ss, at0, at1, at2, sq_lst, sq_tup, isLst_lst, List.getElem?_cons_zero, List.getElem?_cons_succ, List.set_cons_zero, List.set_cons_succ, V.int.injEq, V.bl.injEq, V.ref.injEq, V.str.injEq, HO.lst.injEq, HO.tup.injEq, Option.some.injEq, exists_eq_left', exists_eq_left, List.cons.injEq, and_true, true_and, decide_eq_true_eq, reduceCtorEq, false_and, exists_false, or_false, false_or, exists_const, and_assoc, exists_and_left, List.append_nil, ix0, ix1, ix2, cm_mod, cdw1009, cdw2003, cdw7, cdw64, cdw2, cm104729, cm2, cm3, upd_same, List.length_cons, List.length_nil, Int.reduceLT, Int.reduceLE, Nat.reduceAdd, Nat.reduceLeDiff, Nat.reduceLT, Int.reduceToNat, r_for1, r_forL, r_forT, r_lcL, r_lc1, r_yes, r_gtupD, wipe_0, wipe_1, List.cons_append, List.nil_append, r_forS, r_ipI, ite_false, ite_true, Bool.not_true, Bool.not_false, decide_true, decide_false, r_isd, r_islt, cD_ty, cD_ref, tD_non, tD_bl, tD_int, tD_str, tD_ref, tH_lst, tH_tup, tH_dK, tH_ins, ki_self, ki_int_bool, ki_non_int, ki_str_int, ki_lt_lst, ki_lt_tup, r_fld, r_sfld, HO.ins.injEq, cx_K, c, eA, at_last, hq1, hacc']
          refine ⟨szl (by decide), fun t ht => ⟨_, by rw [upd_ne (ne_new hacc' ht)]; exact hacc', rs.length, by rw [List.length_append, List.length_map, List.length_singleton]; exact ix_last _, ?_⟩⟩
          have es : (rs.map V.ref ++ [V.ref rq]).set rs.length (.ref t) = rs.map V.ref ++ [V.ref t] := by
            have := set_last (xs := rs.map V.ref) (x := V.ref rq) (y := V.ref t)
            rwa [List.length_map] at this
          rw [es]
          obtain ⟨p1, p2⟩ := rows_put (R := ⟨q.lo, R.hi, R.ln⟩) hF s1 hacc' prs ht
          exact ⟨_, _, _, rfl, p1, by rw [nx, jstep_snoc, if_pos c]; exact p2⟩
        · simp only [r_seq, r_next, r_brk, r_cont, r_asg, r_name, r_ret, r_retN, r_drop, r_ifs, r_never, r_var, r_c, r_op, r_un, r_if, r_tst, r_b, r_not, r_and, r_or, r_andV, r_orV, r_notV, r_nil, r_cons, r_tup, r_lst, r_cb, r_call, r_bm, r_bm0, r_sl, r_nopart, r_part, r_rev, r_gnil, r_gcons, r_gsub, r_par, r_aug, r_chain, r_I0, r_I, r_U, r_ixd, r_lend, r_tupd, r_listd, r_sld, r_app, r_ext, r_reverse, r_setl, r_cat, r_int1, r_eqS, r_neS, scal_ii, scal_bb, scal_ss, at0, at1, at2, sq_lst, sq_tup, isLst_lst, List.getElem?_cons_zero, List.getElem?_cons_succ, List.set_cons_zero, List.set_cons_succ, V.int.injEq, V.bl.injEq, V.ref.injEq, V.str.injEq, HO.lst.injEq, HO.tup.injEq, Option.some.injEq, exists_eq_left', exists_eq_left, List.cons.injEq, and_true, true_and, decide_eq_true_eq, reduceCtorEq, false_and, exists_false, or_false, false_or, exists_const, and_assoc, exists_and_left, List.append_nil, ix0, ix1, ix2, cm_mod, cdw1009, cdw2003, cdw7, cdw64, cdw2, cm104729, cm2, cm3, upd_same, List.length_cons, List.length_nil, Int.reduceLT, Int.reduceLE, Nat.reduceAdd, Nat.reduceLeDiff, Nat.reduceLT, Int.reduceToNat, r_for1, r_forL, r_forT, r_lcL, r_lc1, r_yes, r_gtupD, wipe_0, wipe_1, List.cons_append, List.nil_append, r_forS, r_ipI, ite_false, ite_true, Bool.not_true, Bool.not_false, decide_true, decide_false, r_isd, r_islt, cD_ty, cD_ref, tD_non, tD_bl, tD_int, tD_str, tD_ref, tH_lst, tH_tup, tH_dK, tH_ins, ki_self, ki_int_bool, ki_non_int, ki_str_int, ki_lt_lst, ki_lt_tup, r_fld, r_sfld, HO.ins.injEq, cx_K, c, eA, at_last, hq1, hacc']
          refine ⟨tyl hacc, szl (by decide), fun t ht => ⟨_, by rw [upd_ne (ne_new hacc ht)]; exact hacc, Nat.lt_of_le_of_lt (by rw [List.length_map, Paired.length pacc]; exact la) (by decide), ?_⟩⟩
          exact (app ht).resolve_right fun z => z (by rw [jstep_snoc, if_neg c])
    · rintro σ H1 ⟨v1, v2, v3, rfl, s1, r1⟩
      rw [List.length_map, Paired.length hP, List.take_length] at r1
      simp only [r_seq, r_next, r_brk, r_cont, r_asg, r_name, r_ret, r_retN, r_drop, r_ifs, r_never, r_var, r_c, r_op, r_un, r_if, r_tst, r_b, r_not, r_and, r_or, r_andV, r_orV, r_notV, r_nil, r_cons, r_tup, r_lst, r_cb, r_call, r_bm, r_bm0, r_sl, r_nopart, r_part, r_rev, r_gnil, r_gcons, r_gsub, r_par, r_aug, r_chain, r_I0, r_I, r_U, r_ixd, r_lend, r_tupd, r_listd, r_sld, r_app, r_ext, r_reverse, r_setl, r_cat, r_int1, r_eqS, r_neS, scal_ii, scal_bb, scal_ss, at0, at1, at2, sq_lst, sq_tup, isLst_lst, List.getElem?_cons_zero, List.getElem?_cons_succ, List.set_cons_zero, List.set_cons_succ, V.int.injEq, V.bl.injEq, V.ref.injEq, V.str.injEq, HO.lst.injEq, HO.tup.injEq, Option.some.injEq, exists_eq_left', exists_eq_left, List.cons.injEq, and_true, true_and, decide_eq_true_eq, reduceCtorEq, false_and, exists_false, or_false, false_or, exists_const, and_assoc, exists_and_left, List.append_nil, ix0, ix1, ix2, cm_mod, cdw1009, cdw2003, cdw7, cdw64, cdw2, cm104729, cm2, cm3, upd_same, List.length_cons, List.length_nil, Int.reduceLT, Int.reduceLE, Nat.reduceAdd, Nat.reduceLeDiff, Nat.reduceLT, Int.reduceToNat, r_for1, r_forL, r_forT, r_lcL, r_lc1, r_yes, r_gtupD, wipe_0, wipe_1, List.cons_append, List.nil_append, r_forS, r_ipI, ite_false, ite_true, Bool.not_true, Bool.not_false, decide_true, decide_false, r_isd, r_islt, cD_ty, cD_ref, tD_non, tD_bl, tD_int, tD_str, tD_ref, tH_lst, tH_tup, tH_dK, tH_ins, ki_self, ki_int_bool, ki_non_int, ki_str_int, ki_lt_lst, ki_lt_tup, r_fld, r_sfld, HO.ins.injEq, cx_K]
      exact k F H1 hF s1 r1
end
end C49

set_option maxHeartbeats 1000000
namespace C49
open PySem PySem.Spec PyProof.Rows L2
/-! ### signed numbers -/
theorem bor64 (x : Int) : Builtin.bitOr (x % 64) 64 = x % 64 + 64 := Bits.bitOr_join (a := x % 64) (b := 1) (k := 6) (by omega) (by omega) (by decide)
theorem shr6 (x : Int) : x / 2 ^ (Int.toNat 6) = x / 64 := rfl
def zig (n : Int) : Nat := if 0 ≤ n then (2 * n).toNat else (1 - 2 * n).toNat
def litM (m : Nat) : List Nat := if h : m < 64 then [m] else (m % 64 + 64) :: litM (m / 64)
termination_by m
decreasing_by omega
theorem litM_lt {m : Nat} (h : m < 64) : litM m = [m] := by
  rw [litM]
  exact dif_pos h
theorem litM_ge {m : Nat} (h : ¬ m < 64) : litM m = (m % 64 + 64) :: litM (m / 64) := by
  rw [litM]
  exact dif_neg h
theorem litM_low : ∀ m : Nat, ∃ ds d, low m = ds ++ [d] ∧ up ds ++ [d] = litM m ∧ ds.length ≤ (rest m).length := by
  intro m
  induction m using Nat.strongRecOn with
  | _ m ih =>
    by_cases c : m < 64
    · exact ⟨[], m % 64, by unfold low; rw [rest_lt c]; rfl, by rw [litM_lt c, Nat.mod_eq_of_lt c]; rfl, Nat.zero_le _⟩
    · obtain ⟨ds, d, e1, e2, e3⟩ := ih (m / 64) (by omega)
      refine ⟨m % 64 :: ds, d, ?_, ?_, ?_⟩
      · unfold low
        rw [rest_ge c, e1]
        rfl
      · rw [litM_ge c, ← e2]
        rfl
      · rw [rest_ge c, e1]
        simp
theorem litM_len {m : Nat} (h : m < 2 ^ 62) : (litM m).length ≤ 12 := by
  obtain ⟨ds, d, _, e2, e3⟩ := litM_low m
  have := rest_len 10 m (Nat.lt_of_lt_of_le h (by decide))
  rw [← e2, List.length_append]
  unfold up
  rw [List.length_map, List.length_singleton]
  omega
theorem zig_pos {n : Int} (h : 0 ≤ n) : 2 * n = ((zig n : Nat) : Int) := by
  unfold zig
  rw [if_pos h]
  omega
theorem zig_neg {n : Int} (h : ¬ 0 ≤ n) : 1 - 2 * n = ((zig n : Nat) : Int) := by
  unfold zig
  rw [if_neg h]
  omega
theorem zig_lt {n : Int} (h1 : -(2 ^ 60) < n) (h2 : n < 2 ^ 60) : zig n < 2 ^ 62 := by
  unfold zig
  split <;> omega
def spSigned : Sp := fun vs H Q _ => ∃ n : Int, vs = [.int n] ∧ -(2 ^ 60) < n ∧ n < 2 ^ 60 ∧ ∀ p H', H p = none → Same H H' → H' p = some (.lst (vn (litM (zig n)))) → Q (.ref p) H'
def entryL (u : Nat) : Option Int → List Nat
  | none => [248 + u - 1]
  | some n => (232 + u - 1) :: litM (zig n)
def spEntry : Sp := fun vs H Q _ => ∃ (u : Nat) (more : Option Int), vs = [.int (u : Int), lnV more] ∧ 1 ≤ u ∧ u ≤ 8 ∧ (∀ n, more = some n → -(2 ^ 60) < n ∧ n < 2 ^ 60) ∧ ∀ p H', H p = none → Same H H' → H' p = some (.lst (vn (entryL u more))) → Q (.ref p) H'
def lvSigned (H : Hp) (p : Addr) (m0 : Nat) (n : Int) (σ : L2.St) (H' : Hp) : Prop := ∃ (m : Nat) (ds : List Nat), σ = [some (.int n), some (.int (m : Int)), some (.ref p)] ∧ Same H H' ∧ H' p = some (.lst (vn ds)) ∧ ds ++ litM m = litM m0
def msSigned (σ : L2.St) : Nat := match σ with
  | _ :: some (.int a) :: _ => a.toNat
  | _ => 0
section
variable {P : Program} {w : World} {K : PySem.W.Frag} {mg : Str → Option Value} {base : Heap} {f : Addr} {fd : FuncData}
abbrev sentry : Stmt := top 43
theorem scentry : FnScope ["_law_units", "_law_more", "_law_number"] ["_law_units", "_law_more"] (defScope sentry) := ⟨rfl, rfl, rfl, by decide +kernel, rfl, by decide +kernel, by decide +kernel⟩

theorem ok_entry (T : Txt mg) (F : FnP K "_law_entry" "_law_entry" sentry f fd) (C_pieces : Cal P w K mg base 1 "_law_pieces" ["_law_number"] spPieces) (C_marked : Cal P w K mg base 1 "_law_marked" ["_law_some"] spMarked) : FnOk P w K mg base CX0 2 f fd ["_law_units", "_law_more"] spEntry := by
  refine F.ok scentry (fun vs H Q E h => ?_) (fun cdv A outer s H vs Q E hr h => ?_)
  · obtain ⟨u, more, rfl, _⟩ := h
    rfl
  · obtain ⟨u, more, rfl, h1, h8, hm, k⟩ := h
    refine ⟨_, PSs.nox (pss_cons (ps_if (pt_cmpR op_isN (pv 1) pe_non (nomark _))
    (pss_one (ps_ret (pe_lst (pa_cons (pe_op op_sub (pe_op op_add pe_int (pv 0)) pe_int) pa_nil))))
    pss_nil)
  (pss_cons (ps_set (i := 2) scentry.nd rfl (Or.inl rfl) (pe_ifExp (pt_cmpR op_ge (pv 1) pe_int (nomark _)) (pe_op op_mul pe_int (pv 1)) (pe_op op_sub pe_int (pe_op op_mul pe_int (pv 1)))))
  (pss_one (ps_ret (pe_op op_cat (pe_lst (pa_cons (pe_op op_sub (pe_op op_add pe_int (pv 0)) pe_int) pa_nil)) (pe_cal C_marked (hr.mono (by decide)) rfl (pa_cons (pe_cal C_pieces (hr.mono (by decide)) rfl (pa_cons (pv 2) pa_nil)) pa_nil))))))), ?_⟩
    show (_ : TS) _ [some (.int (u : Int)), some (lnV more), none] H
    have e1 : (248 : Int) + (u : Int) - 1 = ((248 + u - 1 : Nat) : Int) := by omega
    have e2 : (232 : Int) + (u : Int) - 1 = ((232 + u - 1 : Nat) : Int) := by omega
    cases more with
    | none =>
      simp only [r_seq, r_next, r_brk, r_cont, r_asg, r_name, r_ret, r_retN, r_drop, r_ifs, r_never, r_var, r_c, r_op, r_un, r_if, r_tst, r_b, r_not, r_and, r_or, r_andV, r_orV, r_notV, r_nil, r_cons, r_tup, r_lst, r_cb, r_call, r_bm, r_bm0, r_sl, r_nopart, r_part, r_rev, r_gnil, r_gcons, r_gsub, r_par, r_aug, r_chain, r_I0, r_I, r_U, r_ixd, r_lend, r_tupd, r_listd, r_sld, r_app, r_ext, r_reverse, r_setl, r_cat, r_int1, r_eqS, r_neS, scal_ii, scal_bb, scal_ss, at0, at1, at2, sq_lst, sq_tup, isLst_lst, List.getElem?_cons_zero, List.getElem?_cons_succ, List.set_cons_zero, List.set_cons_succ, V.int.injEq, V.bl.injEq, V.ref.injEq, V.str.injEq, HO.lst.injEq, HO.tup.injEq, Option.some.injEq, exists_eq_left', exists_eq_left, List.cons.injEq, and_true, true_and, decide_eq_true_eq, reduceCtorEq, false_and, exists_false, or_false, false_or, exists_const, and_assoc, exists_and_left, List.append_nil, ix0, ix1, ix2, cm_mod, cdw1009, cdw2003, cdw7, cdw64, cdw2, cm104729, cm2, cm3, upd_same, List.length_cons, List.length_nil, Int.reduceLT, Int.reduceLE, Nat.reduceAdd, Nat.reduceLeDiff, Nat.reduceLT, Int.reduceToNat, r_for1, r_forL, r_forT, r_lcL, r_lc1, r_yes, r_gtupD, wipe_0, wipe_1, List.cons_append, List.nil_append, r_forS, r_ipI, ite_false, ite_true, Bool.not_true, Bool.not_false, decide_true, decide_false, r_isd, r_islt, cD_ty, cD_ref, tD_non, tD_bl, tD_int, tD_str, tD_ref, tH_lst, tH_tup, tH_dK, tH_ins, ki_self, ki_int_bool, ki_non_int, ki_str_int, ki_lt_lst, ki_lt_tup, r_fld, r_sfld, HO.ins.injEq, cx_K, lnV, e1]
      exact ⟨szl (by decide), fun p hp => k p _ hp (Same.new' (Same.refl H) hp) upd_same⟩
    | some n =>
      obtain ⟨n1, n2⟩ := hm n rfl
      simp only [r_seq, r_next, r_brk, r_cont, r_asg, r_name, r_ret, r_retN, r_drop, r_ifs, r_never, r_var, r_c, r_op, r_un, r_if, r_tst, r_b, r_not, r_and, r_or, r_andV, r_orV, r_notV, r_nil, r_cons, r_tup, r_lst, r_cb, r_call, r_bm, r_bm0, r_sl, r_nopart, r_part, r_rev, r_gnil, r_gcons, r_gsub, r_par, r_aug, r_chain, r_I0, r_I, r_U, r_ixd, r_lend, r_tupd, r_listd, r_sld, r_app, r_ext, r_reverse, r_setl, r_cat, r_int1, r_eqS, r_neS, scal_ii, scal_bb, scal_ss, at0, at1, at2, sq_lst, sq_tup, isLst_lst, List.getElem?_cons_zero, List.getElem?_cons_succ, List.set_cons_zero, List.set_cons_succ, V.int.injEq, V.bl.injEq, V.ref.injEq, V.str.injEq, HO.lst.injEq, HO.tup.injEq, Option.some.injEq, exists_eq_left', exists_eq_left, List.cons.injEq, and_true, true_and, decide_eq_true_eq, reduceCtorEq, false_and, exists_false, or_false, false_or, exists_const, and_assoc, exists_and_left, List.append_nil, ix0, ix1, ix2, cm_mod, cdw1009, cdw2003, cdw7, cdw64, cdw2, cm104729, cm2, cm3, upd_same, List.length_cons, List.length_nil, Int.reduceLT, Int.reduceLE, Nat.reduceAdd, Nat.reduceLeDiff, Nat.reduceLT, Int.reduceToNat, r_for1, r_forL, r_forT, r_lcL, r_lc1, r_yes, r_gtupD, wipe_0, wipe_1, List.cons_append, List.nil_append, r_forS, r_ipI, ite_false, ite_true, Bool.not_true, Bool.not_false, decide_true, decide_false, r_isd, r_islt, cD_ty, cD_ref, tD_non, tD_bl, tD_int, tD_str, tD_ref, tH_lst, tH_tup, tH_dK, tH_ins, ki_self, ki_int_bool, ki_non_int, ki_str_int, ki_lt_lst, ki_lt_tup, r_fld, r_sfld, HO.ins.injEq, cx_K, lnV, e2]
      have fin : ∀ (p : Addr), H p = none → spPieces [V.int ((zig n : Nat) : Int)] (L2.upd H p (.lst [V.int ((232 + u - 1 : Nat) : Int)])) (fun x H1 => spMarked [x] H1 (fun y H2 => ∃ x, y = V.ref x ∧ ∃ x_1, H2 p = some (HO.lst x_1) ∧ ∃ x_2, H2 x = some (HO.lst x_2) ∧ x_1.length + x_2.length ≤ sizeLine ∧ ∀ (p : Addr), H2 p = none → Q (V.ref p) (L2.upd H2 p (HO.lst (x_1 ++ x_2)))) E0) E0 := by
        intro p hp
        have zl := zig_lt n1 n2
        obtain ⟨ds, d, q1, q2, q3⟩ := litM_low (zig n)
        have r1 := rest_len 10 (zig n) (Nat.lt_of_lt_of_le zl (by decide))
        have ll := litM_len zl
        refine ⟨zig n, rfl, Nat.lt_trans zl (by decide), fun p1 H1 hp1 s1 h1' => ⟨p1, ds, d, rfl, by rw [← q1]; exact h1', by omega, fun p2 H2 hp2 s2 h2 => ⟨p2, rfl, _, s2 _ _ (s1 _ _ upd_same), _, h2, szl (by rw [q2, vn_len, List.length_singleton]; omega), fun p3 hp3 => ?_⟩⟩⟩
        have sA : Same H H2 := fun b o e => s2 b o (s1 b o (by rw [upd_ne (ne_new e hp)]; exact e))
        refine k p3 _ ?_ (Same.new' sA hp3) (by rw [upd_same, q2]; rfl)
        cases e : H p3 with
        | none => rfl
        | some o =>
          have := sA _ _ e
          rw [hp3] at this
          cases this
      split
      · rename_i c
        rw [zig_pos c]
        exact ⟨szl (by decide), fin⟩
      · rename_i c
        rw [zig_neg c]
        exact ⟨szl (by decide), fin⟩
end
end C49

set_option maxHeartbeats 1000000
namespace C49
open PySem PySem.Spec PyProof.Rows L2
/-! ### a star in a list display; a list times a number -/
def tStarD (te : TE) (t : TA) : TA := fun σ H Q => te σ H fun x H1 => ∃ p xs, x = .ref p ∧ sq (H1 p) = some xs ∧ t σ H1 fun ys H2 => Q (xs ++ ys) H2
section
variable {X : Cx}
theorem PA.weak {es : List Expr} {t t' : TA} (h : PA X es t) (i : ∀ σ H Q, t' σ H Q → t σ H Q) : PA X es t' := ⟨fun pos pins s σ H Q I q => h.run pos pins s σ H Q I (i _ _ _ q)⟩
theorem pa_starD {e : Expr} {es : List Expr} {te : TE} {t : TA} {p : Pos} (he : PE X e te) (hr : PA X es t) (hs : starEach (.Starred e p :: es) X.env = (true, eval e X.env) :: starEach es X.env := by rfl) : PA X (.Starred e p :: es) (tStarD te t) :=
  PA.weak (StX.pa_star (PE.mcl he) hr hs) fun σ H Q q => ⟨_, q, fun v H' ⟨a, xs, e1, h, k⟩ => ⟨a, xs, e1, (by
    rcases sq_cases h with h | h
    · exact .inr (SqL.of h)
    · exact .inl (SqT.of h)), k⟩⟩
theorem r_starD {te : TE} {t : TA} {σ : L2.St} {H : Hp} {QA : List V → Hp → Prop} : tStarD te t σ H QA = te σ H (fun x H1 => ∃ p xs, x = .ref p ∧ sq (H1 p) = some xs ∧ t σ H1 fun ys H2 => QA (xs ++ ys) H2) := rfl
theorem r_rep {x y : V} {H : Hp} {Q : VK} : rRep x y H Q = ∃ l k xs, x = .ref l ∧ y = .int k ∧ H l = some (.lst xs) ∧ -(2 ^ 63) ≤ k ∧ k < 2 ^ 63 ∧ xs.length * k.toNat ≤ sizeLine ∧ ∀ p, H p = none → Q (.ref p) (upd H p (.lst (List.replicate k.toNat xs).flatten)) := rfl
end

/-! ### the bytes of rows -/
/-- c units of line l, cur being the line told last -/
def lineB (c : Nat) (l : Option Int) (cur : Int) : List Nat := if h : c = 0 then [] else entryL (min c 8) (l.map (· - cur)) ++ lineB (c - min c 8) l (l.getD cur)
termination_by c
decreasing_by omega
theorem lineB_0 (l : Option Int) (cur : Int) : lineB 0 l cur = [] := by
  rw [lineB]
  rfl
theorem lineB_pos {c : Nat} (h : c ≠ 0) (l : Option Int) (cur : Int) : lineB c l cur = entryL (min c 8) (l.map (· - cur)) ++ lineB (c - min c 8) l (l.getD cur) := by
  rw [lineB]
  exact dif_neg h
def units (R : LR) : Nat := (R.hi - R.lo) / 2
def bytesL : List LR → Int → List Nat
  | [], _ => []
  | R :: Rs, cur => lineB (units R) R.ln cur ++ bytesL Rs (R.ln.getD cur)
/-- the line told last behind these rows -/
def curL (Rs : List LR) (cur : Int) : Int := Rs.foldl (fun c R => R.ln.getD c) cur
theorem bytesL_snoc : ∀ (Rs : List LR) (R : LR) (cur : Int), bytesL (Rs ++ [R]) cur = bytesL Rs cur ++ lineB (units R) R.ln (curL Rs cur)
  | [], R, cur => by simp [bytesL, curL]
  | Q :: Rs, R, cur => by
    show lineB (units Q) Q.ln cur ++ bytesL (Rs ++ [R]) (Q.ln.getD cur) = _
    rw [bytesL_snoc Rs R]
    simp [bytesL, curL]
theorem bytesL_app : ∀ (Rs Qs : List LR) (cur : Int), bytesL (Rs ++ Qs) cur = bytesL Rs cur ++ bytesL Qs (curL Rs cur)
  | [], Qs, cur => by simp [bytesL, curL]
  | R :: Rs, Qs, cur => by
    show lineB (units R) R.ln cur ++ bytesL (Rs ++ Qs) (R.ln.getD cur) = _
    rw [bytesL_app Rs Qs]
    simp [bytesL, curL]
theorem curL_snoc (Rs : List LR) (R : LR) (cur : Int) : curL (Rs ++ [R]) cur = R.ln.getD (curL Rs cur) := by
  unfold curL
  rw [List.foldl_append]
  rfl
def LOk (R : LR) : Prop := R.lo + 2 ≤ R.hi ∧ R.hi < 2 ^ 60 ∧ ∀ i, R.ln = some i → -(2 ^ 50) < i ∧ i < 2 ^ 50
theorem curL_ok {cur : Int} (h : -(2 ^ 50) < cur ∧ cur < 2 ^ 50) : ∀ {Rs : List LR}, (∀ R ∈ Rs, LOk R) → -(2 ^ 50) < curL Rs cur ∧ curL Rs cur < 2 ^ 50 := by
  intro Rs
  unfold curL
  induction Rs generalizing cur with
  | nil => exact fun _ => h
  | cons R Rs ih =>
    intro ok
    refine ih ?_ fun Q hq => ok Q (List.mem_cons_of_mem _ hq)
    show -(2 ^ 50) < R.ln.getD cur ∧ R.ln.getD cur < 2 ^ 50
    cases e : R.ln with
    | none => exact h
    | some i => exact (ok R List.mem_cons_self).2.2 i e
theorem lineB_none (cur : Int) : ∀ w u : Nat, 1 ≤ u → (u - 1) / 8 = w → lineB u none cur = (List.replicate w [255]).flatten ++ [248 + (u - 8 * w - 1)]
  | 0, u, h1, hw => by
    have h8 : u ≤ 8 := by omega
    rw [lineB_pos (by omega), Nat.min_eq_left h8, Nat.sub_self, lineB_0]
    show [248 + u - 1] ++ [] = _
    rw [show 248 + u - 1 = 248 + (u - 8 * 0 - 1) from by omega]
    rfl
  | w + 1, u, h1, hw => by
    have h8 : 8 < u := by omega
    rw [lineB_pos (by omega), Nat.min_eq_right (by omega)]
    show [248 + 8 - 1] ++ lineB (u - 8) none cur = _
    rw [lineB_none cur w (u - 8) (by omega) (by omega), List.replicate_succ, show u - 8 - 8 * w - 1 = u - 8 * (w + 1) - 1 from by omega]
    rfl
theorem lineB_same (l : Int) : ∀ w u : Nat, 1 ≤ u → (u - 1) / 8 = w → lineB u (some l) l = (List.replicate w [239, 0]).flatten ++ [232 + (u - 8 * w - 1), 0]
  | 0, u, h1, hw => by
    have h8 : u ≤ 8 := by omega
    rw [lineB_pos (by omega), Nat.min_eq_left h8, Nat.sub_self, lineB_0]
    show (232 + u - 1) :: litM (zig (l - l)) ++ [] = _
    rw [show 232 + u - 1 = 232 + (u - 8 * 0 - 1) from by omega, Int.sub_self, show zig 0 = 0 from rfl, litM_lt (by decide)]
    rfl
  | w + 1, u, h1, hw => by
    have h8 : 8 < u := by omega
    rw [lineB_pos (by omega), Nat.min_eq_right (by omega)]
    show ((232 + 8 - 1) :: litM (zig (l - l))) ++ lineB (u - 8) (some l) l = _
    rw [lineB_same l w (u - 8) (by omega) (by omega), List.replicate_succ, show u - 8 - 8 * w - 1 = u - 8 * (w + 1) - 1 from by omega, Int.sub_self, show zig 0 = 0 from rfl, litM_lt (by decide)]
    rfl
theorem lineB_one (l cur : Int) {u : Nat} (h1 : 1 ≤ u) (h8 : u ≤ 8) : lineB u (some l) cur = (232 + (u - 1)) :: litM (zig (l - cur)) := by
  rw [lineB_pos (by omega), Nat.min_eq_left h8, Nat.sub_self, lineB_0, List.append_nil, show 232 + (u - 1) = 232 + u - 1 from by omega]
  rfl
theorem lineB_more (l cur : Int) {u : Nat} (h8 : 8 < u) : lineB u (some l) cur = 239 :: (litM (zig (l - cur)) ++ lineB (u - 8) (some l) l) := by
  rw [lineB_pos (by omega), Nat.min_eq_right (by omega)]
  rfl
theorem vn_rep (w : Nat) (xs : List Nat) : (List.replicate w (vn xs)).flatten = vn (List.replicate w xs).flatten := by
  induction w with
  | zero => rfl
  | succ w ih => rw [List.replicate_succ, List.replicate_succ, List.flatten_cons, List.flatten_cons, vn_app, ih]
theorem rep_len (w : Nat) (xs : List Nat) : (List.replicate w xs).flatten.length = w * xs.length := by
  induction w with
  | zero => simp
  | succ w ih => rw [List.replicate_succ, List.flatten_cons, List.length_append, ih, Nat.succ_mul, Nat.add_comm]
def lvLB (H : Hp) (a F : Addr) (Js : List LR) (cur : Int) (i : Nat) (σ : L2.St) (H' : Hp) : Prop := ∃ v1 v2 v3 v4 v5 : Option V, σ = [some (.ref a), some (.int (curL (Js.take i) cur)), some (.ref F), v1, v2, v3, v4, v5] ∧ Keep F H H' ∧ H' F = some (.lst (vn (bytesL (Js.take i) cur)))
def spLLB : Sp := fun vs H Q _ => ∃ (a : Addr) (Rs : List LR) (cur : Int), vs = [.ref a, .int cur] ∧ LRows H a Rs ∧ Rs.length ≤ 100000 ∧ (∀ R ∈ joinL Rs, LOk R) ∧ -(2 ^ 50) < cur ∧ cur < 2 ^ 50 ∧ (bytesL (joinL Rs) cur).length ≤ 2000000 ∧
  ∀ p H', H p = none → Same H H' → H' p = some (.lst (vn (bytesL (joinL Rs) cur))) → Q (.ref p) H'
/-- behind k turns of the inner loop -/
def lvLK (H : Hp) (a F : Addr) (pre : List Nat) (R : LR) (cur : Int) (k : Nat) (σ : L2.St) (H' : Hp) : Prop := ∃ (cu : Int) (ds : List Nat) (v : Option V), σ = [some (.ref a), some (.int cu), some (.ref F), some (.int (R.lo : Int)), some (.int (R.hi : Int)), some (lnV R.ln), some (.int ((units R : Nat) : Int)), v] ∧
  Keep F H H' ∧ H' F = some (.lst (vn ds)) ∧ ds ++ lineB (units R - 8 * k) R.ln cu = pre ++ lineB (units R) R.ln cur ∧ (cu = cur ∨ R.ln = some cu) ∧ (0 < k → cu = R.ln.getD cur)
section
variable {P : Program} {w : World} {K : PySem.W.Frag} {mg : Str → Option Value} {base : Heap} {f : Addr} {fd : FuncData}
abbrev slline_bytes : Stmt := top 44
theorem sclline_bytes : FnScope ["_law_some", "_law_line", "_law_found", "_law_low", "_law_high", "_law_here", "_law_many", "_law_k"] ["_law_some", "_law_line"] (defScope slline_bytes) := ⟨rfl, rfl, rfl, by decide +kernel, rfl, by decide +kernel, by decide +kernel⟩

theorem ok_lline_bytes (T : Txt mg) (F : FnP K "_law_line_bytes" "_law_line_bytes" slline_bytes f fd) (C_joined : Cal P w K mg base 1 "_law_joined" ["_law_some"] spJoinedL) (C_entry : Cal P w K mg base 2 "_law_entry" ["_law_units", "_law_more"] spEntry) : FnOk P w K mg base CX0 3 f fd ["_law_some", "_law_line"] spLLB := by
  refine F.ok sclline_bytes (fun vs H Q E h => ?_) (fun cdv A outer s H vs Q E hr h => ?_)
  · obtain ⟨a, Rs, cur, rfl, _⟩ := h
    rfl
  · obtain ⟨a, Rs, cur, rfl, ha, hl, hok, c1, c2, hz, k⟩ := h
    refine ⟨_, PSs.nox (pss_cons (ps_set (i := 2) sclline_bytes.nd rfl (Or.inl rfl) (pe_lst pa_nil))
  (pss_cons (ps_for PassesOwn.never rfl (pi_list (pe_cal C_joined (hr.mono (by decide)) rfl (pa_cons (pv 0) pa_nil))) (pg_tupD (n := 3) rfl (pgs_cons (pg_name (i := 3) sclline_bytes.nd rfl (Or.inl rfl)) (pgs_cons (pg_name (i := 4) sclline_bytes.nd rfl (Or.inl rfl)) (pgs_cons (pg_name (i := 5) sclline_bytes.nd rfl (Or.inl rfl)) pgs_nil))))
    (pss_cons (ps_set (i := 6) sclline_bytes.nd rfl (Or.inl rfl) (pe_op op_fdivW (pe_op op_sub (pv 4) (pv 3)) pe_int))
  (pss_one (ps_for PassesOwn.never rfl (pi_range1 rfl T.b_range (pa_cons (pe_op op_fdivW (pe_op op_add (pv 6) pe_int) pe_int) pa_nil)) (pg_name (i := 7) sclline_bytes.nd rfl (Or.inl rfl))
    (pss_cons (ps_expr (pe_bm PySem.F.plainAttrs_list PySem.F.slot_list_extend PySem.F.type_list_extend mt_extend (pv 2) (pa_cons (pe_cal C_entry (hr.mono (by decide)) rfl (pa_cons (pe_callB (call_min2 rfl) (by rfl) T.b_min (by decide +kernel) (pa_cons pe_int (pa_cons (pe_op op_sub (pv 6) (pe_op op_mul pe_int (pv 7))) pa_nil))) (pa_cons (pe_ifExp (pt_cmpR op_isN (pv 5) pe_non (nomark _)) pe_non (pe_op op_sub (pv 5) (pv 1))) pa_nil))) pa_nil)))
  (pss_one (ps_set (i := 1) sclline_bytes.nd rfl (Or.inl rfl) (pe_ifExp (pt_cmpR op_isN (pv 5) pe_non (nomark _)) (pv 1) (pv 5)))))))))
  (pss_one (ps_ret (pv 2))))), ?_⟩
    show (_ : TS) _ [some (.ref a), some (.int cur), none, none, none, none, none, none] H
    simp only [r_seq, r_next, r_brk, r_cont, r_asg, r_name, r_ret, r_retN, r_drop, r_ifs, r_never, r_var, r_c, r_op, r_un, r_if, r_tst, r_b, r_not, r_and, r_or, r_andV, r_orV, r_notV, r_nil, r_cons, r_tup, r_lst, r_cb, r_call, r_bm, r_bm0, r_sl, r_nopart, r_part, r_rev, r_gnil, r_gcons, r_gsub, r_par, r_aug, r_chain, r_I0, r_I, r_U, r_ixd, r_lend, r_tupd, r_listd, r_sld, r_app, r_ext, r_reverse, r_setl, r_cat, r_int1, r_eqS, r_neS, scal_ii, scal_bb, scal_ss, at0, at1, at2, sq_lst, sq_tup, isLst_lst, List.getElem?_cons_zero, List.getElem?_cons_succ, List.set_cons_zero, List.set_cons_succ, V.int.injEq, V.bl.injEq, V.ref.injEq, V.str.injEq, HO.lst.injEq, HO.tup.injEq, Option.some.injEq, exists_eq_left', exists_eq_left, List.cons.injEq, and_true, true_and, decide_eq_true_eq, reduceCtorEq, false_and, exists_false, or_false, false_or, exists_const, and_assoc, exists_and_left, List.append_nil, ix0, ix1, ix2, cm_mod, cdw1009, cdw2003, cdw7, cdw64, cdw2, cm104729, cm2, cm3, upd_same, List.length_cons, List.length_nil, Int.reduceLT, Int.reduceLE, Nat.reduceAdd, Nat.reduceLeDiff, Nat.reduceLT, Int.reduceToNat, r_for1, r_forL, r_forT, r_lcL, r_lc1, r_yes, r_gtupD, wipe_0, wipe_1, List.cons_append, List.nil_append, r_forS, r_ipI, ite_false, ite_true, Bool.not_true, Bool.not_false, decide_true, decide_false, r_isd, r_islt, cD_ty, cD_ref, tD_non, tD_bl, tD_int, tD_str, tD_ref, tH_lst, tH_tup, tH_dK, tH_ins, ki_self, ki_int_bool, ki_non_int, ki_str_int, ki_lt_lst, ki_lt_tup, r_fld, r_sfld, HO.ins.injEq, cx_K]
    refine ⟨szl (by decide), fun F hF => ⟨a, Rs, rfl, ?_, hl, fun J H1 hJ s1 r1 => ?_⟩⟩
    · obtain ⟨refs, e, p⟩ := ha
      have aF : a ≠ F := fun z => by
        rw [z, hF] at e
        cases e
      exact ⟨refs, by rw [upd_ne aF]; exact e, Paired.map' p fun x y h => by rw [upd_ne (ne_new h hF)]; exact h⟩
    have hF1 : H1 F = some (.lst []) := s1 _ _ upd_same
    have sH : ∀ {H' : Hp}, Keep F H1 H' → Same H H' := fun kk b o e => kk b o (ne_new e hF) (s1 b o (by rw [upd_ne (ne_new e hF)]; exact e))
    obtain ⟨refs, eJ, pJ⟩ := r1
    have lr := Paired.length pJ
    have JF : J ≠ F := fun z => by
      subst z
      rw [upd_same] at hJ
      cases hJ
    refine ⟨J, rfl, ⟨_, SqL.of eJ⟩, lp_list (xs := refs.map V.ref) (lvLB H1 a F (joinL Rs) cur) ⟨_, _, _, _, _, rfl, Keep.refl F H1, hF1⟩ (fun i σ H' _ ⟨_, _, _, _, _, _, kk, _⟩ => SqL.of (kk _ _ JF eJ)) ?_ ?_⟩
    · rintro i x σ H2 hx ⟨v1, v2, v3, v4, v5, rfl, kk, h2⟩
      have hir : i < refs.length := by
        have := (List.getElem?_eq_some_iff.mp hx).1
        rwa [List.length_map] at this
      have hiR : i < (joinL Rs).length := by rw [← lr]; exact hir
      obtain rfl : x = .ref refs[i] := by
        rw [List.getElem?_map, List.getElem?_eq_getElem hir] at hx
        exact (Option.some.inj hx).symm
      have h0 := Paired.at' pJ hir hiR
      have rF : refs[i] ≠ F := fun z => by rw [z, hF1] at h0; cases h0
      have hrow := kk _ _ rF h0
      have ok := hok _ (List.getElem_mem hiR)
      have cok := curL_ok ⟨c1, c2⟩ (Rs := (joinL Rs).take i) fun Q hq => hok Q (List.mem_of_mem_take hq)
      have eb : bytesL ((joinL Rs).take (i + 1)) cur = bytesL ((joinL Rs).take i) cur ++ lineB (units (joinL Rs)[i]) (joinL Rs)[i].ln (curL ((joinL Rs).take i) cur) := by rw [← List.take_append_getElem hiR, bytesL_snoc]
      have ec : curL ((joinL Rs).take (i + 1)) cur = (joinL Rs)[i].ln.getD (curL ((joinL Rs).take i) cur) := by rw [← List.take_append_getElem hiR, curL_snoc]
      have lz : (bytesL ((joinL Rs).take (i + 1)) cur).length ≤ 2000000 := by
        have e := bytesL_app ((joinL Rs).take (i + 1)) ((joinL Rs).drop (i + 1)) cur
        rw [List.take_append_drop] at e
        rw [e, List.length_append] at hz
        omega
      obtain ⟨R, hRe⟩ : ∃ R, R = (joinL Rs)[i] := ⟨_, rfl⟩
      rw [← hRe] at hrow ok eb ec
      obtain ⟨o1, o2, o3⟩ := id ok
      have hu : ((R.hi : Int) - (R.lo : Int)) / 2 = ((units R : Nat) : Int) := by unfold units; omega
      have hu1 : 1 ≤ units R := by unfold units; omega
      rw [eb] at lz
      generalize bytesL ((joinL Rs).take i) cur = pre at *
      generalize curL ((joinL Rs).take i) cur = cu0 at *
      simp only [r_seq, r_next, r_brk, r_cont, r_asg, r_name, r_ret, r_retN, r_drop, r_ifs, r_never, r_var, r_c, r_op, r_un, r_if, r_tst, r_b, r_not, r_and, r_or, r_andV, r_orV, r_notV, r_nil, r_cons, r_tup, r_lst, r_cb, r_call, r_bm, r_bm0, r_sl, r_nopart, r_part, r_rev, r_gnil, r_gcons, r_gsub, r_par, r_aug, r_chain, r_I0, r_I, r_U, r_ixd, r_lend, r_tupd, r_listd, r_sld, r_app, r_ext, r_reverse, r_setl, r_cat, r_int1, r_eqS, r_neS, scal_ii, scal_bb, scal_ss, at0, at1, at2, sq_lst, sq_tup, isLst_lst, List.getElem?_cons_zero, List.getElem?_cons_succ, List.set_cons_zero, List.set_cons_succ, V.int.injEq, V.bl.injEq, V.ref.injEq, V.str.injEq, HO.lst.injEq, HO.tup.injEq, Option.some.injEq, exists_eq_left', exists_eq_left, List.cons.injEq, and_true, true_and, decide_eq_true_eq, reduceCtorEq, false_and, exists_false, or_false, false_or, exists_const, and_assoc, exists_and_left, List.append_nil, ix0, ix1, ix2, cm_mod, cdw1009, cdw2003, cdw7, cdw64, cdw2, cm104729, cm2, cm3, upd_same, List.length_cons, List.length_nil, Int.reduceLT, Int.reduceLE, Nat.reduceAdd, Nat.reduceLeDiff, Nat.reduceLT, Int.reduceToNat, r_for1, r_forL, r_forT, r_lcL, r_lc1, r_yes, r_gtupD, wipe_0, wipe_1, List.cons_append, List.nil_append, r_forS, r_ipI, ite_false, ite_true, Bool.not_true, Bool.not_false, decide_true, decide_false, r_isd, r_islt, cD_ty, cD_ref, tD_non, tD_bl, tD_int, tD_str, tD_ref, tH_lst, tH_tup, tH_dK, tH_ins, ki_self, ki_int_bool, ki_non_int, ki_str_int, ki_lt_lst, ki_lt_tup, r_fld, r_sfld, HO.ins.injEq, cx_K, hrow, lv, hu]
      have hn : (((units R : Nat) : Int) + 7) / 8 = (((units R + 7) / 8 : Nat) : Int) := by omega
      have hub : units R < 2 ^ 60 := by unfold units; omega
      rw [hn, Int.toNat_natCast]
      refine ⟨of_eq_true (cdw (by decide)), by omega, by omega, lp_rng (n := (units R + 7) / 8) (lvLK H1 a F pre R cu0) ⟨cu0, pre, _, rfl, kk, h2, rfl, .inl rfl, fun z => absurd z (Nat.lt_irrefl 0)⟩ ?_ ?_⟩
      · rintro t σ H3 ht ⟨cu, ds, v, rfl, k3, h3, e3, b3, z3⟩
        obtain ⟨c, hc⟩ : ∃ c, c = units R - 8 * t := ⟨_, rfl⟩
        have c0 : c ≠ 0 := by omega
        have hcI : ((units R : Nat) : Int) - 8 * (t : Int) = (c : Int) := by omega
        have hm : (if (c : Int) < (8 : Int) then (c : Int) else (8 : Int)) = ((min c 8 : Nat) : Int) := by split <;> omega
        have hc2 : units R - 8 * (t + 1) = c - min c 8 := by omega
        have c8 : CMul 8 (t : Int) := .inl (by decide)
        rw [← hc] at e3
        have ldz : ds.length ≤ 2000000 := by
          rw [← e3, List.length_append] at lz
          omega
        simp only [r_seq, r_next, r_brk, r_cont, r_asg, r_name, r_ret, r_retN, r_drop, r_ifs, r_never, r_var, r_c, r_op, r_un, r_if, r_tst, r_b, r_not, r_and, r_or, r_andV, r_orV, r_notV, r_nil, r_cons, r_tup, r_lst, r_cb, r_call, r_bm, r_bm0, r_sl, r_nopart, r_part, r_rev, r_gnil, r_gcons, r_gsub, r_par, r_aug, r_chain, r_I0, r_I, r_U, r_ixd, r_lend, r_tupd, r_listd, r_sld, r_app, r_ext, r_reverse, r_setl, r_cat, r_int1, r_eqS, r_neS, scal_ii, scal_bb, scal_ss, at0, at1, at2, sq_lst, sq_tup, isLst_lst, List.getElem?_cons_zero, List.getElem?_cons_succ, List.set_cons_zero, List.set_cons_succ, V.int.injEq, V.bl.injEq, V.ref.injEq, V.str.injEq, HO.lst.injEq, HO.tup.injEq, Option.some.injEq, exists_eq_left', exists_eq_left, List.cons.injEq, and_true, true_and, decide_eq_true_eq, reduceCtorEq, false_and, exists_false, or_false, false_or, exists_const, and_assoc, exists_and_left, List.append_nil, ix0, ix1, ix2, cm_mod, cdw1009, cdw2003, cdw7, cdw64, cdw2, cm104729, cm2, cm3, upd_same, List.length_cons, List.length_nil, Int.reduceLT, Int.reduceLE, Nat.reduceAdd, Nat.reduceLeDiff, Nat.reduceLT, Int.reduceToNat, r_for1, r_forL, r_forT, r_lcL, r_lc1, r_yes, r_gtupD, wipe_0, wipe_1, List.cons_append, List.nil_append, r_forS, r_ipI, ite_false, ite_true, Bool.not_true, Bool.not_false, decide_true, decide_false, r_isd, r_islt, cD_ty, cD_ref, tD_non, tD_bl, tD_int, tD_str, tD_ref, tH_lst, tH_tup, tH_dK, tH_ins, ki_self, ki_int_bool, ki_non_int, ki_str_int, ki_lt_lst, ki_lt_tup, r_fld, r_sfld, HO.ins.injEq, cx_K, hcI, hm, c8]
        refine ⟨tyl h3, ?_⟩
        have e4 : ∀ {l : Option Int}, R.ln = l → (ds ++ entryL (min c 8) (l.map (· - cu))) ++ lineB (units R - 8 * (t + 1)) l (l.getD cu) = pre ++ lineB (units R) l cu0 := by
          rintro l rfl
          rw [hc2, ← e3, lineB_pos c0 R.ln cu, List.append_assoc]
        cases e : R.ln with
        | none =>
          have e5 := e4 e
          rw [e] at b3
          rw [if_pos (show lnV none = V.non from rfl)]
          refine ⟨min c 8, none, rfl, by omega, by omega, (fun n z => by cases z), fun p H4 hp s4 h4 => ⟨p, rfl, _, s4 F _ h3, _, h4, Nat.le_trans (by rw [vn_len, vn_len]; show ds.length + 1 ≤ 2000001; omega) (by decide : 2000001 ≤ sizeLine), ?_⟩⟩
          rw [if_pos (show lnV none = V.non from rfl)]
          unfold lvLK
          rw [e]
          exact ⟨cu, _, _, rfl, (k3.trans (Keep.same s4)).upd, by rw [upd_same, ← vn_app]; rfl, e5, b3, fun _ => b3.resolve_right fun z => by cases z⟩
        | some j =>
          have e5 := e4 e
          rw [e] at b3
          rw [if_neg (show ¬ lnV (some j) = V.non from fun z => by cases z)]
          have jb := o3 j e
          have cb : -(2 ^ 50) < cu ∧ cu < 2 ^ 50 := by
            rcases b3 with z | z
            · rw [z]
              exact cok
            · exact o3 cu (by rw [e, z])
          have d1 : -(2 ^ 60) < j - cu := by omega
          have d2 : j - cu < 2 ^ 60 := by omega
          have ll := litM_len (zig_lt d1 d2)
          refine ⟨j, rfl, min c 8, some (j - cu), rfl, by omega, by omega, (fun n z => by cases z; exact ⟨d1, d2⟩), fun p H4 hp s4 h4 => ⟨p, rfl, _, s4 F _ h3, _, h4, Nat.le_trans (by rw [vn_len, vn_len]; show ds.length + (litM (zig (j - cu))).length.succ ≤ 2000013; omega) (by decide : 2000013 ≤ sizeLine), ?_⟩⟩
          rw [if_neg (show ¬ lnV (some j) = V.non from fun z => by cases z)]
          unfold lvLK
          rw [e]
          exact ⟨j, _, _, rfl, (k3.trans (Keep.same s4)).upd, by rw [upd_same, ← vn_app]; rfl, e5, .inr rfl, fun _ => rfl⟩
      · rintro σ H3 ⟨cu, ds, v, rfl, k3, h3, e3, b3, z3⟩
        rw [show units R - 8 * ((units R + 7) / 8) = 0 from by omega, lineB_0, List.append_nil] at e3
        have ee : curL ((joinL Rs).take (i + 1)) cur = cu := by rw [ec, z3 (by omega)]
        show lvLB H1 a F (joinL Rs) cur (i + 1) _ H3
        unfold lvLB
        rw [ee, eb, ← e3]
        exact ⟨_, _, _, _, _, rfl, k3, h3⟩
    · rintro σ H2 ⟨v1, v2, v3, v4, v5, rfl, kk, h2⟩
      rw [List.length_map, lr, List.take_length] at h2
      simp only [r_seq, r_next, r_brk, r_cont, r_asg, r_name, r_ret, r_retN, r_drop, r_ifs, r_never, r_var, r_c, r_op, r_un, r_if, r_tst, r_b, r_not, r_and, r_or, r_andV, r_orV, r_notV, r_nil, r_cons, r_tup, r_lst, r_cb, r_call, r_bm, r_bm0, r_sl, r_nopart, r_part, r_rev, r_gnil, r_gcons, r_gsub, r_par, r_aug, r_chain, r_I0, r_I, r_U, r_ixd, r_lend, r_tupd, r_listd, r_sld, r_app, r_ext, r_reverse, r_setl, r_cat, r_int1, r_eqS, r_neS, scal_ii, scal_bb, scal_ss, at0, at1, at2, sq_lst, sq_tup, isLst_lst, List.getElem?_cons_zero, List.getElem?_cons_succ, List.set_cons_zero, List.set_cons_succ, V.int.injEq, V.bl.injEq, V.ref.injEq, V.str.injEq, HO.lst.injEq, HO.tup.injEq, Option.some.injEq, exists_eq_left', exists_eq_left, List.cons.injEq, and_true, true_and, decide_eq_true_eq, reduceCtorEq, false_and, exists_false, or_false, false_or, exists_const, and_assoc, exists_and_left, List.append_nil, ix0, ix1, ix2, cm_mod, cdw1009, cdw2003, cdw7, cdw64, cdw2, cm104729, cm2, cm3, upd_same, List.length_cons, List.length_nil, Int.reduceLT, Int.reduceLE, Nat.reduceAdd, Nat.reduceLeDiff, Nat.reduceLT, Int.reduceToNat, r_for1, r_forL, r_forT, r_lcL, r_lc1, r_yes, r_gtupD, wipe_0, wipe_1, List.cons_append, List.nil_append, r_forS, r_ipI, ite_false, ite_true, Bool.not_true, Bool.not_false, decide_true, decide_false, r_isd, r_islt, cD_ty, cD_ref, tD_non, tD_bl, tD_int, tD_str, tD_ref, tH_lst, tH_tup, tH_dK, tH_ins, ki_self, ki_int_bool, ki_non_int, ki_str_int, ki_lt_lst, ki_lt_tup, r_fld, r_sfld, HO.ins.injEq, cx_K]
      exact k F _ hF (sH kk) h2
end
end C49

set_option maxHeartbeats 1000000
namespace C49
open PySem PySem.Spec PyProof.Rows L2
/-! ### rows of a table of handlers -/
structure Row where
  b : Nat
  s : Nat
  t : Nat
  d : Nat
  w : Bool
def rv (R : Row) : List V := [.int ((2 * R.b : Nat) : Int), .int ((2 * (R.b + R.s) : Nat) : Int), .int ((2 * R.t : Nat) : Int), .int (R.d : Int), .bl R.w]
def RowOk (R : Row) : Prop := R.b < 2 ^ 60 ∧ 1 ≤ R.s ∧ R.s < 2 ^ 60 ∧ R.t < 2 ^ 60 ∧ R.d < 2 ^ 59
def mk1 (n : Nat) : List Nat := match mk n with
  | [] => []
  | x :: xs => (x + 128) :: xs
def rb (R : Row) : List Nat := mk1 R.b ++ (mk R.s ++ (mk R.t ++ mk (2 * R.d + R.w.toNat)))
theorem mk_cons (n : Nat) : ∃ x xs, mk n = x :: xs := by
  cases e : mk n with
  | nil =>
    have := congrArg List.length e
    simp [mk] at this
  | cons x xs => exact ⟨x, xs, rfl⟩
theorem mk_len {n : Nat} (h : n < 64 ^ 60) : (mk n).length ≤ 61 := by
  have := rest_len 59 n h
  simp [mk, up]
  omega
def spRowBytes : Sp := fun vs H Q _ => ∃ (r : Addr) (R : Row), vs = [.ref r] ∧ H r = some (.tup (rv R)) ∧ RowOk R ∧ ∀ p H', H p = none → Same H H' → H' p = some (.lst (vn (rb R))) → Q (.ref p) H'
/-- marked(pieces(n)[::-1]) -/
theorem mkcall {H : Hp} {n : Nat} {Q : VK} {E E' : XK} (hn : n < 64 ^ 60) (k : ∀ p H', H p = none → Same H H' → H' p = some (.lst (vn (mk n))) → Q (.ref p) H') :
    spPieces [.int (n : Int)] H (fun x H1 => ∃ a, x = .ref a ∧ ∃ xs, H1 a = some (.lst xs) ∧ ∀ p, H1 p = none → spMarked [.ref p] (upd H1 p (.lst xs.reverse)) Q E') E := by
  refine ⟨n, rfl, hn, fun p H1 hp s1 h1 => ⟨p, rfl, _, h1, fun q hq => ⟨q, (rest n).reverse, n % 64, rfl, ?_, ?_, fun p2 H2 hp2 s2 h2 => k p2 H2 ?_ ?_ h2⟩⟩⟩
  · rw [upd_same]
    simp [vn, low]
  · have := rest_len 59 n hn
    rw [List.length_reverse]
    omega
  · exact (Same.new' s1 hq).free hp2
  · exact (Same.new' s1 hq).trans s2
section
variable {P : Program} {w : World} {K : PySem.W.Frag} {mg : Str → Option Value} {base : Heap} {f : Addr} {fd : FuncData}
abbrev srow_bytes : Stmt := top 41
theorem scrow_bytes : FnScope ["_law_row", "_law_low", "_law_high", "_law_target", "_law_depth", "_law_is_wanted", "_law_found", "_law_number"] ["_law_row"] (defScope srow_bytes) := ⟨rfl, rfl, rfl, by decide +kernel, rfl, by decide +kernel, by decide +kernel⟩

theorem ok_row_bytes (T : Txt mg) (F : FnP K "_law_row_bytes" "_law_row_bytes" srow_bytes f fd) (C_pieces : Cal P w K mg base 1 "_law_pieces" ["_law_number"] spPieces) (C_marked : Cal P w K mg base 1 "_law_marked" ["_law_some"] spMarked) : FnOk P w K mg base CX0 2 f fd ["_law_row"] spRowBytes := by
  refine F.ok scrow_bytes (fun vs H Q E h => ?_) (fun cdv A outer s H vs Q E hr h => ?_)
  · obtain ⟨r, R, rfl, _⟩ := h
    rfl
  · obtain ⟨r, R, rfl, hR, ok, k⟩ := h
    refine ⟨_, PSs.nox (pss_cons (ps_asg (pv 0) (pg_tupD (n := 5) rfl (pgs_cons (pg_name (i := 1) scrow_bytes.nd rfl (Or.inl rfl)) (pgs_cons (pg_name (i := 2) scrow_bytes.nd rfl (Or.inl rfl)) (pgs_cons (pg_name (i := 3) scrow_bytes.nd rfl (Or.inl rfl)) (pgs_cons (pg_name (i := 4) scrow_bytes.nd rfl (Or.inl rfl)) (pgs_cons (pg_name (i := 5) scrow_bytes.nd rfl (Or.inl rfl)) pgs_nil)))))))
  (pss_cons (ps_set (i := 6) scrow_bytes.nd rfl (Or.inl rfl) (pe_cal C_marked (hr.mono (by decide)) rfl (pa_cons (pe_revD (pe_cal C_pieces (hr.mono (by decide)) rfl (pa_cons (pe_op op_fdivW (pv 1) pe_int) pa_nil))) pa_nil)))
  (pss_cons (ps_asg (pe_op op_add (pe_ix ix_d (pv 6) pe_int (fun _ _ => rfl)) pe_int) (pg_sub (pv 6) pe_int set_list))
  (pss_cons (ps_for PassesOwn.never rfl (pi_tup (pe_tup (pa_cons (pe_op op_fdivW (pe_op op_sub (pv 2) (pv 1)) pe_int) (pa_cons (pe_op op_fdivW (pv 3) pe_int) (pa_cons (pe_op op_add (pe_op op_mul pe_int (pv 4)) (pe_callTy call_int1 (by rfl) T.b_int (by decide +kernel) (pa_cons (pv 5) pa_nil))) pa_nil))))) (pg_name (i := 7) scrow_bytes.nd rfl (Or.inl rfl))
    (pss_one (ps_expr (pe_bm PySem.F.plainAttrs_list PySem.F.slot_list_extend PySem.F.type_list_extend mt_extend (pv 6) (pa_cons (pe_cal C_marked (hr.mono (by decide)) rfl (pa_cons (pe_revD (pe_cal C_pieces (hr.mono (by decide)) rfl (pa_cons (pv 7) pa_nil))) pa_nil)) pa_nil)))))
  (pss_one (ps_ret (pv 6))))))), ?_⟩
    show (_ : TS) _ [some (.ref r), none, none, none, none, none, none, none] H
    have e1 : ((2 * R.b : Nat) : Int) / 2 = (R.b : Int) := by omega
    simp only [r_seq, r_next, r_brk, r_cont, r_asg, r_name, r_ret, r_retN, r_drop, r_ifs, r_never, r_var, r_c, r_op, r_un, r_if, r_tst, r_b, r_not, r_and, r_or, r_andV, r_orV, r_notV, r_nil, r_cons, r_tup, r_lst, r_cb, r_call, r_bm, r_bm0, r_sl, r_nopart, r_part, r_rev, r_gnil, r_gcons, r_gsub, r_par, r_aug, r_chain, r_I0, r_I, r_U, r_ixd, r_lend, r_tupd, r_listd, r_sld, r_app, r_ext, r_reverse, r_setl, r_cat, r_int1, r_eqS, r_neS, scal_ii, scal_bb, scal_ss, at0, at1, at2, sq_lst, sq_tup, isLst_lst, List.getElem?_cons_zero, List.getElem?_cons_succ, List.set_cons_zero, List.set_cons_succ, V.int.injEq, V.bl.injEq, V.ref.injEq, V.str.injEq, HO.lst.injEq, HO.tup.injEq, Option.some.injEq, exists_eq_left', exists_eq_left, List.cons.injEq, and_true, true_and, decide_eq_true_eq, reduceCtorEq, false_and, exists_false, or_false, false_or, exists_const, and_assoc, exists_and_left, List.append_nil, ix0, ix1, ix2, cm_mod, cdw1009, cdw2003, cdw7, cdw64, cdw2, cm104729, cm2, cm3, upd_same, List.length_cons, List.length_nil, Int.reduceLT, Int.reduceLE, Nat.reduceAdd, Nat.reduceLeDiff, Nat.reduceLT, Int.reduceToNat, r_for1, r_forL, r_forT, r_lcL, r_lc1, r_yes, r_gtupD, wipe_0, wipe_1, List.cons_append, List.nil_append, r_forS, r_ipI, ite_false, ite_true, Bool.not_true, Bool.not_false, decide_true, decide_false, r_isd, r_islt, cD_ty, cD_ref, tD_non, tD_bl, tD_int, tD_str, tD_ref, tH_lst, tH_tup, tH_dK, tH_ins, ki_self, ki_int_bool, ki_non_int, ki_str_int, ki_lt_lst, ki_lt_tup, r_fld, r_sfld, HO.ins.injEq, cx_K, hR, rv, e1]
    obtain ⟨b0, b1, b2, b3, b4⟩ := ok
    refine mkcall (Nat.lt_trans b0 (by decide)) fun p H1 hp s1 h1 => ?_
    obtain ⟨x, xs, hx⟩ := mk_cons R.b
    have hvx : vn (mk R.b) = .int (x : Int) :: vn xs := by rw [hx]; rfl
    rw [hvx] at h1
    have l0 : xs.length ≤ 60 := by
      have := mk_len (n := R.b) (Nat.lt_trans b0 (by decide))
      rw [hx, List.length_cons] at this
      omega
    have hs : ((2 * (R.b + R.s) : Nat) : Int) - ((2 * R.b : Nat) : Int) = ((2 * R.s : Nat) : Int) := by omega
    have hs2 : ((2 * R.s : Nat) : Int) / 2 = (R.s : Int) := by omega
    have ht2 : ((2 * R.t : Nat) : Int) / 2 = (R.t : Int) := by omega
    have hw : 2 * (R.d : Int) + (if R.w = true then 1 else 0) = ((2 * R.d + R.w.toNat : Nat) : Int) := by cases R.w <;> simp
    simp only [r_seq, r_next, r_brk, r_cont, r_asg, r_name, r_ret, r_retN, r_drop, r_ifs, r_never, r_var, r_c, r_op, r_un, r_if, r_tst, r_b, r_not, r_and, r_or, r_andV, r_orV, r_notV, r_nil, r_cons, r_tup, r_lst, r_cb, r_call, r_bm, r_bm0, r_sl, r_nopart, r_part, r_rev, r_gnil, r_gcons, r_gsub, r_par, r_aug, r_chain, r_I0, r_I, r_U, r_ixd, r_lend, r_tupd, r_listd, r_sld, r_app, r_ext, r_reverse, r_setl, r_cat, r_int1, r_eqS, r_neS, scal_ii, scal_bb, scal_ss, at0, at1, at2, sq_lst, sq_tup, isLst_lst, List.getElem?_cons_zero, List.getElem?_cons_succ, List.set_cons_zero, List.set_cons_succ, V.int.injEq, V.bl.injEq, V.ref.injEq, V.str.injEq, HO.lst.injEq, HO.tup.injEq, Option.some.injEq, exists_eq_left', exists_eq_left, List.cons.injEq, and_true, true_and, decide_eq_true_eq, reduceCtorEq, false_and, exists_false, or_false, false_or, exists_const, and_assoc, exists_and_left, List.append_nil, ix0, ix1, ix2, cm_mod, cdw1009, cdw2003, cdw7, cdw64, cdw2, cm104729, cm2, cm3, upd_same, List.length_cons, List.length_nil, Int.reduceLT, Int.reduceLE, Nat.reduceAdd, Nat.reduceLeDiff, Nat.reduceLT, Int.reduceToNat, r_for1, r_forL, r_forT, r_lcL, r_lc1, r_yes, r_gtupD, wipe_0, wipe_1, List.cons_append, List.nil_append, r_forS, r_ipI, ite_false, ite_true, Bool.not_true, Bool.not_false, decide_true, decide_false, r_isd, r_islt, cD_ty, cD_ref, tD_non, tD_bl, tD_int, tD_str, tD_ref, tH_lst, tH_tup, tH_dK, tH_ins, ki_self, ki_int_bool, ki_non_int, ki_str_int, ki_lt_lst, ki_lt_tup, r_fld, r_sfld, HO.ins.injEq, cx_K, h1, hs, hs2, ht2, hw]
    refine ⟨Nat.le_trans (by decide : 3 ≤ 1000) (by decide), fun q hq => ⟨⟨_, SqT.of upd_same⟩, ?_⟩⟩
    have hq1 : H1 q = none ∧ q ≠ p := by
      have c : q ≠ p := fun e => by
        rw [e, upd_same] at hq
        cases hq
      rw [upd_ne c] at hq
      exact ⟨hq, c⟩
    have m1 : R.w.toNat ≤ 1 := by cases R.w <;> decide
    refine lp_unrT upd_same ?_
    have hF : ∀ {Ha : Hp}, Same H1 Ha → Same H Ha := fun s => s1.trans s
    simp only [unr_cons, unr_nil]
    simp only [r_seq, r_next, r_brk, r_cont, r_asg, r_name, r_ret, r_retN, r_drop, r_ifs, r_never, r_var, r_c, r_op, r_un, r_if, r_tst, r_b, r_not, r_and, r_or, r_andV, r_orV, r_notV, r_nil, r_cons, r_tup, r_lst, r_cb, r_call, r_bm, r_bm0, r_sl, r_nopart, r_part, r_rev, r_gnil, r_gcons, r_gsub, r_par, r_aug, r_chain, r_I0, r_I, r_U, r_ixd, r_lend, r_tupd, r_listd, r_sld, r_app, r_ext, r_reverse, r_setl, r_cat, r_int1, r_eqS, r_neS, scal_ii, scal_bb, scal_ss, at0, at1, at2, sq_lst, sq_tup, isLst_lst, List.getElem?_cons_zero, List.getElem?_cons_succ, List.set_cons_zero, List.set_cons_succ, V.int.injEq, V.bl.injEq, V.ref.injEq, V.str.injEq, HO.lst.injEq, HO.tup.injEq, Option.some.injEq, exists_eq_left', exists_eq_left, List.cons.injEq, and_true, true_and, decide_eq_true_eq, reduceCtorEq, false_and, exists_false, or_false, false_or, exists_const, and_assoc, exists_and_left, List.append_nil, ix0, ix1, ix2, cm_mod, cdw1009, cdw2003, cdw7, cdw64, cdw2, cm104729, cm2, cm3, upd_same, List.length_cons, List.length_nil, Int.reduceLT, Int.reduceLE, Nat.reduceAdd, Nat.reduceLeDiff, Nat.reduceLT, Int.reduceToNat, r_for1, r_forL, r_forT, r_lcL, r_lc1, r_yes, r_gtupD, wipe_0, wipe_1, List.cons_append, List.nil_append, r_forS, r_ipI, ite_false, ite_true, Bool.not_true, Bool.not_false, decide_true, decide_false, r_isd, r_islt, cD_ty, cD_ref, tD_non, tD_bl, tD_int, tD_str, tD_ref, tH_lst, tH_tup, tH_dK, tH_ins, ki_self, ki_int_bool, ki_non_int, ki_str_int, ki_lt_lst, ki_lt_tup, r_fld, r_sfld, HO.ins.injEq, cx_K, tyV_lst, une hq1.2.symm]
    have qp := hq1.2
    have pH : ∀ {b : Addr} {o : HO}, H b = some o → b ≠ p := fun e => ne_new e hp
    have g0p : upd (upd H1 p (.lst (.int ((x : Int) + 128) :: vn xs))) q (.tup [.int (R.s : Int), .int (R.t : Int), .int ((2 * R.d + R.w.toNat : Nat) : Int)]) p = some (.lst (.int ((x : Int) + 128) :: vn xs)) := by rw [upd_ne qp.symm, upd_same]
    have ks : Same H (upd (upd H1 p (.lst (.int ((x : Int) + 128) :: vn xs))) q (.tup [.int (R.s : Int), .int (R.t : Int), .int ((2 * R.d + R.w.toNat : Nat) : Int)])) := fun b o e => by
      rw [upd_ne (ne_new (s1 b o e) hq1.1), upd_ne (pH e)]
      exact s1 b o e
    have ku : ∀ {Ha : Hp} {o : HO}, Same H Ha → Same H (upd Ha p o) := fun s b o e => by
      rw [upd_ne (pH e)]
      exact s b o e
    have l1 := mk_len (n := R.s) (Nat.lt_trans b2 (by decide))
    have l2 := mk_len (n := R.t) (Nat.lt_trans b3 (by decide))
    have b5 : 2 * R.d + R.w.toNat < 64 ^ 60 := Nat.lt_of_lt_of_le (by omega : _ < 2 ^ 61) (by decide)
    have l3 := mk_len (n := 2 * R.d + R.w.toNat) b5
    have sz : ∀ {n : Nat}, n ≤ 1000 → n ≤ sizeLine := fun h => Nat.le_trans h (by decide)
    refine mkcall (Nat.lt_trans b2 (by decide)) fun p2 H2 hp2 s2 h2 => ⟨p2, rfl, _, s2 p _ g0p, _, h2, sz (by rw [List.length_cons, vn_len, vn_len]; omega), by rw [upd_ne qp]; exact s2 q _ upd_same, ?_⟩
    refine mkcall (Nat.lt_trans b3 (by decide)) fun p3 H3 hp3 s3 h3 => ⟨p3, rfl, _, s3 p _ upd_same, _, h3, sz (by rw [List.length_append, List.length_cons, vn_len, vn_len, vn_len]; omega), by rw [upd_ne qp]; exact s3 q _ (by rw [upd_ne qp]; exact s2 q _ upd_same), ?_⟩
    refine mkcall b5 fun p4 H4 hp4 s4 h4 => ⟨p4, rfl, _, s4 p _ upd_same, _, h4, sz (by rw [List.length_append, List.length_append, List.length_cons, vn_len, vn_len, vn_len, vn_len]; omega), by rw [upd_ne qp]; exact s4 q _ (by rw [upd_ne qp]; exact s3 q _ (by rw [upd_ne qp]; exact s2 q _ upd_same)), ?_⟩
    refine k p _ hp (ku ((ku ((ku (ks.trans s2)).trans s3)).trans s4)) ?_
    rw [upd_same]
    have e8 : .int ((x : Int) + 128) :: vn xs = vn (mk1 R.b) := by
      unfold mk1
      rw [hx]
      rfl
    rw [e8, ← vn_app, ← vn_app, ← vn_app, List.append_assoc, List.append_assoc]
    rfl
end
end C49

set_option maxHeartbeats 1000000
namespace C49
open PySem PySem.Spec PyProof.Rows L2
/-! ### a number of a table of handlers, read at any place -/
def contN (acc : Nat) (i : Nat) : List Nat → Except Nat (Nat × Nat)
  | [] => .error i
  | x :: xs => if 128 ≤ x then .error i else if x / 64 % 2 = 0 then .ok (64 * acc + x % 64, i + 1) else contN (64 * acc + x % 64) (i + 1) xs
def beginN (i : Nat) (b : Bool) : List Nat → Except Nat (Nat × Nat)
  | [] => .error i
  | x :: xs => if ¬ (128 ≤ x ↔ b = true) ∨ x % 128 = 64 then .error i else if x / 64 % 2 = 0 then .ok (x % 64, i + 1) else contN (x % 64) (i + 1) xs
def nread (all : List Nat) (i : Nat) (b : Bool) : Except Nat (Nat × Nat) := beginN i b (all.drop i)
theorem drop_at {all : List Nat} {i : Nat} (h : i < all.length) : all.drop i = all[i] :: all.drop (i + 1) := List.drop_eq_getElem_cons h
theorem drop_end {all : List Nat} {i : Nat} (h : ¬ i < all.length) : all.drop i = [] := List.drop_of_length_le (by omega)
theorem contN_at {all : List Nat} {acc i : Nat} (h : i < all.length) : contN acc i (all.drop i) = if 128 ≤ all[i] then .error i else if all[i] / 64 % 2 = 0 then .ok (64 * acc + all[i] % 64, i + 1) else contN (64 * acc + all[i] % 64) (i + 1) (all.drop (i + 1)) := by
  rw [drop_at h]
  rfl
theorem contN_end {all : List Nat} {acc i : Nat} (h : ¬ i < all.length) : contN acc i (all.drop i) = .error i := by
  rw [drop_end h]
  rfl
theorem nread_at {all : List Nat} {i : Nat} {b : Bool} (h : i < all.length) : nread all i b = if ¬ (128 ≤ all[i] ↔ b = true) ∨ all[i] % 128 = 64 then .error i else if all[i] / 64 % 2 = 0 then .ok (all[i] % 64, i + 1) else contN (all[i] % 64) (i + 1) (all.drop (i + 1)) := by
  unfold nread
  rw [drop_at h]
  rfl
theorem nread_end {all : List Nat} {i : Nat} {b : Bool} (h : ¬ i < all.length) : nread all i b = .error i := by
  unfold nread
  rw [drop_end h]
  rfl
theorem vn_at {all : List Nat} {i : Nat} (h : i < all.length) : atI (vn all) (i : Int) = some (.int (all[i] : Int)) := atn (by
  unfold vn
  rw [List.getElem?_map, List.getElem?_eq_getElem h]
  rfl)
/-- what a reader gives back -/
def resN : Except Nat (Nat × Nat) → List V
  | .error j => [.non, .int (j : Int)]
  | .ok (n, j) => [.int (n : Int), .int (j : Int)]
def spNR : Sp := fun vs H Q _ => ∃ (d : Addr) (all : List Nat) (i : Nat) (b : Bool), vs = [.ref d, .int (i : Int), .bl b] ∧ H d = some (.lst (vn all)) ∧ i ≤ all.length ∧ all.length ≤ 1000 ∧ ∀ p H', H p = none → Same H H' → H' p = some (.tup (resN (nread all i b))) → Q (.ref p) H'
def lvNR (H : Hp) (d : Addr) (all : List Nat) (i : Nat) (b : Bool) (k : Nat) (σ : L2.St) (H' : Hp) : Prop := ∃ (m at_ : Nat) (v : Option V) (h : at_ < all.length), σ = [some (.ref d), some (.int (at_ : Int)), some (.bl b), some (.int (m : Int)), v] ∧ H' = H ∧ at_ = i + k ∧
  nread all i b = if all[at_] / 64 % 2 = 0 then .ok (m, at_ + 1) else contN m (at_ + 1) (all.drop (at_ + 1))
section
variable {P : Program} {w : World} {K : PySem.W.Frag} {mg : Str → Option Value} {base : Heap} {f : Addr} {fd : FuncData}
abbrev snumber_read : Stmt := top 45
theorem scnumber_read : FnScope ["_law_data", "_law_at", "_law_is_first", "_law_number", "_law_k"] ["_law_data", "_law_at", "_law_is_first"] (defScope snumber_read) := ⟨rfl, rfl, rfl, by decide +kernel, rfl, by decide +kernel, by decide +kernel⟩

theorem ok_number_read (T : Txt mg) (F : FnP K "_law_number_read" "_law_number_read" snumber_read f fd) : FnOk P w K mg base CX0 1 f fd ["_law_data", "_law_at", "_law_is_first"] spNR := by
  refine F.ok scnumber_read (fun vs H Q E h => ?_) (fun cdv A outer s H vs Q E hr h => ?_)
  · obtain ⟨d, all, i, b, rfl, _⟩ := h
    rfl
  · obtain ⟨d, all, i, b, rfl, hd, hi, hl, k⟩ := h
    refine ⟨_, PSs.nox (pss_cons (ps_if (PW.pt (pw_or (pt_cmpR op_eq (pv 1) (pe_callB call_len_d (by rfl) T.b_len (by decide +kernel) (pa_cons (pv 0) pa_nil)) (nomark _)) (pw_or (pt_cmpR op_ne (pe_cmpR op_ge (pe_ix ix_d (pv 0) (pv 1) (fun _ _ => rfl)) pe_int (nomark _)) (pv 2) (nomark _)) (pw_or1 (pt_cmpR op_eq (pe_op op_mod (pe_callTy call_int1 (by rfl) T.b_int (by decide +kernel) (pa_cons (pe_ix ix_d (pv 0) (pv 1) (fun _ _ => rfl)) pa_nil)) pe_int) pe_int (nomark _))))))
    (pss_one (ps_ret (pe_tup (pa_cons pe_non (pa_cons (pv 1) pa_nil)))))
    pss_nil)
  (pss_cons (ps_set (i := 3) scnumber_read.nd rfl (Or.inl rfl) (pe_op op_mod (pe_callTy call_int1 (by rfl) T.b_int (by decide +kernel) (pa_cons (pe_ix ix_d (pv 0) (pv 1) (fun _ _ => rfl)) pa_nil)) pe_int))
  (pss_cons (ps_for PassesOwn.never rfl (pi_range1 rfl T.b_range (pa_cons (pe_callB call_len_d (by rfl) T.b_len (by decide +kernel) (pa_cons (pv 0) pa_nil)) pa_nil)) (pg_name (i := 4) scnumber_read.nd rfl (Or.inl rfl))
    (pss_cons (ps_if (pt_cmpR op_eq (pe_op op_mod (pe_callTy call_int1 (by rfl) T.b_int (by decide +kernel) (pa_cons (pe_op op_fdivW (pe_ix ix_d (pv 0) (pv 1) (fun _ _ => rfl)) pe_int) pa_nil)) pe_int) pe_int (nomark _))
    (pss_one (ps_ret (pe_tup (pa_cons (pv 3) (pa_cons (pe_op op_add (pv 1) pe_int) pa_nil)))))
    pss_nil)
  (pss_cons (ps_set (i := 1) scnumber_read.nd rfl (Or.inl rfl) (pe_op op_add (pv 1) pe_int))
  (pss_cons (ps_if (PW.pt (pw_or (pt_cmpR op_eq (pv 1) (pe_callB call_len_d (by rfl) T.b_len (by decide +kernel) (pa_cons (pv 0) pa_nil)) (nomark _)) (pw_or1 (pt_cmpR op_ge (pe_ix ix_d (pv 0) (pv 1) (fun _ _ => rfl)) pe_int (nomark _)))))
    (pss_one (ps_ret (pe_tup (pa_cons pe_non (pa_cons (pv 1) pa_nil)))))
    pss_nil)
  (pss_one (ps_set (i := 3) scnumber_read.nd rfl (Or.inl rfl) (pe_op op_add (pe_op op_mul pe_int (pv 3)) (pe_op op_mod (pe_callTy call_int1 (by rfl) T.b_int (by decide +kernel) (pa_cons (pe_ix ix_d (pv 0) (pv 1) (fun _ _ => rfl)) pa_nil)) pe_int))))))))
  (pss_one (ps_ret (pe_tup (pa_cons pe_non (pa_cons (pv 1) pa_nil)))))))), ?_⟩
    show (_ : TS) _ [some (.ref d), some (.int (i : Int)), some (.bl b), none, none] H
    have give : ∀ (r : Except Nat (Nat × Nat)), nread all i b = r → 2 ≤ sizeLine ∧ ∀ p, H p = none → Q (.ref p) (L2.upd H p (.tup (resN r))) := fun r e => ⟨szl (by decide), fun p hp => k p _ hp (Same.new' (Same.refl H) hp) (by rw [upd_same, e])⟩
    by_cases c : i < all.length
    · have e1 := vn_at c
      have el : ((i : Int) = ((vn all).length : Int)) = False := eq_false (by rw [vn_len]; omega)
      have nr := nread_at (b := b) c
      generalize hx : all[i] = x at *
      have e3 : (decide ((128 : Int) ≤ (x : Int)) = b) = (128 ≤ x ↔ b = true) := propext (by cases b <;> simp <;> omega)
      have e4 : ((x : Int) % 128 = 64) = (x % 128 = 64) := propext (by omega)
      have e5 : (x : Int) / 64 % 2 = ((x / 64 % 2 : Nat) : Int) := by omega
      have e6 : (x : Int) % 64 = ((x % 64 : Nat) : Int) := by omega
      have m128 : CDivW (x : Int) 128 := of_eq_true (cdw ⟨by decide, by decide⟩)
      simp only [r_seq, r_next, r_brk, r_cont, r_asg, r_name, r_ret, r_retN, r_drop, r_ifs, r_never, r_var, r_c, r_op, r_un, r_if, r_tst, r_b, r_not, r_and, r_or, r_andV, r_orV, r_notV, r_nil, r_cons, r_tup, r_lst, r_cb, r_call, r_bm, r_bm0, r_sl, r_nopart, r_part, r_rev, r_gnil, r_gcons, r_gsub, r_par, r_aug, r_chain, r_I0, r_I, r_U, r_ixd, r_lend, r_tupd, r_listd, r_sld, r_app, r_ext, r_reverse, r_setl, r_cat, r_int1, r_eqS, r_neS, scal_ii, scal_bb, scal_ss, at0, at1, at2, sq_lst, sq_tup, isLst_lst, List.getElem?_cons_zero, List.getElem?_cons_succ, List.set_cons_zero, List.set_cons_succ, V.int.injEq, V.bl.injEq, V.ref.injEq, V.str.injEq, HO.lst.injEq, HO.tup.injEq, Option.some.injEq, exists_eq_left', exists_eq_left, List.cons.injEq, and_true, true_and, decide_eq_true_eq, reduceCtorEq, false_and, exists_false, or_false, false_or, exists_const, and_assoc, exists_and_left, List.append_nil, ix0, ix1, ix2, cm_mod, cdw1009, cdw2003, cdw7, cdw64, cdw2, cm104729, cm2, cm3, upd_same, List.length_cons, List.length_nil, Int.reduceLT, Int.reduceLE, Nat.reduceAdd, Nat.reduceLeDiff, Nat.reduceLT, Int.reduceToNat, r_for1, r_forL, r_forT, r_lcL, r_lc1, r_yes, r_gtupD, wipe_0, wipe_1, List.cons_append, List.nil_append, r_forS, r_ipI, ite_false, ite_true, Bool.not_true, Bool.not_false, decide_true, decide_false, r_isd, r_islt, cD_ty, cD_ref, tD_non, tD_bl, tD_int, tD_str, tD_ref, tH_lst, tH_tup, tH_dK, tH_ins, ki_self, ki_int_bool, ki_non_int, ki_str_int, ki_lt_lst, ki_lt_tup, r_fld, r_sfld, HO.ins.injEq, cx_K, hd, e1, el, e3, e4, e5, e6, m128]
      by_cases c1 : ¬ (128 ≤ x ↔ b = true)
      · rw [if_pos (by rw [Bool.not_eq_true', decide_eq_false_iff_not]; exact c1)]
        exact give _ (by rw [nr, if_pos (.inl c1)])
      · rw [if_neg (by rw [Bool.not_eq_true', decide_eq_false_iff_not]; exact c1)]
        by_cases c2 : x % 128 = 64
        · rw [if_pos c2]
          exact give _ (by rw [nr, if_pos (.inr c2)])
        · rw [if_neg c2]
          rw [if_neg (by rintro (z | z) <;> contradiction)] at nr
          rw [vn_len, Int.toNat_natCast]
          refine ⟨by omega, by omega, lp_rng (n := all.length) (lvNR H d all i b) ⟨x % 64, i, none, c, rfl, rfl, rfl, by rw [hx]; exact nr⟩ ?_ ?_⟩
          · rintro kk σ H1 hk ⟨m, j, v, cj, rfl, rfl, ej, ij⟩
            have f1 := vn_at cj
            have f3 : (all[j] : Int) / 64 % 2 = ((all[j] / 64 % 2 : Nat) : Int) := by omega
            have f4 : ((all[j] / 64 % 2 : Nat) : Int) = 0 ↔ all[j] / 64 % 2 = 0 := by omega
            have f5 : ((j : Nat) : Int) + 1 = ((j + 1 : Nat) : Int) := by omega
            simp only [r_seq, r_next, r_brk, r_cont, r_asg, r_name, r_ret, r_retN, r_drop, r_ifs, r_never, r_var, r_c, r_op, r_un, r_if, r_tst, r_b, r_not, r_and, r_or, r_andV, r_orV, r_notV, r_nil, r_cons, r_tup, r_lst, r_cb, r_call, r_bm, r_bm0, r_sl, r_nopart, r_part, r_rev, r_gnil, r_gcons, r_gsub, r_par, r_aug, r_chain, r_I0, r_I, r_U, r_ixd, r_lend, r_tupd, r_listd, r_sld, r_app, r_ext, r_reverse, r_setl, r_cat, r_int1, r_eqS, r_neS, scal_ii, scal_bb, scal_ss, at0, at1, at2, sq_lst, sq_tup, isLst_lst, List.getElem?_cons_zero, List.getElem?_cons_succ, List.set_cons_zero, List.set_cons_succ, V.int.injEq, V.bl.injEq, V.ref.injEq, V.str.injEq, HO.lst.injEq, HO.tup.injEq, Option.some.injEq, exists_eq_left', exists_eq_left, List.cons.injEq, and_true, true_and, decide_eq_true_eq, reduceCtorEq, false_and, exists_false, or_false, false_or, exists_const, and_assoc, exists_and_left, List.append_nil, ix0, ix1, ix2, cm_mod, cdw1009, cdw2003, cdw7, cdw64, cdw2, cm104729, cm2, cm3, upd_same, List.length_cons, List.length_nil, Int.reduceLT, Int.reduceLE, Nat.reduceAdd, Nat.reduceLeDiff, Nat.reduceLT, Int.reduceToNat, r_for1, r_forL, r_forT, r_lcL, r_lc1, r_yes, r_gtupD, wipe_0, wipe_1, List.cons_append, List.nil_append, r_forS, r_ipI, ite_false, ite_true, Bool.not_true, Bool.not_false, decide_true, decide_false, r_isd, r_islt, cD_ty, cD_ref, tD_non, tD_bl, tD_int, tD_str, tD_ref, tH_lst, tH_tup, tH_dK, tH_ins, ki_self, ki_int_bool, ki_non_int, ki_str_int, ki_lt_lst, ki_lt_tup, r_fld, r_sfld, HO.ins.injEq, cx_K, hd, f1, f3, f4, f5]
            refine ite2 (fun q => ?_) fun q => ?_
            · rw [if_pos q] at ij
              exact give _ ij
            · rw [if_neg q] at ij
              by_cases c3 : j + 1 < all.length
              · have g1 := vn_at c3
                have g2 : (((j + 1 : Nat) : Int) = ((vn all).length : Int)) = False := eq_false (by rw [vn_len]; omega)
                have g3 : ((128 : Int) ≤ (all[j + 1] : Int)) = (128 ≤ all[j + 1]) := propext (by omega)
                have g4 : 64 * (m : Int) + (all[j + 1] : Int) % 64 = ((64 * m + all[j + 1] % 64 : Nat) : Int) := by omega
                have g5 : CMul 64 (m : Int) := .inl (by decide)
                simp only [r_seq, r_next, r_brk, r_cont, r_asg, r_name, r_ret, r_retN, r_drop, r_ifs, r_never, r_var, r_c, r_op, r_un, r_if, r_tst, r_b, r_not, r_and, r_or, r_andV, r_orV, r_notV, r_nil, r_cons, r_tup, r_lst, r_cb, r_call, r_bm, r_bm0, r_sl, r_nopart, r_part, r_rev, r_gnil, r_gcons, r_gsub, r_par, r_aug, r_chain, r_I0, r_I, r_U, r_ixd, r_lend, r_tupd, r_listd, r_sld, r_app, r_ext, r_reverse, r_setl, r_cat, r_int1, r_eqS, r_neS, scal_ii, scal_bb, scal_ss, at0, at1, at2, sq_lst, sq_tup, isLst_lst, List.getElem?_cons_zero, List.getElem?_cons_succ, List.set_cons_zero, List.set_cons_succ, V.int.injEq, V.bl.injEq, V.ref.injEq, V.str.injEq, HO.lst.injEq, HO.tup.injEq, Option.some.injEq, exists_eq_left', exists_eq_left, List.cons.injEq, and_true, true_and, decide_eq_true_eq, reduceCtorEq, false_and, exists_false, or_false, false_or, exists_const, and_assoc, exists_and_left, List.append_nil, ix0, ix1, ix2, cm_mod, cdw1009, cdw2003, cdw7, cdw64, cdw2, cm104729, cm2, cm3, upd_same, List.length_cons, List.length_nil, Int.reduceLT, Int.reduceLE, Nat.reduceAdd, Nat.reduceLeDiff, Nat.reduceLT, Int.reduceToNat, r_for1, r_forL, r_forT, r_lcL, r_lc1, r_yes, r_gtupD, wipe_0, wipe_1, List.cons_append, List.nil_append, r_forS, r_ipI, ite_false, ite_true, Bool.not_true, Bool.not_false, decide_true, decide_false, r_isd, r_islt, cD_ty, cD_ref, tD_non, tD_bl, tD_int, tD_str, tD_ref, tH_lst, tH_tup, tH_dK, tH_ins, ki_self, ki_int_bool, ki_non_int, ki_str_int, ki_lt_lst, ki_lt_tup, r_fld, r_sfld, HO.ins.injEq, cx_K, hd, g1, g2, g3, g4, g5]
                rw [contN_at c3] at ij
                refine ite2 (fun q2 => ?_) fun q2 => ?_
                · rw [if_pos q2] at ij
                  exact give _ ij
                · rw [if_neg q2] at ij
                  exact ⟨_, j + 1, _, c3, rfl, rfl, by omega, ij⟩
              · have g2 : (((j + 1 : Nat) : Int) = ((vn all).length : Int)) = True := eq_true (by rw [vn_len]; omega)
                simp only [r_seq, r_next, r_brk, r_cont, r_asg, r_name, r_ret, r_retN, r_drop, r_ifs, r_never, r_var, r_c, r_op, r_un, r_if, r_tst, r_b, r_not, r_and, r_or, r_andV, r_orV, r_notV, r_nil, r_cons, r_tup, r_lst, r_cb, r_call, r_bm, r_bm0, r_sl, r_nopart, r_part, r_rev, r_gnil, r_gcons, r_gsub, r_par, r_aug, r_chain, r_I0, r_I, r_U, r_ixd, r_lend, r_tupd, r_listd, r_sld, r_app, r_ext, r_reverse, r_setl, r_cat, r_int1, r_eqS, r_neS, scal_ii, scal_bb, scal_ss, at0, at1, at2, sq_lst, sq_tup, isLst_lst, List.getElem?_cons_zero, List.getElem?_cons_succ, List.set_cons_zero, List.set_cons_succ, V.int.injEq, V.bl.injEq, V.ref.injEq, V.str.injEq, HO.lst.injEq, HO.tup.injEq, Option.some.injEq, exists_eq_left', exists_eq_left, List.cons.injEq, and_true, true_and, decide_eq_true_eq, reduceCtorEq, false_and, exists_false, or_false, false_or, exists_const, and_assoc, exists_and_left, List.append_nil, ix0, ix1, ix2, cm_mod, cdw1009, cdw2003, cdw7, cdw64, cdw2, cm104729, cm2, cm3, upd_same, List.length_cons, List.length_nil, Int.reduceLT, Int.reduceLE, Nat.reduceAdd, Nat.reduceLeDiff, Nat.reduceLT, Int.reduceToNat, r_for1, r_forL, r_forT, r_lcL, r_lc1, r_yes, r_gtupD, wipe_0, wipe_1, List.cons_append, List.nil_append, r_forS, r_ipI, ite_false, ite_true, Bool.not_true, Bool.not_false, decide_true, decide_false, r_isd, r_islt, cD_ty, cD_ref, tD_non, tD_bl, tD_int, tD_str, tD_ref, tH_lst, tH_tup, tH_dK, tH_ins, ki_self, ki_int_bool, ki_non_int, ki_str_int, ki_lt_lst, ki_lt_tup, r_fld, r_sfld, HO.ins.injEq, cx_K, hd, g2]
                rw [contN_end c3] at ij
                exact give _ ij
          · rintro σ H1 ⟨m, j, v, cj, rfl, rfl, ej, ij⟩
            omega
    · have e2 : i = all.length := by omega
      have el : ((i : Int) = ((vn all).length : Int)) = True := eq_true (by rw [vn_len]; omega)
      simp only [r_seq, r_next, r_brk, r_cont, r_asg, r_name, r_ret, r_retN, r_drop, r_ifs, r_never, r_var, r_c, r_op, r_un, r_if, r_tst, r_b, r_not, r_and, r_or, r_andV, r_orV, r_notV, r_nil, r_cons, r_tup, r_lst, r_cb, r_call, r_bm, r_bm0, r_sl, r_nopart, r_part, r_rev, r_gnil, r_gcons, r_gsub, r_par, r_aug, r_chain, r_I0, r_I, r_U, r_ixd, r_lend, r_tupd, r_listd, r_sld, r_app, r_ext, r_reverse, r_setl, r_cat, r_int1, r_eqS, r_neS, scal_ii, scal_bb, scal_ss, at0, at1, at2, sq_lst, sq_tup, isLst_lst, List.getElem?_cons_zero, List.getElem?_cons_succ, List.set_cons_zero, List.set_cons_succ, V.int.injEq, V.bl.injEq, V.ref.injEq, V.str.injEq, HO.lst.injEq, HO.tup.injEq, Option.some.injEq, exists_eq_left', exists_eq_left, List.cons.injEq, and_true, true_and, decide_eq_true_eq, reduceCtorEq, false_and, exists_false, or_false, false_or, exists_const, and_assoc, exists_and_left, List.append_nil, ix0, ix1, ix2, cm_mod, cdw1009, cdw2003, cdw7, cdw64, cdw2, cm104729, cm2, cm3, upd_same, List.length_cons, List.length_nil, Int.reduceLT, Int.reduceLE, Nat.reduceAdd, Nat.reduceLeDiff, Nat.reduceLT, Int.reduceToNat, r_for1, r_forL, r_forT, r_lcL, r_lc1, r_yes, r_gtupD, wipe_0, wipe_1, List.cons_append, List.nil_append, r_forS, r_ipI, ite_false, ite_true, Bool.not_true, Bool.not_false, decide_true, decide_false, r_isd, r_islt, cD_ty, cD_ref, tD_non, tD_bl, tD_int, tD_str, tD_ref, tH_lst, tH_tup, tH_dK, tH_ins, ki_self, ki_int_bool, ki_non_int, ki_str_int, ki_lt_lst, ki_lt_tup, r_fld, r_sfld, HO.ins.injEq, cx_K, hd, el]
      exact give _ (nread_end c)
/-- what the program's reader gives back, or raises -/
def OutN (CT : Addr) (H : Hp) (Q : VK) (E : XK) : Except Nat (Nat × Nat) → Prop
  | .error j => ∀ d H', H d = none → Same H H' → H' d = some (.xd [("at", .int (j : Int))]) → E (.ref CT) (some d) H'
  | .ok (n, j) => ∀ p H', H p = none → Same H H' → H' p = some (.tup [.int (n : Int), .int (j : Int)]) → Q (.ref p) H'
def spNA (CT : Addr) : Sp := fun vs H Q E => ∃ (t : Addr) (all : List Nat) (i : Nat) (b : Bool), vs = [.ref t, .int (i : Int), .bl b] ∧ H t = some (.tup (vn all)) ∧ i ≤ all.length ∧ all.length ≤ 1000 ∧ (∀ n ∈ all, n < 256) ∧ OutN CT H Q E (nread all i b)
def lvNA (H : Hp) (t : Addr) (all : List Nat) (i : Nat) (b : Bool) (σ : L2.St) (H' : Hp) : Prop := ∃ (at_ fo : Nat) (go : Bool), σ = [some (.ref t), some (.int (at_ : Int)), some (.bl b), some (.int (i : Int)), some (.int (fo : Int)), some (.bl go)] ∧ H' = H ∧ at_ ≤ all.length ∧ i ≤ at_ ∧ fo < 64 ^ (at_ - i) ∧
  (if go = true then (if at_ = i then fo = 0 else nread all i b = contN fo at_ (all.drop at_)) else nread all i b = .ok (fo, at_))
def msNA (k : Nat) (σ : L2.St) : Nat := match σ with
  | [_, some (.int a), _, _, _, _] => k - a.toNat
  | _ => 0
theorem bit64n {z : Nat} (h : z < 256) : (Builtin.bitAnd (z : Int) 64 = 0) = (z / 64 % 2 = 0) := by
  have : ∀ z : Fin 256, decide (Builtin.bitAnd ((z.val : Nat) : Int) 64 = 0) = decide (z.val / 64 % 2 = 0) := by decide +kernel
  have e := this ⟨z, h⟩
  exact propext (by simpa using e)
abbrev snumber_ahead : Stmt := top 30
theorem scnumber_ahead : FnScope ["table", "at", "begins", "first", "found", "goes_on"] ["table", "at", "begins"] (defScope snumber_ahead) := ⟨rfl, rfl, rfl, by decide +kernel, rfl, by decide +kernel, by decide +kernel⟩

theorem ok_number_ahead {CT : Addr} (T : Txt mg) (X_NoTable : Exn P w K mg base "NoTable" CT "at") (F : FnP K "number_ahead" "number_ahead" snumber_ahead f fd) : FnOk P w K mg base (CX P w) 3 f fd ["table", "at", "begins"] (spNA CT) := by
  refine F.ok scnumber_ahead (fun vs H Q E h => ?_) (fun cdv A outer s H vs Q E hr h => ?_)
  · obtain ⟨t, all, i, b, rfl, _⟩ := h
    rfl
  · refine ⟨_, (pss_cons (ps_set (i := 3) scnumber_ahead.nd rfl (Or.inl rfl) (pv 1))
  (pss_cons (ps_set (i := 4) scnumber_ahead.nd rfl (Or.inl rfl) pe_int)
  (pss_cons (ps_set (i := 5) scnumber_ahead.nd rfl (Or.inl rfl) pe_bl)
  (pss_cons (ps_while (passes_of rfl) (pt_val (pv 5))
    (pss_cons (ps_if (PW.pt (pw_or (pt_cmpR op_eq (pv 1) (pe_callB call_len_d (by rfl) T.b_len (by decide +kernel) (pa_cons (pv 0) pa_nil)) (nomark _)) (pw_or1 (pt_cmpR op_ne (pe_cmpR op_ge (pe_ix ix_d (pv 0) (pv 1) (fun _ _ => rfl)) (pe_gi T.g_BEGINS) (nomark _)) (pe_and (pv 2) (pe_one (pe_cmpR op_eq (pv 1) (pv 3) (nomark _)))) (nomark _)))))
    (pss_one (ps_raise rfl (takes_of rfl rfl rfl rfl) (pmk_x X_NoTable (hr.mono (by decide)) rfl (pv 1))))
    pss_nil)
  (pss_cons (ps_set (i := 5) scnumber_ahead.nd rfl (Or.inl rfl) (pe_cmpR op_ne (pe_op op_and (pe_ix ix_d (pv 0) (pv 1) (fun _ _ => rfl)) (pe_gi T.g_GOES_ON)) pe_int (nomark _)))
  (pss_cons (ps_if (PW.pt (pw_and (pt_cmpR op_eq (pv 1) (pv 3) (nomark _)) (pw_and (pt_val (pv 5)) (pw_and1 (pt_cmpR op_eq (pe_op op_and (pe_ix ix_d (pv 0) (pv 1) (fun _ _ => rfl)) pe_int) pe_int (nomark _))))))
    (pss_one (ps_raise rfl (takes_of rfl rfl rfl rfl) (pmk_x X_NoTable (hr.mono (by decide)) rfl (pv 1))))
    pss_nil)
  (pss_cons (ps_set (i := 4) scnumber_ahead.nd rfl (Or.inl rfl) (pe_op op_or (pe_op op_shlW (pv 4) pe_int) (pe_op op_and (pe_ix ix_d (pv 0) (pv 1) (fun _ _ => rfl)) pe_int)))
  (pss_one (ps_aug (i := 1) scnumber_ahead.nd rfl (.inl rfl) pe_int ip_add)))))))
  (pss_one (ps_ret (pe_tup (pa_cons (pv 4) (pa_cons (pv 1) pa_nil))))))))), ?_⟩
    obtain ⟨t, all, i, b, rfl, ht, hi, hl, hb, k⟩ := h
    show (_ : TS) _ [some (.ref t), some (.int (i : Int)), some (.bl b), none, none, none] H
    simp only [r_seq, r_next, r_brk, r_cont, r_asg, r_name, r_ret, r_retN, r_drop, r_ifs, r_never, r_var, r_c, r_op, r_un, r_if, r_tst, r_b, r_not, r_and, r_or, r_andV, r_orV, r_notV, r_nil, r_cons, r_tup, r_lst, r_cb, r_call, r_bm, r_bm0, r_sl, r_nopart, r_part, r_rev, r_gnil, r_gcons, r_gsub, r_par, r_aug, r_chain, r_I0, r_I, r_U, r_ixd, r_lend, r_tupd, r_listd, r_sld, r_app, r_ext, r_reverse, r_setl, r_cat, r_int1, r_eqS, r_neS, scal_ii, scal_bb, scal_ss, at0, at1, at2, sq_lst, sq_tup, isLst_lst, List.getElem?_cons_zero, List.getElem?_cons_succ, List.set_cons_zero, List.set_cons_succ, V.int.injEq, V.bl.injEq, V.ref.injEq, V.str.injEq, HO.lst.injEq, HO.tup.injEq, Option.some.injEq, exists_eq_left', exists_eq_left, List.cons.injEq, and_true, true_and, decide_eq_true_eq, reduceCtorEq, false_and, exists_false, or_false, false_or, exists_const, and_assoc, exists_and_left, List.append_nil, ix0, ix1, ix2, cm_mod, cdw1009, cdw2003, cdw7, cdw64, cdw2, cm104729, cm2, cm3, upd_same, List.length_cons, List.length_nil, Int.reduceLT, Int.reduceLE, Nat.reduceAdd, Nat.reduceLeDiff, Nat.reduceLT, Int.reduceToNat, r_for1, r_forL, r_forT, r_lcL, r_lc1, r_yes, r_gtupD, wipe_0, wipe_1, List.cons_append, List.nil_append, r_forS, r_ipI, ite_false, ite_true, Bool.not_true, Bool.not_false, decide_true, decide_false, r_isd, r_islt, cD_ty, cD_ref, tD_non, tD_bl, tD_int, tD_str, tD_ref, tH_lst, tH_tup, tH_dK, tH_ins, ki_self, ki_int_bool, ki_non_int, ki_str_int, ki_lt_lst, ki_lt_tup, r_fld, r_sfld, HO.ins.injEq, cx_K]
    refine while_d (lvNA H t all i b) (fun σ _ => msNA (all.length + 1) σ) ⟨i, 0, true, rfl, rfl, hi, Nat.le_refl _, Nat.pow_pos (by decide), by simp⟩ ?_
    rintro σ H1 ⟨j, fo, go, rfl, rfl, hj, hij, hfo, inv⟩
    refine ⟨go, fun QT q => ?_, fun cc => ?_, fun cc => ?_⟩
    · simp only [r_seq, r_next, r_brk, r_cont, r_asg, r_name, r_ret, r_retN, r_drop, r_ifs, r_never, r_var, r_c, r_op, r_un, r_if, r_tst, r_b, r_not, r_and, r_or, r_andV, r_orV, r_notV, r_nil, r_cons, r_tup, r_lst, r_cb, r_call, r_bm, r_bm0, r_sl, r_nopart, r_part, r_rev, r_gnil, r_gcons, r_gsub, r_par, r_aug, r_chain, r_I0, r_I, r_U, r_ixd, r_lend, r_tupd, r_listd, r_sld, r_app, r_ext, r_reverse, r_setl, r_cat, r_int1, r_eqS, r_neS, scal_ii, scal_bb, scal_ss, at0, at1, at2, sq_lst, sq_tup, isLst_lst, List.getElem?_cons_zero, List.getElem?_cons_succ, List.set_cons_zero, List.set_cons_succ, V.int.injEq, V.bl.injEq, V.ref.injEq, V.str.injEq, HO.lst.injEq, HO.tup.injEq, Option.some.injEq, exists_eq_left', exists_eq_left, List.cons.injEq, and_true, true_and, decide_eq_true_eq, reduceCtorEq, false_and, exists_false, or_false, false_or, exists_const, and_assoc, exists_and_left, List.append_nil, ix0, ix1, ix2, cm_mod, cdw1009, cdw2003, cdw7, cdw64, cdw2, cm104729, cm2, cm3, upd_same, List.length_cons, List.length_nil, Int.reduceLT, Int.reduceLE, Nat.reduceAdd, Nat.reduceLeDiff, Nat.reduceLT, Int.reduceToNat, r_for1, r_forL, r_forT, r_lcL, r_lc1, r_yes, r_gtupD, wipe_0, wipe_1, List.cons_append, List.nil_append, r_forS, r_ipI, ite_false, ite_true, Bool.not_true, Bool.not_false, decide_true, decide_false, r_isd, r_islt, cD_ty, cD_ref, tD_non, tD_bl, tD_int, tD_str, tD_ref, tH_lst, tH_tup, tH_dK, tH_ins, ki_self, ki_int_bool, ki_non_int, ki_str_int, ki_lt_lst, ki_lt_tup, r_fld, r_sfld, HO.ins.injEq, cx_K]
      exact q
    · subst cc
      rw [if_pos rfl] at inv
      by_cases c : j < all.length
      · have e1 := vn_at c
        have el : ((j : Int) = ((vn all).length : Int)) = False := eq_false (by rw [vn_len]; omega)
        have ei : ((j : Int) = (i : Int)) = (j = i) := propext (by omega)
        have nr := nread_at (b := b) (Nat.lt_of_le_of_lt hij c)
        have cn := contN_at (acc := fo) c
        have hx256 := hb _ (List.getElem_mem c)
        generalize hx : all[j] = x at *
        have e3 : ((128 : Int) ≤ (x : Int)) = (128 ≤ x) := propext (by omega)
        have e4 := bit64n hx256
        have e5 : Builtin.bitAnd (x : Int) 63 = ((x % 64 : Nat) : Int) := by
          rw [bitAnd_m6]
          omega
        have e6 : ((x % 64 : Nat) : Int) = 0 ↔ x % 64 = 0 := by omega
        have e8 : ((j : Nat) : Int) + 1 = ((j + 1 : Nat) : Int) := by omega
        have e9 : CShl (fo : Int) 6 := shl_ok (n := 6 * (j - i)) (j := 6) (by rw [Int.natAbs_natCast, Nat.pow_mul]; exact hfo) (by omega)
        have e7 : Builtin.bitOr ((fo : Int) * 2 ^ 6) ((x % 64 : Nat) : Int) = ((64 * fo + x % 64 : Nat) : Int) := by
          rw [Bits.bitOr_join' (by omega) (by omega) (by omega)]
          omega
        have fail : ∀ v5 : Option V, nread all i b = .error j → tMkO CT (spXInit CT "at") [] (tCons (tVar 1) tNil) [some (.ref t), some (.int (j : Int)), some (.bl b), some (.int (i : Int)), some (.int (fo : Int)), v5] H1 fun cls d H' => E cls d H' := fun v5 e => raise_x (fun Q q => ⟨_, rfl, q⟩) (by rw [e] at k; exact k)
        have good : nread all i b = (if x / 64 % 2 = 0 then .ok (64 * fo + x % 64, j + 1) else contN (64 * fo + x % 64) (j + 1) (all.drop (j + 1))) → lvNA H1 t all i b [some (.ref t), some (.int ((j + 1 : Nat) : Int)), some (.bl b), some (.int (i : Int)), some (.int ((64 * fo + x % 64 : Nat) : Int)), some (.bl (!decide (x / 64 % 2 = 0)))] H1 ∧
            msNA (all.length + 1) [some (.ref t), some (.int ((j + 1 : Nat) : Int)), some (.bl b), some (.int (i : Int)), some (.int ((64 * fo + x % 64 : Nat) : Int)), some (.bl (!decide (x / 64 % 2 = 0)))] < msNA (all.length + 1) [some (.ref t), some (.int (j : Int)), some (.bl b), some (.int (i : Int)), some (.int (fo : Int)), some (.bl true)] := fun e => by
          refine ⟨⟨j + 1, _, _, rfl, rfl, c, by omega, ?_, ?_⟩, ?_⟩
          · rw [show j + 1 - i = (j - i) + 1 from by omega, Nat.pow_succ]
            omega
          · by_cases q : x / 64 % 2 = 0
            · rw [if_neg (by simp [q]), e, if_pos q]
            · rw [if_pos (by simp [q]), if_neg (by omega), e, if_neg q]
          · show all.length + 1 - ((j + 1 : Nat) : Int).toNat < all.length + 1 - ((j : Nat) : Int).toNat
            omega
        have errA : ¬ (128 ≤ x ↔ (b = true ∧ j = i)) → nread all i b = .error j := fun q => by
          by_cases hji : j = i
          · subst hji
            rw [nr, hx, if_pos (.inl (fun z => q (by simpa using z)))]
          · rw [if_neg hji] at inv
            rw [inv, cn, if_pos (by
              by_cases z : 128 ≤ x
              · exact z
              · exact absurd (by simp [z, hji]) q)]
        have errB : j = i → x % 128 = 64 → nread all i b = .error j := fun hji q => by
          subst hji
          rw [nr, hx, if_pos (.inr q)]
        have okA : (128 ≤ x ↔ (b = true ∧ j = i)) → ¬ (j = i ∧ x % 128 = 64) → nread all i b = (if x / 64 % 2 = 0 then .ok (64 * fo + x % 64, j + 1) else contN (64 * fo + x % 64) (j + 1) (all.drop (j + 1))) := fun q1 q2 => by
          by_cases hji : j = i
          · subst hji
            rw [if_pos rfl] at inv
            subst inv
            rw [nr, hx, if_neg (by
              rintro (z | z)
              · exact z (by simpa using q1)
              · exact q2 ⟨rfl, z⟩)]
            simp
          · rw [if_neg hji] at inv
            rw [inv, cn, if_neg (fun z => hji (q1.mp z).2)]
        clear nr cn inv
        simp only [r_seq, r_next, r_brk, r_cont, r_asg, r_name, r_ret, r_retN, r_drop, r_ifs, r_never, r_var, r_c, r_op, r_un, r_if, r_tst, r_b, r_not, r_and, r_or, r_andV, r_orV, r_notV, r_nil, r_cons, r_tup, r_lst, r_cb, r_call, r_bm, r_bm0, r_sl, r_nopart, r_part, r_rev, r_gnil, r_gcons, r_gsub, r_par, r_aug, r_chain, r_I0, r_I, r_U, r_ixd, r_lend, r_tupd, r_listd, r_sld, r_app, r_ext, r_reverse, r_setl, r_cat, r_int1, r_eqS, r_neS, scal_ii, scal_bb, scal_ss, at0, at1, at2, sq_lst, sq_tup, isLst_lst, List.getElem?_cons_zero, List.getElem?_cons_succ, List.set_cons_zero, List.set_cons_succ, V.int.injEq, V.bl.injEq, V.ref.injEq, V.str.injEq, HO.lst.injEq, HO.tup.injEq, Option.some.injEq, exists_eq_left', exists_eq_left, List.cons.injEq, and_true, true_and, decide_eq_true_eq, reduceCtorEq, false_and, exists_false, or_false, false_or, exists_const, and_assoc, exists_and_left, List.append_nil, ix0, ix1, ix2, cm_mod, cdw1009, cdw2003, cdw7, cdw64, cdw2, cm104729, cm2, cm3, upd_same, List.length_cons, List.length_nil, Int.reduceLT, Int.reduceLE, Nat.reduceAdd, Nat.reduceLeDiff, Nat.reduceLT, Int.reduceToNat, r_for1, r_forL, r_forT, r_lcL, r_lc1, r_yes, r_gtupD, wipe_0, wipe_1, List.cons_append, List.nil_append, r_forS, r_ipI, ite_false, ite_true, Bool.not_true, Bool.not_false, decide_true, decide_false, r_isd, r_islt, cD_ty, cD_ref, tD_non, tD_bl, tD_int, tD_str, tD_ref, tH_lst, tH_tup, tH_dK, tH_ins, ki_self, ki_int_bool, ki_non_int, ki_str_int, ki_lt_lst, ki_lt_tup, r_fld, r_sfld, HO.ins.injEq, cx_K, ht, e1, el, ei, e3, e4, e5, e6, e7, e8, e9]
        have hb2 : ∀ q : Bool, (decide (128 ≤ x) = q) = (128 ≤ x ↔ q = true) := fun q => propext (by cases q <;> simp)
        refine ite2 (fun hbt => ?_) fun hbt => ?_
        · refine ite2 (fun q1 => fail _ (errA ?_)) fun q1 => ?_
          · rw [Bool.not_eq_true', decide_eq_false_iff_not, hb2] at q1
            intro z
            exact q1 (z.trans (by simp [hbt]))
          · have q1' : 128 ≤ x ↔ (b = true ∧ j = i) := by
              rw [Bool.not_eq_true', decide_eq_false_iff_not, Classical.not_not, hb2] at q1
              exact q1.trans (by simp [hbt])
            refine ite2 (fun hji => ite2 (fun q2 => ite2 (fun q3 => fail _ (errB hji ?_)) fun q3 => good (okA q1' ?_)) fun q2 => good (okA q1' ?_)) fun hji => good (okA q1' ?_)
            · simp at q2
              omega
            · rintro ⟨_, z⟩
              omega
            · simp at q2
              rintro ⟨_, z⟩
              omega
            · rintro ⟨z, _⟩
              exact hji z
        · refine ite2 (fun q1 => fail _ (errA ?_)) fun q1 => ?_
          · rw [Bool.not_eq_true', decide_eq_false_iff_not, hb2] at q1
            intro z
            exact q1 (z.trans (by simp [hbt]))
          · have q1' : 128 ≤ x ↔ (b = true ∧ j = i) := by
              rw [Bool.not_eq_true', decide_eq_false_iff_not, Classical.not_not, hb2] at q1
              exact q1.trans (by simp [hbt])
            refine ite2 (fun hji => ite2 (fun q2 => ite2 (fun q3 => fail _ (errB hji ?_)) fun q3 => good (okA q1' ?_)) fun q2 => good (okA q1' ?_)) fun hji => good (okA q1' ?_)
            · simp at q2
              omega
            · rintro ⟨_, z⟩
              omega
            · simp at q2
              rintro ⟨_, z⟩
              omega
            · rintro ⟨z, _⟩
              exact hji z
      · have el : ((j : Int) = ((vn all).length : Int)) = True := eq_true (by rw [vn_len]; omega)
        have hji : nread all i b = .error j := by
          by_cases hji : j = i
          · rw [← hji]
            exact nread_end c
          · rw [if_neg hji] at inv
            rw [inv, contN_end c]
        rw [hji] at k
        simp only [r_seq, r_next, r_brk, r_cont, r_asg, r_name, r_ret, r_retN, r_drop, r_ifs, r_never, r_var, r_c, r_op, r_un, r_if, r_tst, r_b, r_not, r_and, r_or, r_andV, r_orV, r_notV, r_nil, r_cons, r_tup, r_lst, r_cb, r_call, r_bm, r_bm0, r_sl, r_nopart, r_part, r_rev, r_gnil, r_gcons, r_gsub, r_par, r_aug, r_chain, r_I0, r_I, r_U, r_ixd, r_lend, r_tupd, r_listd, r_sld, r_app, r_ext, r_reverse, r_setl, r_cat, r_int1, r_eqS, r_neS, scal_ii, scal_bb, scal_ss, at0, at1, at2, sq_lst, sq_tup, isLst_lst, List.getElem?_cons_zero, List.getElem?_cons_succ, List.set_cons_zero, List.set_cons_succ, V.int.injEq, V.bl.injEq, V.ref.injEq, V.str.injEq, HO.lst.injEq, HO.tup.injEq, Option.some.injEq, exists_eq_left', exists_eq_left, List.cons.injEq, and_true, true_and, decide_eq_true_eq, reduceCtorEq, false_and, exists_false, or_false, false_or, exists_const, and_assoc, exists_and_left, List.append_nil, ix0, ix1, ix2, cm_mod, cdw1009, cdw2003, cdw7, cdw64, cdw2, cm104729, cm2, cm3, upd_same, List.length_cons, List.length_nil, Int.reduceLT, Int.reduceLE, Nat.reduceAdd, Nat.reduceLeDiff, Nat.reduceLT, Int.reduceToNat, r_for1, r_forL, r_forT, r_lcL, r_lc1, r_yes, r_gtupD, wipe_0, wipe_1, List.cons_append, List.nil_append, r_forS, r_ipI, ite_false, ite_true, Bool.not_true, Bool.not_false, decide_true, decide_false, r_isd, r_islt, cD_ty, cD_ref, tD_non, tD_bl, tD_int, tD_str, tD_ref, tH_lst, tH_tup, tH_dK, tH_ins, ki_self, ki_int_bool, ki_non_int, ki_str_int, ki_lt_lst, ki_lt_tup, r_fld, r_sfld, HO.ins.injEq, cx_K, ht, el]
        exact raise_x (fun Q q => ⟨_, rfl, q⟩) k
    · subst cc
      rw [if_neg (by decide)] at inv
      rw [inv] at k
      simp only [r_seq, r_next, r_brk, r_cont, r_asg, r_name, r_ret, r_retN, r_drop, r_ifs, r_never, r_var, r_c, r_op, r_un, r_if, r_tst, r_b, r_not, r_and, r_or, r_andV, r_orV, r_notV, r_nil, r_cons, r_tup, r_lst, r_cb, r_call, r_bm, r_bm0, r_sl, r_nopart, r_part, r_rev, r_gnil, r_gcons, r_gsub, r_par, r_aug, r_chain, r_I0, r_I, r_U, r_ixd, r_lend, r_tupd, r_listd, r_sld, r_app, r_ext, r_reverse, r_setl, r_cat, r_int1, r_eqS, r_neS, scal_ii, scal_bb, scal_ss, at0, at1, at2, sq_lst, sq_tup, isLst_lst, List.getElem?_cons_zero, List.getElem?_cons_succ, List.set_cons_zero, List.set_cons_succ, V.int.injEq, V.bl.injEq, V.ref.injEq, V.str.injEq, HO.lst.injEq, HO.tup.injEq, Option.some.injEq, exists_eq_left', exists_eq_left, List.cons.injEq, and_true, true_and, decide_eq_true_eq, reduceCtorEq, false_and, exists_false, or_false, false_or, exists_const, and_assoc, exists_and_left, List.append_nil, ix0, ix1, ix2, cm_mod, cdw1009, cdw2003, cdw7, cdw64, cdw2, cm104729, cm2, cm3, upd_same, List.length_cons, List.length_nil, Int.reduceLT, Int.reduceLE, Nat.reduceAdd, Nat.reduceLeDiff, Nat.reduceLT, Int.reduceToNat, r_for1, r_forL, r_forT, r_lcL, r_lc1, r_yes, r_gtupD, wipe_0, wipe_1, List.cons_append, List.nil_append, r_forS, r_ipI, ite_false, ite_true, Bool.not_true, Bool.not_false, decide_true, decide_false, r_isd, r_islt, cD_ty, cD_ref, tD_non, tD_bl, tD_int, tD_str, tD_ref, tH_lst, tH_tup, tH_dK, tH_ins, ki_self, ki_int_bool, ki_non_int, ki_str_int, ki_lt_lst, ki_lt_tup, r_fld, r_sfld, HO.ins.injEq, cx_K]
      exact ⟨szl (by decide), fun p hp => k p _ hp (Same.new' (Same.refl H1) hp) upd_same⟩
end
end C49

set_option maxHeartbeats 1000000
namespace C49
open PySem PySem.Spec PyProof.Rows L2
/-! ### a def that may raise, as its callers see it -/
structure CalE (P : Program) (w : World) (K : PySem.W.Frag) (mg : Str → Option Value) (base : Heap) (k : Nat) (x : Str) (ps : List Str) (sp : Sp) : Prop where
  ex : ∃ f fd, FnOk P w K mg base (L2.CX P w) k f fd ps sp ∧ mg x = some (.ref f) ∧ PySem.W.keepIn K (.ref f) = true ∧ Binds K fd ps []
theorem pe_calE {X : Cx} {W : WX} {E : XK} {k : Nat} {x : Str} {ps : List Str} {sp : Sp} {e : Expr} {es : List Expr} {t : TA} {p pos : Pos} (C : CalE X.prog X.w X.K X.mg X.base k x ps sp) (hr : Room k X.A) (hg : Gl X x) (tk : Takes X W) (hW : ∀ cls d σ H, E cls d H → W cls d σ H) (ha : PA X (e :: es) t)
    (hdb : (x == ("__debug__" : Str)) = false := by decide) (he : starEach (e :: es) X.env = (false, eval e X.env) :: starEach es X.env := by rfl) (hpl : (backTo pos (starEach es X.env)).any (·.1) = false := by rfl) :
    PE X (.Call (.Name x p) (e :: es) [] pos) (tCall sp [] E t) := by
  obtain ⟨f, fd, F, m, kp, b⟩ := C.ex
  exact pe_call F hr hg m kp b .nil (passes_call tk hW) ha hdb he hpl

/-! ### rows of handlers, read from any bytes -/
theorem contN_ok : ∀ {xs : List Nat} {acc i n j k : Nat}, contN acc i xs = .ok (n, j) → i < j ∧ j ≤ i + xs.length ∧ (acc < 64 ^ k → n < 64 ^ (k + (j - i)))
  | [], acc, i, n, j, k, h => by cases h
  | x :: xs, acc, i, n, j, k, h => by
    have hm : acc < 64 ^ k → 64 * acc + x % 64 < 64 ^ (k + 1) := fun q => by
      rw [Nat.pow_succ]
      omega
    rw [contN] at h
    split at h
    · cases h
    · split at h
      · cases h
        refine ⟨by omega, by simp, fun q => ?_⟩
        rw [show k + (i + 1 - i) = k + 1 from by omega]
        exact hm q
      · obtain ⟨h1, h2, h3⟩ := contN_ok (k := k + 1) h
        refine ⟨by omega, by rw [List.length_cons]; omega, fun q => ?_⟩
        rw [show k + (j - i) = k + 1 + (j - (i + 1)) from by omega]
        exact h3 (hm q)
theorem nread_ok {all : List Nat} {i n j : Nat} {b : Bool} (h : nread all i b = .ok (n, j)) : i < j ∧ j ≤ all.length ∧ n < 64 ^ (j - i) := by
  by_cases c : i < all.length
  · rw [nread_at c] at h
    split at h
    · cases h
    · split at h
      · cases h
        refine ⟨by omega, by omega, ?_⟩
        rw [show i + 1 - i = 1 from by omega, Nat.pow_one]
        exact Nat.mod_lt _ (by decide)
      · obtain ⟨h1, h2, h3⟩ := contN_ok (k := 1) h
        rw [List.length_drop] at h2
        refine ⟨by omega, by omega, ?_⟩
        rw [show j - i = 1 + (j - (i + 1)) from by omega]
        exact h3 (by rw [Nat.pow_one]; exact Nat.mod_lt _ (by decide))
  · rw [nread_end c] at h
    cases h
def numsF (all : List Nat) : Nat → Nat → Bool → Except Nat (List Nat × Nat)
  | 0, i, _ => .ok ([], i)
  | k + 1, i, b => match nread all i b with
    | .error e => .error e
    | .ok (n, j) => match numsF all k j false with
      | .error e => .error e
      | .ok (ns, j2) => .ok (n :: ns, j2)
def preF (ns : List Nat) : Except Nat (List Nat × Nat) → Except Nat (List Nat × Nat)
  | .error e => .error e
  | .ok (ms, j) => .ok (ns ++ ms, j)
def mkRow (a s t l : Nat) : Row := ⟨a, s, t, l / 2, decide (l % 2 = 1)⟩
def row4 (all : List Nat) (i : Nat) : Except Nat (Row × Nat) := match numsF all 4 i true with
  | .error e => .error e
  | .ok ([a, s, t, l], j) => .ok (mkRow a s t l, j)
  | .ok (_, j) => .error j
def hreadF (all : List Nat) : Nat → Nat → Except Nat (List Row)
  | 0, _ => .ok []
  | n + 1, i => if i = all.length then .ok [] else match row4 all i with
    | .error e => .error e
    | .ok (r, j) => match hreadF all n j with
      | .error e => .error e
      | .ok rs => .ok (r :: rs)
def preH (rs : List Row) : Except Nat (List Row) → Except Nat (List Row)
  | .error e => .error e
  | .ok qs => .ok (rs ++ qs)
theorem preH_nil (r : Except Nat (List Row)) : preH [] r = r := by cases r <;> rfl
theorem preF_nil (r : Except Nat (List Nat × Nat)) : preF [] r = r := by
  cases r with
  | error e => rfl
  | ok p => rfl
theorem preF_step {all ns : List Nat} {k i n j : Nat} {b : Bool} (h : nread all i b = .ok (n, j)) : preF ns (numsF all (k + 1) i b) = preF (ns ++ [n]) (numsF all k j false) := by
  rw [numsF, h]
  dsimp only
  cases numsF all k j false with
  | error e => rfl
  | ok p => simp [preF]
theorem preF_fail {all ns : List Nat} {k i j : Nat} {b : Bool} (h : nread all i b = .error j) : preF ns (numsF all (k + 1) i b) = .error j := by
  rw [numsF, h]
  rfl
theorem preH_step {all : List Nat} {rs : List Row} {n i j : Nat} {r : Row} (hi : i ≠ all.length) (h : row4 all i = .ok (r, j)) : preH rs (hreadF all (n + 1) i) = preH (rs ++ [r]) (hreadF all n j) := by
  rw [hreadF, if_neg hi, h]
  dsimp only
  cases hreadF all n j with
  | error e => rfl
  | ok p => simp [preH]
theorem preH_fail {all : List Nat} {rs : List Row} {n i j : Nat} (hi : i ≠ all.length) (h : row4 all i = .error j) : preH rs (hreadF all (n + 1) i) = .error j := by
  rw [hreadF, if_neg hi, h]
  rfl
theorem preH_end {all : List Nat} {rs : List Row} {n : Nat} : preH rs (hreadF all n all.length) = .ok rs := by
  cases n with
  | zero => simp [hreadF, preH]
  | succ n => simp [hreadF, preH]
theorem row4_of {all : List Nat} {i a s t l i1 i2 i3 j : Nat} (h1 : nread all i true = .ok (a, i1)) (h2 : nread all i1 false = .ok (s, i2)) (h3 : nread all i2 false = .ok (t, i3)) (h4 : nread all i3 false = .ok (l, j)) : row4 all i = .ok (mkRow a s t l, j) := by
  unfold row4
  simp only [numsF, h1, h2, h3, h4]
def RowsL (H : Hp) (F : Addr) (Rs : List Row) : Prop := ∃ refs : List Addr, H F = some (.lst (refs.map V.ref)) ∧ Paired (fun r R => H r = some (.tup (rv R))) refs Rs
theorem r_gLst {K : PySem.W.Frag} {n : Nat} {t : TGs} {v : V} {σ : L2.St} {H : Hp} {Q : L2.St → Hp → Prop} : gLst K n t v σ H Q = ∃ a xs, v = .ref a ∧ SqL K H a xs ∧ xs.length = n ∧ t xs σ H Q := rfl
/-- the step on the heap: the found list is written, a new tuple is laid -/
theorem row_put {H0 H : Hp} {F t : Addr} {l : List V} {refs : List Addr} {acc : List Row} {R : Row} (nF : H0 F = none) (s : Same H0 H) (hF : H F = some (.lst l)) (p : Paired (fun r R => H r = some (.tup (rv R))) refs acc) (ht : H t = none) :
    Same H0 (L2.upd (L2.upd H t (.tup (rv R))) F (.lst (refs.map V.ref ++ [.ref t]))) ∧ RowsL (L2.upd (L2.upd H t (.tup (rv R))) F (.lst (refs.map V.ref ++ [.ref t]))) F (acc ++ [R]) := by
  have tF : t ≠ F := new_ne hF ht
  have st : ∀ r (Q : Row), H r = some (.tup (rv Q)) → L2.upd (L2.upd H t (.tup (rv R))) F (.lst (refs.map V.ref ++ [.ref t])) r = some (.tup (rv Q)) := fun r Q e => by
    have rF : r ≠ F := fun z => by rw [z, hF] at e; cases e
    rw [upd_ne rF, upd_ne (ne_new e ht)]
    exact e
  refine ⟨fun b o e => ?_, refs ++ [t], by rw [upd_same, List.map_append]; rfl, Paired.snoc' (Paired.map' p fun a b h => st a b h) ?_⟩
  · rw [upd_ne (ne_new e nF), upd_ne (ne_new (s b o e) ht)]
    exact s b o e
  · rw [upd_ne tF]
    exact upd_same
def spHR : Sp := fun vs H Q _ => ∃ (d : Addr) (all : List Nat), vs = [.ref d] ∧ H d = some (.lst (vn all)) ∧ all.length ≤ 1000 ∧ (∀ j, hreadF all all.length 0 = .error j → ∀ H', Same H H' → Q (.int (j : Int)) H') ∧
  ∀ rs, hreadF all all.length 0 = .ok rs → ∀ F H', H F = none → Same H H' → RowsL H' F rs → Q (.ref F) H'
def lvHR (H : Hp) (d F : Addr) (all : List Nat) (k : Nat) (σ : L2.St) (H' : Hp) : Prop := ∃ (i : Nat) (rs : List Row) (v1 v2 v3 v4 v5 v6 v7 v8 : Option V), σ = [some (.ref d), some (.ref F), some (.int (i : Int)), v1, v2, v3, v4, v5, v6, v7, v8] ∧ Same H H' ∧ RowsL H' F rs ∧ rs.length ≤ k ∧ i ≤ all.length ∧ preH rs (hreadF all (all.length - k) i) = hreadF all all.length 0
def lvHI (H : Hp) (d F p : Addr) (all : List Nat) (i0 : Nat) (k : Nat) (σ : L2.St) (H' : Hp) : Prop := ∃ (i : Nat) (ns : List Nat) (v1 v3 v4 v5 v6 v7 v8 : Option V), σ = [some (.ref d), some (.ref F), some (.int (i : Int)), v1, some (.ref p), v3, v4, v5, v6, v7, v8] ∧ (∀ b o, b ≠ p → H b = some o → H' b = some o) ∧ H' p = some (.lst (vn ns)) ∧ ns.length = k ∧ k ≤ 4 ∧ i ≤ all.length ∧
  preF ns (numsF all (4 - k) i (decide (k = 0))) = numsF all 4 i0 true
section
variable {P : Program} {w : World} {K : PySem.W.Frag} {mg : Str → Option Value} {base : Heap} {f : Addr} {fd : FuncData}
abbrev shandlers_read : Stmt := top 46
theorem schandlers_read : FnScope ["_law_data", "_law_found", "_law_at", "_law_turn", "_law_numbers", "_law_k", "_law_number", "_law_low", "_law_size", "_law_target", "_law_last"] ["_law_data"] (defScope shandlers_read) := ⟨rfl, rfl, rfl, by decide +kernel, rfl, by decide +kernel, by decide +kernel⟩

theorem ok_handlers_read (T : Txt mg) (F : FnP K "_law_handlers_read" "_law_handlers_read" shandlers_read f fd) (C_number_read : Cal P w K mg base 1 "_law_number_read" ["_law_data", "_law_at", "_law_is_first"] spNR) : FnOk P w K mg base CX0 2 f fd ["_law_data"] spHR := by
  refine F.ok schandlers_read (fun vs H Q E h => ?_) (fun cdv A outer s H vs Q E hr h => ?_)
  · obtain ⟨d, all, rfl, _⟩ := h
    rfl
  · obtain ⟨d, all, rfl, hd, hl, ke, kr⟩ := h
    refine ⟨_, PSs.nox (pss_cons (ps_par (i := 1) (j := 2) (by rfl) schandlers_read.nd rfl rfl (by decide) rfl rfl (pa_cons (pe_lst pa_nil) (pa_cons pe_int pa_nil)) (by rfl))
  (pss_cons (ps_for PassesOwn.never rfl (pi_range1 rfl T.b_range (pa_cons (pe_callB call_len_d (by rfl) T.b_len (by decide +kernel) (pa_cons (pv 0) pa_nil)) pa_nil)) (pg_name (i := 3) schandlers_read.nd rfl (Or.inl rfl))
    (pss_cons (ps_if (pt_cmpR op_eq (pv 2) (pe_callB call_len_d (by rfl) T.b_len (by decide +kernel) (pa_cons (pv 0) pa_nil)) (nomark _))
    (pss_one (ps_ret (pv 1)))
    pss_nil)
  (pss_cons (ps_set (i := 4) schandlers_read.nd rfl (Or.inl rfl) (pe_lst pa_nil))
  (pss_cons (ps_for PassesOwn.never rfl (pi_range1 rfl T.b_range (pa_cons pe_int pa_nil)) (pg_name (i := 5) schandlers_read.nd rfl (Or.inl rfl))
    (pss_cons (ps_asg (pe_cal C_number_read (hr.mono (by decide)) rfl (pa_cons (pv 0) (pa_cons (pv 2) (pa_cons (pe_cmpR op_eq (pv 5) pe_int (nomark _)) pa_nil)))) (pg_tupD (n := 2) rfl (pgs_cons (pg_name (i := 6) schandlers_read.nd rfl (Or.inl rfl)) (pgs_cons (pg_name (i := 2) schandlers_read.nd rfl (Or.inl rfl)) pgs_nil))))
  (pss_cons (ps_if (pt_cmpR op_isN (pv 6) pe_non (nomark _))
    (pss_one (ps_ret (pv 2)))
    pss_nil)
  (pss_one (ps_expr (pe_bm PySem.F.plainAttrs_list PySem.F.slot_list_append PySem.F.type_list_append mt_append (pv 4) (pa_cons (pv 6) pa_nil)))))))
  (pss_cons (ps_asg (pv 4) (pg_lst (n := 4) rfl (pgs_cons (pg_name (i := 7) schandlers_read.nd rfl (Or.inl rfl)) (pgs_cons (pg_name (i := 8) schandlers_read.nd rfl (Or.inl rfl)) (pgs_cons (pg_name (i := 9) schandlers_read.nd rfl (Or.inl rfl)) (pgs_cons (pg_name (i := 10) schandlers_read.nd rfl (Or.inl rfl)) pgs_nil))))))
  (pss_one (ps_expr (pe_bm PySem.F.plainAttrs_list PySem.F.slot_list_append PySem.F.type_list_append mt_append (pv 1) (pa_cons (pe_tup (pa_cons (pe_op op_mul pe_int (pv 7)) (pa_cons (pe_op op_add (pe_op op_mul pe_int (pv 7)) (pe_op op_mul pe_int (pv 8))) (pa_cons (pe_op op_mul pe_int (pv 9)) (pa_cons (pe_op op_fdivW (pv 10) pe_int) (pa_cons (pe_cmpR op_eq (pe_op op_mod (pe_callTy call_int1 (by rfl) T.b_int (by decide +kernel) (pa_cons (pv 10) pa_nil)) pe_int) pe_int (nomark _)) pa_nil)))))) pa_nil)))))))))
  (pss_one (ps_ret (pv 1))))), ?_⟩
    show (_ : TS) _ [some (.ref d), none, none, none, none, none, none, none, none, none, none] H
    simp only [r_seq, r_next, r_brk, r_cont, r_asg, r_name, r_ret, r_retN, r_drop, r_ifs, r_never, r_var, r_c, r_op, r_un, r_if, r_tst, r_b, r_not, r_and, r_or, r_andV, r_orV, r_notV, r_nil, r_cons, r_tup, r_lst, r_cb, r_call, r_bm, r_bm0, r_sl, r_nopart, r_part, r_rev, r_gnil, r_gcons, r_gsub, r_par, r_aug, r_chain, r_I0, r_I, r_U, r_ixd, r_lend, r_tupd, r_listd, r_sld, r_app, r_ext, r_reverse, r_setl, r_cat, r_int1, r_eqS, r_neS, scal_ii, scal_bb, scal_ss, at0, at1, at2, sq_lst, sq_tup, isLst_lst, List.getElem?_cons_zero, List.getElem?_cons_succ, List.set_cons_zero, List.set_cons_succ, V.int.injEq, V.bl.injEq, V.ref.injEq, V.str.injEq, HO.lst.injEq, HO.tup.injEq, Option.some.injEq, exists_eq_left', exists_eq_left, List.cons.injEq, and_true, true_and, decide_eq_true_eq, reduceCtorEq, false_and, exists_false, or_false, false_or, exists_const, and_assoc, exists_and_left, List.append_nil, ix0, ix1, ix2, cm_mod, cdw1009, cdw2003, cdw7, cdw64, cdw2, cm104729, cm2, cm3, upd_same, List.length_cons, List.length_nil, Int.reduceLT, Int.reduceLE, Nat.reduceAdd, Nat.reduceLeDiff, Nat.reduceLT, Int.reduceToNat, r_for1, r_forL, r_forT, r_lcL, r_lc1, r_yes, r_gtupD, wipe_0, wipe_1, List.cons_append, List.nil_append, r_forS, r_ipI, ite_false, ite_true, Bool.not_true, Bool.not_false, decide_true, decide_false, r_isd, r_islt, cD_ty, cD_ref, tD_non, tD_bl, tD_int, tD_str, tD_ref, tH_lst, tH_tup, tH_dK, tH_ins, ki_self, ki_int_bool, ki_non_int, ki_str_int, ki_lt_lst, ki_lt_tup, r_fld, r_sfld, HO.ins.injEq, cx_K, hd]
    refine ⟨szl (by decide), fun F hF => ?_⟩
    have dF : d ≠ F := ne_new hd hF
    simp only [r_seq, r_next, r_brk, r_cont, r_asg, r_name, r_ret, r_retN, r_drop, r_ifs, r_never, r_var, r_c, r_op, r_un, r_if, r_tst, r_b, r_not, r_and, r_or, r_andV, r_orV, r_notV, r_nil, r_cons, r_tup, r_lst, r_cb, r_call, r_bm, r_bm0, r_sl, r_nopart, r_part, r_rev, r_gnil, r_gcons, r_gsub, r_par, r_aug, r_chain, r_I0, r_I, r_U, r_ixd, r_lend, r_tupd, r_listd, r_sld, r_app, r_ext, r_reverse, r_setl, r_cat, r_int1, r_eqS, r_neS, scal_ii, scal_bb, scal_ss, at0, at1, at2, sq_lst, sq_tup, isLst_lst, List.getElem?_cons_zero, List.getElem?_cons_succ, List.set_cons_zero, List.set_cons_succ, V.int.injEq, V.bl.injEq, V.ref.injEq, V.str.injEq, HO.lst.injEq, HO.tup.injEq, Option.some.injEq, exists_eq_left', exists_eq_left, List.cons.injEq, and_true, true_and, decide_eq_true_eq, reduceCtorEq, false_and, exists_false, or_false, false_or, exists_const, and_assoc, exists_and_left, List.append_nil, ix0, ix1, ix2, cm_mod, cdw1009, cdw2003, cdw7, cdw64, cdw2, cm104729, cm2, cm3, upd_same, List.length_cons, List.length_nil, Int.reduceLT, Int.reduceLE, Nat.reduceAdd, Nat.reduceLeDiff, Nat.reduceLT, Int.reduceToNat, r_for1, r_forL, r_forT, r_lcL, r_lc1, r_yes, r_gtupD, wipe_0, wipe_1, List.cons_append, List.nil_append, r_forS, r_ipI, ite_false, ite_true, Bool.not_true, Bool.not_false, decide_true, decide_false, r_isd, r_islt, cD_ty, cD_ref, tD_non, tD_bl, tD_int, tD_str, tD_ref, tH_lst, tH_tup, tH_dK, tH_ins, ki_self, ki_int_bool, ki_non_int, ki_str_int, ki_lt_lst, ki_lt_tup, r_fld, r_sfld, HO.ins.injEq, cx_K, hd, (une dF), vn_len, Int.toNat_natCast]
    refine ⟨by omega, by omega, lp_rng (n := all.length) (lvHR H d F all) ⟨0, [], _, _, _, _, _, _, _, _, rfl, Same.new' (Same.refl H) hF, ⟨[], upd_same, .nil⟩, Nat.zero_le _, Nat.zero_le _, by rw [preH_nil, Nat.sub_zero]⟩ ?_ ?_⟩
    · rintro k σ H1 hk ⟨i, rs, v1, v2, v3, v4, v5, v6, v7, v8, rfl, s1, rows, hrs, hi, inv⟩
      have hd1 := s1 _ _ hd
      have ei : ((i : Int) = (all.length : Int)) = (i = all.length) := propext (by omega)
      simp only [r_seq, r_next, r_brk, r_cont, r_asg, r_name, r_ret, r_retN, r_drop, r_ifs, r_never, r_var, r_c, r_op, r_un, r_if, r_tst, r_b, r_not, r_and, r_or, r_andV, r_orV, r_notV, r_nil, r_cons, r_tup, r_lst, r_cb, r_call, r_bm, r_bm0, r_sl, r_nopart, r_part, r_rev, r_gnil, r_gcons, r_gsub, r_par, r_aug, r_chain, r_I0, r_I, r_U, r_ixd, r_lend, r_tupd, r_listd, r_sld, r_app, r_ext, r_reverse, r_setl, r_cat, r_int1, r_eqS, r_neS, scal_ii, scal_bb, scal_ss, at0, at1, at2, sq_lst, sq_tup, isLst_lst, List.getElem?_cons_zero, List.getElem?_cons_succ, List.set_cons_zero, List.set_cons_succ, V.int.injEq, V.bl.injEq, V.ref.injEq, V.str.injEq, HO.lst.injEq, HO.tup.injEq, Option.some.injEq, exists_eq_left', exists_eq_left, List.cons.injEq, and_true, true_and, decide_eq_true_eq, reduceCtorEq, false_and, exists_false, or_false, false_or, exists_const, and_assoc, exists_and_left, List.append_nil, ix0, ix1, ix2, cm_mod, cdw1009, cdw2003, cdw7, cdw64, cdw2, cm104729, cm2, cm3, upd_same, List.length_cons, List.length_nil, Int.reduceLT, Int.reduceLE, Nat.reduceAdd, Nat.reduceLeDiff, Nat.reduceLT, Int.reduceToNat, r_for1, r_forL, r_forT, r_lcL, r_lc1, r_yes, r_gtupD, wipe_0, wipe_1, List.cons_append, List.nil_append, r_forS, r_ipI, ite_false, ite_true, Bool.not_true, Bool.not_false, decide_true, decide_false, r_isd, r_islt, cD_ty, cD_ref, tD_non, tD_bl, tD_int, tD_str, tD_ref, tH_lst, tH_tup, tH_dK, tH_ins, ki_self, ki_int_bool, ki_non_int, ki_str_int, ki_lt_lst, ki_lt_tup, r_fld, r_sfld, HO.ins.injEq, cx_K, hd1, vn_len, ei]
      refine ite2 (fun q => ?_) fun q => ?_
      · subst q
        rw [preH_end] at inv
        exact kr rs inv.symm F H1 hF s1 rows
      · refine ⟨szl (by decide), fun p hp => ⟨by decide, by decide, ?_⟩⟩
        have Fp : F ≠ p := by
          obtain ⟨refs, e, _⟩ := rows
          exact ne_new e hp
        have dp : d ≠ p := ne_new hd1 hp
        have un1 : numsF all 4 i true = numsF all 4 i true := rfl
        refine lp_rng (n := 4) (lvHI H1 d F p all i) ⟨i, [], _, _, _, _, _, _, _, rfl, fun b o n e => by rw [upd_ne n]; exact e, by rw [upd_same]; rfl, rfl, by decide, hi, by rw [preF_nil]; rfl⟩ ?_ ?_
        · rintro m σ H2 hm ⟨i1, ns, v1, v3, v4, v5, v6, v7, v8, rfl, kp, hp2, hns, h4, hi1, iv⟩
          have hd2 := kp _ _ dp hd1
          simp only [r_seq, r_next, r_brk, r_cont, r_asg, r_name, r_ret, r_retN, r_drop, r_ifs, r_never, r_var, r_c, r_op, r_un, r_if, r_tst, r_b, r_not, r_and, r_or, r_andV, r_orV, r_notV, r_nil, r_cons, r_tup, r_lst, r_cb, r_call, r_bm, r_bm0, r_sl, r_nopart, r_part, r_rev, r_gnil, r_gcons, r_gsub, r_par, r_aug, r_chain, r_I0, r_I, r_U, r_ixd, r_lend, r_tupd, r_listd, r_sld, r_app, r_ext, r_reverse, r_setl, r_cat, r_int1, r_eqS, r_neS, scal_ii, scal_bb, scal_ss, at0, at1, at2, sq_lst, sq_tup, isLst_lst, List.getElem?_cons_zero, List.getElem?_cons_succ, List.set_cons_zero, List.set_cons_succ, V.int.injEq, V.bl.injEq, V.ref.injEq, V.str.injEq, HO.lst.injEq, HO.tup.injEq, Option.some.injEq, exists_eq_left', exists_eq_left, List.cons.injEq, and_true, true_and, decide_eq_true_eq, reduceCtorEq, false_and, exists_false, or_false, false_or, exists_const, and_assoc, exists_and_left, List.append_nil, ix0, ix1, ix2, cm_mod, cdw1009, cdw2003, cdw7, cdw64, cdw2, cm104729, cm2, cm3, upd_same, List.length_cons, List.length_nil, Int.reduceLT, Int.reduceLE, Nat.reduceAdd, Nat.reduceLeDiff, Nat.reduceLT, Int.reduceToNat, r_for1, r_forL, r_forT, r_lcL, r_lc1, r_yes, r_gtupD, wipe_0, wipe_1, List.cons_append, List.nil_append, r_forS, r_ipI, ite_false, ite_true, Bool.not_true, Bool.not_false, decide_true, decide_false, r_isd, r_islt, cD_ty, cD_ref, tD_non, tD_bl, tD_int, tD_str, tD_ref, tH_lst, tH_tup, tH_dK, tH_ins, ki_self, ki_int_bool, ki_non_int, ki_str_int, ki_lt_lst, ki_lt_tup, r_fld, r_sfld, HO.ins.injEq, cx_K, hd2, hp2]
          obtain ⟨t4, e4⟩ : ∃ t4, 4 - m = t4 + 1 := ⟨3 - m, by omega⟩
          rw [e4] at iv
          have em : decide ((m : Int) = 0) = decide (m = 0) := decide_eq_decide.mpr (by omega)
          have sH : Same H H2 := fun b o e => kp b o (ne_new (s1 b o e) hp) (s1 b o e)
          obtain ⟨k', ek⟩ : ∃ k', all.length - k = k' + 1 := ⟨all.length - k - 1, by omega⟩
          rw [em]
          refine ⟨d, all, i1, _, rfl, hd2, hi1, hl, fun p2 H3 hp2' s3 h3 => ?_⟩
          cases e : nread all i1 (decide (m = 0)) with
          | error j =>
            rw [e] at h3
            refine ⟨p2, rfl, _, h3, rfl, _, _, rfl, _, _, rfl, rfl, ?_⟩
            rw [if_pos rfl]
            rw [preF_fail e] at iv
            have r4 : row4 all i = .error j := by
              unfold row4
              rw [← iv]
            rw [ek, preH_fail q r4] at inv
            exact ke j inv.symm H3 (fun b o e => s3 b o (sH b o e))
          | ok nj =>
            obtain ⟨n, j⟩ := nj
            rw [e] at h3
            refine ⟨p2, rfl, _, h3, rfl, _, _, rfl, _, _, rfl, rfl, ?_⟩
            rw [if_neg (fun z => nomatch z)]
            have hp3 := s3 _ _ hp2
            obtain ⟨n1, n2, n3⟩ := nread_ok e
            rw [preF_step e] at iv
            refine ⟨tyl hp3, _, hp3, Nat.lt_of_le_of_lt (by rw [vn_len]; omega : _ ≤ 1000) (by decide), j, ns ++ [n], _, _, _, _, _, _, _, rfl, fun b o nb eb => ?_, ?_, by rw [List.length_append, hns]; rfl, by omega, n2, ?_⟩
            · rw [upd_ne nb]
              exact s3 b o (kp b o nb eb)
            · rw [upd_same, vn_app]
              rfl
            · rw [show 4 - (m + 1) = t4 from by omega, show decide (m + 1 = 0) = false from rfl]
              exact iv
        · rintro σ H2 ⟨i1, ns, v1, v3, v4, v5, v6, v7, v8, rfl, kp, hp2, hns, h4, hi1, iv⟩
          have sH : Same H H2 := fun b o e => kp b o (ne_new (s1 b o e) hp) (s1 b o e)
          obtain ⟨k', ek⟩ : ∃ k', all.length - k = k' + 1 := ⟨all.length - k - 1, by omega⟩
          obtain ⟨na, nb, nc, nd, rfl⟩ : ∃ a b c d, ns = [a, b, c, d] := by
            match ns, hns with
            | [a, b, c, d], _ => exact ⟨a, b, c, d, rfl⟩
          have r4 : row4 all i = .ok (mkRow na nb nc nd, i1) := by
            unfold row4
            rw [← iv]
            rfl
          rw [ek, preH_step q r4] at inv
          obtain ⟨refs, hF1, pF⟩ := rows
          have hF2 := kp _ _ Fp hF1
          have pF2 : Paired (fun r R => H2 r = some (.tup (rv R))) refs rs := Paired.map' pF fun r R e => kp _ _ (ne_new e hp) e
          have lr := Paired.length pF2
          have a1 : 2 * (na : Int) = ((2 * na : Nat) : Int) := by omega
          have a2 : ((2 * na : Nat) : Int) + 2 * (nb : Int) = ((2 * (na + nb) : Nat) : Int) := by omega
          have a3 : 2 * (nc : Int) = ((2 * nc : Nat) : Int) := by omega
          have a4 : (nd : Int) / 2 = ((nd / 2 : Nat) : Int) := by omega
          have a5 : decide ((nd : Int) % 2 = 1) = decide (nd % 2 = 1) := decide_eq_decide.mpr (by omega)
          simp only [r_seq, r_next, r_brk, r_cont, r_asg, r_name, r_ret, r_retN, r_drop, r_ifs, r_never, r_var, r_c, r_op, r_un, r_if, r_tst, r_b, r_not, r_and, r_or, r_andV, r_orV, r_notV, r_nil, r_cons, r_tup, r_lst, r_cb, r_call, r_bm, r_bm0, r_sl, r_nopart, r_part, r_rev, r_gnil, r_gcons, r_gsub, r_par, r_aug, r_chain, r_I0, r_I, r_U, r_ixd, r_lend, r_tupd, r_listd, r_sld, r_app, r_ext, r_reverse, r_setl, r_cat, r_int1, r_eqS, r_neS, scal_ii, scal_bb, scal_ss, at0, at1, at2, sq_lst, sq_tup, isLst_lst, List.getElem?_cons_zero, List.getElem?_cons_succ, List.set_cons_zero, List.set_cons_succ, V.int.injEq, V.bl.injEq, V.ref.injEq, V.str.injEq, HO.lst.injEq, HO.tup.injEq, Option.some.injEq, exists_eq_left', exists_eq_left, List.cons.injEq, and_true, true_and, decide_eq_true_eq, reduceCtorEq, false_and, exists_false, or_false, false_or, exists_const, and_assoc, exists_and_left, List.append_nil, ix0, ix1, ix2, cm_mod, cdw1009, cdw2003, cdw7, cdw64, cdw2, cm104729, cm2, cm3, upd_same, List.length_cons, List.length_nil, Int.reduceLT, Int.reduceLE, Nat.reduceAdd, Nat.reduceLeDiff, Nat.reduceLT, Int.reduceToNat, r_for1, r_forL, r_forT, r_lcL, r_lc1, r_yes, r_gtupD, wipe_0, wipe_1, List.cons_append, List.nil_append, r_forS, r_ipI, ite_false, ite_true, Bool.not_true, Bool.not_false, decide_true, decide_false, r_isd, r_islt, cD_ty, cD_ref, tD_non, tD_bl, tD_int, tD_str, tD_ref, tH_lst, tH_tup, tH_dK, tH_ins, ki_self, ki_int_bool, ki_non_int, ki_str_int, ki_lt_lst, ki_lt_tup, r_fld, r_sfld, HO.ins.injEq, cx_K, r_gLst]
          refine ⟨_, SqL.of hp2, rfl, ?_⟩
          simp only [r_seq, r_next, r_brk, r_cont, r_asg, r_name, r_ret, r_retN, r_drop, r_ifs, r_never, r_var, r_c, r_op, r_un, r_if, r_tst, r_b, r_not, r_and, r_or, r_andV, r_orV, r_notV, r_nil, r_cons, r_tup, r_lst, r_cb, r_call, r_bm, r_bm0, r_sl, r_nopart, r_part, r_rev, r_gnil, r_gcons, r_gsub, r_par, r_aug, r_chain, r_I0, r_I, r_U, r_ixd, r_lend, r_tupd, r_listd, r_sld, r_app, r_ext, r_reverse, r_setl, r_cat, r_int1, r_eqS, r_neS, scal_ii, scal_bb, scal_ss, at0, at1, at2, sq_lst, sq_tup, isLst_lst, List.getElem?_cons_zero, List.getElem?_cons_succ, List.set_cons_zero, List.set_cons_succ, V.int.injEq, V.bl.injEq, V.ref.injEq, V.str.injEq, HO.lst.injEq, HO.tup.injEq, Option.some.injEq, exists_eq_left', exists_eq_left, List.cons.injEq, and_true, true_and, decide_eq_true_eq, reduceCtorEq, false_and, exists_false, or_false, false_or, exists_const, and_assoc, exists_and_left, List.append_nil, ix0, ix1, ix2, cm_mod, cdw1009, cdw2003, cdw7, cdw64, cdw2, cm104729, cm2, cm3, upd_same, List.length_cons, List.length_nil, Int.reduceLT, Int.reduceLE, Nat.reduceAdd, Nat.reduceLeDiff, Nat.reduceLT, Int.reduceToNat, r_for1, r_forL, r_forT, r_lcL, r_lc1, r_yes, r_gtupD, wipe_0, wipe_1, List.cons_append, List.nil_append, r_forS, r_ipI, ite_false, ite_true, Bool.not_true, Bool.not_false, decide_true, decide_false, r_isd, r_islt, cD_ty, cD_ref, tD_non, tD_bl, tD_int, tD_str, tD_ref, tH_lst, tH_tup, tH_dK, tH_ins, ki_self, ki_int_bool, ki_non_int, ki_str_int, ki_lt_lst, ki_lt_tup, r_fld, r_sfld, HO.ins.injEq, cx_K, hF2, tyV_lst, a1, a2, a3, a4, a5, vn, List.map_cons, List.map_nil]
          refine ⟨szl (by decide), fun p3 hp3 => ⟨_, by rw [upd_ne (ne_new hF2 hp3)]; exact hF2, Nat.lt_of_le_of_lt (by rw [List.length_map, lr]; omega : _ ≤ 1000) (by decide), ?_⟩⟩
          have s3 := row_put (R := mkRow na nb nc nd) hF sH hF2 pF2 hp3
          exact ⟨i1, _, _, _, _, _, _, _, _, _, rfl, s3.1, s3.2, by rw [List.length_append]; show rs.length + 1 ≤ k + 1; omega, hi1, by rw [show all.length - (k + 1) = k' from by omega]; exact inv⟩
    · rintro σ H1 ⟨i, rs, v1, v2, v3, v4, v5, v6, v7, v8, rfl, s1, rows, hrs, hi, inv⟩
      rw [Nat.sub_self] at inv
      simp only [r_seq, r_next, r_brk, r_cont, r_asg, r_name, r_ret, r_retN, r_drop, r_ifs, r_never, r_var, r_c, r_op, r_un, r_if, r_tst, r_b, r_not, r_and, r_or, r_andV, r_orV, r_notV, r_nil, r_cons, r_tup, r_lst, r_cb, r_call, r_bm, r_bm0, r_sl, r_nopart, r_part, r_rev, r_gnil, r_gcons, r_gsub, r_par, r_aug, r_chain, r_I0, r_I, r_U, r_ixd, r_lend, r_tupd, r_listd, r_sld, r_app, r_ext, r_reverse, r_setl, r_cat, r_int1, r_eqS, r_neS, scal_ii, scal_bb, scal_ss, at0, at1, at2, sq_lst, sq_tup, isLst_lst, List.getElem?_cons_zero, List.getElem?_cons_succ, List.set_cons_zero, List.set_cons_succ, V.int.injEq, V.bl.injEq, V.ref.injEq, V.str.injEq, HO.lst.injEq, HO.tup.injEq, Option.some.injEq, exists_eq_left', exists_eq_left, List.cons.injEq, and_true, true_and, decide_eq_true_eq, reduceCtorEq, false_and, exists_false, or_false, false_or, exists_const, and_assoc, exists_and_left, List.append_nil, ix0, ix1, ix2, cm_mod, cdw1009, cdw2003, cdw7, cdw64, cdw2, cm104729, cm2, cm3, upd_same, List.length_cons, List.length_nil, Int.reduceLT, Int.reduceLE, Nat.reduceAdd, Nat.reduceLeDiff, Nat.reduceLT, Int.reduceToNat, r_for1, r_forL, r_forT, r_lcL, r_lc1, r_yes, r_gtupD, wipe_0, wipe_1, List.cons_append, List.nil_append, r_forS, r_ipI, ite_false, ite_true, Bool.not_true, Bool.not_false, decide_true, decide_false, r_isd, r_islt, cD_ty, cD_ref, tD_non, tD_bl, tD_int, tD_str, tD_ref, tH_lst, tH_tup, tH_dK, tH_ins, ki_self, ki_int_bool, ki_non_int, ki_str_int, ki_lt_lst, ki_lt_tup, r_fld, r_sfld, HO.ins.injEq, cx_K]
      exact kr rs (by rw [← inv]; simp [hreadF, preH]) F H1 hF s1 rows
/-- what the program makes of a table of handlers -/
def OutH (CT : Addr) (H : Hp) (Q : VK) (E : XK) : Except Nat (List Row) → Prop
  | .error j => ∀ d H', H d = none → Same H H' → H' d = some (.xd [("at", .int (j : Int))]) → E (.ref CT) (some d) H'
  | .ok rs => ∀ F H', H F = none → Same H H' → RowsL H' F rs → Q (.ref F) H'
end
/-- what is known of the class Code -/
structure CodeT (K : PySem.W.Frag) (mg : Str → Option Value) (C : Addr) : Prop where
  cI : ClsI K C
  g_Code : mg "Code" = some (.ref C)
  no : ∀ t ∈ ["NoneType", "int", "bool", "str", "list", "tuple", "dict"], PySem.W.kitOne K (.type t) (.ref C) = some false
  na : ∀ f ∈ (["argcount", "onlycount", "stacksize", "flags", "code", "depth", "constants", "names", "slots", "kinds", "name", "path", "line", "lines", "handlers", "identity"] : List Str), NoAttr K C f
def spExc (CC CT : Addr) : Sp := fun vs H Q E => ∃ (c dx : Addr) (fs : List (Str × V)) (t : Addr) (all : List Nat), vs = [.ref c] ∧ H c = some (.ins CC dx fs) ∧ fs.lookup ("handlers" : Str) = some (.ref t) ∧ H t = some (.tup (vn all)) ∧ all.length ≤ 1000 ∧ (∀ n ∈ all, n < 256) ∧ OutH CT H Q E (hreadF all all.length 0)
def lvEx (H : Hp) (c t F : Addr) (all : List Nat) (σ : L2.St) (H' : Hp) : Prop := ∃ (i n : Nat) (rs : List Row) (v1 v2 v3 v4 : Option V), σ = [some (.ref c), some (.ref t), some (.ref F), some (.int (i : Int)), v1, v2, v3, v4] ∧ Same H H' ∧ RowsL H' F rs ∧ rs.length ≤ i ∧ i ≤ all.length ∧ all.length - i ≤ n ∧ preH rs (hreadF all n i) = hreadF all all.length 0
def msEx (m : Nat) (σ : L2.St) : Nat := match σ with
  | _ :: _ :: _ :: some (.int a) :: _ => m - a.toNat
  | _ => 0
section
variable {P : Program} {w : World} {K : PySem.W.Frag} {mg : Str → Option Value} {base : Heap} {f : Addr} {fd : FuncData}
abbrev sexception_rows : Stmt := top 29
theorem scexception_rows : FnScope ["code", "table", "found", "at", "begin", "size", "target", "last"] ["code"] (defScope sexception_rows) := ⟨rfl, rfl, rfl, by decide +kernel, rfl, by decide +kernel, by decide +kernel⟩

theorem ok_exception_rows {CC CT : Addr} (T : Txt mg) (I : CodeT K mg CC) (F : FnP K "exception_rows" "exception_rows" sexception_rows f fd)
    (CX_number_ahead : CalE P w K mg base 3 "number_ahead" ["table", "at", "begins"] (spNA CT)) : FnOk P w K mg base (CX P w) 4 f fd ["code"] (spExc CC CT) := by
  refine F.ok scexception_rows (fun vs H Q E h => ?_) (fun cdv A outer s H vs Q E hr h => ?_)
  · obtain ⟨c, dx, fs, t, all, rfl, _⟩ := h
    rfl
  · refine ⟨_, (pss_cons (ps_if (pt_not (pt_val (pe_callB (call_is_d I.cI) (by rfl) T.b_isinstance (by decide +kernel) (pa_cons (pv 0) (pa_cons (pe_glob (v := .ref _) rfl I.g_Code rfl) pa_nil)))))
    (pss_one ps_never)
    pss_nil)
  (pss_cons (ps_set (i := 1) scexception_rows.nd rfl (Or.inl rfl) (pe_fld (pv 0) rfl))
  (pss_cons (ps_set (i := 2) scexception_rows.nd rfl (Or.inl rfl) (pe_lst pa_nil))
  (pss_cons (ps_set (i := 3) scexception_rows.nd rfl (Or.inl rfl) pe_int)
  (pss_cons (ps_while (passes_of rfl) (pt_cmpR op_lt (pv 3) (pe_callB call_len_d (by rfl) T.b_len (by decide +kernel) (pa_cons (pv 1) pa_nil)) (nomark _))
    (pss_cons (ps_asg (pe_calE CX_number_ahead (hr.mono (by decide)) rfl (takes_of rfl rfl rfl rfl) (fun _ _ _ _ z => z) (pa_cons (pv 1) (pa_cons (pv 3) (pa_cons pe_bl pa_nil)))) (pg_tupD (n := 2) rfl (pgs_cons (pg_name (i := 4) scexception_rows.nd rfl (Or.inl rfl)) (pgs_cons (pg_name (i := 3) scexception_rows.nd rfl (Or.inl rfl)) pgs_nil))))
  (pss_cons (ps_asg (pe_calE CX_number_ahead (hr.mono (by decide)) rfl (takes_of rfl rfl rfl rfl) (fun _ _ _ _ z => z) (pa_cons (pv 1) (pa_cons (pv 3) (pa_cons pe_bl pa_nil)))) (pg_tupD (n := 2) rfl (pgs_cons (pg_name (i := 5) scexception_rows.nd rfl (Or.inl rfl)) (pgs_cons (pg_name (i := 3) scexception_rows.nd rfl (Or.inl rfl)) pgs_nil))))
  (pss_cons (ps_asg (pe_calE CX_number_ahead (hr.mono (by decide)) rfl (takes_of rfl rfl rfl rfl) (fun _ _ _ _ z => z) (pa_cons (pv 1) (pa_cons (pv 3) (pa_cons pe_bl pa_nil)))) (pg_tupD (n := 2) rfl (pgs_cons (pg_name (i := 6) scexception_rows.nd rfl (Or.inl rfl)) (pgs_cons (pg_name (i := 3) scexception_rows.nd rfl (Or.inl rfl)) pgs_nil))))
  (pss_cons (ps_asg (pe_calE CX_number_ahead (hr.mono (by decide)) rfl (takes_of rfl rfl rfl rfl) (fun _ _ _ _ z => z) (pa_cons (pv 1) (pa_cons (pv 3) (pa_cons pe_bl pa_nil)))) (pg_tupD (n := 2) rfl (pgs_cons (pg_name (i := 7) scexception_rows.nd rfl (Or.inl rfl)) (pgs_cons (pg_name (i := 3) scexception_rows.nd rfl (Or.inl rfl)) pgs_nil))))
  (pss_one (ps_expr (pe_bm PySem.F.plainAttrs_list PySem.F.slot_list_append PySem.F.type_list_append mt_append (pv 2) (pa_cons (pe_tup (pa_cons (pe_op op_mul pe_int (pv 4)) (pa_cons (pe_op op_mul pe_int (pe_op op_add (pv 4) (pv 5))) (pa_cons (pe_op op_mul pe_int (pv 6)) (pa_cons (pe_op op_shr (pv 7) pe_int) (pa_cons (pe_cmpR op_eq (pe_op op_and (pv 7) pe_int) pe_int (nomark _)) pa_nil)))))) pa_nil)))))))))
  (pss_one (ps_ret (pv 2)))))))), ?_⟩
    obtain ⟨c, dx, fs, t, all, rfl, hc, hh, ht, hl, hb, k⟩ := h
    show (_ : TS) _ [some (.ref c), none, none, none, none, none, none, none] H
    have na := I.na "handlers" (by decide)
    have cl := I.cI.cl
    simp only [r_seq, r_next, r_brk, r_cont, r_asg, r_name, r_ret, r_retN, r_drop, r_ifs, r_never, r_var, r_c, r_op, r_un, r_if, r_tst, r_b, r_not, r_and, r_or, r_andV, r_orV, r_notV, r_nil, r_cons, r_tup, r_lst, r_cb, r_call, r_bm, r_bm0, r_sl, r_nopart, r_part, r_rev, r_gnil, r_gcons, r_gsub, r_par, r_aug, r_chain, r_I0, r_I, r_U, r_ixd, r_lend, r_tupd, r_listd, r_sld, r_app, r_ext, r_reverse, r_setl, r_cat, r_int1, r_eqS, r_neS, scal_ii, scal_bb, scal_ss, at0, at1, at2, sq_lst, sq_tup, isLst_lst, List.getElem?_cons_zero, List.getElem?_cons_succ, List.set_cons_zero, List.set_cons_succ, V.int.injEq, V.bl.injEq, V.ref.injEq, V.str.injEq, HO.lst.injEq, HO.tup.injEq, Option.some.injEq, exists_eq_left', exists_eq_left, List.cons.injEq, and_true, true_and, decide_eq_true_eq, reduceCtorEq, false_and, exists_false, or_false, false_or, exists_const, and_assoc, exists_and_left, List.append_nil, ix0, ix1, ix2, cm_mod, cdw1009, cdw2003, cdw7, cdw64, cdw2, cm104729, cm2, cm3, upd_same, List.length_cons, List.length_nil, Int.reduceLT, Int.reduceLE, Nat.reduceAdd, Nat.reduceLeDiff, Nat.reduceLT, Int.reduceToNat, r_for1, r_forL, r_forT, r_lcL, r_lc1, r_yes, r_gtupD, wipe_0, wipe_1, List.cons_append, List.nil_append, r_forS, r_ipI, ite_false, ite_true, Bool.not_true, Bool.not_false, decide_true, decide_false, r_isd, r_islt, cD_ty, cD_ref, tD_non, tD_bl, tD_int, tD_str, tD_ref, tH_lst, tH_tup, tH_dK, tH_ins, ki_self, ki_int_bool, ki_non_int, ki_str_int, ki_lt_lst, ki_lt_tup, r_fld, r_sfld, HO.ins.injEq, cx_K, hc, hh, na, cl]
    refine ⟨Nat.zero_le _, fun F hF => ?_⟩
    have FH : ∀ {b : Addr} {o : HO}, H b = some o → b ≠ F := fun e => ne_new e hF
    refine while_d (lvEx H c t F all) (fun σ _ => msEx all.length σ) ⟨0, all.length, [], _, _, _, _, rfl, Same.new' (Same.refl H) hF, ⟨[], upd_same, .nil⟩, Nat.zero_le _, Nat.zero_le _, by omega, preH_nil _⟩ ?_
    rintro σ H1 ⟨i, n, rs, v1, v2, v3, v4, rfl, s1, rows, hrs, hi, hn, inv⟩
    have ht1 := s1 t _ ht
    refine ⟨decide (i < all.length), fun QT q => ?_, fun cc => ?_, fun cc => ?_⟩
    · have e : decide ((i : Int) < ((vn all).length : Int)) = decide (i < all.length) := decide_eq_decide.mpr (by rw [vn_len]; omega)
      simp only [r_seq, r_next, r_brk, r_cont, r_asg, r_name, r_ret, r_retN, r_drop, r_ifs, r_never, r_var, r_c, r_op, r_un, r_if, r_tst, r_b, r_not, r_and, r_or, r_andV, r_orV, r_notV, r_nil, r_cons, r_tup, r_lst, r_cb, r_call, r_bm, r_bm0, r_sl, r_nopart, r_part, r_rev, r_gnil, r_gcons, r_gsub, r_par, r_aug, r_chain, r_I0, r_I, r_U, r_ixd, r_lend, r_tupd, r_listd, r_sld, r_app, r_ext, r_reverse, r_setl, r_cat, r_int1, r_eqS, r_neS, scal_ii, scal_bb, scal_ss, at0, at1, at2, sq_lst, sq_tup, isLst_lst, List.getElem?_cons_zero, List.getElem?_cons_succ, List.set_cons_zero, List.set_cons_succ, V.int.injEq, V.bl.injEq, V.ref.injEq, V.str.injEq, HO.lst.injEq, HO.tup.injEq, Option.some.injEq, exists_eq_left', exists_eq_left, List.cons.injEq, and_true, true_and, decide_eq_true_eq, reduceCtorEq, false_and, exists_false, or_false, false_or, exists_const, and_assoc, exists_and_left, List.append_nil, ix0, ix1, ix2, cm_mod, cdw1009, cdw2003, cdw7, cdw64, cdw2, cm104729, cm2, cm3, upd_same, List.length_cons, List.length_nil, Int.reduceLT, Int.reduceLE, Nat.reduceAdd, Nat.reduceLeDiff, Nat.reduceLT, Int.reduceToNat, r_for1, r_forL, r_forT, r_lcL, r_lc1, r_yes, r_gtupD, wipe_0, wipe_1, List.cons_append, List.nil_append, r_forS, r_ipI, ite_false, ite_true, Bool.not_true, Bool.not_false, decide_true, decide_false, r_isd, r_islt, cD_ty, cD_ref, tD_non, tD_bl, tD_int, tD_str, tD_ref, tH_lst, tH_tup, tH_dK, tH_ins, ki_self, ki_int_bool, ki_non_int, ki_str_int, ki_lt_lst, ki_lt_tup, r_fld, r_sfld, HO.ins.injEq, cx_K, ht1, e]
      exact q
    · have c0 : i < all.length := of_decide_eq_true cc
      simp only [r_seq, r_next, r_brk, r_cont, r_asg, r_name, r_ret, r_retN, r_drop, r_ifs, r_never, r_var, r_c, r_op, r_un, r_if, r_tst, r_b, r_not, r_and, r_or, r_andV, r_orV, r_notV, r_nil, r_cons, r_tup, r_lst, r_cb, r_call, r_bm, r_bm0, r_sl, r_nopart, r_part, r_rev, r_gnil, r_gcons, r_gsub, r_par, r_aug, r_chain, r_I0, r_I, r_U, r_ixd, r_lend, r_tupd, r_listd, r_sld, r_app, r_ext, r_reverse, r_setl, r_cat, r_int1, r_eqS, r_neS, scal_ii, scal_bb, scal_ss, at0, at1, at2, sq_lst, sq_tup, isLst_lst, List.getElem?_cons_zero, List.getElem?_cons_succ, List.set_cons_zero, List.set_cons_succ, V.int.injEq, V.bl.injEq, V.ref.injEq, V.str.injEq, HO.lst.injEq, HO.tup.injEq, Option.some.injEq, exists_eq_left', exists_eq_left, List.cons.injEq, and_true, true_and, decide_eq_true_eq, reduceCtorEq, false_and, exists_false, or_false, false_or, exists_const, and_assoc, exists_and_left, List.append_nil, ix0, ix1, ix2, cm_mod, cdw1009, cdw2003, cdw7, cdw64, cdw2, cm104729, cm2, cm3, upd_same, List.length_cons, List.length_nil, Int.reduceLT, Int.reduceLE, Nat.reduceAdd, Nat.reduceLeDiff, Nat.reduceLT, Int.reduceToNat, r_for1, r_forL, r_forT, r_lcL, r_lc1, r_yes, r_gtupD, wipe_0, wipe_1, List.cons_append, List.nil_append, r_forS, r_ipI, ite_false, ite_true, Bool.not_true, Bool.not_false, decide_true, decide_false, r_isd, r_islt, cD_ty, cD_ref, tD_non, tD_bl, tD_int, tD_str, tD_ref, tH_lst, tH_tup, tH_dK, tH_ins, ki_self, ki_int_bool, ki_non_int, ki_str_int, ki_lt_lst, ki_lt_tup, r_fld, r_sfld, HO.ins.injEq, cx_K]
      obtain ⟨n', rfl⟩ : ∃ n', n = n' + 1 := ⟨n - 1, by omega⟩
      have err : ∀ {j : Nat} {Hx : Hp}, Same H1 Hx → row4 all i = .error j → ∀ d H', Hx d = none → Same Hx H' → H' d = some (.xd [("at", .int (j : Int))]) → E (.ref CT) (some d) H' := fun {j Hx} sx r4 d H' hd s h => by
        rw [preH_fail (by omega) r4] at inv
        rw [← inv] at k
        exact k d H' ((s1.trans sx).free hd) ((s1.trans sx).trans s) h
      have at1 : ∀ {Hx : Hp}, Same H1 Hx → Hx t = some (.tup (vn all)) := fun s => s _ _ ht1
      cases e1 : nread all i true with
      | error j => exact ⟨t, all, i, true, rfl, ht1, hi, hl, hb, by rw [e1]; exact err (Same.refl H1) (by unfold row4; simp only [numsF, e1])⟩
      | ok p1 =>
        obtain ⟨a, i1⟩ := p1
        obtain ⟨q1, q2, _⟩ := nread_ok e1
        refine ⟨t, all, i, true, rfl, ht1, hi, hl, hb, ?_⟩
        rw [e1]
        refine fun p2 H2 hp2 s2 h2 => ⟨p2, rfl, _, h2, rfl, _, _, rfl, _, _, rfl, rfl, ?_⟩
        cases e2 : nread all i1 false with
        | error j => exact ⟨t, all, i1, false, rfl, at1 s2, q2, hl, hb, by rw [e2]; exact err s2 (by unfold row4; simp only [numsF, e1, e2])⟩
        | ok p2' =>
          obtain ⟨s, i2⟩ := p2'
          obtain ⟨q3, q4, _⟩ := nread_ok e2
          refine ⟨t, all, i1, false, rfl, at1 s2, q2, hl, hb, ?_⟩
          rw [e2]
          refine fun p3 H3 hp3 s3 h3 => ⟨p3, rfl, _, h3, rfl, _, _, rfl, _, _, rfl, rfl, ?_⟩
          have s3' := s2.trans s3
          cases e3 : nread all i2 false with
          | error j => exact ⟨t, all, i2, false, rfl, at1 s3', q4, hl, hb, by rw [e3]; exact err s3' (by unfold row4; simp only [numsF, e1, e2, e3])⟩
          | ok p3' =>
            obtain ⟨tt, i3⟩ := p3'
            obtain ⟨q5, q6, _⟩ := nread_ok e3
            refine ⟨t, all, i2, false, rfl, at1 s3', q4, hl, hb, ?_⟩
            rw [e3]
            refine fun p4 H4 hp4 s4 h4 => ⟨p4, rfl, _, h4, rfl, _, _, rfl, _, _, rfl, rfl, ?_⟩
            have s4' := s3'.trans s4
            cases e4 : nread all i3 false with
            | error j => exact ⟨t, all, i3, false, rfl, at1 s4', q6, hl, hb, by rw [e4]; exact err s4' (by unfold row4; simp only [numsF, e1, e2, e3, e4])⟩
            | ok p4' =>
              obtain ⟨l, i4⟩ := p4'
              obtain ⟨q7, q8, _⟩ := nread_ok e4
              refine ⟨t, all, i3, false, rfl, at1 s4', q6, hl, hb, ?_⟩
              rw [e4]
              refine fun p5 H5 hp5 s5 h5 => ⟨p5, rfl, _, h5, rfl, _, _, rfl, _, _, rfl, rfl, ?_⟩
              have s5' := s4'.trans s5
              have r4 := row4_of e1 e2 e3 e4
              rw [preH_step (by omega) r4] at inv
              obtain ⟨refs, hF1, pF⟩ := rows
              have hF5 := s5' _ _ hF1
              have pF5 : Paired (fun r R => H5 r = some (.tup (rv R))) refs rs := Paired.map' pF fun r R e => s5' _ _ e
              have lr := Paired.length pF5
              have a1 : 2 * (a : Int) = ((2 * a : Nat) : Int) := by omega
              have a2 : 2 * ((a : Int) + (s : Int)) = ((2 * (a + s) : Nat) : Int) := by omega
              have a3 : 2 * (tt : Int) = ((2 * tt : Nat) : Int) := by omega
              have a4 : (l : Int) / 2 ^ 1 = ((l / 2 : Nat) : Int) := by omega
              have a5 : decide ((l : Int) % 2 = 1) = decide (l % 2 = 1) := decide_eq_decide.mpr (by omega)
              simp only [r_seq, r_next, r_brk, r_cont, r_asg, r_name, r_ret, r_retN, r_drop, r_ifs, r_never, r_var, r_c, r_op, r_un, r_if, r_tst, r_b, r_not, r_and, r_or, r_andV, r_orV, r_notV, r_nil, r_cons, r_tup, r_lst, r_cb, r_call, r_bm, r_bm0, r_sl, r_nopart, r_part, r_rev, r_gnil, r_gcons, r_gsub, r_par, r_aug, r_chain, r_I0, r_I, r_U, r_ixd, r_lend, r_tupd, r_listd, r_sld, r_app, r_ext, r_reverse, r_setl, r_cat, r_int1, r_eqS, r_neS, scal_ii, scal_bb, scal_ss, at0, at1, at2, sq_lst, sq_tup, isLst_lst, List.getElem?_cons_zero, List.getElem?_cons_succ, List.set_cons_zero, List.set_cons_succ, V.int.injEq, V.bl.injEq, V.ref.injEq, V.str.injEq, HO.lst.injEq, HO.tup.injEq, Option.some.injEq, exists_eq_left', exists_eq_left, List.cons.injEq, and_true, true_and, decide_eq_true_eq, reduceCtorEq, false_and, exists_false, or_false, false_or, exists_const, and_assoc, exists_and_left, List.append_nil, ix0, ix1, ix2, cm_mod, cdw1009, cdw2003, cdw7, cdw64, cdw2, cm104729, cm2, cm3, upd_same, List.length_cons, List.length_nil, Int.reduceLT, Int.reduceLE, Nat.reduceAdd, Nat.reduceLeDiff, Nat.reduceLT, Int.reduceToNat, r_for1, r_forL, r_forT, r_lcL, r_lc1, r_yes, r_gtupD, wipe_0, wipe_1, List.cons_append, List.nil_append, r_forS, r_ipI, ite_false, ite_true, Bool.not_true, Bool.not_false, decide_true, decide_false, r_isd, r_islt, cD_ty, cD_ref, tD_non, tD_bl, tD_int, tD_str, tD_ref, tH_lst, tH_tup, tH_dK, tH_ins, ki_self, ki_int_bool, ki_non_int, ki_str_int, ki_lt_lst, ki_lt_tup, r_fld, r_sfld, HO.ins.injEq, cx_K, hF5, tyV_lst, a1, a2, a3, a4, bitAnd_m1, a5]
              refine ⟨szl (by decide), fun p hp => ⟨_, by rw [upd_ne (ne_new hF5 hp)]; exact hF5, Nat.lt_of_le_of_lt (by rw [List.length_map, lr]; omega : _ ≤ 1000) (by decide), ?_, ?_⟩⟩
              · have s6 := row_put (R := mkRow a s tt l) hF (s1.trans s5') hF5 pF5 hp
                exact ⟨i4, n', _, _, _, _, _, rfl, s6.1, s6.2, by rw [List.length_append]; show rs.length + 1 ≤ i4; omega, q8, by omega, inv⟩
              · show all.length - ((i4 : Nat) : Int).toNat < all.length - ((i : Nat) : Int).toNat
                omega
    · have c0 : i = all.length := by
        have := of_decide_eq_false cc
        omega
      subst c0
      rw [preH_end] at inv
      rw [← inv] at k
      simp only [r_seq, r_next, r_brk, r_cont, r_asg, r_name, r_ret, r_retN, r_drop, r_ifs, r_never, r_var, r_c, r_op, r_un, r_if, r_tst, r_b, r_not, r_and, r_or, r_andV, r_orV, r_notV, r_nil, r_cons, r_tup, r_lst, r_cb, r_call, r_bm, r_bm0, r_sl, r_nopart, r_part, r_rev, r_gnil, r_gcons, r_gsub, r_par, r_aug, r_chain, r_I0, r_I, r_U, r_ixd, r_lend, r_tupd, r_listd, r_sld, r_app, r_ext, r_reverse, r_setl, r_cat, r_int1, r_eqS, r_neS, scal_ii, scal_bb, scal_ss, at0, at1, at2, sq_lst, sq_tup, isLst_lst, List.getElem?_cons_zero, List.getElem?_cons_succ, List.set_cons_zero, List.set_cons_succ, V.int.injEq, V.bl.injEq, V.ref.injEq, V.str.injEq, HO.lst.injEq, HO.tup.injEq, Option.some.injEq, exists_eq_left', exists_eq_left, List.cons.injEq, and_true, true_and, decide_eq_true_eq, reduceCtorEq, false_and, exists_false, or_false, false_or, exists_const, and_assoc, exists_and_left, List.append_nil, ix0, ix1, ix2, cm_mod, cdw1009, cdw2003, cdw7, cdw64, cdw2, cm104729, cm2, cm3, upd_same, List.length_cons, List.length_nil, Int.reduceLT, Int.reduceLE, Nat.reduceAdd, Nat.reduceLeDiff, Nat.reduceLT, Int.reduceToNat, r_for1, r_forL, r_forT, r_lcL, r_lc1, r_yes, r_gtupD, wipe_0, wipe_1, List.cons_append, List.nil_append, r_forS, r_ipI, ite_false, ite_true, Bool.not_true, Bool.not_false, decide_true, decide_false, r_isd, r_islt, cD_ty, cD_ref, tD_non, tD_bl, tD_int, tD_str, tD_ref, tH_lst, tH_tup, tH_dK, tH_ins, ki_self, ki_int_bool, ki_non_int, ki_str_int, ki_lt_lst, ki_lt_tup, r_fld, r_sfld, HO.ins.injEq, cx_K]
      exact k F H1 hF s1 rows
end
end C49

set_option maxHeartbeats 1000000
namespace C49
open PySem PySem.Spec PyProof.Rows L2
/-! ### a signed number of a table of lines, read at any place -/
def contS (num k i : Nat) : List Nat → Except Nat (Nat × Nat)
  | [] => .error i
  | x :: xs => if 128 ≤ x then .error i else if x < 64 then (if (x = 0 ∧ 0 < k) ∨ num + 64 ^ k * (x % 64) = 1 then .error i else .ok (num + 64 ^ k * (x % 64), i + 1)) else contS (num + 64 ^ k * (x % 64)) (k + 1) (i + 1) xs
def sread (all : List Nat) (i : Nat) : Except Nat (Nat × Nat) := contS 0 0 i (all.drop i)
theorem contS_at {all : List Nat} {num k i : Nat} (h : i < all.length) : contS num k i (all.drop i) = if 128 ≤ all[i] then .error i else if all[i] < 64 then (if (all[i] = 0 ∧ 0 < k) ∨ num + 64 ^ k * (all[i] % 64) = 1 then .error i else .ok (num + 64 ^ k * (all[i] % 64), i + 1)) else contS (num + 64 ^ k * (all[i] % 64)) (k + 1) (i + 1) (all.drop (i + 1)) := by
  rw [drop_at h]
  rfl
theorem contS_end {all : List Nat} {num k i : Nat} (h : ¬ i < all.length) : contS num k i (all.drop i) = .error i := by
  rw [drop_end h]
  rfl
theorem contS_ok : ∀ {xs : List Nat} {num k i m j : Nat}, contS num k i xs = .ok (m, j) → i < j ∧ j ≤ i + xs.length ∧ (num < 64 ^ k → m < 64 ^ (k + (j - i)))
  | [], num, k, i, m, j, h => by cases h
  | x :: xs, num, k, i, m, j, h => by
    have hm : num < 64 ^ k → num + 64 ^ k * (x % 64) < 64 ^ (k + 1) := fun q => by
      have : 64 ^ k * (x % 64) ≤ 64 ^ k * 63 := Nat.mul_le_mul_left _ (by omega)
      rw [Nat.pow_succ]
      omega
    rw [contS] at h
    split at h
    · cases h
    · split at h
      · split at h
        · cases h
        · cases h
          refine ⟨by omega, by simp, fun q => ?_⟩
          rw [show k + (i + 1 - i) = k + 1 from by omega]
          exact hm q
      · obtain ⟨h1, h2, h3⟩ := contS_ok h
        refine ⟨by omega, by rw [List.length_cons]; omega, fun q => ?_⟩
        rw [show k + (j - i) = k + 1 + (j - (i + 1)) from by omega]
        exact h3 (hm q)
theorem sread_ok {all : List Nat} {i m j : Nat} (h : sread all i = .ok (m, j)) : i < j ∧ j ≤ all.length ∧ m < 64 ^ (j - i) := by
  obtain ⟨h1, h2, h3⟩ := contS_ok h
  rw [List.length_drop] at h2
  have h4 := h3 (by decide)
  rw [Nat.zero_add] at h4
  refine ⟨h1, ?_, h4⟩
  by_cases c : i < all.length
  · omega
  · unfold sread at h
    rw [contS_end c] at h
    cases h
def zag (m : Nat) : Int := if m % 2 = 0 then ((m / 2 : Nat) : Int) else -((m / 2 : Nat) : Int)
def resS : Except Nat (Nat × Nat) → List V
  | .error j => [.non, .int (j : Int)]
  | .ok (m, j) => [.int (zag m), .int (j : Int)]
def spSR : Sp := fun vs H Q _ => ∃ (d : Addr) (all : List Nat) (i : Nat), vs = [.ref d, .int (i : Int)] ∧ H d = some (.lst (vn all)) ∧ i ≤ all.length ∧ all.length ≤ 1000 ∧ ∀ p H', H p = none → Same H H' → H' p = some (.tup (resS (sread all i))) → Q (.ref p) H'
def lvSR (H : Hp) (d : Addr) (all : List Nat) (i : Nat) (k : Nat) (σ : L2.St) (H' : Hp) : Prop := ∃ (num at_ : Nat) (v : Option V), σ = [some (.ref d), some (.int (at_ : Int)), some (.int (num : Int)), some (.int ((64 ^ k : Nat) : Int)), v] ∧ H' = H ∧ at_ = i + k ∧ at_ ≤ all.length ∧ sread all i = contS num k at_ (all.drop at_)
section
variable {P : Program} {w : World} {K : PySem.W.Frag} {mg : Str → Option Value} {base : Heap} {f : Addr} {fd : FuncData}
abbrev ssigned_read : Stmt := top 47
theorem scsigned_read : FnScope ["_law_data", "_law_at", "_law_number", "_law_value", "_law_k"] ["_law_data", "_law_at"] (defScope ssigned_read) := ⟨rfl, rfl, rfl, by decide +kernel, rfl, by decide +kernel, by decide +kernel⟩

abbrev ssigned_number : Stmt := top 33
theorem scsigned_number : FnScope ["table", "at", "first", "found", "goes_on"] ["table", "at"] (defScope ssigned_number) := ⟨rfl, rfl, rfl, by decide +kernel, rfl, by decide +kernel, by decide +kernel⟩

theorem ok_signed_read (T : Txt mg) (F : FnP K "_law_signed_read" "_law_signed_read" ssigned_read f fd) : FnOk P w K mg base CX0 1 f fd ["_law_data", "_law_at"] spSR := by
  refine F.ok scsigned_read (fun vs H Q E h => ?_) (fun cdv A outer s H vs Q E hr h => ?_)
  · obtain ⟨d, all, i, rfl, _⟩ := h
    rfl
  · obtain ⟨d, all, i, rfl, hd, hi, hl, k⟩ := h
    refine ⟨_, PSs.nox (pss_cons (ps_asg (pe_tup (pa_cons pe_int (pa_cons pe_int pa_nil))) (pg_tupD (n := 2) rfl (pgs_cons (pg_name (i := 2) scsigned_read.nd rfl (Or.inl rfl)) (pgs_cons (pg_name (i := 3) scsigned_read.nd rfl (Or.inl rfl)) pgs_nil))))
  (pss_cons (ps_for PassesOwn.never rfl (pi_range1 rfl T.b_range (pa_cons (pe_op op_add (pe_callB call_len_d (by rfl) T.b_len (by decide +kernel) (pa_cons (pv 0) pa_nil)) pe_int) pa_nil)) (pg_name (i := 4) scsigned_read.nd rfl (Or.inl rfl))
    (pss_cons (ps_if (PW.pt (pw_or (pt_cmpR op_eq (pv 1) (pe_callB call_len_d (by rfl) T.b_len (by decide +kernel) (pa_cons (pv 0) pa_nil)) (nomark _)) (pw_or1 (pt_cmpR op_ge (pe_ix ix_d (pv 0) (pv 1) (fun _ _ => rfl)) pe_int (nomark _)))))
    (pss_one (ps_ret (pe_tup (pa_cons pe_non (pa_cons (pv 1) pa_nil)))))
    pss_nil)
  (pss_cons (ps_set (i := 2) scsigned_read.nd rfl (Or.inl rfl) (pe_op op_add (pv 2) (pe_op op_mul (pv 3) (pe_op op_mod (pe_callTy call_int1 (by rfl) T.b_int (by decide +kernel) (pa_cons (pe_ix ix_d (pv 0) (pv 1) (fun _ _ => rfl)) pa_nil)) pe_int))))
  (pss_cons (ps_if (pt_cmpR op_lt (pe_ix ix_d (pv 0) (pv 1) (fun _ _ => rfl)) pe_int (nomark _))
    (pss_cons (ps_if (PW.pt (pw_or (PW.pt (pw_and (pt_cmpR op_eq (pe_ix ix_d (pv 0) (pv 1) (fun _ _ => rfl)) pe_int (nomark _)) (pw_and1 (pt_cmpR op_gt (pv 4) pe_int (nomark _))))) (pw_or1 (pt_cmpR op_eq (pv 2) pe_int (nomark _)))))
    (pss_one (ps_ret (pe_tup (pa_cons pe_non (pa_cons (pv 1) pa_nil)))))
    pss_nil)
  (pss_one (ps_ret (pe_tup (pa_cons (pe_ifExp (pt_cmpR op_eq (pe_op op_mod (pe_callTy call_int1 (by rfl) T.b_int (by decide +kernel) (pa_cons (pv 2) pa_nil)) pe_int) pe_int (nomark _)) (pe_op op_fdivW (pv 2) pe_int) (pe_op op_sub pe_int (pe_op op_fdivW (pv 2) pe_int))) (pa_cons (pe_op op_add (pv 1) pe_int) pa_nil))))))
    pss_nil)
  (pss_one (ps_par (i := 1) (j := 3) (by rfl) scsigned_read.nd rfl rfl (by decide) rfl rfl (pa_cons (pe_op op_add (pv 1) pe_int) (pa_cons (pe_op op_mul pe_int (pv 3)) pa_nil)) (by rfl)))))))
  (pss_one (ps_ret (pe_tup (pa_cons pe_non (pa_cons (pv 1) pa_nil))))))), ?_⟩
    show (_ : TS) _ [some (.ref d), some (.int (i : Int)), none, none, none] H
    simp only [r_seq, r_next, r_brk, r_cont, r_asg, r_name, r_ret, r_retN, r_drop, r_ifs, r_never, r_var, r_c, r_op, r_un, r_if, r_tst, r_b, r_not, r_and, r_or, r_andV, r_orV, r_notV, r_nil, r_cons, r_tup, r_lst, r_cb, r_call, r_bm, r_bm0, r_sl, r_nopart, r_part, r_rev, r_gnil, r_gcons, r_gsub, r_par, r_aug, r_chain, r_I0, r_I, r_U, r_ixd, r_lend, r_tupd, r_listd, r_sld, r_app, r_ext, r_reverse, r_setl, r_cat, r_int1, r_eqS, r_neS, scal_ii, scal_bb, scal_ss, at0, at1, at2, sq_lst, sq_tup, isLst_lst, List.getElem?_cons_zero, List.getElem?_cons_succ, List.set_cons_zero, List.set_cons_succ, V.int.injEq, V.bl.injEq, V.ref.injEq, V.str.injEq, HO.lst.injEq, HO.tup.injEq, Option.some.injEq, exists_eq_left', exists_eq_left, List.cons.injEq, and_true, true_and, decide_eq_true_eq, reduceCtorEq, false_and, exists_false, or_false, false_or, exists_const, and_assoc, exists_and_left, List.append_nil, ix0, ix1, ix2, cm_mod, cdw1009, cdw2003, cdw7, cdw64, cdw2, cm104729, cm2, cm3, upd_same, List.length_cons, List.length_nil, Int.reduceLT, Int.reduceLE, Nat.reduceAdd, Nat.reduceLeDiff, Nat.reduceLT, Int.reduceToNat, r_for1, r_forL, r_forT, r_lcL, r_lc1, r_yes, r_gtupD, wipe_0, wipe_1, List.cons_append, List.nil_append, r_forS, r_ipI, ite_false, ite_true, Bool.not_true, Bool.not_false, decide_true, decide_false, r_isd, r_islt, cD_ty, cD_ref, tD_non, tD_bl, tD_int, tD_str, tD_ref, tH_lst, tH_tup, tH_dK, tH_ins, ki_self, ki_int_bool, ki_non_int, ki_str_int, ki_lt_lst, ki_lt_tup, r_fld, r_sfld, HO.ins.injEq, cx_K]
    refine ⟨szl (by decide), fun p0 hp0 => ?_⟩
    have s0 := Same.new' (o := .tup [.int 0, .int 1]) (Same.refl H) hp0
    have hd := s0 _ _ hd
    have k : ∀ p H', L2.upd H p0 (.tup [.int 0, .int 1]) p = none → Same (L2.upd H p0 (.tup [.int 0, .int 1])) H' → H' p = some (.tup (resS (sread all i))) → Q (.ref p) H' := fun p H' hp s h => k p H' (s0.free hp) (s0.trans s) h
    clear s0 hp0
    generalize L2.upd H p0 (.tup [.int 0, .int 1]) = H at *
    have give : ∀ (r : Except Nat (Nat × Nat)), sread all i = r → 2 ≤ sizeLine ∧ ∀ p, H p = none → Q (.ref p) (L2.upd H p (.tup (resS r))) := fun r e => ⟨szl (by decide), fun p hp => k p _ hp (Same.new' (Same.refl H) hp) (by rw [upd_same, e])⟩
    have el : ((vn all).length : Int) + 1 = ((all.length + 1 : Nat) : Int) := by rw [vn_len]; omega
    simp only [r_seq, r_next, r_brk, r_cont, r_asg, r_name, r_ret, r_retN, r_drop, r_ifs, r_never, r_var, r_c, r_op, r_un, r_if, r_tst, r_b, r_not, r_and, r_or, r_andV, r_orV, r_notV, r_nil, r_cons, r_tup, r_lst, r_cb, r_call, r_bm, r_bm0, r_sl, r_nopart, r_part, r_rev, r_gnil, r_gcons, r_gsub, r_par, r_aug, r_chain, r_I0, r_I, r_U, r_ixd, r_lend, r_tupd, r_listd, r_sld, r_app, r_ext, r_reverse, r_setl, r_cat, r_int1, r_eqS, r_neS, scal_ii, scal_bb, scal_ss, at0, at1, at2, sq_lst, sq_tup, isLst_lst, List.getElem?_cons_zero, List.getElem?_cons_succ, List.set_cons_zero, List.set_cons_succ, V.int.injEq, V.bl.injEq, V.ref.injEq, V.str.injEq, HO.lst.injEq, HO.tup.injEq, Option.some.injEq, exists_eq_left', exists_eq_left, List.cons.injEq, and_true, true_and, decide_eq_true_eq, reduceCtorEq, false_and, exists_false, or_false, false_or, exists_const, and_assoc, exists_and_left, List.append_nil, ix0, ix1, ix2, cm_mod, cdw1009, cdw2003, cdw7, cdw64, cdw2, cm104729, cm2, cm3, upd_same, List.length_cons, List.length_nil, Int.reduceLT, Int.reduceLE, Nat.reduceAdd, Nat.reduceLeDiff, Nat.reduceLT, Int.reduceToNat, r_for1, r_forL, r_forT, r_lcL, r_lc1, r_yes, r_gtupD, wipe_0, wipe_1, List.cons_append, List.nil_append, r_forS, r_ipI, ite_false, ite_true, Bool.not_true, Bool.not_false, decide_true, decide_false, r_isd, r_islt, cD_ty, cD_ref, tD_non, tD_bl, tD_int, tD_str, tD_ref, tH_lst, tH_tup, tH_dK, tH_ins, ki_self, ki_int_bool, ki_non_int, ki_str_int, ki_lt_lst, ki_lt_tup, r_fld, r_sfld, HO.ins.injEq, cx_K, hd, el, Int.toNat_natCast]
    refine ⟨by omega, by omega, lp_rng (n := all.length + 1) (lvSR H d all i) ⟨0, i, _, rfl, rfl, rfl, hi, rfl⟩ ?_ ?_⟩
    · rintro kk σ H1 hk ⟨num, j, v, rfl, rfl, ej, hj, ij⟩
      by_cases c : j < all.length
      · have f1 := vn_at c
        have f2 : ((j : Int) = ((vn all).length : Int)) = False := eq_false (by rw [vn_len]; omega)
        rw [contS_at c] at ij
        generalize all[j] = x at *
        have f3 : ((128 : Int) ≤ (x : Int)) = (128 ≤ x) := propext (by omega)
        have f4 : (num : Int) + ((64 ^ kk : Nat) : Int) * ((x : Int) % 64) = ((num + 64 ^ kk * (x % 64) : Nat) : Int) := by push_cast; rfl
        have f5 : CMul ((64 ^ kk : Nat) : Int) ((x : Int) % 64) := .inr (by omega)
        have f6 : ((x : Int) < 64) = (x < 64) := propext (by omega)
        have f7 : ((x : Int) = 0) = (x = 0) := propext (by omega)
        have f8 : ((0 : Int) < (kk : Int)) = (0 < kk) := propext (by omega)
        obtain ⟨m, hm⟩ : ∃ m, m = num + 64 ^ kk * (x % 64) := ⟨_, rfl⟩
        rw [← hm] at ij f4
        have f9 : ((m : Int) = 1) = (m = 1) := propext (by omega)
        have g1 : ((m : Int) % 2 = 0) = (m % 2 = 0) := propext (by omega)
        have g2 : (m : Int) / 2 = ((m / 2 : Nat) : Int) := by omega
        have g3 : ((j : Nat) : Int) + 1 = ((j + 1 : Nat) : Int) := by omega
        have g4 : CMul 64 ((64 ^ kk : Nat) : Int) := .inl (by decide)
        have g5 : 64 * ((64 ^ kk : Nat) : Int) = ((64 ^ (kk + 1) : Nat) : Int) := by push_cast; rw [Int.pow_succ, Int.mul_comm]
        simp only [r_seq, r_next, r_brk, r_cont, r_asg, r_name, r_ret, r_retN, r_drop, r_ifs, r_never, r_var, r_c, r_op, r_un, r_if, r_tst, r_b, r_not, r_and, r_or, r_andV, r_orV, r_notV, r_nil, r_cons, r_tup, r_lst, r_cb, r_call, r_bm, r_bm0, r_sl, r_nopart, r_part, r_rev, r_gnil, r_gcons, r_gsub, r_par, r_aug, r_chain, r_I0, r_I, r_U, r_ixd, r_lend, r_tupd, r_listd, r_sld, r_app, r_ext, r_reverse, r_setl, r_cat, r_int1, r_eqS, r_neS, scal_ii, scal_bb, scal_ss, at0, at1, at2, sq_lst, sq_tup, isLst_lst, List.getElem?_cons_zero, List.getElem?_cons_succ, List.set_cons_zero, List.set_cons_succ, V.int.injEq, V.bl.injEq, V.ref.injEq, V.str.injEq, HO.lst.injEq, HO.tup.injEq, Option.some.injEq, exists_eq_left', exists_eq_left, List.cons.injEq, and_true, true_and, decide_eq_true_eq, reduceCtorEq, false_and, exists_false, or_false, false_or, exists_const, and_assoc, exists_and_left, List.append_nil, ix0, ix1, ix2, cm_mod, cdw1009, cdw2003, cdw7, cdw64, cdw2, cm104729, cm2, cm3, upd_same, List.length_cons, List.length_nil, Int.reduceLT, Int.reduceLE, Nat.reduceAdd, Nat.reduceLeDiff, Nat.reduceLT, Int.reduceToNat, r_for1, r_forL, r_forT, r_lcL, r_lc1, r_yes, r_gtupD, wipe_0, wipe_1, List.cons_append, List.nil_append, r_forS, r_ipI, ite_false, ite_true, Bool.not_true, Bool.not_false, decide_true, decide_false, r_isd, r_islt, cD_ty, cD_ref, tD_non, tD_bl, tD_int, tD_str, tD_ref, tH_lst, tH_tup, tH_dK, tH_ins, ki_self, ki_int_bool, ki_non_int, ki_str_int, ki_lt_lst, ki_lt_tup, r_fld, r_sfld, HO.ins.injEq, cx_K, hd, f1, f2, f3, f4, f5, f6, f7, f8, f9, g1, g2, g3, g4, g5]
        refine ite2 (fun q1 => give (.error j) (by rw [ij, if_pos q1])) fun q1 => ?_
        rw [if_neg q1] at ij
        refine ite2 (fun q2 => ?_) fun q2 => ?_
        · rw [if_pos q2] at ij
          have ev : ¬ ((x = 0 ∧ 0 < kk) ∨ m = 1) → m % 2 = 0 → 2 ≤ sizeLine ∧ ∀ p, H1 p = none → Q (.ref p) (L2.upd H1 p (.tup [.int ((m / 2 : Nat) : Int), .int ((j + 1 : Nat) : Int)])) := fun z e => by
            have g := give (.ok (m, j + 1)) (by rw [ij, if_neg z])
            have ez : zag m = ((m / 2 : Nat) : Int) := by
              unfold zag
              rw [if_pos e]
            rw [← ez]
            exact g
          have od : ¬ ((x = 0 ∧ 0 < kk) ∨ m = 1) → ¬ m % 2 = 0 → 2 ≤ sizeLine ∧ ∀ p, H1 p = none → Q (.ref p) (L2.upd H1 p (.tup [.int (0 - ((m / 2 : Nat) : Int)), .int ((j + 1 : Nat) : Int)])) := fun z e => by
            have g := give (.ok (m, j + 1)) (by rw [ij, if_neg z])
            have ez : zag m = -((m / 2 : Nat) : Int) := by
              unfold zag
              rw [if_neg e]
            rw [Int.zero_sub, ← ez]
            exact g
          have er : ((x = 0 ∧ 0 < kk) ∨ m = 1) → 2 ≤ sizeLine ∧ ∀ p, H1 p = none → Q (.ref p) (L2.upd H1 p (.tup [.non, .int (j : Int)])) := fun z => give (.error j) (by rw [ij, if_pos z])
          refine ite2 (fun q3 => ite2 (fun q4 => er (.inl ⟨q3, q4⟩)) fun q4 => ite2 (fun q5 => er (.inr q5)) fun q5 => ite2 (ev ?_) (od ?_)) fun q3 => ite2 (fun q5 => er (.inr q5)) fun q5 => ite2 (ev ?_) (od ?_)
          all_goals
            rintro (⟨z1, z2⟩ | z)
            · first | exact q4 z2 | exact q3 z1
            · exact q5 z
        · rw [if_neg q2] at ij
          exact ⟨m, j + 1, _, rfl, rfl, by omega, c, ij⟩
      · have f2 : ((j : Int) = ((vn all).length : Int)) = True := eq_true (by rw [vn_len]; omega)
        rw [contS_end c] at ij
        simp only [r_seq, r_next, r_brk, r_cont, r_asg, r_name, r_ret, r_retN, r_drop, r_ifs, r_never, r_var, r_c, r_op, r_un, r_if, r_tst, r_b, r_not, r_and, r_or, r_andV, r_orV, r_notV, r_nil, r_cons, r_tup, r_lst, r_cb, r_call, r_bm, r_bm0, r_sl, r_nopart, r_part, r_rev, r_gnil, r_gcons, r_gsub, r_par, r_aug, r_chain, r_I0, r_I, r_U, r_ixd, r_lend, r_tupd, r_listd, r_sld, r_app, r_ext, r_reverse, r_setl, r_cat, r_int1, r_eqS, r_neS, scal_ii, scal_bb, scal_ss, at0, at1, at2, sq_lst, sq_tup, isLst_lst, List.getElem?_cons_zero, List.getElem?_cons_succ, List.set_cons_zero, List.set_cons_succ, V.int.injEq, V.bl.injEq, V.ref.injEq, V.str.injEq, HO.lst.injEq, HO.tup.injEq, Option.some.injEq, exists_eq_left', exists_eq_left, List.cons.injEq, and_true, true_and, decide_eq_true_eq, reduceCtorEq, false_and, exists_false, or_false, false_or, exists_const, and_assoc, exists_and_left, List.append_nil, ix0, ix1, ix2, cm_mod, cdw1009, cdw2003, cdw7, cdw64, cdw2, cm104729, cm2, cm3, upd_same, List.length_cons, List.length_nil, Int.reduceLT, Int.reduceLE, Nat.reduceAdd, Nat.reduceLeDiff, Nat.reduceLT, Int.reduceToNat, r_for1, r_forL, r_forT, r_lcL, r_lc1, r_yes, r_gtupD, wipe_0, wipe_1, List.cons_append, List.nil_append, r_forS, r_ipI, ite_false, ite_true, Bool.not_true, Bool.not_false, decide_true, decide_false, r_isd, r_islt, cD_ty, cD_ref, tD_non, tD_bl, tD_int, tD_str, tD_ref, tH_lst, tH_tup, tH_dK, tH_ins, ki_self, ki_int_bool, ki_non_int, ki_str_int, ki_lt_lst, ki_lt_tup, r_fld, r_sfld, HO.ins.injEq, cx_K, hd, f2]
        exact give _ ij
    · rintro σ H1 ⟨num, j, v, rfl, rfl, ej, hj, ij⟩
      omega
def OutS (CT : Addr) (H : Hp) (Q : VK) (E : XK) : Except Nat (Nat × Nat) → Prop
  | .error j => ∀ d H', H d = none → Same H H' → H' d = some (.xd [("at", .int (j : Int))]) → E (.ref CT) (some d) H'
  | .ok (m, j) => ∀ p H', H p = none → Same H H' → H' p = some (.tup [.int (zag m), .int (j : Int)]) → Q (.ref p) H'
def spSN (CT : Addr) : Sp := fun vs H Q E => ∃ (t : Addr) (all : List Nat) (i : Nat), vs = [.ref t, .int (i : Int)] ∧ H t = some (.tup (vn all)) ∧ i ≤ all.length ∧ all.length ≤ 1000 ∧ (∀ n ∈ all, n < 256) ∧ OutS CT H Q E (sread all i)
def lvSN (H : Hp) (t : Addr) (all : List Nat) (i : Nat) (σ : L2.St) (H' : Hp) : Prop := ∃ (k fo : Nat) (go : Bool), σ = [some (.ref t), some (.int ((i + k : Nat) : Int)), some (.int (i : Int)), some (.int (fo : Int)), some (.bl go)] ∧ H' = H ∧ i + k ≤ all.length ∧ fo < 64 ^ k ∧
  (if go = true then sread all i = contS fo k (i + k) (all.drop (i + k)) else sread all i = if fo = 1 then .error i else .ok (fo, i + k))
def msSN (k : Nat) (σ : L2.St) : Nat := match σ with
  | [_, some (.int a), _, _, _] => k - a.toNat
  | _ => 0
theorem ok_signed_number {CT : Addr} (T : Txt mg) (X_NoTable : Exn P w K mg base "NoTable" CT "at") (F : FnP K "signed_number" "signed_number" ssigned_number f fd) : FnOk P w K mg base (CX P w) 3 f fd ["table", "at"] (spSN CT) := by
  refine F.ok scsigned_number (fun vs H Q E h => ?_) (fun cdv A outer s H vs Q E hr h => ?_)
  · obtain ⟨t, all, i, rfl, _⟩ := h
    rfl
  · refine ⟨_, (pss_cons (ps_set (i := 2) scsigned_number.nd rfl (Or.inl rfl) (pv 1))
  (pss_cons (ps_set (i := 3) scsigned_number.nd rfl (Or.inl rfl) pe_int)
  (pss_cons (ps_set (i := 4) scsigned_number.nd rfl (Or.inl rfl) pe_bl)
  (pss_cons (ps_while (passes_of rfl) (pt_val (pv 4))
    (pss_cons (ps_if (PW.pt (pw_or (pt_cmpR op_eq (pv 1) (pe_callB call_len_d (by rfl) T.b_len (by decide +kernel) (pa_cons (pv 0) pa_nil)) (nomark _)) (pw_or1 (pt_cmpR op_ge (pe_ix ix_d (pv 0) (pv 1) (fun _ _ => rfl)) (pe_gi T.g_BEGINS) (nomark _)))))
    (pss_one (ps_raise rfl (takes_of rfl rfl rfl rfl) (pmk_x X_NoTable (hr.mono (by decide)) rfl (pv 1))))
    pss_nil)
  (pss_cons (ps_set (i := 4) scsigned_number.nd rfl (Or.inl rfl) (pe_cmpR op_ne (pe_op op_and (pe_ix ix_d (pv 0) (pv 1) (fun _ _ => rfl)) (pe_gi T.g_GOES_ON)) pe_int (nomark _)))
  (pss_cons (ps_if (PW.pt (pw_and (pt_not (pt_val (pv 4))) (pw_and (pt_cmpR op_eq (pe_ix ix_d (pv 0) (pv 1) (fun _ _ => rfl)) pe_int (nomark _)) (pw_and1 (pt_cmpR op_gt (pv 1) (pv 2) (nomark _))))))
    (pss_one (ps_raise rfl (takes_of rfl rfl rfl rfl) (pmk_x X_NoTable (hr.mono (by decide)) rfl (pv 1))))
    pss_nil)
  (pss_cons (ps_aug (i := 3) scsigned_number.nd rfl (.inl rfl) (pe_op op_shl (pe_op op_and (pe_ix ix_d (pv 0) (pv 1) (fun _ _ => rfl)) pe_int) (pe_op op_mul pe_int (pe_op op_sub (pv 1) (pv 2)))) (pip_of iop_or))
  (pss_one (ps_aug (i := 1) scsigned_number.nd rfl (.inl rfl) pe_int ip_add)))))))
  (pss_cons (ps_if (pt_cmpR op_eq (pv 3) pe_int (nomark _))
    (pss_one (ps_raise rfl (takes_of rfl rfl rfl rfl) (pmk_x X_NoTable (hr.mono (by decide)) rfl (pv 2))))
    pss_nil)
  (pss_one (ps_ret (pe_tup (pa_cons (pe_ifExp (pt_truth (pe_op op_and (pv 3) pe_int) (by intro _; rfl)) (pe_un un_neg (pe_op op_shr (pv 3) pe_int)) (pe_op op_shr (pv 3) pe_int)) (pa_cons (pv 1) pa_nil)))))))))), ?_⟩
    obtain ⟨t, all, i, rfl, ht, hi, hl, hb, k⟩ := h
    show (_ : TS) _ [some (.ref t), some (.int (i : Int)), none, none, none] H
    simp only [r_seq, r_next, r_brk, r_cont, r_asg, r_name, r_ret, r_retN, r_drop, r_ifs, r_never, r_var, r_c, r_op, r_un, r_if, r_tst, r_b, r_not, r_and, r_or, r_andV, r_orV, r_notV, r_nil, r_cons, r_tup, r_lst, r_cb, r_call, r_bm, r_bm0, r_sl, r_nopart, r_part, r_rev, r_gnil, r_gcons, r_gsub, r_par, r_aug, r_chain, r_I0, r_I, r_U, r_ixd, r_lend, r_tupd, r_listd, r_sld, r_app, r_ext, r_reverse, r_setl, r_cat, r_int1, r_eqS, r_neS, scal_ii, scal_bb, scal_ss, at0, at1, at2, sq_lst, sq_tup, isLst_lst, List.getElem?_cons_zero, List.getElem?_cons_succ, List.set_cons_zero, List.set_cons_succ, V.int.injEq, V.bl.injEq, V.ref.injEq, V.str.injEq, HO.lst.injEq, HO.tup.injEq, Option.some.injEq, exists_eq_left', exists_eq_left, List.cons.injEq, and_true, true_and, decide_eq_true_eq, reduceCtorEq, false_and, exists_false, or_false, false_or, exists_const, and_assoc, exists_and_left, List.append_nil, ix0, ix1, ix2, cm_mod, cdw1009, cdw2003, cdw7, cdw64, cdw2, cm104729, cm2, cm3, upd_same, List.length_cons, List.length_nil, Int.reduceLT, Int.reduceLE, Nat.reduceAdd, Nat.reduceLeDiff, Nat.reduceLT, Int.reduceToNat, r_for1, r_forL, r_forT, r_lcL, r_lc1, r_yes, r_gtupD, wipe_0, wipe_1, List.cons_append, List.nil_append, r_forS, r_ipI, ite_false, ite_true, Bool.not_true, Bool.not_false, decide_true, decide_false, r_isd, r_islt, cD_ty, cD_ref, tD_non, tD_bl, tD_int, tD_str, tD_ref, tH_lst, tH_tup, tH_dK, tH_ins, ki_self, ki_int_bool, ki_non_int, ki_str_int, ki_lt_lst, ki_lt_tup, r_fld, r_sfld, HO.ins.injEq, cx_K]
    refine while_d (lvSN H t all i) (fun σ _ => msSN (all.length + 1) σ) ⟨0, 0, true, rfl, rfl, hi, by decide, rfl⟩ ?_
    rintro σ H1 ⟨kk, fo, go, rfl, rfl, hj, hfo, inv⟩
    refine ⟨go, fun QT q => ?_, fun cc => ?_, fun cc => ?_⟩
    · simp only [r_seq, r_next, r_brk, r_cont, r_asg, r_name, r_ret, r_retN, r_drop, r_ifs, r_never, r_var, r_c, r_op, r_un, r_if, r_tst, r_b, r_not, r_and, r_or, r_andV, r_orV, r_notV, r_nil, r_cons, r_tup, r_lst, r_cb, r_call, r_bm, r_bm0, r_sl, r_nopart, r_part, r_rev, r_gnil, r_gcons, r_gsub, r_par, r_aug, r_chain, r_I0, r_I, r_U, r_ixd, r_lend, r_tupd, r_listd, r_sld, r_app, r_ext, r_reverse, r_setl, r_cat, r_int1, r_eqS, r_neS, scal_ii, scal_bb, scal_ss, at0, at1, at2, sq_lst, sq_tup, isLst_lst, List.getElem?_cons_zero, List.getElem?_cons_succ, List.set_cons_zero, List.set_cons_succ, V.int.injEq, V.bl.injEq, V.ref.injEq, V.str.injEq, HO.lst.injEq, HO.tup.injEq, Option.some.injEq, exists_eq_left', exists_eq_left, List.cons.injEq, and_true, true_and, decide_eq_true_eq, reduceCtorEq, false_and, exists_false, or_false, false_or, exists_const, and_assoc, exists_and_left, List.append_nil, ix0, ix1, ix2, cm_mod, cdw1009, cdw2003, cdw7, cdw64, cdw2, cm104729, cm2, cm3, upd_same, List.length_cons, List.length_nil, Int.reduceLT, Int.reduceLE, Nat.reduceAdd, Nat.reduceLeDiff, Nat.reduceLT, Int.reduceToNat, r_for1, r_forL, r_forT, r_lcL, r_lc1, r_yes, r_gtupD, wipe_0, wipe_1, List.cons_append, List.nil_append, r_forS, r_ipI, ite_false, ite_true, Bool.not_true, Bool.not_false, decide_true, decide_false, r_isd, r_islt, cD_ty, cD_ref, tD_non, tD_bl, tD_int, tD_str, tD_ref, tH_lst, tH_tup, tH_dK, tH_ins, ki_self, ki_int_bool, ki_non_int, ki_str_int, ki_lt_lst, ki_lt_tup, r_fld, r_sfld, HO.ins.injEq, cx_K]
      exact q
    · subst cc
      rw [if_pos rfl] at inv
      obtain ⟨j, hje⟩ : ∃ j, j = i + kk := ⟨_, rfl⟩
      rw [← hje] at inv hj ⊢
      by_cases c : j < all.length
      · have e1 := vn_at c
        have el : ((j : Int) = ((vn all).length : Int)) = False := eq_false (by rw [vn_len]; omega)
        have hx256 := hb _ (List.getElem_mem c)
        rw [contS_at c] at inv
        generalize all[j] = x at *
        have e3 : ((128 : Int) ≤ (x : Int)) = (128 ≤ x) := propext (by omega)
        have fail : sread all i = .error j → tMkO CT (spXInit CT "at") [] (tCons (tVar 1) tNil) [some (.ref t), some (.int (j : Int)), some (.int (i : Int)), some (.int (fo : Int)), some (.bl true)] H1 fun cls d H' => E cls d H' := fun e => raise_x (fun Q q => ⟨_, rfl, q⟩) (by rw [e] at k; exact k)
        by_cases q1 : 128 ≤ x
        · have e3' : ((128 : Int) ≤ (x : Int)) = True := eq_true (by omega)
          rw [if_pos q1] at inv
          simp only [r_seq, r_next, r_brk, r_cont, r_asg, r_name, r_ret, r_retN, r_drop, r_ifs, r_never, r_var, r_c, r_op, r_un, r_if, r_tst, r_b, r_not, r_and, r_or, r_andV, r_orV, r_notV, r_nil, r_cons, r_tup, r_lst, r_cb, r_call, r_bm, r_bm0, r_sl, r_nopart, r_part, r_rev, r_gnil, r_gcons, r_gsub, r_par, r_aug, r_chain, r_I0, r_I, r_U, r_ixd, r_lend, r_tupd, r_listd, r_sld, r_app, r_ext, r_reverse, r_setl, r_cat, r_int1, r_eqS, r_neS, scal_ii, scal_bb, scal_ss, at0, at1, at2, sq_lst, sq_tup, isLst_lst, List.getElem?_cons_zero, List.getElem?_cons_succ, List.set_cons_zero, List.set_cons_succ, V.int.injEq, V.bl.injEq, V.ref.injEq, V.str.injEq, HO.lst.injEq, HO.tup.injEq, Option.some.injEq, exists_eq_left', exists_eq_left, List.cons.injEq, and_true, true_and, decide_eq_true_eq, reduceCtorEq, false_and, exists_false, or_false, false_or, exists_const, and_assoc, exists_and_left, List.append_nil, ix0, ix1, ix2, cm_mod, cdw1009, cdw2003, cdw7, cdw64, cdw2, cm104729, cm2, cm3, upd_same, List.length_cons, List.length_nil, Int.reduceLT, Int.reduceLE, Nat.reduceAdd, Nat.reduceLeDiff, Nat.reduceLT, Int.reduceToNat, r_for1, r_forL, r_forT, r_lcL, r_lc1, r_yes, r_gtupD, wipe_0, wipe_1, List.cons_append, List.nil_append, r_forS, r_ipI, ite_false, ite_true, Bool.not_true, Bool.not_false, decide_true, decide_false, r_isd, r_islt, cD_ty, cD_ref, tD_non, tD_bl, tD_int, tD_str, tD_ref, tH_lst, tH_tup, tH_dK, tH_ins, ki_self, ki_int_bool, ki_non_int, ki_str_int, ki_lt_lst, ki_lt_tup, r_fld, r_sfld, HO.ins.injEq, cx_K, ht, e1, el, e3']
          exact fail inv
        · have e3' : ((128 : Int) ≤ (x : Int)) = False := eq_false (by omega)
          rw [if_neg q1] at inv
          have e4 : (Builtin.bitAnd (x : Int) 64 = 0) = (x < 64) := by
            rw [bit64n hx256]
            exact propext (by omega)
          have e5 : Builtin.bitAnd (x : Int) 63 = ((x % 64 : Nat) : Int) := by
            rw [bitAnd_m6]
            omega
          have e6 : ((x : Int) = 0) = (x = 0) := propext (by omega)
          have e7 : ((i : Int) < (j : Int)) = (0 < kk) := propext (by omega)
          have e8 : ((j : Nat) : Int) + 1 = ((j + 1 : Nat) : Int) := by omega
          have e9 : (j : Int) - (i : Int) = (kk : Int) := by omega
          have c6 : CMul 6 (kk : Int) := .inl (by decide)
          have c7 : CPow ((x % 64 : Nat) : Int) (6 * (kk : Int)) := ⟨by omega, by omega, by
            have : x % 64 < 64 := Nat.mod_lt _ (by decide)
            have h2 : (64 : Nat) < 2 ^ 64 := by decide
            omega⟩
          have c8 : Builtin.bitOr (fo : Int) (((x % 64 : Nat) : Int) * 2 ^ (6 * (kk : Int)).toNat) = ((fo + 64 ^ kk * (x % 64) : Nat) : Int) := by
            have t6 : (6 * (kk : Int)).toNat = 6 * kk := by omega
            have p6 : (2 : Int) ^ (6 * kk) = ((64 ^ kk : Nat) : Int) := by
              rw [Int.pow_mul]
              push_cast
              rfl
            rw [t6, Bits.bitOr_join (by omega) (by rw [p6]; exact_mod_cast hfo) (by omega), p6]
            push_cast
            rw [Int.mul_comm]
          obtain ⟨m, hm⟩ : ∃ m, m = fo + 64 ^ kk * (x % 64) := ⟨_, rfl⟩
          rw [← hm] at inv c8
          simp only [r_seq, r_next, r_brk, r_cont, r_asg, r_name, r_ret, r_retN, r_drop, r_ifs, r_never, r_var, r_c, r_op, r_un, r_if, r_tst, r_b, r_not, r_and, r_or, r_andV, r_orV, r_notV, r_nil, r_cons, r_tup, r_lst, r_cb, r_call, r_bm, r_bm0, r_sl, r_nopart, r_part, r_rev, r_gnil, r_gcons, r_gsub, r_par, r_aug, r_chain, r_I0, r_I, r_U, r_ixd, r_lend, r_tupd, r_listd, r_sld, r_app, r_ext, r_reverse, r_setl, r_cat, r_int1, r_eqS, r_neS, scal_ii, scal_bb, scal_ss, at0, at1, at2, sq_lst, sq_tup, isLst_lst, List.getElem?_cons_zero, List.getElem?_cons_succ, List.set_cons_zero, List.set_cons_succ, V.int.injEq, V.bl.injEq, V.ref.injEq, V.str.injEq, HO.lst.injEq, HO.tup.injEq, Option.some.injEq, exists_eq_left', exists_eq_left, List.cons.injEq, and_true, true_and, decide_eq_true_eq, reduceCtorEq, false_and, exists_false, or_false, false_or, exists_const, and_assoc, exists_and_left, List.append_nil, ix0, ix1, ix2, cm_mod, cdw1009, cdw2003, cdw7, cdw64, cdw2, cm104729, cm2, cm3, upd_same, List.length_cons, List.length_nil, Int.reduceLT, Int.reduceLE, Nat.reduceAdd, Nat.reduceLeDiff, Nat.reduceLT, Int.reduceToNat, r_for1, r_forL, r_forT, r_lcL, r_lc1, r_yes, r_gtupD, wipe_0, wipe_1, List.cons_append, List.nil_append, r_forS, r_ipI, ite_false, ite_true, Bool.not_true, Bool.not_false, decide_true, decide_false, r_isd, r_islt, cD_ty, cD_ref, tD_non, tD_bl, tD_int, tD_str, tD_ref, tH_lst, tH_tup, tH_dK, tH_ins, ki_self, ki_int_bool, ki_non_int, ki_str_int, ki_lt_lst, ki_lt_tup, r_fld, r_sfld, HO.ins.injEq, cx_K, ht, e1, el, e3', e4, e5, e6, e7, e8, e9, c6, c7, c8]
          have good : ∀ b : Bool, b = (!decide (x < 64)) → ¬ (x < 64 ∧ x = 0 ∧ 0 < kk) → lvSN H1 t all i [some (.ref t), some (.int ((j + 1 : Nat) : Int)), some (.int (i : Int)), some (.int (m : Int)), some (.bl b)] H1 ∧
              msSN (all.length + 1) [some (.ref t), some (.int ((j + 1 : Nat) : Int)), some (.int (i : Int)), some (.int (m : Int)), some (.bl b)] < msSN (all.length + 1) [some (.ref t), some (.int (j : Int)), some (.int (i : Int)), some (.int (fo : Int)), some (.bl true)] := by
            rintro b rfl qn
            refine ⟨⟨kk + 1, m, _, by rw [show i + (kk + 1) = j + 1 from by omega], rfl, by omega, ?_, ?_⟩, ?_⟩
            · have : 64 ^ kk * (x % 64) ≤ 64 ^ kk * 63 := Nat.mul_le_mul_left _ (by omega)
              rw [Nat.pow_succ]
              omega
            · rw [show i + (kk + 1) = j + 1 from by omega]
              by_cases q : x < 64
              · rw [if_pos q] at inv
                rw [if_neg (by simp [q]), inv]
                by_cases q5 : m = 1
                · have k0 : kk = 0 := by
                    apply Classical.byContradiction
                    intro z
                    have x0 : x ≠ 0 := fun e => qn ⟨q, e, by omega⟩
                    have p1 : 64 ^ kk * 1 ≤ 64 ^ kk * (x % 64) := Nat.mul_le_mul_left _ (by omega)
                    have p2 : 64 ^ 1 ≤ 64 ^ kk := Nat.pow_le_pow_right (by decide) (by omega)
                    omega
                  rw [if_pos (.inr q5), if_pos q5, hje, k0]
                  rfl
                · rw [if_neg (by
                    rintro (⟨z1, z2⟩ | z)
                    · exact qn ⟨q, z1, z2⟩
                    · exact q5 z), if_neg q5]
              · rw [if_neg q] at inv
                rw [if_pos (by simp [q]), inv]
            · show all.length + 1 - ((j + 1 : Nat) : Int).toNat < all.length + 1 - ((j : Nat) : Int).toNat
              omega
          refine ite2 (fun q2 => ite2 (fun q3 => ite2 (fun q4 => ?_) fun q4 => good _ rfl ?_) fun q3 => good _ rfl ?_) fun q2 => good _ rfl ?_
          · have q : x < 64 := by simpa using q2
            rw [if_pos q, if_pos (.inl ⟨q3, q4⟩)] at inv
            exact raise_x (fun Q q => ⟨_, rfl, q⟩) (by rw [inv] at k; exact k)
          · rintro ⟨_, _, z⟩
            exact q4 z
          · rintro ⟨_, z, _⟩
            exact q3 z
          · rintro ⟨z, _, _⟩
            exact q2 (by simp [z])
      · have el : ((j : Int) = ((vn all).length : Int)) = True := eq_true (by rw [vn_len]; omega)
        rw [contS_end c] at inv
        rw [inv] at k
        simp only [r_seq, r_next, r_brk, r_cont, r_asg, r_name, r_ret, r_retN, r_drop, r_ifs, r_never, r_var, r_c, r_op, r_un, r_if, r_tst, r_b, r_not, r_and, r_or, r_andV, r_orV, r_notV, r_nil, r_cons, r_tup, r_lst, r_cb, r_call, r_bm, r_bm0, r_sl, r_nopart, r_part, r_rev, r_gnil, r_gcons, r_gsub, r_par, r_aug, r_chain, r_I0, r_I, r_U, r_ixd, r_lend, r_tupd, r_listd, r_sld, r_app, r_ext, r_reverse, r_setl, r_cat, r_int1, r_eqS, r_neS, scal_ii, scal_bb, scal_ss, at0, at1, at2, sq_lst, sq_tup, isLst_lst, List.getElem?_cons_zero, List.getElem?_cons_succ, List.set_cons_zero, List.set_cons_succ, V.int.injEq, V.bl.injEq, V.ref.injEq, V.str.injEq, HO.lst.injEq, HO.tup.injEq, Option.some.injEq, exists_eq_left', exists_eq_left, List.cons.injEq, and_true, true_and, decide_eq_true_eq, reduceCtorEq, false_and, exists_false, or_false, false_or, exists_const, and_assoc, exists_and_left, List.append_nil, ix0, ix1, ix2, cm_mod, cdw1009, cdw2003, cdw7, cdw64, cdw2, cm104729, cm2, cm3, upd_same, List.length_cons, List.length_nil, Int.reduceLT, Int.reduceLE, Nat.reduceAdd, Nat.reduceLeDiff, Nat.reduceLT, Int.reduceToNat, r_for1, r_forL, r_forT, r_lcL, r_lc1, r_yes, r_gtupD, wipe_0, wipe_1, List.cons_append, List.nil_append, r_forS, r_ipI, ite_false, ite_true, Bool.not_true, Bool.not_false, decide_true, decide_false, r_isd, r_islt, cD_ty, cD_ref, tD_non, tD_bl, tD_int, tD_str, tD_ref, tH_lst, tH_tup, tH_dK, tH_ins, ki_self, ki_int_bool, ki_non_int, ki_str_int, ki_lt_lst, ki_lt_tup, r_fld, r_sfld, HO.ins.injEq, cx_K, ht, el]
        exact raise_x (fun Q q => ⟨_, rfl, q⟩) k
    · subst cc
      rw [if_neg (by decide)] at inv
      simp only [r_seq, r_next, r_brk, r_cont, r_asg, r_name, r_ret, r_retN, r_drop, r_ifs, r_never, r_var, r_c, r_op, r_un, r_if, r_tst, r_b, r_not, r_and, r_or, r_andV, r_orV, r_notV, r_nil, r_cons, r_tup, r_lst, r_cb, r_call, r_bm, r_bm0, r_sl, r_nopart, r_part, r_rev, r_gnil, r_gcons, r_gsub, r_par, r_aug, r_chain, r_I0, r_I, r_U, r_ixd, r_lend, r_tupd, r_listd, r_sld, r_app, r_ext, r_reverse, r_setl, r_cat, r_int1, r_eqS, r_neS, scal_ii, scal_bb, scal_ss, at0, at1, at2, sq_lst, sq_tup, isLst_lst, List.getElem?_cons_zero, List.getElem?_cons_succ, List.set_cons_zero, List.set_cons_succ, V.int.injEq, V.bl.injEq, V.ref.injEq, V.str.injEq, HO.lst.injEq, HO.tup.injEq, Option.some.injEq, exists_eq_left', exists_eq_left, List.cons.injEq, and_true, true_and, decide_eq_true_eq, reduceCtorEq, false_and, exists_false, or_false, false_or, exists_const, and_assoc, exists_and_left, List.append_nil, ix0, ix1, ix2, cm_mod, cdw1009, cdw2003, cdw7, cdw64, cdw2, cm104729, cm2, cm3, upd_same, List.length_cons, List.length_nil, Int.reduceLT, Int.reduceLE, Nat.reduceAdd, Nat.reduceLeDiff, Nat.reduceLT, Int.reduceToNat, r_for1, r_forL, r_forT, r_lcL, r_lc1, r_yes, r_gtupD, wipe_0, wipe_1, List.cons_append, List.nil_append, r_forS, r_ipI, ite_false, ite_true, Bool.not_true, Bool.not_false, decide_true, decide_false, r_isd, r_islt, cD_ty, cD_ref, tD_non, tD_bl, tD_int, tD_str, tD_ref, tH_lst, tH_tup, tH_dK, tH_ins, ki_self, ki_int_bool, ki_non_int, ki_str_int, ki_lt_lst, ki_lt_tup, r_fld, r_sfld, HO.ins.injEq, cx_K, bitAnd_m1]
      refine ite2 (fun q => ?_) fun q => ?_
      · rw [if_pos (by omega)] at inv
        rw [inv] at k
        exact raise_x (fun Q q => ⟨_, rfl, q⟩) k
      · rw [if_neg (by omega)] at inv
        rw [inv] at k
        have k : ∀ p H', H1 p = none → Same H1 H' → H' p = some (.tup [.int (zag fo), .int ((i + kk : Nat) : Int)]) → Q (.ref p) H' := k
        refine ⟨((fo : Int) % 2 != 0), rfl, ?_⟩
        by_cases q2 : fo % 2 = 0
        · have ez : zag fo = (fo : Int) / 2 ^ 1 := by
            unfold zag
            rw [if_pos q2]
            omega
          rw [show ((fo : Int) % 2 != 0) = false from by rw [show (fo : Int) % 2 = 0 from by omega]; rfl, if_neg (by decide), ← ez]
          exact ⟨szl (by decide), fun p hp => k p _ hp (Same.new' (Same.refl H1) hp) upd_same⟩
        · have ez : zag fo = -((fo : Int) / 2 ^ 1) := by
            unfold zag
            rw [if_neg q2]
            omega
          rw [show ((fo : Int) % 2 != 0) = true from by rw [show (fo : Int) % 2 = 1 from by omega]; rfl, if_pos rfl, ← ez]
          exact ⟨szl (by decide), fun p hp => k p _ hp (Same.new' (Same.refl H1) hp) upd_same⟩
end
end C49

set_option maxHeartbeats 1000000
namespace C49
open PySem PySem.Spec PyProof.Rows L2
/-! ### enumerate of a tuple -/
section
variable {prog : Program} {w : World} {A : Around} {E : Value → Shared → Prop} {s : Shared}
theorem meets_enumerate_newT (l : Addr) (items : Array Value) (n : Nat) (dct : Option Addr) (sl : Array (Option Value)) :
    Meets (Builtin.«enumerate.__new__» ⟨[.type "enumerate", .ref l], []⟩) (fun _ R s => s.heap.get? l = some { cls := .type "tuple", dict := dct, data := .seq items n, slots := sl } ∧
      R (.ok (.ret (.ref (s.heap.push { cls := .type "tuple_iterator", data := .fields #[.ref l, .int 0 0] }).objs.size)))
        { s with heap := (s.heap.push { cls := .type "tuple_iterator", data := .fields #[.ref l, .int 0 0] }).push { cls := .type "enumerate", data := .fields #[.none, .bool false, .ref s.heap.objs.size, rawInt 0, .none, .none] } }) :=
  .of_wp fun prog w A R s h => by
    obtain ⟨hp, g, d, tk, os⟩ := s; obtain ⟨hl, h⟩ := h
    have hsub := sub_enumerate
    have hL : Heap.IsTuple (Shared.heap ⟨hp, g, d, tk, os⟩) l items := ⟨_, hl, rfl, n, rfl⟩
    wp_walk using AutoSeq1.wpAny_loadPart' hl
    refine wpAny_stack_any fun st => wpAny_pure ?_
    split
    · rename_i c _ _ _ _ _
      cases (c == Value.type "enumerate")
      · wp_walk using AutoSeq1.wpAny_loadPart' hl, wpAny_pyIter_tuple hL
        exact ⟨_, rfl, h⟩
      · wp_walk using AutoSeq1.wpAny_loadPart' hl, wpAny_pyIter_tuple hL
        exact ⟨_, rfl, h⟩
    · wp_walk using AutoSeq1.wpAny_loadPart' hl, wpAny_pyIter_tuple hL
      exact ⟨_, rfl, h⟩
theorem call_enumerate_tuple {l : Addr} {items : Array Value} {Q : Value → Shared → Prop} (hL : s.heap.IsTuple l items)
    (h : ∀ h', IsEnum h' (s.heap.objs.size + 1) s.heap.objs.size 0 .none → h'.IsTupleIter s.heap.objs.size l 0 → h'.objs.size = s.heap.objs.size + 2 →
      (∀ b o, s.heap.get? b = some o → h'.get? b = some o) → Q (.ref (s.heap.objs.size + 1)) { s with heap := h' }) :
    wpAny (model prog w) A (call (.type "enumerate") [.ref l]) Q E s := by
  obtain ⟨⟨c, dct, dt, sl⟩, hl, hc, n, hd⟩ := hL
  replace hc : c = .type "tuple" := hc
  replace hd : dt = .seq items n := hd
  subst hc hd
  refine callType_new F.called_enumerate (by decide) (F.typeCall_enumerate_1 _) (F.newCall_enumerate_1 _) (fun obj => F.args_object_init_2 obj _) F.entry_enumerate_new
    (meets_enumerate_newT l items n dct sl) ⟨hl, ?_⟩
  have hz : (s.heap.push { cls := .type "tuple_iterator", data := .fields #[.ref l, .int 0 0] }).objs.size = s.heap.objs.size + 1 := Heap.size_push ..
  show _ ∧ _
  rw [hz]
  have he : IsEnum ((s.heap.push { cls := .type "tuple_iterator", data := .fields #[.ref l, .int 0 0] }).push
      { cls := .type "enumerate", data := .fields #[.none, .bool false, .ref s.heap.objs.size, rawInt 0, .none, .none] }) (s.heap.objs.size + 1) s.heap.objs.size 0 .none := by
    have := Heap.get?_push_size (s.heap.push { cls := .type "tuple_iterator", data := .fields #[.ref l, .int 0 0] })
      (o := { cls := .type "enumerate", data := .fields #[.none, .bool false, .ref s.heap.objs.size, rawInt 0, .none, .none] }) rfl
    rw [hz] at this; exact this
  refine ⟨⟨_, he, rfl⟩, h _ he ⟨_, Heap.get?_push_of_some _ (Heap.get?_push_size _ rfl), rfl, rfl⟩ (by rw [Heap.size_push, hz]) fun b o x => Heap.get?_push_of_some _ (Heap.get?_push_of_some _ x)⟩
end
/-- the tuple at a, each item in a new pair -/
def IteT (K : PySem.W.Frag) (a : Addr) : It :=
  ⟨fun i H => ∃ (xs : List V) (x : V), SqT K H a xs ∧ xs[i]? = some x, fun i H v H' => ∃ T x, v = .ref T ∧ H T = none ∧ H' = L2.upd H T (.tup [.int (i : Nat), x]) ∧ ∀ xs, SqT K H a xs → xs[i]? = some x, fun i H => ∃ xs : List V, SqT K H a xs ∧ xs.length ≤ i⟩
theorem turn_enumT {P : Program} {w : World} {K : PySem.W.Frag} {elts : List Expr} {kk : Nat} {tpos : Pos} (a e it : Addr) (hai : a ≠ it) (hea : e ≠ a) :
    Turn P w K (.Tuple elts kk tpos) (IteT K a) [e, it] e (fun i h => (∃ old, IsEnum h e it ((i : Nat) : Int) old) ∧ h.IsTupleIter it a i ∧ e ≠ it) where
  mem := by simp
  obj := fun i h st b hb => by
    obtain ⟨⟨old, he⟩, ⟨o, ho, hc, hd⟩, _⟩ := st
    have e' : b = e ∨ b = it := by simpa using hb
    rcases e' with z | z
    · rw [z]; exact ⟨_, he, fun v q => nomatch q⟩
    · rw [z]; exact ⟨o, ho, fun v q => by rw [hd] at q; cases q⟩
  keep := fun i h h' st k => let ⟨⟨old, he⟩, hi, hne⟩ := st; ⟨⟨old, k e (by simp) _ he⟩, hi.at fun o q => k it (by simp) o q, hne⟩
  item := by
    intro X hP hw hK hc i pins s σ H E I hf st hg
    subst hP hw hK
    obtain ⟨⟨old, he⟩, hit, hne⟩ := st
    obtain ⟨xs, x, hq, hx⟩ := hg
    obtain ⟨its, rv, p, hz⟩ := I.tuple hq
    have p' : s.heap.IsTuple a its.toArray := p
    obtain ⟨u, hu, ru⟩ := rv.get hx
    have hel : e < s.heap.objs.size := Heap.lt_size he
    have hil : it < s.heap.objs.size := by obtain ⟨_, q, _⟩ := hit; exact Heap.lt_size q
    have hli : i < its.toArray.size := by
      have := (List.getElem?_eq_some_iff.mp hu).1
      simpa using this
    refine wpAny_pyNext_enum_itemD (Draws.tuple (A := X.A.in1) (I.ok.hd hc) it a hai its.toArray) he ⟨hit, p'⟩ hli hne (by simp [hne, hea]) fun u2 h' tk hu2 ho hst hT hsz hk => ?_
    obtain rfl : u2 = u := by
      have e1 : its.toArray[i]? = some u := by simpa using hu
      rw [e1] at hu2
      exact (Option.some.inj hu2).symm
    have hit' := hst.1
    refine ⟨_, rfl, wpAny_letOwnedTupleGo_enum (s := { s with heap := h', toks := tk + 1 }) ho fun h'' he' sb => ?_⟩
    have hT2 : h''.get? s.heap.objs.size = some { cls := .type "tuple", data := .seq #[.int i tk, u2] } := (sb.2 _ (Nat.ne_of_gt hel)).trans hT
    have new : ObjOk X.prog X.w (L2.upd H s.heap.objs.size (.tup [.int (i : Nat), x])) h'' s.heap.objs.size (.tup [.int (i : Nat), x]) :=
      ⟨by show 2 ≤ sizeLine; decide, [.int i tk, u2], .cons ⟨_, rfl⟩ (.cons ru .nil), ⟨_, hT2, rfl, _, rfl⟩⟩
    have I1 : Inv X pins σ (L2.upd H s.heap.objs.size (.tup [.int (i : Nat), x])) { s with heap := h'', toks := tk + 1 } :=
      I.turnedNew (ch := [e, it]) (fun b ob hb q => (sb.2 b (fun z => hb (by simp [z]))).trans (hk b ob (fun z => hb (by simp [z])) (fun z => hb (by simp [z])) q)) hf (Nat.le_refl _) new
    refine ⟨.ref s.heap.objs.size, _, I1, rfl, ⟨_, x, rfl, I.hok.fresh (Nat.le_refl _), rfl, fun ys hy => by rw [I.tuple_inj hy hq]; exact hx⟩, ⟨⟨u2, ?_⟩, hit'.at fun o q => (sb.2 it (Ne.symm hne)).trans q, hne⟩, fun b hb => ?_⟩
    · have e1 : ((i + 1 : Nat) : Int) = (i : Int) + 1 := by omega
      rw [e1]; exact he'
    · have hb' : b < s.heap.objs.size := by
        have e' : b = e ∨ b = it := by simpa using hb
        rcases e' with z | z
        · rw [z]; exact hel
        · rw [z]; exact hil
      rw [upd_ne (Nat.ne_of_lt hb')]
      exact (hf b hb).1
  done := by
    intro X hP hw hK hc i pins s σ H E I hf st hg
    subst hP hw hK
    obtain ⟨⟨old, he⟩, hit, hne⟩ := st
    obtain ⟨xs, hq, hx⟩ := hg
    obtain ⟨its, rv, p, hz⟩ := I.tuple hq
    have p' : s.heap.IsTuple a its.toArray := p
    obtain ⟨f0, f1, f2, f3, f4, f5⟩ := hf it (by simp)
    have hl := rv.length
    have hT : s.TypeIs (.ref e) "enumerate" := ⟨_, he, rfl⟩
    unfold pyNext
    refine wpAny_bind (wpAny_attempt (wpAny_callSpecial?_slot (name := Str.ofString "__next__") hT F.slot_enumerate_next
      (wpAny_call_entry F.slot_enumerate_next hT F.entry_enumerate_next ?_ (F.args_enumerate_next_1 _))))
    show wpAny _ _ (field (.ref e) 2 >>= _) _ _ _
    refine wpAny_bind (wpAny_field he rfl (x := .ref it) rfl ?_)
    refine wpAny_bind (wpAny_nextOf_tuple_end (I.ok.hd hc) hit p' (by simp; omega) fun h' e2 he' hx' => ?_)
    obtain ⟨o, ho, hc2⟩ := hx'
    refine wpAny_bind (wpAny_isInstance (T := "StopIteration") (b := true) ⟨o, ho, hc2⟩ isSubtype_stop ?_)
    exact wpAny_pure ⟨rfl, I.turned (t' := s.toks) (fun b o hb q => he' b o hb q) f0 f1 f3 f4 f5⟩
  self := fun A i s Q E st h => let ⟨⟨_, he⟩, _⟩ := st; wpAny_pyIter_enum he h
/-- enumerate(xs), xs a list or a tuple -/
def iEnumS (K : PySem.W.Frag) (ta : TA) : TI := fun σ H R => ta σ H fun vs H1 => ∃ a, vs = [.ref a] ∧ (((∃ xs, H1 a = some (.lst xs)) ∧ R (Ite K a) H1) ∨ ((∃ xs, H1 a = some (.tup xs)) ∧ R (IteT K a) H1))
theorem pi_enumS {X : Cx} {e : Expr} {ta : TA} {p pos tpos : Pos} {elts : List Expr} {kk : Nat} (hg : Gl X "enumerate") (hm : X.mg "enumerate" = none) (ha : PA X [e] ta) (hs : starEach [e] X.env = [(false, eval e X.env)] := by rfl) :
    PI X (.Tuple elts kk tpos) (.Call (.Name "enumerate" p) [e] [] pos) (iEnumS X.K ta) := by
  refine ⟨fun pins s σ H R I h => ?_⟩
  refine Call_ (ld_blt I hg hm boot_enumerate (PyProof.Rows.callWith_type1 (thn (ha.run pos pins s σ H _ I h) fun us s1 ⟨vs, H1, I1, r1, q1⟩ => ?_) hs rfl))
  obtain ⟨a, ex, q1⟩ := q1
  subst ex
  cases r1 with
  | cons r rr =>
    cases rr
    cases r
    rcases q1 with ⟨⟨xs, hq⟩, q⟩ | ⟨⟨xs, hq⟩, q⟩
    · obtain ⟨its, rv, p', hz⟩ := I1.list (SqL.of hq)
      refine call_enumerate_list p'.isList fun h' he hit hsz hk => wpAny_pyIter_enum he ?_
      have I2 : Inv X pins σ H1 { s1 with heap := h' } := I1.kept (t' := s1.toks) hk
      refine ⟨s1.heap.objs.size + 1, [s1.heap.objs.size + 1, s1.heap.objs.size], _, _, H1, rfl, I2, turn_enum a (s1.heap.objs.size + 1) s1.heap.objs.size, ⟨⟨.none, he⟩, hit, Nat.succ_ne_self _⟩, fun b hb => ?_, q⟩
      have e' : b = s1.heap.objs.size + 1 ∨ b = s1.heap.objs.size := by simpa using hb
      have hle : s1.heap.objs.size ≤ b := by
        rcases e' with z | z
        · rw [z]; exact Nat.le_add_right _ _
        · rw [z]; exact Nat.le_refl _
      exact I1.fpOk hle (I1.hok.fresh hle)
    · obtain ⟨its, rv, p', hz⟩ := I1.tuple (SqT.of hq)
      have p2 : s1.heap.IsTuple a its.toArray := p'
      have hal : a < s1.heap.objs.size := by obtain ⟨o, q, _⟩ := p2; exact Heap.lt_size q
      refine call_enumerate_tuple p2 fun h' he hit hsz hk => wpAny_pyIter_enum he ?_
      have I2 : Inv X pins σ H1 { s1 with heap := h' } := I1.kept (t' := s1.toks) hk
      refine ⟨s1.heap.objs.size + 1, [s1.heap.objs.size + 1, s1.heap.objs.size], _, _, H1, rfl, I2, turn_enumT a (s1.heap.objs.size + 1) s1.heap.objs.size (Nat.ne_of_lt hal) (Nat.ne_of_gt (Nat.lt_succ_of_lt hal)), ⟨⟨.none, he⟩, hit, Nat.succ_ne_self _⟩, fun b hb => ?_, q⟩
      have e' : b = s1.heap.objs.size + 1 ∨ b = s1.heap.objs.size := by simpa using hb
      have hle : s1.heap.objs.size ≤ b := by
        rcases e' with z | z
        · rw [z]; exact Nat.le_add_right _ _
        · rw [z]; exact Nat.le_refl _
      exact I1.fpOk hle (I1.hok.fresh hle)

/-! ### enumerate as a loop -/
theorem lp_enum {K : PySem.W.Frag} {g : TG} {tb : TS} {D : Ends} {σ : L2.St} {H : Hp} {a : Addr} {xs : List V} (h : sq (H a) = some xs) (Pv : Nat → L2.St → Hp → Prop) (h0 : Pv 0 σ H) (hl : ∀ i σ H', Pv i σ H' → H' a = H a)
    (hs : ∀ i x σ H, xs[i]? = some x → Pv i σ H → ∀ T, H T = none → g (.ref T) σ (L2.upd H T (.tup [.int (i : Nat), x])) fun σ2 H2 => tb { D with nx := Pv (i + 1), ct := Pv (i + 1), bk := D.nx } σ2 H2) (hd : ∀ σ H, Pv xs.length σ H → D.nx σ H) :
    ((∃ xs, H a = some (.lst xs)) ∧ LoopR (Ite K a) g tb D σ H) ∨ ((∃ xs, H a = some (.tup xs)) ∧ LoopR (IteT K a) g tb D σ H) := by
  rcases sq_cases h with e | e
  · refine .inl ⟨⟨_, e⟩, fun i m σ H => m = xs.length - i ∧ i ≤ xs.length ∧ Pv i σ H, ⟨_, rfl, Nat.zero_le _, h0⟩, ?_⟩
    rintro i m σ H' ⟨rfl, hi, p⟩
    have hq : SqL K H' a xs := SqL.of (by rw [hl i σ H' p, e])
    by_cases c : i < xs.length
    · refine .inr ⟨⟨xs, xs[i], hq, List.getElem?_eq_getElem c⟩, Pv (i + 1), fun σ' H2 q => ⟨_, by omega, rfl, c, q⟩, fun v H2 y => ?_⟩
      obtain ⟨T, x, rfl, hT, rfl, hx⟩ := y
      exact hs i x σ H' (hx xs hq) p T hT
    · exact .inl ⟨⟨xs, hq, by omega⟩, hd σ H' (by rw [show xs.length = i from by omega]; exact p)⟩
  · refine .inr ⟨⟨_, e⟩, fun i m σ H => m = xs.length - i ∧ i ≤ xs.length ∧ Pv i σ H, ⟨_, rfl, Nat.zero_le _, h0⟩, ?_⟩
    rintro i m σ H' ⟨rfl, hi, p⟩
    have hq : SqT K H' a xs := SqT.of (by rw [hl i σ H' p, e])
    by_cases c : i < xs.length
    · refine .inr ⟨⟨xs, xs[i], hq, List.getElem?_eq_getElem c⟩, Pv (i + 1), fun σ' H2 q => ⟨_, by omega, rfl, c, q⟩, fun v H2 y => ?_⟩
      obtain ⟨T, x, rfl, hT, rfl, hx⟩ := y
      exact hs i x σ H' (hx xs hq) p T hT
    · exact .inl ⟨⟨xs, hq, by omega⟩, hd σ H' (by rw [show xs.length = i from by omega]; exact p)⟩
theorem r_forE {K : PySem.W.Frag} {ta : TA} {g : TG} {tb : TS} {D : Ends} {σ : L2.St} {H : Hp} : tFor (iEnumS K ta) g tb D σ H = ta σ H (fun vs H1 => ∃ a, vs = [.ref a] ∧ (((∃ xs, H1 a = some (.lst xs)) ∧ LoopR (Ite K a) g tb D σ H1) ∨ ((∃ xs, H1 a = some (.tup xs)) ∧ LoopR (IteT K a) g tb D σ H1))) := rfl

/-! ### reading a table of lines -/
abbrev Ent : Type := Nat × Option Int
def entsB (es : List Ent) : List Nat := (es.map fun e => entryL e.1 e.2).flatten
/-- where the entries end, and the line that they leave -/
def endB (es : List Ent) (b : Nat) : Nat := es.foldl (fun b e => b + 2 * e.1) b
def stepLn (l : Int) (e : Ent) : Int := l + e.2.getD 0
def endL (es : List Ent) (l : Int) : Int := es.foldl stepLn l
def rowOf (e : Ent) (b : Nat) (l : Int) : LR := ⟨b, b + 2 * e.1, e.2.map (l + ·)⟩
def rowsOf : List Ent → Nat → Int → List LR
  | [], _, _ => []
  | e :: es, b, l => rowOf e b l :: rowsOf es (b + 2 * e.1) (stepLn l e)
theorem rowsOf_snoc : ∀ (es : List Ent) (e : Ent) (b : Nat) (l : Int), rowsOf (es ++ [e]) b l = rowsOf es b l ++ [rowOf e (endB es b) (endL es l)]
  | [], e, b, l => rfl
  | x :: es, e, b, l => by
    show rowOf x b l :: rowsOf (es ++ [e]) (b + 2 * x.1) (stepLn l x) = _
    rw [rowsOf_snoc es e]
    rfl
theorem endB_snoc (es : List Ent) (e : Ent) (b : Nat) : endB (es ++ [e]) b = endB es b + 2 * e.1 := by
  unfold endB
  rw [List.foldl_append]
  rfl
theorem endL_snoc (es : List Ent) (e : Ent) (l : Int) : endL (es ++ [e]) l = stepLn (endL es l) e := by
  unfold endL
  rw [List.foldl_append]
  rfl
theorem entsB_snoc (es : List Ent) (e : Ent) : entsB (es ++ [e]) = entsB es ++ entryL e.1 e.2 := by
  unfold entsB
  rw [List.map_append, List.flatten_append]
  simp
theorem entsB_app (es fs : List Ent) : entsB (es ++ fs) = entsB es ++ entsB fs := by
  unfold entsB
  rw [List.map_append, List.flatten_append]
theorem rowsOf_len : ∀ (es : List Ent) (b : Nat) (l : Int), (rowsOf es b l).length = es.length
  | [], _, _ => rfl
  | e :: es, b, l => by
    show (rowsOf es _ _).length + 1 = es.length + 1
    rw [rowsOf_len es]
def EntU (e : Ent) : Prop := 1 ≤ e.1 ∧ e.1 ≤ 8
/-! ### the line of each unit -/
def unitsL : List Ent → Int → List (Option Int)
  | [], _ => []
  | e :: es, l => List.replicate e.1 (e.2.map (l + ·)) ++ unitsL es (stepLn l e)
theorem unitsL_snoc : ∀ (es : List Ent) (e : Ent) (l : Int), unitsL (es ++ [e]) l = unitsL es l ++ List.replicate e.1 (e.2.map (endL es l + ·))
  | [], e, l => by
    show List.replicate e.1 (e.2.map (l + ·)) ++ [] = [] ++ List.replicate e.1 (e.2.map (l + ·))
    simp
  | x :: es, e, l => by
    show List.replicate x.1 (x.2.map (l + ·)) ++ unitsL (es ++ [e]) (stepLn l x) = (List.replicate x.1 (x.2.map (l + ·)) ++ unitsL es (stepLn l x)) ++ _
    rw [unitsL_snoc es e, List.append_assoc]
    rfl
theorem unitsL_len : ∀ {es : List Ent} (l : Int), (∀ e ∈ es, EntU e) → (unitsL es l).length ≤ 8 * es.length
  | [], l, _ => Nat.le_refl _
  | e :: es, l, h => by
    have h1 := unitsL_len (stepLn l e) fun x hx => h x (List.mem_cons_of_mem _ hx)
    have h2 := (h e List.mem_cons_self).2
    show (List.replicate e.1 (e.2.map (l + ·)) ++ unitsL es (stepLn l e)).length ≤ 8 * (es.length + 1)
    rw [List.length_append, List.length_replicate]
    omega
def lvs (us : List (Option Int)) : List V := us.map lnV
def unitRows : List (Option Int) → Nat → List LR
  | [], _ => []
  | x :: r, b => ⟨b, b + 2, x⟩ :: unitRows r (b + 2)
theorem unitRows_app : ∀ (xs ys : List (Option Int)) (b : Nat), unitRows (xs ++ ys) b = unitRows xs b ++ unitRows ys (b + 2 * xs.length)
  | [], ys, b => rfl
  | x :: xs, ys, b => by
    show (⟨b, b + 2, x⟩ : LR) :: unitRows (xs ++ ys) (b + 2) = (⟨b, b + 2, x⟩ : LR) :: (unitRows xs (b + 2) ++ unitRows ys (b + 2 * (xs.length + 1)))
    rw [unitRows_app xs ys, show b + 2 + 2 * xs.length = b + 2 * (xs.length + 1) from by omega]
theorem rep_fold (x : Option Int) (b : Nat) (acc : List LR) : ∀ n : Nat, (unitRows (List.replicate (n + 1) x) b).foldl jstep acc = jstep acc ⟨b, b + 2 * (n + 1), x⟩
  | 0 => rfl
  | n + 1 => by
    rw [List.replicate_succ', unitRows_app, List.foldl_append, rep_fold x b acc n, List.length_replicate]
    exact jstep_two acc b (b + 2 * (n + 1)) (b + 2 * (n + 1) + 2) x
theorem units_fold : ∀ (es : List Ent) (b : Nat) (l : Int) (acc : List LR), (∀ e ∈ es, EntU e) → (unitRows (unitsL es l) b).foldl jstep acc = (rowsOf es b l).foldl jstep acc
  | [], b, l, acc, _ => rfl
  | e :: es, b, l, acc, h => by
    have h1 := (h e List.mem_cons_self).1
    show (unitRows (List.replicate e.1 (e.2.map (l + ·)) ++ unitsL es (stepLn l e)) b).foldl jstep acc = (rowsOf es (b + 2 * e.1) (stepLn l e)).foldl jstep (jstep acc (rowOf e b l))
    obtain ⟨n, hn⟩ : ∃ n, e.1 = n + 1 := ⟨e.1 - 1, by omega⟩
    rw [unitRows_app, List.foldl_append, List.length_replicate, units_fold es _ _ _ fun x hx => h x (List.mem_cons_of_mem _ hx)]
    unfold rowOf
    rw [hn, rep_fold]
theorem units_join {es : List Ent} (l : Int) (h : ∀ e ∈ es, EntU e) : joinL (unitRows (unitsL es l) 0) = joinL (rowsOf es 0 l) := units_fold es 0 l [] h
theorem units_next {us : List (Option Int)} {i : Nat} (h : i < us.length) : joinL (unitRows (us.take (i + 1)) 0) = jstep (joinL (unitRows (us.take i) 0)) ⟨2 * i, 2 * i + 2, us[i]⟩ := by
  rw [← List.take_append_getElem h, unitRows_app, List.length_take, Nat.min_eq_left (Nat.le_of_lt h), Nat.zero_add]
  exact joinL_snoc _ _
theorem lvs_rep (n : Nat) (x : Option Int) : (List.replicate n [lnV x]).flatten = lvs (List.replicate n x) := by
  induction n with
  | zero => rfl
  | succ n ih => rw [List.replicate_succ, List.flatten_cons, ih, List.replicate_succ]; rfl
theorem lvs_app (xs ys : List (Option Int)) : lvs (xs ++ ys) = lvs xs ++ lvs ys := List.map_append
theorem ne_ln {K : PySem.W.Frag} {H : Hp} {a b : Option Int} {Q : VK} (k : Q (.bl (!decide (a = b))) H) : rNeD K (lnV a) (lnV b) H Q := ⟨_, _, dp_ln a, dp_ln b, shaped_ln a, shaped_ln b, by rw [eqv_ln]; exact k⟩
theorem r_par3 {i j l : Nat} {ta : TA} {D : Ends} {σ : L2.St} {H : Hp} : tPar3 i j l ta D σ H = ta σ H (fun vs H1 => ∃ u v w, vs = [u, v, w] ∧ D.nx (((σ.set i (some u)).set j (some v)).set l (some w)) H1) := rfl
/-! ### entries of a table of lines, read from any bytes -/
def ent1 (all : List Nat) (i : Nat) : Except Nat (Ent × Nat) := match all.drop i with
  | [] => .error i
  | x :: _ => if 248 ≤ x then .ok ((x % 8 + 1, none), i + 1) else if 232 ≤ x ∧ x < 240 then (match sread all (i + 1) with
    | .error e => .error e
    | .ok (m, j) => .ok ((x % 8 + 1, some (zag m)), j)) else .error i
theorem ent1_at {all : List Nat} {i : Nat} (h : i < all.length) : ent1 all i = if 248 ≤ all[i] then .ok ((all[i] % 8 + 1, none), i + 1) else if 232 ≤ all[i] ∧ all[i] < 240 then (match sread all (i + 1) with
    | .error e => .error e
    | .ok (m, j) => .ok ((all[i] % 8 + 1, some (zag m)), j)) else .error i := by
  unfold ent1
  rw [drop_at h]
theorem ent1_ok {all : List Nat} {i j : Nat} {e : Ent} (h : ent1 all i = .ok (e, j)) : i < j ∧ j ≤ all.length ∧ EntU e := by
  by_cases c : i < all.length
  · rw [ent1_at c] at h
    split at h
    · cases h
      exact ⟨by omega, by omega, by show 1 ≤ _; omega, by show all[i] % 8 + 1 ≤ 8; omega⟩
    · split at h
      · cases q : sread all (i + 1) with
        | error e => rw [q] at h; cases h
        | ok mj =>
          obtain ⟨m, j'⟩ := mj
          rw [q] at h
          cases h
          obtain ⟨h1, h2, _⟩ := sread_ok q
          exact ⟨by omega, h2, by show 1 ≤ _; omega, by show all[i] % 8 + 1 ≤ 8; omega⟩
      · cases h
  · unfold ent1 at h
    rw [drop_end c] at h
    cases h
def lreadF (all : List Nat) : Nat → Nat → Except Nat (List Ent)
  | 0, _ => .ok []
  | n + 1, i => if i = all.length then .ok [] else match ent1 all i with
    | .error e => .error e
    | .ok (r, j) => match lreadF all n j with
      | .error e => .error e
      | .ok rs => .ok (r :: rs)
def preL (rs : List Ent) : Except Nat (List Ent) → Except Nat (List Ent)
  | .error e => .error e
  | .ok qs => .ok (rs ++ qs)
theorem preL_nil (r : Except Nat (List Ent)) : preL [] r = r := by cases r <;> rfl
theorem preL_step {all : List Nat} {rs : List Ent} {n i j : Nat} {r : Ent} (hi : i ≠ all.length) (h : ent1 all i = .ok (r, j)) : preL rs (lreadF all (n + 1) i) = preL (rs ++ [r]) (lreadF all n j) := by
  rw [lreadF, if_neg hi, h]
  dsimp only
  cases lreadF all n j with
  | error e => rfl
  | ok p => simp [preL]
theorem preL_fail {all : List Nat} {rs : List Ent} {n i j : Nat} (hi : i ≠ all.length) (h : ent1 all i = .error j) : preL rs (lreadF all (n + 1) i) = .error j := by
  rw [lreadF, if_neg hi, h]
  rfl
theorem preL_end {all : List Nat} {rs : List Ent} {n : Nat} : preL rs (lreadF all n all.length) = .ok rs := by
  cases n with
  | zero => simp [lreadF, preL]
  | succ n => simp [lreadF, preL]
def spLRd : Sp := fun vs H Q _ => ∃ (d : Addr) (all : List Nat) (line : Int), vs = [.ref d, .int line] ∧ H d = some (.lst (vn all)) ∧ all.length ≤ 1000 ∧ (∀ n ∈ all, n < 256) ∧ (∀ j, lreadF all all.length 0 = .error j → ∀ H', Same H H' → Q (.int (j : Int)) H') ∧
  ∀ es, lreadF all all.length 0 = .ok es → ∀ F H', H F = none → Same H H' → LRows H' F (joinL (rowsOf es 0 line)) → Q (.ref F) H'
def lvLRd (H : Hp) (d F : Addr) (all : List Nat) (line : Int) (k : Nat) (σ : L2.St) (H' : Hp) : Prop := ∃ (i : Nat) (es : List Ent) (v1 v2 v3 v4 v5 : Option V), σ = [some (.ref d), some (.int (endL es line)), some (.ref F), some (.int (i : Int)), some (.int ((endB es 0 : Nat) : Int)), v1, v2, v3, v4, v5] ∧
  Same H H' ∧ LRows H' F (rowsOf es 0 line) ∧ es.length ≤ k ∧ i ≤ all.length ∧ preL es (lreadF all (all.length - k) i) = lreadF all all.length 0
section
variable {P : Program} {w : World} {K : PySem.W.Frag} {mg : Str → Option Value} {base : Heap} {f : Addr} {fd : FuncData}
abbrev slines_read : Stmt := top 48
theorem sclines_read : FnScope ["_law_data", "_law_line", "_law_found", "_law_at", "_law_low", "_law_turn", "_law_first", "_law_high", "_law_here", "_law_more"] ["_law_data", "_law_line"] (defScope slines_read) := ⟨rfl, rfl, rfl, by decide +kernel, rfl, by decide +kernel, by decide +kernel⟩

abbrev slines_of_units : Stmt := top 32
theorem sclines_of_units : FnScope ["code", "table", "line", "found", "at", "first", "more"] ["code"] (defScope slines_of_units) := ⟨rfl, rfl, rfl, by decide +kernel, rfl, by decide +kernel, by decide +kernel⟩

abbrev sline_rows : Stmt := top 31
theorem scline_rows : FnScope ["code", "lines", "found", "begin", "unit", "line"] ["code"] (defScope sline_rows) := ⟨rfl, rfl, rfl, by decide +kernel, rfl, by decide +kernel, by decide +kernel⟩

theorem ok_lines_read (T : Txt mg) (F : FnP K "_law_lines_read" "_law_lines_read" slines_read f fd) (C_signed_read : Cal P w K mg base 1 "_law_signed_read" ["_law_data", "_law_at"] spSR) (C_joined : Cal P w K mg base 1 "_law_joined" ["_law_some"] spJoinedL) : FnOk P w K mg base CX0 2 f fd ["_law_data", "_law_line"] spLRd := by
  refine F.ok sclines_read (fun vs H Q E h => ?_) (fun cdv A outer s H vs Q E hr h => ?_)
  · obtain ⟨d, all, line, rfl, _⟩ := h
    rfl
  · obtain ⟨d, all, line, rfl, hd, hl, hb, ke, kr⟩ := h
    refine ⟨_, PSs.nox (pss_cons (ps_par3 (i := 2) (j := 3) (l := 4) (by rfl) sclines_read.nd rfl rfl rfl (by decide) (by decide) (by decide) rfl rfl rfl (pa_cons (pe_lst pa_nil) (pa_cons pe_int (pa_cons pe_int pa_nil))) (by rfl))
  (pss_cons (ps_for PassesOwn.never rfl (pi_range1 rfl T.b_range (pa_cons (pe_callB call_len_d (by rfl) T.b_len (by decide +kernel) (pa_cons (pv 0) pa_nil)) pa_nil)) (pg_name (i := 5) sclines_read.nd rfl (Or.inl rfl))
    (pss_cons (ps_if (pt_cmpR op_eq (pv 3) (pe_callB call_len_d (by rfl) T.b_len (by decide +kernel) (pa_cons (pv 0) pa_nil)) (nomark _))
    (pss_one (ps_ret (pe_cal C_joined (hr.mono (by decide)) rfl (pa_cons (pv 2) pa_nil))))
    pss_nil)
  (pss_cons (ps_set (i := 6) sclines_read.nd rfl (Or.inl rfl) (pe_ix ix_d (pv 0) (pv 3) (fun _ _ => rfl)))
  (pss_cons (ps_if (PW.pt (pw_and (pt_not (pt_chain op_le op_lt pe_int (pv 6) pe_int)) (pw_and1 (pt_not (pt_cmpR op_le pe_int (pv 6) (nomark _))))))
    (pss_one (ps_ret (pv 3)))
    pss_nil)
  (pss_cons (ps_par3 (i := 7) (j := 8) (l := 3) (by rfl) sclines_read.nd rfl rfl rfl (by decide) (by decide) (by decide) rfl rfl rfl (pa_cons (pe_op op_add (pv 4) (pe_op op_mul pe_int (pe_op op_add (pe_op op_mod (pe_callTy call_int1 (by rfl) T.b_int (by decide +kernel) (pa_cons (pv 6) pa_nil)) pe_int) pe_int))) (pa_cons pe_non (pa_cons (pe_op op_add (pv 3) pe_int) pa_nil))) (by rfl))
  (pss_cons (ps_if (pt_cmpR op_lt (pv 6) pe_int (nomark _))
    (pss_cons (ps_asg (pe_cal C_signed_read (hr.mono (by decide)) rfl (pa_cons (pv 0) (pa_cons (pv 3) pa_nil))) (pg_tupD (n := 2) rfl (pgs_cons (pg_name (i := 9) sclines_read.nd rfl (Or.inl rfl)) (pgs_cons (pg_name (i := 3) sclines_read.nd rfl (Or.inl rfl)) pgs_nil))))
  (pss_cons (ps_if (pt_cmpR op_isN (pv 9) pe_non (nomark _))
    (pss_one (ps_ret (pv 3)))
    pss_nil)
  (pss_cons (ps_set (i := 1) sclines_read.nd rfl (Or.inl rfl) (pe_op op_add (pv 1) (pv 9)))
  (pss_one (ps_set (i := 8) sclines_read.nd rfl (Or.inl rfl) (pv 1))))))
    pss_nil)
  (pss_cons (ps_expr (pe_bm PySem.F.plainAttrs_list PySem.F.slot_list_append PySem.F.type_list_append mt_append (pv 2) (pa_cons (pe_tup (pa_cons (pv 4) (pa_cons (pv 7) (pa_cons (pv 8) pa_nil)))) pa_nil)))
  (pss_one (ps_set (i := 4) sclines_read.nd rfl (Or.inl rfl) (pv 7))))))))))
  (pss_one (ps_ret (pe_cal C_joined (hr.mono (by decide)) rfl (pa_cons (pv 2) pa_nil)))))), ?_⟩
    show (_ : TS) _ [some (.ref d), some (.int line), none, none, none, none, none, none, none, none] H
    simp only [r_seq, r_next, r_brk, r_cont, r_asg, r_name, r_ret, r_retN, r_drop, r_ifs, r_never, r_var, r_c, r_op, r_un, r_if, r_tst, r_b, r_not, r_and, r_or, r_andV, r_orV, r_notV, r_nil, r_cons, r_tup, r_lst, r_cb, r_call, r_bm, r_bm0, r_sl, r_nopart, r_part, r_rev, r_gnil, r_gcons, r_gsub, r_par, r_aug, r_chain, r_I0, r_I, r_U, r_ixd, r_lend, r_tupd, r_listd, r_sld, r_app, r_ext, r_reverse, r_setl, r_cat, r_int1, r_eqS, r_neS, scal_ii, scal_bb, scal_ss, at0, at1, at2, sq_lst, sq_tup, isLst_lst, List.getElem?_cons_zero, List.getElem?_cons_succ, List.set_cons_zero, List.set_cons_succ, V.int.injEq, V.bl.injEq, V.ref.injEq, V.str.injEq, HO.lst.injEq, HO.tup.injEq, Option.some.injEq, exists_eq_left', exists_eq_left, List.cons.injEq, and_true, true_and, decide_eq_true_eq, reduceCtorEq, false_and, exists_false, or_false, false_or, exists_const, and_assoc, exists_and_left, List.append_nil, ix0, ix1, ix2, cm_mod, cdw1009, cdw2003, cdw7, cdw64, cdw2, cm104729, cm2, cm3, upd_same, List.length_cons, List.length_nil, Int.reduceLT, Int.reduceLE, Nat.reduceAdd, Nat.reduceLeDiff, Nat.reduceLT, Int.reduceToNat, r_for1, r_forL, r_forT, r_lcL, r_lc1, r_yes, r_gtupD, wipe_0, wipe_1, List.cons_append, List.nil_append, r_forS, r_ipI, ite_false, ite_true, Bool.not_true, Bool.not_false, decide_true, decide_false, r_isd, r_islt, cD_ty, cD_ref, tD_non, tD_bl, tD_int, tD_str, tD_ref, tH_lst, tH_tup, tH_dK, tH_ins, ki_self, ki_int_bool, ki_non_int, ki_str_int, ki_lt_lst, ki_lt_tup, r_fld, r_sfld, HO.ins.injEq, cx_K, r_par3]
    refine ⟨szl (by decide), fun F hF => ?_⟩
    have dF : d ≠ F := ne_new hd hF
    simp only [r_seq, r_next, r_brk, r_cont, r_asg, r_name, r_ret, r_retN, r_drop, r_ifs, r_never, r_var, r_c, r_op, r_un, r_if, r_tst, r_b, r_not, r_and, r_or, r_andV, r_orV, r_notV, r_nil, r_cons, r_tup, r_lst, r_cb, r_call, r_bm, r_bm0, r_sl, r_nopart, r_part, r_rev, r_gnil, r_gcons, r_gsub, r_par, r_aug, r_chain, r_I0, r_I, r_U, r_ixd, r_lend, r_tupd, r_listd, r_sld, r_app, r_ext, r_reverse, r_setl, r_cat, r_int1, r_eqS, r_neS, scal_ii, scal_bb, scal_ss, at0, at1, at2, sq_lst, sq_tup, isLst_lst, List.getElem?_cons_zero, List.getElem?_cons_succ, List.set_cons_zero, List.set_cons_succ, V.int.injEq, V.bl.injEq, V.ref.injEq, V.str.injEq, HO.lst.injEq, HO.tup.injEq, Option.some.injEq, exists_eq_left', exists_eq_left, List.cons.injEq, and_true, true_and, decide_eq_true_eq, reduceCtorEq, false_and, exists_false, or_false, false_or, exists_const, and_assoc, exists_and_left, List.append_nil, ix0, ix1, ix2, cm_mod, cdw1009, cdw2003, cdw7, cdw64, cdw2, cm104729, cm2, cm3, upd_same, List.length_cons, List.length_nil, Int.reduceLT, Int.reduceLE, Nat.reduceAdd, Nat.reduceLeDiff, Nat.reduceLT, Int.reduceToNat, r_for1, r_forL, r_forT, r_lcL, r_lc1, r_yes, r_gtupD, wipe_0, wipe_1, List.cons_append, List.nil_append, r_forS, r_ipI, ite_false, ite_true, Bool.not_true, Bool.not_false, decide_true, decide_false, r_isd, r_islt, cD_ty, cD_ref, tD_non, tD_bl, tD_int, tD_str, tD_ref, tH_lst, tH_tup, tH_dK, tH_ins, ki_self, ki_int_bool, ki_non_int, ki_str_int, ki_lt_lst, ki_lt_tup, r_fld, r_sfld, HO.ins.injEq, cx_K, hd, (une dF), vn_len, Int.toNat_natCast]
    refine ⟨by omega, by omega, lp_rng (n := all.length) (lvLRd H d F all line) ⟨0, [], _, _, _, _, _, rfl, Same.new' (Same.refl H) hF, ⟨[], upd_same, .nil⟩, Nat.zero_le _, Nat.zero_le _, by rw [preL_nil, Nat.sub_zero]⟩ ?_ ?_⟩
    · rintro k σ H1 hk ⟨i, es, v1, v2, v3, v4, v5, rfl, s1, rows, hes, hi, inv⟩
      have hd1 := s1 _ _ hd
      obtain ⟨refs, hF1, pF⟩ := rows
      have lr := Paired.length pF
      rw [rowsOf_len] at lr
      by_cases q : i = all.length
      · have ei : ((i : Int) = (all.length : Int)) = True := eq_true (by omega)
        simp only [r_seq, r_next, r_brk, r_cont, r_asg, r_name, r_ret, r_retN, r_drop, r_ifs, r_never, r_var, r_c, r_op, r_un, r_if, r_tst, r_b, r_not, r_and, r_or, r_andV, r_orV, r_notV, r_nil, r_cons, r_tup, r_lst, r_cb, r_call, r_bm, r_bm0, r_sl, r_nopart, r_part, r_rev, r_gnil, r_gcons, r_gsub, r_par, r_aug, r_chain, r_I0, r_I, r_U, r_ixd, r_lend, r_tupd, r_listd, r_sld, r_app, r_ext, r_reverse, r_setl, r_cat, r_int1, r_eqS, r_neS, scal_ii, scal_bb, scal_ss, at0, at1, at2, sq_lst, sq_tup, isLst_lst, List.getElem?_cons_zero, List.getElem?_cons_succ, List.set_cons_zero, List.set_cons_succ, V.int.injEq, V.bl.injEq, V.ref.injEq, V.str.injEq, HO.lst.injEq, HO.tup.injEq, Option.some.injEq, exists_eq_left', exists_eq_left, List.cons.injEq, and_true, true_and, decide_eq_true_eq, reduceCtorEq, false_and, exists_false, or_false, false_or, exists_const, and_assoc, exists_and_left, List.append_nil, ix0, ix1, ix2, cm_mod, cdw1009, cdw2003, cdw7, cdw64, cdw2, cm104729, cm2, cm3, upd_same, List.length_cons, List.length_nil, Int.reduceLT, Int.reduceLE, Nat.reduceAdd, Nat.reduceLeDiff, Nat.reduceLT, Int.reduceToNat, r_for1, r_forL, r_forT, r_lcL, r_lc1, r_yes, r_gtupD, wipe_0, wipe_1, List.cons_append, List.nil_append, r_forS, r_ipI, ite_false, ite_true, Bool.not_true, Bool.not_false, decide_true, decide_false, r_isd, r_islt, cD_ty, cD_ref, tD_non, tD_bl, tD_int, tD_str, tD_ref, tH_lst, tH_tup, tH_dK, tH_ins, ki_self, ki_int_bool, ki_non_int, ki_str_int, ki_lt_lst, ki_lt_tup, r_fld, r_sfld, HO.ins.injEq, cx_K, hd1, vn_len, ei]
        subst q
        rw [preL_end] at inv
        exact ⟨F, _, rfl, ⟨refs, hF1, pF⟩, by rw [rowsOf_len]; omega, fun F2 H2 hF2 s2 r2 => kr es inv.symm F2 H2 (s1.free hF2) (s1.trans s2) r2⟩
      · have c0 : i < all.length := by omega
        have ei : ((i : Int) = (all.length : Int)) = False := eq_false (by omega)
        have e1 := vn_at c0
        have ent := ent1_at c0
        have hx256 := hb _ (List.getElem_mem c0)
        obtain ⟨k', ek⟩ : ∃ k', all.length - k = k' + 1 := ⟨all.length - k - 1, by omega⟩
        rw [ek] at inv
        generalize all[i] = x at *
        have k1 : ((endB es 0 : Nat) : Int) + 2 * ((x : Int) % 8 + 1) = ((endB es 0 + 2 * (x % 8 + 1) : Nat) : Int) := by omega
        have k2 : ((i : Nat) : Int) + 1 = ((i + 1 : Nat) : Int) := by omega
        -- a row more
        have fin : ∀ (H2 : Hp) (e : Ent) (j : Nat) (w1 w2 w3 w4 w5 : Option V), Same H1 H2 → ent1 all i = .ok (e, j) → ∀ p, H2 p = none →
            ∃ xs, L2.upd H2 p (.tup (lv (rowOf e (endB es 0) (endL es line)))) F = some (.lst xs) ∧ xs.length < sizeLine ∧
              lvLRd H d F all line (k + 1) [some (.ref d), some (.int (stepLn (endL es line) e)), some (.ref F), some (.int (j : Int)), some (.int ((endB es 0 + 2 * e.1 : Nat) : Int)), w1, w2, w3, w4, w5] (L2.upd (L2.upd H2 p (.tup (lv (rowOf e (endB es 0) (endL es line))))) F (.lst (xs ++ [.ref p]))) := by
          intro H2 e j w1 w2 w3 w4 w5 s2 en p hp
          have hF2 := s2 _ _ hF1
          have pF2 := Paired.map' pF fun a b h => s2 a _ h
          obtain ⟨q1, q2, q3⟩ := ent1_ok en
          rw [preL_step q en] at inv
          refine ⟨_, by rw [upd_ne (ne_new hF2 hp)]; exact hF2, Nat.lt_of_le_of_lt (by rw [List.length_map]; omega : _ ≤ 1000) (by decide), ?_⟩
          obtain ⟨p1, p2⟩ := rows_put (R := rowOf e (endB es 0) (endL es line)) hF (s1.trans s2) hF2 pF2 hp
          exact ⟨j, es ++ [e], _, _, _, _, _, by rw [endL_snoc, endB_snoc], p1, by rw [rowsOf_snoc]; exact p2, by rw [List.length_append, List.length_singleton]; omega, q2, by rw [show all.length - (k + 1) = k' from by omega]; exact inv⟩
        have err : ∀ {j : Nat} {Hx : Hp}, Same H1 Hx → ent1 all i = .error j → Q (.int (j : Int)) Hx := fun {j Hx} sx en => by
          rw [preL_fail q en] at inv
          exact ke j inv.symm Hx (s1.trans sx)
        by_cases cA : 248 ≤ x
        · have a1 : ((232 : Int) ≤ (x : Int)) = True := eq_true (by omega)
          have a2 : ((x : Int) < 240) = False := eq_false (by omega)
          have a3 : ((248 : Int) ≤ (x : Int)) = True := eq_true (by omega)
          rw [if_pos cA] at ent
          simp only [r_seq, r_next, r_brk, r_cont, r_asg, r_name, r_ret, r_retN, r_drop, r_ifs, r_never, r_var, r_c, r_op, r_un, r_if, r_tst, r_b, r_not, r_and, r_or, r_andV, r_orV, r_notV, r_nil, r_cons, r_tup, r_lst, r_cb, r_call, r_bm, r_bm0, r_sl, r_nopart, r_part, r_rev, r_gnil, r_gcons, r_gsub, r_par, r_aug, r_chain, r_I0, r_I, r_U, r_ixd, r_lend, r_tupd, r_listd, r_sld, r_app, r_ext, r_reverse, r_setl, r_cat, r_int1, r_eqS, r_neS, scal_ii, scal_bb, scal_ss, at0, at1, at2, sq_lst, sq_tup, isLst_lst, List.getElem?_cons_zero, List.getElem?_cons_succ, List.set_cons_zero, List.set_cons_succ, V.int.injEq, V.bl.injEq, V.ref.injEq, V.str.injEq, HO.lst.injEq, HO.tup.injEq, Option.some.injEq, exists_eq_left', exists_eq_left, List.cons.injEq, and_true, true_and, decide_eq_true_eq, reduceCtorEq, false_and, exists_false, or_false, false_or, exists_const, and_assoc, exists_and_left, List.append_nil, ix0, ix1, ix2, cm_mod, cdw1009, cdw2003, cdw7, cdw64, cdw2, cm104729, cm2, cm3, upd_same, List.length_cons, List.length_nil, Int.reduceLT, Int.reduceLE, Nat.reduceAdd, Nat.reduceLeDiff, Nat.reduceLT, Int.reduceToNat, r_for1, r_forL, r_forT, r_lcL, r_lc1, r_yes, r_gtupD, wipe_0, wipe_1, List.cons_append, List.nil_append, r_forS, r_ipI, ite_false, ite_true, Bool.not_true, Bool.not_false, decide_true, decide_false, r_isd, r_islt, cD_ty, cD_ref, tD_non, tD_bl, tD_int, tD_str, tD_ref, tH_lst, tH_tup, tH_dK, tH_ins, ki_self, ki_int_bool, ki_non_int, ki_str_int, ki_lt_lst, ki_lt_tup, r_fld, r_sfld, HO.ins.injEq, cx_K, hd1, vn_len, ei, e1, a1, a2, a3, r_par3, k1, k2]
          refine ⟨tyl hF1, szl (by decide), fun p hp => ?_⟩
          have f := fin H1 (x % 8 + 1, none) (i + 1) (some (.int (k : Int))) (some (.int (x : Int))) (some (.int ((endB es 0 + 2 * (x % 8 + 1) : Nat) : Int))) (some .non) v5 (Same.refl H1) ent p hp
          rw [show stepLn (endL es line) (x % 8 + 1, none) = endL es line from Int.add_zero _] at f
          exact f
        · rw [if_neg cA] at ent
          by_cases cB : 232 ≤ x ∧ x < 240
          · have a1 : ((232 : Int) ≤ (x : Int)) = True := eq_true (by omega)
            have a2 : ((x : Int) < 240) = True := eq_true (by omega)
            rw [if_pos cB] at ent
            simp only [r_seq, r_next, r_brk, r_cont, r_asg, r_name, r_ret, r_retN, r_drop, r_ifs, r_never, r_var, r_c, r_op, r_un, r_if, r_tst, r_b, r_not, r_and, r_or, r_andV, r_orV, r_notV, r_nil, r_cons, r_tup, r_lst, r_cb, r_call, r_bm, r_bm0, r_sl, r_nopart, r_part, r_rev, r_gnil, r_gcons, r_gsub, r_par, r_aug, r_chain, r_I0, r_I, r_U, r_ixd, r_lend, r_tupd, r_listd, r_sld, r_app, r_ext, r_reverse, r_setl, r_cat, r_int1, r_eqS, r_neS, scal_ii, scal_bb, scal_ss, at0, at1, at2, sq_lst, sq_tup, isLst_lst, List.getElem?_cons_zero, List.getElem?_cons_succ, List.set_cons_zero, List.set_cons_succ, V.int.injEq, V.bl.injEq, V.ref.injEq, V.str.injEq, HO.lst.injEq, HO.tup.injEq, Option.some.injEq, exists_eq_left', exists_eq_left, List.cons.injEq, and_true, true_and, decide_eq_true_eq, reduceCtorEq, false_and, exists_false, or_false, false_or, exists_const, and_assoc, exists_and_left, List.append_nil, ix0, ix1, ix2, cm_mod, cdw1009, cdw2003, cdw7, cdw64, cdw2, cm104729, cm2, cm3, upd_same, List.length_cons, List.length_nil, Int.reduceLT, Int.reduceLE, Nat.reduceAdd, Nat.reduceLeDiff, Nat.reduceLT, Int.reduceToNat, r_for1, r_forL, r_forT, r_lcL, r_lc1, r_yes, r_gtupD, wipe_0, wipe_1, List.cons_append, List.nil_append, r_forS, r_ipI, ite_false, ite_true, Bool.not_true, Bool.not_false, decide_true, decide_false, r_isd, r_islt, cD_ty, cD_ref, tD_non, tD_bl, tD_int, tD_str, tD_ref, tH_lst, tH_tup, tH_dK, tH_ins, ki_self, ki_int_bool, ki_non_int, ki_str_int, ki_lt_lst, ki_lt_tup, r_fld, r_sfld, HO.ins.injEq, cx_K, hd1, vn_len, ei, e1, a1, a2, r_par3, k1, k2]
            refine ⟨d, all, i + 1, rfl, hd1, by omega, hl, fun p2 H2 hp2 s2 h2 => ?_⟩
            cases e : sread all (i + 1) with
            | error j =>
              rw [e] at h2 ent
              refine ⟨p2, rfl, _, h2, rfl, _, _, rfl, _, _, rfl, rfl, ?_⟩
              rw [if_pos rfl]
              exact err s2 ent
            | ok mj =>
              obtain ⟨m, j⟩ := mj
              rw [e] at h2 ent
              have ent : ent1 all i = .ok ((x % 8 + 1, some (zag m)), j) := ent
              refine ⟨p2, rfl, _, h2, rfl, _, _, rfl, _, _, rfl, rfl, ?_⟩
              rw [if_neg (fun z => nomatch z)]
              have hF2 := s2 _ _ hF1
              refine ⟨zag m, rfl, tyl hF2, szl (by decide), fun p hp => ?_⟩
              exact fin H2 (x % 8 + 1, some (zag m)) j (some (.int (k : Int))) (some (.int (x : Int))) (some (.int ((endB es 0 + 2 * (x % 8 + 1) : Nat) : Int))) (some (.int (endL es line + zag m))) (some (.int (zag m))) s2 ent p hp
          · rw [if_neg cB] at ent
            have a3 : ((248 : Int) ≤ (x : Int)) = False := eq_false (by omega)
            by_cases cC : 232 ≤ x
            · have a1 : ((232 : Int) ≤ (x : Int)) = True := eq_true (by omega)
              have a2 : ((x : Int) < 240) = False := eq_false (by omega)
              simp only [r_seq, r_next, r_brk, r_cont, r_asg, r_name, r_ret, r_retN, r_drop, r_ifs, r_never, r_var, r_c, r_op, r_un, r_if, r_tst, r_b, r_not, r_and, r_or, r_andV, r_orV, r_notV, r_nil, r_cons, r_tup, r_lst, r_cb, r_call, r_bm, r_bm0, r_sl, r_nopart, r_part, r_rev, r_gnil, r_gcons, r_gsub, r_par, r_aug, r_chain, r_I0, r_I, r_U, r_ixd, r_lend, r_tupd, r_listd, r_sld, r_app, r_ext, r_reverse, r_setl, r_cat, r_int1, r_eqS, r_neS, scal_ii, scal_bb, scal_ss, at0, at1, at2, sq_lst, sq_tup, isLst_lst, List.getElem?_cons_zero, List.getElem?_cons_succ, List.set_cons_zero, List.set_cons_succ, V.int.injEq, V.bl.injEq, V.ref.injEq, V.str.injEq, HO.lst.injEq, HO.tup.injEq, Option.some.injEq, exists_eq_left', exists_eq_left, List.cons.injEq, and_true, true_and, decide_eq_true_eq, reduceCtorEq, false_and, exists_false, or_false, false_or, exists_const, and_assoc, exists_and_left, List.append_nil, ix0, ix1, ix2, cm_mod, cdw1009, cdw2003, cdw7, cdw64, cdw2, cm104729, cm2, cm3, upd_same, List.length_cons, List.length_nil, Int.reduceLT, Int.reduceLE, Nat.reduceAdd, Nat.reduceLeDiff, Nat.reduceLT, Int.reduceToNat, r_for1, r_forL, r_forT, r_lcL, r_lc1, r_yes, r_gtupD, wipe_0, wipe_1, List.cons_append, List.nil_append, r_forS, r_ipI, ite_false, ite_true, Bool.not_true, Bool.not_false, decide_true, decide_false, r_isd, r_islt, cD_ty, cD_ref, tD_non, tD_bl, tD_int, tD_str, tD_ref, tH_lst, tH_tup, tH_dK, tH_ins, ki_self, ki_int_bool, ki_non_int, ki_str_int, ki_lt_lst, ki_lt_tup, r_fld, r_sfld, HO.ins.injEq, cx_K, hd1, vn_len, ei, e1, a1, a2, a3]
              exact err (Same.refl H1) ent
            · have a1 : ((232 : Int) ≤ (x : Int)) = False := eq_false (by omega)
              simp only [r_seq, r_next, r_brk, r_cont, r_asg, r_name, r_ret, r_retN, r_drop, r_ifs, r_never, r_var, r_c, r_op, r_un, r_if, r_tst, r_b, r_not, r_and, r_or, r_andV, r_orV, r_notV, r_nil, r_cons, r_tup, r_lst, r_cb, r_call, r_bm, r_bm0, r_sl, r_nopart, r_part, r_rev, r_gnil, r_gcons, r_gsub, r_par, r_aug, r_chain, r_I0, r_I, r_U, r_ixd, r_lend, r_tupd, r_listd, r_sld, r_app, r_ext, r_reverse, r_setl, r_cat, r_int1, r_eqS, r_neS, scal_ii, scal_bb, scal_ss, at0, at1, at2, sq_lst, sq_tup, isLst_lst, List.getElem?_cons_zero, List.getElem?_cons_succ, List.set_cons_zero, List.set_cons_succ, V.int.injEq, V.bl.injEq, V.ref.injEq, V.str.injEq, HO.lst.injEq, HO.tup.injEq, Option.some.injEq, exists_eq_left', exists_eq_left, List.cons.injEq, and_true, true_and, decide_eq_true_eq, reduceCtorEq, false_and, exists_false, or_false, false_or, exists_const, and_assoc, exists_and_left, List.append_nil, ix0, ix1, ix2, cm_mod, cdw1009, cdw2003, cdw7, cdw64, cdw2, cm104729, cm2, cm3, upd_same, List.length_cons, List.length_nil, Int.reduceLT, Int.reduceLE, Nat.reduceAdd, Nat.reduceLeDiff, Nat.reduceLT, Int.reduceToNat, r_for1, r_forL, r_forT, r_lcL, r_lc1, r_yes, r_gtupD, wipe_0, wipe_1, List.cons_append, List.nil_append, r_forS, r_ipI, ite_false, ite_true, Bool.not_true, Bool.not_false, decide_true, decide_false, r_isd, r_islt, cD_ty, cD_ref, tD_non, tD_bl, tD_int, tD_str, tD_ref, tH_lst, tH_tup, tH_dK, tH_ins, ki_self, ki_int_bool, ki_non_int, ki_str_int, ki_lt_lst, ki_lt_tup, r_fld, r_sfld, HO.ins.injEq, cx_K, hd1, vn_len, ei, e1, a1, a3]
              exact err (Same.refl H1) ent
    · rintro σ H1 ⟨i, es, v1, v2, v3, v4, v5, rfl, s1, rows, hes, hi, inv⟩
      rw [Nat.sub_self] at inv
      simp only [r_seq, r_next, r_brk, r_cont, r_asg, r_name, r_ret, r_retN, r_drop, r_ifs, r_never, r_var, r_c, r_op, r_un, r_if, r_tst, r_b, r_not, r_and, r_or, r_andV, r_orV, r_notV, r_nil, r_cons, r_tup, r_lst, r_cb, r_call, r_bm, r_bm0, r_sl, r_nopart, r_part, r_rev, r_gnil, r_gcons, r_gsub, r_par, r_aug, r_chain, r_I0, r_I, r_U, r_ixd, r_lend, r_tupd, r_listd, r_sld, r_app, r_ext, r_reverse, r_setl, r_cat, r_int1, r_eqS, r_neS, scal_ii, scal_bb, scal_ss, at0, at1, at2, sq_lst, sq_tup, isLst_lst, List.getElem?_cons_zero, List.getElem?_cons_succ, List.set_cons_zero, List.set_cons_succ, V.int.injEq, V.bl.injEq, V.ref.injEq, V.str.injEq, HO.lst.injEq, HO.tup.injEq, Option.some.injEq, exists_eq_left', exists_eq_left, List.cons.injEq, and_true, true_and, decide_eq_true_eq, reduceCtorEq, false_and, exists_false, or_false, false_or, exists_const, and_assoc, exists_and_left, List.append_nil, ix0, ix1, ix2, cm_mod, cdw1009, cdw2003, cdw7, cdw64, cdw2, cm104729, cm2, cm3, upd_same, List.length_cons, List.length_nil, Int.reduceLT, Int.reduceLE, Nat.reduceAdd, Nat.reduceLeDiff, Nat.reduceLT, Int.reduceToNat, r_for1, r_forL, r_forT, r_lcL, r_lc1, r_yes, r_gtupD, wipe_0, wipe_1, List.cons_append, List.nil_append, r_forS, r_ipI, ite_false, ite_true, Bool.not_true, Bool.not_false, decide_true, decide_false, r_isd, r_islt, cD_ty, cD_ref, tD_non, tD_bl, tD_int, tD_str, tD_ref, tH_lst, tH_tup, tH_dK, tH_ins, ki_self, ki_int_bool, ki_non_int, ki_str_int, ki_lt_lst, ki_lt_tup, r_fld, r_sfld, HO.ins.injEq, cx_K]
      exact ⟨F, _, rfl, rows, by rw [rowsOf_len]; omega, fun F2 H2 hF2 s2 r2 => kr es (by rw [← inv]; simp [lreadF, preL]) F2 H2 (s1.free hF2) (s1.trans s2) r2⟩
theorem lvs_len {us : List (Option Int)} : (lvs us).length = us.length := List.length_map _
/-- what the program makes of a table of lines: the lines of its units -/
def OutU (CT : Addr) (first : Int) (H : Hp) (Q : VK) (E : XK) : Except Nat (List Ent) → Prop
  | .error j => ∀ d H', H d = none → Same H H' → H' d = some (.xd [("at", .int (j : Int))]) → E (.ref CT) (some d) H'
  | .ok es => ∀ F H', H F = none → Same H H' → H' F = some (.lst (lvs (unitsL es first))) → Q (.ref F) H'
/-- .. and its rows -/
def OutR (CT : Addr) (first : Int) (H : Hp) (Q : VK) (E : XK) : Except Nat (List Ent) → Prop
  | .error j => ∀ d H', H d = none → Same H H' → H' d = some (.xd [("at", .int (j : Int))]) → E (.ref CT) (some d) H'
  | .ok es => ∀ F H', H F = none → Same H H' → LRows H' F (joinL (rowsOf es 0 first)) → Q (.ref F) H'
def spU (CC CT : Addr) : Sp := fun vs H Q E => ∃ (c dx : Addr) (fs : List (Str × V)) (t : Addr) (first : Int) (all : List Nat), vs = [.ref c] ∧ H c = some (.ins CC dx fs) ∧ fs.lookup ("lines" : Str) = some (.ref t) ∧ fs.lookup ("line" : Str) = some (.int first) ∧ H t = some (.tup (vn all)) ∧ all.length ≤ 1000 ∧ (∀ n ∈ all, n < 256) ∧
  OutU CT first H Q E (lreadF all all.length 0)
def spLineRows (CC CT : Addr) : Sp := fun vs H Q E => ∃ (c dx : Addr) (fs : List (Str × V)) (t : Addr) (first : Int) (all : List Nat), vs = [.ref c] ∧ H c = some (.ins CC dx fs) ∧ fs.lookup ("lines" : Str) = some (.ref t) ∧ fs.lookup ("line" : Str) = some (.int first) ∧ H t = some (.tup (vn all)) ∧ all.length ≤ 1000 ∧ (∀ n ∈ all, n < 256) ∧
  OutR CT first H Q E (lreadF all all.length 0)
theorem lreadF_ok {all : List Nat} : ∀ {n i : Nat} {es : List Ent}, lreadF all n i = .ok es → (∀ e ∈ es, EntU e) ∧ es.length ≤ n
  | 0, i, es, h => by
    cases h
    exact ⟨(fun e he => by cases he), Nat.le_refl _⟩
  | n + 1, i, es, h => by
    rw [lreadF] at h
    split at h
    · cases h
      exact ⟨(fun e he => by cases he), Nat.zero_le _⟩
    · cases q : ent1 all i with
      | error e => rw [q] at h; cases h
      | ok ej =>
        obtain ⟨e, j⟩ := ej
        rw [q] at h
        dsimp only at h
        cases q2 : lreadF all n j with
        | error e => rw [q2] at h; cases h
        | ok rs =>
          rw [q2] at h
          cases h
          obtain ⟨h1, h2⟩ := lreadF_ok q2
          refine ⟨fun x hx => ?_, by rw [List.length_cons]; omega⟩
          rcases List.mem_cons.mp hx with rfl | hx
          · exact (ent1_ok q).2.2
          · exact h1 x hx
def lvLU (H : Hp) (c t F : Addr) (all : List Nat) (first : Int) (σ : L2.St) (H' : Hp) : Prop := ∃ (i n : Nat) (es : List Ent) (v1 v2 : Option V), σ = [some (.ref c), some (.ref t), some (.int (endL es first)), some (.ref F), some (.int (i : Int)), v1, v2] ∧ Same H H' ∧ H' F = some (.lst (lvs (unitsL es first))) ∧ (∀ e ∈ es, EntU e) ∧ es.length ≤ i ∧ i ≤ all.length ∧ all.length - i ≤ n ∧
  preL es (lreadF all n i) = lreadF all all.length 0
def msLU (m : Nat) (σ : L2.St) : Nat := match σ with
  | _ :: _ :: _ :: _ :: some (.int a) :: _ => m - a.toNat
  | _ => 0
theorem ok_lines_of_units {CC CT : Addr} (T : Txt mg) (I : CodeT K mg CC) (X_NoTable : Exn P w K mg base "NoTable" CT "at") (F : FnP K "lines_of_units" "lines_of_units" slines_of_units f fd)
    (CX_signed_number : CalE P w K mg base 3 "signed_number" ["table", "at"] (spSN CT)) : FnOk P w K mg base (CX P w) 4 f fd ["code"] (spU CC CT) := by
  refine F.ok sclines_of_units (fun vs H Q E h => ?_) (fun cdv A outer s H vs Q E hr h => ?_)
  · obtain ⟨c, dx, fs, t, first, all, rfl, _⟩ := h
    rfl
  · refine ⟨_, (pss_cons (ps_set (i := 1) sclines_of_units.nd rfl (Or.inl rfl) (pe_fld (pv 0) rfl))
  (pss_cons (ps_set (i := 2) sclines_of_units.nd rfl (Or.inl rfl) (pe_fld (pv 0) rfl))
  (pss_cons (ps_set (i := 3) sclines_of_units.nd rfl (Or.inl rfl) (pe_lst pa_nil))
  (pss_cons (ps_set (i := 4) sclines_of_units.nd rfl (Or.inl rfl) pe_int)
  (pss_cons (ps_while (passes_of rfl) (pt_cmpR op_lt (pv 4) (pe_callB call_len_d (by rfl) T.b_len (by decide +kernel) (pa_cons (pv 1) pa_nil)) (nomark _))
    (pss_cons (ps_set (i := 5) sclines_of_units.nd rfl (Or.inl rfl) (pe_ix ix_d (pv 1) (pv 4) (fun _ _ => rfl)))
  (pss_cons (ps_aug (i := 4) sclines_of_units.nd rfl (.inl rfl) pe_int ip_add)
  (pss_cons (ps_if (pt_cmpR op_ge (pv 5) (pe_gi T.g_WITHOUT_LINE) (nomark _))
    (pss_cons (ps_expr (pe_bm PySem.F.plainAttrs_list PySem.F.slot_list_extend PySem.F.type_list_extend mt_extend (pv 3) (pa_cons (pe_op op_rep (pe_lst (pa_cons pe_non pa_nil)) (pe_op op_add (pe_op op_sub (pv 5) (pe_gi T.g_WITHOUT_LINE)) pe_int)) pa_nil)))
  (pss_one ps_continue))
    pss_nil)
  (pss_cons (ps_if (pt_not (pt_chain op_le op_lt (pe_gi T.g_WITH_LINE) (pv 5) (pe_op op_add (pe_gi T.g_WITH_LINE) (pe_gi T.g_MOST_UNITS))))
    (pss_one (ps_raise rfl (takes_of rfl rfl rfl rfl) (pmk_x X_NoTable (hr.mono (by decide)) rfl (pe_op op_sub (pv 4) pe_int))))
    pss_nil)
  (pss_cons (ps_if (PW.pt (pw_and (pt_cmpR op_lt (pv 4) (pe_callB call_len_d (by rfl) T.b_len (by decide +kernel) (pa_cons (pv 1) pa_nil)) (nomark _)) (pw_and (pt_cmpR op_lt (pe_ix ix_d (pv 1) (pv 4) (fun _ _ => rfl)) (pe_gi T.g_GOES_ON) (nomark _)) (pw_and1 (pt_not (pt_truth (pe_op op_and (pe_ix ix_d (pv 1) (pv 4) (fun _ _ => rfl)) pe_int) (by intro _; rfl)))))))
    (pss_cons (ps_aug (i := 2) sclines_of_units.nd rfl (.inl rfl) (pe_op op_shr (pe_ix ix_d (pv 1) (pv 4) (fun _ _ => rfl)) pe_int) ip_add)
  (pss_one (ps_aug (i := 4) sclines_of_units.nd rfl (.inl rfl) pe_int ip_add)))
    (pss_cons (ps_asg (pe_calE CX_signed_number (hr.mono (by decide)) rfl (takes_of rfl rfl rfl rfl) (fun _ _ _ _ z => z) (pa_cons (pv 1) (pa_cons (pv 4) pa_nil))) (pg_tupD (n := 2) rfl (pgs_cons (pg_name (i := 6) sclines_of_units.nd rfl (Or.inl rfl)) (pgs_cons (pg_name (i := 4) sclines_of_units.nd rfl (Or.inl rfl)) pgs_nil))))
  (pss_one (ps_aug (i := 2) sclines_of_units.nd rfl (.inl rfl) (pv 6) ip_add))))
  (pss_one (ps_expr (pe_bm PySem.F.plainAttrs_list PySem.F.slot_list_extend PySem.F.type_list_extend mt_extend (pv 3) (pa_cons (pe_op op_rep (pe_lst (pa_cons (pv 2) pa_nil)) (pe_op op_add (pe_op op_sub (pv 5) (pe_gi T.g_WITH_LINE)) pe_int)) pa_nil))))))))))
  (pss_one (ps_ret (pv 3)))))))), ?_⟩
    obtain ⟨c, dx, fs, t, first, all, rfl, hc, hl, hf, ht, hz, hb, k⟩ := h
    show (_ : TS) _ [some (.ref c), none, none, none, none, none, none] H
    have na := I.na "lines" (by decide)
    have nb := I.na "line" (by decide)
    have cl := I.cI.cl
    simp only [r_seq, r_next, r_brk, r_cont, r_asg, r_name, r_ret, r_retN, r_drop, r_ifs, r_never, r_var, r_c, r_op, r_un, r_if, r_tst, r_b, r_not, r_and, r_or, r_andV, r_orV, r_notV, r_nil, r_cons, r_tup, r_lst, r_cb, r_call, r_bm, r_bm0, r_sl, r_nopart, r_part, r_rev, r_gnil, r_gcons, r_gsub, r_par, r_aug, r_chain, r_I0, r_I, r_U, r_ixd, r_lend, r_tupd, r_listd, r_sld, r_app, r_ext, r_reverse, r_setl, r_cat, r_int1, r_eqS, r_neS, scal_ii, scal_bb, scal_ss, at0, at1, at2, sq_lst, sq_tup, isLst_lst, List.getElem?_cons_zero, List.getElem?_cons_succ, List.set_cons_zero, List.set_cons_succ, V.int.injEq, V.bl.injEq, V.ref.injEq, V.str.injEq, HO.lst.injEq, HO.tup.injEq, Option.some.injEq, exists_eq_left', exists_eq_left, List.cons.injEq, and_true, true_and, decide_eq_true_eq, reduceCtorEq, false_and, exists_false, or_false, false_or, exists_const, and_assoc, exists_and_left, List.append_nil, ix0, ix1, ix2, cm_mod, cdw1009, cdw2003, cdw7, cdw64, cdw2, cm104729, cm2, cm3, upd_same, List.length_cons, List.length_nil, Int.reduceLT, Int.reduceLE, Nat.reduceAdd, Nat.reduceLeDiff, Nat.reduceLT, Int.reduceToNat, r_for1, r_forL, r_forT, r_lcL, r_lc1, r_yes, r_gtupD, wipe_0, wipe_1, List.cons_append, List.nil_append, r_forS, r_ipI, ite_false, ite_true, Bool.not_true, Bool.not_false, decide_true, decide_false, r_isd, r_islt, cD_ty, cD_ref, tD_non, tD_bl, tD_int, tD_str, tD_ref, tH_lst, tH_tup, tH_dK, tH_ins, ki_self, ki_int_bool, ki_non_int, ki_str_int, ki_lt_lst, ki_lt_tup, r_fld, r_sfld, HO.ins.injEq, cx_K, hc, hl, hf, na, nb, cl]
    refine ⟨szl (by decide), fun F hF => ?_⟩
    have FH : ∀ {b : Addr} {o : HO}, H b = some o → b ≠ F := fun e => ne_new e hF
    refine while_d (lvLU H c t F all first) (fun σ _ => msLU all.length σ) ⟨0, all.length, [], _, _, rfl, Same.new' (Same.refl H) hF, by rw [upd_same]; rfl, (fun e he => by cases he), Nat.le_refl _, Nat.zero_le _, by omega, preL_nil _⟩ ?_
    rintro σ H1 ⟨i, n, es, v1, v2, rfl, s1, hacc, hes, hel, hi, hn, inv⟩
    have ht1 := s1 t _ ht
    refine ⟨decide (i < all.length), fun QT q => ?_, fun cc => ?_, fun cc => ?_⟩
    · have e : decide ((i : Int) < ((vn all).length : Int)) = decide (i < all.length) := decide_eq_decide.mpr (by rw [vn_len]; omega)
      simp only [r_seq, r_next, r_brk, r_cont, r_asg, r_name, r_ret, r_retN, r_drop, r_ifs, r_never, r_var, r_c, r_op, r_un, r_if, r_tst, r_b, r_not, r_and, r_or, r_andV, r_orV, r_notV, r_nil, r_cons, r_tup, r_lst, r_cb, r_call, r_bm, r_bm0, r_sl, r_nopart, r_part, r_rev, r_gnil, r_gcons, r_gsub, r_par, r_aug, r_chain, r_I0, r_I, r_U, r_ixd, r_lend, r_tupd, r_listd, r_sld, r_app, r_ext, r_reverse, r_setl, r_cat, r_int1, r_eqS, r_neS, scal_ii, scal_bb, scal_ss, at0, at1, at2, sq_lst, sq_tup, isLst_lst, List.getElem?_cons_zero, List.getElem?_cons_succ, List.set_cons_zero, List.set_cons_succ, V.int.injEq, V.bl.injEq, V.ref.injEq, V.str.injEq, HO.lst.injEq, HO.tup.injEq, Option.some.injEq, exists_eq_left', exists_eq_left, List.cons.injEq, and_true, true_and, decide_eq_true_eq, reduceCtorEq, false_and, exists_false, or_false, false_or, exists_const, and_assoc, exists_and_left, List.append_nil, ix0, ix1, ix2, cm_mod, cdw1009, cdw2003, cdw7, cdw64, cdw2, cm104729, cm2, cm3, upd_same, List.length_cons, List.length_nil, Int.reduceLT, Int.reduceLE, Nat.reduceAdd, Nat.reduceLeDiff, Nat.reduceLT, Int.reduceToNat, r_for1, r_forL, r_forT, r_lcL, r_lc1, r_yes, r_gtupD, wipe_0, wipe_1, List.cons_append, List.nil_append, r_forS, r_ipI, ite_false, ite_true, Bool.not_true, Bool.not_false, decide_true, decide_false, r_isd, r_islt, cD_ty, cD_ref, tD_non, tD_bl, tD_int, tD_str, tD_ref, tH_lst, tH_tup, tH_dK, tH_ins, ki_self, ki_int_bool, ki_non_int, ki_str_int, ki_lt_lst, ki_lt_tup, r_fld, r_sfld, HO.ins.injEq, cx_K, ht1, e]
      exact q
    · have c0 : i < all.length := of_decide_eq_true cc
      obtain ⟨n', rfl⟩ : ∃ n', n = n' + 1 := ⟨n - 1, by omega⟩
      have qi : i ≠ all.length := by omega
      have e1 := vn_at c0
      have ent := ent1_at c0
      have hx256 := hb _ (List.getElem_mem c0)
      generalize all[i] = x at *
      have k2 : ((i : Nat) : Int) + 1 = ((i + 1 : Nat) : Int) := by omega
      have ul := unitsL_len first hes
      have err : ∀ {j : Nat} {Hx : Hp}, Same H1 Hx → ent1 all i = .error j → ∀ d H', Hx d = none → Same Hx H' → H' d = some (.xd [("at", .int (j : Int))]) → E (.ref CT) (some d) H' := fun {j Hx} sx en d H' hd s h => by
        rw [preL_fail qi en] at inv
        rw [← inv] at k
        exact k d H' ((s1.trans sx).free hd) ((s1.trans sx).trans s) h
      -- an entry more
      have fin : ∀ (H2 : Hp) (u : Nat) (m : Option Int) (ln : V) (j : Nat) (w1 w2 : Option V) (st : L2.St), Same H1 H2 → ent1 all i = .ok ((u, m), j) → ln = lnV (m.map (endL es first + ·)) → st = [some (.ref c), some (.ref t), some (.int (endL es first)), some (.ref F), some (.int (i : Int)), v1, v2] →
          1 ≤ sizeLine ∧ ∀ q, H2 q = none → -2 ^ 63 ≤ (u : Int) ∧ (u : Int) < 2 ^ 63 ∧ 1 * ((u : Int)).toNat ≤ sizeLine ∧ ∀ r, L2.upd H2 q (HO.lst [ln]) r = none →
          ∃ xs, L2.upd (L2.upd H2 q (HO.lst [ln])) r (HO.lst (List.replicate ((u : Int)).toNat [ln]).flatten) F = some (.lst xs) ∧ xs.length + (List.replicate ((u : Int)).toNat [ln]).flatten.length ≤ sizeLine ∧
            lvLU H c t F all first [some (.ref c), some (.ref t), some (.int (stepLn (endL es first) (u, m))), some (.ref F), some (.int (j : Int)), w1, w2] (L2.upd (L2.upd (L2.upd H2 q (HO.lst [ln])) r (HO.lst (List.replicate ((u : Int)).toNat [ln]).flatten)) F (HO.lst (xs ++ (List.replicate ((u : Int)).toNat [ln]).flatten))) ∧
            msLU all.length [some (.ref c), some (.ref t), some (.int (stepLn (endL es first) (u, m))), some (.ref F), some (.int (j : Int)), w1, w2] < msLU all.length st := by
        rintro H2 u m ln j w1 w2 st s2 en rfl rfl
        obtain ⟨q1, q2, q3, q4⟩ := ent1_ok en
        dsimp only at q3 q4
        rw [preL_step qi en] at inv
        refine ⟨szl (by decide), fun q hq => ⟨by omega, by omega, Nat.le_trans (by omega : _ ≤ 8) (by decide), fun r hr => ?_⟩⟩
        have hr' := hr
        rw [Int.toNat_natCast, lvs_rep]
        have sx := Same.new' (o := .lst (lvs (List.replicate u (m.map (endL es first + ·))))) (Same.new' (o := .lst [lnV (m.map (endL es first + ·))]) s2 hq) hr
        refine ⟨_, sx _ _ hacc, ?_, ⟨j, n', es ++ [(u, m)], _, _, by rw [endL_snoc], fun b o e => ?_, ?_, ?_, by rw [List.length_append, List.length_singleton]; omega, q2, by omega, inv⟩, ?_⟩
        · rw [lvs_len, lvs_len, List.length_replicate]
          exact Nat.le_trans (by omega : _ ≤ 8000) (by decide)
        · rw [upd_ne (FH e)]
          exact sx _ _ (s1 _ _ e)
        · rw [upd_same, unitsL_snoc, lvs_app]
        · intro e he
          rcases List.mem_append.mp he with z | z
          · exact hes e z
          · rw [List.mem_singleton.mp z]
            exact ⟨q3, q4⟩
        · show all.length - ((j : Nat) : Int).toNat < all.length - ((i : Nat) : Int).toNat
          omega
      by_cases cA : 248 ≤ x
      · have a3 : ((248 : Int) ≤ (x : Int)) = True := eq_true (by omega)
        have k1 : (x : Int) - 248 + 1 = ((x % 8 + 1 : Nat) : Int) := by omega
        rw [if_pos cA] at ent
        simp only [r_seq, r_next, r_brk, r_cont, r_asg, r_name, r_ret, r_retN, r_drop, r_ifs, r_never, r_var, r_c, r_op, r_un, r_if, r_tst, r_b, r_not, r_and, r_or, r_andV, r_orV, r_notV, r_nil, r_cons, r_tup, r_lst, r_cb, r_call, r_bm, r_bm0, r_sl, r_nopart, r_part, r_rev, r_gnil, r_gcons, r_gsub, r_par, r_aug, r_chain, r_I0, r_I, r_U, r_ixd, r_lend, r_tupd, r_listd, r_sld, r_app, r_ext, r_reverse, r_setl, r_cat, r_int1, r_eqS, r_neS, scal_ii, scal_bb, scal_ss, at0, at1, at2, sq_lst, sq_tup, isLst_lst, List.getElem?_cons_zero, List.getElem?_cons_succ, List.set_cons_zero, List.set_cons_succ, V.int.injEq, V.bl.injEq, V.ref.injEq, V.str.injEq, HO.lst.injEq, HO.tup.injEq, Option.some.injEq, exists_eq_left', exists_eq_left, List.cons.injEq, and_true, true_and, decide_eq_true_eq, reduceCtorEq, false_and, exists_false, or_false, false_or, exists_const, and_assoc, exists_and_left, List.append_nil, ix0, ix1, ix2, cm_mod, cdw1009, cdw2003, cdw7, cdw64, cdw2, cm104729, cm2, cm3, upd_same, List.length_cons, List.length_nil, Int.reduceLT, Int.reduceLE, Nat.reduceAdd, Nat.reduceLeDiff, Nat.reduceLT, Int.reduceToNat, r_for1, r_forL, r_forT, r_lcL, r_lc1, r_yes, r_gtupD, wipe_0, wipe_1, List.cons_append, List.nil_append, r_forS, r_ipI, ite_false, ite_true, Bool.not_true, Bool.not_false, decide_true, decide_false, r_isd, r_islt, cD_ty, cD_ref, tD_non, tD_bl, tD_int, tD_str, tD_ref, tH_lst, tH_tup, tH_dK, tH_ins, ki_self, ki_int_bool, ki_non_int, ki_str_int, ki_lt_lst, ki_lt_tup, r_fld, r_sfld, HO.ins.injEq, cx_K, ht1, e1, a3, k1, k2, r_rep]
        have f := fin H1 (x % 8 + 1) none .non (i + 1) (some (.int (x : Int))) v2 _ (Same.refl H1) ent rfl rfl
        rw [show stepLn (endL es first) (x % 8 + 1, none) = endL es first from Int.add_zero _] at f
        exact ⟨tyl hacc, f⟩
      · have a3 : ((248 : Int) ≤ (x : Int)) = False := eq_false (by omega)
        rw [if_neg cA] at ent
        by_cases cB : 232 ≤ x ∧ x < 240
        · have a1 : ((232 : Int) ≤ (x : Int)) = True := eq_true (by omega)
          have a2 : ((x : Int) < 240) = True := eq_true (by omega)
          have a2' : ((x : Int) < 232 + 8) = True := eq_true (by omega)
          have k1 : (x : Int) - 232 + 1 = ((x % 8 + 1 : Nat) : Int) := by omega
          rw [if_pos cB] at ent
          have slow : ∀ {Qx : VK}, (∀ m j, sread all (i + 1) = .ok (m, j) → ∀ p2 H2, Same H1 H2 → H2 p2 = some (.tup [.int (zag m), .int (j : Int)]) → Qx (.ref p2) H2) → spSN CT [.ref t, .int ((i + 1 : Nat) : Int)] H1 Qx E := by
            intro Qx kx
            refine ⟨t, all, i + 1, rfl, ht1, by omega, hz, hb, ?_⟩
            cases e : sread all (i + 1) with
            | error j =>
              rw [e] at ent
              exact fun d H' hd s h => err (Same.refl H1) ent d H' hd s h
            | ok mj => exact fun p H' hp s h => kx mj.1 mj.2 e p H' s h
          by_cases cl1 : i + 1 < all.length
          · have f1 := vn_at cl1
            have g1 : (((i + 1 : Nat) : Int) < ((vn all).length : Int)) = True := eq_true (by rw [vn_len]; omega)
            have sr : sread all (i + 1) = contS 0 0 (i + 1) (all.drop (i + 1)) := rfl
            rw [contS_at cl1] at sr
            generalize all[i + 1] = y at *
            by_cases d1 : y < 64
            · have g2 : ((y : Int) < 64) = True := eq_true (by omega)
              by_cases d2 : y % 2 = 0
              · have g3 : (Builtin.bitAnd (y : Int) 1 != 0) = false := by rw [bitAnd_m1, show (y : Int) % 2 = 0 from by omega]; rfl
                have ey : sread all (i + 1) = .ok (y, i + 2) := by
                  rw [sr, if_neg (by omega), if_pos d1, if_neg (by rintro (⟨_, z⟩ | z) <;> omega), show 0 + 64 ^ 0 * (y % 64) = y from by omega]
                rw [ey] at ent
                have ent : ent1 all i = .ok ((x % 8 + 1, some (zag y)), i + 2) := ent
                have zy : zag y = (y : Int) / 2 ^ 1 := by
                  unfold zag
                  rw [if_pos d2]
                  omega
                have k3 : ((i + 1 : Nat) : Int) + 1 = ((i + 2 : Nat) : Int) := by omega
                simp only [r_seq, r_next, r_brk, r_cont, r_asg, r_name, r_ret, r_retN, r_drop, r_ifs, r_never, r_var, r_c, r_op, r_un, r_if, r_tst, r_b, r_not, r_and, r_or, r_andV, r_orV, r_notV, r_nil, r_cons, r_tup, r_lst, r_cb, r_call, r_bm, r_bm0, r_sl, r_nopart, r_part, r_rev, r_gnil, r_gcons, r_gsub, r_par, r_aug, r_chain, r_I0, r_I, r_U, r_ixd, r_lend, r_tupd, r_listd, r_sld, r_app, r_ext, r_reverse, r_setl, r_cat, r_int1, r_eqS, r_neS, scal_ii, scal_bb, scal_ss, at0, at1, at2, sq_lst, sq_tup, isLst_lst, List.getElem?_cons_zero, List.getElem?_cons_succ, List.set_cons_zero, List.set_cons_succ, V.int.injEq, V.bl.injEq, V.ref.injEq, V.str.injEq, HO.lst.injEq, HO.tup.injEq, Option.some.injEq, exists_eq_left', exists_eq_left, List.cons.injEq, and_true, true_and, decide_eq_true_eq, reduceCtorEq, false_and, exists_false, or_false, false_or, exists_const, and_assoc, exists_and_left, List.append_nil, ix0, ix1, ix2, cm_mod, cdw1009, cdw2003, cdw7, cdw64, cdw2, cm104729, cm2, cm3, upd_same, List.length_cons, List.length_nil, Int.reduceLT, Int.reduceLE, Nat.reduceAdd, Nat.reduceLeDiff, Nat.reduceLT, Int.reduceToNat, r_for1, r_forL, r_forT, r_lcL, r_lc1, r_yes, r_gtupD, wipe_0, wipe_1, List.cons_append, List.nil_append, r_forS, r_ipI, ite_false, ite_true, Bool.not_true, Bool.not_false, decide_true, decide_false, r_isd, r_islt, cD_ty, cD_ref, tD_non, tD_bl, tD_int, tD_str, tD_ref, tH_lst, tH_tup, tH_dK, tH_ins, ki_self, ki_int_bool, ki_non_int, ki_str_int, ki_lt_lst, ki_lt_tup, r_fld, r_sfld, HO.ins.injEq, cx_K, ht1, e1, a1, a2, a2', a3, k1, k2, f1, g1, g2, k3, r_rep]
                refine ⟨_, rfl, ?_⟩
                rw [g3, if_pos (by decide), ← zy]
                exact ⟨tyl hacc, fin H1 (x % 8 + 1) (some (zag y)) (.int (endL es first + zag y)) (i + 2) (some (.int (x : Int))) v2 _ (Same.refl H1) ent rfl rfl⟩
              · have g3 : (Builtin.bitAnd (y : Int) 1 != 0) = true := by rw [bitAnd_m1, show (y : Int) % 2 = 1 from by omega]; rfl
                simp only [r_seq, r_next, r_brk, r_cont, r_asg, r_name, r_ret, r_retN, r_drop, r_ifs, r_never, r_var, r_c, r_op, r_un, r_if, r_tst, r_b, r_not, r_and, r_or, r_andV, r_orV, r_notV, r_nil, r_cons, r_tup, r_lst, r_cb, r_call, r_bm, r_bm0, r_sl, r_nopart, r_part, r_rev, r_gnil, r_gcons, r_gsub, r_par, r_aug, r_chain, r_I0, r_I, r_U, r_ixd, r_lend, r_tupd, r_listd, r_sld, r_app, r_ext, r_reverse, r_setl, r_cat, r_int1, r_eqS, r_neS, scal_ii, scal_bb, scal_ss, at0, at1, at2, sq_lst, sq_tup, isLst_lst, List.getElem?_cons_zero, List.getElem?_cons_succ, List.set_cons_zero, List.set_cons_succ, V.int.injEq, V.bl.injEq, V.ref.injEq, V.str.injEq, HO.lst.injEq, HO.tup.injEq, Option.some.injEq, exists_eq_left', exists_eq_left, List.cons.injEq, and_true, true_and, decide_eq_true_eq, reduceCtorEq, false_and, exists_false, or_false, false_or, exists_const, and_assoc, exists_and_left, List.append_nil, ix0, ix1, ix2, cm_mod, cdw1009, cdw2003, cdw7, cdw64, cdw2, cm104729, cm2, cm3, upd_same, List.length_cons, List.length_nil, Int.reduceLT, Int.reduceLE, Nat.reduceAdd, Nat.reduceLeDiff, Nat.reduceLT, Int.reduceToNat, r_for1, r_forL, r_forT, r_lcL, r_lc1, r_yes, r_gtupD, wipe_0, wipe_1, List.cons_append, List.nil_append, r_forS, r_ipI, ite_false, ite_true, Bool.not_true, Bool.not_false, decide_true, decide_false, r_isd, r_islt, cD_ty, cD_ref, tD_non, tD_bl, tD_int, tD_str, tD_ref, tH_lst, tH_tup, tH_dK, tH_ins, ki_self, ki_int_bool, ki_non_int, ki_str_int, ki_lt_lst, ki_lt_tup, r_fld, r_sfld, HO.ins.injEq, cx_K, ht1, e1, a1, a2, a2', a3, k1, k2, f1, g1, g2, r_rep]
                refine ⟨_, rfl, ?_⟩
                rw [g3, if_neg (by decide)]
                refine slow fun m j ey p2 H2 s2 h2 => ⟨p2, rfl, _, h2, rfl, _, _, rfl, _, _, rfl, rfl, zag m, rfl, tyl (s2 _ _ hacc), ?_⟩
                rw [ey] at ent
                exact fin H2 (x % 8 + 1) (some (zag m)) (.int (endL es first + zag m)) j (some (.int (x : Int))) (some (.int (zag m))) _ s2 ent rfl rfl
            · have g2 : ((y : Int) < 64) = False := eq_false (by omega)
              simp only [r_seq, r_next, r_brk, r_cont, r_asg, r_name, r_ret, r_retN, r_drop, r_ifs, r_never, r_var, r_c, r_op, r_un, r_if, r_tst, r_b, r_not, r_and, r_or, r_andV, r_orV, r_notV, r_nil, r_cons, r_tup, r_lst, r_cb, r_call, r_bm, r_bm0, r_sl, r_nopart, r_part, r_rev, r_gnil, r_gcons, r_gsub, r_par, r_aug, r_chain, r_I0, r_I, r_U, r_ixd, r_lend, r_tupd, r_listd, r_sld, r_app, r_ext, r_reverse, r_setl, r_cat, r_int1, r_eqS, r_neS, scal_ii, scal_bb, scal_ss, at0, at1, at2, sq_lst, sq_tup, isLst_lst, List.getElem?_cons_zero, List.getElem?_cons_succ, List.set_cons_zero, List.set_cons_succ, V.int.injEq, V.bl.injEq, V.ref.injEq, V.str.injEq, HO.lst.injEq, HO.tup.injEq, Option.some.injEq, exists_eq_left', exists_eq_left, List.cons.injEq, and_true, true_and, decide_eq_true_eq, reduceCtorEq, false_and, exists_false, or_false, false_or, exists_const, and_assoc, exists_and_left, List.append_nil, ix0, ix1, ix2, cm_mod, cdw1009, cdw2003, cdw7, cdw64, cdw2, cm104729, cm2, cm3, upd_same, List.length_cons, List.length_nil, Int.reduceLT, Int.reduceLE, Nat.reduceAdd, Nat.reduceLeDiff, Nat.reduceLT, Int.reduceToNat, r_for1, r_forL, r_forT, r_lcL, r_lc1, r_yes, r_gtupD, wipe_0, wipe_1, List.cons_append, List.nil_append, r_forS, r_ipI, ite_false, ite_true, Bool.not_true, Bool.not_false, decide_true, decide_false, r_isd, r_islt, cD_ty, cD_ref, tD_non, tD_bl, tD_int, tD_str, tD_ref, tH_lst, tH_tup, tH_dK, tH_ins, ki_self, ki_int_bool, ki_non_int, ki_str_int, ki_lt_lst, ki_lt_tup, r_fld, r_sfld, HO.ins.injEq, cx_K, ht1, e1, a1, a2, a2', a3, k1, k2, f1, g1, g2, r_rep]
              refine slow fun m j ey p2 H2 s2 h2 => ⟨p2, rfl, _, h2, rfl, _, _, rfl, _, _, rfl, rfl, zag m, rfl, tyl (s2 _ _ hacc), ?_⟩
              rw [ey] at ent
              exact fin H2 (x % 8 + 1) (some (zag m)) (.int (endL es first + zag m)) j (some (.int (x : Int))) (some (.int (zag m))) _ s2 ent rfl rfl
          · have g1 : (((i + 1 : Nat) : Int) < ((vn all).length : Int)) = False := eq_false (by rw [vn_len]; omega)
            simp only [r_seq, r_next, r_brk, r_cont, r_asg, r_name, r_ret, r_retN, r_drop, r_ifs, r_never, r_var, r_c, r_op, r_un, r_if, r_tst, r_b, r_not, r_and, r_or, r_andV, r_orV, r_notV, r_nil, r_cons, r_tup, r_lst, r_cb, r_call, r_bm, r_bm0, r_sl, r_nopart, r_part, r_rev, r_gnil, r_gcons, r_gsub, r_par, r_aug, r_chain, r_I0, r_I, r_U, r_ixd, r_lend, r_tupd, r_listd, r_sld, r_app, r_ext, r_reverse, r_setl, r_cat, r_int1, r_eqS, r_neS, scal_ii, scal_bb, scal_ss, at0, at1, at2, sq_lst, sq_tup, isLst_lst, List.getElem?_cons_zero, List.getElem?_cons_succ, List.set_cons_zero, List.set_cons_succ, V.int.injEq, V.bl.injEq, V.ref.injEq, V.str.injEq, HO.lst.injEq, HO.tup.injEq, Option.some.injEq, exists_eq_left', exists_eq_left, List.cons.injEq, and_true, true_and, decide_eq_true_eq, reduceCtorEq, false_and, exists_false, or_false, false_or, exists_const, and_assoc, exists_and_left, List.append_nil, ix0, ix1, ix2, cm_mod, cdw1009, cdw2003, cdw7, cdw64, cdw2, cm104729, cm2, cm3, upd_same, List.length_cons, List.length_nil, Int.reduceLT, Int.reduceLE, Nat.reduceAdd, Nat.reduceLeDiff, Nat.reduceLT, Int.reduceToNat, r_for1, r_forL, r_forT, r_lcL, r_lc1, r_yes, r_gtupD, wipe_0, wipe_1, List.cons_append, List.nil_append, r_forS, r_ipI, ite_false, ite_true, Bool.not_true, Bool.not_false, decide_true, decide_false, r_isd, r_islt, cD_ty, cD_ref, tD_non, tD_bl, tD_int, tD_str, tD_ref, tH_lst, tH_tup, tH_dK, tH_ins, ki_self, ki_int_bool, ki_non_int, ki_str_int, ki_lt_lst, ki_lt_tup, r_fld, r_sfld, HO.ins.injEq, cx_K, ht1, e1, a1, a2, a2', a3, k1, k2, g1, r_rep]
            refine slow fun m j ey p2 H2 s2 h2 => ⟨p2, rfl, _, h2, rfl, _, _, rfl, _, _, rfl, rfl, zag m, rfl, tyl (s2 _ _ hacc), ?_⟩
            rw [ey] at ent
            exact fin H2 (x % 8 + 1) (some (zag m)) (.int (endL es first + zag m)) j (some (.int (x : Int))) (some (.int (zag m))) _ s2 ent rfl rfl
        · rw [if_neg cB] at ent
          have k3 : ((i + 1 : Nat) : Int) - 1 = (i : Int) := by omega
          by_cases cC : 232 ≤ x
          · have a1 : ((232 : Int) ≤ (x : Int)) = True := eq_true (by omega)
            have a2 : ((x : Int) < 240) = False := eq_false (by omega)
            have a2' : ((x : Int) < 232 + 8) = False := eq_false (by omega)
            simp only [r_seq, r_next, r_brk, r_cont, r_asg, r_name, r_ret, r_retN, r_drop, r_ifs, r_never, r_var, r_c, r_op, r_un, r_if, r_tst, r_b, r_not, r_and, r_or, r_andV, r_orV, r_notV, r_nil, r_cons, r_tup, r_lst, r_cb, r_call, r_bm, r_bm0, r_sl, r_nopart, r_part, r_rev, r_gnil, r_gcons, r_gsub, r_par, r_aug, r_chain, r_I0, r_I, r_U, r_ixd, r_lend, r_tupd, r_listd, r_sld, r_app, r_ext, r_reverse, r_setl, r_cat, r_int1, r_eqS, r_neS, scal_ii, scal_bb, scal_ss, at0, at1, at2, sq_lst, sq_tup, isLst_lst, List.getElem?_cons_zero, List.getElem?_cons_succ, List.set_cons_zero, List.set_cons_succ, V.int.injEq, V.bl.injEq, V.ref.injEq, V.str.injEq, HO.lst.injEq, HO.tup.injEq, Option.some.injEq, exists_eq_left', exists_eq_left, List.cons.injEq, and_true, true_and, decide_eq_true_eq, reduceCtorEq, false_and, exists_false, or_false, false_or, exists_const, and_assoc, exists_and_left, List.append_nil, ix0, ix1, ix2, cm_mod, cdw1009, cdw2003, cdw7, cdw64, cdw2, cm104729, cm2, cm3, upd_same, List.length_cons, List.length_nil, Int.reduceLT, Int.reduceLE, Nat.reduceAdd, Nat.reduceLeDiff, Nat.reduceLT, Int.reduceToNat, r_for1, r_forL, r_forT, r_lcL, r_lc1, r_yes, r_gtupD, wipe_0, wipe_1, List.cons_append, List.nil_append, r_forS, r_ipI, ite_false, ite_true, Bool.not_true, Bool.not_false, decide_true, decide_false, r_isd, r_islt, cD_ty, cD_ref, tD_non, tD_bl, tD_int, tD_str, tD_ref, tH_lst, tH_tup, tH_dK, tH_ins, ki_self, ki_int_bool, ki_non_int, ki_str_int, ki_lt_lst, ki_lt_tup, r_fld, r_sfld, HO.ins.injEq, cx_K, ht1, e1, a1, a2, a2', a3, k2]
            exact raise_x (fun Q q => ⟨_, rfl, _, _, rfl, rfl, by show Q (V.int (((i + 1 : Nat) : Int) - 1)) H1; rw [k3]; exact q⟩) (err (Same.refl H1) ent)
          · have a1 : ((232 : Int) ≤ (x : Int)) = False := eq_false (by omega)
            simp only [r_seq, r_next, r_brk, r_cont, r_asg, r_name, r_ret, r_retN, r_drop, r_ifs, r_never, r_var, r_c, r_op, r_un, r_if, r_tst, r_b, r_not, r_and, r_or, r_andV, r_orV, r_notV, r_nil, r_cons, r_tup, r_lst, r_cb, r_call, r_bm, r_bm0, r_sl, r_nopart, r_part, r_rev, r_gnil, r_gcons, r_gsub, r_par, r_aug, r_chain, r_I0, r_I, r_U, r_ixd, r_lend, r_tupd, r_listd, r_sld, r_app, r_ext, r_reverse, r_setl, r_cat, r_int1, r_eqS, r_neS, scal_ii, scal_bb, scal_ss, at0, at1, at2, sq_lst, sq_tup, isLst_lst, List.getElem?_cons_zero, List.getElem?_cons_succ, List.set_cons_zero, List.set_cons_succ, V.int.injEq, V.bl.injEq, V.ref.injEq, V.str.injEq, HO.lst.injEq, HO.tup.injEq, Option.some.injEq, exists_eq_left', exists_eq_left, List.cons.injEq, and_true, true_and, decide_eq_true_eq, reduceCtorEq, false_and, exists_false, or_false, false_or, exists_const, and_assoc, exists_and_left, List.append_nil, ix0, ix1, ix2, cm_mod, cdw1009, cdw2003, cdw7, cdw64, cdw2, cm104729, cm2, cm3, upd_same, List.length_cons, List.length_nil, Int.reduceLT, Int.reduceLE, Nat.reduceAdd, Nat.reduceLeDiff, Nat.reduceLT, Int.reduceToNat, r_for1, r_forL, r_forT, r_lcL, r_lc1, r_yes, r_gtupD, wipe_0, wipe_1, List.cons_append, List.nil_append, r_forS, r_ipI, ite_false, ite_true, Bool.not_true, Bool.not_false, decide_true, decide_false, r_isd, r_islt, cD_ty, cD_ref, tD_non, tD_bl, tD_int, tD_str, tD_ref, tH_lst, tH_tup, tH_dK, tH_ins, ki_self, ki_int_bool, ki_non_int, ki_str_int, ki_lt_lst, ki_lt_tup, r_fld, r_sfld, HO.ins.injEq, cx_K, ht1, e1, a1, a3, k2]
            exact raise_x (fun Q q => ⟨_, rfl, _, _, rfl, rfl, by show Q (V.int (((i + 1 : Nat) : Int) - 1)) H1; rw [k3]; exact q⟩) (err (Same.refl H1) ent)
    · have c0 : i = all.length := by
        have := of_decide_eq_false cc
        omega
      subst c0
      rw [preL_end] at inv
      rw [← inv] at k
      simp only [r_seq, r_next, r_brk, r_cont, r_asg, r_name, r_ret, r_retN, r_drop, r_ifs, r_never, r_var, r_c, r_op, r_un, r_if, r_tst, r_b, r_not, r_and, r_or, r_andV, r_orV, r_notV, r_nil, r_cons, r_tup, r_lst, r_cb, r_call, r_bm, r_bm0, r_sl, r_nopart, r_part, r_rev, r_gnil, r_gcons, r_gsub, r_par, r_aug, r_chain, r_I0, r_I, r_U, r_ixd, r_lend, r_tupd, r_listd, r_sld, r_app, r_ext, r_reverse, r_setl, r_cat, r_int1, r_eqS, r_neS, scal_ii, scal_bb, scal_ss, at0, at1, at2, sq_lst, sq_tup, isLst_lst, List.getElem?_cons_zero, List.getElem?_cons_succ, List.set_cons_zero, List.set_cons_succ, V.int.injEq, V.bl.injEq, V.ref.injEq, V.str.injEq, HO.lst.injEq, HO.tup.injEq, Option.some.injEq, exists_eq_left', exists_eq_left, List.cons.injEq, and_true, true_and, decide_eq_true_eq, reduceCtorEq, false_and, exists_false, or_false, false_or, exists_const, and_assoc, exists_and_left, List.append_nil, ix0, ix1, ix2, cm_mod, cdw1009, cdw2003, cdw7, cdw64, cdw2, cm104729, cm2, cm3, upd_same, List.length_cons, List.length_nil, Int.reduceLT, Int.reduceLE, Nat.reduceAdd, Nat.reduceLeDiff, Nat.reduceLT, Int.reduceToNat, r_for1, r_forL, r_forT, r_lcL, r_lc1, r_yes, r_gtupD, wipe_0, wipe_1, List.cons_append, List.nil_append, r_forS, r_ipI, ite_false, ite_true, Bool.not_true, Bool.not_false, decide_true, decide_false, r_isd, r_islt, cD_ty, cD_ref, tD_non, tD_bl, tD_int, tD_str, tD_ref, tH_lst, tH_tup, tH_dK, tH_ins, ki_self, ki_int_bool, ki_non_int, ki_str_int, ki_lt_lst, ki_lt_tup, r_fld, r_sfld, HO.ins.injEq, cx_K]
      exact k F H1 hF s1 hacc
/-- behind i units: the rows found, and the one that is open -/
def RwInv (us : List (Option Int)) (acc : List LR) (bg i : Nat) : Prop := (i = 0 ∧ bg = 0 ∧ acc = []) ∨ (bg < i ∧ ∃ l, us[bg]? = some l ∧ joinL (unitRows (us.take i) 0) = acc ++ [⟨2 * bg, 2 * i, l⟩] ∧ acc.length ≤ bg)
def lvRw (H : Hp) (c U F : Addr) (us : List (Option Int)) (i : Nat) (σ : L2.St) (H' : Hp) : Prop := ∃ (acc : List LR) (bg : Nat) (v1 v2 : Option V), σ = [some (.ref c), some (.ref U), some (.ref F), some (.int (bg : Int)), v1, v2] ∧ Same H H' ∧ H' U = some (.lst (lvs us)) ∧ LRows H' F acc ∧ RwInv us acc bg i
theorem rwInv_next {us : List (Option Int)} {acc : List LR} {bg i : Nat} {l lb : Option Int} (hb : bg < i) (hl : us[i]? = some l) (e : us[bg]? = some lb) (j : joinL (unitRows (us.take i) 0) = acc ++ [⟨2 * bg, 2 * i, lb⟩]) (z : acc.length ≤ bg) :
    if l = lb then RwInv us acc bg (i + 1) else RwInv us (acc ++ [⟨2 * bg, 2 * i, lb⟩]) i (i + 1) := by
  obtain ⟨hi, hli⟩ := List.getElem?_eq_some_iff.mp hl
  have n := units_next hi
  rw [j, jstep_snoc, hli] at n
  dsimp only at n
  split
  · rename_i c
    subst c
    rw [if_pos rfl] at n
    exact .inr ⟨by omega, l, e, n, z⟩
  · rename_i c
    rw [if_neg (fun h => c h.symm)] at n
    exact .inr ⟨by omega, l, hl, n, by rw [List.length_append, List.length_singleton]; omega⟩
theorem lvs_at {us : List (Option Int)} {i : Nat} {l : Option Int} (h : us[i]? = some l) : atI (lvs us) (i : Int) = some (lnV l) := atn (by unfold lvs; rw [List.getElem?_map, h]; rfl)
theorem ok_line_rows {CC CT : Addr} (T : Txt mg) (I : CodeT K mg CC) (F : FnP K "line_rows" "line_rows" sline_rows f fd)
    (CX_lines_of_units : CalE P w K mg base 4 "lines_of_units" ["code"] (spU CC CT)) : FnOk P w K mg base (CX P w) 5 f fd ["code"] (spLineRows CC CT) := by
  refine F.ok scline_rows (fun vs H Q E h => ?_) (fun cdv A outer s H vs Q E hr h => ?_)
  · obtain ⟨c, dx, fs, t, first, all, rfl, _⟩ := h
    rfl
  · refine ⟨_, (pss_cons (ps_if (pt_not (pt_val (pe_callB (call_is_d I.cI) (by rfl) T.b_isinstance (by decide +kernel) (pa_cons (pv 0) (pa_cons (pe_glob (v := .ref _) rfl I.g_Code rfl) pa_nil)))))
    (pss_one ps_never)
    pss_nil)
  (pss_cons (ps_set (i := 1) scline_rows.nd rfl (Or.inl rfl) (pe_calE CX_lines_of_units (hr.mono (by decide)) rfl (takes_of rfl rfl rfl rfl) (fun _ _ _ _ z => z) (pa_cons (pv 0) pa_nil)))
  (pss_cons (ps_set (i := 2) scline_rows.nd rfl (Or.inl rfl) (pe_lst pa_nil))
  (pss_cons (ps_set (i := 3) scline_rows.nd rfl (Or.inl rfl) pe_int)
  (pss_cons (ps_for (passes_of rfl) rfl (pi_enumS (by rfl) T.b_enumerate (pa_cons (pv 1) pa_nil)) (pg_tupD (n := 2) rfl (pgs_cons (pg_name (i := 4) scline_rows.nd rfl (Or.inl rfl)) (pgs_cons (pg_name (i := 5) scline_rows.nd rfl (Or.inl rfl)) pgs_nil)))
    (pss_one (ps_if (pt_cmpR (op_neD (hu64 hr)) (pv 5) (pe_ix ix_d (pv 1) (pv 3) (fun _ _ => rfl)) (nomark _))
    (pss_cons (ps_expr (pe_bm PySem.F.plainAttrs_list PySem.F.slot_list_append PySem.F.type_list_append mt_append (pv 2) (pa_cons (pe_tup (pa_cons (pe_op op_mul pe_int (pv 3)) (pa_cons (pe_op op_mul pe_int (pv 4)) (pa_cons (pe_ix ix_d (pv 1) (pv 3) (fun _ _ => rfl)) pa_nil)))) pa_nil)))
  (pss_one (ps_set (i := 3) scline_rows.nd rfl (Or.inl rfl) (pv 4))))
    pss_nil)))
  (pss_cons (ps_if (pt_truth (pv 1) (by intro _; rfl))
    (pss_one (ps_expr (pe_bm PySem.F.plainAttrs_list PySem.F.slot_list_append PySem.F.type_list_append mt_append (pv 2) (pa_cons (pe_tup (pa_cons (pe_op op_mul pe_int (pv 3)) (pa_cons (pe_op op_mul pe_int (pe_callB call_len_d (by rfl) T.b_len (by decide +kernel) (pa_cons (pv 1) pa_nil))) (pa_cons (pe_ix ix_d (pv 1) (pv 3) (fun _ _ => rfl)) pa_nil)))) pa_nil))))
    pss_nil)
  (pss_one (ps_ret (pv 2))))))))), ?_⟩
    obtain ⟨c, dx, fs, t, first, all, rfl, hc, hl, hf, ht, hz, hb, k⟩ := h
    · show (_ : TS) _ [some (.ref c), none, none, none, none, none] H
      have cl := I.cI.cl
      simp only [r_seq, r_next, r_brk, r_cont, r_asg, r_name, r_ret, r_retN, r_drop, r_ifs, r_never, r_var, r_c, r_op, r_un, r_if, r_tst, r_b, r_not, r_and, r_or, r_andV, r_orV, r_notV, r_nil, r_cons, r_tup, r_lst, r_cb, r_call, r_bm, r_bm0, r_sl, r_nopart, r_part, r_rev, r_gnil, r_gcons, r_gsub, r_par, r_aug, r_chain, r_I0, r_I, r_U, r_ixd, r_lend, r_tupd, r_listd, r_sld, r_app, r_ext, r_reverse, r_setl, r_cat, r_int1, r_eqS, r_neS, scal_ii, scal_bb, scal_ss, at0, at1, at2, sq_lst, sq_tup, isLst_lst, List.getElem?_cons_zero, List.getElem?_cons_succ, List.set_cons_zero, List.set_cons_succ, V.int.injEq, V.bl.injEq, V.ref.injEq, V.str.injEq, HO.lst.injEq, HO.tup.injEq, Option.some.injEq, exists_eq_left', exists_eq_left, List.cons.injEq, and_true, true_and, decide_eq_true_eq, reduceCtorEq, false_and, exists_false, or_false, false_or, exists_const, and_assoc, exists_and_left, List.append_nil, ix0, ix1, ix2, cm_mod, cdw1009, cdw2003, cdw7, cdw64, cdw2, cm104729, cm2, cm3, upd_same, List.length_cons, List.length_nil, Int.reduceLT, Int.reduceLE, Nat.reduceAdd, Nat.reduceLeDiff, Nat.reduceLT, Int.reduceToNat, r_for1, r_forL, r_forT, r_lcL, r_lc1, r_yes, r_gtupD, wipe_0, wipe_1, List.cons_append, List.nil_append, r_forS, r_ipI, ite_false, ite_true, Bool.not_true, Bool.not_false, decide_true, decide_false, r_isd, r_islt, cD_ty, cD_ref, tD_non, tD_bl, tD_int, tD_str, tD_ref, tH_lst, tH_tup, tH_dK, tH_ins, ki_self, ki_int_bool, ki_non_int, ki_str_int, ki_lt_lst, ki_lt_tup, r_fld, r_sfld, HO.ins.injEq, cx_K, hc, cl, r_forE]
      refine ⟨c, dx, fs, t, first, all, rfl, hc, hl, hf, ht, hz, hb, ?_⟩
      cases q0 : lreadF all all.length 0 with
      | error j =>
        rw [q0] at k
        exact k
      | ok es =>
      rw [q0] at k
      obtain ⟨hok, hz2⟩ := lreadF_ok q0
      have k : ∀ F H', H F = none → Same H H' → LRows H' F (joinL (rowsOf es 0 first)) → Q (.ref F) H' := k
      refine fun U H1 hU s1 h1 => ?_
      have ul : (unitsL es first).length ≤ 800000 := by
        have := unitsL_len first hok
        omega
      have uj := units_join first hok
      rw [← uj] at k
      clear uj
      generalize unitsL es first = us at *
      have nF : ∀ {F : Addr}, H1 F = none → H F = none := fun e => s1.free e
      refine ⟨szl (by decide), fun F hF => ⟨U, rfl, ?_⟩⟩
      have UF : U ≠ F := ne_new h1 hF
      have FH := nF hF
      have hU1 : L2.upd H1 F (.lst []) U = some (.lst (lvs us)) := by rw [upd_ne UF]; exact h1
      have S1 : Same H (L2.upd H1 F (.lst [])) := Same.new' s1 hF
      refine lp_enum (xs := lvs us) (by rw [hU1]; rfl) (lvRw H c U F us) ⟨[], 0, none, none, rfl, S1, hU1, ⟨[], upd_same, .nil⟩, .inl ⟨rfl, rfl, rfl⟩⟩ (fun i σ H' ⟨_, _, _, _, _, _, u2, _⟩ => by rw [u2, hU1]) ?_ ?_
      · rintro i x σ H2 hx ⟨acc, bg, v1, v2, rfl, s2, u2, rows, inv⟩ T hT
        obtain ⟨l, hl9, rfl⟩ : ∃ l, us[i]? = some l ∧ x = lnV l := by
          unfold lvs at hx
          rw [List.getElem?_map] at hx
          cases e : us[i]? with
          | none => rw [e] at hx; cases hx
          | some l => rw [e] at hx; exact ⟨l, rfl, (Option.some.inj hx).symm⟩
        have hiu : i < us.length := (List.getElem?_eq_some_iff.mp hl9).1
        have sT : Same H2 (L2.upd H2 T (.tup [.int (i : Nat), lnV l])) := Same.new' (Same.refl H2) hT
        have hT3 : L2.upd H2 T (.tup [.int (i : Nat), lnV l]) T = some (.tup [.int (i : Nat), lnV l]) := upd_same
        have s3 : Same H (L2.upd H2 T (.tup [.int (i : Nat), lnV l])) := fun b o e => sT b o (s2 b o e)
        have u3 := sT _ _ u2
        obtain ⟨refs, hF3, pF⟩ := rows.same sT
        clear rows u2 s2 sT hT
        generalize L2.upd H2 T (.tup [.int (i : Nat), lnV l]) = H3 at *
        rcases inv with ⟨rfl, rfl, rfl⟩ | ⟨hb, lb, e, j, z⟩
        · have eb := lvs_at hl9
          simp only [r_seq, r_next, r_brk, r_cont, r_asg, r_name, r_ret, r_retN, r_drop, r_ifs, r_never, r_var, r_c, r_op, r_un, r_if, r_tst, r_b, r_not, r_and, r_or, r_andV, r_orV, r_notV, r_nil, r_cons, r_tup, r_lst, r_cb, r_call, r_bm, r_bm0, r_sl, r_nopart, r_part, r_rev, r_gnil, r_gcons, r_gsub, r_par, r_aug, r_chain, r_I0, r_I, r_U, r_ixd, r_lend, r_tupd, r_listd, r_sld, r_app, r_ext, r_reverse, r_setl, r_cat, r_int1, r_eqS, r_neS, scal_ii, scal_bb, scal_ss, at0, at1, at2, sq_lst, sq_tup, isLst_lst, List.getElem?_cons_zero, List.getElem?_cons_succ, List.set_cons_zero, List.set_cons_succ, V.int.injEq, V.bl.injEq, V.ref.injEq, V.str.injEq, HO.lst.injEq, HO.tup.injEq, Option.some.injEq, exists_eq_left', exists_eq_left, List.cons.injEq, and_true, true_and, decide_eq_true_eq, reduceCtorEq, false_and, exists_false, or_false, false_or, exists_const, and_assoc, exists_and_left, List.append_nil, ix0, ix1, ix2, cm_mod, cdw1009, cdw2003, cdw7, cdw64, cdw2, cm104729, cm2, cm3, upd_same, List.length_cons, List.length_nil, Int.reduceLT, Int.reduceLE, Nat.reduceAdd, Nat.reduceLeDiff, Nat.reduceLT, Int.reduceToNat, r_for1, r_forL, r_forT, r_lcL, r_lc1, r_yes, r_gtupD, wipe_0, wipe_1, List.cons_append, List.nil_append, r_forS, r_ipI, ite_false, ite_true, Bool.not_true, Bool.not_false, decide_true, decide_false, r_isd, r_islt, cD_ty, cD_ref, tD_non, tD_bl, tD_int, tD_str, tD_ref, tH_lst, tH_tup, tH_dK, tH_ins, ki_self, ki_int_bool, ki_non_int, ki_str_int, ki_lt_lst, ki_lt_tup, r_fld, r_sfld, HO.ins.injEq, cx_K, hT3, u3, eb]
          refine ne_ln ?_
          simp only [r_seq, r_next, r_brk, r_cont, r_asg, r_name, r_ret, r_retN, r_drop, r_ifs, r_never, r_var, r_c, r_op, r_un, r_if, r_tst, r_b, r_not, r_and, r_or, r_andV, r_orV, r_notV, r_nil, r_cons, r_tup, r_lst, r_cb, r_call, r_bm, r_bm0, r_sl, r_nopart, r_part, r_rev, r_gnil, r_gcons, r_gsub, r_par, r_aug, r_chain, r_I0, r_I, r_U, r_ixd, r_lend, r_tupd, r_listd, r_sld, r_app, r_ext, r_reverse, r_setl, r_cat, r_int1, r_eqS, r_neS, scal_ii, scal_bb, scal_ss, at0, at1, at2, sq_lst, sq_tup, isLst_lst, List.getElem?_cons_zero, List.getElem?_cons_succ, List.set_cons_zero, List.set_cons_succ, V.int.injEq, V.bl.injEq, V.ref.injEq, V.str.injEq, HO.lst.injEq, HO.tup.injEq, Option.some.injEq, exists_eq_left', exists_eq_left, List.cons.injEq, and_true, true_and, decide_eq_true_eq, reduceCtorEq, false_and, exists_false, or_false, false_or, exists_const, and_assoc, exists_and_left, List.append_nil, ix0, ix1, ix2, cm_mod, cdw1009, cdw2003, cdw7, cdw64, cdw2, cm104729, cm2, cm3, upd_same, List.length_cons, List.length_nil, Int.reduceLT, Int.reduceLE, Nat.reduceAdd, Nat.reduceLeDiff, Nat.reduceLT, Int.reduceToNat, r_for1, r_forL, r_forT, r_lcL, r_lc1, r_yes, r_gtupD, wipe_0, wipe_1, List.cons_append, List.nil_append, r_forS, r_ipI, ite_false, ite_true, Bool.not_true, Bool.not_false, decide_true, decide_false, r_isd, r_islt, cD_ty, cD_ref, tD_non, tD_bl, tD_int, tD_str, tD_ref, tH_lst, tH_tup, tH_dK, tH_ins, ki_self, ki_int_bool, ki_non_int, ki_str_int, ki_lt_lst, ki_lt_tup, r_fld, r_sfld, HO.ins.injEq, cx_K]
          refine ⟨[], 0, _, _, rfl, s3, u3, ⟨refs, hF3, pF⟩, .inr ⟨Nat.zero_lt_succ _, l, hl9, ?_, Nat.le_refl _⟩⟩
          have n := units_next hiu
          rw [(List.getElem?_eq_some_iff.mp hl9).2] at n
          exact n
        · have eb := lvs_at e
          have nx := rwInv_next hb hl9 e j z
          simp only [r_seq, r_next, r_brk, r_cont, r_asg, r_name, r_ret, r_retN, r_drop, r_ifs, r_never, r_var, r_c, r_op, r_un, r_if, r_tst, r_b, r_not, r_and, r_or, r_andV, r_orV, r_notV, r_nil, r_cons, r_tup, r_lst, r_cb, r_call, r_bm, r_bm0, r_sl, r_nopart, r_part, r_rev, r_gnil, r_gcons, r_gsub, r_par, r_aug, r_chain, r_I0, r_I, r_U, r_ixd, r_lend, r_tupd, r_listd, r_sld, r_app, r_ext, r_reverse, r_setl, r_cat, r_int1, r_eqS, r_neS, scal_ii, scal_bb, scal_ss, at0, at1, at2, sq_lst, sq_tup, isLst_lst, List.getElem?_cons_zero, List.getElem?_cons_succ, List.set_cons_zero, List.set_cons_succ, V.int.injEq, V.bl.injEq, V.ref.injEq, V.str.injEq, HO.lst.injEq, HO.tup.injEq, Option.some.injEq, exists_eq_left', exists_eq_left, List.cons.injEq, and_true, true_and, decide_eq_true_eq, reduceCtorEq, false_and, exists_false, or_false, false_or, exists_const, and_assoc, exists_and_left, List.append_nil, ix0, ix1, ix2, cm_mod, cdw1009, cdw2003, cdw7, cdw64, cdw2, cm104729, cm2, cm3, upd_same, List.length_cons, List.length_nil, Int.reduceLT, Int.reduceLE, Nat.reduceAdd, Nat.reduceLeDiff, Nat.reduceLT, Int.reduceToNat, r_for1, r_forL, r_forT, r_lcL, r_lc1, r_yes, r_gtupD, wipe_0, wipe_1, List.cons_append, List.nil_append, r_forS, r_ipI, ite_false, ite_true, Bool.not_true, Bool.not_false, decide_true, decide_false, r_isd, r_islt, cD_ty, cD_ref, tD_non, tD_bl, tD_int, tD_str, tD_ref, tH_lst, tH_tup, tH_dK, tH_ins, ki_self, ki_int_bool, ki_non_int, ki_str_int, ki_lt_lst, ki_lt_tup, r_fld, r_sfld, HO.ins.injEq, cx_K, hT3, u3, eb]
          refine ne_ln ?_
          by_cases c9 : l = lb
          · rw [if_pos c9] at nx
            have c9' : (l = lb) = True := eq_true c9
            simp only [r_seq, r_next, r_brk, r_cont, r_asg, r_name, r_ret, r_retN, r_drop, r_ifs, r_never, r_var, r_c, r_op, r_un, r_if, r_tst, r_b, r_not, r_and, r_or, r_andV, r_orV, r_notV, r_nil, r_cons, r_tup, r_lst, r_cb, r_call, r_bm, r_bm0, r_sl, r_nopart, r_part, r_rev, r_gnil, r_gcons, r_gsub, r_par, r_aug, r_chain, r_I0, r_I, r_U, r_ixd, r_lend, r_tupd, r_listd, r_sld, r_app, r_ext, r_reverse, r_setl, r_cat, r_int1, r_eqS, r_neS, scal_ii, scal_bb, scal_ss, at0, at1, at2, sq_lst, sq_tup, isLst_lst, List.getElem?_cons_zero, List.getElem?_cons_succ, List.set_cons_zero, List.set_cons_succ, V.int.injEq, V.bl.injEq, V.ref.injEq, V.str.injEq, HO.lst.injEq, HO.tup.injEq, Option.some.injEq, exists_eq_left', exists_eq_left, List.cons.injEq, and_true, true_and, decide_eq_true_eq, reduceCtorEq, false_and, exists_false, or_false, false_or, exists_const, and_assoc, exists_and_left, List.append_nil, ix0, ix1, ix2, cm_mod, cdw1009, cdw2003, cdw7, cdw64, cdw2, cm104729, cm2, cm3, upd_same, List.length_cons, List.length_nil, Int.reduceLT, Int.reduceLE, Nat.reduceAdd, Nat.reduceLeDiff, Nat.reduceLT, Int.reduceToNat, r_for1, r_forL, r_forT, r_lcL, r_lc1, r_yes, r_gtupD, wipe_0, wipe_1, List.cons_append, List.nil_append, r_forS, r_ipI, ite_false, ite_true, Bool.not_true, Bool.not_false, decide_true, decide_false, r_isd, r_islt, cD_ty, cD_ref, tD_non, tD_bl, tD_int, tD_str, tD_ref, tH_lst, tH_tup, tH_dK, tH_ins, ki_self, ki_int_bool, ki_non_int, ki_str_int, ki_lt_lst, ki_lt_tup, r_fld, r_sfld, HO.ins.injEq, cx_K, c9']
            exact ⟨acc, bg, _, _, rfl, s3, u3, ⟨refs, hF3, pF⟩, nx⟩
          · rw [if_neg c9] at nx
            have c9' : (l = lb) = False := eq_false c9
            have a1 : 2 * (bg : Int) = ((2 * bg : Nat) : Int) := by omega
            have a2 : 2 * (i : Int) = ((2 * i : Nat) : Int) := by omega
            simp only [r_seq, r_next, r_brk, r_cont, r_asg, r_name, r_ret, r_retN, r_drop, r_ifs, r_never, r_var, r_c, r_op, r_un, r_if, r_tst, r_b, r_not, r_and, r_or, r_andV, r_orV, r_notV, r_nil, r_cons, r_tup, r_lst, r_cb, r_call, r_bm, r_bm0, r_sl, r_nopart, r_part, r_rev, r_gnil, r_gcons, r_gsub, r_par, r_aug, r_chain, r_I0, r_I, r_U, r_ixd, r_lend, r_tupd, r_listd, r_sld, r_app, r_ext, r_reverse, r_setl, r_cat, r_int1, r_eqS, r_neS, scal_ii, scal_bb, scal_ss, at0, at1, at2, sq_lst, sq_tup, isLst_lst, List.getElem?_cons_zero, List.getElem?_cons_succ, List.set_cons_zero, List.set_cons_succ, V.int.injEq, V.bl.injEq, V.ref.injEq, V.str.injEq, HO.lst.injEq, HO.tup.injEq, Option.some.injEq, exists_eq_left', exists_eq_left, List.cons.injEq, and_true, true_and, decide_eq_true_eq, reduceCtorEq, false_and, exists_false, or_false, false_or, exists_const, and_assoc, exists_and_left, List.append_nil, ix0, ix1, ix2, cm_mod, cdw1009, cdw2003, cdw7, cdw64, cdw2, cm104729, cm2, cm3, upd_same, List.length_cons, List.length_nil, Int.reduceLT, Int.reduceLE, Nat.reduceAdd, Nat.reduceLeDiff, Nat.reduceLT, Int.reduceToNat, r_for1, r_forL, r_forT, r_lcL, r_lc1, r_yes, r_gtupD, wipe_0, wipe_1, List.cons_append, List.nil_append, r_forS, r_ipI, ite_false, ite_true, Bool.not_true, Bool.not_false, decide_true, decide_false, r_isd, r_islt, cD_ty, cD_ref, tD_non, tD_bl, tD_int, tD_str, tD_ref, tH_lst, tH_tup, tH_dK, tH_ins, ki_self, ki_int_bool, ki_non_int, ki_str_int, ki_lt_lst, ki_lt_tup, r_fld, r_sfld, HO.ins.injEq, cx_K, c9', hT3, u3, eb, a1, a2, hF3, tyV_lst]
            have lr := Paired.length pF
            refine ⟨szl (by decide), fun p hp => ⟨_, by rw [upd_ne (ne_new hF3 hp)]; exact hF3, Nat.lt_of_le_of_lt (by rw [List.length_map, lr]; omega : _ ≤ 800000) (by decide), ?_⟩⟩
            obtain ⟨p1, p2⟩ := rows_put (R := ⟨2 * bg, 2 * i, lb⟩) FH s3 hF3 pF hp
            exact ⟨_, i, _, _, rfl, p1, by rw [upd_ne UF, upd_ne (ne_new u3 hp)]; exact u3, p2, nx⟩
      · rintro σ H2 ⟨acc, bg, v1, v2, rfl, s2, u2, rows, inv⟩
        rw [lvs_len] at inv
        rcases inv with ⟨e0, rfl, rfl⟩ | ⟨hb, lb, e, j, z⟩
        · obtain rfl := List.length_eq_zero_iff.mp e0
          simp only [r_seq, r_next, r_brk, r_cont, r_asg, r_name, r_ret, r_retN, r_drop, r_ifs, r_never, r_var, r_c, r_op, r_un, r_if, r_tst, r_b, r_not, r_and, r_or, r_andV, r_orV, r_notV, r_nil, r_cons, r_tup, r_lst, r_cb, r_call, r_bm, r_bm0, r_sl, r_nopart, r_part, r_rev, r_gnil, r_gcons, r_gsub, r_par, r_aug, r_chain, r_I0, r_I, r_U, r_ixd, r_lend, r_tupd, r_listd, r_sld, r_app, r_ext, r_reverse, r_setl, r_cat, r_int1, r_eqS, r_neS, scal_ii, scal_bb, scal_ss, at0, at1, at2, sq_lst, sq_tup, isLst_lst, List.getElem?_cons_zero, List.getElem?_cons_succ, List.set_cons_zero, List.set_cons_succ, V.int.injEq, V.bl.injEq, V.ref.injEq, V.str.injEq, HO.lst.injEq, HO.tup.injEq, Option.some.injEq, exists_eq_left', exists_eq_left, List.cons.injEq, and_true, true_and, decide_eq_true_eq, reduceCtorEq, false_and, exists_false, or_false, false_or, exists_const, and_assoc, exists_and_left, List.append_nil, ix0, ix1, ix2, cm_mod, cdw1009, cdw2003, cdw7, cdw64, cdw2, cm104729, cm2, cm3, upd_same, List.length_cons, List.length_nil, Int.reduceLT, Int.reduceLE, Nat.reduceAdd, Nat.reduceLeDiff, Nat.reduceLT, Int.reduceToNat, r_for1, r_forL, r_forT, r_lcL, r_lc1, r_yes, r_gtupD, wipe_0, wipe_1, List.cons_append, List.nil_append, r_forS, r_ipI, ite_false, ite_true, Bool.not_true, Bool.not_false, decide_true, decide_false, r_isd, r_islt, cD_ty, cD_ref, tD_non, tD_bl, tD_int, tD_str, tD_ref, tH_lst, tH_tup, tH_dK, tH_ins, ki_self, ki_int_bool, ki_non_int, ki_str_int, ki_lt_lst, ki_lt_tup, r_fld, r_sfld, HO.ins.injEq, cx_K]
          refine ⟨false, .inl ⟨_, SqL.of u2, rfl⟩, ?_⟩
          simp only [r_seq, r_next, r_brk, r_cont, r_asg, r_name, r_ret, r_retN, r_drop, r_ifs, r_never, r_var, r_c, r_op, r_un, r_if, r_tst, r_b, r_not, r_and, r_or, r_andV, r_orV, r_notV, r_nil, r_cons, r_tup, r_lst, r_cb, r_call, r_bm, r_bm0, r_sl, r_nopart, r_part, r_rev, r_gnil, r_gcons, r_gsub, r_par, r_aug, r_chain, r_I0, r_I, r_U, r_ixd, r_lend, r_tupd, r_listd, r_sld, r_app, r_ext, r_reverse, r_setl, r_cat, r_int1, r_eqS, r_neS, scal_ii, scal_bb, scal_ss, at0, at1, at2, sq_lst, sq_tup, isLst_lst, List.getElem?_cons_zero, List.getElem?_cons_succ, List.set_cons_zero, List.set_cons_succ, V.int.injEq, V.bl.injEq, V.ref.injEq, V.str.injEq, HO.lst.injEq, HO.tup.injEq, Option.some.injEq, exists_eq_left', exists_eq_left, List.cons.injEq, and_true, true_and, decide_eq_true_eq, reduceCtorEq, false_and, exists_false, or_false, false_or, exists_const, and_assoc, exists_and_left, List.append_nil, ix0, ix1, ix2, cm_mod, cdw1009, cdw2003, cdw7, cdw64, cdw2, cm104729, cm2, cm3, upd_same, List.length_cons, List.length_nil, Int.reduceLT, Int.reduceLE, Nat.reduceAdd, Nat.reduceLeDiff, Nat.reduceLT, Int.reduceToNat, r_for1, r_forL, r_forT, r_lcL, r_lc1, r_yes, r_gtupD, wipe_0, wipe_1, List.cons_append, List.nil_append, r_forS, r_ipI, ite_false, ite_true, Bool.not_true, Bool.not_false, decide_true, decide_false, r_isd, r_islt, cD_ty, cD_ref, tD_non, tD_bl, tD_int, tD_str, tD_ref, tH_lst, tH_tup, tH_dK, tH_ins, ki_self, ki_int_bool, ki_non_int, ki_str_int, ki_lt_lst, ki_lt_tup, r_fld, r_sfld, HO.ins.injEq, cx_K]
          exact k F H2 FH s2 rows
        · have eb := lvs_at e
          rw [List.take_length] at j
          obtain ⟨refs, hF3, pF⟩ := rows
          have a1 : 2 * (bg : Int) = ((2 * bg : Nat) : Int) := by omega
          have a2 : 2 * (us.length : Int) = ((2 * us.length : Nat) : Int) := by omega
          simp only [r_seq, r_next, r_brk, r_cont, r_asg, r_name, r_ret, r_retN, r_drop, r_ifs, r_never, r_var, r_c, r_op, r_un, r_if, r_tst, r_b, r_not, r_and, r_or, r_andV, r_orV, r_notV, r_nil, r_cons, r_tup, r_lst, r_cb, r_call, r_bm, r_bm0, r_sl, r_nopart, r_part, r_rev, r_gnil, r_gcons, r_gsub, r_par, r_aug, r_chain, r_I0, r_I, r_U, r_ixd, r_lend, r_tupd, r_listd, r_sld, r_app, r_ext, r_reverse, r_setl, r_cat, r_int1, r_eqS, r_neS, scal_ii, scal_bb, scal_ss, at0, at1, at2, sq_lst, sq_tup, isLst_lst, List.getElem?_cons_zero, List.getElem?_cons_succ, List.set_cons_zero, List.set_cons_succ, V.int.injEq, V.bl.injEq, V.ref.injEq, V.str.injEq, HO.lst.injEq, HO.tup.injEq, Option.some.injEq, exists_eq_left', exists_eq_left, List.cons.injEq, and_true, true_and, decide_eq_true_eq, reduceCtorEq, false_and, exists_false, or_false, false_or, exists_const, and_assoc, exists_and_left, List.append_nil, ix0, ix1, ix2, cm_mod, cdw1009, cdw2003, cdw7, cdw64, cdw2, cm104729, cm2, cm3, upd_same, List.length_cons, List.length_nil, Int.reduceLT, Int.reduceLE, Nat.reduceAdd, Nat.reduceLeDiff, Nat.reduceLT, Int.reduceToNat, r_for1, r_forL, r_forT, r_lcL, r_lc1, r_yes, r_gtupD, wipe_0, wipe_1, List.cons_append, List.nil_append, r_forS, r_ipI, ite_false, ite_true, Bool.not_true, Bool.not_false, decide_true, decide_false, r_isd, r_islt, cD_ty, cD_ref, tD_non, tD_bl, tD_int, tD_str, tD_ref, tH_lst, tH_tup, tH_dK, tH_ins, ki_self, ki_int_bool, ki_non_int, ki_str_int, ki_lt_lst, ki_lt_tup, r_fld, r_sfld, HO.ins.injEq, cx_K]
          refine ⟨true, .inl ⟨_, SqL.of u2, by cases us with | nil => cases e | cons x r => rfl⟩, ?_⟩
          simp only [r_seq, r_next, r_brk, r_cont, r_asg, r_name, r_ret, r_retN, r_drop, r_ifs, r_never, r_var, r_c, r_op, r_un, r_if, r_tst, r_b, r_not, r_and, r_or, r_andV, r_orV, r_notV, r_nil, r_cons, r_tup, r_lst, r_cb, r_call, r_bm, r_bm0, r_sl, r_nopart, r_part, r_rev, r_gnil, r_gcons, r_gsub, r_par, r_aug, r_chain, r_I0, r_I, r_U, r_ixd, r_lend, r_tupd, r_listd, r_sld, r_app, r_ext, r_reverse, r_setl, r_cat, r_int1, r_eqS, r_neS, scal_ii, scal_bb, scal_ss, at0, at1, at2, sq_lst, sq_tup, isLst_lst, List.getElem?_cons_zero, List.getElem?_cons_succ, List.set_cons_zero, List.set_cons_succ, V.int.injEq, V.bl.injEq, V.ref.injEq, V.str.injEq, HO.lst.injEq, HO.tup.injEq, Option.some.injEq, exists_eq_left', exists_eq_left, List.cons.injEq, and_true, true_and, decide_eq_true_eq, reduceCtorEq, false_and, exists_false, or_false, false_or, exists_const, and_assoc, exists_and_left, List.append_nil, ix0, ix1, ix2, cm_mod, cdw1009, cdw2003, cdw7, cdw64, cdw2, cm104729, cm2, cm3, upd_same, List.length_cons, List.length_nil, Int.reduceLT, Int.reduceLE, Nat.reduceAdd, Nat.reduceLeDiff, Nat.reduceLT, Int.reduceToNat, r_for1, r_forL, r_forT, r_lcL, r_lc1, r_yes, r_gtupD, wipe_0, wipe_1, List.cons_append, List.nil_append, r_forS, r_ipI, ite_false, ite_true, Bool.not_true, Bool.not_false, decide_true, decide_false, r_isd, r_islt, cD_ty, cD_ref, tD_non, tD_bl, tD_int, tD_str, tD_ref, tH_lst, tH_tup, tH_dK, tH_ins, ki_self, ki_int_bool, ki_non_int, ki_str_int, ki_lt_lst, ki_lt_tup, r_fld, r_sfld, HO.ins.injEq, cx_K, u2, eb, a1, a2, hF3, tyV_lst, lvs_len]
          have lr := Paired.length pF
          refine ⟨szl (by decide), fun p hp => ⟨_, by rw [upd_ne (ne_new hF3 hp)]; exact hF3, Nat.lt_of_le_of_lt (by rw [List.length_map, lr]; omega : _ ≤ 800000) (by decide), ?_⟩⟩
          obtain ⟨p1, p2⟩ := rows_put (R := ⟨2 * bg, 2 * us.length, lb⟩) FH s2 hF3 pF hp
          rw [j] at k
          exact k F _ FH p1 p2
end
end C49

set_option maxHeartbeats 1000000
namespace C49
open PySem PySem.Spec PyProof.Rows L2
/-! ### list(reversed(a tuple)) -/
theorem nolen_rt : typeLookup (.type "reversed") "__len__" = pure none := by rw [typeLookup_type, builtinLookup_eq_fast]; kernel_rfl
theorem hint_rt : typeLookup (.type "reversed") "__length_hint__" = pure (some (.builtin "reversed.__length_hint__")) := by rw [typeLookup_type, builtinLookup_eq_fast]; kernel_rfl
theorem slot_rt_hint : Slot "reversed" "__length_hint__" "reversed.__length_hint__" :=
  .of (owner := "reversed") (n := "__length_hint__") (by rw [typeLookup_type, builtinLookup_eq_fast]; kernel_rfl) (by decide +kernel) (by decide +kernel) (by decide +kernel)
    (by first | exact .inl (by decide +kernel) | exact .inr (by decide +kernel)) (by rw [isSubtype_type]; kernel_rfl)
theorem entry_rt_hint : entryFor table "reversed.__length_hint__" = some Builtin.«reversed.__length_hint__» := entryFor_of_tree (by kernel_rfl)
theorem args_rt_hint (a : Value) : argsOk "reversed.__length_hint__" ⟨[a], []⟩ := by
  unfold argsOk; rw [signature?_of (id := "reversed.__length_hint__") (n := ['_', '_', 't', 'n', 'i', 'h', '_', 'h', 't', 'g', 'n', 'e', 'l', '_', '_']) (o := ['d', 'e', 's', 'r', 'e', 'v', 'e', 'r']) (by kernel_rfl) RT.owner_rt]; kernel_rfl
theorem bind_rt_hint (self : Value) : bindSpecial (.builtin "reversed.__length_hint__") self = pure (.builtin "reversed.__length_hint__", [self]) := by
  unfold bindSpecial
  rw [show typeOf (.builtin "reversed.__length_hint__") = pure (.type "method_descriptor") from by show builtinType _ = _; rw [builtinType_eq_fast]; kernel_rfl]
  rfl
section
variable {prog : Program} {w : World} {A : Around} {E : Value → Shared → Prop} {s : Shared}
theorem rt_len {it t : Addr} {i : Int} {items : Array Value} {Q : Value → Shared → Prop} (hit : RT.IsRt s.heap it t i) (ht : IsTup s.heap t items) (hz : items.size ≤ sizeLine) (hi : i + 1 ≤ (items.size : Int))
    (h : ∀ tk u, Q (.int (i + 1) u) { s with toks := tk }) : wpAny (model prog w) A (call (.builtin "reversed.__length_hint__") [.ref it]) Q E s := by
  obtain ⟨o, ho, hc, hd⟩ := id hit
  have hn := line63
  refine wpAny_call_entry slot_rt_hint hit.typeIs entry_rt_hint ?_ (args_rt_hint _)
  unfold Builtin.«reversed.__length_hint__»
  refine wpAny_bind (wpAny_of_eq (a := Value.ref it) rfl ?_)
  try dsimp only
  refine wpAny_bind (wpAny_field ho hd (x := .ref t) rfl ?_)
  try dsimp only
  rw [if_neg (by intro h; cases h)]
  refine wpAny_bind (PyProof.Rows.len_tuple ht (by omega) ?_)
  refine wpAny_bind (wpAny_of_eq (a := some ((items.size : Nat) : Int)) rfl ?_)
  try dsimp only
  refine wpAny_bind (wpAny_field (s := { s with toks := s.toks + 1 + 1 }) ho hd (x := rawInt i) rfl ?_)
  show wpAny _ _ (if ((items.size : Nat) : Int) < i + 1 then _ else _) _ _ _
  rw [if_neg (by omega)]
  refine wpAny_bind (wpAny_mkInt (wpAny_pure ?_))
  exact ⟨_, rfl, h _ _⟩
theorem rt_hint {it t : Addr} {i : Int} {items : Array Value} {Q : Bool → Shared → Prop} (hit : RT.IsRt s.heap it t i) (ht : IsTup s.heap t items) (hz : items.size ≤ sizeLine) (hi : i + 1 ≤ (items.size : Int)) (hi0 : 0 ≤ i + 1)
    (h : ∀ tk, Q (i + 1 != 0) { s with toks := tk }) : wpAny (model prog w) A (Builtin.List.listLengthHint (.ref it)) Q E s := by
  unfold Builtin.List.listLengthHint
  refine wpAny_bind (wpAny_specialOf hit.typeIs nolen_rt ?_)
  show wpAny _ _ (specialOf (Value.ref it) (Str.ofString "__length_hint__") >>= _) _ _ _
  refine wpAny_bind (wpAny_specialOf hit.typeIs hint_rt ?_)
  generalize hid : ("reversed.__length_hint__" : String) = id0
  wp_delta
  rw [show splitId id0 = some ("reversed", "__length_hint__") from by subst hid; decide +kernel]
  refine wpAny_bind (wpAny_isInstance (b := true) hit.typeIs (by rw [isSubtype_type]; kernel_rfl) ?_)
  subst hid
  try dsimp only
  rw [if_neg (by decide), if_neg (by decide +kernel)]
  refine wpAny_bind (wpAny_rule ?_)
  rw [bind_rt_hint]
  refine wpAny_bind (wpAny_pure ?_)
  refine wpAny_bind (wpAny_attempt (rt_len hit ht hz hi fun tk u => ?_))
  refine wpAny_bind (wpAny_of_eq (a := some (i + 1)) rfl ?_)
  have f1 : Builtin.List.listFitsIndex (i + 1) = true := by
    have hn := line63
    unfold Builtin.List.listFitsIndex
    simp
    omega
  have f2 : Builtin.List.listTooLong (i + 1).toNat = false := by
    have hn := sizeLine_eq
    unfold Builtin.List.listTooLong
    simp
    omega
  show wpAny _ _ (if (!Builtin.List.listFitsIndex (i + 1)) = true then _ else _) _ _ _
  rw [f1, if_neg (by decide)]
  show wpAny _ _ (if (i + 1 : Int) < 0 then _ else _) _ _ _
  rw [if_neg (by omega)]
  show wpAny _ _ (if Builtin.List.listTooLong (i + 1).toNat = true then _ else _) _ _ _
  rw [f2, if_neg (by decide)]
  exact wpAny_pure (h _)
end
section
variable {prog : Program} {w : World} {A : Around} {s : Shared} {R : Result → Shared → Prop}
theorem walks_rt {prog : Program} {w : World} {A : Around} (hh : A.handled = none) (I t : Addr) (hne : t ≠ I) (items : Array Value) (hz : items.size ≤ sizeLine) :
    Walks prog w A I [I, t] [I] items.size (fun i v => items[items.size - 1 - i]? = some v) (fun i h => i ≤ items.size ∧ RT.IsRt h I t ((items.size : Int) - 1 - (i : Int)) ∧ IsTup h t items) where
  sub := fun b hb => by simp at hb; simp [hb]
  frame := fun _ _ _ x hk => ⟨x.1, x.2.1.at fun o e => hk I (by simp) o e, let ⟨o, ho, r⟩ := x.2.2; ⟨o, hk t (by simp) o ho, r⟩⟩
  item := fun i s Q E hi x hQ => by
    have e : (items.size : Int) - 1 - (i : Int) = ((items.size - 1 - i : Nat) : Int) := by omega
    have hit := x.2.1
    rw [e] at hit
    have hx : items[items.size - 1 - i]? = some (items[items.size - 1 - i]'(by omega)) := Array.getElem?_eq_getElem (by omega)
    refine RT.next_rt_item hit x.2.2 hx hz fun h' hit' hs' => ?_
    have e2 : ((items.size - 1 - i : Nat) : Int) - 1 = (items.size : Int) - 1 - ((i + 1 : Nat) : Int) := by omega
    rw [e2] at hit'
    exact hQ _ h' (s.toks + 1) hx ⟨hi, hit', let ⟨o, ho, r⟩ := x.2.2; ⟨o, (hs'.2 t hne).trans ho, r⟩⟩ fun b o hb eo => hs'.extBut b o (fun h => hb (by simp [h])) eo
  done := fun s Q E x hQ => by
    have e : (items.size : Int) - 1 - (items.size : Int) = -1 := by omega
    have hit := x.2.1
    rw [e] at hit
    exact RT.next_rt_end hh hit fun h' he' => hQ h' s.toks fun b o hb eo => he' b o (fun h => hb (by simp [h])) eo
  self := fun _ _ _ _ x hQ => RT.iter_rt x.2.1 hQ
theorem extend_rt {I t : Addr} {items : Array Value} (hh : A.handled = none) (hne : t ≠ I) (hz : items.size ≤ sizeLine) (S : Addr) (res : Value) (c₀ : Nat) (hit : RT.IsRt s.heap I t ((items.size : Int) - 1)) (ht : IsTup s.heap t items) (hSI : S ≠ I) (hSt : S ≠ t)
    (hS : s.heap.get? S = some { cls := .type "list", data := .seq #[] c₀ })
    (hR : ∀ s' acc' c', (∃ tk, s' = { s with heap := s'.heap, toks := tk }) → (∀ b o, b ≠ S → b ≠ I → s.heap.get? b = some o → s'.heap.get? b = some o) → s'.heap.get? S = some { cls := .type "list", dict := none, data := .seq acc' c', slots := #[] } →
      ItemsOf (fun i v => items[items.size - 1 - i]? = some v) acc' items.size → R (.ok (.ret res)) s') :
    wpAny (model prog w) A.in1 (Builtin.List.listExtendWith (.ref S) (.ref I) res)
      (fun fin s' => match fin with | .done f => R (.ok f) s' | .again c' => c'.quiet = true ∧ codeAny (model prog w) A c' R s') (fun e s' => R (.error e) s') s := by
  have W := (walks_rt (prog := prog) (w := w) (A := A.in1) hh I t hne items hz).toS
  have hSf : S ∉ [I, t] := by simp only [List.mem_cons, List.not_mem_nil, or_false, not_or]; exact ⟨hSI, hSt⟩
  unfold Builtin.List.listExtendWith
  refine wpAny_bind (wpAny_typeOf hit.typeIs ?_)
  have h1 : Builtin.List.listSameRef (.ref S) (.ref I) = false := by simp [Builtin.List.listSameRef, hSI]
  have h2 : (Value.type "reversed" == Value.type "list") = false := by decide
  have h3 : (Value.type "reversed" == Value.type "tuple") = false := by decide
  simp only [h1, h2, h3, Bool.or_false, Bool.false_eq_true, if_false]
  refine wpAny_bind (RT.iter_rt hit ?_)
  refine wpAny_bind (wpAny_holding ?_)
  refine rt_hint hit ht hz (by omega) (by omega) fun tk => ?_
  have e0 : ((items.size : Nat) : Int) - 1 - ((0 : Nat) : Int) = (items.size : Int) - 1 := by omega
  by_cases h0 : items.size = 0
  · rw [show ((items.size : Int) - 1 + 1 != 0) = false from by simp [h0]]
    rw [if_neg (by decide +kernel)]
    refine wpAny_pure ⟨plainId_quiet F.plain_extend_loop _, codeAny_extend_loopS W hz _ hSf _ items.size 0 _ _ _ rfl (Nat.zero_le _) ⟨Nat.zero_le _, by rw [e0]; exact hit, ht⟩ hS (ItemsOf.nil _) fun s' acc' c' hm hS' hacc => ?_⟩
    exact hR s' acc' c' (by have e := Moved.eq_with hm; exact ⟨_, e⟩) (fun b o h1 h2 e => hm.heap b o (by simp [h1, h2]) e) hS' hacc
  · rw [show ((items.size : Int) - 1 + 1 != 0) = true from by rw [bne_iff_ne]; omega]
    rw [if_pos (by decide +kernel)]
    refine wpAny_bind (wpAny_rule ?_)
    refine wpAny_bind ?_
    show wpAny _ A.in1 (updateSeq S (·.push .none) >>= fun _ => updateSeq S (·.pop)) _ _ _
    refine wpAny_bind (wpAny_updateSeq hS rfl ?_)
    have hS₂ := Heap.get?_update_self (Obj.mapSeq (·.push Value.none)) hS rfl
    refine wpAny_updateSeq (hz := by seq_fits) hS₂ rfl ?_
    have hS₃ := Heap.get?_update_self (Obj.mapSeq (·.pop)) hS₂ rfl
    have oth : ∀ b o, b ≠ S → s.heap.get? b = some o → ((s.heap.update S (Obj.mapSeq (·.push Value.none))).update S (Obj.mapSeq (·.pop))).get? b = some o :=
      fun b o hb e => (Heap.get?_update_other _ _ (Ne.symm hb)).trans ((Heap.get?_update_other _ _ (Ne.symm hb)).trans e)
    refine wpAny_pure ⟨plainId_quiet F.plain_extend_loop _, codeAny_extend_loopS W hz _ hSf _ items.size 0 _ _ _ rfl (Nat.zero_le _)
      ⟨Nat.zero_le _, by rw [e0]; exact hit.at fun o e => oth I o (Ne.symm hSI) e, let ⟨o, ho, r⟩ := ht; ⟨o, oth t o (Ne.symm hSt) ho, r⟩⟩ hS₃ (ItemsOf.nil _) fun s' acc' c' hm hS' hacc => ?_⟩
    exact hR s' acc' c' (by have e := Moved.eq_with hm; exact ⟨_, e⟩) (fun b o h1 h2 e => hm.heap b o (by simp [h1, h2]) (oth b o h1 e)) hS' hacc
theorem init_rt {I t : Addr} {items : Array Value} (hh : A.handled = none) (hne : t ≠ I) (hz : items.size ≤ sizeLine) (S : Addr) (hit : RT.IsRt s.heap I t ((items.size : Int) - 1)) (ht : IsTup s.heap t items) (hSI : S ≠ I) (hSt : S ≠ t)
    (hS : s.heap.get? S = some { cls := .type "list", data := .seq #[] })
    (hR : ∀ s' acc' c', (∃ tk, s' = { s with heap := s'.heap, toks := tk }) → (∀ b o, b ≠ S → b ≠ I → s.heap.get? b = some o → s'.heap.get? b = some o) → s'.heap.get? S = some { cls := .type "list", dict := none, data := .seq acc' c', slots := #[] } →
      ItemsOf (fun i v => items[items.size - 1 - i]? = some v) acc' items.size → R (.ok (.ret .none)) s') :
    wpAny (model prog w) A.in1 (Builtin.«list.__init__» ⟨[.ref S, .ref I], []⟩)
      (fun fin s' => match fin with | .done f => R (.ok f) s' | .again c' => c'.quiet = true ∧ codeAny (model prog w) A c' R s') (fun e s' => R (.error e) s') s := by
  show wpAny _ A.in1 (do let old ← Builtin.List.listItems (.ref S); Builtin.List.listUpdate (.ref S) (fun _ => #[]); letGo old.toList.reverse; Builtin.List.listExtendWith (.ref S) (.ref I) .none) _ _ s
  refine wpAny_bind ?_
  unfold Builtin.List.listItems
  refine wpAny_bind (wpAny_seqItems hS rfl (wpAny_pure ?_))
  show wpAny _ A.in1 (updateSeq S (fun _ => #[]) >>= fun _ => letGo (#[] : Array Value).toList.reverse >>= fun _ => Builtin.List.listExtendWith (.ref S) (.ref I) .none) _ _ s
  refine wpAny_bind (wpAny_updateSeq hS rfl ?_)
  have hS₂ := Heap.get?_update_self (Obj.mapSeq (fun _ => (#[] : Array Value))) hS rfl
  have oth : ∀ b o, b ≠ S → s.heap.get? b = some o → (s.heap.update S (Obj.mapSeq (fun _ => (#[] : Array Value)))).get? b = some o :=
    fun b o hb e => (Heap.get?_update_other _ _ (Ne.symm hb)).trans e
  refine wpAny_bind (wpAny_letGo ?_)
  refine extend_rt (s := { s with heap := s.heap.update S (Obj.mapSeq (fun _ => (#[] : Array Value))) }) hh hne hz S .none _ (hit.at fun o e => oth I o (Ne.symm hSI) e) (let ⟨o, ho, r⟩ := ht; ⟨o, oth t o (Ne.symm hSt) ho, r⟩) hSI hSt hS₂ fun s' acc' c' ⟨tk, es⟩ hk hS' hacc => ?_
  exact hR s' acc' c' ⟨tk, es⟩ (fun b o h1 h2 e => hk b o h1 h2 (oth b o h1 e)) hS' hacc
end
section
variable {prog : Program} {w : World} {A : Around} {E : Value → Shared → Prop} {s : Shared}
theorem call_list_rt {I t : Addr} {items : Array Value} {Q : Value → Shared → Prop} (hh : A.handled = none) (hne : t ≠ I) (hz : items.size ≤ sizeLine) (hit : RT.IsRt s.heap I t ((items.size : Int) - 1)) (ht : IsTup s.heap t items)
    (hQ : ∀ (h' : Heap) (tk : Nat) (acc : Array Value) (c : Nat), (∀ b o, b ≠ I → s.heap.get? b = some o → h'.get? b = some o) → h'.get? s.heap.objs.size = some { cls := .type "list", dict := none, data := .seq acc c, slots := #[] } →
      ItemsOf (fun i v => items[items.size - 1 - i]? = some v) acc items.size → Q (.ref s.heap.objs.size) { s with heap := h', toks := tk }) :
    wpAny (model prog w) A (call (.type "list") [.ref I]) Q E s := by
  obtain ⟨oi, hoi, _⟩ := id hit
  obtain ⟨ot, hot, _⟩ := id ht
  have hSI : s.heap.objs.size ≠ I := Nat.ne_of_gt (Heap.lt_size hoi)
  have hSt : s.heap.objs.size ≠ t := Nat.ne_of_gt (Heap.lt_size hot)
  refine callType_codes (Q₁ := fun obj s₁ => obj = .ref s.heap.objs.size ∧ s₁ = { s with heap := s.heap.push { cls := .type "list", data := .seq #[] } }) F.called_list (F.typeCall_list_1 _) F.entry_list_init
    (code_list_new _ ⟨rfl, rfl⟩) fun obj s₁ h₁ => ?_
  obtain ⟨rfl, rfl⟩ := h₁
  have hS : (s.heap.push { cls := .type "list", data := .seq #[] }).get? s.heap.objs.size = some { cls := .type "list", data := .seq #[] } := Heap.get?_push_size _ rfl
  refine ⟨⟨_, hS, rfl⟩, F.args_list_init_2 _ _, init_rt (A := A.in1) (s := { s with heap := s.heap.push { cls := .type "list", data := .seq #[] } }) hh hne hz _ (hit.at fun o e => Heap.get?_push_of_some _ e) (let ⟨o, ho, r⟩ := ht; ⟨o, Heap.get?_push_of_some _ ho, r⟩) hSI hSt hS fun s' acc' c' ⟨tk, es⟩ hk hS' hacc => ?_⟩
  have q := hQ s'.heap tk acc' c' (fun b o hb e => hk b o (Nat.ne_of_lt (Heap.lt_size e)) hb (Heap.get?_push_of_some _ e)) hS' hacc
  rw [es]
  exact ⟨rfl, q⟩
end
section
variable {X : Cx}
/-- list(reversed(x)), x a tuple: a new list -/
def tListRev (te : TE) : TE := fun σ H Q => te σ H fun v H1 => ∃ (a : Addr) (xs : List V), v = .ref a ∧ H1 a = some (.tup xs) ∧ ∀ q, H1 q = none → Q (.ref q) (L2.upd H1 q (.lst xs.reverse))
theorem pe_listRevT {e : Expr} {te : TE} {p p2 pos pos2 : Pos} (hc : X.calm = true) (hg : Gl X "list") (hm : X.mg "list" = none) (hg2 : Gl X "reversed") (hm2 : X.mg "reversed" = none) (he : PE X e te)
    (hs : starEach [e] X.env = (false, eval e X.env) :: starEach [] X.env := by rfl)
    (hs2 : starEach [.Call (.Name "reversed" p2) [e] [] pos2] X.env = (false, eval (.Call (.Name "reversed" p2) [e] [] pos2) X.env) :: starEach [] X.env := by rfl) :
    PE X (.Call (.Name "list" p) [.Call (.Name "reversed" p2) [e] [] pos2] [] pos) (tListRev te) := by
  refine ⟨fun pins s σ H Q I h => ?_⟩
  refine Call_ (ld_blt I hg hm boot_list (PyProof.Rows.callWith_type1 (args_cons (Call_ (ld_blt I hg2 hm2 PyProof.Rows.boot_reversed (PyProof.Rows.callWith_type1 (args_cons (thn (he.run pins s σ H _ I h) fun u s1 ⟨v, H1, I1, r1, q1⟩ => args_nil ?_) hs) hs rfl))) hs2) hs2 rfl))
  obtain ⟨a, xs, ev, hq, q⟩ := q1
  subst ev
  obtain rfl : u = Value.ref a := r1
  obtain ⟨its, rv, p', hz⟩ := I1.tuple (SqT.of hq)
  have hl := rv.length
  have hn := line63
  have hz' : its.toArray.size ≤ sizeLine := by rw [List.size_toArray, ← hl]; exact hz
  refine RT.call_reversed_tup p' (fun A E Q k => PyProof.Rows.len_tuple p' (by omega) k) (args_nil ?_)
  have hit : RT.IsRt (s1.heap.push (RT.rtObj a ((its.toArray.size : Int) - 1))) s1.heap.objs.size a ((its.toArray.size : Int) - 1) := ⟨_, Heap.get?_push_size _ rfl, rfl, rfl⟩
  have pt : IsTup (s1.heap.push (RT.rtObj a ((its.toArray.size : Int) - 1))) a its.toArray := let ⟨o, ho, r⟩ := p'; ⟨o, Heap.get?_push_of_some _ ho, r⟩
  have hne : a ≠ s1.heap.objs.size := Nat.ne_of_lt p'.lt
  refine call_list_rt (s := { s1 with heap := s1.heap.push (RT.rtObj a ((its.toArray.size : Int) - 1)), toks := s1.toks + 1 + 1 }) (I1.ok.hd hc) hne hz' hit pt fun h' tk acc c hk hS hi => ?_
  have sz : (s1.heap.push (RT.rtObj a ((its.toArray.size : Int) - 1))).objs.size = s1.heap.objs.size + 1 := by simp [Heap.push]
  have hle : s1.heap.objs.size ≤ (s1.heap.push (RT.rtObj a ((its.toArray.size : Int) - 1))).objs.size := by rw [sz]; exact Nat.le_succ _
  have I3 := I1.laid (t' := tk) (h' := h') (a := (s1.heap.push (RT.rtObj a ((its.toArray.size : Int) - 1))).objs.size) (o := .lst xs.reverse) (fun b o e => hk b o (Nat.ne_of_lt (Heap.lt_size e)) (Heap.get?_push_of_some _ e)) hle
    (show ObjOk X.prog X.w _ h' _ (.lst xs.reverse) from ⟨by rw [List.length_reverse]; exact hz, acc.toList, c, RT.vals_rev rv hi, by rw [Array.toArray_toList]; exact hS⟩)
  exact ⟨.ref _, _, I3, rfl, q _ (I1.hok.fresh hle)⟩
end

/-! ### texts: isascii, isprintable, encode; a number in bytes -/
section
variable {X : Cx}
theorem mt_isascii : MtR X "str.isascii" (fun x xs H Q => ∃ a, x = .str a ∧ xs = [] ∧ True ∧ Q (.bl (Txt.isascii a)) H) :=
  mt0 (C := fun _ => True) (g := fun a => .bl (Txt.isascii a)) fun _ _ s _ _ h => PySem.SC.isascii (h _ s.toks rfl)
theorem mt_isprintable : MtR X "str.isprintable" (fun x xs H Q => ∃ a, x = .str a ∧ xs = [] ∧ True ∧ Q (.bl (Txt.isprintable a)) H) :=
  mt0 (C := fun _ => True) (g := fun a => .bl (Txt.isprintable a)) fun _ _ s _ _ h => PySem.SC.isprintable (h _ s.toks rfl)
theorem mt_encode : MtR X "str.encode" (fun x xs H Q => ∃ a, x = .str a ∧ xs = [] ∧ PySem.W.KSb.Asc a ∧ a.length ≤ 16777216 ∧ ∀ c, PySem.W.KBw.bInts c = PySem.W.KSb.codes a → Q (.byt c) H) := by
  intro pins s σ H x xs v us Q I rx rs h
  obtain ⟨a, rfl, rfl, h1, h2, h⟩ := h
  obtain ⟨t, rfl⟩ := rx
  cases rs
  exact PySem.W.KSb.encode_K h1 h2 fun c t' k e _ _ => ⟨.byt c, H, I.tok k, ⟨_, rfl⟩, h c e⟩
def rNotInI : R2 := fun x y H Q => ∃ (n : Int) (b : Array UInt8), x = .int n ∧ y = .byt b ∧ 0 ≤ n ∧ n < 256 ∧ Q (.bl (!(PySem.W.KBw.bInts b).contains n)) H
theorem op_notInI : OpR X (compareOp .NotIn) rNotInI := by
  intro pins s σ H x y v u Q I rx ry h
  obtain ⟨n, b, rfl, rfl, h0, h1, q⟩ := h
  obtain ⟨t, rfl⟩ := rx
  obtain ⟨t', rfl⟩ := ry
  exact PySem.W.KBi.notIn_K rfl h0 h1 ⟨.bl _, H, I, rfl, q⟩
theorem pe_isascii {o : Expr} {to : TE} {apos pos : Pos} (ho : PE X o to) (hbase : attributeBase o "isascii" X.env (eval o X.env) = eval o X.env := by rfl) (hline : (apos.endLine == pos.line) = true := by rfl) :
    PE X (.Call (.Attribute o "isascii" apos) [] [] pos) (tM0 (fun x xs H Q => ∃ a, x = .str a ∧ xs = [] ∧ True ∧ Q (.bl (Txt.isascii a)) H) to) := pe_m0 F.slot_str_isascii F.type_str_isascii mt_isascii ho hbase hline
theorem pe_isprintable {o : Expr} {to : TE} {apos pos : Pos} (ho : PE X o to) (hbase : attributeBase o "isprintable" X.env (eval o X.env) = eval o X.env := by rfl) (hline : (apos.endLine == pos.line) = true := by rfl) :
    PE X (.Call (.Attribute o "isprintable" apos) [] [] pos) (tM0 (fun x xs H Q => ∃ a, x = .str a ∧ xs = [] ∧ True ∧ Q (.bl (Txt.isprintable a)) H) to) := pe_m0 F.slot_str_isprintable F.type_str_isprintable mt_isprintable ho hbase hline
theorem pe_encode {o : Expr} {to : TE} {apos pos : Pos} (ho : PE X o to) (hbase : attributeBase o "encode" X.env (eval o X.env) = eval o X.env := by rfl) (hline : (apos.endLine == pos.line) = true := by rfl) :
    PE X (.Call (.Attribute o "encode" apos) [] [] pos) (tM0 (fun x xs H Q => ∃ a, x = .str a ∧ xs = [] ∧ PySem.W.KSb.Asc a ∧ a.length ≤ 16777216 ∧ ∀ c, PySem.W.KBw.bInts c = PySem.W.KSb.codes a → Q (.byt c) H) to) := pe_m0 F.slot_str_encode F.type_str_encode mt_encode ho hbase hline
theorem r_m0 {r : V → List V → Hp → VK → Prop} {to : TE} {σ : L2.St} {H : Hp} {Q : VK} : tM0 r to σ H Q = to σ H (fun x H1 => (∃ a, x = .str a) ∧ r x [] H1 Q) := rfl
theorem r_listrev {te : TE} {σ : L2.St} {H : Hp} {Q : VK} : tListRev te σ H Q = te σ H (fun v H1 => ∃ (a : Addr) (xs : List V), v = .ref a ∧ H1 a = some (.tup xs) ∧ ∀ q, H1 q = none → Q (.ref q) (L2.upd H1 q (.lst xs.reverse))) := rfl
theorem r_notInI {x y : V} {H : Hp} {Q : VK} : rNotInI x y H Q = ∃ (n : Int) (b : Array UInt8), x = .int n ∧ y = .byt b ∧ 0 ≤ n ∧ n < 256 ∧ Q (.bl (!(PySem.W.KBw.bInts b).contains n)) H := rfl

end

/-! ### x is True, x is False; isidentifier; C() of a class without an own __init__ -/
def rIsBl : R2 := fun x y H Q => ∃ c : Bool, y = .bl c ∧ Q (.bl (decide (x = .bl c))) H
section
variable {X : Cx}
theorem op_isB : OpR X (compareOp .Is) rIsBl := by
  intro pins s σ H x y v u Q I rx ry h
  obtain ⟨c, rfl, q⟩ := h
  cases (show u = Value.bool c from ry)
  have eq_ : ∀ {b : Bool}, plainIs v (.bool c) = true → (v == Value.bool c) = b → b = decide (x = .bl c) → wpAny (model X.prog X.w) X.A (compareOp .Is v (.bool c)) (EP X pins σ Q) X.xe s := fun h1 h2 h3 => by
    show wpAny _ _ ((isSame v (Value.bool c)) >>= fun z => pure (Value.bool z)) _ _ s
    refine wpAny_bind (wpAny_isSame_plain h1 (wpAny_pure ?_))
    rw [h2]
    exact ⟨.bl _, H, I, by rw [h3]; rfl, q⟩
  cases x with
  | ref a =>
    cases rx
    exact eq_ rfl rfl rfl
  | non => cases rx; exact eq_ rfl rfl rfl
  | bl b => cases rx; cases b <;> cases c <;> exact eq_ rfl rfl rfl
  | int i => obtain ⟨t, rfl⟩ := rx; exact eq_ rfl rfl rfl
  | str x => obtain ⟨t, rfl⟩ := rx; exact eq_ rfl rfl rfl
  | byt x => obtain ⟨t, rfl⟩ := rx; exact eq_ rfl rfl rfl
  | flt x => obtain ⟨t, rfl⟩ := rx; exact eq_ rfl rfl rfl
  | ty n => cases rx; exact eq_ rfl rfl rfl
theorem r_isBl {x y : V} {H : Hp} {Q : VK} : rIsBl x y H Q = ∃ c : Bool, y = .bl c ∧ Q (.bl (decide (x = .bl c))) H := rfl
theorem mt_isidentifier : MtR X "str.isidentifier" (fun x xs H Q => ∃ a, x = .str a ∧ xs = [] ∧ True ∧ Q (.bl (Txt.isidentifier a)) H) :=
  mt0 (C := fun _ => True) (g := fun a => .bl (Txt.isidentifier a)) fun _ _ s _ _ h => PySem.SC.isidentifier (h _ s.toks rfl)
theorem pe_isidentifier {o : Expr} {to : TE} {apos pos : Pos} (ho : PE X o to) (hbase : attributeBase o "isidentifier" X.env (eval o X.env) = eval o X.env := by rfl) (hline : (apos.endLine == pos.line) = true := by rfl) :
    PE X (.Call (.Attribute o "isidentifier" apos) [] [] pos) (tM0 (fun x xs H Q => ∃ a, x = .str a ∧ xs = [] ∧ True ∧ Q (.bl (Txt.isidentifier a)) H) to) := pe_m0 F.slot_str_isidentifier F.type_str_isidentifier mt_isidentifier ho hbase hline
/-- what a class without an own __init__ must have to be made -/
structure MkP (K : PySem.W.Frag) (C : Addr) : Prop where
  makes : PySem.W.makesIn K C = true
  init : PySem.W.findIn K (.ref C) "__init__" = some (some (.builtin "object.__init__"))
  kp : PySem.W.keepIn K (.ref C) = true
def tPlain (C : Addr) : TE := fun _ H Q => ∀ x dx, H x = none → H dx = none → dx ≠ x → Q (.ref x) (upd (upd H dx (.own x)) x (.ins C dx []))
theorem run_plain {C : Addr} {pins : List (Addr × Obj)} {σ : L2.St} {H : Hp} {s : Shared} {Q : VK} (M : MkP X.K C) (I : Inv X pins σ H s)
    (h : ∀ x dx, H x = none → H dx = none → dx ≠ x → Q (.ref x) (upd (upd H dx (.own x)) x (.ins C dx []))) :
    wpAny (model X.prog X.w) X.A (call (.ref C) []) (EP X pins σ Q) X.xe s := by
  have hq := h (s.heap.objs.size + 1) s.heap.objs.size (I.hok.fresh (Nat.le_succ _)) (I.hok.fresh (Nat.le_refl _)) (Nat.ne_of_lt (Nat.lt_succ_self _))
  have I2 := Inv.made (C := C) I
  refine wpAny_call (make_map0 I.kIn M.makes M.init (fun self => PySem.W.Looks.of_pure (PySem.W.oi_bind _)) ?_)
  obtain ⟨hh, g, d, t, os⟩ := s
  obtain ⟨_, _, _, ho, _⟩ := I2.hok (hh.objs.size + 1) _ upd_same
  have t1 : PySem.W.Looks (model X.prog X.w) ((hh.push PySem.W.emptyDict).push (PySem.W.instObj C hh.objs.size)) (typeOf (.ref (hh.objs.size + 1))) (.ref C) := (PySem.W.Looks.ld ho).andThen .now
  refine codeAny_call_builtin PySem.W.oi_plain PySem.W.entry_oi (@PySem.W.check_slot (model X.prog X.w) _ _ _ "object.__init__" "object" "__init__" (.ref (hh.objs.size + 1)) [] [] _ PySem.W.oi_kind PySem.W.oi_split (t1.andThen (PySem.W.makes_of (M := model X.prog X.w) I2.kIn M.makes).top) (PySem.W.oi_args _) ?_)
  rw [PySem.W.oi_run]
  exact wpAny_pure ⟨rfl, ⟨V.ref (hh.objs.size + 1), _, I2, rfl, hq⟩⟩
theorem pe_plain {C : Addr} {x : Str} {p pos : Pos} (M : MkP X.K C) (hg : Gl X x) (hm : X.mg x = some (.ref C)) (hdb : (x == ("__debug__" : Str)) = false := by decide) : PE X (.Call (.Name x p) [] [] pos) (tPlain C) := by
  refine ⟨fun pins s σ H Q I h => ?_⟩
  refine wpAny_Call_Name_kw (ld_glob I hg hm ?_ hdb)
  exact PySem.W.callWith_K0 I.kIn M.kp (run_plain M I h)
theorem r_plain {C : Addr} {σ : L2.St} {H : Hp} {Q : VK} : tPlain C σ H Q = ∀ x dx, H x = none → H dx = none → dx ≠ x → Q (.ref x) (upd (upd H dx (.own x)) x (.ins C dx [])) := rfl
end

/-- what is known of the class Known: nothing that is handed in is one -/
structure KnownT (K : PySem.W.Frag) (mg : Str → Option Value) (C : Addr) : Prop where
  cI : ClsI K C
  g_Known : mg "Known" = some (.ref C)
  no : PySem.W.kitOne K (.type "list") (.ref C) = some false
def spNumberOf : Sp := fun vs H Q _ => ∃ (n : Int) (f : Str), vs = [.int n, .str f] ∧ 0 ≤ n ∧ n ≤ 2147483647 ∧ Q (.int n) H
def spBytesOf : Sp := fun vs H Q _ => ∃ (a : Addr) (f : Str) (ns : List Nat), vs = [.ref a, .str f] ∧ H a = some (.lst (vn ns)) ∧ (∀ n ∈ ns, n < 256) ∧ ∀ p H', H p = none → Same H H' → H' p = some (.tup (vn ns)) → Q (.ref p) H'
def spStringOf : Sp := fun vs H Q _ => ∃ f : Str, vs = [.str "f", .str f] ∧ Q (.str "f") H
def spStringsOf : Sp := fun vs H Q _ => ∃ (a : Addr) (f : Str), vs = [.ref a, .str f] ∧ H a = some (.lst []) ∧ ∀ p H', H p = none → Same H H' → H' p = some (.tup []) → Q (.ref p) H'
def spIsString : Sp := fun vs H Q _ => vs = [.str "f"] ∧ Q (.bl true) H
def spDepthOf : Sp := fun vs H Q _ => ∃ a : Addr, vs = [.ref a] ∧ H a = some (.lst []) ∧ ∀ H', Same H H' → Q (.int 1) H'
section
variable {P : Program} {w : World} {K : PySem.W.Frag} {mg : Str → Option Value} {base : Heap} {f : Addr} {fd : FuncData}
abbrev snumber_of : Stmt := top 15
theorem scnumber_of : FnScope ["value", "field"] ["value", "field"] (defScope snumber_of) := ⟨rfl, rfl, rfl, by decide +kernel, rfl, by decide +kernel, by decide +kernel⟩

abbrev sbytes_of : Stmt := top 16
theorem scbytes_of : FnScope ["row", "field", "value"] ["row", "field"] (defScope sbytes_of) := ⟨rfl, rfl, rfl, by decide +kernel, rfl, by decide +kernel, by decide +kernel⟩

abbrev sstring_of : Stmt := top 17
theorem scstring_of : FnScope ["value", "field"] ["value", "field"] (defScope sstring_of) := ⟨rfl, rfl, rfl, by decide +kernel, rfl, by decide +kernel, by decide +kernel⟩

abbrev sstrings_of : Stmt := top 18
theorem scstrings_of : FnScope ["row", "field", "value"] ["row", "field"] (defScope sstrings_of) := ⟨rfl, rfl, rfl, by decide +kernel, rfl, by decide +kernel, by decide +kernel⟩

abbrev sis_string : Stmt := top 19
theorem scis_string : FnScope ["value"] ["value"] (defScope sis_string) := ⟨rfl, rfl, rfl, by decide +kernel, rfl, by decide +kernel, by decide +kernel⟩

abbrev sdepth_of : Stmt := top 20
theorem scdepth_of : FnScope ["constants", "depth", "value"] ["constants"] (defScope sdepth_of) := ⟨rfl, rfl, rfl, by decide +kernel, rfl, by decide +kernel, by decide +kernel⟩

theorem ok_number_of {CC : Addr} (T : Txt mg) (I : CodeT K mg CC) (F : FnP K "number_of" "number_of" snumber_of f fd) : FnOk P w K mg base CX0 1 f fd ["value", "field"] spNumberOf := by
  refine F.ok scnumber_of (fun vs H Q E h => ?_) (fun cdv A outer s H vs Q E hr h => ?_)
  · obtain ⟨n, f, rfl, _⟩ := h
    rfl
  · obtain ⟨n, f, rfl, h0, h1, k⟩ := h
    refine ⟨_, PSs.nox (pss_cons (ps_if (PW.pt (pw_or (pt_not (pt_val (pe_callB (call_is_d I.cI) (by rfl) T.b_isinstance (by decide +kernel) (pa_cons (pv 0) (pa_cons (pe_bltn (v := .ty "int") (by rfl) T.b_int (by decide +kernel) rfl) pa_nil))))) (pw_or (pt_cmpR op_isB (pv 0) pe_bl (nomark _)) (pw_or (pt_cmpR op_isB (pv 0) pe_bl (nomark _)) (pw_or1 (pt_not (pt_chain op_le op_le pe_int (pv 0) (pe_gi T.g_GREATEST))))))))
    (pss_one ps_never)
    pss_nil)
  (pss_one (ps_ret (pv 0)))), ?_⟩
    show (_ : TS) _ [some (.int n), some (.str f)] H
    simp only [r_seq, r_next, r_brk, r_cont, r_asg, r_name, r_ret, r_retN, r_drop, r_ifs, r_never, r_var, r_c, r_op, r_un, r_if, r_tst, r_b, r_not, r_and, r_or, r_andV, r_orV, r_notV, r_nil, r_cons, r_tup, r_lst, r_cb, r_call, r_bm, r_bm0, r_sl, r_nopart, r_part, r_rev, r_gnil, r_gcons, r_gsub, r_par, r_aug, r_chain, r_I0, r_I, r_U, r_ixd, r_lend, r_tupd, r_listd, r_sld, r_app, r_ext, r_reverse, r_setl, r_cat, r_int1, r_eqS, r_neS, scal_ii, scal_bb, scal_ss, at0, at1, at2, sq_lst, sq_tup, isLst_lst, List.getElem?_cons_zero, List.getElem?_cons_succ, List.set_cons_zero, List.set_cons_succ, V.int.injEq, V.bl.injEq, V.ref.injEq, V.str.injEq, HO.lst.injEq, HO.tup.injEq, Option.some.injEq, exists_eq_left', exists_eq_left, List.cons.injEq, and_true, true_and, decide_eq_true_eq, reduceCtorEq, false_and, exists_false, or_false, false_or, exists_const, and_assoc, exists_and_left, List.append_nil, ix0, ix1, ix2, cm_mod, cdw1009, cdw2003, cdw7, cdw64, cdw2, cm104729, cm2, cm3, upd_same, List.length_cons, List.length_nil, Int.reduceLT, Int.reduceLE, Nat.reduceAdd, Nat.reduceLeDiff, Nat.reduceLT, Int.reduceToNat, r_for1, r_forL, r_forT, r_lcL, r_lc1, r_yes, r_gtupD, wipe_0, wipe_1, List.cons_append, List.nil_append, r_forS, r_ipI, ite_false, ite_true, Bool.not_true, Bool.not_false, decide_true, decide_false, r_isd, r_islt, cD_ty, cD_ref, tD_non, tD_bl, tD_int, tD_str, tD_ref, tH_lst, tH_tup, tH_dK, tH_ins, ki_self, ki_int_bool, ki_non_int, ki_str_int, ki_lt_lst, ki_lt_tup, r_fld, r_sfld, HO.ins.injEq, cx_K, h0, h1, r_isBl]
    exact k
theorem ok_is_string {CC : Addr} (T : Txt mg) (I : CodeT K mg CC) (F : FnP K "is_string" "is_string" sis_string f fd) : FnOk P w K mg base CX0 1 f fd ["value"] spIsString := by
  refine F.ok scis_string (fun vs H Q E h => ?_) (fun cdv A outer s H vs Q E hr h => ?_)
  · obtain ⟨rfl, _⟩ := h
    rfl
  · obtain ⟨rfl, k⟩ := h
    refine ⟨_, PSs.nox (pss_cons (ps_if (PW.pt (pw_or (pt_not (pt_val (pe_callB (call_is_d I.cI) (by rfl) T.b_isinstance (by decide +kernel) (pa_cons (pv 0) (pa_cons (pe_bltn (v := .ty "str") (by rfl) T.b_str (by decide +kernel) rfl) pa_nil))))) (pw_or1 (pt_not (pt_val (pe_isascii (pv 0)))))))
    (pss_one (ps_ret pe_bl))
    pss_nil)
  (pss_one (ps_ret (pe_or (pe_isidentifier (pv 0)) (pe_one (pe_and (pe_isprintable (pv 0)) (pe_one (pe_cmpR op_notInI (pe_gi T.g_BARRED) (pe_encode (pv 0)) (by rfl))))))))), ?_⟩
    show (_ : TS) _ [some (.str "f")] H
    simp only [r_seq, r_next, r_brk, r_cont, r_asg, r_name, r_ret, r_retN, r_drop, r_ifs, r_never, r_var, r_c, r_op, r_un, r_if, r_tst, r_b, r_not, r_and, r_or, r_andV, r_orV, r_notV, r_nil, r_cons, r_tup, r_lst, r_cb, r_call, r_bm, r_bm0, r_sl, r_nopart, r_part, r_rev, r_gnil, r_gcons, r_gsub, r_par, r_aug, r_chain, r_I0, r_I, r_U, r_ixd, r_lend, r_tupd, r_listd, r_sld, r_app, r_ext, r_reverse, r_setl, r_cat, r_int1, r_eqS, r_neS, scal_ii, scal_bb, scal_ss, at0, at1, at2, sq_lst, sq_tup, isLst_lst, List.getElem?_cons_zero, List.getElem?_cons_succ, List.set_cons_zero, List.set_cons_succ, V.int.injEq, V.bl.injEq, V.ref.injEq, V.str.injEq, HO.lst.injEq, HO.tup.injEq, Option.some.injEq, exists_eq_left', exists_eq_left, List.cons.injEq, and_true, true_and, decide_eq_true_eq, reduceCtorEq, false_and, exists_false, or_false, false_or, exists_const, and_assoc, exists_and_left, List.append_nil, ix0, ix1, ix2, cm_mod, cdw1009, cdw2003, cdw7, cdw64, cdw2, cm104729, cm2, cm3, upd_same, List.length_cons, List.length_nil, Int.reduceLT, Int.reduceLE, Nat.reduceAdd, Nat.reduceLeDiff, Nat.reduceLT, Int.reduceToNat, r_for1, r_forL, r_forT, r_lcL, r_lc1, r_yes, r_gtupD, wipe_0, wipe_1, List.cons_append, List.nil_append, r_forS, r_ipI, ite_false, ite_true, Bool.not_true, Bool.not_false, decide_true, decide_false, r_isd, r_islt, cD_ty, cD_ref, tD_non, tD_bl, tD_int, tD_str, tD_ref, tH_lst, tH_tup, tH_dK, tH_ins, ki_self, ki_int_bool, ki_non_int, ki_str_int, ki_lt_lst, ki_lt_tup, r_fld, r_sfld, HO.ins.injEq, cx_K, r_m0]
    have e1 : Txt.isascii (Str.ofString "f") = true := by decide +kernel
    have e2 : Txt.isidentifier (Str.ofString "f") = true := by decide +kernel
    rw [e1, if_neg (by decide), if_pos e2]
    exact ⟨⟨_, rfl⟩, ⟨_, rfl⟩, k⟩
theorem ok_string_of {CC : Addr} (T : Txt mg) (I : CodeT K mg CC) (F : FnP K "string_of" "string_of" sstring_of f fd) (C_is_string : Cal P w K mg base 1 "is_string" ["value"] spIsString) : FnOk P w K mg base CX0 2 f fd ["value", "field"] spStringOf := by
  refine F.ok scstring_of (fun vs H Q E h => ?_) (fun cdv A outer s H vs Q E hr h => ?_)
  · obtain ⟨f, rfl, _⟩ := h
    rfl
  · obtain ⟨f, rfl, k⟩ := h
    refine ⟨_, PSs.nox (pss_cons (ps_if (pt_not (pt_val (pe_cal C_is_string (hr.mono (by decide)) rfl (pa_cons (pv 0) pa_nil))))
    (pss_one ps_never)
    pss_nil)
  (pss_one (ps_ret (pv 0)))), ?_⟩
    show (_ : TS) _ [some (.str "f"), some (.str f)] H
    simp only [r_seq, r_next, r_brk, r_cont, r_asg, r_name, r_ret, r_retN, r_drop, r_ifs, r_never, r_var, r_c, r_op, r_un, r_if, r_tst, r_b, r_not, r_and, r_or, r_andV, r_orV, r_notV, r_nil, r_cons, r_tup, r_lst, r_cb, r_call, r_bm, r_bm0, r_sl, r_nopart, r_part, r_rev, r_gnil, r_gcons, r_gsub, r_par, r_aug, r_chain, r_I0, r_I, r_U, r_ixd, r_lend, r_tupd, r_listd, r_sld, r_app, r_ext, r_reverse, r_setl, r_cat, r_int1, r_eqS, r_neS, scal_ii, scal_bb, scal_ss, at0, at1, at2, sq_lst, sq_tup, isLst_lst, List.getElem?_cons_zero, List.getElem?_cons_succ, List.set_cons_zero, List.set_cons_succ, V.int.injEq, V.bl.injEq, V.ref.injEq, V.str.injEq, HO.lst.injEq, HO.tup.injEq, Option.some.injEq, exists_eq_left', exists_eq_left, List.cons.injEq, and_true, true_and, decide_eq_true_eq, reduceCtorEq, false_and, exists_false, or_false, false_or, exists_const, and_assoc, exists_and_left, List.append_nil, ix0, ix1, ix2, cm_mod, cdw1009, cdw2003, cdw7, cdw64, cdw2, cm104729, cm2, cm3, upd_same, List.length_cons, List.length_nil, Int.reduceLT, Int.reduceLE, Nat.reduceAdd, Nat.reduceLeDiff, Nat.reduceLT, Int.reduceToNat, r_for1, r_forL, r_forT, r_lcL, r_lc1, r_yes, r_gtupD, wipe_0, wipe_1, List.cons_append, List.nil_append, r_forS, r_ipI, ite_false, ite_true, Bool.not_true, Bool.not_false, decide_true, decide_false, r_isd, r_islt, cD_ty, cD_ref, tD_non, tD_bl, tD_int, tD_str, tD_ref, tH_lst, tH_tup, tH_dK, tH_ins, ki_self, ki_int_bool, ki_non_int, ki_str_int, ki_lt_lst, ki_lt_tup, r_fld, r_sfld, HO.ins.injEq, cx_K]
    exact ⟨rfl, true, rfl, k⟩
theorem ok_bytes_of {CC KC : Addr} (T : Txt mg) (I : CodeT K mg CC) (IK : KnownT K mg KC) (F : FnP K "bytes_of" "bytes_of" sbytes_of f fd) : FnOk P w K mg base CX0 1 f fd ["row", "field"] spBytesOf := by
  refine F.ok scbytes_of (fun vs H Q E h => ?_) (fun cdv A outer s H vs Q E hr h => ?_)
  · obtain ⟨a, f, ns, rfl, _⟩ := h
    rfl
  · obtain ⟨a, f, ns, rfl, ha, hb, k⟩ := h
    refine ⟨_, PSs.nox (pss_cons (ps_if (pt_val (pe_callB (call_is_d IK.cI) (by rfl) T.b_isinstance (by decide +kernel) (pa_cons (pv 0) (pa_cons (pe_glob (v := .ref _) rfl IK.g_Known rfl) pa_nil))))
    (pss_one (ps_ret (pe_callTy call_tuple_d (by rfl) T.b_tuple (by decide +kernel) (pa_cons (pe_fld (pv 0) rfl) pa_nil))))
    pss_nil)
  (pss_cons (ps_if (pt_not (pt_val (pe_callB (call_is_lt I.cI) (by rfl) T.b_isinstance (by decide +kernel) (pa_cons (pv 0) (pa_cons (pe_tup (pa_cons (pe_bltn (v := .ty "list") (by rfl) T.b_list (by decide +kernel) rfl) (pa_cons (pe_bltn (v := .ty "tuple") (by rfl) T.b_tuple (by decide +kernel) rfl) pa_nil))) pa_nil)))))
    (pss_one ps_never)
    pss_nil)
  (pss_cons (ps_for PassesOwn.never rfl (pi_list (pv 0)) (pg_name (i := 2) scbytes_of.nd rfl (Or.inl rfl))
    (pss_one (ps_if (PW.pt (pw_or (pt_not (pt_val (pe_callB (call_is_d I.cI) (by rfl) T.b_isinstance (by decide +kernel) (pa_cons (pv 2) (pa_cons (pe_bltn (v := .ty "int") (by rfl) T.b_int (by decide +kernel) rfl) pa_nil))))) (pw_or (pt_val (pe_callB (call_is_d I.cI) (by rfl) T.b_isinstance (by decide +kernel) (pa_cons (pv 2) (pa_cons (pe_bltn (v := .ty "bool") (by rfl) T.b_bool (by decide +kernel) rfl) pa_nil)))) (pw_or1 (pt_not (pt_chain op_le op_le pe_int (pv 2) pe_int))))))
    (pss_one ps_never)
    pss_nil)))
  (pss_one (ps_ret (pe_callTy call_tuple_d (by rfl) T.b_tuple (by decide +kernel) (pa_cons (pv 0) pa_nil))))))), ?_⟩
    show (_ : TS) _ [some (.ref a), some (.str f), none] H
    have nk := IK.no
    simp only [r_seq, r_next, r_brk, r_cont, r_asg, r_name, r_ret, r_retN, r_drop, r_ifs, r_never, r_var, r_c, r_op, r_un, r_if, r_tst, r_b, r_not, r_and, r_or, r_andV, r_orV, r_notV, r_nil, r_cons, r_tup, r_lst, r_cb, r_call, r_bm, r_bm0, r_sl, r_nopart, r_part, r_rev, r_gnil, r_gcons, r_gsub, r_par, r_aug, r_chain, r_I0, r_I, r_U, r_ixd, r_lend, r_tupd, r_listd, r_sld, r_app, r_ext, r_reverse, r_setl, r_cat, r_int1, r_eqS, r_neS, scal_ii, scal_bb, scal_ss, at0, at1, at2, sq_lst, sq_tup, isLst_lst, List.getElem?_cons_zero, List.getElem?_cons_succ, List.set_cons_zero, List.set_cons_succ, V.int.injEq, V.bl.injEq, V.ref.injEq, V.str.injEq, HO.lst.injEq, HO.tup.injEq, Option.some.injEq, exists_eq_left', exists_eq_left, List.cons.injEq, and_true, true_and, decide_eq_true_eq, reduceCtorEq, false_and, exists_false, or_false, false_or, exists_const, and_assoc, exists_and_left, List.append_nil, ix0, ix1, ix2, cm_mod, cdw1009, cdw2003, cdw7, cdw64, cdw2, cm104729, cm2, cm3, upd_same, List.length_cons, List.length_nil, Int.reduceLT, Int.reduceLE, Nat.reduceAdd, Nat.reduceLeDiff, Nat.reduceLT, Int.reduceToNat, r_for1, r_forL, r_forT, r_lcL, r_lc1, r_yes, r_gtupD, wipe_0, wipe_1, List.cons_append, List.nil_append, r_forS, r_ipI, ite_false, ite_true, Bool.not_true, Bool.not_false, decide_true, decide_false, r_isd, r_islt, cD_ty, cD_ref, tD_non, tD_bl, tD_int, tD_str, tD_ref, tH_lst, tH_tup, tH_dK, tH_ins, ki_self, ki_int_bool, ki_non_int, ki_str_int, ki_lt_lst, ki_lt_tup, r_fld, r_sfld, HO.ins.injEq, cx_K, ha, nk]
    refine ⟨szl (by decide), fun p hp => ?_⟩
    have pa := une (ne_new ha hp)
    have ha1 : L2.upd H p (.tup [.ty "list", .ty "tuple"]) a = some (.lst (vn ns)) := by rw [pa]; exact ha
    simp only [r_seq, r_next, r_brk, r_cont, r_asg, r_name, r_ret, r_retN, r_drop, r_ifs, r_never, r_var, r_c, r_op, r_un, r_if, r_tst, r_b, r_not, r_and, r_or, r_andV, r_orV, r_notV, r_nil, r_cons, r_tup, r_lst, r_cb, r_call, r_bm, r_bm0, r_sl, r_nopart, r_part, r_rev, r_gnil, r_gcons, r_gsub, r_par, r_aug, r_chain, r_I0, r_I, r_U, r_ixd, r_lend, r_tupd, r_listd, r_sld, r_app, r_ext, r_reverse, r_setl, r_cat, r_int1, r_eqS, r_neS, scal_ii, scal_bb, scal_ss, at0, at1, at2, sq_lst, sq_tup, isLst_lst, List.getElem?_cons_zero, List.getElem?_cons_succ, List.set_cons_zero, List.set_cons_succ, V.int.injEq, V.bl.injEq, V.ref.injEq, V.str.injEq, HO.lst.injEq, HO.tup.injEq, Option.some.injEq, exists_eq_left', exists_eq_left, List.cons.injEq, and_true, true_and, decide_eq_true_eq, reduceCtorEq, false_and, exists_false, or_false, false_or, exists_const, and_assoc, exists_and_left, List.append_nil, ix0, ix1, ix2, cm_mod, cdw1009, cdw2003, cdw7, cdw64, cdw2, cm104729, cm2, cm3, upd_same, List.length_cons, List.length_nil, Int.reduceLT, Int.reduceLE, Nat.reduceAdd, Nat.reduceLeDiff, Nat.reduceLT, Int.reduceToNat, r_for1, r_forL, r_forT, r_lcL, r_lc1, r_yes, r_gtupD, wipe_0, wipe_1, List.cons_append, List.nil_append, r_forS, r_ipI, ite_false, ite_true, Bool.not_true, Bool.not_false, decide_true, decide_false, r_isd, r_islt, cD_ty, cD_ref, tD_non, tD_bl, tD_int, tD_str, tD_ref, tH_lst, tH_tup, tH_dK, tH_ins, ki_self, ki_int_bool, ki_non_int, ki_str_int, ki_lt_lst, ki_lt_tup, r_fld, r_sfld, HO.ins.injEq, cx_K, ha1]
    refine ⟨⟨_, SqL.of ha1⟩, lp_list (xs := vn ns) (fun i σ H' => (∃ v, σ = [some (.ref a), some (.str f), v]) ∧ H' = L2.upd H p (.tup [.ty "list", .ty "tuple"])) ⟨⟨_, rfl⟩, rfl⟩ (fun i σ H' _ ⟨_, e⟩ => SqL.of (by rw [e]; exact ha1)) ?_ ?_⟩
    · rintro i x σ H' hx ⟨⟨v, rfl⟩, rfl⟩
      obtain ⟨n, hn, rfl⟩ : ∃ n ∈ ns, x = .int (n : Int) := by
        have := List.mem_of_getElem? hx
        unfold vn at this
        obtain ⟨n, hn, e⟩ := List.mem_map.mp this
        exact ⟨n, hn, e.symm⟩
      have hb1 := hb n hn
      have c1 : (0 : Int) ≤ (n : Int) := by omega
      have c2 : (n : Int) ≤ 255 := by omega
      simp only [r_seq, r_next, r_brk, r_cont, r_asg, r_name, r_ret, r_retN, r_drop, r_ifs, r_never, r_var, r_c, r_op, r_un, r_if, r_tst, r_b, r_not, r_and, r_or, r_andV, r_orV, r_notV, r_nil, r_cons, r_tup, r_lst, r_cb, r_call, r_bm, r_bm0, r_sl, r_nopart, r_part, r_rev, r_gnil, r_gcons, r_gsub, r_par, r_aug, r_chain, r_I0, r_I, r_U, r_ixd, r_lend, r_tupd, r_listd, r_sld, r_app, r_ext, r_reverse, r_setl, r_cat, r_int1, r_eqS, r_neS, scal_ii, scal_bb, scal_ss, at0, at1, at2, sq_lst, sq_tup, isLst_lst, List.getElem?_cons_zero, List.getElem?_cons_succ, List.set_cons_zero, List.set_cons_succ, V.int.injEq, V.bl.injEq, V.ref.injEq, V.str.injEq, HO.lst.injEq, HO.tup.injEq, Option.some.injEq, exists_eq_left', exists_eq_left, List.cons.injEq, and_true, true_and, decide_eq_true_eq, reduceCtorEq, false_and, exists_false, or_false, false_or, exists_const, and_assoc, exists_and_left, List.append_nil, ix0, ix1, ix2, cm_mod, cdw1009, cdw2003, cdw7, cdw64, cdw2, cm104729, cm2, cm3, upd_same, List.length_cons, List.length_nil, Int.reduceLT, Int.reduceLE, Nat.reduceAdd, Nat.reduceLeDiff, Nat.reduceLT, Int.reduceToNat, r_for1, r_forL, r_forT, r_lcL, r_lc1, r_yes, r_gtupD, wipe_0, wipe_1, List.cons_append, List.nil_append, r_forS, r_ipI, ite_false, ite_true, Bool.not_true, Bool.not_false, decide_true, decide_false, r_isd, r_islt, cD_ty, cD_ref, tD_non, tD_bl, tD_int, tD_str, tD_ref, tH_lst, tH_tup, tH_dK, tH_ins, ki_self, ki_int_bool, ki_non_int, ki_str_int, ki_lt_lst, ki_lt_tup, r_fld, r_sfld, HO.ins.injEq, cx_K, c1, c2]
      exact ⟨_, rfl⟩
    · rintro σ H' ⟨⟨v, rfl⟩, rfl⟩
      simp only [r_seq, r_next, r_brk, r_cont, r_asg, r_name, r_ret, r_retN, r_drop, r_ifs, r_never, r_var, r_c, r_op, r_un, r_if, r_tst, r_b, r_not, r_and, r_or, r_andV, r_orV, r_notV, r_nil, r_cons, r_tup, r_lst, r_cb, r_call, r_bm, r_bm0, r_sl, r_nopart, r_part, r_rev, r_gnil, r_gcons, r_gsub, r_par, r_aug, r_chain, r_I0, r_I, r_U, r_ixd, r_lend, r_tupd, r_listd, r_sld, r_app, r_ext, r_reverse, r_setl, r_cat, r_int1, r_eqS, r_neS, scal_ii, scal_bb, scal_ss, at0, at1, at2, sq_lst, sq_tup, isLst_lst, List.getElem?_cons_zero, List.getElem?_cons_succ, List.set_cons_zero, List.set_cons_succ, V.int.injEq, V.bl.injEq, V.ref.injEq, V.str.injEq, HO.lst.injEq, HO.tup.injEq, Option.some.injEq, exists_eq_left', exists_eq_left, List.cons.injEq, and_true, true_and, decide_eq_true_eq, reduceCtorEq, false_and, exists_false, or_false, false_or, exists_const, and_assoc, exists_and_left, List.append_nil, ix0, ix1, ix2, cm_mod, cdw1009, cdw2003, cdw7, cdw64, cdw2, cm104729, cm2, cm3, upd_same, List.length_cons, List.length_nil, Int.reduceLT, Int.reduceLE, Nat.reduceAdd, Nat.reduceLeDiff, Nat.reduceLT, Int.reduceToNat, r_for1, r_forL, r_forT, r_lcL, r_lc1, r_yes, r_gtupD, wipe_0, wipe_1, List.cons_append, List.nil_append, r_forS, r_ipI, ite_false, ite_true, Bool.not_true, Bool.not_false, decide_true, decide_false, r_isd, r_islt, cD_ty, cD_ref, tD_non, tD_bl, tD_int, tD_str, tD_ref, tH_lst, tH_tup, tH_dK, tH_ins, ki_self, ki_int_bool, ki_non_int, ki_str_int, ki_lt_lst, ki_lt_tup, r_fld, r_sfld, HO.ins.injEq, cx_K, ha1]
      exact fun l hl => k l _ (by rw [upd_at] at hl; split at hl; cases hl; exact hl) (Same.new' (Same.new' (Same.refl H) hp) hl) upd_same
theorem ok_strings_of {CC : Addr} (T : Txt mg) (I : CodeT K mg CC) (F : FnP K "strings_of" "strings_of" sstrings_of f fd) (C_is_string : Cal P w K mg base 1 "is_string" ["value"] spIsString) : FnOk P w K mg base CX0 2 f fd ["row", "field"] spStringsOf := by
  refine F.ok scstrings_of (fun vs H Q E h => ?_) (fun cdv A outer s H vs Q E hr h => ?_)
  · obtain ⟨a, f, rfl, _⟩ := h
    rfl
  · obtain ⟨a, f, rfl, ha, k⟩ := h
    refine ⟨_, PSs.nox (pss_cons (ps_if (pt_not (pt_val (pe_callB (call_is_lt I.cI) (by rfl) T.b_isinstance (by decide +kernel) (pa_cons (pv 0) (pa_cons (pe_tup (pa_cons (pe_bltn (v := .ty "list") (by rfl) T.b_list (by decide +kernel) rfl) (pa_cons (pe_bltn (v := .ty "tuple") (by rfl) T.b_tuple (by decide +kernel) rfl) pa_nil))) pa_nil)))))
    (pss_one ps_never)
    pss_nil)
  (pss_cons (ps_for PassesOwn.never rfl (pi_list (pv 0)) (pg_name (i := 2) scstrings_of.nd rfl (Or.inl rfl))
    (pss_one (ps_if (pt_not (pt_val (pe_cal C_is_string (hr.mono (by decide)) rfl (pa_cons (pv 2) pa_nil))))
    (pss_one ps_never)
    pss_nil)))
  (pss_one (ps_ret (pe_callTy call_tuple_d (by rfl) T.b_tuple (by decide +kernel) (pa_cons (pv 0) pa_nil)))))), ?_⟩
    show (_ : TS) _ [some (.ref a), some (.str f), none] H
    simp only [r_seq, r_next, r_brk, r_cont, r_asg, r_name, r_ret, r_retN, r_drop, r_ifs, r_never, r_var, r_c, r_op, r_un, r_if, r_tst, r_b, r_not, r_and, r_or, r_andV, r_orV, r_notV, r_nil, r_cons, r_tup, r_lst, r_cb, r_call, r_bm, r_bm0, r_sl, r_nopart, r_part, r_rev, r_gnil, r_gcons, r_gsub, r_par, r_aug, r_chain, r_I0, r_I, r_U, r_ixd, r_lend, r_tupd, r_listd, r_sld, r_app, r_ext, r_reverse, r_setl, r_cat, r_int1, r_eqS, r_neS, scal_ii, scal_bb, scal_ss, at0, at1, at2, sq_lst, sq_tup, isLst_lst, List.getElem?_cons_zero, List.getElem?_cons_succ, List.set_cons_zero, List.set_cons_succ, V.int.injEq, V.bl.injEq, V.ref.injEq, V.str.injEq, HO.lst.injEq, HO.tup.injEq, Option.some.injEq, exists_eq_left', exists_eq_left, List.cons.injEq, and_true, true_and, decide_eq_true_eq, reduceCtorEq, false_and, exists_false, or_false, false_or, exists_const, and_assoc, exists_and_left, List.append_nil, ix0, ix1, ix2, cm_mod, cdw1009, cdw2003, cdw7, cdw64, cdw2, cm104729, cm2, cm3, upd_same, List.length_cons, List.length_nil, Int.reduceLT, Int.reduceLE, Nat.reduceAdd, Nat.reduceLeDiff, Nat.reduceLT, Int.reduceToNat, r_for1, r_forL, r_forT, r_lcL, r_lc1, r_yes, r_gtupD, wipe_0, wipe_1, List.cons_append, List.nil_append, r_forS, r_ipI, ite_false, ite_true, Bool.not_true, Bool.not_false, decide_true, decide_false, r_isd, r_islt, cD_ty, cD_ref, tD_non, tD_bl, tD_int, tD_str, tD_ref, tH_lst, tH_tup, tH_dK, tH_ins, ki_self, ki_int_bool, ki_non_int, ki_str_int, ki_lt_lst, ki_lt_tup, r_fld, r_sfld, HO.ins.injEq, cx_K, ha]
    refine ⟨szl (by decide), fun p hp => ?_⟩
    have pa := une (ne_new ha hp)
    have ha1 : L2.upd H p (.tup [.ty "list", .ty "tuple"]) a = some (.lst []) := by rw [pa]; exact ha
    simp only [r_seq, r_next, r_brk, r_cont, r_asg, r_name, r_ret, r_retN, r_drop, r_ifs, r_never, r_var, r_c, r_op, r_un, r_if, r_tst, r_b, r_not, r_and, r_or, r_andV, r_orV, r_notV, r_nil, r_cons, r_tup, r_lst, r_cb, r_call, r_bm, r_bm0, r_sl, r_nopart, r_part, r_rev, r_gnil, r_gcons, r_gsub, r_par, r_aug, r_chain, r_I0, r_I, r_U, r_ixd, r_lend, r_tupd, r_listd, r_sld, r_app, r_ext, r_reverse, r_setl, r_cat, r_int1, r_eqS, r_neS, scal_ii, scal_bb, scal_ss, at0, at1, at2, sq_lst, sq_tup, isLst_lst, List.getElem?_cons_zero, List.getElem?_cons_succ, List.set_cons_zero, List.set_cons_succ, V.int.injEq, V.bl.injEq, V.ref.injEq, V.str.injEq, HO.lst.injEq, HO.tup.injEq, Option.some.injEq, exists_eq_left', exists_eq_left, List.cons.injEq, and_true, true_and, decide_eq_true_eq, reduceCtorEq, false_and, exists_false, or_false, false_or, exists_const, and_assoc, exists_and_left, List.append_nil, ix0, ix1, ix2, cm_mod, cdw1009, cdw2003, cdw7, cdw64, cdw2, cm104729, cm2, cm3, upd_same, List.length_cons, List.length_nil, Int.reduceLT, Int.reduceLE, Nat.reduceAdd, Nat.reduceLeDiff, Nat.reduceLT, Int.reduceToNat, r_for1, r_forL, r_forT, r_lcL, r_lc1, r_yes, r_gtupD, wipe_0, wipe_1, List.cons_append, List.nil_append, r_forS, r_ipI, ite_false, ite_true, Bool.not_true, Bool.not_false, decide_true, decide_false, r_isd, r_islt, cD_ty, cD_ref, tD_non, tD_bl, tD_int, tD_str, tD_ref, tH_lst, tH_tup, tH_dK, tH_ins, ki_self, ki_int_bool, ki_non_int, ki_str_int, ki_lt_lst, ki_lt_tup, r_fld, r_sfld, HO.ins.injEq, cx_K, ha1]
    refine ⟨⟨_, SqL.of ha1⟩, lp_nil (SqL.of ha1) ?_⟩
    simp only [r_seq, r_next, r_brk, r_cont, r_asg, r_name, r_ret, r_retN, r_drop, r_ifs, r_never, r_var, r_c, r_op, r_un, r_if, r_tst, r_b, r_not, r_and, r_or, r_andV, r_orV, r_notV, r_nil, r_cons, r_tup, r_lst, r_cb, r_call, r_bm, r_bm0, r_sl, r_nopart, r_part, r_rev, r_gnil, r_gcons, r_gsub, r_par, r_aug, r_chain, r_I0, r_I, r_U, r_ixd, r_lend, r_tupd, r_listd, r_sld, r_app, r_ext, r_reverse, r_setl, r_cat, r_int1, r_eqS, r_neS, scal_ii, scal_bb, scal_ss, at0, at1, at2, sq_lst, sq_tup, isLst_lst, List.getElem?_cons_zero, List.getElem?_cons_succ, List.set_cons_zero, List.set_cons_succ, V.int.injEq, V.bl.injEq, V.ref.injEq, V.str.injEq, HO.lst.injEq, HO.tup.injEq, Option.some.injEq, exists_eq_left', exists_eq_left, List.cons.injEq, and_true, true_and, decide_eq_true_eq, reduceCtorEq, false_and, exists_false, or_false, false_or, exists_const, and_assoc, exists_and_left, List.append_nil, ix0, ix1, ix2, cm_mod, cdw1009, cdw2003, cdw7, cdw64, cdw2, cm104729, cm2, cm3, upd_same, List.length_cons, List.length_nil, Int.reduceLT, Int.reduceLE, Nat.reduceAdd, Nat.reduceLeDiff, Nat.reduceLT, Int.reduceToNat, r_for1, r_forL, r_forT, r_lcL, r_lc1, r_yes, r_gtupD, wipe_0, wipe_1, List.cons_append, List.nil_append, r_forS, r_ipI, ite_false, ite_true, Bool.not_true, Bool.not_false, decide_true, decide_false, r_isd, r_islt, cD_ty, cD_ref, tD_non, tD_bl, tD_int, tD_str, tD_ref, tH_lst, tH_tup, tH_dK, tH_ins, ki_self, ki_int_bool, ki_non_int, ki_str_int, ki_lt_lst, ki_lt_tup, r_fld, r_sfld, HO.ins.injEq, cx_K, ha1]
    exact fun l hl => k l _ (by rw [upd_at] at hl; split at hl; cases hl; exact hl) (Same.new' (Same.new' (Same.refl H) hp) hl) upd_same
theorem ok_depth_of {CC : Addr} (T : Txt mg) (I : CodeT K mg CC) (F : FnP K "depth_of" "depth_of" sdepth_of f fd) : FnOk P w K mg base CX0 1 f fd ["constants"] spDepthOf := by
  refine F.ok scdepth_of (fun vs H Q E h => ?_) (fun cdv A outer s H vs Q E hr h => ?_)
  · obtain ⟨a, rfl, _⟩ := h
    rfl
  · obtain ⟨a, rfl, ha, k⟩ := h
    refine ⟨_, PSs.nox (pss_cons (ps_if (pt_not (pt_val (pe_callB (call_is_lt I.cI) (by rfl) T.b_isinstance (by decide +kernel) (pa_cons (pv 0) (pa_cons (pe_tup (pa_cons (pe_bltn (v := .ty "list") (by rfl) T.b_list (by decide +kernel) rfl) (pa_cons (pe_bltn (v := .ty "tuple") (by rfl) T.b_tuple (by decide +kernel) rfl) pa_nil))) pa_nil)))))
    (pss_one ps_never)
    pss_nil)
  (pss_cons (ps_set (i := 1) scdepth_of.nd rfl (Or.inl rfl) pe_int)
  (pss_cons (ps_for PassesOwn.never rfl (pi_list (pv 0)) (pg_name (i := 2) scdepth_of.nd rfl (Or.inl rfl))
    (pss_one ps_never))
  (pss_cons (ps_if (pt_cmpR op_gt (pv 1) (pe_gi T.g_DEEPEST) (nomark _))
    (pss_one ps_never)
    pss_nil)
  (pss_one (ps_ret (pv 1))))))), ?_⟩
    show (_ : TS) _ [some (.ref a), none, none] H
    simp only [r_seq, r_next, r_brk, r_cont, r_asg, r_name, r_ret, r_retN, r_drop, r_ifs, r_never, r_var, r_c, r_op, r_un, r_if, r_tst, r_b, r_not, r_and, r_or, r_andV, r_orV, r_notV, r_nil, r_cons, r_tup, r_lst, r_cb, r_call, r_bm, r_bm0, r_sl, r_nopart, r_part, r_rev, r_gnil, r_gcons, r_gsub, r_par, r_aug, r_chain, r_I0, r_I, r_U, r_ixd, r_lend, r_tupd, r_listd, r_sld, r_app, r_ext, r_reverse, r_setl, r_cat, r_int1, r_eqS, r_neS, scal_ii, scal_bb, scal_ss, at0, at1, at2, sq_lst, sq_tup, isLst_lst, List.getElem?_cons_zero, List.getElem?_cons_succ, List.set_cons_zero, List.set_cons_succ, V.int.injEq, V.bl.injEq, V.ref.injEq, V.str.injEq, HO.lst.injEq, HO.tup.injEq, Option.some.injEq, exists_eq_left', exists_eq_left, List.cons.injEq, and_true, true_and, decide_eq_true_eq, reduceCtorEq, false_and, exists_false, or_false, false_or, exists_const, and_assoc, exists_and_left, List.append_nil, ix0, ix1, ix2, cm_mod, cdw1009, cdw2003, cdw7, cdw64, cdw2, cm104729, cm2, cm3, upd_same, List.length_cons, List.length_nil, Int.reduceLT, Int.reduceLE, Nat.reduceAdd, Nat.reduceLeDiff, Nat.reduceLT, Int.reduceToNat, r_for1, r_forL, r_forT, r_lcL, r_lc1, r_yes, r_gtupD, wipe_0, wipe_1, List.cons_append, List.nil_append, r_forS, r_ipI, ite_false, ite_true, Bool.not_true, Bool.not_false, decide_true, decide_false, r_isd, r_islt, cD_ty, cD_ref, tD_non, tD_bl, tD_int, tD_str, tD_ref, tH_lst, tH_tup, tH_dK, tH_ins, ki_self, ki_int_bool, ki_non_int, ki_str_int, ki_lt_lst, ki_lt_tup, r_fld, r_sfld, HO.ins.injEq, cx_K, ha]
    refine ⟨szl (by decide), fun p hp => ?_⟩
    have pa := une (ne_new ha hp)
    have ha1 : L2.upd H p (.tup [.ty "list", .ty "tuple"]) a = some (.lst []) := by rw [pa]; exact ha
    simp only [r_seq, r_next, r_brk, r_cont, r_asg, r_name, r_ret, r_retN, r_drop, r_ifs, r_never, r_var, r_c, r_op, r_un, r_if, r_tst, r_b, r_not, r_and, r_or, r_andV, r_orV, r_notV, r_nil, r_cons, r_tup, r_lst, r_cb, r_call, r_bm, r_bm0, r_sl, r_nopart, r_part, r_rev, r_gnil, r_gcons, r_gsub, r_par, r_aug, r_chain, r_I0, r_I, r_U, r_ixd, r_lend, r_tupd, r_listd, r_sld, r_app, r_ext, r_reverse, r_setl, r_cat, r_int1, r_eqS, r_neS, scal_ii, scal_bb, scal_ss, at0, at1, at2, sq_lst, sq_tup, isLst_lst, List.getElem?_cons_zero, List.getElem?_cons_succ, List.set_cons_zero, List.set_cons_succ, V.int.injEq, V.bl.injEq, V.ref.injEq, V.str.injEq, HO.lst.injEq, HO.tup.injEq, Option.some.injEq, exists_eq_left', exists_eq_left, List.cons.injEq, and_true, true_and, decide_eq_true_eq, reduceCtorEq, false_and, exists_false, or_false, false_or, exists_const, and_assoc, exists_and_left, List.append_nil, ix0, ix1, ix2, cm_mod, cdw1009, cdw2003, cdw7, cdw64, cdw2, cm104729, cm2, cm3, upd_same, List.length_cons, List.length_nil, Int.reduceLT, Int.reduceLE, Nat.reduceAdd, Nat.reduceLeDiff, Nat.reduceLT, Int.reduceToNat, r_for1, r_forL, r_forT, r_lcL, r_lc1, r_yes, r_gtupD, wipe_0, wipe_1, List.cons_append, List.nil_append, r_forS, r_ipI, ite_false, ite_true, Bool.not_true, Bool.not_false, decide_true, decide_false, r_isd, r_islt, cD_ty, cD_ref, tD_non, tD_bl, tD_int, tD_str, tD_ref, tH_lst, tH_tup, tH_dK, tH_ins, ki_self, ki_int_bool, ki_non_int, ki_str_int, ki_lt_lst, ki_lt_tup, r_fld, r_sfld, HO.ins.injEq, cx_K, ha1]
    refine ⟨⟨_, SqL.of ha1⟩, lp_nil (SqL.of ha1) ?_⟩
    simp only [r_seq, r_next, r_brk, r_cont, r_asg, r_name, r_ret, r_retN, r_drop, r_ifs, r_never, r_var, r_c, r_op, r_un, r_if, r_tst, r_b, r_not, r_and, r_or, r_andV, r_orV, r_notV, r_nil, r_cons, r_tup, r_lst, r_cb, r_call, r_bm, r_bm0, r_sl, r_nopart, r_part, r_rev, r_gnil, r_gcons, r_gsub, r_par, r_aug, r_chain, r_I0, r_I, r_U, r_ixd, r_lend, r_tupd, r_listd, r_sld, r_app, r_ext, r_reverse, r_setl, r_cat, r_int1, r_eqS, r_neS, scal_ii, scal_bb, scal_ss, at0, at1, at2, sq_lst, sq_tup, isLst_lst, List.getElem?_cons_zero, List.getElem?_cons_succ, List.set_cons_zero, List.set_cons_succ, V.int.injEq, V.bl.injEq, V.ref.injEq, V.str.injEq, HO.lst.injEq, HO.tup.injEq, Option.some.injEq, exists_eq_left', exists_eq_left, List.cons.injEq, and_true, true_and, decide_eq_true_eq, reduceCtorEq, false_and, exists_false, or_false, false_or, exists_const, and_assoc, exists_and_left, List.append_nil, ix0, ix1, ix2, cm_mod, cdw1009, cdw2003, cdw7, cdw64, cdw2, cm104729, cm2, cm3, upd_same, List.length_cons, List.length_nil, Int.reduceLT, Int.reduceLE, Nat.reduceAdd, Nat.reduceLeDiff, Nat.reduceLT, Int.reduceToNat, r_for1, r_forL, r_forT, r_lcL, r_lc1, r_yes, r_gtupD, wipe_0, wipe_1, List.cons_append, List.nil_append, r_forS, r_ipI, ite_false, ite_true, Bool.not_true, Bool.not_false, decide_true, decide_false, r_isd, r_islt, cD_ty, cD_ref, tD_non, tD_bl, tD_int, tD_str, tD_ref, tH_lst, tH_tup, tH_dK, tH_ins, ki_self, ki_int_bool, ki_non_int, ki_str_int, ki_lt_lst, ki_lt_tup, r_fld, r_sfld, HO.ins.injEq, cx_K]
    exact k _ (Same.new' (Same.refl H) hp)
end
end C49

set_option maxHeartbeats 2000000
namespace C49
open PySem PySem.Spec PyProof.Rows L2
/-- a method of a class of the text -/
def inClass (s : Stmt) (j : Nat) : Stmt := match s with
  | .ClassDef _ _ _ body _ _ _ _ _ _ _ => body.getD j (.Pass ⟨0, 0, 0, 0⟩)
  | _ => .Pass ⟨0, 0, 0, 0⟩
theorem lnF {f : Str} {v : V} {fs : List (Str × V)} {n : Nat} (h : fs.length ≤ n) : (putF f v fs).length ≤ n + 1 := Nat.le_trans (length_putF f v fs) (Nat.succ_le_succ h)
/-- one statement, what follows being kept closed -/
theorem seq_intro {t u : TS} {D : Ends} {σ : L2.St} {H : Hp} (h : ∀ N : L2.St → Hp → Prop, (∀ σ' H', N σ' H' = u D σ' H') → t { D with nx := N } σ H) : tSeq t u D σ H := h _ fun _ _ => rfl
/-- an instance that is being filled: all else stays, and what is known of its fields -/
def Ini (CC c dx : Addr) (H0 : Hp) (L : List (Str × V)) (Hk : Hp) : Prop := Keep c H0 Hk ∧ ∃ fs, Hk c = some (.ins CC dx fs) ∧ fs.length ≤ L.length ∧ ∀ f v, L.lookup f = some v → fs.lookup f = some v
theorem Ini.store {CC c dx : Addr} {H0 Hk : Hp} {L fs : List (Str × V)} {f : Str} {y : V} (kk : Keep c H0 Hk) (hl : fs.length ≤ L.length) (lk : ∀ f v, L.lookup f = some v → fs.lookup f = some v) :
    Ini CC c dx H0 ((f, y) :: L) (L2.upd Hk c (.ins CC dx (putF f y fs))) := by
  refine ⟨Keep.upd kk, _, upd_same, lnF hl, fun g v h => ?_⟩
  rw [lookup_putF]
  rw [List.lookup_cons] at h
  by_cases e : g = f
  · subst e
    rw [beq_self_eq_true] at h
    rw [if_pos rfl]
    exact h
  · rw [if_neg e]
    rw [show (g == f) = false from beq_eq_false_iff_ne.mpr e] at h
    exact lk g v h
theorem Ini.same {CC c dx : Addr} {H0 Hk H' : Hp} {L : List (Str × V)} (I : Ini CC c dx H0 L Hk) (s : Same Hk H') : Ini CC c dx H0 L H' := by
  obtain ⟨kk, fs, hc, hl, lk⟩ := I
  exact ⟨kk.trans (Keep.same s), fs, s c _ hc, hl, lk⟩
section
variable {H : Hp} {Q : VK} {E : XK}
theorem r_spN {n : Int} {f : Str} : spNumberOf [.int n, .str f] H Q E = (0 ≤ n ∧ n ≤ 2147483647 ∧ Q (.int n) H) := propext ⟨fun ⟨_, _, e, h⟩ => by cases e; exact h, fun h => ⟨_, _, rfl, h⟩⟩
theorem r_spS {f : Str} : spStringOf [.str "f", .str f] H Q E = Q (.str "f") H := propext ⟨fun ⟨_, e, h⟩ => by cases e; exact h, fun h => ⟨_, rfl, h⟩⟩
theorem r_spB {a : Addr} {f : Str} : spBytesOf [.ref a, .str f] H Q E = ∃ ns, H a = some (.lst (vn ns)) ∧ (∀ n ∈ ns, n < 256) ∧ ∀ p H', H p = none → Same H H' → H' p = some (.tup (vn ns)) → Q (.ref p) H' := propext ⟨fun ⟨_, _, ns, e, h⟩ => by cases e; exact ⟨ns, h⟩, fun ⟨ns, h⟩ => ⟨_, _, ns, rfl, h⟩⟩
theorem r_spSs {a : Addr} {f : Str} : spStringsOf [.ref a, .str f] H Q E = (H a = some (.lst []) ∧ ∀ p H', H p = none → Same H H' → H' p = some (.tup []) → Q (.ref p) H') := propext ⟨fun ⟨_, _, e, h⟩ => by cases e; exact h, fun h => ⟨_, _, rfl, h⟩⟩
theorem r_spD {a : Addr} : spDepthOf [.ref a] H Q E = (H a = some (.lst []) ∧ ∀ H', Same H H' → Q (.int 1) H') := propext ⟨fun ⟨_, e, h⟩ => by cases e; exact h, fun h => ⟨_, rfl, h⟩⟩
end
/-- a Code of which the law sees no more than this -/
def CodeAt (CC : Addr) (H : Hp) (c : Addr) (ds ls gs : List Nat) (first : Int) : Prop := ∃ (dx : Addr) (fs : List (Str × V)) (u v t : Addr), H c = some (.ins CC dx fs) ∧ fs.lookup ("code" : Str) = some (.ref u) ∧ H u = some (.tup (vn ds)) ∧
  fs.lookup ("line" : Str) = some (.int first) ∧ fs.lookup ("lines" : Str) = some (.ref v) ∧ H v = some (.tup (vn ls)) ∧ fs.lookup ("handlers" : Str) = some (.ref t) ∧ H t = some (.tup (vn gs))
def spCodeInit (CC : Addr) : Sp := fun vs H Q _ => ∃ (c dx d cs nm sl kd ln gd : Addr) (ds ls gs : List Nat) (first : Int),
  vs = [.ref c, .int 0, .int 0, .int 1, .int 0, .ref d, .ref cs, .ref nm, .ref sl, .ref kd, .str "f", .str "f", .int first, .ref ln, .ref gd] ∧ H c = some (.ins CC dx []) ∧
  H d = some (.lst (vn ds)) ∧ H cs = some (.lst []) ∧ H nm = some (.lst []) ∧ H sl = some (.lst []) ∧ H kd = some (.lst []) ∧ H ln = some (.lst (vn ls)) ∧ H gd = some (.lst (vn gs)) ∧
  (∀ n ∈ ds, n < 256) ∧ (∀ n ∈ ls, n < 256) ∧ (∀ n ∈ gs, n < 256) ∧ 0 ≤ first ∧ first ≤ 2147483647 ∧ ∀ H', Keep c H H' → CodeAt CC H' c ds ls gs first → Q .non H'
section
variable {P : Program} {w : World} {K : PySem.W.Frag} {mg : Str → Option Value} {base : Heap} {f : Addr} {fd : FuncData}
abbrev sCode_init : Stmt := inClass (top 12) 0
theorem scCode_init : FnScope ["self", "argcount", "onlycount", "stacksize", "flags", "code", "constants", "names", "slots", "kinds", "name", "path", "line", "lines", "handlers"] ["self", "argcount", "onlycount", "stacksize", "flags", "code", "constants", "names", "slots", "kinds", "name", "path", "line", "lines", "handlers"] (defScope sCode_init) := ⟨rfl, rfl, rfl, by decide +kernel, rfl, by decide +kernel, by decide +kernel⟩

theorem ok_Code_init {CC MM : Addr} (T : Txt mg) (I : CodeT K mg CC) (F : FnP K "__init__" "Code.__init__" sCode_init f fd) (C_number_of : Cal P w K mg base 1 "number_of" ["value", "field"] spNumberOf) (C_bytes_of : Cal P w K mg base 1 "bytes_of" ["row", "field"] spBytesOf)
    (C_string_of : Cal P w K mg base 2 "string_of" ["value", "field"] spStringOf) (C_strings_of : Cal P w K mg base 2 "strings_of" ["row", "field"] spStringsOf) (C_depth_of : Cal P w K mg base 1 "depth_of" ["constants"] spDepthOf) (PM : MkP K MM) (gM : mg "Mark" = some (.ref MM)) :
    FnOk P w K mg base CX0 3 f fd ["self", "argcount", "onlycount", "stacksize", "flags", "code", "constants", "names", "slots", "kinds", "name", "path", "line", "lines", "handlers"] (spCodeInit CC) := by
  refine F.ok scCode_init (fun vs H Q E h => ?_) (fun cdv A outer s H vs Q E hr h => ?_)
  · obtain ⟨c, dx, d, cs, nm, sl, kd, ln, gd, ds, ls, gs, first, rfl, _⟩ := h
    rfl
  · obtain ⟨c, dx, d, cs, nm, sl, kd, ln, gd, ds, ls, gs, first, rfl, hc, a0, a1, a2, a3, a4, a5, a6, bd, bl, bg, f0, f1, k⟩ := h
    refine ⟨_, PSs.nox (pss_cons (ps_fld (pv 0) (pe_cal C_number_of (hr.mono (by decide)) rfl (pa_cons (pv 1) (pa_cons pe_str pa_nil))) rfl)
  (pss_cons (ps_fld (pv 0) (pe_cal C_number_of (hr.mono (by decide)) rfl (pa_cons (pv 2) (pa_cons pe_str pa_nil))) rfl)
  (pss_cons (ps_fld (pv 0) (pe_cal C_number_of (hr.mono (by decide)) rfl (pa_cons (pv 3) (pa_cons pe_str pa_nil))) rfl)
  (pss_cons (ps_fld (pv 0) (pe_cal C_number_of (hr.mono (by decide)) rfl (pa_cons (pv 4) (pa_cons pe_str pa_nil))) rfl)
  (pss_cons (ps_fld (pv 0) (pe_cal C_bytes_of (hr.mono (by decide)) rfl (pa_cons (pv 5) (pa_cons pe_str pa_nil))) rfl)
  (pss_cons (ps_fld (pv 0) (pe_cal C_depth_of (hr.mono (by decide)) rfl (pa_cons (pv 6) pa_nil)) rfl)
  (pss_cons (ps_fld (pv 0) (pe_callTy call_tuple_d (by rfl) T.b_tuple (by decide +kernel) (pa_cons (pv 6) pa_nil)) rfl)
  (pss_cons (ps_fld (pv 0) (pe_cal C_strings_of (hr.mono (by decide)) rfl (pa_cons (pv 7) (pa_cons pe_str pa_nil))) rfl)
  (pss_cons (ps_fld (pv 0) (pe_cal C_strings_of (hr.mono (by decide)) rfl (pa_cons (pv 8) (pa_cons pe_str pa_nil))) rfl)
  (pss_cons (ps_fld (pv 0) (pe_cal C_bytes_of (hr.mono (by decide)) rfl (pa_cons (pv 9) (pa_cons pe_str pa_nil))) rfl)
  (pss_cons (ps_if (pt_cmpR op_ne (pe_callB call_len_d (by rfl) T.b_len (by decide +kernel) (pa_cons (pe_fld (pv 0) rfl) pa_nil)) (pe_callB call_len_d (by rfl) T.b_len (by decide +kernel) (pa_cons (pe_fld (pv 0) rfl) pa_nil)) (nomark _))
    (pss_one ps_never)
    pss_nil)
  (pss_cons (ps_fld (pv 0) (pe_cal C_string_of (hr.mono (by decide)) rfl (pa_cons (pv 10) (pa_cons pe_str pa_nil))) rfl)
  (pss_cons (ps_fld (pv 0) (pe_cal C_string_of (hr.mono (by decide)) rfl (pa_cons (pv 11) (pa_cons pe_str pa_nil))) rfl)
  (pss_cons (ps_fld (pv 0) (pe_cal C_number_of (hr.mono (by decide)) rfl (pa_cons (pv 12) (pa_cons pe_str pa_nil))) rfl)
  (pss_cons (ps_fld (pv 0) (pe_cal C_bytes_of (hr.mono (by decide)) rfl (pa_cons (pv 13) (pa_cons pe_str pa_nil))) rfl)
  (pss_cons (ps_fld (pv 0) (pe_cal C_bytes_of (hr.mono (by decide)) rfl (pa_cons (pv 14) (pa_cons pe_str pa_nil))) rfl)
  (pss_one (ps_fld (pv 0) (pe_plain PM rfl gM) rfl)))))))))))))))))), ?_⟩
    show (_ : TS) _ [some (.ref c), some (.int 0), some (.int 0), some (.int 1), some (.int 0), some (.ref d), some (.ref cs), some (.ref nm), some (.ref sl), some (.ref kd), some (.str "f"), some (.str "f"), some (.int first), some (.ref ln), some (.ref gd)] H
    have cl := I.cI.cl
    have n0 := eq_true (I.na "argcount" (by decide))
    have n1 := eq_true (I.na "onlycount" (by decide))
    have n2 := eq_true (I.na "stacksize" (by decide))
    have n3 := eq_true (I.na "flags" (by decide))
    have n4 := eq_true (I.na "code" (by decide))
    have n5 := eq_true (I.na "depth" (by decide))
    have n6 := eq_true (I.na "constants" (by decide))
    have n7 := eq_true (I.na "names" (by decide))
    have n8 := eq_true (I.na "slots" (by decide))
    have n9 := eq_true (I.na "kinds" (by decide))
    have n10 := eq_true (I.na "name" (by decide))
    have n11 := eq_true (I.na "path" (by decide))
    have n12 := eq_true (I.na "line" (by decide))
    have n13 := eq_true (I.na "lines" (by decide))
    have n14 := eq_true (I.na "handlers" (by decide))
    have n15 := eq_true (I.na "identity" (by decide))
    have z0 : d ≠ c := by rintro rfl; rw [a0] at hc; cases hc
    have z1 : cs ≠ c := by rintro rfl; rw [a1] at hc; cases hc
    have z2 : nm ≠ c := by rintro rfl; rw [a2] at hc; cases hc
    have z3 : sl ≠ c := by rintro rfl; rw [a3] at hc; cases hc
    have z4 : kd ≠ c := by rintro rfl; rw [a4] at hc; cases hc
    have z5 : ln ≠ c := by rintro rfl; rw [a5] at hc; cases hc
    have z6 : gd ≠ c := by rintro rfl; rw [a6] at hc; cases hc
    have i0 : Ini CC c dx H [] H := ⟨Keep.refl c H, [], hc, Nat.le_refl _, fun f v h => by cases h⟩
    -- argcount
    refine seq_intro fun N e => ?_
    obtain ⟨kk, fs, hc, hl, lk⟩ := i0
    have l0 : fs.length < 1000 := Nat.lt_of_le_of_lt hl (by simp only [List.length_cons, List.length_nil]; decide)
    simp only [r_seq, r_next, r_brk, r_cont, r_asg, r_name, r_ret, r_retN, r_drop, r_ifs, r_never, r_var, r_c, r_op, r_un, r_if, r_tst, r_b, r_not, r_and, r_or, r_andV, r_orV, r_notV, r_nil, r_cons, r_tup, r_lst, r_cb, r_call, r_bm, r_bm0, r_sl, r_nopart, r_part, r_rev, r_gnil, r_gcons, r_gsub, r_par, r_aug, r_chain, r_I0, r_I, r_U, r_ixd, r_lend, r_tupd, r_listd, r_sld, r_app, r_ext, r_reverse, r_setl, r_cat, r_int1, r_eqS, r_neS, scal_ii, scal_bb, scal_ss, at0, at1, at2, sq_lst, sq_tup, isLst_lst, List.getElem?_cons_zero, List.getElem?_cons_succ, List.set_cons_zero, List.set_cons_succ, V.int.injEq, V.bl.injEq, V.ref.injEq, V.str.injEq, HO.lst.injEq, HO.tup.injEq, Option.some.injEq, exists_eq_left', exists_eq_left, List.cons.injEq, and_true, true_and, decide_eq_true_eq, reduceCtorEq, false_and, exists_false, or_false, false_or, exists_const, and_assoc, exists_and_left, List.append_nil, ix0, ix1, ix2, cm_mod, cdw1009, cdw2003, cdw7, cdw64, cdw2, cm104729, cm2, cm3, upd_same, List.length_cons, List.length_nil, Int.reduceLT, Int.reduceLE, Nat.reduceAdd, Nat.reduceLeDiff, Nat.reduceLT, Int.reduceToNat, r_for1, r_forL, r_forT, r_lcL, r_lc1, r_yes, r_gtupD, wipe_0, wipe_1, List.cons_append, List.nil_append, r_forS, r_ipI, ite_false, ite_true, Bool.not_true, Bool.not_false, decide_true, decide_false, r_isd, r_islt, cD_ty, cD_ref, tD_non, tD_bl, tD_int, tD_str, tD_ref, tH_lst, tH_tup, tH_dK, tH_ins, ki_self, ki_int_bool, ki_non_int, ki_str_int, ki_lt_lst, ki_lt_tup, r_fld, r_sfld, HO.ins.injEq, cx_K, r_spN, r_spS, hc, n0, l0, cl, f0, f1, (une z0), (une z1), (une z2), (une z3), (une z4), (une z5), (une z6)]
    rw [e]
    have i1 := Ini.store (CC := CC) (dx := dx) (f := "argcount") (y := .int 0) kk hl lk
    clear hc e N l0
    generalize L2.upd H c (.ins CC dx (putF "argcount" (.int 0) fs)) = H1 at i1 ⊢
    clear kk hl lk fs
    -- onlycount
    refine seq_intro fun N e => ?_
    obtain ⟨kk, fs, hc, hl, lk⟩ := i1
    have l0 : fs.length < 1000 := Nat.lt_of_le_of_lt hl (by simp only [List.length_cons, List.length_nil]; decide)
    simp only [r_seq, r_next, r_brk, r_cont, r_asg, r_name, r_ret, r_retN, r_drop, r_ifs, r_never, r_var, r_c, r_op, r_un, r_if, r_tst, r_b, r_not, r_and, r_or, r_andV, r_orV, r_notV, r_nil, r_cons, r_tup, r_lst, r_cb, r_call, r_bm, r_bm0, r_sl, r_nopart, r_part, r_rev, r_gnil, r_gcons, r_gsub, r_par, r_aug, r_chain, r_I0, r_I, r_U, r_ixd, r_lend, r_tupd, r_listd, r_sld, r_app, r_ext, r_reverse, r_setl, r_cat, r_int1, r_eqS, r_neS, scal_ii, scal_bb, scal_ss, at0, at1, at2, sq_lst, sq_tup, isLst_lst, List.getElem?_cons_zero, List.getElem?_cons_succ, List.set_cons_zero, List.set_cons_succ, V.int.injEq, V.bl.injEq, V.ref.injEq, V.str.injEq, HO.lst.injEq, HO.tup.injEq, Option.some.injEq, exists_eq_left', exists_eq_left, List.cons.injEq, and_true, true_and, decide_eq_true_eq, reduceCtorEq, false_and, exists_false, or_false, false_or, exists_const, and_assoc, exists_and_left, List.append_nil, ix0, ix1, ix2, cm_mod, cdw1009, cdw2003, cdw7, cdw64, cdw2, cm104729, cm2, cm3, upd_same, List.length_cons, List.length_nil, Int.reduceLT, Int.reduceLE, Nat.reduceAdd, Nat.reduceLeDiff, Nat.reduceLT, Int.reduceToNat, r_for1, r_forL, r_forT, r_lcL, r_lc1, r_yes, r_gtupD, wipe_0, wipe_1, List.cons_append, List.nil_append, r_forS, r_ipI, ite_false, ite_true, Bool.not_true, Bool.not_false, decide_true, decide_false, r_isd, r_islt, cD_ty, cD_ref, tD_non, tD_bl, tD_int, tD_str, tD_ref, tH_lst, tH_tup, tH_dK, tH_ins, ki_self, ki_int_bool, ki_non_int, ki_str_int, ki_lt_lst, ki_lt_tup, r_fld, r_sfld, HO.ins.injEq, cx_K, r_spN, r_spS, hc, n1, l0, cl, f0, f1, (une z0), (une z1), (une z2), (une z3), (une z4), (une z5), (une z6)]
    rw [e]
    have i2 := Ini.store (CC := CC) (dx := dx) (f := "onlycount") (y := .int 0) kk hl lk
    clear hc e N l0
    generalize L2.upd H1 c (.ins CC dx (putF "onlycount" (.int 0) fs)) = H2 at i2 ⊢
    clear kk hl lk fs
    -- stacksize
    refine seq_intro fun N e => ?_
    obtain ⟨kk, fs, hc, hl, lk⟩ := i2
    have l0 : fs.length < 1000 := Nat.lt_of_le_of_lt hl (by simp only [List.length_cons, List.length_nil]; decide)
    simp only [r_seq, r_next, r_brk, r_cont, r_asg, r_name, r_ret, r_retN, r_drop, r_ifs, r_never, r_var, r_c, r_op, r_un, r_if, r_tst, r_b, r_not, r_and, r_or, r_andV, r_orV, r_notV, r_nil, r_cons, r_tup, r_lst, r_cb, r_call, r_bm, r_bm0, r_sl, r_nopart, r_part, r_rev, r_gnil, r_gcons, r_gsub, r_par, r_aug, r_chain, r_I0, r_I, r_U, r_ixd, r_lend, r_tupd, r_listd, r_sld, r_app, r_ext, r_reverse, r_setl, r_cat, r_int1, r_eqS, r_neS, scal_ii, scal_bb, scal_ss, at0, at1, at2, sq_lst, sq_tup, isLst_lst, List.getElem?_cons_zero, List.getElem?_cons_succ, List.set_cons_zero, List.set_cons_succ, V.int.injEq, V.bl.injEq, V.ref.injEq, V.str.injEq, HO.lst.injEq, HO.tup.injEq, Option.some.injEq, exists_eq_left', exists_eq_left, List.cons.injEq, and_true, true_and, decide_eq_true_eq, reduceCtorEq, false_and, exists_false, or_false, false_or, exists_const, and_assoc, exists_and_left, List.append_nil, ix0, ix1, ix2, cm_mod, cdw1009, cdw2003, cdw7, cdw64, cdw2, cm104729, cm2, cm3, upd_same, List.length_cons, List.length_nil, Int.reduceLT, Int.reduceLE, Nat.reduceAdd, Nat.reduceLeDiff, Nat.reduceLT, Int.reduceToNat, r_for1, r_forL, r_forT, r_lcL, r_lc1, r_yes, r_gtupD, wipe_0, wipe_1, List.cons_append, List.nil_append, r_forS, r_ipI, ite_false, ite_true, Bool.not_true, Bool.not_false, decide_true, decide_false, r_isd, r_islt, cD_ty, cD_ref, tD_non, tD_bl, tD_int, tD_str, tD_ref, tH_lst, tH_tup, tH_dK, tH_ins, ki_self, ki_int_bool, ki_non_int, ki_str_int, ki_lt_lst, ki_lt_tup, r_fld, r_sfld, HO.ins.injEq, cx_K, r_spN, r_spS, hc, n2, l0, cl, f0, f1, (une z0), (une z1), (une z2), (une z3), (une z4), (une z5), (une z6)]
    rw [e]
    have i3 := Ini.store (CC := CC) (dx := dx) (f := "stacksize") (y := .int 1) kk hl lk
    clear hc e N l0
    generalize L2.upd H2 c (.ins CC dx (putF "stacksize" (.int 1) fs)) = H3 at i3 ⊢
    clear kk hl lk fs
    -- flags
    refine seq_intro fun N e => ?_
    obtain ⟨kk, fs, hc, hl, lk⟩ := i3
    have l0 : fs.length < 1000 := Nat.lt_of_le_of_lt hl (by simp only [List.length_cons, List.length_nil]; decide)
    simp only [r_seq, r_next, r_brk, r_cont, r_asg, r_name, r_ret, r_retN, r_drop, r_ifs, r_never, r_var, r_c, r_op, r_un, r_if, r_tst, r_b, r_not, r_and, r_or, r_andV, r_orV, r_notV, r_nil, r_cons, r_tup, r_lst, r_cb, r_call, r_bm, r_bm0, r_sl, r_nopart, r_part, r_rev, r_gnil, r_gcons, r_gsub, r_par, r_aug, r_chain, r_I0, r_I, r_U, r_ixd, r_lend, r_tupd, r_listd, r_sld, r_app, r_ext, r_reverse, r_setl, r_cat, r_int1, r_eqS, r_neS, scal_ii, scal_bb, scal_ss, at0, at1, at2, sq_lst, sq_tup, isLst_lst, List.getElem?_cons_zero, List.getElem?_cons_succ, List.set_cons_zero, List.set_cons_succ, V.int.injEq, V.bl.injEq, V.ref.injEq, V.str.injEq, HO.lst.injEq, HO.tup.injEq, Option.some.injEq, exists_eq_left', exists_eq_left, List.cons.injEq, and_true, true_and, decide_eq_true_eq, reduceCtorEq, false_and, exists_false, or_false, false_or, exists_const, and_assoc, exists_and_left, List.append_nil, ix0, ix1, ix2, cm_mod, cdw1009, cdw2003, cdw7, cdw64, cdw2, cm104729, cm2, cm3, upd_same, List.length_cons, List.length_nil, Int.reduceLT, Int.reduceLE, Nat.reduceAdd, Nat.reduceLeDiff, Nat.reduceLT, Int.reduceToNat, r_for1, r_forL, r_forT, r_lcL, r_lc1, r_yes, r_gtupD, wipe_0, wipe_1, List.cons_append, List.nil_append, r_forS, r_ipI, ite_false, ite_true, Bool.not_true, Bool.not_false, decide_true, decide_false, r_isd, r_islt, cD_ty, cD_ref, tD_non, tD_bl, tD_int, tD_str, tD_ref, tH_lst, tH_tup, tH_dK, tH_ins, ki_self, ki_int_bool, ki_non_int, ki_str_int, ki_lt_lst, ki_lt_tup, r_fld, r_sfld, HO.ins.injEq, cx_K, r_spN, r_spS, hc, n3, l0, cl, f0, f1, (une z0), (une z1), (une z2), (une z3), (une z4), (une z5), (une z6)]
    rw [e]
    have i4 := Ini.store (CC := CC) (dx := dx) (f := "flags") (y := .int 0) kk hl lk
    clear hc e N l0
    generalize L2.upd H3 c (.ins CC dx (putF "flags" (.int 0) fs)) = H4 at i4 ⊢
    clear kk hl lk fs
    -- code
    refine seq_intro fun N e => ?_
    have i4' := i4
    obtain ⟨kk, fs, hc, hl, lk⟩ := i4
    have b0 := kk d _ z0 a0
    have l0 : fs.length < 1000 := Nat.lt_of_le_of_lt hl (by simp only [List.length_cons, List.length_nil]; decide)
    simp only [r_seq, r_next, r_brk, r_cont, r_asg, r_name, r_ret, r_retN, r_drop, r_ifs, r_never, r_var, r_c, r_op, r_un, r_if, r_tst, r_b, r_not, r_and, r_or, r_andV, r_orV, r_notV, r_nil, r_cons, r_tup, r_lst, r_cb, r_call, r_bm, r_bm0, r_sl, r_nopart, r_part, r_rev, r_gnil, r_gcons, r_gsub, r_par, r_aug, r_chain, r_I0, r_I, r_U, r_ixd, r_lend, r_tupd, r_listd, r_sld, r_app, r_ext, r_reverse, r_setl, r_cat, r_int1, r_eqS, r_neS, scal_ii, scal_bb, scal_ss, at0, at1, at2, sq_lst, sq_tup, isLst_lst, List.getElem?_cons_zero, List.getElem?_cons_succ, List.set_cons_zero, List.set_cons_succ, V.int.injEq, V.bl.injEq, V.ref.injEq, V.str.injEq, HO.lst.injEq, HO.tup.injEq, Option.some.injEq, exists_eq_left', exists_eq_left, List.cons.injEq, and_true, true_and, decide_eq_true_eq, reduceCtorEq, false_and, exists_false, or_false, false_or, exists_const, and_assoc, exists_and_left, List.append_nil, ix0, ix1, ix2, cm_mod, cdw1009, cdw2003, cdw7, cdw64, cdw2, cm104729, cm2, cm3, upd_same, List.length_cons, List.length_nil, Int.reduceLT, Int.reduceLE, Nat.reduceAdd, Nat.reduceLeDiff, Nat.reduceLT, Int.reduceToNat, r_for1, r_forL, r_forT, r_lcL, r_lc1, r_yes, r_gtupD, wipe_0, wipe_1, List.cons_append, List.nil_append, r_forS, r_ipI, ite_false, ite_true, Bool.not_true, Bool.not_false, decide_true, decide_false, r_isd, r_islt, cD_ty, cD_ref, tD_non, tD_bl, tD_int, tD_str, tD_ref, tH_lst, tH_tup, tH_dK, tH_ins, ki_self, ki_int_bool, ki_non_int, ki_str_int, ki_lt_lst, ki_lt_tup, r_fld, r_sfld, HO.ins.injEq, cx_K, r_spB, r_spSs, b0]
    refine ⟨_, rfl, bd, fun p5 G hp sG hG => ?_⟩
    have hc1 := sG c _ hc
    simp only [r_seq, r_next, r_brk, r_cont, r_asg, r_name, r_ret, r_retN, r_drop, r_ifs, r_never, r_var, r_c, r_op, r_un, r_if, r_tst, r_b, r_not, r_and, r_or, r_andV, r_orV, r_notV, r_nil, r_cons, r_tup, r_lst, r_cb, r_call, r_bm, r_bm0, r_sl, r_nopart, r_part, r_rev, r_gnil, r_gcons, r_gsub, r_par, r_aug, r_chain, r_I0, r_I, r_U, r_ixd, r_lend, r_tupd, r_listd, r_sld, r_app, r_ext, r_reverse, r_setl, r_cat, r_int1, r_eqS, r_neS, scal_ii, scal_bb, scal_ss, at0, at1, at2, sq_lst, sq_tup, isLst_lst, List.getElem?_cons_zero, List.getElem?_cons_succ, List.set_cons_zero, List.set_cons_succ, V.int.injEq, V.bl.injEq, V.ref.injEq, V.str.injEq, HO.lst.injEq, HO.tup.injEq, Option.some.injEq, exists_eq_left', exists_eq_left, List.cons.injEq, and_true, true_and, decide_eq_true_eq, reduceCtorEq, false_and, exists_false, or_false, false_or, exists_const, and_assoc, exists_and_left, List.append_nil, ix0, ix1, ix2, cm_mod, cdw1009, cdw2003, cdw7, cdw64, cdw2, cm104729, cm2, cm3, upd_same, List.length_cons, List.length_nil, Int.reduceLT, Int.reduceLE, Nat.reduceAdd, Nat.reduceLeDiff, Nat.reduceLT, Int.reduceToNat, r_for1, r_forL, r_forT, r_lcL, r_lc1, r_yes, r_gtupD, wipe_0, wipe_1, List.cons_append, List.nil_append, r_forS, r_ipI, ite_false, ite_true, Bool.not_true, Bool.not_false, decide_true, decide_false, r_isd, r_islt, cD_ty, cD_ref, tD_non, tD_bl, tD_int, tD_str, tD_ref, tH_lst, tH_tup, tH_dK, tH_ins, ki_self, ki_int_bool, ki_non_int, ki_str_int, ki_lt_lst, ki_lt_tup, r_fld, r_sfld, HO.ins.injEq, cx_K, hc1, n4, l0, cl]
    rw [e]
    have iG := Ini.same i4' sG
    have x5 : p5 ≠ c := new_ne hc hp
    have q := Ini.store (CC := CC) (dx := dx) (f := "code") (y := .ref p5) (kk.trans (Keep.same sG)) hl lk
    have kp5 : Keep c G (L2.upd G c (.ins CC dx (putF "code" (.ref p5) fs))) := Keep.upd (Keep.refl c G)
    have t5 := kp5 p5 _ x5 hG
    have i5 := q
    clear hc e N l0 q kp5 iG hc1 i4' b0
    generalize L2.upd G c (.ins CC dx (putF "code" (.ref p5) fs)) = H5 at i5 t5 ⊢
    clear kk hl lk sG hG hp
    -- depth
    refine seq_intro fun N e => ?_
    have i5' := i5
    obtain ⟨kk, fs, hc, hl, lk⟩ := i5
    have b1 := kk cs _ z1 a1
    have l0 : fs.length < 1000 := Nat.lt_of_le_of_lt hl (by simp only [List.length_cons, List.length_nil]; decide)
    simp only [r_seq, r_next, r_brk, r_cont, r_asg, r_name, r_ret, r_retN, r_drop, r_ifs, r_never, r_var, r_c, r_op, r_un, r_if, r_tst, r_b, r_not, r_and, r_or, r_andV, r_orV, r_notV, r_nil, r_cons, r_tup, r_lst, r_cb, r_call, r_bm, r_bm0, r_sl, r_nopart, r_part, r_rev, r_gnil, r_gcons, r_gsub, r_par, r_aug, r_chain, r_I0, r_I, r_U, r_ixd, r_lend, r_tupd, r_listd, r_sld, r_app, r_ext, r_reverse, r_setl, r_cat, r_int1, r_eqS, r_neS, scal_ii, scal_bb, scal_ss, at0, at1, at2, sq_lst, sq_tup, isLst_lst, List.getElem?_cons_zero, List.getElem?_cons_succ, List.set_cons_zero, List.set_cons_succ, V.int.injEq, V.bl.injEq, V.ref.injEq, V.str.injEq, HO.lst.injEq, HO.tup.injEq, Option.some.injEq, exists_eq_left', exists_eq_left, List.cons.injEq, and_true, true_and, decide_eq_true_eq, reduceCtorEq, false_and, exists_false, or_false, false_or, exists_const, and_assoc, exists_and_left, List.append_nil, ix0, ix1, ix2, cm_mod, cdw1009, cdw2003, cdw7, cdw64, cdw2, cm104729, cm2, cm3, upd_same, List.length_cons, List.length_nil, Int.reduceLT, Int.reduceLE, Nat.reduceAdd, Nat.reduceLeDiff, Nat.reduceLT, Int.reduceToNat, r_for1, r_forL, r_forT, r_lcL, r_lc1, r_yes, r_gtupD, wipe_0, wipe_1, List.cons_append, List.nil_append, r_forS, r_ipI, ite_false, ite_true, Bool.not_true, Bool.not_false, decide_true, decide_false, r_isd, r_islt, cD_ty, cD_ref, tD_non, tD_bl, tD_int, tD_str, tD_ref, tH_lst, tH_tup, tH_dK, tH_ins, ki_self, ki_int_bool, ki_non_int, ki_str_int, ki_lt_lst, ki_lt_tup, r_fld, r_sfld, HO.ins.injEq, cx_K, r_spD, b1]
    refine fun G sG => ?_
    have hc1 := sG c _ hc
    simp only [r_seq, r_next, r_brk, r_cont, r_asg, r_name, r_ret, r_retN, r_drop, r_ifs, r_never, r_var, r_c, r_op, r_un, r_if, r_tst, r_b, r_not, r_and, r_or, r_andV, r_orV, r_notV, r_nil, r_cons, r_tup, r_lst, r_cb, r_call, r_bm, r_bm0, r_sl, r_nopart, r_part, r_rev, r_gnil, r_gcons, r_gsub, r_par, r_aug, r_chain, r_I0, r_I, r_U, r_ixd, r_lend, r_tupd, r_listd, r_sld, r_app, r_ext, r_reverse, r_setl, r_cat, r_int1, r_eqS, r_neS, scal_ii, scal_bb, scal_ss, at0, at1, at2, sq_lst, sq_tup, isLst_lst, List.getElem?_cons_zero, List.getElem?_cons_succ, List.set_cons_zero, List.set_cons_succ, V.int.injEq, V.bl.injEq, V.ref.injEq, V.str.injEq, HO.lst.injEq, HO.tup.injEq, Option.some.injEq, exists_eq_left', exists_eq_left, List.cons.injEq, and_true, true_and, decide_eq_true_eq, reduceCtorEq, false_and, exists_false, or_false, false_or, exists_const, and_assoc, exists_and_left, List.append_nil, ix0, ix1, ix2, cm_mod, cdw1009, cdw2003, cdw7, cdw64, cdw2, cm104729, cm2, cm3, upd_same, List.length_cons, List.length_nil, Int.reduceLT, Int.reduceLE, Nat.reduceAdd, Nat.reduceLeDiff, Nat.reduceLT, Int.reduceToNat, r_for1, r_forL, r_forT, r_lcL, r_lc1, r_yes, r_gtupD, wipe_0, wipe_1, List.cons_append, List.nil_append, r_forS, r_ipI, ite_false, ite_true, Bool.not_true, Bool.not_false, decide_true, decide_false, r_isd, r_islt, cD_ty, cD_ref, tD_non, tD_bl, tD_int, tD_str, tD_ref, tH_lst, tH_tup, tH_dK, tH_ins, ki_self, ki_int_bool, ki_non_int, ki_str_int, ki_lt_lst, ki_lt_tup, r_fld, r_sfld, HO.ins.injEq, cx_K, hc1, n5, l0, cl]
    rw [e]
    have i6 := Ini.store (CC := CC) (dx := dx) (f := "depth") (y := .int 1) (kk.trans (Keep.same sG)) hl lk
    have kp : Keep c G (L2.upd G c (.ins CC dx (putF "depth" (.int 1) fs))) := Keep.upd (Keep.refl c G)
    have t5 := kp p5 _ x5 (sG _ _ t5)
    clear hc e N l0 kp hc1 i5' b1
    generalize L2.upd G c (.ins CC dx (putF "depth" (.int 1) fs)) = H6 at i6 t5 ⊢
    clear kk hl lk sG
    -- constants
    refine seq_intro fun N e => ?_
    have i6' := i6
    obtain ⟨kk, fs, hc, hl, lk⟩ := i6
    have b1 := kk cs _ z1 a1
    have l0 : fs.length < 1000 := Nat.lt_of_le_of_lt hl (by simp only [List.length_cons, List.length_nil]; decide)
    simp only [r_seq, r_next, r_brk, r_cont, r_asg, r_name, r_ret, r_retN, r_drop, r_ifs, r_never, r_var, r_c, r_op, r_un, r_if, r_tst, r_b, r_not, r_and, r_or, r_andV, r_orV, r_notV, r_nil, r_cons, r_tup, r_lst, r_cb, r_call, r_bm, r_bm0, r_sl, r_nopart, r_part, r_rev, r_gnil, r_gcons, r_gsub, r_par, r_aug, r_chain, r_I0, r_I, r_U, r_ixd, r_lend, r_tupd, r_listd, r_sld, r_app, r_ext, r_reverse, r_setl, r_cat, r_int1, r_eqS, r_neS, scal_ii, scal_bb, scal_ss, at0, at1, at2, sq_lst, sq_tup, isLst_lst, List.getElem?_cons_zero, List.getElem?_cons_succ, List.set_cons_zero, List.set_cons_succ, V.int.injEq, V.bl.injEq, V.ref.injEq, V.str.injEq, HO.lst.injEq, HO.tup.injEq, Option.some.injEq, exists_eq_left', exists_eq_left, List.cons.injEq, and_true, true_and, decide_eq_true_eq, reduceCtorEq, false_and, exists_false, or_false, false_or, exists_const, and_assoc, exists_and_left, List.append_nil, ix0, ix1, ix2, cm_mod, cdw1009, cdw2003, cdw7, cdw64, cdw2, cm104729, cm2, cm3, upd_same, List.length_cons, List.length_nil, Int.reduceLT, Int.reduceLE, Nat.reduceAdd, Nat.reduceLeDiff, Nat.reduceLT, Int.reduceToNat, r_for1, r_forL, r_forT, r_lcL, r_lc1, r_yes, r_gtupD, wipe_0, wipe_1, List.cons_append, List.nil_append, r_forS, r_ipI, ite_false, ite_true, Bool.not_true, Bool.not_false, decide_true, decide_false, r_isd, r_islt, cD_ty, cD_ref, tD_non, tD_bl, tD_int, tD_str, tD_ref, tH_lst, tH_tup, tH_dK, tH_ins, ki_self, ki_int_bool, ki_non_int, ki_str_int, ki_lt_lst, ki_lt_tup, r_fld, r_sfld, HO.ins.injEq, cx_K, r_spB, r_spSs, b1]
    refine fun p7 hp => ?_
    have sG := Same.new' (Same.refl H6) (o := .tup []) hp
    have hG : L2.upd H6 p7 (.tup []) p7 = some (.tup []) := upd_same
    generalize L2.upd H6 p7 (.tup []) = G at sG hG ⊢
    have hc1 := sG c _ hc
    simp only [r_seq, r_next, r_brk, r_cont, r_asg, r_name, r_ret, r_retN, r_drop, r_ifs, r_never, r_var, r_c, r_op, r_un, r_if, r_tst, r_b, r_not, r_and, r_or, r_andV, r_orV, r_notV, r_nil, r_cons, r_tup, r_lst, r_cb, r_call, r_bm, r_bm0, r_sl, r_nopart, r_part, r_rev, r_gnil, r_gcons, r_gsub, r_par, r_aug, r_chain, r_I0, r_I, r_U, r_ixd, r_lend, r_tupd, r_listd, r_sld, r_app, r_ext, r_reverse, r_setl, r_cat, r_int1, r_eqS, r_neS, scal_ii, scal_bb, scal_ss, at0, at1, at2, sq_lst, sq_tup, isLst_lst, List.getElem?_cons_zero, List.getElem?_cons_succ, List.set_cons_zero, List.set_cons_succ, V.int.injEq, V.bl.injEq, V.ref.injEq, V.str.injEq, HO.lst.injEq, HO.tup.injEq, Option.some.injEq, exists_eq_left', exists_eq_left, List.cons.injEq, and_true, true_and, decide_eq_true_eq, reduceCtorEq, false_and, exists_false, or_false, false_or, exists_const, and_assoc, exists_and_left, List.append_nil, ix0, ix1, ix2, cm_mod, cdw1009, cdw2003, cdw7, cdw64, cdw2, cm104729, cm2, cm3, upd_same, List.length_cons, List.length_nil, Int.reduceLT, Int.reduceLE, Nat.reduceAdd, Nat.reduceLeDiff, Nat.reduceLT, Int.reduceToNat, r_for1, r_forL, r_forT, r_lcL, r_lc1, r_yes, r_gtupD, wipe_0, wipe_1, List.cons_append, List.nil_append, r_forS, r_ipI, ite_false, ite_true, Bool.not_true, Bool.not_false, decide_true, decide_false, r_isd, r_islt, cD_ty, cD_ref, tD_non, tD_bl, tD_int, tD_str, tD_ref, tH_lst, tH_tup, tH_dK, tH_ins, ki_self, ki_int_bool, ki_non_int, ki_str_int, ki_lt_lst, ki_lt_tup, r_fld, r_sfld, HO.ins.injEq, cx_K, hc1, n6, l0, cl]
    rw [e]
    have iG := Ini.same i6' sG
    have x7 : p7 ≠ c := new_ne hc hp
    have q := Ini.store (CC := CC) (dx := dx) (f := "constants") (y := .ref p7) (kk.trans (Keep.same sG)) hl lk
    have kp7 : Keep c G (L2.upd G c (.ins CC dx (putF "constants" (.ref p7) fs))) := Keep.upd (Keep.refl c G)
    have t5 := kp7 p5 _ x5 (sG _ _ t5)
    have t7 := kp7 p7 _ x7 hG
    have i7 := q
    clear hc e N l0 q kp7 iG hc1 i6' b1
    generalize L2.upd G c (.ins CC dx (putF "constants" (.ref p7) fs)) = H7 at i7 t5 t7 ⊢
    clear kk hl lk sG hG hp
    -- names
    refine seq_intro fun N e => ?_
    have i7' := i7
    obtain ⟨kk, fs, hc, hl, lk⟩ := i7
    have b2 := kk nm _ z2 a2
    have l0 : fs.length < 1000 := Nat.lt_of_le_of_lt hl (by simp only [List.length_cons, List.length_nil]; decide)
    simp only [r_seq, r_next, r_brk, r_cont, r_asg, r_name, r_ret, r_retN, r_drop, r_ifs, r_never, r_var, r_c, r_op, r_un, r_if, r_tst, r_b, r_not, r_and, r_or, r_andV, r_orV, r_notV, r_nil, r_cons, r_tup, r_lst, r_cb, r_call, r_bm, r_bm0, r_sl, r_nopart, r_part, r_rev, r_gnil, r_gcons, r_gsub, r_par, r_aug, r_chain, r_I0, r_I, r_U, r_ixd, r_lend, r_tupd, r_listd, r_sld, r_app, r_ext, r_reverse, r_setl, r_cat, r_int1, r_eqS, r_neS, scal_ii, scal_bb, scal_ss, at0, at1, at2, sq_lst, sq_tup, isLst_lst, List.getElem?_cons_zero, List.getElem?_cons_succ, List.set_cons_zero, List.set_cons_succ, V.int.injEq, V.bl.injEq, V.ref.injEq, V.str.injEq, HO.lst.injEq, HO.tup.injEq, Option.some.injEq, exists_eq_left', exists_eq_left, List.cons.injEq, and_true, true_and, decide_eq_true_eq, reduceCtorEq, false_and, exists_false, or_false, false_or, exists_const, and_assoc, exists_and_left, List.append_nil, ix0, ix1, ix2, cm_mod, cdw1009, cdw2003, cdw7, cdw64, cdw2, cm104729, cm2, cm3, upd_same, List.length_cons, List.length_nil, Int.reduceLT, Int.reduceLE, Nat.reduceAdd, Nat.reduceLeDiff, Nat.reduceLT, Int.reduceToNat, r_for1, r_forL, r_forT, r_lcL, r_lc1, r_yes, r_gtupD, wipe_0, wipe_1, List.cons_append, List.nil_append, r_forS, r_ipI, ite_false, ite_true, Bool.not_true, Bool.not_false, decide_true, decide_false, r_isd, r_islt, cD_ty, cD_ref, tD_non, tD_bl, tD_int, tD_str, tD_ref, tH_lst, tH_tup, tH_dK, tH_ins, ki_self, ki_int_bool, ki_non_int, ki_str_int, ki_lt_lst, ki_lt_tup, r_fld, r_sfld, HO.ins.injEq, cx_K, r_spB, r_spSs, b2]
    refine fun p8 G hp sG hG => ?_
    have hc1 := sG c _ hc
    simp only [r_seq, r_next, r_brk, r_cont, r_asg, r_name, r_ret, r_retN, r_drop, r_ifs, r_never, r_var, r_c, r_op, r_un, r_if, r_tst, r_b, r_not, r_and, r_or, r_andV, r_orV, r_notV, r_nil, r_cons, r_tup, r_lst, r_cb, r_call, r_bm, r_bm0, r_sl, r_nopart, r_part, r_rev, r_gnil, r_gcons, r_gsub, r_par, r_aug, r_chain, r_I0, r_I, r_U, r_ixd, r_lend, r_tupd, r_listd, r_sld, r_app, r_ext, r_reverse, r_setl, r_cat, r_int1, r_eqS, r_neS, scal_ii, scal_bb, scal_ss, at0, at1, at2, sq_lst, sq_tup, isLst_lst, List.getElem?_cons_zero, List.getElem?_cons_succ, List.set_cons_zero, List.set_cons_succ, V.int.injEq, V.bl.injEq, V.ref.injEq, V.str.injEq, HO.lst.injEq, HO.tup.injEq, Option.some.injEq, exists_eq_left', exists_eq_left, List.cons.injEq, and_true, true_and, decide_eq_true_eq, reduceCtorEq, false_and, exists_false, or_false, false_or, exists_const, and_assoc, exists_and_left, List.append_nil, ix0, ix1, ix2, cm_mod, cdw1009, cdw2003, cdw7, cdw64, cdw2, cm104729, cm2, cm3, upd_same, List.length_cons, List.length_nil, Int.reduceLT, Int.reduceLE, Nat.reduceAdd, Nat.reduceLeDiff, Nat.reduceLT, Int.reduceToNat, r_for1, r_forL, r_forT, r_lcL, r_lc1, r_yes, r_gtupD, wipe_0, wipe_1, List.cons_append, List.nil_append, r_forS, r_ipI, ite_false, ite_true, Bool.not_true, Bool.not_false, decide_true, decide_false, r_isd, r_islt, cD_ty, cD_ref, tD_non, tD_bl, tD_int, tD_str, tD_ref, tH_lst, tH_tup, tH_dK, tH_ins, ki_self, ki_int_bool, ki_non_int, ki_str_int, ki_lt_lst, ki_lt_tup, r_fld, r_sfld, HO.ins.injEq, cx_K, hc1, n7, l0, cl]
    rw [e]
    have iG := Ini.same i7' sG
    have x8 : p8 ≠ c := new_ne hc hp
    have q := Ini.store (CC := CC) (dx := dx) (f := "names") (y := .ref p8) (kk.trans (Keep.same sG)) hl lk
    have kp8 : Keep c G (L2.upd G c (.ins CC dx (putF "names" (.ref p8) fs))) := Keep.upd (Keep.refl c G)
    have t5 := kp8 p5 _ x5 (sG _ _ t5)
    have t7 := kp8 p7 _ x7 (sG _ _ t7)
    have t8 := kp8 p8 _ x8 hG
    have i8 := q
    clear hc e N l0 q kp8 iG hc1 i7' b2
    generalize L2.upd G c (.ins CC dx (putF "names" (.ref p8) fs)) = H8 at i8 t5 t7 t8 ⊢
    clear kk hl lk sG hG hp
    -- slots
    refine seq_intro fun N e => ?_
    have i8' := i8
    obtain ⟨kk, fs, hc, hl, lk⟩ := i8
    have b3 := kk sl _ z3 a3
    have l0 : fs.length < 1000 := Nat.lt_of_le_of_lt hl (by simp only [List.length_cons, List.length_nil]; decide)
    simp only [r_seq, r_next, r_brk, r_cont, r_asg, r_name, r_ret, r_retN, r_drop, r_ifs, r_never, r_var, r_c, r_op, r_un, r_if, r_tst, r_b, r_not, r_and, r_or, r_andV, r_orV, r_notV, r_nil, r_cons, r_tup, r_lst, r_cb, r_call, r_bm, r_bm0, r_sl, r_nopart, r_part, r_rev, r_gnil, r_gcons, r_gsub, r_par, r_aug, r_chain, r_I0, r_I, r_U, r_ixd, r_lend, r_tupd, r_listd, r_sld, r_app, r_ext, r_reverse, r_setl, r_cat, r_int1, r_eqS, r_neS, scal_ii, scal_bb, scal_ss, at0, at1, at2, sq_lst, sq_tup, isLst_lst, List.getElem?_cons_zero, List.getElem?_cons_succ, List.set_cons_zero, List.set_cons_succ, V.int.injEq, V.bl.injEq, V.ref.injEq, V.str.injEq, HO.lst.injEq, HO.tup.injEq, Option.some.injEq, exists_eq_left', exists_eq_left, List.cons.injEq, and_true, true_and, decide_eq_true_eq, reduceCtorEq, false_and, exists_false, or_false, false_or, exists_const, and_assoc, exists_and_left, List.append_nil, ix0, ix1, ix2, cm_mod, cdw1009, cdw2003, cdw7, cdw64, cdw2, cm104729, cm2, cm3, upd_same, List.length_cons, List.length_nil, Int.reduceLT, Int.reduceLE, Nat.reduceAdd, Nat.reduceLeDiff, Nat.reduceLT, Int.reduceToNat, r_for1, r_forL, r_forT, r_lcL, r_lc1, r_yes, r_gtupD, wipe_0, wipe_1, List.cons_append, List.nil_append, r_forS, r_ipI, ite_false, ite_true, Bool.not_true, Bool.not_false, decide_true, decide_false, r_isd, r_islt, cD_ty, cD_ref, tD_non, tD_bl, tD_int, tD_str, tD_ref, tH_lst, tH_tup, tH_dK, tH_ins, ki_self, ki_int_bool, ki_non_int, ki_str_int, ki_lt_lst, ki_lt_tup, r_fld, r_sfld, HO.ins.injEq, cx_K, r_spB, r_spSs, b3]
    refine fun p9 G hp sG hG => ?_
    have hc1 := sG c _ hc
    simp only [r_seq, r_next, r_brk, r_cont, r_asg, r_name, r_ret, r_retN, r_drop, r_ifs, r_never, r_var, r_c, r_op, r_un, r_if, r_tst, r_b, r_not, r_and, r_or, r_andV, r_orV, r_notV, r_nil, r_cons, r_tup, r_lst, r_cb, r_call, r_bm, r_bm0, r_sl, r_nopart, r_part, r_rev, r_gnil, r_gcons, r_gsub, r_par, r_aug, r_chain, r_I0, r_I, r_U, r_ixd, r_lend, r_tupd, r_listd, r_sld, r_app, r_ext, r_reverse, r_setl, r_cat, r_int1, r_eqS, r_neS, scal_ii, scal_bb, scal_ss, at0, at1, at2, sq_lst, sq_tup, isLst_lst, List.getElem?_cons_zero, List.getElem?_cons_succ, List.set_cons_zero, List.set_cons_succ, V.int.injEq, V.bl.injEq, V.ref.injEq, V.str.injEq, HO.lst.injEq, HO.tup.injEq, Option.some.injEq, exists_eq_left', exists_eq_left, List.cons.injEq, and_true, true_and, decide_eq_true_eq, reduceCtorEq, false_and, exists_false, or_false, false_or, exists_const, and_assoc, exists_and_left, List.append_nil, ix0, ix1, ix2, cm_mod, cdw1009, cdw2003, cdw7, cdw64, cdw2, cm104729, cm2, cm3, upd_same, List.length_cons, List.length_nil, Int.reduceLT, Int.reduceLE, Nat.reduceAdd, Nat.reduceLeDiff, Nat.reduceLT, Int.reduceToNat, r_for1, r_forL, r_forT, r_lcL, r_lc1, r_yes, r_gtupD, wipe_0, wipe_1, List.cons_append, List.nil_append, r_forS, r_ipI, ite_false, ite_true, Bool.not_true, Bool.not_false, decide_true, decide_false, r_isd, r_islt, cD_ty, cD_ref, tD_non, tD_bl, tD_int, tD_str, tD_ref, tH_lst, tH_tup, tH_dK, tH_ins, ki_self, ki_int_bool, ki_non_int, ki_str_int, ki_lt_lst, ki_lt_tup, r_fld, r_sfld, HO.ins.injEq, cx_K, hc1, n8, l0, cl]
    rw [e]
    have iG := Ini.same i8' sG
    have x9 : p9 ≠ c := new_ne hc hp
    have q := Ini.store (CC := CC) (dx := dx) (f := "slots") (y := .ref p9) (kk.trans (Keep.same sG)) hl lk
    have kp9 : Keep c G (L2.upd G c (.ins CC dx (putF "slots" (.ref p9) fs))) := Keep.upd (Keep.refl c G)
    have t5 := kp9 p5 _ x5 (sG _ _ t5)
    have t7 := kp9 p7 _ x7 (sG _ _ t7)
    have t8 := kp9 p8 _ x8 (sG _ _ t8)
    have t9 := kp9 p9 _ x9 hG
    have i9 := q
    clear hc e N l0 q kp9 iG hc1 i8' b3
    generalize L2.upd G c (.ins CC dx (putF "slots" (.ref p9) fs)) = H9 at i9 t5 t7 t8 t9 ⊢
    clear kk hl lk sG hG hp
    -- kinds
    refine seq_intro fun N e => ?_
    have i9' := i9
    obtain ⟨kk, fs, hc, hl, lk⟩ := i9
    have b4 := kk kd _ z4 a4
    have l0 : fs.length < 1000 := Nat.lt_of_le_of_lt hl (by simp only [List.length_cons, List.length_nil]; decide)
    simp only [r_seq, r_next, r_brk, r_cont, r_asg, r_name, r_ret, r_retN, r_drop, r_ifs, r_never, r_var, r_c, r_op, r_un, r_if, r_tst, r_b, r_not, r_and, r_or, r_andV, r_orV, r_notV, r_nil, r_cons, r_tup, r_lst, r_cb, r_call, r_bm, r_bm0, r_sl, r_nopart, r_part, r_rev, r_gnil, r_gcons, r_gsub, r_par, r_aug, r_chain, r_I0, r_I, r_U, r_ixd, r_lend, r_tupd, r_listd, r_sld, r_app, r_ext, r_reverse, r_setl, r_cat, r_int1, r_eqS, r_neS, scal_ii, scal_bb, scal_ss, at0, at1, at2, sq_lst, sq_tup, isLst_lst, List.getElem?_cons_zero, List.getElem?_cons_succ, List.set_cons_zero, List.set_cons_succ, V.int.injEq, V.bl.injEq, V.ref.injEq, V.str.injEq, HO.lst.injEq, HO.tup.injEq, Option.some.injEq, exists_eq_left', exists_eq_left, List.cons.injEq, and_true, true_and, decide_eq_true_eq, reduceCtorEq, false_and, exists_false, or_false, false_or, exists_const, and_assoc, exists_and_left, List.append_nil, ix0, ix1, ix2, cm_mod, cdw1009, cdw2003, cdw7, cdw64, cdw2, cm104729, cm2, cm3, upd_same, List.length_cons, List.length_nil, Int.reduceLT, Int.reduceLE, Nat.reduceAdd, Nat.reduceLeDiff, Nat.reduceLT, Int.reduceToNat, r_for1, r_forL, r_forT, r_lcL, r_lc1, r_yes, r_gtupD, wipe_0, wipe_1, List.cons_append, List.nil_append, r_forS, r_ipI, ite_false, ite_true, Bool.not_true, Bool.not_false, decide_true, decide_false, r_isd, r_islt, cD_ty, cD_ref, tD_non, tD_bl, tD_int, tD_str, tD_ref, tH_lst, tH_tup, tH_dK, tH_ins, ki_self, ki_int_bool, ki_non_int, ki_str_int, ki_lt_lst, ki_lt_tup, r_fld, r_sfld, HO.ins.injEq, cx_K, r_spB, r_spSs, b4]
    refine ⟨[], rfl, (fun n h => by cases h), fun p10 G hp sG hG => ?_⟩
    have hc1 := sG c _ hc
    simp only [r_seq, r_next, r_brk, r_cont, r_asg, r_name, r_ret, r_retN, r_drop, r_ifs, r_never, r_var, r_c, r_op, r_un, r_if, r_tst, r_b, r_not, r_and, r_or, r_andV, r_orV, r_notV, r_nil, r_cons, r_tup, r_lst, r_cb, r_call, r_bm, r_bm0, r_sl, r_nopart, r_part, r_rev, r_gnil, r_gcons, r_gsub, r_par, r_aug, r_chain, r_I0, r_I, r_U, r_ixd, r_lend, r_tupd, r_listd, r_sld, r_app, r_ext, r_reverse, r_setl, r_cat, r_int1, r_eqS, r_neS, scal_ii, scal_bb, scal_ss, at0, at1, at2, sq_lst, sq_tup, isLst_lst, List.getElem?_cons_zero, List.getElem?_cons_succ, List.set_cons_zero, List.set_cons_succ, V.int.injEq, V.bl.injEq, V.ref.injEq, V.str.injEq, HO.lst.injEq, HO.tup.injEq, Option.some.injEq, exists_eq_left', exists_eq_left, List.cons.injEq, and_true, true_and, decide_eq_true_eq, reduceCtorEq, false_and, exists_false, or_false, false_or, exists_const, and_assoc, exists_and_left, List.append_nil, ix0, ix1, ix2, cm_mod, cdw1009, cdw2003, cdw7, cdw64, cdw2, cm104729, cm2, cm3, upd_same, List.length_cons, List.length_nil, Int.reduceLT, Int.reduceLE, Nat.reduceAdd, Nat.reduceLeDiff, Nat.reduceLT, Int.reduceToNat, r_for1, r_forL, r_forT, r_lcL, r_lc1, r_yes, r_gtupD, wipe_0, wipe_1, List.cons_append, List.nil_append, r_forS, r_ipI, ite_false, ite_true, Bool.not_true, Bool.not_false, decide_true, decide_false, r_isd, r_islt, cD_ty, cD_ref, tD_non, tD_bl, tD_int, tD_str, tD_ref, tH_lst, tH_tup, tH_dK, tH_ins, ki_self, ki_int_bool, ki_non_int, ki_str_int, ki_lt_lst, ki_lt_tup, r_fld, r_sfld, HO.ins.injEq, cx_K, hc1, n9, l0, cl]
    rw [e]
    have iG := Ini.same i9' sG
    have x10 : p10 ≠ c := new_ne hc hp
    have q := Ini.store (CC := CC) (dx := dx) (f := "kinds") (y := .ref p10) (kk.trans (Keep.same sG)) hl lk
    have kp10 : Keep c G (L2.upd G c (.ins CC dx (putF "kinds" (.ref p10) fs))) := Keep.upd (Keep.refl c G)
    have t5 := kp10 p5 _ x5 (sG _ _ t5)
    have t7 := kp10 p7 _ x7 (sG _ _ t7)
    have t8 := kp10 p8 _ x8 (sG _ _ t8)
    have t9 := kp10 p9 _ x9 (sG _ _ t9)
    have t10 := kp10 p10 _ x10 hG
    have i10 := q
    clear hc e N l0 q kp10 iG hc1 i9' b4
    generalize L2.upd G c (.ins CC dx (putF "kinds" (.ref p10) fs)) = H10 at i10 t5 t7 t8 t9 t10 ⊢
    clear kk hl lk sG hG hp
    -- the test
    refine seq_intro fun N e => ?_
    have i10' := i10
    obtain ⟨kk, fs, hc, hl, lk⟩ := i10'
    have y9 := lk "slots" _ rfl
    have y10 := lk "kinds" _ rfl
    simp only [r_seq, r_next, r_brk, r_cont, r_asg, r_name, r_ret, r_retN, r_drop, r_ifs, r_never, r_var, r_c, r_op, r_un, r_if, r_tst, r_b, r_not, r_and, r_or, r_andV, r_orV, r_notV, r_nil, r_cons, r_tup, r_lst, r_cb, r_call, r_bm, r_bm0, r_sl, r_nopart, r_part, r_rev, r_gnil, r_gcons, r_gsub, r_par, r_aug, r_chain, r_I0, r_I, r_U, r_ixd, r_lend, r_tupd, r_listd, r_sld, r_app, r_ext, r_reverse, r_setl, r_cat, r_int1, r_eqS, r_neS, scal_ii, scal_bb, scal_ss, at0, at1, at2, sq_lst, sq_tup, isLst_lst, List.getElem?_cons_zero, List.getElem?_cons_succ, List.set_cons_zero, List.set_cons_succ, V.int.injEq, V.bl.injEq, V.ref.injEq, V.str.injEq, HO.lst.injEq, HO.tup.injEq, Option.some.injEq, exists_eq_left', exists_eq_left, List.cons.injEq, and_true, true_and, decide_eq_true_eq, reduceCtorEq, false_and, exists_false, or_false, false_or, exists_const, and_assoc, exists_and_left, List.append_nil, ix0, ix1, ix2, cm_mod, cdw1009, cdw2003, cdw7, cdw64, cdw2, cm104729, cm2, cm3, upd_same, List.length_cons, List.length_nil, Int.reduceLT, Int.reduceLE, Nat.reduceAdd, Nat.reduceLeDiff, Nat.reduceLT, Int.reduceToNat, r_for1, r_forL, r_forT, r_lcL, r_lc1, r_yes, r_gtupD, wipe_0, wipe_1, List.cons_append, List.nil_append, r_forS, r_ipI, ite_false, ite_true, Bool.not_true, Bool.not_false, decide_true, decide_false, r_isd, r_islt, cD_ty, cD_ref, tD_non, tD_bl, tD_int, tD_str, tD_ref, tH_lst, tH_tup, tH_dK, tH_ins, ki_self, ki_int_bool, ki_non_int, ki_str_int, ki_lt_lst, ki_lt_tup, r_fld, r_sfld, HO.ins.injEq, cx_K, hc, n8, n9, cl, y9, y10, t9, t10]
    rw [e, if_neg (by decide)]
    clear e N kk fs hc hl lk y9 y10
    -- name
    refine seq_intro fun N e => ?_
    obtain ⟨kk, fs, hc, hl, lk⟩ := i10
    have l0 : fs.length < 1000 := Nat.lt_of_le_of_lt hl (by simp only [List.length_cons, List.length_nil]; decide)
    simp only [r_seq, r_next, r_brk, r_cont, r_asg, r_name, r_ret, r_retN, r_drop, r_ifs, r_never, r_var, r_c, r_op, r_un, r_if, r_tst, r_b, r_not, r_and, r_or, r_andV, r_orV, r_notV, r_nil, r_cons, r_tup, r_lst, r_cb, r_call, r_bm, r_bm0, r_sl, r_nopart, r_part, r_rev, r_gnil, r_gcons, r_gsub, r_par, r_aug, r_chain, r_I0, r_I, r_U, r_ixd, r_lend, r_tupd, r_listd, r_sld, r_app, r_ext, r_reverse, r_setl, r_cat, r_int1, r_eqS, r_neS, scal_ii, scal_bb, scal_ss, at0, at1, at2, sq_lst, sq_tup, isLst_lst, List.getElem?_cons_zero, List.getElem?_cons_succ, List.set_cons_zero, List.set_cons_succ, V.int.injEq, V.bl.injEq, V.ref.injEq, V.str.injEq, HO.lst.injEq, HO.tup.injEq, Option.some.injEq, exists_eq_left', exists_eq_left, List.cons.injEq, and_true, true_and, decide_eq_true_eq, reduceCtorEq, false_and, exists_false, or_false, false_or, exists_const, and_assoc, exists_and_left, List.append_nil, ix0, ix1, ix2, cm_mod, cdw1009, cdw2003, cdw7, cdw64, cdw2, cm104729, cm2, cm3, upd_same, List.length_cons, List.length_nil, Int.reduceLT, Int.reduceLE, Nat.reduceAdd, Nat.reduceLeDiff, Nat.reduceLT, Int.reduceToNat, r_for1, r_forL, r_forT, r_lcL, r_lc1, r_yes, r_gtupD, wipe_0, wipe_1, List.cons_append, List.nil_append, r_forS, r_ipI, ite_false, ite_true, Bool.not_true, Bool.not_false, decide_true, decide_false, r_isd, r_islt, cD_ty, cD_ref, tD_non, tD_bl, tD_int, tD_str, tD_ref, tH_lst, tH_tup, tH_dK, tH_ins, ki_self, ki_int_bool, ki_non_int, ki_str_int, ki_lt_lst, ki_lt_tup, r_fld, r_sfld, HO.ins.injEq, cx_K, r_spN, r_spS, hc, n10, l0, cl, f0, f1, (une z0), (une z1), (une z2), (une z3), (une z4), (une z5), (une z6)]
    rw [e]
    have i11 := Ini.store (CC := CC) (dx := dx) (f := "name") (y := .str "f") kk hl lk
    have kp : Keep c H10 (L2.upd H10 c (.ins CC dx (putF "name" (.str "f") fs))) := Keep.upd (Keep.refl c H10)
    have t5 := kp p5 _ x5 t5
    have t7 := kp p7 _ x7 t7
    have t8 := kp p8 _ x8 t8
    have t9 := kp p9 _ x9 t9
    have t10 := kp p10 _ x10 t10
    clear hc e N l0 kp
    generalize L2.upd H10 c (.ins CC dx (putF "name" (.str "f") fs)) = H11 at i11 t5 t7 t8 t9 t10 ⊢
    clear kk hl lk fs
    -- path
    refine seq_intro fun N e => ?_
    obtain ⟨kk, fs, hc, hl, lk⟩ := i11
    have l0 : fs.length < 1000 := Nat.lt_of_le_of_lt hl (by simp only [List.length_cons, List.length_nil]; decide)
    simp only [r_seq, r_next, r_brk, r_cont, r_asg, r_name, r_ret, r_retN, r_drop, r_ifs, r_never, r_var, r_c, r_op, r_un, r_if, r_tst, r_b, r_not, r_and, r_or, r_andV, r_orV, r_notV, r_nil, r_cons, r_tup, r_lst, r_cb, r_call, r_bm, r_bm0, r_sl, r_nopart, r_part, r_rev, r_gnil, r_gcons, r_gsub, r_par, r_aug, r_chain, r_I0, r_I, r_U, r_ixd, r_lend, r_tupd, r_listd, r_sld, r_app, r_ext, r_reverse, r_setl, r_cat, r_int1, r_eqS, r_neS, scal_ii, scal_bb, scal_ss, at0, at1, at2, sq_lst, sq_tup, isLst_lst, List.getElem?_cons_zero, List.getElem?_cons_succ, List.set_cons_zero, List.set_cons_succ, V.int.injEq, V.bl.injEq, V.ref.injEq, V.str.injEq, HO.lst.injEq, HO.tup.injEq, Option.some.injEq, exists_eq_left', exists_eq_left, List.cons.injEq, and_true, true_and, decide_eq_true_eq, reduceCtorEq, false_and, exists_false, or_false, false_or, exists_const, and_assoc, exists_and_left, List.append_nil, ix0, ix1, ix2, cm_mod, cdw1009, cdw2003, cdw7, cdw64, cdw2, cm104729, cm2, cm3, upd_same, List.length_cons, List.length_nil, Int.reduceLT, Int.reduceLE, Nat.reduceAdd, Nat.reduceLeDiff, Nat.reduceLT, Int.reduceToNat, r_for1, r_forL, r_forT, r_lcL, r_lc1, r_yes, r_gtupD, wipe_0, wipe_1, List.cons_append, List.nil_append, r_forS, r_ipI, ite_false, ite_true, Bool.not_true, Bool.not_false, decide_true, decide_false, r_isd, r_islt, cD_ty, cD_ref, tD_non, tD_bl, tD_int, tD_str, tD_ref, tH_lst, tH_tup, tH_dK, tH_ins, ki_self, ki_int_bool, ki_non_int, ki_str_int, ki_lt_lst, ki_lt_tup, r_fld, r_sfld, HO.ins.injEq, cx_K, r_spN, r_spS, hc, n11, l0, cl, f0, f1, (une z0), (une z1), (une z2), (une z3), (une z4), (une z5), (une z6)]
    rw [e]
    have i12 := Ini.store (CC := CC) (dx := dx) (f := "path") (y := .str "f") kk hl lk
    have kp : Keep c H11 (L2.upd H11 c (.ins CC dx (putF "path" (.str "f") fs))) := Keep.upd (Keep.refl c H11)
    have t5 := kp p5 _ x5 t5
    have t7 := kp p7 _ x7 t7
    have t8 := kp p8 _ x8 t8
    have t9 := kp p9 _ x9 t9
    have t10 := kp p10 _ x10 t10
    clear hc e N l0 kp
    generalize L2.upd H11 c (.ins CC dx (putF "path" (.str "f") fs)) = H12 at i12 t5 t7 t8 t9 t10 ⊢
    clear kk hl lk fs
    -- line
    refine seq_intro fun N e => ?_
    obtain ⟨kk, fs, hc, hl, lk⟩ := i12
    have l0 : fs.length < 1000 := Nat.lt_of_le_of_lt hl (by simp only [List.length_cons, List.length_nil]; decide)
    simp only [r_seq, r_next, r_brk, r_cont, r_asg, r_name, r_ret, r_retN, r_drop, r_ifs, r_never, r_var, r_c, r_op, r_un, r_if, r_tst, r_b, r_not, r_and, r_or, r_andV, r_orV, r_notV, r_nil, r_cons, r_tup, r_lst, r_cb, r_call, r_bm, r_bm0, r_sl, r_nopart, r_part, r_rev, r_gnil, r_gcons, r_gsub, r_par, r_aug, r_chain, r_I0, r_I, r_U, r_ixd, r_lend, r_tupd, r_listd, r_sld, r_app, r_ext, r_reverse, r_setl, r_cat, r_int1, r_eqS, r_neS, scal_ii, scal_bb, scal_ss, at0, at1, at2, sq_lst, sq_tup, isLst_lst, List.getElem?_cons_zero, List.getElem?_cons_succ, List.set_cons_zero, List.set_cons_succ, V.int.injEq, V.bl.injEq, V.ref.injEq, V.str.injEq, HO.lst.injEq, HO.tup.injEq, Option.some.injEq, exists_eq_left', exists_eq_left, List.cons.injEq, and_true, true_and, decide_eq_true_eq, reduceCtorEq, false_and, exists_false, or_false, false_or, exists_const, and_assoc, exists_and_left, List.append_nil, ix0, ix1, ix2, cm_mod, cdw1009, cdw2003, cdw7, cdw64, cdw2, cm104729, cm2, cm3, upd_same, List.length_cons, List.length_nil, Int.reduceLT, Int.reduceLE, Nat.reduceAdd, Nat.reduceLeDiff, Nat.reduceLT, Int.reduceToNat, r_for1, r_forL, r_forT, r_lcL, r_lc1, r_yes, r_gtupD, wipe_0, wipe_1, List.cons_append, List.nil_append, r_forS, r_ipI, ite_false, ite_true, Bool.not_true, Bool.not_false, decide_true, decide_false, r_isd, r_islt, cD_ty, cD_ref, tD_non, tD_bl, tD_int, tD_str, tD_ref, tH_lst, tH_tup, tH_dK, tH_ins, ki_self, ki_int_bool, ki_non_int, ki_str_int, ki_lt_lst, ki_lt_tup, r_fld, r_sfld, HO.ins.injEq, cx_K, r_spN, r_spS, hc, n12, l0, cl, f0, f1, (une z0), (une z1), (une z2), (une z3), (une z4), (une z5), (une z6)]
    rw [e]
    have i13 := Ini.store (CC := CC) (dx := dx) (f := "line") (y := .int first) kk hl lk
    have kp : Keep c H12 (L2.upd H12 c (.ins CC dx (putF "line" (.int first) fs))) := Keep.upd (Keep.refl c H12)
    have t5 := kp p5 _ x5 t5
    have t7 := kp p7 _ x7 t7
    have t8 := kp p8 _ x8 t8
    have t9 := kp p9 _ x9 t9
    have t10 := kp p10 _ x10 t10
    clear hc e N l0 kp
    generalize L2.upd H12 c (.ins CC dx (putF "line" (.int first) fs)) = H13 at i13 t5 t7 t8 t9 t10 ⊢
    clear kk hl lk fs
    -- lines
    refine seq_intro fun N e => ?_
    have i13' := i13
    obtain ⟨kk, fs, hc, hl, lk⟩ := i13
    have b5 := kk ln _ z5 a5
    have l0 : fs.length < 1000 := Nat.lt_of_le_of_lt hl (by simp only [List.length_cons, List.length_nil]; decide)
    simp only [r_seq, r_next, r_brk, r_cont, r_asg, r_name, r_ret, r_retN, r_drop, r_ifs, r_never, r_var, r_c, r_op, r_un, r_if, r_tst, r_b, r_not, r_and, r_or, r_andV, r_orV, r_notV, r_nil, r_cons, r_tup, r_lst, r_cb, r_call, r_bm, r_bm0, r_sl, r_nopart, r_part, r_rev, r_gnil, r_gcons, r_gsub, r_par, r_aug, r_chain, r_I0, r_I, r_U, r_ixd, r_lend, r_tupd, r_listd, r_sld, r_app, r_ext, r_reverse, r_setl, r_cat, r_int1, r_eqS, r_neS, scal_ii, scal_bb, scal_ss, at0, at1, at2, sq_lst, sq_tup, isLst_lst, List.getElem?_cons_zero, List.getElem?_cons_succ, List.set_cons_zero, List.set_cons_succ, V.int.injEq, V.bl.injEq, V.ref.injEq, V.str.injEq, HO.lst.injEq, HO.tup.injEq, Option.some.injEq, exists_eq_left', exists_eq_left, List.cons.injEq, and_true, true_and, decide_eq_true_eq, reduceCtorEq, false_and, exists_false, or_false, false_or, exists_const, and_assoc, exists_and_left, List.append_nil, ix0, ix1, ix2, cm_mod, cdw1009, cdw2003, cdw7, cdw64, cdw2, cm104729, cm2, cm3, upd_same, List.length_cons, List.length_nil, Int.reduceLT, Int.reduceLE, Nat.reduceAdd, Nat.reduceLeDiff, Nat.reduceLT, Int.reduceToNat, r_for1, r_forL, r_forT, r_lcL, r_lc1, r_yes, r_gtupD, wipe_0, wipe_1, List.cons_append, List.nil_append, r_forS, r_ipI, ite_false, ite_true, Bool.not_true, Bool.not_false, decide_true, decide_false, r_isd, r_islt, cD_ty, cD_ref, tD_non, tD_bl, tD_int, tD_str, tD_ref, tH_lst, tH_tup, tH_dK, tH_ins, ki_self, ki_int_bool, ki_non_int, ki_str_int, ki_lt_lst, ki_lt_tup, r_fld, r_sfld, HO.ins.injEq, cx_K, r_spB, r_spSs, b5]
    refine ⟨_, rfl, bl, fun p14 G hp sG hG => ?_⟩
    have hc1 := sG c _ hc
    simp only [r_seq, r_next, r_brk, r_cont, r_asg, r_name, r_ret, r_retN, r_drop, r_ifs, r_never, r_var, r_c, r_op, r_un, r_if, r_tst, r_b, r_not, r_and, r_or, r_andV, r_orV, r_notV, r_nil, r_cons, r_tup, r_lst, r_cb, r_call, r_bm, r_bm0, r_sl, r_nopart, r_part, r_rev, r_gnil, r_gcons, r_gsub, r_par, r_aug, r_chain, r_I0, r_I, r_U, r_ixd, r_lend, r_tupd, r_listd, r_sld, r_app, r_ext, r_reverse, r_setl, r_cat, r_int1, r_eqS, r_neS, scal_ii, scal_bb, scal_ss, at0, at1, at2, sq_lst, sq_tup, isLst_lst, List.getElem?_cons_zero, List.getElem?_cons_succ, List.set_cons_zero, List.set_cons_succ, V.int.injEq, V.bl.injEq, V.ref.injEq, V.str.injEq, HO.lst.injEq, HO.tup.injEq, Option.some.injEq, exists_eq_left', exists_eq_left, List.cons.injEq, and_true, true_and, decide_eq_true_eq, reduceCtorEq, false_and, exists_false, or_false, false_or, exists_const, and_assoc, exists_and_left, List.append_nil, ix0, ix1, ix2, cm_mod, cdw1009, cdw2003, cdw7, cdw64, cdw2, cm104729, cm2, cm3, upd_same, List.length_cons, List.length_nil, Int.reduceLT, Int.reduceLE, Nat.reduceAdd, Nat.reduceLeDiff, Nat.reduceLT, Int.reduceToNat, r_for1, r_forL, r_forT, r_lcL, r_lc1, r_yes, r_gtupD, wipe_0, wipe_1, List.cons_append, List.nil_append, r_forS, r_ipI, ite_false, ite_true, Bool.not_true, Bool.not_false, decide_true, decide_false, r_isd, r_islt, cD_ty, cD_ref, tD_non, tD_bl, tD_int, tD_str, tD_ref, tH_lst, tH_tup, tH_dK, tH_ins, ki_self, ki_int_bool, ki_non_int, ki_str_int, ki_lt_lst, ki_lt_tup, r_fld, r_sfld, HO.ins.injEq, cx_K, hc1, n13, l0, cl]
    rw [e]
    have iG := Ini.same i13' sG
    have x14 : p14 ≠ c := new_ne hc hp
    have q := Ini.store (CC := CC) (dx := dx) (f := "lines") (y := .ref p14) (kk.trans (Keep.same sG)) hl lk
    have kp14 : Keep c G (L2.upd G c (.ins CC dx (putF "lines" (.ref p14) fs))) := Keep.upd (Keep.refl c G)
    have t5 := kp14 p5 _ x5 (sG _ _ t5)
    have t7 := kp14 p7 _ x7 (sG _ _ t7)
    have t8 := kp14 p8 _ x8 (sG _ _ t8)
    have t9 := kp14 p9 _ x9 (sG _ _ t9)
    have t10 := kp14 p10 _ x10 (sG _ _ t10)
    have t14 := kp14 p14 _ x14 hG
    have i14 := q
    clear hc e N l0 q kp14 iG hc1 i13' b5
    generalize L2.upd G c (.ins CC dx (putF "lines" (.ref p14) fs)) = H14 at i14 t5 t7 t8 t9 t10 t14 ⊢
    clear kk hl lk sG hG hp
    -- handlers
    refine seq_intro fun N e => ?_
    have i14' := i14
    obtain ⟨kk, fs, hc, hl, lk⟩ := i14
    have b6 := kk gd _ z6 a6
    have l0 : fs.length < 1000 := Nat.lt_of_le_of_lt hl (by simp only [List.length_cons, List.length_nil]; decide)
    simp only [r_seq, r_next, r_brk, r_cont, r_asg, r_name, r_ret, r_retN, r_drop, r_ifs, r_never, r_var, r_c, r_op, r_un, r_if, r_tst, r_b, r_not, r_and, r_or, r_andV, r_orV, r_notV, r_nil, r_cons, r_tup, r_lst, r_cb, r_call, r_bm, r_bm0, r_sl, r_nopart, r_part, r_rev, r_gnil, r_gcons, r_gsub, r_par, r_aug, r_chain, r_I0, r_I, r_U, r_ixd, r_lend, r_tupd, r_listd, r_sld, r_app, r_ext, r_reverse, r_setl, r_cat, r_int1, r_eqS, r_neS, scal_ii, scal_bb, scal_ss, at0, at1, at2, sq_lst, sq_tup, isLst_lst, List.getElem?_cons_zero, List.getElem?_cons_succ, List.set_cons_zero, List.set_cons_succ, V.int.injEq, V.bl.injEq, V.ref.injEq, V.str.injEq, HO.lst.injEq, HO.tup.injEq, Option.some.injEq, exists_eq_left', exists_eq_left, List.cons.injEq, and_true, true_and, decide_eq_true_eq, reduceCtorEq, false_and, exists_false, or_false, false_or, exists_const, and_assoc, exists_and_left, List.append_nil, ix0, ix1, ix2, cm_mod, cdw1009, cdw2003, cdw7, cdw64, cdw2, cm104729, cm2, cm3, upd_same, List.length_cons, List.length_nil, Int.reduceLT, Int.reduceLE, Nat.reduceAdd, Nat.reduceLeDiff, Nat.reduceLT, Int.reduceToNat, r_for1, r_forL, r_forT, r_lcL, r_lc1, r_yes, r_gtupD, wipe_0, wipe_1, List.cons_append, List.nil_append, r_forS, r_ipI, ite_false, ite_true, Bool.not_true, Bool.not_false, decide_true, decide_false, r_isd, r_islt, cD_ty, cD_ref, tD_non, tD_bl, tD_int, tD_str, tD_ref, tH_lst, tH_tup, tH_dK, tH_ins, ki_self, ki_int_bool, ki_non_int, ki_str_int, ki_lt_lst, ki_lt_tup, r_fld, r_sfld, HO.ins.injEq, cx_K, r_spB, r_spSs, b6]
    refine ⟨_, rfl, bg, fun p15 G hp sG hG => ?_⟩
    have hc1 := sG c _ hc
    simp only [r_seq, r_next, r_brk, r_cont, r_asg, r_name, r_ret, r_retN, r_drop, r_ifs, r_never, r_var, r_c, r_op, r_un, r_if, r_tst, r_b, r_not, r_and, r_or, r_andV, r_orV, r_notV, r_nil, r_cons, r_tup, r_lst, r_cb, r_call, r_bm, r_bm0, r_sl, r_nopart, r_part, r_rev, r_gnil, r_gcons, r_gsub, r_par, r_aug, r_chain, r_I0, r_I, r_U, r_ixd, r_lend, r_tupd, r_listd, r_sld, r_app, r_ext, r_reverse, r_setl, r_cat, r_int1, r_eqS, r_neS, scal_ii, scal_bb, scal_ss, at0, at1, at2, sq_lst, sq_tup, isLst_lst, List.getElem?_cons_zero, List.getElem?_cons_succ, List.set_cons_zero, List.set_cons_succ, V.int.injEq, V.bl.injEq, V.ref.injEq, V.str.injEq, HO.lst.injEq, HO.tup.injEq, Option.some.injEq, exists_eq_left', exists_eq_left, List.cons.injEq, and_true, true_and, decide_eq_true_eq, reduceCtorEq, false_and, exists_false, or_false, false_or, exists_const, and_assoc, exists_and_left, List.append_nil, ix0, ix1, ix2, cm_mod, cdw1009, cdw2003, cdw7, cdw64, cdw2, cm104729, cm2, cm3, upd_same, List.length_cons, List.length_nil, Int.reduceLT, Int.reduceLE, Nat.reduceAdd, Nat.reduceLeDiff, Nat.reduceLT, Int.reduceToNat, r_for1, r_forL, r_forT, r_lcL, r_lc1, r_yes, r_gtupD, wipe_0, wipe_1, List.cons_append, List.nil_append, r_forS, r_ipI, ite_false, ite_true, Bool.not_true, Bool.not_false, decide_true, decide_false, r_isd, r_islt, cD_ty, cD_ref, tD_non, tD_bl, tD_int, tD_str, tD_ref, tH_lst, tH_tup, tH_dK, tH_ins, ki_self, ki_int_bool, ki_non_int, ki_str_int, ki_lt_lst, ki_lt_tup, r_fld, r_sfld, HO.ins.injEq, cx_K, hc1, n14, l0, cl]
    rw [e]
    have iG := Ini.same i14' sG
    have x15 : p15 ≠ c := new_ne hc hp
    have q := Ini.store (CC := CC) (dx := dx) (f := "handlers") (y := .ref p15) (kk.trans (Keep.same sG)) hl lk
    have kp15 : Keep c G (L2.upd G c (.ins CC dx (putF "handlers" (.ref p15) fs))) := Keep.upd (Keep.refl c G)
    have t5 := kp15 p5 _ x5 (sG _ _ t5)
    have t7 := kp15 p7 _ x7 (sG _ _ t7)
    have t8 := kp15 p8 _ x8 (sG _ _ t8)
    have t9 := kp15 p9 _ x9 (sG _ _ t9)
    have t10 := kp15 p10 _ x10 (sG _ _ t10)
    have t14 := kp15 p14 _ x14 (sG _ _ t14)
    have t15 := kp15 p15 _ x15 hG
    have i15 := q
    clear hc e N l0 q kp15 iG hc1 i14' b6
    generalize L2.upd G c (.ins CC dx (putF "handlers" (.ref p15) fs)) = H15 at i15 t5 t7 t8 t9 t10 t14 t15 ⊢
    clear kk hl lk sG hG hp
    -- identity
    have i15' := i15
    obtain ⟨kk, fs, hc, hl, lk⟩ := i15'
    have y0 := lk "argcount" _ rfl
    have y1 := lk "onlycount" _ rfl
    have y2 := lk "stacksize" _ rfl
    have y3 := lk "flags" _ rfl
    have y4 := lk "code" _ rfl
    have y5 := lk "depth" _ rfl
    have y6 := lk "constants" _ rfl
    have y7 := lk "names" _ rfl
    have y8 := lk "slots" _ rfl
    have y9 := lk "kinds" _ rfl
    have y10 := lk "name" _ rfl
    have y11 := lk "path" _ rfl
    have y12 := lk "line" _ rfl
    have y13 := lk "lines" _ rfl
    have y14 := lk "handlers" _ rfl
    have l0 : fs.length < 1000 := Nat.lt_of_le_of_lt hl (by simp only [List.length_cons, List.length_nil]; decide)
    simp only [r_seq, r_next, r_brk, r_cont, r_asg, r_name, r_ret, r_retN, r_drop, r_ifs, r_never, r_var, r_c, r_op, r_un, r_if, r_tst, r_b, r_not, r_and, r_or, r_andV, r_orV, r_notV, r_nil, r_cons, r_tup, r_lst, r_cb, r_call, r_bm, r_bm0, r_sl, r_nopart, r_part, r_rev, r_gnil, r_gcons, r_gsub, r_par, r_aug, r_chain, r_I0, r_I, r_U, r_ixd, r_lend, r_tupd, r_listd, r_sld, r_app, r_ext, r_reverse, r_setl, r_cat, r_int1, r_eqS, r_neS, scal_ii, scal_bb, scal_ss, at0, at1, at2, sq_lst, sq_tup, isLst_lst, List.getElem?_cons_zero, List.getElem?_cons_succ, List.set_cons_zero, List.set_cons_succ, V.int.injEq, V.bl.injEq, V.ref.injEq, V.str.injEq, HO.lst.injEq, HO.tup.injEq, Option.some.injEq, exists_eq_left', exists_eq_left, List.cons.injEq, and_true, true_and, decide_eq_true_eq, reduceCtorEq, false_and, exists_false, or_false, false_or, exists_const, and_assoc, exists_and_left, List.append_nil, ix0, ix1, ix2, cm_mod, cdw1009, cdw2003, cdw7, cdw64, cdw2, cm104729, cm2, cm3, upd_same, List.length_cons, List.length_nil, Int.reduceLT, Int.reduceLE, Nat.reduceAdd, Nat.reduceLeDiff, Nat.reduceLT, Int.reduceToNat, r_for1, r_forL, r_forT, r_lcL, r_lc1, r_yes, r_gtupD, wipe_0, wipe_1, List.cons_append, List.nil_append, r_forS, r_ipI, ite_false, ite_true, Bool.not_true, Bool.not_false, decide_true, decide_false, r_isd, r_islt, cD_ty, cD_ref, tD_non, tD_bl, tD_int, tD_str, tD_ref, tH_lst, tH_tup, tH_dK, tH_ins, ki_self, ki_int_bool, ki_non_int, ki_str_int, ki_lt_lst, ki_lt_tup, r_fld, r_sfld, HO.ins.injEq, cx_K, r_plain]
    intro m md hm hmd nm
    have hc1 : L2.upd (L2.upd H15 md (.own m)) m (.ins MM md []) c = some (.ins CC dx fs) := by rw [upd_ne (ne_new hc hm), upd_ne (ne_new hc hmd)]; exact hc
    simp only [r_seq, r_next, r_brk, r_cont, r_asg, r_name, r_ret, r_retN, r_drop, r_ifs, r_never, r_var, r_c, r_op, r_un, r_if, r_tst, r_b, r_not, r_and, r_or, r_andV, r_orV, r_notV, r_nil, r_cons, r_tup, r_lst, r_cb, r_call, r_bm, r_bm0, r_sl, r_nopart, r_part, r_rev, r_gnil, r_gcons, r_gsub, r_par, r_aug, r_chain, r_I0, r_I, r_U, r_ixd, r_lend, r_tupd, r_listd, r_sld, r_app, r_ext, r_reverse, r_setl, r_cat, r_int1, r_eqS, r_neS, scal_ii, scal_bb, scal_ss, at0, at1, at2, sq_lst, sq_tup, isLst_lst, List.getElem?_cons_zero, List.getElem?_cons_succ, List.set_cons_zero, List.set_cons_succ, V.int.injEq, V.bl.injEq, V.ref.injEq, V.str.injEq, HO.lst.injEq, HO.tup.injEq, Option.some.injEq, exists_eq_left', exists_eq_left, List.cons.injEq, and_true, true_and, decide_eq_true_eq, reduceCtorEq, false_and, exists_false, or_false, false_or, exists_const, and_assoc, exists_and_left, List.append_nil, ix0, ix1, ix2, cm_mod, cdw1009, cdw2003, cdw7, cdw64, cdw2, cm104729, cm2, cm3, upd_same, List.length_cons, List.length_nil, Int.reduceLT, Int.reduceLE, Nat.reduceAdd, Nat.reduceLeDiff, Nat.reduceLT, Int.reduceToNat, r_for1, r_forL, r_forT, r_lcL, r_lc1, r_yes, r_gtupD, wipe_0, wipe_1, List.cons_append, List.nil_append, r_forS, r_ipI, ite_false, ite_true, Bool.not_true, Bool.not_false, decide_true, decide_false, r_isd, r_islt, cD_ty, cD_ref, tD_non, tD_bl, tD_int, tD_str, tD_ref, tH_lst, tH_tup, tH_dK, tH_ins, ki_self, ki_int_bool, ki_non_int, ki_str_int, ki_lt_lst, ki_lt_tup, r_fld, r_sfld, HO.ins.injEq, cx_K, hc1, cl, l0, n15]
    have u := fun (b : Addr) (o : HO) (nb : b ≠ c) (e : H15 b = some o) (o3 : HO) => (show L2.upd (L2.upd (L2.upd H15 md (.own m)) m (.ins MM md [])) c o3 b = some o from by rw [upd_ne nb, upd_ne (ne_new e hm), upd_ne (ne_new e hmd)]; exact e)
    refine k _ (fun b o nb e => ?_) ⟨dx, _, p5, p14, p15, upd_same, ?_, u _ _ x5 t5 _, ?_, ?_, u _ _ x14 t14 _, ?_, u _ _ x15 t15 _⟩
    · exact u b o nb (kk b o nb e) _
    · rw [lookup_putF, if_neg (by decide)]
      exact y4
    · rw [lookup_putF, if_neg (by decide)]
      exact y12
    · rw [lookup_putF, if_neg (by decide)]
      exact y13
    · rw [lookup_putF, if_neg (by decide)]
      exact y14
abbrev smade : Stmt := top 40
theorem scmade : FnScope ["_law_data", "_law_lines", "_law_guards", "_law_first"] ["_law_data", "_law_lines", "_law_guards", "_law_first"] (defScope smade) := ⟨rfl, rfl, rfl, by decide +kernel, rfl, by decide +kernel, by decide +kernel⟩

/-- a Code made by the law -/
def spMade (CC : Addr) : Sp := fun vs H Q _ => ∃ (d ln gd : Addr) (ds ls gs : List Nat) (first : Int), vs = [.ref d, .ref ln, .ref gd, .int first] ∧ H d = some (.lst (vn ds)) ∧ H ln = some (.lst (vn ls)) ∧ H gd = some (.lst (vn gs)) ∧
  (∀ n ∈ ds, n < 256) ∧ (∀ n ∈ ls, n < 256) ∧ (∀ n ∈ gs, n < 256) ∧ 0 ≤ first ∧ first ≤ 2147483647 ∧ ∀ c H', H c = none → Same H H' → CodeAt CC H' c ds ls gs first → Q (.ref c) H'
/-- the class Code as its callers see it -/
structure MkCode (P : Program) (w : World) (K : PySem.W.Frag) (mg : Str → Option Value) (base : Heap) (CC : Addr) : Prop where
  ex : ∃ f fd, Mk K CC f ∧ FnOk P w K mg base CX0 3 f fd ["self", "argcount", "onlycount", "stacksize", "flags", "code", "constants", "names", "slots", "kinds", "name", "path", "line", "lines", "handlers"] (spCodeInit CC) ∧ mg "Code" = some (.ref CC) ∧
    Binds K fd ["self", "argcount", "onlycount", "stacksize", "flags", "code", "constants", "names", "slots", "kinds", "name", "path", "line", "lines", "handlers"] []
theorem pe_mak {X : Cx} {CC : Addr} {e : Expr} {es : List Expr} {t : TA} {p pos : Pos} (M : MkCode X.prog X.w X.K X.mg X.base CC) (hr : Room 4 X.A) (hg : Gl X "Code") (ha : PA X (e :: es) t)
    (he : starEach (e :: es) X.env = (false, eval e X.env) :: starEach es X.env := by rfl) (hpl : (backTo pos (starEach es X.env)).any (·.1) = false := by rfl) :
    PE X (.Call (.Name "Code" p) (e :: es) [] pos) (tMake CC (spCodeInit CC) [] E0 t) := by
  obtain ⟨f, fd, M, F, m, b⟩ := M.ex
  exact pe_make M F hr hg m b .nil pass0 ha (by decide) he hpl
theorem r_make {C : Addr} {sp : Sp} {dvs : List V} {E : XK} {t : TA} {σ : L2.St} {H : Hp} {Q : VK} : tMake C sp dvs E t σ H Q = t σ H (fun vs H1 => ∀ x dx, H1 x = none → H1 dx = none → dx ≠ x → sp (.ref x :: (vs ++ dvs)) (L2.upd (L2.upd H1 dx (.own x)) x (.ins C dx [])) (fun v H2 => v = .non ∧ Q (.ref x) H2) E) := rfl
theorem ok_made {CC : Addr} (T : Txt mg) (F : FnP K "_law_made" "_law_made" smade f fd) (M_Code : MkCode P w K mg base CC) : FnOk P w K mg base CX0 5 f fd ["_law_data", "_law_lines", "_law_guards", "_law_first"] (spMade CC) := by
  refine F.ok scmade (fun vs H Q E h => ?_) (fun cdv A outer s H vs Q E hr h => ?_)
  · obtain ⟨d, ln, gd, ds, ls, gs, first, rfl, _⟩ := h
    rfl
  · obtain ⟨d, ln, gd, ds, ls, gs, first, rfl, a0, a5, a6, bd, bl, bg, f0, f1, k⟩ := h
    refine ⟨_, PSs.nox (pss_one (ps_ret (pe_mak M_Code hr rfl (pa_cons pe_int (pa_cons pe_int (pa_cons pe_int (pa_cons pe_int (pa_cons (pv 0) (pa_cons (pe_lst pa_nil) (pa_cons (pe_lst pa_nil) (pa_cons (pe_lst pa_nil) (pa_cons (pe_lst pa_nil) (pa_cons pe_str (pa_cons pe_str (pa_cons (pv 3) (pa_cons (pv 1) (pa_cons (pv 2) pa_nil))))))))))))))))), ?_⟩
    show (_ : TS) _ [some (.ref d), some (.ref ln), some (.ref gd), some (.int first)] H
    simp only [r_seq, r_next, r_brk, r_cont, r_asg, r_name, r_ret, r_retN, r_drop, r_ifs, r_never, r_var, r_c, r_op, r_un, r_if, r_tst, r_b, r_not, r_and, r_or, r_andV, r_orV, r_notV, r_nil, r_cons, r_tup, r_lst, r_cb, r_call, r_bm, r_bm0, r_sl, r_nopart, r_part, r_rev, r_gnil, r_gcons, r_gsub, r_par, r_aug, r_chain, r_I0, r_I, r_U, r_ixd, r_lend, r_tupd, r_listd, r_sld, r_app, r_ext, r_reverse, r_setl, r_cat, r_int1, r_eqS, r_neS, scal_ii, scal_bb, scal_ss, at0, at1, at2, sq_lst, sq_tup, isLst_lst, List.getElem?_cons_zero, List.getElem?_cons_succ, List.set_cons_zero, List.set_cons_succ, V.int.injEq, V.bl.injEq, V.ref.injEq, V.str.injEq, HO.lst.injEq, HO.tup.injEq, Option.some.injEq, exists_eq_left', exists_eq_left, List.cons.injEq, and_true, true_and, decide_eq_true_eq, reduceCtorEq, false_and, exists_false, or_false, false_or, exists_const, and_assoc, exists_and_left, List.append_nil, ix0, ix1, ix2, cm_mod, cdw1009, cdw2003, cdw7, cdw64, cdw2, cm104729, cm2, cm3, upd_same, List.length_cons, List.length_nil, Int.reduceLT, Int.reduceLE, Nat.reduceAdd, Nat.reduceLeDiff, Nat.reduceLT, Int.reduceToNat, r_for1, r_forL, r_forT, r_lcL, r_lc1, r_yes, r_gtupD, wipe_0, wipe_1, List.cons_append, List.nil_append, r_forS, r_ipI, ite_false, ite_true, Bool.not_true, Bool.not_false, decide_true, decide_false, r_isd, r_islt, cD_ty, cD_ref, tD_non, tD_bl, tD_int, tD_str, tD_ref, tH_lst, tH_tup, tH_dK, tH_ins, ki_self, ki_int_bool, ki_non_int, ki_str_int, ki_lt_lst, ki_lt_tup, r_fld, r_sfld, HO.ins.injEq, cx_K, r_make]
    refine ⟨Nat.zero_le _, fun p hp => ⟨Nat.zero_le _, fun p1 hp1 => ⟨Nat.zero_le _, fun p2 hp2 => ⟨Nat.zero_le _, fun p3 hp3 x dx hx hd nd => ?_⟩⟩⟩⟩
    have s1 := Same.new' (o := .lst []) (Same.refl H) hp
    have q1 : L2.upd H p (.lst []) p = some (.lst []) := upd_same
    generalize L2.upd H p (.lst []) = G1 at *
    have s2 := Same.new' (o := .lst []) (Same.refl G1) hp1
    have q2 : L2.upd G1 p1 (.lst []) p1 = some (.lst []) := upd_same
    generalize L2.upd G1 p1 (.lst []) = G2 at *
    have s3 := Same.new' (o := .lst []) (Same.refl G2) hp2
    have q3 : L2.upd G2 p2 (.lst []) p2 = some (.lst []) := upd_same
    generalize L2.upd G2 p2 (.lst []) = G3 at *
    have s4 := Same.new' (o := .lst []) (Same.refl G3) hp3
    have q4 : L2.upd G3 p3 (.lst []) p3 = some (.lst []) := upd_same
    generalize L2.upd G3 p3 (.lst []) = G4 at *
    have ww : ∀ b o, G4 b = some o → L2.upd (L2.upd G4 dx (.own x)) x (.ins CC dx []) b = some o := fun b o e => by
      rw [upd_ne (ne_new e hx), upd_ne (ne_new e hd)]
      exact e
    have sH : Same H G4 := fun b o e => s4 b o (s3 b o (s2 b o (s1 b o e)))
    refine ⟨x, dx, d, p, p1, p2, p3, ln, gd, ds, ls, gs, first, rfl, upd_same, ww _ _ (sH _ _ a0), ww _ _ (s4 _ _ (s3 _ _ (s2 _ _ q1))), ww _ _ (s4 _ _ (s3 _ _ q2)), ww _ _ (s4 _ _ q3), ww _ _ q4, ww _ _ (sH _ _ a5), ww _ _ (sH _ _ a6), bd, bl, bg, f0, f1, fun H' kk ca => ⟨rfl, k x H' ?_ ?_ ca⟩⟩
    · cases e : H x with
      | none => rfl
      | some o =>
        have := sH x o e
        rw [hx] at this
        cases this
    · exact fun b o e => kk b o (ne_new (sH b o e) hx) (ww _ _ (sH b o e))
end
end C49

set_option maxHeartbeats 2000000
namespace C49
open PySem PySem.Spec PyProof.Rows L2
/-! ### several clauses «except x as n» -/
/-- the ends of a suite behind which slot i is empty -/
def offE (D : Ends) (i : Nat) : Ends := { nx := fun τ G => D.nx (τ.set i none) G, rt := D.rt, bk := fun τ G => D.bk (τ.set i none) G, ct := fun τ G => D.ct (τ.set i none) G }
/-- a clause: the class, the slot of the name, the suite's reading -/
abbrev Cla := Value × Nat × (Addr → Value → Option Addr → TS)
def wAses (K : PySem.W.Frag) (m : Nat) (Wout : WX) (D : Ends) : List Cla → WX
  | [] => Wout
  | q :: r => fun cls d σ H => ∃ b, PySem.W.exmOne K cls q.1 = some b ∧ (b = true → ∀ z, H z = none → σ.length = m → q.2.2 z cls d (offE D q.2.1) (σ.set q.2.1 (some (.ref z))) H) ∧ (b = false → wAses K m Wout D r cls d σ H)
inductive AsOk (X : Cx) : List ExceptHandler → List Cla → Prop
  | nil : AsOk X [] []
  | cons {x n : Str} {c : Value} {i : Nat} {ts : Addr → Value → Option Addr → TS} {b : Stmt} {bs : List Stmt} {p q : Pos} {hds : List ExceptHandler} {l : List Cla} (nm : Names X x c) (at_ : X.N[i]? = some n) (lc : X.env.kindOf n = some .local)
      (su : ∀ (z : Addr) (o : Obj) (cls : Value) (d : Option Addr) (pn : List (Addr × Obj)), Zc cls d o → (∃ vs, o.data = .fields vs) → PSs (X.suite z ((z, o) :: pn)) (b :: bs) (ts z cls d)) (r : AsOk X hds l) :
      AsOk X (.ExceptHandler (some (.Name x p)) (some n) (b :: bs) q :: hds) ((c, i, ts) :: l)
/-- where the clauses are looked at: z is caught and stands on the ground -/
structure Down (X : Cx) (pins : List (Addr × Obj)) (σ : L2.St) (H : Hp) (cls : Value) (d : Option Addr) (z : Addr) (B : Heap) (s0 s : Shared) : Prop where
  inv : L2.Inv X pins σ H s0
  nb : ∀ (b : Addr) (o : Obj), s0.heap.get? b = some o → ¬b ∈ frs X.stack → B.get? b = some o
  up : s0.heap.UpToSlots s.heap
  fl : HandSPX.FlyingZ B (X.env :: X.outer) z (Zc cls d) s.heap
  na : H z = none
  os : s.os = s0.os
  ag : AllBare s.gens
section
variable {X : Cx} {pins : List (Addr × Obj)} {σ : L2.St} {H : Hp} {cls : Value} {d : Option Addr} {z : Addr} {B : Heap} {s0 s : Shared}
theorem Down.now (g : Down X pins σ H cls d z B s0 s) : L2.Inv X pins σ H s := g.inv.landed g.nb g.fl.1 g.up g.os g.ag
theorem Down.far (g : Down X pins σ H cls d z B s0 s) {o : Obj} {vs : Array Value} (e : s.heap.get? z = some o) (q : o.data = .fields vs) : z ∉ frs (X.env :: X.outer) := by
  intro hm
  obtain ⟨_, o1, e1, no⟩ := g.fl.2.2.1.mem hm
  have := e.symm.trans e1
  cases this
  exact no _ q
theorem Down.inside (g : Down X pins σ H cls d z B s0 s) (hf : X.env.frame = some X.env.locals) {o : Obj} {vs : Array Value} (e : s.heap.get? z = some o) (q : o.data = .fields vs) : L2.Inv (X.suite z ((z, o) :: (X.pn ++ pins))) [] σ H s := by
  have f := g.far e q
  refine g.now.suite e q g.na (fun w => f ?_) (fun hm => f ?_)
  · exact List.mem_filterMap.mpr ⟨X.env, List.mem_cons_self, hf.trans (congrArg some w.symm)⟩
  · obtain ⟨v, hv, w⟩ := List.mem_filterMap.mp hm
    exact List.mem_filterMap.mpr ⟨v, List.mem_cons_of_mem _ hv, w⟩
/-- no clause is left: the exception goes on -/
theorem Down.on {D : Ends} {Wout : WX} (g : Down X pins σ H cls d z B s0 s) (hs : X.stack = X.env :: X.outer) (hf : X.env.frame = some X.env.locals) (tk : Takes X Wout) (w : Wout cls d σ H) :
    wpAny (model X.prog X.w) X.A (handleBy (.ref z) X.env []) (SP X pins D) X.xe s := by
  refine wpAny_handleBy_nil ?_
  obtain ⟨_, _, _, o, vs, tb, _, _, e, _, q, e1, _⟩ := id g.fl
  have out : wpAny (model X.prog X.w) X.A (setFlight (.ref z) X.env.frame) (fun _ t => wpAny (model X.prog X.w) X.A (throw (.ref z) : Sem Flow) (SP X pins D) X.xe t) X.xe s := by
    rw [hf]
    exact HandSPX.setFlight_upZ g.fl fun k hk uk => wpAny_throw (tk _ _ ⟨z, B, s0, pins, σ, H, cls, d, rfl, g.inv, g.nb, g.up.trans uk, .inr (.inr (hs ▸ hk)), g.na, g.os, g.ag, w⟩)
  unfold PySem.passOn
  refine wpAny_bind (wpAny_field e q e1 ?_)
  rw [if_neg (by simp)]
  first
    | exact wpAny_bind out
    | exact wpAny_bind (wpAny_pure (wpAny_bind out))
end
section
variable {X : Cx}
/-- the clauses, one after the other -/
theorem ases_go (hs : X.stack = X.env :: X.outer) (hf : X.env.frame = some X.env.locals) (hN : X.N.Nodup) {Wout : WX} (tk : Takes X Wout) {D : Ends} {pins : List (Addr × Obj)} {σ : L2.St} {H : Hp} {cls : Value} {d : Option Addr} {z : Addr} {B : Heap} {s0 s : Shared} (g : Down X pins σ H cls d z B s0 s) :
    ∀ {hds : List ExceptHandler} {l : List Cla}, AsOk X hds l → wAses X.K X.N.length Wout D l cls d σ H → wpAny (model X.prog X.w) X.A (handleBy (.ref z) X.env hds) (SP X pins D) X.xe s := by
  intro hds l hk
  have ok := g.inv.ok
  induction hk with
  | nil => exact g.on hs hf tk
  | @cons x n c i ts b bs p q hds l nm at_ lc su r ih =>
    rintro ⟨yes, e, h1, h2⟩
    obtain ⟨o, vs, eo, zo, qo⟩ := g.fl.there
    refine wpAny_handleBy_cons (codeAny_handlers_test ?_) (by intro w; cases w)
    have cl : PySem.W.Looks (model X.prog X.w) s.heap (typeOf (.ref z)) cls := fun _ _ _ _ k w => wpAny_typeOf_ref (k _ _ eo) (by rw [zo.1]; exact w)
    have inn := g.inside hf eo qo
    have named : ∀ {Q : Value → Shared → Prop} {E : Value → Shared → Prop}, Q c s → wpAny (model X.prog X.w) (X.A.mark (some (.ref z))) (eval (.Name x p) X.env) Q E s := by
      intro Q E w
      obtain ⟨g1, g2, g3 | ⟨g3, g4, g5⟩⟩ := nm
      · exact ld_glob (X := X.suite z ((z, o) :: (X.pn ++ pins))) inn g1 g3 w g2
      · exact ld_blt (X := X.suite z ((z, o) :: (X.pn ++ pins))) inn g1 g3 g4 w g5 g2
    refine named ((PySem.W.exm_one (M := model X.prog X.w) g.now.kIn cl e).here ?_)
    cases yes with
    | false => exact ih (h2 rfl)
    | true =>
      refine codeAny_handlers_suite_as (HandSPX.lands_againZ g.fl fun k fk uk => ?_)
      have g' : Down X pins σ H cls d z B s0 { s with heap := k } := ⟨g.inv, g.nb, g.up.trans uk, fk, g.na, g.os, g.ag⟩
      obtain ⟨o', vs', eo', zo', qo'⟩ := fk.there
      refine store_ok (X := X.suite z ((z, o') :: (X.pn ++ pins))) (v := .ref z) (g'.inside hf eo' qo') hN at_ (.inl lc) rfl (fun t it => ?_) (.inr lc)
      refine wpAny_mono ((su z o' cls d (X.pn ++ pins) zo' ⟨_, qo'⟩).run [] t _ H _ it (h1 rfl z g.na g.inv.len)) (fun f t' ht => ?_) (fun _ _ no => no.elim)
      have gone : ∀ {τ : L2.St} {G : Hp} {Q : Shared → Prop}, L2.Inv (X.suite z ((z, o') :: (X.pn ++ pins))) [] τ G t' → (∀ t1, L2.Inv X pins (τ.set i none) G t1 → Q t1) →
          wpAny (model X.prog X.w) X.A (do bindName X.env n .none; unbindBehindTheSuite X.env n q) (fun _ t1 => Q t1) X.xe t' := fun it' w => gone_ok (it'.unsuite ok) hN at_ lc w
      cases f with
      | ret u =>
        obtain ⟨_, _, _, it', ru, w⟩ := ht
        exact gone it' fun _ i1 => ⟨_, _, _, i1, ru, w⟩
      | next => obtain ⟨_, _, it', w⟩ := ht; exact gone it' fun _ i1 => ⟨_, _, i1, w⟩
      | brk => obtain ⟨_, _, it', w⟩ := ht; exact gone it' fun _ i1 => ⟨_, _, i1, w⟩
      | cont => obtain ⟨_, _, it', w⟩ := ht; exact gone it' fun _ i1 => ⟨_, _, i1, w⟩
/-- try: body / except x as n: .. / except y as n: .. -/
theorem ps_try_ases {body : List Stmt} {h1 : ExceptHandler} {hds : List ExceptHandler} {l : List Cla} {pos : Pos} {tb : WX → TS} {Wout : WX} (hs : X.stack = X.env :: X.outer) (hf : X.env.frame = some X.env.locals) (hN : X.N.Nodup) (tk : Takes X Wout)
    (hb : ∀ (W : WX) (pn : List (Addr × Obj)) (xe : Value → Shared → Prop), Takes (X.tr pn xe) W → PassesOwn (model X.prog X.w) X.A X.env xe → PSs (X.tr pn xe) body (tb W)) (hh : AsOk X (h1 :: hds) l) :
    PS X (.Try body (h1 :: hds) [] [] pos) (fun D σ H => tb (wAses X.K X.N.length Wout D l) D σ H) := by
  refine ⟨fun pins s σ H D I h => wpAny_Try_except ?_⟩
  have ok := I.ok
  have fr : X.A.frames = some (X.env :: X.outer) := ok.frames.trans (congrArg some hs)
  refine wpAny_mono ((hb (wAses X.K X.N.length Wout D l) (X.pn ++ pins) _ ?_ PassesOwn.looking).run [] s σ H D (I.toTry _) h) ?_ (fun _ _ w => w)
  · rintro u t ⟨z, B, s0, pins', σ', H', cls, d, rfl, I', nb, up, sky, na, os, ag, w⟩
    show wpAny (model X.prog X.w) X.A (noteFrame (.ref z) X.env) _ _ _
    have sky' : Sky B (X.env :: X.outer) z (Zc cls d) X.env.locals t.heap := hs ▸ sky
    exact Sky.land Zc.steady fr hf sky' fun k fk uk => ases_go (s := { t with heap := k }) hs hf hN tk ⟨I'.ofTry ok, nb, up.trans uk, fk, na, os, ag⟩ hh w
  · intro f t ht
    cases f with
    | next => obtain ⟨_, _, it, w⟩ := ht; exact wpAny_execs_nil ⟨_, _, it.ofTry ok, w⟩
    | brk => obtain ⟨_, _, it, w⟩ := ht; exact ⟨_, _, it.ofTry ok, w⟩
    | cont => obtain ⟨_, _, it, w⟩ := ht; exact ⟨_, _, it.ofTry ok, w⟩
    | ret u => obtain ⟨_, _, _, it, ru, w⟩ := ht; exact ⟨_, _, _, it.ofTry ok, ru, w⟩
end
/-! ### isinstance(e, c) of a caught exception with fields of its own -/
def rIsED (K : PySem.W.Frag) (D a dd : Addr) : List V → Hp → VK → Prop := fun vs H Q => ∃ (c : V) (cv : Value) (b : Bool) (fs : List (Str × V)), vs = [.ref a, c] ∧ clsD c = some cv ∧ PySem.W.kitOne K (.ref D) cv = some b ∧ H dd = some (.xd fs) ∧ Q (.bl b) H
theorem call_isED {X : Cx} {a D dd : Addr} {o : Obj} {pn : List (Addr × Obj)} (C : ExcC X.K D) (hz : Zc (.ref D) (some dd) o) (hf : ∃ vs, o.data = .fields vs) : CallR (X.suite a ((a, o) :: pn)) (.builtin "isinstance") (rIsED X.K D a dd) := by
  rintro pins s σ H xs us Q I r ⟨c, cv, b, fs, rfl, hc, e, hd, q⟩
  obtain ⟨u, us', rfl, ru, r⟩ : ∃ u us', us = u :: us' ∧ L2.RelV (.ref a) u ∧ Vals [c] us' := by cases r with | cons x y => exact ⟨_, _, rfl, x, y⟩
  obtain ⟨v, rfl, rv⟩ := vals1 r
  obtain rfl : u = Value.ref a := ru
  have ev : v = cv := by
    cases c with
    | ty n => cases hc; exact rv
    | ref A => cases hc; exact rv
    | _ => cases hc
  subst ev
  obtain ⟨g, _⟩ := I.pin (a, o) (List.mem_append_left _ List.mem_cons_self)
  obtain ⟨vs, hv⟩ := hf
  have hx : ObjOk X.prog X.w H s.heap dd (.xd fs) := I.hok dd _ hd
  obtain ⟨mA, hns, hr⟩ := hx
  obtain ⟨od, ho, _⟩ := lookIn_ns hns
  have J : PySem.W.InstAt s.heap a o D (some od) := ⟨g, hz.1, by unfold PySem.W.notCls; rw [hv] <;> rfl, by rw [hz.2]; exact ho⟩
  have cl : (PySem.W.clsIn X.K D).isSome = true := by
    obtain ⟨cd, h, _⟩ := PySem.W.any_some C.hd
    rw [h] <;> rfl
  exact PySem.W.kia_one (PySem.W.kitx_exc cl C.hg C.hk C.hs C.ha C.hn C.ht C.hm) I.kIn J e (fun z => nomatch z) fun tk => ⟨.bl b, H, I.kept (t' := tk) fun _ _ z => z, rfl, q⟩

/-- what is known of the exception NoTable -/
structure NoTableT (K : PySem.W.Frag) (mg : Str → Option Value) (CR CE CN : Addr) : Prop where
  ex : ExcC K CR
  xf : XfC K CR
  no : PySem.W.findIn K (.ref CR) "at" = some none
  g_CodeError : mg "CodeError" = some (.ref CE)
  g_NoCode : mg "NoCode" = some (.ref CN)
  g_NoTable : mg "NoTable" = some (.ref CR)
  i1 : PySem.W.kitOne K (.ref CR) (.ref CE) = some true
  em1 : PySem.W.exmOne K (.ref CR) (.ref CN) = some false
  em3 : PySem.W.exmOne K (.ref CR) (.ref CR) = some true
/-- the def that catches: what it makes of what it calls -/
def TTCaught (CR : Addr) : (XK → Hp → VK → Prop) → Hp → VK → Prop := fun tl H Q =>
  tl (fun cls d H' => cls = .ref CR ∧ ∃ (dd : Addr) (v : V), d = some dd ∧ H' dd = some (.xd [("at", v)]) ∧ ∀ p H'', H' p = none → Same H' H'' → H'' p = some (.tup [.str "table", v]) → Q (.ref p) H'') H (fun _ H1 => Q .non H1)
section
variable {X : Cx}
abbrev scaught : Stmt := top 50
theorem sccaught : FnScope ["_law_ask", "e"] ["_law_ask"] (defScope scaught) := ⟨rfl, rfl, rfl, by decide +kernel, rfl, by decide +kernel, by decide +kernel⟩

theorem r_isED {K : PySem.W.Frag} {D a dd : Addr} {vs : List V} {H : Hp} {Q : VK} : rIsED K D a dd vs H Q = ∃ (c : V) (cv : Value) (b : Bool) (fs : List (Str × V)), vs = [.ref a, c] ∧ clsD c = some cv ∧ PySem.W.kitOne K (.ref D) cv = some b ∧ H dd = some (.xd fs) ∧ Q (.bl b) H := rfl
theorem r_xf {a : Addr} {cls : Value} {d : Option Addr} {C : Addr} {f : Str} {te : TE} {σ : L2.St} {H : Hp} {Q : VK} : tXf a cls d C f te σ H Q = te σ H (fun x H1 => x = .ref a ∧ cls = .ref C ∧ ∃ (dd : Addr) (fs : List (Str × V)) (v : V), d = some dd ∧ H1 dd = some (.xd fs) ∧ fs.lookup f = some v ∧ Q v H1) := rfl
def trS (K : PySem.W.Frag) (CR CE z dd : Addr) : TS := tRet (tIf (tB (tCB (rIsED K CR z dd) (tCons (tVar 1) (tCons (tC (.ref CE)) tNil))))
  (tTup (tCons (tC (.str "table")) (tCons (tXf z (.ref CR) (some dd) CR "at" (tVar 1)) tNil))) (tC .non))
abbrev cau (X : Cx) (g : Addr) (cdg : Value) (s : Shared) (H : Hp) : Cx := (cxOf C8.CX0 X.prog X.w X.K X.mg X.base ["_law_ask", "e"] "_law_caught" (defScope scaught) g cdg X.A X.stack s H C8.E0).nox
theorem caught_gives {CR CE CN CW CB : Addr} {g : Addr} {cdg : Value} {q : Str} (T : Txt X.mg) (I : NoTableT X.K X.mg CR CE CN) (gW : X.mg "NoRows" = some (.ref CW)) (gB : X.mg "NoBytes" = some (.ref CB)) :
    LamX.GivesTo X ["_law_ask", "e"] "_law_caught" (defScope scaught) g cdg (defBody scaught) "_law_ask" q (TTCaught CR) := by
  intro f c' s H Q tl act hc h
  have hN : (["_law_ask", "e"] : List Str).Nodup := by decide
  refine ⟨_, pss_cons (ps_try_ases (X := (cxOf C8.CX0 X.prog X.w X.K X.mg X.base ["_law_ask", "e"] "_law_caught" (defScope scaught) g cdg X.A X.stack s H C8.E0).nox)
    (tb := fun W D σ H => ∃ Ech : XK, (∀ cls d σ' H', Ech cls d H' → W cls d σ' H') ∧ σ[0]? = some (some (.ref f)) ∧ H c' = some (LamX.CodeO c' q) ∧ tl Ech H (fun _ H1 => D.nx σ H1))
    rfl rfl hN LamX.takes0 (fun W pn xe tk _ => ?_)
    (.cons (i := 1) ⟨rfl, by decide, .inl I.g_NoCode⟩ rfl rfl (fun z o cls d pn hz hf => pss_one ps_never)
      (.cons (i := 1) (ts := fun z cls d D σ H => ∃ dd, cls = Value.ref CR ∧ d = some dd ∧ trS X.K CR CE z dd D σ H) ⟨rfl, by decide, .inl I.g_NoTable⟩ rfl rfl (fun z o cls d pn hz hf => ?_)
      (.cons (i := 1) ⟨rfl, by decide, .inl gW⟩ rfl rfl (fun z o cls d pn hz hf => pss_one ps_never) (.cons (i := 1) ⟨rfl, by decide, .inl gB⟩ rfl rfl (fun z o cls d pn hz hf => pss_one ps_never) .nil)))))
    (pss_one (ps_ret pe_non)), ?_⟩
  · refine ⟨fun pins s' σ H' D I h' => ?_⟩
    obtain ⟨Ech, hW, h1, h2, h3⟩ := h'
    exact (pss_one (ps_expr (act W pn xe Ech _ _ tk hW))).run pins s' σ H' D I ⟨h1, h2, h3⟩
  · refine ⟨fun pins s' σ H' D J h' => ?_⟩
    obtain ⟨dd, rfl, rfl, h'⟩ := h'
    have is1 : CallR ((cau X g cdg s H).suite z ((z, o) :: pn)) (.builtin "isinstance") (rIsED X.K CR z dd) := call_isED (X := cau X g cdg s H) I.ex hz hf
    refine PSs.run ?_ pins s' σ H' D J h'
    exact pss_one (ps_ret (pe_ifExp (pt_val (pe_callB is1 (by rfl) T.b_isinstance (by decide +kernel) (pa_cons (pv 1) (pa_cons (pe_glob (v := .ref _) rfl I.g_CodeError rfl) pa_nil))))
      (pe_tup (pa_cons pe_str (pa_cons (pe_xf (X := cau X g cdg s H) I.xf I.no hz hf (pv 1)) pa_nil))) pe_non))
  · refine ⟨_, ?_, rfl, hc, h⟩
    rintro cls d σ' H' ⟨rfl, dd, v, rfl, hd, k⟩
    refine ⟨false, I.em1, (fun e => nomatch e), fun _ => ⟨true, I.em3, fun _ z hz hl => ⟨dd, rfl, rfl, ?_⟩, fun e => nomatch e⟩⟩
    obtain ⟨y0, y1, rfl⟩ : ∃ y0 y1, σ' = [y0, y1] := by
      match σ', hl with
      | [y0, y1], _ => exact ⟨y0, y1, rfl⟩
    show trS X.K CR CE z dd _ [y0, some (.ref z)] H'
    unfold trS
    have i1 := I.i1
    simp only [r_seq, r_next, r_brk, r_cont, r_asg, r_name, r_ret, r_retN, r_drop, r_ifs, r_never, r_var, r_c, r_op, r_un, r_if, r_tst, r_b, r_not, r_and, r_or, r_andV, r_orV, r_notV, r_nil, r_cons, r_tup, r_lst, r_cb, r_call, r_bm, r_bm0, r_sl, r_nopart, r_part, r_rev, r_gnil, r_gcons, r_gsub, r_par, r_aug, r_chain, r_I0, r_I, r_U, r_ixd, r_lend, r_tupd, r_listd, r_sld, r_app, r_ext, r_reverse, r_setl, r_cat, r_int1, r_eqS, r_neS, scal_ii, scal_bb, scal_ss, at0, at1, at2, sq_lst, sq_tup, isLst_lst, List.getElem?_cons_zero, List.getElem?_cons_succ, List.set_cons_zero, List.set_cons_succ, V.int.injEq, V.bl.injEq, V.ref.injEq, V.str.injEq, HO.lst.injEq, HO.tup.injEq, Option.some.injEq, exists_eq_left', exists_eq_left, List.cons.injEq, and_true, true_and, decide_eq_true_eq, reduceCtorEq, false_and, exists_false, or_false, false_or, exists_const, and_assoc, exists_and_left, List.append_nil, ix0, ix1, ix2, cm_mod, cdw1009, cdw2003, cdw7, cdw64, cdw2, cm104729, cm2, cm3, upd_same, List.length_cons, List.length_nil, Int.reduceLT, Int.reduceLE, Nat.reduceAdd, Nat.reduceLeDiff, Nat.reduceLT, Int.reduceToNat, r_for1, r_forL, r_forT, r_lcL, r_lc1, r_yes, r_gtupD, wipe_0, wipe_1, List.cons_append, List.nil_append, r_forS, r_ipI, ite_false, ite_true, Bool.not_true, Bool.not_false, decide_true, decide_false, r_isd, r_islt, cD_ty, cD_ref, tD_non, tD_bl, tD_int, tD_str, tD_ref, tH_lst, tH_tup, tH_dK, tH_ins, ki_self, ki_int_bool, ki_non_int, ki_str_int, ki_lt_lst, ki_lt_tup, r_fld, r_sfld, HO.ins.injEq, cx_K, hd, i1, r_isED, r_xf]
    exact ⟨_, rfl, _, rfl, v, rfl, szl (by decide), fun p hp => k p _ hp (Same.new' (Same.refl H') hp) upd_same⟩
end
end C49

set_option maxHeartbeats 2000000
namespace C49
open PySem PySem.Spec PyProof.Rows L2
section
variable {X : Cx}
/-! ### the script + a written list -/
def rCatS (K : PySem.W.Frag) : R2 := fun x y H Q => ∃ l b xs zs, x = .ref l ∧ y = .ref b ∧ SqL K H l xs ∧ H b = some (.lst zs) ∧ xs.length + zs.length ≤ sizeLine ∧ ∀ p, H p = none → Q (.ref p) (L2.upd H p (.lst (xs ++ zs)))
theorem op_catS : OpR X (binaryOp .Add) (rCatS X.K) := by
  rintro pins s σ H x y v u Q I rx ry ⟨l, b, xs, zs, rfl, rfl, hs, hb, hz, q⟩
  cases rx
  cases ry
  obtain ⟨i1, r1, ⟨⟨c1, d1, t1, sl1⟩, n1, e1, k1, _, k2⟩, _⟩ := I.list hs
  obtain ⟨_, i2, n2, r2, l2, e2⟩ := I.lstM hb
  dsimp only at k1 k2
  subst k1 k2
  have l1 := r1.length
  refine concat_meets ⟨_, e1, rfl⟩ ⟨_, e2, rfl⟩ noFill_list_add seq_list_add PySem.F.slot_list_add PySem.F.entry_list_add (PySem.F.args_list_add_2 _ _) (list_addW l b i1.toArray i2.toArray n1 n2 d1 none sl1 #[] (by rw [List.size_toArray, List.size_toArray]; omega)) ⟨e1, e2, ?_⟩
  rw [show i1.toArray ++ i2.toArray = (i1 ++ i2).toArray from by simp]
  exact ⟨.ref _, _, I.lnew (t' := s.toks) (r1.append r2) (by rw [List.length_append]; omega), rfl, q _ I.fresh⟩
/-! ### repr of data -/
def rReprD (K : PySem.W.Frag) : List V → Hp → VK → Prop := fun vs H Q => ∃ (a : Addr) (d : PyData), vs = [.ref a] ∧ Dp K H (.ref a) d ∧ d.showable = true ∧ d.hasDict = false ∧ d.depth ≤ 10 ∧ d.shown.length ≤ sizeLine ∧ Q (.str d.shown) H
theorem call_repr_D (hg : X.A.guards = some []) (hu : X.A.units + 20 < cLine) : CallR X (.builtin "repr") (rReprD X.K) := by
  rintro pins s σ H xs us Q I r ⟨a, d, rfl, hd, h1, h2, h3, h4, q⟩
  obtain ⟨v, rfl, rv⟩ := vals1 r
  obtain ⟨as, rd⟩ := Dp.reads I d _ v hd rv
  obtain rfl : v = Value.ref a := rv
  exact repr_of_reads' rd h1 (fun z => by rw [h2] at z; cases z) hg (by omega) (fun _ _ e => e) (fun h' u tk k => ⟨.str d.shown, H, I.kept (t' := tk) k, ⟨_, rfl⟩, q⟩) h4
/-! ### a call by one keyword; a def that may raise -/
structure CalX (P : Program) (w : World) (K : PySem.W.Frag) (mg : Str → Option Value) (base : Heap) (k : Nat) (x y : Str) (sp : Sp) : Prop where
  ex : ∃ f fd, FnOk P w K mg base (L2.CX P w) k f fd [y] sp ∧ mg x = some (.ref f) ∧ PySem.W.keepIn K (.ref f) = true ∧ Binds K fd [y] [] ∧ KBn K fd [y] 0 [y] (fun _ ws => ws) (fun _ zs => zs)
theorem pe_calX {W : WX} {E : XK} {k : Nat} {x y : Str} {sp : Sp} {e : Expr} {t : TA} {p pos : Pos} (C : CalX X.prog X.w X.K X.mg X.base k x y sp) (hr : Room k X.A) (hg : Gl X x) (tk : Takes X W) (hW : ∀ cls d σ H, E cls d H → W cls d σ H) (ha : PA X [e] t)
    (hdb : (x == ("__debug__" : Str)) = false := by decide) (he : starEach [e] X.env = (false, eval e X.env) :: starEach [] X.env := by rfl) (hpl : (backTo pos (starEach [] X.env)).any (·.1) = false := by rfl) :
    PE X (.Call (.Name x p) [e] [] pos) (tCall sp [] E t) := by
  obtain ⟨f, fd, F, m, kp, b, _⟩ := C.ex
  exact pe_call F hr hg m kp b .nil (passes_call tk hW) ha hdb he hpl
def QK1 (sp : Sp) (Q : VK) (E : XK) : List V → Hp → Prop := fun zs H1 => match zs with
  | [v] => sp [v] H1 Q E
  | _ => False
theorem qk1 {sp : Sp} {Q : VK} {E : XK} {zs : List V} {H : Hp} (h : QK1 sp Q E zs H) : ∃ v, zs = [v] ∧ sp [v] H Q E := by
  match zs, h with
  | [v], h => exact ⟨v, rfl, h⟩
def tCallK1 (sp : Sp) (E : XK) (te : TE) : TE := fun σ H Q => te σ H fun v H1 => sp [v] H1 Q E
theorem pe_calXK {W : WX} {E : XK} {k : Nat} {x y : Str} {sp : Sp} {e : Expr} {te : TE} {p pos kpos : Pos} (C : CalX X.prog X.w X.K X.mg X.base k x y sp) (hr : Room k X.A) (hg : Gl X x) (tk : Takes X W) (hW : ∀ cls d σ H, E cls d H → W cls d σ H) (ha : PE X e te)
    (hall : (backToKw pos (keywordEach [⟨some y, e, kpos⟩] X.env)).all (·.1.isSome) = true := by rfl) (hks : (backToKw pos (keywordEach [⟨some y, e, kpos⟩] X.env)).filterMap (·.1) = [y] := by rfl) (hdb : (x == ("__debug__" : Str)) = false := by decide)
    (hpl : ((backTo pos (starEach [] X.env)).any (·.1) || (backToKw pos (keywordEach [⟨some y, e, kpos⟩] X.env)).any (·.1.isNone)) = false := by rfl) :
    PE X (.Call (.Name x p) [] [⟨some y, e, kpos⟩] pos) (tCallK1 sp E te) := by
  obtain ⟨f, fd, F, m, kp, _, b⟩ := C.ex
  refine ⟨fun pins s σ H Q I h => wpAny_Call_Name_kw (ld_glob I hg m (PySem.W.callWith_KW0 (h₀ := X.base) I.ok.mod.kin kp hall ?_ hpl) hdb)⟩
  refine thn ((pk_cons (nm := some y) (kpos := kpos) ha pk_nil).run pos pins s σ H (QK1 sp Q E) I h) fun ws s2 ⟨zs, H2, I2, rz, q⟩ => ⟨I2.kIn, ?_⟩
  obtain ⟨v, rfl, q⟩ := qk1 q
  rw [hks]
  exact run_fnN (us := []) (vs := []) (n := 0) F hr b (passes_call tk hW) I2 .nil rz rfl rfl q
structure CalK (P : Program) (w : World) (K : PySem.W.Frag) (mg : Str → Option Value) (base : Heap) (k : Nat) (x y : Str) (sp : Sp) : Prop where
  ex : ∃ f fd, FnOk P w K mg base CX0 k f fd [y] sp ∧ mg x = some (.ref f) ∧ PySem.W.keepIn K (.ref f) = true ∧ Binds K fd [y] [] ∧ KBn K fd [y] 0 [y] (fun _ ws => ws) (fun _ zs => zs)
theorem CalK.cal {P : Program} {w : World} {K : PySem.W.Frag} {mg : Str → Option Value} {base : Heap} {k : Nat} {x y : Str} {sp : Sp} (C : CalK P w K mg base k x y sp) : Cal P w K mg base k x [y] sp := by
  obtain ⟨f, fd, F, m, kp, b, _⟩ := C.ex
  exact ⟨⟨f, fd, F, m, kp, b⟩⟩
theorem pe_calK {k : Nat} {x y : Str} {sp : Sp} {e : Expr} {te : TE} {p pos kpos : Pos} (C : CalK X.prog X.w X.K X.mg X.base k x y sp) (hr : Room k X.A) (hg : Gl X x) (ha : PE X e te)
    (hall : (backToKw pos (keywordEach [⟨some y, e, kpos⟩] X.env)).all (·.1.isSome) = true := by rfl) (hks : (backToKw pos (keywordEach [⟨some y, e, kpos⟩] X.env)).filterMap (·.1) = [y] := by rfl) (hdb : (x == ("__debug__" : Str)) = false := by decide)
    (hpl : ((backTo pos (starEach [] X.env)).any (·.1) || (backToKw pos (keywordEach [⟨some y, e, kpos⟩] X.env)).any (·.1.isNone)) = false := by rfl) :
    PE X (.Call (.Name x p) [] [⟨some y, e, kpos⟩] pos) (tCallK1 sp E0 te) := by
  obtain ⟨f, fd, F, m, kp, _, b⟩ := C.ex
  refine ⟨fun pins s σ H Q I h => wpAny_Call_Name_kw (ld_glob I hg m (PySem.W.callWith_KW0 (h₀ := X.base) I.ok.mod.kin kp hall ?_ hpl) hdb)⟩
  refine thn ((pk_cons (nm := some y) (kpos := kpos) ha pk_nil).run pos pins s σ H (QK1 sp Q E0) I h) fun ws s2 ⟨zs, H2, I2, rz, q⟩ => ⟨I2.kIn, ?_⟩
  obtain ⟨v, rfl, q⟩ := qk1 q
  rw [hks]
  exact run_fnN (us := []) (vs := []) (n := 0) F hr b pass0 I2 .nil rz rfl rfl q
end
/-- one parameter, given by its name -/
theorem kw1 {K : PySem.W.Frag} {x qual : Str} {params : Arguments} {body : List Stmt} {scope : Scope} {f : Addr} {fd : FuncData} {p : Str} (F : FunD K x qual params body scope [] [] f fd)
    (h : ∀ (kV doc pm : Value) (an : Option Addr) (cdv ct w : Value), bindArgs (PySem.W.fnOf x qual params body scope .none kV doc pm an cdv ct) ⟨[], [(p, w)]⟩ = pure [(p, w)]) : KBn K fd [p] 0 [p] (fun _ ws => ws) (fun _ zs => zs) := by
  obtain ⟨oc, od, dV, kV, doc, pm, an, cdv, ct, osl, rfl, lk, hcd, hD, hK⟩ := F.ex
  rcases hD with ⟨_, rfl⟩ | ⟨e, _⟩
  · refine ⟨fun s us ws _ l1 l2 => ?_, fun _ r => r⟩
    match us, l1, ws, l2 with
    | [], _, [w], _ => exact .of_eq (h kV doc pm an cdv ct w)
  · exact absurd rfl e

/-! ### isinstance of built-in kinds alone -/
def tyO : Option HO → Option String
  | some (.lst _) => some "list"
  | some (.tup _) => some "tuple"
  | some (.dK _) => some "dict"
  | _ => none
def tyP (H : Hp) : V → Option String
  | .non => some "NoneType"
  | .bl _ => some "bool"
  | .int _ => some "int"
  | .str _ => some "str"
  | .ref a => tyO (H a)
  | _ => none
theorem tyP_ok {K : PySem.W.Frag} {H : Hp} {x : V} {n : String} (h : tyP H x = some n) : TyX K H x (.type n) := by
  cases x with
  | non => cases h; exact .base .non
  | bl b => cases h; exact .base (.bl b)
  | int i => cases h; exact .base (.int i)
  | str s => cases h; exact .base (.str s)
  | ref a =>
    have h2 : tyO (H a) = some n := h
    cases e : H a with
    | none =>
      rw [e] at h2
      cases h2
    | some o =>
      rw [e] at h2
      cases o with
      | lst xs => cases h2; exact .base (.lst e)
      | tup xs => cases h2; exact .base (.tup e)
      | dK kvs => cases h2; exact .base (.dK e)
      | _ => cases h2
  | _ => cases h
theorem tyP_b {H : Hp} {x : V} {n : String} (h : tyP H x = some n) : n ∈ (["NoneType", "bool", "int", "str", "list", "tuple", "dict"] : List String) := by
  cases x with
  | non => cases h; decide
  | bl b => cases h; decide
  | int i => cases h; decide
  | str s => cases h; decide
  | ref a =>
    have h2 : tyO (H a) = some n := h
    cases e : H a with
    | none =>
      rw [e] at h2
      cases h2
    | some o =>
      rw [e] at h2
      cases o with
      | lst xs => cases h2; decide
      | tup xs => cases h2; decide
      | dK kvs => cases h2; decide
      | _ => cases h2
  | _ => cases h
def subT (n m : String) : Bool := n == m || (n == "bool" && m == "int")
theorem kit_b {K : PySem.W.Frag} {n m : String} (hn : n ∈ (["NoneType", "bool", "int", "str", "list", "tuple", "dict"] : List String)) (hm : m ∈ (["bool", "int", "str", "list", "tuple"] : List String)) : PySem.W.kitOne K (.type n) (.type m) = some (subT n m) := by
  simp only [List.mem_cons, List.not_mem_nil, or_false] at hn hm
  rcases hm with rfl | rfl | rfl | rfl | rfl <;> rcases hn with rfl | rfl | rfl | rfl | rfl | rfl | rfl
  all_goals first | exact ki_self | exact kit_ty (by decide +kernel)
def rIsP (m : String) : List V → Hp → VK → Prop := fun vs H Q => ∃ x n, vs = [x, .ty m] ∧ tyP H x = some n ∧ Q (.bl (subT n m)) H
theorem call_is_p {X : Cx} (m : String) (hm : m ∈ (["bool", "int", "str", "list", "tuple"] : List String) := by decide) : CallR X (.builtin "isinstance") (rIsP m) := CallR.imp' (call_isi (X := X)) fun vs H Q ⟨x, n, e, h, q⟩ =>
  ⟨x, .ty m, .type n, .type m, _, e, clsD_ok rfl, tyP_ok h, kit_b (tyP_b h) hm, q⟩
def rIsPlt : List V → Hp → VK → Prop := fun vs H Q => ∃ x tp n, vs = [x, .ref tp] ∧ H tp = some (.tup [.ty "list", .ty "tuple"]) ∧ tyP H x = some n ∧ Q (.bl (subT n "list" || subT n "tuple")) H
theorem kit_lt {K : PySem.W.Frag} {n : String} (hn : n ∈ (["NoneType", "bool", "int", "str", "list", "tuple", "dict"] : List String)) : PySem.W.kitAny K (.type n) [.type "list", .type "tuple"] = some (subT n "list" || subT n "tuple") := by
  have h1 := kit_b (K := K) hn (m := "list") (by decide)
  have h2 := kit_b (K := K) hn (m := "tuple") (by decide)
  unfold PySem.W.kitAny
  rw [h1]
  cases subT n "list" with
  | true => rfl
  | false =>
    show PySem.W.kitAny K (.type n) [.type "tuple"] = _
    unfold PySem.W.kitAny
    rw [h2]
    cases subT n "tuple" <;> rfl
theorem call_is_plt {X : Cx} : CallR X (.builtin "isinstance") rIsPlt := CallR.imp' (call_isiT (X := X)) fun vs H Q ⟨x, tp, n, e, h1, h2, q⟩ =>
  ⟨x, tp, _, .type n, _, _, e, h1, .cons (.ty "list") (.cons (.ty "tuple") .nil), tyP_ok h2, kit_lt (tyP_b h2), q⟩
/-! ### get of a written dict, with a default -/
def tKGet2 (K : PySem.W.Frag) (w : World) (td ty tx : TE) : TE := fun σ H Q => td σ H fun x H1 => ∃ (p : Addr) , x = .ref p ∧ ty σ H1 fun y H2 => tx σ H2 fun d H3 => ∃ z : Str, y = .str z ∧ ((∃ v, KDct K w p z v ∧ Q v H3) ∨ (KMiss K w p z ∧ Q d H3))
def IsKD (K : PySem.W.Frag) (w : World) (p : Addr) : Prop := ∃ es n, K.lookup p = some ⟨.type "dict", none, .dict es n, #[]⟩ ∧ PySem.W.KeysLit w.params es.toList ∧ (p == sysModules) = false
theorem pe_kget2 {X : Cx} {o e f : Expr} {apos cpos : Pos} {d : Addr} {ty tx : TE} (D : IsKD X.K X.w d) (ho : PE X o (tC (.ref d))) (he : PE X e ty) (hf : PE X f tx) (m : M2 X o "get" apos e f cpos) : PE X (.Call (.Attribute o "get" apos) [e, f] [] cpos) (tKGet2 X.K X.w (tC (.ref d)) ty tx) := by
  obtain ⟨es, n, hl, hk, lo⟩ := D
  refine ⟨fun pins s σ H Q I h => ?_⟩
  refine wpAny_Call_method m.base m.few m.line PySem.F.plainAttrs_dict PySem.F.slot_dict_get PySem.F.type_dict_get (thn (ho.run pins s σ H (fun x H1 => x = .ref d ∧ ∃ (p : Addr) , x = .ref p ∧ ty σ H1 fun y H2 => tx σ H2 fun d H3 => ∃ z : Str, y = .str z ∧ ((∃ v, KDct X.K X.w p z v ∧ Q v H3) ∨ (KMiss X.K X.w p z ∧ Q d H3))) I ⟨rfl, h⟩) fun u s1 ⟨x, H1, I1, rx, ex0, a, ex, q1⟩ => ?_)
  subst ex0
  cases ex
  obtain rfl : u = Value.ref d := rx
  have hm := PySem.W.mapOf_K (prog := X.prog) (w := X.w) I1.kIn hl hk
  refine ⟨hm.typeIs, fun b q => ?_, ?_⟩
  · cases q
    exact ⟨_, I1.kIn _ _ hl, rfl⟩
  rw [m.trees]
  refine Calls.callWith_builtin rfl (Calls.evalArgs_plain (Calls.spliced_cons (thn (he.run pins s1 σ H1 _ I1 q1) fun iv s2 ⟨y, H2, I2, ry, q2⟩ =>
    Calls.spliced_cons (thn (hf.run pins s2 σ H2 _ I2 q2) fun fv s3 ⟨z, H3, I3, rz, zs, ez, q3⟩ => Calls.spliced_nil ?_))))
  subst ez
  obtain ⟨t, rfl⟩ := (show ∃ t, iv = Value.str zs t from ry)
  have hm3 := PySem.W.mapOf_K (prog := X.prog) (w := X.w) I3.kIn hl hk
  refine call_meetsIn PySem.F.slot_dict_get hm3.typeIs PySem.F.entry_dict_get (PySem.F.args_dict_get_3 _ _ _) (meets_dict_get_default (strKind X.prog X.w) d (strKind_is X.prog X.w zs t) lo fv) ⟨_, hm3, ?_⟩
  rcases q3 with ⟨v, ⟨es2, n2, u, hl2, hk2, e2, ru⟩, q⟩ | ⟨⟨es2, n2, hl2, hk2, lo2, e2⟩, q⟩
  · rw [PySem.W.find_K hl e2]
    exact ⟨v, H3, I3.tok _, ru, q⟩
  · rw [PySem.W.find_K hl e2]
    exact ⟨z, H3, I3.tok _, rz, q⟩

/-! ### a lambda that is handed on: called two frames further in -/
theorem un_comp {fs fs' : List Addr} {H H2 HZ : Hp} {h h2 hZ : Heap} (a : Un fs [] H H2 h h2) (b : Un fs' [] H2 HZ h2 hZ) (hfs : ∀ x ∈ fs', x ∈ fs ∨ h.get? x = none) : Un fs [] H HZ h hZ where
  keep := fun c ob q n hc hx => b.keep c ob (a.keep c ob q n hc hx) (a.free c ob q n hx) (fun z => by
    rcases hfs c z with e | e
    · exact hc e
    · rw [q] at e
      cases e) hx
  slot := fun c ob q n hc hx => by
    obtain ⟨sl, e1⟩ := a.slot c ob q n hc hx
    obtain ⟨sl', e2⟩ := b.any e1 (a.free c ob q n hx) hx
    exact ⟨sl', e2⟩
  free := fun c ob q n hx => by
    obtain ⟨o', e1⟩ := a.there c ob q hx
    exact b.free c o' e1 (a.free c ob q n hx) hx
  there := fun c ob q hx => by
    obtain ⟨o', e1⟩ := a.there c ob q hx
    exact b.there c o' e1 hx
  tups := fun c xs q => b.tups c xs (a.tups c xs q)
  frzs := fun c ob xs q => b.frzs c ob xs (a.frzs c ob xs q)
  tbls := fun c ps q => by
    obtain ⟨m1, e1⟩ := a.tbls c ps q
    obtain ⟨m2, e2⟩ := b.tbls c _ e1
    exact ⟨m1 ++ m2, by rw [e2, Array.append_assoc]⟩
section
variable {X : Cx} {pins : List (Addr × Obj)} {σ : L2.St} {H H2 : Hp} {s s2 : Shared}
/-- x(), in a def that got the lambda from a def that got it: outer2 its callers' frames, s2 the state that it was called in -/
theorem pe_act2 {CXg : CXT} {Eg : XK} {Ng : List Str} {qg : Str} {sg : Scope} {g f c' : Addr} {cdg pm ctv : Value} {params : Arguments} {body : Expr} {scope : Scope} {k i : Nat} {a : Str} {pn : List (Addr × Obj)} {xe : Value → Shared → Prop} {W : WX} {E : XK} {tb : TE} {p1 p2 : Pos} {A2 : Around} {outer2 : List Env}
    (I : Inv X pins σ H s) (L : LamX.LamS X.env.scope scope)
    (un2 : ∀ (HZ : Hp) (hZ : Heap), Un (frs outer2) [] H2 HZ s2.heap hZ → Un (frs X.stack) [] H HZ s.heap hZ ∧ hZ.get? f = some (PySem.W.kla_obj "<lambda>" (X.env.qual ++ "<lambda>") params body scope (cloFrom X.env.cells scope.names []) pm c' ctv))
    (hbind : bindArgs (PySem.W.kla_fn "<lambda>" (X.env.qual ++ "<lambda>") params body scope (cloFrom X.env.cells scope.names []) pm (.ref c') ctv) ⟨[], []⟩ = pure [])
    (tk : Takes ((cxOf CXg X.prog X.w X.K X.mg X.base Ng qg sg g cdg A2 outer2 s2 H2 Eg).tr pn xe) W) (hW : ∀ cls d σ' H', E cls d H' → W cls d σ' H') (hr : Room (k + 1) (A2.deeper (envOfC qg sg s2.heap.objs.size g cdg)))
    (hbody : ∀ (A : Around) (outer : List Env) (s : Shared) (H : Hp), Room k (A.deeper (LamX.lamEnv X scope s.heap.objs.size f c')) → PE (LamX.lamCx X A outer s H E scope f c') body tb)
    (hN : Ng[i]? = some a) (hv : Vis sg a) (hd : (a == ("__debug__" : Str)) = false := by decide) (hcd : (a == ("__classdict__" : Str)) = false := by decide) :
    PE ((cxOf CXg X.prog X.w X.K X.mg X.base Ng qg sg g cdg A2 outer2 s2 H2 Eg).tr pn xe) (.Call (.Name a p1) [] [] p2)
      (fun σZ HZ Q => σZ[i]? = some (some (.ref f)) ∧ HZ c' = some (LamX.CodeO c' (X.env.qual ++ "<lambda>")) ∧ tb σ HZ Q) := by
  refine ⟨fun pinsZ sZ σZ HZ Q IZ h => ?_⟩
  obtain ⟨hs, hc, ht⟩ := h
  refine wpAny_Call_Name_kw (thn ((pe_var (pos := p1) (i := i) hN hv hd hcd).run pinsZ sZ σZ HZ (fun v H1 => v = .ref f ∧ H1 = HZ) IZ ⟨.ref f, hs, rfl, rfl⟩) fun u s1 ⟨v, H1, I1, r1, q1⟩ => ?_)
  obtain ⟨ev, eH⟩ := q1
  subst ev
  rw [eH] at I1
  obtain rfl : u = Value.ref f := r1
  obtain ⟨un, of1⟩ := un2 HZ s1.heap I1.base
  refine PySem.W.callWith_F0 ⟨_, _, _, _, of1⟩ ?_
  obtain ⟨⟨oc, vs, t, hoc, hdc, hvc⟩, _, _⟩ := I1.hok c' _ hc
  have rc : codeAny (model X.prog X.w) (A2.deeper (envOfC qg sg s2.heap.objs.size g cdg)) (.call (.ref f) ⟨[], []⟩) (CR (L2.CX X.prog X.w) (envOfC qg sg s2.heap.objs.size g cdg :: outer2) X.prog X.w HZ s1 Q E) s1 := by
    refine PySem.W.kla_callFunE hr.depth of1 rfl L.co L.gen rfl ⟨c', oc, vs, t, rfl, hoc, hdc, hvc⟩ ?_
    rw [hbind]
    refine wpAny_pure (wpAny_newFunctionEnv (fun y hy => (L.own y hy).2) (fun y hy => absurd hy (by simp)) (fun h₁ hns hsb => ⟨I1.nolimit.fresh _ hsb, ?_⟩) L.kind)
    show codeAny _ _ (.expr body (LamX.lamEnv X scope s1.heap.objs.size f c')) _ _
    have kp : ∀ b o, s1.heap.get? b = some o → h₁.get? b = some o := fun b o e => hsb.extBut b o (Nat.ne_of_lt (Heap.lt_size e)) (Heap.get?_push_of_some _ e)
    have J : Inv (LamX.lamCx X (A2.deeper (envOfC qg sg s2.heap.objs.size g cdg)) (envOfC qg sg s2.heap.objs.size g cdg :: outer2) s1 HZ E scope f c') [] σ HZ { s1 with heap := h₁, toks := s1.toks + ([] : List (Str × Value)).length } :=
      LamX.lam_start2 I L I1.env0 hr.hd un hns kp
    refine PySem.W.kla_codeExpr (wpAny_mono ((hbody _ _ s1 HZ (hr.deeper _)).run [] _ _ HZ Q J ht) (fun v s' hq => ?_) fun e s' hq => hq)
    obtain ⟨w', H', J', rv, q⟩ := hq
    exact ⟨w', H', J'.os, J'.bare, J'.base, J'.hok, rv, q⟩
  have hx : Passes (L2.CX X.prog X.w) ((cxOf CXg X.prog X.w X.K X.mg X.base Ng qg sg g cdg A2 outer2 s2 H2 Eg).tr pn xe) E := passes_call tk hW
  refine wpAny_call (codeAny_mono rc fun r s' hq => ?_)
  cases r with
  | error e => exact hx pinsZ σZ HZ s1 e s' I1 hq
  | ok fl =>
    cases fl with
    | ret u => exact I1.after hq
    | next => exact False.elim hq
    | brk => exact False.elim hq
    | cont => exact False.elim hq
end
/-- what the law's comparing def makes of a lambda and of what is due -/
def SameR (K : PySem.W.Frag) (CT : Addr) (c' : Addr) (q : Str) (tl : XK → Hp → VK → Prop) (v : V) (H : Hp) (Q : VK) : Prop :=
  (∃ j : Int, v = .int j ∧ TTCaught CT tl H (fun x H1 => 2 ≤ sizeLine ∧ ∀ p, H1 p = none → rEqD K x (.ref p) (L2.upd H1 p (HO.tup [.str "table", v])) Q)) ∨
  (∃ a xs, v = .ref a ∧ H a = some (.lst xs) ∧ TTCaught CT tl H (fun x H1 => if x = .non then H1 c' = some (LamX.CodeO c' q) ∧ tl C8.E0 H1 (fun x H1 => rReprD K [x] H1 (fun x H1 => rReprD K [v] H1 (fun y H2 => scal x y = true ∧ Q (.bl (decide (x = y))) H2))) else Q (.bl false) H1))
abbrev ssame : Stmt := top 52
theorem scsame : FnScope ["_law_ask", "_law_due"] ["_law_ask", "_law_due"] (defScope ssame) := ⟨rfl, rfl, rfl, by decide +kernel, rfl, by decide +kernel, by decide +kernel⟩

/-- a def as its callers see it, without a promise -/
structure DefK (K : PySem.W.Frag) (mg : Str → Option Value) (x : Str) (st : Stmt) (ps : List Str) (g : Addr) (cd : Value) : Prop where
  m : mg x = some (.ref g)
  kp : PySem.W.keepIn K (.ref g) = true
  code : PySem.W.codeIn K cd x = true
  ex : ∃ (oc : Value) (od : Option Addr) (dV kV doc pm ct : Value) (an : Option Addr) (osl : Array (Option Value)), K.lookup g = some ⟨oc, od, .func (PySem.W.fnOf x x (defArgs st) (defBody st) (defScope st) dV kV doc pm an cd ct), osl⟩ ∧
    Binds K (PySem.W.fnOf x x (defArgs st) (defBody st) (defScope st) dV kV doc pm an cd ct) ps []
abbrev Nsame : List Str := ["_law_ask", "_law_due"]
abbrev smx (X : Cx) (g : Addr) (cd : Value) (s : Shared) (H : Hp) : Cx := (cxOf C8.CX0 X.prog X.w X.K X.mg X.base Nsame "_law_same" (defScope ssame) g cd X.A X.stack s H C8.E0).nox
/-- what is called at last: in a frame of the comparing def itself, and in one of the def that catches, called there -/
structure Acts (X : Cx) (gS gC : Addr) (cdS cdC : Value) (s : Shared) (H : Hp) (f c' : Addr) (q : Str) (tl : XK → Hp → VK → Prop) : Prop where
  own : ∀ (p1 p2 : Pos), PE (smx X gS cdS s H) (.Call (.Name "_law_ask" p1) [] [] p2) (fun σZ HZ Q => σZ[0]? = some (some (.ref f)) ∧ HZ c' = some (LamX.CodeO c' q) ∧ tl C8.E0 HZ Q)
  on : ∀ (pins : List (Addr × Obj)) (σ1 : L2.St) (s4 : Shared) (H4 : Hp), Inv (smx X gS cdS s H) pins σ1 H4 s4 → ∀ (W : WX) (pn : List (Addr × Obj)) (xe : Value → Shared → Prop) (E : XK) (p1 p2 : Pos),
    Takes ((cxOf C8.CX0 X.prog X.w X.K X.mg X.base ["_law_ask", "e"] "_law_caught" (defScope scaught) gC cdC (smx X gS cdS s H).A (smx X gS cdS s H).stack s4 H4 C8.E0).tr pn xe) W → (∀ cls d σ' H', E cls d H' → W cls d σ' H') →
    PE ((cxOf C8.CX0 X.prog X.w X.K X.mg X.base ["_law_ask", "e"] "_law_caught" (defScope scaught) gC cdC (smx X gS cdS s H).A (smx X gS cdS s H).stack s4 H4 C8.E0).tr pn xe) (.Call (.Name "_law_ask" p1) [] [] p2) (fun σZ HZ Q => σZ[0]? = some (some (.ref f)) ∧ HZ c' = some (LamX.CodeO c' q) ∧ tl E HZ Q)
section
variable {X : Cx} {CR CE CN CW CB gS gC f c' : Addr} {cdS cdC : Value} {s : Shared} {H : Hp} {q : Str} {tl : XK → Hp → VK → Prop}
theorem pe_caught2 (T : Txt X.mg) (I : NoTableT X.K X.mg CR CE CN) (gW : X.mg "NoRows" = some (.ref CW)) (gB : X.mg "NoBytes" = some (.ref CB)) (D : DefK X.K X.mg "_law_caught" scaught ["_law_ask"] gC cdC) (A : Acts X gS gC cdS cdC s H f c' q tl) (hr : Room 2 (smx X gS cdS s H).A) (p p2 pos : Pos) :
    PE (smx X gS cdS s H) (.Call (.Name "_law_caught" p) [.Name "_law_ask" p2] [] pos) (fun σ1 H3 Q3 => σ1[0]? = some (some (.ref f)) ∧ H3 c' = some (LamX.CodeO c' q) ∧ TTCaught CR tl H3 Q3) := by
  obtain ⟨oc, od, dV, kV, doc, pm, ct, an, osl, lk, hb⟩ := D.ex
  refine ⟨fun pins s4 σ1 H4 Q I4 h => ?_⟩
  obtain ⟨h0, hc, ht⟩ := h
  refine wpAny_Call_Name_kw (ld_glob I4 (show Gl (smx X gS cdS s H) "_law_caught" from rfl) D.m ?_ (by decide))
  refine PySem.W.callWith_K (h₀ := X.base) I4.ok.mod.kin D.kp (thn ((pa_cons (pv 0) pa_nil : PA (smx X gS cdS s H) [.Name "_law_ask" p2] _).run pos pins s4 σ1 H4 (fun vs H' => vs = [.ref f] ∧ H' = H4) I4 ⟨_, h0, rfl, rfl⟩) fun us s5 ⟨vs, H5, I5, r, e1, e2⟩ => ⟨I5.kIn, ?_⟩) (by rfl) (by rfl)
  subst e1 e2
  cases r with
  | cons ru rr =>
  cases rr
  cases ru
  have rc : codeAny (model X.prog X.w) (smx X gS cdS s H).A (.call (.ref gC) ⟨[.ref f], []⟩) (L2.CR C8.CX0 (smx X gS cdS s H).stack X.prog X.w H5 s5 Q C8.E0) s5 := by
    refine LamX.run_ofS (N := ["_law_ask", "e"]) (ps := ["_law_ask"]) (us := [.ref f]) (vs := [.ref f]) lk D.code sccaught (k := 1) hr I5.env0 (hb s5 [.ref f] I5.kIn rfl) (.cons rfl .nil) rfl fun hr' => ?_
    obtain ⟨t', ht', hq'⟩ := caught_gives (X := smx X gS cdS s H) (g := gC) (cdg := cdC) (q := q) T I gW gB f c' s5 H5 Q tl (fun W pn xe E p1 p2 tk hW => A.on pins σ1 s5 H5 I5 W pn xe E p1 p2 tk hW) hc ht
    exact ⟨t', ht'.nox, hq'⟩
  refine wpAny_call (codeAny_mono rc fun r s6 hq => ?_)
  cases r with
  | error e => exact (show False from hq).elim
  | ok fl =>
    cases fl with
    | ret u => exact I5.after hq
    | next => exact False.elim hq
    | brk => exact False.elim hq
    | cont => exact False.elim hq
/-- the comparing def's body -/
theorem same_gives {v : V} {Q : VK} (T : Txt X.mg) (I : NoTableT X.K X.mg CR CE CN) (gW : X.mg "NoRows" = some (.ref CW)) (gB : X.mg "NoBytes" = some (.ref CB)) (D : DefK X.K X.mg "_law_caught" scaught ["_law_ask"] gC cdC) (A : Acts X gS gC cdS cdC s H f c' q tl) (hr : Room 2 (smx X gS cdS s H).A)
    (hgd : (smx X gS cdS s H).A.guards = some []) (hc : H c' = some (LamX.CodeO c' q)) (h : SameR X.K CR c' q tl v H Q) :
    ∃ t, PSs (smx X gS cdS s H) (defBody ssame) t ∧ t { nx := fun _ H' => Q .non H', rt := Q } (L2.start Nsame [.ref f, v]) H := by
  have hu64 : (smx X gS cdS s H).A.units + 64 < cLine := by have := hr.un; omega
  have hu20 : (smx X gS cdS s H).A.units + 20 < cLine := by have := hr.un; omega
  refine ⟨_, (pss_cons (ps_if (pt_val (pe_callB (call_is_p "int") (by rfl) T.b_isinstance (by decide +kernel) (pa_cons (pv 1) (pa_cons (pe_bltn (v := .ty "int") (by rfl) T.b_int (by decide +kernel) rfl) pa_nil))))
    (pss_one (ps_ret (pe_cmpR (op_eqD hu64) (pe_caught2 T I gW gB D A hr _ _ _) (pe_tup (pa_cons pe_str (pa_cons (pv 1) pa_nil))) (nomark _))))
    pss_nil)
  (pss_one (ps_ret (pe_and (pe_cmpR op_isN (pe_caught2 T I gW gB D A hr _ _ _) pe_non (nomark _)) (pe_one (pe_cmpR op_eq (pe_callB (call_repr_D hgd hu20) (by rfl) T.b_repr (by decide +kernel) (pa_cons (A.own _ _) pa_nil)) (pe_callB (call_repr_D hgd hu20) (by rfl) T.b_repr (by decide +kernel) (pa_cons (pv 1) pa_nil)) (nomark _))))))), ?_⟩
  show (_ : TS) _ [some (.ref f), some v] H
  simp only [r_seq, r_next, r_brk, r_cont, r_asg, r_name, r_ret, r_retN, r_drop, r_ifs, r_never, r_var, r_c, r_op, r_un, r_if, r_tst, r_b, r_not, r_and, r_or, r_andV, r_orV, r_notV, r_nil, r_cons, r_tup, r_lst, r_cb, r_call, r_bm, r_bm0, r_sl, r_nopart, r_part, r_rev, r_gnil, r_gcons, r_gsub, r_par, r_aug, r_chain, r_I0, r_I, r_U, r_ixd, r_lend, r_tupd, r_listd, r_sld, r_app, r_ext, r_reverse, r_setl, r_cat, r_int1, r_eqS, r_neS, scal_ii, scal_bb, scal_ss, at0, at1, at2, sq_lst, sq_tup, isLst_lst, List.getElem?_cons_zero, List.getElem?_cons_succ, List.set_cons_zero, List.set_cons_succ, V.int.injEq, V.bl.injEq, V.ref.injEq, V.str.injEq, HO.lst.injEq, HO.tup.injEq, Option.some.injEq, exists_eq_left', exists_eq_left, List.cons.injEq, and_true, true_and, decide_eq_true_eq, reduceCtorEq, false_and, exists_false, or_false, false_or, exists_const, and_assoc, exists_and_left, List.append_nil, ix0, ix1, ix2, cm_mod, cdw1009, cdw2003, cdw7, cdw64, cdw2, cm104729, cm2, cm3, upd_same, List.length_cons, List.length_nil, Int.reduceLT, Int.reduceLE, Nat.reduceAdd, Nat.reduceLeDiff, Nat.reduceLT, Int.reduceToNat, r_for1, r_forL, r_forT, r_lcL, r_lc1, r_yes, r_gtupD, wipe_0, wipe_1, List.cons_append, List.nil_append, r_forS, r_ipI, ite_false, ite_true, Bool.not_true, Bool.not_false, decide_true, decide_false, r_isd, r_islt, cD_ty, cD_ref, tD_non, tD_bl, tD_int, tD_str, tD_ref, tH_lst, tH_tup, tH_dK, tH_ins, ki_self, ki_int_bool, ki_non_int, ki_str_int, ki_lt_lst, ki_lt_tup, r_fld, r_sfld, HO.ins.injEq, cx_K]
  rcases h with ⟨j, rfl, h⟩ | ⟨a, xs, rfl, ha, h⟩
  · refine ⟨.int j, "int", rfl, rfl, _, rfl, ?_⟩
    rw [if_pos (by decide)]
    exact ⟨hc, h⟩
  · refine ⟨.ref a, "list", rfl, by show tyO (H a) = _; rw [ha]; rfl, _, rfl, ?_⟩
    rw [if_neg (by decide)]
    exact ⟨hc, h⟩
end
def tSame (K : PySem.W.Frag) (CT : Addr) (T : List (Addr × Str)) (q : Str) (t : XK → TE) (ta : TA) : TE := fun σ H Q => LamX.Tabs T H ∧ ∀ H1 c', LamX.ExtN H H1 → LamX.Tabs T H1 → H1 c' = some (LamX.CodeO c' q) → ta σ H1 (fun vs H2 => match vs with
  | [v] => H2 c' = some (LamX.CodeO c' q) ∧ SameR K CT c' q (fun E H' Q' => t E σ H' Q') v H2 Q
  | _ => False)
section
variable {X : Cx}
/-- same(lambda: body, e2) -/
theorem pe_same {CR CE CN CW CB gS gC c P : Addr} {cdS cdC : Value} {k : Nat} {T : List (Addr × Str)} {params : Arguments} {body e2 : Expr} {scope : Scope} {t : XK → TE} {ta : TA} {p lpos pos : Pos}
    (Tx : Txt X.mg) (N : NoTableT X.K X.mg CR CE CN) (gW : X.mg "NoRows" = some (.ref CW)) (gB : X.mg "NoBytes" = some (.ref CB)) (DS : DefK X.K X.mg "_law_same" ssame Nsame gS cdS) (DC : DefK X.K X.mg "_law_caught" scaught ["_law_ask"] gC cdC) (hg : Gl X "_law_same")
    (TB : LamX.TabB X.base X.mg c P) (hcode : X.env.code = .ref c) (hmT : (P, X.env.qual ++ "<lambda>") ∈ T) (hu : ∀ p ∈ T, p.1 = P → p.2 = X.env.qual ++ "<lambda>") (hr : Room 9 X.A) (hk : k ≤ 5) (L : LamX.LamS X.env.scope scope) (hdef : defaultsOf params X.env = ([], []))
    (hbind : ∀ (q : Str) (cl : List (Str × Addr)) (pm cv ctv : Value), bindArgs (PySem.W.kla_fn "<lambda>" q params body scope cl pm cv ctv) ⟨[], []⟩ = pure [])
    (hbody : ∀ (A : Around) (outer : List Env) (s : Shared) (H : Hp) (E : XK) (f c' : Addr), Room k (A.deeper (LamX.lamEnv X scope s.heap.objs.size f c')) → PE (LamX.lamCx X A outer s H E scope f c') body (t E))
    (ha : PA X [e2] ta) (hst : ∀ b, b ∉ frs X.stack → b ≠ X.env.locals ∧ b ∉ X.fs) (hgd : X.A.guards = some []) (hgd2 : ∀ (s : Shared) (H : Hp), (smx X gS cdS s H).A.guards = some []) (he2 : (backTo pos (starEach [e2] X.env)).any (·.1) = false := by rfl) :
    PE X (.Call (.Name "_law_same" p) [.Lambda params body scope lpos, e2] [] pos) (tSame X.K CR T (X.env.qual ++ "<lambda>") t ta) := by
  obtain ⟨oc, od, dV, kV, doc, pm0, ct, an, osl, lk, hb⟩ := DS.ex
  refine ⟨fun pins s σ H Q I h => ?_⟩
  obtain ⟨hT, h⟩ := h
  refine wpAny_Call_Name_kw (ld_glob I hg DS.m ?_ (by decide))
  refine PySem.W.callWith_K (h₀ := X.base) I.ok.mod.kin DS.kp ?_ (by rfl) he2
  show wpAny _ _ (spliced ((false, eval (.Lambda params body scope lpos) X.env) :: backTo pos (starEach [e2] X.env))) _ _ s
  refine Calls.spliced_cons (LamX.lam_make2 I TB hcode hmT hu hT hdef (L.has I.ok) fun f c' pm' ctv H1 s' I1 eN T1 hf hfn hfr hco => ?_)
  obtain ⟨obj, hobj⟩ : ∃ obj, obj = PySem.W.kla_obj "<lambda>" (X.env.qual ++ "<lambda>") params body scope (cloFrom X.env.cells scope.names []) pm' c' ctv := ⟨_, rfl⟩
  have I1p : Inv X ((f, obj) :: pins) σ H1 s' := I1.pins_of fun p hp => by
    rcases List.mem_cons.mp hp with rfl | hp
    · exact ⟨by rw [hobj]; exact hf, hfn, (hst f hfr).1, (hst f hfr).2, fun v z => by rw [hobj] at z; cases z⟩
    · exact I1.pin p (List.mem_append_right _ hp)
  refine thn (ha.run pos _ s' σ H1 _ I1p (h H1 c' eN T1 hco)) fun us s2 ⟨vs, H2, I2, r2, q2⟩ => ⟨I2.kIn, ?_⟩
  match vs, q2, r2 with
  | [v], q2, r2 =>
  obtain ⟨hc2, sr⟩ := q2
  obtain ⟨hf2, hfn2, _, _, _⟩ := I2.pin (f, obj) (List.mem_append_right _ (List.mem_cons_self ..))
  obtain ⟨u, rfl⟩ : ∃ u, us = [u] := by
    cases r2 with
    | cons ru rr => cases rr; exact ⟨_, rfl⟩
  have rc : codeAny (model X.prog X.w) X.A (.call (.ref gS) ⟨[.ref f, u], []⟩) (L2.CR C8.CX0 X.stack X.prog X.w H2 s2 Q C8.E0) s2 := by
    refine LamX.run_ofS (N := Nsame) (ps := Nsame) (us := [.ref f, u]) (vs := [.ref f, v]) lk DS.code scsame (k := 8) hr I2.env0 (hb s2 [.ref f, u] I2.kIn rfl) (.cons rfl r2) rfl fun hr1 => ?_
    have kp : ∀ {fs : List Addr} {HZ : Hp} {hZ : Heap}, Un (frs X.stack) [] H2 HZ s2.heap hZ → hZ.get? f = some (PySem.W.kla_obj "<lambda>" (X.env.qual ++ "<lambda>") params body scope (cloFrom X.env.cells scope.names []) pm' c' ctv) := fun u => by
      rw [← hobj]
      exact u.keep f obj hf2 hfn2 hfr (by simp)
    have A : Acts X gS gC cdS cdC s2 H2 f c' (X.env.qual ++ "<lambda>") (fun E H' Q' => t E σ H' Q') := by
      refine ⟨fun p1 p2 => ?_, fun pins4 σ1 s4 H4 I4 W pn xe E p1 p2 tk hW => ?_⟩
      · exact pe_act2 (i := 0) (A2 := X.A) (outer2 := X.stack) (s2 := s2) (H2 := H2) (pn := []) (xe := fun _ _ => False) (W := fun _ _ _ _ => False) (E := C8.E0) (k := k) I2 L (fun HZ hZ u => ⟨u, kp (fs := []) u⟩) (hbind _ _ _ _ _) LamX.takes0 (fun _ _ _ _ z => z) (hr1.mono (by omega)) (fun A outer s H hr2 => hbody A outer s H C8.E0 f c' hr2) rfl (.inl rfl)
      · have hfs : ∀ x ∈ frs (smx X gS cdS s2 H2).stack, x ∈ frs X.stack ∨ s2.heap.get? x = none := fun x hx => by
          have hx' : x ∈ s2.heap.objs.size :: frs X.stack := hx
          rcases List.mem_cons.mp hx' with rfl | hx'
          · refine .inr ?_
            cases e : s2.heap.get? s2.heap.objs.size with
            | none => rfl
            | some o => exact absurd (Heap.lt_size e) (Nat.lt_irrefl _)
          · exact .inl hx'
        exact pe_act2 (i := 0) (A2 := (smx X gS cdS s2 H2).A) (outer2 := (smx X gS cdS s2 H2).stack) (s2 := s4) (H2 := H4) (pn := pn) (xe := xe) (W := W) (E := E) (k := k) I2 L (fun HZ hZ u => ⟨un_comp I4.base u hfs, kp (fs := []) (un_comp I4.base u hfs)⟩) (hbind _ _ _ _ _) tk hW ((hr1.deeper _).mono (by omega)) (fun A outer s H hr2 => hbody A outer s H E f c' hr2) rfl (.inl rfl)
    obtain ⟨t', ht', hq'⟩ := same_gives (X := X) Tx N gW gB DC A (hr1.mono (by decide)) (hgd2 s2 H2) hc2 sr
    exact ⟨t', ht'.nox, hq'⟩
  refine wpAny_call (codeAny_mono rc fun r s6 hq => ?_)
  cases r with
  | error e => exact (show False from hq).elim
  | ok fl =>
    cases fl with
    | ret u =>
      have J := I2.after hq
      obtain ⟨v', H', I', rv, qq⟩ := J
      exact ⟨v', H', I'.pins_of fun p hp => I'.pin p (List.mem_append_right _ (List.mem_cons_of_mem _ hp)), rv, qq⟩
    | next => exact False.elim hq
    | brk => exact False.elim hq
    | cont => exact False.elim hq
end
end C49

set_option maxHeartbeats 2000000
namespace C49
open PySem PySem.Spec PyProof.Rows L2
/-! ### all bytes are bytes -/
theorem mk_lt {n x : Nat} (h : x ∈ mk n) : x < 128 := by
  have low_lt : ∀ (m : Nat), ∀ y ∈ rest m, y < 64 := by
    intro m
    induction m using Nat.strongRecOn with
    | _ m ih =>
      intro y hy
      by_cases c : m < 64
      · rw [rest_lt c] at hy
        cases hy
      · rw [rest_ge c, low] at hy
        rcases List.mem_cons.mp hy with e | e
        · omega
        · exact ih (m / 64) (by omega) y e
  unfold mk at h
  rcases List.mem_append.mp h with h | h
  · unfold up at h
    obtain ⟨y, hy, rfl⟩ := List.mem_map.mp h
    have := low_lt n y (List.mem_reverse.mp hy)
    omega
  · have := List.mem_singleton.mp h
    omega
theorem rb_len {R : Row} (h : RowOk R) : (rb R).length ≤ 244 := by
  obtain ⟨b0, b1, b2, b3, b4⟩ := h
  have l0 := mk_len (n := R.b) (Nat.lt_trans b0 (by decide))
  have l1 := mk_len (n := R.s) (Nat.lt_trans b2 (by decide))
  have l2 := mk_len (n := R.t) (Nat.lt_trans b3 (by decide))
  have m1 : R.w.toNat ≤ 1 := by cases R.w <;> decide
  have l3 := mk_len (n := 2 * R.d + R.w.toNat) (Nat.lt_of_lt_of_le (by omega : _ < 2 ^ 61) (by decide))
  have l4 : (mk1 R.b).length = (mk R.b).length := by
    unfold mk1
    split <;> rename_i e <;> rw [e] <;> simp
  unfold rb
  rw [List.length_append, List.length_append, List.length_append]
  omega
theorem mk_short {k n : Nat} (h : n < 64 ^ (k + 1)) : (mk n).length ≤ k + 1 := by
  have := rest_len k n h
  simp [mk, up]
  omega
theorem rb_short {R : Row} (h0 : R.b < 4000) (h1 : R.s < 4000) (h2 : R.t < 200000) (h3 : R.d < 31) : (rb R).length ≤ 8 := by
  have l0 := mk_short (k := 1) (n := R.b) (by omega)
  have l1 := mk_short (k := 1) (n := R.s) (by omega)
  have l2 := mk_short (k := 2) (n := R.t) (by omega)
  have m1 : R.w.toNat ≤ 1 := by cases R.w <;> decide
  have l3 := mk_short (k := 0) (n := 2 * R.d + R.w.toNat) (by omega)
  have l4 : (mk1 R.b).length = (mk R.b).length := by
    unfold mk1
    split <;> rename_i e <;> rw [e] <;> simp
  unfold rb
  rw [List.length_append, List.length_append, List.length_append]
  omega
theorem rb_lt {R : Row} : ∀ x ∈ rb R, x < 256 := by
  intro x hx
  have m1 : ∀ n, ∀ x ∈ mk1 n, x < 256 := by
    intro n x hx
    unfold mk1 at hx
    split at hx
    · cases hx
    · rename_i y ys e
      rcases List.mem_cons.mp hx with e2 | e2
      · have := mk_lt (n := n) (x := y) (by rw [e]; exact List.mem_cons_self)
        omega
      · have := mk_lt (n := n) (x := x) (by rw [e]; exact List.mem_cons_of_mem _ e2)
        omega
  have m2 : ∀ n, ∀ x ∈ mk n, x < 256 := fun n x hx => by
    have := mk_lt hx
    omega
  unfold rb at hx
  rcases List.mem_append.mp hx with h | h
  · exact m1 _ x h
  · rcases List.mem_append.mp h with h | h
    · exact m2 _ x h
    · rcases List.mem_append.mp h with h | h
      · exact m2 _ x h
      · exact m2 _ x h
theorem litM_b : ∀ (m : Nat), ∀ x ∈ litM m, x < 128 := by
  intro m
  induction m using Nat.strongRecOn with
  | _ m ih =>
    intro x hx
    by_cases c : m < 64
    · rw [litM_lt c, List.mem_singleton] at hx
      omega
    · rw [litM_ge c] at hx
      rcases List.mem_cons.mp hx with rfl | hx
      · omega
      · exact ih (m / 64) (by omega) x hx
/-! ### rows that follow one another -/
def CB (i : Int) : Prop := 0 ≤ i ∧ i < 5000
def GR (R : LR) : Prop := R.lo + 2 ≤ R.hi ∧ R.hi ≤ 200 ∧ (R.hi - R.lo) % 2 = 0 ∧ ∀ i, R.ln = some i → CB i
inductive Chn : Nat → List LR → Prop
  | nil (b : Nat) : Chn b []
  | cons {b : Nat} {R : LR} {Rs : List LR} (h1 : R.lo = b) (h2 : GR R) (t : Chn R.hi Rs) : Chn b (R :: Rs)
def lastB : List LR → Nat → Nat
  | [], b => b
  | R :: Rs, _ => lastB Rs R.hi
theorem lastB_snoc : ∀ (Rs : List LR) (R : LR) (b : Nat), lastB (Rs ++ [R]) b = R.hi
  | [], R, b => rfl
  | Q :: Rs, R, b => lastB_snoc Rs R Q.hi
theorem Chn.snoc : ∀ {b : Nat} {Rs : List LR} {R : LR}, Chn b Rs → R.lo = lastB Rs b → GR R → Chn b (Rs ++ [R])
  | _, _, _, .nil b, h1, h2 => .cons h1 h2 (.nil _)
  | _, _, _, .cons a1 a2 t, h1, h2 => .cons a1 a2 (Chn.snoc t h1 h2)
theorem Chn.inv : ∀ {xs : List LR} {b : Nat} {q : LR}, Chn b (xs ++ [q]) → Chn b xs ∧ q.lo = lastB xs b ∧ GR q
  | [], b, q, .cons h1 h2 _ => ⟨.nil _, h1, h2⟩
  | x :: xs, b, q, .cons h1 h2 t => by
    obtain ⟨g1, g2, g3⟩ := Chn.inv (xs := xs) t
    exact ⟨.cons h1 h2 g1, g2, g3⟩
theorem Chn.jstep {acc : List LR} {R : LR} (h : Chn 0 acc) (e : R.lo = lastB acc 0) (g : GR R) : Chn 0 (jstep acc R) ∧ lastB (C49.jstep acc R) 0 = R.hi := by
  rcases List.eq_nil_or_concat acc with rfl | ⟨xs, q, rfl⟩
  · exact ⟨.cons e g (.nil _), rfl⟩
  · rw [List.concat_eq_append] at h e ⊢
    rw [lastB_snoc] at e
    rw [jstep_snoc]
    obtain ⟨g1, g2, g3⟩ := h.inv
    split
    · rename_i e2
      refine ⟨g1.snoc g2 ⟨?_, ?_, ?_, ?_⟩, lastB_snoc _ _ _⟩
      · show q.lo + 2 ≤ R.hi
        have := g.1
        have := g3.1
        omega
      · exact g.2.1
      · show (R.hi - q.lo) % 2 = 0
        have := g.1
        have := g3.1
        have := g.2.2.1
        have := g3.2.2.1
        omega
      · exact g.2.2.2
    · exact ⟨h.snoc (by rw [lastB_snoc]; exact e) g, lastB_snoc _ _ _⟩
theorem Chn.foldl : ∀ {Rs : List LR} {b : Nat} {acc : List LR}, Chn b Rs → Chn 0 acc → lastB acc 0 = b → Chn 0 (Rs.foldl C49.jstep acc) ∧ lastB (Rs.foldl C49.jstep acc) 0 = lastB Rs b
  | [], b, acc, _, h, e => ⟨h, e⟩
  | R :: Rs, b, acc, .cons h1 h2 t, h, e => by
    obtain ⟨g1, g2⟩ := h.jstep (h1.trans e.symm) h2
    exact Chn.foldl (Rs := Rs) (b := R.hi) t g1 g2
theorem Chn.all : ∀ {b : Nat} {Rs : List LR}, Chn b Rs → ∀ R ∈ Rs, GR R
  | _, _, .nil b, R, h => by cases h
  | _, _, .cons h1 h2 t, R, h => by
    rcases List.mem_cons.mp h with rfl | h
    · exact h2
    · exact Chn.all t R h
theorem GR.lok {R : LR} (h : GR R) : LOk R := by
  refine ⟨h.1, by have := h.2.1; omega, fun i e => ?_⟩
  have := h.2.2.2 i e
  unfold CB at this
  omega
theorem CB.getD {cu : Int} {R : LR} (h : CB cu) (g : GR R) : CB (R.ln.getD cu) := by
  cases m : R.ln with
  | none => exact h
  | some j => exact g.2.2.2 j m
theorem litM_short {m : Nat} (h : m < 64 ^ 3) : (litM m).length ≤ 3 := by
  obtain ⟨ds, d, _, e2, e3⟩ := litM_low m
  have e4 := rest_len 2 m h
  rw [← e2, List.length_append, List.length_singleton]
  have : (up ds).length = ds.length := by simp [up]
  omega
theorem zig_short {n : Int} (h : -5000 < n ∧ n < 5000) : zig n < 64 ^ 3 := by
  unfold zig
  split <;> omega
theorem entryL_ok {u : Nat} {l : Option Int} {cur : Int} (h1 : 1 ≤ u) (h8 : u ≤ 8) (hl : ∀ i, l = some i → CB i) (hc : CB cur) : (entryL u (l.map (· - cur))).length ≤ 4 ∧ ∀ x ∈ entryL u (l.map (· - cur)), x < 256 := by
  cases l with
  | none =>
    refine ⟨by show 1 ≤ 4; decide, fun x hx => ?_⟩
    have := List.mem_singleton.mp hx
    omega
  | some j =>
    have hj := hl j rfl
    unfold CB at hj hc
    have z := litM_short (zig_short (n := j - cur) (by omega))
    refine ⟨by show (litM (zig (j - cur))).length + 1 ≤ 4; omega, fun x hx => ?_⟩
    rcases List.mem_cons.mp hx with e | e
    · omega
    · have := litM_b _ x e
      omega
theorem lineB_ok {l : Option Int} (hl : ∀ i, l = some i → CB i) : ∀ (c : Nat) (cur : Int), CB cur → (lineB c l cur).length ≤ 4 * c ∧ ∀ x ∈ lineB c l cur, x < 256 := by
  intro c
  induction c using Nat.strongRecOn with
  | _ c ih =>
    intro cur hc
    by_cases h : c = 0
    · subst h
      rw [lineB_0]
      exact ⟨Nat.le_refl 0, fun x hx => by cases hx⟩
    · rw [lineB_pos h]
      have g := entryL_ok (u := min c 8) (by omega) (by omega) hl hc
      have q := ih (c - min c 8) (by omega) (l.getD cur) (by
        cases m : l with
        | none => exact hc
        | some j => exact hl j m)
      refine ⟨?_, fun x hx => ?_⟩
      · rw [List.length_append]
        have := g.1
        have := q.1
        omega
      · rcases List.mem_append.mp hx with e | e
        · exact g.2 x e
        · exact q.2 x e
theorem bytesL_ok : ∀ {b : Nat} {Rs : List LR} {cur : Int}, Chn b Rs → CB cur → 2 * (bytesL Rs cur).length + 4 * b ≤ 4 * lastB Rs b ∧ ∀ x ∈ bytesL Rs cur, x < 256
  | _, _, _, .nil b, _ => ⟨by show 2 * 0 + 4 * b ≤ 4 * b; omega, fun x hx => by cases hx⟩
  | b, _, cur, .cons (R := R) (Rs := Rs) h1 h2 t, hc => by
    have q1 := bytesL_ok t (hc.getD h2)
    have q2 := lineB_ok h2.2.2.2 (units R) cur hc
    refine ⟨?_, fun x hx => ?_⟩
    · show 2 * (lineB (units R) R.ln cur ++ bytesL Rs (R.ln.getD cur)).length + 4 * b ≤ 4 * lastB Rs R.hi
      rw [List.length_append]
      have a1 := q1.1
      have a2 := q2.1
      have := h2.1
      unfold units at a2 ⊢
      omega
    · rcases List.mem_append.mp hx with e | e
      · exact q2.2 x e
      · exact q1.2 x e
theorem good_lines {Rs : List LR} (h : Chn 0 Rs) (hl : lastB Rs 0 ≤ 100) : (∀ R ∈ joinL Rs, LOk R) ∧ (bytesL (joinL Rs) 7).length ≤ 200 ∧ ∀ x ∈ bytesL (joinL Rs) 7, x < 256 := by
  obtain ⟨c, e⟩ := Chn.foldl h (.nil 0) rfl
  have c' : Chn 0 (joinL Rs) := c
  have e' : lastB (joinL Rs) 0 = lastB Rs 0 := e
  have q := bytesL_ok (cur := 7) c' (by unfold CB; omega)
  refine ⟨fun R hR => (c'.all R hR).lok, ?_, q.2⟩
  have := q.1
  omega
/-! ### a change -/
theorem sIx_nat (l d n : Nat) : HT.sIx l d (some (n : Int)) = min n l := by
  simp [HT.sIx]
  omega
theorem cut_take {xs : List V} {n : Nat} : cutV xs none (some (n : Int)) = xs.take n := by
  unfold cutV
  rw [sIx_nat, HT.sIx_none, List.drop_zero, Nat.sub_zero]
  by_cases c : n ≤ xs.length
  · rw [Nat.min_eq_left c]
  · rw [Nat.min_eq_right (by omega), List.take_length, List.take_of_length_le (by omega)]
theorem cut_drop {xs : List V} {n : Nat} : cutV xs (some (n : Int)) none = xs.drop n := by
  unfold cutV
  rw [sIx_nat, HT.sIx_none]
  by_cases c : n ≤ xs.length
  · rw [Nat.min_eq_left c]
    exact List.take_of_length_le (by rw [List.length_drop]; omega)
  · rw [Nat.min_eq_right (by omega), List.drop_length, List.take_nil, List.drop_of_length_le (by omega)]
def spBent : Sp := fun vs H Q _ => ∃ (a b c : Addr) (ds ws : List Nat), vs = [.ref a, .ref b, .ref c] ∧ Src H a ∧ b ≠ a ∧ c ≠ a ∧ H b = some (.lst (vn ds)) ∧ H c = some (.lst (vn ws)) ∧ ds.length ≤ 999 ∧ ws.length ≤ 100 ∧ (∀ x ∈ ds, x < 256) ∧ (∀ x ∈ ws, x < 256) ∧
  ∀ p es H', H p = none → p ≠ a → Keep a H H' → Src H' a → H' p = some (.lst (vn es)) → es.length ≤ ds.length + 1 → (∀ x ∈ es, x < 256) → Q (.ref p) H'
theorem Keep.freeS {a p : Addr} {H H' : Hp} (k : Keep a H H') (S : Src H' a) (h : H' p = none) : H p = none := by
  cases e : H p with
  | none => rfl
  | some o =>
    by_cases c : p = a
    · subst c
      obtain ⟨x, y, z, e2⟩ := S
      rw [e2] at h
      cases h
    · rw [k p o c e] at h
      cases h
theorem vn_take (ds : List Nat) (n : Nat) : (vn ds).take n = vn (ds.take n) := by simp [vn]
theorem vn_drop (ds : List Nat) (n : Nat) : (vn ds).drop n = vn (ds.drop n) := by simp [vn]
section
variable {P : Program} {w : World} {K : PySem.W.Frag} {mg : Str → Option Value} {base : Heap} {f : Addr} {fd : FuncData}
abbrev sbent : Stmt := top 49
theorem scbent : FnScope ["_law_source", "_law_data", "_law_some", "_law_at", "_law_way", "_law_byte"] ["_law_source", "_law_data", "_law_some"] (defScope sbent) := ⟨rfl, rfl, rfl, by decide +kernel, rfl, by decide +kernel, by decide +kernel⟩

theorem ok_bent (T : Txt mg) (F : FnP K "_law_bent" "_law_bent" sbent f fd) (C_next : Cal P w K mg base 1 "_law_next" ["_law_source", "_law_many"] spNext) (C_one : Cal P w K mg base 2 "_law_one" ["_law_source", "_law_some"] spOne) : FnOk P w K mg base CX0 3 f fd ["_law_source", "_law_data", "_law_some"] spBent := by
  refine F.ok scbent (fun vs H Q E h => ?_) (fun cdv A outer s H vs Q E hr h => ?_)
  · obtain ⟨a, b, c, ds, ws, rfl, _⟩ := h
    rfl
  · obtain ⟨a, b, c, ds, ws, rfl, hS, ba, ca, hb, hc, dl, wl, db, wb, k⟩ := h
    refine ⟨_, PSs.nox (pss_cons (ps_par (i := 3) (j := 4) (by rfl) scbent.nd rfl rfl (by decide) rfl rfl (pa_cons (pe_cal C_next (hr.mono (by decide)) rfl (pa_cons (pv 0) (pa_cons (pe_op op_add (pe_callB call_len_d (by rfl) T.b_len (by decide +kernel) (pa_cons (pv 1) pa_nil)) pe_int) pa_nil))) (pa_cons (pe_cal C_next (hr.mono (by decide)) rfl (pa_cons (pv 0) (pa_cons pe_int pa_nil))) pa_nil)) (by rfl))
  (pss_cons (ps_set (i := 5) scbent.nd rfl (Or.inl rfl) (pe_cal C_one (hr.mono (by decide)) rfl (pa_cons (pv 0) (pa_cons (pe_op op_cat (pv 2) (pe_lst (pa_cons (pe_cal C_next (hr.mono (by decide)) rfl (pa_cons (pv 0) (pa_cons pe_int pa_nil))) (pa_cons (pe_cal C_next (hr.mono (by decide)) rfl (pa_cons (pv 0) (pa_cons pe_int pa_nil))) pa_nil)))) pa_nil))))
  (pss_cons (ps_if (pt_cmpR op_eq (pv 4) pe_int (nomark _))
    (pss_one (ps_ret (pe_slice sl_d (pv 1) po_none (po_some (pv 3)))))
    pss_nil)
  (pss_cons (ps_if (pt_cmpR op_eq (pv 4) pe_int (nomark _))
    (pss_one (ps_ret (pe_op op_cat (pe_slice sl_d (pv 1) po_none (po_some (pv 3))) (pe_slice sl_d (pv 1) (po_some (pe_op op_add (pv 3) pe_int)) po_none))))
    pss_nil)
  (pss_one (ps_ret (pe_op op_cat (pe_op op_cat (pe_slice sl_d (pv 1) po_none (po_some (pv 3))) (pe_lst (pa_cons (pv 5) pa_nil))) (pe_slice sl_d (pv 1) (po_some (pe_op op_add (pv 3) (pe_callTy call_int1 (by rfl) T.b_int (by decide +kernel) (pa_cons (pe_cmpR op_gt (pv 4) pe_int (nomark _)) pa_nil)))) po_none)))))))), ?_⟩
    show (_ : TS) _ [some (.ref a), some (.ref b), some (.ref c), none, none, none] H
    simp only [r_seq, r_next, r_brk, r_cont, r_asg, r_name, r_ret, r_retN, r_drop, r_ifs, r_never, r_var, r_c, r_op, r_un, r_if, r_tst, r_b, r_not, r_and, r_or, r_andV, r_orV, r_notV, r_nil, r_cons, r_tup, r_lst, r_cb, r_call, r_bm, r_bm0, r_sl, r_nopart, r_part, r_rev, r_gnil, r_gcons, r_gsub, r_par, r_aug, r_chain, r_I0, r_I, r_U, r_ixd, r_lend, r_tupd, r_listd, r_sld, r_app, r_ext, r_reverse, r_setl, r_cat, r_int1, r_eqS, r_neS, scal_ii, scal_bb, scal_ss, at0, at1, at2, sq_lst, sq_tup, isLst_lst, List.getElem?_cons_zero, List.getElem?_cons_succ, List.set_cons_zero, List.set_cons_succ, V.int.injEq, V.bl.injEq, V.ref.injEq, V.str.injEq, HO.lst.injEq, HO.tup.injEq, Option.some.injEq, exists_eq_left', exists_eq_left, List.cons.injEq, and_true, true_and, decide_eq_true_eq, reduceCtorEq, false_and, exists_false, or_false, false_or, exists_const, and_assoc, exists_and_left, List.append_nil, ix0, ix1, ix2, cm_mod, cdw1009, cdw2003, cdw7, cdw64, cdw2, cm104729, cm2, cm3, upd_same, List.length_cons, List.length_nil, Int.reduceLT, Int.reduceLE, Nat.reduceAdd, Nat.reduceLeDiff, Nat.reduceLT, Int.reduceToNat, r_for1, r_forL, r_forT, r_lcL, r_lc1, r_yes, r_gtupD, wipe_0, wipe_1, List.cons_append, List.nil_append, r_forS, r_ipI, ite_false, ite_true, Bool.not_true, Bool.not_false, decide_true, decide_false, r_isd, r_islt, cD_ty, cD_ref, tD_non, tD_bl, tD_int, tD_str, tD_ref, tH_lst, tH_tup, tH_dK, tH_ins, ki_self, ki_int_bool, ki_non_int, ki_str_int, ki_lt_lst, ki_lt_tup, r_fld, r_sfld, HO.ins.injEq, cx_K, hb]
    have hlen : (vn ds).length = ds.length := vn_len
    have wlen : (vn ws).length = ws.length := vn_len
    refine ⟨a, _, rfl, hS, by omega, by omega, fun r0 H1 a0 b0 k1 S1 => ⟨a, 5, rfl, S1, by decide, by decide, fun r1 H2 a1 b1 k2 S2 => ⟨a, 256, rfl, S2, by decide, by decide, fun r2 H3 a2 b2 k3 S3 => ⟨a, 256, rfl, S3, by decide, by decide, fun r3 H4 a3 b3 k4 S4 => ⟨szl (by decide : 2 ≤ 1000), fun p hp => ?_⟩⟩⟩⟩⟩
    have K4 : Keep a H H4 := ((k1.trans k2).trans k3).trans k4
    have hc4 := K4 c _ ca hc
    refine ⟨_, by rw [upd_ne (ne_new hc4 hp)]; exact hc4, Nat.le_trans (by omega : _ ≤ 1000) (by decide), fun q hq => ?_⟩
    have S5 := (S4.new (o := .lst [.int r2, .int r3]) hp).new (o := .lst (vn ws ++ [.int r2, .int r3])) hq
    have K5 : Keep a H _ := (K4.new (o := .lst [.int r2, .int r3]) hp).new (o := .lst (vn ws ++ [.int r2, .int r3])) hq
    have qa : q ≠ a := (S4.new (o := .lst [.int r2, .int r3]) hp).ne hq
    refine ⟨a, q, _, rfl, S5, qa, upd_same, by simp, by rw [List.length_append]; show _ + 2 ≤ 1000; omega, fun v H6 hv k6 S6 => ?_⟩
    obtain ⟨e, rfl, e1⟩ : ∃ e : Nat, v = .int (e : Int) ∧ e < 256 := by
      rcases List.mem_append.mp hv with h | h
      · obtain ⟨x, hx, rfl⟩ := List.mem_map.mp h
        exact ⟨x, rfl, wb x hx⟩
      · simp only [List.mem_cons, List.not_mem_nil, or_false] at h
        rcases h with rfl | rfl
        · exact ⟨r2.toNat, by rw [Int.toNat_of_nonneg a2], by omega⟩
        · exact ⟨r3.toNat, by rw [Int.toNat_of_nonneg a3], by omega⟩
    have K6 : Keep a H H6 := K5.trans k6
    clear hv K5 S5 qa hq hp K4 hc4
    obtain ⟨n, rfl⟩ : ∃ n : Nat, r0 = (n : Int) := ⟨r0.toNat, by omega⟩
    have hb6 := K6 b _ ba hb
    have ct := @cut_take
    have e0 : ((n : Int) + 1) = ((n + 1 : Nat) : Int) := by omega
    have tl : ∀ m, (ds.take m).length ≤ m := fun m => by rw [List.length_take]; omega
    have tb : ∀ m, ∀ x ∈ ds.take m, x < 256 := fun m x hx => db x (List.mem_of_mem_take hx)
    have db' : ∀ m, ∀ x ∈ ds.drop m, x < 256 := fun m x hx => db x (List.mem_of_mem_drop hx)
    have ap : ∀ {xs ys : List Nat}, (∀ x ∈ xs, x < 256) → (∀ x ∈ ys, x < 256) → ∀ x ∈ xs ++ ys, x < 256 := fun h1 h2 x hx => by
      rcases List.mem_append.mp hx with h | h
      · exact h1 x h
      · exact h2 x h
    have dd : ∀ m, (vn (ds.drop m)).length = ds.length - m := fun m => by rw [vn_len, List.length_drop]
    have tt : ∀ m, (vn (ds.take m)).length = min m ds.length := fun m => by rw [vn_len, List.length_take]
    have fin : ∀ es H', Same H6 H' → (∀ p', H6 p' = none → H' p' = some (.lst (vn es)) → es.length ≤ ds.length + 1 → (∀ x ∈ es, x < 256) → Q (.ref p') H') := fun es H' s p' hp' h' l1 l2 => k p' es H' (K6.freeS S6 hp') (S6.ne hp') (K6.trans (Keep.same s)) (by obtain ⟨x, y, z, e⟩ := S6; exact ⟨x, y, z, s _ _ e⟩) h' l1 l2
    simp only [r_seq, r_next, r_brk, r_cont, r_asg, r_name, r_ret, r_retN, r_drop, r_ifs, r_never, r_var, r_c, r_op, r_un, r_if, r_tst, r_b, r_not, r_and, r_or, r_andV, r_orV, r_notV, r_nil, r_cons, r_tup, r_lst, r_cb, r_call, r_bm, r_bm0, r_sl, r_nopart, r_part, r_rev, r_gnil, r_gcons, r_gsub, r_par, r_aug, r_chain, r_I0, r_I, r_U, r_ixd, r_lend, r_tupd, r_listd, r_sld, r_app, r_ext, r_reverse, r_setl, r_cat, r_int1, r_eqS, r_neS, scal_ii, scal_bb, scal_ss, at0, at1, at2, sq_lst, sq_tup, isLst_lst, List.getElem?_cons_zero, List.getElem?_cons_succ, List.set_cons_zero, List.set_cons_succ, V.int.injEq, V.bl.injEq, V.ref.injEq, V.str.injEq, HO.lst.injEq, HO.tup.injEq, Option.some.injEq, exists_eq_left', exists_eq_left, List.cons.injEq, and_true, true_and, decide_eq_true_eq, reduceCtorEq, false_and, exists_false, or_false, false_or, exists_const, and_assoc, exists_and_left, List.append_nil, ix0, ix1, ix2, cm_mod, cdw1009, cdw2003, cdw7, cdw64, cdw2, cm104729, cm2, cm3, upd_same, List.length_cons, List.length_nil, Int.reduceLT, Int.reduceLE, Nat.reduceAdd, Nat.reduceLeDiff, Nat.reduceLT, Int.reduceToNat, r_for1, r_forL, r_forT, r_lcL, r_lc1, r_yes, r_gtupD, wipe_0, wipe_1, List.cons_append, List.nil_append, r_forS, r_ipI, ite_false, ite_true, Bool.not_true, Bool.not_false, decide_true, decide_false, r_isd, r_islt, cD_ty, cD_ref, tD_non, tD_bl, tD_int, tD_str, tD_ref, tH_lst, tH_tup, tH_dK, tH_ins, ki_self, ki_int_bool, ki_non_int, ki_str_int, ki_lt_lst, ki_lt_tup, r_fld, r_sfld, HO.ins.injEq, cx_K, hb6, cut_take, vn_take]
    have cd : ∀ m : Nat, cutV (vn ds) (some (m : Int)) none = vn (ds.drop m) := fun m => by rw [cut_drop, vn_drop]
    refine ite2 (fun _ p1 hp1 => fin _ _ (Same.new' (Same.refl _) hp1) p1 hp1 upd_same (by rw [List.length_take]; omega) (tb n)) (fun _ => ite2 (fun _ p1 hp1 => ?_) (fun _ p1 hp1 => ⟨szl (by decide : 1 ≤ 1000), fun p2 hp2 => ?_⟩))
    · refine ⟨vn ds, by rw [upd_ne (ne_new hb6 hp1)]; exact hb6, ?_⟩
      rw [e0]
      simp only [cd]
      refine fun p2 hp2 => ⟨vn (ds.take n), by rw [upd_ne (ne_new upd_same hp2)]; exact upd_same, Nat.le_trans (by rw [tt, dd]; omega : _ ≤ 1000) (by decide), fun p3 hp3 => ?_⟩
      have s2 := Same.new' (o := .lst (vn (ds.drop (n + 1)))) (Same.new' (o := .lst (vn (ds.take n))) (Same.refl H6) hp1) hp2
      refine fin (ds.take n ++ ds.drop (n + 1)) _ (Same.new' s2 hp3) p3 (s2.free hp3) ?_ ?_ (ap (tb n) (db' (n + 1)))
      · rw [upd_same]
        simp [vn]
      · rw [List.length_append, List.length_take, List.length_drop]
        omega
    · obtain ⟨j, hj, j1⟩ : ∃ j : Nat, ((n : Int) + if 2 < r1 then 1 else 0) = ((n + j : Nat) : Int) ∧ j ≤ 1 := by
        split
        · exact ⟨1, by omega, by omega⟩
        · exact ⟨0, by omega, by omega⟩
      rw [hj]
      have s2 := Same.new' (o := .lst [V.int (e : Int)]) (Same.new' (o := .lst (vn (ds.take n))) (Same.refl H6) hp1) hp2
      refine ⟨vn (ds.take n), by rw [upd_ne (ne_new upd_same hp2)]; exact upd_same, Nat.le_trans (by rw [tt]; omega : _ ≤ 1000) (by decide), fun p3 hp3 => ?_⟩
      have s3 := Same.new' (o := .lst (vn (ds.take n) ++ [V.int (e : Int)])) s2 hp3
      refine ⟨vn ds, s3 _ _ hb6, ?_⟩
      simp only [cd]
      refine fun p4 hp4 => ⟨vn (ds.take n) ++ [V.int (e : Int)], by rw [upd_ne (ne_new upd_same hp4)]; exact upd_same, Nat.le_trans (by rw [List.length_append, tt, dd]; show min n ds.length + 1 + _ ≤ 1000; omega : _ ≤ 1000) (by decide), fun p5 hp5 => ?_⟩
      have s4 := Same.new' (o := .lst (vn (ds.drop (n + j)))) s3 hp4
      refine fin (ds.take n ++ [e] ++ ds.drop (n + j)) _ (Same.new' s4 hp5) p5 (s4.free hp5) ?_ ?_ (ap (ap (tb n) (fun x hx => by rw [List.mem_singleton.mp hx]; exact e1)) (db' (n + j)))
      · rw [upd_same]
        simp [vn]
      · rw [List.length_append, List.length_append, List.length_take, List.length_drop]
        show min n ds.length + 1 + _ ≤ _
        omega
end

def spGood : Sp := fun vs H Q _ => ∃ a : Addr, vs = [.ref a] ∧ Src H a ∧ ∀ (p g l : Addr) (bs es : List Nat) H', H p = none → H g = none → H l = none → Keep a H H' → Src H' a → H' p = some (.tup [.ref g, .ref l]) → H' g = some (.lst (vn bs)) → H' l = some (.lst (vn es)) → bs.length ≤ 40 → es.length ≤ 200 → (∀ x ∈ bs, x < 256) → (∀ x ∈ es, x < 256) → Q (.ref p) H'
def lvGood (H : Hp) (a g l : Addr) (i : Nat) (σ : L2.St) (H' : Hp) : Prop := ∃ (bs : List Nat) (Rs : List LR) (A : Nat) (v5 v6 v7 v8 : Option V), σ = [some (.ref a), some (.ref g), some (.ref l), some (.int ((2 * A : Nat) : Int)), some (.int ((lastB Rs 0 : Nat) : Int)), v5, v6, v7, v8] ∧ Keep a H H' ∧ Src H' a ∧
  H' g = some (.lst (vn bs)) ∧ LRows H' l Rs ∧ A ≤ 180 * i ∧ lastB Rs 0 ≤ 24 * i ∧ Rs.length ≤ i ∧ Chn 0 Rs ∧ bs.length ≤ 8 * i ∧ ∀ x ∈ bs, x < 256
section
variable {P : Program} {w : World} {K : PySem.W.Frag} {mg : Str → Option Value} {base : Heap} {f : Addr} {fd : FuncData}
abbrev sgood : Stmt := top 51
theorem scgood : FnScope ["_law_source", "_law_guards", "_law_some", "_law_at", "_law_last", "_law_k", "_law_low", "_law_row", "_law_later"] ["_law_source"] (defScope sgood) := ⟨rfl, rfl, rfl, by decide +kernel, rfl, by decide +kernel, by decide +kernel⟩

theorem ok_good (T : Txt mg) (F : FnP K "_law_good" "_law_good" sgood f fd) (C_next : Cal P w K mg base 1 "_law_next" ["_law_source", "_law_many"] spNext) (C_one : Cal P w K mg base 2 "_law_one" ["_law_source", "_law_some"] spOne) (C_row_bytes : Cal P w K mg base 2 "_law_row_bytes" ["_law_row"] spRowBytes) (C_lline_bytes : Cal P w K mg base 3 "_law_line_bytes" ["_law_some", "_law_line"] spLLB) : FnOk P w K mg base CX0 4 f fd ["_law_source"] spGood := by
  refine F.ok scgood (fun vs H Q E h => ?_) (fun cdv A outer s H vs Q E hr h => ?_)
  · obtain ⟨a, rfl, _⟩ := h
    rfl
  · obtain ⟨a, rfl, hS, k⟩ := h
    refine ⟨_, PSs.nox (pss_cons (ps_asg (pe_tup (pa_cons (pe_lst pa_nil) (pa_cons (pe_lst pa_nil) (pa_cons pe_int (pa_cons pe_int pa_nil))))) (pg_tupD (n := 4) rfl (pgs_cons (pg_name (i := 1) scgood.nd rfl (Or.inl rfl)) (pgs_cons (pg_name (i := 2) scgood.nd rfl (Or.inl rfl)) (pgs_cons (pg_name (i := 3) scgood.nd rfl (Or.inl rfl)) (pgs_cons (pg_name (i := 4) scgood.nd rfl (Or.inl rfl)) pgs_nil))))))
  (pss_cons (ps_for PassesOwn.never rfl (pi_range1 rfl T.b_range (pa_cons (pe_op op_add pe_int (pe_cal C_next (hr.mono (by decide)) rfl (pa_cons (pv 0) (pa_cons pe_int pa_nil)))) pa_nil)) (pg_name (i := 5) scgood.nd rfl (Or.inl rfl))
    (pss_cons (ps_set (i := 6) scgood.nd rfl (Or.inl rfl) (pe_op op_add (pv 3) (pe_op op_mul pe_int (pe_cal C_next (hr.mono (by decide)) rfl (pa_cons (pv 0) (pa_cons pe_int pa_nil))))))
  (pss_cons (ps_set (i := 3) scgood.nd rfl (Or.inl rfl) (pe_op op_add (pe_op op_add (pv 6) pe_int) (pe_op op_mul pe_int (pe_cal C_next (hr.mono (by decide)) rfl (pa_cons (pv 0) (pa_cons pe_int pa_nil))))))
  (pss_cons (ps_set (i := 7) scgood.nd rfl (Or.inl rfl) (pe_tup (pa_cons (pv 6) (pa_cons (pv 3) (pa_cons (pe_op op_mul pe_int (pe_cal C_next (hr.mono (by decide)) rfl (pa_cons (pv 0) (pa_cons pe_int pa_nil)))) (pa_cons (pe_cal C_next (hr.mono (by decide)) rfl (pa_cons (pv 0) (pa_cons pe_int pa_nil))) (pa_cons (pe_cmpR op_eq (pe_cal C_next (hr.mono (by decide)) rfl (pa_cons (pv 0) (pa_cons pe_int pa_nil))) pe_int (nomark _)) pa_nil)))))))
  (pss_cons (ps_expr (pe_bm PySem.F.plainAttrs_list PySem.F.slot_list_extend PySem.F.type_list_extend mt_extend (pv 1) (pa_cons (pe_cal C_row_bytes (hr.mono (by decide)) rfl (pa_cons (pv 7) pa_nil)) pa_nil)))
  (pss_cons (ps_set (i := 8) scgood.nd rfl (Or.inl rfl) (pe_op op_add (pe_op op_add (pv 4) pe_int) (pe_op op_mul pe_int (pe_cal C_next (hr.mono (by decide)) rfl (pa_cons (pv 0) (pa_cons pe_int pa_nil))))))
  (pss_cons (ps_expr (pe_bm PySem.F.plainAttrs_list PySem.F.slot_list_append PySem.F.type_list_append mt_append (pv 2) (pa_cons (pe_tup (pa_cons (pv 4) (pa_cons (pv 8) (pa_cons (pe_cal C_one (hr.mono (by decide)) rfl (pa_cons (pv 0) (pa_cons (pe_lst (pa_cons pe_non (pa_cons pe_int (pa_cons pe_int (pa_cons pe_int (pa_cons pe_int pa_nil)))))) pa_nil))) pa_nil)))) pa_nil)))
  (pss_one (ps_set (i := 4) scgood.nd rfl (Or.inl rfl) (pv 8))))))))))
  (pss_one (ps_ret (pe_tup (pa_cons (pv 1) (pa_cons (pe_cal C_lline_bytes (hr.mono (by decide)) rfl (pa_cons (pv 2) (pa_cons pe_int pa_nil))) pa_nil))))))), ?_⟩
    show (_ : TS) _ [some (.ref a), none, none, none, none, none, none, none, none] H
    simp only [r_seq, r_next, r_brk, r_cont, r_asg, r_name, r_ret, r_retN, r_drop, r_ifs, r_never, r_var, r_c, r_op, r_un, r_if, r_tst, r_b, r_not, r_and, r_or, r_andV, r_orV, r_notV, r_nil, r_cons, r_tup, r_lst, r_cb, r_call, r_bm, r_bm0, r_sl, r_nopart, r_part, r_rev, r_gnil, r_gcons, r_gsub, r_par, r_aug, r_chain, r_I0, r_I, r_U, r_ixd, r_lend, r_tupd, r_listd, r_sld, r_app, r_ext, r_reverse, r_setl, r_cat, r_int1, r_eqS, r_neS, scal_ii, scal_bb, scal_ss, at0, at1, at2, sq_lst, sq_tup, isLst_lst, List.getElem?_cons_zero, List.getElem?_cons_succ, List.set_cons_zero, List.set_cons_succ, V.int.injEq, V.bl.injEq, V.ref.injEq, V.str.injEq, HO.lst.injEq, HO.tup.injEq, Option.some.injEq, exists_eq_left', exists_eq_left, List.cons.injEq, and_true, true_and, decide_eq_true_eq, reduceCtorEq, false_and, exists_false, or_false, false_or, exists_const, and_assoc, exists_and_left, List.append_nil, ix0, ix1, ix2, cm_mod, cdw1009, cdw2003, cdw7, cdw64, cdw2, cm104729, cm2, cm3, upd_same, List.length_cons, List.length_nil, Int.reduceLT, Int.reduceLE, Nat.reduceAdd, Nat.reduceLeDiff, Nat.reduceLT, Int.reduceToNat, r_for1, r_forL, r_forT, r_lcL, r_lc1, r_yes, r_gtupD, wipe_0, wipe_1, List.cons_append, List.nil_append, r_forS, r_ipI, ite_false, ite_true, Bool.not_true, Bool.not_false, decide_true, decide_false, r_isd, r_islt, cD_ty, cD_ref, tD_non, tD_bl, tD_int, tD_str, tD_ref, tH_lst, tH_tup, tH_dK, tH_ins, ki_self, ki_int_bool, ki_non_int, ki_str_int, ki_lt_lst, ki_lt_tup, r_fld, r_sfld, HO.ins.injEq, cx_K]
    refine ⟨szl (by decide), fun g hg => ⟨szl (by decide), fun l hl => ⟨szl (by decide : 4 ≤ 1000), fun t ht => ?_⟩⟩⟩
    have K0 : Keep a H _ := (((Keep.refl a H).new (o := .lst []) hg).new (o := .lst []) hl).new (o := .tup [V.ref g, V.ref l, V.int 0, V.int 0]) ht
    have Sl := (hS.new (o := .lst []) hg).new (o := .lst []) hl
    have ga : g ≠ a := hS.ne hg
    have la : l ≠ a := (hS.new (o := .lst []) hg).ne hl
    have gl : g ≠ l := new_ne upd_same hl |>.symm
    have hg0 : H g = none := hg
    have hl0 : H l = none := by rw [← hl, upd_ne gl.symm]
    refine ⟨a, 4, rfl, Sl.new ht, by decide, by decide, fun m H1 m0 m1 k1 S1 => ⟨m, rfl, by omega, by omega, ?_⟩⟩
    have K1 := K0.trans k1
    have hg1 : H1 g = some (.lst []) := k1 g _ ga (by rw [upd_ne (ne_new (o := .lst []) (by rw [upd_ne gl]; exact upd_same) ht), upd_ne gl]; exact upd_same)
    have hl1 : H1 l = some (.lst []) := k1 l _ la (by rw [upd_ne (ne_new (o := .lst []) upd_same ht)]; exact upd_same)
    refine lp_rng (lvGood H a g l) ⟨[], [], 0, none, none, none, none, rfl, K1, S1, hg1, ⟨[], hl1, .nil⟩, by omega, by show 0 ≤ _; omega, Nat.zero_le _, .nil _, by show 0 ≤ _; omega, by intro x hx; cases hx⟩ ?_ ?_
    · rintro i σ H2 hi ⟨bs, Rs, A0, v5, v6, v7, v8, rfl, K2, S2, hg2, ⟨refs, hl2, hP⟩, hA, hL, hRl, hch, hb, hbb⟩
      simp only [r_seq, r_next, r_brk, r_cont, r_asg, r_name, r_ret, r_retN, r_drop, r_ifs, r_never, r_var, r_c, r_op, r_un, r_if, r_tst, r_b, r_not, r_and, r_or, r_andV, r_orV, r_notV, r_nil, r_cons, r_tup, r_lst, r_cb, r_call, r_bm, r_bm0, r_sl, r_nopart, r_part, r_rev, r_gnil, r_gcons, r_gsub, r_par, r_aug, r_chain, r_I0, r_I, r_U, r_ixd, r_lend, r_tupd, r_listd, r_sld, r_app, r_ext, r_reverse, r_setl, r_cat, r_int1, r_eqS, r_neS, scal_ii, scal_bb, scal_ss, at0, at1, at2, sq_lst, sq_tup, isLst_lst, List.getElem?_cons_zero, List.getElem?_cons_succ, List.set_cons_zero, List.set_cons_succ, V.int.injEq, V.bl.injEq, V.ref.injEq, V.str.injEq, HO.lst.injEq, HO.tup.injEq, Option.some.injEq, exists_eq_left', exists_eq_left, List.cons.injEq, and_true, true_and, decide_eq_true_eq, reduceCtorEq, false_and, exists_false, or_false, false_or, exists_const, and_assoc, exists_and_left, List.append_nil, ix0, ix1, ix2, cm_mod, cdw1009, cdw2003, cdw7, cdw64, cdw2, cm104729, cm2, cm3, upd_same, List.length_cons, List.length_nil, Int.reduceLT, Int.reduceLE, Nat.reduceAdd, Nat.reduceLeDiff, Nat.reduceLT, Int.reduceToNat, r_for1, r_forL, r_forT, r_lcL, r_lc1, r_yes, r_gtupD, wipe_0, wipe_1, List.cons_append, List.nil_append, r_forS, r_ipI, ite_false, ite_true, Bool.not_true, Bool.not_false, decide_true, decide_false, r_isd, r_islt, cD_ty, cD_ref, tD_non, tD_bl, tD_int, tD_str, tD_ref, tH_lst, tH_tup, tH_dK, tH_ins, ki_self, ki_int_bool, ki_non_int, ki_str_int, ki_lt_lst, ki_lt_tup, r_fld, r_sfld, HO.ins.injEq, cx_K]
      have hi4 : i < 4 := by omega
      refine ⟨a, 90, rfl, S2, by decide, by decide, fun x1 H3 a1 b1 k3 S3 => ⟨x1, rfl, a, 90, rfl, S3, by decide, by decide, fun x2 H4 a2 b2 k4 S4 => ⟨x2, rfl, a, 5000, rfl, S4, by decide, by decide, fun x3 H5 a3 b3 k5 S5 => ⟨x3, rfl, a, 5, rfl, S5, by decide, by decide, fun x4 H6 a4 b4 k6 S6 => ⟨a, 2, rfl, S6, by decide, by decide, fun x5 H7 a5 b5 k7 S7 => ⟨rfl, szl (by decide : 5 ≤ 1000), fun p1 hp1 => ?_⟩⟩⟩⟩⟩⟩
      have K7 : Keep a H2 H7 := (((k3.trans k4).trans k5).trans k6).trans k7
      have hg7 := K7 g _ ga hg2
      have hl7 := K7 l _ la hl2
      obtain ⟨n1, rfl⟩ : ∃ n : Nat, x1 = (n : Int) := ⟨x1.toNat, by omega⟩
      obtain ⟨n2, rfl⟩ : ∃ n : Nat, x2 = (n : Int) := ⟨x2.toNat, by omega⟩
      obtain ⟨n3, rfl⟩ : ∃ n : Nat, x3 = (n : Int) := ⟨x3.toNat, by omega⟩
      obtain ⟨n4, rfl⟩ : ∃ n : Nat, x4 = (n : Int) := ⟨x4.toNat, by omega⟩
      obtain ⟨B, hB⟩ : ∃ B : Row, B = ⟨A0 + n1, n2 + 1, n3, n4, decide (V.int x5 = V.int 1)⟩ := ⟨_, rfl⟩
      have eB : [V.int ((2 * A0 : Nat) + 2 * (n1 : Int)), V.int ((2 * A0 : Nat) + 2 * (n1 : Int) + 2 + 2 * (n2 : Int)), V.int (2 * (n3 : Int)), V.int (n4 : Int), V.bl (decide (V.int x5 = V.int 1))] = rv B := by
        rw [hB]
        unfold rv
        congr 1
        · congr 1; dsimp only; omega
        · congr 1
          · congr 1; dsimp only; omega
      have oB : RowOk B := by
        rw [hB]
        unfold RowOk
        dsimp only
        omega
      rw [eB]
      refine ⟨tyl (by rw [upd_ne (ne_new hg7 hp1)]; exact hg7), p1, B, rfl, upd_same, oB, fun p2 H8 hp2 s8 h8 => ⟨p2, rfl, vn bs, ?_, vn (rb B), h8, ?_, ?_⟩⟩
      · exact s8 _ _ (by rw [upd_ne (ne_new hg7 hp1)]; exact hg7)
      · have := rb_len oB
        exact Nat.le_trans (by rw [vn_len, vn_len]; omega : _ ≤ 2000) (by decide)
      have K8 : Keep a H2 H8 := (K7.new hp1).trans (Keep.same s8)
      have hl8 := K8 l _ la hl2
      have S8 : Src (L2.upd H8 g (.lst (vn bs ++ vn (rb B)))) a := by
        obtain ⟨x, y, z, e⟩ := S7.new (o := .tup (rv B)) hp1
        exact ⟨x, y, z, by rw [upd_ne ga.symm]; exact s8 _ _ e⟩
      refine ⟨a, 12, rfl, S8, by decide, by decide, fun x6 H9 a6 b6 k9 S9 => ⟨x6, rfl, ?_⟩⟩
      obtain ⟨n6, rfl⟩ : ∃ n : Nat, x6 = (n : Int) := ⟨x6.toNat, by omega⟩
      have hg9 : H9 g = some (.lst (vn bs ++ vn (rb B))) := k9 g _ ga upd_same
      have hl9 : H9 l = some (.lst (refs.map V.ref)) := k9 l _ la (by rw [upd_ne gl.symm]; exact hl8)
      have K9 : ∀ b o, b ≠ a → b ≠ g → H2 b = some o → H9 b = some o := fun b o n1 n2 e => k9 b o n1 (by rw [upd_ne n2]; exact K8 b o n1 e)
      refine ⟨tyl hl9, szl (by decide : 5 ≤ 1000), fun p3 hp3 => ⟨a, p3, _, rfl, S9.new hp3, S9.ne hp3, upd_same, by simp, (by simp : _ ≤ 1000), fun v7 H10 hv k10 S10 => ?_⟩⟩
      obtain ⟨u, rfl, hu1⟩ : ∃ u : Option Int, v7 = lnV u ∧ ∀ j, u = some j → CB j := by
        simp only [List.mem_cons, List.not_mem_nil, or_false] at hv
        unfold CB
        rcases hv with rfl | rfl | rfl | rfl | rfl
        · exact ⟨none, rfl, fun j e => by cases e⟩
        · exact ⟨some 7, rfl, fun j e => by cases e; omega⟩
        · exact ⟨some 8, rfl, fun j e => by cases e; omega⟩
        · exact ⟨some 3000, rfl, fun j e => by cases e; omega⟩
        · exact ⟨some 1, rfl, fun j e => by cases e; omega⟩
      have K10 : Keep a H9 H10 := ((Keep.refl a H9).new hp3).trans k10
      have hl10 := K10 l _ la hl9
      have hg10 := K10 g _ ga hg9
      refine ⟨szl (by decide : 3 ≤ 1000), fun q hq => ?_⟩
      have lq : l ≠ q := ne_new hl10 hq
      refine ⟨_, by rw [upd_ne lq]; exact hl10, ?_, ?_⟩
      · exact szlt (by rw [List.length_map, Paired.length hP]; omega)
      have t1 : ((lastB Rs 0 : Nat) : Int) + 2 + 2 * (n6 : Int) = ((lastB Rs 0 + 2 + 2 * n6 : Nat) : Int) := by omega
      have t2 : ((2 * A0 : Nat) : Int) + 2 * (n1 : Int) + 2 + 2 * (n2 : Int) = ((2 * (A0 + n1 + 1 + n2) : Nat) : Int) := by omega
      rw [t1, t2]
      generalize hR : (⟨lastB Rs 0, lastB Rs 0 + 2 + 2 * n6, u⟩ : LR) = R
      have e1 : ((lastB Rs 0 : Nat) : Int) = (R.lo : Int) := by rw [← hR]
      have e2 : ((lastB Rs 0 + 2 + 2 * n6 : Nat) : Int) = (R.hi : Int) := by rw [← hR]
      have e3 : lnV u = lnV R.ln := by rw [← hR]
      have eh : R.hi = lastB Rs 0 + 2 + 2 * n6 := by rw [← hR]
      have rl := rb_short (R := B) (by rw [hB]; show A0 + n1 < 4000; omega) (by rw [hB]; show n2 + 1 < 4000; omega) (by rw [hB]; show n3 < 200000; omega) (by rw [hB]; show n4 < 31; omega)
      refine ⟨bs ++ rb B, Rs ++ [R], A0 + n1 + 1 + n2, _, _, _, _, by rw [lastB_snoc, e2], ?_, ?_, ?_, ⟨refs ++ [q], ?_, ?_⟩, by omega, by rw [lastB_snoc, eh]; omega, by rw [List.length_append, List.length_singleton]; omega, ?_, by rw [List.length_append]; omega, fun x hx => ?_⟩
      · intro b o hb' e
        have bl : b ≠ l := fun z => by rw [z, hl0] at e; cases e
        have bg : b ≠ g := fun z => by rw [z, hg0] at e; cases e
        have e10 := K10 b o hb' (K9 b o hb' bg (K2 b o hb' e))
        rw [upd_ne bl, upd_ne (ne_new e10 hq)]
        exact e10
      · obtain ⟨x, y, z, e⟩ := S10
        exact ⟨x, y, z, by rw [upd_ne la.symm, upd_ne (ne_new e hq)]; exact e⟩
      · rw [upd_ne gl, upd_ne (ne_new hg10 hq), hg10]
        simp [vn]
      · rw [upd_same, List.map_append]
        rfl
      · refine Paired.snoc' (Paired.map' hP fun r R e => ?_) (by rw [upd_ne lq.symm, upd_same, e1, e2, e3]; rfl)
        have ra : r ≠ a := fun z => by
          obtain ⟨x, y, w, e2⟩ := S2
          rw [z, e2] at e
          cases e
        have rF : r ≠ l := fun z => by
          rw [z, hl2] at e
          cases e
        have rg : r ≠ g := fun z => by
          rw [z, hg2] at e
          cases e
        have e7 := K10 r _ ra (K9 r _ ra rg e)
        rw [upd_ne rF, upd_ne (ne_new e7 hq)]
        exact e7
      · refine Chn.snoc hch (by rw [← hR]) ⟨?_, ?_, ?_, ?_⟩ <;> rw [← hR]
        · show lastB Rs 0 + 2 ≤ lastB Rs 0 + 2 + 2 * n6
          omega
        · show lastB Rs 0 + 2 + 2 * n6 ≤ 200
          omega
        · show (lastB Rs 0 + 2 + 2 * n6 - lastB Rs 0) % 2 = 0
          omega
        · exact hu1
      · rcases List.mem_append.mp hx with h | h
        · exact hbb x h
        · exact rb_lt x h
    · rintro σ H2 ⟨bs, Rs, A0, v5, v6, v7, v8, rfl, K2, S2, hg2, hl2, hA, hL, hRl, hch, hb, hbb⟩
      simp only [r_seq, r_next, r_brk, r_cont, r_asg, r_name, r_ret, r_retN, r_drop, r_ifs, r_never, r_var, r_c, r_op, r_un, r_if, r_tst, r_b, r_not, r_and, r_or, r_andV, r_orV, r_notV, r_nil, r_cons, r_tup, r_lst, r_cb, r_call, r_bm, r_bm0, r_sl, r_nopart, r_part, r_rev, r_gnil, r_gcons, r_gsub, r_par, r_aug, r_chain, r_I0, r_I, r_U, r_ixd, r_lend, r_tupd, r_listd, r_sld, r_app, r_ext, r_reverse, r_setl, r_cat, r_int1, r_eqS, r_neS, scal_ii, scal_bb, scal_ss, at0, at1, at2, sq_lst, sq_tup, isLst_lst, List.getElem?_cons_zero, List.getElem?_cons_succ, List.set_cons_zero, List.set_cons_succ, V.int.injEq, V.bl.injEq, V.ref.injEq, V.str.injEq, HO.lst.injEq, HO.tup.injEq, Option.some.injEq, exists_eq_left', exists_eq_left, List.cons.injEq, and_true, true_and, decide_eq_true_eq, reduceCtorEq, false_and, exists_false, or_false, false_or, exists_const, and_assoc, exists_and_left, List.append_nil, ix0, ix1, ix2, cm_mod, cdw1009, cdw2003, cdw7, cdw64, cdw2, cm104729, cm2, cm3, upd_same, List.length_cons, List.length_nil, Int.reduceLT, Int.reduceLE, Nat.reduceAdd, Nat.reduceLeDiff, Nat.reduceLT, Int.reduceToNat, r_for1, r_forL, r_forT, r_lcL, r_lc1, r_yes, r_gtupD, wipe_0, wipe_1, List.cons_append, List.nil_append, r_forS, r_ipI, ite_false, ite_true, Bool.not_true, Bool.not_false, decide_true, decide_false, r_isd, r_islt, cD_ty, cD_ref, tD_non, tD_bl, tD_int, tD_str, tD_ref, tH_lst, tH_tup, tH_dK, tH_ins, ki_self, ki_int_bool, ki_non_int, ki_str_int, ki_lt_lst, ki_lt_tup, r_fld, r_sfld, HO.ins.injEq, cx_K]
      have hl' : (1 + m).toNat ≤ 4 := by omega
      obtain ⟨g1, g2, g3⟩ := good_lines hch (by omega)
      refine ⟨l, Rs, 7, rfl, hl2, by omega, g1, by decide, by decide, by omega, fun p H3 hp s3 h3 => ⟨szl (by decide : 2 ≤ 1000), fun q hq => ?_⟩⟩
      have s4 := Same.new' (o := .tup [V.ref g, V.ref p]) s3 hq
      refine k q g p bs _ _ ?_ hg0 (K2.freeS S2 hp) (K2.trans (Keep.same s4)) ?_ upd_same (s4 _ _ hg2) ?_ (by omega) g2 hbb g3
      · exact K2.freeS S2 (s3.free hq)
      · obtain ⟨x, y, z, e⟩ := S2
        exact ⟨x, y, z, s4 _ _ e⟩
      · rw [upd_ne (ne_new h3 hq)]
        exact h3
end
end C49

set_option maxHeartbeats 2000000
namespace C49
open PySem PySem.Spec PyProof.Rows L2
/-! ### the end of a law, told of the very state in which it is called -/
section
variable {P : Program} {w : World} {K : PySem.W.Frag} {mg mb : Str → Option Value} {fa a : Addr} {cs : List (Addr × Addr)} {s : Shared} {vs : List Value} {ns : List Int}
/-- tracked: the tables of code objects, and the script where nothing written holds it -/
def trk (K : PySem.W.Frag) (T : List Addr) (a : Addr) (vs : List Value) (ns : List Int) : Hp := fun b =>
  if b ∈ T then some (.tbl #[]) else if b = a ∧ K.lookup a = none then some (.frz { cls := .type "list", data := .seq vs.toArray } (.lst (ns.map V.int))) else none
theorem trk_tab {T : List Addr} {b : Addr} (h : b ∈ T) : trk K T a vs ns b = some (.tbl #[]) := if_pos h
theorem trk_cases {T : List Addr} {b : Addr} {u : HO} (h : trk K T a vs ns b = some u) : (b ∈ T ∧ u = .tbl #[]) ∨ (b ∉ T ∧ b = a ∧ K.lookup a = none ∧ u = .frz { cls := .type "list", data := .seq vs.toArray } (.lst (ns.map V.int))) := by
  unfold trk at h
  split at h
  · exact .inl ⟨by assumption, (Option.some.inj h).symm⟩
  · split at h
    · rename_i n q
      exact .inr ⟨n, q.1, q.2, (Option.some.inj h).symm⟩
    · cases h
/-- what the law's run at callerA must do -/
def RunsAt (P : Program) (w : World) (K : PySem.W.Frag) (mg : Str → Option Value) (cs : List (Addr × Addr)) (fa a : Addr) (s : Shared) (ns : List Int) : Prop := ∀ (base : Heap) (H : Hp), K.In base → base.Ns mainGlobals mg → (∀ p ∈ cs, LamX.TabB base mg p.1 p.2) → Env0 P w K mg base callerA [] s H →
  (∀ p ∈ cs, H p.2 = some (.tbl #[])) → SqL K H a (ns.map V.int) → codeAny (model P w) callerA (.call (.ref fa) ⟨[.ref a], []⟩) (CR CX0 [] P w H s (fun v _ => v = .bl true) E0) s
theorem end_run (KX : K.In s.heap) (hns : s.heap.Ns mainGlobals mg) (hb : s.heap.Ns builtinsNs mb) (hbb : ∀ x : Str, x ≠ "__name__" → mb x = bootBuiltins x) (hlim : s.heap.NoLimit) (hg : s.gens = #[])
    (hT : ∀ p ∈ cs, s.heap.get? p.2 = some { cls := .none, data := .fields #[] }) (nT : ∀ p ∈ cs, K.lookup p.2 = none) (C : ∀ p ∈ cs, PySem.W.CodeHd s.heap p.1 p.2)
    (hbm : ∃ (bm : Addr) (ob : Obj), mg "__builtins__" = some (.ref bm) ∧ bm ≠ builtinsNs ∧ s.heap.get? bm = some ob ∧ ob.cls = .type "module" ∧ ob.dict = some builtinsNs ∧ ob.data = .plain)
    (ha : s.heap.get? a = some { cls := .type "list", data := .seq vs.toArray }) (hi : IntsAre vs ns) (hl : ns.length ≤ sizeLine) (R : RunsAt P w K mg cs fa a s ns) :
    codeAny (model P w) callerA (.call (.ref fa) ⟨[.ref a], []⟩) (fun r s' => r = .ok (.ret (.bool true)) ∧ OldK s.heap s'.heap ∧ s'.os = s.os ∧ AllBare s'.gens) s := by
  have lens := hi.length
  obtain ⟨T, eT⟩ : ∃ T, T = cs.map (·.2) := ⟨_, rfl⟩
  have inT : ∀ {b : Addr}, b ∈ T → ∃ p ∈ cs, p.2 = b := fun {b} h => by rw [eT] at h; obtain ⟨p, hp, e⟩ := List.mem_map.mp h; exact ⟨p, hp, e⟩
  have toT : ∀ p ∈ cs, p.2 ∈ T := fun p hp => by rw [eT]; exact List.mem_map_of_mem hp
  have tabO : ∀ {b : Addr}, b ∈ T → s.heap.get? b = some { cls := .none, data := .fields #[] } := fun h => by obtain ⟨p, hp, rfl⟩ := inT h; exact hT p hp
  have aT : a ∉ T := fun h => by
    have := ha.symm.trans (tabO h)
    cases congrArg Obj.data (Option.some.inj this)
  generalize eH : trk K T a vs ns = H
  have cas : ∀ {b u}, H b = some u → (b ∈ T ∧ u = .tbl #[]) ∨ (b ∉ T ∧ b = a ∧ K.lookup a = none ∧ u = .frz { cls := .type "list", data := .seq vs.toArray } (.lst (ns.map V.int))) := fun {b u} h => trk_cases (by rw [eH]; exact h)
  -- what is neither a row of values nor an empty row of fields is hidden from nobody
  have free : ∀ {b : Addr} {o : Obj}, s.heap.get? b = some o → (∀ xs n, o.data ≠ .seq xs n) → o.data ≠ .fields #[] → H b = none := fun {b o} e h1 h2 => by
    cases q : H b with
    | none => rfl
    | some u =>
      rcases cas q with ⟨h, _⟩ | ⟨_, rfl, _⟩
      · cases e.symm.trans (tabO h)
        exact absurd rfl h2
      · cases e.symm.trans ha
        exact absurd rfl (h1 _ _)
  have seen : ∀ {b : Addr} {o : Obj}, s.heap.get? b = some o → (∀ xs n, o.data ≠ .seq xs n) → o.data ≠ .fields #[] → (hidT s.heap H).get? b = some o := fun e h1 h2 => hidT_get e (free e h1 h2)
  have nsS : ∀ {b : Addr} {m : Str → Option Value}, s.heap.Ns b m → (hidT s.heap H).Ns b m := fun ⟨o, es, ep, e, d, r⟩ => ⟨o, es, ep, seen e (by rw [d]; intro _ _ z; cases z) (by rw [d]; intro z; cases z), d, r⟩
  have KB : K.In (hidT s.heap H) := fun b o e => hidT_get (KX b o e) (by
    cases q : H b with
    | none => rfl
    | some u =>
      rcases cas q with ⟨h, _⟩ | ⟨_, rfl, n, _⟩
      · obtain ⟨p, hp, rfl⟩ := inT h
        cases (nT p hp).symm.trans e
      · cases n.symm.trans e)
  have MM : L2.Mod K mg (hidT s.heap H) := ⟨KB, nsS hns, ⟨mb, nsS hb, hbb⟩, by obtain ⟨mc, h1, h2⟩ := hlim; exact ⟨mc, nsS h1, h2⟩⟩
  have OK : HOk P w H s.heap := fun b u q => by
    rcases cas q with ⟨h, rfl⟩ | ⟨_, rfl, _, rfl⟩
    · exact tabO h
    · exact ⟨ha, by rw [List.length_map]; exact hl, vs, _, vals_ints hi, ha⟩
  have SQ : SqL K H a (ns.map V.int) := by
    cases k : K.lookup a with
    | none => exact .inl (.inr ⟨_, by rw [← eH]; unfold trk; rw [if_neg aT, if_pos ⟨rfl, k⟩]⟩)
    | some o =>
      cases (KX a o k).symm.trans ha
      exact .inr ⟨_, vs.toArray, _, k, rfl, rfl, rfl, by rw [List.size_toArray, lens]; exact hl, by simpa using vals_ints hi⟩
  have TB : ∀ p ∈ cs, LamX.TabB (hidT s.heap H) mg p.1 p.2 := fun p hp => by
    refine ⟨?_, ?_, ?_⟩
    · obtain ⟨o, us, file, tf, flags, tg, inF, text, tt, e1, r1, r2, r3, r⟩ := C p hp
      exact ⟨o, us, file, tf, flags, tg, inF, text, tt, seen e1 (by rw [r2]; intro _ _ z; cases z) (by rw [r2]; intro z; cases z; simp at r3), r1, r2, r3, r⟩
    · obtain ⟨bm, ob, b1, b2, b3, b4, b5, b6⟩ := hbm
      refine ⟨bm, ob, b1, b2, ?_, ?_, seen b3 (by rw [b6]; intro _ _ z; cases z) (by rw [b6]; intro z; cases z), b4, b5, b6⟩
      · rintro rfl
        obtain ⟨o, es, ep, e, d, _⟩ := hns
        cases e.symm.trans b3
        cases d.symm.trans b6
      · rintro rfl
        cases (hT p hp).symm.trans b3
        cases b6
    · intro z
      obtain ⟨o, es, ep, e, d, _⟩ := hns
      rw [z] at e
      cases (hT p hp).symm.trans e
      cases d
  have E0' : Env0 P w K mg (hidT s.heap H) callerA [] s H := ⟨rfl, MM, fun b o e => of_hidT e, Nat.le_of_eq (hidT_size _ _), trivial, (fun b hb => by cases hb), OK, .of_eq hg⟩
  refine codeAny_mono (R _ H KB (nsS hns) TB E0' (fun p hp => by rw [← eH]; exact trk_tab (toT p hp)) SQ) fun r s' h => ?_
  cases r with
  | error e => exact False.elim h
  | ok fl =>
    cases fl with
    | ret u =>
      obtain ⟨v, H', os, bare, un, ok', rv, rfl⟩ := h
      obtain rfl : u = Value.bool true := rv
      have stay : ∀ {b : Addr} {o : Obj}, b ∉ T → s.heap.get? b = some o → s'.heap.get? b = some o := fun {b o} n e => by
        cases q : H b with
        | none => exact un.keep b o e q (by intro z; cases z) (by simp)
        | some u =>
          rcases cas q with ⟨h, _⟩ | ⟨_, rfl, _, rfl⟩
          · exact absurd h n
          · cases e.symm.trans ha
            exact (ok' _ _ (un.frzs _ _ _ q)).1
      have more : ∀ {b : Addr}, b ∈ T → ∃ xs : Array Value, s'.heap.get? b = some { cls := .none, data := .fields xs } := fun {b} h => by
        obtain ⟨xs, z⟩ := un.tbls b #[] (by rw [← eH]; exact trk_tab h)
        exact ⟨_, ok' b _ z⟩
      refine ⟨rfl, ⟨fun b o e => ?_, fun b o e => ?_⟩, os, bare⟩
      · rcases Classical.em (b ∈ T) with h | h
        · obtain ⟨xs, hx⟩ := more h
          cases (tabO h).symm.trans e
          obtain ⟨p, hp, rfl⟩ := inT h
          exact .inr (.inl ⟨((C p hp).tab (hT p hp)).isCodeTable, rfl, #[], xs, rfl, hx.trans (by rw [Array.empty_append])⟩)
        · exact .inl (stay h e)
      · rcases Classical.em (b ∈ T) with h | h
        · obtain ⟨xs, hx⟩ := more h
          exact ⟨_, hx⟩
        · exact ⟨o, stay h e⟩
    | _ => exact False.elim h
/-- the law's walk, from its run -/
theorem walk_run {l : PySem.W.OpenLaw} {n : Nat} {q : Program} {loose : List Str} {XP : (Str → Option Value) → Heap → Prop} {YP : World → Heap → Prop} {d : DefRec} (hn : l.most = some n) (hn2 : n ≤ sizeLine) (hdf : d.params.defaults = [])
    (F : ∀ (w : World) (mg : Str → Option Value) (fa : Addr) (h : Heap), YP w h → h.Ns mainGlobals mg → mg d.name = some (.ref fa) → ∃ (K : PySem.W.Frag) (cs : List (Addr × Addr)), K.In h ∧ (∀ p ∈ cs, h.get? p.2 = some { cls := .none, data := .fields #[] }) ∧
      (∀ p ∈ cs, K.lookup p.2 = none) ∧ (∀ p ∈ cs, PySem.W.CodeHd h p.1 p.2) ∧ ∀ (s : Shared) (a : Addr) (ns : List Int), ns.length ≤ n → (∀ z ∈ ns, Builtin.Int.intBits z ≤ 1048576) → RunsAt l.prog w K mg cs fa a s ns) :
    PySem.W.WalkO q loose XP YP l.row.toRowW d [] (fun f vs => PySem.call f vs) := by
  refine Att.attach_callB hn hdf fun w s0 s1 mg mb fa o pm cd doc a vs ns G Y ho hd hcd hmg hobj hints hlen hbits hg => ?_
  obtain ⟨K, cs, kx, hT, nT, C, R⟩ := F w mg fa _ Y G.T.g hmg
  exact end_run kx G.T.g G.T.b G.T.builtins G.T.nolimit hg hT nT C G.T.bmain hobj hints (Nat.le_trans hlen hn2) (R s1 a ns hlen hbits)
end

abbrev Nlaw : List Str := ["_law_script", "_law_cell", "_law_source", "_law_turn", "_law_guards", "_law_lines", "_law_made_here", "_law_k"]
abbrev slaw : Stmt := top 53
theorem sclaw : FnScope ["_law_script", "_law_cell", "_law_source", "_law_turn", "_law_guards", "_law_lines", "_law_made_here", "_law_k"] ["_law_script"] (defScope slaw) := ⟨rfl, rfl, rfl, by decide +kernel, rfl, by decide +kernel, by decide +kernel⟩

/-- what the law calls, and its own function object -/
structure LawT (P : Program) (w : World) (K : PySem.W.Frag) (mg : Str → Option Value) (base : Heap) (CC CN CE CT CR CB gS gC : Addr) (cdS cdC : Value) : Prop where
  T : Txt mg
  N : NoTableT K mg CT CE CN
  gR : mg "NoRows" = some (.ref CR)
  gB : mg "NoBytes" = some (.ref CB)
  DS : DefK K mg "_law_same" ssame Nsame gS cdS
  DC : DefK K mg "_law_caught" scaught ["_law_ask"] gC cdC
  C_source_of : Cal P w K mg base 1 "_law_source_of" ["_law_cell"] spSrc
  C_next : Cal P w K mg base 1 "_law_next" ["_law_source", "_law_many"] spNext
  C_good : Cal P w K mg base 4 "_law_good" ["_law_source"] spGood
  C_bent : Cal P w K mg base 3 "_law_bent" ["_law_source", "_law_data", "_law_some"] spBent
  C_handlers_read : Cal P w K mg base 2 "_law_handlers_read" ["_law_data"] spHR
  C_lines_read : Cal P w K mg base 2 "_law_lines_read" ["_law_data", "_law_line"] spLRd
  C_made : Cal P w K mg base 5 "_law_made" ["_law_data", "_law_lines", "_law_guards", "_law_first"] (spMade CC)
  E_exc : CalE P w K mg base 4 "exception_rows" ["code"] (spExc CC CT)
  E_lines : CalE P w K mg base 5 "line_rows" ["code"] (spLineRows CC CT)
section
variable {P : Program} {w : World} {K : PySem.W.Frag} {mg : Str → Option Value} {base : Heap}
abbrev Xlaw (P : Program) (w : World) (K : PySem.W.Frag) (mg : Str → Option Value) (base : Heap) (fa co : Addr) (s : Shared) (H : Hp) : Cx := cxOf CX0 P w K mg base Nlaw "law" (defScope slaw) fa (.ref co) callerA [] s H E0
def t_sameH (K : PySem.W.Frag) (CC CT Pt : Addr) (q : Str) : TS := tIfS (tNot (tB (tSame K CT [(Pt, q)] q (fun E => tCall (spExc CC CT) [] E (tCons (tVar 6) tNil)) (tCons (tCall spHR [] E0 (tCons (tVar 4) tNil)) tNil)))) (tRet (tC (V.bl false))) tNext
def t_sameL (K : PySem.W.Frag) (CC CT Pt : Addr) (q : Str) : TS := tIfS (tNot (tB (tSame K CT [(Pt, q)] q (fun E => tCall (spLineRows CC CT) [] E (tCons (tVar 6) tNil)) (tCons (tCall spLRd [] E0 (tCons (tVar 5) (tCons (tC (V.int 7)) tNil))) tNil)))) (tRet (tC (V.bl false))) tNext
def tRand : TE := tLc (iRng1 (tCons (tCall spNext [] E0 (tCons (tVar 2) (tCons (tC (V.int 9)) tNil))) tNil)) (gName 7) tYes (tCall spNext [] E0 (tCons (tVar 2) (tCons (tC (V.int 256)) tNil))) [7]
def t_bent : TS := tIfS (tTest (tOp (rI0 fun i j => V.bl (decide (j < i))) (tVar 3) (tC (V.int 0))))
  (tSeq (tAsg (tCall spBent [] E0 (tCons (tVar 2) (tCons (tVar 4) (tCons (tLst (tCons (tC (V.int 0)) (tCons (tC (V.int 1)) (tCons (tC (V.int 64)) (tCons (tC (V.int 65)) (tCons (tC (V.int 128)) (tCons (tC (V.int 192)) (tCons (tC (V.int 193)) (tCons (tC (V.int 255)) (tCons (tC (V.int 127)) tNil)))))))))) tNil)))) (gName 4)) (tAsg (tCall spBent [] E0 (tCons (tVar 2) (tCons (tVar 5) (tCons (tLst (tCons (tC (V.int 0)) (tCons (tC (V.int 1)) (tCons (tC (V.int 2)) (tCons (tC (V.int 64)) (tCons (tC (V.int 65)) (tCons (tC (V.int 127)) (tCons (tC (V.int 128)) (tCons (tC (V.int 231)) (tCons (tC (V.int 232)) (tCons (tC (V.int 240)) (tCons (tC (V.int 248)) (tCons (tC (V.int 255)) tNil))))))))))))) tNil)))) (gName 5))) tNext
def t_rand : TS := tIfS (tTest (tOp rEq (tVar 3) (tC (V.int 7)))) (tSeq (tAsg tRand (gName 4)) (tAsg tRand (gName 5))) tNext
def t_good : TS := tAsg (tCall spGood [] E0 (tCons (tVar 2) tNil)) (gTupD 2 (gCons (gName 4) (gCons (gName 5) gNil)))
def t_made (CC : Addr) : TS := tAsg (tCall (spMade CC) [] E0 (tCons (tLst (tCons (tC (V.int 30)) (tCons (tC (V.int 0)) tNil))) (tCons (tVar 5) (tCons (tVar 4) (tCons (tC (V.int 7)) tNil))))) (gName 6)
def t_turn (K : PySem.W.Frag) (CC CT Pt : Addr) (q : Str) : TS := tSeq t_good (tSeq t_bent (tSeq t_rand (tSeq (t_made CC) (tSeq (t_sameH K CC CT Pt q) (t_sameL K CC CT Pt q)))))
def t_cell (K : PySem.W.Frag) (CC CT Pt : Addr) (q : Str) : TS := tSeq (tAsg (tCall spSrc [] E0 (tCons (tVar 1) tNil)) (gName 2)) (tFor (iRng1 (tCons (tC (V.int 8)) tNil)) (gName 3) (t_turn K CC CT Pt q))
def t_law (K : PySem.W.Frag) (CC CT Pt : Addr) (q : Str) : TS := tSeq (tFor (iList K (tSl rSld (tOp (rCatS K) (tVar 0) (tLst (tCons (tC (V.int 0)) tNil))) tNoPart (tPart (tC (V.int 6))))) (gName 1) (t_cell K CC CT Pt q)) (tRet (tC (V.bl true)))
theorem law_reads {CC CN CE CT CR CB gS gC fa co Pt : Addr} {cdS cdC : Value} {s : Shared} {H : Hp} (L : LawT P w K mg base CC CN CE CT CR CB gS gC cdS cdC) (TB : LamX.TabB base mg co Pt) (hr : Room 9 (Xlaw P w K mg base fa co s H).nox.A) (hgd : (Xlaw P w K mg base fa co s H).nox.A.guards = some []) :
    PSs (Xlaw P w K mg base fa co s H).nox (defBody slaw) (t_law (Xlaw P w K mg base fa co s H).nox.K CC CT Pt ((Xlaw P w K mg base fa co s H).nox.env.qual ++ "<lambda>")) := by
  have hu64 : (Xlaw P w K mg base fa co s H).nox.A.units + 64 < cLine := by have := hr.un; omega
  have hu20 : (Xlaw P w K mg base fa co s H).nox.A.units + 20 < cLine := by have := hr.un; omega
  have T := L.T
  have C_source_of := L.C_source_of
  have C_next := L.C_next
  have C_good := L.C_good
  have C_bent := L.C_bent
  have C_handlers_read := L.C_handlers_read
  have C_lines_read := L.C_lines_read
  have C_made := L.C_made
  unfold t_law t_cell t_turn t_good t_bent t_rand t_made t_sameH t_sameL tRand
  exact (pss_cons (ps_for PassesOwn.never rfl (pi_list (pe_slice sl_d (pe_op op_catS (pv 0) (pe_lst (pa_cons pe_int pa_nil))) po_none (po_some pe_int))) (pg_name (i := 1) sclaw.nd rfl (Or.inl rfl))
    (pss_cons (ps_set (i := 2) sclaw.nd rfl (Or.inr rfl) (pe_cal C_source_of (hr.mono (by decide)) rfl (pa_cons (pv 1) pa_nil)))
  (pss_one (ps_for PassesOwn.never rfl (pi_range1 rfl T.b_range (pa_cons pe_int pa_nil)) (pg_name (i := 3) sclaw.nd rfl (Or.inl rfl))
    (pss_cons (ps_asg (pe_cal C_good (hr.mono (by decide)) rfl (pa_cons (pv 2) pa_nil)) (pg_tupD (n := 2) rfl (pgs_cons (pg_name (i := 4) sclaw.nd rfl (Or.inl rfl)) (pgs_cons (pg_name (i := 5) sclaw.nd rfl (Or.inl rfl)) pgs_nil))))
  (pss_cons (ps_if (pt_cmpR op_gt (pv 3) pe_int (nomark _))
    (pss_cons (ps_set (i := 4) sclaw.nd rfl (Or.inl rfl) (pe_cal C_bent (hr.mono (by decide)) rfl (pa_cons (pv 2) (pa_cons (pv 4) (pa_cons (pe_lst (pa_cons pe_int (pa_cons pe_int (pa_cons pe_int (pa_cons pe_int (pa_cons pe_int (pa_cons pe_int (pa_cons pe_int (pa_cons pe_int (pa_cons pe_int pa_nil)))))))))) pa_nil)))))
  (pss_one (ps_set (i := 5) sclaw.nd rfl (Or.inl rfl) (pe_cal C_bent (hr.mono (by decide)) rfl (pa_cons (pv 2) (pa_cons (pv 5) (pa_cons (pe_lst (pa_cons pe_int (pa_cons pe_int (pa_cons pe_int (pa_cons pe_int (pa_cons pe_int (pa_cons pe_int (pa_cons pe_int (pa_cons pe_int (pa_cons pe_int (pa_cons pe_int (pa_cons pe_int (pa_cons pe_int pa_nil))))))))))))) pa_nil)))))))
    pss_nil)
  (pss_cons (ps_if (pt_cmpR op_eq (pv 3) pe_int (nomark _))
    (pss_cons (ps_setLc (i := 4) (own := [("_law_k", 7)]) (g := gName 7) (tt := tYes) rfl sclaw.nd rfl rfl (sw_true rfl rfl rfl (by decide +kernel)) (pi_range1 rfl T.b_range (pa_cons (pe_cal C_next (hr.mono (by decide)) rfl (pa_cons (pv 2) (pa_cons pe_int pa_nil))) pa_nil)) (blkOk_by (own := [("_law_k", 7)]) (N := ["_law_script", "_law_cell", "_law_source", "_law_turn", "_law_guards", "_law_lines", "_law_made_here", "_law_k"]) (sc := defScope slaw) (by decide +kernel)) (fun _ _ _ _ _ => (pg_name (i := 7) sclaw.nd rfl (Or.inl rfl))) (fun _ _ _ _ _ => pts_nil) (fun _ _ _ _ _ => (pe_cal C_next (hr.mono (by decide)) rfl (pa_cons (pv 2) (pa_cons pe_int pa_nil)))))
  (pss_one (ps_setLc (i := 5) (own := [("_law_k", 7)]) (g := gName 7) (tt := tYes) rfl sclaw.nd rfl rfl (sw_true rfl rfl rfl (by decide +kernel)) (pi_range1 rfl T.b_range (pa_cons (pe_cal C_next (hr.mono (by decide)) rfl (pa_cons (pv 2) (pa_cons pe_int pa_nil))) pa_nil)) (blkOk_by (own := [("_law_k", 7)]) (N := ["_law_script", "_law_cell", "_law_source", "_law_turn", "_law_guards", "_law_lines", "_law_made_here", "_law_k"]) (sc := defScope slaw) (by decide +kernel)) (fun _ _ _ _ _ => (pg_name (i := 7) sclaw.nd rfl (Or.inl rfl))) (fun _ _ _ _ _ => pts_nil) (fun _ _ _ _ _ => (pe_cal C_next (hr.mono (by decide)) rfl (pa_cons (pv 2) (pa_cons pe_int pa_nil)))))))
    pss_nil)
  (pss_cons (ps_set (i := 6) sclaw.nd rfl (Or.inr rfl) (pe_cal C_made (hr.mono (by decide)) rfl (pa_cons (pe_lst (pa_cons pe_int (pa_cons pe_int pa_nil))) (pa_cons (pv 5) (pa_cons (pv 4) (pa_cons pe_int pa_nil))))))
  (pss_cons (ps_if (pt_not (pt_val (pe_same (k := 4) (T := [(Pt, (Xlaw P w K mg base fa co s H).nox.env.qual ++ "<lambda>")]) (t := fun E => tCall (spExc CC CT) [] E (tCons (tVar 6) tNil)) L.T L.N L.gR L.gB L.DS L.DC rfl TB rfl (List.mem_singleton.mpr rfl) (fun p hp _ => by rw [List.mem_singleton.mp hp]) hr (by decide) (show LamX.LamS (defScope slaw) _ from LamX.lamS_by (by decide +kernel)) rfl (fun _ _ _ _ _ => rfl) (fun A outer s H E f c' hr2 => pe_calE L.E_exc hr2 rfl (takes_of rfl rfl rfl rfl) (fun _ _ _ _ z => z) (pa_cons (pv 6) pa_nil)) (pa_cons (pe_cal C_handlers_read (hr.mono (by decide)) rfl (pa_cons (pv 4) pa_nil)) pa_nil) (fun b hb => ⟨fun z => hb (by rw [z]; exact List.mem_cons_self ..), fun z => hb (List.mem_cons_of_mem _ z)⟩) hgd (fun _ _ => hgd))))
    (pss_one (ps_ret pe_bl))
    pss_nil)
  (pss_one (ps_if (pt_not (pt_val (pe_same (k := 5) (T := [(Pt, (Xlaw P w K mg base fa co s H).nox.env.qual ++ "<lambda>")]) (t := fun E => tCall (spLineRows CC CT) [] E (tCons (tVar 6) tNil)) L.T L.N L.gR L.gB L.DS L.DC rfl TB rfl (List.mem_singleton.mpr rfl) (fun p hp _ => by rw [List.mem_singleton.mp hp]) hr (by decide) (show LamX.LamS (defScope slaw) _ from LamX.lamS_by (by decide +kernel)) rfl (fun _ _ _ _ _ => rfl) (fun A outer s H E f c' hr2 => pe_calE L.E_lines hr2 rfl (takes_of rfl rfl rfl rfl) (fun _ _ _ _ z => z) (pa_cons (pv 6) pa_nil)) (pa_cons (pe_cal C_lines_read (hr.mono (by decide)) rfl (pa_cons (pv 5) (pa_cons pe_int pa_nil))) pa_nil) (fun b hb => ⟨fun z => hb (by rw [z]; exact List.mem_cons_self ..), fun z => hb (List.mem_cons_of_mem _ z)⟩) hgd (fun _ _ => hgd))))
    (pss_one (ps_ret pe_bl))
    pss_nil)))))))))))
  (pss_one (ps_ret pe_bl)))
end
end C49

set_option maxHeartbeats 2000000
namespace C49
open PySem PySem.Spec PyProof.Rows L2
/-! ### numbers that can be shown -/
@[irreducible] def mxN : Nat := 2 ^ 1600
@[irreducible] def reN : Nat := 64 ^ 250
theorem re_mx : 600 * reN ≤ mxN := by
  unfold reN mxN
  decide +kernel
theorem re_big : 10000 ≤ reN := by
  unfold reN
  decide +kernel
theorem mx_log : mxN ≤ 2 ^ 1920 := by
  unfold mxN
  decide +kernel
theorem mx_dig : mxN ≤ 10 ^ 482 := by
  unfold mxN
  decide +kernel
def Sm (i : Int) : Prop := i.natAbs < mxN
theorem sm_show {i : Int} (h : Sm i) : (PyData.int i).showable = true := by
  simp only [PyData.showable, decide_eq_true_eq]
  rcases Nat.eq_zero_or_pos i.natAbs with e | e
  · rw [e]
    decide
  · exact (Nat.log2_lt (by omega)).mpr (Nat.lt_of_lt_of_le h mx_log)
theorem sm_short {i : Int} (h : Sm i) : (PyData.int i).leavesShort 490 = true := by
  have e := PySem.int_text_length_le10 (a := i) (k := 482) (by decide) (Nat.lt_of_lt_of_le h mx_dig)
  simp only [PyData.leavesShort, decide_eq_true_eq]
  show (Str.ofString (toString i)).length ≤ 490
  rw [PySem.ofString_length]
  omega
theorem sm_of {i : Int} (h : i.natAbs ≤ 590 * reN) : Sm i := by
  have h1 := re_mx
  have h2 := re_big
  unfold Sm
  omega
theorem pow_re {n k : Nat} (h : n < 64 ^ k) (hk : k ≤ 250) : n < reN := by
  unfold reN
  exact Nat.lt_of_lt_of_le h (Nat.pow_le_pow_right (by decide) hk)
/-! ### rows of handlers -/
def RS (R : Row) : Prop := R.b < reN ∧ R.s < reN ∧ R.t < reN ∧ R.d < reN
theorem numsF_ok {all : List Nat} (ha : all.length ≤ 250) : ∀ {k i : Nat} {b : Bool} {ns : List Nat} {j : Nat}, numsF all k i b = .ok (ns, j) → ∀ n ∈ ns, n < reN
  | 0, i, b, ns, j, h => by
    cases h
    exact fun n hn => by cases hn
  | k + 1, i, b, ns, j, h => by
    rw [numsF] at h
    split at h
    · cases h
    · rename_i n j1 e1
      split at h
      · cases h
      · rename_i ms j2 e2
        cases h
        obtain ⟨q1, q2, q3⟩ := nread_ok e1
        intro m hm
        rcases List.mem_cons.mp hm with rfl | hm
        · exact pow_re q3 (by omega)
        · exact numsF_ok ha e2 m hm
theorem row4_ok {all : List Nat} (ha : all.length ≤ 250) {i j : Nat} {r : Row} (h : row4 all i = .ok (r, j)) : RS r := by
  unfold row4 at h
  split at h
  · cases h
  · rename_i a s t l j1 e
    cases h
    have q := numsF_ok ha e
    have h1 := q a (by simp)
    have h2 := q s (by simp)
    have h3 := q t (by simp)
    have h4 := q l (by simp)
    exact ⟨h1, h2, h3, by show l / 2 < reN; omega⟩
  · cases h
theorem hreadF_ok {all : List Nat} (ha : all.length ≤ 250) : ∀ {n i : Nat} {rs : List Row}, hreadF all n i = .ok rs → (∀ R ∈ rs, RS R) ∧ rs.length ≤ n
  | 0, i, rs, h => by
    cases h
    exact ⟨(fun R hR => by cases hR), Nat.le_refl _⟩
  | n + 1, i, rs, h => by
    rw [hreadF] at h
    split at h
    · cases h
      exact ⟨(fun R hR => by cases hR), Nat.zero_le _⟩
    · split at h
      · cases h
      · rename_i r j e
        split at h
        · cases h
        · rename_i qs e2
          cases h
          obtain ⟨g1, g2⟩ := hreadF_ok ha e2
          refine ⟨fun R hR => ?_, by rw [List.length_cons]; omega⟩
          rcases List.mem_cons.mp hR with rfl | hR
          · exact row4_ok ha e
          · exact g1 R hR
def rowD (R : Row) : PyData := .tuple [.int ((2 * R.b : Nat) : Int), .int ((2 * (R.b + R.s) : Nat) : Int), .int ((2 * R.t : Nat) : Int), .int (R.d : Int), .bool R.w]
theorem dp_row {K : PySem.W.Frag} {H : Hp} {r : Addr} {R : Row} (h : H r = some (.tup (rv R))) : Dp K H (.ref r) (rowD R) := .tup (SqT.of h) (.cons (.int _) (.cons (.int _) (.cons (.int _) (.cons (.int _) (.cons (.bl _) .nil)))))
theorem dp_all {K : PySem.W.Frag} {H : Hp} : ∀ {refs : List Addr} {Rs : List Row}, Paired (fun r R => H r = some (.tup (rv R))) refs Rs → DpAll K H (refs.map V.ref) (Rs.map rowD)
  | _, _, .nil => .nil
  | _, _, .cons h t => .cons (dp_row h) (dp_all t)
theorem row_facts {R : Row} (h : RS R) : (rowD R).showable = true ∧ (rowD R).hasDict = false ∧ (rowD R).depth ≤ 1 ∧ (rowD R).bulk ≤ 5 ∧ (rowD R).leavesShort 490 = true := by
  obtain ⟨h1, h2, h3, h4⟩ := h
  have a1 : Sm ((2 * R.b : Nat) : Int) := sm_of (by omega)
  have a2 : Sm ((2 * (R.b + R.s) : Nat) : Int) := sm_of (by omega)
  have a3 : Sm ((2 * R.t : Nat) : Int) := sm_of (by omega)
  have a4 : Sm (R.d : Int) := sm_of (by omega)
  unfold rowD
  refine ⟨?_, ?_, ?_, ?_, ?_⟩
  · simp only [PyData.showable, PyData.showableAll, Bool.and_eq_true]
    exact ⟨sm_show a1, sm_show a2, sm_show a3, sm_show a4, trivial, trivial⟩
  · simp only [PyData.hasDict, PyData.hasDictAll]
    rfl
  · simp only [PyData.depth, PyData.depthAll]
    decide
  · simp only [PyData.bulk, PyData.bulkAll]
    decide
  · simp only [PyData.leavesShort, PyData.leavesShortAll, Bool.and_eq_true]
    exact ⟨sm_short a1, sm_short a2, sm_short a3, sm_short a4, trivial, trivial⟩
theorem rows_facts : ∀ {Rs : List Row}, (∀ R ∈ Rs, RS R) → PyData.showableAll (Rs.map rowD) = true ∧ PyData.hasDictAll (Rs.map rowD) = false ∧ PyData.depthAll (Rs.map rowD) ≤ 1 ∧ PyData.bulkAll (Rs.map rowD) ≤ 6 * Rs.length ∧ PyData.leavesShortAll 490 (Rs.map rowD) = true
  | [], _ => ⟨rfl, rfl, by simp [PyData.depthAll], by simp [PyData.bulkAll], rfl⟩
  | R :: Rs, h => by
    obtain ⟨a1, a2, a3, a4, a5⟩ := row_facts (h R List.mem_cons_self)
    obtain ⟨b1, b2, b3, b4, b5⟩ := rows_facts fun Q hq => h Q (List.mem_cons_of_mem _ hq)
    simp only [List.map_cons, PyData.showableAll, PyData.hasDictAll, PyData.depthAll, PyData.bulkAll, PyData.leavesShortAll, a1, a2, a5, b1, b2, b5, List.length_cons]
    refine ⟨rfl, rfl, ?_, ?_, rfl⟩
    · exact Nat.max_le.mpr ⟨a3, b3⟩
    · omega
theorem shown_list {ds : List PyData} {n : Nat} (h1 : PyData.showableAll ds = true) (h2 : PyData.hasDictAll ds = false) (h3 : PyData.depthAll ds ≤ 1) (h4 : PyData.bulkAll ds ≤ 6 * n) (h5 : PyData.leavesShortAll 490 ds = true) (hn : n ≤ 2500) :
    (PyData.list ds).showable = true ∧ (PyData.list ds).hasDict = false ∧ (PyData.list ds).depth ≤ 10 ∧ (PyData.list ds).shown.length ≤ sizeLine := by
  refine ⟨by simpa only [PyData.showable] using h1, by simpa only [PyData.hasDict] using h2, ?_, ?_⟩
  · simp only [PyData.depth]
    omega
  · have e := PyData.shown_le_bulk 490 (by decide) (.list ds) (by simpa only [PyData.leavesShort] using h5)
    have e2 : (PyData.list ds).bulk = PyData.bulkAll ds := by simp only [PyData.bulk]
    have : sizeLine = 16777216 := by rw [sizeLine_eq]
    have e3 : (490 + 2) * (PyData.list ds).bulk ≤ 492 * 15000 := Nat.mul_le_mul (by omega) (by omega)
    omega
theorem repr_rows {K : PySem.W.Frag} {H : Hp} {F : Addr} {Rs : List Row} {Q : VK} (r : RowsL H F Rs) (h : ∀ R ∈ Rs, RS R) (hl : Rs.length ≤ 2000) (q : Q (.str (PyData.list (Rs.map rowD)).shown) H) : rReprD K [.ref F] H Q := by
  obtain ⟨b1, b2, b3, b4, b5⟩ := rows_facts h
  obtain ⟨a1, a2, a3, a4⟩ := shown_list (n := Rs.length) b1 b2 b3 b4 b5 (by omega)
  obtain ⟨refs, e, p⟩ := r
  exact ⟨F, _, rfl, .lst (SqL.of e) (dp_all p), a1, a2, a3, a4, q⟩
/-! ### rows of lines -/
def LS (R : LR) : Prop := Sm (R.lo : Int) ∧ Sm (R.hi : Int) ∧ ∀ i, R.ln = some i → Sm i
def ES (e : Ent) : Prop := EntU e ∧ ∀ n, e.2 = some n → n.natAbs < reN
theorem zag_abs (m : Nat) : (zag m).natAbs ≤ m := by
  unfold zag
  split <;> omega
theorem ent1_small {all : List Nat} (ha : all.length ≤ 250) {i j : Nat} {e : Ent} (h : ent1 all i = .ok (e, j)) : ES e := by
  refine ⟨(ent1_ok h).2.2, ?_⟩
  by_cases c : i < all.length
  · rw [ent1_at c] at h
    split at h
    · cases h
      exact fun n z => by cases z
    · split at h
      · cases q : sread all (i + 1) with
        | error e => rw [q] at h; cases h
        | ok mj =>
          obtain ⟨m, j'⟩ := mj
          rw [q] at h
          cases h
          obtain ⟨h1, h2, h3⟩ := sread_ok q
          intro n z
          cases z
          have := zag_abs m
          have := pow_re h3 (by omega)
          omega
      · cases h
  · unfold ent1 at h
    rw [drop_end c] at h
    cases h
theorem lreadF_small {all : List Nat} (ha : all.length ≤ 250) : ∀ {n i : Nat} {es : List Ent}, lreadF all n i = .ok es → ∀ e ∈ es, ES e
  | 0, i, es, h => by
    cases h
    exact fun e he => by cases he
  | n + 1, i, es, h => by
    rw [lreadF] at h
    split at h
    · cases h
      exact fun e he => by cases he
    · split at h
      · cases h
      · rename_i r j e
        split at h
        · cases h
        · rename_i qs e2
          cases h
          intro x hx
          rcases List.mem_cons.mp hx with rfl | hx
          · exact ent1_small ha e
          · exact lreadF_small ha e2 x hx
theorem rowsOf_small : ∀ {es : List Ent} {b : Nat} {l : Int} {k : Nat}, (∀ e ∈ es, ES e) → b ≤ 16 * k → l.natAbs ≤ 5000 + k * reN → k + es.length ≤ 580 → ∀ R ∈ rowsOf es b l, LS R
  | [], b, l, k, _, _, _, _ => fun R hR => by cases hR
  | e :: es, b, l, k, h, hb, hl, hk => by
    obtain ⟨⟨u1, u2⟩, he⟩ := h e List.mem_cons_self
    have rb := re_big
    have kk : k * reN + reN = (k + 1) * reN := by rw [Nat.succ_mul]
    have top : (k + 1) * reN ≤ 580 * reN := Nat.mul_le_mul_right _ (by rw [List.length_cons] at hk; omega)
    have ab : ∀ n, e.2 = some n → (l + n).natAbs ≤ 5000 + (k + 1) * reN := fun n z => by
      have := he n z
      omega
    intro R hR
    rcases List.mem_cons.mp hR with rfl | hR
    · have hk' : k ≤ 580 := by omega
      refine ⟨sm_of (by show ((b : Nat) : Int).natAbs ≤ _; omega), sm_of (by show ((b + 2 * e.1 : Nat) : Int).natAbs ≤ _; omega), fun i z => ?_⟩
      have z' : e.2.map (l + ·) = some i := z
      cases q : e.2 with
      | none => rw [q] at z'; cases z'
      | some n =>
        rw [q] at z'
        cases z'
        have := ab n q
        exact sm_of (by show (l + n).natAbs ≤ _; omega)
    · refine rowsOf_small (es := es) (k := k + 1) (fun x hx => h x (List.mem_cons_of_mem _ hx)) (by omega) ?_ (by rw [List.length_cons] at hk; omega) R hR
      unfold stepLn
      cases q : e.2 with
      | none => show (l + 0).natAbs ≤ _; omega
      | some n => exact ab n q
theorem jstep_LS {acc : List LR} {R : LR} (h : ∀ Q ∈ acc, LS Q) (g : LS R) : ∀ Q ∈ jstep acc R, LS Q := by
  rcases List.eq_nil_or_concat acc with rfl | ⟨xs, q, rfl⟩
  · intro Q hQ
    rw [jstep_nil] at hQ
    rw [List.mem_singleton.mp hQ]
    exact g
  · rw [List.concat_eq_append] at h ⊢
    rw [jstep_snoc]
    split
    · intro Q hQ
      rcases List.mem_append.mp hQ with z | z
      · exact h Q (List.mem_append_left _ z)
      · rw [List.mem_singleton.mp z]
        exact ⟨(h q (by simp)).1, g.2.1, g.2.2⟩
    · intro Q hQ
      rcases List.mem_append.mp hQ with z | z
      · exact h Q z
      · rw [List.mem_singleton.mp z]
        exact g
theorem fold_LS : ∀ {Rs acc : List LR}, (∀ Q ∈ acc, LS Q) → (∀ Q ∈ Rs, LS Q) → ∀ Q ∈ Rs.foldl jstep acc, LS Q
  | [], acc, h, _ => h
  | R :: Rs, acc, h, g => fold_LS (Rs := Rs) (jstep_LS h (g R List.mem_cons_self)) fun Q hQ => g Q (List.mem_cons_of_mem _ hQ)
theorem join_LS {Rs : List LR} (h : ∀ Q ∈ Rs, LS Q) : ∀ Q ∈ joinL Rs, LS Q := fold_LS (fun Q hQ => by cases hQ) h
theorem ln_facts {l : Option Int} (h : ∀ i, l = some i → Sm i) : (lnD l).showable = true ∧ (lnD l).hasDict = false ∧ (lnD l).depth = 0 ∧ (lnD l).bulk = 0 ∧ (lnD l).leavesShort 490 = true := by
  cases l with
  | none => exact ⟨by simp [lnD, PyData.showable], rfl, by simp [lnD, PyData.depth], by simp [lnD, PyData.bulk], by simp [lnD, PyData.leavesShort]⟩
  | some i => exact ⟨sm_show (h i rfl), rfl, by simp [lnD, PyData.depth], by simp [lnD, PyData.bulk], sm_short (h i rfl)⟩
theorem lr_facts {R : LR} (h : LS R) : (lrD R).showable = true ∧ (lrD R).hasDict = false ∧ (lrD R).depth ≤ 1 ∧ (lrD R).bulk ≤ 5 ∧ (lrD R).leavesShort 490 = true := by
  obtain ⟨a1, a2, h4⟩ := h
  obtain ⟨l1, l2, l3, l4, l5⟩ := ln_facts h4
  unfold lrD
  refine ⟨?_, ?_, ?_, ?_, ?_⟩
  · simp only [PyData.showable, PyData.showableAll, Bool.and_eq_true]
    exact ⟨sm_show a1, sm_show a2, l1, trivial⟩
  · simp only [PyData.hasDict, PyData.hasDictAll, l2]
    rfl
  · simp only [PyData.depth, PyData.depthAll, l3]
    decide
  · simp only [PyData.bulk, PyData.bulkAll, l4]
    decide
  · simp only [PyData.leavesShort, PyData.leavesShortAll, Bool.and_eq_true]
    exact ⟨sm_short a1, sm_short a2, l5, trivial⟩
theorem lrs_facts : ∀ {Rs : List LR}, (∀ R ∈ Rs, LS R) → PyData.showableAll (Rs.map lrD) = true ∧ PyData.hasDictAll (Rs.map lrD) = false ∧ PyData.depthAll (Rs.map lrD) ≤ 1 ∧ PyData.bulkAll (Rs.map lrD) ≤ 6 * Rs.length ∧ PyData.leavesShortAll 490 (Rs.map lrD) = true
  | [], _ => ⟨rfl, rfl, by simp [PyData.depthAll], by simp [PyData.bulkAll], rfl⟩
  | R :: Rs, h => by
    obtain ⟨a1, a2, a3, a4, a5⟩ := lr_facts (h R List.mem_cons_self)
    obtain ⟨b1, b2, b3, b4, b5⟩ := lrs_facts fun Q hq => h Q (List.mem_cons_of_mem _ hq)
    simp only [List.map_cons, PyData.showableAll, PyData.hasDictAll, PyData.depthAll, PyData.bulkAll, PyData.leavesShortAll, a1, a2, a5, b1, b2, b5, List.length_cons]
    refine ⟨rfl, rfl, ?_, ?_, rfl⟩
    · exact Nat.max_le.mpr ⟨a3, b3⟩
    · omega
theorem repr_lrs {K : PySem.W.Frag} {H : Hp} {F : Addr} {Rs : List LR} {Q : VK} (r : LRows H F Rs) (h : ∀ R ∈ Rs, LS R) (hl : Rs.length ≤ 2000) (q : Q (.str (PyData.list (Rs.map lrD)).shown) H) : rReprD K [.ref F] H Q := by
  obtain ⟨b1, b2, b3, b4, b5⟩ := lrs_facts h
  obtain ⟨a1, a2, a3, a4⟩ := shown_list (n := Rs.length) b1 b2 b3 b4 b5 (by omega)
  obtain ⟨refs, e, p⟩ := r
  exact ⟨F, _, rfl, .lst (SqL.of e) (dp_lrs p), a1, a2, a3, a4, q⟩
theorem read_lines {all : List Nat} {es : List Ent} (ha : all.length ≤ 250) (h : lreadF all all.length 0 = .ok es) : (∀ R ∈ joinL (rowsOf es 0 7), LS R) ∧ (joinL (rowsOf es 0 7)).length ≤ 2000 := by
  have l1 := (lreadF_ok h).2
  have l2 : ∀ (es : List Ent) (b : Nat) (l : Int), (rowsOf es b l).length = es.length := fun es => by
    induction es with
    | nil => exact fun _ _ => rfl
    | cons e es ih => exact fun b l => congrArg (· + 1) (ih _ _)
  have l3 := joinL_len (rowsOf es 0 7)
  have l4 := l2 es 0 7
  exact ⟨join_LS (rowsOf_small (k := 0) (lreadF_small ha h) (by omega) (by omega) (by omega)), by omega⟩
end C49

set_option maxHeartbeats 2000000
namespace C49
open PySem PySem.Spec PyProof.Rows L2
theorem ExtN.same {H H' : Hp} (s : Same H H') : LamX.ExtN H H' := fun b o e _ => s b o e
theorem tabs_keep {T : List (Addr × Str)} {a : Addr} {H H' : Hp} (t : LamX.Tabs T H) (k : Keep a H H') (ha : ∃ xs, H a = some (.lst xs)) : LamX.Tabs T H' := by
  obtain ⟨xs, ha⟩ := ha
  intro p hp
  obtain ⟨ps, h1, h2, h3⟩ := t p hp
  have n1 : p.1 ≠ a := fun z => by rw [z, ha] at h1; cases h1
  refine ⟨ps, k _ _ n1 h1, h2, fun pos cv hc => ?_⟩
  obtain ⟨c, e1, e2⟩ := h3 pos cv hc
  have n2 : c ≠ a := fun z => by rw [z, ha] at e2; cases e2
  exact ⟨c, e1, k _ _ n2 e2⟩
theorem tabs_same {T : List (Addr × Str)} {H H' : Hp} (t : LamX.Tabs T H) (k : Same H H') : LamX.Tabs T H' := t.ext fun b o e => k b o e
theorem Same.trans' {H H1 H2 : Hp} (a : Same H H1) (b : Same H1 H2) : Same H H2 := fun c o e => b c o (a c o e)
theorem ExtN.keep {a : Addr} {H H' : Hp} (nH : H a = none) (k : Keep a H H') : LamX.ExtN H H' := fun b o e _ => k b o (ne_new e nH) e
/-! ### comparing -/
section
variable {K : PySem.W.Frag} {CT Pt : Addr} {q : Str}
theorem st_tab : PyData.strOk (Str.ofString "table") = true := by decide +kernel
theorem eq_tab {H : Hp} {p p' : Addr} {j : Nat} {Q : VK} (h1 : H p = some (.tup [.str "table", .int (j : Int)])) (h2 : H p' = some (.tup [.str "table", .int (j : Int)])) (k : Q (.bl true) H) : rEqD K (.ref p) (.ref p') H Q := by
  refine ⟨.tuple [.str "table", .int (j : Int)], .tuple [.str "table", .int (j : Int)], .tup (SqT.of h1) (.cons (.str _) (.cons (.int _) .nil)), .tup (SqT.of h2) (.cons (.str _) (.cons (.int _) .nil)), ?_, ?_, ?_⟩
  · simp [SeqAt.shaped, PyData.canLay0, PyData.canLayAll0, PyData.depth, PyData.depthAll, st_tab]
  · simp [SeqAt.shaped, PyData.canLay0, PyData.canLayAll0, PyData.depth, PyData.depthAll, st_tab]
  · rw [SeqAt.eqv_refl _ (by simp [PyData.canLay0, PyData.canLayAll0, st_tab])]
    exact k
theorem same_run {t : XK → TE} {ta : TA} {σ : L2.St} {H : Hp} {Q : VK} {r : Except Nat PyData} (tb : LamX.Tabs [(Pt, q)] H)
    (hta : ∀ (H1 : Hp) (QA : List V → Hp → Prop), LamX.ExtN H H1 → (∀ j, r = .error j → ∀ H', Same H1 H' → QA [.int (j : Int)] H') → (∀ d, r = .ok d → ∀ F xs H', H' F = some (.lst xs) → Same H1 H' → (∀ H2 Q, Same H' H2 → Q (.str d.shown) H2 → rReprD K [.ref F] H2 Q) → QA [.ref F] H') → ta σ H1 QA)
    (ht : ∀ (E : XK) (H1 : Hp) (Q : VK), LamX.ExtN H H1 → (∀ j, r = .error j → ∀ d H', H1 d = none → Same H1 H' → H' d = some (.xd [("at", .int (j : Int))]) → E (.ref CT) (some d) H') → (∀ d, r = .ok d → ∀ F H', Same H1 H' → (∀ H2 Q, Same H' H2 → Q (.str d.shown) H2 → rReprD K [.ref F] H2 Q) → Q (.ref F) H') → t E σ H1 Q)
    (k : ∀ H', LamX.ExtN H H' → LamX.Tabs [(Pt, q)] H' → Q (.bl true) H') : tSame K CT [(Pt, q)] q t ta σ H Q := by
  refine ⟨tb, fun H1 c' e1 t1 hc => hta H1 _ e1 (fun j hj H2 s2 => ?_) (fun d hd F xs H2 hF s2 rp => ?_)⟩
  · refine ⟨s2 _ _ hc, .inl ⟨(j : Int), rfl, ?_⟩⟩
    refine ht _ H2 _ (e1.trans (ExtN.same s2)) (fun j' hj' d H3 hd s3 h3 => ?_) (fun d hd => by rw [hj] at hd; cases hd)
    obtain rfl : j = j' := by rw [hj] at hj'; cases hj'; rfl
    refine ⟨rfl, d, .int (j : Int), rfl, h3, fun p H4 hp s4 h4 => ⟨szl (by decide), fun p' hp' => ?_⟩⟩
    have s5 := Same.new' (o := .tup [V.str "table", .int (j : Int)]) (Same.trans' (Same.trans' s2 s3) s4) hp'
    refine eq_tab (by rw [upd_ne (ne_new h4 hp')]; exact h4) upd_same (k _ (e1.trans (ExtN.same s5)) (tabs_same t1 s5))
  · refine ⟨s2 _ _ hc, .inr ⟨F, xs, rfl, hF, ?_⟩⟩
    refine ht _ H2 _ (e1.trans (ExtN.same s2)) (fun j hj => by rw [hj] at hd; cases hd) (fun d' hd' F1 H3 s3 _ => ?_)
    show if V.non = V.non then _ else _
    rw [if_pos rfl]
    refine ⟨s3 _ _ (s2 _ _ hc), ht _ H3 _ ((e1.trans (ExtN.same s2)).trans (ExtN.same s3)) (fun j hj => by rw [hj] at hd; cases hd) (fun d2 hd2 F2 H4 s4 r2 => ?_)⟩
    obtain rfl : d = d2 := by rw [hd] at hd2; cases hd2; rfl
    refine r2 H4 _ (Same.refl H4) (rp H4 _ (Same.trans' s3 s4) ⟨rfl, ?_⟩)
    rw [show decide (V.str d.shown = V.str d.shown) = true from decide_eq_true rfl]
    have s5 := Same.trans' (Same.trans' s2 s3) s4
    exact k _ (e1.trans (ExtN.same s5)) (tabs_same t1 s5)
end
theorem CodeAt.ext {CC : Addr} {H H1 : Hp} {c : Addr} {ds ls gs : List Nat} {first : Int} (h : CodeAt CC H c ds ls gs first) (e : LamX.ExtN H H1) : CodeAt CC H1 c ds ls gs first := by
  obtain ⟨dx, fs, u, v, t, h1, h2, h3, h4, h5, h6, h7, h8⟩ := h
  exact ⟨dx, fs, u, v, t, e _ _ h1 (fun _ z => by cases z), h2, e _ _ h3 (fun _ z => by cases z), h4, h5, e _ _ h6 (fun _ z => by cases z), h7, e _ _ h8 (fun _ z => by cases z)⟩
theorem RowsL.same {H H1 : Hp} {F : Addr} {Rs : List Row} (r : RowsL H F Rs) (s : Same H H1) : RowsL H1 F Rs := by
  obtain ⟨refs, e, p⟩ := r
  exact ⟨refs, s _ _ e, Paired.map' p fun _ _ h => s _ _ h⟩
def outD {α : Type} (f : α → PyData) : Except Nat (List α) → Except Nat PyData
  | .error j => .error j
  | .ok rs => .ok (.list (rs.map f))
section
variable {K : PySem.W.Frag} {CC CT Pt : Addr} {q : Str} {D : Ends} {v0 v1 v3 v4 v5 v6 v7 : Option V} {a G Ln c : Addr}
theorem sameH_run {H : Hp} {gs ls : List Nat} (tb : LamX.Tabs [(Pt, q)] H) (hG : H G = some (.lst (vn gs))) (hl : gs.length ≤ 250) (hb : ∀ x ∈ gs, x < 256) (hc : CodeAt CC H c [30, 0] ls gs 7)
    (k : ∀ H', LamX.ExtN H H' → LamX.Tabs [(Pt, q)] H' → D.nx [v0, v1, some (.ref a), v3, some (.ref G), v5, some (.ref c), v7] H') : t_sameH K CC CT Pt q D [v0, v1, some (.ref a), v3, some (.ref G), v5, some (.ref c), v7] H := by
  unfold t_sameH
  simp only [r_seq, r_next, r_brk, r_cont, r_asg, r_name, r_ret, r_retN, r_drop, r_ifs, r_never, r_var, r_c, r_op, r_un, r_if, r_tst, r_b, r_not, r_and, r_or, r_andV, r_orV, r_notV, r_nil, r_cons, r_tup, r_lst, r_cb, r_call, r_bm, r_bm0, r_sl, r_nopart, r_part, r_rev, r_gnil, r_gcons, r_gsub, r_par, r_aug, r_chain, r_I0, r_I, r_U, r_ixd, r_lend, r_tupd, r_listd, r_sld, r_app, r_ext, r_reverse, r_setl, r_cat, r_int1, r_eqS, r_neS, scal_ii, scal_bb, scal_ss, at0, at1, at2, sq_lst, sq_tup, isLst_lst, List.getElem?_cons_zero, List.getElem?_cons_succ, List.set_cons_zero, List.set_cons_succ, V.int.injEq, V.bl.injEq, V.ref.injEq, V.str.injEq, HO.lst.injEq, HO.tup.injEq, Option.some.injEq, exists_eq_left', exists_eq_left, List.cons.injEq, and_true, true_and, decide_eq_true_eq, reduceCtorEq, false_and, exists_false, or_false, false_or, exists_const, and_assoc, exists_and_left, List.append_nil, ix0, ix1, ix2, cm_mod, cdw1009, cdw2003, cdw7, cdw64, cdw2, cm104729, cm2, cm3, upd_same, List.length_cons, List.length_nil, Int.reduceLT, Int.reduceLE, Nat.reduceAdd, Nat.reduceLeDiff, Nat.reduceLT, Int.reduceToNat, r_for1, r_forL, r_forT, r_lcL, r_lc1, r_yes, r_gtupD, wipe_0, wipe_1, List.cons_append, List.nil_append, r_forS, r_ipI, ite_false, ite_true, Bool.not_true, Bool.not_false, decide_true, decide_false, r_isd, r_islt, cD_ty, cD_ref, tD_non, tD_bl, tD_int, tD_str, tD_ref, tH_lst, tH_tup, tH_dK, tH_ins, ki_self, ki_int_bool, ki_non_int, ki_str_int, ki_lt_lst, ki_lt_tup, r_fld, r_sfld, HO.ins.injEq, cx_K]
  refine same_run (r := outD rowD (hreadF gs gs.length 0)) tb (fun H1 QA e1 k1 k2 => ?_) (fun E H1 Q e1 k1 k2 => ?_) (fun H' e t => ⟨true, rfl, k H' e t⟩)
  · refine ⟨_, rfl, G, gs, rfl, e1 _ _ hG (fun _ z => by cases z), by omega, fun j hj H2 s2 => k1 j (by rw [hj]; rfl) H2 s2, fun rs hrs F H2 hF s2 r2 => ?_⟩
    obtain ⟨g1, g2⟩ := hreadF_ok hl hrs
    obtain ⟨refs, eF, pF⟩ := id r2
    exact k2 _ (by rw [hrs]; rfl) F _ H2 eF s2 fun H3 Q s3 h => repr_rows (r2.same s3) g1 (by omega) h
  · obtain ⟨dx, fs, u, v, t, h1, h2, h3, h4, h5, h6, h7, h8⟩ := hc.ext e1
    refine ⟨_, rfl, c, dx, fs, t, gs, rfl, h1, h7, h8, by omega, hb, ?_⟩
    cases hr : hreadF gs gs.length 0 with
    | error j => exact fun d H2 hd s2 hx => k1 j (by rw [hr]; rfl) d H2 hd s2 hx
    | ok rs =>
      obtain ⟨g1, g2⟩ := hreadF_ok hl hr
      exact fun F H2 hF s2 r2 => k2 _ (by rw [hr]; rfl) F H2 s2 fun H3 Q s3 h => repr_rows (r2.same s3) g1 (by omega) h
theorem sameL_run {H : Hp} {gs ls : List Nat} (tb : LamX.Tabs [(Pt, q)] H) (hL : H Ln = some (.lst (vn ls))) (hl : ls.length ≤ 250) (hb : ∀ x ∈ ls, x < 256) (hc : CodeAt CC H c [30, 0] ls gs 7)
    (k : ∀ H', LamX.ExtN H H' → LamX.Tabs [(Pt, q)] H' → D.nx [v0, v1, some (.ref a), v3, v4, some (.ref Ln), some (.ref c), v7] H') : t_sameL K CC CT Pt q D [v0, v1, some (.ref a), v3, v4, some (.ref Ln), some (.ref c), v7] H := by
  unfold t_sameL
  simp only [r_seq, r_next, r_brk, r_cont, r_asg, r_name, r_ret, r_retN, r_drop, r_ifs, r_never, r_var, r_c, r_op, r_un, r_if, r_tst, r_b, r_not, r_and, r_or, r_andV, r_orV, r_notV, r_nil, r_cons, r_tup, r_lst, r_cb, r_call, r_bm, r_bm0, r_sl, r_nopart, r_part, r_rev, r_gnil, r_gcons, r_gsub, r_par, r_aug, r_chain, r_I0, r_I, r_U, r_ixd, r_lend, r_tupd, r_listd, r_sld, r_app, r_ext, r_reverse, r_setl, r_cat, r_int1, r_eqS, r_neS, scal_ii, scal_bb, scal_ss, at0, at1, at2, sq_lst, sq_tup, isLst_lst, List.getElem?_cons_zero, List.getElem?_cons_succ, List.set_cons_zero, List.set_cons_succ, V.int.injEq, V.bl.injEq, V.ref.injEq, V.str.injEq, HO.lst.injEq, HO.tup.injEq, Option.some.injEq, exists_eq_left', exists_eq_left, List.cons.injEq, and_true, true_and, decide_eq_true_eq, reduceCtorEq, false_and, exists_false, or_false, false_or, exists_const, and_assoc, exists_and_left, List.append_nil, ix0, ix1, ix2, cm_mod, cdw1009, cdw2003, cdw7, cdw64, cdw2, cm104729, cm2, cm3, upd_same, List.length_cons, List.length_nil, Int.reduceLT, Int.reduceLE, Nat.reduceAdd, Nat.reduceLeDiff, Nat.reduceLT, Int.reduceToNat, r_for1, r_forL, r_forT, r_lcL, r_lc1, r_yes, r_gtupD, wipe_0, wipe_1, List.cons_append, List.nil_append, r_forS, r_ipI, ite_false, ite_true, Bool.not_true, Bool.not_false, decide_true, decide_false, r_isd, r_islt, cD_ty, cD_ref, tD_non, tD_bl, tD_int, tD_str, tD_ref, tH_lst, tH_tup, tH_dK, tH_ins, ki_self, ki_int_bool, ki_non_int, ki_str_int, ki_lt_lst, ki_lt_tup, r_fld, r_sfld, HO.ins.injEq, cx_K]
  refine same_run (r := outD (fun es => lrD es) (match lreadF ls ls.length 0 with
    | .error j => .error j
    | .ok es => .ok (joinL (rowsOf es 0 7)))) tb (fun H1 QA e1 k1 k2 => ?_) (fun E H1 Q e1 k1 k2 => ?_) (fun H' e t => ⟨true, rfl, k H' e t⟩)
  · refine ⟨_, rfl, Ln, ls, 7, rfl, e1 _ _ hL (fun _ z => by cases z), by omega, hb, fun j hj H2 s2 => k1 j (by rw [hj]; rfl) H2 s2, fun es hes F H2 hF s2 r2 => ?_⟩
    obtain ⟨g1, g2⟩ := read_lines hl hes
    obtain ⟨refs, eF, pF⟩ := id r2
    exact k2 _ (by rw [hes]; rfl) F _ H2 eF s2 fun H3 Q s3 h => repr_lrs (r2.same s3) g1 g2 h
  · obtain ⟨dx, fs, u, v, t, h1, h2, h3, h4, h5, h6, h7, h8⟩ := hc.ext e1
    refine ⟨_, rfl, c, dx, fs, v, 7, ls, rfl, h1, h5, h4, h6, by omega, hb, ?_⟩
    cases hr : lreadF ls ls.length 0 with
    | error j => exact fun d H2 hd s2 hx => k1 j (by rw [hr]; rfl) d H2 hd s2 hx
    | ok es =>
      obtain ⟨g1, g2⟩ := read_lines hl hr
      exact fun F H2 hF s2 r2 => k2 _ (by rw [hr]; rfl) F H2 s2 fun H3 Q s3 h => repr_lrs (r2.same s3) g1 g2 h
end
end C49

set_option maxHeartbeats 2000000
namespace C49
open PySem PySem.Spec PyProof.Rows L2
def Bys (n : Nat) (H : Hp) (a p : Addr) : Prop := p ≠ a ∧ ∃ ds, H p = some (.lst (vn ds)) ∧ ds.length ≤ n ∧ ∀ x ∈ ds, x < 256
theorem Bys.keep {n : Nat} {H H' : Hp} {a p : Addr} (b : Bys n H a p) (k : Keep a H H') : Bys n H' a p := by
  obtain ⟨pa, ds, h1, h2, h3⟩ := b
  exact ⟨pa, ds, k _ _ pa h1, h2, h3⟩
theorem Bys.mono {n m : Nat} {H : Hp} {a p : Addr} (b : Bys n H a p) (h : n ≤ m) : Bys m H a p := by
  obtain ⟨pa, ds, h1, h2, h3⟩ := b
  exact ⟨pa, ds, h1, by omega, h3⟩
theorem cp_rng {n : Nat} {g : TG} {tt : TT} {te : TE} {vs : List Nat} {σ : L2.St} {A : Addr} {H1 : Hp} {Q : VK} (Pv : Nat → Hp → Prop) (h0 : Pv 0 (L2.upd H1 A (.lst [])))
    (hs : ∀ i H, i < n → Pv i H → g (.int (0 + (i : Int))) (wipe σ vs) H fun σ2 H2 => wipe σ2 vs = wipe σ vs ∧ tt σ2 H2 fun b H3 =>
      if b = true then te σ2 H3 fun y H4 => ∃ acc, H4 A = some (.lst acc) ∧ acc.length < sizeLine ∧ Pv (i + 1) (L2.upd H4 A (.lst (acc ++ [y]))) else Pv (i + 1) H3) (hd : ∀ H, Pv n H → Q (.ref A) H) :
    CompR (Itr 0 n) g tt te vs σ Q A (L2.upd H1 A (.lst [])) := lc_range Pv h0 hs hd
def lvRand (H1 : Hp) (a F : Addr) (i : Nat) (H' : Hp) : Prop := Keep a H1 H' ∧ Src H' a ∧ ∃ ds : List Nat, ds.length = i ∧ H' F = some (.lst (vn ds)) ∧ ∀ x ∈ ds, x < 256
section
variable {K : PySem.W.Frag} {CC CT Pt : Addr} {q : Str} {D : Ends} {v0 v1 v3 v4 v5 v6 v7 : Option V} {a G Ln c : Addr}
theorem rand_call {H : Hp} {Q : VK} (S : Src H a) (k : ∀ p H', Bys 200 H' a p → Keep a H H' → Src H' a → Q (.ref p) H') : tRand [v0, v1, some (.ref a), v3, v4, v5, v6, v7] H Q := by
  unfold tRand
  simp only [r_seq, r_next, r_brk, r_cont, r_asg, r_name, r_ret, r_retN, r_drop, r_ifs, r_never, r_var, r_c, r_op, r_un, r_if, r_tst, r_b, r_not, r_and, r_or, r_andV, r_orV, r_notV, r_nil, r_cons, r_tup, r_lst, r_cb, r_call, r_bm, r_bm0, r_sl, r_nopart, r_part, r_rev, r_gnil, r_gcons, r_gsub, r_par, r_aug, r_chain, r_I0, r_I, r_U, r_ixd, r_lend, r_tupd, r_listd, r_sld, r_app, r_ext, r_reverse, r_setl, r_cat, r_int1, r_eqS, r_neS, scal_ii, scal_bb, scal_ss, at0, at1, at2, sq_lst, sq_tup, isLst_lst, List.getElem?_cons_zero, List.getElem?_cons_succ, List.set_cons_zero, List.set_cons_succ, V.int.injEq, V.bl.injEq, V.ref.injEq, V.str.injEq, HO.lst.injEq, HO.tup.injEq, Option.some.injEq, exists_eq_left', exists_eq_left, List.cons.injEq, and_true, true_and, decide_eq_true_eq, reduceCtorEq, false_and, exists_false, or_false, false_or, exists_const, and_assoc, exists_and_left, List.append_nil, ix0, ix1, ix2, cm_mod, cdw1009, cdw2003, cdw7, cdw64, cdw2, cm104729, cm2, cm3, upd_same, List.length_cons, List.length_nil, Int.reduceLT, Int.reduceLE, Nat.reduceAdd, Nat.reduceLeDiff, Nat.reduceLT, Int.reduceToNat, r_for1, r_forL, r_forT, r_lcL, r_lc1, r_yes, r_gtupD, wipe_0, wipe_1, List.cons_append, List.nil_append, r_forS, r_ipI, ite_false, ite_true, Bool.not_true, Bool.not_false, decide_true, decide_false, r_isd, r_islt, cD_ty, cD_ref, tD_non, tD_bl, tD_int, tD_str, tD_ref, tH_lst, tH_tup, tH_dK, tH_ins, ki_self, ki_int_bool, ki_non_int, ki_str_int, ki_lt_lst, ki_lt_tup, r_fld, r_sfld, HO.ins.injEq, cx_K]
  refine ⟨a, 9, rfl, S, by decide, by decide, fun r H1 r0 r1 k1 S1 => ⟨r, rfl, by omega, by omega, fun F hF => ?_⟩⟩
  have Fa : F ≠ a := S1.ne hF
  refine cp_rng (n := r.toNat) (lvRand H1 a F) ⟨(Keep.refl a H1).new hF, S1.new hF, [], rfl, upd_same, fun x hx => by cases hx⟩ ?_ ?_
  · rintro i H2 hi ⟨k2, S2, ds, hl, h2, hb⟩
    refine ⟨rfl, ?_⟩
    simp only [r_seq, r_next, r_brk, r_cont, r_asg, r_name, r_ret, r_retN, r_drop, r_ifs, r_never, r_var, r_c, r_op, r_un, r_if, r_tst, r_b, r_not, r_and, r_or, r_andV, r_orV, r_notV, r_nil, r_cons, r_tup, r_lst, r_cb, r_call, r_bm, r_bm0, r_sl, r_nopart, r_part, r_rev, r_gnil, r_gcons, r_gsub, r_par, r_aug, r_chain, r_I0, r_I, r_U, r_ixd, r_lend, r_tupd, r_listd, r_sld, r_app, r_ext, r_reverse, r_setl, r_cat, r_int1, r_eqS, r_neS, scal_ii, scal_bb, scal_ss, at0, at1, at2, sq_lst, sq_tup, isLst_lst, List.getElem?_cons_zero, List.getElem?_cons_succ, List.set_cons_zero, List.set_cons_succ, V.int.injEq, V.bl.injEq, V.ref.injEq, V.str.injEq, HO.lst.injEq, HO.tup.injEq, Option.some.injEq, exists_eq_left', exists_eq_left, List.cons.injEq, and_true, true_and, decide_eq_true_eq, reduceCtorEq, false_and, exists_false, or_false, false_or, exists_const, and_assoc, exists_and_left, List.append_nil, ix0, ix1, ix2, cm_mod, cdw1009, cdw2003, cdw7, cdw64, cdw2, cm104729, cm2, cm3, upd_same, List.length_cons, List.length_nil, Int.reduceLT, Int.reduceLE, Nat.reduceAdd, Nat.reduceLeDiff, Nat.reduceLT, Int.reduceToNat, r_for1, r_forL, r_forT, r_lcL, r_lc1, r_yes, r_gtupD, wipe_0, wipe_1, List.cons_append, List.nil_append, r_forS, r_ipI, ite_false, ite_true, Bool.not_true, Bool.not_false, decide_true, decide_false, r_isd, r_islt, cD_ty, cD_ref, tD_non, tD_bl, tD_int, tD_str, tD_ref, tH_lst, tH_tup, tH_dK, tH_ins, ki_self, ki_int_bool, ki_non_int, ki_str_int, ki_lt_lst, ki_lt_tup, r_fld, r_sfld, HO.ins.injEq, cx_K]
    refine ⟨a, 256, rfl, S2, by decide, by decide, fun n H3 n0 n1 k3 S3 => ?_⟩
    obtain ⟨m, rfl⟩ : ∃ m : Nat, n = (m : Int) := ⟨n.toNat, by omega⟩
    have h3 := k3 F _ Fa h2
    refine ⟨_, h3, szlt (by rw [vn_len]; omega), ?_, ?_, ds ++ [m], by rw [List.length_append, hl]; rfl, by rw [upd_same]; simp [vn], ?_⟩
    · intro b u hb e
      rw [upd_ne (ne_new e hF)]
      exact k3 b u hb (k2 b u hb e)
    · obtain ⟨x, y, z, e⟩ := S3
      exact ⟨x, y, z, by rw [upd_ne Fa.symm]; exact e⟩
    · intro x hx
      rcases List.mem_append.mp hx with z | z
      · exact hb x z
      · rw [List.mem_singleton.mp z]
        omega
  · rintro H2 ⟨k2, S2, ds, hl, h2, hb⟩
    exact k F H2 ⟨Fa, ds, h2, by omega, hb⟩ (k1.trans k2) S2
theorem rand_run {H : Hp} {t : Int} (S : Src H a) (g : Bys 250 H a G) (l : Bys 250 H a Ln) (k : ∀ G' L' w7 H', Src H' a → Bys 250 H' a G' → Bys 250 H' a L' → Keep a H H' → D.nx [v0, v1, some (.ref a), some (.int t), some (.ref G'), some (.ref L'), v6, w7] H') :
    t_rand D [v0, v1, some (.ref a), some (.int t), some (.ref G), some (.ref Ln), v6, v7] H := by
  unfold t_rand
  simp only [r_seq, r_next, r_brk, r_cont, r_asg, r_name, r_ret, r_retN, r_drop, r_ifs, r_never, r_var, r_c, r_op, r_un, r_if, r_tst, r_b, r_not, r_and, r_or, r_andV, r_orV, r_notV, r_nil, r_cons, r_tup, r_lst, r_cb, r_call, r_bm, r_bm0, r_sl, r_nopart, r_part, r_rev, r_gnil, r_gcons, r_gsub, r_par, r_aug, r_chain, r_I0, r_I, r_U, r_ixd, r_lend, r_tupd, r_listd, r_sld, r_app, r_ext, r_reverse, r_setl, r_cat, r_int1, r_eqS, r_neS, scal_ii, scal_bb, scal_ss, at0, at1, at2, sq_lst, sq_tup, isLst_lst, List.getElem?_cons_zero, List.getElem?_cons_succ, List.set_cons_zero, List.set_cons_succ, V.int.injEq, V.bl.injEq, V.ref.injEq, V.str.injEq, HO.lst.injEq, HO.tup.injEq, Option.some.injEq, exists_eq_left', exists_eq_left, List.cons.injEq, and_true, true_and, decide_eq_true_eq, reduceCtorEq, false_and, exists_false, or_false, false_or, exists_const, and_assoc, exists_and_left, List.append_nil, ix0, ix1, ix2, cm_mod, cdw1009, cdw2003, cdw7, cdw64, cdw2, cm104729, cm2, cm3, upd_same, List.length_cons, List.length_nil, Int.reduceLT, Int.reduceLE, Nat.reduceAdd, Nat.reduceLeDiff, Nat.reduceLT, Int.reduceToNat, r_for1, r_forL, r_forT, r_lcL, r_lc1, r_yes, r_gtupD, wipe_0, wipe_1, List.cons_append, List.nil_append, r_forS, r_ipI, ite_false, ite_true, Bool.not_true, Bool.not_false, decide_true, decide_false, r_isd, r_islt, cD_ty, cD_ref, tD_non, tD_bl, tD_int, tD_str, tD_ref, tH_lst, tH_tup, tH_dK, tH_ins, ki_self, ki_int_bool, ki_non_int, ki_str_int, ki_lt_lst, ki_lt_tup, r_fld, r_sfld, HO.ins.injEq, cx_K]
  refine ite2 (fun _ => ?_) (fun _ => k G Ln _ H S g l (Keep.refl a H))
  refine rand_call S fun p H1 b1 k1 S1 => ?_
  refine rand_call S1 fun p2 H2 b2 k2 S2 => ?_
  exact k p p2 _ H2 S2 ((b1.keep k2).mono (by decide)) (b2.mono (by decide)) (k1.trans k2)
theorem bent_call {H : Hp} {Q : VK} {E : XK} {cs : List Nat} (S : Src H a) (g : Bys 249 H a G) (hc : cs.length ≤ 100) (hb : ∀ x ∈ cs, x < 256) (k : ∀ p H', Bys 250 H' a p → Keep a H H' → Src H' a → Q (.ref p) H') {r : Addr} (hr : H r = none) :
    spBent [.ref a, .ref G, .ref r] (L2.upd H r (.lst (vn cs))) Q E := by
  obtain ⟨Ga, ds, h1, h2, h3⟩ := g
  refine ⟨a, G, r, ds, cs, rfl, S.new hr, Ga, S.ne hr, by rw [upd_ne (ne_new h1 hr)]; exact h1, upd_same, by omega, hc, h3, hb, fun p es H' hp pa k1 S1 h4 l4 b4 => ?_⟩
  exact k p H' ⟨pa, es, h4, by omega, b4⟩ (((Keep.refl a H).new hr).trans k1) S1
theorem bent_run {H : Hp} {t : Int} (S : Src H a) (g : Bys 200 H a G) (l : Bys 200 H a Ln) (k : ∀ G' L' H', Src H' a → Bys 250 H' a G' → Bys 250 H' a L' → Keep a H H' → D.nx [v0, v1, some (.ref a), some (.int t), some (.ref G'), some (.ref L'), v6, v7] H') :
    t_bent D [v0, v1, some (.ref a), some (.int t), some (.ref G), some (.ref Ln), v6, v7] H := by
  unfold t_bent
  simp only [r_seq, r_next, r_brk, r_cont, r_asg, r_name, r_ret, r_retN, r_drop, r_ifs, r_never, r_var, r_c, r_op, r_un, r_if, r_tst, r_b, r_not, r_and, r_or, r_andV, r_orV, r_notV, r_nil, r_cons, r_tup, r_lst, r_cb, r_call, r_bm, r_bm0, r_sl, r_nopart, r_part, r_rev, r_gnil, r_gcons, r_gsub, r_par, r_aug, r_chain, r_I0, r_I, r_U, r_ixd, r_lend, r_tupd, r_listd, r_sld, r_app, r_ext, r_reverse, r_setl, r_cat, r_int1, r_eqS, r_neS, scal_ii, scal_bb, scal_ss, at0, at1, at2, sq_lst, sq_tup, isLst_lst, List.getElem?_cons_zero, List.getElem?_cons_succ, List.set_cons_zero, List.set_cons_succ, V.int.injEq, V.bl.injEq, V.ref.injEq, V.str.injEq, HO.lst.injEq, HO.tup.injEq, Option.some.injEq, exists_eq_left', exists_eq_left, List.cons.injEq, and_true, true_and, decide_eq_true_eq, reduceCtorEq, false_and, exists_false, or_false, false_or, exists_const, and_assoc, exists_and_left, List.append_nil, ix0, ix1, ix2, cm_mod, cdw1009, cdw2003, cdw7, cdw64, cdw2, cm104729, cm2, cm3, upd_same, List.length_cons, List.length_nil, Int.reduceLT, Int.reduceLE, Nat.reduceAdd, Nat.reduceLeDiff, Nat.reduceLT, Int.reduceToNat, r_for1, r_forL, r_forT, r_lcL, r_lc1, r_yes, r_gtupD, wipe_0, wipe_1, List.cons_append, List.nil_append, r_forS, r_ipI, ite_false, ite_true, Bool.not_true, Bool.not_false, decide_true, decide_false, r_isd, r_islt, cD_ty, cD_ref, tD_non, tD_bl, tD_int, tD_str, tD_ref, tH_lst, tH_tup, tH_dK, tH_ins, ki_self, ki_int_bool, ki_non_int, ki_str_int, ki_lt_lst, ki_lt_tup, r_fld, r_sfld, HO.ins.injEq, cx_K]
  refine ite2 (fun _ => ⟨szl (by decide : 9 ≤ 1000), fun r hr => ?_⟩) (fun _ => k G Ln H S (g.mono (by decide)) (l.mono (by decide)) (Keep.refl a H))
  refine bent_call (cs := [0, 1, 64, 65, 128, 192, 193, 255, 127]) S (g.mono (by decide)) (by decide) (by decide) (fun p H1 b1 k1 S1 => ⟨szl (by decide : 12 ≤ 1000), fun r2 hr2 => ?_⟩) hr
  exact bent_call (cs := [0, 1, 2, 64, 65, 127, 128, 231, 232, 240, 248, 255]) S1 ((l.keep k1).mono (by decide)) (by decide) (by decide) (fun p2 H2 b2 k2 S2 => k p p2 H2 S2 (b1.keep k2) b2 (k1.trans k2)) hr2
end
end C49

set_option maxHeartbeats 2000000
namespace C49
open PySem PySem.Spec PyProof.Rows L2
def KeepN (a : Addr) (H H' : Hp) : Prop := ∀ b o, b ≠ a → H b = some o → (∀ u, o ≠ .tbl u) → H' b = some o
theorem KeepN.trans {a : Addr} {H H1 H2 : Hp} (h : KeepN a H H1) (k : KeepN a H1 H2) : KeepN a H H2 := fun b o n e m => k b o n (h b o n e m) m
theorem KeepN.of {a : Addr} {H H1 : Hp} (k : Keep a H H1) : KeepN a H H1 := fun b o n e _ => k b o n e
theorem KeepN.ext {a : Addr} {H H1 : Hp} (k : LamX.ExtN H H1) : KeepN a H H1 := fun b o _ e m => k b o e m
theorem Src.ext {a : Addr} {H H1 : Hp} (S : Src H a) (k : LamX.ExtN H H1) : Src H1 a := by
  obtain ⟨x, y, z, e⟩ := S
  exact ⟨x, y, z, k _ _ e (fun _ z => by cases z)⟩
theorem Bys.ext {n : Nat} {H H' : Hp} {a p : Addr} (b : Bys n H a p) (k : LamX.ExtN H H') : Bys n H' a p := by
  obtain ⟨pa, ds, h1, h2, h3⟩ := b
  exact ⟨pa, ds, k _ _ h1 (fun _ z => by cases z), h2, h3⟩
section
variable {K : PySem.W.Frag} {CC CT Pt : Addr} {q : Str} {D : Ends} {v0 v1 v2 v3 v4 v5 v6 v7 : Option V} {a G Ln c : Addr}
theorem made_run {H : Hp} {t : Int} (S : Src H a) (g : Bys 250 H a G) (l : Bys 250 H a Ln)
    (k : ∀ (c : Addr) (gs ls : List Nat) H', Same H H' → H' G = some (.lst (vn gs)) → H' Ln = some (.lst (vn ls)) → gs.length ≤ 250 → ls.length ≤ 250 → (∀ x ∈ gs, x < 256) → (∀ x ∈ ls, x < 256) → CodeAt CC H' c [30, 0] ls gs 7 → D.nx [v0, v1, some (.ref a), some (.int t), some (.ref G), some (.ref Ln), some (.ref c), v7] H') :
    t_made CC D [v0, v1, some (.ref a), some (.int t), some (.ref G), some (.ref Ln), v6, v7] H := by
  obtain ⟨Ga, gs, g1, g2, g3⟩ := g
  obtain ⟨La, ls, l1, l2, l3⟩ := l
  unfold t_made
  simp only [r_seq, r_next, r_brk, r_cont, r_asg, r_name, r_ret, r_retN, r_drop, r_ifs, r_never, r_var, r_c, r_op, r_un, r_if, r_tst, r_b, r_not, r_and, r_or, r_andV, r_orV, r_notV, r_nil, r_cons, r_tup, r_lst, r_cb, r_call, r_bm, r_bm0, r_sl, r_nopart, r_part, r_rev, r_gnil, r_gcons, r_gsub, r_par, r_aug, r_chain, r_I0, r_I, r_U, r_ixd, r_lend, r_tupd, r_listd, r_sld, r_app, r_ext, r_reverse, r_setl, r_cat, r_int1, r_eqS, r_neS, scal_ii, scal_bb, scal_ss, at0, at1, at2, sq_lst, sq_tup, isLst_lst, List.getElem?_cons_zero, List.getElem?_cons_succ, List.set_cons_zero, List.set_cons_succ, V.int.injEq, V.bl.injEq, V.ref.injEq, V.str.injEq, HO.lst.injEq, HO.tup.injEq, Option.some.injEq, exists_eq_left', exists_eq_left, List.cons.injEq, and_true, true_and, decide_eq_true_eq, reduceCtorEq, false_and, exists_false, or_false, false_or, exists_const, and_assoc, exists_and_left, List.append_nil, ix0, ix1, ix2, cm_mod, cdw1009, cdw2003, cdw7, cdw64, cdw2, cm104729, cm2, cm3, upd_same, List.length_cons, List.length_nil, Int.reduceLT, Int.reduceLE, Nat.reduceAdd, Nat.reduceLeDiff, Nat.reduceLT, Int.reduceToNat, r_for1, r_forL, r_forT, r_lcL, r_lc1, r_yes, r_gtupD, wipe_0, wipe_1, List.cons_append, List.nil_append, r_forS, r_ipI, ite_false, ite_true, Bool.not_true, Bool.not_false, decide_true, decide_false, r_isd, r_islt, cD_ty, cD_ref, tD_non, tD_bl, tD_int, tD_str, tD_ref, tH_lst, tH_tup, tH_dK, tH_ins, ki_self, ki_int_bool, ki_non_int, ki_str_int, ki_lt_lst, ki_lt_tup, r_fld, r_sfld, HO.ins.injEq, cx_K]
  refine ⟨szl (by decide : 2 ≤ 1000), fun d hd => ⟨d, Ln, G, [30, 0], ls, gs, 7, rfl, upd_same, by rw [upd_ne (ne_new l1 hd)]; exact l1, by rw [upd_ne (ne_new g1 hd)]; exact g1, by decide, l3, g3, by decide, by decide, fun c H1 hc s1 co => ?_⟩⟩
  have s2 : Same H H1 := Same.trans' (Same.new' (Same.refl H) hd) s1
  exact k c gs ls H1 s2 (s2 _ _ g1) (s2 _ _ l1) g2 l2 g3 l3 co
theorem turn_run {H : Hp} {t : Int} (S : Src H a) (tb : LamX.Tabs [(Pt, q)] H)
    (k : ∀ w4 w5 w6 w7 H', Src H' a → LamX.Tabs [(Pt, q)] H' → KeepN a H H' → D.nx [v0, v1, some (.ref a), some (.int t), w4, w5, w6, w7] H') : t_turn K CC CT Pt q D [v0, v1, some (.ref a), some (.int t), v4, v5, v6, v7] H := by
  unfold t_turn t_good
  simp only [r_seq, r_next, r_brk, r_cont, r_asg, r_name, r_ret, r_retN, r_drop, r_ifs, r_never, r_var, r_c, r_op, r_un, r_if, r_tst, r_b, r_not, r_and, r_or, r_andV, r_orV, r_notV, r_nil, r_cons, r_tup, r_lst, r_cb, r_call, r_bm, r_bm0, r_sl, r_nopart, r_part, r_rev, r_gnil, r_gcons, r_gsub, r_par, r_aug, r_chain, r_I0, r_I, r_U, r_ixd, r_lend, r_tupd, r_listd, r_sld, r_app, r_ext, r_reverse, r_setl, r_cat, r_int1, r_eqS, r_neS, scal_ii, scal_bb, scal_ss, at0, at1, at2, sq_lst, sq_tup, isLst_lst, List.getElem?_cons_zero, List.getElem?_cons_succ, List.set_cons_zero, List.set_cons_succ, V.int.injEq, V.bl.injEq, V.ref.injEq, V.str.injEq, HO.lst.injEq, HO.tup.injEq, Option.some.injEq, exists_eq_left', exists_eq_left, List.cons.injEq, and_true, true_and, decide_eq_true_eq, reduceCtorEq, false_and, exists_false, or_false, false_or, exists_const, and_assoc, exists_and_left, List.append_nil, ix0, ix1, ix2, cm_mod, cdw1009, cdw2003, cdw7, cdw64, cdw2, cm104729, cm2, cm3, upd_same, List.length_cons, List.length_nil, Int.reduceLT, Int.reduceLE, Nat.reduceAdd, Nat.reduceLeDiff, Nat.reduceLT, Int.reduceToNat, r_for1, r_forL, r_forT, r_lcL, r_lc1, r_yes, r_gtupD, wipe_0, wipe_1, List.cons_append, List.nil_append, r_forS, r_ipI, ite_false, ite_true, Bool.not_true, Bool.not_false, decide_true, decide_false, r_isd, r_islt, cD_ty, cD_ref, tD_non, tD_bl, tD_int, tD_str, tD_ref, tH_lst, tH_tup, tH_dK, tH_ins, ki_self, ki_int_bool, ki_non_int, ki_str_int, ki_lt_lst, ki_lt_tup, r_fld, r_sfld, HO.ins.injEq, cx_K]
  refine ⟨a, rfl, S, fun p g l bs es H1 hp hg hl k1 S1 ep eg el l1 l2 b1 b2 => ⟨p, rfl, _, ep, rfl, _, _, rfl, _, _, rfl, rfl, ?_⟩⟩
  have ga : g ≠ a := S.ne hg
  have la : l ≠ a := S.ne hl
  obtain ⟨x, y, z, eS⟩ := id S
  have t1 := tabs_keep tb k1 ⟨_, eS⟩
  refine bent_run S1 ⟨ga, bs, eg, by omega, b1⟩ ⟨la, es, el, l2, b2⟩ fun G1 L1 H2 S2 g2 l2' k2 => ?_
  obtain ⟨x1, y1, z1, eS1⟩ := id S1
  have t2 := tabs_keep t1 k2 ⟨_, eS1⟩
  refine rand_run S2 g2 l2' fun G2 L2 w7 H3 S3 g3 l3 k3 => ?_
  obtain ⟨x2, y2, z2, eS2⟩ := id S2
  have t3 := tabs_keep t2 k3 ⟨_, eS2⟩
  refine made_run S3 g3 l3 fun c gs ls H4 s4 hG hL gl ll gb lb co => ?_
  have t4 := tabs_same t3 s4
  have S4 : Src H4 a := S3.ext (ExtN.same s4)
  refine sameH_run t4 hG gl gb co fun H5 e5 t5 => ?_
  refine sameL_run t5 (e5 _ _ hL (fun _ z => by cases z)) ll lb (co.ext e5) fun H6 e6 t6 => ?_
  exact k _ _ _ _ H6 ((S4.ext e5).ext e6) t6 ((KeepN.of ((k1.trans k2).trans (k3.trans (Keep.same s4)))).trans (KeepN.ext (e5.trans e6)))
theorem cell_run {H : Hp} {n : Int} (tb : LamX.Tabs [(Pt, q)] H)
    (k : ∀ w2 w3 w4 w5 w6 w7 H', LamX.ExtN H H' → LamX.Tabs [(Pt, q)] H' → D.nx [v0, some (.int n), w2, w3, w4, w5, w6, w7] H') : t_cell K CC CT Pt q D [v0, some (.int n), v2, v3, v4, v5, v6, v7] H := by
  unfold t_cell
  simp only [r_seq, r_next, r_brk, r_cont, r_asg, r_name, r_ret, r_retN, r_drop, r_ifs, r_never, r_var, r_c, r_op, r_un, r_if, r_tst, r_b, r_not, r_and, r_or, r_andV, r_orV, r_notV, r_nil, r_cons, r_tup, r_lst, r_cb, r_call, r_bm, r_bm0, r_sl, r_nopart, r_part, r_rev, r_gnil, r_gcons, r_gsub, r_par, r_aug, r_chain, r_I0, r_I, r_U, r_ixd, r_lend, r_tupd, r_listd, r_sld, r_app, r_ext, r_reverse, r_setl, r_cat, r_int1, r_eqS, r_neS, scal_ii, scal_bb, scal_ss, at0, at1, at2, sq_lst, sq_tup, isLst_lst, List.getElem?_cons_zero, List.getElem?_cons_succ, List.set_cons_zero, List.set_cons_succ, V.int.injEq, V.bl.injEq, V.ref.injEq, V.str.injEq, HO.lst.injEq, HO.tup.injEq, Option.some.injEq, exists_eq_left', exists_eq_left, List.cons.injEq, and_true, true_and, decide_eq_true_eq, reduceCtorEq, false_and, exists_false, or_false, false_or, exists_const, and_assoc, exists_and_left, List.append_nil, ix0, ix1, ix2, cm_mod, cdw1009, cdw2003, cdw7, cdw64, cdw2, cm104729, cm2, cm3, upd_same, List.length_cons, List.length_nil, Int.reduceLT, Int.reduceLE, Nat.reduceAdd, Nat.reduceLeDiff, Nat.reduceLT, Int.reduceToNat, r_for1, r_forL, r_forT, r_lcL, r_lc1, r_yes, r_gtupD, wipe_0, wipe_1, List.cons_append, List.nil_append, r_forS, r_ipI, ite_false, ite_true, Bool.not_true, Bool.not_false, decide_true, decide_false, r_isd, r_islt, cD_ty, cD_ref, tD_non, tD_bl, tD_int, tD_str, tD_ref, tH_lst, tH_tup, tH_dK, tH_ins, ki_self, ki_int_bool, ki_non_int, ki_str_int, ki_lt_lst, ki_lt_tup, r_fld, r_sfld, HO.ins.injEq, cx_K]
  refine ⟨n, rfl, fun p H1 hp s1 S1 => ?_⟩
  have t1 := tabs_same tb s1
  refine ⟨by decide, by decide, ?_⟩
  refine lp_rng (fun i σ H' => (∃ w3 w4 w5 w6 w7, σ = [v0, some (.int n), some (.ref p), w3, w4, w5, w6, w7]) ∧ Src H' p ∧ LamX.Tabs [(Pt, q)] H' ∧ LamX.ExtN H H') ⟨⟨_, _, _, _, _, rfl⟩, S1, t1, ExtN.same s1⟩ ?_ ?_
  · rintro i σ H2 hi ⟨⟨w3, w4, w5, w6, w7, rfl⟩, S2, t2, e2⟩
    show t_turn K CC CT Pt q _ [v0, some (.int n), some (.ref p), some (.int (i : Int)), w4, w5, w6, w7] H2
    refine turn_run S2 t2 fun w4 w5 w6 w7 H3 S3 t3 k3 => ⟨⟨_, _, _, _, _, rfl⟩, S3, t3, fun b o e n => ?_⟩
    exact k3 b o (ne_new e hp) (e2 b o e n) n
  · rintro σ H2 ⟨⟨w3, w4, w5, w6, w7, rfl⟩, S2, t2, e2⟩
    exact k _ _ _ _ _ _ H2 e2 t2
end
theorem sqL_same {K : PySem.W.Frag} {H H' : Hp} {a : Addr} {xs : List V} (h : SqL K H a xs) (s : Same H H') : SqL K H' a xs := by
  rcases h with (h | ⟨o, h⟩) | h
  · exact .inl (.inl (s _ _ h))
  · exact .inl (.inr ⟨o, s _ _ h⟩)
  · exact .inr h
theorem law_run {K : PySem.W.Frag} {CC CT Pt a : Addr} {q : Str} {H : Hp} {ns : List Int} (t : LamX.Tabs [(Pt, q)] H) (hS : SqL K H a (ns.map V.int)) (hn : ns.length ≤ 1000) :
    t_law K CC CT Pt q { nx := fun _ H' => (fun v (_ : Hp) => v = V.bl true) .non H', rt := fun v _ => v = .bl true } (L2.start Nlaw [.ref a]) H := by
  unfold t_law
  refine ⟨_, rfl, szl (by decide), fun p0 h0 => ⟨a, p0, _, _, rfl, rfl, sqL_same hS (Same.new' (Same.refl H) h0), upd_same, Nat.le_trans (by rw [List.length_map, List.length_singleton]; omega : _ ≤ 1001) (by decide), fun p1 h1 => ⟨6, rfl, p1, _, rfl, upd_same, fun p2 h2 => ⟨p2, rfl, ⟨_, SqL.of upd_same⟩, ?_⟩⟩⟩⟩
  have s1 := Same.new' (o := .lst [.int 0]) (Same.refl H) h0
  generalize L2.upd H p0 (.lst [.int 0]) = G1 at *
  have s2 := Same.new' (o := .lst (ns.map V.int ++ [.int 0])) (Same.refl G1) h1
  generalize L2.upd G1 p1 (.lst (ns.map V.int ++ [.int 0])) = G2 at *
  have isInt : ∀ x ∈ cutV (ns.map V.int ++ [.int 0]) none (some 6), ∃ n : Int, x = .int n := by
    intro x hx
    unfold cutV at hx
    have h := List.mem_of_mem_drop (List.mem_of_mem_take hx)
    rcases List.mem_append.mp h with h | h
    · obtain ⟨n, _, e⟩ := List.mem_map.mp h
      exact ⟨n, e.symm⟩
    · exact ⟨0, List.mem_singleton.mp h⟩
  generalize cutV (ns.map V.int ++ [.int 0]) none (some 6) = xs at *
  have s3 := Same.new' (o := .lst xs) (Same.refl G2) h2
  have q3 : L2.upd G2 p2 (.lst xs) p2 = some (.lst xs) := upd_same
  have t3 : LamX.Tabs [(Pt, q)] (L2.upd G2 p2 (.lst xs)) := tabs_same (tabs_same (tabs_same t s1) s2) s3
  generalize L2.upd G2 p2 (.lst xs) = G3 at *
  refine lp_list (xs := xs) (fun i σ H' => (∃ v1 v2 v3 v4 v5 v6 v7, σ = [some (.ref a), v1, v2, v3, v4, v5, v6, v7]) ∧ LamX.ExtN G3 H' ∧ LamX.Tabs [(Pt, q)] H') ⟨⟨_, _, _, _, _, _, _, rfl⟩, LamX.ExtN.refl G3, t3⟩ (fun i σ H' _ ⟨_, e, _⟩ => SqL.of (e _ _ q3 (fun _ z => by cases z))) ?_ ?_
  · rintro i x σ H' hx ⟨⟨v1, v2, v3, v4, v5, v6, v7, rfl⟩, e, t'⟩
    obtain ⟨n, rfl⟩ := isInt x (List.mem_of_getElem? hx)
    show t_cell K CC CT Pt q _ [some (.ref a), some (.int n), v2, v3, v4, v5, v6, v7] H'
    exact cell_run t' fun w2 w3 w4 w5 w6 w7 H2 e2 t2 => ⟨⟨_, _, _, _, _, _, _, rfl⟩, e.trans e2, t2⟩
  · rintro σ H' ⟨_, e, t'⟩
    rfl
/-- the law runs well -/
theorem law_runs {P : Program} {w : World} {K : PySem.W.Frag} {mg : Str → Option Value} {CC CN CE CT CR CB gS gC fa co Pt a : Addr} {cdS cdC : Value} {s : Shared} {ns : List Int} {oc : Value} {od : Option Addr} {dV kV doc pm ct : Value} {an : Option Addr} {osl : Array (Option Value)}
    (L : ∀ base, LawT P w K mg base CC CN CE CT CR CB gS gC cdS cdC) (lk : K.lookup fa = some ⟨oc, od, .func (PySem.W.fnOf "law" "law" (defArgs slaw) (defBody slaw) (defScope slaw) dV kV doc pm an (.ref co) ct), osl⟩) (hcd : PySem.W.codeIn K (.ref co) "law" = true)
    (bind : ∀ (s : Shared) (v : Value), BindsTo s (PySem.W.fnOf "law" "law" (defArgs slaw) (defBody slaw) (defScope slaw) dV kV doc pm an (.ref co) ct) ⟨[v], []⟩ [("_law_script", v)]) (hn : ns.length ≤ 1000) : RunsAt P w K mg [(co, Pt)] fa a s ns := by
  intro base H KB nsB TB e0 hT hS
  refine LamX.run_ofS (N := Nlaw) (ps := ["_law_script"]) (us := [.ref a]) (vs := [.ref a]) lk hcd sclaw (k := 9) ⟨rfl, by decide, by decide⟩ e0 (bind s (.ref a)) (.cons rfl .nil) rfl fun hr => ?_
  refine ⟨_, (law_reads (L base) (TB _ (List.mem_singleton.mpr rfl)) hr rfl).nox, ?_⟩
  exact law_run (fun p hp => by rw [List.mem_singleton.mp hp]; exact LamX.TabS.nil (hT _ (List.mem_singleton.mpr rfl))) hS hn
end C49

set_option maxHeartbeats 4000000
namespace C49
open PySem PySem.Spec PyProof.Rows L2
/-! ### the exception's __init__ -/
section
variable {P : Program} {w : World} {K : PySem.W.Frag} {mg : Str → Option Value} {base : Heap} {f : Addr} {fd : FuncData}
abbrev sNoTable_init : Stmt := inClass (top 3) 0
theorem scNoTable_init : FnScope ["self", "at"] ["self", "at"] (defScope sNoTable_init) := ⟨rfl, rfl, rfl, by decide +kernel, rfl, by decide +kernel, by decide +kernel⟩

theorem ok_NoTable_init {CN : Addr} (ox : OexC K CN) (no : PySem.W.findIn K (.ref CN) "at" = some none) (F : FnP K "__init__" "NoTable.__init__" sNoTable_init f fd) : FnOk P w K mg base CX0 1 f fd ["self", "at"] (spXInit CN "at") := by
  refine F.ok scNoTable_init (fun vs H Q E h => ?_) (fun cdv A outer s H vs Q E hr h => ?_)
  · obtain ⟨a, v, rfl, _⟩ := h
    rfl
  · obtain ⟨a, v, rfl, ha, k⟩ := h
    refine ⟨_, PSs.nox (pss_one (ps_ost (pv 0) (pv 1))), ?_⟩
    exact ⟨v, rfl, .ref a, rfl, a, CN, rfl, ox, no, .inl ⟨ha, fun d hd nd => k d hd nd⟩⟩
end
/-! ### facts of classes, as a Bool -/
def oexB (K : PySem.W.Frag) (C : Addr) : Bool := match K.lookup C with
  | some ⟨.type t, _, .cls cd, sl⟩ => decide (t = "type") && (match cd.mro, sl.toList with
    | .ref D :: bm, [_, _, _, _, some (.builtin n), _] => decide (D = C) && (decide (n = "ValueError.__new__") && (!cd.hasDel && (cd.hasDict && PySem.HandSPX.refsVE bm)))
    | _, _ => false)
  | _ => false
theorem oexB_ok {K : PySem.W.Frag} {C : Addr} (h : oexB K C = true) : ∃ nm q N bs bm sn sub ab col dd k0 k1 k2 k3 k5, K.lookup C = some (excClassObj nm q C N bs bm true sn sub ab col dd k0 k1 k2 k3 k5 "ValueError.__new__") ∧ PySem.HandSPX.refsVE bm = true := by
  unfold oexB at h
  split at h
  · rename_i t dd cd sl e
    rw [Bool.and_eq_true] at h
    obtain ⟨ht, h⟩ := h
    split at h
    · rename_i D bm y0 y1 y2 y3 n y5 em es
      simp only [Bool.and_eq_true, decide_eq_true_eq, Bool.not_eq_true'] at h
      obtain ⟨h1, h2, h3, h4, h5⟩ := h
      have ht := of_decide_eq_true ht
      obtain ⟨nm, bs, mro, ns, qn, hd, sn, sub, ab, col, del⟩ := cd
      obtain ⟨l⟩ := sl
      dsimp only at em es h3 h4
      subst em es h1 h2 h3 h4 ht
      exact ⟨_, _, _, _, bm, _, _, _, _, _, _, _, _, _, _, e, h5⟩
    · cases h
  · cases h
def excB (K : PySem.W.Frag) (D : Addr) : Bool := He.eqO (PySem.W.findIn K (.ref D) "__getattribute__") (some (some (.builtin "BaseException.__getattribute__"))) && (He.eqO (PySem.W.findIn K (.ref D) "__getattr__") (some none) && (decide (PySem.W.subIn K (.ref D) (.type "BaseException") = some true) &&
  (PySem.W.hasDictIn K D && (He.eqO (PySem.W.findIn K (.ref D) "__class__") (some (some (.builtin "object.__class__"))) && (He.eqO (PySem.W.specialIn K (.builtin "object.__class__") "__get__") (some (some (.builtin "getset_descriptor.__get__"))) &&
  (decide (PySem.W.takesIn K (.builtin "object.__class__") = some true) && (decide (PySem.W.mroIn K D (.type "object") = some true) && (decide (PySem.W.typeIn K (.ref D) = some (.type "type")) && (PySem.W.keepIn K (.ref D) && He.eqO (PySem.W.findIn K (.ref D) "__setattr__") (some (some (.builtin "object.__setattr__"))))))))))))
theorem excB_ok {K : PySem.W.Frag} {D : Addr} (h : excB K D = true) : ExcC K D ∧ XfC K D ∧ PySem.W.typeIn K (.ref D) = some (.type "type") ∧ PySem.W.keepIn K (.ref D) = true ∧ PySem.W.findIn K (.ref D) "__setattr__" = some (some (.builtin "object.__setattr__")) := by
  unfold excB at h
  simp only [Bool.and_eq_true, decide_eq_true_eq] at h
  obtain ⟨h1, h2, h3, h4, h5, h6, h7, h8, h9, h10, h11⟩ := h
  exact ⟨⟨He.eqO_ok h1, He.eqO_ok h2, h3, h4, He.eqO_ok h5, He.eqO_ok h6, h7, h8⟩, ⟨He.eqO_ok h1, He.eqO_ok h2, h3, h4⟩, h9, h10, He.eqO_ok h11⟩
def kitB (K : PySem.W.Frag) (C : Addr) : Bool := He.eqO (PySem.W.findIn K (.ref C) "__class__") (some (some (.builtin "object.__class__"))) && (decide (PySem.W.mroIn K C (.type "object") = some true) && (["NoneType", "int", "bool", "str", "list", "tuple", "dict"] : List String).all fun t => decide (PySem.W.kitOne K (.type t) (.ref C) = some false))
def mkpB (K : PySem.W.Frag) (C : Addr) : Bool := PySem.W.makesIn K C && (He.eqO (PySem.W.findIn K (.ref C) "__init__") (some (some (.builtin "object.__init__"))) && PySem.W.keepIn K (.ref C))
def exB (K : PySem.W.Frag) : Bool := kitB K (He.ga K "Known") && (mkpB K (He.ga K "Mark") && (kitB K (He.ga K "Code") && (oexB K (He.ga K "NoTable") && (excB K (He.ga K "NoTable") && (He.eqO (PySem.W.findIn K (.ref (He.ga K "NoTable")) "at") (some none) && (decide (PySem.W.kitOne K (.ref (He.ga K "NoTable")) (.ref (He.ga K "CodeError")) = some true) &&
  (decide (PySem.W.typeIn K (.ref (He.ma K (He.ga K "NoTable") "__init__")) = some (.type "function")) && He.eqO (PySem.W.findIn K (.ref (He.ga K "NoTable")) "__init__") (some (some (.ref (He.ma K (He.ga K "NoTable") "__init__")))))))))))
def d_number_of : He.DefD := ⟨("number_of", none), "number_of", "number_of", defArgs snumber_of, defBody snumber_of, defScope snumber_of, [], []⟩
def d_bytes_of : He.DefD := ⟨("bytes_of", none), "bytes_of", "bytes_of", defArgs sbytes_of, defBody sbytes_of, defScope sbytes_of, [], []⟩
def d_string_of : He.DefD := ⟨("string_of", none), "string_of", "string_of", defArgs sstring_of, defBody sstring_of, defScope sstring_of, [], []⟩
def d_strings_of : He.DefD := ⟨("strings_of", none), "strings_of", "strings_of", defArgs sstrings_of, defBody sstrings_of, defScope sstrings_of, [], []⟩
def d_is_string : He.DefD := ⟨("is_string", none), "is_string", "is_string", defArgs sis_string, defBody sis_string, defScope sis_string, [], []⟩
def d_depth_of : He.DefD := ⟨("depth_of", none), "depth_of", "depth_of", defArgs sdepth_of, defBody sdepth_of, defScope sdepth_of, [], []⟩
def d_Code_init : He.DefD := ⟨("Code", some "__init__"), "__init__", "Code.__init__", defArgs sCode_init, defBody sCode_init, defScope sCode_init, [], []⟩
def d_NoTable_init : He.DefD := ⟨("NoTable", some "__init__"), "__init__", "NoTable.__init__", defArgs sNoTable_init, defBody sNoTable_init, defScope sNoTable_init, [], []⟩
def d_exception_rows : He.DefD := ⟨("exception_rows", none), "exception_rows", "exception_rows", defArgs sexception_rows, defBody sexception_rows, defScope sexception_rows, [], []⟩
def d_number_ahead : He.DefD := ⟨("number_ahead", none), "number_ahead", "number_ahead", defArgs snumber_ahead, defBody snumber_ahead, defScope snumber_ahead, [], []⟩
def d_line_rows : He.DefD := ⟨("line_rows", none), "line_rows", "line_rows", defArgs sline_rows, defBody sline_rows, defScope sline_rows, [], []⟩
def d_lines_of_units : He.DefD := ⟨("lines_of_units", none), "lines_of_units", "lines_of_units", defArgs slines_of_units, defBody slines_of_units, defScope slines_of_units, [], []⟩
def d_signed_number : He.DefD := ⟨("signed_number", none), "signed_number", "signed_number", defArgs ssigned_number, defBody ssigned_number, defScope ssigned_number, [], []⟩
def d_source_of : He.DefD := ⟨("_law_source_of", none), "_law_source_of", "_law_source_of", defArgs ssource_of, defBody ssource_of, defScope ssource_of, [], []⟩
def d_next : He.DefD := ⟨("_law_next", none), "_law_next", "_law_next", defArgs snext, defBody snext, defScope snext, [], []⟩
def d_one : He.DefD := ⟨("_law_one", none), "_law_one", "_law_one", defArgs sone, defBody sone, defScope sone, [], []⟩
def d_pieces : He.DefD := ⟨("_law_pieces", none), "_law_pieces", "_law_pieces", defArgs spieces, defBody spieces, defScope spieces, [], []⟩
def d_marked : He.DefD := ⟨("_law_marked", none), "_law_marked", "_law_marked", defArgs smarked, defBody smarked, defScope smarked, [], []⟩
def d_made : He.DefD := ⟨("_law_made", none), "_law_made", "_law_made", defArgs smade, defBody smade, defScope smade, [], []⟩
def d_row_bytes : He.DefD := ⟨("_law_row_bytes", none), "_law_row_bytes", "_law_row_bytes", defArgs srow_bytes, defBody srow_bytes, defScope srow_bytes, [], []⟩
def d_ljoined : He.DefD := ⟨("_law_joined", none), "_law_joined", "_law_joined", defArgs sljoined, defBody sljoined, defScope sljoined, [], []⟩
def d_entry : He.DefD := ⟨("_law_entry", none), "_law_entry", "_law_entry", defArgs sentry, defBody sentry, defScope sentry, [], []⟩
def d_lline_bytes : He.DefD := ⟨("_law_line_bytes", none), "_law_line_bytes", "_law_line_bytes", defArgs slline_bytes, defBody slline_bytes, defScope slline_bytes, [], []⟩
def d_number_read : He.DefD := ⟨("_law_number_read", none), "_law_number_read", "_law_number_read", defArgs snumber_read, defBody snumber_read, defScope snumber_read, [], []⟩
def d_handlers_read : He.DefD := ⟨("_law_handlers_read", none), "_law_handlers_read", "_law_handlers_read", defArgs shandlers_read, defBody shandlers_read, defScope shandlers_read, [], []⟩
def d_signed_read : He.DefD := ⟨("_law_signed_read", none), "_law_signed_read", "_law_signed_read", defArgs ssigned_read, defBody ssigned_read, defScope ssigned_read, [], []⟩
def d_lines_read : He.DefD := ⟨("_law_lines_read", none), "_law_lines_read", "_law_lines_read", defArgs slines_read, defBody slines_read, defScope slines_read, [], []⟩
def d_bent : He.DefD := ⟨("_law_bent", none), "_law_bent", "_law_bent", defArgs sbent, defBody sbent, defScope sbent, [], []⟩
def d_caught : He.DefD := ⟨("_law_caught", none), "_law_caught", "_law_caught", defArgs scaught, defBody scaught, defScope scaught, [], []⟩
def d_good : He.DefD := ⟨("_law_good", none), "_law_good", "_law_good", defArgs sgood, defBody sgood, defScope sgood, [], []⟩
def d_same : He.DefD := ⟨("_law_same", none), "_law_same", "_law_same", defArgs ssame, defBody ssame, defScope ssame, [], []⟩
def d_law : He.DefD := ⟨("law", none), "law", "law", defArgs slaw, defBody slaw, defScope slaw, [], []⟩
def fns : List He.DefD := [d_number_of, d_bytes_of, d_string_of, d_strings_of, d_is_string, d_depth_of, d_Code_init, d_NoTable_init, d_exception_rows, d_number_ahead, d_line_rows, d_lines_of_units, d_signed_number, d_source_of, d_next, d_one, d_pieces, d_marked, d_made, d_row_bytes, d_ljoined, d_entry, d_lline_bytes, d_number_read, d_handlers_read, d_signed_read, d_lines_read, d_bent, d_caught, d_good, d_same, d_law]
def fas : List He.Fa := [.glo "number_of", .glo "bytes_of", .glo "string_of", .glo "strings_of", .glo "is_string", .glo "depth_of", .glo "exception_rows", .glo "number_ahead", .glo "line_rows", .glo "lines_of_units", .glo "signed_number", .glo "_law_source_of", .glo "_law_next", .glo "_law_one", .glo "_law_pieces", .glo "_law_marked", .glo "_law_made", .glo "_law_row_bytes", .glo "_law_joined", .glo "_law_entry", .glo "_law_line_bytes", .glo "_law_number_read", .glo "_law_handlers_read", .glo "_law_signed_read", .glo "_law_lines_read", .glo "_law_bent", .glo "_law_caught", .glo "_law_good", .glo "_law_same", .glo "law", .glo "Code", .glo "Known", .glo "Mark", .glo "NoCode", .glo "CodeError", .glo "NoTable", .glo "NoRows", .glo "NoBytes", .free "len", .free "int", .free "range", .free "tuple", .free "list", .free "isinstance", .free "bool", .free "str", .free "max", .free "reversed", .free "repr", .free "min", .free "enumerate", .int "GREATEST" 2147483647, .int "DEEPEST" 100, .int "BARRED" 37, .int "BEGINS" 128, .int "GOES_ON" 64, .int "WITH_LINE" 232, .int "WITHOUT_LINE" 248, .int "MOST_UNITS" 8, .cls "Code", .cls "Known", .mkr "Code", .exm "NoTable" "NoCode" false, .exm "NoTable" "NoTable" true, .noat "Code" "argcount", .noat "Code" "onlycount", .noat "Code" "stacksize", .noat "Code" "flags", .noat "Code" "code", .noat "Code" "depth", .noat "Code" "constants", .noat "Code" "names", .noat "Code" "slots", .noat "Code" "kinds", .noat "Code" "name", .noat "Code" "path", .noat "Code" "line", .noat "Code" "lines", .noat "Code" "handlers", .noat "Code" "identity"]
abbrev Rk : PySem.W.OpenRow := PySem.W.OpenLaw.row PySem.Challenge.rw_codewalk_k49_tables_spoilt
def tfs : List He.Defn := [("law", none)]
abbrev hkk : PySem.W.Hook := He.hookX 4 fas fns [] tfs exB
def obk (s : PySem.W.SharedT) : He.AlX := He.obsX 4 fas fns [] tfs exB (HandSHeadRun.getT s)
theorem obk_eq (s : PySem.W.SharedT) : obk s = hkk.obs s.abs := He.obsX_eq (HandSHeadRun.getT_eq s)
def loose : List Str := (["CodeError", "NoCode", "NoTable", "NoBytes", "NoRows", "GREATEST", "DEEPEST", "BARRED", "Known", "Mark", "Code", "are_equal", "is_same_constant", "number_of", "bytes_of", "string_of", "strings_of", "is_string", "depth_of", "is_constant"] : List Str) ++ (["told_constants", "BEGINS", "GOES_ON", "WITH_LINE", "WITHOUT_LINE", "MOST_UNITS", "exception_rows", "number_ahead", "line_rows", "lines_of_units", "signed_number", "_law_source_of", "_law_next", "_law_one", "_law_pieces", "_law_marked", "_law_made", "_law_row_bytes", "_law_joined", "_law_entry"] : List Str) ++ (["_law_line_bytes", "_law_number_read", "_law_handlers_read", "_law_signed_read", "_law_lines_read", "_law_bent", "_law_caught", "_law_good", "_law_same"] : List Str)
theorem runk (w : World) : HandSHeadRun.RunEq Rk (PySem.W.view Rk.prog [53]) hkk obk 6000 loose w := by
  intro os
  kernel_rfl
end C49

set_option maxHeartbeats 4000000
namespace C49
open PySem PySem.Spec PyProof.Rows L2
abbrev Pk : Program := PySem.Challenge.pw_codewalk_k49_tables_spoilt
theorem k49_at {w : World} {mg : Str → Option Value} {fa : Addr} {h : Heap} (Y : hkk.says w h) (G : h.Ns mainGlobals mg) (hmg : mg "law" = some (.ref fa)) : ∃ (K : PySem.W.Frag) (cs : List (Addr × Addr)), K.In h ∧ (∀ p ∈ cs, h.get? p.2 = some { cls := .none, data := .fields #[] }) ∧
    (∀ p ∈ cs, K.lookup p.2 = none) ∧ (∀ p ∈ cs, PySem.W.CodeHd h p.1 p.2) ∧ ∀ (s : Shared) (a : Addr) (ns : List Int), ns.length ≤ 1000 → RunsAt Pk w K mg cs fa a s ns := by
  obtain ⟨K, X, c⟩ := Y
  have cd := c.t.d
  obtain ⟨fd_number_of, F_number_of⟩ := cd.def_ 0 (d := d_number_of) rfl
  obtain ⟨fd_bytes_of, F_bytes_of⟩ := cd.def_ 1 (d := d_bytes_of) rfl
  obtain ⟨fd_string_of, F_string_of⟩ := cd.def_ 2 (d := d_string_of) rfl
  obtain ⟨fd_strings_of, F_strings_of⟩ := cd.def_ 3 (d := d_strings_of) rfl
  obtain ⟨fd_is_string, F_is_string⟩ := cd.def_ 4 (d := d_is_string) rfl
  obtain ⟨fd_depth_of, F_depth_of⟩ := cd.def_ 5 (d := d_depth_of) rfl
  obtain ⟨fd_Code_init, F_Code_init⟩ := cd.def_ 6 (d := d_Code_init) rfl
  obtain ⟨fd_NoTable_init, F_NoTable_init⟩ := cd.def_ 7 (d := d_NoTable_init) rfl
  obtain ⟨fd_exception_rows, F_exception_rows⟩ := cd.def_ 8 (d := d_exception_rows) rfl
  obtain ⟨fd_number_ahead, F_number_ahead⟩ := cd.def_ 9 (d := d_number_ahead) rfl
  obtain ⟨fd_line_rows, F_line_rows⟩ := cd.def_ 10 (d := d_line_rows) rfl
  obtain ⟨fd_lines_of_units, F_lines_of_units⟩ := cd.def_ 11 (d := d_lines_of_units) rfl
  obtain ⟨fd_signed_number, F_signed_number⟩ := cd.def_ 12 (d := d_signed_number) rfl
  obtain ⟨fd_source_of, F_source_of⟩ := cd.def_ 13 (d := d_source_of) rfl
  obtain ⟨fd_next, F_next⟩ := cd.def_ 14 (d := d_next) rfl
  obtain ⟨fd_one, F_one⟩ := cd.def_ 15 (d := d_one) rfl
  obtain ⟨fd_pieces, F_pieces⟩ := cd.def_ 16 (d := d_pieces) rfl
  obtain ⟨fd_marked, F_marked⟩ := cd.def_ 17 (d := d_marked) rfl
  obtain ⟨fd_made, F_made⟩ := cd.def_ 18 (d := d_made) rfl
  obtain ⟨fd_row_bytes, F_row_bytes⟩ := cd.def_ 19 (d := d_row_bytes) rfl
  obtain ⟨fd_ljoined, F_ljoined⟩ := cd.def_ 20 (d := d_ljoined) rfl
  obtain ⟨fd_entry, F_entry⟩ := cd.def_ 21 (d := d_entry) rfl
  obtain ⟨fd_lline_bytes, F_lline_bytes⟩ := cd.def_ 22 (d := d_lline_bytes) rfl
  obtain ⟨fd_number_read, F_number_read⟩ := cd.def_ 23 (d := d_number_read) rfl
  obtain ⟨fd_handlers_read, F_handlers_read⟩ := cd.def_ 24 (d := d_handlers_read) rfl
  obtain ⟨fd_signed_read, F_signed_read⟩ := cd.def_ 25 (d := d_signed_read) rfl
  obtain ⟨fd_lines_read, F_lines_read⟩ := cd.def_ 26 (d := d_lines_read) rfl
  obtain ⟨fd_bent, F_bent⟩ := cd.def_ 27 (d := d_bent) rfl
  obtain ⟨fd_caught, F_caught⟩ := cd.def_ 28 (d := d_caught) rfl
  obtain ⟨fd_good, F_good⟩ := cd.def_ 29 (d := d_good) rfl
  obtain ⟨fd_same, F_same⟩ := cd.def_ 30 (d := d_same) rfl
  obtain ⟨fd_law, F_law⟩ := cd.def_ 31 (d := d_law) rfl
  have g_number_of := He.glo_ok X G (cd.fact 0 (f := .glo "number_of") rfl)
  have g_bytes_of := He.glo_ok X G (cd.fact 1 (f := .glo "bytes_of") rfl)
  have g_string_of := He.glo_ok X G (cd.fact 2 (f := .glo "string_of") rfl)
  have g_strings_of := He.glo_ok X G (cd.fact 3 (f := .glo "strings_of") rfl)
  have g_is_string := He.glo_ok X G (cd.fact 4 (f := .glo "is_string") rfl)
  have g_depth_of := He.glo_ok X G (cd.fact 5 (f := .glo "depth_of") rfl)
  have g_exception_rows := He.glo_ok X G (cd.fact 6 (f := .glo "exception_rows") rfl)
  have g_number_ahead := He.glo_ok X G (cd.fact 7 (f := .glo "number_ahead") rfl)
  have g_line_rows := He.glo_ok X G (cd.fact 8 (f := .glo "line_rows") rfl)
  have g_lines_of_units := He.glo_ok X G (cd.fact 9 (f := .glo "lines_of_units") rfl)
  have g_signed_number := He.glo_ok X G (cd.fact 10 (f := .glo "signed_number") rfl)
  have g_source_of := He.glo_ok X G (cd.fact 11 (f := .glo "_law_source_of") rfl)
  have g_next := He.glo_ok X G (cd.fact 12 (f := .glo "_law_next") rfl)
  have g_one := He.glo_ok X G (cd.fact 13 (f := .glo "_law_one") rfl)
  have g_pieces := He.glo_ok X G (cd.fact 14 (f := .glo "_law_pieces") rfl)
  have g_marked := He.glo_ok X G (cd.fact 15 (f := .glo "_law_marked") rfl)
  have g_made := He.glo_ok X G (cd.fact 16 (f := .glo "_law_made") rfl)
  have g_row_bytes := He.glo_ok X G (cd.fact 17 (f := .glo "_law_row_bytes") rfl)
  have g_ljoined := He.glo_ok X G (cd.fact 18 (f := .glo "_law_joined") rfl)
  have g_entry := He.glo_ok X G (cd.fact 19 (f := .glo "_law_entry") rfl)
  have g_lline_bytes := He.glo_ok X G (cd.fact 20 (f := .glo "_law_line_bytes") rfl)
  have g_number_read := He.glo_ok X G (cd.fact 21 (f := .glo "_law_number_read") rfl)
  have g_handlers_read := He.glo_ok X G (cd.fact 22 (f := .glo "_law_handlers_read") rfl)
  have g_signed_read := He.glo_ok X G (cd.fact 23 (f := .glo "_law_signed_read") rfl)
  have g_lines_read := He.glo_ok X G (cd.fact 24 (f := .glo "_law_lines_read") rfl)
  have g_bent := He.glo_ok X G (cd.fact 25 (f := .glo "_law_bent") rfl)
  have g_caught := He.glo_ok X G (cd.fact 26 (f := .glo "_law_caught") rfl)
  have g_good := He.glo_ok X G (cd.fact 27 (f := .glo "_law_good") rfl)
  have g_same := He.glo_ok X G (cd.fact 28 (f := .glo "_law_same") rfl)
  have g_law := He.glo_ok X G (cd.fact 29 (f := .glo "law") rfl)
  have g_Code := He.glo_ok X G (cd.fact 30 (f := .glo "Code") rfl)
  have g_Known := He.glo_ok X G (cd.fact 31 (f := .glo "Known") rfl)
  have g_Mark := He.glo_ok X G (cd.fact 32 (f := .glo "Mark") rfl)
  have g_NoCode := He.glo_ok X G (cd.fact 33 (f := .glo "NoCode") rfl)
  have g_CodeError := He.glo_ok X G (cd.fact 34 (f := .glo "CodeError") rfl)
  have g_NoTable := He.glo_ok X G (cd.fact 35 (f := .glo "NoTable") rfl)
  have g_NoRows := He.glo_ok X G (cd.fact 36 (f := .glo "NoRows") rfl)
  have g_NoBytes := He.glo_ok X G (cd.fact 37 (f := .glo "NoBytes") rfl)
  have B_number_of : Binds K fd_number_of ["value", "field"] [] := F_number_of.bindsN fun _ _ _ _ _ _ us hl => match us, hl with | [_, _], _ => rfl
  have B_bytes_of : Binds K fd_bytes_of ["row", "field"] [] := F_bytes_of.bindsN fun _ _ _ _ _ _ us hl => match us, hl with | [_, _], _ => rfl
  have B_string_of : Binds K fd_string_of ["value", "field"] [] := F_string_of.bindsN fun _ _ _ _ _ _ us hl => match us, hl with | [_, _], _ => rfl
  have B_strings_of : Binds K fd_strings_of ["row", "field"] [] := F_strings_of.bindsN fun _ _ _ _ _ _ us hl => match us, hl with | [_, _], _ => rfl
  have B_is_string : Binds K fd_is_string ["value"] [] := F_is_string.bindsN fun _ _ _ _ _ _ us hl => match us, hl with | [_], _ => rfl
  have B_depth_of : Binds K fd_depth_of ["constants"] [] := F_depth_of.bindsN fun _ _ _ _ _ _ us hl => match us, hl with | [_], _ => rfl
  have B_Code_init : Binds K fd_Code_init ["self", "argcount", "onlycount", "stacksize", "flags", "code", "constants", "names", "slots", "kinds", "name", "path", "line", "lines", "handlers"] [] := F_Code_init.bindsN fun _ _ _ _ _ _ us hl => match us, hl with | [_, _, _, _, _, _, _, _, _, _, _, _, _, _, _], _ => rfl
  have B_NoTable_init : Binds K fd_NoTable_init ["self", "at"] [] := F_NoTable_init.bindsN fun _ _ _ _ _ _ us hl => match us, hl with | [_, _], _ => rfl
  have B_exception_rows : Binds K fd_exception_rows ["code"] [] := F_exception_rows.bindsN fun _ _ _ _ _ _ us hl => match us, hl with | [_], _ => rfl
  have B_number_ahead : Binds K fd_number_ahead ["table", "at", "begins"] [] := F_number_ahead.bindsN fun _ _ _ _ _ _ us hl => match us, hl with | [_, _, _], _ => rfl
  have B_line_rows : Binds K fd_line_rows ["code"] [] := F_line_rows.bindsN fun _ _ _ _ _ _ us hl => match us, hl with | [_], _ => rfl
  have B_lines_of_units : Binds K fd_lines_of_units ["code"] [] := F_lines_of_units.bindsN fun _ _ _ _ _ _ us hl => match us, hl with | [_], _ => rfl
  have B_signed_number : Binds K fd_signed_number ["table", "at"] [] := F_signed_number.bindsN fun _ _ _ _ _ _ us hl => match us, hl with | [_, _], _ => rfl
  have B_source_of : Binds K fd_source_of ["_law_cell"] [] := F_source_of.bindsN fun _ _ _ _ _ _ us hl => match us, hl with | [_], _ => rfl
  have B_next : Binds K fd_next ["_law_source", "_law_many"] [] := F_next.bindsN fun _ _ _ _ _ _ us hl => match us, hl with | [_, _], _ => rfl
  have B_one : Binds K fd_one ["_law_source", "_law_some"] [] := F_one.bindsN fun _ _ _ _ _ _ us hl => match us, hl with | [_, _], _ => rfl
  have B_pieces : Binds K fd_pieces ["_law_number"] [] := F_pieces.bindsN fun _ _ _ _ _ _ us hl => match us, hl with | [_], _ => rfl
  have B_marked : Binds K fd_marked ["_law_some"] [] := F_marked.bindsN fun _ _ _ _ _ _ us hl => match us, hl with | [_], _ => rfl
  have B_made : Binds K fd_made ["_law_data", "_law_lines", "_law_guards", "_law_first"] [] := F_made.bindsN fun _ _ _ _ _ _ us hl => match us, hl with | [_, _, _, _], _ => rfl
  have B_row_bytes : Binds K fd_row_bytes ["_law_row"] [] := F_row_bytes.bindsN fun _ _ _ _ _ _ us hl => match us, hl with | [_], _ => rfl
  have B_ljoined : Binds K fd_ljoined ["_law_some"] [] := F_ljoined.bindsN fun _ _ _ _ _ _ us hl => match us, hl with | [_], _ => rfl
  have B_entry : Binds K fd_entry ["_law_units", "_law_more"] [] := F_entry.bindsN fun _ _ _ _ _ _ us hl => match us, hl with | [_, _], _ => rfl
  have B_lline_bytes : Binds K fd_lline_bytes ["_law_some", "_law_line"] [] := F_lline_bytes.bindsN fun _ _ _ _ _ _ us hl => match us, hl with | [_, _], _ => rfl
  have B_number_read : Binds K fd_number_read ["_law_data", "_law_at", "_law_is_first"] [] := F_number_read.bindsN fun _ _ _ _ _ _ us hl => match us, hl with | [_, _, _], _ => rfl
  have B_handlers_read : Binds K fd_handlers_read ["_law_data"] [] := F_handlers_read.bindsN fun _ _ _ _ _ _ us hl => match us, hl with | [_], _ => rfl
  have B_signed_read : Binds K fd_signed_read ["_law_data", "_law_at"] [] := F_signed_read.bindsN fun _ _ _ _ _ _ us hl => match us, hl with | [_, _], _ => rfl
  have B_lines_read : Binds K fd_lines_read ["_law_data", "_law_line"] [] := F_lines_read.bindsN fun _ _ _ _ _ _ us hl => match us, hl with | [_, _], _ => rfl
  have B_bent : Binds K fd_bent ["_law_source", "_law_data", "_law_some"] [] := F_bent.bindsN fun _ _ _ _ _ _ us hl => match us, hl with | [_, _, _], _ => rfl
  have B_caught : Binds K fd_caught ["_law_ask"] [] := F_caught.bindsN fun _ _ _ _ _ _ us hl => match us, hl with | [_], _ => rfl
  have B_good : Binds K fd_good ["_law_source"] [] := F_good.bindsN fun _ _ _ _ _ _ us hl => match us, hl with | [_], _ => rfl
  have B_same : Binds K fd_same ["_law_ask", "_law_due"] [] := F_same.bindsN fun _ _ _ _ _ _ us hl => match us, hl with | [_, _], _ => rfl
  have B_law : Binds K fd_law ["_law_script"] [] := F_law.bindsN fun _ _ _ _ _ _ us hl => match us, hl with | [_], _ => rfl
  have T : Txt mg := ⟨He.free_ok X G (cd.fact 38 (f := .free "len") rfl), He.free_ok X G (cd.fact 39 (f := .free "int") rfl), He.free_ok X G (cd.fact 40 (f := .free "range") rfl), He.free_ok X G (cd.fact 41 (f := .free "tuple") rfl), He.free_ok X G (cd.fact 42 (f := .free "list") rfl), He.free_ok X G (cd.fact 43 (f := .free "isinstance") rfl), He.free_ok X G (cd.fact 44 (f := .free "bool") rfl), He.free_ok X G (cd.fact 45 (f := .free "str") rfl), He.free_ok X G (cd.fact 46 (f := .free "max") rfl), He.free_ok X G (cd.fact 47 (f := .free "reversed") rfl), He.free_ok X G (cd.fact 48 (f := .free "repr") rfl), He.int_ok X G (cd.fact 51 (f := .int "GREATEST" 2147483647) rfl), He.int_ok X G (cd.fact 52 (f := .int "DEEPEST" 100) rfl), He.int_ok X G (cd.fact 53 (f := .int "BARRED" 37) rfl), He.int_ok X G (cd.fact 54 (f := .int "BEGINS" 128) rfl), He.int_ok X G (cd.fact 55 (f := .int "GOES_ON" 64) rfl), He.free_ok X G (cd.fact 49 (f := .free "min") rfl), He.int_ok X G (cd.fact 56 (f := .int "WITH_LINE" 232) rfl), He.int_ok X G (cd.fact 57 (f := .int "WITHOUT_LINE" 248) rfl), He.int_ok X G (cd.fact 58 (f := .int "MOST_UNITS" 8) rfl), He.free_ok X G (cd.fact 50 (f := .free "enumerate") rfl)⟩
  have mo := c.more
  unfold exB at mo
  simp only [Bool.and_eq_true, decide_eq_true_eq] at mo
  obtain ⟨mk, mm, m1, m2, m3, m4, m5, m6, m7⟩ := mo
  obtain ⟨eC, eF, eT, eK, eS⟩ := excB_ok m3
  unfold kitB at m1
  simp only [Bool.and_eq_true, decide_eq_true_eq] at m1
  obtain ⟨m11, m12, m13⟩ := m1
  unfold kitB at mk
  simp only [Bool.and_eq_true, decide_eq_true_eq] at mk
  obtain ⟨mk1, mk2, mk3⟩ := mk
  unfold mkpB at mm
  simp only [Bool.and_eq_true, decide_eq_true_eq] at mm
  obtain ⟨mm1, mm2, mm3⟩ := mm
  have PM : MkP K (He.ga K "Mark") := ⟨mm1, He.eqO_ok mm2, mm3⟩
  have IK : KnownT K mg (He.ga K "Known") := ⟨⟨He.cls_ok (cd.fact 60 (f := .cls "Known") rfl), He.eqO_ok mk1, eC.hn, eC.ht, mk2⟩, g_Known, of_decide_eq_true (List.all_eq_true.mp mk3 "list" (by decide))⟩
  have cls := He.cls_ok (cd.fact 59 (f := .cls "Code") rfl)
  have I : CodeT K mg (He.ga K "Code") := by
    refine ⟨⟨cls, He.eqO_ok m11, eC.hn, eC.ht, m12⟩, g_Code, fun t ht => of_decide_eq_true (List.all_eq_true.mp m13 t ht), fun f hf => ?_⟩
    simp only [List.mem_cons, List.not_mem_nil, or_false] at hf
    rcases hf with rfl | rfl | rfl | rfl | rfl | rfl | rfl | rfl | rfl | rfl | rfl | rfl | rfl | rfl | rfl | rfl
    · exact He.noat_ok (cd.fact 64 (f := .noat "Code" "argcount") rfl)
    · exact He.noat_ok (cd.fact 65 (f := .noat "Code" "onlycount") rfl)
    · exact He.noat_ok (cd.fact 66 (f := .noat "Code" "stacksize") rfl)
    · exact He.noat_ok (cd.fact 67 (f := .noat "Code" "flags") rfl)
    · exact He.noat_ok (cd.fact 68 (f := .noat "Code" "code") rfl)
    · exact He.noat_ok (cd.fact 69 (f := .noat "Code" "depth") rfl)
    · exact He.noat_ok (cd.fact 70 (f := .noat "Code" "constants") rfl)
    · exact He.noat_ok (cd.fact 71 (f := .noat "Code" "names") rfl)
    · exact He.noat_ok (cd.fact 72 (f := .noat "Code" "slots") rfl)
    · exact He.noat_ok (cd.fact 73 (f := .noat "Code" "kinds") rfl)
    · exact He.noat_ok (cd.fact 74 (f := .noat "Code" "name") rfl)
    · exact He.noat_ok (cd.fact 75 (f := .noat "Code" "path") rfl)
    · exact He.noat_ok (cd.fact 76 (f := .noat "Code" "line") rfl)
    · exact He.noat_ok (cd.fact 77 (f := .noat "Code" "lines") rfl)
    · exact He.noat_ok (cd.fact 78 (f := .noat "Code" "handlers") rfl)
    · exact He.noat_ok (cd.fact 79 (f := .noat "Code" "identity") rfl)
  have NT : NoTableT K mg (He.ga K "NoTable") (He.ga K "CodeError") (He.ga K "NoCode") := ⟨eC, eF, He.eqO_ok m4, g_CodeError, g_NoCode, g_NoTable, m5, He.exm_ok (cd.fact 62 (f := .exm "NoTable" "NoCode" false) rfl), He.exm_ok (cd.fact 63 (f := .exm "NoTable" "NoTable" true) rfl)⟩
  have ox : OexC K (He.ga K "NoTable") := ⟨oexB_ok m2, eS, eC.hs, eT, eK⟩
  have cal : ∀ {base : Heap} {k : Nat} {x : Str} {ps : List Str} {sp : Sp} {f : Addr} {fd : FuncData}, FnOk Pk w K mg base CX0 k f fd ps sp → mg x = some (.ref f) → PySem.W.keepIn K (.ref f) = true → Binds K fd ps [] → Cal Pk w K mg base k x ps sp := fun F g kp b => ⟨⟨_, _, F, g, kp, b⟩⟩
  have calE : ∀ {base : Heap} {k : Nat} {x : Str} {ps : List Str} {sp : Sp} {f : Addr} {fd : FuncData}, FnOk Pk w K mg base (CX Pk w) k f fd ps sp → mg x = some (.ref f) → PySem.W.keepIn K (.ref f) = true → Binds K fd ps [] → CalE Pk w K mg base k x ps sp := fun F g kp b => ⟨⟨_, _, F, g, kp, b⟩⟩
  obtain ⟨oc, od, dV, kV, doc, pm, an, cdC, ct, osl, rfl, lkC, hcC, _, _⟩ := F_caught.ex
  obtain ⟨oc3, od3, dV3, kV3, doc3, pm3, an3, cdS, ct3, osl3, rfl, lkS, hcS, _, _⟩ := F_same.ex
  have law : ∀ base, LawT Pk w K mg base (He.ga K "Code") (He.ga K "NoCode") (He.ga K "CodeError") (He.ga K "NoTable") (He.ga K "NoRows") (He.ga K "NoBytes") (He.ga K "_law_same") (He.ga K "_law_caught") cdS cdC := fun base => by
    have C_source_of := cal (base := base) (ok_source_of T F_source_of) g_source_of F_source_of.kp B_source_of
    have C_next := cal (base := base) (ok_next T F_next) g_next F_next.kp B_next
    have C_one := cal (base := base) (ok_one T F_one C_next) g_one F_one.kp B_one
    have C_pieces := cal (base := base) (ok_pieces T F_pieces) g_pieces F_pieces.kp B_pieces
    have C_marked := cal (base := base) (ok_marked T F_marked) g_marked F_marked.kp B_marked
    have C_entry := cal (base := base) (ok_entry T F_entry C_pieces C_marked) g_entry F_entry.kp B_entry
    have C_row_bytes := cal (base := base) (ok_row_bytes T F_row_bytes C_pieces C_marked) g_row_bytes F_row_bytes.kp B_row_bytes
    have C_ljoined := cal (base := base) (ok_ljoined T F_ljoined) g_ljoined F_ljoined.kp B_ljoined
    have C_lline_bytes := cal (base := base) (ok_lline_bytes T F_lline_bytes C_ljoined C_entry) g_lline_bytes F_lline_bytes.kp B_lline_bytes
    have C_bent := cal (base := base) (ok_bent T F_bent C_next C_one) g_bent F_bent.kp B_bent
    have C_good := cal (base := base) (ok_good T F_good C_next C_one C_row_bytes C_lline_bytes) g_good F_good.kp B_good
    have C_number_read := cal (base := base) (ok_number_read T F_number_read) g_number_read F_number_read.kp B_number_read
    have C_handlers_read := cal (base := base) (ok_handlers_read T F_handlers_read C_number_read) g_handlers_read F_handlers_read.kp B_handlers_read
    have C_signed_read := cal (base := base) (ok_signed_read T F_signed_read) g_signed_read F_signed_read.kp B_signed_read
    have C_lines_read := cal (base := base) (ok_lines_read T F_lines_read C_signed_read C_ljoined) g_lines_read F_lines_read.kp B_lines_read
    have C_number_of := cal (base := base) (ok_number_of T I F_number_of) g_number_of F_number_of.kp B_number_of
    have C_bytes_of := cal (base := base) (ok_bytes_of T I IK F_bytes_of) g_bytes_of F_bytes_of.kp B_bytes_of
    have C_is_string := cal (base := base) (ok_is_string T I F_is_string) g_is_string F_is_string.kp B_is_string
    have C_string_of := cal (base := base) (ok_string_of T I F_string_of C_is_string) g_string_of F_string_of.kp B_string_of
    have C_strings_of := cal (base := base) (ok_strings_of T I F_strings_of C_is_string) g_strings_of F_strings_of.kp B_strings_of
    have C_depth_of := cal (base := base) (ok_depth_of T I F_depth_of) g_depth_of F_depth_of.kp B_depth_of
    have XN : Exn Pk w K mg base "NoTable" (He.ga K "NoTable") "at" := ⟨ox, g_NoTable, _, _, He.eqO_ok m7, m6, ok_NoTable_init ox (He.eqO_ok m4) F_NoTable_init, B_NoTable_init⟩
    have MC : MkCode Pk w K mg base (He.ga K "Code") := ⟨⟨_, _, He.mkr_ok (cd.fact 61 (f := .mkr "Code") rfl), ok_Code_init T I F_Code_init C_number_of C_bytes_of C_string_of C_strings_of C_depth_of PM g_Mark, g_Code, B_Code_init⟩⟩
    have C_made := cal (base := base) (ok_made T F_made MC) g_made F_made.kp B_made
    have E_number_ahead := calE (base := base) (ok_number_ahead T XN F_number_ahead) g_number_ahead F_number_ahead.kp B_number_ahead
    have E_exc := calE (base := base) (ok_exception_rows T I F_exception_rows E_number_ahead) g_exception_rows F_exception_rows.kp B_exception_rows
    have E_signed := calE (base := base) (ok_signed_number T XN F_signed_number) g_signed_number F_signed_number.kp B_signed_number
    have E_units := calE (base := base) (ok_lines_of_units T I XN F_lines_of_units E_signed) g_lines_of_units F_lines_of_units.kp B_lines_of_units
    have E_lines := calE (base := base) (ok_line_rows T I F_line_rows E_units) g_line_rows F_line_rows.kp B_line_rows
    exact ⟨T, NT, g_NoRows, g_NoBytes, ⟨g_same, F_same.kp, hcS, _, _, _, _, _, _, _, _, _, lkS, B_same⟩, ⟨g_caught, F_caught.kp, hcC, _, _, _, _, _, _, _, _, _, lkC, B_caught⟩, C_source_of, C_next, C_good, C_bent, C_handlers_read, C_lines_read, C_made, E_exc, E_lines⟩
  have bl := fun s v => F_law.bindsA (ps := ["_law_script"]) (fun _ _ _ _ _ _ us hl => match us, hl with | [_], _ => rfl) s [v] rfl
  obtain ⟨oc2, od2, dV2, kV2, doc2, pm2, an2, cdL, ct2, osl2, rfl, lkL, hcL, _, _⟩ := F_law.ex
  obtain ⟨co, rfl⟩ := He.codeIn_ref hcL
  have eco : He.codeOf K ("law", none) = co := He.codeOf_eq (p := ("law", none)) lkL rfl
  have eT2 : He.cT K ("law", none) = (co, He.tabOf K co) := by unfold He.cT; rw [eco]
  have hd := c.hd ("law", none) (List.mem_singleton.mpr rfl)
  have ou := c.out ("law", none) (List.mem_singleton.mpr rfl)
  have em := c.empty ("law", none) (List.mem_singleton.mpr rfl)
  rw [eT2] at hd ou em
  have efa : fa = He.ga K "law" := by
    have := hmg.symm.trans g_law
    cases this
    rfl
  subst efa
  refine ⟨K, [(co, He.tabOf K co)], X, fun p hp => ?_, fun p hp => ?_, fun p hp => ?_, fun s a ns hn => law_runs law lkL hcL bl hn⟩
  · rw [List.mem_singleton.mp hp]
    exact em
  · rw [List.mem_singleton.mp hp]
    exact ou
  · rw [List.mem_singleton.mp hp]
    exact PySem.W.codeHd_of_K X hd
end C49
open PySem PySem.W PySem.Calls PyProof.Rows
theorem PySem.Challenge.cw_codewalk_k49_tables_spoilt_holds : PySem.Challenge.rw_codewalk_k49_tables_spoilt.Holds := by
  w_on; o_law
  refine HandSHeadRun.head_any (r := OpenLaw.row PySem.Challenge.rw_codewalk_k49_tables_spoilt) (q := view (OpenLaw.row PySem.Challenge.rw_codewalk_k49_tables_spoilt).prog [53]) (H := C49.hkk) (ob := C49.obk) (M := 6000) (loose := C49.loose) (d := HandSHeadRun.topDef (OpenLaw.row PySem.Challenge.rw_codewalk_k49_tables_spoilt).prog 53) (kwd := []) C49.obk_eq
    (by kernel_rfl) (fun s => by kernel_rfl) C49.runk (by kernel_rfl) (by kernel_rfl) (by kernel_rfl) (by rfl) (by first | assumption | decide +kernel) (by decide +kernel) ⟨rfl, rfl, rfl, rfl, rfl, by decide +kernel⟩ ?hw ?hc
  case hw => w_witness2
  case hc =>
    refine C49.walk_run (l := PySem.Challenge.rw_codewalk_k49_tables_spoilt) (n := 63) rfl (by decide) (by kernel_rfl) ?_
    intro w mg fa h Y G hmg0
    have hmg : mg ("law" : PySem.Str) = some (.ref fa) := by
      have e : (HandSHeadRun.topDef (OpenLaw.row PySem.Challenge.rw_codewalk_k49_tables_spoilt).prog 53).name = ("law" : PySem.Str) := by kernel_rfl
      rw [← e]
      exact hmg0
    obtain ⟨K, cs, h1, h2, h3, h4, h5⟩ := C49.k49_at Y G hmg
    exact ⟨K, cs, h1, h2, h3, h4, fun s a ns hl _ => h5 s a ns (Nat.le_trans hl (by decide))⟩
