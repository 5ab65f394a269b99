import PyProof.Rows.All
import Wide.All
import OpenK.AllK
import Wide.FinOn
import HandS.ForMost
import HandS.Wide
import HandS.Defaults
import HandS.IsInst
import HandS.Style
import HandS.ForExc
import HandS.ExcInit
import HandS.ExcField
import HandS.ExcIs
import PySem.Challenge.RW_codewalk_k47_tables_of_handlers_both_way
import HandS.Rev
import HandS.RevTup
import KE.KBytesIn
import KE.KStrBytes
import HandS.TryMany
import HandS.Lambda
import KE.KExcIs
import PyProof.Rows.SeqMore
import PyProof.ReprRoads
import HandS.Dict
import HandS.HeadWalk
import HandS.HeadHook4
import HandS.EndTab
import PyProof.ReprLen
import HandS.Head0
import HandS.Head1
import HandS.Head2
set_option Elab.async false
set_option linter.all false
set_option maxRecDepth 100000
set_option maxHeartbeats 1000000
namespace C47
open PySem PySem.Spec PyProof.Rows L2
def top (i : Nat) : Stmt := PySem.Challenge.pw_codewalk_k47_tables_of_handlers_both_way.main.body.getD i (.Pass ⟨0, 0, 0, 0⟩)
abbrev FnP (K : PySem.W.Frag) (x q : Str) (st : Stmt) (f : Addr) (fd : FuncData) : Prop := FunD K x q (defArgs st) (defBody st) (defScope st) [] [] f fd
/-- a def of the program as its callers see it -/
structure Cal (P : Program) (w : World) (K : PySem.W.Frag) (mg : Str → Option Value) (base : Heap) (k : Nat) (x : Str) (ps : List Str) (sp : Sp) : Prop where
  ex : ∃ f fd, FnOk P w K mg base CX0 k f fd ps sp ∧ mg x = some (.ref f) ∧ PySem.W.keepIn K (.ref f) = true ∧ Binds K fd ps []
theorem pe_cal {X : Cx} {k : Nat} {x : Str} {ps : List Str} {sp : Sp} {e : Expr} {es : List Expr} {t : TA} {p pos : Pos} (C : Cal X.prog X.w X.K X.mg X.base k x ps sp) (hr : Room k X.A) (hg : Gl X x) (ha : PA X (e :: es) t)
    (hdb : (x == ("__debug__" : Str)) = false := by decide) (he : starEach (e :: es) X.env = (false, eval e X.env) :: starEach es X.env := by rfl) (hpl : (backTo pos (starEach es X.env)).any (·.1) = false := by rfl) :
    PE X (.Call (.Name x p) (e :: es) [] pos) (tCall sp [] E0 t) := by
  obtain ⟨f, fd, F, m, kp, b⟩ := C.ex
  exact pe_call F hr hg m kp b .nil pass0 ha hdb he hpl
theorem pe_gi {X : Cx} {x : Str} {n : Int} {pos : Pos} (h : ∃ t, X.mg x = some (.int n t)) (hg : Gl X x := by rfl) (hdb : (x == ("__debug__" : Str)) = false := by decide) : PE X (.Name x pos) (tC (.int n)) := by
  obtain ⟨t, h⟩ := h
  exact pe_glob hg h ⟨t, rfl⟩ hdb
/-! ### own rules in a form that simp can reckon: each reading names what it finds in the heap by an equation -/
section
variable {X : Cx}
theorem OpR.imp' {g : Value → Value → Sem Value} {r r' : R2} (h : OpR X g r) (i : ∀ x y H Q, r' x y H Q → r x y H Q) : OpR X g r' := fun pins s σ H x y v u Q I rx ry q => h pins s σ H x y v u Q I rx ry (i _ _ _ _ q)
theorem IxR.imp' {r r' : R2} (h : IxR X r) (i : ∀ x y H Q, r' x y H Q → r x y H Q) : IxR X r' := fun e1 e2 pins s σ H x y v u Q I rx ry q => h e1 e2 pins s σ H x y v u Q I rx ry (i _ _ _ _ q)
theorem CallR.imp' {g : Value} {r r' : List V → Hp → VK → Prop} (h : CallR X g r) (i : ∀ xs H Q, r' xs H Q → r xs H Q) : CallR X g r' := fun pins s σ H xs us Q I rx q => h pins s σ H xs us Q I rx (i _ _ _ q)
theorem SlR.imp' {r r' : V → Option Int → Option Int → Hp → VK → Prop} (h : L2.SlR X r) (i : ∀ x a b H Q, r' x a b H Q → r x a b H Q) : L2.SlR X r' := fun pins s σ H x v vl vu lo hi sl Q I rx hs pl pu q => h pins s σ H x v vl vu lo hi sl Q I rx hs pl pu (i _ _ _ _ _ q)
theorem PE.weak {e : Expr} {t t' : TE} (h : PE X e t) (i : ∀ σ H Q, t' σ H Q → t σ H Q) : PE X e t' := ⟨fun pins s σ H Q I q => h.run pins s σ H Q I (i _ _ _ q)⟩
/-- the monotone closure of a reading -/
def mcl (te : TE) : TE := fun σ H Q => ∃ Q0 : VK, te σ H Q0 ∧ ∀ v H', Q0 v H' → Q v H'
theorem PE.mcl {e : Expr} {te : TE} (h : PE X e te) : PE X e (mcl te) := ⟨fun pins s σ H Q I q => by
  obtain ⟨Q0, q0, m⟩ := q
  exact thn (h.run pins s σ H Q0 I q0) fun u s1 ⟨v, H1, I1, r1, q1⟩ => ⟨v, H1, I1, r1, m _ _ q1⟩⟩
theorem pip_of {op : Operator} {r : R2} (h : OpR X (inplaceOp op) r) : PIp X op r := fun pins s σ H x y v u Q I rx ry q => h pins s σ H x y v u Q I rx ry q
/-- what a list or a tuple holds -/
def sq : Option HO → Option (List V)
  | some (.lst xs) => some xs
  | some (.tup xs) => some xs
  | _ => none
@[simp] theorem sq_lst {xs : List V} : sq (some (.lst xs)) = some xs := rfl
@[simp] theorem sq_tup {xs : List V} : sq (some (.tup xs)) = some xs := rfl
theorem sq_cases {o : Option HO} {xs : List V} (h : sq o = some xs) : o = some (.lst xs) ∨ o = some (.tup xs) := by
  unfold sq at h
  split at h
  · exact .inl (by rw [Option.some.inj h])
  · exact .inr (by rw [Option.some.inj h])
  · cases h
def rIxd : R2 := fun x y H Q => ∃ p i xs v, x = .ref p ∧ y = .int i ∧ sq (H p) = some xs ∧ atI xs i = some v ∧ Q v H
theorem ix_d : IxR X rIxd := IxR.imp' (IxR.or (ix_list (X := X)) (ix_tup (X := X))) fun x y H Q ⟨p, i, xs, v, e1, e2, h, ha, q⟩ => by
  rcases sq_cases h with h | h
  · exact .inl ⟨p, xs, i, v, e1, e2, SqL.of h, ha, q⟩
  · exact .inr ⟨p, xs, i, v, e1, e2, SqT.of h, ha, q⟩
def rLend : List V → Hp → VK → Prop := fun vs H Q => ∃ p xs, vs = [.ref p] ∧ sq (H p) = some xs ∧ Q (.int xs.length) H
theorem call_len_d : CallR X (.builtin "len") rLend := CallR.imp' (call_len_seq (X := X)) fun vs H Q ⟨p, xs, e, h, q⟩ => by
  rcases sq_cases h with h | h
  · exact ⟨p, xs, e, .inl (SqL.of h), q⟩
  · exact ⟨p, xs, e, .inr (SqT.of h), q⟩
/-- tuple(list), list(list), list(tuple) -/
def rTupd : List V → Hp → VK → Prop := fun vs H Q => ∃ p xs, vs = [.ref p] ∧ H p = some (.lst xs) ∧ ∀ l, H l = none → Q (.ref l) (upd H l (.tup xs))
theorem call_tuple_d : CallR X (.type "tuple") rTupd := CallR.imp' (call_tuple_of (X := X)) fun vs H Q ⟨p, xs, e, h, q⟩ => ⟨p, xs, e, .inl ⟨SqL.of h, q⟩⟩
def rListd : List V → Hp → VK → Prop := fun vs H Q => ∃ p xs, vs = [.ref p] ∧ sq (H p) = some xs ∧ ∀ l, H l = none → Q (.ref l) (upd H l (.lst xs))
theorem call_list_d : CallR X (.type "list") rListd := CallR.imp' (call_list_of (X := X)) fun vs H Q ⟨p, xs, e, h, q⟩ => by
  rcases sq_cases h with h | h
  · exact ⟨p, xs, e, .inl (SqL.of h), q⟩
  · exact ⟨p, xs, e, .inr (SqT.of h), q⟩
def rSld : V → Option Int → Option Int → Hp → VK → Prop := fun x lo hi H Q => ∃ a xs, x = .ref a ∧ H a = some (.lst xs) ∧ ∀ p, H p = none → Q (.ref p) (upd H p (.lst (cutV xs lo hi)))
theorem sl_d : L2.SlR X rSld := SlR.imp' (sl_list (X := X)) fun x lo hi H Q ⟨a, xs, e, h, q⟩ => ⟨a, xs, e, SqL.of h, q⟩
def tRevD (te : TE) : TE := fun σ H Q => te σ H fun x H1 => ∃ a xs, x = .ref a ∧ H1 a = some (.lst xs) ∧ ∀ p, H1 p = none → Q (.ref p) (upd H1 p (.lst xs.reverse))
theorem pe_revD {e : Expr} {te : TE} {k : Nat} {p1 p2 p3 pos : Pos} (he : PE X e te) : PE X (.Subscript e (.Slice none none (some (.UnaryOp .USub (.Constant (.int 1) k p1) p2)) p3) pos) (tRevD te) :=
  PE.weak (pe_revL (PE.mcl he)) fun σ H Q q => ⟨_, q, fun v H' ⟨a, xs, e, h, k⟩ => ⟨a, xs, e, SqL.of h, k⟩⟩
theorem PG.weak {tg : Expr} {t t' : TG} (h : PG X tg t) (i : ∀ v σ H Q, t' v σ H Q → t v σ H Q) : PG X tg t' := ⟨fun pins s σ H v u Q I r q => h.run pins s σ H v u Q I r (i _ _ _ _ q)⟩
/-- a, b, .. = a tuple that stands in the heap -/
def gTupD (n : Nat) (t : TGs) : TG := fun v σ H Q => ∃ a xs, v = .ref a ∧ H a = some (.tup xs) ∧ xs.length = n ∧ t xs σ H Q
theorem pg_tupD {es : List Expr} {k : Nat} {t : TGs} {n : Nat} {pos : Pos} (hc : X.calm = true) (h : PGs X es t)
    (hn : (assignEach es X.env).length = n := by rfl) (hst : (assignEach es X.env).findIdx? (·.1) = none := by rfl) : PG X (.Tuple es k pos) (gTupD n t) :=
  PG.weak (pg_tup hc h hn hst) fun v σ H Q ⟨a, xs, e, h, l, q⟩ => ⟨a, xs, e, SqT.of h, l, q⟩
def isLst : Option HO → Bool
  | some (.lst _) => true
  | _ => false
@[simp] theorem isLst_lst {xs : List V} : isLst (some (.lst xs)) = true := rfl
theorem tyV_lst {K : PySem.W.Frag} {H : Hp} {a : Addr} (h : isLst (H a) = true) : tyV K "list" (.ref a) H = True := by
  refine eq_true ?_
  cases e : H a with
  | none =>
    rw [e] at h
    cases h
  | some o =>
    rw [e] at h
    cases o with
    | lst xs => exact .inl ⟨rfl, xs, SqL.of e⟩
    | _ => cases h
end
/-! ### statements and expressions, one step each -/
section
variable {X : Cx} {σ : L2.St} {H : Hp} {Q : VK} {D : Ends} {QT : Bool → Hp → Prop} {QA : List V → Hp → Prop} {QO : Option Int → Hp → Prop}
theorem r_seq {t u : TS} : tSeq t u D σ H = t { D with nx := u D } σ H := rfl
theorem r_next : tNext D σ H = D.nx σ H := rfl
theorem r_brk : tBreak D σ H = D.bk σ H := rfl
theorem r_cont : tCont D σ H = D.ct σ H := rfl
theorem r_asg {te : TE} {g : TG} : tAsg te g D σ H = te σ H (fun x H1 => g x σ H1 D.nx) := rfl
theorem r_name {i : Nat} {v : V} {Q : L2.St → Hp → Prop} : gName i v σ H Q = Q (σ.set i (some v)) H := rfl
theorem r_ret {te : TE} : tRet te D σ H = te σ H D.rt := rfl
theorem r_retN : tRetN D σ H = D.rt .non H := rfl
theorem r_drop {te : TE} : tDrop te D σ H = te σ H (fun _ H1 => D.nx σ H1) := rfl
theorem r_ifs {c : TT} {t u : TS} : tIfS c t u D σ H = c σ H (fun b H1 => if b = true then t D σ H1 else u D σ H1) := rfl
theorem r_never : tNever D σ H = False := rfl
theorem r_var {i : Nat} : tVar i σ H Q = ∃ v, σ[i]? = some (some v) ∧ Q v H := rfl
theorem r_c {v : V} : tC v σ H Q = Q v H := rfl
theorem r_op {r : R2} {ta tb : TE} : tOp r ta tb σ H Q = ta σ H (fun x H1 => tb σ H1 fun y H2 => r x y H2 Q) := rfl
theorem r_un {r : V → Hp → VK → Prop} {ta : TE} : tUn r ta σ H Q = ta σ H (fun x H1 => r x H1 Q) := rfl
theorem r_if {c : TT} {ta tb : TE} : tIf c ta tb σ H Q = c σ H (fun b H1 => if b = true then ta σ H1 Q else tb σ H1 Q) := rfl
theorem r_tst {t : TE} : tTest t σ H QT = t σ H (fun x H' => ∃ k, x = .bl k ∧ QT k H') := rfl
theorem r_b {t : TE} : tB t σ H QT = t σ H (fun x H' => ∃ k, x = .bl k ∧ QT k H') := rfl
theorem r_not {t : TT} : tNot t σ H QT = t σ H (fun c H1 => QT (!c) H1) := rfl
theorem r_and {t u : TT} : tAnd t u σ H QT = t σ H (fun c H1 => if c = true then u σ H1 QT else QT false H1) := rfl
theorem r_or {t u : TT} : tOr t u σ H QT = t σ H (fun c H1 => if c = true then QT true H1 else u σ H1 QT) := rfl
theorem r_andV {ta tb : TE} : tAndV ta tb σ H Q = ta σ H (fun x H1 => ∃ c, x = .bl c ∧ if c = true then tb σ H1 Q else Q (.bl false) H1) := rfl
theorem r_orV {ta tb : TE} : tOrV ta tb σ H Q = ta σ H (fun x H1 => ∃ c, x = .bl c ∧ if c = true then Q (.bl true) H1 else tb σ H1 Q) := rfl
theorem r_notV {ta : TE} : tNotV ta σ H Q = ta σ H (fun x H1 => ∃ c, x = .bl c ∧ Q (.bl (!c)) H1) := rfl
theorem r_nil : tNil σ H QA = QA [] H := rfl
theorem r_cons {ta : TE} {tr : TA} : tCons ta tr σ H QA = ta σ H (fun x H1 => tr σ H1 fun xs H2 => QA (x :: xs) H2) := rfl
theorem r_tup {t : TA} : tTup t σ H Q = t σ H (fun xs H1 => xs.length ≤ sizeLine ∧ ∀ p, H1 p = none → Q (.ref p) (upd H1 p (.tup xs))) := (rfl)
theorem r_lst {t : TA} : tLst t σ H Q = t σ H (fun xs H1 => xs.length ≤ sizeLine ∧ ∀ p, H1 p = none → Q (.ref p) (upd H1 p (.lst xs))) := (rfl)
theorem r_cb {r : List V → Hp → VK → Prop} {t : TA} : tCB r t σ H Q = t σ H (fun vs H1 => r vs H1 Q) := rfl
theorem r_call {sp : Sp} {dvs : List V} {E : XK} {t : TA} : tCall sp dvs E t σ H Q = t σ H (fun vs H1 => sp (vs ++ dvs) H1 Q E) := rfl
theorem r_bm {K : PySem.W.Frag} {T : String} {r : V → List V → Hp → VK → Prop} {to : TE} {t : TA} : tBM K T r to t σ H Q = to σ H (fun x H1 => tyV K T x H1 ∧ t σ H1 fun xs H2 => r x xs H2 Q) := rfl
theorem r_bm0 {K : PySem.W.Frag} {T : String} {r : V → List V → Hp → VK → Prop} {to : TE} : tBM0 K T r to σ H Q = to σ H (fun x H1 => tyV K T x H1 ∧ r x [] H1 Q) := rfl
theorem r_sl {r : V → Option Int → Option Int → Hp → VK → Prop} {te : TE} {tl th : TO} : L2.tSl r te tl th σ H Q = te σ H (fun x H1 => tl σ H1 fun l H2 => th σ H2 fun u H3 => r x l u H3 Q) := rfl
theorem r_nopart : tNoPart σ H QO = QO none H := rfl
theorem r_part {te : TE} : tPart te σ H QO = te σ H (fun x H1 => ∃ i, x = .int i ∧ QO (some i) H1) := rfl
theorem r_rev {te : TE} : tRevD te σ H Q = te σ H (fun x H1 => ∃ a xs, x = .ref a ∧ H1 a = some (.lst xs) ∧ ∀ p, H1 p = none → Q (.ref p) (upd H1 p (.lst xs.reverse))) := rfl
theorem r_gtup {K : PySem.W.Frag} {n : Nat} {t : TGs} {v : V} {Q : L2.St → Hp → Prop} : gTup K n t v σ H Q = ∃ a xs, v = .ref a ∧ SqT K H a xs ∧ xs.length = n ∧ t xs σ H Q := rfl
theorem r_gtupD {n : Nat} {t : TGs} {v : V} {Q : L2.St → Hp → Prop} : gTupD n t v σ H Q = ∃ a xs, v = .ref a ∧ H a = some (.tup xs) ∧ xs.length = n ∧ t xs σ H Q := rfl
theorem r_gnil {vs : List V} {Q : L2.St → Hp → Prop} : gNil vs σ H Q = (vs = [] ∧ Q σ H) := rfl
theorem r_gcons {t : TG} {u : TGs} {vs : List V} {Q : L2.St → Hp → Prop} : gCons t u vs σ H Q = ∃ v r, vs = v :: r ∧ t v σ H (fun σ' H' => u r σ' H' Q) := rfl
theorem r_gsub {to ti : TE} {t : TSet} {v : V} {Q : L2.St → Hp → Prop} : gSub to ti t v σ H Q = to σ H (fun o H1 => ti σ H1 fun i H2 => t o i v H2 fun H3 => Q σ H3) := rfl
theorem r_par {i j : Nat} {ta : TA} : tPar i j ta D σ H = ta σ H (fun vs H1 => ∃ v w, vs = [v, w] ∧ D.nx ((σ.set i (some v)).set j (some w)) H1) := rfl
theorem r_aug {i : Nat} {te : TE} {ti : TIp} : tAug i te ti D σ H = ∃ x, σ[i]? = some (some x) ∧ te σ H (fun y H1 => ti x y H1 fun z H2 => D.nx (σ.set i (some z)) H2) := rfl
theorem r_chain {r r' : R2} {ta tb tc : TE} : tChain r r' ta tb tc σ H Q = ta σ H (fun x H1 => tb σ H1 fun y H2 => r x y H2 fun z H3 => ∃ k, z = .bl k ∧ (if k = true then tc σ H3 fun w' H4 => r' y w' H4 Q else Q (.bl false) H3)) := rfl
theorem r_I0 {g : Int → Int → V} {x y : V} : rI0 g x y H Q = ∃ i j, x = .int i ∧ y = .int j ∧ Q (g i j) H := rfl
theorem r_I {C : Int → Int → Prop} {g : Int → Int → V} {x y : V} : rI C g x y H Q = ∃ i j, x = .int i ∧ y = .int j ∧ C i j ∧ Q (g i j) H := rfl
theorem r_ipI {f : Int → Int → Int} {x y : V} : ipI f x y H Q = ∃ i j, x = .int i ∧ y = .int j ∧ Q (.int (f i j)) H := rfl
theorem r_U {g : Int → V} {x : V} : rU g x H Q = ∃ i, x = .int i ∧ Q (g i) H := rfl
theorem r_ixd {x y : V} : rIxd x y H Q = ∃ p i xs v, x = .ref p ∧ y = .int i ∧ sq (H p) = some xs ∧ atI xs i = some v ∧ Q v H := rfl
theorem r_lend {vs : List V} : rLend vs H Q = ∃ p xs, vs = [.ref p] ∧ sq (H p) = some xs ∧ Q (.int xs.length) H := rfl
theorem r_tupd {vs : List V} : rTupd vs H Q = ∃ p xs, vs = [.ref p] ∧ H p = some (.lst xs) ∧ ∀ l, H l = none → Q (.ref l) (upd H l (.tup xs)) := rfl
theorem r_listd {vs : List V} : rListd vs H Q = ∃ p xs, vs = [.ref p] ∧ sq (H p) = some xs ∧ ∀ l, H l = none → Q (.ref l) (upd H l (.lst xs)) := rfl
theorem r_sld {x : V} {lo hi : Option Int} : rSld x lo hi H Q = ∃ a xs, x = .ref a ∧ H a = some (.lst xs) ∧ ∀ p, H p = none → Q (.ref p) (upd H p (.lst (cutV xs lo hi))) := rfl
theorem r_app {x : V} {vs : List V} : rAppend x vs H Q = ∃ l xs y, x = .ref l ∧ vs = [y] ∧ H l = some (.lst xs) ∧ xs.length < sizeLine ∧ Q .non (upd H l (.lst (xs ++ [y]))) := rfl
theorem r_ext {x : V} {vs : List V} : rExtend x vs H Q = ∃ l b xs zs, x = .ref l ∧ vs = [.ref b] ∧ H l = some (.lst xs) ∧ H b = some (.lst zs) ∧ xs.length + zs.length ≤ sizeLine ∧ Q .non (upd H l (.lst (xs ++ zs))) := rfl
theorem r_reverse {x : V} {vs : List V} : rReverse x vs H Q = ∃ l xs, x = .ref l ∧ vs = [] ∧ H l = some (.lst xs) ∧ Q .non (upd H l (.lst xs.reverse)) := rfl
theorem r_setl {o i v : V} {Q : Hp → Prop} : rSetL o i v H Q = ∃ p xs k j, o = .ref p ∧ i = .int k ∧ H p = some (.lst xs) ∧ ixN xs.length k = some j ∧ Q (upd H p (.lst (xs.set j v))) := rfl
theorem r_cat {x y : V} : rCat x y H Q = ∃ l b xs zs, x = .ref l ∧ y = .ref b ∧ H l = some (.lst xs) ∧ H b = some (.lst zs) ∧ xs.length + zs.length ≤ sizeLine ∧ ∀ p, H p = none → Q (.ref p) (upd H p (.lst (xs ++ zs))) := rfl
theorem r_int1 {xs : List V} : (fun xs H Q => (∃ i, xs = [V.int i] ∧ Q (V.int i) H) ∨ ∃ k, xs = [V.bl k] ∧ Q (V.int (if k = true then 1 else 0)) H : List V → Hp → VK → Prop) xs H Q = ((∃ i, xs = [V.int i] ∧ Q (V.int i) H) ∨ ∃ k, xs = [V.bl k] ∧ Q (V.int (if k = true then 1 else 0)) H) := rfl
theorem r_eqS {x y : V} : rEq x y H Q = (scal x y = true ∧ Q (.bl (decide (x = y))) H) := rfl
theorem r_neS {x y : V} : rNe x y H Q = (scal x y = true ∧ Q (.bl (!decide (x = y))) H) := rfl
theorem scal_ii {i j : Int} : scal (.int i) (.int j) = true := rfl
theorem scal_bb {i j : Bool} : scal (.bl i) (.bl j) = true := rfl
theorem scal_ss {i j : Str} : scal (.str i) (.str j) = true := rfl
theorem at0 {x : V} {xs : List V} : atI (x :: xs) 0 = some x := by
  unfold atI ixN
  rw [if_pos (by decide), if_pos (by simp)]
  rfl
theorem at1 {x y : V} {xs : List V} : atI (x :: y :: xs) 1 = some y := by
  unfold atI ixN
  rw [if_pos (by decide), if_pos (by rw [List.length_cons, List.length_cons]; omega)]
  rfl
theorem at2 {x y z : V} {xs : List V} : atI (x :: y :: z :: xs) 2 = some z := by
  unfold atI ixN
  rw [if_pos (by decide), if_pos (by rw [List.length_cons, List.length_cons, List.length_cons]; omega)]
  rfl
theorem atn {xs : List V} {i : Nat} {v : V} (h : xs[i]? = some v) : atI xs (i : Int) = some v := by
  have hi : i < xs.length := (List.getElem?_eq_some_iff.mp h).1
  unfold atI ixN
  rw [if_pos (Int.natCast_nonneg i), if_pos (by omega)]
  simpa using h
theorem ixn {n i : Nat} (h : i < n) : ixN n (i : Int) = some i := by
  unfold ixN
  rw [if_pos (Int.natCast_nonneg i), if_pos (by omega)]
  simp
theorem ix0 {n : Nat} : ixN (n + 1) 0 = some 0 := by
  unfold ixN
  rw [if_pos (by decide), if_pos (by omega)]
  rfl
theorem ix1 {n : Nat} : ixN (n + 1 + 1) 1 = some 1 := by
  unfold ixN
  rw [if_pos (by decide), if_pos (by omega)]
  rfl
theorem ix2 {n : Nat} : ixN (n + 1 + 1 + 1) 2 = some 2 := by
  unfold ixN
  rw [if_pos (by decide), if_pos (by omega)]
  rfl
theorem cm_l {i j : Int} (h : -(2 ^ 64) < i ∧ i < 2 ^ 64) : CMul i j = True := eq_true (.inl h)
theorem cm_r {i j : Int} (h : -(2 ^ 64) < j ∧ j < 2 ^ 64) : CMul i j = True := eq_true (.inr h)
theorem cm_mod {t j : Int} : CMul (t % 2147483647) j = True := eq_true (.inl ⟨by omega, by omega⟩)
theorem cdw {i j : Int} (h : 0 < j ∧ j < 2 ^ 200) : CDivW i j = True := eq_true (wide_div (b := 200) h.1 (by omega) (by decide) (by decide))
theorem cdw1009 {i : Int} : CDivW i 1009 = True := cdw (by decide)
theorem cdw2003 {i : Int} : CDivW i 2003 = True := cdw (by decide)
theorem cdw7 {i : Int} : CDivW i 7 = True := cdw (by decide)
theorem cdw64 {i : Int} : CDivW i 64 = True := cdw (by decide)
theorem cdw2 {i : Int} : CDivW i 2 = True := cdw (by decide)
theorem cm104729 {i : Int} : CMul 104729 i = True := cm_l (by decide)
theorem cm2 {i : Int} : CMul 2 i = True := cm_l (by decide)
theorem cm3 {i : Int} : CMul 3 i = True := cm_l (by decide)
theorem sz_lit {xs : List V} (h : xs.length ≤ 1000) : (xs.length ≤ sizeLine) = True := eq_true (Nat.le_trans h (by decide))
/-- while by a word of the slots and the heap, a test whose answer is known -/
theorem while_d {c : TT} {tb : TS} (Pv : L2.St → Hp → Prop) (m : L2.St → Hp → Nat) (h0 : Pv σ H)
    (hs : ∀ σ H, Pv σ H → ∃ b, (∀ Q : Bool → Hp → Prop, Q b H → c σ H Q) ∧ (b = true → tb { D with nx := fun σ' H' => Pv σ' H' ∧ m σ' H' < m σ H, ct := fun σ' H' => Pv σ' H' ∧ m σ' H' < m σ H, bk := D.nx } σ H) ∧ (b = false → D.nx σ H)) : tWhile c tb D σ H := by
  refine ⟨fun k σ H => k = m σ H ∧ Pv σ H, ⟨_, rfl, h0⟩, ?_⟩
  rintro k σ H ⟨rfl, p⟩
  obtain ⟨b, hc, h1, h2⟩ := hs σ H p
  refine hc _ ?_
  cases b with
  | true => exact ⟨_, fun σ' H' ⟨p', l⟩ => ⟨_, l, rfl, p'⟩, h1 rfl⟩
  | false => exact h2 rfl
end
/-! ### heaps -/
theorem upd_at {H : Hp} {a b : Addr} {o : HO} : L2.upd H a o b = if b = a then some o else H b := rfl
theorem une {a b : Addr} (h : b ≠ a) : ∀ (H : Hp) (o : HO), L2.upd H a o b = H b := fun H o => upd_ne h
theorem ne_new {H : Hp} {a p : Addr} {o : HO} (h : H a = some o) (hp : H p = none) : a ≠ p := ne_of_none h hp
theorem new_ne {H : Hp} {a p : Addr} {o : HO} (h : H a = some o) (hp : H p = none) : p ≠ a := (ne_of_none h hp).symm
theorem Same.new' {H H1 : Hp} {p : Addr} {o : HO} (h : Same H H1) (hp : H1 p = none) : Same H (L2.upd H1 p o) := fun b u e => by
  have e1 := h b u e
  rw [upd_ne (ne_of_none e1 hp)]
  exact e1
/-! ### loops -/
/-- what a loop over J asks -/
def LoopR (J : It) (g : TG) (tb : TS) (D : Ends) (σ : L2.St) (H1 : Hp) : Prop := ∃ W : Nat → Nat → L2.St → Hp → Prop, (∃ m, W 0 m σ H1) ∧ ∀ i m σ H, W i m σ H →
  (J.stop i H ∧ D.nx σ H) ∨ (J.go i H ∧ ∃ N : L2.St → Hp → Prop, (∀ σ' H', N σ' H' → ∃ m', m' < m ∧ W (i + 1) m' σ' H') ∧ ∀ x H', J.yld i H x H' → g x σ H' fun σ2 H2 => tb { D with nx := N, ct := N, bk := D.nx } σ2 H2)
section
variable {K : PySem.W.Frag} {σ : L2.St} {H : Hp} {D : Ends} {g : TG} {tb : TS}
theorem r_for1 {ta : TA} : tFor (iRng1 ta) g tb D σ H = ta σ H (fun vs H1 => ∃ j : Int, vs = [.int j] ∧ -(2 ^ 62) ≤ j ∧ j < 2 ^ 62 ∧ LoopR (Itr 0 j.toNat) g tb D σ H1) := rfl
theorem r_forL {tl : TE} : tFor (iList K tl) g tb D σ H = tl σ H (fun x H1 => ∃ a, x = .ref a ∧ (∃ xs, SqL K H1 a xs) ∧ LoopR (Itl K a) g tb D σ H1) := rfl
theorem r_forT {tl : TE} : tFor (iTup K tl) g tb D σ H = tl σ H (fun x H1 => ∃ a, x = .ref a ∧ (∃ xs, SqT K H1 a xs) ∧ LoopR (Itt K a) g tb D σ H1) := rfl
theorem lp_rng {n : Nat} (Pv : Nat → L2.St → Hp → Prop) (h0 : Pv 0 σ H)
    (hs : ∀ (i : Nat) σ H, i < n → Pv i σ H → g (.int (i : Int)) σ H fun σ2 H2 => tb { D with nx := Pv (i + 1), ct := Pv (i + 1), bk := D.nx } σ2 H2) (hd : ∀ σ H, Pv n σ H → D.nx σ H) : LoopR (Itr 0 n) g tb D σ H :=
  for_range Pv h0 (fun i σ H hi p => by
    have q := hs i σ H hi p
    rw [Int.zero_add]
    exact q) hd
theorem lp_list {a : Addr} {xs : List V} (Pv : Nat → L2.St → Hp → Prop) (h0 : Pv 0 σ H) (hl : ∀ i σ H, i ≤ xs.length → Pv i σ H → SqL K H a xs)
    (hs : ∀ i x σ H, xs[i]? = some x → Pv i σ H → g x σ H fun σ2 H2 => tb { D with nx := Pv (i + 1), ct := Pv (i + 1), bk := D.nx } σ2 H2) (hd : ∀ σ H, Pv xs.length σ H → D.nx σ H) : LoopR (Itl K a) g tb D σ H := for_list Pv h0 hl hs hd
theorem lp_tup {a : Addr} {xs : List V} (Pv : Nat → L2.St → Hp → Prop) (h0 : Pv 0 σ H) (hl : ∀ i σ H, i ≤ xs.length → Pv i σ H → SqT K H a xs)
    (hs : ∀ i x σ H, xs[i]? = some x → Pv i σ H → g x σ H fun σ2 H2 => tb { D with nx := Pv (i + 1), ct := Pv (i + 1), bk := D.nx } σ2 H2) (hd : ∀ σ H, Pv xs.length σ H → D.nx σ H) : LoopR (Itt K a) g tb D σ H := for_tup Pv h0 hl hs hd
/-- an empty list, an empty tuple -/
theorem lp_nil {a : Addr} (hl : SqL K H a []) (hd : D.nx σ H) : LoopR (Itl K a) g tb D σ H := for_list (xs := []) (fun i s h => s = σ ∧ h = H) ⟨rfl, rfl⟩ (fun i s h _ ⟨_, e⟩ => by rw [e]; exact hl) (fun i x s h e => by cases e) fun s h ⟨e1, e2⟩ => by rw [e1, e2]; exact hd
theorem lp_nilT {a : Addr} (hl : SqT K H a []) (hd : D.nx σ H) : LoopR (Itt K a) g tb D σ H := for_tup (xs := []) (fun i s h => s = σ ∧ h = H) ⟨rfl, rfl⟩ (fun i s h _ ⟨_, e⟩ => by rw [e]; exact hl) (fun i x s h e => by cases e) fun s h ⟨e1, e2⟩ => by rw [e1, e2]; exact hd
/-- a list comprehension over J: what is kept from turn to turn -/
def CompR (J : It) (g : TG) (tt : TT) (te : TE) (vs : List Nat) (σ : L2.St) (Q : VK) (D : Addr) (H0 : Hp) : Prop := ∃ W : Nat → Nat → Hp → Prop, (∃ m, W 0 m H0) ∧ ∀ i m H, W i m H →
  (J.stop i H ∧ Q (.ref D) H) ∨ (J.go i H ∧ ∃ Nx : Hp → Prop, (∀ H', Nx H' → ∃ m', m' < m ∧ W (i + 1) m' H') ∧ ∀ x H', J.yld i H x H' → g x (wipe σ vs) H' fun σ2 H2 => wipe σ2 vs = wipe σ vs ∧ tt σ2 H2 fun b H3 =>
    if b = true then te σ2 H3 fun y H4 => ∃ acc, H4 D = some (.lst acc) ∧ acc.length < sizeLine ∧ Nx (upd H4 D (.lst (acc ++ [y]))) else Nx H3)
theorem r_lcL {tl : TE} {tt : TT} {te : TE} {vs : List Nat} {Q : VK} : tLc (iList K tl) g tt te vs σ H Q = tl σ H (fun x H1 => ∃ a, x = .ref a ∧ (∃ xs, SqL K H1 a xs) ∧ ∀ D, H1 D = none → CompR (Itl K a) g tt te vs σ Q D (upd H1 D (.lst []))) := rfl
theorem r_lc1 {ta : TA} {tt : TT} {te : TE} {vs : List Nat} {Q : VK} : tLc (iRng1 ta) g tt te vs σ H Q = ta σ H (fun us H1 => ∃ j : Int, us = [.int j] ∧ -(2 ^ 62) ≤ j ∧ j < 2 ^ 62 ∧ ∀ D, H1 D = none → CompR (Itr 0 j.toNat) g tt te vs σ Q D (upd H1 D (.lst []))) := rfl
theorem cp_list {a : Addr} {xs : List V} {tt : TT} {te : TE} {vs : List Nat} {A : Addr} {H1 : Hp} {Q : VK} (Pv : Nat → Hp → Prop) (h0 : Pv 0 (upd H1 A (.lst []))) (hl : ∀ i H, i ≤ xs.length → Pv i H → SqL K H a xs)
    (hs : ∀ i x H, xs[i]? = some x → Pv i H → g x (wipe σ vs) H fun σ2 H2 => wipe σ2 vs = wipe σ vs ∧ tt σ2 H2 fun b H3 =>
      if b = true then te σ2 H3 fun y H4 => ∃ acc, H4 A = some (.lst acc) ∧ acc.length < sizeLine ∧ Pv (i + 1) (upd H4 A (.lst (acc ++ [y]))) else Pv (i + 1) H3) (hd : ∀ H, Pv xs.length H → Q (.ref A) H) :
    CompR (Itl K a) g tt te vs σ Q A (upd H1 A (.lst [])) := lc_list Pv h0 hl hs hd
theorem r_yes {QT : Bool → Hp → Prop} : tYes σ H QT = QT true H := rfl
end
theorem wipe_0 {σ : L2.St} : wipe σ [] = σ := rfl
theorem wipe_1 {σ : L2.St} {v : Nat} {vs : List Nat} : wipe σ (v :: vs) = (wipe σ vs).set v none := rfl
theorem cut_init (xs : List V) (x : V) : cutV (xs ++ [x]) none (some (-1)) = xs := by
  have e : HT.sIx (xs ++ [x]).length (xs ++ [x]).length (some (-1)) = xs.length := by
    simp [HT.sIx]
    omega
  unfold cutV
  rw [e, HT.sIx_none, List.drop_zero, Nat.sub_zero, List.take_left']
  rfl
theorem cut_last (xs : List V) (x : V) : cutV (xs ++ [x]) (some (-1)) none = [x] := by
  have e : HT.sIx (xs ++ [x]).length 0 (some (-1)) = xs.length := by
    simp [HT.sIx]
    omega
  unfold cutV
  rw [e, HT.sIx_none, List.drop_left', List.take_of_length_le]
  · rw [List.length_append]
    simp
  · rfl
theorem tyl {K : PySem.W.Frag} {H : Hp} {a : Addr} {xs : List V} (h : H a = some (.lst xs)) : tyV K "list" (.ref a) H := of_eq_true (tyV_lst (by rw [h]; rfl))
theorem szl {n : Nat} (h : n ≤ 1000) : n ≤ sizeLine := Nat.le_trans h (by decide)
theorem szlt {n : Nat} (h : n ≤ 1000) : n < sizeLine := Nat.lt_of_le_of_lt h (by decide)
/-- a loop over a written tuple, turn by turn -/
def UnrT (T : Addr) (all : List V) (g : TG) (tb : TS) (D : Ends) : List V → L2.St → Hp → Prop
  | [], σ, H => D.nx σ H
  | x :: xs, σ, H => g x σ H fun σ2 H2 => tb { D with nx := fun σ' H' => H' T = some (.tup all) ∧ UnrT T all g tb D xs σ' H', ct := fun σ' H' => H' T = some (.tup all) ∧ UnrT T all g tb D xs σ' H', bk := D.nx } σ2 H2
theorem unr_nil {T : Addr} {all : List V} {g : TG} {tb : TS} {D : Ends} {σ : L2.St} {H : Hp} : UnrT T all g tb D [] σ H = D.nx σ H := rfl
theorem unr_cons {T : Addr} {all : List V} {g : TG} {tb : TS} {D : Ends} {x : V} {xs : List V} {σ : L2.St} {H : Hp} : UnrT T all g tb D (x :: xs) σ H = g x σ H fun σ2 H2 => tb { D with nx := fun σ' H' => H' T = some (.tup all) ∧ UnrT T all g tb D xs σ' H', ct := fun σ' H' => H' T = some (.tup all) ∧ UnrT T all g tb D xs σ' H', bk := D.nx } σ2 H2 := rfl
theorem lp_unrT {K : PySem.W.Frag} {T : Addr} {all : List V} {g : TG} {tb : TS} {D : Ends} {σ : L2.St} {H : Hp} (h : H T = some (.tup all)) (u : UnrT T all g tb D all σ H) : LoopR (Itt K T) g tb D σ H := by
  refine lp_tup (xs := all) (fun i σ' H' => H' T = some (.tup all) ∧ UnrT T all g tb D (all.drop i) σ' H') ⟨h, u⟩ (fun i s h' _ q => SqT.of q.1) (fun i x s h' e q => ?_) fun s h' q => ?_
  · have e1 : all.drop i = x :: all.drop (i + 1) := by
      obtain ⟨hi, e2⟩ := List.getElem?_eq_some_iff.mp e
      rw [List.drop_eq_getElem_cons hi, e2]
    obtain ⟨_, q2⟩ := q
    rw [e1] at q2
    exact q2
  · obtain ⟨_, q2⟩ := q
    rw [List.drop_length] at q2
    exact q2
theorem Paired.snoc' {α β : Type} {F : α → β → Prop} : ∀ {l1 : List α} {l2 : List β} {a : α} {b : β}, Paired F l1 l2 → F a b → Paired F (l1 ++ [a]) (l2 ++ [b])
  | _, _, _, _, .nil, h => .cons h .nil
  | _, _, _, _, .cons r t, h => .cons r (Paired.snoc' t h)
theorem Paired.map' {α β : Type} {F G : α → β → Prop} {l1 : List α} {l2 : List β} (p : Paired F l1 l2) (h : ∀ a b, F a b → G a b) : Paired G l1 l2 := Paired.mapP p h
theorem cut_tail (x : V) (xs : List V) : cutV (x :: xs) (some 1) none = xs := by
  have e : HT.sIx (x :: xs).length 0 (some 1) = 1 := by
    simp [HT.sIx]
  unfold cutV
  rw [e, HT.sIx_none]
  simp
/-- for x in a name that holds a list or a tuple -/
def iSeqV (K : PySem.W.Frag) (i : Nat) : TI := fun σ H R => ∃ a, σ[i]? = some (some (.ref a)) ∧ (((∃ xs, H a = some (.lst xs)) ∧ R (Itl K a) H) ∨ ((∃ xs, H a = some (.tup xs)) ∧ R (Itt K a) H))
theorem pi_seqV {X : Cx} (i : Nat) {x : Str} {tg : Expr} {pos : Pos} (hN : X.N[i]? = some x := by rfl) (hv : Vis X.env.scope x := by first | exact Or.inl rfl | exact Or.inr (Or.inl rfl) | exact Or.inr (Or.inr rfl)) (hd : (x == ("__debug__" : Str)) = false := by decide)
    (hcd : (x == ("__classdict__" : Str)) = false := by decide) : PI X tg (.Name x pos) (iSeqV X.K i) := ⟨fun pins s σ H R I h => by
  obtain ⟨a, h0, ⟨⟨xs, e⟩, q⟩ | ⟨⟨xs, e⟩, q⟩⟩ := h
  · exact (pi_list (pe_var hN hv hd hcd)).run pins s σ H R I ⟨_, h0, a, rfl, ⟨_, SqL.of e⟩, q⟩
  · exact (pi_tup (pe_var hN hv hd hcd)).run pins s σ H R I ⟨_, h0, a, rfl, ⟨_, SqT.of e⟩, q⟩⟩
theorem r_forS {K : PySem.W.Frag} {i : Nat} {g : TG} {tb : TS} {D : Ends} {σ : L2.St} {H : Hp} : tFor (iSeqV K i) g tb D σ H = ∃ a, σ[i]? = some (some (.ref a)) ∧ (((∃ xs, H a = some (.lst xs)) ∧ LoopR (Itl K a) g tb D σ H) ∨ ((∃ xs, H a = some (.tup xs)) ∧ LoopR (Itt K a) g tb D σ H)) := rfl
theorem lp_seq {K : PySem.W.Frag} {g : TG} {tb : TS} {D : Ends} {σ : L2.St} {H : Hp} {a : Addr} {xs : List V} (h : sq (H a) = some xs) (Pv : Nat → L2.St → Hp → Prop) (h0 : Pv 0 σ H) (hl : ∀ i σ H', Pv i σ H' → H' a = H a)
    (hs : ∀ i x σ H, xs[i]? = some x → Pv i σ H → g x σ H fun σ2 H2 => tb { D with nx := Pv (i + 1), ct := Pv (i + 1), bk := D.nx } σ2 H2) (hd : ∀ σ H, Pv xs.length σ H → D.nx σ H) :
    ((∃ xs, H a = some (.lst xs)) ∧ LoopR (Itl K a) g tb D σ H) ∨ ((∃ xs, H a = some (.tup xs)) ∧ LoopR (Itt K a) g tb D σ H) := by
  rcases sq_cases h with e | e
  · exact .inl ⟨⟨_, e⟩, lp_list Pv h0 (fun i s h' _ q => SqL.of (by rw [hl i s h' q, e])) hs hd⟩
  · exact .inr ⟨⟨_, e⟩, lp_tup Pv h0 (fun i s h' _ q => SqT.of (by rw [hl i s h' q, e])) hs hd⟩
theorem Paired.at' {α β : Type} {F : α → β → Prop} : ∀ {l1 : List α} {l2 : List β} {i : Nat}, Paired F l1 l2 → (h1 : i < l1.length) → (h2 : i < l2.length) → F l1[i] l2[i]
  | _, _, 0, .cons r _, _, _ => r
  | _, _, i + 1, .cons _ t, h1, h2 => Paired.at' (i := i) t (by simpa using h1) (by simpa using h2)

/-! ### isinstance, in a form that simp can reckon -/
structure ClsI (K : PySem.W.Frag) (C : Addr) : Prop where
  cl : Cls K C
  ha : PySem.W.findIn K (.ref C) "__class__" = some (some (.builtin "object.__class__"))
  hn : PySem.W.specialIn K (.builtin "object.__class__") "__get__" = some (some (.builtin "getset_descriptor.__get__"))
  htk : PySem.W.takesIn K (.builtin "object.__class__") = some true
  hm : PySem.W.mroIn K C (.type "object") = some true
/-- what stands there, by its class (of own classes C alone) -/
def tyH (C : Addr) : Option HO → Option Value
  | some (.lst _) => some (.type "list")
  | some (.tup _) => some (.type "tuple")
  | some (.dK _) => some (.type "dict")
  | some (.ins D _ _) => if D = C then some (.ref C) else none
  | _ => none
def tyD (C : Addr) (H : Hp) : V → Option Value
  | .non => some (.type "NoneType")
  | .bl _ => some (.type "bool")
  | .int _ => some (.type "int")
  | .str _ => some (.type "str")
  | .ref a => tyH C (H a)
  | _ => none
theorem tyD_ok {K : PySem.W.Frag} {C : Addr} {H : Hp} {x : V} {t : Value} (c : ClsI K C) (h : tyD C H x = some t) : TyX K H x t := by
  cases x with
  | non => cases h; exact .base .non
  | bl b => cases h; exact .base (.bl b)
  | int i => cases h; exact .base (.int i)
  | str s => cases h; exact .base (.str s)
  | ref a =>
    have h2 : tyH C (H a) = some t := h
    cases e : H a with
    | none =>
      rw [e] at h2
      cases h2
    | some o =>
      rw [e] at h2
      cases o with
      | lst xs => cases h2; exact .base (.lst e)
      | tup xs => cases h2; exact .base (.tup e)
      | dK kvs => cases h2; exact .base (.dK e)
      | ins D dx fs =>
        have h3 : (if D = C then some (Value.ref C) else none) = some t := h2
        by_cases q : D = C
        · rw [if_pos q] at h3
          cases h3
          subst q
          exact .base (.ins e c.cl c.ha c.hn c.htk c.hm)
        · rw [if_neg q] at h3
          cases h3
      | _ => cases h2
  | _ => cases h
def clsD : V → Option Value
  | .ty n => some (.type n)
  | .ref C => some (.ref C)
  | _ => none
theorem clsD_ok {c : V} {u : Value} (h : clsD c = some u) : ClsV c u := by
  cases c with
  | ty n => cases h; exact .ty n
  | ref C => cases h; exact .own C
  | _ => cases h
def rIsD (K : PySem.W.Frag) (C : Addr) : List V → Hp → VK → Prop := fun vs H Q => ∃ x c t u b, vs = [x, c] ∧ clsD c = some u ∧ tyD C H x = some t ∧ PySem.W.kitOne K t u = some b ∧ Q (.bl b) H
theorem call_is_d {X : Cx} {C : Addr} (c : ClsI X.K C) : CallR X (.builtin "isinstance") (rIsD X.K C) := CallR.imp' (call_isi (X := X)) fun vs H Q ⟨x, d, t, u, b, e, h1, h2, h3, q⟩ => ⟨x, d, t, u, b, e, clsD_ok h1, tyD_ok c h2, h3, q⟩
/-- isinstance(x, (list, tuple)) -/
def rIsLT (K : PySem.W.Frag) (C : Addr) : List V → Hp → VK → Prop := fun vs H Q => ∃ x tp t b, vs = [x, .ref tp] ∧ H tp = some (.tup [.ty "list", .ty "tuple"]) ∧ tyD C H x = some t ∧ PySem.W.kitAny K t [.type "list", .type "tuple"] = some b ∧ Q (.bl b) H
theorem call_is_lt {X : Cx} {C : Addr} (c : ClsI X.K C) : CallR X (.builtin "isinstance") (rIsLT X.K C) := CallR.imp' (call_isiT (X := X)) fun vs H Q ⟨x, tp, t, b, e, h1, h2, h3, q⟩ =>
  ⟨x, tp, _, t, _, b, e, h1, .cons (.ty "list") (.cons (.ty "tuple") .nil), tyD_ok c h2, h3, q⟩
section
variable {K : PySem.W.Frag} {C : Addr} {H : Hp} {Q : VK} {σ : L2.St} {D : Ends}
theorem r_isd {vs : List V} : rIsD K C vs H Q = ∃ x c t u b, vs = [x, c] ∧ clsD c = some u ∧ tyD C H x = some t ∧ PySem.W.kitOne K t u = some b ∧ Q (.bl b) H := rfl
theorem r_islt {vs : List V} : rIsLT K C vs H Q = ∃ x tp t b, vs = [x, .ref tp] ∧ H tp = some (.tup [.ty "list", .ty "tuple"]) ∧ tyD C H x = some t ∧ PySem.W.kitAny K t [.type "list", .type "tuple"] = some b ∧ Q (.bl b) H := rfl
theorem cD_ty {n : String} : clsD (.ty n) = some (.type n) := rfl
theorem cD_ref {a : Addr} : clsD (.ref a) = some (.ref a) := rfl
theorem tD_non : tyD C H .non = some (.type "NoneType") := rfl
theorem tD_bl {b : Bool} : tyD C H (.bl b) = some (.type "bool") := rfl
theorem tD_int {i : Int} : tyD C H (.int i) = some (.type "int") := rfl
theorem tD_str {s : Str} : tyD C H (.str s) = some (.type "str") := rfl
theorem tD_ref {a : Addr} : tyD C H (.ref a) = tyH C (H a) := rfl
theorem tH_lst {xs : List V} : tyH C (some (.lst xs)) = some (.type "list") := rfl
theorem tH_tup {xs : List V} : tyH C (some (.tup xs)) = some (.type "tuple") := rfl
theorem tH_dK {kvs : List (Key × V)} : tyH C (some (.dK kvs)) = some (.type "dict") := rfl
theorem tH_ins {dx : Addr} {fs : List (Str × V)} : tyH C (some (.ins C dx fs)) = some (.ref C) := if_pos rfl
theorem ki_self {t : Value} : PySem.W.kitOne K t t = some true := by
  unfold PySem.W.kitOne
  rw [if_pos (by simp)]
theorem ki_int_bool : PySem.W.kitOne K (.type "int") (.type "bool") = some false := kit_ty (by decide +kernel)
theorem ki_non_int : PySem.W.kitOne K (.type "NoneType") (.type "int") = some false := kit_ty (by decide +kernel)
theorem ki_str_int : PySem.W.kitOne K (.type "str") (.type "int") = some false := kit_ty (by decide +kernel)
theorem ki_lt_lst : PySem.W.kitAny K (.type "list") [.type "list", .type "tuple"] = some true := by
  unfold PySem.W.kitAny
  rw [ki_self]
theorem ki_lt_tup : PySem.W.kitAny K (.type "tuple") [.type "list", .type "tuple"] = some true := by
  have e : PySem.W.kitOne K (.type "tuple") (.type "list") = some false := kit_ty (by decide +kernel)
  unfold PySem.W.kitAny
  rw [e]
  unfold PySem.W.kitAny
  rw [ki_self]
theorem r_fld {ta : TE} {f : Str} : tFld K ta f σ H Q = ta σ H (fun x H1 => ∃ a C dx fs v, x = .ref a ∧ H1 a = some (.ins C dx fs) ∧ Cls K C ∧ NoAttr K C f ∧ fs.lookup f = some v ∧ Q v H1) := rfl
theorem r_sfld {ta tv : TE} {f : Str} : sFld K ta tv f D σ H = tv σ H (fun y H1 => ta σ H1 fun x H2 => ∃ a C dx fs, x = .ref a ∧ H2 a = some (.ins C dx fs) ∧ Cls K C ∧ NoAttr K C f ∧ fs.length < 1000 ∧ D.nx σ (upd H2 a (.ins C dx (putF f y fs)))) := rfl
end
theorem cx_K {CX : CXT} {P : Program} {w : World} {K : PySem.W.Frag} {mg : Str → Option Value} {base : Heap} {N : List Str} {q : Str} {sc : Scope} {f : Addr} {cd : Value} {A : Around} {outer : List Env} {s : Shared} {H : Hp} {E : XK} : (cxOf CX P w K mg base N q sc f cd A outer s H E).K = K := rfl
/-! ### own exceptions with one field -/
def spXInit (C : Addr) (f : Str) : Sp := fun vs H Q _ => ∃ (a : Addr) (v : V), vs = [.ref a, v] ∧ H a = some (exo a C none) ∧ ∀ d, H d = none → d ≠ a → Q .non (upd (upd H d (exd d [(f, v)])) a (exo a C (some d)))
structure Exn (P : Program) (w : World) (K : PySem.W.Frag) (mg : Str → Option Value) (base : Heap) (x : Str) (C : Addr) (f : Str) : Prop where
  ox : OexC K C
  gl : mg x = some (.ref C)
  ex : ∃ fI fd, PySem.W.findIn K (.ref C) "__init__" = some (some (.ref fI)) ∧ PySem.W.typeIn K (.ref fI) = some (.type "function") ∧ FnOk P w K mg base CX0 1 fI fd ["self", f] (spXInit C f) ∧ Binds K fd ["self", f] []
theorem pmk_x {X : Cx} {x f : Str} {C : Addr} {e : Expr} {te : TE} {p pos : Pos} (N : Exn X.prog X.w X.K X.mg X.base x C f) (hr : Room 2 X.A) (hg : Gl X x) (ha : PE X e te)
    (hs : starEach [e] X.env = (false, eval e X.env) :: starEach [] X.env := by rfl) (hdb : (x == ("__debug__" : Str)) = false := by decide) (hpl : (backTo pos (starEach [] X.env)).any (·.1) = false := by rfl) :
    PMk X (.Call (.Name x p) [e] [] pos) (tMkO C (spXInit C f) [] (tCons te tNil)) := by
  obtain ⟨fI, fd, iC, tI, F, b⟩ := N.ex
  exact pmk_oex N.ox iC tI F hr b .nil pass0 hg N.gl (pa_cons ha pa_nil hs) hdb hs hpl
/-- what a raise of such an exception asks -/
theorem raise_x {C : Addr} {f : Str} {te : TE} {σ : L2.St} {H : Hp} {E : XK} {v : V} (h : ∀ Q : VK, Q v H → te σ H Q) (k : ∀ d H', H d = none → Same H H' → H' d = some (.xd [(f, v)]) → E (.ref C) (some d) H') : tMkO C (spXInit C f) [] (tCons te tNil) σ H E := by
  refine h _ ⟨by show 1 ≤ 1000; decide, fun a ha => ⟨a, v, rfl, upd_same, fun d hd da => ⟨rfl, d, [(f, v)], upd_same, ?_, ?_, ?_⟩⟩⟩
  · rw [upd_ne da, upd_same]
  · rw [upd_ne da] at hd
    exact hd
  · rw [upd_ne da] at hd
    refine k d _ hd (fun b o e => ?_) upd_same
    have ba : b ≠ a := ne_new e ha
    have bd : b ≠ d := ne_new e hd
    rw [upd_ne bd, del_ne ba, upd_ne ba, upd_ne bd, upd_ne ba]
    exact e

/-! ### the source of choices -/
def Src (H : Hp) (a : Addr) : Prop := ∃ x y z : Int, H a = some (.lst [.int x, .int y, .int z])
/-- all but a stays -/
def Keep (a : Addr) (H H' : Hp) : Prop := ∀ b o, b ≠ a → H b = some o → H' b = some o
theorem Keep.refl (a : Addr) (H : Hp) : Keep a H H := fun _ _ _ h => h
theorem Keep.trans {a : Addr} {H H1 H2 : Hp} (h : Keep a H H1) (k : Keep a H1 H2) : Keep a H H2 := fun b o n e => k b o n (h b o n e)
theorem Keep.upd {a : Addr} {H H1 : Hp} {o : HO} (h : Keep a H H1) : Keep a H (upd H1 a o) := fun b u n e => by
  rw [upd_ne n]
  exact h b u n e
theorem Keep.new {a p : Addr} {H H1 : Hp} {o : HO} (h : Keep a H H1) (hp : H1 p = none) : Keep a H (L2.upd H1 p o) := fun b u n e => by
  have e1 := h b u n e
  rw [upd_ne (ne_of_none e1 hp)]
  exact e1
theorem Keep.same {a : Addr} {H H1 : Hp} (h : Same H H1) : Keep a H H1 := fun b o _ e => h b o e
theorem Src.new {H : Hp} {a p : Addr} {o : HO} (h : Src H a) (hp : H p = none) : Src (L2.upd H p o) a := by
  obtain ⟨x, y, z, e⟩ := h
  exact ⟨x, y, z, by rw [upd_ne (ne_new e hp)]; exact e⟩
theorem Src.ne {H : Hp} {a p : Addr} (h : Src H a) (hp : H p = none) : p ≠ a := by
  obtain ⟨x, y, z, e⟩ := h
  exact new_ne e hp
structure Txt (mg : Str → Option Value) : Prop where
  b_len : mg "len" = none
  b_int : mg "int" = none
  b_range : mg "range" = none
  b_tuple : mg "tuple" = none
  b_list : mg "list" = none
  b_isinstance : mg "isinstance" = none
  b_bool : mg "bool" = none
  b_str : mg "str" = none
  b_max : mg "max" = none
  b_reversed : mg "reversed" = none
  b_repr : mg "repr" = none
  g_GREATEST : ∃ t, mg "GREATEST" = some (.int 2147483647 t)
  g_DEEPEST : ∃ t, mg "DEEPEST" = some (.int 100 t)
  g_BARRED : ∃ t, mg "BARRED" = some (.int 37 t)
  g_BEGINS : ∃ t, mg "BEGINS" = some (.int 128 t)
  g_GOES_ON : ∃ t, mg "GOES_ON" = some (.int 64 t)
def spSrc : Sp := fun vs H Q _ => ∃ n : Int, vs = [.int n] ∧ ∀ p H', H p = none → Same H H' → Src H' p → Q (.ref p) H'
def spNext : Sp := fun vs H Q _ => ∃ (a : Addr) (m : Int), vs = [.ref a, .int m] ∧ Src H a ∧ 0 < m ∧ m < 2 ^ 200 ∧ ∀ (r : Int) H', 0 ≤ r → r < m → Keep a H H' → Src H' a → Q (.int r) H'
def spOne : Sp := fun vs H Q _ => ∃ (a b : Addr) (xs : List V), vs = [.ref a, .ref b] ∧ Src H a ∧ b ≠ a ∧ H b = some (.lst xs) ∧ xs ≠ [] ∧ xs.length ≤ 1000 ∧ ∀ v H', v ∈ xs → Keep a H H' → Src H' a → Q v H'
section
variable {P : Program} {w : World} {K : PySem.W.Frag} {mg : Str → Option Value} {base : Heap} {f : Addr} {fd : FuncData}
abbrev ssource_of : Stmt := top 31
theorem scsource_of : FnScope ["_law_cell"] ["_law_cell"] (defScope ssource_of) := ⟨rfl, rfl, rfl, by decide +kernel, rfl, by decide +kernel, by decide +kernel⟩

abbrev snext : Stmt := top 32
theorem scnext : FnScope ["_law_source", "_law_many", "_law_found", "_law_prime", "_law_number_here"] ["_law_source", "_law_many"] (defScope snext) := ⟨rfl, rfl, rfl, by decide +kernel, rfl, by decide +kernel, by decide +kernel⟩

abbrev sone : Stmt := top 33
theorem scone : FnScope ["_law_source", "_law_some"] ["_law_source", "_law_some"] (defScope sone) := ⟨rfl, rfl, rfl, by decide +kernel, rfl, by decide +kernel, by decide +kernel⟩

theorem ok_source_of (T : Txt mg) (F : FnP K "_law_source_of" "_law_source_of" ssource_of f fd) : FnOk P w K mg base CX0 1 f fd ["_law_cell"] spSrc := by
  refine F.ok scsource_of (fun vs H Q E h => ?_) (fun cdv A outer s H vs Q E hr h => ?_)
  · obtain ⟨n, rfl, _⟩ := h
    rfl
  · obtain ⟨n, rfl, k⟩ := h
    refine ⟨_, PSs.nox (pss_cons (ps_set (i := 0) scsource_of.nd rfl (Or.inl rfl) (pe_ifExp (pt_cmpR op_ge (pv 0) pe_int (nomark _)) (pv 0) (pe_op op_sub (pe_op op_sub pe_int (pe_op op_mul pe_int (pv 0))) pe_int)))
  (pss_one (ps_ret (pe_lst (pa_cons (pe_op op_mul (pv 0) (pe_callTy call_int1 (by rfl) T.b_int (by decide +kernel) (pa_cons (pe_cmpR op_ge (pv 0) (pe_op op_pow pe_int pe_int) (nomark _)) pa_nil))) (pa_cons (pe_op op_mod (pe_callTy call_int1 (by rfl) T.b_int (by decide +kernel) (pa_cons (pv 0) pa_nil)) pe_int) (pa_cons pe_int pa_nil))))))), ?_⟩
    show (_ : TS) _ [some (.int n)] H
    simp only [r_seq, r_next, r_brk, r_cont, r_asg, r_name, r_ret, r_retN, r_drop, r_ifs, r_never, r_var, r_c, r_op, r_un, r_if, r_tst, r_b, r_not, r_and, r_or, r_andV, r_orV, r_notV, r_nil, r_cons, r_tup, r_lst, r_cb, r_call, r_bm, r_bm0, r_sl, r_nopart, r_part, r_rev, r_gnil, r_gcons, r_gsub, r_par, r_aug, r_chain, r_I0, r_I, r_U, r_ixd, r_lend, r_tupd, r_listd, r_sld, r_app, r_ext, r_reverse, r_setl, r_cat, r_int1, r_eqS, r_neS, scal_ii, scal_bb, scal_ss, at0, at1, at2, sq_lst, sq_tup, isLst_lst, List.getElem?_cons_zero, List.getElem?_cons_succ, List.set_cons_zero, List.set_cons_succ, V.int.injEq, V.bl.injEq, V.ref.injEq, V.str.injEq, HO.lst.injEq, HO.tup.injEq, Option.some.injEq, exists_eq_left', exists_eq_left, List.cons.injEq, and_true, true_and, decide_eq_true_eq, reduceCtorEq, false_and, exists_false, or_false, false_or, exists_const, and_assoc, exists_and_left, List.append_nil, ix0, ix1, ix2, cm_mod, cdw1009, cdw2003, cdw7, cdw64, cdw2, cm104729, cm2, cm3, upd_same, List.length_cons, List.length_nil, Int.reduceLT, Int.reduceLE, Nat.reduceAdd, Nat.reduceLeDiff, Nat.reduceLT, Int.reduceToNat, r_for1, r_forL, r_forT, r_lcL, r_lc1, r_yes, r_gtupD, wipe_0, wipe_1, List.cons_append, List.nil_append, r_forS, r_ipI, ite_false, ite_true, Bool.not_true, Bool.not_false, decide_true, decide_false, r_isd, r_islt, cD_ty, cD_ref, tD_non, tD_bl, tD_int, tD_str, tD_ref, tH_lst, tH_tup, tH_dK, tH_ins, ki_self, ki_int_bool, ki_non_int, ki_str_int, ki_lt_lst, ki_lt_tup, r_fld, r_sfld, HO.ins.injEq, cx_K]
    have k' : ∀ x y z : Int, ∀ p, H p = none → Q (.ref p) (upd H p (.lst [.int x, .int y, .int z])) := fun x y z p hp =>
      k p _ hp (Same.new' (Same.refl H) hp) ⟨x, y, z, upd_same⟩
    have c1 : CPow 10 18 := ⟨by decide, by decide, by decide⟩
    have c2 : ∀ (i : Int) (c : Prop) [Decidable c], CMul i (if c then 1 else 0) := fun i c _ => .inr (by split <;> decide)
    have c3 : CMul 3 n := .inl (by decide)
    exact ite2 (fun _ => ⟨c1, c2 _ _, Nat.le_trans (by decide : 3 ≤ 1000) (by decide), k' _ _ _⟩) (fun _ => ⟨c1, c2 _ _, Nat.le_trans (by decide : 3 ≤ 1000) (by decide), k' _ _ _⟩)
theorem ok_next (T : Txt mg) (F : FnP K "_law_next" "_law_next" snext f fd) : FnOk P w K mg base CX0 1 f fd ["_law_source", "_law_many"] spNext := by
  refine F.ok scnext (fun vs H Q E h => ?_) (fun cdv A outer s H vs Q E hr h => ?_)
  · obtain ⟨a, m, rfl, _⟩ := h
    rfl
  · obtain ⟨a, m, rfl, ⟨x, y, z, hS⟩, m0, m1, k⟩ := h
    refine ⟨_, PSs.nox (pss_cons (ps_if (pt_cmpR op_gt (pe_ix ix_d (pv 0) pe_int (fun _ _ => rfl)) pe_int (nomark _))
    (pss_cons (ps_set (i := 2) scnext.nd rfl (Or.inl rfl) (pe_op op_mod (pe_callTy call_int1 (by rfl) T.b_int (by decide +kernel) (pa_cons (pe_ix ix_d (pv 0) pe_int (fun _ _ => rfl)) pa_nil)) (pv 1)))
  (pss_cons (ps_asg (pe_op op_fdivW (pe_ix ix_d (pv 0) pe_int (fun _ _ => rfl)) (pv 1)) (pg_sub (pv 0) pe_int set_list))
  (pss_one (ps_ret (pv 2)))))
    pss_nil)
  (pss_cons (ps_asg (pe_op op_add (pe_ix ix_d (pv 0) pe_int (fun _ _ => rfl)) pe_int) (pg_sub (pv 0) pe_int set_list))
  (pss_cons (ps_set (i := 3) scnext.nd rfl (Or.inl rfl) pe_int)
  (pss_cons (ps_set (i := 4) scnext.nd rfl (Or.inl rfl) (pe_op op_mod (pe_callTy call_int1 (by rfl) T.b_int (by decide +kernel) (pa_cons (pe_op op_add (pe_op op_add (pe_ix ix_d (pv 0) pe_int (fun _ _ => rfl)) (pe_op op_mul pe_int (pe_ix ix_d (pv 0) pe_int (fun _ _ => rfl)))) pe_int) pa_nil)) (pv 3)))
  (pss_cons (ps_set (i := 4) scnext.nd rfl (Or.inl rfl) (pe_op op_mod (pe_callTy call_int1 (by rfl) T.b_int (by decide +kernel) (pa_cons (pe_op op_mul (pv 4) pe_int) pa_nil)) (pv 3)))
  (pss_cons (ps_set (i := 4) scnext.nd rfl (Or.inl rfl) (pe_op op_mod (pe_callTy call_int1 (by rfl) T.b_int (by decide +kernel) (pa_cons (pe_op op_mul (pv 4) (pe_op op_add (pe_op op_fdivW (pv 4) pe_int) pe_int)) pa_nil)) (pv 3)))
  (pss_cons (ps_set (i := 4) scnext.nd rfl (Or.inl rfl) (pe_op op_mod (pe_callTy call_int1 (by rfl) T.b_int (by decide +kernel) (pa_cons (pe_op op_mul (pv 4) (pe_op op_add (pe_op op_fdivW (pv 4) pe_int) pe_int)) pa_nil)) pe_int))
  (pss_one (ps_ret (pe_op op_mod (pe_callTy call_int1 (by rfl) T.b_int (by decide +kernel) (pa_cons (pe_op op_fdivW (pv 4) pe_int) pa_nil)) (pv 1))))))))))), ?_⟩
    show (_ : TS) _ [some (.ref a), some (.int m), none, none, none] H
    have hC : ∀ i, CDivW i m := fun i => of_eq_true (cdw ⟨m0, m1⟩)
    have kk : ∀ (e : Int) (u v t : Int), Q (.int (e % m)) (upd H a (.lst [.int u, .int v, .int t])) := fun e u v t => k _ _ (Int.emod_nonneg _ (by omega)) (Int.emod_lt_of_pos _ m0) (Keep.upd (Keep.refl a H)) ⟨u, v, t, upd_same⟩
    simp only [r_seq, r_next, r_brk, r_cont, r_asg, r_name, r_ret, r_retN, r_drop, r_ifs, r_never, r_var, r_c, r_op, r_un, r_if, r_tst, r_b, r_not, r_and, r_or, r_andV, r_orV, r_notV, r_nil, r_cons, r_tup, r_lst, r_cb, r_call, r_bm, r_bm0, r_sl, r_nopart, r_part, r_rev, r_gnil, r_gcons, r_gsub, r_par, r_aug, r_chain, r_I0, r_I, r_U, r_ixd, r_lend, r_tupd, r_listd, r_sld, r_app, r_ext, r_reverse, r_setl, r_cat, r_int1, r_eqS, r_neS, scal_ii, scal_bb, scal_ss, at0, at1, at2, sq_lst, sq_tup, isLst_lst, List.getElem?_cons_zero, List.getElem?_cons_succ, List.set_cons_zero, List.set_cons_succ, V.int.injEq, V.bl.injEq, V.ref.injEq, V.str.injEq, HO.lst.injEq, HO.tup.injEq, Option.some.injEq, exists_eq_left', exists_eq_left, List.cons.injEq, and_true, true_and, decide_eq_true_eq, reduceCtorEq, false_and, exists_false, or_false, false_or, exists_const, and_assoc, exists_and_left, List.append_nil, ix0, ix1, ix2, cm_mod, cdw1009, cdw2003, cdw7, cdw64, cdw2, cm104729, cm2, cm3, upd_same, List.length_cons, List.length_nil, Int.reduceLT, Int.reduceLE, Nat.reduceAdd, Nat.reduceLeDiff, Nat.reduceLT, Int.reduceToNat, r_for1, r_forL, r_forT, r_lcL, r_lc1, r_yes, r_gtupD, wipe_0, wipe_1, List.cons_append, List.nil_append, r_forS, r_ipI, ite_false, ite_true, Bool.not_true, Bool.not_false, decide_true, decide_false, r_isd, r_islt, cD_ty, cD_ref, tD_non, tD_bl, tD_int, tD_str, tD_ref, tH_lst, tH_tup, tH_dK, tH_ins, ki_self, ki_int_bool, ki_non_int, ki_str_int, ki_lt_lst, ki_lt_tup, r_fld, r_sfld, HO.ins.injEq, cx_K, hS, m0, hC]
    exact ite2 (fun _ => kk _ _ _ _) (fun _ => kk _ _ _ _)
theorem ok_one (T : Txt mg) (F : FnP K "_law_one" "_law_one" sone f fd) (C_next : Cal P w K mg base 1 "_law_next" ["_law_source", "_law_many"] spNext) : FnOk P w K mg base CX0 2 f fd ["_law_source", "_law_some"] spOne := by
  refine F.ok scone (fun vs H Q E h => ?_) (fun cdv A outer s H vs Q E hr h => ?_)
  · obtain ⟨a, b, xs, rfl, _⟩ := h
    rfl
  · obtain ⟨a, b, xs, rfl, hS, hb, hx, h0, h1, k⟩ := h
    refine ⟨_, PSs.nox (pss_one (ps_ret (pe_ix ix_d (pv 1) (pe_cal C_next (hr.mono (by decide)) rfl (pa_cons (pv 0) (pa_cons (pe_callB call_len_d (by rfl) T.b_len (by decide +kernel) (pa_cons (pv 1) pa_nil)) pa_nil))) (fun _ _ => rfl)))), ?_⟩
    show (_ : TS) _ [some (.ref a), some (.ref b)] H
    simp only [r_seq, r_next, r_brk, r_cont, r_asg, r_name, r_ret, r_retN, r_drop, r_ifs, r_never, r_var, r_c, r_op, r_un, r_if, r_tst, r_b, r_not, r_and, r_or, r_andV, r_orV, r_notV, r_nil, r_cons, r_tup, r_lst, r_cb, r_call, r_bm, r_bm0, r_sl, r_nopart, r_part, r_rev, r_gnil, r_gcons, r_gsub, r_par, r_aug, r_chain, r_I0, r_I, r_U, r_ixd, r_lend, r_tupd, r_listd, r_sld, r_app, r_ext, r_reverse, r_setl, r_cat, r_int1, r_eqS, r_neS, scal_ii, scal_bb, scal_ss, at0, at1, at2, sq_lst, sq_tup, isLst_lst, List.getElem?_cons_zero, List.getElem?_cons_succ, List.set_cons_zero, List.set_cons_succ, V.int.injEq, V.bl.injEq, V.ref.injEq, V.str.injEq, HO.lst.injEq, HO.tup.injEq, Option.some.injEq, exists_eq_left', exists_eq_left, List.cons.injEq, and_true, true_and, decide_eq_true_eq, reduceCtorEq, false_and, exists_false, or_false, false_or, exists_const, and_assoc, exists_and_left, List.append_nil, ix0, ix1, ix2, cm_mod, cdw1009, cdw2003, cdw7, cdw64, cdw2, cm104729, cm2, cm3, upd_same, List.length_cons, List.length_nil, Int.reduceLT, Int.reduceLE, Nat.reduceAdd, Nat.reduceLeDiff, Nat.reduceLT, Int.reduceToNat, r_for1, r_forL, r_forT, r_lcL, r_lc1, r_yes, r_gtupD, wipe_0, wipe_1, List.cons_append, List.nil_append, r_forS, r_ipI, ite_false, ite_true, Bool.not_true, Bool.not_false, decide_true, decide_false, r_isd, r_islt, cD_ty, cD_ref, tD_non, tD_bl, tD_int, tD_str, tD_ref, tH_lst, tH_tup, tH_dK, tH_ins, ki_self, ki_int_bool, ki_non_int, ki_str_int, ki_lt_lst, ki_lt_tup, r_fld, r_sfld, HO.ins.injEq, cx_K, hx]
    have hl : 0 < xs.length := List.length_pos_iff.mpr h0
    refine ⟨a, _, rfl, hS, by omega, by omega, fun r H1 r0 r1 k1 s1 => ?_⟩
    have hx1 := k1 b _ hb hx
    obtain ⟨i, rfl⟩ : ∃ i : Nat, r = i := ⟨r.toNat, by omega⟩
    have hi : i < xs.length := by omega
    have e1 : atI xs (i : Int) = some xs[i] := atn (List.getElem?_eq_getElem hi)
    simp only [r_seq, r_next, r_brk, r_cont, r_asg, r_name, r_ret, r_retN, r_drop, r_ifs, r_never, r_var, r_c, r_op, r_un, r_if, r_tst, r_b, r_not, r_and, r_or, r_andV, r_orV, r_notV, r_nil, r_cons, r_tup, r_lst, r_cb, r_call, r_bm, r_bm0, r_sl, r_nopart, r_part, r_rev, r_gnil, r_gcons, r_gsub, r_par, r_aug, r_chain, r_I0, r_I, r_U, r_ixd, r_lend, r_tupd, r_listd, r_sld, r_app, r_ext, r_reverse, r_setl, r_cat, r_int1, r_eqS, r_neS, scal_ii, scal_bb, scal_ss, at0, at1, at2, sq_lst, sq_tup, isLst_lst, List.getElem?_cons_zero, List.getElem?_cons_succ, List.set_cons_zero, List.set_cons_succ, V.int.injEq, V.bl.injEq, V.ref.injEq, V.str.injEq, HO.lst.injEq, HO.tup.injEq, Option.some.injEq, exists_eq_left', exists_eq_left, List.cons.injEq, and_true, true_and, decide_eq_true_eq, reduceCtorEq, false_and, exists_false, or_false, false_or, exists_const, and_assoc, exists_and_left, List.append_nil, ix0, ix1, ix2, cm_mod, cdw1009, cdw2003, cdw7, cdw64, cdw2, cm104729, cm2, cm3, upd_same, List.length_cons, List.length_nil, Int.reduceLT, Int.reduceLE, Nat.reduceAdd, Nat.reduceLeDiff, Nat.reduceLT, Int.reduceToNat, r_for1, r_forL, r_forT, r_lcL, r_lc1, r_yes, r_gtupD, wipe_0, wipe_1, List.cons_append, List.nil_append, r_forS, r_ipI, ite_false, ite_true, Bool.not_true, Bool.not_false, decide_true, decide_false, r_isd, r_islt, cD_ty, cD_ref, tD_non, tD_bl, tD_int, tD_str, tD_ref, tH_lst, tH_tup, tH_dK, tH_ins, ki_self, ki_int_bool, ki_non_int, ki_str_int, ki_lt_lst, ki_lt_tup, r_fld, r_sfld, HO.ins.injEq, cx_K, hx1, e1]
    exact k _ _ (List.getElem_mem hi) k1 s1
end
end C47

set_option maxHeartbeats 1000000
namespace C47
open PySem PySem.Spec PyProof.Rows L2
/-! ### numbers in pieces of six bits -/
def rest (n : Nat) : List Nat := if h : n < 64 then [] else (n / 64 % 64) :: rest (n / 64)
termination_by n
decreasing_by omega
def low (n : Nat) : List Nat := (n % 64) :: rest n
theorem rest_lt {n : Nat} (h : n < 64) : rest n = [] := by
  rw [rest, dif_pos h]
theorem rest_ge {n : Nat} (h : ¬ n < 64) : rest n = low (n / 64) := by
  rw [rest, dif_neg h, low]
def vn (xs : List Nat) : List V := xs.map fun d : Nat => V.int (d : Int)
theorem vn_app {xs ys : List Nat} : vn (xs ++ ys) = vn xs ++ vn ys := by
  unfold vn
  rw [List.map_append]
theorem vn_len {xs : List Nat} : (vn xs).length = xs.length := by
  unfold vn
  rw [List.length_map]
theorem rest_len : ∀ (k n : Nat), n < 64 ^ (k + 1) → (rest n).length ≤ k
  | 0, n, h => by rw [rest_lt (by simpa using h)]; exact Nat.le_refl _
  | k + 1, n, h => by
    by_cases c : n < 64
    · rw [rest_lt c]
      exact Nat.zero_le _
    · rw [rest_ge c, low, List.length_cons]
      have := rest_len k (n / 64) (by rw [Nat.pow_succ] at h; omega)
      omega
def spPieces : Sp := fun vs H Q _ => ∃ n : Nat, vs = [.int (n : Int)] ∧ n < 64 ^ 60 ∧ ∀ p H', H p = none → Same H H' → H' p = some (.lst (vn (low n))) → Q (.ref p) H'
def lvPieces (H : Hp) (p : Addr) (n : Nat) (i : Nat) (σ : L2.St) (H' : Hp) : Prop := ∃ (m : Nat) (ds : List Nat) (v : Option V), σ = [some (.int (m : Int)), some (.ref p), v] ∧ Same H H' ∧ H' p = some (.lst (vn ds)) ∧ ds ++ rest m = low n ∧ m = n / 64 ^ i ∧ ds.length ≤ 1 + i
section
variable {P : Program} {w : World} {K : PySem.W.Frag} {mg : Str → Option Value} {base : Heap} {f : Addr} {fd : FuncData}
abbrev spieces : Stmt := top 34
theorem scpieces : FnScope ["_law_number_here", "_law_found", "_law_k"] ["_law_number_here"] (defScope spieces) := ⟨rfl, rfl, rfl, by decide +kernel, rfl, by decide +kernel, by decide +kernel⟩

abbrev smarked : Stmt := top 35
theorem scmarked : FnScope ["_law_some", "_law_piece"] ["_law_some"] (defScope smarked) := ⟨rfl, rfl, rfl, by decide +kernel, rfl, by decide +kernel, by decide +kernel⟩

theorem ok_pieces (T : Txt mg) (F : FnP K "_law_pieces" "_law_pieces" spieces f fd) : FnOk P w K mg base CX0 1 f fd ["_law_number_here"] spPieces := by
  refine F.ok scpieces (fun vs H Q E h => ?_) (fun cdv A outer s H vs Q E hr h => ?_)
  · obtain ⟨n, rfl, _⟩ := h
    rfl
  · obtain ⟨n, rfl, hn, k⟩ := h
    refine ⟨_, PSs.nox (pss_cons (ps_set (i := 1) scpieces.nd rfl (Or.inl rfl) (pe_lst (pa_cons (pe_op op_mod (pe_callTy call_int1 (by rfl) T.b_int (by decide +kernel) (pa_cons (pv 0) pa_nil)) pe_int) pa_nil)))
  (pss_cons (ps_for PassesOwn.never rfl (pi_range1 rfl T.b_range (pa_cons pe_int pa_nil)) (pg_name (i := 2) scpieces.nd rfl (Or.inl rfl))
    (pss_cons (ps_set (i := 0) scpieces.nd rfl (Or.inl rfl) (pe_op op_fdivW (pv 0) pe_int))
  (pss_one (ps_if (pt_cmpR op_gt (pv 0) pe_int (nomark _))
    (pss_one (ps_expr (pe_bm PySem.F.plainAttrs_list PySem.F.slot_list_append PySem.F.type_list_append mt_append (pv 1) (pa_cons (pe_op op_mod (pe_callTy call_int1 (by rfl) T.b_int (by decide +kernel) (pa_cons (pv 0) pa_nil)) pe_int) pa_nil))))
    pss_nil))))
  (pss_one (ps_ret (pv 1))))), ?_⟩
    show (_ : TS) _ [some (.int (n : Int)), none, none] H
    simp only [r_seq, r_next, r_brk, r_cont, r_asg, r_name, r_ret, r_retN, r_drop, r_ifs, r_never, r_var, r_c, r_op, r_un, r_if, r_tst, r_b, r_not, r_and, r_or, r_andV, r_orV, r_notV, r_nil, r_cons, r_tup, r_lst, r_cb, r_call, r_bm, r_bm0, r_sl, r_nopart, r_part, r_rev, r_gnil, r_gcons, r_gsub, r_par, r_aug, r_chain, r_I0, r_I, r_U, r_ixd, r_lend, r_tupd, r_listd, r_sld, r_app, r_ext, r_reverse, r_setl, r_cat, r_int1, r_eqS, r_neS, scal_ii, scal_bb, scal_ss, at0, at1, at2, sq_lst, sq_tup, isLst_lst, List.getElem?_cons_zero, List.getElem?_cons_succ, List.set_cons_zero, List.set_cons_succ, V.int.injEq, V.bl.injEq, V.ref.injEq, V.str.injEq, HO.lst.injEq, HO.tup.injEq, Option.some.injEq, exists_eq_left', exists_eq_left, List.cons.injEq, and_true, true_and, decide_eq_true_eq, reduceCtorEq, false_and, exists_false, or_false, false_or, exists_const, and_assoc, exists_and_left, List.append_nil, ix0, ix1, ix2, cm_mod, cdw1009, cdw2003, cdw7, cdw64, cdw2, cm104729, cm2, cm3, upd_same, List.length_cons, List.length_nil, Int.reduceLT, Int.reduceLE, Nat.reduceAdd, Nat.reduceLeDiff, Nat.reduceLT, Int.reduceToNat, r_for1, r_forL, r_forT, r_lcL, r_lc1, r_yes, r_gtupD, wipe_0, wipe_1, List.cons_append, List.nil_append, r_forS, r_ipI, ite_false, ite_true, Bool.not_true, Bool.not_false, decide_true, decide_false, r_isd, r_islt, cD_ty, cD_ref, tD_non, tD_bl, tD_int, tD_str, tD_ref, tH_lst, tH_tup, tH_dK, tH_ins, ki_self, ki_int_bool, ki_non_int, ki_str_int, ki_lt_lst, ki_lt_tup, r_fld, r_sfld, HO.ins.injEq, cx_K]
    refine ⟨by decide, fun p hp => ⟨by decide, by decide, lp_rng (n := 60) (lvPieces H p n)
      ⟨n, [n % 64], none, rfl, Same.new' (Same.refl H) hp, by rw [upd_same]; simp [vn], by rw [low]; rfl, by simp, by simp⟩ ?_ ?_⟩⟩
    · rintro i σ H1 hi ⟨m, ds, v, rfl, s1, h1, e1, em, hl⟩
      have hm : (0 : Int) < (m : Int) / 64 ↔ ¬ m < 64 := by omega
      have hd : ((m : Int) / 64 % 64) = ((m / 64 % 64 : Nat) : Int) := by omega
      have em' : m / 64 = n / 64 ^ (i + 1) := by rw [em, Nat.div_div_eq_div_mul, Nat.pow_succ]
      have pne : ∀ {b : Addr} {o : HO}, H b = some o → b ≠ p := fun e => ne_new e hp
      simp only [r_seq, r_next, r_brk, r_cont, r_asg, r_name, r_ret, r_retN, r_drop, r_ifs, r_never, r_var, r_c, r_op, r_un, r_if, r_tst, r_b, r_not, r_and, r_or, r_andV, r_orV, r_notV, r_nil, r_cons, r_tup, r_lst, r_cb, r_call, r_bm, r_bm0, r_sl, r_nopart, r_part, r_rev, r_gnil, r_gcons, r_gsub, r_par, r_aug, r_chain, r_I0, r_I, r_U, r_ixd, r_lend, r_tupd, r_listd, r_sld, r_app, r_ext, r_reverse, r_setl, r_cat, r_int1, r_eqS, r_neS, scal_ii, scal_bb, scal_ss, at0, at1, at2, sq_lst, sq_tup, isLst_lst, List.getElem?_cons_zero, List.getElem?_cons_succ, List.set_cons_zero, List.set_cons_succ, V.int.injEq, V.bl.injEq, V.ref.injEq, V.str.injEq, HO.lst.injEq, HO.tup.injEq, Option.some.injEq, exists_eq_left', exists_eq_left, List.cons.injEq, and_true, true_and, decide_eq_true_eq, reduceCtorEq, false_and, exists_false, or_false, false_or, exists_const, and_assoc, exists_and_left, List.append_nil, ix0, ix1, ix2, cm_mod, cdw1009, cdw2003, cdw7, cdw64, cdw2, cm104729, cm2, cm3, upd_same, List.length_cons, List.length_nil, Int.reduceLT, Int.reduceLE, Nat.reduceAdd, Nat.reduceLeDiff, Nat.reduceLT, Int.reduceToNat, r_for1, r_forL, r_forT, r_lcL, r_lc1, r_yes, r_gtupD, wipe_0, wipe_1, List.cons_append, List.nil_append, r_forS, r_ipI, ite_false, ite_true, Bool.not_true, Bool.not_false, decide_true, decide_false, r_isd, r_islt, cD_ty, cD_ref, tD_non, tD_bl, tD_int, tD_str, tD_ref, tH_lst, tH_tup, tH_dK, tH_ins, ki_self, ki_int_bool, ki_non_int, ki_str_int, ki_lt_lst, ki_lt_tup, r_fld, r_sfld, HO.ins.injEq, cx_K, h1, tyV_lst]
      refine ite2 (fun c => ⟨by rw [vn_len]; exact Nat.lt_of_le_of_lt (by omega : ds.length ≤ 100) (by decide), m / 64, ds ++ [m / 64 % 64], _, by rw [Int.natCast_ediv]; rfl, ?_, ?_, ?_, em', by simp; omega⟩) (fun c => ⟨m / 64, ds, _, by rw [Int.natCast_ediv]; rfl, s1, h1, ?_, em', by omega⟩)
      · exact fun b o e => by
          rw [upd_ne (pne e)]
          exact s1 b o e
      · rw [upd_same, vn_app, hd]
        rfl
      · rw [← e1, rest_ge (hm.mp c), low]
        simp
      · rw [← e1, rest_lt (n := m) (by omega), rest_lt (by omega)]
    · rintro σ H1 ⟨m, ds, v, rfl, s1, h1, e1, em, hl⟩
      simp only [r_seq, r_next, r_brk, r_cont, r_asg, r_name, r_ret, r_retN, r_drop, r_ifs, r_never, r_var, r_c, r_op, r_un, r_if, r_tst, r_b, r_not, r_and, r_or, r_andV, r_orV, r_notV, r_nil, r_cons, r_tup, r_lst, r_cb, r_call, r_bm, r_bm0, r_sl, r_nopart, r_part, r_rev, r_gnil, r_gcons, r_gsub, r_par, r_aug, r_chain, r_I0, r_I, r_U, r_ixd, r_lend, r_tupd, r_listd, r_sld, r_app, r_ext, r_reverse, r_setl, r_cat, r_int1, r_eqS, r_neS, scal_ii, scal_bb, scal_ss, at0, at1, at2, sq_lst, sq_tup, isLst_lst, List.getElem?_cons_zero, List.getElem?_cons_succ, List.set_cons_zero, List.set_cons_succ, V.int.injEq, V.bl.injEq, V.ref.injEq, V.str.injEq, HO.lst.injEq, HO.tup.injEq, Option.some.injEq, exists_eq_left', exists_eq_left, List.cons.injEq, and_true, true_and, decide_eq_true_eq, reduceCtorEq, false_and, exists_false, or_false, false_or, exists_const, and_assoc, exists_and_left, List.append_nil, ix0, ix1, ix2, cm_mod, cdw1009, cdw2003, cdw7, cdw64, cdw2, cm104729, cm2, cm3, upd_same, List.length_cons, List.length_nil, Int.reduceLT, Int.reduceLE, Nat.reduceAdd, Nat.reduceLeDiff, Nat.reduceLT, Int.reduceToNat, r_for1, r_forL, r_forT, r_lcL, r_lc1, r_yes, r_gtupD, wipe_0, wipe_1, List.cons_append, List.nil_append, r_forS, r_ipI, ite_false, ite_true, Bool.not_true, Bool.not_false, decide_true, decide_false, r_isd, r_islt, cD_ty, cD_ref, tD_non, tD_bl, tD_int, tD_str, tD_ref, tH_lst, tH_tup, tH_dK, tH_ins, ki_self, ki_int_bool, ki_non_int, ki_str_int, ki_lt_lst, ki_lt_tup, r_fld, r_sfld, HO.ins.injEq, cx_K]
      have : m < 64 := by rw [em]; exact Nat.lt_of_lt_of_le (Nat.div_lt_of_lt_mul (by rw [Nat.mul_one]; exact hn)) (by decide : 1 ≤ 64)
      rw [rest_lt this, List.append_nil] at e1
      exact k p _ hp s1 (by rw [h1, e1])
end
end C47

set_option maxHeartbeats 1000000
namespace C47
open PySem PySem.Spec PyProof.Rows L2
def up (ds : List Nat) : List Nat := ds.map (· + 64)
theorem up_app {xs ys : List Nat} : up (xs ++ ys) = up xs ++ up ys := by
  unfold up
  rw [List.map_append]
/-- a number's pieces, the highest first, marked -/
def mk (n : Nat) : List Nat := up (rest n).reverse ++ [n % 64]
def spMarked : Sp := fun vs H Q _ => ∃ (a : Addr) (ds : List Nat) (d : Nat), vs = [.ref a] ∧ H a = some (.lst (vn (ds ++ [d]))) ∧ ds.length ≤ 100 ∧ ∀ p H', H p = none → Same H H' → H' p = some (.lst (vn (up ds ++ [d]))) → Q (.ref p) H'
def lvMarked (H : Hp) (p D : Addr) (ds : List Nat) (i : Nat) (H' : Hp) : Prop := Same H H' ∧ H' p = some (.lst (vn ds)) ∧ H' D = some (.lst (vn (up (ds.take i))))
section
variable {P : Program} {w : World} {K : PySem.W.Frag} {mg : Str → Option Value} {base : Heap} {f : Addr} {fd : FuncData}
theorem ok_marked (T : Txt mg) (F : FnP K "_law_marked" "_law_marked" smarked f fd) : FnOk P w K mg base CX0 1 f fd ["_law_some"] spMarked := by
  refine F.ok scmarked (fun vs H Q E h => ?_) (fun cdv A outer s H vs Q E hr h => ?_)
  · obtain ⟨a, ds, d, rfl, _⟩ := h
    rfl
  · obtain ⟨a, ds, d, rfl, ha, hl, k⟩ := h
    refine ⟨_, PSs.nox (pss_one (ps_ret (pe_op op_cat (pe_lc (own := [("_law_piece", 1)]) (g := gName 1) (tt := tYes) rfl scmarked.nd (pi_list (pe_slice sl_d (pv 0) po_none (po_some (pe_un un_neg pe_int)))) (blkOk_by (own := [("_law_piece", 1)]) (N := ["_law_some", "_law_piece"]) (sc := defScope smarked) (by decide +kernel)) (fun _ _ _ _ _ => (pg_name (i := 1) scmarked.nd rfl (Or.inl rfl))) (fun _ _ _ _ _ => pts_nil) (fun _ _ _ _ _ => (pe_op op_add (pv 1) pe_int))) (pe_slice sl_d (pv 0) (po_some (pe_un un_neg pe_int)) po_none)))), ?_⟩
    show (_ : TS) _ [some (.ref a), none] H
    have hv : vn (ds ++ [d]) = vn ds ++ [.int (d : Int)] := by rw [vn_app]; rfl
    simp only [r_seq, r_next, r_brk, r_cont, r_asg, r_name, r_ret, r_retN, r_drop, r_ifs, r_never, r_var, r_c, r_op, r_un, r_if, r_tst, r_b, r_not, r_and, r_or, r_andV, r_orV, r_notV, r_nil, r_cons, r_tup, r_lst, r_cb, r_call, r_bm, r_bm0, r_sl, r_nopart, r_part, r_rev, r_gnil, r_gcons, r_gsub, r_par, r_aug, r_chain, r_I0, r_I, r_U, r_ixd, r_lend, r_tupd, r_listd, r_sld, r_app, r_ext, r_reverse, r_setl, r_cat, r_int1, r_eqS, r_neS, scal_ii, scal_bb, scal_ss, at0, at1, at2, sq_lst, sq_tup, isLst_lst, List.getElem?_cons_zero, List.getElem?_cons_succ, List.set_cons_zero, List.set_cons_succ, V.int.injEq, V.bl.injEq, V.ref.injEq, V.str.injEq, HO.lst.injEq, HO.tup.injEq, Option.some.injEq, exists_eq_left', exists_eq_left, List.cons.injEq, and_true, true_and, decide_eq_true_eq, reduceCtorEq, false_and, exists_false, or_false, false_or, exists_const, and_assoc, exists_and_left, List.append_nil, ix0, ix1, ix2, cm_mod, cdw1009, cdw2003, cdw7, cdw64, cdw2, cm104729, cm2, cm3, upd_same, List.length_cons, List.length_nil, Int.reduceLT, Int.reduceLE, Nat.reduceAdd, Nat.reduceLeDiff, Nat.reduceLT, Int.reduceToNat, r_for1, r_forL, r_forT, r_lcL, r_lc1, r_yes, r_gtupD, wipe_0, wipe_1, List.cons_append, List.nil_append, r_forS, r_ipI, ite_false, ite_true, Bool.not_true, Bool.not_false, decide_true, decide_false, r_isd, r_islt, cD_ty, cD_ref, tD_non, tD_bl, tD_int, tD_str, tD_ref, tH_lst, tH_tup, tH_dK, tH_ins, ki_self, ki_int_bool, ki_non_int, ki_str_int, ki_lt_lst, ki_lt_tup, r_fld, r_sfld, HO.ins.injEq, cx_K, ha, hv, cut_init]
    intro p hp
    have ap : a ≠ p := ne_new ha hp
    refine ⟨⟨_, SqL.of upd_same⟩, fun D hD => ?_⟩
    have Dp : D ≠ p := fun e => by
      rw [e, upd_same] at hD
      cases hD
    have HD : H D = none := by
      rw [upd_ne Dp] at hD
      exact hD
    have aD : a ≠ D := ne_new ha HD
    refine cp_list (xs := vn ds) (lvMarked H p D ds) ⟨Same.new' (Same.new' (Same.refl H) hp) hD, by rw [upd_ne Dp.symm, upd_same], by rw [upd_same]; rfl⟩ (fun i H' _ ⟨_, h, _⟩ => SqL.of h) ?_ ?_
    · rintro i x H1 hx ⟨s1, h1, h2⟩
      have hi : i < ds.length := by
        have := (List.getElem?_eq_some_iff.mp hx).1
        rwa [vn_len] at this
      obtain rfl : x = .int ((ds[i] : Nat) : Int) := by
        unfold vn at hx
        rw [List.getElem?_map, List.getElem?_eq_getElem hi] at hx
        exact (Option.some.inj hx).symm
      have e64 : ((ds[i] : Nat) : Int) + 64 = ((ds[i] + 64 : Nat) : Int) := by omega
      simp only [r_seq, r_next, r_brk, r_cont, r_asg, r_name, r_ret, r_retN, r_drop, r_ifs, r_never, r_var, r_c, r_op, r_un, r_if, r_tst, r_b, r_not, r_and, r_or, r_andV, r_orV, r_notV, r_nil, r_cons, r_tup, r_lst, r_cb, r_call, r_bm, r_bm0, r_sl, r_nopart, r_part, r_rev, r_gnil, r_gcons, r_gsub, r_par, r_aug, r_chain, r_I0, r_I, r_U, r_ixd, r_lend, r_tupd, r_listd, r_sld, r_app, r_ext, r_reverse, r_setl, r_cat, r_int1, r_eqS, r_neS, scal_ii, scal_bb, scal_ss, at0, at1, at2, sq_lst, sq_tup, isLst_lst, List.getElem?_cons_zero, List.getElem?_cons_succ, List.set_cons_zero, List.set_cons_succ, V.int.injEq, V.bl.injEq, V.ref.injEq, V.str.injEq, HO.lst.injEq, HO.tup.injEq, Option.some.injEq, exists_eq_left', exists_eq_left, List.cons.injEq, and_true, true_and, decide_eq_true_eq, reduceCtorEq, false_and, exists_false, or_false, false_or, exists_const, and_assoc, exists_and_left, List.append_nil, ix0, ix1, ix2, cm_mod, cdw1009, cdw2003, cdw7, cdw64, cdw2, cm104729, cm2, cm3, upd_same, List.length_cons, List.length_nil, Int.reduceLT, Int.reduceLE, Nat.reduceAdd, Nat.reduceLeDiff, Nat.reduceLT, Int.reduceToNat, r_for1, r_forL, r_forT, r_lcL, r_lc1, r_yes, r_gtupD, wipe_0, wipe_1, List.cons_append, List.nil_append, r_forS, r_ipI, ite_false, ite_true, Bool.not_true, Bool.not_false, decide_true, decide_false, r_isd, r_islt, cD_ty, cD_ref, tD_non, tD_bl, tD_int, tD_str, tD_ref, tH_lst, tH_tup, tH_dK, tH_ins, ki_self, ki_int_bool, ki_non_int, ki_str_int, ki_lt_lst, ki_lt_tup, r_fld, r_sfld, HO.ins.injEq, cx_K, h2, e64, List.map_cons, List.map_nil]
      refine ⟨by rw [vn_len]; exact Nat.lt_of_le_of_lt (by simp [up]; omega : _ ≤ 100) (by decide), fun b o e => ?_, ?_, ?_⟩
      · rw [upd_ne (ne_new e HD)]
        exact s1 b o e
      · rw [upd_ne Dp.symm]
        exact h1
      · rw [upd_same, List.take_succ_eq_append_getElem hi, up_app, vn_app]
        rfl
    · rintro H1 ⟨s1, h1, h2⟩
      rw [vn_len, List.take_length] at h2
      have ha1 := s1 a _ ha
      simp only [r_seq, r_next, r_brk, r_cont, r_asg, r_name, r_ret, r_retN, r_drop, r_ifs, r_never, r_var, r_c, r_op, r_un, r_if, r_tst, r_b, r_not, r_and, r_or, r_andV, r_orV, r_notV, r_nil, r_cons, r_tup, r_lst, r_cb, r_call, r_bm, r_bm0, r_sl, r_nopart, r_part, r_rev, r_gnil, r_gcons, r_gsub, r_par, r_aug, r_chain, r_I0, r_I, r_U, r_ixd, r_lend, r_tupd, r_listd, r_sld, r_app, r_ext, r_reverse, r_setl, r_cat, r_int1, r_eqS, r_neS, scal_ii, scal_bb, scal_ss, at0, at1, at2, sq_lst, sq_tup, isLst_lst, List.getElem?_cons_zero, List.getElem?_cons_succ, List.set_cons_zero, List.set_cons_succ, V.int.injEq, V.bl.injEq, V.ref.injEq, V.str.injEq, HO.lst.injEq, HO.tup.injEq, Option.some.injEq, exists_eq_left', exists_eq_left, List.cons.injEq, and_true, true_and, decide_eq_true_eq, reduceCtorEq, false_and, exists_false, or_false, false_or, exists_const, and_assoc, exists_and_left, List.append_nil, ix0, ix1, ix2, cm_mod, cdw1009, cdw2003, cdw7, cdw64, cdw2, cm104729, cm2, cm3, upd_same, List.length_cons, List.length_nil, Int.reduceLT, Int.reduceLE, Nat.reduceAdd, Nat.reduceLeDiff, Nat.reduceLT, Int.reduceToNat, r_for1, r_forL, r_forT, r_lcL, r_lc1, r_yes, r_gtupD, wipe_0, wipe_1, List.cons_append, List.nil_append, r_forS, r_ipI, ite_false, ite_true, Bool.not_true, Bool.not_false, decide_true, decide_false, r_isd, r_islt, cD_ty, cD_ref, tD_non, tD_bl, tD_int, tD_str, tD_ref, tH_lst, tH_tup, tH_dK, tH_ins, ki_self, ki_int_bool, ki_non_int, ki_str_int, ki_lt_lst, ki_lt_tup, r_fld, r_sfld, HO.ins.injEq, cx_K, ha1, h2, hv, cut_last]
      intro p2 hp2
      have Dp2 : D ≠ p2 := ne_new h2 hp2
      simp only [r_seq, r_next, r_brk, r_cont, r_asg, r_name, r_ret, r_retN, r_drop, r_ifs, r_never, r_var, r_c, r_op, r_un, r_if, r_tst, r_b, r_not, r_and, r_or, r_andV, r_orV, r_notV, r_nil, r_cons, r_tup, r_lst, r_cb, r_call, r_bm, r_bm0, r_sl, r_nopart, r_part, r_rev, r_gnil, r_gcons, r_gsub, r_par, r_aug, r_chain, r_I0, r_I, r_U, r_ixd, r_lend, r_tupd, r_listd, r_sld, r_app, r_ext, r_reverse, r_setl, r_cat, r_int1, r_eqS, r_neS, scal_ii, scal_bb, scal_ss, at0, at1, at2, sq_lst, sq_tup, isLst_lst, List.getElem?_cons_zero, List.getElem?_cons_succ, List.set_cons_zero, List.set_cons_succ, V.int.injEq, V.bl.injEq, V.ref.injEq, V.str.injEq, HO.lst.injEq, HO.tup.injEq, Option.some.injEq, exists_eq_left', exists_eq_left, List.cons.injEq, and_true, true_and, decide_eq_true_eq, reduceCtorEq, false_and, exists_false, or_false, false_or, exists_const, and_assoc, exists_and_left, List.append_nil, ix0, ix1, ix2, cm_mod, cdw1009, cdw2003, cdw7, cdw64, cdw2, cm104729, cm2, cm3, upd_same, List.length_cons, List.length_nil, Int.reduceLT, Int.reduceLE, Nat.reduceAdd, Nat.reduceLeDiff, Nat.reduceLT, Int.reduceToNat, r_for1, r_forL, r_forT, r_lcL, r_lc1, r_yes, r_gtupD, wipe_0, wipe_1, List.cons_append, List.nil_append, r_forS, r_ipI, ite_false, ite_true, Bool.not_true, Bool.not_false, decide_true, decide_false, r_isd, r_islt, cD_ty, cD_ref, tD_non, tD_bl, tD_int, tD_str, tD_ref, tH_lst, tH_tup, tH_dK, tH_ins, ki_self, ki_int_bool, ki_non_int, ki_str_int, ki_lt_lst, ki_lt_tup, r_fld, r_sfld, HO.ins.injEq, cx_K, une Dp2, h2]
      refine ⟨by rw [vn_len]; exact Nat.le_trans (by simp [up]; omega : _ ≤ 1000) (by decide), fun p3 hp3 => ?_⟩
      have s2 : Same H (upd (upd H1 p2 (.lst [.int (d : Int)])) p3 (.lst (vn (up ds) ++ [.int (d : Int)]))) := Same.new' (Same.new' s1 hp2) hp3
      refine k p3 _ ?_ s2 (by rw [upd_same, vn_app]; rfl)
      exact (Same.new' s1 hp2).free hp3
end
end C47

set_option maxHeartbeats 1000000
namespace C47
open PySem PySem.Spec PyProof.Rows L2
/-! ### rows of a table of handlers -/
structure Row where
  b : Nat
  s : Nat
  t : Nat
  d : Nat
  w : Bool
def rv (R : Row) : List V := [.int ((2 * R.b : Nat) : Int), .int ((2 * (R.b + R.s) : Nat) : Int), .int ((2 * R.t : Nat) : Int), .int (R.d : Int), .bl R.w]
def RowOk (R : Row) : Prop := R.b < 2 ^ 60 ∧ 1 ≤ R.s ∧ R.s < 2 ^ 60 ∧ R.t < 2 ^ 60 ∧ R.d < 2 ^ 59
def mk1 (n : Nat) : List Nat := match mk n with
  | [] => []
  | x :: xs => (x + 128) :: xs
def rb (R : Row) : List Nat := mk1 R.b ++ (mk R.s ++ (mk R.t ++ mk (2 * R.d + R.w.toNat)))
theorem mk_cons (n : Nat) : ∃ x xs, mk n = x :: xs := by
  cases e : mk n with
  | nil =>
    have := congrArg List.length e
    simp [mk] at this
  | cons x xs => exact ⟨x, xs, rfl⟩
theorem mk_len {n : Nat} (h : n < 64 ^ 60) : (mk n).length ≤ 61 := by
  have := rest_len 59 n h
  simp [mk, up]
  omega
def spRowBytes : Sp := fun vs H Q _ => ∃ (r : Addr) (R : Row), vs = [.ref r] ∧ H r = some (.tup (rv R)) ∧ RowOk R ∧ ∀ p H', H p = none → Same H H' → H' p = some (.lst (vn (rb R))) → Q (.ref p) H'
def spNumber : Sp := fun vs H Q _ => ∃ a : Addr, vs = [.ref a] ∧ Src H a ∧ ∀ (r : Nat) H', r < 2 ^ 40 → Keep a H H' → Src H' a → Q (.int (r : Int)) H'
/-- marked(pieces(n)[::-1]) -/
theorem mkcall {H : Hp} {n : Nat} {Q : VK} {E E' : XK} (hn : n < 64 ^ 60) (k : ∀ p H', H p = none → Same H H' → H' p = some (.lst (vn (mk n))) → Q (.ref p) H') :
    spPieces [.int (n : Int)] H (fun x H1 => ∃ a, x = .ref a ∧ ∃ xs, H1 a = some (.lst xs) ∧ ∀ p, H1 p = none → spMarked [.ref p] (upd H1 p (.lst xs.reverse)) Q E') E := by
  refine ⟨n, rfl, hn, fun p H1 hp s1 h1 => ⟨p, rfl, _, h1, fun q hq => ⟨q, (rest n).reverse, n % 64, rfl, ?_, ?_, fun p2 H2 hp2 s2 h2 => k p2 H2 ?_ ?_ h2⟩⟩⟩
  · rw [upd_same]
    simp [vn, low]
  · have := rest_len 59 n hn
    rw [List.length_reverse]
    omega
  · exact (Same.new' s1 hq).free hp2
  · exact (Same.new' s1 hq).trans s2
section
variable {P : Program} {w : World} {K : PySem.W.Frag} {mg : Str → Option Value} {base : Heap} {f : Addr} {fd : FuncData}
abbrev srow_bytes : Stmt := top 37
theorem scrow_bytes : FnScope ["_law_row", "_law_low", "_law_high", "_law_target", "_law_depth", "_law_is_wanted", "_law_found", "_law_number_here"] ["_law_row"] (defScope srow_bytes) := ⟨rfl, rfl, rfl, by decide +kernel, rfl, by decide +kernel, by decide +kernel⟩

abbrev snumber : Stmt := top 39
theorem scnumber : FnScope ["_law_source", "_law_near"] ["_law_source"] (defScope snumber) := ⟨rfl, rfl, rfl, by decide +kernel, rfl, by decide +kernel, by decide +kernel⟩

abbrev sdrawn_rows : Stmt := top 40
theorem scdrawn_rows : FnScope ["_law_source", "_law_found", "_law_at", "_law_k", "_law_low"] ["_law_source"] (defScope sdrawn_rows) := ⟨rfl, rfl, rfl, by decide +kernel, rfl, by decide +kernel, by decide +kernel⟩

theorem ok_row_bytes (T : Txt mg) (F : FnP K "_law_row_bytes" "_law_row_bytes" srow_bytes f fd) (C_pieces : Cal P w K mg base 1 "_law_pieces" ["_law_number_here"] spPieces) (C_marked : Cal P w K mg base 1 "_law_marked" ["_law_some"] spMarked) : FnOk P w K mg base CX0 2 f fd ["_law_row"] spRowBytes := by
  refine F.ok scrow_bytes (fun vs H Q E h => ?_) (fun cdv A outer s H vs Q E hr h => ?_)
  · obtain ⟨r, R, rfl, _⟩ := h
    rfl
  · obtain ⟨r, R, rfl, hR, ok, k⟩ := h
    refine ⟨_, PSs.nox (pss_cons (ps_asg (pv 0) (pg_tupD (n := 5) rfl (pgs_cons (pg_name (i := 1) scrow_bytes.nd rfl (Or.inl rfl)) (pgs_cons (pg_name (i := 2) scrow_bytes.nd rfl (Or.inl rfl)) (pgs_cons (pg_name (i := 3) scrow_bytes.nd rfl (Or.inl rfl)) (pgs_cons (pg_name (i := 4) scrow_bytes.nd rfl (Or.inl rfl)) (pgs_cons (pg_name (i := 5) scrow_bytes.nd rfl (Or.inl rfl)) pgs_nil)))))))
  (pss_cons (ps_set (i := 6) scrow_bytes.nd rfl (Or.inl rfl) (pe_cal C_marked (hr.mono (by decide)) rfl (pa_cons (pe_revD (pe_cal C_pieces (hr.mono (by decide)) rfl (pa_cons (pe_op op_fdivW (pv 1) pe_int) pa_nil))) pa_nil)))
  (pss_cons (ps_asg (pe_op op_add (pe_ix ix_d (pv 6) pe_int (fun _ _ => rfl)) pe_int) (pg_sub (pv 6) pe_int set_list))
  (pss_cons (ps_for PassesOwn.never rfl (pi_tup (pe_tup (pa_cons (pe_op op_fdivW (pe_op op_sub (pv 2) (pv 1)) pe_int) (pa_cons (pe_op op_fdivW (pv 3) pe_int) (pa_cons (pe_op op_add (pe_op op_mul pe_int (pv 4)) (pe_callTy call_int1 (by rfl) T.b_int (by decide +kernel) (pa_cons (pv 5) pa_nil))) pa_nil))))) (pg_name (i := 7) scrow_bytes.nd rfl (Or.inl rfl))
    (pss_one (ps_expr (pe_bm PySem.F.plainAttrs_list PySem.F.slot_list_extend PySem.F.type_list_extend mt_extend (pv 6) (pa_cons (pe_cal C_marked (hr.mono (by decide)) rfl (pa_cons (pe_revD (pe_cal C_pieces (hr.mono (by decide)) rfl (pa_cons (pv 7) pa_nil))) pa_nil)) pa_nil)))))
  (pss_one (ps_ret (pv 6))))))), ?_⟩
    show (_ : TS) _ [some (.ref r), none, none, none, none, none, none, none] H
    have e1 : ((2 * R.b : Nat) : Int) / 2 = (R.b : Int) := by omega
    simp only [r_seq, r_next, r_brk, r_cont, r_asg, r_name, r_ret, r_retN, r_drop, r_ifs, r_never, r_var, r_c, r_op, r_un, r_if, r_tst, r_b, r_not, r_and, r_or, r_andV, r_orV, r_notV, r_nil, r_cons, r_tup, r_lst, r_cb, r_call, r_bm, r_bm0, r_sl, r_nopart, r_part, r_rev, r_gnil, r_gcons, r_gsub, r_par, r_aug, r_chain, r_I0, r_I, r_U, r_ixd, r_lend, r_tupd, r_listd, r_sld, r_app, r_ext, r_reverse, r_setl, r_cat, r_int1, r_eqS, r_neS, scal_ii, scal_bb, scal_ss, at0, at1, at2, sq_lst, sq_tup, isLst_lst, List.getElem?_cons_zero, List.getElem?_cons_succ, List.set_cons_zero, List.set_cons_succ, V.int.injEq, V.bl.injEq, V.ref.injEq, V.str.injEq, HO.lst.injEq, HO.tup.injEq, Option.some.injEq, exists_eq_left', exists_eq_left, List.cons.injEq, and_true, true_and, decide_eq_true_eq, reduceCtorEq, false_and, exists_false, or_false, false_or, exists_const, and_assoc, exists_and_left, List.append_nil, ix0, ix1, ix2, cm_mod, cdw1009, cdw2003, cdw7, cdw64, cdw2, cm104729, cm2, cm3, upd_same, List.length_cons, List.length_nil, Int.reduceLT, Int.reduceLE, Nat.reduceAdd, Nat.reduceLeDiff, Nat.reduceLT, Int.reduceToNat, r_for1, r_forL, r_forT, r_lcL, r_lc1, r_yes, r_gtupD, wipe_0, wipe_1, List.cons_append, List.nil_append, r_forS, r_ipI, ite_false, ite_true, Bool.not_true, Bool.not_false, decide_true, decide_false, r_isd, r_islt, cD_ty, cD_ref, tD_non, tD_bl, tD_int, tD_str, tD_ref, tH_lst, tH_tup, tH_dK, tH_ins, ki_self, ki_int_bool, ki_non_int, ki_str_int, ki_lt_lst, ki_lt_tup, r_fld, r_sfld, HO.ins.injEq, cx_K, hR, rv, e1]
    obtain ⟨b0, b1, b2, b3, b4⟩ := ok
    refine mkcall (Nat.lt_trans b0 (by decide)) fun p H1 hp s1 h1 => ?_
    obtain ⟨x, xs, hx⟩ := mk_cons R.b
    have hvx : vn (mk R.b) = .int (x : Int) :: vn xs := by rw [hx]; rfl
    rw [hvx] at h1
    have l0 : xs.length ≤ 60 := by
      have := mk_len (n := R.b) (Nat.lt_trans b0 (by decide))
      rw [hx, List.length_cons] at this
      omega
    have hs : ((2 * (R.b + R.s) : Nat) : Int) - ((2 * R.b : Nat) : Int) = ((2 * R.s : Nat) : Int) := by omega
    have hs2 : ((2 * R.s : Nat) : Int) / 2 = (R.s : Int) := by omega
    have ht2 : ((2 * R.t : Nat) : Int) / 2 = (R.t : Int) := by omega
    have hw : 2 * (R.d : Int) + (if R.w = true then 1 else 0) = ((2 * R.d + R.w.toNat : Nat) : Int) := by cases R.w <;> simp
    simp only [r_seq, r_next, r_brk, r_cont, r_asg, r_name, r_ret, r_retN, r_drop, r_ifs, r_never, r_var, r_c, r_op, r_un, r_if, r_tst, r_b, r_not, r_and, r_or, r_andV, r_orV, r_notV, r_nil, r_cons, r_tup, r_lst, r_cb, r_call, r_bm, r_bm0, r_sl, r_nopart, r_part, r_rev, r_gnil, r_gcons, r_gsub, r_par, r_aug, r_chain, r_I0, r_I, r_U, r_ixd, r_lend, r_tupd, r_listd, r_sld, r_app, r_ext, r_reverse, r_setl, r_cat, r_int1, r_eqS, r_neS, scal_ii, scal_bb, scal_ss, at0, at1, at2, sq_lst, sq_tup, isLst_lst, List.getElem?_cons_zero, List.getElem?_cons_succ, List.set_cons_zero, List.set_cons_succ, V.int.injEq, V.bl.injEq, V.ref.injEq, V.str.injEq, HO.lst.injEq, HO.tup.injEq, Option.some.injEq, exists_eq_left', exists_eq_left, List.cons.injEq, and_true, true_and, decide_eq_true_eq, reduceCtorEq, false_and, exists_false, or_false, false_or, exists_const, and_assoc, exists_and_left, List.append_nil, ix0, ix1, ix2, cm_mod, cdw1009, cdw2003, cdw7, cdw64, cdw2, cm104729, cm2, cm3, upd_same, List.length_cons, List.length_nil, Int.reduceLT, Int.reduceLE, Nat.reduceAdd, Nat.reduceLeDiff, Nat.reduceLT, Int.reduceToNat, r_for1, r_forL, r_forT, r_lcL, r_lc1, r_yes, r_gtupD, wipe_0, wipe_1, List.cons_append, List.nil_append, r_forS, r_ipI, ite_false, ite_true, Bool.not_true, Bool.not_false, decide_true, decide_false, r_isd, r_islt, cD_ty, cD_ref, tD_non, tD_bl, tD_int, tD_str, tD_ref, tH_lst, tH_tup, tH_dK, tH_ins, ki_self, ki_int_bool, ki_non_int, ki_str_int, ki_lt_lst, ki_lt_tup, r_fld, r_sfld, HO.ins.injEq, cx_K, h1, hs, hs2, ht2, hw]
    refine ⟨Nat.le_trans (by decide : 3 ≤ 1000) (by decide), fun q hq => ⟨⟨_, SqT.of upd_same⟩, ?_⟩⟩
    have hq1 : H1 q = none ∧ q ≠ p := by
      have c : q ≠ p := fun e => by
        rw [e, upd_same] at hq
        cases hq
      rw [upd_ne c] at hq
      exact ⟨hq, c⟩
    have m1 : R.w.toNat ≤ 1 := by cases R.w <;> decide
    refine lp_unrT upd_same ?_
    have hF : ∀ {Ha : Hp}, Same H1 Ha → Same H Ha := fun s => s1.trans s
    simp only [unr_cons, unr_nil]
    simp only [r_seq, r_next, r_brk, r_cont, r_asg, r_name, r_ret, r_retN, r_drop, r_ifs, r_never, r_var, r_c, r_op, r_un, r_if, r_tst, r_b, r_not, r_and, r_or, r_andV, r_orV, r_notV, r_nil, r_cons, r_tup, r_lst, r_cb, r_call, r_bm, r_bm0, r_sl, r_nopart, r_part, r_rev, r_gnil, r_gcons, r_gsub, r_par, r_aug, r_chain, r_I0, r_I, r_U, r_ixd, r_lend, r_tupd, r_listd, r_sld, r_app, r_ext, r_reverse, r_setl, r_cat, r_int1, r_eqS, r_neS, scal_ii, scal_bb, scal_ss, at0, at1, at2, sq_lst, sq_tup, isLst_lst, List.getElem?_cons_zero, List.getElem?_cons_succ, List.set_cons_zero, List.set_cons_succ, V.int.injEq, V.bl.injEq, V.ref.injEq, V.str.injEq, HO.lst.injEq, HO.tup.injEq, Option.some.injEq, exists_eq_left', exists_eq_left, List.cons.injEq, and_true, true_and, decide_eq_true_eq, reduceCtorEq, false_and, exists_false, or_false, false_or, exists_const, and_assoc, exists_and_left, List.append_nil, ix0, ix1, ix2, cm_mod, cdw1009, cdw2003, cdw7, cdw64, cdw2, cm104729, cm2, cm3, upd_same, List.length_cons, List.length_nil, Int.reduceLT, Int.reduceLE, Nat.reduceAdd, Nat.reduceLeDiff, Nat.reduceLT, Int.reduceToNat, r_for1, r_forL, r_forT, r_lcL, r_lc1, r_yes, r_gtupD, wipe_0, wipe_1, List.cons_append, List.nil_append, r_forS, r_ipI, ite_false, ite_true, Bool.not_true, Bool.not_false, decide_true, decide_false, r_isd, r_islt, cD_ty, cD_ref, tD_non, tD_bl, tD_int, tD_str, tD_ref, tH_lst, tH_tup, tH_dK, tH_ins, ki_self, ki_int_bool, ki_non_int, ki_str_int, ki_lt_lst, ki_lt_tup, r_fld, r_sfld, HO.ins.injEq, cx_K, tyV_lst, une hq1.2.symm]
    have qp := hq1.2
    have pH : ∀ {b : Addr} {o : HO}, H b = some o → b ≠ p := fun e => ne_new e hp
    have g0p : upd (upd H1 p (.lst (.int ((x : Int) + 128) :: vn xs))) q (.tup [.int (R.s : Int), .int (R.t : Int), .int ((2 * R.d + R.w.toNat : Nat) : Int)]) p = some (.lst (.int ((x : Int) + 128) :: vn xs)) := by rw [upd_ne qp.symm, upd_same]
    have ks : Same H (upd (upd H1 p (.lst (.int ((x : Int) + 128) :: vn xs))) q (.tup [.int (R.s : Int), .int (R.t : Int), .int ((2 * R.d + R.w.toNat : Nat) : Int)])) := fun b o e => by
      rw [upd_ne (ne_new (s1 b o e) hq1.1), upd_ne (pH e)]
      exact s1 b o e
    have ku : ∀ {Ha : Hp} {o : HO}, Same H Ha → Same H (upd Ha p o) := fun s b o e => by
      rw [upd_ne (pH e)]
      exact s b o e
    have l1 := mk_len (n := R.s) (Nat.lt_trans b2 (by decide))
    have l2 := mk_len (n := R.t) (Nat.lt_trans b3 (by decide))
    have b5 : 2 * R.d + R.w.toNat < 64 ^ 60 := Nat.lt_of_lt_of_le (by omega : _ < 2 ^ 61) (by decide)
    have l3 := mk_len (n := 2 * R.d + R.w.toNat) b5
    have sz : ∀ {n : Nat}, n ≤ 1000 → n ≤ sizeLine := fun h => Nat.le_trans h (by decide)
    refine mkcall (Nat.lt_trans b2 (by decide)) fun p2 H2 hp2 s2 h2 => ⟨p2, rfl, _, s2 p _ g0p, _, h2, sz (by rw [List.length_cons, vn_len, vn_len]; omega), by rw [upd_ne qp]; exact s2 q _ upd_same, ?_⟩
    refine mkcall (Nat.lt_trans b3 (by decide)) fun p3 H3 hp3 s3 h3 => ⟨p3, rfl, _, s3 p _ upd_same, _, h3, sz (by rw [List.length_append, List.length_cons, vn_len, vn_len, vn_len]; omega), by rw [upd_ne qp]; exact s3 q _ (by rw [upd_ne qp]; exact s2 q _ upd_same), ?_⟩
    refine mkcall b5 fun p4 H4 hp4 s4 h4 => ⟨p4, rfl, _, s4 p _ upd_same, _, h4, sz (by rw [List.length_append, List.length_append, List.length_cons, vn_len, vn_len, vn_len, vn_len]; omega), by rw [upd_ne qp]; exact s4 q _ (by rw [upd_ne qp]; exact s3 q _ (by rw [upd_ne qp]; exact s2 q _ upd_same)), ?_⟩
    refine k p _ hp (ku ((ku ((ku (ks.trans s2)).trans s3)).trans s4)) ?_
    rw [upd_same]
    have e8 : .int ((x : Int) + 128) :: vn xs = vn (mk1 R.b) := by
      unfold mk1
      rw [hx]
      rfl
    rw [e8, ← vn_app, ← vn_app, ← vn_app, List.append_assoc, List.append_assoc]
    rfl
theorem ok_number (T : Txt mg) (F : FnP K "_law_number" "_law_number" snumber f fd) (C_next : Cal P w K mg base 1 "_law_next" ["_law_source", "_law_many"] spNext) (C_one : Cal P w K mg base 2 "_law_one" ["_law_source", "_law_some"] spOne) : FnOk P w K mg base CX0 3 f fd ["_law_source"] spNumber := by
  refine F.ok scnumber (fun vs H Q E h => ?_) (fun cdv A outer s H vs Q E hr h => ?_)
  · obtain ⟨a, rfl, _⟩ := h
    rfl
  · obtain ⟨a, rfl, hS, k⟩ := h
    refine ⟨_, PSs.nox (pss_cons (ps_set (i := 1) scnumber.nd rfl (Or.inl rfl) (pe_op op_add (pe_op op_sub (pe_cal C_one (hr.mono (by decide)) rfl (pa_cons (pv 0) (pa_cons (pe_lst (pa_cons pe_int (pa_cons pe_int (pa_cons pe_int (pa_cons pe_int pa_nil))))) pa_nil))) pe_int) (pe_cal C_next (hr.mono (by decide)) rfl (pa_cons (pv 0) (pa_cons pe_int pa_nil)))))
  (pss_one (ps_ret (pe_cal C_one (hr.mono (by decide)) rfl (pa_cons (pv 0) (pa_cons (pe_lst (pa_cons (pe_cal C_next (hr.mono (by decide)) rfl (pa_cons (pv 0) (pa_cons pe_int pa_nil))) (pa_cons (pe_cal C_next (hr.mono (by decide)) rfl (pa_cons (pv 0) (pa_cons pe_int pa_nil))) (pa_cons (pv 1) (pa_cons (pv 1) (pa_cons (pe_cal C_next (hr.mono (by decide)) rfl (pa_cons (pv 0) (pa_cons (pe_op op_pow pe_int pe_int) pa_nil))) pa_nil)))))) pa_nil)))))), ?_⟩
    show (_ : TS) _ [some (.ref a), none] H
    simp only [r_seq, r_next, r_brk, r_cont, r_asg, r_name, r_ret, r_retN, r_drop, r_ifs, r_never, r_var, r_c, r_op, r_un, r_if, r_tst, r_b, r_not, r_and, r_or, r_andV, r_orV, r_notV, r_nil, r_cons, r_tup, r_lst, r_cb, r_call, r_bm, r_bm0, r_sl, r_nopart, r_part, r_rev, r_gnil, r_gcons, r_gsub, r_par, r_aug, r_chain, r_I0, r_I, r_U, r_ixd, r_lend, r_tupd, r_listd, r_sld, r_app, r_ext, r_reverse, r_setl, r_cat, r_int1, r_eqS, r_neS, scal_ii, scal_bb, scal_ss, at0, at1, at2, sq_lst, sq_tup, isLst_lst, List.getElem?_cons_zero, List.getElem?_cons_succ, List.set_cons_zero, List.set_cons_succ, V.int.injEq, V.bl.injEq, V.ref.injEq, V.str.injEq, HO.lst.injEq, HO.tup.injEq, Option.some.injEq, exists_eq_left', exists_eq_left, List.cons.injEq, and_true, true_and, decide_eq_true_eq, reduceCtorEq, false_and, exists_false, or_false, false_or, exists_const, and_assoc, exists_and_left, List.append_nil, ix0, ix1, ix2, cm_mod, cdw1009, cdw2003, cdw7, cdw64, cdw2, cm104729, cm2, cm3, upd_same, List.length_cons, List.length_nil, Int.reduceLT, Int.reduceLE, Nat.reduceAdd, Nat.reduceLeDiff, Nat.reduceLT, Int.reduceToNat, r_for1, r_forL, r_forT, r_lcL, r_lc1, r_yes, r_gtupD, wipe_0, wipe_1, List.cons_append, List.nil_append, r_forS, r_ipI, ite_false, ite_true, Bool.not_true, Bool.not_false, decide_true, decide_false, r_isd, r_islt, cD_ty, cD_ref, tD_non, tD_bl, tD_int, tD_str, tD_ref, tH_lst, tH_tup, tH_dK, tH_ins, ki_self, ki_int_bool, ki_non_int, ki_str_int, ki_lt_lst, ki_lt_tup, r_fld, r_sfld, HO.ins.injEq, cx_K]
    have sz : ∀ {n : Nat}, n ≤ 1000 → n ≤ sizeLine := fun h => Nat.le_trans h (by decide)
    refine ⟨sz (by decide), fun p hp => ⟨a, p, _, rfl, hS.new hp, hS.ne hp, upd_same, by simp, by simp, fun v H1 hv k1 S1 => ?_⟩⟩
    have K1 : Keep a H H1 := (Keep.new (Keep.refl a H) hp).trans k1
    have hv2 : ∃ i : Nat, v = .int (i : Int) ∧ 64 ≤ i ∧ i ≤ 16777216 := by
      simp only [List.mem_cons, List.not_mem_nil, or_false] at hv
      rcases hv with rfl | rfl | rfl | rfl
      · exact ⟨64, rfl, by decide, by decide⟩
      · exact ⟨4096, rfl, by decide, by decide⟩
      · exact ⟨262144, rfl, by decide, by decide⟩
      · exact ⟨16777216, rfl, by decide, by decide⟩
    obtain ⟨i, rfl, i0, i1⟩ := hv2
    refine ⟨i, rfl, a, 4, rfl, S1, by decide, by decide, fun r H2 r0 r1 k2 S2 => ⟨r, rfl, a, 9, rfl, S2, by decide, by decide, fun u H3 u0 u1 k3 S3 => ⟨a, 64, rfl, S3, by decide, by decide, fun x H4 x0 x1 k4 S4 => ⟨⟨by decide, by decide, by decide⟩, a, 10 ^ 12, rfl, S4, by decide, by decide,
      fun y H5 y0 y1 k5 S5 => ⟨sz (by decide), fun q hq => ⟨a, q, _, rfl, S5.new hq, S5.ne hq, upd_same, by simp, by simp, fun z H6 hz k6 S6 => ?_⟩⟩⟩⟩⟩⟩
    have K6 : Keep a H H6 := (Keep.new ((((K1.trans k2).trans k3).trans k4).trans k5) hq).trans k6
    have hz2 : ∃ n : Nat, z = .int (n : Int) ∧ n < 2 ^ 40 := by
      simp only [List.mem_cons, List.not_mem_nil, or_false] at hz
      rcases hz with rfl | rfl | rfl | rfl | rfl
      · exact ⟨u.toNat, by rw [Int.toNat_of_nonneg u0], by omega⟩
      · exact ⟨x.toNat, by rw [Int.toNat_of_nonneg x0], by omega⟩
      · exact ⟨(i - 2 + r : Int).toNat, by rw [Int.toNat_of_nonneg (by omega)], by omega⟩
      · exact ⟨(i - 2 + r : Int).toNat, by rw [Int.toNat_of_nonneg (by omega)], by omega⟩
      · exact ⟨y.toNat, by rw [Int.toNat_of_nonneg y0], by omega⟩
    obtain ⟨n, rfl, hn⟩ := hz2
    exact k n H6 hn K6 S6
/-- a list of rows at F -/
def RowsL (H : Hp) (F : Addr) (Rs : List Row) : Prop := ∃ refs : List Addr, H F = some (.lst (refs.map V.ref)) ∧ Paired (fun r R => H r = some (.tup (rv R))) refs Rs
def spDrawn : Sp := fun vs H Q _ => ∃ a : Addr, vs = [.ref a] ∧ Src H a ∧ ∀ (F : Addr) (Rs : List Row) H', H F = none → F ≠ a → Keep a H H' → Src H' a → RowsL H' F Rs → Rs.length ≤ 30 → (∀ R ∈ Rs, RowOk R) → Q (.ref F) H'
def lvDrawn (H : Hp) (a F : Addr) (n : Nat) (i : Nat) (σ : L2.St) (H' : Hp) : Prop := ∃ (Rs : List Row) (refs : List Addr) (c : Nat) (v1 v2 : Option V), σ = [some (.ref a), some (.ref F), some (.int ((2 * c : Nat) : Int)), v1, v2] ∧ Keep a H H' ∧ Src H' a ∧
  H' F = some (.lst (refs.map V.ref)) ∧ Paired (fun r R => H' r = some (.tup (rv R))) refs Rs ∧ Rs.length = i ∧ (∀ R ∈ Rs, RowOk R) ∧ c ≤ i * 2 ^ 42 ∧ n ≤ 30
theorem ok_drawn_rows (T : Txt mg) (F : FnP K "_law_drawn_rows" "_law_drawn_rows" sdrawn_rows f fd) (C_next : Cal P w K mg base 1 "_law_next" ["_law_source", "_law_many"] spNext) (C_number : Cal P w K mg base 3 "_law_number" ["_law_source"] spNumber) : FnOk P w K mg base CX0 4 f fd ["_law_source"] spDrawn := by
  refine F.ok scdrawn_rows (fun vs H Q E h => ?_) (fun cdv A outer s H vs Q E hr h => ?_)
  · obtain ⟨a, rfl, _⟩ := h
    rfl
  · obtain ⟨a, rfl, hS, k⟩ := h
    refine ⟨_, PSs.nox (pss_cons (ps_par (i := 1) (j := 2) (by rfl) scdrawn_rows.nd rfl rfl (by decide) rfl rfl (pa_cons (pe_lst pa_nil) (pa_cons pe_int pa_nil)) (by rfl))
  (pss_cons (ps_for PassesOwn.never rfl (pi_range1 rfl T.b_range (pa_cons (pe_cal C_next (hr.mono (by decide)) rfl (pa_cons (pv 0) (pa_cons pe_int pa_nil))) pa_nil)) (pg_name (i := 3) scdrawn_rows.nd rfl (Or.inl rfl))
    (pss_cons (ps_set (i := 4) scdrawn_rows.nd rfl (Or.inl rfl) (pe_op op_add (pv 2) (pe_op op_mul pe_int (pe_cal C_number (hr.mono (by decide)) rfl (pa_cons (pv 0) pa_nil)))))
  (pss_cons (ps_set (i := 2) scdrawn_rows.nd rfl (Or.inl rfl) (pe_op op_add (pe_op op_add (pv 4) pe_int) (pe_op op_mul pe_int (pe_cal C_number (hr.mono (by decide)) rfl (pa_cons (pv 0) pa_nil)))))
  (pss_one (ps_expr (pe_bm PySem.F.plainAttrs_list PySem.F.slot_list_append PySem.F.type_list_append mt_append (pv 1) (pa_cons (pe_tup (pa_cons (pv 4) (pa_cons (pv 2) (pa_cons (pe_op op_mul pe_int (pe_cal C_number (hr.mono (by decide)) rfl (pa_cons (pv 0) pa_nil))) (pa_cons (pe_cal C_number (hr.mono (by decide)) rfl (pa_cons (pv 0) pa_nil)) (pa_cons (pe_cmpR op_eq (pe_cal C_next (hr.mono (by decide)) rfl (pa_cons (pv 0) (pa_cons pe_int pa_nil))) pe_int (nomark _)) pa_nil)))))) pa_nil)))))))
  (pss_one (ps_ret (pv 1))))), ?_⟩
    show (_ : TS) _ [some (.ref a), none, none, none, none] H
    simp only [r_seq, r_next, r_brk, r_cont, r_asg, r_name, r_ret, r_retN, r_drop, r_ifs, r_never, r_var, r_c, r_op, r_un, r_if, r_tst, r_b, r_not, r_and, r_or, r_andV, r_orV, r_notV, r_nil, r_cons, r_tup, r_lst, r_cb, r_call, r_bm, r_bm0, r_sl, r_nopart, r_part, r_rev, r_gnil, r_gcons, r_gsub, r_par, r_aug, r_chain, r_I0, r_I, r_U, r_ixd, r_lend, r_tupd, r_listd, r_sld, r_app, r_ext, r_reverse, r_setl, r_cat, r_int1, r_eqS, r_neS, scal_ii, scal_bb, scal_ss, at0, at1, at2, sq_lst, sq_tup, isLst_lst, List.getElem?_cons_zero, List.getElem?_cons_succ, List.set_cons_zero, List.set_cons_succ, V.int.injEq, V.bl.injEq, V.ref.injEq, V.str.injEq, HO.lst.injEq, HO.tup.injEq, Option.some.injEq, exists_eq_left', exists_eq_left, List.cons.injEq, and_true, true_and, decide_eq_true_eq, reduceCtorEq, false_and, exists_false, or_false, false_or, exists_const, and_assoc, exists_and_left, List.append_nil, ix0, ix1, ix2, cm_mod, cdw1009, cdw2003, cdw7, cdw64, cdw2, cm104729, cm2, cm3, upd_same, List.length_cons, List.length_nil, Int.reduceLT, Int.reduceLE, Nat.reduceAdd, Nat.reduceLeDiff, Nat.reduceLT, Int.reduceToNat, r_for1, r_forL, r_forT, r_lcL, r_lc1, r_yes, r_gtupD, wipe_0, wipe_1, List.cons_append, List.nil_append, r_forS, r_ipI, ite_false, ite_true, Bool.not_true, Bool.not_false, decide_true, decide_false, r_isd, r_islt, cD_ty, cD_ref, tD_non, tD_bl, tD_int, tD_str, tD_ref, tH_lst, tH_tup, tH_dK, tH_ins, ki_self, ki_int_bool, ki_non_int, ki_str_int, ki_lt_lst, ki_lt_tup, r_fld, r_sfld, HO.ins.injEq, cx_K]
    refine ⟨szl (by decide), fun F hF0 => ?_⟩
    have Fa : F ≠ a := hS.ne hF0
    refine ⟨a, 31, rfl, hS.new hF0, by decide, by decide, fun r H1 r0 r1 k1 S1 => ⟨r, rfl, by omega, by omega, ?_⟩⟩
    have hF1 : H1 F = some (.lst []) := k1 F _ Fa upd_same
    have K1 : Keep a H H1 := (Keep.new (Keep.refl a H) hF0).trans k1
    refine lp_rng (lvDrawn H a F r.toNat) ⟨[], [], 0, none, none, rfl, K1, S1, hF1, .nil, rfl, fun R hR => absurd hR (by simp), Nat.zero_le _, by omega⟩ ?_ ?_
    · rintro i σ H2 hi ⟨Rs, refs, c, v1, v2, rfl, K2, S2, hF, hP, hl, hok, hc, hn⟩
      simp only [r_seq, r_next, r_brk, r_cont, r_asg, r_name, r_ret, r_retN, r_drop, r_ifs, r_never, r_var, r_c, r_op, r_un, r_if, r_tst, r_b, r_not, r_and, r_or, r_andV, r_orV, r_notV, r_nil, r_cons, r_tup, r_lst, r_cb, r_call, r_bm, r_bm0, r_sl, r_nopart, r_part, r_rev, r_gnil, r_gcons, r_gsub, r_par, r_aug, r_chain, r_I0, r_I, r_U, r_ixd, r_lend, r_tupd, r_listd, r_sld, r_app, r_ext, r_reverse, r_setl, r_cat, r_int1, r_eqS, r_neS, scal_ii, scal_bb, scal_ss, at0, at1, at2, sq_lst, sq_tup, isLst_lst, List.getElem?_cons_zero, List.getElem?_cons_succ, List.set_cons_zero, List.set_cons_succ, V.int.injEq, V.bl.injEq, V.ref.injEq, V.str.injEq, HO.lst.injEq, HO.tup.injEq, Option.some.injEq, exists_eq_left', exists_eq_left, List.cons.injEq, and_true, true_and, decide_eq_true_eq, reduceCtorEq, false_and, exists_false, or_false, false_or, exists_const, and_assoc, exists_and_left, List.append_nil, ix0, ix1, ix2, cm_mod, cdw1009, cdw2003, cdw7, cdw64, cdw2, cm104729, cm2, cm3, upd_same, List.length_cons, List.length_nil, Int.reduceLT, Int.reduceLE, Nat.reduceAdd, Nat.reduceLeDiff, Nat.reduceLT, Int.reduceToNat, r_for1, r_forL, r_forT, r_lcL, r_lc1, r_yes, r_gtupD, wipe_0, wipe_1, List.cons_append, List.nil_append, r_forS, r_ipI, ite_false, ite_true, Bool.not_true, Bool.not_false, decide_true, decide_false, r_isd, r_islt, cD_ty, cD_ref, tD_non, tD_bl, tD_int, tD_str, tD_ref, tH_lst, tH_tup, tH_dK, tH_ins, ki_self, ki_int_bool, ki_non_int, ki_str_int, ki_lt_lst, ki_lt_tup, r_fld, r_sfld, HO.ins.injEq, cx_K]
      refine ⟨a, rfl, S2, fun n1 H3 b1 k3 S3 => ⟨n1, rfl, a, rfl, S3, fun n2 H4 b2 k4 S4 => ⟨n2, rfl, tyl (k4 F _ Fa (k3 F _ Fa hF)), a, rfl, S4, fun n3 H5 b3 k5 S5 => ⟨n3, rfl, a, rfl, S5, fun n4 H6 b4 k6 S6 => ⟨a, 2, rfl, S6, by decide, by decide, fun n5 H7 b50 b51 k7 S7 => ?_⟩⟩⟩⟩⟩
      have t1 : ((2 * c : Nat) : Int) + 2 * (n1 : Int) = ((2 * (c + n1) : Nat) : Int) := by omega
      have t2 : ((2 * (c + n1) : Nat) : Int) + 2 + 2 * (n2 : Int) = ((2 * (c + n1 + (1 + n2)) : Nat) : Int) := by omega
      have t3 : 2 * (n3 : Int) = ((2 * n3 : Nat) : Int) := by omega
      have K7 : ∀ b o, b ≠ a → H2 b = some o → H7 b = some o := ((((k3.trans k4).trans k5).trans k6).trans k7)
      refine ⟨rfl, szl (by decide), fun q hq => ?_⟩
      have hF7 := K7 F _ Fa hF
      have Fq : F ≠ q := ne_new hF7 hq
      refine ⟨_, by rw [upd_ne Fq]; exact hF7, szlt (by rw [List.length_map, Paired.length hP]; omega), ?_⟩
      rw [t1, t2, t3]
      refine ⟨Rs ++ [⟨c + n1, 1 + n2, n3, n4, decide (V.int n5 = V.int 1)⟩], refs ++ [q], c + n1 + (1 + n2), _, _, rfl, ?_, ?_, ?_, ?_, ?_, ?_, ?_, hn⟩
      · intro b o hb e
        rw [upd_ne (ne_new e hF0), upd_ne (ne_new (K7 b o hb (K2 b o hb e)) hq)]
        exact K7 b o hb (K2 b o hb e)
      · obtain ⟨x, y, z, e⟩ := S7
        exact ⟨x, y, z, by rw [upd_ne Fa.symm, upd_ne (ne_new e hq)]; exact e⟩
      · rw [upd_same, List.map_append]
        rfl
      · refine Paired.snoc' (Paired.map' hP fun r R e => ?_) (by rw [upd_ne Fq.symm, upd_same]; rfl)
        have ra : r ≠ a := fun z => by
          obtain ⟨x, y, w, e2⟩ := S2
          rw [z, e2] at e
          cases e
        have rF : r ≠ F := fun z => by
          rw [z, hF] at e
          cases e
        have e7 := K7 r _ ra e
        rw [upd_ne rF, upd_ne (ne_new e7 hq)]
        exact e7
      · rw [List.length_append, hl]
        rfl
      · intro R hR
        rcases List.mem_append.mp hR with h | h
        · exact hok R h
        · rw [List.mem_singleton.mp h]
          exact ⟨by show c + n1 < _; omega, by show 1 ≤ 1 + n2; omega, by show 1 + n2 < _; omega, by show n3 < _; omega, by show n4 < _; omega⟩
      · omega
    · rintro σ H2 ⟨Rs, refs, c, v1, v2, rfl, K2, S2, hF, hP, hl, hok, hc, hn⟩
      simp only [r_seq, r_next, r_brk, r_cont, r_asg, r_name, r_ret, r_retN, r_drop, r_ifs, r_never, r_var, r_c, r_op, r_un, r_if, r_tst, r_b, r_not, r_and, r_or, r_andV, r_orV, r_notV, r_nil, r_cons, r_tup, r_lst, r_cb, r_call, r_bm, r_bm0, r_sl, r_nopart, r_part, r_rev, r_gnil, r_gcons, r_gsub, r_par, r_aug, r_chain, r_I0, r_I, r_U, r_ixd, r_lend, r_tupd, r_listd, r_sld, r_app, r_ext, r_reverse, r_setl, r_cat, r_int1, r_eqS, r_neS, scal_ii, scal_bb, scal_ss, at0, at1, at2, sq_lst, sq_tup, isLst_lst, List.getElem?_cons_zero, List.getElem?_cons_succ, List.set_cons_zero, List.set_cons_succ, V.int.injEq, V.bl.injEq, V.ref.injEq, V.str.injEq, HO.lst.injEq, HO.tup.injEq, Option.some.injEq, exists_eq_left', exists_eq_left, List.cons.injEq, and_true, true_and, decide_eq_true_eq, reduceCtorEq, false_and, exists_false, or_false, false_or, exists_const, and_assoc, exists_and_left, List.append_nil, ix0, ix1, ix2, cm_mod, cdw1009, cdw2003, cdw7, cdw64, cdw2, cm104729, cm2, cm3, upd_same, List.length_cons, List.length_nil, Int.reduceLT, Int.reduceLE, Nat.reduceAdd, Nat.reduceLeDiff, Nat.reduceLT, Int.reduceToNat, r_for1, r_forL, r_forT, r_lcL, r_lc1, r_yes, r_gtupD, wipe_0, wipe_1, List.cons_append, List.nil_append, r_forS, r_ipI, ite_false, ite_true, Bool.not_true, Bool.not_false, decide_true, decide_false, r_isd, r_islt, cD_ty, cD_ref, tD_non, tD_bl, tD_int, tD_str, tD_ref, tH_lst, tH_tup, tH_dK, tH_ins, ki_self, ki_int_bool, ki_non_int, ki_str_int, ki_lt_lst, ki_lt_tup, r_fld, r_sfld, HO.ins.injEq, cx_K]
      exact k F Rs H2 hF0 Fa K2 S2 ⟨refs, hF, hP⟩ (by omega) hok
end
end C47

set_option maxHeartbeats 1000000
namespace C47
open PySem PySem.Spec PyProof.Rows L2
/-! ### the program's tables: writing -/
theorem bor64 (x : Int) : Builtin.bitOr (x % 64) 64 = x % 64 + 64   := Bits.bitOr_join (a := x % 64) (b := 1) (k := 6) (by omega) (by omega) (by decide)
theorem bor128 {x : Int} (h : 0 ≤ x ∧ x < 128) : Builtin.bitOr x 128 = x + 128   := Bits.bitOr_join (a := x) (b := 1) (k := 7) h.1 h.2 (by decide)
theorem shr6 (x : Int) : x / 2 ^ (Int.toNat 6) = x / 64 := rfl
/-- the pieces of a number, none for 0 -/
def tl (m : Nat) : List Nat := if m = 0 then [] else low m
theorem rest_tl (n : Nat) : rest n = tl (n / 64) := by
  unfold tl
  by_cases h : n < 64
  · rw [rest_lt h, if_pos (by omega)]
  · rw [rest_ge h, if_neg (by omega)]
theorem mk_lt {n x : Nat} (h : x ∈ mk n) : x < 128 := by
  have low_lt : ∀ (m : Nat), ∀ y ∈ rest m, y < 64 := by
    intro m
    induction m using Nat.strongRecOn with
    | _ m ih =>
      intro y hy
      by_cases c : m < 64
      · rw [rest_lt c] at hy
        cases hy
      · rw [rest_ge c, low] at hy
        rcases List.mem_cons.mp hy with e | e
        · omega
        · exact ih (m / 64) (by omega) y e
  unfold mk at h
  rcases List.mem_append.mp h with h | h
  · unfold up at h
    obtain ⟨y, hy, rfl⟩ := List.mem_map.mp h
    have := low_lt n y (List.mem_reverse.mp hy)
    omega
  · have := List.mem_singleton.mp h
    omega
def rbs (Rs : List Row) : List Nat := (Rs.map rb).flatten
theorem rbs_snoc (Rs : List Row) (R : Row) : rbs (Rs ++ [R]) = rbs Rs ++ rb R := by
  unfold rbs
  rw [List.map_append, List.flatten_append]
  simp
def spPiecesOf : Sp := fun vs H Q _ => ∃ n : Nat, vs = [.int (n : Int)] ∧ n < 64 ^ 60 ∧ ∀ p H', H p = none → Same H H' → H' p = some (.lst (vn (mk n))) → Q (.ref p) H'
def lvPiecesOf (H : Hp) (p : Addr) (n : Nat) (σ : L2.St) (H' : Hp) : Prop := ∃ (m : Nat) (ds : List Nat), σ = [some (.int (m : Int)), some (.ref p)] ∧ Same H H' ∧ H' p = some (.lst (vn ds)) ∧ ds ++ up (tl m) = (n % 64) :: up (rest n)
def msPiecesOf (σ : L2.St) : Nat := match σ with
  | some (.int m) :: _ => m.toNat
  | _ => 0
section
variable {P : Program} {w : World} {K : PySem.W.Frag} {mg : Str → Option Value} {base : Heap} {f : Addr} {fd : FuncData}
abbrev spieces_of : Stmt := top 29
theorem scpieces_of : FnScope ["number", "found"] ["number"] (defScope spieces_of) := ⟨rfl, rfl, rfl, by decide +kernel, rfl, by decide +kernel, by decide +kernel⟩

abbrev sexception_bytes : Stmt := top 28
theorem scexception_bytes : FnScope ["rows", "found", "begin", "end", "target", "depth", "wanted", "number"] ["rows"] (defScope sexception_bytes) := ⟨rfl, rfl, rfl, by decide +kernel, rfl, by decide +kernel, by decide +kernel⟩

theorem ok_pieces_of (T : Txt mg) (F : FnP K "pieces_of" "pieces_of" spieces_of f fd) : FnOk P w K mg base CX0 1 f fd ["number"] spPiecesOf := by
  refine F.ok scpieces_of (fun vs H Q E h => ?_) (fun cdv A outer s H vs Q E hr h => ?_)
  · obtain ⟨n, rfl, _⟩ := h
    rfl
  · obtain ⟨n, rfl, hn, k⟩ := h
    refine ⟨_, PSs.nox (pss_cons (ps_set (i := 1) scpieces_of.nd rfl (Or.inl rfl) (pe_lst (pa_cons (pe_op op_and (pv 0) pe_int) pa_nil)))
  (pss_cons (ps_aug (i := 0) scpieces_of.nd rfl (.inl rfl) pe_int (pip_of iop_shr))
  (pss_cons (ps_while PassesOwn.never (pt_cmpR op_gt (pv 0) pe_int (nomark _))
    (pss_cons (ps_expr (pe_bm PySem.F.plainAttrs_list PySem.F.slot_list_append PySem.F.type_list_append mt_append (pv 1) (pa_cons (pe_op op_or (pe_op op_and (pv 0) pe_int) (pe_gi T.g_GOES_ON)) pa_nil)))
  (pss_one (ps_aug (i := 0) scpieces_of.nd rfl (.inl rfl) pe_int (pip_of iop_shr)))))
  (pss_cons (ps_expr (pe_bm0 PySem.F.plainAttrs_list PySem.F.slot_list_reverse PySem.F.type_list_reverse mt_reverse (pv 1)))
  (pss_one (ps_ret (pv 1))))))), ?_⟩
    show (_ : TS) _ [some (.int (n : Int)), none] H
    simp only [r_seq, r_next, r_brk, r_cont, r_asg, r_name, r_ret, r_retN, r_drop, r_ifs, r_never, r_var, r_c, r_op, r_un, r_if, r_tst, r_b, r_not, r_and, r_or, r_andV, r_orV, r_notV, r_nil, r_cons, r_tup, r_lst, r_cb, r_call, r_bm, r_bm0, r_sl, r_nopart, r_part, r_rev, r_gnil, r_gcons, r_gsub, r_par, r_aug, r_chain, r_I0, r_I, r_U, r_ixd, r_lend, r_tupd, r_listd, r_sld, r_app, r_ext, r_reverse, r_setl, r_cat, r_int1, r_eqS, r_neS, scal_ii, scal_bb, scal_ss, at0, at1, at2, sq_lst, sq_tup, isLst_lst, List.getElem?_cons_zero, List.getElem?_cons_succ, List.set_cons_zero, List.set_cons_succ, V.int.injEq, V.bl.injEq, V.ref.injEq, V.str.injEq, HO.lst.injEq, HO.tup.injEq, Option.some.injEq, exists_eq_left', exists_eq_left, List.cons.injEq, and_true, true_and, decide_eq_true_eq, reduceCtorEq, false_and, exists_false, or_false, false_or, exists_const, and_assoc, exists_and_left, List.append_nil, ix0, ix1, ix2, cm_mod, cdw1009, cdw2003, cdw7, cdw64, cdw2, cm104729, cm2, cm3, upd_same, List.length_cons, List.length_nil, Int.reduceLT, Int.reduceLE, Nat.reduceAdd, Nat.reduceLeDiff, Nat.reduceLT, Int.reduceToNat, r_for1, r_forL, r_forT, r_lcL, r_lc1, r_yes, r_gtupD, wipe_0, wipe_1, List.cons_append, List.nil_append, r_forS, r_ipI, ite_false, ite_true, Bool.not_true, Bool.not_false, decide_true, decide_false, r_isd, r_islt, cD_ty, cD_ref, tD_non, tD_bl, tD_int, tD_str, tD_ref, tH_lst, tH_tup, tH_dK, tH_ins, ki_self, ki_int_bool, ki_non_int, ki_str_int, ki_lt_lst, ki_lt_tup, r_fld, r_sfld, HO.ins.injEq, cx_K, bitAnd_m6]
    refine ⟨szl (by decide), fun p hp => ?_⟩
    have pH : ∀ {b : Addr} {o : HO}, H b = some o → b ≠ p := fun e => ne_new e hp
    refine while_d (lvPiecesOf H p n) (fun σ _ => msPiecesOf σ) ⟨n / 64, [n % 64], by rw [Int.natCast_ediv]; rfl, Same.new' (Same.refl H) hp, by rw [upd_same]; simp [vn], by rw [rest_tl]; rfl⟩ ?_
    rintro σ H1 ⟨m, ds, rfl, s1, h1, e1⟩
    have hl : ds.length ≤ 100 := by
      have a1 := congrArg List.length e1
      have a2 := rest_len 59 n hn
      rw [List.length_append, List.length_cons] at a1
      unfold up at a1
      rw [List.length_map, List.length_map] at a1
      omega
    have hd : ((m : Int) % 64 + 64) = ((m % 64 + 64 : Nat) : Int) := by omega
    refine ⟨decide (0 < m), fun QT q => ?_, fun c => ?_, fun c => ?_⟩
    · have e2 : decide ((0 : Int) < (m : Int)) = decide (0 < m) := decide_eq_decide.mpr (by omega)
      simp only [r_seq, r_next, r_brk, r_cont, r_asg, r_name, r_ret, r_retN, r_drop, r_ifs, r_never, r_var, r_c, r_op, r_un, r_if, r_tst, r_b, r_not, r_and, r_or, r_andV, r_orV, r_notV, r_nil, r_cons, r_tup, r_lst, r_cb, r_call, r_bm, r_bm0, r_sl, r_nopart, r_part, r_rev, r_gnil, r_gcons, r_gsub, r_par, r_aug, r_chain, r_I0, r_I, r_U, r_ixd, r_lend, r_tupd, r_listd, r_sld, r_app, r_ext, r_reverse, r_setl, r_cat, r_int1, r_eqS, r_neS, scal_ii, scal_bb, scal_ss, at0, at1, at2, sq_lst, sq_tup, isLst_lst, List.getElem?_cons_zero, List.getElem?_cons_succ, List.set_cons_zero, List.set_cons_succ, V.int.injEq, V.bl.injEq, V.ref.injEq, V.str.injEq, HO.lst.injEq, HO.tup.injEq, Option.some.injEq, exists_eq_left', exists_eq_left, List.cons.injEq, and_true, true_and, decide_eq_true_eq, reduceCtorEq, false_and, exists_false, or_false, false_or, exists_const, and_assoc, exists_and_left, List.append_nil, ix0, ix1, ix2, cm_mod, cdw1009, cdw2003, cdw7, cdw64, cdw2, cm104729, cm2, cm3, upd_same, List.length_cons, List.length_nil, Int.reduceLT, Int.reduceLE, Nat.reduceAdd, Nat.reduceLeDiff, Nat.reduceLT, Int.reduceToNat, r_for1, r_forL, r_forT, r_lcL, r_lc1, r_yes, r_gtupD, wipe_0, wipe_1, List.cons_append, List.nil_append, r_forS, r_ipI, ite_false, ite_true, Bool.not_true, Bool.not_false, decide_true, decide_false, r_isd, r_islt, cD_ty, cD_ref, tD_non, tD_bl, tD_int, tD_str, tD_ref, tH_lst, tH_tup, tH_dK, tH_ins, ki_self, ki_int_bool, ki_non_int, ki_str_int, ki_lt_lst, ki_lt_tup, r_fld, r_sfld, HO.ins.injEq, cx_K, e2]
      exact q
    · have c0 : 0 < m := of_decide_eq_true c
      simp only [r_seq, r_next, r_brk, r_cont, r_asg, r_name, r_ret, r_retN, r_drop, r_ifs, r_never, r_var, r_c, r_op, r_un, r_if, r_tst, r_b, r_not, r_and, r_or, r_andV, r_orV, r_notV, r_nil, r_cons, r_tup, r_lst, r_cb, r_call, r_bm, r_bm0, r_sl, r_nopart, r_part, r_rev, r_gnil, r_gcons, r_gsub, r_par, r_aug, r_chain, r_I0, r_I, r_U, r_ixd, r_lend, r_tupd, r_listd, r_sld, r_app, r_ext, r_reverse, r_setl, r_cat, r_int1, r_eqS, r_neS, scal_ii, scal_bb, scal_ss, at0, at1, at2, sq_lst, sq_tup, isLst_lst, List.getElem?_cons_zero, List.getElem?_cons_succ, List.set_cons_zero, List.set_cons_succ, V.int.injEq, V.bl.injEq, V.ref.injEq, V.str.injEq, HO.lst.injEq, HO.tup.injEq, Option.some.injEq, exists_eq_left', exists_eq_left, List.cons.injEq, and_true, true_and, decide_eq_true_eq, reduceCtorEq, false_and, exists_false, or_false, false_or, exists_const, and_assoc, exists_and_left, List.append_nil, ix0, ix1, ix2, cm_mod, cdw1009, cdw2003, cdw7, cdw64, cdw2, cm104729, cm2, cm3, upd_same, List.length_cons, List.length_nil, Int.reduceLT, Int.reduceLE, Nat.reduceAdd, Nat.reduceLeDiff, Nat.reduceLT, Int.reduceToNat, r_for1, r_forL, r_forT, r_lcL, r_lc1, r_yes, r_gtupD, wipe_0, wipe_1, List.cons_append, List.nil_append, r_forS, r_ipI, ite_false, ite_true, Bool.not_true, Bool.not_false, decide_true, decide_false, r_isd, r_islt, cD_ty, cD_ref, tD_non, tD_bl, tD_int, tD_str, tD_ref, tH_lst, tH_tup, tH_dK, tH_ins, ki_self, ki_int_bool, ki_non_int, ki_str_int, ki_lt_lst, ki_lt_tup, r_fld, r_sfld, HO.ins.injEq, cx_K, bitAnd_m6, bor64, h1, tyV_lst, hd, Int.reducePow]
      refine ⟨szlt (by rw [vn_len]; omega), ⟨m / 64, ds ++ [m % 64 + 64], by rw [Int.natCast_ediv]; rfl, ?_, ?_, ?_⟩, ?_⟩
      · intro b o e
        rw [upd_ne (pH e)]
        exact s1 b o e
      · rw [upd_same, vn_app]
        rfl
      · rw [← e1, List.append_assoc]
        have e3 : tl m = (m % 64) :: tl (m / 64) := by
          unfold tl
          rw [if_neg (by omega), low, rest_tl]
          rfl
        rw [e3]
        rfl
      · show (((m : Int) / 64).toNat) < ((m : Int)).toNat
        omega
    · have c0 : m = 0 := by
        have := of_decide_eq_false c
        omega
      simp only [r_seq, r_next, r_brk, r_cont, r_asg, r_name, r_ret, r_retN, r_drop, r_ifs, r_never, r_var, r_c, r_op, r_un, r_if, r_tst, r_b, r_not, r_and, r_or, r_andV, r_orV, r_notV, r_nil, r_cons, r_tup, r_lst, r_cb, r_call, r_bm, r_bm0, r_sl, r_nopart, r_part, r_rev, r_gnil, r_gcons, r_gsub, r_par, r_aug, r_chain, r_I0, r_I, r_U, r_ixd, r_lend, r_tupd, r_listd, r_sld, r_app, r_ext, r_reverse, r_setl, r_cat, r_int1, r_eqS, r_neS, scal_ii, scal_bb, scal_ss, at0, at1, at2, sq_lst, sq_tup, isLst_lst, List.getElem?_cons_zero, List.getElem?_cons_succ, List.set_cons_zero, List.set_cons_succ, V.int.injEq, V.bl.injEq, V.ref.injEq, V.str.injEq, HO.lst.injEq, HO.tup.injEq, Option.some.injEq, exists_eq_left', exists_eq_left, List.cons.injEq, and_true, true_and, decide_eq_true_eq, reduceCtorEq, false_and, exists_false, or_false, false_or, exists_const, and_assoc, exists_and_left, List.append_nil, ix0, ix1, ix2, cm_mod, cdw1009, cdw2003, cdw7, cdw64, cdw2, cm104729, cm2, cm3, upd_same, List.length_cons, List.length_nil, Int.reduceLT, Int.reduceLE, Nat.reduceAdd, Nat.reduceLeDiff, Nat.reduceLT, Int.reduceToNat, r_for1, r_forL, r_forT, r_lcL, r_lc1, r_yes, r_gtupD, wipe_0, wipe_1, List.cons_append, List.nil_append, r_forS, r_ipI, ite_false, ite_true, Bool.not_true, Bool.not_false, decide_true, decide_false, r_isd, r_islt, cD_ty, cD_ref, tD_non, tD_bl, tD_int, tD_str, tD_ref, tH_lst, tH_tup, tH_dK, tH_ins, ki_self, ki_int_bool, ki_non_int, ki_str_int, ki_lt_lst, ki_lt_tup, r_fld, r_sfld, HO.ins.injEq, cx_K, h1, tyV_lst]
      refine k p _ hp (fun b o e => ?_) ?_
      · rw [upd_ne (pH e)]
        exact s1 b o e
      · rw [upd_same]
        rw [c0] at e1
        have e4 : ds = (n % 64) :: up (rest n) := by rw [← e1]; simp [tl, up]
        rw [e4]
        simp [vn, mk, up]
/-- rows in a list or a tuple -/
def RowsS (H : Hp) (F : Addr) (Rs : List Row) : Prop := ∃ refs : List Addr, sq (H F) = some (refs.map V.ref) ∧ Paired (fun r R => H r = some (.tup (rv R))) refs Rs
def spExcBytes : Sp := fun vs H Q _ => ∃ (a : Addr) (Rs : List Row), vs = [.ref a] ∧ RowsS H a Rs ∧ Rs.length ≤ 30 ∧ (∀ R ∈ Rs, RowOk R) ∧ ∀ p H', H p = none → Same H H' → H' p = some (.tup (vn (rbs Rs))) → Q (.ref p) H'
def lvExcBytes (H : Hp) (a F : Addr) (Rs : List Row) (i : Nat) (σ : L2.St) (H' : Hp) : Prop := ∃ v1 v2 v3 v4 v5 v6 : Option V, σ = [some (.ref a), some (.ref F), v1, v2, v3, v4, v5, v6] ∧ Same H H' ∧ H' F = some (.lst (vn (rbs (Rs.take i)))) ∧ (rbs (Rs.take i)).length ≤ i * 244
theorem rb_len {R : Row} (h : RowOk R) : (rb R).length ≤ 244 := by
  obtain ⟨b0, b1, b2, b3, b4⟩ := h
  have l0 := mk_len (n := R.b) (Nat.lt_trans b0 (by decide))
  have l1 := mk_len (n := R.s) (Nat.lt_trans b2 (by decide))
  have l2 := mk_len (n := R.t) (Nat.lt_trans b3 (by decide))
  have m1 : R.w.toNat ≤ 1 := by cases R.w <;> decide
  have l3 := mk_len (n := 2 * R.d + R.w.toNat) (Nat.lt_of_lt_of_le (by omega : _ < 2 ^ 61) (by decide))
  have l4 : (mk1 R.b).length = (mk R.b).length := by
    unfold mk1
    split <;> rename_i e <;> rw [e] <;> simp
  unfold rb
  rw [List.length_append, List.length_append, List.length_append]
  omega
theorem ok_exception_bytes (T : Txt mg) (F : FnP K "exception_bytes" "exception_bytes" sexception_bytes f fd) (C_pieces_of : Cal P w K mg base 1 "pieces_of" ["number"] spPiecesOf) : FnOk P w K mg base CX0 2 f fd ["rows"] spExcBytes := by
  refine F.ok scexception_bytes (fun vs H Q E h => ?_) (fun cdv A outer s H vs Q E hr h => ?_)
  · obtain ⟨a, Rs, rfl, _⟩ := h
    rfl
  · obtain ⟨a, Rs, rfl, ⟨refs, ha, hP⟩, hl, hok, k⟩ := h
    refine ⟨_, PSs.nox (pss_cons (ps_set (i := 1) scexception_bytes.nd rfl (Or.inl rfl) (pe_lst pa_nil))
  (pss_cons (ps_for PassesOwn.never rfl (pi_seqV 0) (pg_tupD (n := 5) rfl (pgs_cons (pg_name (i := 2) scexception_bytes.nd rfl (Or.inl rfl)) (pgs_cons (pg_name (i := 3) scexception_bytes.nd rfl (Or.inl rfl)) (pgs_cons (pg_name (i := 4) scexception_bytes.nd rfl (Or.inl rfl)) (pgs_cons (pg_name (i := 5) scexception_bytes.nd rfl (Or.inl rfl)) (pgs_cons (pg_name (i := 6) scexception_bytes.nd rfl (Or.inl rfl)) pgs_nil))))))
    (pss_cons (ps_set (i := 7) scexception_bytes.nd rfl (Or.inl rfl) (pe_cal C_pieces_of (hr.mono (by decide)) rfl (pa_cons (pe_op op_fdivW (pv 2) pe_int) pa_nil)))
  (pss_cons (ps_expr (pe_bm PySem.F.plainAttrs_list PySem.F.slot_list_append PySem.F.type_list_append mt_append (pv 1) (pa_cons (pe_op op_or (pe_ix ix_d (pv 7) pe_int (fun _ _ => rfl)) (pe_gi T.g_BEGINS)) pa_nil)))
  (pss_cons (ps_expr (pe_bm PySem.F.plainAttrs_list PySem.F.slot_list_extend PySem.F.type_list_extend mt_extend (pv 1) (pa_cons (pe_slice sl_d (pv 7) (po_some pe_int) po_none) pa_nil)))
  (pss_cons (ps_expr (pe_bm PySem.F.plainAttrs_list PySem.F.slot_list_extend PySem.F.type_list_extend mt_extend (pv 1) (pa_cons (pe_cal C_pieces_of (hr.mono (by decide)) rfl (pa_cons (pe_op op_fdivW (pe_op op_sub (pv 3) (pv 2)) pe_int) pa_nil)) pa_nil)))
  (pss_cons (ps_expr (pe_bm PySem.F.plainAttrs_list PySem.F.slot_list_extend PySem.F.type_list_extend mt_extend (pv 1) (pa_cons (pe_cal C_pieces_of (hr.mono (by decide)) rfl (pa_cons (pe_op op_fdivW (pv 4) pe_int) pa_nil)) pa_nil)))
  (pss_one (ps_expr (pe_bm PySem.F.plainAttrs_list PySem.F.slot_list_extend PySem.F.type_list_extend mt_extend (pv 1) (pa_cons (pe_cal C_pieces_of (hr.mono (by decide)) rfl (pa_cons (pe_op op_add (pe_op op_mul pe_int (pv 5)) (pe_ifExp (pt_val (pv 6)) pe_int pe_int)) pa_nil)) pa_nil))))))))))
  (pss_one (ps_ret (pe_callTy call_tuple_d (by rfl) T.b_tuple (by decide +kernel) (pa_cons (pv 1) pa_nil)))))), ?_⟩
    show (_ : TS) _ [some (.ref a), none, none, none, none, none, none, none] H
    simp only [r_seq, r_next, r_brk, r_cont, r_asg, r_name, r_ret, r_retN, r_drop, r_ifs, r_never, r_var, r_c, r_op, r_un, r_if, r_tst, r_b, r_not, r_and, r_or, r_andV, r_orV, r_notV, r_nil, r_cons, r_tup, r_lst, r_cb, r_call, r_bm, r_bm0, r_sl, r_nopart, r_part, r_rev, r_gnil, r_gcons, r_gsub, r_par, r_aug, r_chain, r_I0, r_I, r_U, r_ixd, r_lend, r_tupd, r_listd, r_sld, r_app, r_ext, r_reverse, r_setl, r_cat, r_int1, r_eqS, r_neS, scal_ii, scal_bb, scal_ss, at0, at1, at2, sq_lst, sq_tup, isLst_lst, List.getElem?_cons_zero, List.getElem?_cons_succ, List.set_cons_zero, List.set_cons_succ, V.int.injEq, V.bl.injEq, V.ref.injEq, V.str.injEq, HO.lst.injEq, HO.tup.injEq, Option.some.injEq, exists_eq_left', exists_eq_left, List.cons.injEq, and_true, true_and, decide_eq_true_eq, reduceCtorEq, false_and, exists_false, or_false, false_or, exists_const, and_assoc, exists_and_left, List.append_nil, ix0, ix1, ix2, cm_mod, cdw1009, cdw2003, cdw7, cdw64, cdw2, cm104729, cm2, cm3, upd_same, List.length_cons, List.length_nil, Int.reduceLT, Int.reduceLE, Nat.reduceAdd, Nat.reduceLeDiff, Nat.reduceLT, Int.reduceToNat, r_for1, r_forL, r_forT, r_lcL, r_lc1, r_yes, r_gtupD, wipe_0, wipe_1, List.cons_append, List.nil_append, r_forS, r_ipI, ite_false, ite_true, Bool.not_true, Bool.not_false, decide_true, decide_false, r_isd, r_islt, cD_ty, cD_ref, tD_non, tD_bl, tD_int, tD_str, tD_ref, tH_lst, tH_tup, tH_dK, tH_ins, ki_self, ki_int_bool, ki_non_int, ki_str_int, ki_lt_lst, ki_lt_tup, r_fld, r_sfld, HO.ins.injEq, cx_K]
    refine ⟨szl (by decide), fun F hF => ?_⟩
    have aF : a ≠ F := fun z => by
      rw [z, hF] at ha
      cases ha
    have FH : ∀ {b : Addr} {o : HO}, H b = some o → b ≠ F := fun e => ne_new e hF
    refine lp_seq (xs := refs.map V.ref) (by rw [upd_ne aF]; exact ha) (lvExcBytes H a F Rs) ⟨none, none, none, none, none, none, rfl, Same.new' (Same.refl H) hF, by rw [upd_same]; simp [rbs, vn], by simp [rbs]⟩ ?_ ?_ ?_
    · rintro i σ H1 ⟨_, _, _, _, _, _, _, s1, _, _⟩
      rw [upd_ne aF]
      cases e : H a with
      | none =>
        rw [e] at ha
        cases ha
      | some o => exact s1 a o e
    · rintro i x σ H1 hx ⟨v1, v2, v3, v4, v5, v6, rfl, s1, h1, hz⟩
      have hir : i < refs.length := by
        have := (List.getElem?_eq_some_iff.mp hx).1
        rwa [List.length_map] at this
      have hiR : i < Rs.length := by rw [← Paired.length hP]; exact hir
      obtain rfl : x = .ref refs[i] := by
        rw [List.getElem?_map, List.getElem?_eq_getElem hir] at hx
        exact (Option.some.inj hx).symm
      have hrow : H1 refs[i] = some (.tup (rv Rs[i])) := s1 _ _ (Paired.at' hP hir hiR)
      have ok := hok _ (List.getElem_mem hiR)
      obtain ⟨R, hRe⟩ : ∃ R, R = Rs[i] := ⟨_, rfl⟩
      rw [← hRe] at hrow ok
      have hb2 : ((2 * R.b : Nat) : Int) / 2 = (R.b : Int) := by omega
      have hs : (((2 * (R.b + R.s) : Nat) : Int) - ((2 * R.b : Nat) : Int)) / 2 = (R.s : Int) := by omega
      have ht2 : ((2 * R.t : Nat) : Int) / 2 = (R.t : Int) := by omega
      simp only [r_seq, r_next, r_brk, r_cont, r_asg, r_name, r_ret, r_retN, r_drop, r_ifs, r_never, r_var, r_c, r_op, r_un, r_if, r_tst, r_b, r_not, r_and, r_or, r_andV, r_orV, r_notV, r_nil, r_cons, r_tup, r_lst, r_cb, r_call, r_bm, r_bm0, r_sl, r_nopart, r_part, r_rev, r_gnil, r_gcons, r_gsub, r_par, r_aug, r_chain, r_I0, r_I, r_U, r_ixd, r_lend, r_tupd, r_listd, r_sld, r_app, r_ext, r_reverse, r_setl, r_cat, r_int1, r_eqS, r_neS, scal_ii, scal_bb, scal_ss, at0, at1, at2, sq_lst, sq_tup, isLst_lst, List.getElem?_cons_zero, List.getElem?_cons_succ, List.set_cons_zero, List.set_cons_succ, V.int.injEq, V.bl.injEq, V.ref.injEq, V.str.injEq, HO.lst.injEq, HO.tup.injEq, Option.some.injEq, exists_eq_left', exists_eq_left, List.cons.injEq, and_true, true_and, decide_eq_true_eq, reduceCtorEq, false_and, exists_false, or_false, false_or, exists_const, and_assoc, exists_and_left, List.append_nil, ix0, ix1, ix2, cm_mod, cdw1009, cdw2003, cdw7, cdw64, cdw2, cm104729, cm2, cm3, upd_same, List.length_cons, List.length_nil, Int.reduceLT, Int.reduceLE, Nat.reduceAdd, Nat.reduceLeDiff, Nat.reduceLT, Int.reduceToNat, r_for1, r_forL, r_forT, r_lcL, r_lc1, r_yes, r_gtupD, wipe_0, wipe_1, List.cons_append, List.nil_append, r_forS, r_ipI, ite_false, ite_true, Bool.not_true, Bool.not_false, decide_true, decide_false, r_isd, r_islt, cD_ty, cD_ref, tD_non, tD_bl, tD_int, tD_str, tD_ref, tH_lst, tH_tup, tH_dK, tH_ins, ki_self, ki_int_bool, ki_non_int, ki_str_int, ki_lt_lst, ki_lt_tup, r_fld, r_sfld, HO.ins.injEq, cx_K, hrow, rv, hb2, hs, ht2, Nat.reduceEqDiff]
      obtain ⟨b0, b1, b2, b3, b4⟩ := id ok
      refine ⟨R.b, rfl, Nat.lt_trans b0 (by decide), fun p H2 hp s2 h2 => ?_⟩
      obtain ⟨x, xs, hx1⟩ := mk_cons R.b
      have hvx : vn (mk R.b) = .int (x : Int) :: vn xs := by rw [hx1]; rfl
      have x128 : x < 128 := mk_lt (n := R.b) (by rw [hx1]; exact List.mem_cons_self ..)
      have hor : Builtin.bitOr (x : Int) 128 = ((x + 128 : Nat) : Int) := bor128 ⟨by omega, by omega⟩
      rw [hvx] at h2
      have hF2 := s2 F _ h1
      have pF : p ≠ F := new_ne h1 hp
      simp only [r_seq, r_next, r_brk, r_cont, r_asg, r_name, r_ret, r_retN, r_drop, r_ifs, r_never, r_var, r_c, r_op, r_un, r_if, r_tst, r_b, r_not, r_and, r_or, r_andV, r_orV, r_notV, r_nil, r_cons, r_tup, r_lst, r_cb, r_call, r_bm, r_bm0, r_sl, r_nopart, r_part, r_rev, r_gnil, r_gcons, r_gsub, r_par, r_aug, r_chain, r_I0, r_I, r_U, r_ixd, r_lend, r_tupd, r_listd, r_sld, r_app, r_ext, r_reverse, r_setl, r_cat, r_int1, r_eqS, r_neS, scal_ii, scal_bb, scal_ss, at0, at1, at2, sq_lst, sq_tup, isLst_lst, List.getElem?_cons_zero, List.getElem?_cons_succ, List.set_cons_zero, List.set_cons_succ, V.int.injEq, V.bl.injEq, V.ref.injEq, V.str.injEq, HO.lst.injEq, HO.tup.injEq, Option.some.injEq, exists_eq_left', exists_eq_left, List.cons.injEq, and_true, true_and, decide_eq_true_eq, reduceCtorEq, false_and, exists_false, or_false, false_or, exists_const, and_assoc, exists_and_left, List.append_nil, ix0, ix1, ix2, cm_mod, cdw1009, cdw2003, cdw7, cdw64, cdw2, cm104729, cm2, cm3, upd_same, List.length_cons, List.length_nil, Int.reduceLT, Int.reduceLE, Nat.reduceAdd, Nat.reduceLeDiff, Nat.reduceLT, Int.reduceToNat, r_for1, r_forL, r_forT, r_lcL, r_lc1, r_yes, r_gtupD, wipe_0, wipe_1, List.cons_append, List.nil_append, r_forS, r_ipI, ite_false, ite_true, Bool.not_true, Bool.not_false, decide_true, decide_false, r_isd, r_islt, cD_ty, cD_ref, tD_non, tD_bl, tD_int, tD_str, tD_ref, tH_lst, tH_tup, tH_dK, tH_ins, ki_self, ki_int_bool, ki_non_int, ki_str_int, ki_lt_lst, ki_lt_tup, r_fld, r_sfld, HO.ins.injEq, cx_K, h2, hF2, tyV_lst, une pF, hor, cut_tail]
      have L0 := mk_len (n := R.b) (Nat.lt_trans b0 (by decide))
      rw [hx1, List.length_cons] at L0
      have hi30 : i * 244 ≤ 29 * 244 := Nat.mul_le_mul_right _ (by omega)
      have szb : ∀ {n : Nat}, n ≤ 20000 → n ≤ sizeLine := fun h => Nat.le_trans h (by decide)
      refine ⟨Nat.lt_of_le_of_lt (by rw [vn_len]; omega : _ ≤ 20000) (by decide), fun q hq => ?_⟩
      have Fq : F ≠ q := ne_new upd_same hq
      simp only [r_seq, r_next, r_brk, r_cont, r_asg, r_name, r_ret, r_retN, r_drop, r_ifs, r_never, r_var, r_c, r_op, r_un, r_if, r_tst, r_b, r_not, r_and, r_or, r_andV, r_orV, r_notV, r_nil, r_cons, r_tup, r_lst, r_cb, r_call, r_bm, r_bm0, r_sl, r_nopart, r_part, r_rev, r_gnil, r_gcons, r_gsub, r_par, r_aug, r_chain, r_I0, r_I, r_U, r_ixd, r_lend, r_tupd, r_listd, r_sld, r_app, r_ext, r_reverse, r_setl, r_cat, r_int1, r_eqS, r_neS, scal_ii, scal_bb, scal_ss, at0, at1, at2, sq_lst, sq_tup, isLst_lst, List.getElem?_cons_zero, List.getElem?_cons_succ, List.set_cons_zero, List.set_cons_succ, V.int.injEq, V.bl.injEq, V.ref.injEq, V.str.injEq, HO.lst.injEq, HO.tup.injEq, Option.some.injEq, exists_eq_left', exists_eq_left, List.cons.injEq, and_true, true_and, decide_eq_true_eq, reduceCtorEq, false_and, exists_false, or_false, false_or, exists_const, and_assoc, exists_and_left, List.append_nil, ix0, ix1, ix2, cm_mod, cdw1009, cdw2003, cdw7, cdw64, cdw2, cm104729, cm2, cm3, upd_same, List.length_cons, List.length_nil, Int.reduceLT, Int.reduceLE, Nat.reduceAdd, Nat.reduceLeDiff, Nat.reduceLT, Int.reduceToNat, r_for1, r_forL, r_forT, r_lcL, r_lc1, r_yes, r_gtupD, wipe_0, wipe_1, List.cons_append, List.nil_append, r_forS, r_ipI, ite_false, ite_true, Bool.not_true, Bool.not_false, decide_true, decide_false, r_isd, r_islt, cD_ty, cD_ref, tD_non, tD_bl, tD_int, tD_str, tD_ref, tH_lst, tH_tup, tH_dK, tH_ins, ki_self, ki_int_bool, ki_non_int, ki_str_int, ki_lt_lst, ki_lt_tup, r_fld, r_sfld, HO.ins.injEq, cx_K, une Fq, tyV_lst]
      have l1 := mk_len (n := R.s) (Nat.lt_trans b2 (by decide))
      have l2 := mk_len (n := R.t) (Nat.lt_trans b3 (by decide))
      have m1 : R.w.toNat ≤ 1 := by cases R.w <;> decide
      have b5 : 2 * R.d + R.w.toNat < 64 ^ 60 := Nat.lt_of_lt_of_le (by omega : _ < 2 ^ 61) (by decide)
      have l3 := mk_len (n := 2 * R.d + R.w.toNat) b5
      refine ⟨szb (by rw [List.length_append, List.length_singleton, vn_len, vn_len]; omega), R.s, rfl, Nat.lt_trans b2 (by decide), fun p3 H3 hp3 s3 h3 => ⟨p3, rfl, _, s3 F _ upd_same, _, h3, szb (by simp only [List.length_append, List.length_singleton, vn_len]; omega), ?_⟩⟩
      refine ⟨R.t, rfl, Nat.lt_trans b3 (by decide), fun p4 H4 hp4 s4 h4 => ⟨p4, rfl, _, s4 F _ upd_same, _, h4, szb (by simp only [List.length_append, List.length_singleton, vn_len]; omega), ?_⟩⟩
      have ku : ∀ {Ha : Hp} {o : HO}, Same H Ha → Same H (upd Ha F o) := fun s b o e => by
        rw [upd_ne (FH e)]
        exact s b o e
      have hq2 : H2 q = none := by
        rw [upd_ne Fq.symm] at hq
        exact hq
      have S4 : Same H H4 := (ku ((ku (Same.new' (ku (s1.trans s2)) hq)).trans s3)).trans s4
      have fin : ∀ (n : Nat) (hn : n = 2 * R.d + R.w.toNat) (p5 : Addr) (H5 : Hp) (s5 : Same (upd H4 F (.lst (vn (rbs (Rs.take i)) ++ [.int ((x + 128 : Nat) : Int)] ++ vn xs ++ vn (mk R.s) ++ vn (mk R.t)))) H5) (h5 : H5 p5 = some (.lst (vn (mk n)))) (v1 v2 v3 v4 v5 v6 : Option V),
          lvExcBytes H a F Rs (i + 1) [some (.ref a), some (.ref F), v1, v2, v3, v4, v5, v6] (upd H5 F (.lst (vn (rbs (Rs.take i)) ++ [.int ((x + 128 : Nat) : Int)] ++ vn xs ++ vn (mk R.s) ++ vn (mk R.t) ++ vn (mk n)))) := by
        intro n hn p5 H5 s5 h5 v1 v2 v3 v4 v5 v6
        refine ⟨v1, v2, v3, v4, v5, v6, rfl, ku ((ku S4).trans s5), ?_, ?_⟩
        · rw [upd_same, List.take_succ_eq_append_getElem hiR, rbs_snoc, ← hRe, hn]
          unfold rb mk1
          rw [hx1]
          simp [vn]
        · rw [List.take_succ_eq_append_getElem hiR, rbs_snoc, List.length_append, ← hRe]
          have := rb_len ok
          omega
      have lz : ∀ n, n = 2 * R.d + R.w.toNat → (vn (rbs (Rs.take i)) ++ [V.int ((x + 128 : Nat) : Int)] ++ vn xs ++ vn (mk R.s) ++ vn (mk R.t)).length + (vn (mk n)).length ≤ sizeLine := fun n hn => by
        rw [hn]
        exact szb (by simp only [List.length_append, List.length_singleton, vn_len]; omega)
      have t1 : 2 * (R.d : Int) + 1 = ((2 * R.d + 1 : Nat) : Int) := by omega
      have t0 : 2 * (R.d : Int) + 0 = ((2 * R.d + 0 : Nat) : Int) := by omega
      rw [t1, t0]
      refine ite2 (fun c => ?_) (fun c => ?_)
      · have hn : 2 * R.d + 1 = 2 * R.d + R.w.toNat := by rw [c]; rfl
        exact ⟨_, rfl, by rw [hn]; exact b5, fun p5 H5 hp5 s5 h5 => ⟨p5, rfl, _, s5 F _ upd_same, _, h5, lz _ hn, fin _ hn p5 H5 s5 h5 _ _ _ _ _ _⟩⟩
      · have hn : 2 * R.d + 0 = 2 * R.d + R.w.toNat := by rw [Bool.eq_false_iff.mpr c]; rfl
        exact ⟨_, rfl, by rw [hn]; exact b5, fun p5 H5 hp5 s5 h5 => ⟨p5, rfl, _, s5 F _ upd_same, _, h5, lz _ hn, fin _ hn p5 H5 s5 h5 _ _ _ _ _ _⟩⟩
    · rintro σ H1 ⟨v1, v2, v3, v4, v5, v6, rfl, s1, h1, hz⟩
      rw [List.length_map, Paired.length hP, List.take_length] at h1
      simp only [r_seq, r_next, r_brk, r_cont, r_asg, r_name, r_ret, r_retN, r_drop, r_ifs, r_never, r_var, r_c, r_op, r_un, r_if, r_tst, r_b, r_not, r_and, r_or, r_andV, r_orV, r_notV, r_nil, r_cons, r_tup, r_lst, r_cb, r_call, r_bm, r_bm0, r_sl, r_nopart, r_part, r_rev, r_gnil, r_gcons, r_gsub, r_par, r_aug, r_chain, r_I0, r_I, r_U, r_ixd, r_lend, r_tupd, r_listd, r_sld, r_app, r_ext, r_reverse, r_setl, r_cat, r_int1, r_eqS, r_neS, scal_ii, scal_bb, scal_ss, at0, at1, at2, sq_lst, sq_tup, isLst_lst, List.getElem?_cons_zero, List.getElem?_cons_succ, List.set_cons_zero, List.set_cons_succ, V.int.injEq, V.bl.injEq, V.ref.injEq, V.str.injEq, HO.lst.injEq, HO.tup.injEq, Option.some.injEq, exists_eq_left', exists_eq_left, List.cons.injEq, and_true, true_and, decide_eq_true_eq, reduceCtorEq, false_and, exists_false, or_false, false_or, exists_const, and_assoc, exists_and_left, List.append_nil, ix0, ix1, ix2, cm_mod, cdw1009, cdw2003, cdw7, cdw64, cdw2, cm104729, cm2, cm3, upd_same, List.length_cons, List.length_nil, Int.reduceLT, Int.reduceLE, Nat.reduceAdd, Nat.reduceLeDiff, Nat.reduceLT, Int.reduceToNat, r_for1, r_forL, r_forT, r_lcL, r_lc1, r_yes, r_gtupD, wipe_0, wipe_1, List.cons_append, List.nil_append, r_forS, r_ipI, ite_false, ite_true, Bool.not_true, Bool.not_false, decide_true, decide_false, r_isd, r_islt, cD_ty, cD_ref, tD_non, tD_bl, tD_int, tD_str, tD_ref, tH_lst, tH_tup, tH_dK, tH_ins, ki_self, ki_int_bool, ki_non_int, ki_str_int, ki_lt_lst, ki_lt_tup, r_fld, r_sfld, HO.ins.injEq, cx_K, h1]
      intro p hp
      exact k p _ (s1.free hp) (Same.new' s1 hp) upd_same
end
end C47

set_option maxHeartbeats 1000000
namespace C47
open PySem PySem.Spec PyProof.Rows L2
/-! ### the program's tables: reading -/
/-- a number's pieces, the highest first -/
def dg (n : Nat) : List Nat := (rest n).reverse ++ [n % 64]
def val (xs : List Nat) : Nat := xs.foldl (fun a d => 64 * a + d) 0
theorem val_snoc (xs : List Nat) (d : Nat) : val (xs ++ [d]) = 64 * val xs + d := by
  unfold val
  rw [List.foldl_append]
  rfl
theorem dg_low (n : Nat) : dg n = (low n).reverse := by
  unfold dg low
  rw [List.reverse_cons]
theorem val_dg : ∀ n : Nat, val (dg n) = n := by
  intro n
  induction n using Nat.strongRecOn with
  | _ n ih =>
    unfold dg
    rw [val_snoc]
    by_cases c : n < 64
    · rw [rest_lt c]
      show 64 * 0 + n % 64 = n
      omega
    · rw [rest_ge c, ← dg_low, ih (n / 64) (by omega)]
      omega
theorem rest_mem_lt : ∀ (m : Nat), ∀ y ∈ rest m, y < 64 := by
  intro m
  induction m using Nat.strongRecOn with
  | _ m ih =>
    intro y hy
    by_cases c : m < 64
    · rw [rest_lt c] at hy
      cases hy
    · rw [rest_ge c, low] at hy
      rcases List.mem_cons.mp hy with e | e
      · omega
      · exact ih (m / 64) (by omega) y e
theorem dg_lt {n y : Nat} (h : y ∈ dg n) : y < 64 := by
  rcases List.mem_append.mp h with h | h
  · exact rest_mem_lt n y (List.mem_reverse.mp h)
  · have := List.mem_singleton.mp h
    omega
theorem dg_len (n : Nat) : (dg n).length = (rest n).length + 1 := by
  unfold dg
  simp
theorem mk_len' (n : Nat) : (mk n).length = (rest n).length + 1 := by
  unfold mk up
  simp
/-- the highest piece of several is not 0 -/
theorem dg_head : ∀ (n : Nat), ¬ n < 64 → ∀ x, (dg n)[0]? = some x → x ≠ 0 := by
  intro n
  induction n using Nat.strongRecOn with
  | _ n ih =>
    intro c x hx
    have e : dg n = dg (n / 64) ++ [n % 64] := by
      conv => lhs; unfold dg
      rw [rest_ge c, ← dg_low]
    rw [e, List.getElem?_append_left (by rw [dg_len]; omega)] at hx
    by_cases c2 : n / 64 < 64
    · have e2 : dg (n / 64) = [n / 64 % 64] := by
        unfold dg
        rw [rest_lt c2]
        rfl
      rw [e2] at hx
      have := Option.some.inj hx
      omega
    · exact ih (n / 64) (by omega) c2 x hx
/-- the k-th byte of a number -/
theorem mk_at {n k y : Nat} (h : (dg n)[k]? = some y) : (mk n)[k]? = some (y + if k + 1 < (dg n).length then 64 else 0) := by
  have hl := dg_len n
  have hk := (List.getElem?_eq_some_iff.mp h).1
  rw [hl]
  unfold dg at h
  unfold mk up
  by_cases c : k < (rest n).length
  · rw [List.getElem?_append_left (by simpa using c)] at h
    rw [List.getElem?_append_left (by simpa using c), List.getElem?_map, if_pos (by omega), h]
    rfl
  · rw [List.getElem?_append_right (by simp; omega)] at h
    rw [List.getElem?_append_right (by simp; omega), if_neg (by omega)]
    have e : k - (rest n).length = 0 := by omega
    simp [e] at h ⊢
    exact h
/-- a number's bytes, at the begin of an entry or further on -/
def mkb (b : Bool) (n : Nat) : List Nat := if b then mk1 n else mk n
theorem mkb_len (b : Bool) (n : Nat) : (mkb b n).length = (dg n).length := by
  have h : (mk n).length = (dg n).length := by rw [mk_len', dg_len]
  unfold mkb
  cases b with
  | false => exact h
  | true =>
    show (mk1 n).length = _
    unfold mk1
    rw [← h]
    split <;> rename_i e <;> rw [e] <;> simp
theorem mkb_at {b : Bool} {n k y : Nat} (hy : (dg n)[k]? = some y) : (mkb b n)[k]? = some (y + (if k + 1 < (dg n).length then 64 else 0) + if b = true ∧ k = 0 then 128 else 0) := by
  have h := mk_at hy
  unfold mkb
  cases b with
  | false => simpa using h
  | true =>
    show (mk1 n)[k]? = _
    unfold mk1
    split
    · rename_i e
      rw [e] at h
      cases h
    · rename_i x xs e
      rw [e] at h
      cases k with
      | zero =>
        have := Option.some.inj h
        simp [this]
      | succ k =>
        simp at h ⊢
        exact h
theorem bit64 {z : Nat} (h : z < 256) : Builtin.bitAnd (z : Int) 64 = ((if z / 64 % 2 = 1 then 64 else 0 : Nat) : Int) := by
  have e : Builtin.bitAnd (z : Int) 64 = (((z : Int).toNat &&& (64 : Int).toNat : Nat) : Int) := bitAnd_pp (Int.natCast_nonneg z) (by decide)
  rw [Int.toNat_natCast] at e
  rw [e]
  have key : ∀ z : Fin 256, z.val &&& 64 = if z.val / 64 % 2 = 1 then 64 else 0 := by decide
  have k2 := key ⟨z, h⟩
  show ((z &&& 64 : Nat) : Int) = _
  rw [k2]
theorem List.reverseRecOn' {α : Type} {m : List α → Prop} (xs : List α) (nil : m []) (snoc : ∀ xs x, m xs → m (xs ++ [x])) : m xs := by
  have key : ∀ ys : List α, m ys.reverse := by
    intro ys
    induction ys with
    | nil => exact nil
    | cons y ys ih =>
      rw [List.reverse_cons]
      exact snoc _ _ ih
  have := key xs.reverse
  rwa [List.reverse_reverse] at this
theorem val_take_le : ∀ (xs : List Nat) (i : Nat), val (xs.take i) ≤ val xs := by
  intro xs i
  induction xs using List.reverseRecOn' with
  | nil => simp
  | snoc xs d ih =>
    by_cases c : i ≤ xs.length
    · rw [List.take_append_of_le_length c, val_snoc]
      omega
    · rw [List.take_of_length_le (by rw [List.length_append, List.length_singleton]; omega)]
      exact Nat.le_refl _
def spNumAhead : Sp := fun vs H Q _ => ∃ (t : Addr) (pre post : List Nat) (n : Nat) (b : Bool), vs = [.ref t, .int (pre.length : Int), .bl b] ∧ H t = some (.tup (vn (pre ++ (mkb b n ++ post)))) ∧ n < 2 ^ 61 ∧
  ∀ p H', H p = none → Same H H' → H' p = some (.tup [.int (n : Int), .int ((pre.length + (mkb b n).length : Nat) : Int)]) → Q (.ref p) H'
def lvNumAhead (H : Hp) (t : Addr) (pre : List Nat) (n : Nat) (b : Bool) (σ : L2.St) (H' : Hp) : Prop := ∃ k : Nat, k ≤ (dg n).length ∧
  σ = [some (.ref t), some (.int ((pre.length + k : Nat) : Int)), some (.bl b), some (.int (pre.length : Int)), some (.int (val ((dg n).take k) : Int)), some (.bl (decide (k < (dg n).length)))] ∧ H' = H
def msNumAhead (m : Nat) (σ : L2.St) : Nat := match σ with
  | [_, some (.int a), _, some (.int b), _, _] => m - (a - b).toNat
  | _ => 0
section
variable {P : Program} {w : World} {K : PySem.W.Frag} {mg : Str → Option Value} {base : Heap} {f : Addr} {fd : FuncData}
abbrev snumber_ahead : Stmt := top 27
theorem scnumber_ahead : FnScope ["table", "at", "begins", "first", "found", "goes_on"] ["table", "at", "begins"] (defScope snumber_ahead) := ⟨rfl, rfl, rfl, by decide +kernel, rfl, by decide +kernel, by decide +kernel⟩

abbrev sexception_rows : Stmt := top 26
theorem scexception_rows : FnScope ["code", "table", "found", "at", "begin", "size", "target", "last"] ["code"] (defScope sexception_rows) := ⟨rfl, rfl, rfl, by decide +kernel, rfl, by decide +kernel, by decide +kernel⟩

theorem ok_number_ahead (T : Txt mg) (F : FnP K "number_ahead" "number_ahead" snumber_ahead f fd) : FnOk P w K mg base CX0 1 f fd ["table", "at", "begins"] spNumAhead := by
  refine F.ok scnumber_ahead (fun vs H Q E h => ?_) (fun cdv A outer s H vs Q E hr h => ?_)
  · obtain ⟨t, pre, post, n, b, rfl, _⟩ := h
    rfl
  · obtain ⟨t, pre, post, n, b, rfl, ht, hn, k⟩ := h
    refine ⟨_, PSs.nox (pss_cons (ps_set (i := 3) scnumber_ahead.nd rfl (Or.inl rfl) (pv 1))
  (pss_cons (ps_set (i := 4) scnumber_ahead.nd rfl (Or.inl rfl) pe_int)
  (pss_cons (ps_set (i := 5) scnumber_ahead.nd rfl (Or.inl rfl) pe_bl)
  (pss_cons (ps_while PassesOwn.never (pt_val (pv 5))
    (pss_cons (ps_if (PW.pt (pw_or (pt_cmpR op_eq (pv 1) (pe_callB call_len_d (by rfl) T.b_len (by decide +kernel) (pa_cons (pv 0) pa_nil)) (nomark _)) (pw_or1 (pt_cmpR op_ne (pe_cmpR op_ge (pe_ix ix_d (pv 0) (pv 1) (fun _ _ => rfl)) (pe_gi T.g_BEGINS) (nomark _)) (pe_and (pv 2) (pe_one (pe_cmpR op_eq (pv 1) (pv 3) (nomark _)))) (nomark _)))))
    (pss_one ps_never)
    pss_nil)
  (pss_cons (ps_set (i := 5) scnumber_ahead.nd rfl (Or.inl rfl) (pe_cmpR op_ne (pe_op op_and (pe_ix ix_d (pv 0) (pv 1) (fun _ _ => rfl)) (pe_gi T.g_GOES_ON)) pe_int (nomark _)))
  (pss_cons (ps_if (PW.pt (pw_and (pt_cmpR op_eq (pv 1) (pv 3) (nomark _)) (pw_and (pt_val (pv 5)) (pw_and1 (pt_cmpR op_eq (pe_op op_and (pe_ix ix_d (pv 0) (pv 1) (fun _ _ => rfl)) pe_int) pe_int (nomark _))))))
    (pss_one ps_never)
    pss_nil)
  (pss_cons (ps_set (i := 4) scnumber_ahead.nd rfl (Or.inl rfl) (pe_op op_or (pe_op op_shl (pv 4) pe_int) (pe_op op_and (pe_ix ix_d (pv 0) (pv 1) (fun _ _ => rfl)) pe_int)))
  (pss_one (ps_aug (i := 1) scnumber_ahead.nd rfl (.inl rfl) pe_int ip_add)))))))
  (pss_one (ps_ret (pe_tup (pa_cons (pv 4) (pa_cons (pv 1) pa_nil))))))))), ?_⟩
    show (_ : TS) _ [some (.ref t), some (.int (pre.length : Int)), some (.bl b), none, none, none] H
    simp only [r_seq, r_next, r_brk, r_cont, r_asg, r_name, r_ret, r_retN, r_drop, r_ifs, r_never, r_var, r_c, r_op, r_un, r_if, r_tst, r_b, r_not, r_and, r_or, r_andV, r_orV, r_notV, r_nil, r_cons, r_tup, r_lst, r_cb, r_call, r_bm, r_bm0, r_sl, r_nopart, r_part, r_rev, r_gnil, r_gcons, r_gsub, r_par, r_aug, r_chain, r_I0, r_I, r_U, r_ixd, r_lend, r_tupd, r_listd, r_sld, r_app, r_ext, r_reverse, r_setl, r_cat, r_int1, r_eqS, r_neS, scal_ii, scal_bb, scal_ss, at0, at1, at2, sq_lst, sq_tup, isLst_lst, List.getElem?_cons_zero, List.getElem?_cons_succ, List.set_cons_zero, List.set_cons_succ, V.int.injEq, V.bl.injEq, V.ref.injEq, V.str.injEq, HO.lst.injEq, HO.tup.injEq, Option.some.injEq, exists_eq_left', exists_eq_left, List.cons.injEq, and_true, true_and, decide_eq_true_eq, reduceCtorEq, false_and, exists_false, or_false, false_or, exists_const, and_assoc, exists_and_left, List.append_nil, ix0, ix1, ix2, cm_mod, cdw1009, cdw2003, cdw7, cdw64, cdw2, cm104729, cm2, cm3, upd_same, List.length_cons, List.length_nil, Int.reduceLT, Int.reduceLE, Nat.reduceAdd, Nat.reduceLeDiff, Nat.reduceLT, Int.reduceToNat, r_for1, r_forL, r_forT, r_lcL, r_lc1, r_yes, r_gtupD, wipe_0, wipe_1, List.cons_append, List.nil_append, r_forS, r_ipI, ite_false, ite_true, Bool.not_true, Bool.not_false, decide_true, decide_false, r_isd, r_islt, cD_ty, cD_ref, tD_non, tD_bl, tD_int, tD_str, tD_ref, tH_lst, tH_tup, tH_dK, tH_ins, ki_self, ki_int_bool, ki_non_int, ki_str_int, ki_lt_lst, ki_lt_tup, r_fld, r_sfld, HO.ins.injEq, cx_K]
    refine while_d (lvNumAhead H t pre n b) (fun σ _ => msNumAhead ((dg n).length + 1) σ) ⟨0, Nat.zero_le _, by rw [dg_len]; simp [val], rfl⟩ ?_
    rintro σ H1 ⟨i, hi, rfl, rfl⟩
    refine ⟨decide (i < (dg n).length), fun QT q => ?_, fun c => ?_, fun c => ?_⟩
    · simp only [r_seq, r_next, r_brk, r_cont, r_asg, r_name, r_ret, r_retN, r_drop, r_ifs, r_never, r_var, r_c, r_op, r_un, r_if, r_tst, r_b, r_not, r_and, r_or, r_andV, r_orV, r_notV, r_nil, r_cons, r_tup, r_lst, r_cb, r_call, r_bm, r_bm0, r_sl, r_nopart, r_part, r_rev, r_gnil, r_gcons, r_gsub, r_par, r_aug, r_chain, r_I0, r_I, r_U, r_ixd, r_lend, r_tupd, r_listd, r_sld, r_app, r_ext, r_reverse, r_setl, r_cat, r_int1, r_eqS, r_neS, scal_ii, scal_bb, scal_ss, at0, at1, at2, sq_lst, sq_tup, isLst_lst, List.getElem?_cons_zero, List.getElem?_cons_succ, List.set_cons_zero, List.set_cons_succ, V.int.injEq, V.bl.injEq, V.ref.injEq, V.str.injEq, HO.lst.injEq, HO.tup.injEq, Option.some.injEq, exists_eq_left', exists_eq_left, List.cons.injEq, and_true, true_and, decide_eq_true_eq, reduceCtorEq, false_and, exists_false, or_false, false_or, exists_const, and_assoc, exists_and_left, List.append_nil, ix0, ix1, ix2, cm_mod, cdw1009, cdw2003, cdw7, cdw64, cdw2, cm104729, cm2, cm3, upd_same, List.length_cons, List.length_nil, Int.reduceLT, Int.reduceLE, Nat.reduceAdd, Nat.reduceLeDiff, Nat.reduceLT, Int.reduceToNat, r_for1, r_forL, r_forT, r_lcL, r_lc1, r_yes, r_gtupD, wipe_0, wipe_1, List.cons_append, List.nil_append, r_forS, r_ipI, ite_false, ite_true, Bool.not_true, Bool.not_false, decide_true, decide_false, r_isd, r_islt, cD_ty, cD_ref, tD_non, tD_bl, tD_int, tD_str, tD_ref, tH_lst, tH_tup, tH_dK, tH_ins, ki_self, ki_int_bool, ki_non_int, ki_str_int, ki_lt_lst, ki_lt_tup, r_fld, r_sfld, HO.ins.injEq, cx_K]
      exact q
    · have c0 : i < (dg n).length := of_decide_eq_true c
      obtain ⟨y, hy⟩ : ∃ y, (dg n)[i]? = some y := ⟨_, List.getElem?_eq_getElem c0⟩
      have hb := mkb_at (b := b) hy
      have y64 : y < 64 := dg_lt (List.mem_of_getElem? hy)
      have hlt : (dg n).length = (mkb b n).length := (mkb_len b n).symm
      obtain ⟨z, hz⟩ : ∃ z, z = y + (if i + 1 < (dg n).length then 64 else 0) + if b = true ∧ i = 0 then 128 else 0 := ⟨_, rfl⟩
      rw [← hz] at hb
      have e1 : atI (vn (pre ++ (mkb b n ++ post))) ((pre.length + i : Nat) : Int) = some (.int (z : Int)) := by
        refine atn ?_
        unfold vn
        rw [List.getElem?_map, List.getElem?_append_right (by omega), Nat.add_sub_cancel_left, List.getElem?_append_left (by omega), hb]
        rfl
      have hlen : (((pre.length + i : Nat) : Int) = ((vn (pre ++ (mkb b n ++ post))).length : Int)) = False := eq_false (by
        rw [vn_len, List.length_append, List.length_append]
        omega)
      have e2 : (((pre.length + i : Nat) : Int) = (pre.length : Int)) = (i = 0) := propext (by omega)
      have hz256 : z < 256 := by
        rw [hz]
        split <;> split <;> omega
      have e3 : (128 ≤ (z : Int)) = (b = true ∧ i = 0) := propext (by
        by_cases cc : b = true ∧ i = 0
        · rw [if_pos cc] at hz
          exact ⟨fun _ => cc, fun _ => by omega⟩
        · rw [if_neg cc] at hz
          refine ⟨fun h => ?_, fun h => absurd h cc⟩
          split at hz <;> omega)
      have e4 : (Builtin.bitAnd (z : Int) 64 = 0) = ¬ (i + 1 < (dg n).length) := propext (by
        rw [bit64 hz256, hz]
        by_cases cc : b = true ∧ i = 0
        · rw [if_pos cc]
          split <;> simp <;> omega
        · rw [if_neg cc]
          split <;> simp <;> omega)
      have e5 : Builtin.bitAnd (z : Int) 63 = (y : Int) := by
        rw [bitAnd_m6, hz]
        split <;> split <;> omega
      have e6 : CPow ((val ((dg n).take i) : Nat) : Int) 6 := ⟨by decide, by decide, by
        have := val_take_le (dg n) i
        rw [val_dg] at this
        have h2 : (2:Nat) ^ 61 < 2 ^ 64 := by decide
        omega⟩
      have e7 : Builtin.bitOr (((val ((dg n).take i) : Nat) : Int) * 2 ^ 6) (y : Int) = ((val ((dg n).take (i + 1)) : Nat) : Int) := by
        rw [Bits.bitOr_join' (by omega) (by omega) (by omega), List.take_succ, hy]
        show _ = ((val ((dg n).take i ++ [y]) : Nat) : Int)
        rw [val_snoc]
        omega
      have e8 : ((pre.length + i : Nat) : Int) + 1 = ((pre.length + (i + 1) : Nat) : Int) := by omega
      have hy0 : i = 0 → i + 1 < (dg n).length → ¬ (y : Int) = 0 := fun h0 h1 => by
        subst h0
        have : ¬ n < 64 := fun hlt => by
          rw [dg_len, rest_lt hlt] at h1
          simp at h1
        have := dg_head n this y hy
        omega
      have fin : lvNumAhead H1 t pre n b [some (.ref t), some (.int ((pre.length + (i + 1) : Nat) : Int)), some (.bl b), some (.int (pre.length : Int)), some (.int ((val ((dg n).take (i + 1)) : Nat) : Int)), some (.bl (decide (i + 1 < (dg n).length)))] H1 := ⟨i + 1, c0, rfl, rfl⟩
      have fin2 : ∀ (a1 a2 a3 a4 a5 a6 : Option V), msNumAhead ((dg n).length + 1) [a1, some (.int ((pre.length + (i + 1) : Nat) : Int)), a2, some (.int (pre.length : Int)), a3, a4] < msNumAhead ((dg n).length + 1) [a1, some (.int ((pre.length + i : Nat) : Int)), a2, some (.int (pre.length : Int)), a5, a6] := fun a1 a2 a3 a4 a5 a6 => by
        show (dg n).length + 1 - (((pre.length + (i + 1) : Nat) : Int) - (pre.length : Int)).toNat < (dg n).length + 1 - (((pre.length + i : Nat) : Int) - (pre.length : Int)).toNat
        omega
      simp only [r_seq, r_next, r_brk, r_cont, r_asg, r_name, r_ret, r_retN, r_drop, r_ifs, r_never, r_var, r_c, r_op, r_un, r_if, r_tst, r_b, r_not, r_and, r_or, r_andV, r_orV, r_notV, r_nil, r_cons, r_tup, r_lst, r_cb, r_call, r_bm, r_bm0, r_sl, r_nopart, r_part, r_rev, r_gnil, r_gcons, r_gsub, r_par, r_aug, r_chain, r_I0, r_I, r_U, r_ixd, r_lend, r_tupd, r_listd, r_sld, r_app, r_ext, r_reverse, r_setl, r_cat, r_int1, r_eqS, r_neS, scal_ii, scal_bb, scal_ss, at0, at1, at2, sq_lst, sq_tup, isLst_lst, List.getElem?_cons_zero, List.getElem?_cons_succ, List.set_cons_zero, List.set_cons_succ, V.int.injEq, V.bl.injEq, V.ref.injEq, V.str.injEq, HO.lst.injEq, HO.tup.injEq, Option.some.injEq, exists_eq_left', exists_eq_left, List.cons.injEq, and_true, true_and, decide_eq_true_eq, reduceCtorEq, false_and, exists_false, or_false, false_or, exists_const, and_assoc, exists_and_left, List.append_nil, ix0, ix1, ix2, cm_mod, cdw1009, cdw2003, cdw7, cdw64, cdw2, cm104729, cm2, cm3, upd_same, List.length_cons, List.length_nil, Int.reduceLT, Int.reduceLE, Nat.reduceAdd, Nat.reduceLeDiff, Nat.reduceLT, Int.reduceToNat, r_for1, r_forL, r_forT, r_lcL, r_lc1, r_yes, r_gtupD, wipe_0, wipe_1, List.cons_append, List.nil_append, r_forS, r_ipI, ite_false, ite_true, Bool.not_true, Bool.not_false, decide_true, decide_false, r_isd, r_islt, cD_ty, cD_ref, tD_non, tD_bl, tD_int, tD_str, tD_ref, tH_lst, tH_tup, tH_dK, tH_ins, ki_self, ki_int_bool, ki_non_int, ki_str_int, ki_lt_lst, ki_lt_tup, r_fld, r_sfld, HO.ins.injEq, cx_K, ht, e1, hlen, e2, e3, e4, e5, e6, e7, e8]
      have nd : (!decide ¬ (i + 1 < (dg n).length)) = decide (i + 1 < (dg n).length) := by
        by_cases c1 : i + 1 < (dg n).length <;> simp [c1]
      simp only [nd]
      have G := And.intro fin (fin2 (some (.ref t)) (some (.bl b)) (some (.int ((val ((dg n).take (i + 1)) : Nat) : Int))) (some (.bl (decide (i + 1 < (dg n).length)))) (some (.int ((val ((dg n).take i) : Nat) : Int))) (some (.bl (decide (i < (dg n).length)))))
      refine ite2 (fun hbt => ?_) (fun hbt => ?_)
      · rw [if_neg (by simp [hbt])]
        exact ite2 (fun h0 => ite2 (fun h1 => ite2 (fun h2 => hy0 h0 (of_decide_eq_true h1) h2) fun _ => G) fun _ => G) fun _ => G
      · rw [if_neg (by simp [hbt])]
        exact ite2 (fun h0 => ite2 (fun h1 => ite2 (fun h2 => hy0 h0 (of_decide_eq_true h1) h2) fun _ => G) fun _ => G) fun _ => G
    · have ci : i = (dg n).length := by
        have := of_decide_eq_false c
        omega
      rw [ci, List.take_length, val_dg, ← mkb_len b n]
      simp only [r_seq, r_next, r_brk, r_cont, r_asg, r_name, r_ret, r_retN, r_drop, r_ifs, r_never, r_var, r_c, r_op, r_un, r_if, r_tst, r_b, r_not, r_and, r_or, r_andV, r_orV, r_notV, r_nil, r_cons, r_tup, r_lst, r_cb, r_call, r_bm, r_bm0, r_sl, r_nopart, r_part, r_rev, r_gnil, r_gcons, r_gsub, r_par, r_aug, r_chain, r_I0, r_I, r_U, r_ixd, r_lend, r_tupd, r_listd, r_sld, r_app, r_ext, r_reverse, r_setl, r_cat, r_int1, r_eqS, r_neS, scal_ii, scal_bb, scal_ss, at0, at1, at2, sq_lst, sq_tup, isLst_lst, List.getElem?_cons_zero, List.getElem?_cons_succ, List.set_cons_zero, List.set_cons_succ, V.int.injEq, V.bl.injEq, V.ref.injEq, V.str.injEq, HO.lst.injEq, HO.tup.injEq, Option.some.injEq, exists_eq_left', exists_eq_left, List.cons.injEq, and_true, true_and, decide_eq_true_eq, reduceCtorEq, false_and, exists_false, or_false, false_or, exists_const, and_assoc, exists_and_left, List.append_nil, ix0, ix1, ix2, cm_mod, cdw1009, cdw2003, cdw7, cdw64, cdw2, cm104729, cm2, cm3, upd_same, List.length_cons, List.length_nil, Int.reduceLT, Int.reduceLE, Nat.reduceAdd, Nat.reduceLeDiff, Nat.reduceLT, Int.reduceToNat, r_for1, r_forL, r_forT, r_lcL, r_lc1, r_yes, r_gtupD, wipe_0, wipe_1, List.cons_append, List.nil_append, r_forS, r_ipI, ite_false, ite_true, Bool.not_true, Bool.not_false, decide_true, decide_false, r_isd, r_islt, cD_ty, cD_ref, tD_non, tD_bl, tD_int, tD_str, tD_ref, tH_lst, tH_tup, tH_dK, tH_ins, ki_self, ki_int_bool, ki_non_int, ki_str_int, ki_lt_lst, ki_lt_tup, r_fld, r_sfld, HO.ins.injEq, cx_K]
      exact ⟨szl (by decide), fun p hp => k p _ hp (Same.new' (Same.refl H1) hp) upd_same⟩
end
end C47

set_option maxHeartbeats 1000000
namespace C47
open PySem PySem.Spec PyProof.Rows L2
/-- what is known of the class Code -/
structure CodeT (K : PySem.W.Frag) (mg : Str → Option Value) (C : Addr) : Prop where
  cI : ClsI K C
  g_Code : mg "Code" = some (.ref C)
  no : ∀ t ∈ ["NoneType", "int", "bool", "str", "list", "tuple", "dict"], PySem.W.kitOne K (.type t) (.ref C) = some false
  na : ∀ f ∈ (["argcount", "onlycount", "stacksize", "flags", "code", "depth", "constants", "names", "slots", "kinds", "name", "path", "line", "lines", "handlers", "identity"] : List Str), NoAttr K C f
def RowsL' (H : Hp) (F : Addr) (Rs : List Row) : Prop := RowsL H F Rs
theorem rb_pos (R : Row) : 0 < (rb R).length := by
  unfold rb
  obtain ⟨x, xs, e⟩ := mk_cons R.s
  rw [e]
  simp
  omega
theorem numAhead {H : Hp} {t : Addr} {pre post all : List Nat} {n : Nat} {b : Bool} {m : Int} {Q : VK} {E : XK} (ha : all = pre ++ (mkb b n ++ post)) (ht : H t = some (.tup (vn all))) (hm : m = (pre.length : Int)) (hn : n < 2 ^ 61)
    (k : ∀ p H', H p = none → Same H H' → H' p = some (.tup [.int (n : Int), .int ((pre.length + (mkb b n).length : Nat) : Int)]) → Q (.ref p) H') : spNumAhead [.ref t, .int m, .bl b] H Q E :=
  ⟨t, pre, post, n, b, by rw [hm], by rw [ht, ha], hn, k⟩
def spExcRows (CC CN : Addr) : Sp := fun vs H Q E =>
  (∃ (c dx : Addr) (fs : List (Str × V)) (t : Addr) (Rs : List Row), vs = [.ref c] ∧ H c = some (.ins CC dx fs) ∧ fs.lookup ("handlers" : Str) = some (.ref t) ∧ H t = some (.tup (vn (rbs Rs))) ∧ Rs.length ≤ 30 ∧ (∀ R ∈ Rs, RowOk R) ∧
    ∀ F H', H F = none → Same H H' → RowsL H' F Rs → Q (.ref F) H') ∨
  ∃ (x : V) (n : String), vs = [x] ∧ tyD CC H x = some (.type n) ∧ n ∈ ["NoneType", "int", "bool", "str", "list", "tuple", "dict"] ∧ ∀ d H', H d = none → Same H H' → H' d = some (.xd [("field", .str "code")]) → E (.ref CN) (some d) H'
def lvExcRows (H : Hp) (c t F : Addr) (Rs : List Row) (σ : L2.St) (H' : Hp) : Prop := ∃ (i : Nat) (refs : List Addr) (v1 v2 v3 v4 : Option V), i ≤ Rs.length ∧ σ = [some (.ref c), some (.ref t), some (.ref F), some (.int ((rbs (Rs.take i)).length : Int)), v1, v2, v3, v4] ∧ Same H H' ∧
  H' F = some (.lst (refs.map V.ref)) ∧ Paired (fun r R => H' r = some (.tup (rv R))) refs (Rs.take i)
def msExcRows (m : Nat) (σ : L2.St) : Nat := match σ with
  | _ :: _ :: _ :: some (.int a) :: _ => m - a.toNat
  | _ => 0
section
variable {P : Program} {w : World} {K : PySem.W.Frag} {mg : Str → Option Value} {base : Heap} {f : Addr} {fd : FuncData}
theorem ok_exception_rows {CC CN : Addr} (T : Txt mg) (I : CodeT K mg CC) (X_NoCode : Exn P w K mg base "NoCode" CN "field") (F : FnP K "exception_rows" "exception_rows" sexception_rows f fd)
    (C_number_ahead : Cal P w K mg base 1 "number_ahead" ["table", "at", "begins"] spNumAhead) : FnOk P w K mg base (CX P w) 3 f fd ["code"] (spExcRows CC CN) := by
  refine F.ok scexception_rows (fun vs H Q E h => ?_) (fun cdv A outer s H vs Q E hr h => ?_)
  · rcases h with ⟨c, dx, fs, t, Rs, rfl, _⟩ | ⟨x, n, rfl, _⟩ <;> rfl
  · refine ⟨_, (pss_cons (ps_if (pt_not (pt_val (pe_callB (call_is_d I.cI) (by rfl) T.b_isinstance (by decide +kernel) (pa_cons (pv 0) (pa_cons (pe_glob (v := .ref _) rfl I.g_Code rfl) pa_nil)))))
    (pss_one (ps_raise rfl (takes_of rfl rfl rfl rfl) (pmk_x X_NoCode (hr.mono (by decide)) rfl pe_str)))
    pss_nil)
  (pss_cons (ps_set (i := 1) scexception_rows.nd rfl (Or.inl rfl) (pe_fld (pv 0) rfl))
  (pss_cons (ps_set (i := 2) scexception_rows.nd rfl (Or.inl rfl) (pe_lst pa_nil))
  (pss_cons (ps_set (i := 3) scexception_rows.nd rfl (Or.inl rfl) pe_int)
  (pss_cons (ps_while (passes_of rfl) (pt_cmpR op_lt (pv 3) (pe_callB call_len_d (by rfl) T.b_len (by decide +kernel) (pa_cons (pv 1) pa_nil)) (nomark _))
    (pss_cons (ps_asg (pe_cal C_number_ahead (hr.mono (by decide)) rfl (pa_cons (pv 1) (pa_cons (pv 3) (pa_cons pe_bl pa_nil)))) (pg_tupD (n := 2) rfl (pgs_cons (pg_name (i := 4) scexception_rows.nd rfl (Or.inl rfl)) (pgs_cons (pg_name (i := 3) scexception_rows.nd rfl (Or.inl rfl)) pgs_nil))))
  (pss_cons (ps_asg (pe_cal C_number_ahead (hr.mono (by decide)) rfl (pa_cons (pv 1) (pa_cons (pv 3) (pa_cons pe_bl pa_nil)))) (pg_tupD (n := 2) rfl (pgs_cons (pg_name (i := 5) scexception_rows.nd rfl (Or.inl rfl)) (pgs_cons (pg_name (i := 3) scexception_rows.nd rfl (Or.inl rfl)) pgs_nil))))
  (pss_cons (ps_asg (pe_cal C_number_ahead (hr.mono (by decide)) rfl (pa_cons (pv 1) (pa_cons (pv 3) (pa_cons pe_bl pa_nil)))) (pg_tupD (n := 2) rfl (pgs_cons (pg_name (i := 6) scexception_rows.nd rfl (Or.inl rfl)) (pgs_cons (pg_name (i := 3) scexception_rows.nd rfl (Or.inl rfl)) pgs_nil))))
  (pss_cons (ps_asg (pe_cal C_number_ahead (hr.mono (by decide)) rfl (pa_cons (pv 1) (pa_cons (pv 3) (pa_cons pe_bl pa_nil)))) (pg_tupD (n := 2) rfl (pgs_cons (pg_name (i := 7) scexception_rows.nd rfl (Or.inl rfl)) (pgs_cons (pg_name (i := 3) scexception_rows.nd rfl (Or.inl rfl)) pgs_nil))))
  (pss_one (ps_expr (pe_bm PySem.F.plainAttrs_list PySem.F.slot_list_append PySem.F.type_list_append mt_append (pv 2) (pa_cons (pe_tup (pa_cons (pe_op op_mul pe_int (pv 4)) (pa_cons (pe_op op_mul pe_int (pe_op op_add (pv 4) (pv 5))) (pa_cons (pe_op op_mul pe_int (pv 6)) (pa_cons (pe_op op_shr (pv 7) pe_int) (pa_cons (pe_cmpR op_eq (pe_op op_and (pv 7) pe_int) pe_int (nomark _)) pa_nil)))))) pa_nil)))))))))
  (pss_one (ps_ret (pv 2)))))))), ?_⟩
    rcases h with ⟨c, dx, fs, t, Rs, rfl, hc, hh, ht, hl, hok, k⟩ | ⟨x, n, rfl, hx, hn, k⟩
    · show (_ : TS) _ [some (.ref c), none, none, none, none, none, none, none] H
      have na := I.na "handlers" (by decide)
      have cl := I.cI.cl
      simp only [r_seq, r_next, r_brk, r_cont, r_asg, r_name, r_ret, r_retN, r_drop, r_ifs, r_never, r_var, r_c, r_op, r_un, r_if, r_tst, r_b, r_not, r_and, r_or, r_andV, r_orV, r_notV, r_nil, r_cons, r_tup, r_lst, r_cb, r_call, r_bm, r_bm0, r_sl, r_nopart, r_part, r_rev, r_gnil, r_gcons, r_gsub, r_par, r_aug, r_chain, r_I0, r_I, r_U, r_ixd, r_lend, r_tupd, r_listd, r_sld, r_app, r_ext, r_reverse, r_setl, r_cat, r_int1, r_eqS, r_neS, scal_ii, scal_bb, scal_ss, at0, at1, at2, sq_lst, sq_tup, isLst_lst, List.getElem?_cons_zero, List.getElem?_cons_succ, List.set_cons_zero, List.set_cons_succ, V.int.injEq, V.bl.injEq, V.ref.injEq, V.str.injEq, HO.lst.injEq, HO.tup.injEq, Option.some.injEq, exists_eq_left', exists_eq_left, List.cons.injEq, and_true, true_and, decide_eq_true_eq, reduceCtorEq, false_and, exists_false, or_false, false_or, exists_const, and_assoc, exists_and_left, List.append_nil, ix0, ix1, ix2, cm_mod, cdw1009, cdw2003, cdw7, cdw64, cdw2, cm104729, cm2, cm3, upd_same, List.length_cons, List.length_nil, Int.reduceLT, Int.reduceLE, Nat.reduceAdd, Nat.reduceLeDiff, Nat.reduceLT, Int.reduceToNat, r_for1, r_forL, r_forT, r_lcL, r_lc1, r_yes, r_gtupD, wipe_0, wipe_1, List.cons_append, List.nil_append, r_forS, r_ipI, ite_false, ite_true, Bool.not_true, Bool.not_false, decide_true, decide_false, r_isd, r_islt, cD_ty, cD_ref, tD_non, tD_bl, tD_int, tD_str, tD_ref, tH_lst, tH_tup, tH_dK, tH_ins, ki_self, ki_int_bool, ki_non_int, ki_str_int, ki_lt_lst, ki_lt_tup, r_fld, r_sfld, HO.ins.injEq, cx_K, hc, hh, na, cl]
      refine ⟨szl (by decide), fun F hF => ?_⟩
      have FH : ∀ {b : Addr} {o : HO}, H b = some o → b ≠ F := fun e => ne_new e hF
      refine while_d (lvExcRows H c t F Rs) (fun σ _ => msExcRows (rbs Rs).length σ) ⟨0, [], none, none, none, none, Nat.zero_le _, by simp [rbs], Same.new' (Same.refl H) hF, upd_same, by rw [List.take_zero]; exact .nil⟩ ?_
      rintro σ H1 ⟨i, refs, v1, v2, v3, v4, hi, rfl, s1, h1, hP⟩
      have ht1 := s1 t _ ht
      have hsplit : rbs Rs = rbs (Rs.take i) ++ rbs (Rs.drop i) := by
        conv => lhs; rw [← List.take_append_drop i Rs]
        unfold rbs
        rw [List.map_append, List.flatten_append]
      refine ⟨decide (i < Rs.length), fun QT q => ?_, fun cc => ?_, fun cc => ?_⟩
      · have e : decide (((rbs (Rs.take i)).length : Int) < ((vn (rbs Rs)).length : Int)) = decide (i < Rs.length) := decide_eq_decide.mpr (by
          rw [vn_len, hsplit, List.length_append]
          constructor
          · intro h
            by_cases c2 : i < Rs.length
            · exact c2
            · rw [List.drop_of_length_le (by omega)] at h
              simp [rbs] at h
          · intro h
            have : 0 < (rbs (Rs.drop i)).length := by
              rw [List.drop_eq_getElem_cons h]
              unfold rbs
              rw [List.map_cons, List.flatten_cons, List.length_append]
              have := rb_pos Rs[i]
              omega
            omega)
        simp only [r_seq, r_next, r_brk, r_cont, r_asg, r_name, r_ret, r_retN, r_drop, r_ifs, r_never, r_var, r_c, r_op, r_un, r_if, r_tst, r_b, r_not, r_and, r_or, r_andV, r_orV, r_notV, r_nil, r_cons, r_tup, r_lst, r_cb, r_call, r_bm, r_bm0, r_sl, r_nopart, r_part, r_rev, r_gnil, r_gcons, r_gsub, r_par, r_aug, r_chain, r_I0, r_I, r_U, r_ixd, r_lend, r_tupd, r_listd, r_sld, r_app, r_ext, r_reverse, r_setl, r_cat, r_int1, r_eqS, r_neS, scal_ii, scal_bb, scal_ss, at0, at1, at2, sq_lst, sq_tup, isLst_lst, List.getElem?_cons_zero, List.getElem?_cons_succ, List.set_cons_zero, List.set_cons_succ, V.int.injEq, V.bl.injEq, V.ref.injEq, V.str.injEq, HO.lst.injEq, HO.tup.injEq, Option.some.injEq, exists_eq_left', exists_eq_left, List.cons.injEq, and_true, true_and, decide_eq_true_eq, reduceCtorEq, false_and, exists_false, or_false, false_or, exists_const, and_assoc, exists_and_left, List.append_nil, ix0, ix1, ix2, cm_mod, cdw1009, cdw2003, cdw7, cdw64, cdw2, cm104729, cm2, cm3, upd_same, List.length_cons, List.length_nil, Int.reduceLT, Int.reduceLE, Nat.reduceAdd, Nat.reduceLeDiff, Nat.reduceLT, Int.reduceToNat, r_for1, r_forL, r_forT, r_lcL, r_lc1, r_yes, r_gtupD, wipe_0, wipe_1, List.cons_append, List.nil_append, r_forS, r_ipI, ite_false, ite_true, Bool.not_true, Bool.not_false, decide_true, decide_false, r_isd, r_islt, cD_ty, cD_ref, tD_non, tD_bl, tD_int, tD_str, tD_ref, tH_lst, tH_tup, tH_dK, tH_ins, ki_self, ki_int_bool, ki_non_int, ki_str_int, ki_lt_lst, ki_lt_tup, r_fld, r_sfld, HO.ins.injEq, cx_K, ht1, e]
        exact q
      · have c0 : i < Rs.length := of_decide_eq_true cc
        simp only [r_seq, r_next, r_brk, r_cont, r_asg, r_name, r_ret, r_retN, r_drop, r_ifs, r_never, r_var, r_c, r_op, r_un, r_if, r_tst, r_b, r_not, r_and, r_or, r_andV, r_orV, r_notV, r_nil, r_cons, r_tup, r_lst, r_cb, r_call, r_bm, r_bm0, r_sl, r_nopart, r_part, r_rev, r_gnil, r_gcons, r_gsub, r_par, r_aug, r_chain, r_I0, r_I, r_U, r_ixd, r_lend, r_tupd, r_listd, r_sld, r_app, r_ext, r_reverse, r_setl, r_cat, r_int1, r_eqS, r_neS, scal_ii, scal_bb, scal_ss, at0, at1, at2, sq_lst, sq_tup, isLst_lst, List.getElem?_cons_zero, List.getElem?_cons_succ, List.set_cons_zero, List.set_cons_succ, V.int.injEq, V.bl.injEq, V.ref.injEq, V.str.injEq, HO.lst.injEq, HO.tup.injEq, Option.some.injEq, exists_eq_left', exists_eq_left, List.cons.injEq, and_true, true_and, decide_eq_true_eq, reduceCtorEq, false_and, exists_false, or_false, false_or, exists_const, and_assoc, exists_and_left, List.append_nil, ix0, ix1, ix2, cm_mod, cdw1009, cdw2003, cdw7, cdw64, cdw2, cm104729, cm2, cm3, upd_same, List.length_cons, List.length_nil, Int.reduceLT, Int.reduceLE, Nat.reduceAdd, Nat.reduceLeDiff, Nat.reduceLT, Int.reduceToNat, r_for1, r_forL, r_forT, r_lcL, r_lc1, r_yes, r_gtupD, wipe_0, wipe_1, List.cons_append, List.nil_append, r_forS, r_ipI, ite_false, ite_true, Bool.not_true, Bool.not_false, decide_true, decide_false, r_isd, r_islt, cD_ty, cD_ref, tD_non, tD_bl, tD_int, tD_str, tD_ref, tH_lst, tH_tup, tH_dK, tH_ins, ki_self, ki_int_bool, ki_non_int, ki_str_int, ki_lt_lst, ki_lt_tup, r_fld, r_sfld, HO.ins.injEq, cx_K]
        obtain ⟨R, hRe⟩ : ∃ R, R = Rs[i] := ⟨_, rfl⟩
        have ok := hok R (by rw [hRe]; exact List.getElem_mem c0)
        obtain ⟨b0, b1, b2, b3, b4⟩ := id ok
        have m1 : R.w.toNat ≤ 1 := by cases R.w <;> decide
        obtain ⟨pre, hpre⟩ : ∃ pre, pre = rbs (Rs.take i) := ⟨_, rfl⟩
        obtain ⟨post, hpost⟩ : ∃ post, post = rbs (Rs.drop (i + 1)) := ⟨_, rfl⟩
        have hw : rbs Rs = pre ++ (mk1 R.b ++ (mk R.s ++ (mk R.t ++ (mk (2 * R.d + R.w.toNat) ++ post)))) := by
          rw [hsplit, ← hpre, List.drop_eq_getElem_cons c0, ← hRe]
          have e : rbs (R :: Rs.drop (i + 1)) = rb R ++ post := by
            rw [hpost]
            rfl
          rw [e]
          simp [rb]
        rw [← hpre]
        have g1 : rbs Rs = pre ++ (mkb true R.b ++ (mk R.s ++ (mk R.t ++ (mk (2 * R.d + R.w.toNat) ++ post)))) := hw
        have g2 : rbs Rs = (pre ++ mk1 R.b) ++ (mkb false R.s ++ (mk R.t ++ (mk (2 * R.d + R.w.toNat) ++ post))) := by rw [hw, List.append_assoc]; rfl
        have g3 : rbs Rs = (pre ++ mk1 R.b ++ mk R.s) ++ (mkb false R.t ++ (mk (2 * R.d + R.w.toNat) ++ post)) := by rw [hw, List.append_assoc, List.append_assoc]; rfl
        have g4 : rbs Rs = (pre ++ mk1 R.b ++ mk R.s ++ mk R.t) ++ (mkb false (2 * R.d + R.w.toNat) ++ post) := by rw [hw, List.append_assoc, List.append_assoc, List.append_assoc]; rfl
        have two : ∀ a b : V, [a, b].length = 2 := fun _ _ => rfl
        refine numAhead (pre := pre) g1 ht1 rfl (Nat.lt_trans b0 (by decide)) fun p2 H2 hp2 s2 h2 => ⟨p2, rfl, _, h2, rfl, _, _, rfl, _, _, rfl, rfl, ?_⟩
        refine numAhead (pre := pre ++ mk1 R.b) g2 (s2 _ _ ht1) (by rw [show mkb true R.b = mk1 R.b from rfl, List.length_append (as := pre)]) (Nat.lt_trans b2 (by decide)) fun p3 H3 hp3 s3 h3 => ⟨p3, rfl, _, h3, rfl, _, _, rfl, _, _, rfl, rfl, ?_⟩
        refine numAhead (pre := pre ++ mk1 R.b ++ mk R.s) g3 (s3 _ _ (s2 _ _ ht1)) (by rw [show mkb false R.s = mk R.s from rfl, List.length_append (as := pre ++ mk1 R.b)]) (Nat.lt_trans b3 (by decide)) fun p4 H4 hp4 s4 h4 => ⟨p4, rfl, _, h4, rfl, _, _, rfl, _, _, rfl, rfl, ?_⟩
        refine numAhead (pre := pre ++ mk1 R.b ++ mk R.s ++ mk R.t) g4 (s4 _ _ (s3 _ _ (s2 _ _ ht1))) (by rw [show mkb false R.t = mk R.t from rfl, List.length_append (as := pre ++ mk1 R.b ++ mk R.s)]) (by omega) fun p5 H5 hp5 s5 h5 => ⟨p5, rfl, _, h5, rfl, _, _, rfl, _, _, rfl, rfl, ?_⟩
        have hF5 : H5 F = some (.lst (refs.map V.ref)) := s5 _ _ (s4 _ _ (s3 _ _ (s2 _ _ h1)))
        have S5 : Same H1 H5 := ((s2.trans s3).trans s4).trans s5
        have a1 : 2 * (R.b : Int) = ((2 * R.b : Nat) : Int) := by omega
        have a2 : 2 * ((R.b : Int) + (R.s : Int)) = ((2 * (R.b + R.s) : Nat) : Int) := by omega
        have a3 : 2 * (R.t : Int) = ((2 * R.t : Nat) : Int) := by omega
        have a4 : ((2 * R.d + R.w.toNat : Nat) : Int) / 2 ^ 1 = (R.d : Int) := by omega
        have a5 : decide (V.int (Builtin.bitAnd ((2 * R.d + R.w.toNat : Nat) : Int) 1) = V.int 1) = R.w := by
          rw [bitAnd_m1]
          cases R.w with
          | true => exact decide_eq_true (by congr 1; show ((2 * R.d + 1 : Nat) : Int) % 2 = 1; omega)
          | false => exact decide_eq_false (by
              intro z
              injection z with z
              have z2 : ((2 * R.d + 0 : Nat) : Int) % 2 = 1 := z
              omega)
        simp only [V.int.injEq] at a5
        simp only [r_seq, r_next, r_brk, r_cont, r_asg, r_name, r_ret, r_retN, r_drop, r_ifs, r_never, r_var, r_c, r_op, r_un, r_if, r_tst, r_b, r_not, r_and, r_or, r_andV, r_orV, r_notV, r_nil, r_cons, r_tup, r_lst, r_cb, r_call, r_bm, r_bm0, r_sl, r_nopart, r_part, r_rev, r_gnil, r_gcons, r_gsub, r_par, r_aug, r_chain, r_I0, r_I, r_U, r_ixd, r_lend, r_tupd, r_listd, r_sld, r_app, r_ext, r_reverse, r_setl, r_cat, r_int1, r_eqS, r_neS, scal_ii, scal_bb, scal_ss, at0, at1, at2, sq_lst, sq_tup, isLst_lst, List.getElem?_cons_zero, List.getElem?_cons_succ, List.set_cons_zero, List.set_cons_succ, V.int.injEq, V.bl.injEq, V.ref.injEq, V.str.injEq, HO.lst.injEq, HO.tup.injEq, Option.some.injEq, exists_eq_left', exists_eq_left, List.cons.injEq, and_true, true_and, decide_eq_true_eq, reduceCtorEq, false_and, exists_false, or_false, false_or, exists_const, and_assoc, exists_and_left, List.append_nil, ix0, ix1, ix2, cm_mod, cdw1009, cdw2003, cdw7, cdw64, cdw2, cm104729, cm2, cm3, upd_same, List.length_cons, List.length_nil, Int.reduceLT, Int.reduceLE, Nat.reduceAdd, Nat.reduceLeDiff, Nat.reduceLT, Int.reduceToNat, r_for1, r_forL, r_forT, r_lcL, r_lc1, r_yes, r_gtupD, wipe_0, wipe_1, List.cons_append, List.nil_append, r_forS, r_ipI, ite_false, ite_true, Bool.not_true, Bool.not_false, decide_true, decide_false, r_isd, r_islt, cD_ty, cD_ref, tD_non, tD_bl, tD_int, tD_str, tD_ref, tH_lst, tH_tup, tH_dK, tH_ins, ki_self, ki_int_bool, ki_non_int, ki_str_int, ki_lt_lst, ki_lt_tup, r_fld, r_sfld, HO.ins.injEq, cx_K, hF5, tyV_lst, a1, a2, a3, a4, a5]
        refine ⟨szl (by decide), fun p hp => ?_⟩
        have Fp : F ≠ p := ne_new hF5 hp
        refine ⟨_, by rw [upd_ne Fp]; exact hF5, szlt (by rw [List.length_map, Paired.length hP, List.length_take]; omega), ⟨i + 1, refs ++ [p], some (.int (R.b : Int)), some (.int (R.s : Int)), some (.int (R.t : Int)), some (.int ((2 * R.d + R.w.toNat : Nat) : Int)), c0, ?_, ?_, ?_, ?_⟩, ?_⟩
        · have e9 : rbs (Rs.take (i + 1)) = pre ++ mk1 R.b ++ mk R.s ++ mk R.t ++ mkb false (2 * R.d + R.w.toNat) := by
            rw [List.take_succ_eq_append_getElem c0, rbs_snoc, ← hRe, hpre]
            unfold rb
            simp [mkb]
          rw [e9, List.length_append (bs := mkb false _)]
        · intro b o e
          rw [upd_ne (FH e), upd_ne (ne_new (S5 b o (s1 b o e)) hp)]
          exact S5 b o (s1 b o e)
        · rw [upd_same, List.map_append]
          rfl
        · rw [List.take_succ_eq_append_getElem c0, ← hRe]
          refine Paired.snoc' (Paired.map' hP fun r R e => ?_) (by rw [upd_ne Fp.symm, upd_same]; rfl)
          have rF : r ≠ F := fun z => by
            rw [z, h1] at e
            cases e
          rw [upd_ne rF, upd_ne (ne_new (S5 r _ e) hp)]
          exact S5 r _ e
        · show (rbs Rs).length - ((((pre ++ mk1 R.b ++ mk R.s ++ mk R.t).length + (mkb false (2 * R.d + R.w.toNat)).length : Nat) : Int)).toNat < (rbs Rs).length - ((pre.length : Nat) : Int).toNat
          have q1 := congrArg List.length g4
          rw [List.length_append, List.length_append (as := mkb false _) (bs := post)] at q1
          have q2 : pre.length < (pre ++ mk1 R.b ++ mk R.s ++ mk R.t).length := by
            obtain ⟨x, xs, e⟩ := mk_cons R.s
            rw [e]
            simp
            omega
          omega
      · have c0 : i = Rs.length := by
          have := of_decide_eq_false cc
          omega
        rw [c0, List.take_length] at hP
        simp only [r_seq, r_next, r_brk, r_cont, r_asg, r_name, r_ret, r_retN, r_drop, r_ifs, r_never, r_var, r_c, r_op, r_un, r_if, r_tst, r_b, r_not, r_and, r_or, r_andV, r_orV, r_notV, r_nil, r_cons, r_tup, r_lst, r_cb, r_call, r_bm, r_bm0, r_sl, r_nopart, r_part, r_rev, r_gnil, r_gcons, r_gsub, r_par, r_aug, r_chain, r_I0, r_I, r_U, r_ixd, r_lend, r_tupd, r_listd, r_sld, r_app, r_ext, r_reverse, r_setl, r_cat, r_int1, r_eqS, r_neS, scal_ii, scal_bb, scal_ss, at0, at1, at2, sq_lst, sq_tup, isLst_lst, List.getElem?_cons_zero, List.getElem?_cons_succ, List.set_cons_zero, List.set_cons_succ, V.int.injEq, V.bl.injEq, V.ref.injEq, V.str.injEq, HO.lst.injEq, HO.tup.injEq, Option.some.injEq, exists_eq_left', exists_eq_left, List.cons.injEq, and_true, true_and, decide_eq_true_eq, reduceCtorEq, false_and, exists_false, or_false, false_or, exists_const, and_assoc, exists_and_left, List.append_nil, ix0, ix1, ix2, cm_mod, cdw1009, cdw2003, cdw7, cdw64, cdw2, cm104729, cm2, cm3, upd_same, List.length_cons, List.length_nil, Int.reduceLT, Int.reduceLE, Nat.reduceAdd, Nat.reduceLeDiff, Nat.reduceLT, Int.reduceToNat, r_for1, r_forL, r_forT, r_lcL, r_lc1, r_yes, r_gtupD, wipe_0, wipe_1, List.cons_append, List.nil_append, r_forS, r_ipI, ite_false, ite_true, Bool.not_true, Bool.not_false, decide_true, decide_false, r_isd, r_islt, cD_ty, cD_ref, tD_non, tD_bl, tD_int, tD_str, tD_ref, tH_lst, tH_tup, tH_dK, tH_ins, ki_self, ki_int_bool, ki_non_int, ki_str_int, ki_lt_lst, ki_lt_tup, r_fld, r_sfld, HO.ins.injEq, cx_K]
        exact k F H1 hF s1 ⟨refs, h1, hP⟩
    · show (_ : TS) _ [some x, none, none, none, none, none, none, none] H
      have no := I.no n hn
      simp only [r_seq, r_next, r_brk, r_cont, r_asg, r_name, r_ret, r_retN, r_drop, r_ifs, r_never, r_var, r_c, r_op, r_un, r_if, r_tst, r_b, r_not, r_and, r_or, r_andV, r_orV, r_notV, r_nil, r_cons, r_tup, r_lst, r_cb, r_call, r_bm, r_bm0, r_sl, r_nopart, r_part, r_rev, r_gnil, r_gcons, r_gsub, r_par, r_aug, r_chain, r_I0, r_I, r_U, r_ixd, r_lend, r_tupd, r_listd, r_sld, r_app, r_ext, r_reverse, r_setl, r_cat, r_int1, r_eqS, r_neS, scal_ii, scal_bb, scal_ss, at0, at1, at2, sq_lst, sq_tup, isLst_lst, List.getElem?_cons_zero, List.getElem?_cons_succ, List.set_cons_zero, List.set_cons_succ, V.int.injEq, V.bl.injEq, V.ref.injEq, V.str.injEq, HO.lst.injEq, HO.tup.injEq, Option.some.injEq, exists_eq_left', exists_eq_left, List.cons.injEq, and_true, true_and, decide_eq_true_eq, reduceCtorEq, false_and, exists_false, or_false, false_or, exists_const, and_assoc, exists_and_left, List.append_nil, ix0, ix1, ix2, cm_mod, cdw1009, cdw2003, cdw7, cdw64, cdw2, cm104729, cm2, cm3, upd_same, List.length_cons, List.length_nil, Int.reduceLT, Int.reduceLE, Nat.reduceAdd, Nat.reduceLeDiff, Nat.reduceLT, Int.reduceToNat, r_for1, r_forL, r_forT, r_lcL, r_lc1, r_yes, r_gtupD, wipe_0, wipe_1, List.cons_append, List.nil_append, r_forS, r_ipI, ite_false, ite_true, Bool.not_true, Bool.not_false, decide_true, decide_false, r_isd, r_islt, cD_ty, cD_ref, tD_non, tD_bl, tD_int, tD_str, tD_ref, tH_lst, tH_tup, tH_dK, tH_ins, ki_self, ki_int_bool, ki_non_int, ki_str_int, ki_lt_lst, ki_lt_tup, r_fld, r_sfld, HO.ins.injEq, cx_K, hx, no]
      exact raise_x (fun Q q => q) k
end
end C47

set_option maxHeartbeats 1000000
namespace C47
open PySem PySem.Spec PyProof.Rows L2
/-! ### list(reversed(a tuple)) -/
theorem nolen_rt : typeLookup (.type "reversed") "__len__" = pure none := by rw [typeLookup_type, builtinLookup_eq_fast]; kernel_rfl
theorem hint_rt : typeLookup (.type "reversed") "__length_hint__" = pure (some (.builtin "reversed.__length_hint__")) := by rw [typeLookup_type, builtinLookup_eq_fast]; kernel_rfl
theorem slot_rt_hint : Slot "reversed" "__length_hint__" "reversed.__length_hint__" :=
  .of (owner := "reversed") (n := "__length_hint__") (by rw [typeLookup_type, builtinLookup_eq_fast]; kernel_rfl) (by decide +kernel) (by decide +kernel) (by decide +kernel)
    (by first | exact .inl (by decide +kernel) | exact .inr (by decide +kernel)) (by rw [isSubtype_type]; kernel_rfl)
theorem entry_rt_hint : entryFor table "reversed.__length_hint__" = some Builtin.«reversed.__length_hint__» := entryFor_of_tree (by kernel_rfl)
theorem args_rt_hint (a : Value) : argsOk "reversed.__length_hint__" ⟨[a], []⟩ := by
  unfold argsOk; rw [signature?_of (id := "reversed.__length_hint__") (n := ['_', '_', 't', 'n', 'i', 'h', '_', 'h', 't', 'g', 'n', 'e', 'l', '_', '_']) (o := ['d', 'e', 's', 'r', 'e', 'v', 'e', 'r']) (by kernel_rfl) RT.owner_rt]; kernel_rfl
theorem bind_rt_hint (self : Value) : bindSpecial (.builtin "reversed.__length_hint__") self = pure (.builtin "reversed.__length_hint__", [self]) := by
  unfold bindSpecial
  rw [show typeOf (.builtin "reversed.__length_hint__") = pure (.type "method_descriptor") from by show builtinType _ = _; rw [builtinType_eq_fast]; kernel_rfl]
  rfl
section
variable {prog : Program} {w : World} {A : Around} {E : Value → Shared → Prop} {s : Shared}
theorem rt_len {it t : Addr} {i : Int} {items : Array Value} {Q : Value → Shared → Prop} (hit : RT.IsRt s.heap it t i) (ht : IsTup s.heap t items) (hz : items.size ≤ sizeLine) (hi : i + 1 ≤ (items.size : Int))
    (h : ∀ tk u, Q (.int (i + 1) u) { s with toks := tk }) : wpAny (model prog w) A (call (.builtin "reversed.__length_hint__") [.ref it]) Q E s := by
  obtain ⟨o, ho, hc, hd⟩ := id hit
  have hn := line63
  refine wpAny_call_entry slot_rt_hint hit.typeIs entry_rt_hint ?_ (args_rt_hint _)
  unfold Builtin.«reversed.__length_hint__»
  refine wpAny_bind (wpAny_of_eq (a := Value.ref it) rfl ?_)
  try dsimp only
  refine wpAny_bind (wpAny_field ho hd (x := .ref t) rfl ?_)
  try dsimp only
  rw [if_neg (by intro h; cases h)]
  refine wpAny_bind (PyProof.Rows.len_tuple ht (by omega) ?_)
  refine wpAny_bind (wpAny_of_eq (a := some ((items.size : Nat) : Int)) rfl ?_)
  try dsimp only
  refine wpAny_bind (wpAny_field (s := { s with toks := s.toks + 1 + 1 }) ho hd (x := rawInt i) rfl ?_)
  show wpAny _ _ (if ((items.size : Nat) : Int) < i + 1 then _ else _) _ _ _
  rw [if_neg (by omega)]
  refine wpAny_bind (wpAny_mkInt (wpAny_pure ?_))
  exact ⟨_, rfl, h _ _⟩
theorem rt_hint {it t : Addr} {i : Int} {items : Array Value} {Q : Bool → Shared → Prop} (hit : RT.IsRt s.heap it t i) (ht : IsTup s.heap t items) (hz : items.size ≤ sizeLine) (hi : i + 1 ≤ (items.size : Int)) (hi0 : 0 ≤ i + 1)
    (h : ∀ tk, Q (i + 1 != 0) { s with toks := tk }) : wpAny (model prog w) A (Builtin.List.listLengthHint (.ref it)) Q E s := by
  unfold Builtin.List.listLengthHint
  refine wpAny_bind (wpAny_specialOf hit.typeIs nolen_rt ?_)
  show wpAny _ _ (specialOf (Value.ref it) (Str.ofString "__length_hint__") >>= _) _ _ _
  refine wpAny_bind (wpAny_specialOf hit.typeIs hint_rt ?_)
  generalize hid : ("reversed.__length_hint__" : String) = id0
  wp_delta
  rw [show splitId id0 = some ("reversed", "__length_hint__") from by subst hid; decide +kernel]
  refine wpAny_bind (wpAny_isInstance (b := true) hit.typeIs (by rw [isSubtype_type]; kernel_rfl) ?_)
  subst hid
  try dsimp only
  rw [if_neg (by decide), if_neg (by decide +kernel)]
  refine wpAny_bind (wpAny_rule ?_)
  rw [bind_rt_hint]
  refine wpAny_bind (wpAny_pure ?_)
  refine wpAny_bind (wpAny_attempt (rt_len hit ht hz hi fun tk u => ?_))
  refine wpAny_bind (wpAny_of_eq (a := some (i + 1)) rfl ?_)
  have f1 : Builtin.List.listFitsIndex (i + 1) = true := by
    have hn := line63
    unfold Builtin.List.listFitsIndex
    simp
    omega
  have f2 : Builtin.List.listTooLong (i + 1).toNat = false := by
    have hn := sizeLine_eq
    unfold Builtin.List.listTooLong
    simp
    omega
  show wpAny _ _ (if (!Builtin.List.listFitsIndex (i + 1)) = true then _ else _) _ _ _
  rw [f1, if_neg (by decide)]
  show wpAny _ _ (if (i + 1 : Int) < 0 then _ else _) _ _ _
  rw [if_neg (by omega)]
  show wpAny _ _ (if Builtin.List.listTooLong (i + 1).toNat = true then _ else _) _ _ _
  rw [f2, if_neg (by decide)]
  exact wpAny_pure (h _)
end
section
variable {prog : Program} {w : World} {A : Around} {s : Shared} {R : Result → Shared → Prop}
theorem walks_rt {prog : Program} {w : World} {A : Around} (hh : A.handled = none) (I t : Addr) (hne : t ≠ I) (items : Array Value) (hz : items.size ≤ sizeLine) :
    Walks prog w A I [I, t] [I] items.size (fun i v => items[items.size - 1 - i]? = some v) (fun i h => i ≤ items.size ∧ RT.IsRt h I t ((items.size : Int) - 1 - (i : Int)) ∧ IsTup h t items) where
  sub := fun b hb => by simp at hb; simp [hb]
  frame := fun _ _ _ x hk => ⟨x.1, x.2.1.at fun o e => hk I (by simp) o e, let ⟨o, ho, r⟩ := x.2.2; ⟨o, hk t (by simp) o ho, r⟩⟩
  item := fun i s Q E hi x hQ => by
    have e : (items.size : Int) - 1 - (i : Int) = ((items.size - 1 - i : Nat) : Int) := by omega
    have hit := x.2.1
    rw [e] at hit
    have hx : items[items.size - 1 - i]? = some (items[items.size - 1 - i]'(by omega)) := Array.getElem?_eq_getElem (by omega)
    refine RT.next_rt_item hit x.2.2 hx hz fun h' hit' hs' => ?_
    have e2 : ((items.size - 1 - i : Nat) : Int) - 1 = (items.size : Int) - 1 - ((i + 1 : Nat) : Int) := by omega
    rw [e2] at hit'
    exact hQ _ h' (s.toks + 1) hx ⟨hi, hit', let ⟨o, ho, r⟩ := x.2.2; ⟨o, (hs'.2 t hne).trans ho, r⟩⟩ fun b o hb eo => hs'.extBut b o (fun h => hb (by simp [h])) eo
  done := fun s Q E x hQ => by
    have e : (items.size : Int) - 1 - (items.size : Int) = -1 := by omega
    have hit := x.2.1
    rw [e] at hit
    exact RT.next_rt_end hh hit fun h' he' => hQ h' s.toks fun b o hb eo => he' b o (fun h => hb (by simp [h])) eo
  self := fun _ _ _ _ x hQ => RT.iter_rt x.2.1 hQ
theorem extend_rt {I t : Addr} {items : Array Value} (hh : A.handled = none) (hne : t ≠ I) (hz : items.size ≤ sizeLine) (S : Addr) (res : Value) (c₀ : Nat) (hit : RT.IsRt s.heap I t ((items.size : Int) - 1)) (ht : IsTup s.heap t items) (hSI : S ≠ I) (hSt : S ≠ t)
    (hS : s.heap.get? S = some { cls := .type "list", data := .seq #[] c₀ })
    (hR : ∀ s' acc' c', (∃ tk, s' = { s with heap := s'.heap, toks := tk }) → (∀ b o, b ≠ S → b ≠ I → s.heap.get? b = some o → s'.heap.get? b = some o) → s'.heap.get? S = some { cls := .type "list", dict := none, data := .seq acc' c', slots := #[] } →
      ItemsOf (fun i v => items[items.size - 1 - i]? = some v) acc' items.size → R (.ok (.ret res)) s') :
    wpAny (model prog w) A.in1 (Builtin.List.listExtendWith (.ref S) (.ref I) res)
      (fun fin s' => match fin with | .done f => R (.ok f) s' | .again c' => c'.quiet = true ∧ codeAny (model prog w) A c' R s') (fun e s' => R (.error e) s') s := by
  have W := (walks_rt (prog := prog) (w := w) (A := A.in1) hh I t hne items hz).toS
  have hSf : S ∉ [I, t] := by simp only [List.mem_cons, List.not_mem_nil, or_false, not_or]; exact ⟨hSI, hSt⟩
  unfold Builtin.List.listExtendWith
  refine wpAny_bind (wpAny_typeOf hit.typeIs ?_)
  have h1 : Builtin.List.listSameRef (.ref S) (.ref I) = false := by simp [Builtin.List.listSameRef, hSI]
  have h2 : (Value.type "reversed" == Value.type "list") = false := by decide
  have h3 : (Value.type "reversed" == Value.type "tuple") = false := by decide
  simp only [h1, h2, h3, Bool.or_false, Bool.false_eq_true, if_false]
  refine wpAny_bind (RT.iter_rt hit ?_)
  refine wpAny_bind (wpAny_holding ?_)
  refine rt_hint hit ht hz (by omega) (by omega) fun tk => ?_
  have e0 : ((items.size : Nat) : Int) - 1 - ((0 : Nat) : Int) = (items.size : Int) - 1 := by omega
  by_cases h0 : items.size = 0
  · rw [show ((items.size : Int) - 1 + 1 != 0) = false from by simp [h0]]
    rw [if_neg (by decide +kernel)]
    refine wpAny_pure ⟨plainId_quiet F.plain_extend_loop _, codeAny_extend_loopS W hz _ hSf _ items.size 0 _ _ _ rfl (Nat.zero_le _) ⟨Nat.zero_le _, by rw [e0]; exact hit, ht⟩ hS (ItemsOf.nil _) fun s' acc' c' hm hS' hacc => ?_⟩
    exact hR s' acc' c' (by have e := Moved.eq_with hm; exact ⟨_, e⟩) (fun b o h1 h2 e => hm.heap b o (by simp [h1, h2]) e) hS' hacc
  · rw [show ((items.size : Int) - 1 + 1 != 0) = true from by rw [bne_iff_ne]; omega]
    rw [if_pos (by decide +kernel)]
    refine wpAny_bind (wpAny_rule ?_)
    refine wpAny_bind ?_
    show wpAny _ A.in1 (updateSeq S (·.push .none) >>= fun _ => updateSeq S (·.pop)) _ _ _
    refine wpAny_bind (wpAny_updateSeq hS rfl ?_)
    have hS₂ := Heap.get?_update_self (Obj.mapSeq (·.push Value.none)) hS rfl
    refine wpAny_updateSeq (hz := by seq_fits) hS₂ rfl ?_
    have hS₃ := Heap.get?_update_self (Obj.mapSeq (·.pop)) hS₂ rfl
    have oth : ∀ b o, b ≠ S → s.heap.get? b = some o → ((s.heap.update S (Obj.mapSeq (·.push Value.none))).update S (Obj.mapSeq (·.pop))).get? b = some o :=
      fun b o hb e => (Heap.get?_update_other _ _ (Ne.symm hb)).trans ((Heap.get?_update_other _ _ (Ne.symm hb)).trans e)
    refine wpAny_pure ⟨plainId_quiet F.plain_extend_loop _, codeAny_extend_loopS W hz _ hSf _ items.size 0 _ _ _ rfl (Nat.zero_le _)
      ⟨Nat.zero_le _, by rw [e0]; exact hit.at fun o e => oth I o (Ne.symm hSI) e, let ⟨o, ho, r⟩ := ht; ⟨o, oth t o (Ne.symm hSt) ho, r⟩⟩ hS₃ (ItemsOf.nil _) fun s' acc' c' hm hS' hacc => ?_⟩
    exact hR s' acc' c' (by have e := Moved.eq_with hm; exact ⟨_, e⟩) (fun b o h1 h2 e => hm.heap b o (by simp [h1, h2]) (oth b o h1 e)) hS' hacc
theorem init_rt {I t : Addr} {items : Array Value} (hh : A.handled = none) (hne : t ≠ I) (hz : items.size ≤ sizeLine) (S : Addr) (hit : RT.IsRt s.heap I t ((items.size : Int) - 1)) (ht : IsTup s.heap t items) (hSI : S ≠ I) (hSt : S ≠ t)
    (hS : s.heap.get? S = some { cls := .type "list", data := .seq #[] })
    (hR : ∀ s' acc' c', (∃ tk, s' = { s with heap := s'.heap, toks := tk }) → (∀ b o, b ≠ S → b ≠ I → s.heap.get? b = some o → s'.heap.get? b = some o) → s'.heap.get? S = some { cls := .type "list", dict := none, data := .seq acc' c', slots := #[] } →
      ItemsOf (fun i v => items[items.size - 1 - i]? = some v) acc' items.size → R (.ok (.ret .none)) s') :
    wpAny (model prog w) A.in1 (Builtin.«list.__init__» ⟨[.ref S, .ref I], []⟩)
      (fun fin s' => match fin with | .done f => R (.ok f) s' | .again c' => c'.quiet = true ∧ codeAny (model prog w) A c' R s') (fun e s' => R (.error e) s') s := by
  show wpAny _ A.in1 (do let old ← Builtin.List.listItems (.ref S); Builtin.List.listUpdate (.ref S) (fun _ => #[]); letGo old.toList.reverse; Builtin.List.listExtendWith (.ref S) (.ref I) .none) _ _ s
  refine wpAny_bind ?_
  unfold Builtin.List.listItems
  refine wpAny_bind (wpAny_seqItems hS rfl (wpAny_pure ?_))
  show wpAny _ A.in1 (updateSeq S (fun _ => #[]) >>= fun _ => letGo (#[] : Array Value).toList.reverse >>= fun _ => Builtin.List.listExtendWith (.ref S) (.ref I) .none) _ _ s
  refine wpAny_bind (wpAny_updateSeq hS rfl ?_)
  have hS₂ := Heap.get?_update_self (Obj.mapSeq (fun _ => (#[] : Array Value))) hS rfl
  have oth : ∀ b o, b ≠ S → s.heap.get? b = some o → (s.heap.update S (Obj.mapSeq (fun _ => (#[] : Array Value)))).get? b = some o :=
    fun b o hb e => (Heap.get?_update_other _ _ (Ne.symm hb)).trans e
  refine wpAny_bind (wpAny_letGo ?_)
  refine extend_rt (s := { s with heap := s.heap.update S (Obj.mapSeq (fun _ => (#[] : Array Value))) }) hh hne hz S .none _ (hit.at fun o e => oth I o (Ne.symm hSI) e) (let ⟨o, ho, r⟩ := ht; ⟨o, oth t o (Ne.symm hSt) ho, r⟩) hSI hSt hS₂ fun s' acc' c' ⟨tk, es⟩ hk hS' hacc => ?_
  exact hR s' acc' c' ⟨tk, es⟩ (fun b o h1 h2 e => hk b o h1 h2 (oth b o h1 e)) hS' hacc
end
section
variable {prog : Program} {w : World} {A : Around} {E : Value → Shared → Prop} {s : Shared}
theorem call_list_rt {I t : Addr} {items : Array Value} {Q : Value → Shared → Prop} (hh : A.handled = none) (hne : t ≠ I) (hz : items.size ≤ sizeLine) (hit : RT.IsRt s.heap I t ((items.size : Int) - 1)) (ht : IsTup s.heap t items)
    (hQ : ∀ (h' : Heap) (tk : Nat) (acc : Array Value) (c : Nat), (∀ b o, b ≠ I → s.heap.get? b = some o → h'.get? b = some o) → h'.get? s.heap.objs.size = some { cls := .type "list", dict := none, data := .seq acc c, slots := #[] } →
      ItemsOf (fun i v => items[items.size - 1 - i]? = some v) acc items.size → Q (.ref s.heap.objs.size) { s with heap := h', toks := tk }) :
    wpAny (model prog w) A (call (.type "list") [.ref I]) Q E s := by
  obtain ⟨oi, hoi, _⟩ := id hit
  obtain ⟨ot, hot, _⟩ := id ht
  have hSI : s.heap.objs.size ≠ I := Nat.ne_of_gt (Heap.lt_size hoi)
  have hSt : s.heap.objs.size ≠ t := Nat.ne_of_gt (Heap.lt_size hot)
  refine callType_codes (Q₁ := fun obj s₁ => obj = .ref s.heap.objs.size ∧ s₁ = { s with heap := s.heap.push { cls := .type "list", data := .seq #[] } }) F.called_list (F.typeCall_list_1 _) F.entry_list_init
    (code_list_new _ ⟨rfl, rfl⟩) fun obj s₁ h₁ => ?_
  obtain ⟨rfl, rfl⟩ := h₁
  have hS : (s.heap.push { cls := .type "list", data := .seq #[] }).get? s.heap.objs.size = some { cls := .type "list", data := .seq #[] } := Heap.get?_push_size _ rfl
  refine ⟨⟨_, hS, rfl⟩, F.args_list_init_2 _ _, init_rt (A := A.in1) (s := { s with heap := s.heap.push { cls := .type "list", data := .seq #[] } }) hh hne hz _ (hit.at fun o e => Heap.get?_push_of_some _ e) (let ⟨o, ho, r⟩ := ht; ⟨o, Heap.get?_push_of_some _ ho, r⟩) hSI hSt hS fun s' acc' c' ⟨tk, es⟩ hk hS' hacc => ?_⟩
  have q := hQ s'.heap tk acc' c' (fun b o hb e => hk b o (Nat.ne_of_lt (Heap.lt_size e)) hb (Heap.get?_push_of_some _ e)) hS' hacc
  rw [es]
  exact ⟨rfl, q⟩
end
section
variable {X : Cx}
/-- list(reversed(x)), x a tuple: a new list -/
def tListRev (te : TE) : TE := fun σ H Q => te σ H fun v H1 => ∃ (a : Addr) (xs : List V), v = .ref a ∧ H1 a = some (.tup xs) ∧ ∀ q, H1 q = none → Q (.ref q) (L2.upd H1 q (.lst xs.reverse))
theorem pe_listRevT {e : Expr} {te : TE} {p p2 pos pos2 : Pos} (hc : X.calm = true) (hg : Gl X "list") (hm : X.mg "list" = none) (hg2 : Gl X "reversed") (hm2 : X.mg "reversed" = none) (he : PE X e te)
    (hs : starEach [e] X.env = (false, eval e X.env) :: starEach [] X.env := by rfl)
    (hs2 : starEach [.Call (.Name "reversed" p2) [e] [] pos2] X.env = (false, eval (.Call (.Name "reversed" p2) [e] [] pos2) X.env) :: starEach [] X.env := by rfl) :
    PE X (.Call (.Name "list" p) [.Call (.Name "reversed" p2) [e] [] pos2] [] pos) (tListRev te) := by
  refine ⟨fun pins s σ H Q I h => ?_⟩
  refine Call_ (ld_blt I hg hm boot_list (PyProof.Rows.callWith_type1 (args_cons (Call_ (ld_blt I hg2 hm2 PyProof.Rows.boot_reversed (PyProof.Rows.callWith_type1 (args_cons (thn (he.run pins s σ H _ I h) fun u s1 ⟨v, H1, I1, r1, q1⟩ => args_nil ?_) hs) hs rfl))) hs2) hs2 rfl))
  obtain ⟨a, xs, ev, hq, q⟩ := q1
  subst ev
  obtain rfl : u = Value.ref a := r1
  obtain ⟨its, rv, p', hz⟩ := I1.tuple (SqT.of hq)
  have hl := rv.length
  have hn := line63
  have hz' : its.toArray.size ≤ sizeLine := by rw [List.size_toArray, ← hl]; exact hz
  refine RT.call_reversed_tup p' (fun A E Q k => PyProof.Rows.len_tuple p' (by omega) k) (args_nil ?_)
  have hit : RT.IsRt (s1.heap.push (RT.rtObj a ((its.toArray.size : Int) - 1))) s1.heap.objs.size a ((its.toArray.size : Int) - 1) := ⟨_, Heap.get?_push_size _ rfl, rfl, rfl⟩
  have pt : IsTup (s1.heap.push (RT.rtObj a ((its.toArray.size : Int) - 1))) a its.toArray := let ⟨o, ho, r⟩ := p'; ⟨o, Heap.get?_push_of_some _ ho, r⟩
  have hne : a ≠ s1.heap.objs.size := Nat.ne_of_lt p'.lt
  refine call_list_rt (s := { s1 with heap := s1.heap.push (RT.rtObj a ((its.toArray.size : Int) - 1)), toks := s1.toks + 1 + 1 }) (I1.ok.hd hc) hne hz' hit pt fun h' tk acc c hk hS hi => ?_
  have sz : (s1.heap.push (RT.rtObj a ((its.toArray.size : Int) - 1))).objs.size = s1.heap.objs.size + 1 := by simp [Heap.push]
  have hle : s1.heap.objs.size ≤ (s1.heap.push (RT.rtObj a ((its.toArray.size : Int) - 1))).objs.size := by rw [sz]; exact Nat.le_succ _
  have I3 := I1.laid (t' := tk) (h' := h') (a := (s1.heap.push (RT.rtObj a ((its.toArray.size : Int) - 1))).objs.size) (o := .lst xs.reverse) (fun b o e => hk b o (Nat.ne_of_lt (Heap.lt_size e)) (Heap.get?_push_of_some _ e)) hle
    (show ObjOk X.prog X.w _ h' _ (.lst xs.reverse) from ⟨by rw [List.length_reverse]; exact hz, acc.toList, c, RT.vals_rev rv hi, by rw [Array.toArray_toList]; exact hS⟩)
  exact ⟨.ref _, _, I3, rfl, q _ (I1.hok.fresh hle)⟩
end

/-! ### texts: isascii, isprintable, encode; a number in bytes -/
section
variable {X : Cx}
theorem mt_isascii : MtR X "str.isascii" (fun x xs H Q => ∃ a, x = .str a ∧ xs = [] ∧ True ∧ Q (.bl (Txt.isascii a)) H) :=
  mt0 (C := fun _ => True) (g := fun a => .bl (Txt.isascii a)) fun _ _ s _ _ h => PySem.SC.isascii (h _ s.toks rfl)
theorem mt_isprintable : MtR X "str.isprintable" (fun x xs H Q => ∃ a, x = .str a ∧ xs = [] ∧ True ∧ Q (.bl (Txt.isprintable a)) H) :=
  mt0 (C := fun _ => True) (g := fun a => .bl (Txt.isprintable a)) fun _ _ s _ _ h => PySem.SC.isprintable (h _ s.toks rfl)
theorem mt_encode : MtR X "str.encode" (fun x xs H Q => ∃ a, x = .str a ∧ xs = [] ∧ PySem.W.KSb.Asc a ∧ a.length ≤ 16777216 ∧ ∀ c, PySem.W.KBw.bInts c = PySem.W.KSb.codes a → Q (.byt c) H) := by
  intro pins s σ H x xs v us Q I rx rs h
  obtain ⟨a, rfl, rfl, h1, h2, h⟩ := h
  obtain ⟨t, rfl⟩ := rx
  cases rs
  exact PySem.W.KSb.encode_K h1 h2 fun c t' k e _ _ => ⟨.byt c, H, I.tok k, ⟨_, rfl⟩, h c e⟩
def rNotInI : R2 := fun x y H Q => ∃ (n : Int) (b : Array UInt8), x = .int n ∧ y = .byt b ∧ 0 ≤ n ∧ n < 256 ∧ Q (.bl (!(PySem.W.KBw.bInts b).contains n)) H
theorem op_notInI : OpR X (compareOp .NotIn) rNotInI := by
  intro pins s σ H x y v u Q I rx ry h
  obtain ⟨n, b, rfl, rfl, h0, h1, q⟩ := h
  obtain ⟨t, rfl⟩ := rx
  obtain ⟨t', rfl⟩ := ry
  exact PySem.W.KBi.notIn_K rfl h0 h1 ⟨.bl _, H, I, rfl, q⟩
theorem pe_isascii {o : Expr} {to : TE} {apos pos : Pos} (ho : PE X o to) (hbase : attributeBase o "isascii" X.env (eval o X.env) = eval o X.env := by rfl) (hline : (apos.endLine == pos.line) = true := by rfl) :
    PE X (.Call (.Attribute o "isascii" apos) [] [] pos) (tM0 (fun x xs H Q => ∃ a, x = .str a ∧ xs = [] ∧ True ∧ Q (.bl (Txt.isascii a)) H) to) := pe_m0 F.slot_str_isascii F.type_str_isascii mt_isascii ho hbase hline
theorem pe_isprintable {o : Expr} {to : TE} {apos pos : Pos} (ho : PE X o to) (hbase : attributeBase o "isprintable" X.env (eval o X.env) = eval o X.env := by rfl) (hline : (apos.endLine == pos.line) = true := by rfl) :
    PE X (.Call (.Attribute o "isprintable" apos) [] [] pos) (tM0 (fun x xs H Q => ∃ a, x = .str a ∧ xs = [] ∧ True ∧ Q (.bl (Txt.isprintable a)) H) to) := pe_m0 F.slot_str_isprintable F.type_str_isprintable mt_isprintable ho hbase hline
theorem pe_encode {o : Expr} {to : TE} {apos pos : Pos} (ho : PE X o to) (hbase : attributeBase o "encode" X.env (eval o X.env) = eval o X.env := by rfl) (hline : (apos.endLine == pos.line) = true := by rfl) :
    PE X (.Call (.Attribute o "encode" apos) [] [] pos) (tM0 (fun x xs H Q => ∃ a, x = .str a ∧ xs = [] ∧ PySem.W.KSb.Asc a ∧ a.length ≤ 16777216 ∧ ∀ c, PySem.W.KBw.bInts c = PySem.W.KSb.codes a → Q (.byt c) H) to) := pe_m0 F.slot_str_encode F.type_str_encode mt_encode ho hbase hline
theorem r_m0 {r : V → List V → Hp → VK → Prop} {to : TE} {σ : L2.St} {H : Hp} {Q : VK} : tM0 r to σ H Q = to σ H (fun x H1 => (∃ a, x = .str a) ∧ r x [] H1 Q) := rfl
theorem r_listrev {te : TE} {σ : L2.St} {H : Hp} {Q : VK} : tListRev te σ H Q = te σ H (fun v H1 => ∃ (a : Addr) (xs : List V), v = .ref a ∧ H1 a = some (.tup xs) ∧ ∀ q, H1 q = none → Q (.ref q) (L2.upd H1 q (.lst xs.reverse))) := rfl
theorem r_notInI {x y : V} {H : Hp} {Q : VK} : rNotInI x y H Q = ∃ (n : Int) (b : Array UInt8), x = .int n ∧ y = .byt b ∧ 0 ≤ n ∧ n < 256 ∧ Q (.bl (!(PySem.W.KBw.bInts b).contains n)) H := rfl

end

/-! ### x is True, x is False; isidentifier; C() of a class without an own __init__ -/
def rIsBl : R2 := fun x y H Q => ∃ c : Bool, y = .bl c ∧ Q (.bl (decide (x = .bl c))) H
section
variable {X : Cx}
theorem op_isB : OpR X (compareOp .Is) rIsBl := by
  intro pins s σ H x y v u Q I rx ry h
  obtain ⟨c, rfl, q⟩ := h
  cases (show u = Value.bool c from ry)
  have eq_ : ∀ {b : Bool}, plainIs v (.bool c) = true → (v == Value.bool c) = b → b = decide (x = .bl c) → wpAny (model X.prog X.w) X.A (compareOp .Is v (.bool c)) (EP X pins σ Q) X.xe s := fun h1 h2 h3 => by
    show wpAny _ _ ((isSame v (Value.bool c)) >>= fun z => pure (Value.bool z)) _ _ s
    refine wpAny_bind (wpAny_isSame_plain h1 (wpAny_pure ?_))
    rw [h2]
    exact ⟨.bl _, H, I, by rw [h3]; rfl, q⟩
  cases x with
  | ref a =>
    cases rx
    exact eq_ rfl rfl rfl
  | non => cases rx; exact eq_ rfl rfl rfl
  | bl b => cases rx; cases b <;> cases c <;> exact eq_ rfl rfl rfl
  | int i => obtain ⟨t, rfl⟩ := rx; exact eq_ rfl rfl rfl
  | str x => obtain ⟨t, rfl⟩ := rx; exact eq_ rfl rfl rfl
  | byt x => obtain ⟨t, rfl⟩ := rx; exact eq_ rfl rfl rfl
  | flt x => obtain ⟨t, rfl⟩ := rx; exact eq_ rfl rfl rfl
  | ty n => cases rx; exact eq_ rfl rfl rfl
theorem r_isBl {x y : V} {H : Hp} {Q : VK} : rIsBl x y H Q = ∃ c : Bool, y = .bl c ∧ Q (.bl (decide (x = .bl c))) H := rfl
theorem mt_isidentifier : MtR X "str.isidentifier" (fun x xs H Q => ∃ a, x = .str a ∧ xs = [] ∧ True ∧ Q (.bl (Txt.isidentifier a)) H) :=
  mt0 (C := fun _ => True) (g := fun a => .bl (Txt.isidentifier a)) fun _ _ s _ _ h => PySem.SC.isidentifier (h _ s.toks rfl)
theorem pe_isidentifier {o : Expr} {to : TE} {apos pos : Pos} (ho : PE X o to) (hbase : attributeBase o "isidentifier" X.env (eval o X.env) = eval o X.env := by rfl) (hline : (apos.endLine == pos.line) = true := by rfl) :
    PE X (.Call (.Attribute o "isidentifier" apos) [] [] pos) (tM0 (fun x xs H Q => ∃ a, x = .str a ∧ xs = [] ∧ True ∧ Q (.bl (Txt.isidentifier a)) H) to) := pe_m0 F.slot_str_isidentifier F.type_str_isidentifier mt_isidentifier ho hbase hline
/-- what a class without an own __init__ must have to be made -/
structure MkP (K : PySem.W.Frag) (C : Addr) : Prop where
  makes : PySem.W.makesIn K C = true
  init : PySem.W.findIn K (.ref C) "__init__" = some (some (.builtin "object.__init__"))
  kp : PySem.W.keepIn K (.ref C) = true
def tPlain (C : Addr) : TE := fun _ H Q => ∀ x dx, H x = none → H dx = none → dx ≠ x → Q (.ref x) (upd (upd H dx (.own x)) x (.ins C dx []))
theorem run_plain {C : Addr} {pins : List (Addr × Obj)} {σ : L2.St} {H : Hp} {s : Shared} {Q : VK} (M : MkP X.K C) (I : Inv X pins σ H s)
    (h : ∀ x dx, H x = none → H dx = none → dx ≠ x → Q (.ref x) (upd (upd H dx (.own x)) x (.ins C dx []))) :
    wpAny (model X.prog X.w) X.A (call (.ref C) []) (EP X pins σ Q) X.xe s := by
  have hq := h (s.heap.objs.size + 1) s.heap.objs.size (I.hok.fresh (Nat.le_succ _)) (I.hok.fresh (Nat.le_refl _)) (Nat.ne_of_lt (Nat.lt_succ_self _))
  have I2 := Inv.made (C := C) I
  refine wpAny_call (make_map0 I.kIn M.makes M.init (fun self => PySem.W.Looks.of_pure (PySem.W.oi_bind _)) ?_)
  obtain ⟨hh, g, d, t, os⟩ := s
  obtain ⟨_, _, _, ho, _⟩ := I2.hok (hh.objs.size + 1) _ upd_same
  have t1 : PySem.W.Looks (model X.prog X.w) ((hh.push PySem.W.emptyDict).push (PySem.W.instObj C hh.objs.size)) (typeOf (.ref (hh.objs.size + 1))) (.ref C) := (PySem.W.Looks.ld ho).andThen .now
  refine codeAny_call_builtin PySem.W.oi_plain PySem.W.entry_oi (@PySem.W.check_slot (model X.prog X.w) _ _ _ "object.__init__" "object" "__init__" (.ref (hh.objs.size + 1)) [] [] _ PySem.W.oi_kind PySem.W.oi_split (t1.andThen (PySem.W.makes_of (M := model X.prog X.w) I2.kIn M.makes).top) (PySem.W.oi_args _) ?_)
  rw [PySem.W.oi_run]
  exact wpAny_pure ⟨rfl, ⟨V.ref (hh.objs.size + 1), _, I2, rfl, hq⟩⟩
theorem pe_plain {C : Addr} {x : Str} {p pos : Pos} (M : MkP X.K C) (hg : Gl X x) (hm : X.mg x = some (.ref C)) (hdb : (x == ("__debug__" : Str)) = false := by decide) : PE X (.Call (.Name x p) [] [] pos) (tPlain C) := by
  refine ⟨fun pins s σ H Q I h => ?_⟩
  refine wpAny_Call_Name_kw (ld_glob I hg hm ?_ hdb)
  exact PySem.W.callWith_K0 I.kIn M.kp (run_plain M I h)
theorem r_plain {C : Addr} {σ : L2.St} {H : Hp} {Q : VK} : tPlain C σ H Q = ∀ x dx, H x = none → H dx = none → dx ≠ x → Q (.ref x) (upd (upd H dx (.own x)) x (.ins C dx [])) := rfl
end

/-- what is known of the class Known: nothing that is handed in is one -/
structure KnownT (K : PySem.W.Frag) (mg : Str → Option Value) (C : Addr) : Prop where
  cI : ClsI K C
  g_Known : mg "Known" = some (.ref C)
  no : PySem.W.kitOne K (.type "list") (.ref C) = some false
def spNumberOf : Sp := fun vs H Q _ => ∃ (n : Int) (f : Str), vs = [.int n, .str f] ∧ 0 ≤ n ∧ n ≤ 2147483647 ∧ Q (.int n) H
def spBytesOf : Sp := fun vs H Q _ => ∃ (a : Addr) (f : Str) (ns : List Nat), vs = [.ref a, .str f] ∧ H a = some (.lst (vn ns)) ∧ (∀ n ∈ ns, n < 256) ∧ ∀ p H', H p = none → Same H H' → H' p = some (.tup (vn ns)) → Q (.ref p) H'
def spStringOf : Sp := fun vs H Q _ => ∃ f : Str, vs = [.str "f", .str f] ∧ Q (.str "f") H
def spStringsOf : Sp := fun vs H Q _ => ∃ (a : Addr) (f : Str), vs = [.ref a, .str f] ∧ H a = some (.lst []) ∧ ∀ p H', H p = none → Same H H' → H' p = some (.tup []) → Q (.ref p) H'
def spIsString : Sp := fun vs H Q _ => vs = [.str "f"] ∧ Q (.bl true) H
def spDepthOf : Sp := fun vs H Q _ => ∃ a : Addr, vs = [.ref a] ∧ H a = some (.lst []) ∧ ∀ H', Same H H' → Q (.int 1) H'
section
variable {P : Program} {w : World} {K : PySem.W.Frag} {mg : Str → Option Value} {base : Heap} {f : Addr} {fd : FuncData}
abbrev snumber_of : Stmt := top 15
theorem scnumber_of : FnScope ["value", "field"] ["value", "field"] (defScope snumber_of) := ⟨rfl, rfl, rfl, by decide +kernel, rfl, by decide +kernel, by decide +kernel⟩

abbrev sbytes_of : Stmt := top 16
theorem scbytes_of : FnScope ["row", "field", "value"] ["row", "field"] (defScope sbytes_of) := ⟨rfl, rfl, rfl, by decide +kernel, rfl, by decide +kernel, by decide +kernel⟩

abbrev sstring_of : Stmt := top 17
theorem scstring_of : FnScope ["value", "field"] ["value", "field"] (defScope sstring_of) := ⟨rfl, rfl, rfl, by decide +kernel, rfl, by decide +kernel, by decide +kernel⟩

abbrev sstrings_of : Stmt := top 18
theorem scstrings_of : FnScope ["row", "field", "value"] ["row", "field"] (defScope sstrings_of) := ⟨rfl, rfl, rfl, by decide +kernel, rfl, by decide +kernel, by decide +kernel⟩

abbrev sis_string : Stmt := top 19
theorem scis_string : FnScope ["value"] ["value"] (defScope sis_string) := ⟨rfl, rfl, rfl, by decide +kernel, rfl, by decide +kernel, by decide +kernel⟩

abbrev sdepth_of : Stmt := top 20
theorem scdepth_of : FnScope ["constants", "depth", "value"] ["constants"] (defScope sdepth_of) := ⟨rfl, rfl, rfl, by decide +kernel, rfl, by decide +kernel, by decide +kernel⟩

theorem ok_number_of {CC : Addr} (T : Txt mg) (I : CodeT K mg CC) (F : FnP K "number_of" "number_of" snumber_of f fd) : FnOk P w K mg base CX0 1 f fd ["value", "field"] spNumberOf := by
  refine F.ok scnumber_of (fun vs H Q E h => ?_) (fun cdv A outer s H vs Q E hr h => ?_)
  · obtain ⟨n, f, rfl, _⟩ := h
    rfl
  · obtain ⟨n, f, rfl, h0, h1, k⟩ := h
    refine ⟨_, PSs.nox (pss_cons (ps_if (PW.pt (pw_or (pt_not (pt_val (pe_callB (call_is_d I.cI) (by rfl) T.b_isinstance (by decide +kernel) (pa_cons (pv 0) (pa_cons (pe_bltn (v := .ty "int") (by rfl) T.b_int (by decide +kernel) rfl) pa_nil))))) (pw_or (pt_cmpR op_isB (pv 0) pe_bl (nomark _)) (pw_or (pt_cmpR op_isB (pv 0) pe_bl (nomark _)) (pw_or1 (pt_not (pt_chain op_le op_le pe_int (pv 0) (pe_gi T.g_GREATEST))))))))
    (pss_one ps_never)
    pss_nil)
  (pss_one (ps_ret (pv 0)))), ?_⟩
    show (_ : TS) _ [some (.int n), some (.str f)] H
    simp only [r_seq, r_next, r_brk, r_cont, r_asg, r_name, r_ret, r_retN, r_drop, r_ifs, r_never, r_var, r_c, r_op, r_un, r_if, r_tst, r_b, r_not, r_and, r_or, r_andV, r_orV, r_notV, r_nil, r_cons, r_tup, r_lst, r_cb, r_call, r_bm, r_bm0, r_sl, r_nopart, r_part, r_rev, r_gnil, r_gcons, r_gsub, r_par, r_aug, r_chain, r_I0, r_I, r_U, r_ixd, r_lend, r_tupd, r_listd, r_sld, r_app, r_ext, r_reverse, r_setl, r_cat, r_int1, r_eqS, r_neS, scal_ii, scal_bb, scal_ss, at0, at1, at2, sq_lst, sq_tup, isLst_lst, List.getElem?_cons_zero, List.getElem?_cons_succ, List.set_cons_zero, List.set_cons_succ, V.int.injEq, V.bl.injEq, V.ref.injEq, V.str.injEq, HO.lst.injEq, HO.tup.injEq, Option.some.injEq, exists_eq_left', exists_eq_left, List.cons.injEq, and_true, true_and, decide_eq_true_eq, reduceCtorEq, false_and, exists_false, or_false, false_or, exists_const, and_assoc, exists_and_left, List.append_nil, ix0, ix1, ix2, cm_mod, cdw1009, cdw2003, cdw7, cdw64, cdw2, cm104729, cm2, cm3, upd_same, List.length_cons, List.length_nil, Int.reduceLT, Int.reduceLE, Nat.reduceAdd, Nat.reduceLeDiff, Nat.reduceLT, Int.reduceToNat, r_for1, r_forL, r_forT, r_lcL, r_lc1, r_yes, r_gtupD, wipe_0, wipe_1, List.cons_append, List.nil_append, r_forS, r_ipI, ite_false, ite_true, Bool.not_true, Bool.not_false, decide_true, decide_false, r_isd, r_islt, cD_ty, cD_ref, tD_non, tD_bl, tD_int, tD_str, tD_ref, tH_lst, tH_tup, tH_dK, tH_ins, ki_self, ki_int_bool, ki_non_int, ki_str_int, ki_lt_lst, ki_lt_tup, r_fld, r_sfld, HO.ins.injEq, cx_K, h0, h1, r_isBl]
    exact k
theorem ok_is_string {CC : Addr} (T : Txt mg) (I : CodeT K mg CC) (F : FnP K "is_string" "is_string" sis_string f fd) : FnOk P w K mg base CX0 1 f fd ["value"] spIsString := by
  refine F.ok scis_string (fun vs H Q E h => ?_) (fun cdv A outer s H vs Q E hr h => ?_)
  · obtain ⟨rfl, _⟩ := h
    rfl
  · obtain ⟨rfl, k⟩ := h
    refine ⟨_, PSs.nox (pss_cons (ps_if (PW.pt (pw_or (pt_not (pt_val (pe_callB (call_is_d I.cI) (by rfl) T.b_isinstance (by decide +kernel) (pa_cons (pv 0) (pa_cons (pe_bltn (v := .ty "str") (by rfl) T.b_str (by decide +kernel) rfl) pa_nil))))) (pw_or1 (pt_not (pt_val (pe_isascii (pv 0)))))))
    (pss_one (ps_ret pe_bl))
    pss_nil)
  (pss_one (ps_ret (pe_or (pe_isidentifier (pv 0)) (pe_one (pe_and (pe_isprintable (pv 0)) (pe_one (pe_cmpR op_notInI (pe_gi T.g_BARRED) (pe_encode (pv 0)) (by rfl))))))))), ?_⟩
    show (_ : TS) _ [some (.str "f")] H
    simp only [r_seq, r_next, r_brk, r_cont, r_asg, r_name, r_ret, r_retN, r_drop, r_ifs, r_never, r_var, r_c, r_op, r_un, r_if, r_tst, r_b, r_not, r_and, r_or, r_andV, r_orV, r_notV, r_nil, r_cons, r_tup, r_lst, r_cb, r_call, r_bm, r_bm0, r_sl, r_nopart, r_part, r_rev, r_gnil, r_gcons, r_gsub, r_par, r_aug, r_chain, r_I0, r_I, r_U, r_ixd, r_lend, r_tupd, r_listd, r_sld, r_app, r_ext, r_reverse, r_setl, r_cat, r_int1, r_eqS, r_neS, scal_ii, scal_bb, scal_ss, at0, at1, at2, sq_lst, sq_tup, isLst_lst, List.getElem?_cons_zero, List.getElem?_cons_succ, List.set_cons_zero, List.set_cons_succ, V.int.injEq, V.bl.injEq, V.ref.injEq, V.str.injEq, HO.lst.injEq, HO.tup.injEq, Option.some.injEq, exists_eq_left', exists_eq_left, List.cons.injEq, and_true, true_and, decide_eq_true_eq, reduceCtorEq, false_and, exists_false, or_false, false_or, exists_const, and_assoc, exists_and_left, List.append_nil, ix0, ix1, ix2, cm_mod, cdw1009, cdw2003, cdw7, cdw64, cdw2, cm104729, cm2, cm3, upd_same, List.length_cons, List.length_nil, Int.reduceLT, Int.reduceLE, Nat.reduceAdd, Nat.reduceLeDiff, Nat.reduceLT, Int.reduceToNat, r_for1, r_forL, r_forT, r_lcL, r_lc1, r_yes, r_gtupD, wipe_0, wipe_1, List.cons_append, List.nil_append, r_forS, r_ipI, ite_false, ite_true, Bool.not_true, Bool.not_false, decide_true, decide_false, r_isd, r_islt, cD_ty, cD_ref, tD_non, tD_bl, tD_int, tD_str, tD_ref, tH_lst, tH_tup, tH_dK, tH_ins, ki_self, ki_int_bool, ki_non_int, ki_str_int, ki_lt_lst, ki_lt_tup, r_fld, r_sfld, HO.ins.injEq, cx_K, r_m0]
    have e1 : Txt.isascii (Str.ofString "f") = true := by decide +kernel
    have e2 : Txt.isidentifier (Str.ofString "f") = true := by decide +kernel
    rw [e1, if_neg (by decide), if_pos e2]
    exact ⟨⟨_, rfl⟩, ⟨_, rfl⟩, k⟩
theorem ok_string_of {CC : Addr} (T : Txt mg) (I : CodeT K mg CC) (F : FnP K "string_of" "string_of" sstring_of f fd) (C_is_string : Cal P w K mg base 1 "is_string" ["value"] spIsString) : FnOk P w K mg base CX0 2 f fd ["value", "field"] spStringOf := by
  refine F.ok scstring_of (fun vs H Q E h => ?_) (fun cdv A outer s H vs Q E hr h => ?_)
  · obtain ⟨f, rfl, _⟩ := h
    rfl
  · obtain ⟨f, rfl, k⟩ := h
    refine ⟨_, PSs.nox (pss_cons (ps_if (pt_not (pt_val (pe_cal C_is_string (hr.mono (by decide)) rfl (pa_cons (pv 0) pa_nil))))
    (pss_one ps_never)
    pss_nil)
  (pss_one (ps_ret (pv 0)))), ?_⟩
    show (_ : TS) _ [some (.str "f"), some (.str f)] H
    simp only [r_seq, r_next, r_brk, r_cont, r_asg, r_name, r_ret, r_retN, r_drop, r_ifs, r_never, r_var, r_c, r_op, r_un, r_if, r_tst, r_b, r_not, r_and, r_or, r_andV, r_orV, r_notV, r_nil, r_cons, r_tup, r_lst, r_cb, r_call, r_bm, r_bm0, r_sl, r_nopart, r_part, r_rev, r_gnil, r_gcons, r_gsub, r_par, r_aug, r_chain, r_I0, r_I, r_U, r_ixd, r_lend, r_tupd, r_listd, r_sld, r_app, r_ext, r_reverse, r_setl, r_cat, r_int1, r_eqS, r_neS, scal_ii, scal_bb, scal_ss, at0, at1, at2, sq_lst, sq_tup, isLst_lst, List.getElem?_cons_zero, List.getElem?_cons_succ, List.set_cons_zero, List.set_cons_succ, V.int.injEq, V.bl.injEq, V.ref.injEq, V.str.injEq, HO.lst.injEq, HO.tup.injEq, Option.some.injEq, exists_eq_left', exists_eq_left, List.cons.injEq, and_true, true_and, decide_eq_true_eq, reduceCtorEq, false_and, exists_false, or_false, false_or, exists_const, and_assoc, exists_and_left, List.append_nil, ix0, ix1, ix2, cm_mod, cdw1009, cdw2003, cdw7, cdw64, cdw2, cm104729, cm2, cm3, upd_same, List.length_cons, List.length_nil, Int.reduceLT, Int.reduceLE, Nat.reduceAdd, Nat.reduceLeDiff, Nat.reduceLT, Int.reduceToNat, r_for1, r_forL, r_forT, r_lcL, r_lc1, r_yes, r_gtupD, wipe_0, wipe_1, List.cons_append, List.nil_append, r_forS, r_ipI, ite_false, ite_true, Bool.not_true, Bool.not_false, decide_true, decide_false, r_isd, r_islt, cD_ty, cD_ref, tD_non, tD_bl, tD_int, tD_str, tD_ref, tH_lst, tH_tup, tH_dK, tH_ins, ki_self, ki_int_bool, ki_non_int, ki_str_int, ki_lt_lst, ki_lt_tup, r_fld, r_sfld, HO.ins.injEq, cx_K]
    exact ⟨rfl, true, rfl, k⟩
theorem ok_bytes_of {CC KC : Addr} (T : Txt mg) (I : CodeT K mg CC) (IK : KnownT K mg KC) (F : FnP K "bytes_of" "bytes_of" sbytes_of f fd) : FnOk P w K mg base CX0 1 f fd ["row", "field"] spBytesOf := by
  refine F.ok scbytes_of (fun vs H Q E h => ?_) (fun cdv A outer s H vs Q E hr h => ?_)
  · obtain ⟨a, f, ns, rfl, _⟩ := h
    rfl
  · obtain ⟨a, f, ns, rfl, ha, hb, k⟩ := h
    refine ⟨_, PSs.nox (pss_cons (ps_if (pt_val (pe_callB (call_is_d IK.cI) (by rfl) T.b_isinstance (by decide +kernel) (pa_cons (pv 0) (pa_cons (pe_glob (v := .ref _) rfl IK.g_Known rfl) pa_nil))))
    (pss_one (ps_ret (pe_callTy call_tuple_d (by rfl) T.b_tuple (by decide +kernel) (pa_cons (pe_fld (pv 0) rfl) pa_nil))))
    pss_nil)
  (pss_cons (ps_if (pt_not (pt_val (pe_callB (call_is_lt I.cI) (by rfl) T.b_isinstance (by decide +kernel) (pa_cons (pv 0) (pa_cons (pe_tup (pa_cons (pe_bltn (v := .ty "list") (by rfl) T.b_list (by decide +kernel) rfl) (pa_cons (pe_bltn (v := .ty "tuple") (by rfl) T.b_tuple (by decide +kernel) rfl) pa_nil))) pa_nil)))))
    (pss_one ps_never)
    pss_nil)
  (pss_cons (ps_for PassesOwn.never rfl (pi_list (pv 0)) (pg_name (i := 2) scbytes_of.nd rfl (Or.inl rfl))
    (pss_one (ps_if (PW.pt (pw_or (pt_not (pt_val (pe_callB (call_is_d I.cI) (by rfl) T.b_isinstance (by decide +kernel) (pa_cons (pv 2) (pa_cons (pe_bltn (v := .ty "int") (by rfl) T.b_int (by decide +kernel) rfl) pa_nil))))) (pw_or (pt_val (pe_callB (call_is_d I.cI) (by rfl) T.b_isinstance (by decide +kernel) (pa_cons (pv 2) (pa_cons (pe_bltn (v := .ty "bool") (by rfl) T.b_bool (by decide +kernel) rfl) pa_nil)))) (pw_or1 (pt_not (pt_chain op_le op_le pe_int (pv 2) pe_int))))))
    (pss_one ps_never)
    pss_nil)))
  (pss_one (ps_ret (pe_callTy call_tuple_d (by rfl) T.b_tuple (by decide +kernel) (pa_cons (pv 0) pa_nil))))))), ?_⟩
    show (_ : TS) _ [some (.ref a), some (.str f), none] H
    have nk := IK.no
    simp only [r_seq, r_next, r_brk, r_cont, r_asg, r_name, r_ret, r_retN, r_drop, r_ifs, r_never, r_var, r_c, r_op, r_un, r_if, r_tst, r_b, r_not, r_and, r_or, r_andV, r_orV, r_notV, r_nil, r_cons, r_tup, r_lst, r_cb, r_call, r_bm, r_bm0, r_sl, r_nopart, r_part, r_rev, r_gnil, r_gcons, r_gsub, r_par, r_aug, r_chain, r_I0, r_I, r_U, r_ixd, r_lend, r_tupd, r_listd, r_sld, r_app, r_ext, r_reverse, r_setl, r_cat, r_int1, r_eqS, r_neS, scal_ii, scal_bb, scal_ss, at0, at1, at2, sq_lst, sq_tup, isLst_lst, List.getElem?_cons_zero, List.getElem?_cons_succ, List.set_cons_zero, List.set_cons_succ, V.int.injEq, V.bl.injEq, V.ref.injEq, V.str.injEq, HO.lst.injEq, HO.tup.injEq, Option.some.injEq, exists_eq_left', exists_eq_left, List.cons.injEq, and_true, true_and, decide_eq_true_eq, reduceCtorEq, false_and, exists_false, or_false, false_or, exists_const, and_assoc, exists_and_left, List.append_nil, ix0, ix1, ix2, cm_mod, cdw1009, cdw2003, cdw7, cdw64, cdw2, cm104729, cm2, cm3, upd_same, List.length_cons, List.length_nil, Int.reduceLT, Int.reduceLE, Nat.reduceAdd, Nat.reduceLeDiff, Nat.reduceLT, Int.reduceToNat, r_for1, r_forL, r_forT, r_lcL, r_lc1, r_yes, r_gtupD, wipe_0, wipe_1, List.cons_append, List.nil_append, r_forS, r_ipI, ite_false, ite_true, Bool.not_true, Bool.not_false, decide_true, decide_false, r_isd, r_islt, cD_ty, cD_ref, tD_non, tD_bl, tD_int, tD_str, tD_ref, tH_lst, tH_tup, tH_dK, tH_ins, ki_self, ki_int_bool, ki_non_int, ki_str_int, ki_lt_lst, ki_lt_tup, r_fld, r_sfld, HO.ins.injEq, cx_K, ha, nk]
    refine ⟨szl (by decide), fun p hp => ?_⟩
    have pa := une (ne_new ha hp)
    have ha1 : L2.upd H p (.tup [.ty "list", .ty "tuple"]) a = some (.lst (vn ns)) := by rw [pa]; exact ha
    simp only [r_seq, r_next, r_brk, r_cont, r_asg, r_name, r_ret, r_retN, r_drop, r_ifs, r_never, r_var, r_c, r_op, r_un, r_if, r_tst, r_b, r_not, r_and, r_or, r_andV, r_orV, r_notV, r_nil, r_cons, r_tup, r_lst, r_cb, r_call, r_bm, r_bm0, r_sl, r_nopart, r_part, r_rev, r_gnil, r_gcons, r_gsub, r_par, r_aug, r_chain, r_I0, r_I, r_U, r_ixd, r_lend, r_tupd, r_listd, r_sld, r_app, r_ext, r_reverse, r_setl, r_cat, r_int1, r_eqS, r_neS, scal_ii, scal_bb, scal_ss, at0, at1, at2, sq_lst, sq_tup, isLst_lst, List.getElem?_cons_zero, List.getElem?_cons_succ, List.set_cons_zero, List.set_cons_succ, V.int.injEq, V.bl.injEq, V.ref.injEq, V.str.injEq, HO.lst.injEq, HO.tup.injEq, Option.some.injEq, exists_eq_left', exists_eq_left, List.cons.injEq, and_true, true_and, decide_eq_true_eq, reduceCtorEq, false_and, exists_false, or_false, false_or, exists_const, and_assoc, exists_and_left, List.append_nil, ix0, ix1, ix2, cm_mod, cdw1009, cdw2003, cdw7, cdw64, cdw2, cm104729, cm2, cm3, upd_same, List.length_cons, List.length_nil, Int.reduceLT, Int.reduceLE, Nat.reduceAdd, Nat.reduceLeDiff, Nat.reduceLT, Int.reduceToNat, r_for1, r_forL, r_forT, r_lcL, r_lc1, r_yes, r_gtupD, wipe_0, wipe_1, List.cons_append, List.nil_append, r_forS, r_ipI, ite_false, ite_true, Bool.not_true, Bool.not_false, decide_true, decide_false, r_isd, r_islt, cD_ty, cD_ref, tD_non, tD_bl, tD_int, tD_str, tD_ref, tH_lst, tH_tup, tH_dK, tH_ins, ki_self, ki_int_bool, ki_non_int, ki_str_int, ki_lt_lst, ki_lt_tup, r_fld, r_sfld, HO.ins.injEq, cx_K, ha1]
    refine ⟨⟨_, SqL.of ha1⟩, lp_list (xs := vn ns) (fun i σ H' => (∃ v, σ = [some (.ref a), some (.str f), v]) ∧ H' = L2.upd H p (.tup [.ty "list", .ty "tuple"])) ⟨⟨_, rfl⟩, rfl⟩ (fun i σ H' _ ⟨_, e⟩ => SqL.of (by rw [e]; exact ha1)) ?_ ?_⟩
    · rintro i x σ H' hx ⟨⟨v, rfl⟩, rfl⟩
      obtain ⟨n, hn, rfl⟩ : ∃ n ∈ ns, x = .int (n : Int) := by
        have := List.mem_of_getElem? hx
        unfold vn at this
        obtain ⟨n, hn, e⟩ := List.mem_map.mp this
        exact ⟨n, hn, e.symm⟩
      have hb1 := hb n hn
      have c1 : (0 : Int) ≤ (n : Int) := by omega
      have c2 : (n : Int) ≤ 255 := by omega
      simp only [r_seq, r_next, r_brk, r_cont, r_asg, r_name, r_ret, r_retN, r_drop, r_ifs, r_never, r_var, r_c, r_op, r_un, r_if, r_tst, r_b, r_not, r_and, r_or, r_andV, r_orV, r_notV, r_nil, r_cons, r_tup, r_lst, r_cb, r_call, r_bm, r_bm0, r_sl, r_nopart, r_part, r_rev, r_gnil, r_gcons, r_gsub, r_par, r_aug, r_chain, r_I0, r_I, r_U, r_ixd, r_lend, r_tupd, r_listd, r_sld, r_app, r_ext, r_reverse, r_setl, r_cat, r_int1, r_eqS, r_neS, scal_ii, scal_bb, scal_ss, at0, at1, at2, sq_lst, sq_tup, isLst_lst, List.getElem?_cons_zero, List.getElem?_cons_succ, List.set_cons_zero, List.set_cons_succ, V.int.injEq, V.bl.injEq, V.ref.injEq, V.str.injEq, HO.lst.injEq, HO.tup.injEq, Option.some.injEq, exists_eq_left', exists_eq_left, List.cons.injEq, and_true, true_and, decide_eq_true_eq, reduceCtorEq, false_and, exists_false, or_false, false_or, exists_const, and_assoc, exists_and_left, List.append_nil, ix0, ix1, ix2, cm_mod, cdw1009, cdw2003, cdw7, cdw64, cdw2, cm104729, cm2, cm3, upd_same, List.length_cons, List.length_nil, Int.reduceLT, Int.reduceLE, Nat.reduceAdd, Nat.reduceLeDiff, Nat.reduceLT, Int.reduceToNat, r_for1, r_forL, r_forT, r_lcL, r_lc1, r_yes, r_gtupD, wipe_0, wipe_1, List.cons_append, List.nil_append, r_forS, r_ipI, ite_false, ite_true, Bool.not_true, Bool.not_false, decide_true, decide_false, r_isd, r_islt, cD_ty, cD_ref, tD_non, tD_bl, tD_int, tD_str, tD_ref, tH_lst, tH_tup, tH_dK, tH_ins, ki_self, ki_int_bool, ki_non_int, ki_str_int, ki_lt_lst, ki_lt_tup, r_fld, r_sfld, HO.ins.injEq, cx_K, c1, c2]
      exact ⟨_, rfl⟩
    · rintro σ H' ⟨⟨v, rfl⟩, rfl⟩
      simp only [r_seq, r_next, r_brk, r_cont, r_asg, r_name, r_ret, r_retN, r_drop, r_ifs, r_never, r_var, r_c, r_op, r_un, r_if, r_tst, r_b, r_not, r_and, r_or, r_andV, r_orV, r_notV, r_nil, r_cons, r_tup, r_lst, r_cb, r_call, r_bm, r_bm0, r_sl, r_nopart, r_part, r_rev, r_gnil, r_gcons, r_gsub, r_par, r_aug, r_chain, r_I0, r_I, r_U, r_ixd, r_lend, r_tupd, r_listd, r_sld, r_app, r_ext, r_reverse, r_setl, r_cat, r_int1, r_eqS, r_neS, scal_ii, scal_bb, scal_ss, at0, at1, at2, sq_lst, sq_tup, isLst_lst, List.getElem?_cons_zero, List.getElem?_cons_succ, List.set_cons_zero, List.set_cons_succ, V.int.injEq, V.bl.injEq, V.ref.injEq, V.str.injEq, HO.lst.injEq, HO.tup.injEq, Option.some.injEq, exists_eq_left', exists_eq_left, List.cons.injEq, and_true, true_and, decide_eq_true_eq, reduceCtorEq, false_and, exists_false, or_false, false_or, exists_const, and_assoc, exists_and_left, List.append_nil, ix0, ix1, ix2, cm_mod, cdw1009, cdw2003, cdw7, cdw64, cdw2, cm104729, cm2, cm3, upd_same, List.length_cons, List.length_nil, Int.reduceLT, Int.reduceLE, Nat.reduceAdd, Nat.reduceLeDiff, Nat.reduceLT, Int.reduceToNat, r_for1, r_forL, r_forT, r_lcL, r_lc1, r_yes, r_gtupD, wipe_0, wipe_1, List.cons_append, List.nil_append, r_forS, r_ipI, ite_false, ite_true, Bool.not_true, Bool.not_false, decide_true, decide_false, r_isd, r_islt, cD_ty, cD_ref, tD_non, tD_bl, tD_int, tD_str, tD_ref, tH_lst, tH_tup, tH_dK, tH_ins, ki_self, ki_int_bool, ki_non_int, ki_str_int, ki_lt_lst, ki_lt_tup, r_fld, r_sfld, HO.ins.injEq, cx_K, ha1]
      exact fun l hl => k l _ (by rw [upd_at] at hl; split at hl; cases hl; exact hl) (Same.new' (Same.new' (Same.refl H) hp) hl) upd_same
theorem ok_strings_of {CC : Addr} (T : Txt mg) (I : CodeT K mg CC) (F : FnP K "strings_of" "strings_of" sstrings_of f fd) (C_is_string : Cal P w K mg base 1 "is_string" ["value"] spIsString) : FnOk P w K mg base CX0 2 f fd ["row", "field"] spStringsOf := by
  refine F.ok scstrings_of (fun vs H Q E h => ?_) (fun cdv A outer s H vs Q E hr h => ?_)
  · obtain ⟨a, f, rfl, _⟩ := h
    rfl
  · obtain ⟨a, f, rfl, ha, k⟩ := h
    refine ⟨_, PSs.nox (pss_cons (ps_if (pt_not (pt_val (pe_callB (call_is_lt I.cI) (by rfl) T.b_isinstance (by decide +kernel) (pa_cons (pv 0) (pa_cons (pe_tup (pa_cons (pe_bltn (v := .ty "list") (by rfl) T.b_list (by decide +kernel) rfl) (pa_cons (pe_bltn (v := .ty "tuple") (by rfl) T.b_tuple (by decide +kernel) rfl) pa_nil))) pa_nil)))))
    (pss_one ps_never)
    pss_nil)
  (pss_cons (ps_for PassesOwn.never rfl (pi_list (pv 0)) (pg_name (i := 2) scstrings_of.nd rfl (Or.inl rfl))
    (pss_one (ps_if (pt_not (pt_val (pe_cal C_is_string (hr.mono (by decide)) rfl (pa_cons (pv 2) pa_nil))))
    (pss_one ps_never)
    pss_nil)))
  (pss_one (ps_ret (pe_callTy call_tuple_d (by rfl) T.b_tuple (by decide +kernel) (pa_cons (pv 0) pa_nil)))))), ?_⟩
    show (_ : TS) _ [some (.ref a), some (.str f), none] H
    simp only [r_seq, r_next, r_brk, r_cont, r_asg, r_name, r_ret, r_retN, r_drop, r_ifs, r_never, r_var, r_c, r_op, r_un, r_if, r_tst, r_b, r_not, r_and, r_or, r_andV, r_orV, r_notV, r_nil, r_cons, r_tup, r_lst, r_cb, r_call, r_bm, r_bm0, r_sl, r_nopart, r_part, r_rev, r_gnil, r_gcons, r_gsub, r_par, r_aug, r_chain, r_I0, r_I, r_U, r_ixd, r_lend, r_tupd, r_listd, r_sld, r_app, r_ext, r_reverse, r_setl, r_cat, r_int1, r_eqS, r_neS, scal_ii, scal_bb, scal_ss, at0, at1, at2, sq_lst, sq_tup, isLst_lst, List.getElem?_cons_zero, List.getElem?_cons_succ, List.set_cons_zero, List.set_cons_succ, V.int.injEq, V.bl.injEq, V.ref.injEq, V.str.injEq, HO.lst.injEq, HO.tup.injEq, Option.some.injEq, exists_eq_left', exists_eq_left, List.cons.injEq, and_true, true_and, decide_eq_true_eq, reduceCtorEq, false_and, exists_false, or_false, false_or, exists_const, and_assoc, exists_and_left, List.append_nil, ix0, ix1, ix2, cm_mod, cdw1009, cdw2003, cdw7, cdw64, cdw2, cm104729, cm2, cm3, upd_same, List.length_cons, List.length_nil, Int.reduceLT, Int.reduceLE, Nat.reduceAdd, Nat.reduceLeDiff, Nat.reduceLT, Int.reduceToNat, r_for1, r_forL, r_forT, r_lcL, r_lc1, r_yes, r_gtupD, wipe_0, wipe_1, List.cons_append, List.nil_append, r_forS, r_ipI, ite_false, ite_true, Bool.not_true, Bool.not_false, decide_true, decide_false, r_isd, r_islt, cD_ty, cD_ref, tD_non, tD_bl, tD_int, tD_str, tD_ref, tH_lst, tH_tup, tH_dK, tH_ins, ki_self, ki_int_bool, ki_non_int, ki_str_int, ki_lt_lst, ki_lt_tup, r_fld, r_sfld, HO.ins.injEq, cx_K, ha]
    refine ⟨szl (by decide), fun p hp => ?_⟩
    have pa := une (ne_new ha hp)
    have ha1 : L2.upd H p (.tup [.ty "list", .ty "tuple"]) a = some (.lst []) := by rw [pa]; exact ha
    simp only [r_seq, r_next, r_brk, r_cont, r_asg, r_name, r_ret, r_retN, r_drop, r_ifs, r_never, r_var, r_c, r_op, r_un, r_if, r_tst, r_b, r_not, r_and, r_or, r_andV, r_orV, r_notV, r_nil, r_cons, r_tup, r_lst, r_cb, r_call, r_bm, r_bm0, r_sl, r_nopart, r_part, r_rev, r_gnil, r_gcons, r_gsub, r_par, r_aug, r_chain, r_I0, r_I, r_U, r_ixd, r_lend, r_tupd, r_listd, r_sld, r_app, r_ext, r_reverse, r_setl, r_cat, r_int1, r_eqS, r_neS, scal_ii, scal_bb, scal_ss, at0, at1, at2, sq_lst, sq_tup, isLst_lst, List.getElem?_cons_zero, List.getElem?_cons_succ, List.set_cons_zero, List.set_cons_succ, V.int.injEq, V.bl.injEq, V.ref.injEq, V.str.injEq, HO.lst.injEq, HO.tup.injEq, Option.some.injEq, exists_eq_left', exists_eq_left, List.cons.injEq, and_true, true_and, decide_eq_true_eq, reduceCtorEq, false_and, exists_false, or_false, false_or, exists_const, and_assoc, exists_and_left, List.append_nil, ix0, ix1, ix2, cm_mod, cdw1009, cdw2003, cdw7, cdw64, cdw2, cm104729, cm2, cm3, upd_same, List.length_cons, List.length_nil, Int.reduceLT, Int.reduceLE, Nat.reduceAdd, Nat.reduceLeDiff, Nat.reduceLT, Int.reduceToNat, r_for1, r_forL, r_forT, r_lcL, r_lc1, r_yes, r_gtupD, wipe_0, wipe_1, List.cons_append, List.nil_append, r_forS, r_ipI, ite_false, ite_true, Bool.not_true, Bool.not_false, decide_true, decide_false, r_isd, r_islt, cD_ty, cD_ref, tD_non, tD_bl, tD_int, tD_str, tD_ref, tH_lst, tH_tup, tH_dK, tH_ins, ki_self, ki_int_bool, ki_non_int, ki_str_int, ki_lt_lst, ki_lt_tup, r_fld, r_sfld, HO.ins.injEq, cx_K, ha1]
    refine ⟨⟨_, SqL.of ha1⟩, lp_nil (SqL.of ha1) ?_⟩
    simp only [r_seq, r_next, r_brk, r_cont, r_asg, r_name, r_ret, r_retN, r_drop, r_ifs, r_never, r_var, r_c, r_op, r_un, r_if, r_tst, r_b, r_not, r_and, r_or, r_andV, r_orV, r_notV, r_nil, r_cons, r_tup, r_lst, r_cb, r_call, r_bm, r_bm0, r_sl, r_nopart, r_part, r_rev, r_gnil, r_gcons, r_gsub, r_par, r_aug, r_chain, r_I0, r_I, r_U, r_ixd, r_lend, r_tupd, r_listd, r_sld, r_app, r_ext, r_reverse, r_setl, r_cat, r_int1, r_eqS, r_neS, scal_ii, scal_bb, scal_ss, at0, at1, at2, sq_lst, sq_tup, isLst_lst, List.getElem?_cons_zero, List.getElem?_cons_succ, List.set_cons_zero, List.set_cons_succ, V.int.injEq, V.bl.injEq, V.ref.injEq, V.str.injEq, HO.lst.injEq, HO.tup.injEq, Option.some.injEq, exists_eq_left', exists_eq_left, List.cons.injEq, and_true, true_and, decide_eq_true_eq, reduceCtorEq, false_and, exists_false, or_false, false_or, exists_const, and_assoc, exists_and_left, List.append_nil, ix0, ix1, ix2, cm_mod, cdw1009, cdw2003, cdw7, cdw64, cdw2, cm104729, cm2, cm3, upd_same, List.length_cons, List.length_nil, Int.reduceLT, Int.reduceLE, Nat.reduceAdd, Nat.reduceLeDiff, Nat.reduceLT, Int.reduceToNat, r_for1, r_forL, r_forT, r_lcL, r_lc1, r_yes, r_gtupD, wipe_0, wipe_1, List.cons_append, List.nil_append, r_forS, r_ipI, ite_false, ite_true, Bool.not_true, Bool.not_false, decide_true, decide_false, r_isd, r_islt, cD_ty, cD_ref, tD_non, tD_bl, tD_int, tD_str, tD_ref, tH_lst, tH_tup, tH_dK, tH_ins, ki_self, ki_int_bool, ki_non_int, ki_str_int, ki_lt_lst, ki_lt_tup, r_fld, r_sfld, HO.ins.injEq, cx_K, ha1]
    exact fun l hl => k l _ (by rw [upd_at] at hl; split at hl; cases hl; exact hl) (Same.new' (Same.new' (Same.refl H) hp) hl) upd_same
theorem ok_depth_of {CC : Addr} (T : Txt mg) (I : CodeT K mg CC) (F : FnP K "depth_of" "depth_of" sdepth_of f fd) : FnOk P w K mg base CX0 1 f fd ["constants"] spDepthOf := by
  refine F.ok scdepth_of (fun vs H Q E h => ?_) (fun cdv A outer s H vs Q E hr h => ?_)
  · obtain ⟨a, rfl, _⟩ := h
    rfl
  · obtain ⟨a, rfl, ha, k⟩ := h
    refine ⟨_, PSs.nox (pss_cons (ps_if (pt_not (pt_val (pe_callB (call_is_lt I.cI) (by rfl) T.b_isinstance (by decide +kernel) (pa_cons (pv 0) (pa_cons (pe_tup (pa_cons (pe_bltn (v := .ty "list") (by rfl) T.b_list (by decide +kernel) rfl) (pa_cons (pe_bltn (v := .ty "tuple") (by rfl) T.b_tuple (by decide +kernel) rfl) pa_nil))) pa_nil)))))
    (pss_one ps_never)
    pss_nil)
  (pss_cons (ps_set (i := 1) scdepth_of.nd rfl (Or.inl rfl) pe_int)
  (pss_cons (ps_for PassesOwn.never rfl (pi_list (pv 0)) (pg_name (i := 2) scdepth_of.nd rfl (Or.inl rfl))
    (pss_one ps_never))
  (pss_cons (ps_if (pt_cmpR op_gt (pv 1) (pe_gi T.g_DEEPEST) (nomark _))
    (pss_one ps_never)
    pss_nil)
  (pss_one (ps_ret (pv 1))))))), ?_⟩
    show (_ : TS) _ [some (.ref a), none, none] H
    simp only [r_seq, r_next, r_brk, r_cont, r_asg, r_name, r_ret, r_retN, r_drop, r_ifs, r_never, r_var, r_c, r_op, r_un, r_if, r_tst, r_b, r_not, r_and, r_or, r_andV, r_orV, r_notV, r_nil, r_cons, r_tup, r_lst, r_cb, r_call, r_bm, r_bm0, r_sl, r_nopart, r_part, r_rev, r_gnil, r_gcons, r_gsub, r_par, r_aug, r_chain, r_I0, r_I, r_U, r_ixd, r_lend, r_tupd, r_listd, r_sld, r_app, r_ext, r_reverse, r_setl, r_cat, r_int1, r_eqS, r_neS, scal_ii, scal_bb, scal_ss, at0, at1, at2, sq_lst, sq_tup, isLst_lst, List.getElem?_cons_zero, List.getElem?_cons_succ, List.set_cons_zero, List.set_cons_succ, V.int.injEq, V.bl.injEq, V.ref.injEq, V.str.injEq, HO.lst.injEq, HO.tup.injEq, Option.some.injEq, exists_eq_left', exists_eq_left, List.cons.injEq, and_true, true_and, decide_eq_true_eq, reduceCtorEq, false_and, exists_false, or_false, false_or, exists_const, and_assoc, exists_and_left, List.append_nil, ix0, ix1, ix2, cm_mod, cdw1009, cdw2003, cdw7, cdw64, cdw2, cm104729, cm2, cm3, upd_same, List.length_cons, List.length_nil, Int.reduceLT, Int.reduceLE, Nat.reduceAdd, Nat.reduceLeDiff, Nat.reduceLT, Int.reduceToNat, r_for1, r_forL, r_forT, r_lcL, r_lc1, r_yes, r_gtupD, wipe_0, wipe_1, List.cons_append, List.nil_append, r_forS, r_ipI, ite_false, ite_true, Bool.not_true, Bool.not_false, decide_true, decide_false, r_isd, r_islt, cD_ty, cD_ref, tD_non, tD_bl, tD_int, tD_str, tD_ref, tH_lst, tH_tup, tH_dK, tH_ins, ki_self, ki_int_bool, ki_non_int, ki_str_int, ki_lt_lst, ki_lt_tup, r_fld, r_sfld, HO.ins.injEq, cx_K, ha]
    refine ⟨szl (by decide), fun p hp => ?_⟩
    have pa := une (ne_new ha hp)
    have ha1 : L2.upd H p (.tup [.ty "list", .ty "tuple"]) a = some (.lst []) := by rw [pa]; exact ha
    simp only [r_seq, r_next, r_brk, r_cont, r_asg, r_name, r_ret, r_retN, r_drop, r_ifs, r_never, r_var, r_c, r_op, r_un, r_if, r_tst, r_b, r_not, r_and, r_or, r_andV, r_orV, r_notV, r_nil, r_cons, r_tup, r_lst, r_cb, r_call, r_bm, r_bm0, r_sl, r_nopart, r_part, r_rev, r_gnil, r_gcons, r_gsub, r_par, r_aug, r_chain, r_I0, r_I, r_U, r_ixd, r_lend, r_tupd, r_listd, r_sld, r_app, r_ext, r_reverse, r_setl, r_cat, r_int1, r_eqS, r_neS, scal_ii, scal_bb, scal_ss, at0, at1, at2, sq_lst, sq_tup, isLst_lst, List.getElem?_cons_zero, List.getElem?_cons_succ, List.set_cons_zero, List.set_cons_succ, V.int.injEq, V.bl.injEq, V.ref.injEq, V.str.injEq, HO.lst.injEq, HO.tup.injEq, Option.some.injEq, exists_eq_left', exists_eq_left, List.cons.injEq, and_true, true_and, decide_eq_true_eq, reduceCtorEq, false_and, exists_false, or_false, false_or, exists_const, and_assoc, exists_and_left, List.append_nil, ix0, ix1, ix2, cm_mod, cdw1009, cdw2003, cdw7, cdw64, cdw2, cm104729, cm2, cm3, upd_same, List.length_cons, List.length_nil, Int.reduceLT, Int.reduceLE, Nat.reduceAdd, Nat.reduceLeDiff, Nat.reduceLT, Int.reduceToNat, r_for1, r_forL, r_forT, r_lcL, r_lc1, r_yes, r_gtupD, wipe_0, wipe_1, List.cons_append, List.nil_append, r_forS, r_ipI, ite_false, ite_true, Bool.not_true, Bool.not_false, decide_true, decide_false, r_isd, r_islt, cD_ty, cD_ref, tD_non, tD_bl, tD_int, tD_str, tD_ref, tH_lst, tH_tup, tH_dK, tH_ins, ki_self, ki_int_bool, ki_non_int, ki_str_int, ki_lt_lst, ki_lt_tup, r_fld, r_sfld, HO.ins.injEq, cx_K, ha1]
    refine ⟨⟨_, SqL.of ha1⟩, lp_nil (SqL.of ha1) ?_⟩
    simp only [r_seq, r_next, r_brk, r_cont, r_asg, r_name, r_ret, r_retN, r_drop, r_ifs, r_never, r_var, r_c, r_op, r_un, r_if, r_tst, r_b, r_not, r_and, r_or, r_andV, r_orV, r_notV, r_nil, r_cons, r_tup, r_lst, r_cb, r_call, r_bm, r_bm0, r_sl, r_nopart, r_part, r_rev, r_gnil, r_gcons, r_gsub, r_par, r_aug, r_chain, r_I0, r_I, r_U, r_ixd, r_lend, r_tupd, r_listd, r_sld, r_app, r_ext, r_reverse, r_setl, r_cat, r_int1, r_eqS, r_neS, scal_ii, scal_bb, scal_ss, at0, at1, at2, sq_lst, sq_tup, isLst_lst, List.getElem?_cons_zero, List.getElem?_cons_succ, List.set_cons_zero, List.set_cons_succ, V.int.injEq, V.bl.injEq, V.ref.injEq, V.str.injEq, HO.lst.injEq, HO.tup.injEq, Option.some.injEq, exists_eq_left', exists_eq_left, List.cons.injEq, and_true, true_and, decide_eq_true_eq, reduceCtorEq, false_and, exists_false, or_false, false_or, exists_const, and_assoc, exists_and_left, List.append_nil, ix0, ix1, ix2, cm_mod, cdw1009, cdw2003, cdw7, cdw64, cdw2, cm104729, cm2, cm3, upd_same, List.length_cons, List.length_nil, Int.reduceLT, Int.reduceLE, Nat.reduceAdd, Nat.reduceLeDiff, Nat.reduceLT, Int.reduceToNat, r_for1, r_forL, r_forT, r_lcL, r_lc1, r_yes, r_gtupD, wipe_0, wipe_1, List.cons_append, List.nil_append, r_forS, r_ipI, ite_false, ite_true, Bool.not_true, Bool.not_false, decide_true, decide_false, r_isd, r_islt, cD_ty, cD_ref, tD_non, tD_bl, tD_int, tD_str, tD_ref, tH_lst, tH_tup, tH_dK, tH_ins, ki_self, ki_int_bool, ki_non_int, ki_str_int, ki_lt_lst, ki_lt_tup, r_fld, r_sfld, HO.ins.injEq, cx_K]
    exact k _ (Same.new' (Same.refl H) hp)
end
end C47

set_option maxHeartbeats 2000000
namespace C47
open PySem PySem.Spec PyProof.Rows L2
/-- a method of a class of the text -/
def inClass (s : Stmt) (j : Nat) : Stmt := match s with
  | .ClassDef _ _ _ body _ _ _ _ _ _ _ => body.getD j (.Pass ⟨0, 0, 0, 0⟩)
  | _ => .Pass ⟨0, 0, 0, 0⟩
theorem lnF {f : Str} {v : V} {fs : List (Str × V)} {n : Nat} (h : fs.length ≤ n) : (putF f v fs).length ≤ n + 1 := Nat.le_trans (length_putF f v fs) (Nat.succ_le_succ h)
/-- one statement, what follows being kept closed -/
theorem seq_intro {t u : TS} {D : Ends} {σ : L2.St} {H : Hp} (h : ∀ N : L2.St → Hp → Prop, (∀ σ' H', N σ' H' = u D σ' H') → t { D with nx := N } σ H) : tSeq t u D σ H := h _ fun _ _ => rfl
/-- an instance that is being filled: all else stays, and what is known of its fields -/
def Ini (CC c dx : Addr) (H0 : Hp) (L : List (Str × V)) (Hk : Hp) : Prop := Keep c H0 Hk ∧ ∃ fs, Hk c = some (.ins CC dx fs) ∧ fs.length ≤ L.length ∧ ∀ f v, L.lookup f = some v → fs.lookup f = some v
theorem Ini.store {CC c dx : Addr} {H0 Hk : Hp} {L fs : List (Str × V)} {f : Str} {y : V} (kk : Keep c H0 Hk) (hl : fs.length ≤ L.length) (lk : ∀ f v, L.lookup f = some v → fs.lookup f = some v) :
    Ini CC c dx H0 ((f, y) :: L) (L2.upd Hk c (.ins CC dx (putF f y fs))) := by
  refine ⟨Keep.upd kk, _, upd_same, lnF hl, fun g v h => ?_⟩
  rw [lookup_putF]
  rw [List.lookup_cons] at h
  by_cases e : g = f
  · subst e
    rw [beq_self_eq_true] at h
    rw [if_pos rfl]
    exact h
  · rw [if_neg e]
    rw [show (g == f) = false from beq_eq_false_iff_ne.mpr e] at h
    exact lk g v h
theorem Ini.same {CC c dx : Addr} {H0 Hk H' : Hp} {L : List (Str × V)} (I : Ini CC c dx H0 L Hk) (s : Same Hk H') : Ini CC c dx H0 L H' := by
  obtain ⟨kk, fs, hc, hl, lk⟩ := I
  exact ⟨kk.trans (Keep.same s), fs, s c _ hc, hl, lk⟩
section
variable {H : Hp} {Q : VK} {E : XK}
theorem r_spN {n : Int} {f : Str} : spNumberOf [.int n, .str f] H Q E = (0 ≤ n ∧ n ≤ 2147483647 ∧ Q (.int n) H) := propext ⟨fun ⟨_, _, e, h⟩ => by cases e; exact h, fun h => ⟨_, _, rfl, h⟩⟩
theorem r_spS {f : Str} : spStringOf [.str "f", .str f] H Q E = Q (.str "f") H := propext ⟨fun ⟨_, e, h⟩ => by cases e; exact h, fun h => ⟨_, rfl, h⟩⟩
theorem r_spB {a : Addr} {f : Str} : spBytesOf [.ref a, .str f] H Q E = ∃ ns, H a = some (.lst (vn ns)) ∧ (∀ n ∈ ns, n < 256) ∧ ∀ p H', H p = none → Same H H' → H' p = some (.tup (vn ns)) → Q (.ref p) H' := propext ⟨fun ⟨_, _, ns, e, h⟩ => by cases e; exact ⟨ns, h⟩, fun ⟨ns, h⟩ => ⟨_, _, ns, rfl, h⟩⟩
theorem r_spSs {a : Addr} {f : Str} : spStringsOf [.ref a, .str f] H Q E = (H a = some (.lst []) ∧ ∀ p H', H p = none → Same H H' → H' p = some (.tup []) → Q (.ref p) H') := propext ⟨fun ⟨_, _, e, h⟩ => by cases e; exact h, fun h => ⟨_, _, rfl, h⟩⟩
theorem r_spD {a : Addr} : spDepthOf [.ref a] H Q E = (H a = some (.lst []) ∧ ∀ H', Same H H' → Q (.int 1) H') := propext ⟨fun ⟨_, e, h⟩ => by cases e; exact h, fun h => ⟨_, rfl, h⟩⟩
end
/-- a Code of which the law sees no more than this -/
def CodeAt (CC : Addr) (H : Hp) (c : Addr) (ds ls gs : List Nat) (first : Int) : Prop := ∃ (dx : Addr) (fs : List (Str × V)) (u v t : Addr), H c = some (.ins CC dx fs) ∧ fs.lookup ("code" : Str) = some (.ref u) ∧ H u = some (.tup (vn ds)) ∧
  fs.lookup ("line" : Str) = some (.int first) ∧ fs.lookup ("lines" : Str) = some (.ref v) ∧ H v = some (.tup (vn ls)) ∧ fs.lookup ("handlers" : Str) = some (.ref t) ∧ H t = some (.tup (vn gs))
def spCodeInit (CC : Addr) : Sp := fun vs H Q _ => ∃ (c dx d cs nm sl kd ln gd : Addr) (ds ls gs : List Nat) (first : Int),
  vs = [.ref c, .int 0, .int 0, .int 1, .int 0, .ref d, .ref cs, .ref nm, .ref sl, .ref kd, .str "f", .str "f", .int first, .ref ln, .ref gd] ∧ H c = some (.ins CC dx []) ∧
  H d = some (.lst (vn ds)) ∧ H cs = some (.lst []) ∧ H nm = some (.lst []) ∧ H sl = some (.lst []) ∧ H kd = some (.lst []) ∧ H ln = some (.lst (vn ls)) ∧ H gd = some (.lst (vn gs)) ∧
  (∀ n ∈ ds, n < 256) ∧ (∀ n ∈ ls, n < 256) ∧ (∀ n ∈ gs, n < 256) ∧ 0 ≤ first ∧ first ≤ 2147483647 ∧ ∀ H', Keep c H H' → CodeAt CC H' c ds ls gs first → Q .non H'
section
variable {P : Program} {w : World} {K : PySem.W.Frag} {mg : Str → Option Value} {base : Heap} {f : Addr} {fd : FuncData}
abbrev sCode_init : Stmt := inClass (top 12) 0
theorem scCode_init : FnScope ["self", "argcount", "onlycount", "stacksize", "flags", "code", "constants", "names", "slots", "kinds", "name", "path", "line", "lines", "handlers"] ["self", "argcount", "onlycount", "stacksize", "flags", "code", "constants", "names", "slots", "kinds", "name", "path", "line", "lines", "handlers"] (defScope sCode_init) := ⟨rfl, rfl, rfl, by decide +kernel, rfl, by decide +kernel, by decide +kernel⟩

theorem ok_Code_init {CC MM : Addr} (T : Txt mg) (I : CodeT K mg CC) (F : FnP K "__init__" "Code.__init__" sCode_init f fd) (C_number_of : Cal P w K mg base 1 "number_of" ["value", "field"] spNumberOf) (C_bytes_of : Cal P w K mg base 1 "bytes_of" ["row", "field"] spBytesOf)
    (C_string_of : Cal P w K mg base 2 "string_of" ["value", "field"] spStringOf) (C_strings_of : Cal P w K mg base 2 "strings_of" ["row", "field"] spStringsOf) (C_depth_of : Cal P w K mg base 1 "depth_of" ["constants"] spDepthOf) (PM : MkP K MM) (gM : mg "Mark" = some (.ref MM)) :
    FnOk P w K mg base CX0 3 f fd ["self", "argcount", "onlycount", "stacksize", "flags", "code", "constants", "names", "slots", "kinds", "name", "path", "line", "lines", "handlers"] (spCodeInit CC) := by
  refine F.ok scCode_init (fun vs H Q E h => ?_) (fun cdv A outer s H vs Q E hr h => ?_)
  · obtain ⟨c, dx, d, cs, nm, sl, kd, ln, gd, ds, ls, gs, first, rfl, _⟩ := h
    rfl
  · obtain ⟨c, dx, d, cs, nm, sl, kd, ln, gd, ds, ls, gs, first, rfl, hc, a0, a1, a2, a3, a4, a5, a6, bd, bl, bg, f0, f1, k⟩ := h
    refine ⟨_, PSs.nox (pss_cons (ps_fld (pv 0) (pe_cal C_number_of (hr.mono (by decide)) rfl (pa_cons (pv 1) (pa_cons pe_str pa_nil))) rfl)
  (pss_cons (ps_fld (pv 0) (pe_cal C_number_of (hr.mono (by decide)) rfl (pa_cons (pv 2) (pa_cons pe_str pa_nil))) rfl)
  (pss_cons (ps_fld (pv 0) (pe_cal C_number_of (hr.mono (by decide)) rfl (pa_cons (pv 3) (pa_cons pe_str pa_nil))) rfl)
  (pss_cons (ps_fld (pv 0) (pe_cal C_number_of (hr.mono (by decide)) rfl (pa_cons (pv 4) (pa_cons pe_str pa_nil))) rfl)
  (pss_cons (ps_fld (pv 0) (pe_cal C_bytes_of (hr.mono (by decide)) rfl (pa_cons (pv 5) (pa_cons pe_str pa_nil))) rfl)
  (pss_cons (ps_fld (pv 0) (pe_cal C_depth_of (hr.mono (by decide)) rfl (pa_cons (pv 6) pa_nil)) rfl)
  (pss_cons (ps_fld (pv 0) (pe_callTy call_tuple_d (by rfl) T.b_tuple (by decide +kernel) (pa_cons (pv 6) pa_nil)) rfl)
  (pss_cons (ps_fld (pv 0) (pe_cal C_strings_of (hr.mono (by decide)) rfl (pa_cons (pv 7) (pa_cons pe_str pa_nil))) rfl)
  (pss_cons (ps_fld (pv 0) (pe_cal C_strings_of (hr.mono (by decide)) rfl (pa_cons (pv 8) (pa_cons pe_str pa_nil))) rfl)
  (pss_cons (ps_fld (pv 0) (pe_cal C_bytes_of (hr.mono (by decide)) rfl (pa_cons (pv 9) (pa_cons pe_str pa_nil))) rfl)
  (pss_cons (ps_if (pt_cmpR op_ne (pe_callB call_len_d (by rfl) T.b_len (by decide +kernel) (pa_cons (pe_fld (pv 0) rfl) pa_nil)) (pe_callB call_len_d (by rfl) T.b_len (by decide +kernel) (pa_cons (pe_fld (pv 0) rfl) pa_nil)) (nomark _))
    (pss_one ps_never)
    pss_nil)
  (pss_cons (ps_fld (pv 0) (pe_cal C_string_of (hr.mono (by decide)) rfl (pa_cons (pv 10) (pa_cons pe_str pa_nil))) rfl)
  (pss_cons (ps_fld (pv 0) (pe_cal C_string_of (hr.mono (by decide)) rfl (pa_cons (pv 11) (pa_cons pe_str pa_nil))) rfl)
  (pss_cons (ps_fld (pv 0) (pe_cal C_number_of (hr.mono (by decide)) rfl (pa_cons (pv 12) (pa_cons pe_str pa_nil))) rfl)
  (pss_cons (ps_fld (pv 0) (pe_cal C_bytes_of (hr.mono (by decide)) rfl (pa_cons (pv 13) (pa_cons pe_str pa_nil))) rfl)
  (pss_cons (ps_fld (pv 0) (pe_cal C_bytes_of (hr.mono (by decide)) rfl (pa_cons (pv 14) (pa_cons pe_str pa_nil))) rfl)
  (pss_one (ps_fld (pv 0) (pe_plain PM rfl gM) rfl)))))))))))))))))), ?_⟩
    show (_ : TS) _ [some (.ref c), some (.int 0), some (.int 0), some (.int 1), some (.int 0), some (.ref d), some (.ref cs), some (.ref nm), some (.ref sl), some (.ref kd), some (.str "f"), some (.str "f"), some (.int first), some (.ref ln), some (.ref gd)] H
    have cl := I.cI.cl
    have n0 := eq_true (I.na "argcount" (by decide))
    have n1 := eq_true (I.na "onlycount" (by decide))
    have n2 := eq_true (I.na "stacksize" (by decide))
    have n3 := eq_true (I.na "flags" (by decide))
    have n4 := eq_true (I.na "code" (by decide))
    have n5 := eq_true (I.na "depth" (by decide))
    have n6 := eq_true (I.na "constants" (by decide))
    have n7 := eq_true (I.na "names" (by decide))
    have n8 := eq_true (I.na "slots" (by decide))
    have n9 := eq_true (I.na "kinds" (by decide))
    have n10 := eq_true (I.na "name" (by decide))
    have n11 := eq_true (I.na "path" (by decide))
    have n12 := eq_true (I.na "line" (by decide))
    have n13 := eq_true (I.na "lines" (by decide))
    have n14 := eq_true (I.na "handlers" (by decide))
    have n15 := eq_true (I.na "identity" (by decide))
    have z0 : d ≠ c := by rintro rfl; rw [a0] at hc; cases hc
    have z1 : cs ≠ c := by rintro rfl; rw [a1] at hc; cases hc
    have z2 : nm ≠ c := by rintro rfl; rw [a2] at hc; cases hc
    have z3 : sl ≠ c := by rintro rfl; rw [a3] at hc; cases hc
    have z4 : kd ≠ c := by rintro rfl; rw [a4] at hc; cases hc
    have z5 : ln ≠ c := by rintro rfl; rw [a5] at hc; cases hc
    have z6 : gd ≠ c := by rintro rfl; rw [a6] at hc; cases hc
    have i0 : Ini CC c dx H [] H := ⟨Keep.refl c H, [], hc, Nat.le_refl _, fun f v h => by cases h⟩
    -- argcount
    refine seq_intro fun N e => ?_
    obtain ⟨kk, fs, hc, hl, lk⟩ := i0
    have l0 : fs.length < 1000 := Nat.lt_of_le_of_lt hl (by simp only [List.length_cons, List.length_nil]; decide)
    simp only [r_seq, r_next, r_brk, r_cont, r_asg, r_name, r_ret, r_retN, r_drop, r_ifs, r_never, r_var, r_c, r_op, r_un, r_if, r_tst, r_b, r_not, r_and, r_or, r_andV, r_orV, r_notV, r_nil, r_cons, r_tup, r_lst, r_cb, r_call, r_bm, r_bm0, r_sl, r_nopart, r_part, r_rev, r_gnil, r_gcons, r_gsub, r_par, r_aug, r_chain, r_I0, r_I, r_U, r_ixd, r_lend, r_tupd, r_listd, r_sld, r_app, r_ext, r_reverse, r_setl, r_cat, r_int1, r_eqS, r_neS, scal_ii, scal_bb, scal_ss, at0, at1, at2, sq_lst, sq_tup, isLst_lst, List.getElem?_cons_zero, List.getElem?_cons_succ, List.set_cons_zero, List.set_cons_succ, V.int.injEq, V.bl.injEq, V.ref.injEq, V.str.injEq, HO.lst.injEq, HO.tup.injEq, Option.some.injEq, exists_eq_left', exists_eq_left, List.cons.injEq, and_true, true_and, decide_eq_true_eq, reduceCtorEq, false_and, exists_false, or_false, false_or, exists_const, and_assoc, exists_and_left, List.append_nil, ix0, ix1, ix2, cm_mod, cdw1009, cdw2003, cdw7, cdw64, cdw2, cm104729, cm2, cm3, upd_same, List.length_cons, List.length_nil, Int.reduceLT, Int.reduceLE, Nat.reduceAdd, Nat.reduceLeDiff, Nat.reduceLT, Int.reduceToNat, r_for1, r_forL, r_forT, r_lcL, r_lc1, r_yes, r_gtupD, wipe_0, wipe_1, List.cons_append, List.nil_append, r_forS, r_ipI, ite_false, ite_true, Bool.not_true, Bool.not_false, decide_true, decide_false, r_isd, r_islt, cD_ty, cD_ref, tD_non, tD_bl, tD_int, tD_str, tD_ref, tH_lst, tH_tup, tH_dK, tH_ins, ki_self, ki_int_bool, ki_non_int, ki_str_int, ki_lt_lst, ki_lt_tup, r_fld, r_sfld, HO.ins.injEq, cx_K, r_spN, r_spS, hc, n0, l0, cl, f0, f1, (une z0), (une z1), (une z2), (une z3), (une z4), (une z5), (une z6)]
    rw [e]
    have i1 := Ini.store (CC := CC) (dx := dx) (f := "argcount") (y := .int 0) kk hl lk
    clear hc e N l0
    generalize L2.upd H c (.ins CC dx (putF "argcount" (.int 0) fs)) = H1 at i1 ⊢
    clear kk hl lk fs
    -- onlycount
    refine seq_intro fun N e => ?_
    obtain ⟨kk, fs, hc, hl, lk⟩ := i1
    have l0 : fs.length < 1000 := Nat.lt_of_le_of_lt hl (by simp only [List.length_cons, List.length_nil]; decide)
    simp only [r_seq, r_next, r_brk, r_cont, r_asg, r_name, r_ret, r_retN, r_drop, r_ifs, r_never, r_var, r_c, r_op, r_un, r_if, r_tst, r_b, r_not, r_and, r_or, r_andV, r_orV, r_notV, r_nil, r_cons, r_tup, r_lst, r_cb, r_call, r_bm, r_bm0, r_sl, r_nopart, r_part, r_rev, r_gnil, r_gcons, r_gsub, r_par, r_aug, r_chain, r_I0, r_I, r_U, r_ixd, r_lend, r_tupd, r_listd, r_sld, r_app, r_ext, r_reverse, r_setl, r_cat, r_int1, r_eqS, r_neS, scal_ii, scal_bb, scal_ss, at0, at1, at2, sq_lst, sq_tup, isLst_lst, List.getElem?_cons_zero, List.getElem?_cons_succ, List.set_cons_zero, List.set_cons_succ, V.int.injEq, V.bl.injEq, V.ref.injEq, V.str.injEq, HO.lst.injEq, HO.tup.injEq, Option.some.injEq, exists_eq_left', exists_eq_left, List.cons.injEq, and_true, true_and, decide_eq_true_eq, reduceCtorEq, false_and, exists_false, or_false, false_or, exists_const, and_assoc, exists_and_left, List.append_nil, ix0, ix1, ix2, cm_mod, cdw1009, cdw2003, cdw7, cdw64, cdw2, cm104729, cm2, cm3, upd_same, List.length_cons, List.length_nil, Int.reduceLT, Int.reduceLE, Nat.reduceAdd, Nat.reduceLeDiff, Nat.reduceLT, Int.reduceToNat, r_for1, r_forL, r_forT, r_lcL, r_lc1, r_yes, r_gtupD, wipe_0, wipe_1, List.cons_append, List.nil_append, r_forS, r_ipI, ite_false, ite_true, Bool.not_true, Bool.not_false, decide_true, decide_false, r_isd, r_islt, cD_ty, cD_ref, tD_non, tD_bl, tD_int, tD_str, tD_ref, tH_lst, tH_tup, tH_dK, tH_ins, ki_self, ki_int_bool, ki_non_int, ki_str_int, ki_lt_lst, ki_lt_tup, r_fld, r_sfld, HO.ins.injEq, cx_K, r_spN, r_spS, hc, n1, l0, cl, f0, f1, (une z0), (une z1), (une z2), (une z3), (une z4), (une z5), (une z6)]
    rw [e]
    have i2 := Ini.store (CC := CC) (dx := dx) (f := "onlycount") (y := .int 0) kk hl lk
    clear hc e N l0
    generalize L2.upd H1 c (.ins CC dx (putF "onlycount" (.int 0) fs)) = H2 at i2 ⊢
    clear kk hl lk fs
    -- stacksize
    refine seq_intro fun N e => ?_
    obtain ⟨kk, fs, hc, hl, lk⟩ := i2
    have l0 : fs.length < 1000 := Nat.lt_of_le_of_lt hl (by simp only [List.length_cons, List.length_nil]; decide)
    simp only [r_seq, r_next, r_brk, r_cont, r_asg, r_name, r_ret, r_retN, r_drop, r_ifs, r_never, r_var, r_c, r_op, r_un, r_if, r_tst, r_b, r_not, r_and, r_or, r_andV, r_orV, r_notV, r_nil, r_cons, r_tup, r_lst, r_cb, r_call, r_bm, r_bm0, r_sl, r_nopart, r_part, r_rev, r_gnil, r_gcons, r_gsub, r_par, r_aug, r_chain, r_I0, r_I, r_U, r_ixd, r_lend, r_tupd, r_listd, r_sld, r_app, r_ext, r_reverse, r_setl, r_cat, r_int1, r_eqS, r_neS, scal_ii, scal_bb, scal_ss, at0, at1, at2, sq_lst, sq_tup, isLst_lst, List.getElem?_cons_zero, List.getElem?_cons_succ, List.set_cons_zero, List.set_cons_succ, V.int.injEq, V.bl.injEq, V.ref.injEq, V.str.injEq, HO.lst.injEq, HO.tup.injEq, Option.some.injEq, exists_eq_left', exists_eq_left, List.cons.injEq, and_true, true_and, decide_eq_true_eq, reduceCtorEq, false_and, exists_false, or_false, false_or, exists_const, and_assoc, exists_and_left, List.append_nil, ix0, ix1, ix2, cm_mod, cdw1009, cdw2003, cdw7, cdw64, cdw2, cm104729, cm2, cm3, upd_same, List.length_cons, List.length_nil, Int.reduceLT, Int.reduceLE, Nat.reduceAdd, Nat.reduceLeDiff, Nat.reduceLT, Int.reduceToNat, r_for1, r_forL, r_forT, r_lcL, r_lc1, r_yes, r_gtupD, wipe_0, wipe_1, List.cons_append, List.nil_append, r_forS, r_ipI, ite_false, ite_true, Bool.not_true, Bool.not_false, decide_true, decide_false, r_isd, r_islt, cD_ty, cD_ref, tD_non, tD_bl, tD_int, tD_str, tD_ref, tH_lst, tH_tup, tH_dK, tH_ins, ki_self, ki_int_bool, ki_non_int, ki_str_int, ki_lt_lst, ki_lt_tup, r_fld, r_sfld, HO.ins.injEq, cx_K, r_spN, r_spS, hc, n2, l0, cl, f0, f1, (une z0), (une z1), (une z2), (une z3), (une z4), (une z5), (une z6)]
    rw [e]
    have i3 := Ini.store (CC := CC) (dx := dx) (f := "stacksize") (y := .int 1) kk hl lk
    clear hc e N l0
    generalize L2.upd H2 c (.ins CC dx (putF "stacksize" (.int 1) fs)) = H3 at i3 ⊢
    clear kk hl lk fs
    -- flags
    refine seq_intro fun N e => ?_
    obtain ⟨kk, fs, hc, hl, lk⟩ := i3
    have l0 : fs.length < 1000 := Nat.lt_of_le_of_lt hl (by simp only [List.length_cons, List.length_nil]; decide)
    simp only [r_seq, r_next, r_brk, r_cont, r_asg, r_name, r_ret, r_retN, r_drop, r_ifs, r_never, r_var, r_c, r_op, r_un, r_if, r_tst, r_b, r_not, r_and, r_or, r_andV, r_orV, r_notV, r_nil, r_cons, r_tup, r_lst, r_cb, r_call, r_bm, r_bm0, r_sl, r_nopart, r_part, r_rev, r_gnil, r_gcons, r_gsub, r_par, r_aug, r_chain, r_I0, r_I, r_U, r_ixd, r_lend, r_tupd, r_listd, r_sld, r_app, r_ext, r_reverse, r_setl, r_cat, r_int1, r_eqS, r_neS, scal_ii, scal_bb, scal_ss, at0, at1, at2, sq_lst, sq_tup, isLst_lst, List.getElem?_cons_zero, List.getElem?_cons_succ, List.set_cons_zero, List.set_cons_succ, V.int.injEq, V.bl.injEq, V.ref.injEq, V.str.injEq, HO.lst.injEq, HO.tup.injEq, Option.some.injEq, exists_eq_left', exists_eq_left, List.cons.injEq, and_true, true_and, decide_eq_true_eq, reduceCtorEq, false_and, exists_false, or_false, false_or, exists_const, and_assoc, exists_and_left, List.append_nil, ix0, ix1, ix2, cm_mod, cdw1009, cdw2003, cdw7, cdw64, cdw2, cm104729, cm2, cm3, upd_same, List.length_cons, List.length_nil, Int.reduceLT, Int.reduceLE, Nat.reduceAdd, Nat.reduceLeDiff, Nat.reduceLT, Int.reduceToNat, r_for1, r_forL, r_forT, r_lcL, r_lc1, r_yes, r_gtupD, wipe_0, wipe_1, List.cons_append, List.nil_append, r_forS, r_ipI, ite_false, ite_true, Bool.not_true, Bool.not_false, decide_true, decide_false, r_isd, r_islt, cD_ty, cD_ref, tD_non, tD_bl, tD_int, tD_str, tD_ref, tH_lst, tH_tup, tH_dK, tH_ins, ki_self, ki_int_bool, ki_non_int, ki_str_int, ki_lt_lst, ki_lt_tup, r_fld, r_sfld, HO.ins.injEq, cx_K, r_spN, r_spS, hc, n3, l0, cl, f0, f1, (une z0), (une z1), (une z2), (une z3), (une z4), (une z5), (une z6)]
    rw [e]
    have i4 := Ini.store (CC := CC) (dx := dx) (f := "flags") (y := .int 0) kk hl lk
    clear hc e N l0
    generalize L2.upd H3 c (.ins CC dx (putF "flags" (.int 0) fs)) = H4 at i4 ⊢
    clear kk hl lk fs
    -- code
    refine seq_intro fun N e => ?_
    have i4' := i4
    obtain ⟨kk, fs, hc, hl, lk⟩ := i4
    have b0 := kk d _ z0 a0
    have l0 : fs.length < 1000 := Nat.lt_of_le_of_lt hl (by simp only [List.length_cons, List.length_nil]; decide)
    simp only [r_seq, r_next, r_brk, r_cont, r_asg, r_name, r_ret, r_retN, r_drop, r_ifs, r_never, r_var, r_c, r_op, r_un, r_if, r_tst, r_b, r_not, r_and, r_or, r_andV, r_orV, r_notV, r_nil, r_cons, r_tup, r_lst, r_cb, r_call, r_bm, r_bm0, r_sl, r_nopart, r_part, r_rev, r_gnil, r_gcons, r_gsub, r_par, r_aug, r_chain, r_I0, r_I, r_U, r_ixd, r_lend, r_tupd, r_listd, r_sld, r_app, r_ext, r_reverse, r_setl, r_cat, r_int1, r_eqS, r_neS, scal_ii, scal_bb, scal_ss, at0, at1, at2, sq_lst, sq_tup, isLst_lst, List.getElem?_cons_zero, List.getElem?_cons_succ, List.set_cons_zero, List.set_cons_succ, V.int.injEq, V.bl.injEq, V.ref.injEq, V.str.injEq, HO.lst.injEq, HO.tup.injEq, Option.some.injEq, exists_eq_left', exists_eq_left, List.cons.injEq, and_true, true_and, decide_eq_true_eq, reduceCtorEq, false_and, exists_false, or_false, false_or, exists_const, and_assoc, exists_and_left, List.append_nil, ix0, ix1, ix2, cm_mod, cdw1009, cdw2003, cdw7, cdw64, cdw2, cm104729, cm2, cm3, upd_same, List.length_cons, List.length_nil, Int.reduceLT, Int.reduceLE, Nat.reduceAdd, Nat.reduceLeDiff, Nat.reduceLT, Int.reduceToNat, r_for1, r_forL, r_forT, r_lcL, r_lc1, r_yes, r_gtupD, wipe_0, wipe_1, List.cons_append, List.nil_append, r_forS, r_ipI, ite_false, ite_true, Bool.not_true, Bool.not_false, decide_true, decide_false, r_isd, r_islt, cD_ty, cD_ref, tD_non, tD_bl, tD_int, tD_str, tD_ref, tH_lst, tH_tup, tH_dK, tH_ins, ki_self, ki_int_bool, ki_non_int, ki_str_int, ki_lt_lst, ki_lt_tup, r_fld, r_sfld, HO.ins.injEq, cx_K, r_spB, r_spSs, b0]
    refine ⟨_, rfl, bd, fun p5 G hp sG hG => ?_⟩
    have hc1 := sG c _ hc
    simp only [r_seq, r_next, r_brk, r_cont, r_asg, r_name, r_ret, r_retN, r_drop, r_ifs, r_never, r_var, r_c, r_op, r_un, r_if, r_tst, r_b, r_not, r_and, r_or, r_andV, r_orV, r_notV, r_nil, r_cons, r_tup, r_lst, r_cb, r_call, r_bm, r_bm0, r_sl, r_nopart, r_part, r_rev, r_gnil, r_gcons, r_gsub, r_par, r_aug, r_chain, r_I0, r_I, r_U, r_ixd, r_lend, r_tupd, r_listd, r_sld, r_app, r_ext, r_reverse, r_setl, r_cat, r_int1, r_eqS, r_neS, scal_ii, scal_bb, scal_ss, at0, at1, at2, sq_lst, sq_tup, isLst_lst, List.getElem?_cons_zero, List.getElem?_cons_succ, List.set_cons_zero, List.set_cons_succ, V.int.injEq, V.bl.injEq, V.ref.injEq, V.str.injEq, HO.lst.injEq, HO.tup.injEq, Option.some.injEq, exists_eq_left', exists_eq_left, List.cons.injEq, and_true, true_and, decide_eq_true_eq, reduceCtorEq, false_and, exists_false, or_false, false_or, exists_const, and_assoc, exists_and_left, List.append_nil, ix0, ix1, ix2, cm_mod, cdw1009, cdw2003, cdw7, cdw64, cdw2, cm104729, cm2, cm3, upd_same, List.length_cons, List.length_nil, Int.reduceLT, Int.reduceLE, Nat.reduceAdd, Nat.reduceLeDiff, Nat.reduceLT, Int.reduceToNat, r_for1, r_forL, r_forT, r_lcL, r_lc1, r_yes, r_gtupD, wipe_0, wipe_1, List.cons_append, List.nil_append, r_forS, r_ipI, ite_false, ite_true, Bool.not_true, Bool.not_false, decide_true, decide_false, r_isd, r_islt, cD_ty, cD_ref, tD_non, tD_bl, tD_int, tD_str, tD_ref, tH_lst, tH_tup, tH_dK, tH_ins, ki_self, ki_int_bool, ki_non_int, ki_str_int, ki_lt_lst, ki_lt_tup, r_fld, r_sfld, HO.ins.injEq, cx_K, hc1, n4, l0, cl]
    rw [e]
    have iG := Ini.same i4' sG
    have x5 : p5 ≠ c := new_ne hc hp
    have q := Ini.store (CC := CC) (dx := dx) (f := "code") (y := .ref p5) (kk.trans (Keep.same sG)) hl lk
    have kp5 : Keep c G (L2.upd G c (.ins CC dx (putF "code" (.ref p5) fs))) := Keep.upd (Keep.refl c G)
    have t5 := kp5 p5 _ x5 hG
    have i5 := q
    clear hc e N l0 q kp5 iG hc1 i4' b0
    generalize L2.upd G c (.ins CC dx (putF "code" (.ref p5) fs)) = H5 at i5 t5 ⊢
    clear kk hl lk sG hG hp
    -- depth
    refine seq_intro fun N e => ?_
    have i5' := i5
    obtain ⟨kk, fs, hc, hl, lk⟩ := i5
    have b1 := kk cs _ z1 a1
    have l0 : fs.length < 1000 := Nat.lt_of_le_of_lt hl (by simp only [List.length_cons, List.length_nil]; decide)
    simp only [r_seq, r_next, r_brk, r_cont, r_asg, r_name, r_ret, r_retN, r_drop, r_ifs, r_never, r_var, r_c, r_op, r_un, r_if, r_tst, r_b, r_not, r_and, r_or, r_andV, r_orV, r_notV, r_nil, r_cons, r_tup, r_lst, r_cb, r_call, r_bm, r_bm0, r_sl, r_nopart, r_part, r_rev, r_gnil, r_gcons, r_gsub, r_par, r_aug, r_chain, r_I0, r_I, r_U, r_ixd, r_lend, r_tupd, r_listd, r_sld, r_app, r_ext, r_reverse, r_setl, r_cat, r_int1, r_eqS, r_neS, scal_ii, scal_bb, scal_ss, at0, at1, at2, sq_lst, sq_tup, isLst_lst, List.getElem?_cons_zero, List.getElem?_cons_succ, List.set_cons_zero, List.set_cons_succ, V.int.injEq, V.bl.injEq, V.ref.injEq, V.str.injEq, HO.lst.injEq, HO.tup.injEq, Option.some.injEq, exists_eq_left', exists_eq_left, List.cons.injEq, and_true, true_and, decide_eq_true_eq, reduceCtorEq, false_and, exists_false, or_false, false_or, exists_const, and_assoc, exists_and_left, List.append_nil, ix0, ix1, ix2, cm_mod, cdw1009, cdw2003, cdw7, cdw64, cdw2, cm104729, cm2, cm3, upd_same, List.length_cons, List.length_nil, Int.reduceLT, Int.reduceLE, Nat.reduceAdd, Nat.reduceLeDiff, Nat.reduceLT, Int.reduceToNat, r_for1, r_forL, r_forT, r_lcL, r_lc1, r_yes, r_gtupD, wipe_0, wipe_1, List.cons_append, List.nil_append, r_forS, r_ipI, ite_false, ite_true, Bool.not_true, Bool.not_false, decide_true, decide_false, r_isd, r_islt, cD_ty, cD_ref, tD_non, tD_bl, tD_int, tD_str, tD_ref, tH_lst, tH_tup, tH_dK, tH_ins, ki_self, ki_int_bool, ki_non_int, ki_str_int, ki_lt_lst, ki_lt_tup, r_fld, r_sfld, HO.ins.injEq, cx_K, r_spD, b1]
    refine fun G sG => ?_
    have hc1 := sG c _ hc
    simp only [r_seq, r_next, r_brk, r_cont, r_asg, r_name, r_ret, r_retN, r_drop, r_ifs, r_never, r_var, r_c, r_op, r_un, r_if, r_tst, r_b, r_not, r_and, r_or, r_andV, r_orV, r_notV, r_nil, r_cons, r_tup, r_lst, r_cb, r_call, r_bm, r_bm0, r_sl, r_nopart, r_part, r_rev, r_gnil, r_gcons, r_gsub, r_par, r_aug, r_chain, r_I0, r_I, r_U, r_ixd, r_lend, r_tupd, r_listd, r_sld, r_app, r_ext, r_reverse, r_setl, r_cat, r_int1, r_eqS, r_neS, scal_ii, scal_bb, scal_ss, at0, at1, at2, sq_lst, sq_tup, isLst_lst, List.getElem?_cons_zero, List.getElem?_cons_succ, List.set_cons_zero, List.set_cons_succ, V.int.injEq, V.bl.injEq, V.ref.injEq, V.str.injEq, HO.lst.injEq, HO.tup.injEq, Option.some.injEq, exists_eq_left', exists_eq_left, List.cons.injEq, and_true, true_and, decide_eq_true_eq, reduceCtorEq, false_and, exists_false, or_false, false_or, exists_const, and_assoc, exists_and_left, List.append_nil, ix0, ix1, ix2, cm_mod, cdw1009, cdw2003, cdw7, cdw64, cdw2, cm104729, cm2, cm3, upd_same, List.length_cons, List.length_nil, Int.reduceLT, Int.reduceLE, Nat.reduceAdd, Nat.reduceLeDiff, Nat.reduceLT, Int.reduceToNat, r_for1, r_forL, r_forT, r_lcL, r_lc1, r_yes, r_gtupD, wipe_0, wipe_1, List.cons_append, List.nil_append, r_forS, r_ipI, ite_false, ite_true, Bool.not_true, Bool.not_false, decide_true, decide_false, r_isd, r_islt, cD_ty, cD_ref, tD_non, tD_bl, tD_int, tD_str, tD_ref, tH_lst, tH_tup, tH_dK, tH_ins, ki_self, ki_int_bool, ki_non_int, ki_str_int, ki_lt_lst, ki_lt_tup, r_fld, r_sfld, HO.ins.injEq, cx_K, hc1, n5, l0, cl]
    rw [e]
    have i6 := Ini.store (CC := CC) (dx := dx) (f := "depth") (y := .int 1) (kk.trans (Keep.same sG)) hl lk
    have kp : Keep c G (L2.upd G c (.ins CC dx (putF "depth" (.int 1) fs))) := Keep.upd (Keep.refl c G)
    have t5 := kp p5 _ x5 (sG _ _ t5)
    clear hc e N l0 kp hc1 i5' b1
    generalize L2.upd G c (.ins CC dx (putF "depth" (.int 1) fs)) = H6 at i6 t5 ⊢
    clear kk hl lk sG
    -- constants
    refine seq_intro fun N e => ?_
    have i6' := i6
    obtain ⟨kk, fs, hc, hl, lk⟩ := i6
    have b1 := kk cs _ z1 a1
    have l0 : fs.length < 1000 := Nat.lt_of_le_of_lt hl (by simp only [List.length_cons, List.length_nil]; decide)
    simp only [r_seq, r_next, r_brk, r_cont, r_asg, r_name, r_ret, r_retN, r_drop, r_ifs, r_never, r_var, r_c, r_op, r_un, r_if, r_tst, r_b, r_not, r_and, r_or, r_andV, r_orV, r_notV, r_nil, r_cons, r_tup, r_lst, r_cb, r_call, r_bm, r_bm0, r_sl, r_nopart, r_part, r_rev, r_gnil, r_gcons, r_gsub, r_par, r_aug, r_chain, r_I0, r_I, r_U, r_ixd, r_lend, r_tupd, r_listd, r_sld, r_app, r_ext, r_reverse, r_setl, r_cat, r_int1, r_eqS, r_neS, scal_ii, scal_bb, scal_ss, at0, at1, at2, sq_lst, sq_tup, isLst_lst, List.getElem?_cons_zero, List.getElem?_cons_succ, List.set_cons_zero, List.set_cons_succ, V.int.injEq, V.bl.injEq, V.ref.injEq, V.str.injEq, HO.lst.injEq, HO.tup.injEq, Option.some.injEq, exists_eq_left', exists_eq_left, List.cons.injEq, and_true, true_and, decide_eq_true_eq, reduceCtorEq, false_and, exists_false, or_false, false_or, exists_const, and_assoc, exists_and_left, List.append_nil, ix0, ix1, ix2, cm_mod, cdw1009, cdw2003, cdw7, cdw64, cdw2, cm104729, cm2, cm3, upd_same, List.length_cons, List.length_nil, Int.reduceLT, Int.reduceLE, Nat.reduceAdd, Nat.reduceLeDiff, Nat.reduceLT, Int.reduceToNat, r_for1, r_forL, r_forT, r_lcL, r_lc1, r_yes, r_gtupD, wipe_0, wipe_1, List.cons_append, List.nil_append, r_forS, r_ipI, ite_false, ite_true, Bool.not_true, Bool.not_false, decide_true, decide_false, r_isd, r_islt, cD_ty, cD_ref, tD_non, tD_bl, tD_int, tD_str, tD_ref, tH_lst, tH_tup, tH_dK, tH_ins, ki_self, ki_int_bool, ki_non_int, ki_str_int, ki_lt_lst, ki_lt_tup, r_fld, r_sfld, HO.ins.injEq, cx_K, r_spB, r_spSs, b1]
    refine fun p7 hp => ?_
    have sG := Same.new' (Same.refl H6) (o := .tup []) hp
    have hG : L2.upd H6 p7 (.tup []) p7 = some (.tup []) := upd_same
    generalize L2.upd H6 p7 (.tup []) = G at sG hG ⊢
    have hc1 := sG c _ hc
    simp only [r_seq, r_next, r_brk, r_cont, r_asg, r_name, r_ret, r_retN, r_drop, r_ifs, r_never, r_var, r_c, r_op, r_un, r_if, r_tst, r_b, r_not, r_and, r_or, r_andV, r_orV, r_notV, r_nil, r_cons, r_tup, r_lst, r_cb, r_call, r_bm, r_bm0, r_sl, r_nopart, r_part, r_rev, r_gnil, r_gcons, r_gsub, r_par, r_aug, r_chain, r_I0, r_I, r_U, r_ixd, r_lend, r_tupd, r_listd, r_sld, r_app, r_ext, r_reverse, r_setl, r_cat, r_int1, r_eqS, r_neS, scal_ii, scal_bb, scal_ss, at0, at1, at2, sq_lst, sq_tup, isLst_lst, List.getElem?_cons_zero, List.getElem?_cons_succ, List.set_cons_zero, List.set_cons_succ, V.int.injEq, V.bl.injEq, V.ref.injEq, V.str.injEq, HO.lst.injEq, HO.tup.injEq, Option.some.injEq, exists_eq_left', exists_eq_left, List.cons.injEq, and_true, true_and, decide_eq_true_eq, reduceCtorEq, false_and, exists_false, or_false, false_or, exists_const, and_assoc, exists_and_left, List.append_nil, ix0, ix1, ix2, cm_mod, cdw1009, cdw2003, cdw7, cdw64, cdw2, cm104729, cm2, cm3, upd_same, List.length_cons, List.length_nil, Int.reduceLT, Int.reduceLE, Nat.reduceAdd, Nat.reduceLeDiff, Nat.reduceLT, Int.reduceToNat, r_for1, r_forL, r_forT, r_lcL, r_lc1, r_yes, r_gtupD, wipe_0, wipe_1, List.cons_append, List.nil_append, r_forS, r_ipI, ite_false, ite_true, Bool.not_true, Bool.not_false, decide_true, decide_false, r_isd, r_islt, cD_ty, cD_ref, tD_non, tD_bl, tD_int, tD_str, tD_ref, tH_lst, tH_tup, tH_dK, tH_ins, ki_self, ki_int_bool, ki_non_int, ki_str_int, ki_lt_lst, ki_lt_tup, r_fld, r_sfld, HO.ins.injEq, cx_K, hc1, n6, l0, cl]
    rw [e]
    have iG := Ini.same i6' sG
    have x7 : p7 ≠ c := new_ne hc hp
    have q := Ini.store (CC := CC) (dx := dx) (f := "constants") (y := .ref p7) (kk.trans (Keep.same sG)) hl lk
    have kp7 : Keep c G (L2.upd G c (.ins CC dx (putF "constants" (.ref p7) fs))) := Keep.upd (Keep.refl c G)
    have t5 := kp7 p5 _ x5 (sG _ _ t5)
    have t7 := kp7 p7 _ x7 hG
    have i7 := q
    clear hc e N l0 q kp7 iG hc1 i6' b1
    generalize L2.upd G c (.ins CC dx (putF "constants" (.ref p7) fs)) = H7 at i7 t5 t7 ⊢
    clear kk hl lk sG hG hp
    -- names
    refine seq_intro fun N e => ?_
    have i7' := i7
    obtain ⟨kk, fs, hc, hl, lk⟩ := i7
    have b2 := kk nm _ z2 a2
    have l0 : fs.length < 1000 := Nat.lt_of_le_of_lt hl (by simp only [List.length_cons, List.length_nil]; decide)
    simp only [r_seq, r_next, r_brk, r_cont, r_asg, r_name, r_ret, r_retN, r_drop, r_ifs, r_never, r_var, r_c, r_op, r_un, r_if, r_tst, r_b, r_not, r_and, r_or, r_andV, r_orV, r_notV, r_nil, r_cons, r_tup, r_lst, r_cb, r_call, r_bm, r_bm0, r_sl, r_nopart, r_part, r_rev, r_gnil, r_gcons, r_gsub, r_par, r_aug, r_chain, r_I0, r_I, r_U, r_ixd, r_lend, r_tupd, r_listd, r_sld, r_app, r_ext, r_reverse, r_setl, r_cat, r_int1, r_eqS, r_neS, scal_ii, scal_bb, scal_ss, at0, at1, at2, sq_lst, sq_tup, isLst_lst, List.getElem?_cons_zero, List.getElem?_cons_succ, List.set_cons_zero, List.set_cons_succ, V.int.injEq, V.bl.injEq, V.ref.injEq, V.str.injEq, HO.lst.injEq, HO.tup.injEq, Option.some.injEq, exists_eq_left', exists_eq_left, List.cons.injEq, and_true, true_and, decide_eq_true_eq, reduceCtorEq, false_and, exists_false, or_false, false_or, exists_const, and_assoc, exists_and_left, List.append_nil, ix0, ix1, ix2, cm_mod, cdw1009, cdw2003, cdw7, cdw64, cdw2, cm104729, cm2, cm3, upd_same, List.length_cons, List.length_nil, Int.reduceLT, Int.reduceLE, Nat.reduceAdd, Nat.reduceLeDiff, Nat.reduceLT, Int.reduceToNat, r_for1, r_forL, r_forT, r_lcL, r_lc1, r_yes, r_gtupD, wipe_0, wipe_1, List.cons_append, List.nil_append, r_forS, r_ipI, ite_false, ite_true, Bool.not_true, Bool.not_false, decide_true, decide_false, r_isd, r_islt, cD_ty, cD_ref, tD_non, tD_bl, tD_int, tD_str, tD_ref, tH_lst, tH_tup, tH_dK, tH_ins, ki_self, ki_int_bool, ki_non_int, ki_str_int, ki_lt_lst, ki_lt_tup, r_fld, r_sfld, HO.ins.injEq, cx_K, r_spB, r_spSs, b2]
    refine fun p8 G hp sG hG => ?_
    have hc1 := sG c _ hc
    simp only [r_seq, r_next, r_brk, r_cont, r_asg, r_name, r_ret, r_retN, r_drop, r_ifs, r_never, r_var, r_c, r_op, r_un, r_if, r_tst, r_b, r_not, r_and, r_or, r_andV, r_orV, r_notV, r_nil, r_cons, r_tup, r_lst, r_cb, r_call, r_bm, r_bm0, r_sl, r_nopart, r_part, r_rev, r_gnil, r_gcons, r_gsub, r_par, r_aug, r_chain, r_I0, r_I, r_U, r_ixd, r_lend, r_tupd, r_listd, r_sld, r_app, r_ext, r_reverse, r_setl, r_cat, r_int1, r_eqS, r_neS, scal_ii, scal_bb, scal_ss, at0, at1, at2, sq_lst, sq_tup, isLst_lst, List.getElem?_cons_zero, List.getElem?_cons_succ, List.set_cons_zero, List.set_cons_succ, V.int.injEq, V.bl.injEq, V.ref.injEq, V.str.injEq, HO.lst.injEq, HO.tup.injEq, Option.some.injEq, exists_eq_left', exists_eq_left, List.cons.injEq, and_true, true_and, decide_eq_true_eq, reduceCtorEq, false_and, exists_false, or_false, false_or, exists_const, and_assoc, exists_and_left, List.append_nil, ix0, ix1, ix2, cm_mod, cdw1009, cdw2003, cdw7, cdw64, cdw2, cm104729, cm2, cm3, upd_same, List.length_cons, List.length_nil, Int.reduceLT, Int.reduceLE, Nat.reduceAdd, Nat.reduceLeDiff, Nat.reduceLT, Int.reduceToNat, r_for1, r_forL, r_forT, r_lcL, r_lc1, r_yes, r_gtupD, wipe_0, wipe_1, List.cons_append, List.nil_append, r_forS, r_ipI, ite_false, ite_true, Bool.not_true, Bool.not_false, decide_true, decide_false, r_isd, r_islt, cD_ty, cD_ref, tD_non, tD_bl, tD_int, tD_str, tD_ref, tH_lst, tH_tup, tH_dK, tH_ins, ki_self, ki_int_bool, ki_non_int, ki_str_int, ki_lt_lst, ki_lt_tup, r_fld, r_sfld, HO.ins.injEq, cx_K, hc1, n7, l0, cl]
    rw [e]
    have iG := Ini.same i7' sG
    have x8 : p8 ≠ c := new_ne hc hp
    have q := Ini.store (CC := CC) (dx := dx) (f := "names") (y := .ref p8) (kk.trans (Keep.same sG)) hl lk
    have kp8 : Keep c G (L2.upd G c (.ins CC dx (putF "names" (.ref p8) fs))) := Keep.upd (Keep.refl c G)
    have t5 := kp8 p5 _ x5 (sG _ _ t5)
    have t7 := kp8 p7 _ x7 (sG _ _ t7)
    have t8 := kp8 p8 _ x8 hG
    have i8 := q
    clear hc e N l0 q kp8 iG hc1 i7' b2
    generalize L2.upd G c (.ins CC dx (putF "names" (.ref p8) fs)) = H8 at i8 t5 t7 t8 ⊢
    clear kk hl lk sG hG hp
    -- slots
    refine seq_intro fun N e => ?_
    have i8' := i8
    obtain ⟨kk, fs, hc, hl, lk⟩ := i8
    have b3 := kk sl _ z3 a3
    have l0 : fs.length < 1000 := Nat.lt_of_le_of_lt hl (by simp only [List.length_cons, List.length_nil]; decide)
    simp only [r_seq, r_next, r_brk, r_cont, r_asg, r_name, r_ret, r_retN, r_drop, r_ifs, r_never, r_var, r_c, r_op, r_un, r_if, r_tst, r_b, r_not, r_and, r_or, r_andV, r_orV, r_notV, r_nil, r_cons, r_tup, r_lst, r_cb, r_call, r_bm, r_bm0, r_sl, r_nopart, r_part, r_rev, r_gnil, r_gcons, r_gsub, r_par, r_aug, r_chain, r_I0, r_I, r_U, r_ixd, r_lend, r_tupd, r_listd, r_sld, r_app, r_ext, r_reverse, r_setl, r_cat, r_int1, r_eqS, r_neS, scal_ii, scal_bb, scal_ss, at0, at1, at2, sq_lst, sq_tup, isLst_lst, List.getElem?_cons_zero, List.getElem?_cons_succ, List.set_cons_zero, List.set_cons_succ, V.int.injEq, V.bl.injEq, V.ref.injEq, V.str.injEq, HO.lst.injEq, HO.tup.injEq, Option.some.injEq, exists_eq_left', exists_eq_left, List.cons.injEq, and_true, true_and, decide_eq_true_eq, reduceCtorEq, false_and, exists_false, or_false, false_or, exists_const, and_assoc, exists_and_left, List.append_nil, ix0, ix1, ix2, cm_mod, cdw1009, cdw2003, cdw7, cdw64, cdw2, cm104729, cm2, cm3, upd_same, List.length_cons, List.length_nil, Int.reduceLT, Int.reduceLE, Nat.reduceAdd, Nat.reduceLeDiff, Nat.reduceLT, Int.reduceToNat, r_for1, r_forL, r_forT, r_lcL, r_lc1, r_yes, r_gtupD, wipe_0, wipe_1, List.cons_append, List.nil_append, r_forS, r_ipI, ite_false, ite_true, Bool.not_true, Bool.not_false, decide_true, decide_false, r_isd, r_islt, cD_ty, cD_ref, tD_non, tD_bl, tD_int, tD_str, tD_ref, tH_lst, tH_tup, tH_dK, tH_ins, ki_self, ki_int_bool, ki_non_int, ki_str_int, ki_lt_lst, ki_lt_tup, r_fld, r_sfld, HO.ins.injEq, cx_K, r_spB, r_spSs, b3]
    refine fun p9 G hp sG hG => ?_
    have hc1 := sG c _ hc
    simp only [r_seq, r_next, r_brk, r_cont, r_asg, r_name, r_ret, r_retN, r_drop, r_ifs, r_never, r_var, r_c, r_op, r_un, r_if, r_tst, r_b, r_not, r_and, r_or, r_andV, r_orV, r_notV, r_nil, r_cons, r_tup, r_lst, r_cb, r_call, r_bm, r_bm0, r_sl, r_nopart, r_part, r_rev, r_gnil, r_gcons, r_gsub, r_par, r_aug, r_chain, r_I0, r_I, r_U, r_ixd, r_lend, r_tupd, r_listd, r_sld, r_app, r_ext, r_reverse, r_setl, r_cat, r_int1, r_eqS, r_neS, scal_ii, scal_bb, scal_ss, at0, at1, at2, sq_lst, sq_tup, isLst_lst, List.getElem?_cons_zero, List.getElem?_cons_succ, List.set_cons_zero, List.set_cons_succ, V.int.injEq, V.bl.injEq, V.ref.injEq, V.str.injEq, HO.lst.injEq, HO.tup.injEq, Option.some.injEq, exists_eq_left', exists_eq_left, List.cons.injEq, and_true, true_and, decide_eq_true_eq, reduceCtorEq, false_and, exists_false, or_false, false_or, exists_const, and_assoc, exists_and_left, List.append_nil, ix0, ix1, ix2, cm_mod, cdw1009, cdw2003, cdw7, cdw64, cdw2, cm104729, cm2, cm3, upd_same, List.length_cons, List.length_nil, Int.reduceLT, Int.reduceLE, Nat.reduceAdd, Nat.reduceLeDiff, Nat.reduceLT, Int.reduceToNat, r_for1, r_forL, r_forT, r_lcL, r_lc1, r_yes, r_gtupD, wipe_0, wipe_1, List.cons_append, List.nil_append, r_forS, r_ipI, ite_false, ite_true, Bool.not_true, Bool.not_false, decide_true, decide_false, r_isd, r_islt, cD_ty, cD_ref, tD_non, tD_bl, tD_int, tD_str, tD_ref, tH_lst, tH_tup, tH_dK, tH_ins, ki_self, ki_int_bool, ki_non_int, ki_str_int, ki_lt_lst, ki_lt_tup, r_fld, r_sfld, HO.ins.injEq, cx_K, hc1, n8, l0, cl]
    rw [e]
    have iG := Ini.same i8' sG
    have x9 : p9 ≠ c := new_ne hc hp
    have q := Ini.store (CC := CC) (dx := dx) (f := "slots") (y := .ref p9) (kk.trans (Keep.same sG)) hl lk
    have kp9 : Keep c G (L2.upd G c (.ins CC dx (putF "slots" (.ref p9) fs))) := Keep.upd (Keep.refl c G)
    have t5 := kp9 p5 _ x5 (sG _ _ t5)
    have t7 := kp9 p7 _ x7 (sG _ _ t7)
    have t8 := kp9 p8 _ x8 (sG _ _ t8)
    have t9 := kp9 p9 _ x9 hG
    have i9 := q
    clear hc e N l0 q kp9 iG hc1 i8' b3
    generalize L2.upd G c (.ins CC dx (putF "slots" (.ref p9) fs)) = H9 at i9 t5 t7 t8 t9 ⊢
    clear kk hl lk sG hG hp
    -- kinds
    refine seq_intro fun N e => ?_
    have i9' := i9
    obtain ⟨kk, fs, hc, hl, lk⟩ := i9
    have b4 := kk kd _ z4 a4
    have l0 : fs.length < 1000 := Nat.lt_of_le_of_lt hl (by simp only [List.length_cons, List.length_nil]; decide)
    simp only [r_seq, r_next, r_brk, r_cont, r_asg, r_name, r_ret, r_retN, r_drop, r_ifs, r_never, r_var, r_c, r_op, r_un, r_if, r_tst, r_b, r_not, r_and, r_or, r_andV, r_orV, r_notV, r_nil, r_cons, r_tup, r_lst, r_cb, r_call, r_bm, r_bm0, r_sl, r_nopart, r_part, r_rev, r_gnil, r_gcons, r_gsub, r_par, r_aug, r_chain, r_I0, r_I, r_U, r_ixd, r_lend, r_tupd, r_listd, r_sld, r_app, r_ext, r_reverse, r_setl, r_cat, r_int1, r_eqS, r_neS, scal_ii, scal_bb, scal_ss, at0, at1, at2, sq_lst, sq_tup, isLst_lst, List.getElem?_cons_zero, List.getElem?_cons_succ, List.set_cons_zero, List.set_cons_succ, V.int.injEq, V.bl.injEq, V.ref.injEq, V.str.injEq, HO.lst.injEq, HO.tup.injEq, Option.some.injEq, exists_eq_left', exists_eq_left, List.cons.injEq, and_true, true_and, decide_eq_true_eq, reduceCtorEq, false_and, exists_false, or_false, false_or, exists_const, and_assoc, exists_and_left, List.append_nil, ix0, ix1, ix2, cm_mod, cdw1009, cdw2003, cdw7, cdw64, cdw2, cm104729, cm2, cm3, upd_same, List.length_cons, List.length_nil, Int.reduceLT, Int.reduceLE, Nat.reduceAdd, Nat.reduceLeDiff, Nat.reduceLT, Int.reduceToNat, r_for1, r_forL, r_forT, r_lcL, r_lc1, r_yes, r_gtupD, wipe_0, wipe_1, List.cons_append, List.nil_append, r_forS, r_ipI, ite_false, ite_true, Bool.not_true, Bool.not_false, decide_true, decide_false, r_isd, r_islt, cD_ty, cD_ref, tD_non, tD_bl, tD_int, tD_str, tD_ref, tH_lst, tH_tup, tH_dK, tH_ins, ki_self, ki_int_bool, ki_non_int, ki_str_int, ki_lt_lst, ki_lt_tup, r_fld, r_sfld, HO.ins.injEq, cx_K, r_spB, r_spSs, b4]
    refine ⟨[], rfl, (fun n h => by cases h), fun p10 G hp sG hG => ?_⟩
    have hc1 := sG c _ hc
    simp only [r_seq, r_next, r_brk, r_cont, r_asg, r_name, r_ret, r_retN, r_drop, r_ifs, r_never, r_var, r_c, r_op, r_un, r_if, r_tst, r_b, r_not, r_and, r_or, r_andV, r_orV, r_notV, r_nil, r_cons, r_tup, r_lst, r_cb, r_call, r_bm, r_bm0, r_sl, r_nopart, r_part, r_rev, r_gnil, r_gcons, r_gsub, r_par, r_aug, r_chain, r_I0, r_I, r_U, r_ixd, r_lend, r_tupd, r_listd, r_sld, r_app, r_ext, r_reverse, r_setl, r_cat, r_int1, r_eqS, r_neS, scal_ii, scal_bb, scal_ss, at0, at1, at2, sq_lst, sq_tup, isLst_lst, List.getElem?_cons_zero, List.getElem?_cons_succ, List.set_cons_zero, List.set_cons_succ, V.int.injEq, V.bl.injEq, V.ref.injEq, V.str.injEq, HO.lst.injEq, HO.tup.injEq, Option.some.injEq, exists_eq_left', exists_eq_left, List.cons.injEq, and_true, true_and, decide_eq_true_eq, reduceCtorEq, false_and, exists_false, or_false, false_or, exists_const, and_assoc, exists_and_left, List.append_nil, ix0, ix1, ix2, cm_mod, cdw1009, cdw2003, cdw7, cdw64, cdw2, cm104729, cm2, cm3, upd_same, List.length_cons, List.length_nil, Int.reduceLT, Int.reduceLE, Nat.reduceAdd, Nat.reduceLeDiff, Nat.reduceLT, Int.reduceToNat, r_for1, r_forL, r_forT, r_lcL, r_lc1, r_yes, r_gtupD, wipe_0, wipe_1, List.cons_append, List.nil_append, r_forS, r_ipI, ite_false, ite_true, Bool.not_true, Bool.not_false, decide_true, decide_false, r_isd, r_islt, cD_ty, cD_ref, tD_non, tD_bl, tD_int, tD_str, tD_ref, tH_lst, tH_tup, tH_dK, tH_ins, ki_self, ki_int_bool, ki_non_int, ki_str_int, ki_lt_lst, ki_lt_tup, r_fld, r_sfld, HO.ins.injEq, cx_K, hc1, n9, l0, cl]
    rw [e]
    have iG := Ini.same i9' sG
    have x10 : p10 ≠ c := new_ne hc hp
    have q := Ini.store (CC := CC) (dx := dx) (f := "kinds") (y := .ref p10) (kk.trans (Keep.same sG)) hl lk
    have kp10 : Keep c G (L2.upd G c (.ins CC dx (putF "kinds" (.ref p10) fs))) := Keep.upd (Keep.refl c G)
    have t5 := kp10 p5 _ x5 (sG _ _ t5)
    have t7 := kp10 p7 _ x7 (sG _ _ t7)
    have t8 := kp10 p8 _ x8 (sG _ _ t8)
    have t9 := kp10 p9 _ x9 (sG _ _ t9)
    have t10 := kp10 p10 _ x10 hG
    have i10 := q
    clear hc e N l0 q kp10 iG hc1 i9' b4
    generalize L2.upd G c (.ins CC dx (putF "kinds" (.ref p10) fs)) = H10 at i10 t5 t7 t8 t9 t10 ⊢
    clear kk hl lk sG hG hp
    -- the test
    refine seq_intro fun N e => ?_
    have i10' := i10
    obtain ⟨kk, fs, hc, hl, lk⟩ := i10'
    have y9 := lk "slots" _ rfl
    have y10 := lk "kinds" _ rfl
    simp only [r_seq, r_next, r_brk, r_cont, r_asg, r_name, r_ret, r_retN, r_drop, r_ifs, r_never, r_var, r_c, r_op, r_un, r_if, r_tst, r_b, r_not, r_and, r_or, r_andV, r_orV, r_notV, r_nil, r_cons, r_tup, r_lst, r_cb, r_call, r_bm, r_bm0, r_sl, r_nopart, r_part, r_rev, r_gnil, r_gcons, r_gsub, r_par, r_aug, r_chain, r_I0, r_I, r_U, r_ixd, r_lend, r_tupd, r_listd, r_sld, r_app, r_ext, r_reverse, r_setl, r_cat, r_int1, r_eqS, r_neS, scal_ii, scal_bb, scal_ss, at0, at1, at2, sq_lst, sq_tup, isLst_lst, List.getElem?_cons_zero, List.getElem?_cons_succ, List.set_cons_zero, List.set_cons_succ, V.int.injEq, V.bl.injEq, V.ref.injEq, V.str.injEq, HO.lst.injEq, HO.tup.injEq, Option.some.injEq, exists_eq_left', exists_eq_left, List.cons.injEq, and_true, true_and, decide_eq_true_eq, reduceCtorEq, false_and, exists_false, or_false, false_or, exists_const, and_assoc, exists_and_left, List.append_nil, ix0, ix1, ix2, cm_mod, cdw1009, cdw2003, cdw7, cdw64, cdw2, cm104729, cm2, cm3, upd_same, List.length_cons, List.length_nil, Int.reduceLT, Int.reduceLE, Nat.reduceAdd, Nat.reduceLeDiff, Nat.reduceLT, Int.reduceToNat, r_for1, r_forL, r_forT, r_lcL, r_lc1, r_yes, r_gtupD, wipe_0, wipe_1, List.cons_append, List.nil_append, r_forS, r_ipI, ite_false, ite_true, Bool.not_true, Bool.not_false, decide_true, decide_false, r_isd, r_islt, cD_ty, cD_ref, tD_non, tD_bl, tD_int, tD_str, tD_ref, tH_lst, tH_tup, tH_dK, tH_ins, ki_self, ki_int_bool, ki_non_int, ki_str_int, ki_lt_lst, ki_lt_tup, r_fld, r_sfld, HO.ins.injEq, cx_K, hc, n8, n9, cl, y9, y10, t9, t10]
    rw [e, if_neg (by decide)]
    clear e N kk fs hc hl lk y9 y10
    -- name
    refine seq_intro fun N e => ?_
    obtain ⟨kk, fs, hc, hl, lk⟩ := i10
    have l0 : fs.length < 1000 := Nat.lt_of_le_of_lt hl (by simp only [List.length_cons, List.length_nil]; decide)
    simp only [r_seq, r_next, r_brk, r_cont, r_asg, r_name, r_ret, r_retN, r_drop, r_ifs, r_never, r_var, r_c, r_op, r_un, r_if, r_tst, r_b, r_not, r_and, r_or, r_andV, r_orV, r_notV, r_nil, r_cons, r_tup, r_lst, r_cb, r_call, r_bm, r_bm0, r_sl, r_nopart, r_part, r_rev, r_gnil, r_gcons, r_gsub, r_par, r_aug, r_chain, r_I0, r_I, r_U, r_ixd, r_lend, r_tupd, r_listd, r_sld, r_app, r_ext, r_reverse, r_setl, r_cat, r_int1, r_eqS, r_neS, scal_ii, scal_bb, scal_ss, at0, at1, at2, sq_lst, sq_tup, isLst_lst, List.getElem?_cons_zero, List.getElem?_cons_succ, List.set_cons_zero, List.set_cons_succ, V.int.injEq, V.bl.injEq, V.ref.injEq, V.str.injEq, HO.lst.injEq, HO.tup.injEq, Option.some.injEq, exists_eq_left', exists_eq_left, List.cons.injEq, and_true, true_and, decide_eq_true_eq, reduceCtorEq, false_and, exists_false, or_false, false_or, exists_const, and_assoc, exists_and_left, List.append_nil, ix0, ix1, ix2, cm_mod, cdw1009, cdw2003, cdw7, cdw64, cdw2, cm104729, cm2, cm3, upd_same, List.length_cons, List.length_nil, Int.reduceLT, Int.reduceLE, Nat.reduceAdd, Nat.reduceLeDiff, Nat.reduceLT, Int.reduceToNat, r_for1, r_forL, r_forT, r_lcL, r_lc1, r_yes, r_gtupD, wipe_0, wipe_1, List.cons_append, List.nil_append, r_forS, r_ipI, ite_false, ite_true, Bool.not_true, Bool.not_false, decide_true, decide_false, r_isd, r_islt, cD_ty, cD_ref, tD_non, tD_bl, tD_int, tD_str, tD_ref, tH_lst, tH_tup, tH_dK, tH_ins, ki_self, ki_int_bool, ki_non_int, ki_str_int, ki_lt_lst, ki_lt_tup, r_fld, r_sfld, HO.ins.injEq, cx_K, r_spN, r_spS, hc, n10, l0, cl, f0, f1, (une z0), (une z1), (une z2), (une z3), (une z4), (une z5), (une z6)]
    rw [e]
    have i11 := Ini.store (CC := CC) (dx := dx) (f := "name") (y := .str "f") kk hl lk
    have kp : Keep c H10 (L2.upd H10 c (.ins CC dx (putF "name" (.str "f") fs))) := Keep.upd (Keep.refl c H10)
    have t5 := kp p5 _ x5 t5
    have t7 := kp p7 _ x7 t7
    have t8 := kp p8 _ x8 t8
    have t9 := kp p9 _ x9 t9
    have t10 := kp p10 _ x10 t10
    clear hc e N l0 kp
    generalize L2.upd H10 c (.ins CC dx (putF "name" (.str "f") fs)) = H11 at i11 t5 t7 t8 t9 t10 ⊢
    clear kk hl lk fs
    -- path
    refine seq_intro fun N e => ?_
    obtain ⟨kk, fs, hc, hl, lk⟩ := i11
    have l0 : fs.length < 1000 := Nat.lt_of_le_of_lt hl (by simp only [List.length_cons, List.length_nil]; decide)
    simp only [r_seq, r_next, r_brk, r_cont, r_asg, r_name, r_ret, r_retN, r_drop, r_ifs, r_never, r_var, r_c, r_op, r_un, r_if, r_tst, r_b, r_not, r_and, r_or, r_andV, r_orV, r_notV, r_nil, r_cons, r_tup, r_lst, r_cb, r_call, r_bm, r_bm0, r_sl, r_nopart, r_part, r_rev, r_gnil, r_gcons, r_gsub, r_par, r_aug, r_chain, r_I0, r_I, r_U, r_ixd, r_lend, r_tupd, r_listd, r_sld, r_app, r_ext, r_reverse, r_setl, r_cat, r_int1, r_eqS, r_neS, scal_ii, scal_bb, scal_ss, at0, at1, at2, sq_lst, sq_tup, isLst_lst, List.getElem?_cons_zero, List.getElem?_cons_succ, List.set_cons_zero, List.set_cons_succ, V.int.injEq, V.bl.injEq, V.ref.injEq, V.str.injEq, HO.lst.injEq, HO.tup.injEq, Option.some.injEq, exists_eq_left', exists_eq_left, List.cons.injEq, and_true, true_and, decide_eq_true_eq, reduceCtorEq, false_and, exists_false, or_false, false_or, exists_const, and_assoc, exists_and_left, List.append_nil, ix0, ix1, ix2, cm_mod, cdw1009, cdw2003, cdw7, cdw64, cdw2, cm104729, cm2, cm3, upd_same, List.length_cons, List.length_nil, Int.reduceLT, Int.reduceLE, Nat.reduceAdd, Nat.reduceLeDiff, Nat.reduceLT, Int.reduceToNat, r_for1, r_forL, r_forT, r_lcL, r_lc1, r_yes, r_gtupD, wipe_0, wipe_1, List.cons_append, List.nil_append, r_forS, r_ipI, ite_false, ite_true, Bool.not_true, Bool.not_false, decide_true, decide_false, r_isd, r_islt, cD_ty, cD_ref, tD_non, tD_bl, tD_int, tD_str, tD_ref, tH_lst, tH_tup, tH_dK, tH_ins, ki_self, ki_int_bool, ki_non_int, ki_str_int, ki_lt_lst, ki_lt_tup, r_fld, r_sfld, HO.ins.injEq, cx_K, r_spN, r_spS, hc, n11, l0, cl, f0, f1, (une z0), (une z1), (une z2), (une z3), (une z4), (une z5), (une z6)]
    rw [e]
    have i12 := Ini.store (CC := CC) (dx := dx) (f := "path") (y := .str "f") kk hl lk
    have kp : Keep c H11 (L2.upd H11 c (.ins CC dx (putF "path" (.str "f") fs))) := Keep.upd (Keep.refl c H11)
    have t5 := kp p5 _ x5 t5
    have t7 := kp p7 _ x7 t7
    have t8 := kp p8 _ x8 t8
    have t9 := kp p9 _ x9 t9
    have t10 := kp p10 _ x10 t10
    clear hc e N l0 kp
    generalize L2.upd H11 c (.ins CC dx (putF "path" (.str "f") fs)) = H12 at i12 t5 t7 t8 t9 t10 ⊢
    clear kk hl lk fs
    -- line
    refine seq_intro fun N e => ?_
    obtain ⟨kk, fs, hc, hl, lk⟩ := i12
    have l0 : fs.length < 1000 := Nat.lt_of_le_of_lt hl (by simp only [List.length_cons, List.length_nil]; decide)
    simp only [r_seq, r_next, r_brk, r_cont, r_asg, r_name, r_ret, r_retN, r_drop, r_ifs, r_never, r_var, r_c, r_op, r_un, r_if, r_tst, r_b, r_not, r_and, r_or, r_andV, r_orV, r_notV, r_nil, r_cons, r_tup, r_lst, r_cb, r_call, r_bm, r_bm0, r_sl, r_nopart, r_part, r_rev, r_gnil, r_gcons, r_gsub, r_par, r_aug, r_chain, r_I0, r_I, r_U, r_ixd, r_lend, r_tupd, r_listd, r_sld, r_app, r_ext, r_reverse, r_setl, r_cat, r_int1, r_eqS, r_neS, scal_ii, scal_bb, scal_ss, at0, at1, at2, sq_lst, sq_tup, isLst_lst, List.getElem?_cons_zero, List.getElem?_cons_succ, List.set_cons_zero, List.set_cons_succ, V.int.injEq, V.bl.injEq, V.ref.injEq, V.str.injEq, HO.lst.injEq, HO.tup.injEq, Option.some.injEq, exists_eq_left', exists_eq_left, List.cons.injEq, and_true, true_and, decide_eq_true_eq, reduceCtorEq, false_and, exists_false, or_false, false_or, exists_const, and_assoc, exists_and_left, List.append_nil, ix0, ix1, ix2, cm_mod, cdw1009, cdw2003, cdw7, cdw64, cdw2, cm104729, cm2, cm3, upd_same, List.length_cons, List.length_nil, Int.reduceLT, Int.reduceLE, Nat.reduceAdd, Nat.reduceLeDiff, Nat.reduceLT, Int.reduceToNat, r_for1, r_forL, r_forT, r_lcL, r_lc1, r_yes, r_gtupD, wipe_0, wipe_1, List.cons_append, List.nil_append, r_forS, r_ipI, ite_false, ite_true, Bool.not_true, Bool.not_false, decide_true, decide_false, r_isd, r_islt, cD_ty, cD_ref, tD_non, tD_bl, tD_int, tD_str, tD_ref, tH_lst, tH_tup, tH_dK, tH_ins, ki_self, ki_int_bool, ki_non_int, ki_str_int, ki_lt_lst, ki_lt_tup, r_fld, r_sfld, HO.ins.injEq, cx_K, r_spN, r_spS, hc, n12, l0, cl, f0, f1, (une z0), (une z1), (une z2), (une z3), (une z4), (une z5), (une z6)]
    rw [e]
    have i13 := Ini.store (CC := CC) (dx := dx) (f := "line") (y := .int first) kk hl lk
    have kp : Keep c H12 (L2.upd H12 c (.ins CC dx (putF "line" (.int first) fs))) := Keep.upd (Keep.refl c H12)
    have t5 := kp p5 _ x5 t5
    have t7 := kp p7 _ x7 t7
    have t8 := kp p8 _ x8 t8
    have t9 := kp p9 _ x9 t9
    have t10 := kp p10 _ x10 t10
    clear hc e N l0 kp
    generalize L2.upd H12 c (.ins CC dx (putF "line" (.int first) fs)) = H13 at i13 t5 t7 t8 t9 t10 ⊢
    clear kk hl lk fs
    -- lines
    refine seq_intro fun N e => ?_
    have i13' := i13
    obtain ⟨kk, fs, hc, hl, lk⟩ := i13
    have b5 := kk ln _ z5 a5
    have l0 : fs.length < 1000 := Nat.lt_of_le_of_lt hl (by simp only [List.length_cons, List.length_nil]; decide)
    simp only [r_seq, r_next, r_brk, r_cont, r_asg, r_name, r_ret, r_retN, r_drop, r_ifs, r_never, r_var, r_c, r_op, r_un, r_if, r_tst, r_b, r_not, r_and, r_or, r_andV, r_orV, r_notV, r_nil, r_cons, r_tup, r_lst, r_cb, r_call, r_bm, r_bm0, r_sl, r_nopart, r_part, r_rev, r_gnil, r_gcons, r_gsub, r_par, r_aug, r_chain, r_I0, r_I, r_U, r_ixd, r_lend, r_tupd, r_listd, r_sld, r_app, r_ext, r_reverse, r_setl, r_cat, r_int1, r_eqS, r_neS, scal_ii, scal_bb, scal_ss, at0, at1, at2, sq_lst, sq_tup, isLst_lst, List.getElem?_cons_zero, List.getElem?_cons_succ, List.set_cons_zero, List.set_cons_succ, V.int.injEq, V.bl.injEq, V.ref.injEq, V.str.injEq, HO.lst.injEq, HO.tup.injEq, Option.some.injEq, exists_eq_left', exists_eq_left, List.cons.injEq, and_true, true_and, decide_eq_true_eq, reduceCtorEq, false_and, exists_false, or_false, false_or, exists_const, and_assoc, exists_and_left, List.append_nil, ix0, ix1, ix2, cm_mod, cdw1009, cdw2003, cdw7, cdw64, cdw2, cm104729, cm2, cm3, upd_same, List.length_cons, List.length_nil, Int.reduceLT, Int.reduceLE, Nat.reduceAdd, Nat.reduceLeDiff, Nat.reduceLT, Int.reduceToNat, r_for1, r_forL, r_forT, r_lcL, r_lc1, r_yes, r_gtupD, wipe_0, wipe_1, List.cons_append, List.nil_append, r_forS, r_ipI, ite_false, ite_true, Bool.not_true, Bool.not_false, decide_true, decide_false, r_isd, r_islt, cD_ty, cD_ref, tD_non, tD_bl, tD_int, tD_str, tD_ref, tH_lst, tH_tup, tH_dK, tH_ins, ki_self, ki_int_bool, ki_non_int, ki_str_int, ki_lt_lst, ki_lt_tup, r_fld, r_sfld, HO.ins.injEq, cx_K, r_spB, r_spSs, b5]
    refine ⟨_, rfl, bl, fun p14 G hp sG hG => ?_⟩
    have hc1 := sG c _ hc
    simp only [r_seq, r_next, r_brk, r_cont, r_asg, r_name, r_ret, r_retN, r_drop, r_ifs, r_never, r_var, r_c, r_op, r_un, r_if, r_tst, r_b, r_not, r_and, r_or, r_andV, r_orV, r_notV, r_nil, r_cons, r_tup, r_lst, r_cb, r_call, r_bm, r_bm0, r_sl, r_nopart, r_part, r_rev, r_gnil, r_gcons, r_gsub, r_par, r_aug, r_chain, r_I0, r_I, r_U, r_ixd, r_lend, r_tupd, r_listd, r_sld, r_app, r_ext, r_reverse, r_setl, r_cat, r_int1, r_eqS, r_neS, scal_ii, scal_bb, scal_ss, at0, at1, at2, sq_lst, sq_tup, isLst_lst, List.getElem?_cons_zero, List.getElem?_cons_succ, List.set_cons_zero, List.set_cons_succ, V.int.injEq, V.bl.injEq, V.ref.injEq, V.str.injEq, HO.lst.injEq, HO.tup.injEq, Option.some.injEq, exists_eq_left', exists_eq_left, List.cons.injEq, and_true, true_and, decide_eq_true_eq, reduceCtorEq, false_and, exists_false, or_false, false_or, exists_const, and_assoc, exists_and_left, List.append_nil, ix0, ix1, ix2, cm_mod, cdw1009, cdw2003, cdw7, cdw64, cdw2, cm104729, cm2, cm3, upd_same, List.length_cons, List.length_nil, Int.reduceLT, Int.reduceLE, Nat.reduceAdd, Nat.reduceLeDiff, Nat.reduceLT, Int.reduceToNat, r_for1, r_forL, r_forT, r_lcL, r_lc1, r_yes, r_gtupD, wipe_0, wipe_1, List.cons_append, List.nil_append, r_forS, r_ipI, ite_false, ite_true, Bool.not_true, Bool.not_false, decide_true, decide_false, r_isd, r_islt, cD_ty, cD_ref, tD_non, tD_bl, tD_int, tD_str, tD_ref, tH_lst, tH_tup, tH_dK, tH_ins, ki_self, ki_int_bool, ki_non_int, ki_str_int, ki_lt_lst, ki_lt_tup, r_fld, r_sfld, HO.ins.injEq, cx_K, hc1, n13, l0, cl]
    rw [e]
    have iG := Ini.same i13' sG
    have x14 : p14 ≠ c := new_ne hc hp
    have q := Ini.store (CC := CC) (dx := dx) (f := "lines") (y := .ref p14) (kk.trans (Keep.same sG)) hl lk
    have kp14 : Keep c G (L2.upd G c (.ins CC dx (putF "lines" (.ref p14) fs))) := Keep.upd (Keep.refl c G)
    have t5 := kp14 p5 _ x5 (sG _ _ t5)
    have t7 := kp14 p7 _ x7 (sG _ _ t7)
    have t8 := kp14 p8 _ x8 (sG _ _ t8)
    have t9 := kp14 p9 _ x9 (sG _ _ t9)
    have t10 := kp14 p10 _ x10 (sG _ _ t10)
    have t14 := kp14 p14 _ x14 hG
    have i14 := q
    clear hc e N l0 q kp14 iG hc1 i13' b5
    generalize L2.upd G c (.ins CC dx (putF "lines" (.ref p14) fs)) = H14 at i14 t5 t7 t8 t9 t10 t14 ⊢
    clear kk hl lk sG hG hp
    -- handlers
    refine seq_intro fun N e => ?_
    have i14' := i14
    obtain ⟨kk, fs, hc, hl, lk⟩ := i14
    have b6 := kk gd _ z6 a6
    have l0 : fs.length < 1000 := Nat.lt_of_le_of_lt hl (by simp only [List.length_cons, List.length_nil]; decide)
    simp only [r_seq, r_next, r_brk, r_cont, r_asg, r_name, r_ret, r_retN, r_drop, r_ifs, r_never, r_var, r_c, r_op, r_un, r_if, r_tst, r_b, r_not, r_and, r_or, r_andV, r_orV, r_notV, r_nil, r_cons, r_tup, r_lst, r_cb, r_call, r_bm, r_bm0, r_sl, r_nopart, r_part, r_rev, r_gnil, r_gcons, r_gsub, r_par, r_aug, r_chain, r_I0, r_I, r_U, r_ixd, r_lend, r_tupd, r_listd, r_sld, r_app, r_ext, r_reverse, r_setl, r_cat, r_int1, r_eqS, r_neS, scal_ii, scal_bb, scal_ss, at0, at1, at2, sq_lst, sq_tup, isLst_lst, List.getElem?_cons_zero, List.getElem?_cons_succ, List.set_cons_zero, List.set_cons_succ, V.int.injEq, V.bl.injEq, V.ref.injEq, V.str.injEq, HO.lst.injEq, HO.tup.injEq, Option.some.injEq, exists_eq_left', exists_eq_left, List.cons.injEq, and_true, true_and, decide_eq_true_eq, reduceCtorEq, false_and, exists_false, or_false, false_or, exists_const, and_assoc, exists_and_left, List.append_nil, ix0, ix1, ix2, cm_mod, cdw1009, cdw2003, cdw7, cdw64, cdw2, cm104729, cm2, cm3, upd_same, List.length_cons, List.length_nil, Int.reduceLT, Int.reduceLE, Nat.reduceAdd, Nat.reduceLeDiff, Nat.reduceLT, Int.reduceToNat, r_for1, r_forL, r_forT, r_lcL, r_lc1, r_yes, r_gtupD, wipe_0, wipe_1, List.cons_append, List.nil_append, r_forS, r_ipI, ite_false, ite_true, Bool.not_true, Bool.not_false, decide_true, decide_false, r_isd, r_islt, cD_ty, cD_ref, tD_non, tD_bl, tD_int, tD_str, tD_ref, tH_lst, tH_tup, tH_dK, tH_ins, ki_self, ki_int_bool, ki_non_int, ki_str_int, ki_lt_lst, ki_lt_tup, r_fld, r_sfld, HO.ins.injEq, cx_K, r_spB, r_spSs, b6]
    refine ⟨_, rfl, bg, fun p15 G hp sG hG => ?_⟩
    have hc1 := sG c _ hc
    simp only [r_seq, r_next, r_brk, r_cont, r_asg, r_name, r_ret, r_retN, r_drop, r_ifs, r_never, r_var, r_c, r_op, r_un, r_if, r_tst, r_b, r_not, r_and, r_or, r_andV, r_orV, r_notV, r_nil, r_cons, r_tup, r_lst, r_cb, r_call, r_bm, r_bm0, r_sl, r_nopart, r_part, r_rev, r_gnil, r_gcons, r_gsub, r_par, r_aug, r_chain, r_I0, r_I, r_U, r_ixd, r_lend, r_tupd, r_listd, r_sld, r_app, r_ext, r_reverse, r_setl, r_cat, r_int1, r_eqS, r_neS, scal_ii, scal_bb, scal_ss, at0, at1, at2, sq_lst, sq_tup, isLst_lst, List.getElem?_cons_zero, List.getElem?_cons_succ, List.set_cons_zero, List.set_cons_succ, V.int.injEq, V.bl.injEq, V.ref.injEq, V.str.injEq, HO.lst.injEq, HO.tup.injEq, Option.some.injEq, exists_eq_left', exists_eq_left, List.cons.injEq, and_true, true_and, decide_eq_true_eq, reduceCtorEq, false_and, exists_false, or_false, false_or, exists_const, and_assoc, exists_and_left, List.append_nil, ix0, ix1, ix2, cm_mod, cdw1009, cdw2003, cdw7, cdw64, cdw2, cm104729, cm2, cm3, upd_same, List.length_cons, List.length_nil, Int.reduceLT, Int.reduceLE, Nat.reduceAdd, Nat.reduceLeDiff, Nat.reduceLT, Int.reduceToNat, r_for1, r_forL, r_forT, r_lcL, r_lc1, r_yes, r_gtupD, wipe_0, wipe_1, List.cons_append, List.nil_append, r_forS, r_ipI, ite_false, ite_true, Bool.not_true, Bool.not_false, decide_true, decide_false, r_isd, r_islt, cD_ty, cD_ref, tD_non, tD_bl, tD_int, tD_str, tD_ref, tH_lst, tH_tup, tH_dK, tH_ins, ki_self, ki_int_bool, ki_non_int, ki_str_int, ki_lt_lst, ki_lt_tup, r_fld, r_sfld, HO.ins.injEq, cx_K, hc1, n14, l0, cl]
    rw [e]
    have iG := Ini.same i14' sG
    have x15 : p15 ≠ c := new_ne hc hp
    have q := Ini.store (CC := CC) (dx := dx) (f := "handlers") (y := .ref p15) (kk.trans (Keep.same sG)) hl lk
    have kp15 : Keep c G (L2.upd G c (.ins CC dx (putF "handlers" (.ref p15) fs))) := Keep.upd (Keep.refl c G)
    have t5 := kp15 p5 _ x5 (sG _ _ t5)
    have t7 := kp15 p7 _ x7 (sG _ _ t7)
    have t8 := kp15 p8 _ x8 (sG _ _ t8)
    have t9 := kp15 p9 _ x9 (sG _ _ t9)
    have t10 := kp15 p10 _ x10 (sG _ _ t10)
    have t14 := kp15 p14 _ x14 (sG _ _ t14)
    have t15 := kp15 p15 _ x15 hG
    have i15 := q
    clear hc e N l0 q kp15 iG hc1 i14' b6
    generalize L2.upd G c (.ins CC dx (putF "handlers" (.ref p15) fs)) = H15 at i15 t5 t7 t8 t9 t10 t14 t15 ⊢
    clear kk hl lk sG hG hp
    -- identity
    have i15' := i15
    obtain ⟨kk, fs, hc, hl, lk⟩ := i15'
    have y0 := lk "argcount" _ rfl
    have y1 := lk "onlycount" _ rfl
    have y2 := lk "stacksize" _ rfl
    have y3 := lk "flags" _ rfl
    have y4 := lk "code" _ rfl
    have y5 := lk "depth" _ rfl
    have y6 := lk "constants" _ rfl
    have y7 := lk "names" _ rfl
    have y8 := lk "slots" _ rfl
    have y9 := lk "kinds" _ rfl
    have y10 := lk "name" _ rfl
    have y11 := lk "path" _ rfl
    have y12 := lk "line" _ rfl
    have y13 := lk "lines" _ rfl
    have y14 := lk "handlers" _ rfl
    have l0 : fs.length < 1000 := Nat.lt_of_le_of_lt hl (by simp only [List.length_cons, List.length_nil]; decide)
    simp only [r_seq, r_next, r_brk, r_cont, r_asg, r_name, r_ret, r_retN, r_drop, r_ifs, r_never, r_var, r_c, r_op, r_un, r_if, r_tst, r_b, r_not, r_and, r_or, r_andV, r_orV, r_notV, r_nil, r_cons, r_tup, r_lst, r_cb, r_call, r_bm, r_bm0, r_sl, r_nopart, r_part, r_rev, r_gnil, r_gcons, r_gsub, r_par, r_aug, r_chain, r_I0, r_I, r_U, r_ixd, r_lend, r_tupd, r_listd, r_sld, r_app, r_ext, r_reverse, r_setl, r_cat, r_int1, r_eqS, r_neS, scal_ii, scal_bb, scal_ss, at0, at1, at2, sq_lst, sq_tup, isLst_lst, List.getElem?_cons_zero, List.getElem?_cons_succ, List.set_cons_zero, List.set_cons_succ, V.int.injEq, V.bl.injEq, V.ref.injEq, V.str.injEq, HO.lst.injEq, HO.tup.injEq, Option.some.injEq, exists_eq_left', exists_eq_left, List.cons.injEq, and_true, true_and, decide_eq_true_eq, reduceCtorEq, false_and, exists_false, or_false, false_or, exists_const, and_assoc, exists_and_left, List.append_nil, ix0, ix1, ix2, cm_mod, cdw1009, cdw2003, cdw7, cdw64, cdw2, cm104729, cm2, cm3, upd_same, List.length_cons, List.length_nil, Int.reduceLT, Int.reduceLE, Nat.reduceAdd, Nat.reduceLeDiff, Nat.reduceLT, Int.reduceToNat, r_for1, r_forL, r_forT, r_lcL, r_lc1, r_yes, r_gtupD, wipe_0, wipe_1, List.cons_append, List.nil_append, r_forS, r_ipI, ite_false, ite_true, Bool.not_true, Bool.not_false, decide_true, decide_false, r_isd, r_islt, cD_ty, cD_ref, tD_non, tD_bl, tD_int, tD_str, tD_ref, tH_lst, tH_tup, tH_dK, tH_ins, ki_self, ki_int_bool, ki_non_int, ki_str_int, ki_lt_lst, ki_lt_tup, r_fld, r_sfld, HO.ins.injEq, cx_K, r_plain]
    intro m md hm hmd nm
    have hc1 : L2.upd (L2.upd H15 md (.own m)) m (.ins MM md []) c = some (.ins CC dx fs) := by rw [upd_ne (ne_new hc hm), upd_ne (ne_new hc hmd)]; exact hc
    simp only [r_seq, r_next, r_brk, r_cont, r_asg, r_name, r_ret, r_retN, r_drop, r_ifs, r_never, r_var, r_c, r_op, r_un, r_if, r_tst, r_b, r_not, r_and, r_or, r_andV, r_orV, r_notV, r_nil, r_cons, r_tup, r_lst, r_cb, r_call, r_bm, r_bm0, r_sl, r_nopart, r_part, r_rev, r_gnil, r_gcons, r_gsub, r_par, r_aug, r_chain, r_I0, r_I, r_U, r_ixd, r_lend, r_tupd, r_listd, r_sld, r_app, r_ext, r_reverse, r_setl, r_cat, r_int1, r_eqS, r_neS, scal_ii, scal_bb, scal_ss, at0, at1, at2, sq_lst, sq_tup, isLst_lst, List.getElem?_cons_zero, List.getElem?_cons_succ, List.set_cons_zero, List.set_cons_succ, V.int.injEq, V.bl.injEq, V.ref.injEq, V.str.injEq, HO.lst.injEq, HO.tup.injEq, Option.some.injEq, exists_eq_left', exists_eq_left, List.cons.injEq, and_true, true_and, decide_eq_true_eq, reduceCtorEq, false_and, exists_false, or_false, false_or, exists_const, and_assoc, exists_and_left, List.append_nil, ix0, ix1, ix2, cm_mod, cdw1009, cdw2003, cdw7, cdw64, cdw2, cm104729, cm2, cm3, upd_same, List.length_cons, List.length_nil, Int.reduceLT, Int.reduceLE, Nat.reduceAdd, Nat.reduceLeDiff, Nat.reduceLT, Int.reduceToNat, r_for1, r_forL, r_forT, r_lcL, r_lc1, r_yes, r_gtupD, wipe_0, wipe_1, List.cons_append, List.nil_append, r_forS, r_ipI, ite_false, ite_true, Bool.not_true, Bool.not_false, decide_true, decide_false, r_isd, r_islt, cD_ty, cD_ref, tD_non, tD_bl, tD_int, tD_str, tD_ref, tH_lst, tH_tup, tH_dK, tH_ins, ki_self, ki_int_bool, ki_non_int, ki_str_int, ki_lt_lst, ki_lt_tup, r_fld, r_sfld, HO.ins.injEq, cx_K, hc1, cl, l0, n15]
    have u := fun (b : Addr) (o : HO) (nb : b ≠ c) (e : H15 b = some o) (o3 : HO) => (show L2.upd (L2.upd (L2.upd H15 md (.own m)) m (.ins MM md [])) c o3 b = some o from by rw [upd_ne nb, upd_ne (ne_new e hm), upd_ne (ne_new e hmd)]; exact e)
    refine k _ (fun b o nb e => ?_) ⟨dx, _, p5, p14, p15, upd_same, ?_, u _ _ x5 t5 _, ?_, ?_, u _ _ x14 t14 _, ?_, u _ _ x15 t15 _⟩
    · exact u b o nb (kk b o nb e) _
    · rw [lookup_putF, if_neg (by decide)]
      exact y4
    · rw [lookup_putF, if_neg (by decide)]
      exact y12
    · rw [lookup_putF, if_neg (by decide)]
      exact y13
    · rw [lookup_putF, if_neg (by decide)]
      exact y14
abbrev smade : Stmt := top 36
theorem scmade : FnScope ["_law_data", "_law_lines", "_law_guards", "_law_first"] ["_law_data", "_law_lines", "_law_guards", "_law_first"] (defScope smade) := ⟨rfl, rfl, rfl, by decide +kernel, rfl, by decide +kernel, by decide +kernel⟩

/-- a Code made by the law -/
def spMade (CC : Addr) : Sp := fun vs H Q _ => ∃ (d ln gd : Addr) (ds ls gs : List Nat) (first : Int), vs = [.ref d, .ref ln, .ref gd, .int first] ∧ H d = some (.lst (vn ds)) ∧ H ln = some (.lst (vn ls)) ∧ H gd = some (.lst (vn gs)) ∧
  (∀ n ∈ ds, n < 256) ∧ (∀ n ∈ ls, n < 256) ∧ (∀ n ∈ gs, n < 256) ∧ 0 ≤ first ∧ first ≤ 2147483647 ∧ ∀ c H', H c = none → Same H H' → CodeAt CC H' c ds ls gs first → Q (.ref c) H'
/-- the class Code as its callers see it -/
structure MkCode (P : Program) (w : World) (K : PySem.W.Frag) (mg : Str → Option Value) (base : Heap) (CC : Addr) : Prop where
  ex : ∃ f fd, Mk K CC f ∧ FnOk P w K mg base CX0 3 f fd ["self", "argcount", "onlycount", "stacksize", "flags", "code", "constants", "names", "slots", "kinds", "name", "path", "line", "lines", "handlers"] (spCodeInit CC) ∧ mg "Code" = some (.ref CC) ∧
    Binds K fd ["self", "argcount", "onlycount", "stacksize", "flags", "code", "constants", "names", "slots", "kinds", "name", "path", "line", "lines", "handlers"] []
theorem pe_mak {X : Cx} {CC : Addr} {e : Expr} {es : List Expr} {t : TA} {p pos : Pos} (M : MkCode X.prog X.w X.K X.mg X.base CC) (hr : Room 4 X.A) (hg : Gl X "Code") (ha : PA X (e :: es) t)
    (he : starEach (e :: es) X.env = (false, eval e X.env) :: starEach es X.env := by rfl) (hpl : (backTo pos (starEach es X.env)).any (·.1) = false := by rfl) :
    PE X (.Call (.Name "Code" p) (e :: es) [] pos) (tMake CC (spCodeInit CC) [] E0 t) := by
  obtain ⟨f, fd, M, F, m, b⟩ := M.ex
  exact pe_make M F hr hg m b .nil pass0 ha (by decide) he hpl
theorem r_make {C : Addr} {sp : Sp} {dvs : List V} {E : XK} {t : TA} {σ : L2.St} {H : Hp} {Q : VK} : tMake C sp dvs E t σ H Q = t σ H (fun vs H1 => ∀ x dx, H1 x = none → H1 dx = none → dx ≠ x → sp (.ref x :: (vs ++ dvs)) (L2.upd (L2.upd H1 dx (.own x)) x (.ins C dx [])) (fun v H2 => v = .non ∧ Q (.ref x) H2) E) := rfl
theorem ok_made {CC : Addr} (T : Txt mg) (F : FnP K "_law_made" "_law_made" smade f fd) (M_Code : MkCode P w K mg base CC) : FnOk P w K mg base CX0 5 f fd ["_law_data", "_law_lines", "_law_guards", "_law_first"] (spMade CC) := by
  refine F.ok scmade (fun vs H Q E h => ?_) (fun cdv A outer s H vs Q E hr h => ?_)
  · obtain ⟨d, ln, gd, ds, ls, gs, first, rfl, _⟩ := h
    rfl
  · obtain ⟨d, ln, gd, ds, ls, gs, first, rfl, a0, a5, a6, bd, bl, bg, f0, f1, k⟩ := h
    refine ⟨_, PSs.nox (pss_one (ps_ret (pe_mak M_Code hr rfl (pa_cons pe_int (pa_cons pe_int (pa_cons pe_int (pa_cons pe_int (pa_cons (pv 0) (pa_cons (pe_lst pa_nil) (pa_cons (pe_lst pa_nil) (pa_cons (pe_lst pa_nil) (pa_cons (pe_lst pa_nil) (pa_cons pe_str (pa_cons pe_str (pa_cons (pv 3) (pa_cons (pv 1) (pa_cons (pv 2) pa_nil))))))))))))))))), ?_⟩
    show (_ : TS) _ [some (.ref d), some (.ref ln), some (.ref gd), some (.int first)] H
    simp only [r_seq, r_next, r_brk, r_cont, r_asg, r_name, r_ret, r_retN, r_drop, r_ifs, r_never, r_var, r_c, r_op, r_un, r_if, r_tst, r_b, r_not, r_and, r_or, r_andV, r_orV, r_notV, r_nil, r_cons, r_tup, r_lst, r_cb, r_call, r_bm, r_bm0, r_sl, r_nopart, r_part, r_rev, r_gnil, r_gcons, r_gsub, r_par, r_aug, r_chain, r_I0, r_I, r_U, r_ixd, r_lend, r_tupd, r_listd, r_sld, r_app, r_ext, r_reverse, r_setl, r_cat, r_int1, r_eqS, r_neS, scal_ii, scal_bb, scal_ss, at0, at1, at2, sq_lst, sq_tup, isLst_lst, List.getElem?_cons_zero, List.getElem?_cons_succ, List.set_cons_zero, List.set_cons_succ, V.int.injEq, V.bl.injEq, V.ref.injEq, V.str.injEq, HO.lst.injEq, HO.tup.injEq, Option.some.injEq, exists_eq_left', exists_eq_left, List.cons.injEq, and_true, true_and, decide_eq_true_eq, reduceCtorEq, false_and, exists_false, or_false, false_or, exists_const, and_assoc, exists_and_left, List.append_nil, ix0, ix1, ix2, cm_mod, cdw1009, cdw2003, cdw7, cdw64, cdw2, cm104729, cm2, cm3, upd_same, List.length_cons, List.length_nil, Int.reduceLT, Int.reduceLE, Nat.reduceAdd, Nat.reduceLeDiff, Nat.reduceLT, Int.reduceToNat, r_for1, r_forL, r_forT, r_lcL, r_lc1, r_yes, r_gtupD, wipe_0, wipe_1, List.cons_append, List.nil_append, r_forS, r_ipI, ite_false, ite_true, Bool.not_true, Bool.not_false, decide_true, decide_false, r_isd, r_islt, cD_ty, cD_ref, tD_non, tD_bl, tD_int, tD_str, tD_ref, tH_lst, tH_tup, tH_dK, tH_ins, ki_self, ki_int_bool, ki_non_int, ki_str_int, ki_lt_lst, ki_lt_tup, r_fld, r_sfld, HO.ins.injEq, cx_K, r_make]
    refine ⟨Nat.zero_le _, fun p hp => ⟨Nat.zero_le _, fun p1 hp1 => ⟨Nat.zero_le _, fun p2 hp2 => ⟨Nat.zero_le _, fun p3 hp3 x dx hx hd nd => ?_⟩⟩⟩⟩
    have s1 := Same.new' (o := .lst []) (Same.refl H) hp
    have q1 : L2.upd H p (.lst []) p = some (.lst []) := upd_same
    generalize L2.upd H p (.lst []) = G1 at *
    have s2 := Same.new' (o := .lst []) (Same.refl G1) hp1
    have q2 : L2.upd G1 p1 (.lst []) p1 = some (.lst []) := upd_same
    generalize L2.upd G1 p1 (.lst []) = G2 at *
    have s3 := Same.new' (o := .lst []) (Same.refl G2) hp2
    have q3 : L2.upd G2 p2 (.lst []) p2 = some (.lst []) := upd_same
    generalize L2.upd G2 p2 (.lst []) = G3 at *
    have s4 := Same.new' (o := .lst []) (Same.refl G3) hp3
    have q4 : L2.upd G3 p3 (.lst []) p3 = some (.lst []) := upd_same
    generalize L2.upd G3 p3 (.lst []) = G4 at *
    have ww : ∀ b o, G4 b = some o → L2.upd (L2.upd G4 dx (.own x)) x (.ins CC dx []) b = some o := fun b o e => by
      rw [upd_ne (ne_new e hx), upd_ne (ne_new e hd)]
      exact e
    have sH : Same H G4 := fun b o e => s4 b o (s3 b o (s2 b o (s1 b o e)))
    refine ⟨x, dx, d, p, p1, p2, p3, ln, gd, ds, ls, gs, first, rfl, upd_same, ww _ _ (sH _ _ a0), ww _ _ (s4 _ _ (s3 _ _ (s2 _ _ q1))), ww _ _ (s4 _ _ (s3 _ _ q2)), ww _ _ (s4 _ _ q3), ww _ _ q4, ww _ _ (sH _ _ a5), ww _ _ (sH _ _ a6), bd, bl, bg, f0, f1, fun H' kk ca => ⟨rfl, k x H' ?_ ?_ ca⟩⟩
    · cases e : H x with
      | none => rfl
      | some o =>
        have := sH x o e
        rw [hx] at this
        cases this
    · exact fun b o e => kk b o (ne_new (sH b o e) hx) (ww _ _ (sH b o e))
end
end C47

set_option maxHeartbeats 2000000
namespace C47
open PySem PySem.Spec PyProof.Rows L2
/-! ### several clauses «except x as n» -/
/-- the ends of a suite behind which slot i is empty -/
def offE (D : Ends) (i : Nat) : Ends := { nx := fun τ G => D.nx (τ.set i none) G, rt := D.rt, bk := fun τ G => D.bk (τ.set i none) G, ct := fun τ G => D.ct (τ.set i none) G }
/-- a clause: the class, the slot of the name, the suite's reading -/
abbrev Cla := Value × Nat × (Addr → Value → Option Addr → TS)
def wAses (K : PySem.W.Frag) (m : Nat) (Wout : WX) (D : Ends) : List Cla → WX
  | [] => Wout
  | q :: r => fun cls d σ H => ∃ b, PySem.W.exmOne K cls q.1 = some b ∧ (b = true → ∀ z, H z = none → σ.length = m → q.2.2 z cls d (offE D q.2.1) (σ.set q.2.1 (some (.ref z))) H) ∧ (b = false → wAses K m Wout D r cls d σ H)
inductive AsOk (X : Cx) : List ExceptHandler → List Cla → Prop
  | nil : AsOk X [] []
  | cons {x n : Str} {c : Value} {i : Nat} {ts : Addr → Value → Option Addr → TS} {b : Stmt} {bs : List Stmt} {p q : Pos} {hds : List ExceptHandler} {l : List Cla} (nm : Names X x c) (at_ : X.N[i]? = some n) (lc : X.env.kindOf n = some .local)
      (su : ∀ (z : Addr) (o : Obj) (cls : Value) (d : Option Addr) (pn : List (Addr × Obj)), Zc cls d o → (∃ vs, o.data = .fields vs) → PSs (X.suite z ((z, o) :: pn)) (b :: bs) (ts z cls d)) (r : AsOk X hds l) :
      AsOk X (.ExceptHandler (some (.Name x p)) (some n) (b :: bs) q :: hds) ((c, i, ts) :: l)
/-- where the clauses are looked at: z is caught and stands on the ground -/
structure Down (X : Cx) (pins : List (Addr × Obj)) (σ : L2.St) (H : Hp) (cls : Value) (d : Option Addr) (z : Addr) (B : Heap) (s0 s : Shared) : Prop where
  inv : L2.Inv X pins σ H s0
  nb : ∀ (b : Addr) (o : Obj), s0.heap.get? b = some o → ¬b ∈ frs X.stack → B.get? b = some o
  up : s0.heap.UpToSlots s.heap
  fl : HandSPX.FlyingZ B (X.env :: X.outer) z (Zc cls d) s.heap
  na : H z = none
  os : s.os = s0.os
  ag : AllBare s.gens
section
variable {X : Cx} {pins : List (Addr × Obj)} {σ : L2.St} {H : Hp} {cls : Value} {d : Option Addr} {z : Addr} {B : Heap} {s0 s : Shared}
theorem Down.now (g : Down X pins σ H cls d z B s0 s) : L2.Inv X pins σ H s := g.inv.landed g.nb g.fl.1 g.up g.os g.ag
theorem Down.far (g : Down X pins σ H cls d z B s0 s) {o : Obj} {vs : Array Value} (e : s.heap.get? z = some o) (q : o.data = .fields vs) : z ∉ frs (X.env :: X.outer) := by
  intro hm
  obtain ⟨_, o1, e1, no⟩ := g.fl.2.2.1.mem hm
  have := e.symm.trans e1
  cases this
  exact no _ q
theorem Down.inside (g : Down X pins σ H cls d z B s0 s) (hf : X.env.frame = some X.env.locals) {o : Obj} {vs : Array Value} (e : s.heap.get? z = some o) (q : o.data = .fields vs) : L2.Inv (X.suite z ((z, o) :: (X.pn ++ pins))) [] σ H s := by
  have f := g.far e q
  refine g.now.suite e q g.na (fun w => f ?_) (fun hm => f ?_)
  · exact List.mem_filterMap.mpr ⟨X.env, List.mem_cons_self, hf.trans (congrArg some w.symm)⟩
  · obtain ⟨v, hv, w⟩ := List.mem_filterMap.mp hm
    exact List.mem_filterMap.mpr ⟨v, List.mem_cons_of_mem _ hv, w⟩
/-- no clause is left: the exception goes on -/
theorem Down.on {D : Ends} {Wout : WX} (g : Down X pins σ H cls d z B s0 s) (hs : X.stack = X.env :: X.outer) (hf : X.env.frame = some X.env.locals) (tk : Takes X Wout) (w : Wout cls d σ H) :
    wpAny (model X.prog X.w) X.A (handleBy (.ref z) X.env []) (SP X pins D) X.xe s := by
  refine wpAny_handleBy_nil ?_
  obtain ⟨_, _, _, o, vs, tb, _, _, e, _, q, e1, _⟩ := id g.fl
  have out : wpAny (model X.prog X.w) X.A (setFlight (.ref z) X.env.frame) (fun _ t => wpAny (model X.prog X.w) X.A (throw (.ref z) : Sem Flow) (SP X pins D) X.xe t) X.xe s := by
    rw [hf]
    exact HandSPX.setFlight_upZ g.fl fun k hk uk => wpAny_throw (tk _ _ ⟨z, B, s0, pins, σ, H, cls, d, rfl, g.inv, g.nb, g.up.trans uk, .inr (.inr (hs ▸ hk)), g.na, g.os, g.ag, w⟩)
  unfold PySem.passOn
  refine wpAny_bind (wpAny_field e q e1 ?_)
  rw [if_neg (by simp)]
  first
    | exact wpAny_bind out
    | exact wpAny_bind (wpAny_pure (wpAny_bind out))
end
section
variable {X : Cx}
/-- the clauses, one after the other -/
theorem ases_go (hs : X.stack = X.env :: X.outer) (hf : X.env.frame = some X.env.locals) (hN : X.N.Nodup) {Wout : WX} (tk : Takes X Wout) {D : Ends} {pins : List (Addr × Obj)} {σ : L2.St} {H : Hp} {cls : Value} {d : Option Addr} {z : Addr} {B : Heap} {s0 s : Shared} (g : Down X pins σ H cls d z B s0 s) :
    ∀ {hds : List ExceptHandler} {l : List Cla}, AsOk X hds l → wAses X.K X.N.length Wout D l cls d σ H → wpAny (model X.prog X.w) X.A (handleBy (.ref z) X.env hds) (SP X pins D) X.xe s := by
  intro hds l hk
  have ok := g.inv.ok
  induction hk with
  | nil => exact g.on hs hf tk
  | @cons x n c i ts b bs p q hds l nm at_ lc su r ih =>
    rintro ⟨yes, e, h1, h2⟩
    obtain ⟨o, vs, eo, zo, qo⟩ := g.fl.there
    refine wpAny_handleBy_cons (codeAny_handlers_test ?_) (by intro w; cases w)
    have cl : PySem.W.Looks (model X.prog X.w) s.heap (typeOf (.ref z)) cls := fun _ _ _ _ k w => wpAny_typeOf_ref (k _ _ eo) (by rw [zo.1]; exact w)
    have inn := g.inside hf eo qo
    have named : ∀ {Q : Value → Shared → Prop} {E : Value → Shared → Prop}, Q c s → wpAny (model X.prog X.w) (X.A.mark (some (.ref z))) (eval (.Name x p) X.env) Q E s := by
      intro Q E w
      obtain ⟨g1, g2, g3 | ⟨g3, g4, g5⟩⟩ := nm
      · exact ld_glob (X := X.suite z ((z, o) :: (X.pn ++ pins))) inn g1 g3 w g2
      · exact ld_blt (X := X.suite z ((z, o) :: (X.pn ++ pins))) inn g1 g3 g4 w g5 g2
    refine named ((PySem.W.exm_one (M := model X.prog X.w) g.now.kIn cl e).here ?_)
    cases yes with
    | false => exact ih (h2 rfl)
    | true =>
      refine codeAny_handlers_suite_as (HandSPX.lands_againZ g.fl fun k fk uk => ?_)
      have g' : Down X pins σ H cls d z B s0 { s with heap := k } := ⟨g.inv, g.nb, g.up.trans uk, fk, g.na, g.os, g.ag⟩
      obtain ⟨o', vs', eo', zo', qo'⟩ := fk.there
      refine store_ok (X := X.suite z ((z, o') :: (X.pn ++ pins))) (v := .ref z) (g'.inside hf eo' qo') hN at_ (.inl lc) rfl (fun t it => ?_) (.inr lc)
      refine wpAny_mono ((su z o' cls d (X.pn ++ pins) zo' ⟨_, qo'⟩).run [] t _ H _ it (h1 rfl z g.na g.inv.len)) (fun f t' ht => ?_) (fun _ _ no => no.elim)
      have gone : ∀ {τ : L2.St} {G : Hp} {Q : Shared → Prop}, L2.Inv (X.suite z ((z, o') :: (X.pn ++ pins))) [] τ G t' → (∀ t1, L2.Inv X pins (τ.set i none) G t1 → Q t1) →
          wpAny (model X.prog X.w) X.A (do bindName X.env n .none; unbindBehindTheSuite X.env n q) (fun _ t1 => Q t1) X.xe t' := fun it' w => gone_ok (it'.unsuite ok) hN at_ lc w
      cases f with
      | ret u =>
        obtain ⟨_, _, _, it', ru, w⟩ := ht
        exact gone it' fun _ i1 => ⟨_, _, _, i1, ru, w⟩
      | next => obtain ⟨_, _, it', w⟩ := ht; exact gone it' fun _ i1 => ⟨_, _, i1, w⟩
      | brk => obtain ⟨_, _, it', w⟩ := ht; exact gone it' fun _ i1 => ⟨_, _, i1, w⟩
      | cont => obtain ⟨_, _, it', w⟩ := ht; exact gone it' fun _ i1 => ⟨_, _, i1, w⟩
/-- try: body / except x as n: .. / except y as n: .. -/
theorem ps_try_ases {body : List Stmt} {h1 : ExceptHandler} {hds : List ExceptHandler} {l : List Cla} {pos : Pos} {tb : WX → TS} {Wout : WX} (hs : X.stack = X.env :: X.outer) (hf : X.env.frame = some X.env.locals) (hN : X.N.Nodup) (tk : Takes X Wout)
    (hb : ∀ (W : WX) (pn : List (Addr × Obj)) (xe : Value → Shared → Prop), Takes (X.tr pn xe) W → PassesOwn (model X.prog X.w) X.A X.env xe → PSs (X.tr pn xe) body (tb W)) (hh : AsOk X (h1 :: hds) l) :
    PS X (.Try body (h1 :: hds) [] [] pos) (fun D σ H => tb (wAses X.K X.N.length Wout D l) D σ H) := by
  refine ⟨fun pins s σ H D I h => wpAny_Try_except ?_⟩
  have ok := I.ok
  have fr : X.A.frames = some (X.env :: X.outer) := ok.frames.trans (congrArg some hs)
  refine wpAny_mono ((hb (wAses X.K X.N.length Wout D l) (X.pn ++ pins) _ ?_ PassesOwn.looking).run [] s σ H D (I.toTry _) h) ?_ (fun _ _ w => w)
  · rintro u t ⟨z, B, s0, pins', σ', H', cls, d, rfl, I', nb, up, sky, na, os, ag, w⟩
    show wpAny (model X.prog X.w) X.A (noteFrame (.ref z) X.env) _ _ _
    have sky' : Sky B (X.env :: X.outer) z (Zc cls d) X.env.locals t.heap := hs ▸ sky
    exact Sky.land Zc.steady fr hf sky' fun k fk uk => ases_go (s := { t with heap := k }) hs hf hN tk ⟨I'.ofTry ok, nb, up.trans uk, fk, na, os, ag⟩ hh w
  · intro f t ht
    cases f with
    | next => obtain ⟨_, _, it, w⟩ := ht; exact wpAny_execs_nil ⟨_, _, it.ofTry ok, w⟩
    | brk => obtain ⟨_, _, it, w⟩ := ht; exact ⟨_, _, it.ofTry ok, w⟩
    | cont => obtain ⟨_, _, it, w⟩ := ht; exact ⟨_, _, it.ofTry ok, w⟩
    | ret u => obtain ⟨_, _, _, it, ru, w⟩ := ht; exact ⟨_, _, _, it.ofTry ok, ru, w⟩
end
/-! ### isinstance(e, c) of a caught exception with fields of its own -/
def rIsED (K : PySem.W.Frag) (D a dd : Addr) : List V → Hp → VK → Prop := fun vs H Q => ∃ (c : V) (cv : Value) (b : Bool) (fs : List (Str × V)), vs = [.ref a, c] ∧ clsD c = some cv ∧ PySem.W.kitOne K (.ref D) cv = some b ∧ H dd = some (.xd fs) ∧ Q (.bl b) H
theorem call_isED {X : Cx} {a D dd : Addr} {o : Obj} {pn : List (Addr × Obj)} (C : ExcC X.K D) (hz : Zc (.ref D) (some dd) o) (hf : ∃ vs, o.data = .fields vs) : CallR (X.suite a ((a, o) :: pn)) (.builtin "isinstance") (rIsED X.K D a dd) := by
  rintro pins s σ H xs us Q I r ⟨c, cv, b, fs, rfl, hc, e, hd, q⟩
  obtain ⟨u, us', rfl, ru, r⟩ : ∃ u us', us = u :: us' ∧ L2.RelV (.ref a) u ∧ Vals [c] us' := by cases r with | cons x y => exact ⟨_, _, rfl, x, y⟩
  obtain ⟨v, rfl, rv⟩ := vals1 r
  obtain rfl : u = Value.ref a := ru
  have ev : v = cv := by
    cases c with
    | ty n => cases hc; exact rv
    | ref A => cases hc; exact rv
    | _ => cases hc
  subst ev
  obtain ⟨g, _⟩ := I.pin (a, o) (List.mem_append_left _ List.mem_cons_self)
  obtain ⟨vs, hv⟩ := hf
  have hx : ObjOk X.prog X.w H s.heap dd (.xd fs) := I.hok dd _ hd
  obtain ⟨mA, hns, hr⟩ := hx
  obtain ⟨od, ho, _⟩ := lookIn_ns hns
  have J : PySem.W.InstAt s.heap a o D (some od) := ⟨g, hz.1, by unfold PySem.W.notCls; rw [hv] <;> rfl, by rw [hz.2]; exact ho⟩
  have cl : (PySem.W.clsIn X.K D).isSome = true := by
    obtain ⟨cd, h, _⟩ := PySem.W.any_some C.hd
    rw [h] <;> rfl
  exact PySem.W.kia_one (PySem.W.kitx_exc cl C.hg C.hk C.hs C.ha C.hn C.ht C.hm) I.kIn J e (fun z => nomatch z) fun tk => ⟨.bl b, H, I.kept (t' := tk) fun _ _ z => z, rfl, q⟩

/-- what is known of the exception NoCode -/
structure NoCodeT (K : PySem.W.Frag) (mg : Str → Option Value) (CN CE : Addr) : Prop where
  ex : ExcC K CN
  xf : XfC K CN
  no : PySem.W.findIn K (.ref CN) "field" = some none
  g_CodeError : mg "CodeError" = some (.ref CE)
  g_NoCode : mg "NoCode" = some (.ref CN)
  b_ValueError : mg "ValueError" = none
  i1 : PySem.W.kitOne K (.ref CN) (.ref CE) = some true
  i2 : PySem.W.kitOne K (.ref CN) (.type "ValueError") = some true
  em : PySem.W.exmOne K (.ref CN) (.ref CN) = some true
/-- the def that catches: what it makes of what it calls -/
def TTCaught (CN : Addr) : (XK → Hp → VK → Prop) → Hp → VK → Prop := fun tl H Q =>
  tl (fun cls d H' => cls = .ref CN ∧ ∃ (dd : Addr) (v : V), d = some dd ∧ H' dd = some (.xd [("field", v)]) ∧ ∀ p H'', H' p = none → Same H' H'' → H'' p = some (.tup [.str "code", v]) → Q (.ref p) H'') H (fun _ H1 => Q .non H1)
section
variable {X : Cx}
abbrev scaught : Stmt := top 38
theorem sccaught : FnScope ["_law_ask", "e"] ["_law_ask"] (defScope scaught) := ⟨rfl, rfl, rfl, by decide +kernel, rfl, by decide +kernel, by decide +kernel⟩

theorem r_isED {K : PySem.W.Frag} {D a dd : Addr} {vs : List V} {H : Hp} {Q : VK} : rIsED K D a dd vs H Q = ∃ (c : V) (cv : Value) (b : Bool) (fs : List (Str × V)), vs = [.ref a, c] ∧ clsD c = some cv ∧ PySem.W.kitOne K (.ref D) cv = some b ∧ H dd = some (.xd fs) ∧ Q (.bl b) H := rfl
theorem r_xf {a : Addr} {cls : Value} {d : Option Addr} {C : Addr} {f : Str} {te : TE} {σ : L2.St} {H : Hp} {Q : VK} : tXf a cls d C f te σ H Q = te σ H (fun x H1 => x = .ref a ∧ cls = .ref C ∧ ∃ (dd : Addr) (fs : List (Str × V)) (v : V), d = some dd ∧ H1 dd = some (.xd fs) ∧ fs.lookup f = some v ∧ Q v H1) := rfl
def trS (K : PySem.W.Frag) (CN CE z dd : Addr) : TS := tRet (tIf (tAnd (tB (tCB (rIsED K CN z dd) (tCons (tVar 1) (tCons (tC (.ref CE)) tNil)))) (tB (tCB (rIsED K CN z dd) (tCons (tVar 1) (tCons (tC (.ty "ValueError")) tNil)))))
  (tTup (tCons (tC (.str "code")) (tCons (tXf z (.ref CN) (some dd) CN "field" (tVar 1)) tNil))) (tC .non))
abbrev cau (X : Cx) (g : Addr) (cdg : Value) (s : Shared) (H : Hp) : Cx := (cxOf C8.CX0 X.prog X.w X.K X.mg X.base ["_law_ask", "e"] "_law_caught" (defScope scaught) g cdg X.A X.stack s H C8.E0).nox
theorem caught_gives {CN CE CT CR CB : Addr} {g : Addr} {cdg : Value} {q : Str} (T : Txt X.mg) (I : NoCodeT X.K X.mg CN CE) (gT : X.mg "NoTable" = some (.ref CT)) (gR : X.mg "NoRows" = some (.ref CR)) (gB : X.mg "NoBytes" = some (.ref CB)) :
    LamX.GivesTo X ["_law_ask", "e"] "_law_caught" (defScope scaught) g cdg (defBody scaught) "_law_ask" q (TTCaught CN) := by
  intro f c' s H Q tl act hc h
  have hN : (["_law_ask", "e"] : List Str).Nodup := by decide
  refine ⟨_, pss_cons (ps_try_ases (X := (cxOf C8.CX0 X.prog X.w X.K X.mg X.base ["_law_ask", "e"] "_law_caught" (defScope scaught) g cdg X.A X.stack s H C8.E0).nox)
    (tb := fun W D σ H => ∃ Ech : XK, (∀ cls d σ' H', Ech cls d H' → W cls d σ' H') ∧ σ[0]? = some (some (.ref f)) ∧ H c' = some (LamX.CodeO c' q) ∧ tl Ech H (fun _ H1 => D.nx σ H1))
    rfl rfl hN LamX.takes0 (fun W pn xe tk _ => ?_)
    (.cons (i := 1) (ts := fun z cls d D σ H => ∃ dd, cls = Value.ref CN ∧ d = some dd ∧ trS X.K CN CE z dd D σ H) ⟨rfl, by decide, .inl I.g_NoCode⟩ rfl rfl (fun z o cls d pn hz hf => ?_) (.cons (i := 1) ⟨rfl, by decide, .inl gT⟩ rfl rfl (fun z o cls d pn hz hf => pss_one ps_never)
      (.cons (i := 1) ⟨rfl, by decide, .inl gR⟩ rfl rfl (fun z o cls d pn hz hf => pss_one ps_never) (.cons (i := 1) ⟨rfl, by decide, .inl gB⟩ rfl rfl (fun z o cls d pn hz hf => pss_one ps_never) .nil)))))
    (pss_one (ps_ret pe_non)), ?_⟩
  · refine ⟨fun pins s' σ H' D I h' => ?_⟩
    obtain ⟨Ech, hW, h1, h2, h3⟩ := h'
    exact (pss_one (ps_expr (act W pn xe Ech _ _ tk hW))).run pins s' σ H' D I ⟨h1, h2, h3⟩
  · refine ⟨fun pins s' σ H' D J h' => ?_⟩
    obtain ⟨dd, rfl, rfl, h'⟩ := h'
    have is1 : CallR ((cau X g cdg s H).suite z ((z, o) :: pn)) (.builtin "isinstance") (rIsED X.K CN z dd) := call_isED (X := cau X g cdg s H) I.ex hz hf
    refine PSs.run ?_ pins s' σ H' D J h'
    exact pss_one (ps_ret (pe_ifExp (PW.pt (pw_and (pt_val (pe_callB is1 (by rfl) T.b_isinstance (by decide +kernel) (pa_cons (pv 1) (pa_cons (pe_glob (v := .ref _) rfl I.g_CodeError rfl) pa_nil)))) (pw_and1 (pt_val (pe_callB is1 (by rfl) T.b_isinstance (by decide +kernel) (pa_cons (pv 1) (pa_cons (pe_bltn (v := .ty "ValueError") (by rfl) I.b_ValueError (by decide +kernel) rfl) pa_nil)))))))
      (pe_tup (pa_cons pe_str (pa_cons (pe_xf (X := cau X g cdg s H) I.xf I.no hz hf (pv 1)) pa_nil))) pe_non))
  · refine ⟨_, ?_, rfl, hc, h⟩
    rintro cls d σ' H' ⟨rfl, dd, v, rfl, hd, k⟩
    refine ⟨true, I.em, fun _ z hz hl => ⟨dd, rfl, rfl, ?_⟩, fun e => nomatch e⟩
    obtain ⟨y0, y1, rfl⟩ : ∃ y0 y1, σ' = [y0, y1] := by
      match σ', hl with
      | [y0, y1], _ => exact ⟨y0, y1, rfl⟩
    show trS X.K CN CE z dd _ [y0, some (.ref z)] H'
    unfold trS
    have i1 := I.i1
    have i2 := I.i2
    simp only [r_seq, r_next, r_brk, r_cont, r_asg, r_name, r_ret, r_retN, r_drop, r_ifs, r_never, r_var, r_c, r_op, r_un, r_if, r_tst, r_b, r_not, r_and, r_or, r_andV, r_orV, r_notV, r_nil, r_cons, r_tup, r_lst, r_cb, r_call, r_bm, r_bm0, r_sl, r_nopart, r_part, r_rev, r_gnil, r_gcons, r_gsub, r_par, r_aug, r_chain, r_I0, r_I, r_U, r_ixd, r_lend, r_tupd, r_listd, r_sld, r_app, r_ext, r_reverse, r_setl, r_cat, r_int1, r_eqS, r_neS, scal_ii, scal_bb, scal_ss, at0, at1, at2, sq_lst, sq_tup, isLst_lst, List.getElem?_cons_zero, List.getElem?_cons_succ, List.set_cons_zero, List.set_cons_succ, V.int.injEq, V.bl.injEq, V.ref.injEq, V.str.injEq, HO.lst.injEq, HO.tup.injEq, Option.some.injEq, exists_eq_left', exists_eq_left, List.cons.injEq, and_true, true_and, decide_eq_true_eq, reduceCtorEq, false_and, exists_false, or_false, false_or, exists_const, and_assoc, exists_and_left, List.append_nil, ix0, ix1, ix2, cm_mod, cdw1009, cdw2003, cdw7, cdw64, cdw2, cm104729, cm2, cm3, upd_same, List.length_cons, List.length_nil, Int.reduceLT, Int.reduceLE, Nat.reduceAdd, Nat.reduceLeDiff, Nat.reduceLT, Int.reduceToNat, r_for1, r_forL, r_forT, r_lcL, r_lc1, r_yes, r_gtupD, wipe_0, wipe_1, List.cons_append, List.nil_append, r_forS, r_ipI, ite_false, ite_true, Bool.not_true, Bool.not_false, decide_true, decide_false, r_isd, r_islt, cD_ty, cD_ref, tD_non, tD_bl, tD_int, tD_str, tD_ref, tH_lst, tH_tup, tH_dK, tH_ins, ki_self, ki_int_bool, ki_non_int, ki_str_int, ki_lt_lst, ki_lt_tup, r_fld, r_sfld, HO.ins.injEq, cx_K, hd, i1, i2, r_isED, r_xf]
    exact ⟨_, rfl, _, rfl, _, rfl, v, rfl, szl (by decide), fun p hp => k p _ hp (Same.new' (Same.refl H') hp) upd_same⟩
end
end C47

set_option maxHeartbeats 2000000
namespace C47
open PySem PySem.Spec PyProof.Rows L2
/-! ### the end of a law, told of the very state in which it is called -/
section
variable {P : Program} {w : World} {K : PySem.W.Frag} {mg mb : Str → Option Value} {fa a : Addr} {cs : List (Addr × Addr)} {s : Shared} {vs : List Value} {ns : List Int}
/-- tracked: the tables of code objects, and the script where nothing written holds it -/
def trk (K : PySem.W.Frag) (T : List Addr) (a : Addr) (vs : List Value) (ns : List Int) : Hp := fun b =>
  if b ∈ T then some (.tbl #[]) else if b = a ∧ K.lookup a = none then some (.frz { cls := .type "list", data := .seq vs.toArray } (.lst (ns.map V.int))) else none
theorem trk_tab {T : List Addr} {b : Addr} (h : b ∈ T) : trk K T a vs ns b = some (.tbl #[]) := if_pos h
theorem trk_cases {T : List Addr} {b : Addr} {u : HO} (h : trk K T a vs ns b = some u) : (b ∈ T ∧ u = .tbl #[]) ∨ (b ∉ T ∧ b = a ∧ K.lookup a = none ∧ u = .frz { cls := .type "list", data := .seq vs.toArray } (.lst (ns.map V.int))) := by
  unfold trk at h
  split at h
  · exact .inl ⟨by assumption, (Option.some.inj h).symm⟩
  · split at h
    · rename_i n q
      exact .inr ⟨n, q.1, q.2, (Option.some.inj h).symm⟩
    · cases h
/-- what the law's run at callerA must do -/
def RunsAt (P : Program) (w : World) (K : PySem.W.Frag) (mg : Str → Option Value) (cs : List (Addr × Addr)) (fa a : Addr) (s : Shared) (ns : List Int) : Prop := ∀ (base : Heap) (H : Hp), K.In base → base.Ns mainGlobals mg → (∀ p ∈ cs, LamX.TabB base mg p.1 p.2) → Env0 P w K mg base callerA [] s H →
  (∀ p ∈ cs, H p.2 = some (.tbl #[])) → SqL K H a (ns.map V.int) → codeAny (model P w) callerA (.call (.ref fa) ⟨[.ref a], []⟩) (CR CX0 [] P w H s (fun v _ => v = .bl true) E0) s
theorem end_run (KX : K.In s.heap) (hns : s.heap.Ns mainGlobals mg) (hb : s.heap.Ns builtinsNs mb) (hbb : ∀ x : Str, x ≠ "__name__" → mb x = bootBuiltins x) (hlim : s.heap.NoLimit) (hg : s.gens = #[])
    (hT : ∀ p ∈ cs, s.heap.get? p.2 = some { cls := .none, data := .fields #[] }) (nT : ∀ p ∈ cs, K.lookup p.2 = none) (C : ∀ p ∈ cs, PySem.W.CodeHd s.heap p.1 p.2)
    (hbm : ∃ (bm : Addr) (ob : Obj), mg "__builtins__" = some (.ref bm) ∧ bm ≠ builtinsNs ∧ s.heap.get? bm = some ob ∧ ob.cls = .type "module" ∧ ob.dict = some builtinsNs ∧ ob.data = .plain)
    (ha : s.heap.get? a = some { cls := .type "list", data := .seq vs.toArray }) (hi : IntsAre vs ns) (hl : ns.length ≤ sizeLine) (R : RunsAt P w K mg cs fa a s ns) :
    codeAny (model P w) callerA (.call (.ref fa) ⟨[.ref a], []⟩) (fun r s' => r = .ok (.ret (.bool true)) ∧ OldK s.heap s'.heap ∧ s'.os = s.os ∧ AllBare s'.gens) s := by
  have lens := hi.length
  obtain ⟨T, eT⟩ : ∃ T, T = cs.map (·.2) := ⟨_, rfl⟩
  have inT : ∀ {b : Addr}, b ∈ T → ∃ p ∈ cs, p.2 = b := fun {b} h => by rw [eT] at h; obtain ⟨p, hp, e⟩ := List.mem_map.mp h; exact ⟨p, hp, e⟩
  have toT : ∀ p ∈ cs, p.2 ∈ T := fun p hp => by rw [eT]; exact List.mem_map_of_mem hp
  have tabO : ∀ {b : Addr}, b ∈ T → s.heap.get? b = some { cls := .none, data := .fields #[] } := fun h => by obtain ⟨p, hp, rfl⟩ := inT h; exact hT p hp
  have aT : a ∉ T := fun h => by
    have := ha.symm.trans (tabO h)
    cases congrArg Obj.data (Option.some.inj this)
  generalize eH : trk K T a vs ns = H
  have cas : ∀ {b u}, H b = some u → (b ∈ T ∧ u = .tbl #[]) ∨ (b ∉ T ∧ b = a ∧ K.lookup a = none ∧ u = .frz { cls := .type "list", data := .seq vs.toArray } (.lst (ns.map V.int))) := fun {b u} h => trk_cases (by rw [eH]; exact h)
  -- what is neither a row of values nor an empty row of fields is hidden from nobody
  have free : ∀ {b : Addr} {o : Obj}, s.heap.get? b = some o → (∀ xs n, o.data ≠ .seq xs n) → o.data ≠ .fields #[] → H b = none := fun {b o} e h1 h2 => by
    cases q : H b with
    | none => rfl
    | some u =>
      rcases cas q with ⟨h, _⟩ | ⟨_, rfl, _⟩
      · cases e.symm.trans (tabO h)
        exact absurd rfl h2
      · cases e.symm.trans ha
        exact absurd rfl (h1 _ _)
  have seen : ∀ {b : Addr} {o : Obj}, s.heap.get? b = some o → (∀ xs n, o.data ≠ .seq xs n) → o.data ≠ .fields #[] → (hidT s.heap H).get? b = some o := fun e h1 h2 => hidT_get e (free e h1 h2)
  have nsS : ∀ {b : Addr} {m : Str → Option Value}, s.heap.Ns b m → (hidT s.heap H).Ns b m := fun ⟨o, es, ep, e, d, r⟩ => ⟨o, es, ep, seen e (by rw [d]; intro _ _ z; cases z) (by rw [d]; intro z; cases z), d, r⟩
  have KB : K.In (hidT s.heap H) := fun b o e => hidT_get (KX b o e) (by
    cases q : H b with
    | none => rfl
    | some u =>
      rcases cas q with ⟨h, _⟩ | ⟨_, rfl, n, _⟩
      · obtain ⟨p, hp, rfl⟩ := inT h
        cases (nT p hp).symm.trans e
      · cases n.symm.trans e)
  have MM : L2.Mod K mg (hidT s.heap H) := ⟨KB, nsS hns, ⟨mb, nsS hb, hbb⟩, by obtain ⟨mc, h1, h2⟩ := hlim; exact ⟨mc, nsS h1, h2⟩⟩
  have OK : HOk P w H s.heap := fun b u q => by
    rcases cas q with ⟨h, rfl⟩ | ⟨_, rfl, _, rfl⟩
    · exact tabO h
    · exact ⟨ha, by rw [List.length_map]; exact hl, vs, _, vals_ints hi, ha⟩
  have SQ : SqL K H a (ns.map V.int) := by
    cases k : K.lookup a with
    | none => exact .inl (.inr ⟨_, by rw [← eH]; unfold trk; rw [if_neg aT, if_pos ⟨rfl, k⟩]⟩)
    | some o =>
      cases (KX a o k).symm.trans ha
      exact .inr ⟨_, vs.toArray, _, k, rfl, rfl, rfl, by rw [List.size_toArray, lens]; exact hl, by simpa using vals_ints hi⟩
  have TB : ∀ p ∈ cs, LamX.TabB (hidT s.heap H) mg p.1 p.2 := fun p hp => by
    refine ⟨?_, ?_, ?_⟩
    · obtain ⟨o, us, file, tf, flags, tg, inF, text, tt, e1, r1, r2, r3, r⟩ := C p hp
      exact ⟨o, us, file, tf, flags, tg, inF, text, tt, seen e1 (by rw [r2]; intro _ _ z; cases z) (by rw [r2]; intro z; cases z; simp at r3), r1, r2, r3, r⟩
    · obtain ⟨bm, ob, b1, b2, b3, b4, b5, b6⟩ := hbm
      refine ⟨bm, ob, b1, b2, ?_, ?_, seen b3 (by rw [b6]; intro _ _ z; cases z) (by rw [b6]; intro z; cases z), b4, b5, b6⟩
      · rintro rfl
        obtain ⟨o, es, ep, e, d, _⟩ := hns
        cases e.symm.trans b3
        cases d.symm.trans b6
      · rintro rfl
        cases (hT p hp).symm.trans b3
        cases b6
    · intro z
      obtain ⟨o, es, ep, e, d, _⟩ := hns
      rw [z] at e
      cases (hT p hp).symm.trans e
      cases d
  have E0' : Env0 P w K mg (hidT s.heap H) callerA [] s H := ⟨rfl, MM, fun b o e => of_hidT e, Nat.le_of_eq (hidT_size _ _), trivial, (fun b hb => by cases hb), OK, .of_eq hg⟩
  refine codeAny_mono (R _ H KB (nsS hns) TB E0' (fun p hp => by rw [← eH]; exact trk_tab (toT p hp)) SQ) fun r s' h => ?_
  cases r with
  | error e => exact False.elim h
  | ok fl =>
    cases fl with
    | ret u =>
      obtain ⟨v, H', os, bare, un, ok', rv, rfl⟩ := h
      obtain rfl : u = Value.bool true := rv
      have stay : ∀ {b : Addr} {o : Obj}, b ∉ T → s.heap.get? b = some o → s'.heap.get? b = some o := fun {b o} n e => by
        cases q : H b with
        | none => exact un.keep b o e q (by intro z; cases z) (by simp)
        | some u =>
          rcases cas q with ⟨h, _⟩ | ⟨_, rfl, _, rfl⟩
          · exact absurd h n
          · cases e.symm.trans ha
            exact (ok' _ _ (un.frzs _ _ _ q)).1
      have more : ∀ {b : Addr}, b ∈ T → ∃ xs : Array Value, s'.heap.get? b = some { cls := .none, data := .fields xs } := fun {b} h => by
        obtain ⟨xs, z⟩ := un.tbls b #[] (by rw [← eH]; exact trk_tab h)
        exact ⟨_, ok' b _ z⟩
      refine ⟨rfl, ⟨fun b o e => ?_, fun b o e => ?_⟩, os, bare⟩
      · rcases Classical.em (b ∈ T) with h | h
        · obtain ⟨xs, hx⟩ := more h
          cases (tabO h).symm.trans e
          obtain ⟨p, hp, rfl⟩ := inT h
          exact .inr (.inl ⟨((C p hp).tab (hT p hp)).isCodeTable, rfl, #[], xs, rfl, hx.trans (by rw [Array.empty_append])⟩)
        · exact .inl (stay h e)
      · rcases Classical.em (b ∈ T) with h | h
        · obtain ⟨xs, hx⟩ := more h
          exact ⟨_, hx⟩
        · exact ⟨o, stay h e⟩
    | _ => exact False.elim h
/-- the law's walk, from its run -/
theorem walk_run {l : PySem.W.OpenLaw} {n : Nat} {q : Program} {loose : List Str} {XP : (Str → Option Value) → Heap → Prop} {YP : World → Heap → Prop} {d : DefRec} (hn : l.most = some n) (hn2 : n ≤ sizeLine) (hdf : d.params.defaults = [])
    (F : ∀ (w : World) (mg : Str → Option Value) (fa : Addr) (h : Heap), YP w h → h.Ns mainGlobals mg → mg d.name = some (.ref fa) → ∃ (K : PySem.W.Frag) (cs : List (Addr × Addr)), K.In h ∧ (∀ p ∈ cs, h.get? p.2 = some { cls := .none, data := .fields #[] }) ∧
      (∀ p ∈ cs, K.lookup p.2 = none) ∧ (∀ p ∈ cs, PySem.W.CodeHd h p.1 p.2) ∧ ∀ (s : Shared) (a : Addr) (ns : List Int), ns.length ≤ n → (∀ z ∈ ns, Builtin.Int.intBits z ≤ 1048576) → RunsAt l.prog w K mg cs fa a s ns) :
    PySem.W.WalkO q loose XP YP l.row.toRowW d [] (fun f vs => PySem.call f vs) := by
  refine Att.attach_callB hn hdf fun w s0 s1 mg mb fa o pm cd doc a vs ns G Y ho hd hcd hmg hobj hints hlen hbits hg => ?_
  obtain ⟨K, cs, kx, hT, nT, C, R⟩ := F w mg fa _ Y G.T.g hmg
  exact end_run kx G.T.g G.T.b G.T.builtins G.T.nolimit hg hT nT C G.T.bmain hobj hints (Nat.le_trans hlen hn2) (R s1 a ns hlen hbits)
end

section
variable {X : Cx}
/-! ### the script + a written list -/
def rCatS (K : PySem.W.Frag) : R2 := fun x y H Q => ∃ l b xs zs, x = .ref l ∧ y = .ref b ∧ SqL K H l xs ∧ H b = some (.lst zs) ∧ xs.length + zs.length ≤ sizeLine ∧ ∀ p, H p = none → Q (.ref p) (L2.upd H p (.lst (xs ++ zs)))
theorem op_catS : OpR X (binaryOp .Add) (rCatS X.K) := by
  rintro pins s σ H x y v u Q I rx ry ⟨l, b, xs, zs, rfl, rfl, hs, hb, hz, q⟩
  cases rx
  cases ry
  obtain ⟨i1, r1, ⟨⟨c1, d1, t1, sl1⟩, n1, e1, k1, _, k2⟩, _⟩ := I.list hs
  obtain ⟨_, i2, n2, r2, l2, e2⟩ := I.lstM hb
  dsimp only at k1 k2
  subst k1 k2
  have l1 := r1.length
  refine concat_meets ⟨_, e1, rfl⟩ ⟨_, e2, rfl⟩ noFill_list_add seq_list_add PySem.F.slot_list_add PySem.F.entry_list_add (PySem.F.args_list_add_2 _ _) (list_addW l b i1.toArray i2.toArray n1 n2 d1 none sl1 #[] (by rw [List.size_toArray, List.size_toArray]; omega)) ⟨e1, e2, ?_⟩
  rw [show i1.toArray ++ i2.toArray = (i1 ++ i2).toArray from by simp]
  exact ⟨.ref _, _, I.lnew (t' := s.toks) (r1.append r2) (by rw [List.length_append]; omega), rfl, q _ I.fresh⟩
/-! ### repr of data -/
def rReprD (K : PySem.W.Frag) : List V → Hp → VK → Prop := fun vs H Q => ∃ (a : Addr) (d : PyData), vs = [.ref a] ∧ Dp K H (.ref a) d ∧ d.showable = true ∧ d.hasDict = false ∧ d.depth ≤ 10 ∧ d.shown.length ≤ sizeLine ∧ Q (.str d.shown) H
theorem call_repr_D (hg : X.A.guards = some []) (hu : X.A.units + 20 < cLine) : CallR X (.builtin "repr") (rReprD X.K) := by
  rintro pins s σ H xs us Q I r ⟨a, d, rfl, hd, h1, h2, h3, h4, q⟩
  obtain ⟨v, rfl, rv⟩ := vals1 r
  obtain ⟨as, rd⟩ := Dp.reads I d _ v hd rv
  obtain rfl : v = Value.ref a := rv
  exact repr_of_reads' rd h1 (fun z => by rw [h2] at z; cases z) hg (by omega) (fun _ _ e => e) (fun h' u tk k => ⟨.str d.shown, H, I.kept (t' := tk) k, ⟨_, rfl⟩, q⟩) h4
/-! ### a call by one keyword; a def that may raise -/
structure CalX (P : Program) (w : World) (K : PySem.W.Frag) (mg : Str → Option Value) (base : Heap) (k : Nat) (x y : Str) (sp : Sp) : Prop where
  ex : ∃ f fd, FnOk P w K mg base (L2.CX P w) k f fd [y] sp ∧ mg x = some (.ref f) ∧ PySem.W.keepIn K (.ref f) = true ∧ Binds K fd [y] [] ∧ KBn K fd [y] 0 [y] (fun _ ws => ws) (fun _ zs => zs)
theorem pe_calX {W : WX} {E : XK} {k : Nat} {x y : Str} {sp : Sp} {e : Expr} {t : TA} {p pos : Pos} (C : CalX X.prog X.w X.K X.mg X.base k x y sp) (hr : Room k X.A) (hg : Gl X x) (tk : Takes X W) (hW : ∀ cls d σ H, E cls d H → W cls d σ H) (ha : PA X [e] t)
    (hdb : (x == ("__debug__" : Str)) = false := by decide) (he : starEach [e] X.env = (false, eval e X.env) :: starEach [] X.env := by rfl) (hpl : (backTo pos (starEach [] X.env)).any (·.1) = false := by rfl) :
    PE X (.Call (.Name x p) [e] [] pos) (tCall sp [] E t) := by
  obtain ⟨f, fd, F, m, kp, b, _⟩ := C.ex
  exact pe_call F hr hg m kp b .nil (passes_call tk hW) ha hdb he hpl
def QK1 (sp : Sp) (Q : VK) (E : XK) : List V → Hp → Prop := fun zs H1 => match zs with
  | [v] => sp [v] H1 Q E
  | _ => False
theorem qk1 {sp : Sp} {Q : VK} {E : XK} {zs : List V} {H : Hp} (h : QK1 sp Q E zs H) : ∃ v, zs = [v] ∧ sp [v] H Q E := by
  match zs, h with
  | [v], h => exact ⟨v, rfl, h⟩
def tCallK1 (sp : Sp) (E : XK) (te : TE) : TE := fun σ H Q => te σ H fun v H1 => sp [v] H1 Q E
theorem pe_calXK {W : WX} {E : XK} {k : Nat} {x y : Str} {sp : Sp} {e : Expr} {te : TE} {p pos kpos : Pos} (C : CalX X.prog X.w X.K X.mg X.base k x y sp) (hr : Room k X.A) (hg : Gl X x) (tk : Takes X W) (hW : ∀ cls d σ H, E cls d H → W cls d σ H) (ha : PE X e te)
    (hall : (backToKw pos (keywordEach [⟨some y, e, kpos⟩] X.env)).all (·.1.isSome) = true := by rfl) (hks : (backToKw pos (keywordEach [⟨some y, e, kpos⟩] X.env)).filterMap (·.1) = [y] := by rfl) (hdb : (x == ("__debug__" : Str)) = false := by decide)
    (hpl : ((backTo pos (starEach [] X.env)).any (·.1) || (backToKw pos (keywordEach [⟨some y, e, kpos⟩] X.env)).any (·.1.isNone)) = false := by rfl) :
    PE X (.Call (.Name x p) [] [⟨some y, e, kpos⟩] pos) (tCallK1 sp E te) := by
  obtain ⟨f, fd, F, m, kp, _, b⟩ := C.ex
  refine ⟨fun pins s σ H Q I h => wpAny_Call_Name_kw (ld_glob I hg m (PySem.W.callWith_KW0 (h₀ := X.base) I.ok.mod.kin kp hall ?_ hpl) hdb)⟩
  refine thn ((pk_cons (nm := some y) (kpos := kpos) ha pk_nil).run pos pins s σ H (QK1 sp Q E) I h) fun ws s2 ⟨zs, H2, I2, rz, q⟩ => ⟨I2.kIn, ?_⟩
  obtain ⟨v, rfl, q⟩ := qk1 q
  rw [hks]
  exact run_fnN (us := []) (vs := []) (n := 0) F hr b (passes_call tk hW) I2 .nil rz rfl rfl q
structure CalK (P : Program) (w : World) (K : PySem.W.Frag) (mg : Str → Option Value) (base : Heap) (k : Nat) (x y : Str) (sp : Sp) : Prop where
  ex : ∃ f fd, FnOk P w K mg base CX0 k f fd [y] sp ∧ mg x = some (.ref f) ∧ PySem.W.keepIn K (.ref f) = true ∧ Binds K fd [y] [] ∧ KBn K fd [y] 0 [y] (fun _ ws => ws) (fun _ zs => zs)
theorem CalK.cal {P : Program} {w : World} {K : PySem.W.Frag} {mg : Str → Option Value} {base : Heap} {k : Nat} {x y : Str} {sp : Sp} (C : CalK P w K mg base k x y sp) : Cal P w K mg base k x [y] sp := by
  obtain ⟨f, fd, F, m, kp, b, _⟩ := C.ex
  exact ⟨⟨f, fd, F, m, kp, b⟩⟩
theorem pe_calK {k : Nat} {x y : Str} {sp : Sp} {e : Expr} {te : TE} {p pos kpos : Pos} (C : CalK X.prog X.w X.K X.mg X.base k x y sp) (hr : Room k X.A) (hg : Gl X x) (ha : PE X e te)
    (hall : (backToKw pos (keywordEach [⟨some y, e, kpos⟩] X.env)).all (·.1.isSome) = true := by rfl) (hks : (backToKw pos (keywordEach [⟨some y, e, kpos⟩] X.env)).filterMap (·.1) = [y] := by rfl) (hdb : (x == ("__debug__" : Str)) = false := by decide)
    (hpl : ((backTo pos (starEach [] X.env)).any (·.1) || (backToKw pos (keywordEach [⟨some y, e, kpos⟩] X.env)).any (·.1.isNone)) = false := by rfl) :
    PE X (.Call (.Name x p) [] [⟨some y, e, kpos⟩] pos) (tCallK1 sp E0 te) := by
  obtain ⟨f, fd, F, m, kp, _, b⟩ := C.ex
  refine ⟨fun pins s σ H Q I h => wpAny_Call_Name_kw (ld_glob I hg m (PySem.W.callWith_KW0 (h₀ := X.base) I.ok.mod.kin kp hall ?_ hpl) hdb)⟩
  refine thn ((pk_cons (nm := some y) (kpos := kpos) ha pk_nil).run pos pins s σ H (QK1 sp Q E0) I h) fun ws s2 ⟨zs, H2, I2, rz, q⟩ => ⟨I2.kIn, ?_⟩
  obtain ⟨v, rfl, q⟩ := qk1 q
  rw [hks]
  exact run_fnN (us := []) (vs := []) (n := 0) F hr b pass0 I2 .nil rz rfl rfl q
end
/-- one parameter, given by its name -/
theorem kw1 {K : PySem.W.Frag} {x qual : Str} {params : Arguments} {body : List Stmt} {scope : Scope} {f : Addr} {fd : FuncData} {p : Str} (F : FunD K x qual params body scope [] [] f fd)
    (h : ∀ (kV doc pm : Value) (an : Option Addr) (cdv ct w : Value), bindArgs (PySem.W.fnOf x qual params body scope .none kV doc pm an cdv ct) ⟨[], [(p, w)]⟩ = pure [(p, w)]) : KBn K fd [p] 0 [p] (fun _ ws => ws) (fun _ zs => zs) := by
  obtain ⟨oc, od, dV, kV, doc, pm, an, cdv, ct, osl, rfl, lk, hcd, hD, hK⟩ := F.ex
  rcases hD with ⟨_, rfl⟩ | ⟨e, _⟩
  · refine ⟨fun s us ws _ l1 l2 => ?_, fun _ r => r⟩
    match us, l1, ws, l2 with
    | [], _, [w], _ => exact .of_eq (h kV doc pm an cdv ct w)
  · exact absurd rfl e

abbrev Nlaw : List Str := ["_law_script", "_law_cell", "_law_source", "_law_given", "_law_due", "_law_row", "_law_got", "_law_made_here", "_law_found", "_law_odd"]
abbrev slaw : Stmt := top 41
theorem sclaw : FnScope ["_law_script", "_law_cell", "_law_source", "_law_given", "_law_due", "_law_row", "_law_got", "_law_made_here", "_law_found", "_law_odd"] ["_law_script"] (defScope slaw) := ⟨rfl, rfl, rfl, by decide +kernel, rfl, by decide +kernel, by decide +kernel⟩

/-- what the law calls, and its own function object -/
structure LawT (P : Program) (w : World) (K : PySem.W.Frag) (mg : Str → Option Value) (base : Heap) (CC CN CE CT CR CB gC : Addr) (cdC : Value) : Prop where
  T : Txt mg
  I : CodeT K mg CC
  N : NoCodeT K mg CN CE
  gT : mg "NoTable" = some (.ref CT)
  gR : mg "NoRows" = some (.ref CR)
  gB : mg "NoBytes" = some (.ref CB)
  C_source_of : Cal P w K mg base 1 "_law_source_of" ["_law_cell"] spSrc
  C_drawn_rows : Cal P w K mg base 4 "_law_drawn_rows" ["_law_source"] spDrawn
  C_row_bytes : Cal P w K mg base 2 "_law_row_bytes" ["_law_row"] spRowBytes
  CK_exception_bytes : CalK P w K mg base 2 "exception_bytes" "rows" spExcBytes
  C_made : Cal P w K mg base 5 "_law_made" ["_law_data", "_law_lines", "_law_guards", "_law_first"] (spMade CC)
  CX_exception_rows : CalX P w K mg base 3 "exception_rows" "code" (spExcRows CC CN)
  g_caught : mg "_law_caught" = some (.ref gC)
  k_caught : PySem.W.keepIn K (.ref gC) = true
  c_caught : PySem.W.codeIn K cdC "_law_caught" = true
  f_caught : ∃ (oc : Value) (od : Option Addr) (dV kV doc pm ct : Value) (an : Option Addr) (osl : Array (Option Value)), K.lookup gC = some ⟨oc, od, .func (PySem.W.fnOf "_law_caught" "_law_caught" (defArgs scaught) (defBody scaught) (defScope scaught) dV kV doc pm an cdC ct), osl⟩ ∧
    Binds K (PySem.W.fnOf "_law_caught" "_law_caught" (defArgs scaught) (defBody scaught) (defScope scaught) dV kV doc pm an cdC ct) ["_law_ask"] []
section
variable {P : Program} {w : World} {K : PySem.W.Frag} {mg : Str → Option Value} {base : Heap}
abbrev Xlaw (P : Program) (w : World) (K : PySem.W.Frag) (mg : Str → Option Value) (base : Heap) (fa co : Addr) (s : Shared) (H : Hp) : Cx := cxOf CX0 P w K mg base Nlaw "law" (defScope slaw) fa (.ref co) callerA [] s H E0
/-- the law's lambda, handed to the def that catches -/
def tLamL (CC CN Pt : Addr) (q : Str) : TE := LamX.tLam [(Pt, q)] (TTCaught CN) (fun E => tCall (spExcRows CC CN) [] E (tCons (tVar 9) tNil))
def t_odd (K : PySem.W.Frag) (CC CN Pt : Addr) (q : Str) : TS := tIfS (tTest (tOp (rNeD K) (tLamL CC CN Pt q) (tTup (tCons (tC (V.str "code")) (tCons (tC (V.str "code")) tNil))))) (tRet (tC (V.bl false))) tNext
def t_odds (K : PySem.W.Frag) (CC CN Pt : Addr) (q : Str) : TS := tFor (iTup K (tTup (tCons (tC V.non) (tCons (tC (V.int 5)) (tCons (tC (V.str "ab")) (tCons (tLst tNil) (tCons (tVar 3) (tCons (tVar 4) (tCons (tC (V.bl true)) (tCons tDNewK tNil)))))))))) (gName 9) (t_odd K CC CN Pt q)
def t_reps (K : PySem.W.Frag) (CC CN : Addr) (u : TS) : TS := tSeq (tAsg (tCall (spMade CC) [] E0 (tCons (tLst (tCons (tC (V.int 30)) (tCons (tC (V.int 0)) tNil))) (tCons (tLst tNil) (tCons (tVar 4) (tCons (tC (V.int 1)) tNil))))) (gName 7))
  (tSeq (tAsg (tCall (spExcRows CC CN) [] E0 (tCons (tVar 7) tNil)) (gName 8))
  (tSeq (tIfS (tTest (tOp rNe (tCB (rReprD K) (tCons (tVar 8) tNil)) (tCB (rReprD K) (tCons (tVar 3) tNil)))) (tRet (tC (V.bl false))) tNext)
  (tSeq (tDrop (tBM K "list" rAppend (tVar 8) (tCons (tC V.non) tNil)))
  (tSeq (tIfS (tTest (tOp rNe (tCB (rReprD K) (tCons (tCallK1 (spExcRows CC CN) E0 (tVar 7)) tNil)) (tCB (rReprD K) (tCons (tVar 3) tNil)))) (tRet (tC (V.bl false))) tNext) u))))
def t_gots (K : PySem.W.Frag) : TS := tFor (iTup K (tTup (tCons (tCall spExcBytes [] E0 (tCons (tVar 3) tNil)) (tCons (tCall spExcBytes [] E0 (tCons (tCB rTupd (tCons (tVar 3) tNil)) tNil)) (tCons (tCallK1 spExcBytes E0 (tVar 3)) tNil))))) (gName 6)
  (tIfS (tTest (tOp (rNeD K) (tVar 6) (tCB rTupd (tCons (tVar 4) tNil)))) (tRet (tC (V.bl false))) tNext)
def t_due (K : PySem.W.Frag) : TS := tFor (iList K (tVar 3)) (gName 5) (tDrop (tBM K "list" rExtend (tVar 4) (tCons (tCall spRowBytes [] E0 (tCons (tVar 5) tNil)) tNil)))
def t_cell (K : PySem.W.Frag) (CC CN Pt : Addr) (q : Str) : TS := tSeq (tAsg (tCall spSrc [] E0 (tCons (tVar 1) tNil)) (gName 2)) (tSeq (tPar 3 4 (tCons (tCall spDrawn [] E0 (tCons (tVar 2) tNil)) (tCons (tLst tNil) tNil)))
  (tSeq (t_due K) (tSeq (t_gots K) (t_reps K CC CN (t_odds K CC CN Pt q)))))
def t_law (K : PySem.W.Frag) (CC CN Pt : Addr) (q : Str) : TS := tSeq (tFor (iList K (tSl rSld (tOp (rCatS K) (tVar 0) (tLst (tCons (tC (V.int 0)) tNil))) tNoPart (tPart (tC (V.int 6))))) (gName 1) (t_cell K CC CN Pt q)) (tRet (tC (V.bl true)))
/-- the reading of the law -/
theorem law_reads {CC CN CE CT CR CB gC fa co Pt : Addr} {cdC : Value} {s : Shared} {H : Hp} (L : LawT P w K mg base CC CN CE CT CR CB gC cdC) (TB : LamX.TabB base mg co Pt) (hr : Room 6 (Xlaw P w K mg base fa co s H).nox.A) (hgd : (Xlaw P w K mg base fa co s H).nox.A.guards = some []) :
    PSs (Xlaw P w K mg base fa co s H).nox (defBody slaw) (t_law (Xlaw P w K mg base fa co s H).nox.K CC CN Pt ((Xlaw P w K mg base fa co s H).nox.env.qual ++ "<lambda>")) := by
  have hu64 : (Xlaw P w K mg base fa co s H).nox.A.units + 64 < cLine := by have := hr.un; omega
  have hu20 : (Xlaw P w K mg base fa co s H).nox.A.units + 20 < cLine := by have := hr.un; omega
  have T := L.T
  have C_source_of := L.C_source_of
  have C_drawn_rows := L.C_drawn_rows
  have C_row_bytes := L.C_row_bytes
  have C_made := L.C_made
  have C_exception_bytes := L.CK_exception_bytes.cal
  obtain ⟨oc, od, dV, kV, doc, pm, ct, an, osl, lkC, bC⟩ := L.f_caught
  unfold t_law t_cell t_reps t_odds t_odd t_gots t_due tLamL
  exact (pss_cons (ps_for PassesOwn.never rfl (pi_list (pe_slice sl_d (pe_op op_catS (pv 0) (pe_lst (pa_cons pe_int pa_nil))) po_none (po_some pe_int))) (pg_name (i := 1) sclaw.nd rfl (Or.inl rfl))
    (pss_cons (ps_set (i := 2) sclaw.nd rfl (Or.inl rfl) (pe_cal C_source_of (hr.mono (by decide)) rfl (pa_cons (pv 1) pa_nil)))
  (pss_cons (ps_par (i := 3) (j := 4) (by rfl) sclaw.nd rfl rfl (by decide) rfl rfl (pa_cons (pe_cal C_drawn_rows (hr.mono (by decide)) rfl (pa_cons (pv 2) pa_nil)) (pa_cons (pe_lst pa_nil) pa_nil)) (by rfl))
  (pss_cons (ps_for PassesOwn.never rfl (pi_list (pv 3)) (pg_name (i := 5) sclaw.nd rfl (Or.inl rfl))
    (pss_one (ps_expr (pe_bm PySem.F.plainAttrs_list PySem.F.slot_list_extend PySem.F.type_list_extend mt_extend (pv 4) (pa_cons (pe_cal C_row_bytes (hr.mono (by decide)) rfl (pa_cons (pv 5) pa_nil)) pa_nil)))))
  (pss_cons (ps_for PassesOwn.never rfl (pi_tup (pe_tup (pa_cons (pe_cal C_exception_bytes (hr.mono (by decide)) rfl (pa_cons (pv 3) pa_nil)) (pa_cons (pe_cal C_exception_bytes (hr.mono (by decide)) rfl (pa_cons (pe_callTy call_tuple_d (by rfl) T.b_tuple (by decide +kernel) (pa_cons (pv 3) pa_nil)) pa_nil)) (pa_cons (pe_calK L.CK_exception_bytes (hr.mono (by decide)) rfl (pv 3)) pa_nil))))) (pg_name (i := 6) sclaw.nd rfl (Or.inl rfl))
    (pss_one (ps_if (pt_cmpR (op_neD hu64) (pv 6) (pe_callTy call_tuple_d (by rfl) T.b_tuple (by decide +kernel) (pa_cons (pv 4) pa_nil)) (nomark _))
    (pss_one (ps_ret pe_bl))
    pss_nil)))
  (pss_cons (ps_set (i := 7) sclaw.nd rfl (Or.inl rfl) (pe_cal C_made (hr.mono (by decide)) rfl (pa_cons (pe_lst (pa_cons pe_int (pa_cons pe_int pa_nil))) (pa_cons (pe_lst pa_nil) (pa_cons (pv 4) (pa_cons pe_int pa_nil))))))
  (pss_cons (ps_set (i := 8) sclaw.nd rfl (Or.inl rfl) (pe_calX L.CX_exception_rows (hr.mono (by decide)) rfl LamX.takes0 (fun _ _ _ _ z => z) (pa_cons (pv 7) pa_nil)))
  (pss_cons (ps_if (pt_cmpR op_ne (pe_callB (call_repr_D hgd hu20) (by rfl) T.b_repr (by decide +kernel) (pa_cons (pv 8) pa_nil)) (pe_callB (call_repr_D hgd hu20) (by rfl) T.b_repr (by decide +kernel) (pa_cons (pv 3) pa_nil)) (nomark _))
    (pss_one (ps_ret pe_bl))
    pss_nil)
  (pss_cons (ps_expr (pe_bm PySem.F.plainAttrs_list PySem.F.slot_list_append PySem.F.type_list_append mt_append (pv 8) (pa_cons pe_non pa_nil)))
  (pss_cons (ps_if (pt_cmpR op_ne (pe_callB (call_repr_D hgd hu20) (by rfl) T.b_repr (by decide +kernel) (pa_cons (pe_calXK L.CX_exception_rows (hr.mono (by decide)) rfl LamX.takes0 (fun _ _ _ _ z => z) (pv 7)) pa_nil)) (pe_callB (call_repr_D hgd hu20) (by rfl) T.b_repr (by decide +kernel) (pa_cons (pv 3) pa_nil)) (nomark _))
    (pss_one (ps_ret pe_bl))
    pss_nil)
  (pss_one (ps_for PassesOwn.never rfl (pi_tup (pe_tup (pa_cons pe_non (pa_cons pe_int (pa_cons pe_str (pa_cons (pe_lst pa_nil) (pa_cons (pv 3) (pa_cons (pv 4) (pa_cons pe_bl (pa_cons pe_dnewK pa_nil)))))))))) (pg_name (i := 9) sclaw.nd rfl (Or.inr rfl))
    (pss_one (ps_if (pt_cmpR (op_neD hu64) (LamX.pe_lamcall (k := 3) (T := [(Pt, (Xlaw P w K mg base fa co s H).nox.env.qual ++ "<lambda>")]) (t := fun E => tCall (spExcRows CC CN) [] E (tCons (tVar 9) tNil)) rfl L.g_caught L.k_caught lkC L.c_caught bC sccaught rfl (Or.inl rfl) (caught_gives (X := (Xlaw P w K mg base fa co s H).nox) L.T L.N L.gT L.gR L.gB) TB rfl (List.mem_singleton.mpr rfl) (fun p hp _ => by rw [List.mem_singleton.mp hp]) (hr.mono (by decide)) (show LamX.LamS (defScope slaw) _ from LamX.lamS_by (by decide +kernel)) rfl (fun _ _ _ _ _ => rfl) (fun A outer s H E f c' hr2 => pe_calX L.CX_exception_rows hr2 rfl (takes_of rfl rfl rfl rfl) (fun _ _ _ _ z => z) (pa_cons (pv 9) pa_nil))) (pe_tup (pa_cons pe_str (pa_cons pe_str pa_nil))) (nomark _))
    (pss_one (ps_ret pe_bl))
    pss_nil))))))))))))))
  (pss_one (ps_ret pe_bl)))
end
end C47

set_option maxHeartbeats 2000000
namespace C47
open PySem PySem.Spec PyProof.Rows L2
/-! ### rows as data -/
def rowD (R : Row) : PyData := .tuple [.int ((2 * R.b : Nat) : Int), .int ((2 * (R.b + R.s) : Nat) : Int), .int ((2 * R.t : Nat) : Int), .int (R.d : Int), .bool R.w]
def rowsD (Rs : List Row) : PyData := .list (Rs.map rowD)
theorem dp_row {K : PySem.W.Frag} {H : Hp} {r : Addr} {R : Row} (h : H r = some (.tup (rv R))) : Dp K H (.ref r) (rowD R) := .tup (SqT.of h) (.cons (.int _) (.cons (.int _) (.cons (.int _) (.cons (.int _) (.cons (.bl _) .nil)))))
theorem dp_all {K : PySem.W.Frag} {H : Hp} : ∀ {refs : List Addr} {Rs : List Row}, Paired (fun r R => H r = some (.tup (rv R))) refs Rs → DpAll K H (refs.map V.ref) (Rs.map rowD)
  | _, _, .nil => .nil
  | _, _, .cons h t => .cons (dp_row h) (dp_all t)
theorem dp_rows {K : PySem.W.Frag} {H : Hp} {F : Addr} {Rs : List Row} (h : RowsL H F Rs) : Dp K H (.ref F) (rowsD Rs) := by
  obtain ⟨refs, e, p⟩ := h
  exact .lst (SqL.of e) (dp_all p)
theorem log_nat {n : Nat} (h : n < 2 ^ 62) : ((n : Int)).natAbs.log2 < 62 := by
  rw [Int.natAbs_natCast]
  rcases Nat.eq_zero_or_pos n with e | e
  · subst e
    decide
  · exact (Nat.log2_lt (by omega)).mpr h
theorem w_nat {n : Nat} (h : n < 2 ^ 62) : (PyData.int (n : Int)).weight ≤ 62 := by
  have := log_nat h
  simp only [PyData.weight]
  split <;> omega
theorem sh_nat {n : Nat} (h : n < 2 ^ 62) : (PyData.int (n : Int)).leavesShort 64 = true := by
  have e := PySem.int_text_length_le10 (a := (n : Int)) (k := 20) (by decide) (by rw [Int.natAbs_natCast]; exact Nat.lt_trans h (by decide))
  simp only [PyData.leavesShort, decide_eq_true_eq]
  show (Str.ofString (toString (n : Int))).length ≤ 64
  rw [PySem.ofString_length]
  omega
theorem sb_nat {n : Nat} (h : n < 2 ^ 62) : (PyData.int (n : Int)).showable = true := by
  have := log_nat h
  simp only [PyData.showable, decide_eq_true_eq]
  omega
theorem row_facts {R : Row} (h : RowOk R) : (rowD R).showable = true ∧ (rowD R).hasDict = false ∧ (rowD R).depth ≤ 1 ∧ (rowD R).weight ≤ 260 ∧ (rowD R).leavesShort 64 = true := by
  obtain ⟨h1, h2, h3, h4, h5⟩ := h
  have a1 : 2 * R.b < 2 ^ 62 := by omega
  have a2 : 2 * (R.b + R.s) < 2 ^ 62 := by omega
  have a3 : 2 * R.t < 2 ^ 62 := by omega
  have a4 : R.d < 2 ^ 62 := by omega
  have w1 := w_nat a1
  have w2 := w_nat a2
  have w3 := w_nat a3
  have w4 := w_nat a4
  unfold rowD
  refine ⟨?_, ?_, ?_, ?_, ?_⟩
  · simp only [PyData.showable, PyData.showableAll, Bool.and_eq_true]
    exact ⟨sb_nat a1, sb_nat a2, sb_nat a3, sb_nat a4, trivial, trivial⟩
  · rfl
  · simp only [PyData.depth, PyData.depthAll]
    decide
  · have : (PyData.bool R.w).weight = 0 := by simp only [PyData.weight]
    rw [PyData.weight]
    simp only [PyData.weightAll]
    omega
  · simp only [PyData.leavesShort, PyData.leavesShortAll, Bool.and_eq_true]
    exact ⟨sh_nat a1, sh_nat a2, sh_nat a3, sh_nat a4, trivial, trivial⟩
theorem rows_facts : ∀ {Rs : List Row}, (∀ R ∈ Rs, RowOk R) → PyData.showableAll (Rs.map rowD) = true ∧ PyData.hasDictAll (Rs.map rowD) = false ∧ PyData.depthAll (Rs.map rowD) ≤ 1 ∧ PyData.weightAll (Rs.map rowD) ≤ 261 * Rs.length ∧ PyData.leavesShortAll 64 (Rs.map rowD) = true
  | [], _ => ⟨rfl, rfl, by simp [PyData.depthAll], by simp [PyData.weightAll], rfl⟩
  | R :: Rs, h => by
    obtain ⟨a1, a2, a3, a4, a5⟩ := row_facts (h R List.mem_cons_self)
    obtain ⟨b1, b2, b3, b4, b5⟩ := rows_facts fun Q hq => h Q (List.mem_cons_of_mem _ hq)
    simp only [List.map_cons, PyData.showableAll, PyData.hasDictAll, PyData.depthAll, PyData.weightAll, PyData.leavesShortAll, a1, a2, a5, b1, b2, b5, List.length_cons]
    refine ⟨rfl, rfl, ?_, ?_, rfl⟩
    · exact Nat.max_le.mpr ⟨a3, b3⟩
    · omega
theorem shown_rows {Rs : List Row} (h : ∀ R ∈ Rs, RowOk R) (hl : Rs.length ≤ 30) : (rowsD Rs).showable = true ∧ (rowsD Rs).hasDict = false ∧ (rowsD Rs).depth ≤ 10 ∧ (rowsD Rs).shown.length ≤ sizeLine := by
  obtain ⟨b1, b2, b3, b4, b5⟩ := rows_facts h
  unfold rowsD
  refine ⟨by simpa only [PyData.showable] using b1, by simpa only [PyData.hasDict] using b2, ?_, ?_⟩
  · simp only [PyData.depth]
    omega
  · have e := PyData.shown_le 64 (by decide) (.list (Rs.map rowD)) (by simpa only [PyData.leavesShort] using b5)
    have e2 : (PyData.list (Rs.map rowD)).weight = PyData.weightAll (Rs.map rowD) := by simp only [PyData.weight]
    have : sizeLine = 16777216 := by rw [sizeLine_eq]
    omega
/-- the reading of repr, ready for use -/
theorem repr_rows {K : PySem.W.Frag} {H : Hp} {F : Addr} {Rs : List Row} {Q : VK} (r : RowsL H F Rs) (h : ∀ R ∈ Rs, RowOk R) (hl : Rs.length ≤ 30) (q : Q (.str (rowsD Rs).shown) H) : rReprD K [.ref F] H Q := by
  obtain ⟨a1, a2, a3, a4⟩ := shown_rows h hl
  exact ⟨F, rowsD Rs, rfl, dp_rows r, a1, a2, a3, a4, q⟩
/-! ### tuples of bytes as data -/
def nsD (ns : List Nat) : List PyData := ns.map fun n : Nat => .int (n : Int)
theorem dp_ns {K : PySem.W.Frag} {H : Hp} : ∀ ns : List Nat, DpAll K H (vn ns) (nsD ns)
  | [] => .nil
  | n :: r => .cons (.int _) (dp_ns r)
theorem lay_ns : ∀ ns : List Nat, PyData.canLayAll0 (nsD ns) = true
  | [] => by simp [nsD, PyData.canLayAll0]
  | n :: r => by
    show PyData.canLayAll0 (.int (n : Int) :: nsD r) = true
    simp only [PyData.canLayAll0, PyData.canLay0, lay_ns r]
    rfl
theorem dep_ns : ∀ ns : List Nat, PyData.depthAll (nsD ns) = 0
  | [] => by simp [nsD, PyData.depthAll]
  | n :: r => by
    show PyData.depthAll (.int (n : Int) :: nsD r) = 0
    simp only [PyData.depthAll, PyData.depth, dep_ns r]
    rfl
theorem shaped_ns (ns : List Nat) : SeqAt.shaped (.tuple (nsD ns)) = true := by
  unfold SeqAt.shaped
  simp only [PyData.canLay0, lay_ns, PyData.depth, dep_ns]
  decide
theorem eqv_ns (ns : List Nat) : PyData.eqv (.tuple (nsD ns)) (.tuple (nsD ns)) = true := SeqAt.eqv_refl _ (by simp only [PyData.canLay0, lay_ns])
theorem ne_ns {K : PySem.W.Frag} {H : Hp} {p q : Addr} {ns : List Nat} {Q : VK} (hp : H p = some (.tup (vn ns))) (hq : H q = some (.tup (vn ns))) (k : Q (.bl false) H) : rNeD K (.ref p) (.ref q) H Q :=
  ⟨_, _, .tup (SqT.of hp) (dp_ns ns), .tup (SqT.of hq) (dp_ns ns), shaped_ns ns, shaped_ns ns, by rw [eqv_ns]; exact k⟩
end C47

set_option maxHeartbeats 2000000
namespace C47
open PySem PySem.Spec PyProof.Rows L2
theorem r_callK1 {sp : Sp} {E : XK} {te : TE} {σ : L2.St} {H : Hp} {Q : VK} : tCallK1 sp E te σ H Q = te σ H (fun v H1 => sp [v] H1 Q E) := rfl
theorem r_dnew {σ : L2.St} {H : Hp} {Q : VK} : tDNewK σ H Q = ∀ p, H p = none → Q (.ref p) (L2.upd H p (.dK [])) := rfl
/-! ### the heap and the tables -/
theorem ExtN.same {H H' : Hp} (s : Same H H') : LamX.ExtN H H' := fun b o e _ => s b o e
theorem tabs_keep {T : List (Addr × Str)} {a : Addr} {H H' : Hp} (t : LamX.Tabs T H) (k : Keep a H H') (ha : ∃ xs, H a = some (.lst xs)) : LamX.Tabs T H' := by
  obtain ⟨xs, ha⟩ := ha
  intro p hp
  obtain ⟨ps, h1, h2, h3⟩ := t p hp
  have n1 : p.1 ≠ a := fun z => by rw [z, ha] at h1; cases h1
  refine ⟨ps, k _ _ n1 h1, h2, fun pos cv hc => ?_⟩
  obtain ⟨c, e1, e2⟩ := h3 pos cv hc
  have n2 : c ≠ a := fun z => by rw [z, ha] at e2; cases e2
  exact ⟨c, e1, k _ _ n2 e2⟩
theorem tabs_same {T : List (Addr × Str)} {H H' : Hp} (t : LamX.Tabs T H) (k : Same H H') : LamX.Tabs T H' := t.ext fun b o e => k b o e
theorem Same.trans' {H H1 H2 : Hp} (a : Same H H1) (b : Same H1 H2) : Same H H2 := fun c o e => b c o (a c o e)
theorem rb_lt {R : Row} : ∀ x ∈ rb R, x < 256 := by
  intro x hx
  have m1 : ∀ n, ∀ x ∈ mk1 n, x < 256 := by
    intro n x hx
    unfold mk1 at hx
    split at hx
    · cases hx
    · rename_i y ys e
      rcases List.mem_cons.mp hx with e2 | e2
      · have := mk_lt (n := n) (x := y) (by rw [e]; exact List.mem_cons_self)
        omega
      · have := mk_lt (n := n) (x := x) (by rw [e]; exact List.mem_cons_of_mem _ e2)
        omega
  have m2 : ∀ n, ∀ x ∈ mk n, x < 256 := fun n x hx => by
    have := mk_lt hx
    omega
  unfold rb at hx
  rcases List.mem_append.mp hx with h | h
  · exact m1 _ x h
  · rcases List.mem_append.mp h with h | h
    · exact m2 _ x h
    · rcases List.mem_append.mp h with h | h
      · exact m2 _ x h
      · exact m2 _ x h
theorem rbs_lt {Rs : List Row} : ∀ x ∈ rbs Rs, x < 256 := by
  intro x hx
  unfold rbs at hx
  obtain ⟨l, hl, hx⟩ := List.mem_flatten.mp hx
  obtain ⟨R, _, rfl⟩ := List.mem_map.mp hl
  exact rb_lt x hx
/-! ### one odd value -/
def oddT : List String := ["NoneType", "int", "bool", "str", "list", "tuple", "dict"]
def OddOk (CC : Addr) (x : V) (H : Hp) : Prop := ∃ n : String, n ∈ oddT ∧ ∀ H1, LamX.ExtN H H1 → tyD CC H1 x = some (.type n)
theorem OddOk.ext {CC : Addr} {x : V} {H H1 : Hp} (h : OddOk CC x H) (e : LamX.ExtN H H1) : OddOk CC x H1 := by
  obtain ⟨n, hn, k⟩ := h
  exact ⟨n, hn, fun H2 e2 => k H2 (e.trans e2)⟩
theorem dp_code {K : PySem.W.Frag} {H : Hp} {p : Addr} (h : H p = some (.tup [.str "code", .str "code"])) : Dp K H (.ref p) (.tuple [.str "code", .str "code"]) := .tup (SqT.of h) (.cons (.str _) (.cons (.str _) .nil))
theorem ne_code {K : PySem.W.Frag} {H : Hp} {p q : Addr} {Q : VK} (hp : H p = some (.tup [.str "code", .str "code"])) (hq : H q = some (.tup [.str "code", .str "code"])) (k : Q (.bl false) H) : rNeD K (.ref p) (.ref q) H Q :=
  ⟨_, _, dp_code hp, dp_code hq, by decide +kernel, by decide +kernel, by rw [show PyData.eqv (.tuple [.str "code", .str "code"]) (.tuple [.str "code", .str "code"]) = true from by decide +kernel]; exact k⟩
theorem odd_run {K : PySem.W.Frag} {CC CN Pt : Addr} {q : Str} {D : Ends} {σ : L2.St} {H : Hp} {x : V} (hσ : σ[9]? = some (some x)) (t : LamX.Tabs [(Pt, q)] H) (ok : OddOk CC x H) (k : ∀ H', LamX.ExtN H H' → LamX.Tabs [(Pt, q)] H' → D.nx σ H') : t_odd K CC CN Pt q D σ H := by
  obtain ⟨n, hn, ok⟩ := ok
  refine ⟨t, fun H1 e1 t1 => ⟨x, hσ, .inr ⟨x, n, rfl, ok H1 e1, hn, fun d H2 hd s2 hf => ⟨rfl, d, .str "code", rfl, hf, fun p H3 hp s3 h3 => ?_⟩⟩⟩⟩
  refine ⟨szl (by decide), fun p2 hp2 => ?_⟩
  refine ne_code (by rw [upd_ne (ne_new h3 hp2)]; exact h3) upd_same ⟨false, rfl, ?_⟩
  have s4 : Same H1 (L2.upd H3 p2 (.tup [.str "code", .str "code"])) := Same.new' (fun b o e => s3 b o (s2 b o e)) hp2
  exact k _ (e1.trans (ExtN.same s4)) (tabs_same t1 s4)
/-- all of them -/
theorem odds_loop {K : PySem.W.Frag} {CC CN Pt TT : Addr} {q : Str} {D : Ends} {H : Hp} {all : List V} {v0 v1 v2 v3 v4 v5 v6 v7 v8 v9 : Option V} (hT : H TT = some (.tup all)) (t : LamX.Tabs [(Pt, q)] H) (ok : ∀ x ∈ all, OddOk CC x H)
    (k : ∀ v9 H', LamX.ExtN H H' → LamX.Tabs [(Pt, q)] H' → D.nx [v0, v1, v2, v3, v4, v5, v6, v7, v8, v9] H') : LoopR (Itt K TT) (gName 9) (t_odd K CC CN Pt q) D [v0, v1, v2, v3, v4, v5, v6, v7, v8, v9] H := by
  refine lp_tup (xs := all) (fun i σ H' => (∃ v, σ = [v0, v1, v2, v3, v4, v5, v6, v7, v8, v]) ∧ LamX.ExtN H H' ∧ LamX.Tabs [(Pt, q)] H') ⟨⟨_, rfl⟩, LamX.ExtN.refl H, t⟩ (fun i σ H' _ ⟨_, e, _⟩ => SqT.of (e _ _ hT (fun _ z => by cases z))) ?_ ?_
  · rintro i x σ H' hx ⟨⟨v, rfl⟩, e, t1⟩
    show t_odd K CC CN Pt q _ [v0, v1, v2, v3, v4, v5, v6, v7, v8, some x] H'
    exact odd_run rfl t1 ((ok x (List.mem_of_getElem? hx)).ext e) fun H2 e2 t2 => ⟨⟨_, rfl⟩, e.trans e2, t2⟩
  · rintro σ H' ⟨⟨v, rfl⟩, e, t1⟩
    exact k v H' e t1
theorem odd_lit {CC : Addr} {x : V} {H : Hp} {n : String} (hn : n ∈ oddT) (h : ∀ H1 : Hp, tyD CC H1 x = some (.type n)) : OddOk CC x H := ⟨n, hn, fun H1 _ => h H1⟩
theorem odd_lst {CC : Addr} {a : Addr} {xs : List V} {H : Hp} (h : H a = some (.lst xs)) : OddOk CC (.ref a) H := ⟨"list", by decide, fun H1 e => by
  show tyH CC (H1 a) = _
  rw [e a _ h (fun _ z => by cases z)]
  rfl⟩
theorem odd_dct {CC : Addr} {a : Addr} {kvs : List (Key × V)} {H : Hp} (h : H a = some (.dK kvs)) : OddOk CC (.ref a) H := ⟨"dict", by decide, fun H1 e => by
  show tyH CC (H1 a) = _
  rw [e a _ h (fun _ z => by cases z)]
  rfl⟩
theorem odds_run {K : PySem.W.Frag} {CC CN Pt F U : Addr} {q : Str} {D : Ends} {H : Hp} {xs ys : List V} {v0 v1 v2 v5 v6 v7 v8 v9 : Option V} (hF : H F = some (.lst xs)) (hU : H U = some (.lst ys)) (t : LamX.Tabs [(Pt, q)] H)
    (k : ∀ v9 H', LamX.ExtN H H' → LamX.Tabs [(Pt, q)] H' → D.nx [v0, v1, v2, some (.ref F), some (.ref U), v5, v6, v7, v8, v9] H') : t_odds K CC CN Pt q D [v0, v1, v2, some (.ref F), some (.ref U), v5, v6, v7, v8, v9] H := by
  unfold t_odds
  refine ⟨Nat.zero_le _, fun e1 h1 => ⟨_, rfl, _, rfl, fun e2 h2 => ⟨szl (by simp only [List.length_cons, List.length_nil]; decide), fun TT hT => ⟨TT, rfl, ⟨_, SqT.of upd_same⟩, ?_⟩⟩⟩⟩
  have s1 := Same.new' (o := .lst []) (Same.refl H) h1
  have q1 : L2.upd H e1 (.lst []) e1 = some (.lst []) := upd_same
  generalize L2.upd H e1 (.lst []) = G1 at *
  have s2 := Same.new' (o := .dK []) (Same.refl G1) h2
  have q2 : L2.upd G1 e2 (.dK []) e2 = some (.dK []) := upd_same
  generalize L2.upd G1 e2 (.dK []) = G2 at *
  have s3 := Same.new' (o := .tup [.non, .int 5, .str "ab", .ref e1, .ref F, .ref U, .bl true, .ref e2]) (Same.refl G2) hT
  have sA : Same H (L2.upd G2 TT (.tup [.non, .int 5, .str "ab", .ref e1, .ref F, .ref U, .bl true, .ref e2])) := fun b o e => s3 b o (s2 b o (s1 b o e))
  refine odds_loop (all := [.non, .int 5, .str "ab", .ref e1, .ref F, .ref U, .bl true, .ref e2]) upd_same (tabs_same t sA) ?_ (fun v9 H' e t' => k v9 H' ((ExtN.same sA).trans e) t')
  intro x hx
  simp only [List.mem_cons, List.not_mem_nil, or_false] at hx
  rcases hx with rfl | rfl | rfl | rfl | rfl | rfl | rfl | rfl
  · exact odd_lit (n := "NoneType") (by decide) fun _ => rfl
  · exact odd_lit (n := "int") (by decide) fun _ => rfl
  · exact odd_lit (n := "str") (by decide) fun _ => rfl
  · exact odd_lst (s3 _ _ (s2 _ _ q1))
  · exact odd_lst (sA _ _ hF)
  · exact odd_lst (sA _ _ hU)
  · exact odd_lit (n := "bool") (by decide) fun _ => rfl
  · exact odd_dct (s3 _ _ q2)
/-! ### what is due -/
theorem rbs_len {Rs : List Row} (h : ∀ R ∈ Rs, RowOk R) : (rbs Rs).length ≤ Rs.length * 244 := by
  induction Rs with
  | nil => simp [rbs]
  | cons R Rs ih =>
    have := rb_len (h R List.mem_cons_self)
    have := ih fun Q hq => h Q (List.mem_cons_of_mem _ hq)
    show (rb R ++ rbs Rs).length ≤ _
    rw [List.length_append, List.length_cons]
    omega
theorem due_run {K : PySem.W.Frag} {D : Ends} {F U : Addr} {Rs : List Row} {H : Hp} {v0 v1 v2 v5 v6 v7 v8 v9 : Option V} (hF : RowsL H F Rs) (hU : H U = some (.lst [])) (FU : F ≠ U) (hl : Rs.length ≤ 30) (hok : ∀ R ∈ Rs, RowOk R)
    (k : ∀ v5 H', Keep U H H' → H' U = some (.lst (vn (rbs Rs))) → D.nx [v0, v1, v2, some (.ref F), some (.ref U), v5, v6, v7, v8, v9] H') : t_due K D [v0, v1, v2, some (.ref F), some (.ref U), v5, v6, v7, v8, v9] H := by
  obtain ⟨refs, eF, pF⟩ := hF
  have lr := Paired.length pF
  unfold t_due
  refine ⟨_, rfl, F, rfl, ⟨_, SqL.of eF⟩, lp_list (xs := refs.map V.ref) (fun i σ H' => (∃ v, σ = [v0, v1, v2, some (.ref F), some (.ref U), v, v6, v7, v8, v9]) ∧ Keep U H H' ∧ H' U = some (.lst (vn (rbs (Rs.take i))))) ⟨⟨_, rfl⟩, Keep.refl U H, by rw [List.take_zero]; exact hU⟩
    (fun i σ H' _ ⟨_, kk, _⟩ => SqL.of (kk _ _ FU eF)) ?_ ?_⟩
  · rintro i x σ H' hx ⟨⟨v, rfl⟩, kk, hu⟩
    have hir : i < refs.length := by
      have := (List.getElem?_eq_some_iff.mp hx).1
      rwa [List.length_map] at this
    have hiR : i < Rs.length := by rw [← lr]; exact hir
    obtain rfl : x = .ref refs[i] := by
      rw [List.getElem?_map, List.getElem?_eq_getElem hir] at hx
      exact (Option.some.inj hx).symm
    have h0 := Paired.at' pF hir hiR
    have rU : refs[i] ≠ U := fun z => by rw [z, hU] at h0; cases h0
    have hrow := kk _ _ rU h0
    have ok := hok _ (List.getElem_mem hiR)
    have l1 := rb_len ok
    have l2 : (rbs (Rs.take i)).length ≤ i * 244 := Nat.le_trans (rbs_len fun Q hq => hok Q (List.mem_of_mem_take hq)) (Nat.mul_le_mul_right _ (by rw [List.length_take]; omega))
    have l3 : i * 244 ≤ 29 * 244 := Nat.mul_le_mul_right _ (by omega)
    refine ⟨.ref U, rfl, tyl hu, _, rfl, _, Rs[i], rfl, hrow, ok, fun p H2 hp s2 h2 => ⟨U, p, _, _, rfl, rfl, s2 U _ hu, h2, Nat.le_trans (by rw [vn_len, vn_len]; omega : _ ≤ 20000) (by decide), ⟨⟨_, rfl⟩, ?_, ?_⟩⟩⟩
    · exact (kk.trans (Keep.same s2)).upd
    · rw [upd_same, ← vn_app, ← rbs_snoc, List.take_append_getElem hiR]
  · rintro σ H' ⟨⟨v, rfl⟩, kk, hu⟩
    refine k v H' kk ?_
    rw [List.length_map, lr, List.take_length] at hu
    exact hu
/-! ### what the program tells -/
theorem RowsL.same {H H' : Hp} {F : Addr} {Rs : List Row} (r : RowsL H F Rs) (s : Same H H') : RowsL H' F Rs := by
  obtain ⟨refs, e, p⟩ := r
  exact ⟨refs, s _ _ e, Paired.map' p fun a b h => s _ _ h⟩
theorem RowsL.keep {H H' : Hp} {F U : Addr} {Rs : List Row} (r : RowsL H F Rs) (k : Keep U H H') (FU : F ≠ U) (hU : ∃ xs, H U = some (.lst xs)) : RowsL H' F Rs := by
  obtain ⟨refs, e, p⟩ := r
  obtain ⟨xs, hU⟩ := hU
  exact ⟨refs, k _ _ FU e, Paired.map' p fun a b h => k _ _ (fun z => by rw [z, hU] at h; cases h) h⟩
theorem RowsL.s {H : Hp} {F : Addr} {Rs : List Row} (r : RowsL H F Rs) : RowsS H F Rs := by
  obtain ⟨refs, e, p⟩ := r
  exact ⟨refs, by rw [e]; rfl, p⟩
theorem got_run {K : PySem.W.Frag} {D : Ends} {σ : L2.St} {H : Hp} {p U : Addr} {ns : List Nat} (h6 : σ[6]? = some (some (.ref p))) (h4 : σ[4]? = some (some (.ref U))) (hp : H p = some (.tup (vn ns))) (hU : H U = some (.lst (vn ns)))
    (k : ∀ H', Same H H' → D.nx σ H') : (tIfS (tTest (tOp (rNeD K) (tVar 6) (tCB rTupd (tCons (tVar 4) tNil)))) (tRet (tC (V.bl false))) tNext : TS) D σ H :=
  ⟨_, h6, _, h4, U, _, rfl, hU, fun l hl => ne_ns (by rw [upd_ne (ne_new hp hl)]; exact hp) upd_same ⟨false, rfl, k _ (Same.new' (Same.refl H) hl)⟩⟩
theorem gots_run {K : PySem.W.Frag} {D : Ends} {F U : Addr} {Rs : List Row} {H : Hp} {v0 v1 v2 v5 v6 v7 v8 v9 : Option V} (hF : RowsL H F Rs) (hU : H U = some (.lst (vn (rbs Rs)))) (hl : Rs.length ≤ 30) (hok : ∀ R ∈ Rs, RowOk R)
    (k : ∀ v6 H', Same H H' → D.nx [v0, v1, v2, some (.ref F), some (.ref U), v5, v6, v7, v8, v9] H') : t_gots K D [v0, v1, v2, some (.ref F), some (.ref U), v5, v6, v7, v8, v9] H := by
  unfold t_gots
  refine ⟨_, rfl, F, Rs, rfl, hF.s, hl, hok, fun p1 H1 hp1 s1 h1 => ?_⟩
  obtain ⟨refs, eF, pF⟩ := hF.same s1
  refine ⟨_, rfl, F, _, rfl, eF, fun l hl1 => ⟨l, Rs, rfl, ⟨refs, by rw [upd_same]; rfl, Paired.map' pF fun a b h => by rw [upd_ne (ne_new h hl1)]; exact h⟩, hl, hok, fun p2 H2 hp2 s2 h2 => ?_⟩⟩
  have s3 : Same H1 H2 := Same.trans' (Same.new' (Same.refl H1) hl1) s2
  refine ⟨_, rfl, F, Rs, rfl, (hF.same (Same.trans' s1 s3)).s, hl, hok, fun p3 H3 hp3 s4 h3 => ⟨szl (by simp only [List.length_cons, List.length_nil]; decide), fun TT hT => ⟨TT, rfl, ⟨_, SqT.of upd_same⟩, ?_⟩⟩⟩
  have sA : Same H (L2.upd H3 TT (.tup [.ref p1, .ref p2, .ref p3])) := Same.new' (fun b o e => s4 b o (s3 b o (s1 b o e))) hT
  have sT : ∀ {b : Addr} {o : HO}, H3 b = some o → L2.upd H3 TT (.tup [.ref p1, .ref p2, .ref p3]) b = some o := fun e => by rw [upd_ne (ne_new e hT)]; exact e
  have al : ∀ x ∈ [V.ref p1, .ref p2, .ref p3], ∃ p, x = .ref p ∧ L2.upd H3 TT (.tup [.ref p1, .ref p2, .ref p3]) p = some (.tup (vn (rbs Rs))) := by
    intro x hx
    simp only [List.mem_cons, List.not_mem_nil, or_false] at hx
    rcases hx with rfl | rfl | rfl
    · exact ⟨_, rfl, sT (s4 _ _ (s3 _ _ h1))⟩
    · exact ⟨_, rfl, sT (s4 _ _ h2)⟩
    · exact ⟨_, rfl, sT h3⟩
  have eT : L2.upd H3 TT (.tup [.ref p1, .ref p2, .ref p3]) TT = some (.tup [.ref p1, .ref p2, .ref p3]) := upd_same
  generalize L2.upd H3 TT (.tup [.ref p1, .ref p2, .ref p3]) = G at *
  refine lp_tup (xs := [.ref p1, .ref p2, .ref p3]) (fun i σ H' => (∃ v, σ = [v0, v1, v2, some (.ref F), some (.ref U), v5, v, v7, v8, v9]) ∧ Same G H') ⟨⟨_, rfl⟩, Same.refl G⟩ (fun i σ H' _ ⟨_, e⟩ => SqT.of (e _ _ eT)) ?_ ?_
  · rintro i x σ H' hx ⟨⟨v, rfl⟩, e⟩
    obtain ⟨p, rfl, hp⟩ := al x (List.mem_of_getElem? hx)
    show (tIfS _ _ _ : TS) _ [v0, v1, v2, some (.ref F), some (.ref U), v5, some (.ref p), v7, v8, v9] H'
    exact got_run rfl rfl (e _ _ hp) (e _ _ (sA _ _ hU)) fun H2 e2 => ⟨⟨_, rfl⟩, Same.trans' e e2⟩
  · rintro σ H' ⟨⟨v, rfl⟩, e⟩
    exact k v H' (Same.trans' sA e)
theorem ne_str {D : Ends} {σ : L2.St} {H : Hp} {x y : Str} {u v : TS} (e : x = y) (k : v D σ H) : rNe (.str x) (.str y) H (fun z H' => ∃ b, z = .bl b ∧ if b = true then u D σ H' else v D σ H') := by
  subst e
  refine ⟨rfl, _, rfl, ?_⟩
  simpa using k
theorem reps_run {K : PySem.W.Frag} {CC CN F U : Addr} {u : TS} {D : Ends} {Rs : List Row} {H : Hp} {v0 v1 v2 v5 v6 v7 v8 v9 : Option V} (hF : RowsL H F Rs) (hU : H U = some (.lst (vn (rbs Rs)))) (hl : Rs.length ≤ 30) (hok : ∀ R ∈ Rs, RowOk R)
    (k : ∀ v7 v8 H', Same H H' → u D [v0, v1, v2, some (.ref F), some (.ref U), v5, v6, v7, v8, v9] H') : t_reps K CC CN u D [v0, v1, v2, some (.ref F), some (.ref U), v5, v6, v7, v8, v9] H := by
  unfold t_reps
  refine ⟨szl (by decide), fun p1 hp1 => ⟨Nat.zero_le _, fun p2 hp2 => ⟨_, rfl, p1, p2, U, [30, 0], [], rbs Rs, 1, rfl, ?_, ?_, ?_, ?_, ?_, rbs_lt, by decide, by decide, fun c H1 hc s1 ca => ?_⟩⟩⟩
  · rw [upd_ne (ne_new upd_same hp2)]
    exact upd_same
  · exact upd_same
  · rw [upd_ne (ne_new (by rw [upd_ne (ne_new hU hp1)]; exact hU) hp2), upd_ne (ne_new hU hp1)]
    exact hU
  · decide
  · intro n h
    cases h
  have sB : Same H H1 := Same.trans' (Same.new' (Same.new' (Same.refl H) hp1) hp2) s1
  obtain ⟨dx, fs, cu, cv, ct, e1, _, _, _, _, _, e2, e3⟩ := ca
  refine ⟨_, rfl, .inl ⟨c, dx, fs, ct, Rs, rfl, e1, e2, e3, hl, hok, fun F1 H2 hF1 s2 r2 => ?_⟩⟩
  refine ⟨_, rfl, ?_⟩
  simp only [r_nil]
  refine repr_rows r2 hok hl ⟨_, rfl, ?_⟩
  simp only [r_nil]
  refine repr_rows (hF.same (Same.trans' sB s2)) hok hl ?_
  refine ne_str rfl ?_
  obtain ⟨refs, eF, pF⟩ := id r2
  have lr := Paired.length pF
  refine ⟨_, rfl, tyl eF, F1, _, .non, rfl, rfl, eF, Nat.lt_of_le_of_lt (by rw [List.length_map]; omega : _ ≤ 1000) (by decide), ?_⟩
  have sC : ∀ b o, H1 b = some o → L2.upd H2 F1 (.lst (refs.map V.ref ++ [.non])) b = some o := fun b o e => by
    rw [upd_ne (ne_new e hF1)]
    exact s2 b o e
  refine ⟨_, rfl, .inl ⟨c, dx, fs, ct, Rs, rfl, sC _ _ e1, e2, sC _ _ e3, hl, hok, fun F2 H3 hF2 s3 r3 => ?_⟩⟩
  simp only [r_nil]
  refine repr_rows r3 hok hl ⟨_, rfl, ?_⟩
  simp only [r_nil]
  refine repr_rows (hF.same fun b o e => s3 b o (sC b o (sB b o e))) hok hl ?_
  refine ne_str rfl ?_
  exact k _ _ _ fun b o e => s3 b o (sC b o (sB b o e))
end C47

set_option maxHeartbeats 2000000
namespace C47
open PySem PySem.Spec PyProof.Rows L2
theorem sqL_same {K : PySem.W.Frag} {H H' : Hp} {a : Addr} {xs : List V} (h : SqL K H a xs) (s : Same H H') : SqL K H' a xs := by
  rcases h with (h | ⟨o, h⟩) | h
  · exact .inl (.inl (s _ _ h))
  · exact .inl (.inr ⟨o, s _ _ h⟩)
  · exact .inr h
theorem cell_run {K : PySem.W.Frag} {CC CN Pt : Addr} {q : Str} {D : Ends} {H : Hp} {n : Int} {v0 v2 v3 v4 v5 v6 v7 v8 v9 : Option V} (t : LamX.Tabs [(Pt, q)] H)
    (k : ∀ v2 v3 v4 v5 v6 v7 v8 v9 H', LamX.ExtN H H' → LamX.Tabs [(Pt, q)] H' → D.nx [v0, some (.int n), v2, v3, v4, v5, v6, v7, v8, v9] H') : t_cell K CC CN Pt q D [v0, some (.int n), v2, v3, v4, v5, v6, v7, v8, v9] H := by
  unfold t_cell
  refine ⟨_, rfl, n, rfl, fun p H1 hp s1 src => ?_⟩
  refine ⟨_, rfl, p, rfl, src, fun F Rs H2 hF Fp kk src2 rows hl hok => ⟨Nat.zero_le _, fun U hU => ⟨_, _, rfl, ?_⟩⟩⟩
  have t1 := tabs_same t s1
  obtain ⟨x, y, z, eS⟩ := src
  have t2 := tabs_keep t1 kk ⟨_, eS⟩
  have s3 := Same.new' (o := .lst []) (Same.refl H2) hU
  have t3 := tabs_same t2 s3
  have q3 : L2.upd H2 U (.lst []) U = some (.lst []) := upd_same
  have r3 := rows.same s3
  have FU : F ≠ U := by
    obtain ⟨refs, e, _⟩ := rows
    exact ne_new e hU
  have keepH : ∀ b o, H b = some o → L2.upd H2 U (.lst []) b = some o ∧ b ≠ U := fun b o e => by
    have e2 := kk b o (ne_new e hp) (s1 b o e)
    exact ⟨s3 b o e2, ne_new e2 hU⟩
  generalize L2.upd H2 U (.lst []) = H3 at *
  refine due_run r3 q3 FU hl hok fun v5 H4 k4 u4 => ?_
  have t4 := tabs_keep t3 k4 ⟨_, q3⟩
  have r4 := r3.keep k4 FU ⟨_, q3⟩
  refine gots_run r4 u4 hl hok fun v6 H5 s5 => ?_
  refine reps_run (r4.same s5) (s5 _ _ u4) hl hok fun v7 v8 H6 s6 => ?_
  obtain ⟨refs, eF, _⟩ := r4
  refine odds_run (s6 _ _ (s5 _ _ eF)) (s6 _ _ (s5 _ _ u4)) (tabs_same (tabs_same t4 s5) s6) fun v9 H7 e7 t7 => k _ _ _ _ _ _ _ _ _ (fun b o e n => ?_) t7
  obtain ⟨e3, bU⟩ := keepH b o e
  exact e7 b o (s6 b o (s5 b o (k4 b o bU e3))) n
theorem law_run {K : PySem.W.Frag} {CC CN Pt a : Addr} {q : Str} {H : Hp} {ns : List Int} (t : LamX.Tabs [(Pt, q)] H) (hS : SqL K H a (ns.map V.int)) (hn : ns.length ≤ 1000) :
    t_law K CC CN Pt q { nx := fun _ H' => (fun v (_ : Hp) => v = V.bl true) .non H', rt := fun v _ => v = .bl true } (L2.start Nlaw [.ref a]) H := by
  unfold t_law
  refine ⟨_, rfl, szl (by decide), fun p0 h0 => ⟨a, p0, _, _, rfl, rfl, sqL_same hS (Same.new' (Same.refl H) h0), upd_same, Nat.le_trans (by rw [List.length_map, List.length_singleton]; omega : _ ≤ 1001) (by decide), fun p1 h1 => ⟨6, rfl, p1, _, rfl, upd_same, fun p2 h2 => ⟨p2, rfl, ⟨_, SqL.of upd_same⟩, ?_⟩⟩⟩⟩
  have s1 := Same.new' (o := .lst [.int 0]) (Same.refl H) h0
  generalize L2.upd H p0 (.lst [.int 0]) = G1 at *
  have s2 := Same.new' (o := .lst (ns.map V.int ++ [.int 0])) (Same.refl G1) h1
  generalize L2.upd G1 p1 (.lst (ns.map V.int ++ [.int 0])) = G2 at *
  have isInt : ∀ x ∈ cutV (ns.map V.int ++ [.int 0]) none (some 6), ∃ n : Int, x = .int n := by
    intro x hx
    unfold cutV at hx
    have h := List.mem_of_mem_drop (List.mem_of_mem_take hx)
    rcases List.mem_append.mp h with h | h
    · obtain ⟨n, _, e⟩ := List.mem_map.mp h
      exact ⟨n, e.symm⟩
    · exact ⟨0, List.mem_singleton.mp h⟩
  generalize cutV (ns.map V.int ++ [.int 0]) none (some 6) = xs at *
  have s3 := Same.new' (o := .lst xs) (Same.refl G2) h2
  have q3 : L2.upd G2 p2 (.lst xs) p2 = some (.lst xs) := upd_same
  have t3 : LamX.Tabs [(Pt, q)] (L2.upd G2 p2 (.lst xs)) := tabs_same (tabs_same (tabs_same t s1) s2) s3
  generalize L2.upd G2 p2 (.lst xs) = G3 at *
  refine lp_list (xs := xs) (fun i σ H' => (∃ v1 v2 v3 v4 v5 v6 v7 v8 v9, σ = [some (.ref a), v1, v2, v3, v4, v5, v6, v7, v8, v9]) ∧ LamX.ExtN G3 H' ∧ LamX.Tabs [(Pt, q)] H') ⟨⟨_, _, _, _, _, _, _, _, _, rfl⟩, LamX.ExtN.refl G3, t3⟩ (fun i σ H' _ ⟨_, e, _⟩ => SqL.of (e _ _ q3 (fun _ z => by cases z))) ?_ ?_
  · rintro i x σ H' hx ⟨⟨v1, v2, v3, v4, v5, v6, v7, v8, v9, rfl⟩, e, t'⟩
    obtain ⟨n, rfl⟩ := isInt x (List.mem_of_getElem? hx)
    show t_cell K CC CN Pt q _ [some (.ref a), some (.int n), v2, v3, v4, v5, v6, v7, v8, v9] H'
    exact cell_run t' fun w2 w3 w4 w5 w6 w7 w8 w9 H2 e2 t2 => ⟨⟨_, _, _, _, _, _, _, _, _, rfl⟩, e.trans e2, t2⟩
  · rintro σ H' ⟨_, e, t'⟩
    rfl
/-- the law runs well -/
theorem law_runs {P : Program} {w : World} {K : PySem.W.Frag} {mg : Str → Option Value} {CC CN CE CT CR CB gC fa co Pt a : Addr} {cdC : Value} {s : Shared} {ns : List Int} {oc : Value} {od : Option Addr} {dV kV doc pm ct : Value} {an : Option Addr} {osl : Array (Option Value)}
    (L : ∀ base, LawT P w K mg base CC CN CE CT CR CB gC cdC) (lk : K.lookup fa = some ⟨oc, od, .func (PySem.W.fnOf "law" "law" (defArgs slaw) (defBody slaw) (defScope slaw) dV kV doc pm an (.ref co) ct), osl⟩) (hcd : PySem.W.codeIn K (.ref co) "law" = true)
    (bind : ∀ (s : Shared) (v : Value), BindsTo s (PySem.W.fnOf "law" "law" (defArgs slaw) (defBody slaw) (defScope slaw) dV kV doc pm an (.ref co) ct) ⟨[v], []⟩ [("_law_script", v)]) (hn : ns.length ≤ 1000) : RunsAt P w K mg [(co, Pt)] fa a s ns := by
  intro base H KB nsB TB e0 hT hS
  refine LamX.run_ofS (N := Nlaw) (ps := ["_law_script"]) (us := [.ref a]) (vs := [.ref a]) lk hcd sclaw (k := 6) ⟨rfl, by decide, by decide⟩ e0 (bind s (.ref a)) (.cons rfl .nil) rfl fun hr => ?_
  refine ⟨_, (law_reads (L base) (TB _ (List.mem_singleton.mpr rfl)) hr rfl).nox, ?_⟩
  exact law_run (fun p hp => by rw [List.mem_singleton.mp hp]; exact LamX.TabS.nil (hT _ (List.mem_singleton.mpr rfl))) hS hn
end C47

set_option maxHeartbeats 4000000
namespace C47
open PySem PySem.Spec PyProof.Rows L2
/-! ### the exception's __init__ -/
section
variable {P : Program} {w : World} {K : PySem.W.Frag} {mg : Str → Option Value} {base : Heap} {f : Addr} {fd : FuncData}
abbrev sNoCode_init : Stmt := inClass (top 2) 0
theorem scNoCode_init : FnScope ["self", "field"] ["self", "field"] (defScope sNoCode_init) := ⟨rfl, rfl, rfl, by decide +kernel, rfl, by decide +kernel, by decide +kernel⟩

theorem ok_NoCode_init {CN : Addr} (ox : OexC K CN) (no : PySem.W.findIn K (.ref CN) "field" = some none) (F : FnP K "__init__" "NoCode.__init__" sNoCode_init f fd) : FnOk P w K mg base CX0 1 f fd ["self", "field"] (spXInit CN "field") := by
  refine F.ok scNoCode_init (fun vs H Q E h => ?_) (fun cdv A outer s H vs Q E hr h => ?_)
  · obtain ⟨a, v, rfl, _⟩ := h
    rfl
  · obtain ⟨a, v, rfl, ha, k⟩ := h
    refine ⟨_, PSs.nox (pss_one (ps_ost (pv 0) (pv 1))), ?_⟩
    exact ⟨v, rfl, .ref a, rfl, a, CN, rfl, ox, no, .inl ⟨ha, fun d hd nd => k d hd nd⟩⟩
end
/-! ### facts of classes, as a Bool -/
def oexB (K : PySem.W.Frag) (C : Addr) : Bool := match K.lookup C with
  | some ⟨.type t, _, .cls cd, sl⟩ => decide (t = "type") && (match cd.mro, sl.toList with
    | .ref D :: bm, [_, _, _, _, some (.builtin n), _] => decide (D = C) && (decide (n = "ValueError.__new__") && (!cd.hasDel && (cd.hasDict && PySem.HandSPX.refsVE bm)))
    | _, _ => false)
  | _ => false
theorem oexB_ok {K : PySem.W.Frag} {C : Addr} (h : oexB K C = true) : ∃ nm q N bs bm sn sub ab col dd k0 k1 k2 k3 k5, K.lookup C = some (excClassObj nm q C N bs bm true sn sub ab col dd k0 k1 k2 k3 k5 "ValueError.__new__") ∧ PySem.HandSPX.refsVE bm = true := by
  unfold oexB at h
  split at h
  · rename_i t dd cd sl e
    rw [Bool.and_eq_true] at h
    obtain ⟨ht, h⟩ := h
    split at h
    · rename_i D bm y0 y1 y2 y3 n y5 em es
      simp only [Bool.and_eq_true, decide_eq_true_eq, Bool.not_eq_true'] at h
      obtain ⟨h1, h2, h3, h4, h5⟩ := h
      have ht := of_decide_eq_true ht
      obtain ⟨nm, bs, mro, ns, qn, hd, sn, sub, ab, col, del⟩ := cd
      obtain ⟨l⟩ := sl
      dsimp only at em es h3 h4
      subst em es h1 h2 h3 h4 ht
      exact ⟨_, _, _, _, bm, _, _, _, _, _, _, _, _, _, _, e, h5⟩
    · cases h
  · cases h
def excB (K : PySem.W.Frag) (D : Addr) : Bool := He.eqO (PySem.W.findIn K (.ref D) "__getattribute__") (some (some (.builtin "BaseException.__getattribute__"))) && (He.eqO (PySem.W.findIn K (.ref D) "__getattr__") (some none) && (decide (PySem.W.subIn K (.ref D) (.type "BaseException") = some true) &&
  (PySem.W.hasDictIn K D && (He.eqO (PySem.W.findIn K (.ref D) "__class__") (some (some (.builtin "object.__class__"))) && (He.eqO (PySem.W.specialIn K (.builtin "object.__class__") "__get__") (some (some (.builtin "getset_descriptor.__get__"))) &&
  (decide (PySem.W.takesIn K (.builtin "object.__class__") = some true) && (decide (PySem.W.mroIn K D (.type "object") = some true) && (decide (PySem.W.typeIn K (.ref D) = some (.type "type")) && (PySem.W.keepIn K (.ref D) && He.eqO (PySem.W.findIn K (.ref D) "__setattr__") (some (some (.builtin "object.__setattr__"))))))))))))
theorem excB_ok {K : PySem.W.Frag} {D : Addr} (h : excB K D = true) : ExcC K D ∧ XfC K D ∧ PySem.W.typeIn K (.ref D) = some (.type "type") ∧ PySem.W.keepIn K (.ref D) = true ∧ PySem.W.findIn K (.ref D) "__setattr__" = some (some (.builtin "object.__setattr__")) := by
  unfold excB at h
  simp only [Bool.and_eq_true, decide_eq_true_eq] at h
  obtain ⟨h1, h2, h3, h4, h5, h6, h7, h8, h9, h10, h11⟩ := h
  exact ⟨⟨He.eqO_ok h1, He.eqO_ok h2, h3, h4, He.eqO_ok h5, He.eqO_ok h6, h7, h8⟩, ⟨He.eqO_ok h1, He.eqO_ok h2, h3, h4⟩, h9, h10, He.eqO_ok h11⟩
def kitB (K : PySem.W.Frag) (C : Addr) : Bool := He.eqO (PySem.W.findIn K (.ref C) "__class__") (some (some (.builtin "object.__class__"))) && (decide (PySem.W.mroIn K C (.type "object") = some true) && (["NoneType", "int", "bool", "str", "list", "tuple", "dict"] : List String).all fun t => decide (PySem.W.kitOne K (.type t) (.ref C) = some false))
def mkpB (K : PySem.W.Frag) (C : Addr) : Bool := PySem.W.makesIn K C && (He.eqO (PySem.W.findIn K (.ref C) "__init__") (some (some (.builtin "object.__init__"))) && PySem.W.keepIn K (.ref C))
def exB (K : PySem.W.Frag) : Bool := kitB K (He.ga K "Known") && (mkpB K (He.ga K "Mark") && (kitB K (He.ga K "Code") && (oexB K (He.ga K "NoCode") && (excB K (He.ga K "NoCode") && (He.eqO (PySem.W.findIn K (.ref (He.ga K "NoCode")) "field") (some none) && (decide (PySem.W.kitOne K (.ref (He.ga K "NoCode")) (.ref (He.ga K "CodeError")) = some true) &&
  (decide (PySem.W.kitOne K (.ref (He.ga K "NoCode")) (.type "ValueError") = some true) && (decide (PySem.W.typeIn K (.ref (He.ma K (He.ga K "NoCode") "__init__")) = some (.type "function")) && He.eqO (PySem.W.findIn K (.ref (He.ga K "NoCode")) "__init__") (some (some (.ref (He.ma K (He.ga K "NoCode") "__init__"))))))))))))
def d_number_of : He.DefD := ⟨("number_of", none), "number_of", "number_of", defArgs snumber_of, defBody snumber_of, defScope snumber_of, [], []⟩
def d_bytes_of : He.DefD := ⟨("bytes_of", none), "bytes_of", "bytes_of", defArgs sbytes_of, defBody sbytes_of, defScope sbytes_of, [], []⟩
def d_string_of : He.DefD := ⟨("string_of", none), "string_of", "string_of", defArgs sstring_of, defBody sstring_of, defScope sstring_of, [], []⟩
def d_strings_of : He.DefD := ⟨("strings_of", none), "strings_of", "strings_of", defArgs sstrings_of, defBody sstrings_of, defScope sstrings_of, [], []⟩
def d_is_string : He.DefD := ⟨("is_string", none), "is_string", "is_string", defArgs sis_string, defBody sis_string, defScope sis_string, [], []⟩
def d_depth_of : He.DefD := ⟨("depth_of", none), "depth_of", "depth_of", defArgs sdepth_of, defBody sdepth_of, defScope sdepth_of, [], []⟩
def d_Code_init : He.DefD := ⟨("Code", some "__init__"), "__init__", "Code.__init__", defArgs sCode_init, defBody sCode_init, defScope sCode_init, [], []⟩
def d_NoCode_init : He.DefD := ⟨("NoCode", some "__init__"), "__init__", "NoCode.__init__", defArgs sNoCode_init, defBody sNoCode_init, defScope sNoCode_init, [], []⟩
def d_exception_rows : He.DefD := ⟨("exception_rows", none), "exception_rows", "exception_rows", defArgs sexception_rows, defBody sexception_rows, defScope sexception_rows, [], []⟩
def d_number_ahead : He.DefD := ⟨("number_ahead", none), "number_ahead", "number_ahead", defArgs snumber_ahead, defBody snumber_ahead, defScope snumber_ahead, [], []⟩
def d_exception_bytes : He.DefD := ⟨("exception_bytes", none), "exception_bytes", "exception_bytes", defArgs sexception_bytes, defBody sexception_bytes, defScope sexception_bytes, [], []⟩
def d_pieces_of : He.DefD := ⟨("pieces_of", none), "pieces_of", "pieces_of", defArgs spieces_of, defBody spieces_of, defScope spieces_of, [], []⟩
def d_source_of : He.DefD := ⟨("_law_source_of", none), "_law_source_of", "_law_source_of", defArgs ssource_of, defBody ssource_of, defScope ssource_of, [], []⟩
def d_next : He.DefD := ⟨("_law_next", none), "_law_next", "_law_next", defArgs snext, defBody snext, defScope snext, [], []⟩
def d_one : He.DefD := ⟨("_law_one", none), "_law_one", "_law_one", defArgs sone, defBody sone, defScope sone, [], []⟩
def d_pieces : He.DefD := ⟨("_law_pieces", none), "_law_pieces", "_law_pieces", defArgs spieces, defBody spieces, defScope spieces, [], []⟩
def d_marked : He.DefD := ⟨("_law_marked", none), "_law_marked", "_law_marked", defArgs smarked, defBody smarked, defScope smarked, [], []⟩
def d_made : He.DefD := ⟨("_law_made", none), "_law_made", "_law_made", defArgs smade, defBody smade, defScope smade, [], []⟩
def d_row_bytes : He.DefD := ⟨("_law_row_bytes", none), "_law_row_bytes", "_law_row_bytes", defArgs srow_bytes, defBody srow_bytes, defScope srow_bytes, [], []⟩
def d_caught : He.DefD := ⟨("_law_caught", none), "_law_caught", "_law_caught", defArgs scaught, defBody scaught, defScope scaught, [], []⟩
def d_number : He.DefD := ⟨("_law_number", none), "_law_number", "_law_number", defArgs snumber, defBody snumber, defScope snumber, [], []⟩
def d_drawn_rows : He.DefD := ⟨("_law_drawn_rows", none), "_law_drawn_rows", "_law_drawn_rows", defArgs sdrawn_rows, defBody sdrawn_rows, defScope sdrawn_rows, [], []⟩
def d_law : He.DefD := ⟨("law", none), "law", "law", defArgs slaw, defBody slaw, defScope slaw, [], []⟩
def fns : List He.DefD := [d_number_of, d_bytes_of, d_string_of, d_strings_of, d_is_string, d_depth_of, d_Code_init, d_NoCode_init, d_exception_rows, d_number_ahead, d_exception_bytes, d_pieces_of, d_source_of, d_next, d_one, d_pieces, d_marked, d_made, d_row_bytes, d_caught, d_number, d_drawn_rows, d_law]
def fas : List He.Fa := [.glo "number_of", .glo "bytes_of", .glo "string_of", .glo "strings_of", .glo "is_string", .glo "depth_of", .glo "exception_rows", .glo "number_ahead", .glo "exception_bytes", .glo "pieces_of", .glo "_law_source_of", .glo "_law_next", .glo "_law_one", .glo "_law_pieces", .glo "_law_marked", .glo "_law_made", .glo "_law_row_bytes", .glo "_law_caught", .glo "_law_number", .glo "_law_drawn_rows", .glo "law", .glo "Code", .glo "Known", .glo "Mark", .glo "NoCode", .glo "CodeError", .glo "NoTable", .glo "NoRows", .glo "NoBytes", .free "len", .free "int", .free "range", .free "tuple", .free "list", .free "isinstance", .free "bool", .free "str", .free "max", .free "reversed", .free "repr", .free "ValueError", .int "GREATEST" 2147483647, .int "DEEPEST" 100, .int "BARRED" 37, .int "BEGINS" 128, .int "GOES_ON" 64, .cls "Code", .cls "Known", .mkr "Code", .exm "NoCode" "NoCode" true, .noat "Code" "argcount", .noat "Code" "onlycount", .noat "Code" "stacksize", .noat "Code" "flags", .noat "Code" "code", .noat "Code" "depth", .noat "Code" "constants", .noat "Code" "names", .noat "Code" "slots", .noat "Code" "kinds", .noat "Code" "name", .noat "Code" "path", .noat "Code" "line", .noat "Code" "lines", .noat "Code" "handlers", .noat "Code" "identity"]
abbrev Rk : PySem.W.OpenRow := PySem.W.OpenLaw.row PySem.Challenge.rw_codewalk_k47_tables_of_handlers_both_way
def tfs : List He.Defn := [("law", none)]
abbrev hkk : PySem.W.Hook := He.hookX 4 fas fns [] tfs exB
def obk (s : PySem.W.SharedT) : He.AlX := He.obsX 4 fas fns [] tfs exB (HandSHeadRun.getT s)
theorem obk_eq (s : PySem.W.SharedT) : obk s = hkk.obs s.abs := He.obsX_eq (HandSHeadRun.getT_eq s)
def loose : List Str := (["CodeError", "NoCode", "NoTable", "NoBytes", "NoRows", "GREATEST", "DEEPEST", "BARRED", "Known", "Mark", "Code", "are_equal", "is_same_constant", "number_of", "bytes_of", "string_of", "strings_of", "is_string", "depth_of", "is_constant"] : List Str) ++ (["told_constants", "BEGINS", "GOES_ON", "exception_rows", "number_ahead", "exception_bytes", "pieces_of", "_law_source_of", "_law_next", "_law_one", "_law_pieces", "_law_marked", "_law_made", "_law_row_bytes", "_law_caught", "_law_number", "_law_drawn_rows"] : List Str)
theorem runk (w : World) : HandSHeadRun.RunEq Rk (PySem.W.view Rk.prog [41]) hkk obk 6000 loose w := by
  intro os
  kernel_rfl
end C47

set_option maxHeartbeats 4000000
namespace C47
open PySem PySem.Spec PyProof.Rows L2
abbrev Pk : Program := PySem.Challenge.pw_codewalk_k47_tables_of_handlers_both_way
theorem k47_at {w : World} {mg : Str → Option Value} {fa : Addr} {h : Heap} (Y : hkk.says w h) (G : h.Ns mainGlobals mg) (hmg : mg "law" = some (.ref fa)) : ∃ (K : PySem.W.Frag) (cs : List (Addr × Addr)), K.In h ∧ (∀ p ∈ cs, h.get? p.2 = some { cls := .none, data := .fields #[] }) ∧
    (∀ p ∈ cs, K.lookup p.2 = none) ∧ (∀ p ∈ cs, PySem.W.CodeHd h p.1 p.2) ∧ ∀ (s : Shared) (a : Addr) (ns : List Int), ns.length ≤ 1000 → RunsAt Pk w K mg cs fa a s ns := by
  obtain ⟨K, X, c⟩ := Y
  have cd := c.t.d
  obtain ⟨fd_number_of, F_number_of⟩ := cd.def_ 0 (d := d_number_of) rfl
  obtain ⟨fd_bytes_of, F_bytes_of⟩ := cd.def_ 1 (d := d_bytes_of) rfl
  obtain ⟨fd_string_of, F_string_of⟩ := cd.def_ 2 (d := d_string_of) rfl
  obtain ⟨fd_strings_of, F_strings_of⟩ := cd.def_ 3 (d := d_strings_of) rfl
  obtain ⟨fd_is_string, F_is_string⟩ := cd.def_ 4 (d := d_is_string) rfl
  obtain ⟨fd_depth_of, F_depth_of⟩ := cd.def_ 5 (d := d_depth_of) rfl
  obtain ⟨fd_Code_init, F_Code_init⟩ := cd.def_ 6 (d := d_Code_init) rfl
  obtain ⟨fd_NoCode_init, F_NoCode_init⟩ := cd.def_ 7 (d := d_NoCode_init) rfl
  obtain ⟨fd_exception_rows, F_exception_rows⟩ := cd.def_ 8 (d := d_exception_rows) rfl
  obtain ⟨fd_number_ahead, F_number_ahead⟩ := cd.def_ 9 (d := d_number_ahead) rfl
  obtain ⟨fd_exception_bytes, F_exception_bytes⟩ := cd.def_ 10 (d := d_exception_bytes) rfl
  obtain ⟨fd_pieces_of, F_pieces_of⟩ := cd.def_ 11 (d := d_pieces_of) rfl
  obtain ⟨fd_source_of, F_source_of⟩ := cd.def_ 12 (d := d_source_of) rfl
  obtain ⟨fd_next, F_next⟩ := cd.def_ 13 (d := d_next) rfl
  obtain ⟨fd_one, F_one⟩ := cd.def_ 14 (d := d_one) rfl
  obtain ⟨fd_pieces, F_pieces⟩ := cd.def_ 15 (d := d_pieces) rfl
  obtain ⟨fd_marked, F_marked⟩ := cd.def_ 16 (d := d_marked) rfl
  obtain ⟨fd_made, F_made⟩ := cd.def_ 17 (d := d_made) rfl
  obtain ⟨fd_row_bytes, F_row_bytes⟩ := cd.def_ 18 (d := d_row_bytes) rfl
  obtain ⟨fd_caught, F_caught⟩ := cd.def_ 19 (d := d_caught) rfl
  obtain ⟨fd_number, F_number⟩ := cd.def_ 20 (d := d_number) rfl
  obtain ⟨fd_drawn_rows, F_drawn_rows⟩ := cd.def_ 21 (d := d_drawn_rows) rfl
  obtain ⟨fd_law, F_law⟩ := cd.def_ 22 (d := d_law) rfl
  have g_number_of := He.glo_ok X G (cd.fact 0 (f := .glo "number_of") rfl)
  have g_bytes_of := He.glo_ok X G (cd.fact 1 (f := .glo "bytes_of") rfl)
  have g_string_of := He.glo_ok X G (cd.fact 2 (f := .glo "string_of") rfl)
  have g_strings_of := He.glo_ok X G (cd.fact 3 (f := .glo "strings_of") rfl)
  have g_is_string := He.glo_ok X G (cd.fact 4 (f := .glo "is_string") rfl)
  have g_depth_of := He.glo_ok X G (cd.fact 5 (f := .glo "depth_of") rfl)
  have g_exception_rows := He.glo_ok X G (cd.fact 6 (f := .glo "exception_rows") rfl)
  have g_number_ahead := He.glo_ok X G (cd.fact 7 (f := .glo "number_ahead") rfl)
  have g_exception_bytes := He.glo_ok X G (cd.fact 8 (f := .glo "exception_bytes") rfl)
  have g_pieces_of := He.glo_ok X G (cd.fact 9 (f := .glo "pieces_of") rfl)
  have g_source_of := He.glo_ok X G (cd.fact 10 (f := .glo "_law_source_of") rfl)
  have g_next := He.glo_ok X G (cd.fact 11 (f := .glo "_law_next") rfl)
  have g_one := He.glo_ok X G (cd.fact 12 (f := .glo "_law_one") rfl)
  have g_pieces := He.glo_ok X G (cd.fact 13 (f := .glo "_law_pieces") rfl)
  have g_marked := He.glo_ok X G (cd.fact 14 (f := .glo "_law_marked") rfl)
  have g_made := He.glo_ok X G (cd.fact 15 (f := .glo "_law_made") rfl)
  have g_row_bytes := He.glo_ok X G (cd.fact 16 (f := .glo "_law_row_bytes") rfl)
  have g_caught := He.glo_ok X G (cd.fact 17 (f := .glo "_law_caught") rfl)
  have g_number := He.glo_ok X G (cd.fact 18 (f := .glo "_law_number") rfl)
  have g_drawn_rows := He.glo_ok X G (cd.fact 19 (f := .glo "_law_drawn_rows") rfl)
  have g_law := He.glo_ok X G (cd.fact 20 (f := .glo "law") rfl)
  have g_Code := He.glo_ok X G (cd.fact 21 (f := .glo "Code") rfl)
  have g_Known := He.glo_ok X G (cd.fact 22 (f := .glo "Known") rfl)
  have g_Mark := He.glo_ok X G (cd.fact 23 (f := .glo "Mark") rfl)
  have g_NoCode := He.glo_ok X G (cd.fact 24 (f := .glo "NoCode") rfl)
  have g_CodeError := He.glo_ok X G (cd.fact 25 (f := .glo "CodeError") rfl)
  have g_NoTable := He.glo_ok X G (cd.fact 26 (f := .glo "NoTable") rfl)
  have g_NoRows := He.glo_ok X G (cd.fact 27 (f := .glo "NoRows") rfl)
  have g_NoBytes := He.glo_ok X G (cd.fact 28 (f := .glo "NoBytes") rfl)
  have B_number_of : Binds K fd_number_of ["value", "field"] [] := F_number_of.bindsN fun _ _ _ _ _ _ us hl => match us, hl with | [_, _], _ => rfl
  have B_bytes_of : Binds K fd_bytes_of ["row", "field"] [] := F_bytes_of.bindsN fun _ _ _ _ _ _ us hl => match us, hl with | [_, _], _ => rfl
  have B_string_of : Binds K fd_string_of ["value", "field"] [] := F_string_of.bindsN fun _ _ _ _ _ _ us hl => match us, hl with | [_, _], _ => rfl
  have B_strings_of : Binds K fd_strings_of ["row", "field"] [] := F_strings_of.bindsN fun _ _ _ _ _ _ us hl => match us, hl with | [_, _], _ => rfl
  have B_is_string : Binds K fd_is_string ["value"] [] := F_is_string.bindsN fun _ _ _ _ _ _ us hl => match us, hl with | [_], _ => rfl
  have B_depth_of : Binds K fd_depth_of ["constants"] [] := F_depth_of.bindsN fun _ _ _ _ _ _ us hl => match us, hl with | [_], _ => rfl
  have B_Code_init : Binds K fd_Code_init ["self", "argcount", "onlycount", "stacksize", "flags", "code", "constants", "names", "slots", "kinds", "name", "path", "line", "lines", "handlers"] [] := F_Code_init.bindsN fun _ _ _ _ _ _ us hl => match us, hl with | [_, _, _, _, _, _, _, _, _, _, _, _, _, _, _], _ => rfl
  have B_NoCode_init : Binds K fd_NoCode_init ["self", "field"] [] := F_NoCode_init.bindsN fun _ _ _ _ _ _ us hl => match us, hl with | [_, _], _ => rfl
  have B_exception_rows : Binds K fd_exception_rows ["code"] [] := F_exception_rows.bindsN fun _ _ _ _ _ _ us hl => match us, hl with | [_], _ => rfl
  have B_number_ahead : Binds K fd_number_ahead ["table", "at", "begins"] [] := F_number_ahead.bindsN fun _ _ _ _ _ _ us hl => match us, hl with | [_, _, _], _ => rfl
  have B_exception_bytes : Binds K fd_exception_bytes ["rows"] [] := F_exception_bytes.bindsN fun _ _ _ _ _ _ us hl => match us, hl with | [_], _ => rfl
  have B_pieces_of : Binds K fd_pieces_of ["number"] [] := F_pieces_of.bindsN fun _ _ _ _ _ _ us hl => match us, hl with | [_], _ => rfl
  have B_source_of : Binds K fd_source_of ["_law_cell"] [] := F_source_of.bindsN fun _ _ _ _ _ _ us hl => match us, hl with | [_], _ => rfl
  have B_next : Binds K fd_next ["_law_source", "_law_many"] [] := F_next.bindsN fun _ _ _ _ _ _ us hl => match us, hl with | [_, _], _ => rfl
  have B_one : Binds K fd_one ["_law_source", "_law_some"] [] := F_one.bindsN fun _ _ _ _ _ _ us hl => match us, hl with | [_, _], _ => rfl
  have B_pieces : Binds K fd_pieces ["_law_number_here"] [] := F_pieces.bindsN fun _ _ _ _ _ _ us hl => match us, hl with | [_], _ => rfl
  have B_marked : Binds K fd_marked ["_law_some"] [] := F_marked.bindsN fun _ _ _ _ _ _ us hl => match us, hl with | [_], _ => rfl
  have B_made : Binds K fd_made ["_law_data", "_law_lines", "_law_guards", "_law_first"] [] := F_made.bindsN fun _ _ _ _ _ _ us hl => match us, hl with | [_, _, _, _], _ => rfl
  have B_row_bytes : Binds K fd_row_bytes ["_law_row"] [] := F_row_bytes.bindsN fun _ _ _ _ _ _ us hl => match us, hl with | [_], _ => rfl
  have B_caught : Binds K fd_caught ["_law_ask"] [] := F_caught.bindsN fun _ _ _ _ _ _ us hl => match us, hl with | [_], _ => rfl
  have B_number : Binds K fd_number ["_law_source"] [] := F_number.bindsN fun _ _ _ _ _ _ us hl => match us, hl with | [_], _ => rfl
  have B_drawn_rows : Binds K fd_drawn_rows ["_law_source"] [] := F_drawn_rows.bindsN fun _ _ _ _ _ _ us hl => match us, hl with | [_], _ => rfl
  have B_law : Binds K fd_law ["_law_script"] [] := F_law.bindsN fun _ _ _ _ _ _ us hl => match us, hl with | [_], _ => rfl
  have T : Txt mg := ⟨He.free_ok X G (cd.fact 29 (f := .free "len") rfl), He.free_ok X G (cd.fact 30 (f := .free "int") rfl), He.free_ok X G (cd.fact 31 (f := .free "range") rfl), He.free_ok X G (cd.fact 32 (f := .free "tuple") rfl), He.free_ok X G (cd.fact 33 (f := .free "list") rfl), He.free_ok X G (cd.fact 34 (f := .free "isinstance") rfl), He.free_ok X G (cd.fact 35 (f := .free "bool") rfl), He.free_ok X G (cd.fact 36 (f := .free "str") rfl), He.free_ok X G (cd.fact 37 (f := .free "max") rfl), He.free_ok X G (cd.fact 38 (f := .free "reversed") rfl), He.free_ok X G (cd.fact 39 (f := .free "repr") rfl), He.int_ok X G (cd.fact 41 (f := .int "GREATEST" 2147483647) rfl), He.int_ok X G (cd.fact 42 (f := .int "DEEPEST" 100) rfl), He.int_ok X G (cd.fact 43 (f := .int "BARRED" 37) rfl), He.int_ok X G (cd.fact 44 (f := .int "BEGINS" 128) rfl), He.int_ok X G (cd.fact 45 (f := .int "GOES_ON" 64) rfl)⟩
  have mo := c.more
  unfold exB at mo
  simp only [Bool.and_eq_true, decide_eq_true_eq] at mo
  obtain ⟨mk, mm, m1, m2, m3, m4, m5, m6, m7, m8⟩ := mo
  obtain ⟨eC, eF, eT, eK, eS⟩ := excB_ok m3
  unfold kitB at m1
  simp only [Bool.and_eq_true, decide_eq_true_eq] at m1
  obtain ⟨m11, m12, m13⟩ := m1
  unfold kitB at mk
  simp only [Bool.and_eq_true, decide_eq_true_eq] at mk
  obtain ⟨mk1, mk2, mk3⟩ := mk
  unfold mkpB at mm
  simp only [Bool.and_eq_true, decide_eq_true_eq] at mm
  obtain ⟨mm1, mm2, mm3⟩ := mm
  have PM : MkP K (He.ga K "Mark") := ⟨mm1, He.eqO_ok mm2, mm3⟩
  have IK : KnownT K mg (He.ga K "Known") := ⟨⟨He.cls_ok (cd.fact 47 (f := .cls "Known") rfl), He.eqO_ok mk1, eC.hn, eC.ht, mk2⟩, g_Known, of_decide_eq_true (List.all_eq_true.mp mk3 "list" (by decide))⟩
  have cls := He.cls_ok (cd.fact 46 (f := .cls "Code") rfl)
  have I : CodeT K mg (He.ga K "Code") := by
    refine ⟨⟨cls, He.eqO_ok m11, eC.hn, eC.ht, m12⟩, g_Code, fun t ht => of_decide_eq_true (List.all_eq_true.mp m13 t ht), fun f hf => ?_⟩
    simp only [List.mem_cons, List.not_mem_nil, or_false] at hf
    rcases hf with rfl | rfl | rfl | rfl | rfl | rfl | rfl | rfl | rfl | rfl | rfl | rfl | rfl | rfl | rfl | rfl
    · exact He.noat_ok (cd.fact 50 (f := .noat "Code" "argcount") rfl)
    · exact He.noat_ok (cd.fact 51 (f := .noat "Code" "onlycount") rfl)
    · exact He.noat_ok (cd.fact 52 (f := .noat "Code" "stacksize") rfl)
    · exact He.noat_ok (cd.fact 53 (f := .noat "Code" "flags") rfl)
    · exact He.noat_ok (cd.fact 54 (f := .noat "Code" "code") rfl)
    · exact He.noat_ok (cd.fact 55 (f := .noat "Code" "depth") rfl)
    · exact He.noat_ok (cd.fact 56 (f := .noat "Code" "constants") rfl)
    · exact He.noat_ok (cd.fact 57 (f := .noat "Code" "names") rfl)
    · exact He.noat_ok (cd.fact 58 (f := .noat "Code" "slots") rfl)
    · exact He.noat_ok (cd.fact 59 (f := .noat "Code" "kinds") rfl)
    · exact He.noat_ok (cd.fact 60 (f := .noat "Code" "name") rfl)
    · exact He.noat_ok (cd.fact 61 (f := .noat "Code" "path") rfl)
    · exact He.noat_ok (cd.fact 62 (f := .noat "Code" "line") rfl)
    · exact He.noat_ok (cd.fact 63 (f := .noat "Code" "lines") rfl)
    · exact He.noat_ok (cd.fact 64 (f := .noat "Code" "handlers") rfl)
    · exact He.noat_ok (cd.fact 65 (f := .noat "Code" "identity") rfl)
  have NT : NoCodeT K mg (He.ga K "NoCode") (He.ga K "CodeError") := ⟨eC, eF, He.eqO_ok m4, g_CodeError, g_NoCode, He.free_ok X G (cd.fact 40 (f := .free "ValueError") rfl), m5, m6, He.exm_ok (cd.fact 49 (f := .exm "NoCode" "NoCode" true) rfl)⟩
  have ox : OexC K (He.ga K "NoCode") := ⟨oexB_ok m2, eS, eC.hs, eT, eK⟩
  have cal : ∀ {base : Heap} {k : Nat} {x : Str} {ps : List Str} {sp : Sp} {f : Addr} {fd : FuncData}, FnOk Pk w K mg base CX0 k f fd ps sp → mg x = some (.ref f) → PySem.W.keepIn K (.ref f) = true → Binds K fd ps [] → Cal Pk w K mg base k x ps sp := fun F g kp b => ⟨⟨_, _, F, g, kp, b⟩⟩
  obtain ⟨oc, od, dV, kV, doc, pm, an, cdC, ct, osl, rfl, lkC, hcC, _, _⟩ := F_caught.ex
  have law : ∀ base, LawT Pk w K mg base (He.ga K "Code") (He.ga K "NoCode") (He.ga K "CodeError") (He.ga K "NoTable") (He.ga K "NoRows") (He.ga K "NoBytes") (He.ga K "_law_caught") cdC := fun base => by
    have C_source_of := cal (base := base) (ok_source_of T F_source_of) g_source_of F_source_of.kp B_source_of
    have C_next := cal (base := base) (ok_next T F_next) g_next F_next.kp B_next
    have C_one := cal (base := base) (ok_one T F_one C_next) g_one F_one.kp B_one
    have C_pieces := cal (base := base) (ok_pieces T F_pieces) g_pieces F_pieces.kp B_pieces
    have C_marked := cal (base := base) (ok_marked T F_marked) g_marked F_marked.kp B_marked
    have C_row_bytes := cal (base := base) (ok_row_bytes T F_row_bytes C_pieces C_marked) g_row_bytes F_row_bytes.kp B_row_bytes
    have C_number := cal (base := base) (ok_number T F_number C_next C_one) g_number F_number.kp B_number
    have C_drawn_rows := cal (base := base) (ok_drawn_rows T F_drawn_rows C_next C_number) g_drawn_rows F_drawn_rows.kp B_drawn_rows
    have C_pieces_of := cal (base := base) (ok_pieces_of T F_pieces_of) g_pieces_of F_pieces_of.kp B_pieces_of
    have C_number_ahead := cal (base := base) (ok_number_ahead T F_number_ahead) g_number_ahead F_number_ahead.kp B_number_ahead
    have C_number_of := cal (base := base) (ok_number_of T I F_number_of) g_number_of F_number_of.kp B_number_of
    have C_bytes_of := cal (base := base) (ok_bytes_of T I IK F_bytes_of) g_bytes_of F_bytes_of.kp B_bytes_of
    have C_is_string := cal (base := base) (ok_is_string T I F_is_string) g_is_string F_is_string.kp B_is_string
    have C_string_of := cal (base := base) (ok_string_of T I F_string_of C_is_string) g_string_of F_string_of.kp B_string_of
    have C_strings_of := cal (base := base) (ok_strings_of T I F_strings_of C_is_string) g_strings_of F_strings_of.kp B_strings_of
    have C_depth_of := cal (base := base) (ok_depth_of T I F_depth_of) g_depth_of F_depth_of.kp B_depth_of
    have XN : Exn Pk w K mg base "NoCode" (He.ga K "NoCode") "field" := ⟨ox, g_NoCode, _, _, He.eqO_ok m8, m7, ok_NoCode_init ox (He.eqO_ok m4) F_NoCode_init, B_NoCode_init⟩
    have MC : MkCode Pk w K mg base (He.ga K "Code") := ⟨⟨_, _, He.mkr_ok (cd.fact 48 (f := .mkr "Code") rfl), ok_Code_init T I F_Code_init C_number_of C_bytes_of C_string_of C_strings_of C_depth_of PM g_Mark, g_Code, B_Code_init⟩⟩
    have C_made := cal (base := base) (ok_made T F_made MC) g_made F_made.kp B_made
    exact ⟨T, I, NT, g_NoTable, g_NoRows, g_NoBytes, C_source_of, C_drawn_rows, C_row_bytes, ⟨⟨_, _, ok_exception_bytes T F_exception_bytes C_pieces_of, g_exception_bytes, F_exception_bytes.kp, B_exception_bytes, kw1 F_exception_bytes fun _ _ _ _ _ _ _ => rfl⟩⟩, C_made,
      ⟨⟨_, _, ok_exception_rows T I XN F_exception_rows C_number_ahead, g_exception_rows, F_exception_rows.kp, B_exception_rows, kw1 F_exception_rows fun _ _ _ _ _ _ _ => rfl⟩⟩, g_caught, F_caught.kp, hcC, _, _, _, _, _, _, _, _, _, lkC, B_caught⟩
  have bl := fun s v => F_law.bindsA (ps := ["_law_script"]) (fun _ _ _ _ _ _ us hl => match us, hl with | [_], _ => rfl) s [v] rfl
  obtain ⟨oc2, od2, dV2, kV2, doc2, pm2, an2, cdL, ct2, osl2, rfl, lkL, hcL, _, _⟩ := F_law.ex
  obtain ⟨co, rfl⟩ := He.codeIn_ref hcL
  have eco : He.codeOf K ("law", none) = co := He.codeOf_eq (p := ("law", none)) lkL rfl
  have eT2 : He.cT K ("law", none) = (co, He.tabOf K co) := by unfold He.cT; rw [eco]
  have hd := c.hd ("law", none) (List.mem_singleton.mpr rfl)
  have ou := c.out ("law", none) (List.mem_singleton.mpr rfl)
  have em := c.empty ("law", none) (List.mem_singleton.mpr rfl)
  rw [eT2] at hd ou em
  have efa : fa = He.ga K "law" := by
    have := hmg.symm.trans g_law
    cases this
    rfl
  subst efa
  refine ⟨K, [(co, He.tabOf K co)], X, fun p hp => ?_, fun p hp => ?_, fun p hp => ?_, fun s a ns hn => law_runs law lkL hcL bl hn⟩
  · rw [List.mem_singleton.mp hp]
    exact em
  · rw [List.mem_singleton.mp hp]
    exact ou
  · rw [List.mem_singleton.mp hp]
    exact PySem.W.codeHd_of_K X hd
end C47
open PySem PySem.W PySem.Calls PyProof.Rows
theorem PySem.Challenge.cw_codewalk_k47_tables_of_handlers_both_way_holds : PySem.Challenge.rw_codewalk_k47_tables_of_handlers_both_way.Holds := by
  w_on; o_law
  refine HandSHeadRun.head_any (r := OpenLaw.row PySem.Challenge.rw_codewalk_k47_tables_of_handlers_both_way) (q := view (OpenLaw.row PySem.Challenge.rw_codewalk_k47_tables_of_handlers_both_way).prog [41]) (H := C47.hkk) (ob := C47.obk) (M := 6000) (loose := C47.loose) (d := HandSHeadRun.topDef (OpenLaw.row PySem.Challenge.rw_codewalk_k47_tables_of_handlers_both_way).prog 41) (kwd := []) C47.obk_eq
    (by kernel_rfl) (fun s => by kernel_rfl) C47.runk (by kernel_rfl) (by kernel_rfl) (by kernel_rfl) (by rfl) (by first | assumption | decide +kernel) (by decide +kernel) ⟨rfl, rfl, rfl, rfl, rfl, by decide +kernel⟩ ?hw ?hc
  case hw => w_witness2
  case hc =>
    refine C47.walk_run (l := PySem.Challenge.rw_codewalk_k47_tables_of_handlers_both_way) (n := 63) rfl (by decide) (by kernel_rfl) ?_
    intro w mg fa h Y G hmg0
    have hmg : mg ("law" : PySem.Str) = some (.ref fa) := by
      have e : (HandSHeadRun.topDef (OpenLaw.row PySem.Challenge.rw_codewalk_k47_tables_of_handlers_both_way).prog 41).name = ("law" : PySem.Str) := by kernel_rfl
      rw [← e]
      exact hmg0
    obtain ⟨K, cs, h1, h2, h3, h4, h5⟩ := C47.k47_at Y G hmg
    exact ⟨K, cs, h1, h2, h3, h4, fun s a ns hl _ => h5 s a ns (Nat.le_trans hl (by decide))⟩
