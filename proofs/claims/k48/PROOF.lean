import PyProof.Rows.All
import Wide.All
import OpenK.AllK
import Wide.FinOn
import HandS.ForMost
import HandS.Wide
import HandS.Defaults
import HandS.IsInst
import HandS.Style
import HandS.ForExc
import HandS.ExcInit
import HandS.ExcField
import HandS.ExcIs
import PySem.Challenge.RW_codewalk_k48_tables_of_lines_both_ways
import HandS.Star
import HandS.Rev
import HandS.RevTup
import KE.KBytesIn
import KE.KStrBytes
import HandS.TryMany
import HandS.Lambda
import KE.KExcIs
import PyProof.EnumMake
import PyProof.Draws
import KE.GoesMore
import PyProof.Rows.SeqMore
import PyProof.ReprRoads
import HandS.Dict
import HandS.HeadWalk
import HandS.HeadHook4
import HandS.EndTab
import PyProof.ReprLen
import HandS.Head0
import HandS.Head1
import HandS.Head2
set_option Elab.async false
set_option linter.all false
set_option maxRecDepth 100000
set_option maxHeartbeats 1000000
namespace C48
open PySem PySem.Spec PyProof.Rows L2
def top (i : Nat) : Stmt := PySem.Challenge.pw_codewalk_k48_tables_of_lines_both_ways.main.body.getD i (.Pass ⟨0, 0, 0, 0⟩)
abbrev FnP (K : PySem.W.Frag) (x q : Str) (st : Stmt) (f : Addr) (fd : FuncData) : Prop := FunD K x q (defArgs st) (defBody st) (defScope st) [] [] f fd
/-- a def of the program as its callers see it -/
structure Cal (P : Program) (w : World) (K : PySem.W.Frag) (mg : Str → Option Value) (base : Heap) (k : Nat) (x : Str) (ps : List Str) (sp : Sp) : Prop where
  ex : ∃ f fd, FnOk P w K mg base CX0 k f fd ps sp ∧ mg x = some (.ref f) ∧ PySem.W.keepIn K (.ref f) = true ∧ Binds K fd ps []
theorem pe_cal {X : Cx} {k : Nat} {x : Str} {ps : List Str} {sp : Sp} {e : Expr} {es : List Expr} {t : TA} {p pos : Pos} (C : Cal X.prog X.w X.K X.mg X.base k x ps sp) (hr : Room k X.A) (hg : Gl X x) (ha : PA X (e :: es) t)
    (hdb : (x == ("__debug__" : Str)) = false := by decide) (he : starEach (e :: es) X.env = (false, eval e X.env) :: starEach es X.env := by rfl) (hpl : (backTo pos (starEach es X.env)).any (·.1) = false := by rfl) :
    PE X (.Call (.Name x p) (e :: es) [] pos) (tCall sp [] E0 t) := by
  obtain ⟨f, fd, F, m, kp, b⟩ := C.ex
  exact pe_call F hr hg m kp b .nil pass0 ha hdb he hpl
theorem pe_gi {X : Cx} {x : Str} {n : Int} {pos : Pos} (h : ∃ t, X.mg x = some (.int n t)) (hg : Gl X x := by rfl) (hdb : (x == ("__debug__" : Str)) = false := by decide) : PE X (.Name x pos) (tC (.int n)) := by
  obtain ⟨t, h⟩ := h
  exact pe_glob hg h ⟨t, rfl⟩ hdb
/-! ### own rules in a form that simp can reckon: each reading names what it finds in the heap by an equation -/
section
variable {X : Cx}
theorem OpR.imp' {g : Value → Value → Sem Value} {r r' : R2} (h : OpR X g r) (i : ∀ x y H Q, r' x y H Q → r x y H Q) : OpR X g r' := fun pins s σ H x y v u Q I rx ry q => h pins s σ H x y v u Q I rx ry (i _ _ _ _ q)
theorem IxR.imp' {r r' : R2} (h : IxR X r) (i : ∀ x y H Q, r' x y H Q → r x y H Q) : IxR X r' := fun e1 e2 pins s σ H x y v u Q I rx ry q => h e1 e2 pins s σ H x y v u Q I rx ry (i _ _ _ _ q)
theorem CallR.imp' {g : Value} {r r' : List V → Hp → VK → Prop} (h : CallR X g r) (i : ∀ xs H Q, r' xs H Q → r xs H Q) : CallR X g r' := fun pins s σ H xs us Q I rx q => h pins s σ H xs us Q I rx (i _ _ _ q)
theorem SlR.imp' {r r' : V → Option Int → Option Int → Hp → VK → Prop} (h : L2.SlR X r) (i : ∀ x a b H Q, r' x a b H Q → r x a b H Q) : L2.SlR X r' := fun pins s σ H x v vl vu lo hi sl Q I rx hs pl pu q => h pins s σ H x v vl vu lo hi sl Q I rx hs pl pu (i _ _ _ _ _ q)
theorem PE.weak {e : Expr} {t t' : TE} (h : PE X e t) (i : ∀ σ H Q, t' σ H Q → t σ H Q) : PE X e t' := ⟨fun pins s σ H Q I q => h.run pins s σ H Q I (i _ _ _ q)⟩
/-- the monotone closure of a reading -/
def mcl (te : TE) : TE := fun σ H Q => ∃ Q0 : VK, te σ H Q0 ∧ ∀ v H', Q0 v H' → Q v H'
theorem PE.mcl {e : Expr} {te : TE} (h : PE X e te) : PE X e (mcl te) := ⟨fun pins s σ H Q I q => by
  obtain ⟨Q0, q0, m⟩ := q
  exact thn (h.run pins s σ H Q0 I q0) fun u s1 ⟨v, H1, I1, r1, q1⟩ => ⟨v, H1, I1, r1, m _ _ q1⟩⟩
theorem pip_of {op : Operator} {r : R2} (h : OpR X (inplaceOp op) r) : PIp X op r := fun pins s σ H x y v u Q I rx ry q => h pins s σ H x y v u Q I rx ry q
/-- what a list or a tuple holds -/
def sq : Option HO → Option (List V)
  | some (.lst xs) => some xs
  | some (.tup xs) => some xs
  | _ => none
@[simp] theorem sq_lst {xs : List V} : sq (some (.lst xs)) = some xs := rfl
@[simp] theorem sq_tup {xs : List V} : sq (some (.tup xs)) = some xs := rfl
theorem sq_cases {o : Option HO} {xs : List V} (h : sq o = some xs) : o = some (.lst xs) ∨ o = some (.tup xs) := by
  unfold sq at h
  split at h
  · exact .inl (by rw [Option.some.inj h])
  · exact .inr (by rw [Option.some.inj h])
  · cases h
def rIxd : R2 := fun x y H Q => ∃ p i xs v, x = .ref p ∧ y = .int i ∧ sq (H p) = some xs ∧ atI xs i = some v ∧ Q v H
theorem ix_d : IxR X rIxd := IxR.imp' (IxR.or (ix_list (X := X)) (ix_tup (X := X))) fun x y H Q ⟨p, i, xs, v, e1, e2, h, ha, q⟩ => by
  rcases sq_cases h with h | h
  · exact .inl ⟨p, xs, i, v, e1, e2, SqL.of h, ha, q⟩
  · exact .inr ⟨p, xs, i, v, e1, e2, SqT.of h, ha, q⟩
def rLend : List V → Hp → VK → Prop := fun vs H Q => ∃ p xs, vs = [.ref p] ∧ sq (H p) = some xs ∧ Q (.int xs.length) H
theorem call_len_d : CallR X (.builtin "len") rLend := CallR.imp' (call_len_seq (X := X)) fun vs H Q ⟨p, xs, e, h, q⟩ => by
  rcases sq_cases h with h | h
  · exact ⟨p, xs, e, .inl (SqL.of h), q⟩
  · exact ⟨p, xs, e, .inr (SqT.of h), q⟩
/-- tuple(list), list(list), list(tuple) -/
def rTupd : List V → Hp → VK → Prop := fun vs H Q => ∃ p xs, vs = [.ref p] ∧ H p = some (.lst xs) ∧ ∀ l, H l = none → Q (.ref l) (upd H l (.tup xs))
theorem call_tuple_d : CallR X (.type "tuple") rTupd := CallR.imp' (call_tuple_of (X := X)) fun vs H Q ⟨p, xs, e, h, q⟩ => ⟨p, xs, e, .inl ⟨SqL.of h, q⟩⟩
def rListd : List V → Hp → VK → Prop := fun vs H Q => ∃ p xs, vs = [.ref p] ∧ sq (H p) = some xs ∧ ∀ l, H l = none → Q (.ref l) (upd H l (.lst xs))
theorem call_list_d : CallR X (.type "list") rListd := CallR.imp' (call_list_of (X := X)) fun vs H Q ⟨p, xs, e, h, q⟩ => by
  rcases sq_cases h with h | h
  · exact ⟨p, xs, e, .inl (SqL.of h), q⟩
  · exact ⟨p, xs, e, .inr (SqT.of h), q⟩
def rSld : V → Option Int → Option Int → Hp → VK → Prop := fun x lo hi H Q => ∃ a xs, x = .ref a ∧ H a = some (.lst xs) ∧ ∀ p, H p = none → Q (.ref p) (upd H p (.lst (cutV xs lo hi)))
theorem sl_d : L2.SlR X rSld := SlR.imp' (sl_list (X := X)) fun x lo hi H Q ⟨a, xs, e, h, q⟩ => ⟨a, xs, e, SqL.of h, q⟩
def tRevD (te : TE) : TE := fun σ H Q => te σ H fun x H1 => ∃ a xs, x = .ref a ∧ H1 a = some (.lst xs) ∧ ∀ p, H1 p = none → Q (.ref p) (upd H1 p (.lst xs.reverse))
theorem pe_revD {e : Expr} {te : TE} {k : Nat} {p1 p2 p3 pos : Pos} (he : PE X e te) : PE X (.Subscript e (.Slice none none (some (.UnaryOp .USub (.Constant (.int 1) k p1) p2)) p3) pos) (tRevD te) :=
  PE.weak (pe_revL (PE.mcl he)) fun σ H Q q => ⟨_, q, fun v H' ⟨a, xs, e, h, k⟩ => ⟨a, xs, e, SqL.of h, k⟩⟩
theorem PG.weak {tg : Expr} {t t' : TG} (h : PG X tg t) (i : ∀ v σ H Q, t' v σ H Q → t v σ H Q) : PG X tg t' := ⟨fun pins s σ H v u Q I r q => h.run pins s σ H v u Q I r (i _ _ _ _ q)⟩
/-- a, b, .. = a tuple that stands in the heap -/
def gTupD (n : Nat) (t : TGs) : TG := fun v σ H Q => ∃ a xs, v = .ref a ∧ H a = some (.tup xs) ∧ xs.length = n ∧ t xs σ H Q
theorem pg_tupD {es : List Expr} {k : Nat} {t : TGs} {n : Nat} {pos : Pos} (hc : X.calm = true) (h : PGs X es t)
    (hn : (assignEach es X.env).length = n := by rfl) (hst : (assignEach es X.env).findIdx? (·.1) = none := by rfl) : PG X (.Tuple es k pos) (gTupD n t) :=
  PG.weak (pg_tup hc h hn hst) fun v σ H Q ⟨a, xs, e, h, l, q⟩ => ⟨a, xs, e, SqT.of h, l, q⟩
def isLst : Option HO → Bool
  | some (.lst _) => true
  | _ => false
@[simp] theorem isLst_lst {xs : List V} : isLst (some (.lst xs)) = true := rfl
theorem tyV_lst {K : PySem.W.Frag} {H : Hp} {a : Addr} (h : isLst (H a) = true) : tyV K "list" (.ref a) H = True := by
  refine eq_true ?_
  cases e : H a with
  | none =>
    rw [e] at h
    cases h
  | some o =>
    rw [e] at h
    cases o with
    | lst xs => exact .inl ⟨rfl, xs, SqL.of e⟩
    | _ => cases h
end
/-! ### statements and expressions, one step each -/
section
variable {X : Cx} {σ : L2.St} {H : Hp} {Q : VK} {D : Ends} {QT : Bool → Hp → Prop} {QA : List V → Hp → Prop} {QO : Option Int → Hp → Prop}
theorem r_seq {t u : TS} : tSeq t u D σ H = t { D with nx := u D } σ H := rfl
theorem r_next : tNext D σ H = D.nx σ H := rfl
theorem r_brk : tBreak D σ H = D.bk σ H := rfl
theorem r_cont : tCont D σ H = D.ct σ H := rfl
theorem r_asg {te : TE} {g : TG} : tAsg te g D σ H = te σ H (fun x H1 => g x σ H1 D.nx) := rfl
theorem r_name {i : Nat} {v : V} {Q : L2.St → Hp → Prop} : gName i v σ H Q = Q (σ.set i (some v)) H := rfl
theorem r_ret {te : TE} : tRet te D σ H = te σ H D.rt := rfl
theorem r_retN : tRetN D σ H = D.rt .non H := rfl
theorem r_drop {te : TE} : tDrop te D σ H = te σ H (fun _ H1 => D.nx σ H1) := rfl
theorem r_ifs {c : TT} {t u : TS} : tIfS c t u D σ H = c σ H (fun b H1 => if b = true then t D σ H1 else u D σ H1) := rfl
theorem r_never : tNever D σ H = False := rfl
theorem r_var {i : Nat} : tVar i σ H Q = ∃ v, σ[i]? = some (some v) ∧ Q v H := rfl
theorem r_c {v : V} : tC v σ H Q = Q v H := rfl
theorem r_op {r : R2} {ta tb : TE} : tOp r ta tb σ H Q = ta σ H (fun x H1 => tb σ H1 fun y H2 => r x y H2 Q) := rfl
theorem r_un {r : V → Hp → VK → Prop} {ta : TE} : tUn r ta σ H Q = ta σ H (fun x H1 => r x H1 Q) := rfl
theorem r_if {c : TT} {ta tb : TE} : tIf c ta tb σ H Q = c σ H (fun b H1 => if b = true then ta σ H1 Q else tb σ H1 Q) := rfl
theorem r_tst {t : TE} : tTest t σ H QT = t σ H (fun x H' => ∃ k, x = .bl k ∧ QT k H') := rfl
theorem r_b {t : TE} : tB t σ H QT = t σ H (fun x H' => ∃ k, x = .bl k ∧ QT k H') := rfl
theorem r_not {t : TT} : tNot t σ H QT = t σ H (fun c H1 => QT (!c) H1) := rfl
theorem r_and {t u : TT} : tAnd t u σ H QT = t σ H (fun c H1 => if c = true then u σ H1 QT else QT false H1) := rfl
theorem r_or {t u : TT} : tOr t u σ H QT = t σ H (fun c H1 => if c = true then QT true H1 else u σ H1 QT) := rfl
theorem r_andV {ta tb : TE} : tAndV ta tb σ H Q = ta σ H (fun x H1 => ∃ c, x = .bl c ∧ if c = true then tb σ H1 Q else Q (.bl false) H1) := rfl
theorem r_orV {ta tb : TE} : tOrV ta tb σ H Q = ta σ H (fun x H1 => ∃ c, x = .bl c ∧ if c = true then Q (.bl true) H1 else tb σ H1 Q) := rfl
theorem r_notV {ta : TE} : tNotV ta σ H Q = ta σ H (fun x H1 => ∃ c, x = .bl c ∧ Q (.bl (!c)) H1) := rfl
theorem r_nil : tNil σ H QA = QA [] H := rfl
theorem r_cons {ta : TE} {tr : TA} : tCons ta tr σ H QA = ta σ H (fun x H1 => tr σ H1 fun xs H2 => QA (x :: xs) H2) := rfl
theorem r_tup {t : TA} : tTup t σ H Q = t σ H (fun xs H1 => xs.length ≤ sizeLine ∧ ∀ p, H1 p = none → Q (.ref p) (upd H1 p (.tup xs))) := (rfl)
theorem r_lst {t : TA} : tLst t σ H Q = t σ H (fun xs H1 => xs.length ≤ sizeLine ∧ ∀ p, H1 p = none → Q (.ref p) (upd H1 p (.lst xs))) := (rfl)
theorem r_cb {r : List V → Hp → VK → Prop} {t : TA} : tCB r t σ H Q = t σ H (fun vs H1 => r vs H1 Q) := rfl
theorem r_call {sp : Sp} {dvs : List V} {E : XK} {t : TA} : tCall sp dvs E t σ H Q = t σ H (fun vs H1 => sp (vs ++ dvs) H1 Q E) := rfl
theorem r_bm {K : PySem.W.Frag} {T : String} {r : V → List V → Hp → VK → Prop} {to : TE} {t : TA} : tBM K T r to t σ H Q = to σ H (fun x H1 => tyV K T x H1 ∧ t σ H1 fun xs H2 => r x xs H2 Q) := rfl
theorem r_bm0 {K : PySem.W.Frag} {T : String} {r : V → List V → Hp → VK → Prop} {to : TE} : tBM0 K T r to σ H Q = to σ H (fun x H1 => tyV K T x H1 ∧ r x [] H1 Q) := rfl
theorem r_sl {r : V → Option Int → Option Int → Hp → VK → Prop} {te : TE} {tl th : TO} : L2.tSl r te tl th σ H Q = te σ H (fun x H1 => tl σ H1 fun l H2 => th σ H2 fun u H3 => r x l u H3 Q) := rfl
theorem r_nopart : tNoPart σ H QO = QO none H := rfl
theorem r_part {te : TE} : tPart te σ H QO = te σ H (fun x H1 => ∃ i, x = .int i ∧ QO (some i) H1) := rfl
theorem r_rev {te : TE} : tRevD te σ H Q = te σ H (fun x H1 => ∃ a xs, x = .ref a ∧ H1 a = some (.lst xs) ∧ ∀ p, H1 p = none → Q (.ref p) (upd H1 p (.lst xs.reverse))) := rfl
theorem r_gtup {K : PySem.W.Frag} {n : Nat} {t : TGs} {v : V} {Q : L2.St → Hp → Prop} : gTup K n t v σ H Q = ∃ a xs, v = .ref a ∧ SqT K H a xs ∧ xs.length = n ∧ t xs σ H Q := rfl
theorem r_gtupD {n : Nat} {t : TGs} {v : V} {Q : L2.St → Hp → Prop} : gTupD n t v σ H Q = ∃ a xs, v = .ref a ∧ H a = some (.tup xs) ∧ xs.length = n ∧ t xs σ H Q := rfl
theorem r_gnil {vs : List V} {Q : L2.St → Hp → Prop} : gNil vs σ H Q = (vs = [] ∧ Q σ H) := rfl
theorem r_gcons {t : TG} {u : TGs} {vs : List V} {Q : L2.St → Hp → Prop} : gCons t u vs σ H Q = ∃ v r, vs = v :: r ∧ t v σ H (fun σ' H' => u r σ' H' Q) := rfl
theorem r_gsub {to ti : TE} {t : TSet} {v : V} {Q : L2.St → Hp → Prop} : gSub to ti t v σ H Q = to σ H (fun o H1 => ti σ H1 fun i H2 => t o i v H2 fun H3 => Q σ H3) := rfl
theorem r_par {i j : Nat} {ta : TA} : tPar i j ta D σ H = ta σ H (fun vs H1 => ∃ v w, vs = [v, w] ∧ D.nx ((σ.set i (some v)).set j (some w)) H1) := rfl
theorem r_aug {i : Nat} {te : TE} {ti : TIp} : tAug i te ti D σ H = ∃ x, σ[i]? = some (some x) ∧ te σ H (fun y H1 => ti x y H1 fun z H2 => D.nx (σ.set i (some z)) H2) := rfl
theorem r_chain {r r' : R2} {ta tb tc : TE} : tChain r r' ta tb tc σ H Q = ta σ H (fun x H1 => tb σ H1 fun y H2 => r x y H2 fun z H3 => ∃ k, z = .bl k ∧ (if k = true then tc σ H3 fun w' H4 => r' y w' H4 Q else Q (.bl false) H3)) := rfl
theorem r_I0 {g : Int → Int → V} {x y : V} : rI0 g x y H Q = ∃ i j, x = .int i ∧ y = .int j ∧ Q (g i j) H := rfl
theorem r_I {C : Int → Int → Prop} {g : Int → Int → V} {x y : V} : rI C g x y H Q = ∃ i j, x = .int i ∧ y = .int j ∧ C i j ∧ Q (g i j) H := rfl
theorem r_ipI {f : Int → Int → Int} {x y : V} : ipI f x y H Q = ∃ i j, x = .int i ∧ y = .int j ∧ Q (.int (f i j)) H := rfl
theorem r_U {g : Int → V} {x : V} : rU g x H Q = ∃ i, x = .int i ∧ Q (g i) H := rfl
theorem r_ixd {x y : V} : rIxd x y H Q = ∃ p i xs v, x = .ref p ∧ y = .int i ∧ sq (H p) = some xs ∧ atI xs i = some v ∧ Q v H := rfl
theorem r_lend {vs : List V} : rLend vs H Q = ∃ p xs, vs = [.ref p] ∧ sq (H p) = some xs ∧ Q (.int xs.length) H := rfl
theorem r_tupd {vs : List V} : rTupd vs H Q = ∃ p xs, vs = [.ref p] ∧ H p = some (.lst xs) ∧ ∀ l, H l = none → Q (.ref l) (upd H l (.tup xs)) := rfl
theorem r_listd {vs : List V} : rListd vs H Q = ∃ p xs, vs = [.ref p] ∧ sq (H p) = some xs ∧ ∀ l, H l = none → Q (.ref l) (upd H l (.lst xs)) := rfl
theorem r_sld {x : V} {lo hi : Option Int} : rSld x lo hi H Q = ∃ a xs, x = .ref a ∧ H a = some (.lst xs) ∧ ∀ p, H p = none → Q (.ref p) (upd H p (.lst (cutV xs lo hi))) := rfl
theorem r_app {x : V} {vs : List V} : rAppend x vs H Q = ∃ l xs y, x = .ref l ∧ vs = [y] ∧ H l = some (.lst xs) ∧ xs.length < sizeLine ∧ Q .non (upd H l (.lst (xs ++ [y]))) := rfl
theorem r_ext {x : V} {vs : List V} : rExtend x vs H Q = ∃ l b xs zs, x = .ref l ∧ vs = [.ref b] ∧ H l = some (.lst xs) ∧ H b = some (.lst zs) ∧ xs.length + zs.length ≤ sizeLine ∧ Q .non (upd H l (.lst (xs ++ zs))) := rfl
theorem r_reverse {x : V} {vs : List V} : rReverse x vs H Q = ∃ l xs, x = .ref l ∧ vs = [] ∧ H l = some (.lst xs) ∧ Q .non (upd H l (.lst xs.reverse)) := rfl
theorem r_setl {o i v : V} {Q : Hp → Prop} : rSetL o i v H Q = ∃ p xs k j, o = .ref p ∧ i = .int k ∧ H p = some (.lst xs) ∧ ixN xs.length k = some j ∧ Q (upd H p (.lst (xs.set j v))) := rfl
theorem r_cat {x y : V} : rCat x y H Q = ∃ l b xs zs, x = .ref l ∧ y = .ref b ∧ H l = some (.lst xs) ∧ H b = some (.lst zs) ∧ xs.length + zs.length ≤ sizeLine ∧ ∀ p, H p = none → Q (.ref p) (upd H p (.lst (xs ++ zs))) := rfl
theorem r_int1 {xs : List V} : (fun xs H Q => (∃ i, xs = [V.int i] ∧ Q (V.int i) H) ∨ ∃ k, xs = [V.bl k] ∧ Q (V.int (if k = true then 1 else 0)) H : List V → Hp → VK → Prop) xs H Q = ((∃ i, xs = [V.int i] ∧ Q (V.int i) H) ∨ ∃ k, xs = [V.bl k] ∧ Q (V.int (if k = true then 1 else 0)) H) := rfl
theorem r_eqS {x y : V} : rEq x y H Q = (scal x y = true ∧ Q (.bl (decide (x = y))) H) := rfl
theorem r_neS {x y : V} : rNe x y H Q = (scal x y = true ∧ Q (.bl (!decide (x = y))) H) := rfl
theorem scal_ii {i j : Int} : scal (.int i) (.int j) = true := rfl
theorem scal_bb {i j : Bool} : scal (.bl i) (.bl j) = true := rfl
theorem scal_ss {i j : Str} : scal (.str i) (.str j) = true := rfl
theorem at0 {x : V} {xs : List V} : atI (x :: xs) 0 = some x := by
  unfold atI ixN
  rw [if_pos (by decide), if_pos (by simp)]
  rfl
theorem at1 {x y : V} {xs : List V} : atI (x :: y :: xs) 1 = some y := by
  unfold atI ixN
  rw [if_pos (by decide), if_pos (by rw [List.length_cons, List.length_cons]; omega)]
  rfl
theorem at2 {x y z : V} {xs : List V} : atI (x :: y :: z :: xs) 2 = some z := by
  unfold atI ixN
  rw [if_pos (by decide), if_pos (by rw [List.length_cons, List.length_cons, List.length_cons]; omega)]
  rfl
theorem atn {xs : List V} {i : Nat} {v : V} (h : xs[i]? = some v) : atI xs (i : Int) = some v := by
  have hi : i < xs.length := (List.getElem?_eq_some_iff.mp h).1
  unfold atI ixN
  rw [if_pos (Int.natCast_nonneg i), if_pos (by omega)]
  simpa using h
theorem ixn {n i : Nat} (h : i < n) : ixN n (i : Int) = some i := by
  unfold ixN
  rw [if_pos (Int.natCast_nonneg i), if_pos (by omega)]
  simp
theorem ix0 {n : Nat} : ixN (n + 1) 0 = some 0 := by
  unfold ixN
  rw [if_pos (by decide), if_pos (by omega)]
  rfl
theorem ix1 {n : Nat} : ixN (n + 1 + 1) 1 = some 1 := by
  unfold ixN
  rw [if_pos (by decide), if_pos (by omega)]
  rfl
theorem ix2 {n : Nat} : ixN (n + 1 + 1 + 1) 2 = some 2 := by
  unfold ixN
  rw [if_pos (by decide), if_pos (by omega)]
  rfl
theorem cm_l {i j : Int} (h : -(2 ^ 64) < i ∧ i < 2 ^ 64) : CMul i j = True := eq_true (.inl h)
theorem cm_r {i j : Int} (h : -(2 ^ 64) < j ∧ j < 2 ^ 64) : CMul i j = True := eq_true (.inr h)
theorem cm_mod {t j : Int} : CMul (t % 2147483647) j = True := eq_true (.inl ⟨by omega, by omega⟩)
theorem cdw {i j : Int} (h : 0 < j ∧ j < 2 ^ 200) : CDivW i j = True := eq_true (wide_div (b := 200) h.1 (by omega) (by decide) (by decide))
theorem cdw1009 {i : Int} : CDivW i 1009 = True := cdw (by decide)
theorem cdw2003 {i : Int} : CDivW i 2003 = True := cdw (by decide)
theorem cdw7 {i : Int} : CDivW i 7 = True := cdw (by decide)
theorem cdw64 {i : Int} : CDivW i 64 = True := cdw (by decide)
theorem cdw2 {i : Int} : CDivW i 2 = True := cdw (by decide)
theorem cm104729 {i : Int} : CMul 104729 i = True := cm_l (by decide)
theorem cm2 {i : Int} : CMul 2 i = True := cm_l (by decide)
theorem cm3 {i : Int} : CMul 3 i = True := cm_l (by decide)
theorem sz_lit {xs : List V} (h : xs.length ≤ 1000) : (xs.length ≤ sizeLine) = True := eq_true (Nat.le_trans h (by decide))
/-- while by a word of the slots and the heap, a test whose answer is known -/
theorem while_d {c : TT} {tb : TS} (Pv : L2.St → Hp → Prop) (m : L2.St → Hp → Nat) (h0 : Pv σ H)
    (hs : ∀ σ H, Pv σ H → ∃ b, (∀ Q : Bool → Hp → Prop, Q b H → c σ H Q) ∧ (b = true → tb { D with nx := fun σ' H' => Pv σ' H' ∧ m σ' H' < m σ H, ct := fun σ' H' => Pv σ' H' ∧ m σ' H' < m σ H, bk := D.nx } σ H) ∧ (b = false → D.nx σ H)) : tWhile c tb D σ H := by
  refine ⟨fun k σ H => k = m σ H ∧ Pv σ H, ⟨_, rfl, h0⟩, ?_⟩
  rintro k σ H ⟨rfl, p⟩
  obtain ⟨b, hc, h1, h2⟩ := hs σ H p
  refine hc _ ?_
  cases b with
  | true => exact ⟨_, fun σ' H' ⟨p', l⟩ => ⟨_, l, rfl, p'⟩, h1 rfl⟩
  | false => exact h2 rfl
end
/-! ### heaps -/
theorem upd_at {H : Hp} {a b : Addr} {o : HO} : L2.upd H a o b = if b = a then some o else H b := rfl
theorem une {a b : Addr} (h : b ≠ a) : ∀ (H : Hp) (o : HO), L2.upd H a o b = H b := fun H o => upd_ne h
theorem ne_new {H : Hp} {a p : Addr} {o : HO} (h : H a = some o) (hp : H p = none) : a ≠ p := ne_of_none h hp
theorem new_ne {H : Hp} {a p : Addr} {o : HO} (h : H a = some o) (hp : H p = none) : p ≠ a := (ne_of_none h hp).symm
theorem Same.new' {H H1 : Hp} {p : Addr} {o : HO} (h : Same H H1) (hp : H1 p = none) : Same H (L2.upd H1 p o) := fun b u e => by
  have e1 := h b u e
  rw [upd_ne (ne_of_none e1 hp)]
  exact e1
/-! ### loops -/
/-- what a loop over J asks -/
def LoopR (J : It) (g : TG) (tb : TS) (D : Ends) (σ : L2.St) (H1 : Hp) : Prop := ∃ W : Nat → Nat → L2.St → Hp → Prop, (∃ m, W 0 m σ H1) ∧ ∀ i m σ H, W i m σ H →
  (J.stop i H ∧ D.nx σ H) ∨ (J.go i H ∧ ∃ N : L2.St → Hp → Prop, (∀ σ' H', N σ' H' → ∃ m', m' < m ∧ W (i + 1) m' σ' H') ∧ ∀ x H', J.yld i H x H' → g x σ H' fun σ2 H2 => tb { D with nx := N, ct := N, bk := D.nx } σ2 H2)
section
variable {K : PySem.W.Frag} {σ : L2.St} {H : Hp} {D : Ends} {g : TG} {tb : TS}
theorem r_for1 {ta : TA} : tFor (iRng1 ta) g tb D σ H = ta σ H (fun vs H1 => ∃ j : Int, vs = [.int j] ∧ -(2 ^ 62) ≤ j ∧ j < 2 ^ 62 ∧ LoopR (Itr 0 j.toNat) g tb D σ H1) := rfl
theorem r_forL {tl : TE} : tFor (iList K tl) g tb D σ H = tl σ H (fun x H1 => ∃ a, x = .ref a ∧ (∃ xs, SqL K H1 a xs) ∧ LoopR (Itl K a) g tb D σ H1) := rfl
theorem r_forT {tl : TE} : tFor (iTup K tl) g tb D σ H = tl σ H (fun x H1 => ∃ a, x = .ref a ∧ (∃ xs, SqT K H1 a xs) ∧ LoopR (Itt K a) g tb D σ H1) := rfl
theorem lp_rng {n : Nat} (Pv : Nat → L2.St → Hp → Prop) (h0 : Pv 0 σ H)
    (hs : ∀ (i : Nat) σ H, i < n → Pv i σ H → g (.int (i : Int)) σ H fun σ2 H2 => tb { D with nx := Pv (i + 1), ct := Pv (i + 1), bk := D.nx } σ2 H2) (hd : ∀ σ H, Pv n σ H → D.nx σ H) : LoopR (Itr 0 n) g tb D σ H :=
  for_range Pv h0 (fun i σ H hi p => by
    have q := hs i σ H hi p
    rw [Int.zero_add]
    exact q) hd
theorem lp_list {a : Addr} {xs : List V} (Pv : Nat → L2.St → Hp → Prop) (h0 : Pv 0 σ H) (hl : ∀ i σ H, i ≤ xs.length → Pv i σ H → SqL K H a xs)
    (hs : ∀ i x σ H, xs[i]? = some x → Pv i σ H → g x σ H fun σ2 H2 => tb { D with nx := Pv (i + 1), ct := Pv (i + 1), bk := D.nx } σ2 H2) (hd : ∀ σ H, Pv xs.length σ H → D.nx σ H) : LoopR (Itl K a) g tb D σ H := for_list Pv h0 hl hs hd
theorem lp_tup {a : Addr} {xs : List V} (Pv : Nat → L2.St → Hp → Prop) (h0 : Pv 0 σ H) (hl : ∀ i σ H, i ≤ xs.length → Pv i σ H → SqT K H a xs)
    (hs : ∀ i x σ H, xs[i]? = some x → Pv i σ H → g x σ H fun σ2 H2 => tb { D with nx := Pv (i + 1), ct := Pv (i + 1), bk := D.nx } σ2 H2) (hd : ∀ σ H, Pv xs.length σ H → D.nx σ H) : LoopR (Itt K a) g tb D σ H := for_tup Pv h0 hl hs hd
/-- an empty list, an empty tuple -/
theorem lp_nil {a : Addr} (hl : SqL K H a []) (hd : D.nx σ H) : LoopR (Itl K a) g tb D σ H := for_list (xs := []) (fun i s h => s = σ ∧ h = H) ⟨rfl, rfl⟩ (fun i s h _ ⟨_, e⟩ => by rw [e]; exact hl) (fun i x s h e => by cases e) fun s h ⟨e1, e2⟩ => by rw [e1, e2]; exact hd
theorem lp_nilT {a : Addr} (hl : SqT K H a []) (hd : D.nx σ H) : LoopR (Itt K a) g tb D σ H := for_tup (xs := []) (fun i s h => s = σ ∧ h = H) ⟨rfl, rfl⟩ (fun i s h _ ⟨_, e⟩ => by rw [e]; exact hl) (fun i x s h e => by cases e) fun s h ⟨e1, e2⟩ => by rw [e1, e2]; exact hd
/-- a list comprehension over J: what is kept from turn to turn -/
def CompR (J : It) (g : TG) (tt : TT) (te : TE) (vs : List Nat) (σ : L2.St) (Q : VK) (D : Addr) (H0 : Hp) : Prop := ∃ W : Nat → Nat → Hp → Prop, (∃ m, W 0 m H0) ∧ ∀ i m H, W i m H →
  (J.stop i H ∧ Q (.ref D) H) ∨ (J.go i H ∧ ∃ Nx : Hp → Prop, (∀ H', Nx H' → ∃ m', m' < m ∧ W (i + 1) m' H') ∧ ∀ x H', J.yld i H x H' → g x (wipe σ vs) H' fun σ2 H2 => wipe σ2 vs = wipe σ vs ∧ tt σ2 H2 fun b H3 =>
    if b = true then te σ2 H3 fun y H4 => ∃ acc, H4 D = some (.lst acc) ∧ acc.length < sizeLine ∧ Nx (upd H4 D (.lst (acc ++ [y]))) else Nx H3)
theorem r_lcL {tl : TE} {tt : TT} {te : TE} {vs : List Nat} {Q : VK} : tLc (iList K tl) g tt te vs σ H Q = tl σ H (fun x H1 => ∃ a, x = .ref a ∧ (∃ xs, SqL K H1 a xs) ∧ ∀ D, H1 D = none → CompR (Itl K a) g tt te vs σ Q D (upd H1 D (.lst []))) := rfl
theorem r_lc1 {ta : TA} {tt : TT} {te : TE} {vs : List Nat} {Q : VK} : tLc (iRng1 ta) g tt te vs σ H Q = ta σ H (fun us H1 => ∃ j : Int, us = [.int j] ∧ -(2 ^ 62) ≤ j ∧ j < 2 ^ 62 ∧ ∀ D, H1 D = none → CompR (Itr 0 j.toNat) g tt te vs σ Q D (upd H1 D (.lst []))) := rfl
theorem cp_list {a : Addr} {xs : List V} {tt : TT} {te : TE} {vs : List Nat} {A : Addr} {H1 : Hp} {Q : VK} (Pv : Nat → Hp → Prop) (h0 : Pv 0 (upd H1 A (.lst []))) (hl : ∀ i H, i ≤ xs.length → Pv i H → SqL K H a xs)
    (hs : ∀ i x H, xs[i]? = some x → Pv i H → g x (wipe σ vs) H fun σ2 H2 => wipe σ2 vs = wipe σ vs ∧ tt σ2 H2 fun b H3 =>
      if b = true then te σ2 H3 fun y H4 => ∃ acc, H4 A = some (.lst acc) ∧ acc.length < sizeLine ∧ Pv (i + 1) (upd H4 A (.lst (acc ++ [y]))) else Pv (i + 1) H3) (hd : ∀ H, Pv xs.length H → Q (.ref A) H) :
    CompR (Itl K a) g tt te vs σ Q A (upd H1 A (.lst [])) := lc_list Pv h0 hl hs hd
theorem r_yes {QT : Bool → Hp → Prop} : tYes σ H QT = QT true H := rfl
end
theorem wipe_0 {σ : L2.St} : wipe σ [] = σ := rfl
theorem wipe_1 {σ : L2.St} {v : Nat} {vs : List Nat} : wipe σ (v :: vs) = (wipe σ vs).set v none := rfl
theorem cut_init (xs : List V) (x : V) : cutV (xs ++ [x]) none (some (-1)) = xs := by
  have e : HT.sIx (xs ++ [x]).length (xs ++ [x]).length (some (-1)) = xs.length := by
    simp [HT.sIx]
    omega
  unfold cutV
  rw [e, HT.sIx_none, List.drop_zero, Nat.sub_zero, List.take_left']
  rfl
theorem cut_last (xs : List V) (x : V) : cutV (xs ++ [x]) (some (-1)) none = [x] := by
  have e : HT.sIx (xs ++ [x]).length 0 (some (-1)) = xs.length := by
    simp [HT.sIx]
    omega
  unfold cutV
  rw [e, HT.sIx_none, List.drop_left', List.take_of_length_le]
  · rw [List.length_append]
    simp
  · rfl
theorem tyl {K : PySem.W.Frag} {H : Hp} {a : Addr} {xs : List V} (h : H a = some (.lst xs)) : tyV K "list" (.ref a) H := of_eq_true (tyV_lst (by rw [h]; rfl))
theorem szl {n : Nat} (h : n ≤ 1000) : n ≤ sizeLine := Nat.le_trans h (by decide)
theorem szlt {n : Nat} (h : n ≤ 1000) : n < sizeLine := Nat.lt_of_le_of_lt h (by decide)
/-- a loop over a written tuple, turn by turn -/
def UnrT (T : Addr) (all : List V) (g : TG) (tb : TS) (D : Ends) : List V → L2.St → Hp → Prop
  | [], σ, H => D.nx σ H
  | x :: xs, σ, H => g x σ H fun σ2 H2 => tb { D with nx := fun σ' H' => H' T = some (.tup all) ∧ UnrT T all g tb D xs σ' H', ct := fun σ' H' => H' T = some (.tup all) ∧ UnrT T all g tb D xs σ' H', bk := D.nx } σ2 H2
theorem unr_nil {T : Addr} {all : List V} {g : TG} {tb : TS} {D : Ends} {σ : L2.St} {H : Hp} : UnrT T all g tb D [] σ H = D.nx σ H := rfl
theorem unr_cons {T : Addr} {all : List V} {g : TG} {tb : TS} {D : Ends} {x : V} {xs : List V} {σ : L2.St} {H : Hp} : UnrT T all g tb D (x :: xs) σ H = g x σ H fun σ2 H2 => tb { D with nx := fun σ' H' => H' T = some (.tup all) ∧ UnrT T all g tb D xs σ' H', ct := fun σ' H' => H' T = some (.tup all) ∧ UnrT T all g tb D xs σ' H', bk := D.nx } σ2 H2 := rfl
theorem lp_unrT {K : PySem.W.Frag} {T : Addr} {all : List V} {g : TG} {tb : TS} {D : Ends} {σ : L2.St} {H : Hp} (h : H T = some (.tup all)) (u : UnrT T all g tb D all σ H) : LoopR (Itt K T) g tb D σ H := by
  refine lp_tup (xs := all) (fun i σ' H' => H' T = some (.tup all) ∧ UnrT T all g tb D (all.drop i) σ' H') ⟨h, u⟩ (fun i s h' _ q => SqT.of q.1) (fun i x s h' e q => ?_) fun s h' q => ?_
  · have e1 : all.drop i = x :: all.drop (i + 1) := by
      obtain ⟨hi, e2⟩ := List.getElem?_eq_some_iff.mp e
      rw [List.drop_eq_getElem_cons hi, e2]
    obtain ⟨_, q2⟩ := q
    rw [e1] at q2
    exact q2
  · obtain ⟨_, q2⟩ := q
    rw [List.drop_length] at q2
    exact q2
theorem Paired.snoc' {α β : Type} {F : α → β → Prop} : ∀ {l1 : List α} {l2 : List β} {a : α} {b : β}, Paired F l1 l2 → F a b → Paired F (l1 ++ [a]) (l2 ++ [b])
  | _, _, _, _, .nil, h => .cons h .nil
  | _, _, _, _, .cons r t, h => .cons r (Paired.snoc' t h)
theorem Paired.map' {α β : Type} {F G : α → β → Prop} {l1 : List α} {l2 : List β} (p : Paired F l1 l2) (h : ∀ a b, F a b → G a b) : Paired G l1 l2 := Paired.mapP p h
theorem cut_tail (x : V) (xs : List V) : cutV (x :: xs) (some 1) none = xs := by
  have e : HT.sIx (x :: xs).length 0 (some 1) = 1 := by
    simp [HT.sIx]
  unfold cutV
  rw [e, HT.sIx_none]
  simp
/-- for x in a name that holds a list or a tuple -/
def iSeqV (K : PySem.W.Frag) (i : Nat) : TI := fun σ H R => ∃ a, σ[i]? = some (some (.ref a)) ∧ (((∃ xs, H a = some (.lst xs)) ∧ R (Itl K a) H) ∨ ((∃ xs, H a = some (.tup xs)) ∧ R (Itt K a) H))
theorem pi_seqV {X : Cx} (i : Nat) {x : Str} {tg : Expr} {pos : Pos} (hN : X.N[i]? = some x := by rfl) (hv : Vis X.env.scope x := by first | exact Or.inl rfl | exact Or.inr (Or.inl rfl) | exact Or.inr (Or.inr rfl)) (hd : (x == ("__debug__" : Str)) = false := by decide)
    (hcd : (x == ("__classdict__" : Str)) = false := by decide) : PI X tg (.Name x pos) (iSeqV X.K i) := ⟨fun pins s σ H R I h => by
  obtain ⟨a, h0, ⟨⟨xs, e⟩, q⟩ | ⟨⟨xs, e⟩, q⟩⟩ := h
  · exact (pi_list (pe_var hN hv hd hcd)).run pins s σ H R I ⟨_, h0, a, rfl, ⟨_, SqL.of e⟩, q⟩
  · exact (pi_tup (pe_var hN hv hd hcd)).run pins s σ H R I ⟨_, h0, a, rfl, ⟨_, SqT.of e⟩, q⟩⟩
theorem r_forS {K : PySem.W.Frag} {i : Nat} {g : TG} {tb : TS} {D : Ends} {σ : L2.St} {H : Hp} : tFor (iSeqV K i) g tb D σ H = ∃ a, σ[i]? = some (some (.ref a)) ∧ (((∃ xs, H a = some (.lst xs)) ∧ LoopR (Itl K a) g tb D σ H) ∨ ((∃ xs, H a = some (.tup xs)) ∧ LoopR (Itt K a) g tb D σ H)) := rfl
theorem lp_seq {K : PySem.W.Frag} {g : TG} {tb : TS} {D : Ends} {σ : L2.St} {H : Hp} {a : Addr} {xs : List V} (h : sq (H a) = some xs) (Pv : Nat → L2.St → Hp → Prop) (h0 : Pv 0 σ H) (hl : ∀ i σ H', Pv i σ H' → H' a = H a)
    (hs : ∀ i x σ H, xs[i]? = some x → Pv i σ H → g x σ H fun σ2 H2 => tb { D with nx := Pv (i + 1), ct := Pv (i + 1), bk := D.nx } σ2 H2) (hd : ∀ σ H, Pv xs.length σ H → D.nx σ H) :
    ((∃ xs, H a = some (.lst xs)) ∧ LoopR (Itl K a) g tb D σ H) ∨ ((∃ xs, H a = some (.tup xs)) ∧ LoopR (Itt K a) g tb D σ H) := by
  rcases sq_cases h with e | e
  · exact .inl ⟨⟨_, e⟩, lp_list Pv h0 (fun i s h' _ q => SqL.of (by rw [hl i s h' q, e])) hs hd⟩
  · exact .inr ⟨⟨_, e⟩, lp_tup Pv h0 (fun i s h' _ q => SqT.of (by rw [hl i s h' q, e])) hs hd⟩
theorem Paired.at' {α β : Type} {F : α → β → Prop} : ∀ {l1 : List α} {l2 : List β} {i : Nat}, Paired F l1 l2 → (h1 : i < l1.length) → (h2 : i < l2.length) → F l1[i] l2[i]
  | _, _, 0, .cons r _, _, _ => r
  | _, _, i + 1, .cons _ t, h1, h2 => Paired.at' (i := i) t (by simpa using h1) (by simpa using h2)

/-! ### isinstance, in a form that simp can reckon -/
structure ClsI (K : PySem.W.Frag) (C : Addr) : Prop where
  cl : Cls K C
  ha : PySem.W.findIn K (.ref C) "__class__" = some (some (.builtin "object.__class__"))
  hn : PySem.W.specialIn K (.builtin "object.__class__") "__get__" = some (some (.builtin "getset_descriptor.__get__"))
  htk : PySem.W.takesIn K (.builtin "object.__class__") = some true
  hm : PySem.W.mroIn K C (.type "object") = some true
/-- what stands there, by its class (of own classes C alone) -/
def tyH (C : Addr) : Option HO → Option Value
  | some (.lst _) => some (.type "list")
  | some (.tup _) => some (.type "tuple")
  | some (.dK _) => some (.type "dict")
  | some (.ins D _ _) => if D = C then some (.ref C) else none
  | _ => none
def tyD (C : Addr) (H : Hp) : V → Option Value
  | .non => some (.type "NoneType")
  | .bl _ => some (.type "bool")
  | .int _ => some (.type "int")
  | .str _ => some (.type "str")
  | .ref a => tyH C (H a)
  | _ => none
theorem tyD_ok {K : PySem.W.Frag} {C : Addr} {H : Hp} {x : V} {t : Value} (c : ClsI K C) (h : tyD C H x = some t) : TyX K H x t := by
  cases x with
  | non => cases h; exact .base .non
  | bl b => cases h; exact .base (.bl b)
  | int i => cases h; exact .base (.int i)
  | str s => cases h; exact .base (.str s)
  | ref a =>
    have h2 : tyH C (H a) = some t := h
    cases e : H a with
    | none =>
      rw [e] at h2
      cases h2
    | some o =>
      rw [e] at h2
      cases o with
      | lst xs => cases h2; exact .base (.lst e)
      | tup xs => cases h2; exact .base (.tup e)
      | dK kvs => cases h2; exact .base (.dK e)
      | ins D dx fs =>
        have h3 : (if D = C then some (Value.ref C) else none) = some t := h2
        by_cases q : D = C
        · rw [if_pos q] at h3
          cases h3
          subst q
          exact .base (.ins e c.cl c.ha c.hn c.htk c.hm)
        · rw [if_neg q] at h3
          cases h3
      | _ => cases h2
  | _ => cases h
def clsD : V → Option Value
  | .ty n => some (.type n)
  | .ref C => some (.ref C)
  | _ => none
theorem clsD_ok {c : V} {u : Value} (h : clsD c = some u) : ClsV c u := by
  cases c with
  | ty n => cases h; exact .ty n
  | ref C => cases h; exact .own C
  | _ => cases h
def rIsD (K : PySem.W.Frag) (C : Addr) : List V → Hp → VK → Prop := fun vs H Q => ∃ x c t u b, vs = [x, c] ∧ clsD c = some u ∧ tyD C H x = some t ∧ PySem.W.kitOne K t u = some b ∧ Q (.bl b) H
theorem call_is_d {X : Cx} {C : Addr} (c : ClsI X.K C) : CallR X (.builtin "isinstance") (rIsD X.K C) := CallR.imp' (call_isi (X := X)) fun vs H Q ⟨x, d, t, u, b, e, h1, h2, h3, q⟩ => ⟨x, d, t, u, b, e, clsD_ok h1, tyD_ok c h2, h3, q⟩
/-- isinstance(x, (list, tuple)) -/
def rIsLT (K : PySem.W.Frag) (C : Addr) : List V → Hp → VK → Prop := fun vs H Q => ∃ x tp t b, vs = [x, .ref tp] ∧ H tp = some (.tup [.ty "list", .ty "tuple"]) ∧ tyD C H x = some t ∧ PySem.W.kitAny K t [.type "list", .type "tuple"] = some b ∧ Q (.bl b) H
theorem call_is_lt {X : Cx} {C : Addr} (c : ClsI X.K C) : CallR X (.builtin "isinstance") (rIsLT X.K C) := CallR.imp' (call_isiT (X := X)) fun vs H Q ⟨x, tp, t, b, e, h1, h2, h3, q⟩ =>
  ⟨x, tp, _, t, _, b, e, h1, .cons (.ty "list") (.cons (.ty "tuple") .nil), tyD_ok c h2, h3, q⟩
section
variable {K : PySem.W.Frag} {C : Addr} {H : Hp} {Q : VK} {σ : L2.St} {D : Ends}
theorem r_isd {vs : List V} : rIsD K C vs H Q = ∃ x c t u b, vs = [x, c] ∧ clsD c = some u ∧ tyD C H x = some t ∧ PySem.W.kitOne K t u = some b ∧ Q (.bl b) H := rfl
theorem r_islt {vs : List V} : rIsLT K C vs H Q = ∃ x tp t b, vs = [x, .ref tp] ∧ H tp = some (.tup [.ty "list", .ty "tuple"]) ∧ tyD C H x = some t ∧ PySem.W.kitAny K t [.type "list", .type "tuple"] = some b ∧ Q (.bl b) H := rfl
theorem cD_ty {n : String} : clsD (.ty n) = some (.type n) := rfl
theorem cD_ref {a : Addr} : clsD (.ref a) = some (.ref a) := rfl
theorem tD_non : tyD C H .non = some (.type "NoneType") := rfl
theorem tD_bl {b : Bool} : tyD C H (.bl b) = some (.type "bool") := rfl
theorem tD_int {i : Int} : tyD C H (.int i) = some (.type "int") := rfl
theorem tD_str {s : Str} : tyD C H (.str s) = some (.type "str") := rfl
theorem tD_ref {a : Addr} : tyD C H (.ref a) = tyH C (H a) := rfl
theorem tH_lst {xs : List V} : tyH C (some (.lst xs)) = some (.type "list") := rfl
theorem tH_tup {xs : List V} : tyH C (some (.tup xs)) = some (.type "tuple") := rfl
theorem tH_dK {kvs : List (Key × V)} : tyH C (some (.dK kvs)) = some (.type "dict") := rfl
theorem tH_ins {dx : Addr} {fs : List (Str × V)} : tyH C (some (.ins C dx fs)) = some (.ref C) := if_pos rfl
theorem ki_self {t : Value} : PySem.W.kitOne K t t = some true := by
  unfold PySem.W.kitOne
  rw [if_pos (by simp)]
theorem ki_int_bool : PySem.W.kitOne K (.type "int") (.type "bool") = some false := kit_ty (by decide +kernel)
theorem ki_non_int : PySem.W.kitOne K (.type "NoneType") (.type "int") = some false := kit_ty (by decide +kernel)
theorem ki_str_int : PySem.W.kitOne K (.type "str") (.type "int") = some false := kit_ty (by decide +kernel)
theorem ki_lt_lst : PySem.W.kitAny K (.type "list") [.type "list", .type "tuple"] = some true := by
  unfold PySem.W.kitAny
  rw [ki_self]
theorem ki_lt_tup : PySem.W.kitAny K (.type "tuple") [.type "list", .type "tuple"] = some true := by
  have e : PySem.W.kitOne K (.type "tuple") (.type "list") = some false := kit_ty (by decide +kernel)
  unfold PySem.W.kitAny
  rw [e]
  unfold PySem.W.kitAny
  rw [ki_self]
theorem r_fld {ta : TE} {f : Str} : tFld K ta f σ H Q = ta σ H (fun x H1 => ∃ a C dx fs v, x = .ref a ∧ H1 a = some (.ins C dx fs) ∧ Cls K C ∧ NoAttr K C f ∧ fs.lookup f = some v ∧ Q v H1) := rfl
theorem r_sfld {ta tv : TE} {f : Str} : sFld K ta tv f D σ H = tv σ H (fun y H1 => ta σ H1 fun x H2 => ∃ a C dx fs, x = .ref a ∧ H2 a = some (.ins C dx fs) ∧ Cls K C ∧ NoAttr K C f ∧ fs.length < 1000 ∧ D.nx σ (upd H2 a (.ins C dx (putF f y fs)))) := rfl
end
theorem cx_K {CX : CXT} {P : Program} {w : World} {K : PySem.W.Frag} {mg : Str → Option Value} {base : Heap} {N : List Str} {q : Str} {sc : Scope} {f : Addr} {cd : Value} {A : Around} {outer : List Env} {s : Shared} {H : Hp} {E : XK} : (cxOf CX P w K mg base N q sc f cd A outer s H E).K = K := rfl
/-! ### own exceptions with one field -/
def spXInit (C : Addr) (f : Str) : Sp := fun vs H Q _ => ∃ (a : Addr) (v : V), vs = [.ref a, v] ∧ H a = some (exo a C none) ∧ ∀ d, H d = none → d ≠ a → Q .non (upd (upd H d (exd d [(f, v)])) a (exo a C (some d)))
structure Exn (P : Program) (w : World) (K : PySem.W.Frag) (mg : Str → Option Value) (base : Heap) (x : Str) (C : Addr) (f : Str) : Prop where
  ox : OexC K C
  gl : mg x = some (.ref C)
  ex : ∃ fI fd, PySem.W.findIn K (.ref C) "__init__" = some (some (.ref fI)) ∧ PySem.W.typeIn K (.ref fI) = some (.type "function") ∧ FnOk P w K mg base CX0 1 fI fd ["self", f] (spXInit C f) ∧ Binds K fd ["self", f] []
theorem pmk_x {X : Cx} {x f : Str} {C : Addr} {e : Expr} {te : TE} {p pos : Pos} (N : Exn X.prog X.w X.K X.mg X.base x C f) (hr : Room 2 X.A) (hg : Gl X x) (ha : PE X e te)
    (hs : starEach [e] X.env = (false, eval e X.env) :: starEach [] X.env := by rfl) (hdb : (x == ("__debug__" : Str)) = false := by decide) (hpl : (backTo pos (starEach [] X.env)).any (·.1) = false := by rfl) :
    PMk X (.Call (.Name x p) [e] [] pos) (tMkO C (spXInit C f) [] (tCons te tNil)) := by
  obtain ⟨fI, fd, iC, tI, F, b⟩ := N.ex
  exact pmk_oex N.ox iC tI F hr b .nil pass0 hg N.gl (pa_cons ha pa_nil hs) hdb hs hpl
/-- what a raise of such an exception asks -/
theorem raise_x {C : Addr} {f : Str} {te : TE} {σ : L2.St} {H : Hp} {E : XK} {v : V} (h : ∀ Q : VK, Q v H → te σ H Q) (k : ∀ d H', H d = none → Same H H' → H' d = some (.xd [(f, v)]) → E (.ref C) (some d) H') : tMkO C (spXInit C f) [] (tCons te tNil) σ H E := by
  refine h _ ⟨by show 1 ≤ 1000; decide, fun a ha => ⟨a, v, rfl, upd_same, fun d hd da => ⟨rfl, d, [(f, v)], upd_same, ?_, ?_, ?_⟩⟩⟩
  · rw [upd_ne da, upd_same]
  · rw [upd_ne da] at hd
    exact hd
  · rw [upd_ne da] at hd
    refine k d _ hd (fun b o e => ?_) upd_same
    have ba : b ≠ a := ne_new e ha
    have bd : b ≠ d := ne_new e hd
    rw [upd_ne bd, del_ne ba, upd_ne ba, upd_ne bd, upd_ne ba]
    exact e

/-! ### the source of choices -/
def Src (H : Hp) (a : Addr) : Prop := ∃ x y z : Int, H a = some (.lst [.int x, .int y, .int z])
/-- all but a stays -/
def Keep (a : Addr) (H H' : Hp) : Prop := ∀ b o, b ≠ a → H b = some o → H' b = some o
theorem Keep.refl (a : Addr) (H : Hp) : Keep a H H := fun _ _ _ h => h
theorem Keep.trans {a : Addr} {H H1 H2 : Hp} (h : Keep a H H1) (k : Keep a H1 H2) : Keep a H H2 := fun b o n e => k b o n (h b o n e)
theorem Keep.upd {a : Addr} {H H1 : Hp} {o : HO} (h : Keep a H H1) : Keep a H (upd H1 a o) := fun b u n e => by
  rw [upd_ne n]
  exact h b u n e
theorem Keep.new {a p : Addr} {H H1 : Hp} {o : HO} (h : Keep a H H1) (hp : H1 p = none) : Keep a H (L2.upd H1 p o) := fun b u n e => by
  have e1 := h b u n e
  rw [upd_ne (ne_of_none e1 hp)]
  exact e1
theorem Keep.same {a : Addr} {H H1 : Hp} (h : Same H H1) : Keep a H H1 := fun b o _ e => h b o e
theorem Src.new {H : Hp} {a p : Addr} {o : HO} (h : Src H a) (hp : H p = none) : Src (L2.upd H p o) a := by
  obtain ⟨x, y, z, e⟩ := h
  exact ⟨x, y, z, by rw [upd_ne (ne_new e hp)]; exact e⟩
theorem Src.ne {H : Hp} {a p : Addr} (h : Src H a) (hp : H p = none) : p ≠ a := by
  obtain ⟨x, y, z, e⟩ := h
  exact new_ne e hp
structure Txt (mg : Str → Option Value) : Prop where
  b_len : mg "len" = none
  b_int : mg "int" = none
  b_range : mg "range" = none
  b_tuple : mg "tuple" = none
  b_list : mg "list" = none
  b_isinstance : mg "isinstance" = none
  b_bool : mg "bool" = none
  b_str : mg "str" = none
  b_max : mg "max" = none
  b_reversed : mg "reversed" = none
  b_repr : mg "repr" = none
  g_GREATEST : ∃ t, mg "GREATEST" = some (.int 2147483647 t)
  g_DEEPEST : ∃ t, mg "DEEPEST" = some (.int 100 t)
  g_BARRED : ∃ t, mg "BARRED" = some (.int 37 t)
  g_BEGINS : ∃ t, mg "BEGINS" = some (.int 128 t)
  g_GOES_ON : ∃ t, mg "GOES_ON" = some (.int 64 t)
  b_min : mg "min" = none
  g_WITH_LINE : ∃ t, mg "WITH_LINE" = some (.int 232 t)
  g_WITHOUT_LINE : ∃ t, mg "WITHOUT_LINE" = some (.int 248 t)
  g_MOST_UNITS : ∃ t, mg "MOST_UNITS" = some (.int 8 t)
  g_MANY_UNITS : ∃ t, mg "MANY_UNITS" = some (.int 80 t)
  b_enumerate : mg "enumerate" = none
def spSrc : Sp := fun vs H Q _ => ∃ n : Int, vs = [.int n] ∧ ∀ p H', H p = none → Same H H' → Src H' p → Q (.ref p) H'
def spNext : Sp := fun vs H Q _ => ∃ (a : Addr) (m : Int), vs = [.ref a, .int m] ∧ Src H a ∧ 0 < m ∧ m < 2 ^ 200 ∧ ∀ (r : Int) H', 0 ≤ r → r < m → Keep a H H' → Src H' a → Q (.int r) H'
def spOne : Sp := fun vs H Q _ => ∃ (a b : Addr) (xs : List V), vs = [.ref a, .ref b] ∧ Src H a ∧ b ≠ a ∧ H b = some (.lst xs) ∧ xs ≠ [] ∧ xs.length ≤ 1000 ∧ ∀ v H', v ∈ xs → Keep a H H' → Src H' a → Q v H'
section
variable {P : Program} {w : World} {K : PySem.W.Frag} {mg : Str → Option Value} {base : Heap} {f : Addr} {fd : FuncData}
abbrev ssource_of : Stmt := top 39
theorem scsource_of : FnScope ["_law_cell"] ["_law_cell"] (defScope ssource_of) := ⟨rfl, rfl, rfl, by decide +kernel, rfl, by decide +kernel, by decide +kernel⟩

abbrev snext : Stmt := top 40
theorem scnext : FnScope ["_law_source", "_law_many", "_law_found", "_law_prime", "_law_number"] ["_law_source", "_law_many"] (defScope snext) := ⟨rfl, rfl, rfl, by decide +kernel, rfl, by decide +kernel, by decide +kernel⟩

abbrev sone : Stmt := top 41
theorem scone : FnScope ["_law_source", "_law_some"] ["_law_source", "_law_some"] (defScope sone) := ⟨rfl, rfl, rfl, by decide +kernel, rfl, by decide +kernel, by decide +kernel⟩

theorem ok_source_of (T : Txt mg) (F : FnP K "_law_source_of" "_law_source_of" ssource_of f fd) : FnOk P w K mg base CX0 1 f fd ["_law_cell"] spSrc := by
  refine F.ok scsource_of (fun vs H Q E h => ?_) (fun cdv A outer s H vs Q E hr h => ?_)
  · obtain ⟨n, rfl, _⟩ := h
    rfl
  · obtain ⟨n, rfl, k⟩ := h
    refine ⟨_, PSs.nox (pss_cons (ps_set (i := 0) scsource_of.nd rfl (Or.inl rfl) (pe_ifExp (pt_cmpR op_ge (pv 0) pe_int (nomark _)) (pv 0) (pe_op op_sub (pe_op op_sub pe_int (pe_op op_mul pe_int (pv 0))) pe_int)))
  (pss_one (ps_ret (pe_lst (pa_cons (pe_op op_mul (pv 0) (pe_callTy call_int1 (by rfl) T.b_int (by decide +kernel) (pa_cons (pe_cmpR op_ge (pv 0) (pe_op op_pow pe_int pe_int) (nomark _)) pa_nil))) (pa_cons (pe_op op_mod (pe_callTy call_int1 (by rfl) T.b_int (by decide +kernel) (pa_cons (pv 0) pa_nil)) pe_int) (pa_cons pe_int pa_nil))))))), ?_⟩
    show (_ : TS) _ [some (.int n)] H
    simp only [r_seq, r_next, r_brk, r_cont, r_asg, r_name, r_ret, r_retN, r_drop, r_ifs, r_never, r_var, r_c, r_op, r_un, r_if, r_tst, r_b, r_not, r_and, r_or, r_andV, r_orV, r_notV, r_nil, r_cons, r_tup, r_lst, r_cb, r_call, r_bm, r_bm0, r_sl, r_nopart, r_part, r_rev, r_gnil, r_gcons, r_gsub, r_par, r_aug, r_chain, r_I0, r_I, r_U, r_ixd, r_lend, r_tupd, r_listd, r_sld, r_app, r_ext, r_reverse, r_setl, r_cat, r_int1, r_eqS, r_neS, scal_ii, scal_bb, scal_ss, at0, at1, at2, sq_lst, sq_tup, isLst_lst, List.getElem?_cons_zero, List.getElem?_cons_succ, List.set_cons_zero, List.set_cons_succ, V.int.injEq, V.bl.injEq, V.ref.injEq, V.str.injEq, HO.lst.injEq, HO.tup.injEq, Option.some.injEq, exists_eq_left', exists_eq_left, List.cons.injEq, and_true, true_and, decide_eq_true_eq, reduceCtorEq, false_and, exists_false, or_false, false_or, exists_const, and_assoc, exists_and_left, List.append_nil, ix0, ix1, ix2, cm_mod, cdw1009, cdw2003, cdw7, cdw64, cdw2, cm104729, cm2, cm3, upd_same, List.length_cons, List.length_nil, Int.reduceLT, Int.reduceLE, Nat.reduceAdd, Nat.reduceLeDiff, Nat.reduceLT, Int.reduceToNat, r_for1, r_forL, r_forT, r_lcL, r_lc1, r_yes, r_gtupD, wipe_0, wipe_1, List.cons_append, List.nil_append, r_forS, r_ipI, ite_false, ite_true, Bool.not_true, Bool.not_false, decide_true, decide_false, r_isd, r_islt, cD_ty, cD_ref, tD_non, tD_bl, tD_int, tD_str, tD_ref, tH_lst, tH_tup, tH_dK, tH_ins, ki_self, ki_int_bool, ki_non_int, ki_str_int, ki_lt_lst, ki_lt_tup, r_fld, r_sfld, HO.ins.injEq, cx_K]
    have k' : ∀ x y z : Int, ∀ p, H p = none → Q (.ref p) (upd H p (.lst [.int x, .int y, .int z])) := fun x y z p hp =>
      k p _ hp (Same.new' (Same.refl H) hp) ⟨x, y, z, upd_same⟩
    have c1 : CPow 10 18 := ⟨by decide, by decide, by decide⟩
    have c2 : ∀ (i : Int) (c : Prop) [Decidable c], CMul i (if c then 1 else 0) := fun i c _ => .inr (by split <;> decide)
    have c3 : CMul 3 n := .inl (by decide)
    exact ite2 (fun _ => ⟨c1, c2 _ _, Nat.le_trans (by decide : 3 ≤ 1000) (by decide), k' _ _ _⟩) (fun _ => ⟨c1, c2 _ _, Nat.le_trans (by decide : 3 ≤ 1000) (by decide), k' _ _ _⟩)
theorem ok_next (T : Txt mg) (F : FnP K "_law_next" "_law_next" snext f fd) : FnOk P w K mg base CX0 1 f fd ["_law_source", "_law_many"] spNext := by
  refine F.ok scnext (fun vs H Q E h => ?_) (fun cdv A outer s H vs Q E hr h => ?_)
  · obtain ⟨a, m, rfl, _⟩ := h
    rfl
  · obtain ⟨a, m, rfl, ⟨x, y, z, hS⟩, m0, m1, k⟩ := h
    refine ⟨_, PSs.nox (pss_cons (ps_if (pt_cmpR op_gt (pe_ix ix_d (pv 0) pe_int (fun _ _ => rfl)) pe_int (nomark _))
    (pss_cons (ps_set (i := 2) scnext.nd rfl (Or.inl rfl) (pe_op op_mod (pe_callTy call_int1 (by rfl) T.b_int (by decide +kernel) (pa_cons (pe_ix ix_d (pv 0) pe_int (fun _ _ => rfl)) pa_nil)) (pv 1)))
  (pss_cons (ps_asg (pe_op op_fdivW (pe_ix ix_d (pv 0) pe_int (fun _ _ => rfl)) (pv 1)) (pg_sub (pv 0) pe_int set_list))
  (pss_one (ps_ret (pv 2)))))
    pss_nil)
  (pss_cons (ps_asg (pe_op op_add (pe_ix ix_d (pv 0) pe_int (fun _ _ => rfl)) pe_int) (pg_sub (pv 0) pe_int set_list))
  (pss_cons (ps_set (i := 3) scnext.nd rfl (Or.inl rfl) pe_int)
  (pss_cons (ps_set (i := 4) scnext.nd rfl (Or.inl rfl) (pe_op op_mod (pe_callTy call_int1 (by rfl) T.b_int (by decide +kernel) (pa_cons (pe_op op_add (pe_op op_add (pe_ix ix_d (pv 0) pe_int (fun _ _ => rfl)) (pe_op op_mul pe_int (pe_ix ix_d (pv 0) pe_int (fun _ _ => rfl)))) pe_int) pa_nil)) (pv 3)))
  (pss_cons (ps_set (i := 4) scnext.nd rfl (Or.inl rfl) (pe_op op_mod (pe_callTy call_int1 (by rfl) T.b_int (by decide +kernel) (pa_cons (pe_op op_mul (pv 4) pe_int) pa_nil)) (pv 3)))
  (pss_cons (ps_set (i := 4) scnext.nd rfl (Or.inl rfl) (pe_op op_mod (pe_callTy call_int1 (by rfl) T.b_int (by decide +kernel) (pa_cons (pe_op op_mul (pv 4) (pe_op op_add (pe_op op_fdivW (pv 4) pe_int) pe_int)) pa_nil)) (pv 3)))
  (pss_cons (ps_set (i := 4) scnext.nd rfl (Or.inl rfl) (pe_op op_mod (pe_callTy call_int1 (by rfl) T.b_int (by decide +kernel) (pa_cons (pe_op op_mul (pv 4) (pe_op op_add (pe_op op_fdivW (pv 4) pe_int) pe_int)) pa_nil)) pe_int))
  (pss_one (ps_ret (pe_op op_mod (pe_callTy call_int1 (by rfl) T.b_int (by decide +kernel) (pa_cons (pe_op op_fdivW (pv 4) pe_int) pa_nil)) (pv 1))))))))))), ?_⟩
    show (_ : TS) _ [some (.ref a), some (.int m), none, none, none] H
    have hC : ∀ i, CDivW i m := fun i => of_eq_true (cdw ⟨m0, m1⟩)
    have kk : ∀ (e : Int) (u v t : Int), Q (.int (e % m)) (upd H a (.lst [.int u, .int v, .int t])) := fun e u v t => k _ _ (Int.emod_nonneg _ (by omega)) (Int.emod_lt_of_pos _ m0) (Keep.upd (Keep.refl a H)) ⟨u, v, t, upd_same⟩
    simp only [r_seq, r_next, r_brk, r_cont, r_asg, r_name, r_ret, r_retN, r_drop, r_ifs, r_never, r_var, r_c, r_op, r_un, r_if, r_tst, r_b, r_not, r_and, r_or, r_andV, r_orV, r_notV, r_nil, r_cons, r_tup, r_lst, r_cb, r_call, r_bm, r_bm0, r_sl, r_nopart, r_part, r_rev, r_gnil, r_gcons, r_gsub, r_par, r_aug, r_chain, r_I0, r_I, r_U, r_ixd, r_lend, r_tupd, r_listd, r_sld, r_app, r_ext, r_reverse, r_setl, r_cat, r_int1, r_eqS, r_neS, scal_ii, scal_bb, scal_ss, at0, at1, at2, sq_lst, sq_tup, isLst_lst, List.getElem?_cons_zero, List.getElem?_cons_succ, List.set_cons_zero, List.set_cons_succ, V.int.injEq, V.bl.injEq, V.ref.injEq, V.str.injEq, HO.lst.injEq, HO.tup.injEq, Option.some.injEq, exists_eq_left', exists_eq_left, List.cons.injEq, and_true, true_and, decide_eq_true_eq, reduceCtorEq, false_and, exists_false, or_false, false_or, exists_const, and_assoc, exists_and_left, List.append_nil, ix0, ix1, ix2, cm_mod, cdw1009, cdw2003, cdw7, cdw64, cdw2, cm104729, cm2, cm3, upd_same, List.length_cons, List.length_nil, Int.reduceLT, Int.reduceLE, Nat.reduceAdd, Nat.reduceLeDiff, Nat.reduceLT, Int.reduceToNat, r_for1, r_forL, r_forT, r_lcL, r_lc1, r_yes, r_gtupD, wipe_0, wipe_1, List.cons_append, List.nil_append, r_forS, r_ipI, ite_false, ite_true, Bool.not_true, Bool.not_false, decide_true, decide_false, r_isd, r_islt, cD_ty, cD_ref, tD_non, tD_bl, tD_int, tD_str, tD_ref, tH_lst, tH_tup, tH_dK, tH_ins, ki_self, ki_int_bool, ki_non_int, ki_str_int, ki_lt_lst, ki_lt_tup, r_fld, r_sfld, HO.ins.injEq, cx_K, hS, m0, hC]
    exact ite2 (fun _ => kk _ _ _ _) (fun _ => kk _ _ _ _)
theorem ok_one (T : Txt mg) (F : FnP K "_law_one" "_law_one" sone f fd) (C_next : Cal P w K mg base 1 "_law_next" ["_law_source", "_law_many"] spNext) : FnOk P w K mg base CX0 2 f fd ["_law_source", "_law_some"] spOne := by
  refine F.ok scone (fun vs H Q E h => ?_) (fun cdv A outer s H vs Q E hr h => ?_)
  · obtain ⟨a, b, xs, rfl, _⟩ := h
    rfl
  · obtain ⟨a, b, xs, rfl, hS, hb, hx, h0, h1, k⟩ := h
    refine ⟨_, PSs.nox (pss_one (ps_ret (pe_ix ix_d (pv 1) (pe_cal C_next (hr.mono (by decide)) rfl (pa_cons (pv 0) (pa_cons (pe_callB call_len_d (by rfl) T.b_len (by decide +kernel) (pa_cons (pv 1) pa_nil)) pa_nil))) (fun _ _ => rfl)))), ?_⟩
    show (_ : TS) _ [some (.ref a), some (.ref b)] H
    simp only [r_seq, r_next, r_brk, r_cont, r_asg, r_name, r_ret, r_retN, r_drop, r_ifs, r_never, r_var, r_c, r_op, r_un, r_if, r_tst, r_b, r_not, r_and, r_or, r_andV, r_orV, r_notV, r_nil, r_cons, r_tup, r_lst, r_cb, r_call, r_bm, r_bm0, r_sl, r_nopart, r_part, r_rev, r_gnil, r_gcons, r_gsub, r_par, r_aug, r_chain, r_I0, r_I, r_U, r_ixd, r_lend, r_tupd, r_listd, r_sld, r_app, r_ext, r_reverse, r_setl, r_cat, r_int1, r_eqS, r_neS, scal_ii, scal_bb, scal_ss, at0, at1, at2, sq_lst, sq_tup, isLst_lst, List.getElem?_cons_zero, List.getElem?_cons_succ, List.set_cons_zero, List.set_cons_succ, V.int.injEq, V.bl.injEq, V.ref.injEq, V.str.injEq, HO.lst.injEq, HO.tup.injEq, Option.some.injEq, exists_eq_left', exists_eq_left, List.cons.injEq, and_true, true_and, decide_eq_true_eq, reduceCtorEq, false_and, exists_false, or_false, false_or, exists_const, and_assoc, exists_and_left, List.append_nil, ix0, ix1, ix2, cm_mod, cdw1009, cdw2003, cdw7, cdw64, cdw2, cm104729, cm2, cm3, upd_same, List.length_cons, List.length_nil, Int.reduceLT, Int.reduceLE, Nat.reduceAdd, Nat.reduceLeDiff, Nat.reduceLT, Int.reduceToNat, r_for1, r_forL, r_forT, r_lcL, r_lc1, r_yes, r_gtupD, wipe_0, wipe_1, List.cons_append, List.nil_append, r_forS, r_ipI, ite_false, ite_true, Bool.not_true, Bool.not_false, decide_true, decide_false, r_isd, r_islt, cD_ty, cD_ref, tD_non, tD_bl, tD_int, tD_str, tD_ref, tH_lst, tH_tup, tH_dK, tH_ins, ki_self, ki_int_bool, ki_non_int, ki_str_int, ki_lt_lst, ki_lt_tup, r_fld, r_sfld, HO.ins.injEq, cx_K, hx]
    have hl : 0 < xs.length := List.length_pos_iff.mpr h0
    refine ⟨a, _, rfl, hS, by omega, by omega, fun r H1 r0 r1 k1 s1 => ?_⟩
    have hx1 := k1 b _ hb hx
    obtain ⟨i, rfl⟩ : ∃ i : Nat, r = i := ⟨r.toNat, by omega⟩
    have hi : i < xs.length := by omega
    have e1 : atI xs (i : Int) = some xs[i] := atn (List.getElem?_eq_getElem hi)
    simp only [r_seq, r_next, r_brk, r_cont, r_asg, r_name, r_ret, r_retN, r_drop, r_ifs, r_never, r_var, r_c, r_op, r_un, r_if, r_tst, r_b, r_not, r_and, r_or, r_andV, r_orV, r_notV, r_nil, r_cons, r_tup, r_lst, r_cb, r_call, r_bm, r_bm0, r_sl, r_nopart, r_part, r_rev, r_gnil, r_gcons, r_gsub, r_par, r_aug, r_chain, r_I0, r_I, r_U, r_ixd, r_lend, r_tupd, r_listd, r_sld, r_app, r_ext, r_reverse, r_setl, r_cat, r_int1, r_eqS, r_neS, scal_ii, scal_bb, scal_ss, at0, at1, at2, sq_lst, sq_tup, isLst_lst, List.getElem?_cons_zero, List.getElem?_cons_succ, List.set_cons_zero, List.set_cons_succ, V.int.injEq, V.bl.injEq, V.ref.injEq, V.str.injEq, HO.lst.injEq, HO.tup.injEq, Option.some.injEq, exists_eq_left', exists_eq_left, List.cons.injEq, and_true, true_and, decide_eq_true_eq, reduceCtorEq, false_and, exists_false, or_false, false_or, exists_const, and_assoc, exists_and_left, List.append_nil, ix0, ix1, ix2, cm_mod, cdw1009, cdw2003, cdw7, cdw64, cdw2, cm104729, cm2, cm3, upd_same, List.length_cons, List.length_nil, Int.reduceLT, Int.reduceLE, Nat.reduceAdd, Nat.reduceLeDiff, Nat.reduceLT, Int.reduceToNat, r_for1, r_forL, r_forT, r_lcL, r_lc1, r_yes, r_gtupD, wipe_0, wipe_1, List.cons_append, List.nil_append, r_forS, r_ipI, ite_false, ite_true, Bool.not_true, Bool.not_false, decide_true, decide_false, r_isd, r_islt, cD_ty, cD_ref, tD_non, tD_bl, tD_int, tD_str, tD_ref, tH_lst, tH_tup, tH_dK, tH_ins, ki_self, ki_int_bool, ki_non_int, ki_str_int, ki_lt_lst, ki_lt_tup, r_fld, r_sfld, HO.ins.injEq, cx_K, hx1, e1]
    exact k _ _ (List.getElem_mem hi) k1 s1
end
end C48

set_option maxHeartbeats 1000000
namespace C48
open PySem PySem.Spec PyProof.Rows L2
/-! ### numbers in pieces of six bits -/
def rest (n : Nat) : List Nat := if h : n < 64 then [] else (n / 64 % 64) :: rest (n / 64)
termination_by n
decreasing_by omega
def low (n : Nat) : List Nat := (n % 64) :: rest n
theorem rest_lt {n : Nat} (h : n < 64) : rest n = [] := by
  rw [rest, dif_pos h]
theorem rest_ge {n : Nat} (h : ¬ n < 64) : rest n = low (n / 64) := by
  rw [rest, dif_neg h, low]
def vn (xs : List Nat) : List V := xs.map fun d : Nat => V.int (d : Int)
theorem vn_app {xs ys : List Nat} : vn (xs ++ ys) = vn xs ++ vn ys := by
  unfold vn
  rw [List.map_append]
theorem vn_len {xs : List Nat} : (vn xs).length = xs.length := by
  unfold vn
  rw [List.length_map]
theorem rest_len : ∀ (k n : Nat), n < 64 ^ (k + 1) → (rest n).length ≤ k
  | 0, n, h => by rw [rest_lt (by simpa using h)]; exact Nat.le_refl _
  | k + 1, n, h => by
    by_cases c : n < 64
    · rw [rest_lt c]
      exact Nat.zero_le _
    · rw [rest_ge c, low, List.length_cons]
      have := rest_len k (n / 64) (by rw [Nat.pow_succ] at h; omega)
      omega
def spPieces : Sp := fun vs H Q _ => ∃ n : Nat, vs = [.int (n : Int)] ∧ n < 64 ^ 60 ∧ ∀ p H', H p = none → Same H H' → H' p = some (.lst (vn (low n))) → Q (.ref p) H'
def lvPieces (H : Hp) (p : Addr) (n : Nat) (i : Nat) (σ : L2.St) (H' : Hp) : Prop := ∃ (m : Nat) (ds : List Nat) (v : Option V), σ = [some (.int (m : Int)), some (.ref p), v] ∧ Same H H' ∧ H' p = some (.lst (vn ds)) ∧ ds ++ rest m = low n ∧ m = n / 64 ^ i ∧ ds.length ≤ 1 + i
section
variable {P : Program} {w : World} {K : PySem.W.Frag} {mg : Str → Option Value} {base : Heap} {f : Addr} {fd : FuncData}
abbrev spieces : Stmt := top 42
theorem scpieces : FnScope ["_law_number", "_law_found", "_law_k"] ["_law_number"] (defScope spieces) := ⟨rfl, rfl, rfl, by decide +kernel, rfl, by decide +kernel, by decide +kernel⟩

abbrev smarked : Stmt := top 43
theorem scmarked : FnScope ["_law_some", "_law_piece"] ["_law_some"] (defScope smarked) := ⟨rfl, rfl, rfl, by decide +kernel, rfl, by decide +kernel, by decide +kernel⟩

theorem ok_pieces (T : Txt mg) (F : FnP K "_law_pieces" "_law_pieces" spieces f fd) : FnOk P w K mg base CX0 1 f fd ["_law_number"] spPieces := by
  refine F.ok scpieces (fun vs H Q E h => ?_) (fun cdv A outer s H vs Q E hr h => ?_)
  · obtain ⟨n, rfl, _⟩ := h
    rfl
  · obtain ⟨n, rfl, hn, k⟩ := h
    refine ⟨_, PSs.nox (pss_cons (ps_set (i := 1) scpieces.nd rfl (Or.inl rfl) (pe_lst (pa_cons (pe_op op_mod (pe_callTy call_int1 (by rfl) T.b_int (by decide +kernel) (pa_cons (pv 0) pa_nil)) pe_int) pa_nil)))
  (pss_cons (ps_for PassesOwn.never rfl (pi_range1 rfl T.b_range (pa_cons pe_int pa_nil)) (pg_name (i := 2) scpieces.nd rfl (Or.inl rfl))
    (pss_cons (ps_set (i := 0) scpieces.nd rfl (Or.inl rfl) (pe_op op_fdivW (pv 0) pe_int))
  (pss_one (ps_if (pt_cmpR op_gt (pv 0) pe_int (nomark _))
    (pss_one (ps_expr (pe_bm PySem.F.plainAttrs_list PySem.F.slot_list_append PySem.F.type_list_append mt_append (pv 1) (pa_cons (pe_op op_mod (pe_callTy call_int1 (by rfl) T.b_int (by decide +kernel) (pa_cons (pv 0) pa_nil)) pe_int) pa_nil))))
    pss_nil))))
  (pss_one (ps_ret (pv 1))))), ?_⟩
    show (_ : TS) _ [some (.int (n : Int)), none, none] H
    simp only [r_seq, r_next, r_brk, r_cont, r_asg, r_name, r_ret, r_retN, r_drop, r_ifs, r_never, r_var, r_c, r_op, r_un, r_if, r_tst, r_b, r_not, r_and, r_or, r_andV, r_orV, r_notV, r_nil, r_cons, r_tup, r_lst, r_cb, r_call, r_bm, r_bm0, r_sl, r_nopart, r_part, r_rev, r_gnil, r_gcons, r_gsub, r_par, r_aug, r_chain, r_I0, r_I, r_U, r_ixd, r_lend, r_tupd, r_listd, r_sld, r_app, r_ext, r_reverse, r_setl, r_cat, r_int1, r_eqS, r_neS, scal_ii, scal_bb, scal_ss, at0, at1, at2, sq_lst, sq_tup, isLst_lst, List.getElem?_cons_zero, List.getElem?_cons_succ, List.set_cons_zero, List.set_cons_succ, V.int.injEq, V.bl.injEq, V.ref.injEq, V.str.injEq, HO.lst.injEq, HO.tup.injEq, Option.some.injEq, exists_eq_left', exists_eq_left, List.cons.injEq, and_true, true_and, decide_eq_true_eq, reduceCtorEq, false_and, exists_false, or_false, false_or, exists_const, and_assoc, exists_and_left, List.append_nil, ix0, ix1, ix2, cm_mod, cdw1009, cdw2003, cdw7, cdw64, cdw2, cm104729, cm2, cm3, upd_same, List.length_cons, List.length_nil, Int.reduceLT, Int.reduceLE, Nat.reduceAdd, Nat.reduceLeDiff, Nat.reduceLT, Int.reduceToNat, r_for1, r_forL, r_forT, r_lcL, r_lc1, r_yes, r_gtupD, wipe_0, wipe_1, List.cons_append, List.nil_append, r_forS, r_ipI, ite_false, ite_true, Bool.not_true, Bool.not_false, decide_true, decide_false, r_isd, r_islt, cD_ty, cD_ref, tD_non, tD_bl, tD_int, tD_str, tD_ref, tH_lst, tH_tup, tH_dK, tH_ins, ki_self, ki_int_bool, ki_non_int, ki_str_int, ki_lt_lst, ki_lt_tup, r_fld, r_sfld, HO.ins.injEq, cx_K]
    refine ⟨by decide, fun p hp => ⟨by decide, by decide, lp_rng (n := 60) (lvPieces H p n)
      ⟨n, [n % 64], none, rfl, Same.new' (Same.refl H) hp, by rw [upd_same]; simp [vn], by rw [low]; rfl, by simp, by simp⟩ ?_ ?_⟩⟩
    · rintro i σ H1 hi ⟨m, ds, v, rfl, s1, h1, e1, em, hl⟩
      have hm : (0 : Int) < (m : Int) / 64 ↔ ¬ m < 64 := by omega
      have hd : ((m : Int) / 64 % 64) = ((m / 64 % 64 : Nat) : Int) := by omega
      have em' : m / 64 = n / 64 ^ (i + 1) := by rw [em, Nat.div_div_eq_div_mul, Nat.pow_succ]
      have pne : ∀ {b : Addr} {o : HO}, H b = some o → b ≠ p := fun e => ne_new e hp
      simp only [r_seq, r_next, r_brk, r_cont, r_asg, r_name, r_ret, r_retN, r_drop, r_ifs, r_never, r_var, r_c, r_op, r_un, r_if, r_tst, r_b, r_not, r_and, r_or, r_andV, r_orV, r_notV, r_nil, r_cons, r_tup, r_lst, r_cb, r_call, r_bm, r_bm0, r_sl, r_nopart, r_part, r_rev, r_gnil, r_gcons, r_gsub, r_par, r_aug, r_chain, r_I0, r_I, r_U, r_ixd, r_lend, r_tupd, r_listd, r_sld, r_app, r_ext, r_reverse, r_setl, r_cat, r_int1, r_eqS, r_neS, scal_ii, scal_bb, scal_ss, at0, at1, at2, sq_lst, sq_tup, isLst_lst, List.getElem?_cons_zero, List.getElem?_cons_succ, List.set_cons_zero, List.set_cons_succ, V.int.injEq, V.bl.injEq, V.ref.injEq, V.str.injEq, HO.lst.injEq, HO.tup.injEq, Option.some.injEq, exists_eq_left', exists_eq_left, List.cons.injEq, and_true, true_and, decide_eq_true_eq, reduceCtorEq, false_and, exists_false, or_false, false_or, exists_const, and_assoc, exists_and_left, List.append_nil, ix0, ix1, ix2, cm_mod, cdw1009, cdw2003, cdw7, cdw64, cdw2, cm104729, cm2, cm3, upd_same, List.length_cons, List.length_nil, Int.reduceLT, Int.reduceLE, Nat.reduceAdd, Nat.reduceLeDiff, Nat.reduceLT, Int.reduceToNat, r_for1, r_forL, r_forT, r_lcL, r_lc1, r_yes, r_gtupD, wipe_0, wipe_1, List.cons_append, List.nil_append, r_forS, r_ipI, ite_false, ite_true, Bool.not_true, Bool.not_false, decide_true, decide_false, r_isd, r_islt, cD_ty, cD_ref, tD_non, tD_bl, tD_int, tD_str, tD_ref, tH_lst, tH_tup, tH_dK, tH_ins, ki_self, ki_int_bool, ki_non_int, ki_str_int, ki_lt_lst, ki_lt_tup, r_fld, r_sfld, HO.ins.injEq, cx_K, h1, tyV_lst]
      refine ite2 (fun c => ⟨by rw [vn_len]; exact Nat.lt_of_le_of_lt (by omega : ds.length ≤ 100) (by decide), m / 64, ds ++ [m / 64 % 64], _, by rw [Int.natCast_ediv]; rfl, ?_, ?_, ?_, em', by simp; omega⟩) (fun c => ⟨m / 64, ds, _, by rw [Int.natCast_ediv]; rfl, s1, h1, ?_, em', by omega⟩)
      · exact fun b o e => by
          rw [upd_ne (pne e)]
          exact s1 b o e
      · rw [upd_same, vn_app, hd]
        rfl
      · rw [← e1, rest_ge (hm.mp c), low]
        simp
      · rw [← e1, rest_lt (n := m) (by omega), rest_lt (by omega)]
    · rintro σ H1 ⟨m, ds, v, rfl, s1, h1, e1, em, hl⟩
      simp only [r_seq, r_next, r_brk, r_cont, r_asg, r_name, r_ret, r_retN, r_drop, r_ifs, r_never, r_var, r_c, r_op, r_un, r_if, r_tst, r_b, r_not, r_and, r_or, r_andV, r_orV, r_notV, r_nil, r_cons, r_tup, r_lst, r_cb, r_call, r_bm, r_bm0, r_sl, r_nopart, r_part, r_rev, r_gnil, r_gcons, r_gsub, r_par, r_aug, r_chain, r_I0, r_I, r_U, r_ixd, r_lend, r_tupd, r_listd, r_sld, r_app, r_ext, r_reverse, r_setl, r_cat, r_int1, r_eqS, r_neS, scal_ii, scal_bb, scal_ss, at0, at1, at2, sq_lst, sq_tup, isLst_lst, List.getElem?_cons_zero, List.getElem?_cons_succ, List.set_cons_zero, List.set_cons_succ, V.int.injEq, V.bl.injEq, V.ref.injEq, V.str.injEq, HO.lst.injEq, HO.tup.injEq, Option.some.injEq, exists_eq_left', exists_eq_left, List.cons.injEq, and_true, true_and, decide_eq_true_eq, reduceCtorEq, false_and, exists_false, or_false, false_or, exists_const, and_assoc, exists_and_left, List.append_nil, ix0, ix1, ix2, cm_mod, cdw1009, cdw2003, cdw7, cdw64, cdw2, cm104729, cm2, cm3, upd_same, List.length_cons, List.length_nil, Int.reduceLT, Int.reduceLE, Nat.reduceAdd, Nat.reduceLeDiff, Nat.reduceLT, Int.reduceToNat, r_for1, r_forL, r_forT, r_lcL, r_lc1, r_yes, r_gtupD, wipe_0, wipe_1, List.cons_append, List.nil_append, r_forS, r_ipI, ite_false, ite_true, Bool.not_true, Bool.not_false, decide_true, decide_false, r_isd, r_islt, cD_ty, cD_ref, tD_non, tD_bl, tD_int, tD_str, tD_ref, tH_lst, tH_tup, tH_dK, tH_ins, ki_self, ki_int_bool, ki_non_int, ki_str_int, ki_lt_lst, ki_lt_tup, r_fld, r_sfld, HO.ins.injEq, cx_K]
      have : m < 64 := by rw [em]; exact Nat.lt_of_lt_of_le (Nat.div_lt_of_lt_mul (by rw [Nat.mul_one]; exact hn)) (by decide : 1 ≤ 64)
      rw [rest_lt this, List.append_nil] at e1
      exact k p _ hp s1 (by rw [h1, e1])
end
end C48

set_option maxHeartbeats 1000000
namespace C48
open PySem PySem.Spec PyProof.Rows L2
def up (ds : List Nat) : List Nat := ds.map (· + 64)
theorem up_app {xs ys : List Nat} : up (xs ++ ys) = up xs ++ up ys := by
  unfold up
  rw [List.map_append]
/-- a number's pieces, the highest first, marked -/
def mk (n : Nat) : List Nat := up (rest n).reverse ++ [n % 64]
def spMarked : Sp := fun vs H Q _ => ∃ (a : Addr) (ds : List Nat) (d : Nat), vs = [.ref a] ∧ H a = some (.lst (vn (ds ++ [d]))) ∧ ds.length ≤ 100 ∧ ∀ p H', H p = none → Same H H' → H' p = some (.lst (vn (up ds ++ [d]))) → Q (.ref p) H'
def lvMarked (H : Hp) (p D : Addr) (ds : List Nat) (i : Nat) (H' : Hp) : Prop := Same H H' ∧ H' p = some (.lst (vn ds)) ∧ H' D = some (.lst (vn (up (ds.take i))))
section
variable {P : Program} {w : World} {K : PySem.W.Frag} {mg : Str → Option Value} {base : Heap} {f : Addr} {fd : FuncData}
theorem ok_marked (T : Txt mg) (F : FnP K "_law_marked" "_law_marked" smarked f fd) : FnOk P w K mg base CX0 1 f fd ["_law_some"] spMarked := by
  refine F.ok scmarked (fun vs H Q E h => ?_) (fun cdv A outer s H vs Q E hr h => ?_)
  · obtain ⟨a, ds, d, rfl, _⟩ := h
    rfl
  · obtain ⟨a, ds, d, rfl, ha, hl, k⟩ := h
    refine ⟨_, PSs.nox (pss_one (ps_ret (pe_op op_cat (pe_lc (own := [("_law_piece", 1)]) (g := gName 1) (tt := tYes) rfl scmarked.nd (pi_list (pe_slice sl_d (pv 0) po_none (po_some (pe_un un_neg pe_int)))) (blkOk_by (own := [("_law_piece", 1)]) (N := ["_law_some", "_law_piece"]) (sc := defScope smarked) (by decide +kernel)) (fun _ _ _ _ _ => (pg_name (i := 1) scmarked.nd rfl (Or.inl rfl))) (fun _ _ _ _ _ => pts_nil) (fun _ _ _ _ _ => (pe_op op_add (pv 1) pe_int))) (pe_slice sl_d (pv 0) (po_some (pe_un un_neg pe_int)) po_none)))), ?_⟩
    show (_ : TS) _ [some (.ref a), none] H
    have hv : vn (ds ++ [d]) = vn ds ++ [.int (d : Int)] := by rw [vn_app]; rfl
    simp only [r_seq, r_next, r_brk, r_cont, r_asg, r_name, r_ret, r_retN, r_drop, r_ifs, r_never, r_var, r_c, r_op, r_un, r_if, r_tst, r_b, r_not, r_and, r_or, r_andV, r_orV, r_notV, r_nil, r_cons, r_tup, r_lst, r_cb, r_call, r_bm, r_bm0, r_sl, r_nopart, r_part, r_rev, r_gnil, r_gcons, r_gsub, r_par, r_aug, r_chain, r_I0, r_I, r_U, r_ixd, r_lend, r_tupd, r_listd, r_sld, r_app, r_ext, r_reverse, r_setl, r_cat, r_int1, r_eqS, r_neS, scal_ii, scal_bb, scal_ss, at0, at1, at2, sq_lst, sq_tup, isLst_lst, List.getElem?_cons_zero, List.getElem?_cons_succ, List.set_cons_zero, List.set_cons_succ, V.int.injEq, V.bl.injEq, V.ref.injEq, V.str.injEq, HO.lst.injEq, HO.tup.injEq, Option.some.injEq, exists_eq_left', exists_eq_left, List.cons.injEq, and_true, true_and, decide_eq_true_eq, reduceCtorEq, false_and, exists_false, or_false, false_or, exists_const, and_assoc, exists_and_left, List.append_nil, ix0, ix1, ix2, cm_mod, cdw1009, cdw2003, cdw7, cdw64, cdw2, cm104729, cm2, cm3, upd_same, List.length_cons, List.length_nil, Int.reduceLT, Int.reduceLE, Nat.reduceAdd, Nat.reduceLeDiff, Nat.reduceLT, Int.reduceToNat, r_for1, r_forL, r_forT, r_lcL, r_lc1, r_yes, r_gtupD, wipe_0, wipe_1, List.cons_append, List.nil_append, r_forS, r_ipI, ite_false, ite_true, Bool.not_true, Bool.not_false, decide_true, decide_false, r_isd, r_islt, cD_ty, cD_ref, tD_non, tD_bl, tD_int, tD_str, tD_ref, tH_lst, tH_tup, tH_dK, tH_ins, ki_self, ki_int_bool, ki_non_int, ki_str_int, ki_lt_lst, ki_lt_tup, r_fld, r_sfld, HO.ins.injEq, cx_K, ha, hv, cut_init]
    intro p hp
    have ap : a ≠ p := ne_new ha hp
    refine ⟨⟨_, SqL.of upd_same⟩, fun D hD => ?_⟩
    have Dp : D ≠ p := fun e => by
      rw [e, upd_same] at hD
      cases hD
    have HD : H D = none := by
      rw [upd_ne Dp] at hD
      exact hD
    have aD : a ≠ D := ne_new ha HD
    refine cp_list (xs := vn ds) (lvMarked H p D ds) ⟨Same.new' (Same.new' (Same.refl H) hp) hD, by rw [upd_ne Dp.symm, upd_same], by rw [upd_same]; rfl⟩ (fun i H' _ ⟨_, h, _⟩ => SqL.of h) ?_ ?_
    · rintro i x H1 hx ⟨s1, h1, h2⟩
      have hi : i < ds.length := by
        have := (List.getElem?_eq_some_iff.mp hx).1
        rwa [vn_len] at this
      obtain rfl : x = .int ((ds[i] : Nat) : Int) := by
        unfold vn at hx
        rw [List.getElem?_map, List.getElem?_eq_getElem hi] at hx
        exact (Option.some.inj hx).symm
      have e64 : ((ds[i] : Nat) : Int) + 64 = ((ds[i] + 64 : Nat) : Int) := by omega
      simp only [r_seq, r_next, r_brk, r_cont, r_asg, r_name, r_ret, r_retN, r_drop, r_ifs, r_never, r_var, r_c, r_op, r_un, r_if, r_tst, r_b, r_not, r_and, r_or, r_andV, r_orV, r_notV, r_nil, r_cons, r_tup, r_lst, r_cb, r_call, r_bm, r_bm0, r_sl, r_nopart, r_part, r_rev, r_gnil, r_gcons, r_gsub, r_par, r_aug, r_chain, r_I0, r_I, r_U, r_ixd, r_lend, r_tupd, r_listd, r_sld, r_app, r_ext, r_reverse, r_setl, r_cat, r_int1, r_eqS, r_neS, scal_ii, scal_bb, scal_ss, at0, at1, at2, sq_lst, sq_tup, isLst_lst, List.getElem?_cons_zero, List.getElem?_cons_succ, List.set_cons_zero, List.set_cons_succ, V.int.injEq, V.bl.injEq, V.ref.injEq, V.str.injEq, HO.lst.injEq, HO.tup.injEq, Option.some.injEq, exists_eq_left', exists_eq_left, List.cons.injEq, and_true, true_and, decide_eq_true_eq, reduceCtorEq, false_and, exists_false, or_false, false_or, exists_const, and_assoc, exists_and_left, List.append_nil, ix0, ix1, ix2, cm_mod, cdw1009, cdw2003, cdw7, cdw64, cdw2, cm104729, cm2, cm3, upd_same, List.length_cons, List.length_nil, Int.reduceLT, Int.reduceLE, Nat.reduceAdd, Nat.reduceLeDiff, Nat.reduceLT, Int.reduceToNat, r_for1, r_forL, r_forT, r_lcL, r_lc1, r_yes, r_gtupD, wipe_0, wipe_1, List.cons_append, List.nil_append, r_forS, r_ipI, ite_false, ite_true, Bool.not_true, Bool.not_false, decide_true, decide_false, r_isd, r_islt, cD_ty, cD_ref, tD_non, tD_bl, tD_int, tD_str, tD_ref, tH_lst, tH_tup, tH_dK, tH_ins, ki_self, ki_int_bool, ki_non_int, ki_str_int, ki_lt_lst, ki_lt_tup, r_fld, r_sfld, HO.ins.injEq, cx_K, h2, e64, List.map_cons, List.map_nil]
      refine ⟨by rw [vn_len]; exact Nat.lt_of_le_of_lt (by simp [up]; omega : _ ≤ 100) (by decide), fun b o e => ?_, ?_, ?_⟩
      · rw [upd_ne (ne_new e HD)]
        exact s1 b o e
      · rw [upd_ne Dp.symm]
        exact h1
      · rw [upd_same, List.take_succ_eq_append_getElem hi, up_app, vn_app]
        rfl
    · rintro H1 ⟨s1, h1, h2⟩
      rw [vn_len, List.take_length] at h2
      have ha1 := s1 a _ ha
      simp only [r_seq, r_next, r_brk, r_cont, r_asg, r_name, r_ret, r_retN, r_drop, r_ifs, r_never, r_var, r_c, r_op, r_un, r_if, r_tst, r_b, r_not, r_and, r_or, r_andV, r_orV, r_notV, r_nil, r_cons, r_tup, r_lst, r_cb, r_call, r_bm, r_bm0, r_sl, r_nopart, r_part, r_rev, r_gnil, r_gcons, r_gsub, r_par, r_aug, r_chain, r_I0, r_I, r_U, r_ixd, r_lend, r_tupd, r_listd, r_sld, r_app, r_ext, r_reverse, r_setl, r_cat, r_int1, r_eqS, r_neS, scal_ii, scal_bb, scal_ss, at0, at1, at2, sq_lst, sq_tup, isLst_lst, List.getElem?_cons_zero, List.getElem?_cons_succ, List.set_cons_zero, List.set_cons_succ, V.int.injEq, V.bl.injEq, V.ref.injEq, V.str.injEq, HO.lst.injEq, HO.tup.injEq, Option.some.injEq, exists_eq_left', exists_eq_left, List.cons.injEq, and_true, true_and, decide_eq_true_eq, reduceCtorEq, false_and, exists_false, or_false, false_or, exists_const, and_assoc, exists_and_left, List.append_nil, ix0, ix1, ix2, cm_mod, cdw1009, cdw2003, cdw7, cdw64, cdw2, cm104729, cm2, cm3, upd_same, List.length_cons, List.length_nil, Int.reduceLT, Int.reduceLE, Nat.reduceAdd, Nat.reduceLeDiff, Nat.reduceLT, Int.reduceToNat, r_for1, r_forL, r_forT, r_lcL, r_lc1, r_yes, r_gtupD, wipe_0, wipe_1, List.cons_append, List.nil_append, r_forS, r_ipI, ite_false, ite_true, Bool.not_true, Bool.not_false, decide_true, decide_false, r_isd, r_islt, cD_ty, cD_ref, tD_non, tD_bl, tD_int, tD_str, tD_ref, tH_lst, tH_tup, tH_dK, tH_ins, ki_self, ki_int_bool, ki_non_int, ki_str_int, ki_lt_lst, ki_lt_tup, r_fld, r_sfld, HO.ins.injEq, cx_K, ha1, h2, hv, cut_last]
      intro p2 hp2
      have Dp2 : D ≠ p2 := ne_new h2 hp2
      simp only [r_seq, r_next, r_brk, r_cont, r_asg, r_name, r_ret, r_retN, r_drop, r_ifs, r_never, r_var, r_c, r_op, r_un, r_if, r_tst, r_b, r_not, r_and, r_or, r_andV, r_orV, r_notV, r_nil, r_cons, r_tup, r_lst, r_cb, r_call, r_bm, r_bm0, r_sl, r_nopart, r_part, r_rev, r_gnil, r_gcons, r_gsub, r_par, r_aug, r_chain, r_I0, r_I, r_U, r_ixd, r_lend, r_tupd, r_listd, r_sld, r_app, r_ext, r_reverse, r_setl, r_cat, r_int1, r_eqS, r_neS, scal_ii, scal_bb, scal_ss, at0, at1, at2, sq_lst, sq_tup, isLst_lst, List.getElem?_cons_zero, List.getElem?_cons_succ, List.set_cons_zero, List.set_cons_succ, V.int.injEq, V.bl.injEq, V.ref.injEq, V.str.injEq, HO.lst.injEq, HO.tup.injEq, Option.some.injEq, exists_eq_left', exists_eq_left, List.cons.injEq, and_true, true_and, decide_eq_true_eq, reduceCtorEq, false_and, exists_false, or_false, false_or, exists_const, and_assoc, exists_and_left, List.append_nil, ix0, ix1, ix2, cm_mod, cdw1009, cdw2003, cdw7, cdw64, cdw2, cm104729, cm2, cm3, upd_same, List.length_cons, List.length_nil, Int.reduceLT, Int.reduceLE, Nat.reduceAdd, Nat.reduceLeDiff, Nat.reduceLT, Int.reduceToNat, r_for1, r_forL, r_forT, r_lcL, r_lc1, r_yes, r_gtupD, wipe_0, wipe_1, List.cons_append, List.nil_append, r_forS, r_ipI, ite_false, ite_true, Bool.not_true, Bool.not_false, decide_true, decide_false, r_isd, r_islt, cD_ty, cD_ref, tD_non, tD_bl, tD_int, tD_str, tD_ref, tH_lst, tH_tup, tH_dK, tH_ins, ki_self, ki_int_bool, ki_non_int, ki_str_int, ki_lt_lst, ki_lt_tup, r_fld, r_sfld, HO.ins.injEq, cx_K, une Dp2, h2]
      refine ⟨by rw [vn_len]; exact Nat.le_trans (by simp [up]; omega : _ ≤ 1000) (by decide), fun p3 hp3 => ?_⟩
      have s2 : Same H (upd (upd H1 p2 (.lst [.int (d : Int)])) p3 (.lst (vn (up ds) ++ [.int (d : Int)]))) := Same.new' (Same.new' s1 hp2) hp3
      refine k p3 _ ?_ s2 (by rw [upd_same, vn_app]; rfl)
      exact (Same.new' s1 hp2).free hp3
end
end C48

set_option maxHeartbeats 1000000
namespace C48
open PySem PySem.Spec PyProof.Rows L2
/-! ### rows of lines -/
structure LR where
  lo : Nat
  hi : Nat
  ln : Option Int
def lnV : Option Int → V
  | none => .non
  | some i => .int i
def lv (R : LR) : List V := [.int (R.lo : Int), .int (R.hi : Int), lnV R.ln]
def LRows (H : Hp) (F : Addr) (Rs : List LR) : Prop := ∃ refs : List Addr, H F = some (.lst (refs.map V.ref)) ∧ Paired (fun r R => H r = some (.tup (lv R))) refs Rs
def LRowsS (H : Hp) (F : Addr) (Rs : List LR) : Prop := ∃ refs : List Addr, sq (H F) = some (refs.map V.ref) ∧ Paired (fun r R => H r = some (.tup (lv R))) refs Rs
/-- one row more, joined to the last one if the line is the same -/
def jstep (acc : List LR) (R : LR) : List LR := match acc.getLast? with
  | some q => if q.ln = R.ln then acc.dropLast ++ [⟨q.lo, R.hi, R.ln⟩] else acc ++ [R]
  | none => [R]
def joinL (Rs : List LR) : List LR := Rs.foldl jstep []
theorem jstep_nil (R : LR) : jstep [] R = [R] := rfl
theorem jstep_snoc (acc : List LR) (q R : LR) : jstep (acc ++ [q]) R = if q.ln = R.ln then acc ++ [⟨q.lo, R.hi, R.ln⟩] else acc ++ [q] ++ [R] := by
  unfold jstep
  rw [List.getLast?_concat]
  simp
theorem joinL_snoc (Rs : List LR) (R : LR) : joinL (Rs ++ [R]) = jstep (joinL Rs) R := by
  unfold joinL
  rw [List.foldl_append]
  rfl
theorem jstep_len (acc : List LR) (R : LR) : (jstep acc R).length ≤ acc.length + 1 := by
  rcases List.eq_nil_or_concat acc with rfl | ⟨xs, q, rfl⟩
  · simp [jstep_nil]
  · rw [List.concat_eq_append, jstep_snoc]
    split <;> simp
theorem fold_len : ∀ (Rs acc : List LR), (Rs.foldl jstep acc).length ≤ acc.length + Rs.length
  | [], acc => by simp
  | R :: Rs, acc => by
    have h1 := fold_len Rs (jstep acc R)
    have h2 := jstep_len acc R
    rw [List.foldl_cons, List.length_cons]
    omega
theorem joinL_len (Rs : List LR) : (joinL Rs).length ≤ Rs.length := by
  have := fold_len Rs []
  simpa [joinL] using this
/-- two rows of one line that follow one another count as one -/
theorem jstep_two (acc : List LR) (lo mid hi : Nat) (l : Option Int) : jstep (jstep acc ⟨lo, mid, l⟩) ⟨mid, hi, l⟩ = jstep acc ⟨lo, hi, l⟩ := by
  rcases List.eq_nil_or_concat acc with rfl | ⟨xs, q, rfl⟩
  · rw [jstep_nil, jstep_nil]
    rw [show ([⟨lo, mid, l⟩] : List LR) = [] ++ [⟨lo, mid, l⟩] from rfl, jstep_snoc]
    simp
  · rw [List.concat_eq_append, jstep_snoc, jstep_snoc]
    by_cases e : q.ln = l
    · rw [if_pos e, if_pos e, jstep_snoc, if_pos rfl]
    · rw [if_neg e, if_neg e, jstep_snoc, if_pos rfl]
def lnD : Option Int → PyData
  | none => .none
  | some i => .int i
theorem dp_ln {K : PySem.W.Frag} {H : Hp} (l : Option Int) : Dp K H (lnV l) (lnD l) := by
  cases l with
  | none => exact .non
  | some i => exact .int i
theorem shaped_ln (l : Option Int) : SeqAt.shaped (lnD l) = true := by
  cases l <;> rfl
theorem eqv_ln (a b : Option Int) : PyData.eqv (lnD a) (lnD b) = decide (a = b) := by
  cases a with
  | none => cases b <;> simp [lnD, PyData.eqv]
  | some i => cases b with
    | none => simp [lnD, PyData.eqv]
    | some j =>
      simp only [lnD, PyData.eqv, Option.some.injEq]
      rfl
theorem eq_ln {K : PySem.W.Frag} {H : Hp} {a b : Option Int} {Q : VK} (k : Q (.bl (decide (a = b))) H) : rEqD K (lnV a) (lnV b) H Q := ⟨_, _, dp_ln a, dp_ln b, shaped_ln a, shaped_ln b, by rw [eqv_ln]; exact k⟩
theorem ix_last (n : Nat) : ixN (n + 1) (-1) = some n := by
  unfold ixN
  rw [if_neg (by decide), if_pos (by omega)]
  congr 1
  omega
theorem at_last {xs : List V} {x : V} : atI (xs ++ [x]) (-1) = some x := by
  unfold atI
  rw [List.length_append, List.length_singleton, ix_last]
  simp
theorem set_last {xs : List V} {x y : V} : (xs ++ [x]).set xs.length y = xs ++ [y] := by
  rw [List.set_append_right _ _ (Nat.le_refl _)]
  simp
theorem LRows.same {H H' : Hp} {F : Addr} {Rs : List LR} (r : LRows H F Rs) (s : Same H H') : LRows H' F Rs := by
  obtain ⟨refs, e, p⟩ := r
  exact ⟨refs, s _ _ e, Paired.map' p fun a b h => s _ _ h⟩
theorem LRows.s {H : Hp} {F : Addr} {Rs : List LR} (r : LRows H F Rs) : LRowsS H F Rs := by
  obtain ⟨refs, e, p⟩ := r
  exact ⟨refs, by rw [e]; rfl, p⟩
def spJoined : Sp := fun vs H Q _ => ∃ (a : Addr) (Rs : List LR), vs = [.ref a] ∧ LRowsS H a Rs ∧ Rs.length ≤ 100000 ∧ ∀ F H', H F = none → Same H H' → LRows H' F (joinL Rs) → Q (.ref F) H'
def lvJoined (H : Hp) (a F : Addr) (Rs : List LR) (i : Nat) (σ : L2.St) (H' : Hp) : Prop := ∃ v1 v2 v3 : Option V, σ = [some (.ref a), some (.ref F), v1, v2, v3] ∧ Same H H' ∧ LRows H' F (joinL (Rs.take i))
/-- the step on the heap: the found list is written, a new tuple is laid -/
theorem rows_put {H0 H : Hp} {F t : Addr} {l : List V} {refs : List Addr} {acc : List LR} {R : LR} (nF : H0 F = none) (s : Same H0 H) (hF : H F = some (.lst l)) (p : Paired (fun r R => H r = some (.tup (lv R))) refs acc) (ht : H t = none) :
    Same H0 (L2.upd (L2.upd H t (.tup (lv R))) F (.lst (refs.map V.ref ++ [.ref t]))) ∧ LRows (L2.upd (L2.upd H t (.tup (lv R))) F (.lst (refs.map V.ref ++ [.ref t]))) F (acc ++ [R]) := by
  have tF : t ≠ F := new_ne hF ht
  have st : ∀ r (Q : LR), H r = some (.tup (lv Q)) → L2.upd (L2.upd H t (.tup (lv R))) F (.lst (refs.map V.ref ++ [.ref t])) r = some (.tup (lv Q)) := fun r Q e => by
    have rF : r ≠ F := fun z => by rw [z, hF] at e; cases e
    rw [upd_ne rF, upd_ne (ne_new e ht)]
    exact e
  refine ⟨fun b o e => ?_, refs ++ [t], by rw [upd_same, List.map_append]; rfl, Paired.snoc' (Paired.map' p fun a b h => st a b h) ?_⟩
  · rw [upd_ne (ne_new e nF), upd_ne (ne_new (s b o e) ht)]
    exact s b o e
  · rw [upd_ne tF]
    exact upd_same
theorem Paired.snocR {α β : Type} {F : α → β → Prop} : ∀ {l : List α} {ys : List β} {y : β}, Paired F l (ys ++ [y]) → ∃ xs x, l = xs ++ [x] ∧ Paired F xs ys ∧ F x y
  | _, [], _, .cons h .nil => ⟨[], _, rfl, .nil, h⟩
  | _, _ :: _, _, .cons h t => by
    obtain ⟨xs, x, rfl, p, e⟩ := Paired.snocR t
    exact ⟨_ :: xs, x, rfl, .cons h p, e⟩
end C48

set_option maxHeartbeats 1000000
namespace C48
open PySem PySem.Spec PyProof.Rows L2
theorem hu64 {k : Nat} {A : Around} (hr : Room k A) : A.units + 64 < cLine := by
  have := hr.un
  omega
theorem nextJ {Rs : List LR} {i : Nat} (h : i < Rs.length) : joinL (Rs.take (i + 1)) = jstep (joinL (Rs.take i)) Rs[i] := by
  rw [← joinL_snoc, List.take_append_getElem h]
section
variable {P : Program} {w : World} {K : PySem.W.Frag} {mg : Str → Option Value} {base : Heap} {f : Addr} {fd : FuncData}
abbrev sjoined : Stmt := top 33
theorem scjoined : FnScope ["rows", "found", "begin", "end", "line"] ["rows"] (defScope sjoined) := ⟨rfl, rfl, rfl, by decide +kernel, rfl, by decide +kernel, by decide +kernel⟩

abbrev sljoined : Stmt := top 45
theorem scljoined : FnScope ["_law_some", "_law_found", "_law_low", "_law_high", "_law_line"] ["_law_some"] (defScope sljoined) := ⟨rfl, rfl, rfl, by decide +kernel, rfl, by decide +kernel, by decide +kernel⟩

theorem ok_joined (T : Txt mg) (F : FnP K "joined" "joined" sjoined f fd) : FnOk P w K mg base CX0 1 f fd ["rows"] spJoined := by
  refine F.ok scjoined (fun vs H Q E h => ?_) (fun cdv A outer s H vs Q E hr h => ?_)
  · obtain ⟨a, Rs, rfl, _⟩ := h
    rfl
  · obtain ⟨a, Rs, rfl, ⟨refs, ha, hP⟩, hl, k⟩ := h
    refine ⟨_, PSs.nox (pss_cons (ps_set (i := 1) scjoined.nd rfl (Or.inl rfl) (pe_lst pa_nil))
  (pss_cons (ps_for PassesOwn.never rfl (pi_seqV 0) (pg_tupD (n := 3) rfl (pgs_cons (pg_name (i := 2) scjoined.nd rfl (Or.inl rfl)) (pgs_cons (pg_name (i := 3) scjoined.nd rfl (Or.inl rfl)) (pgs_cons (pg_name (i := 4) scjoined.nd rfl (Or.inl rfl)) pgs_nil))))
    (pss_one (ps_if (PW.pt (pw_and (pt_truth (pv 1) (by intro _; rfl)) (pw_and1 (pt_cmpR (op_eqD (hu64 hr)) (pe_ix ix_d (pe_ix ix_d (pv 1) (pe_un un_neg pe_int) (fun _ _ => rfl)) pe_int (fun _ _ => rfl)) (pv 4) (nomark _)))))
    (pss_one (ps_asg (pe_tup (pa_cons (pe_ix ix_d (pe_ix ix_d (pv 1) (pe_un un_neg pe_int) (fun _ _ => rfl)) pe_int (fun _ _ => rfl)) (pa_cons (pv 3) (pa_cons (pv 4) pa_nil)))) (pg_sub (pv 1) (pe_un un_neg pe_int) set_list)))
    (pss_one (ps_expr (pe_bm PySem.F.plainAttrs_list PySem.F.slot_list_append PySem.F.type_list_append mt_append (pv 1) (pa_cons (pe_tup (pa_cons (pv 2) (pa_cons (pv 3) (pa_cons (pv 4) pa_nil)))) pa_nil)))))))
  (pss_one (ps_ret (pv 1))))), ?_⟩
    show (_ : TS) _ [some (.ref a), none, none, none, none] H
    simp only [r_seq, r_next, r_brk, r_cont, r_asg, r_name, r_ret, r_retN, r_drop, r_ifs, r_never, r_var, r_c, r_op, r_un, r_if, r_tst, r_b, r_not, r_and, r_or, r_andV, r_orV, r_notV, r_nil, r_cons, r_tup, r_lst, r_cb, r_call, r_bm, r_bm0, r_sl, r_nopart, r_part, r_rev, r_gnil, r_gcons, r_gsub, r_par, r_aug, r_chain, r_I0, r_I, r_U, r_ixd, r_lend, r_tupd, r_listd, r_sld, r_app, r_ext, r_reverse, r_setl, r_cat, r_int1, r_eqS, r_neS, scal_ii, scal_bb, scal_ss, at0, at1, at2, sq_lst, sq_tup, isLst_lst, List.getElem?_cons_zero, List.getElem?_cons_succ, List.set_cons_zero, List.set_cons_succ, V.int.injEq, V.bl.injEq, V.ref.injEq, V.str.injEq, HO.lst.injEq, HO.tup.injEq, Option.some.injEq, exists_eq_left', exists_eq_left, List.cons.injEq, and_true, true_and, decide_eq_true_eq, reduceCtorEq, false_and, exists_false, or_false, false_or, exists_const, and_assoc, exists_and_left, List.append_nil, ix0, ix1, ix2, cm_mod, cdw1009, cdw2003, cdw7, cdw64, cdw2, cm104729, cm2, cm3, upd_same, List.length_cons, List.length_nil, Int.reduceLT, Int.reduceLE, Nat.reduceAdd, Nat.reduceLeDiff, Nat.reduceLT, Int.reduceToNat, r_for1, r_forL, r_forT, r_lcL, r_lc1, r_yes, r_gtupD, wipe_0, wipe_1, List.cons_append, List.nil_append, r_forS, r_ipI, ite_false, ite_true, Bool.not_true, Bool.not_false, decide_true, decide_false, r_isd, r_islt, cD_ty, cD_ref, tD_non, tD_bl, tD_int, tD_str, tD_ref, tH_lst, tH_tup, tH_dK, tH_ins, ki_self, ki_int_bool, ki_non_int, ki_str_int, ki_lt_lst, ki_lt_tup, r_fld, r_sfld, HO.ins.injEq, cx_K]
    refine ⟨szl (by decide), fun F hF => ?_⟩
    have aF : a ≠ F := fun z => by
      rw [z, hF] at ha
      cases ha
    refine lp_seq (xs := refs.map V.ref) (by rw [upd_ne aF]; exact ha) (lvJoined H a F Rs) ⟨none, none, none, rfl, Same.new' (Same.refl H) hF, [], by rw [upd_same]; rfl, by rw [List.take_zero]; exact .nil⟩ ?_ ?_ ?_
    · rintro i σ H1 ⟨_, _, _, _, s1, _⟩
      rw [upd_ne aF]
      cases e : H a with
      | none =>
        rw [e] at ha
        cases ha
      | some o => exact s1 a o e
    · rintro i x σ H1 hx ⟨v1, v2, v3, rfl, s1, accR, hacc, pacc⟩
      have hir : i < refs.length := by
        have := (List.getElem?_eq_some_iff.mp hx).1
        rwa [List.length_map] at this
      have hiR : i < Rs.length := by rw [← Paired.length hP]; exact hir
      obtain rfl : x = .ref refs[i] := by
        rw [List.getElem?_map, List.getElem?_eq_getElem hir] at hx
        exact (Option.some.inj hx).symm
      have hrow : H1 refs[i] = some (.tup (lv Rs[i])) := s1 _ _ (Paired.at' hP hir hiR)
      have nx := nextJ hiR
      obtain ⟨R, hRe⟩ : ∃ R, R = Rs[i] := ⟨_, rfl⟩
      rw [← hRe] at hrow nx
      have la : (joinL (Rs.take i)).length ≤ 100000 := Nat.le_trans (joinL_len _) (by rw [List.length_take]; omega)
      obtain ⟨acc, hac⟩ : ∃ acc, acc = joinL (Rs.take i) := ⟨_, rfl⟩
      rw [← hac] at pacc nx la
      have lr := Paired.length pacc
      simp only [r_seq, r_next, r_brk, r_cont, r_asg, r_name, r_ret, r_retN, r_drop, r_ifs, r_never, r_var, r_c, r_op, r_un, r_if, r_tst, r_b, r_not, r_and, r_or, r_andV, r_orV, r_notV, r_nil, r_cons, r_tup, r_lst, r_cb, r_call, r_bm, r_bm0, r_sl, r_nopart, r_part, r_rev, r_gnil, r_gcons, r_gsub, r_par, r_aug, r_chain, r_I0, r_I, r_U, r_ixd, r_lend, r_tupd, r_listd, r_sld, r_app, r_ext, r_reverse, r_setl, r_cat, r_int1, r_eqS, r_neS, scal_ii, scal_bb, scal_ss, at0, at1, at2, sq_lst, sq_tup, isLst_lst, List.getElem?_cons_zero, List.getElem?_cons_succ, List.set_cons_zero, List.set_cons_succ, V.int.injEq, V.bl.injEq, V.ref.injEq, V.str.injEq, HO.lst.injEq, HO.tup.injEq, Option.some.injEq, exists_eq_left', exists_eq_left, List.cons.injEq, and_true, true_and, decide_eq_true_eq, reduceCtorEq, false_and, exists_false, or_false, false_or, exists_const, and_assoc, exists_and_left, List.append_nil, ix0, ix1, ix2, cm_mod, cdw1009, cdw2003, cdw7, cdw64, cdw2, cm104729, cm2, cm3, upd_same, List.length_cons, List.length_nil, Int.reduceLT, Int.reduceLE, Nat.reduceAdd, Nat.reduceLeDiff, Nat.reduceLT, Int.reduceToNat, r_for1, r_forL, r_forT, r_lcL, r_lc1, r_yes, r_gtupD, wipe_0, wipe_1, List.cons_append, List.nil_append, r_forS, r_ipI, ite_false, ite_true, Bool.not_true, Bool.not_false, decide_true, decide_false, r_isd, r_islt, cD_ty, cD_ref, tD_non, tD_bl, tD_int, tD_str, tD_ref, tH_lst, tH_tup, tH_dK, tH_ins, ki_self, ki_int_bool, ki_non_int, ki_str_int, ki_lt_lst, ki_lt_tup, r_fld, r_sfld, HO.ins.injEq, cx_K, hrow, lv, hacc]
      have app : ∀ {t : Addr}, H1 t = none → lvJoined H a F Rs (i + 1) [some (.ref a), some (.ref F), some (.int (R.lo : Int)), some (.int (R.hi : Int)), some (lnV R.ln)] (L2.upd (L2.upd H1 t (.tup [.int (R.lo : Int), .int (R.hi : Int), lnV R.ln])) F (.lst (accR.map V.ref ++ [.ref t]))) ∨ ¬ (jstep acc R = acc ++ [R]) := by
        intro t ht
        by_cases c : jstep acc R = acc ++ [R]
        · obtain ⟨p1, p2⟩ := rows_put (R := R) hF s1 hacc pacc ht
          exact .inl ⟨_, _, _, rfl, p1, by rw [nx, c]; exact p2⟩
        · exact .inr c
      rcases List.eq_nil_or_concat acc with rfl | ⟨xs, q, rfl⟩
      · obtain rfl : accR = [] := List.length_eq_zero_iff.mp lr
        refine ⟨false, .inl ⟨[], SqL.of hacc, rfl⟩, ?_⟩
        simp only [r_seq, r_next, r_brk, r_cont, r_asg, r_name, r_ret, r_retN, r_drop, r_ifs, r_never, r_var, r_c, r_op, r_un, r_if, r_tst, r_b, r_not, r_and, r_or, r_andV, r_orV, r_notV, r_nil, r_cons, r_tup, r_lst, r_cb, r_call, r_bm, r_bm0, r_sl, r_nopart, r_part, r_rev, r_gnil, r_gcons, r_gsub, r_par, r_aug, r_chain, r_I0, r_I, r_U, r_ixd, r_lend, r_tupd, r_listd, r_sld, r_app, r_ext, r_reverse, r_setl, r_cat, r_int1, r_eqS, r_neS, scal_ii, scal_bb, scal_ss, at0, at1, at2, sq_lst, sq_tup, isLst_lst, List.getElem?_cons_zero, List.getElem?_cons_succ, List.set_cons_zero, List.set_cons_succ, V.int.injEq, V.bl.injEq, V.ref.injEq, V.str.injEq, HO.lst.injEq, HO.tup.injEq, Option.some.injEq, exists_eq_left', exists_eq_left, List.cons.injEq, and_true, true_and, decide_eq_true_eq, reduceCtorEq, false_and, exists_false, or_false, false_or, exists_const, and_assoc, exists_and_left, List.append_nil, ix0, ix1, ix2, cm_mod, cdw1009, cdw2003, cdw7, cdw64, cdw2, cm104729, cm2, cm3, upd_same, List.length_cons, List.length_nil, Int.reduceLT, Int.reduceLE, Nat.reduceAdd, Nat.reduceLeDiff, Nat.reduceLT, Int.reduceToNat, r_for1, r_forL, r_forT, r_lcL, r_lc1, r_yes, r_gtupD, wipe_0, wipe_1, List.cons_append, List.nil_append, r_forS, r_ipI, ite_false, ite_true, Bool.not_true, Bool.not_false, decide_true, decide_false, r_isd, r_islt, cD_ty, cD_ref, tD_non, tD_bl, tD_int, tD_str, tD_ref, tH_lst, tH_tup, tH_dK, tH_ins, ki_self, ki_int_bool, ki_non_int, ki_str_int, ki_lt_lst, ki_lt_tup, r_fld, r_sfld, HO.ins.injEq, cx_K]
        refine ⟨tyl hacc, szl (by decide), fun t ht => ⟨_, by rw [upd_ne (ne_new hacc ht)]; exact hacc, by decide, ?_⟩⟩
        exact (app ht).resolve_right fun z => z (jstep_nil R)
      · rw [List.concat_eq_append] at pacc nx la app
        obtain ⟨rs, rq, rfl, prs, hq⟩ := Paired.snocR pacc
        have hq1 : H1 rq = some (.tup [.int (q.lo : Int), .int (q.hi : Int), lnV q.ln]) := hq
        have eA : (rs ++ [rq]).map V.ref = rs.map V.ref ++ [.ref rq] := by simp
        have hacc' := hacc
        rw [eA] at hacc'
        refine ⟨true, .inl ⟨_, SqL.of hacc', by simp⟩, ?_⟩
        simp only [r_seq, r_next, r_brk, r_cont, r_asg, r_name, r_ret, r_retN, r_drop, r_ifs, r_never, r_var, r_c, r_op, r_un, r_if, r_tst, r_b, r_not, r_and, r_or, r_andV, r_orV, r_notV, r_nil, r_cons, r_tup, r_lst, r_cb, r_call, r_bm, r_bm0, r_sl, r_nopart, r_part, r_rev, r_gnil, r_gcons, r_gsub, r_par, r_aug, r_chain, r_I0, r_I, r_U, r_ixd, r_lend, r_tupd, r_listd, r_sld, r_app, r_ext, r_reverse, r_setl, r_cat, r_int1, r_eqS, r_neS, scal_ii, scal_bb, scal_ss, at0, at1, at2, sq_lst, sq_tup, isLst_lst, List.getElem?_cons_zero, List.getElem?_cons_succ, List.set_cons_zero, List.set_cons_succ, V.int.injEq, V.bl.injEq, V.ref.injEq, V.str.injEq, HO.lst.injEq, HO.tup.injEq, Option.some.injEq, exists_eq_left', exists_eq_left, List.cons.injEq, and_true, true_and, decide_eq_true_eq, reduceCtorEq, false_and, exists_false, or_false, false_or, exists_const, and_assoc, exists_and_left, List.append_nil, ix0, ix1, ix2, cm_mod, cdw1009, cdw2003, cdw7, cdw64, cdw2, cm104729, cm2, cm3, upd_same, List.length_cons, List.length_nil, Int.reduceLT, Int.reduceLE, Nat.reduceAdd, Nat.reduceLeDiff, Nat.reduceLT, Int.reduceToNat, r_for1, r_forL, r_forT, r_lcL, r_lc1, r_yes, r_gtupD, wipe_0, wipe_1, List.cons_append, List.nil_append, r_forS, r_ipI, ite_false, ite_true, Bool.not_true, Bool.not_false, decide_true, decide_false, r_isd, r_islt, cD_ty, cD_ref, tD_non, tD_bl, tD_int, tD_str, tD_ref, tH_lst, tH_tup, tH_dK, tH_ins, ki_self, ki_int_bool, ki_non_int, ki_str_int, ki_lt_lst, ki_lt_tup, r_fld, r_sfld, HO.ins.injEq, cx_K, eA, at_last, hq1]
        refine eq_ln ?_
        by_cases c : q.ln = R.ln
        · simp only [r_seq, r_next, r_brk, r_cont, r_asg, r_name, r_ret, r_retN, r_drop, r_ifs, r_never, r_var, r_c, r_op, r_un, r_if, r_tst, r_b, r_not, r_and, r_or, r_andV, r_orV, r_notV, r_nil, r_cons, r_tup, r_lst, r_cb, r_call, r_bm, r_bm0, r_sl, r_nopart, r_part, r_rev, r_gnil, r_gcons, r_gsub, r_par, r_aug, r_chain, r_I0, r_I, r_U, r_ixd, r_lend, r_tupd, r_listd, r_sld, r_app, r_ext, r_reverse, r_setl, r_cat, r_int1, r_eqS, r_neS, scal_ii, scal_bb, scal_ss, at0, at1, at2, sq_lst, sq_tup, isLst_lst, List.getElem?_cons_zero, List.getElem?_cons_succ, List.set_cons_zero, List.set_cons_succ, V.int.injEq, V.bl.injEq, V.ref.injEq, V.str.injEq, HO.lst.injEq, HO.tup.injEq, Option.some.injEq, exists_eq_left', exists_eq_left, List.cons.injEq, and_true, true_and, decide_eq_true_eq, reduceCtorEq, false_and, exists_false, or_false, false_or, exists_const, and_assoc, exists_and_left, List.append_nil, ix0, ix1, ix2, cm_mod, cdw1009, cdw2003, cdw7, cdw64, cdw2, cm104729, cm2, cm3, upd_same, List.length_cons, List.length_nil, Int.reduceLT, Int.reduceLE, Nat.reduceAdd, Nat.reduceLeDiff, Nat.reduceLT, Int.reduceToNat, r_for1, r_forL, r_forT, r_lcL, r_lc1, r_yes, r_gtupD, wipe_0, wipe_1, List.cons_append, List.nil_append, r_forS, r_ipI, ite_false, ite_true, Bool.not_true, Bool.not_false, decide_true, decide_false, r_isd, r_islt, cD_ty, cD_ref, tD_non, tD_bl, tD_int, tD_str, tD_ref, tH_lst, tH_tup, tH_dK, tH_ins, ki_self, ki_int_bool, ki_non_int, ki_str_int, ki_lt_lst, ki_lt_tup, r_fld, r_sfld, HO.ins.injEq, cx_K, c, eA, at_last, hq1, hacc']
          refine ⟨szl (by decide), fun t ht => ⟨_, by rw [upd_ne (ne_new hacc' ht)]; exact hacc', rs.length, by rw [List.length_append, List.length_map, List.length_singleton]; exact ix_last _, ?_⟩⟩
          have es : (rs.map V.ref ++ [V.ref rq]).set rs.length (.ref t) = rs.map V.ref ++ [V.ref t] := by
            have := set_last (xs := rs.map V.ref) (x := V.ref rq) (y := V.ref t)
            rwa [List.length_map] at this
          rw [es]
          obtain ⟨p1, p2⟩ := rows_put (R := ⟨q.lo, R.hi, R.ln⟩) hF s1 hacc' prs ht
          exact ⟨_, _, _, rfl, p1, by rw [nx, jstep_snoc, if_pos c]; exact p2⟩
        · simp only [r_seq, r_next, r_brk, r_cont, r_asg, r_name, r_ret, r_retN, r_drop, r_ifs, r_never, r_var, r_c, r_op, r_un, r_if, r_tst, r_b, r_not, r_and, r_or, r_andV, r_orV, r_notV, r_nil, r_cons, r_tup, r_lst, r_cb, r_call, r_bm, r_bm0, r_sl, r_nopart, r_part, r_rev, r_gnil, r_gcons, r_gsub, r_par, r_aug, r_chain, r_I0, r_I, r_U, r_ixd, r_lend, r_tupd, r_listd, r_sld, r_app, r_ext, r_reverse, r_setl, r_cat, r_int1, r_eqS, r_neS, scal_ii, scal_bb, scal_ss, at0, at1, at2, sq_lst, sq_tup, isLst_lst, List.getElem?_cons_zero, List.getElem?_cons_succ, List.set_cons_zero, List.set_cons_succ, V.int.injEq, V.bl.injEq, V.ref.injEq, V.str.injEq, HO.lst.injEq, HO.tup.injEq, Option.some.injEq, exists_eq_left', exists_eq_left, List.cons.injEq, and_true, true_and, decide_eq_true_eq, reduceCtorEq, false_and, exists_false, or_false, false_or, exists_const, and_assoc, exists_and_left, List.append_nil, ix0, ix1, ix2, cm_mod, cdw1009, cdw2003, cdw7, cdw64, cdw2, cm104729, cm2, cm3, upd_same, List.length_cons, List.length_nil, Int.reduceLT, Int.reduceLE, Nat.reduceAdd, Nat.reduceLeDiff, Nat.reduceLT, Int.reduceToNat, r_for1, r_forL, r_forT, r_lcL, r_lc1, r_yes, r_gtupD, wipe_0, wipe_1, List.cons_append, List.nil_append, r_forS, r_ipI, ite_false, ite_true, Bool.not_true, Bool.not_false, decide_true, decide_false, r_isd, r_islt, cD_ty, cD_ref, tD_non, tD_bl, tD_int, tD_str, tD_ref, tH_lst, tH_tup, tH_dK, tH_ins, ki_self, ki_int_bool, ki_non_int, ki_str_int, ki_lt_lst, ki_lt_tup, r_fld, r_sfld, HO.ins.injEq, cx_K, c, eA, at_last, hq1, hacc']
          refine ⟨tyl hacc, szl (by decide), fun t ht => ⟨_, by rw [upd_ne (ne_new hacc ht)]; exact hacc, Nat.lt_of_le_of_lt (by rw [List.length_map, Paired.length pacc]; exact la) (by decide), ?_⟩⟩
          exact (app ht).resolve_right fun z => z (by rw [jstep_snoc, if_neg c])
    · rintro σ H1 ⟨v1, v2, v3, rfl, s1, r1⟩
      rw [List.length_map, Paired.length hP, List.take_length] at r1
      simp only [r_seq, r_next, r_brk, r_cont, r_asg, r_name, r_ret, r_retN, r_drop, r_ifs, r_never, r_var, r_c, r_op, r_un, r_if, r_tst, r_b, r_not, r_and, r_or, r_andV, r_orV, r_notV, r_nil, r_cons, r_tup, r_lst, r_cb, r_call, r_bm, r_bm0, r_sl, r_nopart, r_part, r_rev, r_gnil, r_gcons, r_gsub, r_par, r_aug, r_chain, r_I0, r_I, r_U, r_ixd, r_lend, r_tupd, r_listd, r_sld, r_app, r_ext, r_reverse, r_setl, r_cat, r_int1, r_eqS, r_neS, scal_ii, scal_bb, scal_ss, at0, at1, at2, sq_lst, sq_tup, isLst_lst, List.getElem?_cons_zero, List.getElem?_cons_succ, List.set_cons_zero, List.set_cons_succ, V.int.injEq, V.bl.injEq, V.ref.injEq, V.str.injEq, HO.lst.injEq, HO.tup.injEq, Option.some.injEq, exists_eq_left', exists_eq_left, List.cons.injEq, and_true, true_and, decide_eq_true_eq, reduceCtorEq, false_and, exists_false, or_false, false_or, exists_const, and_assoc, exists_and_left, List.append_nil, ix0, ix1, ix2, cm_mod, cdw1009, cdw2003, cdw7, cdw64, cdw2, cm104729, cm2, cm3, upd_same, List.length_cons, List.length_nil, Int.reduceLT, Int.reduceLE, Nat.reduceAdd, Nat.reduceLeDiff, Nat.reduceLT, Int.reduceToNat, r_for1, r_forL, r_forT, r_lcL, r_lc1, r_yes, r_gtupD, wipe_0, wipe_1, List.cons_append, List.nil_append, r_forS, r_ipI, ite_false, ite_true, Bool.not_true, Bool.not_false, decide_true, decide_false, r_isd, r_islt, cD_ty, cD_ref, tD_non, tD_bl, tD_int, tD_str, tD_ref, tH_lst, tH_tup, tH_dK, tH_ins, ki_self, ki_int_bool, ki_non_int, ki_str_int, ki_lt_lst, ki_lt_tup, r_fld, r_sfld, HO.ins.injEq, cx_K]
      exact k F H1 hF s1 r1
end
/-- rows as data -/
def lrD (R : LR) : PyData := .tuple [.int (R.lo : Int), .int (R.hi : Int), lnD R.ln]
theorem dp_lr {K : PySem.W.Frag} {H : Hp} {r : Addr} {R : LR} (h : H r = some (.tup (lv R))) : Dp K H (.ref r) (lrD R) := .tup (SqT.of h) (.cons (.int _) (.cons (.int _) (.cons (dp_ln _) .nil)))
theorem dp_lrs {K : PySem.W.Frag} {H : Hp} : ∀ {refs : List Addr} {Rs : List LR}, Paired (fun r R => H r = some (.tup (lv R))) refs Rs → DpAll K H (refs.map V.ref) (Rs.map lrD)
  | _, _, .nil => .nil
  | _, _, .cons h t => .cons (dp_lr h) (dp_lrs t)
theorem lay_ln (l : Option Int) : PyData.canLay0 (lnD l) = true := by cases l <;> simp [lnD, PyData.canLay0]
theorem dep_ln (l : Option Int) : PyData.depth (lnD l) = 0 := by cases l <;> simp [lnD, PyData.depth]
theorem lay_lrs : ∀ Rs : List LR, PyData.canLayAll0 (Rs.map lrD) = true
  | [] => by simp [PyData.canLayAll0]
  | R :: Rs => by
    simp only [List.map_cons, lrD, PyData.canLayAll0, PyData.canLay0, lay_ln, lay_lrs Rs]
    rfl
theorem dep_lrs : ∀ Rs : List LR, PyData.depthAll (Rs.map lrD) ≤ 1
  | [] => by simp [PyData.depthAll]
  | R :: Rs => by
    have := dep_lrs Rs
    simp only [List.map_cons, lrD, PyData.depthAll, PyData.depth, dep_ln]
    exact Nat.max_le.mpr ⟨by decide, this⟩
theorem shaped_lrs (Rs : List LR) : SeqAt.shaped (.list (Rs.map lrD)) = true := by
  have := dep_lrs Rs
  unfold SeqAt.shaped
  rw [Bool.and_eq_true]
  exact ⟨by simp only [PyData.canLay0, lay_lrs], decide_eq_true (by simp only [PyData.depth]; omega)⟩
theorem ne_none {K : PySem.W.Frag} {H : Hp} {F e : Addr} {refs : List Addr} {Rs : List LR} {Q : VK} (hF : H F = some (.lst (refs.map V.ref))) (p : Paired (fun r R => H r = some (.tup (lv R))) refs Rs) (he : H e = some (.lst [])) (k : Q (.bl (!Rs.isEmpty)) H) : rNeD K (.ref F) (.ref e) H Q := by
  refine ⟨.list (Rs.map lrD), .list [], .lst (SqL.of hF) (dp_lrs p), .lst (SqL.of he) .nil, shaped_lrs Rs, by decide, ?_⟩
  rw [show PyData.eqv (.list (Rs.map lrD)) (.list []) = Rs.isEmpty from by cases Rs <;> simp [PyData.eqv, PyData.eqvAll]]
  exact k
def spJoinedL : Sp := fun vs H Q _ => ∃ (a : Addr) (Rs : List LR), vs = [.ref a] ∧ LRows H a Rs ∧ Rs.length ≤ 100000 ∧ ∀ F H', H F = none → Same H H' → LRows H' F (joinL Rs) → Q (.ref F) H'
section
variable {P : Program} {w : World} {K : PySem.W.Frag} {mg : Str → Option Value} {base : Heap} {f : Addr} {fd : FuncData}
theorem ok_ljoined (T : Txt mg) (F : FnP K "_law_joined" "_law_joined" sljoined f fd) : FnOk P w K mg base CX0 1 f fd ["_law_some"] spJoinedL := by
  refine F.ok scljoined (fun vs H Q E h => ?_) (fun cdv A outer s H vs Q E hr h => ?_)
  · obtain ⟨a, Rs, rfl, _⟩ := h
    rfl
  · obtain ⟨a, Rs, rfl, ⟨refs, ha, hP⟩, hl, k⟩ := h
    refine ⟨_, PSs.nox (pss_cons (ps_set (i := 1) scljoined.nd rfl (Or.inl rfl) (pe_lst pa_nil))
  (pss_cons (ps_for PassesOwn.never rfl (pi_list (pv 0)) (pg_tupD (n := 3) rfl (pgs_cons (pg_name (i := 2) scljoined.nd rfl (Or.inl rfl)) (pgs_cons (pg_name (i := 3) scljoined.nd rfl (Or.inl rfl)) (pgs_cons (pg_name (i := 4) scljoined.nd rfl (Or.inl rfl)) pgs_nil))))
    (pss_one (ps_if (PW.pt (pw_and (pt_cmpR (op_neD (hu64 hr)) (pv 1) (pe_lst pa_nil) (nomark _)) (pw_and1 (pt_cmpR (op_eqD (hu64 hr)) (pe_ix ix_d (pe_ix ix_d (pv 1) (pe_un un_neg pe_int) (fun _ _ => rfl)) pe_int (fun _ _ => rfl)) (pv 4) (nomark _)))))
    (pss_one (ps_asg (pe_tup (pa_cons (pe_ix ix_d (pe_ix ix_d (pv 1) (pe_un un_neg pe_int) (fun _ _ => rfl)) pe_int (fun _ _ => rfl)) (pa_cons (pv 3) (pa_cons (pv 4) pa_nil)))) (pg_sub (pv 1) (pe_un un_neg pe_int) set_list)))
    (pss_one (ps_expr (pe_bm PySem.F.plainAttrs_list PySem.F.slot_list_append PySem.F.type_list_append mt_append (pv 1) (pa_cons (pe_tup (pa_cons (pv 2) (pa_cons (pv 3) (pa_cons (pv 4) pa_nil)))) pa_nil)))))))
  (pss_one (ps_ret (pv 1))))), ?_⟩
    show (_ : TS) _ [some (.ref a), none, none, none, none] H
    simp only [r_seq, r_next, r_brk, r_cont, r_asg, r_name, r_ret, r_retN, r_drop, r_ifs, r_never, r_var, r_c, r_op, r_un, r_if, r_tst, r_b, r_not, r_and, r_or, r_andV, r_orV, r_notV, r_nil, r_cons, r_tup, r_lst, r_cb, r_call, r_bm, r_bm0, r_sl, r_nopart, r_part, r_rev, r_gnil, r_gcons, r_gsub, r_par, r_aug, r_chain, r_I0, r_I, r_U, r_ixd, r_lend, r_tupd, r_listd, r_sld, r_app, r_ext, r_reverse, r_setl, r_cat, r_int1, r_eqS, r_neS, scal_ii, scal_bb, scal_ss, at0, at1, at2, sq_lst, sq_tup, isLst_lst, List.getElem?_cons_zero, List.getElem?_cons_succ, List.set_cons_zero, List.set_cons_succ, V.int.injEq, V.bl.injEq, V.ref.injEq, V.str.injEq, HO.lst.injEq, HO.tup.injEq, Option.some.injEq, exists_eq_left', exists_eq_left, List.cons.injEq, and_true, true_and, decide_eq_true_eq, reduceCtorEq, false_and, exists_false, or_false, false_or, exists_const, and_assoc, exists_and_left, List.append_nil, ix0, ix1, ix2, cm_mod, cdw1009, cdw2003, cdw7, cdw64, cdw2, cm104729, cm2, cm3, upd_same, List.length_cons, List.length_nil, Int.reduceLT, Int.reduceLE, Nat.reduceAdd, Nat.reduceLeDiff, Nat.reduceLT, Int.reduceToNat, r_for1, r_forL, r_forT, r_lcL, r_lc1, r_yes, r_gtupD, wipe_0, wipe_1, List.cons_append, List.nil_append, r_forS, r_ipI, ite_false, ite_true, Bool.not_true, Bool.not_false, decide_true, decide_false, r_isd, r_islt, cD_ty, cD_ref, tD_non, tD_bl, tD_int, tD_str, tD_ref, tH_lst, tH_tup, tH_dK, tH_ins, ki_self, ki_int_bool, ki_non_int, ki_str_int, ki_lt_lst, ki_lt_tup, r_fld, r_sfld, HO.ins.injEq, cx_K]
    refine ⟨szl (by decide), fun F hF => ?_⟩
    have aF : a ≠ F := fun z => by
      rw [z, hF] at ha
      cases ha
    have ha1 : L2.upd H F (.lst []) a = some (.lst (refs.map V.ref)) := by rw [upd_ne aF]; exact ha
    refine ⟨⟨_, SqL.of ha1⟩, lp_list (xs := refs.map V.ref) (lvJoined H a F Rs) ⟨none, none, none, rfl, Same.new' (Same.refl H) hF, [], by rw [upd_same]; rfl, by rw [List.take_zero]; exact .nil⟩ ?_ ?_ ?_⟩
    · rintro i σ H1 _ ⟨_, _, _, _, s1, _⟩
      exact SqL.of (s1 _ _ ha)
    · rintro i x σ H1 hx ⟨v1, v2, v3, rfl, s1, accR, hacc, pacc⟩
      have hir : i < refs.length := by
        have := (List.getElem?_eq_some_iff.mp hx).1
        rwa [List.length_map] at this
      have hiR : i < Rs.length := by rw [← Paired.length hP]; exact hir
      obtain rfl : x = .ref refs[i] := by
        rw [List.getElem?_map, List.getElem?_eq_getElem hir] at hx
        exact (Option.some.inj hx).symm
      have hrow : H1 refs[i] = some (.tup (lv Rs[i])) := s1 _ _ (Paired.at' hP hir hiR)
      have nx := nextJ hiR
      obtain ⟨R, hRe⟩ : ∃ R, R = Rs[i] := ⟨_, rfl⟩
      rw [← hRe] at hrow nx
      have la : (joinL (Rs.take i)).length ≤ 100000 := Nat.le_trans (joinL_len _) (by rw [List.length_take]; omega)
      obtain ⟨acc, hac⟩ : ∃ acc, acc = joinL (Rs.take i) := ⟨_, rfl⟩
      rw [← hac] at pacc nx la
      have lr := Paired.length pacc
      simp only [r_seq, r_next, r_brk, r_cont, r_asg, r_name, r_ret, r_retN, r_drop, r_ifs, r_never, r_var, r_c, r_op, r_un, r_if, r_tst, r_b, r_not, r_and, r_or, r_andV, r_orV, r_notV, r_nil, r_cons, r_tup, r_lst, r_cb, r_call, r_bm, r_bm0, r_sl, r_nopart, r_part, r_rev, r_gnil, r_gcons, r_gsub, r_par, r_aug, r_chain, r_I0, r_I, r_U, r_ixd, r_lend, r_tupd, r_listd, r_sld, r_app, r_ext, r_reverse, r_setl, r_cat, r_int1, r_eqS, r_neS, scal_ii, scal_bb, scal_ss, at0, at1, at2, sq_lst, sq_tup, isLst_lst, List.getElem?_cons_zero, List.getElem?_cons_succ, List.set_cons_zero, List.set_cons_succ, V.int.injEq, V.bl.injEq, V.ref.injEq, V.str.injEq, HO.lst.injEq, HO.tup.injEq, Option.some.injEq, exists_eq_left', exists_eq_left, List.cons.injEq, and_true, true_and, decide_eq_true_eq, reduceCtorEq, false_and, exists_false, or_false, false_or, exists_const, and_assoc, exists_and_left, List.append_nil, ix0, ix1, ix2, cm_mod, cdw1009, cdw2003, cdw7, cdw64, cdw2, cm104729, cm2, cm3, upd_same, List.length_cons, List.length_nil, Int.reduceLT, Int.reduceLE, Nat.reduceAdd, Nat.reduceLeDiff, Nat.reduceLT, Int.reduceToNat, r_for1, r_forL, r_forT, r_lcL, r_lc1, r_yes, r_gtupD, wipe_0, wipe_1, List.cons_append, List.nil_append, r_forS, r_ipI, ite_false, ite_true, Bool.not_true, Bool.not_false, decide_true, decide_false, r_isd, r_islt, cD_ty, cD_ref, tD_non, tD_bl, tD_int, tD_str, tD_ref, tH_lst, tH_tup, tH_dK, tH_ins, ki_self, ki_int_bool, ki_non_int, ki_str_int, ki_lt_lst, ki_lt_tup, r_fld, r_sfld, HO.ins.injEq, cx_K, hrow, lv, hacc]
      refine ⟨Nat.zero_le _, fun e he => ?_⟩
      have s2 := Same.new' (o := .lst []) (Same.refl H1) he
      refine ne_none (s2 _ _ hacc) (Paired.map' pacc fun a b h => s2 _ _ h) upd_same ?_
      have hacc := s2 _ _ hacc
      have pacc := Paired.map' pacc fun a b h => s2 _ _ h
      have s1 : Same H (L2.upd H1 e (.lst [])) := fun b o q => s2 b o (s1 b o q)
      clear he
      generalize L2.upd H1 e (.lst []) = H1 at *
      have app : ∀ {t : Addr}, H1 t = none → lvJoined H a F Rs (i + 1) [some (.ref a), some (.ref F), some (.int (R.lo : Int)), some (.int (R.hi : Int)), some (lnV R.ln)] (L2.upd (L2.upd H1 t (.tup [.int (R.lo : Int), .int (R.hi : Int), lnV R.ln])) F (.lst (accR.map V.ref ++ [.ref t]))) ∨ ¬ (jstep acc R = acc ++ [R]) := by
        intro t ht
        by_cases c : jstep acc R = acc ++ [R]
        · obtain ⟨p1, p2⟩ := rows_put (R := R) hF s1 hacc pacc ht
          exact .inl ⟨_, _, _, rfl, p1, by rw [nx, c]; exact p2⟩
        · exact .inr c
      rcases List.eq_nil_or_concat acc with rfl | ⟨xs, q, rfl⟩
      · obtain rfl : accR = [] := List.length_eq_zero_iff.mp lr
        simp only [r_seq, r_next, r_brk, r_cont, r_asg, r_name, r_ret, r_retN, r_drop, r_ifs, r_never, r_var, r_c, r_op, r_un, r_if, r_tst, r_b, r_not, r_and, r_or, r_andV, r_orV, r_notV, r_nil, r_cons, r_tup, r_lst, r_cb, r_call, r_bm, r_bm0, r_sl, r_nopart, r_part, r_rev, r_gnil, r_gcons, r_gsub, r_par, r_aug, r_chain, r_I0, r_I, r_U, r_ixd, r_lend, r_tupd, r_listd, r_sld, r_app, r_ext, r_reverse, r_setl, r_cat, r_int1, r_eqS, r_neS, scal_ii, scal_bb, scal_ss, at0, at1, at2, sq_lst, sq_tup, isLst_lst, List.getElem?_cons_zero, List.getElem?_cons_succ, List.set_cons_zero, List.set_cons_succ, V.int.injEq, V.bl.injEq, V.ref.injEq, V.str.injEq, HO.lst.injEq, HO.tup.injEq, Option.some.injEq, exists_eq_left', exists_eq_left, List.cons.injEq, and_true, true_and, decide_eq_true_eq, reduceCtorEq, false_and, exists_false, or_false, false_or, exists_const, and_assoc, exists_and_left, List.append_nil, ix0, ix1, ix2, cm_mod, cdw1009, cdw2003, cdw7, cdw64, cdw2, cm104729, cm2, cm3, upd_same, List.length_cons, List.length_nil, Int.reduceLT, Int.reduceLE, Nat.reduceAdd, Nat.reduceLeDiff, Nat.reduceLT, Int.reduceToNat, r_for1, r_forL, r_forT, r_lcL, r_lc1, r_yes, r_gtupD, wipe_0, wipe_1, List.cons_append, List.nil_append, r_forS, r_ipI, ite_false, ite_true, Bool.not_true, Bool.not_false, decide_true, decide_false, r_isd, r_islt, cD_ty, cD_ref, tD_non, tD_bl, tD_int, tD_str, tD_ref, tH_lst, tH_tup, tH_dK, tH_ins, ki_self, ki_int_bool, ki_non_int, ki_str_int, ki_lt_lst, ki_lt_tup, r_fld, r_sfld, HO.ins.injEq, cx_K, List.isEmpty_nil]
        refine ⟨tyl hacc, szl (by decide), fun t ht => ⟨_, by rw [upd_ne (ne_new hacc ht)]; exact hacc, by decide, ?_⟩⟩
        exact (app ht).resolve_right fun z => z (jstep_nil R)
      · rw [List.concat_eq_append] at pacc nx la app
        obtain ⟨rs, rq, rfl, prs, hq⟩ := Paired.snocR pacc
        have hq1 : H1 rq = some (.tup [.int (q.lo : Int), .int (q.hi : Int), lnV q.ln]) := hq
        have eA : (rs ++ [rq]).map V.ref = rs.map V.ref ++ [.ref rq] := by simp
        have hacc' := hacc
        rw [eA] at hacc'
        rw [show (xs.concat q).isEmpty = false from by simp]
        simp only [r_seq, r_next, r_brk, r_cont, r_asg, r_name, r_ret, r_retN, r_drop, r_ifs, r_never, r_var, r_c, r_op, r_un, r_if, r_tst, r_b, r_not, r_and, r_or, r_andV, r_orV, r_notV, r_nil, r_cons, r_tup, r_lst, r_cb, r_call, r_bm, r_bm0, r_sl, r_nopart, r_part, r_rev, r_gnil, r_gcons, r_gsub, r_par, r_aug, r_chain, r_I0, r_I, r_U, r_ixd, r_lend, r_tupd, r_listd, r_sld, r_app, r_ext, r_reverse, r_setl, r_cat, r_int1, r_eqS, r_neS, scal_ii, scal_bb, scal_ss, at0, at1, at2, sq_lst, sq_tup, isLst_lst, List.getElem?_cons_zero, List.getElem?_cons_succ, List.set_cons_zero, List.set_cons_succ, V.int.injEq, V.bl.injEq, V.ref.injEq, V.str.injEq, HO.lst.injEq, HO.tup.injEq, Option.some.injEq, exists_eq_left', exists_eq_left, List.cons.injEq, and_true, true_and, decide_eq_true_eq, reduceCtorEq, false_and, exists_false, or_false, false_or, exists_const, and_assoc, exists_and_left, List.append_nil, ix0, ix1, ix2, cm_mod, cdw1009, cdw2003, cdw7, cdw64, cdw2, cm104729, cm2, cm3, upd_same, List.length_cons, List.length_nil, Int.reduceLT, Int.reduceLE, Nat.reduceAdd, Nat.reduceLeDiff, Nat.reduceLT, Int.reduceToNat, r_for1, r_forL, r_forT, r_lcL, r_lc1, r_yes, r_gtupD, wipe_0, wipe_1, List.cons_append, List.nil_append, r_forS, r_ipI, ite_false, ite_true, Bool.not_true, Bool.not_false, decide_true, decide_false, r_isd, r_islt, cD_ty, cD_ref, tD_non, tD_bl, tD_int, tD_str, tD_ref, tH_lst, tH_tup, tH_dK, tH_ins, ki_self, ki_int_bool, ki_non_int, ki_str_int, ki_lt_lst, ki_lt_tup, r_fld, r_sfld, HO.ins.injEq, cx_K, eA, at_last, hq1, hacc']
        refine eq_ln ?_
        by_cases c : q.ln = R.ln
        · simp only [r_seq, r_next, r_brk, r_cont, r_asg, r_name, r_ret, r_retN, r_drop, r_ifs, r_never, r_var, r_c, r_op, r_un, r_if, r_tst, r_b, r_not, r_and, r_or, r_andV, r_orV, r_notV, r_nil, r_cons, r_tup, r_lst, r_cb, r_call, r_bm, r_bm0, r_sl, r_nopart, r_part, r_rev, r_gnil, r_gcons, r_gsub, r_par, r_aug, r_chain, r_I0, r_I, r_U, r_ixd, r_lend, r_tupd, r_listd, r_sld, r_app, r_ext, r_reverse, r_setl, r_cat, r_int1, r_eqS, r_neS, scal_ii, scal_bb, scal_ss, at0, at1, at2, sq_lst, sq_tup, isLst_lst, List.getElem?_cons_zero, List.getElem?_cons_succ, List.set_cons_zero, List.set_cons_succ, V.int.injEq, V.bl.injEq, V.ref.injEq, V.str.injEq, HO.lst.injEq, HO.tup.injEq, Option.some.injEq, exists_eq_left', exists_eq_left, List.cons.injEq, and_true, true_and, decide_eq_true_eq, reduceCtorEq, false_and, exists_false, or_false, false_or, exists_const, and_assoc, exists_and_left, List.append_nil, ix0, ix1, ix2, cm_mod, cdw1009, cdw2003, cdw7, cdw64, cdw2, cm104729, cm2, cm3, upd_same, List.length_cons, List.length_nil, Int.reduceLT, Int.reduceLE, Nat.reduceAdd, Nat.reduceLeDiff, Nat.reduceLT, Int.reduceToNat, r_for1, r_forL, r_forT, r_lcL, r_lc1, r_yes, r_gtupD, wipe_0, wipe_1, List.cons_append, List.nil_append, r_forS, r_ipI, ite_false, ite_true, Bool.not_true, Bool.not_false, decide_true, decide_false, r_isd, r_islt, cD_ty, cD_ref, tD_non, tD_bl, tD_int, tD_str, tD_ref, tH_lst, tH_tup, tH_dK, tH_ins, ki_self, ki_int_bool, ki_non_int, ki_str_int, ki_lt_lst, ki_lt_tup, r_fld, r_sfld, HO.ins.injEq, cx_K, c, eA, at_last, hq1, hacc']
          refine ⟨szl (by decide), fun t ht => ⟨_, by rw [upd_ne (ne_new hacc' ht)]; exact hacc', rs.length, by rw [List.length_append, List.length_map, List.length_singleton]; exact ix_last _, ?_⟩⟩
          have es : (rs.map V.ref ++ [V.ref rq]).set rs.length (.ref t) = rs.map V.ref ++ [V.ref t] := by
            have := set_last (xs := rs.map V.ref) (x := V.ref rq) (y := V.ref t)
            rwa [List.length_map] at this
          rw [es]
          obtain ⟨p1, p2⟩ := rows_put (R := ⟨q.lo, R.hi, R.ln⟩) hF s1 hacc' prs ht
          exact ⟨_, _, _, rfl, p1, by rw [nx, jstep_snoc, if_pos c]; exact p2⟩
        · simp only [r_seq, r_next, r_brk, r_cont, r_asg, r_name, r_ret, r_retN, r_drop, r_ifs, r_never, r_var, r_c, r_op, r_un, r_if, r_tst, r_b, r_not, r_and, r_or, r_andV, r_orV, r_notV, r_nil, r_cons, r_tup, r_lst, r_cb, r_call, r_bm, r_bm0, r_sl, r_nopart, r_part, r_rev, r_gnil, r_gcons, r_gsub, r_par, r_aug, r_chain, r_I0, r_I, r_U, r_ixd, r_lend, r_tupd, r_listd, r_sld, r_app, r_ext, r_reverse, r_setl, r_cat, r_int1, r_eqS, r_neS, scal_ii, scal_bb, scal_ss, at0, at1, at2, sq_lst, sq_tup, isLst_lst, List.getElem?_cons_zero, List.getElem?_cons_succ, List.set_cons_zero, List.set_cons_succ, V.int.injEq, V.bl.injEq, V.ref.injEq, V.str.injEq, HO.lst.injEq, HO.tup.injEq, Option.some.injEq, exists_eq_left', exists_eq_left, List.cons.injEq, and_true, true_and, decide_eq_true_eq, reduceCtorEq, false_and, exists_false, or_false, false_or, exists_const, and_assoc, exists_and_left, List.append_nil, ix0, ix1, ix2, cm_mod, cdw1009, cdw2003, cdw7, cdw64, cdw2, cm104729, cm2, cm3, upd_same, List.length_cons, List.length_nil, Int.reduceLT, Int.reduceLE, Nat.reduceAdd, Nat.reduceLeDiff, Nat.reduceLT, Int.reduceToNat, r_for1, r_forL, r_forT, r_lcL, r_lc1, r_yes, r_gtupD, wipe_0, wipe_1, List.cons_append, List.nil_append, r_forS, r_ipI, ite_false, ite_true, Bool.not_true, Bool.not_false, decide_true, decide_false, r_isd, r_islt, cD_ty, cD_ref, tD_non, tD_bl, tD_int, tD_str, tD_ref, tH_lst, tH_tup, tH_dK, tH_ins, ki_self, ki_int_bool, ki_non_int, ki_str_int, ki_lt_lst, ki_lt_tup, r_fld, r_sfld, HO.ins.injEq, cx_K, c, eA, at_last, hq1, hacc']
          refine ⟨tyl hacc, szl (by decide), fun t ht => ⟨_, by rw [upd_ne (ne_new hacc ht)]; exact hacc, Nat.lt_of_le_of_lt (by rw [List.length_map, Paired.length pacc]; exact la) (by decide), ?_⟩⟩
          exact (app ht).resolve_right fun z => z (by rw [jstep_snoc, if_neg c])
    · rintro σ H1 ⟨v1, v2, v3, rfl, s1, r1⟩
      rw [List.length_map, Paired.length hP, List.take_length] at r1
      simp only [r_seq, r_next, r_brk, r_cont, r_asg, r_name, r_ret, r_retN, r_drop, r_ifs, r_never, r_var, r_c, r_op, r_un, r_if, r_tst, r_b, r_not, r_and, r_or, r_andV, r_orV, r_notV, r_nil, r_cons, r_tup, r_lst, r_cb, r_call, r_bm, r_bm0, r_sl, r_nopart, r_part, r_rev, r_gnil, r_gcons, r_gsub, r_par, r_aug, r_chain, r_I0, r_I, r_U, r_ixd, r_lend, r_tupd, r_listd, r_sld, r_app, r_ext, r_reverse, r_setl, r_cat, r_int1, r_eqS, r_neS, scal_ii, scal_bb, scal_ss, at0, at1, at2, sq_lst, sq_tup, isLst_lst, List.getElem?_cons_zero, List.getElem?_cons_succ, List.set_cons_zero, List.set_cons_succ, V.int.injEq, V.bl.injEq, V.ref.injEq, V.str.injEq, HO.lst.injEq, HO.tup.injEq, Option.some.injEq, exists_eq_left', exists_eq_left, List.cons.injEq, and_true, true_and, decide_eq_true_eq, reduceCtorEq, false_and, exists_false, or_false, false_or, exists_const, and_assoc, exists_and_left, List.append_nil, ix0, ix1, ix2, cm_mod, cdw1009, cdw2003, cdw7, cdw64, cdw2, cm104729, cm2, cm3, upd_same, List.length_cons, List.length_nil, Int.reduceLT, Int.reduceLE, Nat.reduceAdd, Nat.reduceLeDiff, Nat.reduceLT, Int.reduceToNat, r_for1, r_forL, r_forT, r_lcL, r_lc1, r_yes, r_gtupD, wipe_0, wipe_1, List.cons_append, List.nil_append, r_forS, r_ipI, ite_false, ite_true, Bool.not_true, Bool.not_false, decide_true, decide_false, r_isd, r_islt, cD_ty, cD_ref, tD_non, tD_bl, tD_int, tD_str, tD_ref, tH_lst, tH_tup, tH_dK, tH_ins, ki_self, ki_int_bool, ki_non_int, ki_str_int, ki_lt_lst, ki_lt_tup, r_fld, r_sfld, HO.ins.injEq, cx_K]
      exact k F H1 hF s1 r1
end
end C48

set_option maxHeartbeats 1000000
namespace C48
open PySem PySem.Spec PyProof.Rows L2
/-! ### signed numbers -/
theorem bor64 (x : Int) : Builtin.bitOr (x % 64) 64 = x % 64 + 64 := Bits.bitOr_join (a := x % 64) (b := 1) (k := 6) (by omega) (by omega) (by decide)
theorem shr6 (x : Int) : x / 2 ^ (Int.toNat 6) = x / 64 := rfl
def zig (n : Int) : Nat := if 0 ≤ n then (2 * n).toNat else (1 - 2 * n).toNat
def litM (m : Nat) : List Nat := if h : m < 64 then [m] else (m % 64 + 64) :: litM (m / 64)
termination_by m
decreasing_by omega
theorem litM_lt {m : Nat} (h : m < 64) : litM m = [m] := by
  rw [litM]
  exact dif_pos h
theorem litM_ge {m : Nat} (h : ¬ m < 64) : litM m = (m % 64 + 64) :: litM (m / 64) := by
  rw [litM]
  exact dif_neg h
theorem litM_low : ∀ m : Nat, ∃ ds d, low m = ds ++ [d] ∧ up ds ++ [d] = litM m ∧ ds.length ≤ (rest m).length := by
  intro m
  induction m using Nat.strongRecOn with
  | _ m ih =>
    by_cases c : m < 64
    · exact ⟨[], m % 64, by unfold low; rw [rest_lt c]; rfl, by rw [litM_lt c, Nat.mod_eq_of_lt c]; rfl, Nat.zero_le _⟩
    · obtain ⟨ds, d, e1, e2, e3⟩ := ih (m / 64) (by omega)
      refine ⟨m % 64 :: ds, d, ?_, ?_, ?_⟩
      · unfold low
        rw [rest_ge c, e1]
        rfl
      · rw [litM_ge c, ← e2]
        rfl
      · rw [rest_ge c, e1]
        simp
theorem litM_len {m : Nat} (h : m < 2 ^ 62) : (litM m).length ≤ 12 := by
  obtain ⟨ds, d, _, e2, e3⟩ := litM_low m
  have := rest_len 10 m (Nat.lt_of_lt_of_le h (by decide))
  rw [← e2, List.length_append]
  unfold up
  rw [List.length_map, List.length_singleton]
  omega
theorem zig_pos {n : Int} (h : 0 ≤ n) : 2 * n = ((zig n : Nat) : Int) := by
  unfold zig
  rw [if_pos h]
  omega
theorem zig_neg {n : Int} (h : ¬ 0 ≤ n) : 1 - 2 * n = ((zig n : Nat) : Int) := by
  unfold zig
  rw [if_neg h]
  omega
theorem zig_lt {n : Int} (h1 : -(2 ^ 60) < n) (h2 : n < 2 ^ 60) : zig n < 2 ^ 62 := by
  unfold zig
  split <;> omega
def spSigned : Sp := fun vs H Q _ => ∃ n : Int, vs = [.int n] ∧ -(2 ^ 60) < n ∧ n < 2 ^ 60 ∧ ∀ p H', H p = none → Same H H' → H' p = some (.lst (vn (litM (zig n)))) → Q (.ref p) H'
def entryL (u : Nat) : Option Int → List Nat
  | none => [248 + u - 1]
  | some n => (232 + u - 1) :: litM (zig n)
def spEntry : Sp := fun vs H Q _ => ∃ (u : Nat) (more : Option Int), vs = [.int (u : Int), lnV more] ∧ 1 ≤ u ∧ u ≤ 8 ∧ (∀ n, more = some n → -(2 ^ 60) < n ∧ n < 2 ^ 60) ∧ ∀ p H', H p = none → Same H H' → H' p = some (.lst (vn (entryL u more))) → Q (.ref p) H'
def lvSigned (H : Hp) (p : Addr) (m0 : Nat) (n : Int) (σ : L2.St) (H' : Hp) : Prop := ∃ (m : Nat) (ds : List Nat), σ = [some (.int n), some (.int (m : Int)), some (.ref p)] ∧ Same H H' ∧ H' p = some (.lst (vn ds)) ∧ ds ++ litM m = litM m0
def msSigned (σ : L2.St) : Nat := match σ with
  | _ :: some (.int a) :: _ => a.toNat
  | _ => 0
section
variable {P : Program} {w : World} {K : PySem.W.Frag} {mg : Str → Option Value} {base : Heap} {f : Addr} {fd : FuncData}
abbrev ssigned_pieces : Stmt := top 37
theorem scsigned_pieces : FnScope ["number", "rest", "found"] ["number"] (defScope ssigned_pieces) := ⟨rfl, rfl, rfl, by decide +kernel, rfl, by decide +kernel, by decide +kernel⟩

abbrev sentry : Stmt := top 46
theorem scentry : FnScope ["_law_units", "_law_more", "_law_number"] ["_law_units", "_law_more"] (defScope sentry) := ⟨rfl, rfl, rfl, by decide +kernel, rfl, by decide +kernel, by decide +kernel⟩

theorem ok_entry (T : Txt mg) (F : FnP K "_law_entry" "_law_entry" sentry f fd) (C_pieces : Cal P w K mg base 1 "_law_pieces" ["_law_number"] spPieces) (C_marked : Cal P w K mg base 1 "_law_marked" ["_law_some"] spMarked) : FnOk P w K mg base CX0 2 f fd ["_law_units", "_law_more"] spEntry := by
  refine F.ok scentry (fun vs H Q E h => ?_) (fun cdv A outer s H vs Q E hr h => ?_)
  · obtain ⟨u, more, rfl, _⟩ := h
    rfl
  · obtain ⟨u, more, rfl, h1, h8, hm, k⟩ := h
    refine ⟨_, PSs.nox (pss_cons (ps_if (pt_cmpR op_isN (pv 1) pe_non (nomark _))
    (pss_one (ps_ret (pe_lst (pa_cons (pe_op op_sub (pe_op op_add pe_int (pv 0)) pe_int) pa_nil))))
    pss_nil)
  (pss_cons (ps_set (i := 2) scentry.nd rfl (Or.inl rfl) (pe_ifExp (pt_cmpR op_ge (pv 1) pe_int (nomark _)) (pe_op op_mul pe_int (pv 1)) (pe_op op_sub pe_int (pe_op op_mul pe_int (pv 1)))))
  (pss_one (ps_ret (pe_op op_cat (pe_lst (pa_cons (pe_op op_sub (pe_op op_add pe_int (pv 0)) pe_int) pa_nil)) (pe_cal C_marked (hr.mono (by decide)) rfl (pa_cons (pe_cal C_pieces (hr.mono (by decide)) rfl (pa_cons (pv 2) pa_nil)) pa_nil))))))), ?_⟩
    show (_ : TS) _ [some (.int (u : Int)), some (lnV more), none] H
    have e1 : (248 : Int) + (u : Int) - 1 = ((248 + u - 1 : Nat) : Int) := by omega
    have e2 : (232 : Int) + (u : Int) - 1 = ((232 + u - 1 : Nat) : Int) := by omega
    cases more with
    | none =>
      simp only [r_seq, r_next, r_brk, r_cont, r_asg, r_name, r_ret, r_retN, r_drop, r_ifs, r_never, r_var, r_c, r_op, r_un, r_if, r_tst, r_b, r_not, r_and, r_or, r_andV, r_orV, r_notV, r_nil, r_cons, r_tup, r_lst, r_cb, r_call, r_bm, r_bm0, r_sl, r_nopart, r_part, r_rev, r_gnil, r_gcons, r_gsub, r_par, r_aug, r_chain, r_I0, r_I, r_U, r_ixd, r_lend, r_tupd, r_listd, r_sld, r_app, r_ext, r_reverse, r_setl, r_cat, r_int1, r_eqS, r_neS, scal_ii, scal_bb, scal_ss, at0, at1, at2, sq_lst, sq_tup, isLst_lst, List.getElem?_cons_zero, List.getElem?_cons_succ, List.set_cons_zero, List.set_cons_succ, V.int.injEq, V.bl.injEq, V.ref.injEq, V.str.injEq, HO.lst.injEq, HO.tup.injEq, Option.some.injEq, exists_eq_left', exists_eq_left, List.cons.injEq, and_true, true_and, decide_eq_true_eq, reduceCtorEq, false_and, exists_false, or_false, false_or, exists_const, and_assoc, exists_and_left, List.append_nil, ix0, ix1, ix2, cm_mod, cdw1009, cdw2003, cdw7, cdw64, cdw2, cm104729, cm2, cm3, upd_same, List.length_cons, List.length_nil, Int.reduceLT, Int.reduceLE, Nat.reduceAdd, Nat.reduceLeDiff, Nat.reduceLT, Int.reduceToNat, r_for1, r_forL, r_forT, r_lcL, r_lc1, r_yes, r_gtupD, wipe_0, wipe_1, List.cons_append, List.nil_append, r_forS, r_ipI, ite_false, ite_true, Bool.not_true, Bool.not_false, decide_true, decide_false, r_isd, r_islt, cD_ty, cD_ref, tD_non, tD_bl, tD_int, tD_str, tD_ref, tH_lst, tH_tup, tH_dK, tH_ins, ki_self, ki_int_bool, ki_non_int, ki_str_int, ki_lt_lst, ki_lt_tup, r_fld, r_sfld, HO.ins.injEq, cx_K, lnV, e1]
      exact ⟨szl (by decide), fun p hp => k p _ hp (Same.new' (Same.refl H) hp) upd_same⟩
    | some n =>
      obtain ⟨n1, n2⟩ := hm n rfl
      simp only [r_seq, r_next, r_brk, r_cont, r_asg, r_name, r_ret, r_retN, r_drop, r_ifs, r_never, r_var, r_c, r_op, r_un, r_if, r_tst, r_b, r_not, r_and, r_or, r_andV, r_orV, r_notV, r_nil, r_cons, r_tup, r_lst, r_cb, r_call, r_bm, r_bm0, r_sl, r_nopart, r_part, r_rev, r_gnil, r_gcons, r_gsub, r_par, r_aug, r_chain, r_I0, r_I, r_U, r_ixd, r_lend, r_tupd, r_listd, r_sld, r_app, r_ext, r_reverse, r_setl, r_cat, r_int1, r_eqS, r_neS, scal_ii, scal_bb, scal_ss, at0, at1, at2, sq_lst, sq_tup, isLst_lst, List.getElem?_cons_zero, List.getElem?_cons_succ, List.set_cons_zero, List.set_cons_succ, V.int.injEq, V.bl.injEq, V.ref.injEq, V.str.injEq, HO.lst.injEq, HO.tup.injEq, Option.some.injEq, exists_eq_left', exists_eq_left, List.cons.injEq, and_true, true_and, decide_eq_true_eq, reduceCtorEq, false_and, exists_false, or_false, false_or, exists_const, and_assoc, exists_and_left, List.append_nil, ix0, ix1, ix2, cm_mod, cdw1009, cdw2003, cdw7, cdw64, cdw2, cm104729, cm2, cm3, upd_same, List.length_cons, List.length_nil, Int.reduceLT, Int.reduceLE, Nat.reduceAdd, Nat.reduceLeDiff, Nat.reduceLT, Int.reduceToNat, r_for1, r_forL, r_forT, r_lcL, r_lc1, r_yes, r_gtupD, wipe_0, wipe_1, List.cons_append, List.nil_append, r_forS, r_ipI, ite_false, ite_true, Bool.not_true, Bool.not_false, decide_true, decide_false, r_isd, r_islt, cD_ty, cD_ref, tD_non, tD_bl, tD_int, tD_str, tD_ref, tH_lst, tH_tup, tH_dK, tH_ins, ki_self, ki_int_bool, ki_non_int, ki_str_int, ki_lt_lst, ki_lt_tup, r_fld, r_sfld, HO.ins.injEq, cx_K, lnV, e2]
      have fin : ∀ (p : Addr), H p = none → spPieces [V.int ((zig n : Nat) : Int)] (L2.upd H p (.lst [V.int ((232 + u - 1 : Nat) : Int)])) (fun x H1 => spMarked [x] H1 (fun y H2 => ∃ x, y = V.ref x ∧ ∃ x_1, H2 p = some (HO.lst x_1) ∧ ∃ x_2, H2 x = some (HO.lst x_2) ∧ x_1.length + x_2.length ≤ sizeLine ∧ ∀ (p : Addr), H2 p = none → Q (V.ref p) (L2.upd H2 p (HO.lst (x_1 ++ x_2)))) E0) E0 := by
        intro p hp
        have zl := zig_lt n1 n2
        obtain ⟨ds, d, q1, q2, q3⟩ := litM_low (zig n)
        have r1 := rest_len 10 (zig n) (Nat.lt_of_lt_of_le zl (by decide))
        have ll := litM_len zl
        refine ⟨zig n, rfl, Nat.lt_trans zl (by decide), fun p1 H1 hp1 s1 h1' => ⟨p1, ds, d, rfl, by rw [← q1]; exact h1', by omega, fun p2 H2 hp2 s2 h2 => ⟨p2, rfl, _, s2 _ _ (s1 _ _ upd_same), _, h2, szl (by rw [q2, vn_len, List.length_singleton]; omega), fun p3 hp3 => ?_⟩⟩⟩
        have sA : Same H H2 := fun b o e => s2 b o (s1 b o (by rw [upd_ne (ne_new e hp)]; exact e))
        refine k p3 _ ?_ (Same.new' sA hp3) (by rw [upd_same, q2]; rfl)
        cases e : H p3 with
        | none => rfl
        | some o =>
          have := sA _ _ e
          rw [hp3] at this
          cases this
      split
      · rename_i c
        rw [zig_pos c]
        exact ⟨szl (by decide), fin⟩
      · rename_i c
        rw [zig_neg c]
        exact ⟨szl (by decide), fin⟩
theorem ok_signed_pieces (T : Txt mg) (F : FnP K "signed_pieces" "signed_pieces" ssigned_pieces f fd) : FnOk P w K mg base CX0 1 f fd ["number"] spSigned := by
  refine F.ok scsigned_pieces (fun vs H Q E h => ?_) (fun cdv A outer s H vs Q E hr h => ?_)
  · obtain ⟨n, rfl, _⟩ := h
    rfl
  · obtain ⟨n, rfl, n1, n2, k⟩ := h
    refine ⟨_, PSs.nox (pss_cons (ps_set (i := 1) scsigned_pieces.nd rfl (Or.inl rfl) (pe_ifExp (pt_cmpR op_ge (pv 0) pe_int (nomark _)) (pe_op op_mul pe_int (pv 0)) (pe_op op_add (pe_op op_mul (pe_un un_neg pe_int) (pv 0)) pe_int)))
  (pss_cons (ps_if (pt_cmpR op_lt (pv 1) pe_int (nomark _))
    (pss_one (ps_ret (pe_lst (pa_cons (pv 1) pa_nil))))
    pss_nil)
  (pss_cons (ps_set (i := 2) scsigned_pieces.nd rfl (Or.inl rfl) (pe_lst pa_nil))
  (pss_cons (ps_while PassesOwn.never (pt_cmpR op_gt (pv 1) pe_int (nomark _))
    (pss_cons (ps_expr (pe_bm PySem.F.plainAttrs_list PySem.F.slot_list_append PySem.F.type_list_append mt_append (pv 2) (pa_cons (pe_op op_or (pe_op op_and (pv 1) pe_int) (pe_gi T.g_GOES_ON)) pa_nil)))
  (pss_one (ps_aug (i := 1) scsigned_pieces.nd rfl (.inl rfl) pe_int (pip_of iop_shr)))))
  (pss_cons (ps_expr (pe_bm PySem.F.plainAttrs_list PySem.F.slot_list_append PySem.F.type_list_append mt_append (pv 2) (pa_cons (pv 1) pa_nil)))
  (pss_one (ps_ret (pv 2)))))))), ?_⟩
    show (_ : TS) _ [some (.int n), none, none] H
    have c2 : CMul (-2) n := .inl (by decide)
    have e2 : -2 * n + 1 = 1 - 2 * n := by omega
    simp only [r_seq, r_next, r_brk, r_cont, r_asg, r_name, r_ret, r_retN, r_drop, r_ifs, r_never, r_var, r_c, r_op, r_un, r_if, r_tst, r_b, r_not, r_and, r_or, r_andV, r_orV, r_notV, r_nil, r_cons, r_tup, r_lst, r_cb, r_call, r_bm, r_bm0, r_sl, r_nopart, r_part, r_rev, r_gnil, r_gcons, r_gsub, r_par, r_aug, r_chain, r_I0, r_I, r_U, r_ixd, r_lend, r_tupd, r_listd, r_sld, r_app, r_ext, r_reverse, r_setl, r_cat, r_int1, r_eqS, r_neS, scal_ii, scal_bb, scal_ss, at0, at1, at2, sq_lst, sq_tup, isLst_lst, List.getElem?_cons_zero, List.getElem?_cons_succ, List.set_cons_zero, List.set_cons_succ, V.int.injEq, V.bl.injEq, V.ref.injEq, V.str.injEq, HO.lst.injEq, HO.tup.injEq, Option.some.injEq, exists_eq_left', exists_eq_left, List.cons.injEq, and_true, true_and, decide_eq_true_eq, reduceCtorEq, false_and, exists_false, or_false, false_or, exists_const, and_assoc, exists_and_left, List.append_nil, ix0, ix1, ix2, cm_mod, cdw1009, cdw2003, cdw7, cdw64, cdw2, cm104729, cm2, cm3, upd_same, List.length_cons, List.length_nil, Int.reduceLT, Int.reduceLE, Nat.reduceAdd, Nat.reduceLeDiff, Nat.reduceLT, Int.reduceToNat, r_for1, r_forL, r_forT, r_lcL, r_lc1, r_yes, r_gtupD, wipe_0, wipe_1, List.cons_append, List.nil_append, r_forS, r_ipI, ite_false, ite_true, Bool.not_true, Bool.not_false, decide_true, decide_false, r_isd, r_islt, cD_ty, cD_ref, tD_non, tD_bl, tD_int, tD_str, tD_ref, tH_lst, tH_tup, tH_dK, tH_ins, ki_self, ki_int_bool, ki_non_int, ki_str_int, ki_lt_lst, ki_lt_tup, r_fld, r_sfld, HO.ins.injEq, cx_K, c2, e2, Int.reduceNeg]
    have zl := zig_lt n1 n2
    have ll := litM_len zl
    split
    all_goals first | rw [zig_pos (by assumption)] | rw [zig_neg (by assumption)]
    all_goals
      refine ite2 (fun c => ⟨szl (by decide), fun p hp => k p _ hp (Same.new' (Same.refl H) hp) (by rw [upd_same, litM_lt (by omega)]; rfl)⟩) (fun c => ?_)
      refine ⟨Nat.zero_le _, fun p hp => ?_⟩
      have pH : ∀ {b : Addr} {o : HO}, H b = some o → b ≠ p := fun e => ne_new e hp
      refine while_d (lvSigned H p (zig n) n) (fun σ _ => msSigned σ) ⟨zig n, [], rfl, Same.new' (Same.refl H) hp, by rw [upd_same]; rfl, rfl⟩ ?_
      rintro σ H1 ⟨m, ds, rfl, s1, h1, e1⟩
      have hl : ds.length ≤ 12 := by
        have a1 := congrArg List.length e1
        rw [List.length_append] at a1
        omega
      have hd : ((m : Int) % 64 + 64) = ((m % 64 + 64 : Nat) : Int) := by omega
      refine ⟨decide (63 < m), fun QT q => ?_, fun c => ?_, fun c => ?_⟩
      · have e2 : decide ((63 : Int) < (m : Int)) = decide (63 < m) := decide_eq_decide.mpr (by omega)
        simp only [r_seq, r_next, r_brk, r_cont, r_asg, r_name, r_ret, r_retN, r_drop, r_ifs, r_never, r_var, r_c, r_op, r_un, r_if, r_tst, r_b, r_not, r_and, r_or, r_andV, r_orV, r_notV, r_nil, r_cons, r_tup, r_lst, r_cb, r_call, r_bm, r_bm0, r_sl, r_nopart, r_part, r_rev, r_gnil, r_gcons, r_gsub, r_par, r_aug, r_chain, r_I0, r_I, r_U, r_ixd, r_lend, r_tupd, r_listd, r_sld, r_app, r_ext, r_reverse, r_setl, r_cat, r_int1, r_eqS, r_neS, scal_ii, scal_bb, scal_ss, at0, at1, at2, sq_lst, sq_tup, isLst_lst, List.getElem?_cons_zero, List.getElem?_cons_succ, List.set_cons_zero, List.set_cons_succ, V.int.injEq, V.bl.injEq, V.ref.injEq, V.str.injEq, HO.lst.injEq, HO.tup.injEq, Option.some.injEq, exists_eq_left', exists_eq_left, List.cons.injEq, and_true, true_and, decide_eq_true_eq, reduceCtorEq, false_and, exists_false, or_false, false_or, exists_const, and_assoc, exists_and_left, List.append_nil, ix0, ix1, ix2, cm_mod, cdw1009, cdw2003, cdw7, cdw64, cdw2, cm104729, cm2, cm3, upd_same, List.length_cons, List.length_nil, Int.reduceLT, Int.reduceLE, Nat.reduceAdd, Nat.reduceLeDiff, Nat.reduceLT, Int.reduceToNat, r_for1, r_forL, r_forT, r_lcL, r_lc1, r_yes, r_gtupD, wipe_0, wipe_1, List.cons_append, List.nil_append, r_forS, r_ipI, ite_false, ite_true, Bool.not_true, Bool.not_false, decide_true, decide_false, r_isd, r_islt, cD_ty, cD_ref, tD_non, tD_bl, tD_int, tD_str, tD_ref, tH_lst, tH_tup, tH_dK, tH_ins, ki_self, ki_int_bool, ki_non_int, ki_str_int, ki_lt_lst, ki_lt_tup, r_fld, r_sfld, HO.ins.injEq, cx_K, e2]
        exact q
      · have c0 : ¬ m < 64 := by
          have := of_decide_eq_true c
          omega
        simp only [r_seq, r_next, r_brk, r_cont, r_asg, r_name, r_ret, r_retN, r_drop, r_ifs, r_never, r_var, r_c, r_op, r_un, r_if, r_tst, r_b, r_not, r_and, r_or, r_andV, r_orV, r_notV, r_nil, r_cons, r_tup, r_lst, r_cb, r_call, r_bm, r_bm0, r_sl, r_nopart, r_part, r_rev, r_gnil, r_gcons, r_gsub, r_par, r_aug, r_chain, r_I0, r_I, r_U, r_ixd, r_lend, r_tupd, r_listd, r_sld, r_app, r_ext, r_reverse, r_setl, r_cat, r_int1, r_eqS, r_neS, scal_ii, scal_bb, scal_ss, at0, at1, at2, sq_lst, sq_tup, isLst_lst, List.getElem?_cons_zero, List.getElem?_cons_succ, List.set_cons_zero, List.set_cons_succ, V.int.injEq, V.bl.injEq, V.ref.injEq, V.str.injEq, HO.lst.injEq, HO.tup.injEq, Option.some.injEq, exists_eq_left', exists_eq_left, List.cons.injEq, and_true, true_and, decide_eq_true_eq, reduceCtorEq, false_and, exists_false, or_false, false_or, exists_const, and_assoc, exists_and_left, List.append_nil, ix0, ix1, ix2, cm_mod, cdw1009, cdw2003, cdw7, cdw64, cdw2, cm104729, cm2, cm3, upd_same, List.length_cons, List.length_nil, Int.reduceLT, Int.reduceLE, Nat.reduceAdd, Nat.reduceLeDiff, Nat.reduceLT, Int.reduceToNat, r_for1, r_forL, r_forT, r_lcL, r_lc1, r_yes, r_gtupD, wipe_0, wipe_1, List.cons_append, List.nil_append, r_forS, r_ipI, ite_false, ite_true, Bool.not_true, Bool.not_false, decide_true, decide_false, r_isd, r_islt, cD_ty, cD_ref, tD_non, tD_bl, tD_int, tD_str, tD_ref, tH_lst, tH_tup, tH_dK, tH_ins, ki_self, ki_int_bool, ki_non_int, ki_str_int, ki_lt_lst, ki_lt_tup, r_fld, r_sfld, HO.ins.injEq, cx_K, bitAnd_m6, bor64, h1, tyV_lst, hd, Int.reducePow]
        refine ⟨szlt (by rw [vn_len]; omega), ⟨m / 64, ds ++ [m % 64 + 64], by rw [Int.natCast_ediv]; rfl, ?_, ?_, ?_⟩, ?_⟩
        · intro b o e
          rw [upd_ne (pH e)]
          exact s1 b o e
        · rw [upd_same, vn_app]
          rfl
        · rw [← e1, List.append_assoc, litM_ge c0]
          rfl
        · show (((m : Int) / 64).toNat) < ((m : Int)).toNat
          omega
      · have c0 : m < 64 := by
          have := of_decide_eq_false c
          omega
        simp only [r_seq, r_next, r_brk, r_cont, r_asg, r_name, r_ret, r_retN, r_drop, r_ifs, r_never, r_var, r_c, r_op, r_un, r_if, r_tst, r_b, r_not, r_and, r_or, r_andV, r_orV, r_notV, r_nil, r_cons, r_tup, r_lst, r_cb, r_call, r_bm, r_bm0, r_sl, r_nopart, r_part, r_rev, r_gnil, r_gcons, r_gsub, r_par, r_aug, r_chain, r_I0, r_I, r_U, r_ixd, r_lend, r_tupd, r_listd, r_sld, r_app, r_ext, r_reverse, r_setl, r_cat, r_int1, r_eqS, r_neS, scal_ii, scal_bb, scal_ss, at0, at1, at2, sq_lst, sq_tup, isLst_lst, List.getElem?_cons_zero, List.getElem?_cons_succ, List.set_cons_zero, List.set_cons_succ, V.int.injEq, V.bl.injEq, V.ref.injEq, V.str.injEq, HO.lst.injEq, HO.tup.injEq, Option.some.injEq, exists_eq_left', exists_eq_left, List.cons.injEq, and_true, true_and, decide_eq_true_eq, reduceCtorEq, false_and, exists_false, or_false, false_or, exists_const, and_assoc, exists_and_left, List.append_nil, ix0, ix1, ix2, cm_mod, cdw1009, cdw2003, cdw7, cdw64, cdw2, cm104729, cm2, cm3, upd_same, List.length_cons, List.length_nil, Int.reduceLT, Int.reduceLE, Nat.reduceAdd, Nat.reduceLeDiff, Nat.reduceLT, Int.reduceToNat, r_for1, r_forL, r_forT, r_lcL, r_lc1, r_yes, r_gtupD, wipe_0, wipe_1, List.cons_append, List.nil_append, r_forS, r_ipI, ite_false, ite_true, Bool.not_true, Bool.not_false, decide_true, decide_false, r_isd, r_islt, cD_ty, cD_ref, tD_non, tD_bl, tD_int, tD_str, tD_ref, tH_lst, tH_tup, tH_dK, tH_ins, ki_self, ki_int_bool, ki_non_int, ki_str_int, ki_lt_lst, ki_lt_tup, r_fld, r_sfld, HO.ins.injEq, cx_K, h1, tyV_lst]
        refine ⟨szlt (by rw [vn_len]; omega), k p _ hp (fun b o e => ?_) ?_⟩
        · rw [upd_ne (pH e)]
          exact s1 b o e
        · rw [upd_same, ← e1, litM_lt c0, vn_app]
          rfl
end
end C48

set_option maxHeartbeats 1000000
namespace C48
open PySem PySem.Spec PyProof.Rows L2
/-! ### a star in a list display; a list times a number -/
def tStarD (te : TE) (t : TA) : TA := fun σ H Q => te σ H fun x H1 => ∃ p xs, x = .ref p ∧ sq (H1 p) = some xs ∧ t σ H1 fun ys H2 => Q (xs ++ ys) H2
section
variable {X : Cx}
theorem PA.weak {es : List Expr} {t t' : TA} (h : PA X es t) (i : ∀ σ H Q, t' σ H Q → t σ H Q) : PA X es t' := ⟨fun pos pins s σ H Q I q => h.run pos pins s σ H Q I (i _ _ _ q)⟩
theorem pa_starD {e : Expr} {es : List Expr} {te : TE} {t : TA} {p : Pos} (he : PE X e te) (hr : PA X es t) (hs : starEach (.Starred e p :: es) X.env = (true, eval e X.env) :: starEach es X.env := by rfl) : PA X (.Starred e p :: es) (tStarD te t) :=
  PA.weak (StX.pa_star (PE.mcl he) hr hs) fun σ H Q q => ⟨_, q, fun v H' ⟨a, xs, e1, h, k⟩ => ⟨a, xs, e1, (by
    rcases sq_cases h with h | h
    · exact .inr (SqL.of h)
    · exact .inl (SqT.of h)), k⟩⟩
theorem r_starD {te : TE} {t : TA} {σ : L2.St} {H : Hp} {QA : List V → Hp → Prop} : tStarD te t σ H QA = te σ H (fun x H1 => ∃ p xs, x = .ref p ∧ sq (H1 p) = some xs ∧ t σ H1 fun ys H2 => QA (xs ++ ys) H2) := rfl
theorem r_rep {x y : V} {H : Hp} {Q : VK} : rRep x y H Q = ∃ l k xs, x = .ref l ∧ y = .int k ∧ H l = some (.lst xs) ∧ -(2 ^ 63) ≤ k ∧ k < 2 ^ 63 ∧ xs.length * k.toNat ≤ sizeLine ∧ ∀ p, H p = none → Q (.ref p) (upd H p (.lst (List.replicate k.toNat xs).flatten)) := rfl
end

/-! ### the bytes of rows -/
/-- c units of line l, cur being the line told last -/
def lineB (c : Nat) (l : Option Int) (cur : Int) : List Nat := if h : c = 0 then [] else entryL (min c 8) (l.map (· - cur)) ++ lineB (c - min c 8) l (l.getD cur)
termination_by c
decreasing_by omega
theorem lineB_0 (l : Option Int) (cur : Int) : lineB 0 l cur = [] := by
  rw [lineB]
  rfl
theorem lineB_pos {c : Nat} (h : c ≠ 0) (l : Option Int) (cur : Int) : lineB c l cur = entryL (min c 8) (l.map (· - cur)) ++ lineB (c - min c 8) l (l.getD cur) := by
  rw [lineB]
  exact dif_neg h
def units (R : LR) : Nat := (R.hi - R.lo) / 2
def bytesL : List LR → Int → List Nat
  | [], _ => []
  | R :: Rs, cur => lineB (units R) R.ln cur ++ bytesL Rs (R.ln.getD cur)
/-- the line told last behind these rows -/
def curL (Rs : List LR) (cur : Int) : Int := Rs.foldl (fun c R => R.ln.getD c) cur
theorem bytesL_snoc : ∀ (Rs : List LR) (R : LR) (cur : Int), bytesL (Rs ++ [R]) cur = bytesL Rs cur ++ lineB (units R) R.ln (curL Rs cur)
  | [], R, cur => by simp [bytesL, curL]
  | Q :: Rs, R, cur => by
    show lineB (units Q) Q.ln cur ++ bytesL (Rs ++ [R]) (Q.ln.getD cur) = _
    rw [bytesL_snoc Rs R]
    simp [bytesL, curL]
theorem bytesL_app : ∀ (Rs Qs : List LR) (cur : Int), bytesL (Rs ++ Qs) cur = bytesL Rs cur ++ bytesL Qs (curL Rs cur)
  | [], Qs, cur => by simp [bytesL, curL]
  | R :: Rs, Qs, cur => by
    show lineB (units R) R.ln cur ++ bytesL (Rs ++ Qs) (R.ln.getD cur) = _
    rw [bytesL_app Rs Qs]
    simp [bytesL, curL]
theorem curL_snoc (Rs : List LR) (R : LR) (cur : Int) : curL (Rs ++ [R]) cur = R.ln.getD (curL Rs cur) := by
  unfold curL
  rw [List.foldl_append]
  rfl
def LOk (R : LR) : Prop := R.lo + 2 ≤ R.hi ∧ R.hi < 2 ^ 60 ∧ ∀ i, R.ln = some i → -(2 ^ 50) < i ∧ i < 2 ^ 50
theorem curL_ok {cur : Int} (h : -(2 ^ 50) < cur ∧ cur < 2 ^ 50) : ∀ {Rs : List LR}, (∀ R ∈ Rs, LOk R) → -(2 ^ 50) < curL Rs cur ∧ curL Rs cur < 2 ^ 50 := by
  intro Rs
  unfold curL
  induction Rs generalizing cur with
  | nil => exact fun _ => h
  | cons R Rs ih =>
    intro ok
    refine ih ?_ fun Q hq => ok Q (List.mem_cons_of_mem _ hq)
    show -(2 ^ 50) < R.ln.getD cur ∧ R.ln.getD cur < 2 ^ 50
    cases e : R.ln with
    | none => exact h
    | some i => exact (ok R List.mem_cons_self).2.2 i e
theorem lineB_none (cur : Int) : ∀ w u : Nat, 1 ≤ u → (u - 1) / 8 = w → lineB u none cur = (List.replicate w [255]).flatten ++ [248 + (u - 8 * w - 1)]
  | 0, u, h1, hw => by
    have h8 : u ≤ 8 := by omega
    rw [lineB_pos (by omega), Nat.min_eq_left h8, Nat.sub_self, lineB_0]
    show [248 + u - 1] ++ [] = _
    rw [show 248 + u - 1 = 248 + (u - 8 * 0 - 1) from by omega]
    rfl
  | w + 1, u, h1, hw => by
    have h8 : 8 < u := by omega
    rw [lineB_pos (by omega), Nat.min_eq_right (by omega)]
    show [248 + 8 - 1] ++ lineB (u - 8) none cur = _
    rw [lineB_none cur w (u - 8) (by omega) (by omega), List.replicate_succ, show u - 8 - 8 * w - 1 = u - 8 * (w + 1) - 1 from by omega]
    rfl
theorem lineB_same (l : Int) : ∀ w u : Nat, 1 ≤ u → (u - 1) / 8 = w → lineB u (some l) l = (List.replicate w [239, 0]).flatten ++ [232 + (u - 8 * w - 1), 0]
  | 0, u, h1, hw => by
    have h8 : u ≤ 8 := by omega
    rw [lineB_pos (by omega), Nat.min_eq_left h8, Nat.sub_self, lineB_0]
    show (232 + u - 1) :: litM (zig (l - l)) ++ [] = _
    rw [show 232 + u - 1 = 232 + (u - 8 * 0 - 1) from by omega, Int.sub_self, show zig 0 = 0 from rfl, litM_lt (by decide)]
    rfl
  | w + 1, u, h1, hw => by
    have h8 : 8 < u := by omega
    rw [lineB_pos (by omega), Nat.min_eq_right (by omega)]
    show ((232 + 8 - 1) :: litM (zig (l - l))) ++ lineB (u - 8) (some l) l = _
    rw [lineB_same l w (u - 8) (by omega) (by omega), List.replicate_succ, show u - 8 - 8 * w - 1 = u - 8 * (w + 1) - 1 from by omega, Int.sub_self, show zig 0 = 0 from rfl, litM_lt (by decide)]
    rfl
theorem lineB_one (l cur : Int) {u : Nat} (h1 : 1 ≤ u) (h8 : u ≤ 8) : lineB u (some l) cur = (232 + (u - 1)) :: litM (zig (l - cur)) := by
  rw [lineB_pos (by omega), Nat.min_eq_left h8, Nat.sub_self, lineB_0, List.append_nil, show 232 + (u - 1) = 232 + u - 1 from by omega]
  rfl
theorem lineB_more (l cur : Int) {u : Nat} (h8 : 8 < u) : lineB u (some l) cur = 239 :: (litM (zig (l - cur)) ++ lineB (u - 8) (some l) l) := by
  rw [lineB_pos (by omega), Nat.min_eq_right (by omega)]
  rfl
theorem vn_rep (w : Nat) (xs : List Nat) : (List.replicate w (vn xs)).flatten = vn (List.replicate w xs).flatten := by
  induction w with
  | zero => rfl
  | succ w ih => rw [List.replicate_succ, List.replicate_succ, List.flatten_cons, List.flatten_cons, vn_app, ih]
theorem rep_len (w : Nat) (xs : List Nat) : (List.replicate w xs).flatten.length = w * xs.length := by
  induction w with
  | zero => simp
  | succ w ih => rw [List.replicate_succ, List.flatten_cons, List.length_append, ih, Nat.succ_mul, Nat.add_comm]
/-- what stands for a line that is greater by so much -/
def PcsAt (H : Hp) (x : V) : Option Int → Int → Prop
  | none, _ => x = .non
  | some j, cur => ∃ p, x = .ref p ∧ H p = some (.lst (vn (litM (zig (j - cur))))) ∧ -(2 ^ 60) < j - cur ∧ j - cur < 2 ^ 60
def spEntries : Sp := fun vs H Q _ => ∃ (u : Nat) (x : V) (l : Option Int) (cur : Int), vs = [.int (u : Int), x] ∧ 1 ≤ u ∧ PcsAt H x l cur ∧ (lineB u l cur).length ≤ 2000000 ∧ ∀ p H', H p = none → Same H H' → H' p = some (.lst (vn (lineB u l cur))) → Q (.ref p) H'
section
variable {P : Program} {w : World} {K : PySem.W.Frag} {mg : Str → Option Value} {base : Heap} {f : Addr} {fd : FuncData}
abbrev sentries_of : Stmt := top 36
theorem scentries_of : FnScope ["units", "pieces", "whole", "last", "full"] ["units", "pieces"] (defScope sentries_of) := ⟨rfl, rfl, rfl, by decide +kernel, rfl, by decide +kernel, by decide +kernel⟩

theorem ok_entries_of (T : Txt mg) (F : FnP K "entries_of" "entries_of" sentries_of f fd) : FnOk P w K mg base CX0 1 f fd ["units", "pieces"] spEntries := by
  refine F.ok scentries_of (fun vs H Q E h => ?_) (fun cdv A outer s H vs Q E hr h => ?_)
  · obtain ⟨u, x, l, cur, rfl, _⟩ := h
    rfl
  · obtain ⟨u, x, l, cur, rfl, h1, hx, hz, k⟩ := h
    refine ⟨_, PSs.nox (pss_cons (ps_set (i := 2) scentries_of.nd rfl (Or.inl rfl) (pe_op op_fdivW (pe_op op_sub (pv 0) pe_int) (pe_gi T.g_MOST_UNITS)))
  (pss_cons (ps_set (i := 3) scentries_of.nd rfl (Or.inl rfl) (pe_op op_sub (pe_op op_sub (pv 0) (pe_op op_mul (pe_gi T.g_MOST_UNITS) (pv 2))) pe_int))
  (pss_cons (ps_if (pt_cmpR op_isN (pv 1) pe_non (nomark _))
    (pss_one (ps_ret (pe_op op_cat (pe_op op_rep (pe_lst (pa_cons (pe_op op_sub (pe_op op_add (pe_gi T.g_WITHOUT_LINE) (pe_gi T.g_MOST_UNITS)) pe_int) pa_nil)) (pv 2)) (pe_lst (pa_cons (pe_op op_add (pe_gi T.g_WITHOUT_LINE) (pv 3)) pa_nil)))))
    pss_nil)
  (pss_cons (ps_if (pt_cmpR op_eq (pv 2) pe_int (nomark _))
    (pss_one (ps_ret (pe_lst (pa_cons (pe_op op_add (pe_gi T.g_WITH_LINE) (pv 3)) (pa_starD (pv 1) pa_nil)))))
    pss_nil)
  (pss_cons (ps_set (i := 4) scentries_of.nd rfl (Or.inl rfl) (pe_op op_sub (pe_op op_add (pe_gi T.g_WITH_LINE) (pe_gi T.g_MOST_UNITS)) pe_int))
  (pss_one (ps_ret (pe_lst (pa_cons (pv 4) (pa_starD (pv 1) (pa_starD (pe_op op_rep (pe_lst (pa_cons (pv 4) (pa_cons pe_int pa_nil))) (pe_op op_sub (pv 2) pe_int)) (pa_cons (pe_op op_add (pe_gi T.g_WITH_LINE) (pv 3)) (pa_cons pe_int pa_nil))))))))))))), ?_⟩
    show (_ : TS) _ [some (.int (u : Int)), some x, none, none, none] H
    obtain ⟨w, hw⟩ : ∃ w, w = (u - 1) / 8 := ⟨_, rfl⟩
    have e1 : ((u : Int) - 1) / 8 = (w : Int) := by omega
    have e2 : (u : Int) - 8 * (w : Int) - 1 = ((u - 8 * w - 1 : Nat) : Int) := by omega
    have c8 : CMul 8 (w : Int) := .inl (by decide)
    have e3 : (248 : Int) + ((u - 8 * w - 1 : Nat) : Int) = ((248 + (u - 8 * w - 1) : Nat) : Int) := by omega
    have e4 : (232 : Int) + ((u - 8 * w - 1 : Nat) : Int) = ((232 + (u - 8 * w - 1) : Nat) : Int) := by omega
    have b8 : CDivW ((u : Int) - 1) 8 := of_eq_true (cdw ⟨by decide, by decide⟩)
    cases l with
    | none =>
      obtain rfl : x = .non := hx
      have eB := lineB_none cur w u h1 hw.symm
      rw [eB] at hz k
      have hw2 : w + 1 ≤ 2000000 := by rw [List.length_append, rep_len] at hz; simpa using hz
      simp only [r_seq, r_next, r_brk, r_cont, r_asg, r_name, r_ret, r_retN, r_drop, r_ifs, r_never, r_var, r_c, r_op, r_un, r_if, r_tst, r_b, r_not, r_and, r_or, r_andV, r_orV, r_notV, r_nil, r_cons, r_tup, r_lst, r_cb, r_call, r_bm, r_bm0, r_sl, r_nopart, r_part, r_rev, r_gnil, r_gcons, r_gsub, r_par, r_aug, r_chain, r_I0, r_I, r_U, r_ixd, r_lend, r_tupd, r_listd, r_sld, r_app, r_ext, r_reverse, r_setl, r_cat, r_int1, r_eqS, r_neS, scal_ii, scal_bb, scal_ss, at0, at1, at2, sq_lst, sq_tup, isLst_lst, List.getElem?_cons_zero, List.getElem?_cons_succ, List.set_cons_zero, List.set_cons_succ, V.int.injEq, V.bl.injEq, V.ref.injEq, V.str.injEq, HO.lst.injEq, HO.tup.injEq, Option.some.injEq, exists_eq_left', exists_eq_left, List.cons.injEq, and_true, true_and, decide_eq_true_eq, reduceCtorEq, false_and, exists_false, or_false, false_or, exists_const, and_assoc, exists_and_left, List.append_nil, ix0, ix1, ix2, cm_mod, cdw1009, cdw2003, cdw7, cdw64, cdw2, cm104729, cm2, cm3, upd_same, List.length_cons, List.length_nil, Int.reduceLT, Int.reduceLE, Nat.reduceAdd, Nat.reduceLeDiff, Nat.reduceLT, Int.reduceToNat, r_for1, r_forL, r_forT, r_lcL, r_lc1, r_yes, r_gtupD, wipe_0, wipe_1, List.cons_append, List.nil_append, r_forS, r_ipI, ite_false, ite_true, Bool.not_true, Bool.not_false, decide_true, decide_false, r_isd, r_islt, cD_ty, cD_ref, tD_non, tD_bl, tD_int, tD_str, tD_ref, tH_lst, tH_tup, tH_dK, tH_ins, ki_self, ki_int_bool, ki_non_int, ki_str_int, ki_lt_lst, ki_lt_tup, r_fld, r_sfld, HO.ins.injEq, cx_K, e1, e2, e3, c8, b8, r_rep, Int.reduceAdd, Int.reduceSub]
      refine ⟨szl (by decide), fun p hp => ⟨by omega, by omega, ?_, fun q hq => ⟨szl (by decide), fun r hr => ?_⟩⟩⟩
      · rw [Int.toNat_natCast]
        exact Nat.le_trans (by omega : 1 * w ≤ 2000000) (by decide)
      · have q1 : q ≠ r := ne_new upd_same hr
        refine ⟨_, by rw [upd_ne q1]; exact upd_same, ?_, fun t ht => k t _ ?_ ?_ ?_⟩
        · rw [Int.toNat_natCast, show ([V.int 255] : List V) = vn [255] from rfl, vn_rep, vn_len, rep_len]
          exact Nat.le_trans (by simp; omega : _ ≤ 2000000) (by decide)
        · exact (Same.new' (Same.new' (Same.new' (Same.refl H) hp) hq) hr).free ht
        · exact Same.new' (Same.new' (Same.new' (Same.new' (Same.refl H) hp) hq) hr) ht
        · rw [upd_same, Int.toNat_natCast, show ([V.int 255] : List V) = vn [255] from rfl, vn_rep, vn_app]
          rfl
    | some j =>
      obtain ⟨p0, rfl, hp0, d1, d2⟩ := hx
      have ll := litM_len (zig_lt d1 d2)
      simp only [r_seq, r_next, r_brk, r_cont, r_asg, r_name, r_ret, r_retN, r_drop, r_ifs, r_never, r_var, r_c, r_op, r_un, r_if, r_tst, r_b, r_not, r_and, r_or, r_andV, r_orV, r_notV, r_nil, r_cons, r_tup, r_lst, r_cb, r_call, r_bm, r_bm0, r_sl, r_nopart, r_part, r_rev, r_gnil, r_gcons, r_gsub, r_par, r_aug, r_chain, r_I0, r_I, r_U, r_ixd, r_lend, r_tupd, r_listd, r_sld, r_app, r_ext, r_reverse, r_setl, r_cat, r_int1, r_eqS, r_neS, scal_ii, scal_bb, scal_ss, at0, at1, at2, sq_lst, sq_tup, isLst_lst, List.getElem?_cons_zero, List.getElem?_cons_succ, List.set_cons_zero, List.set_cons_succ, V.int.injEq, V.bl.injEq, V.ref.injEq, V.str.injEq, HO.lst.injEq, HO.tup.injEq, Option.some.injEq, exists_eq_left', exists_eq_left, List.cons.injEq, and_true, true_and, decide_eq_true_eq, reduceCtorEq, false_and, exists_false, or_false, false_or, exists_const, and_assoc, exists_and_left, List.append_nil, ix0, ix1, ix2, cm_mod, cdw1009, cdw2003, cdw7, cdw64, cdw2, cm104729, cm2, cm3, upd_same, List.length_cons, List.length_nil, Int.reduceLT, Int.reduceLE, Nat.reduceAdd, Nat.reduceLeDiff, Nat.reduceLT, Int.reduceToNat, r_for1, r_forL, r_forT, r_lcL, r_lc1, r_yes, r_gtupD, wipe_0, wipe_1, List.cons_append, List.nil_append, r_forS, r_ipI, ite_false, ite_true, Bool.not_true, Bool.not_false, decide_true, decide_false, r_isd, r_islt, cD_ty, cD_ref, tD_non, tD_bl, tD_int, tD_str, tD_ref, tH_lst, tH_tup, tH_dK, tH_ins, ki_self, ki_int_bool, ki_non_int, ki_str_int, ki_lt_lst, ki_lt_tup, r_fld, r_sfld, HO.ins.injEq, cx_K, e1, e2, e4, c8, b8, r_rep, r_starD, hp0, Int.reduceAdd, Int.reduceSub]
      by_cases w0 : w = 0
      · have eB := lineB_one j cur h1 (by omega)
        rw [eB] at k
        rw [if_pos (by omega)]
        refine ⟨szl (by rw [vn_len]; omega), fun p hp => k p _ hp (Same.new' (Same.refl H) hp) ?_⟩
        rw [upd_same, w0]
        rfl
      · have eB := lineB_more j cur (by omega : 8 < u)
        rw [lineB_same j (w - 1) (u - 8) (by omega) (by omega)] at eB
        rw [eB] at hz k
        have hw2 : (w - 1) * 2 + 2 ≤ 2000000 := by
          rw [List.length_cons, List.length_append, List.length_append, rep_len] at hz
          simp only [List.length_cons, List.length_nil] at hz
          omega
        rw [if_neg (by omega)]
        have e5 : (w : Int) - 1 = ((w - 1 : Nat) : Int) := by omega
        rw [e5]
        refine ⟨szl (by decide), fun p hp => ⟨by omega, by omega, ?_, fun q hq => ?_⟩⟩
        · rw [Int.toNat_natCast]
          exact Nat.le_trans (by omega : 2 * (w - 1) ≤ 2000000) (by decide)
        · rw [Int.toNat_natCast, show ([V.int 239, V.int 0] : List V) = vn [239, 0] from rfl, vn_rep]
          refine ⟨Nat.le_trans (?_ : _ ≤ 2000100) (by decide), fun r hr => k r _ ?_ ?_ ?_⟩
          · rw [List.length_append, List.length_append, vn_len, vn_len, rep_len]
            simp only [List.length_cons, List.length_nil]
            omega
          · exact (Same.new' (Same.new' (Same.refl H) hp) hq).free hr
          · exact Same.new' (Same.new' (Same.new' (Same.refl H) hp) hq) hr
          · rw [upd_same, show u - 8 - 8 * (w - 1) - 1 = u - 8 * w - 1 from by omega]
            show _ = some (HO.lst (vn (239 :: (litM (zig (j - cur)) ++ ((List.replicate (w - 1) [239, 0]).flatten ++ [232 + (u - 8 * w - 1), 0])))))
            rw [show (239 :: (litM (zig (j - cur)) ++ ((List.replicate (w - 1) [239, 0]).flatten ++ [232 + (u - 8 * w - 1), 0])) : List Nat) = [239] ++ (litM (zig (j - cur)) ++ ((List.replicate (w - 1) [239, 0]).flatten ++ [232 + (u - 8 * w - 1), 0])) from rfl, vn_app, vn_app, vn_app]
            rfl
end
end C48

set_option maxHeartbeats 1000000
namespace C48
open PySem PySem.Spec PyProof.Rows L2
def spLineBytes : Sp := fun vs H Q _ => ∃ (a : Addr) (Rs : List LR) (cur : Int), vs = [.ref a, .int cur] ∧ LRowsS H a Rs ∧ Rs.length ≤ 100000 ∧ (∀ R ∈ joinL Rs, LOk R) ∧ -(2 ^ 50) < cur ∧ cur < 2 ^ 50 ∧ (bytesL (joinL Rs) cur).length ≤ 2000000 ∧
  ∀ p H', H p = none → Same H H' → H' p = some (.tup (vn (bytesL (joinL Rs) cur))) → Q (.ref p) H'
def spLineEnts : Sp := fun vs H Q _ => ∃ (J : Addr) (Js : List LR) (cur : Int), vs = [.ref J, .int cur] ∧ LRows H J Js ∧ (∀ R ∈ Js, LOk R) ∧ -(2 ^ 50) < cur ∧ cur < 2 ^ 50 ∧ (bytesL Js cur).length ≤ 2000000 ∧
  ∀ p H', H p = none → Same H H' → H' p = some (.lst (vn (bytesL Js cur))) → Q (.ref p) H'
def lvLB (H : Hp) (a F : Addr) (Js : List LR) (cur : Int) (i : Nat) (σ : L2.St) (H' : Hp) : Prop := ∃ v1 v2 v3 v4 v5 : Option V, σ = [some (.ref a), some (.int (curL (Js.take i) cur)), some (.ref F), v1, v2, v3, v4, v5] ∧ Keep F H H' ∧ H' F = some (.lst (vn (bytesL (Js.take i) cur)))
/-- c units of line j are left, of which the first ones are told as m more -/
def lvLW (H : Hp) (a F : Addr) (out : List Nat) (R : LR) (j : Int) (σ : L2.St) (H' : Hp) : Prop := ∃ (c m : Nat) (ds : List Nat), σ = [some (.ref a), some (.int j), some (.ref F), some (.int (R.lo : Int)), some (.int (R.hi : Int)), some (.int j), some (.int (c : Int)), some (.int (m : Int))] ∧
  Keep F H H' ∧ H' F = some (.lst (vn ds)) ∧ ds ++ lineB c (some j) (j - (m : Int)) = out ∧ 1 ≤ c ∧ m < 32
def msLW (σ : L2.St) : Nat := match σ with
  | _ :: _ :: _ :: _ :: _ :: _ :: some (.int a) :: _ => a.toNat
  | _ => 0
theorem litM_small {m : Nat} (h : m < 32) (j : Int) : litM (zig (j - (j - (m : Int)))) = [2 * m] := by
  rw [show j - (j - (m : Int)) = (m : Int) from by omega, show zig (m : Int) = 2 * m from by unfold zig; rw [if_pos (by omega)]; omega, litM_lt (by omega)]
section
variable {P : Program} {w : World} {K : PySem.W.Frag} {mg : Str → Option Value} {base : Heap} {f : Addr} {fd : FuncData}
abbrev sline_entries : Stmt := top 35
theorem scline_entries : FnScope ["rows", "line", "found", "begin", "end", "told", "units", "more"] ["rows", "line"] (defScope sline_entries) := ⟨rfl, rfl, rfl, by decide +kernel, rfl, by decide +kernel, by decide +kernel⟩

abbrev sline_bytes : Stmt := top 34
theorem scline_bytes : FnScope ["rows", "line"] ["rows", "line"] (defScope sline_bytes) := ⟨rfl, rfl, rfl, by decide +kernel, rfl, by decide +kernel, by decide +kernel⟩

theorem ok_line_entries (T : Txt mg) (F : FnP K "line_entries" "line_entries" sline_entries f fd) (C_signed_pieces : Cal P w K mg base 1 "signed_pieces" ["number"] spSigned) (C_entries_of : Cal P w K mg base 1 "entries_of" ["units", "pieces"] spEntries) : FnOk P w K mg base CX0 2 f fd ["rows", "line"] spLineEnts := by
  refine F.ok scline_entries (fun vs H Q E h => ?_) (fun cdv A outer s H vs Q E hr h => ?_)
  · obtain ⟨a, Rs, cur, rfl, _⟩ := h
    rfl
  · obtain ⟨J, Js, cur, rfl, ⟨refs, eJ, pJ⟩, hok, c1, c2, hz, k⟩ := h
    refine ⟨_, PSs.nox (pss_cons (ps_set (i := 2) scline_entries.nd rfl (Or.inl rfl) (pe_lst pa_nil))
  (pss_cons (ps_for PassesOwn.never rfl (pi_list (pv 0)) (pg_tupD (n := 3) rfl (pgs_cons (pg_name (i := 3) scline_entries.nd rfl (Or.inl rfl)) (pgs_cons (pg_name (i := 4) scline_entries.nd rfl (Or.inl rfl)) (pgs_cons (pg_name (i := 5) scline_entries.nd rfl (Or.inl rfl)) pgs_nil))))
    (pss_cons (ps_set (i := 6) scline_entries.nd rfl (Or.inl rfl) (pe_op op_fdivW (pe_op op_sub (pv 4) (pv 3)) pe_int))
  (pss_cons (ps_set (i := 7) scline_entries.nd rfl (Or.inl rfl) (pe_ifExp (pt_cmpR op_isN (pv 5) pe_non (nomark _)) (pe_un un_neg pe_int) (pe_op op_sub (pv 5) (pv 1))))
  (pss_one (ps_if (PW.pt (pw_and (pt_chain op_le op_lt pe_int (pv 7) pe_int) (pw_and1 (pt_chain op_lt op_lt pe_int (pv 6) (pe_gi T.g_MANY_UNITS)))))
    (pss_cons (ps_set (i := 1) scline_entries.nd rfl (Or.inl rfl) (pv 5))
  (pss_cons (ps_while PassesOwn.never (pt_cmpR op_gt (pv 6) (pe_gi T.g_MOST_UNITS) (nomark _))
    (pss_cons (ps_expr (pe_bm PySem.F.plainAttrs_list PySem.F.slot_list_append PySem.F.type_list_append mt_append (pv 2) (pa_cons (pe_op op_sub (pe_op op_add (pe_gi T.g_WITH_LINE) (pe_gi T.g_MOST_UNITS)) pe_int) pa_nil)))
  (pss_cons (ps_expr (pe_bm PySem.F.plainAttrs_list PySem.F.slot_list_append PySem.F.type_list_append mt_append (pv 2) (pa_cons (pe_op op_mul pe_int (pv 7)) pa_nil)))
  (pss_cons (ps_set (i := 7) scline_entries.nd rfl (Or.inl rfl) pe_int)
  (pss_one (ps_aug (i := 6) scline_entries.nd rfl (.inl rfl) (pe_gi T.g_MOST_UNITS) ip_sub))))))
  (pss_cons (ps_expr (pe_bm PySem.F.plainAttrs_list PySem.F.slot_list_append PySem.F.type_list_append mt_append (pv 2) (pa_cons (pe_op op_sub (pe_op op_add (pe_gi T.g_WITH_LINE) (pv 6)) pe_int) pa_nil)))
  (pss_one (ps_expr (pe_bm PySem.F.plainAttrs_list PySem.F.slot_list_append PySem.F.type_list_append mt_append (pv 2) (pa_cons (pe_op op_mul pe_int (pv 7)) pa_nil)))))))
    (pss_one (ps_if (pt_truth (pv 6) (by intro _; rfl))
    (pss_cons (ps_expr (pe_bm PySem.F.plainAttrs_list PySem.F.slot_list_extend PySem.F.type_list_extend mt_extend (pv 2) (pa_cons (pe_cal C_entries_of (hr.mono (by decide)) rfl (pa_cons (pv 6) (pa_cons (pe_ifExp (pt_cmpR op_isN (pv 5) pe_non (nomark _)) pe_non (pe_cal C_signed_pieces (hr.mono (by decide)) rfl (pa_cons (pv 7) pa_nil))) pa_nil))) pa_nil)))
  (pss_one (ps_set (i := 1) scline_entries.nd rfl (Or.inl rfl) (pe_ifExp (pt_cmpR op_isN (pv 5) pe_non (nomark _)) (pv 1) (pv 5)))))
    pss_nil)))))))
  (pss_one (ps_ret (pv 2))))), ?_⟩
    show (_ : TS) _ [some (.ref J), some (.int cur), none, none, none, none, none, none] H
    simp only [r_seq, r_next, r_brk, r_cont, r_asg, r_name, r_ret, r_retN, r_drop, r_ifs, r_never, r_var, r_c, r_op, r_un, r_if, r_tst, r_b, r_not, r_and, r_or, r_andV, r_orV, r_notV, r_nil, r_cons, r_tup, r_lst, r_cb, r_call, r_bm, r_bm0, r_sl, r_nopart, r_part, r_rev, r_gnil, r_gcons, r_gsub, r_par, r_aug, r_chain, r_I0, r_I, r_U, r_ixd, r_lend, r_tupd, r_listd, r_sld, r_app, r_ext, r_reverse, r_setl, r_cat, r_int1, r_eqS, r_neS, scal_ii, scal_bb, scal_ss, at0, at1, at2, sq_lst, sq_tup, isLst_lst, List.getElem?_cons_zero, List.getElem?_cons_succ, List.set_cons_zero, List.set_cons_succ, V.int.injEq, V.bl.injEq, V.ref.injEq, V.str.injEq, HO.lst.injEq, HO.tup.injEq, Option.some.injEq, exists_eq_left', exists_eq_left, List.cons.injEq, and_true, true_and, decide_eq_true_eq, reduceCtorEq, false_and, exists_false, or_false, false_or, exists_const, and_assoc, exists_and_left, List.append_nil, ix0, ix1, ix2, cm_mod, cdw1009, cdw2003, cdw7, cdw64, cdw2, cm104729, cm2, cm3, upd_same, List.length_cons, List.length_nil, Int.reduceLT, Int.reduceLE, Nat.reduceAdd, Nat.reduceLeDiff, Nat.reduceLT, Int.reduceToNat, r_for1, r_forL, r_forT, r_lcL, r_lc1, r_yes, r_gtupD, wipe_0, wipe_1, List.cons_append, List.nil_append, r_forS, r_ipI, ite_false, ite_true, Bool.not_true, Bool.not_false, decide_true, decide_false, r_isd, r_islt, cD_ty, cD_ref, tD_non, tD_bl, tD_int, tD_str, tD_ref, tH_lst, tH_tup, tH_dK, tH_ins, ki_self, ki_int_bool, ki_non_int, ki_str_int, ki_lt_lst, ki_lt_tup, r_fld, r_sfld, HO.ins.injEq, cx_K]
    refine ⟨szl (by decide), fun F hF => ?_⟩
    have JF : J ≠ F := ne_new eJ hF
    have eJ1 : L2.upd H F (.lst []) J = some (.lst (refs.map V.ref)) := by rw [upd_ne JF]; exact eJ
    have pJ1 : Paired (fun r R => L2.upd H F (.lst []) r = some (.tup (lv R))) refs Js := Paired.map' pJ fun x y h => by rw [upd_ne (ne_new h hF)]; exact h
    have hF1 : L2.upd H F (.lst []) F = some (.lst []) := upd_same
    have sH : ∀ {H' : Hp}, Keep F (L2.upd H F (.lst [])) H' → Same H H' := fun kk b o e => kk b o (ne_new e hF) (by rw [upd_ne (ne_new e hF)]; exact e)
    have lr := Paired.length pJ
    clear pJ eJ
    generalize L2.upd H F (.lst []) = H1 at *
    refine ⟨⟨_, SqL.of eJ1⟩, lp_list (xs := refs.map V.ref) (lvLB H1 J F Js cur) ⟨_, _, _, _, _, rfl, Keep.refl F H1, hF1⟩ (fun i σ H' _ ⟨_, _, _, _, _, _, kk, _⟩ => SqL.of (kk _ _ JF eJ1)) ?_ ?_⟩
    · rintro i x σ H2 hx ⟨v1, v2, v3, v4, v5, rfl, kk, h2⟩
      have hir : i < refs.length := by
        have := (List.getElem?_eq_some_iff.mp hx).1
        rwa [List.length_map] at this
      have hiR : i < Js.length := by rw [← lr]; exact hir
      obtain rfl : x = .ref refs[i] := by
        rw [List.getElem?_map, List.getElem?_eq_getElem hir] at hx
        exact (Option.some.inj hx).symm
      have h0 := Paired.at' pJ1 hir hiR
      have rF : refs[i] ≠ F := fun z => by rw [z, hF1] at h0; cases h0
      have hrow := kk _ _ rF h0
      have ok := hok _ (List.getElem_mem hiR)
      have cok := curL_ok ⟨c1, c2⟩ (Rs := Js.take i) fun Q hq => hok Q (List.mem_of_mem_take hq)
      have eb : bytesL (Js.take (i + 1)) cur = bytesL (Js.take i) cur ++ lineB (units Js[i]) Js[i].ln (curL (Js.take i) cur) := by rw [← List.take_append_getElem hiR, bytesL_snoc]
      have ec : curL (Js.take (i + 1)) cur = Js[i].ln.getD (curL (Js.take i) cur) := by rw [← List.take_append_getElem hiR, curL_snoc]
      have lz : (bytesL (Js.take (i + 1)) cur).length ≤ 2000000 := by
        have e := bytesL_app (Js.take (i + 1)) (Js.drop (i + 1)) cur
        rw [List.take_append_drop] at e
        rw [e, List.length_append] at hz
        omega
      obtain ⟨R, hRe⟩ : ∃ R, R = Js[i] := ⟨_, rfl⟩
      rw [← hRe] at hrow ok eb ec
      obtain ⟨o1, o2, o3⟩ := id ok
      have hu : ((R.hi : Int) - (R.lo : Int)) / 2 = ((units R : Nat) : Int) := by unfold units; omega
      have hu1 : 1 ≤ units R := by unfold units; omega
      rw [eb] at lz
      have fin : ∀ (c : Int) (v1 v2 v3 v4 v5 : Option V) (H3 : Hp) (ds : List Nat), c = R.ln.getD (curL (Js.take i) cur) → Keep F H1 H3 → H3 F = some (.lst (vn ds)) → ds = bytesL (Js.take i) cur ++ lineB (units R) R.ln (curL (Js.take i) cur) →
          lvLB H1 J F Js cur (i + 1) [some (.ref J), some (.int c), some (.ref F), v1, v2, v3, v4, v5] H3 := by
        rintro c v1 v2 v3 v4 v5 H3 ds rfl k3 h3 rfl
        exact ⟨v1, v2, v3, v4, v5, by rw [ec], k3, by rw [eb]; exact h3⟩
      clear eb ec
      generalize bytesL (Js.take i) cur = pre at *
      generalize curL (Js.take i) cur = cu0 at *
      have hun : (((units R : Nat) : Int) != 0) = true := by
        rw [bne_iff_ne]
        omega
      have lB : (lineB (units R) R.ln cu0).length ≤ 2000000 := by
        rw [List.length_append] at lz
        omega
      have ext : ∀ (x : V) (c : Int) (v1 v2 v3 v4 v5 : Option V) (H3 : Hp), Same H2 H3 → PcsAt H3 x R.ln cu0 → c = R.ln.getD cu0 → spEntries [.int ((units R : Nat) : Int), x] H3 (fun y H4 => ∃ a, y = .ref a ∧ ∃ xs, H4 F = some (.lst xs) ∧ ∃ zs, H4 a = some (.lst zs) ∧ xs.length + zs.length ≤ sizeLine ∧
          lvLB H1 J F Js cur (i + 1) [some (.ref J), some (.int c), some (.ref F), v1, v2, v3, v4, v5] (L2.upd H4 F (.lst (xs ++ zs)))) E0 := by
        intro x c v1 v2 v3 v4 v5 H3 s3 px hc
        refine ⟨units R, x, R.ln, cu0, rfl, hu1, px, lB, fun p H4 hp s4 h4 => ⟨p, rfl, _, s4 _ _ (s3 _ _ h2), _, h4, ?_, fin _ _ _ _ _ _ _ _ hc ((kk.trans ((Keep.same s3).trans (Keep.same s4))).upd) (by rw [upd_same, ← vn_app]) rfl⟩⟩
        rw [vn_len, vn_len, ← List.length_append]
        exact Nat.le_trans lz (by decide)
      cases e : R.ln with
      | none =>
        have hl : lnV R.ln = .non := by rw [e]; rfl
        simp only [r_seq, r_next, r_brk, r_cont, r_asg, r_name, r_ret, r_retN, r_drop, r_ifs, r_never, r_var, r_c, r_op, r_un, r_if, r_tst, r_b, r_not, r_and, r_or, r_andV, r_orV, r_notV, r_nil, r_cons, r_tup, r_lst, r_cb, r_call, r_bm, r_bm0, r_sl, r_nopart, r_part, r_rev, r_gnil, r_gcons, r_gsub, r_par, r_aug, r_chain, r_I0, r_I, r_U, r_ixd, r_lend, r_tupd, r_listd, r_sld, r_app, r_ext, r_reverse, r_setl, r_cat, r_int1, r_eqS, r_neS, scal_ii, scal_bb, scal_ss, at0, at1, at2, sq_lst, sq_tup, isLst_lst, List.getElem?_cons_zero, List.getElem?_cons_succ, List.set_cons_zero, List.set_cons_succ, V.int.injEq, V.bl.injEq, V.ref.injEq, V.str.injEq, HO.lst.injEq, HO.tup.injEq, Option.some.injEq, exists_eq_left', exists_eq_left, List.cons.injEq, and_true, true_and, decide_eq_true_eq, reduceCtorEq, false_and, exists_false, or_false, false_or, exists_const, and_assoc, exists_and_left, List.append_nil, ix0, ix1, ix2, cm_mod, cdw1009, cdw2003, cdw7, cdw64, cdw2, cm104729, cm2, cm3, upd_same, List.length_cons, List.length_nil, Int.reduceLT, Int.reduceLE, Nat.reduceAdd, Nat.reduceLeDiff, Nat.reduceLT, Int.reduceToNat, r_for1, r_forL, r_forT, r_lcL, r_lc1, r_yes, r_gtupD, wipe_0, wipe_1, List.cons_append, List.nil_append, r_forS, r_ipI, ite_false, ite_true, Bool.not_true, Bool.not_false, decide_true, decide_false, r_isd, r_islt, cD_ty, cD_ref, tD_non, tD_bl, tD_int, tD_str, tD_ref, tH_lst, tH_tup, tH_dK, tH_ins, ki_self, ki_int_bool, ki_non_int, ki_str_int, ki_lt_lst, ki_lt_tup, r_fld, r_sfld, HO.ins.injEq, cx_K, hrow, lv, hu, hl, Int.reduceNeg]
        refine ⟨(((units R : Nat) : Int) != 0), rfl, ?_⟩
        rw [hun, if_pos rfl]
        exact ⟨tyl h2, ext .non _ _ _ _ _ _ _ (Same.refl H2) (by rw [e]; rfl) (by rw [e]; rfl)⟩
      | some j =>
        have hl : lnV R.ln = .int j := by rw [e]; rfl
        have jb := o3 j e
        have d1 : -(2 ^ 60) < j - cu0 := by omega
        have d2 : j - cu0 < 2 ^ 60 := by omega
        simp only [r_seq, r_next, r_brk, r_cont, r_asg, r_name, r_ret, r_retN, r_drop, r_ifs, r_never, r_var, r_c, r_op, r_un, r_if, r_tst, r_b, r_not, r_and, r_or, r_andV, r_orV, r_notV, r_nil, r_cons, r_tup, r_lst, r_cb, r_call, r_bm, r_bm0, r_sl, r_nopart, r_part, r_rev, r_gnil, r_gcons, r_gsub, r_par, r_aug, r_chain, r_I0, r_I, r_U, r_ixd, r_lend, r_tupd, r_listd, r_sld, r_app, r_ext, r_reverse, r_setl, r_cat, r_int1, r_eqS, r_neS, scal_ii, scal_bb, scal_ss, at0, at1, at2, sq_lst, sq_tup, isLst_lst, List.getElem?_cons_zero, List.getElem?_cons_succ, List.set_cons_zero, List.set_cons_succ, V.int.injEq, V.bl.injEq, V.ref.injEq, V.str.injEq, HO.lst.injEq, HO.tup.injEq, Option.some.injEq, exists_eq_left', exists_eq_left, List.cons.injEq, and_true, true_and, decide_eq_true_eq, reduceCtorEq, false_and, exists_false, or_false, false_or, exists_const, and_assoc, exists_and_left, List.append_nil, ix0, ix1, ix2, cm_mod, cdw1009, cdw2003, cdw7, cdw64, cdw2, cm104729, cm2, cm3, upd_same, List.length_cons, List.length_nil, Int.reduceLT, Int.reduceLE, Nat.reduceAdd, Nat.reduceLeDiff, Nat.reduceLT, Int.reduceToNat, r_for1, r_forL, r_forT, r_lcL, r_lc1, r_yes, r_gtupD, wipe_0, wipe_1, List.cons_append, List.nil_append, r_forS, r_ipI, ite_false, ite_true, Bool.not_true, Bool.not_false, decide_true, decide_false, r_isd, r_islt, cD_ty, cD_ref, tD_non, tD_bl, tD_int, tD_str, tD_ref, tH_lst, tH_tup, tH_dK, tH_ins, ki_self, ki_int_bool, ki_non_int, ki_str_int, ki_lt_lst, ki_lt_tup, r_fld, r_sfld, HO.ins.injEq, cx_K, hrow, lv, hu, hl]
        have slow : ∃ k, TruV K (V.int ((units R : Nat) : Int)) H2 k ∧ if k = true then tyV K "list" (V.ref F) H2 ∧ spSigned [V.int (j - cu0)] H2 (fun x H1_1 => spEntries [V.int ((units R : Nat) : Int), x] H1_1 (fun x H1_2 => ∃ x_1, x = V.ref x_1 ∧ ∃ x, H1_2 F = some (HO.lst x) ∧ ∃ x_2, H1_2 x_1 = some (HO.lst x_2) ∧ x.length + x_2.length ≤ sizeLine ∧
              lvLB H1 J F Js cur (i + 1) [some (V.ref J), some (V.int j), some (V.ref F), some (V.int (R.lo : Int)), some (V.int (R.hi : Int)), some (V.int j), some (V.int ((units R : Nat) : Int)), some (V.int (j - cu0))] (upd H1_2 F (HO.lst (x ++ x_2)))) E0) E0
            else lvLB H1 J F Js cur (i + 1) [some (V.ref J), some (V.int cu0), some (V.ref F), some (V.int (R.lo : Int)), some (V.int (R.hi : Int)), some (V.int j), some (V.int ((units R : Nat) : Int)), some (V.int (j - cu0))] H2 := by
          refine ⟨(((units R : Nat) : Int) != 0), rfl, ?_⟩
          rw [hun, if_pos rfl]
          refine ⟨tyl h2, j - cu0, rfl, d1, d2, fun p H3 hp s3 h3 => ?_⟩
          exact ext (.ref p) _ _ _ _ _ _ _ s3 (by rw [e]; exact ⟨p, rfl, h3, d1, d2⟩) (by rw [e]; rfl)
        refine ite2 (fun g1 => ite2 (fun g2 => ite2 (fun _ => ite2 (fun g4 => ?_) fun _ => slow) fun _ => slow) fun _ => slow) fun _ => slow
        clear slow ext
        obtain ⟨m0, hm0⟩ : ∃ m : Nat, j - cu0 = (m : Int) := ⟨(j - cu0).toNat, by omega⟩
        have hc0 : cu0 = j - (m0 : Int) := by omega
        rw [hm0]
        refine while_d (lvLW H1 J F (pre ++ lineB (units R) R.ln cu0) R j) (fun σ _ => msLW σ) ⟨units R, m0, pre, rfl, kk, h2, by rw [e, hc0], hu1, by omega⟩ ?_
        rintro σ H3 ⟨c, m, ds, rfl, k3, h3, e3, q1, q2⟩
        have ldz : ds.length ≤ 2000000 := by
          rw [← e3, List.length_append] at lz
          omega
        have c2m : CMul 2 (m : Int) := .inl (by decide)
        have e2m : 2 * (m : Int) = ((2 * m : Nat) : Int) := by omega
        refine ⟨decide (8 < c), fun QT q => ?_, fun cc => ?_, fun cc => ?_⟩
        · have e2 : decide ((8 : Int) < (c : Int)) = decide (8 < c) := decide_eq_decide.mpr (by omega)
          simp only [r_seq, r_next, r_brk, r_cont, r_asg, r_name, r_ret, r_retN, r_drop, r_ifs, r_never, r_var, r_c, r_op, r_un, r_if, r_tst, r_b, r_not, r_and, r_or, r_andV, r_orV, r_notV, r_nil, r_cons, r_tup, r_lst, r_cb, r_call, r_bm, r_bm0, r_sl, r_nopart, r_part, r_rev, r_gnil, r_gcons, r_gsub, r_par, r_aug, r_chain, r_I0, r_I, r_U, r_ixd, r_lend, r_tupd, r_listd, r_sld, r_app, r_ext, r_reverse, r_setl, r_cat, r_int1, r_eqS, r_neS, scal_ii, scal_bb, scal_ss, at0, at1, at2, sq_lst, sq_tup, isLst_lst, List.getElem?_cons_zero, List.getElem?_cons_succ, List.set_cons_zero, List.set_cons_succ, V.int.injEq, V.bl.injEq, V.ref.injEq, V.str.injEq, HO.lst.injEq, HO.tup.injEq, Option.some.injEq, exists_eq_left', exists_eq_left, List.cons.injEq, and_true, true_and, decide_eq_true_eq, reduceCtorEq, false_and, exists_false, or_false, false_or, exists_const, and_assoc, exists_and_left, List.append_nil, ix0, ix1, ix2, cm_mod, cdw1009, cdw2003, cdw7, cdw64, cdw2, cm104729, cm2, cm3, upd_same, List.length_cons, List.length_nil, Int.reduceLT, Int.reduceLE, Nat.reduceAdd, Nat.reduceLeDiff, Nat.reduceLT, Int.reduceToNat, r_for1, r_forL, r_forT, r_lcL, r_lc1, r_yes, r_gtupD, wipe_0, wipe_1, List.cons_append, List.nil_append, r_forS, r_ipI, ite_false, ite_true, Bool.not_true, Bool.not_false, decide_true, decide_false, r_isd, r_islt, cD_ty, cD_ref, tD_non, tD_bl, tD_int, tD_str, tD_ref, tH_lst, tH_tup, tH_dK, tH_ins, ki_self, ki_int_bool, ki_non_int, ki_str_int, ki_lt_lst, ki_lt_tup, r_fld, r_sfld, HO.ins.injEq, cx_K, e2]
          exact q
        · have c8 : 8 < c := of_decide_eq_true cc
          have hs : (c : Int) - 8 = ((c - 8 : Nat) : Int) := by omega
          simp only [r_seq, r_next, r_brk, r_cont, r_asg, r_name, r_ret, r_retN, r_drop, r_ifs, r_never, r_var, r_c, r_op, r_un, r_if, r_tst, r_b, r_not, r_and, r_or, r_andV, r_orV, r_notV, r_nil, r_cons, r_tup, r_lst, r_cb, r_call, r_bm, r_bm0, r_sl, r_nopart, r_part, r_rev, r_gnil, r_gcons, r_gsub, r_par, r_aug, r_chain, r_I0, r_I, r_U, r_ixd, r_lend, r_tupd, r_listd, r_sld, r_app, r_ext, r_reverse, r_setl, r_cat, r_int1, r_eqS, r_neS, scal_ii, scal_bb, scal_ss, at0, at1, at2, sq_lst, sq_tup, isLst_lst, List.getElem?_cons_zero, List.getElem?_cons_succ, List.set_cons_zero, List.set_cons_succ, V.int.injEq, V.bl.injEq, V.ref.injEq, V.str.injEq, HO.lst.injEq, HO.tup.injEq, Option.some.injEq, exists_eq_left', exists_eq_left, List.cons.injEq, and_true, true_and, decide_eq_true_eq, reduceCtorEq, false_and, exists_false, or_false, false_or, exists_const, and_assoc, exists_and_left, List.append_nil, ix0, ix1, ix2, cm_mod, cdw1009, cdw2003, cdw7, cdw64, cdw2, cm104729, cm2, cm3, upd_same, List.length_cons, List.length_nil, Int.reduceLT, Int.reduceLE, Nat.reduceAdd, Nat.reduceLeDiff, Nat.reduceLT, Int.reduceToNat, r_for1, r_forL, r_forT, r_lcL, r_lc1, r_yes, r_gtupD, wipe_0, wipe_1, List.cons_append, List.nil_append, r_forS, r_ipI, ite_false, ite_true, Bool.not_true, Bool.not_false, decide_true, decide_false, r_isd, r_islt, cD_ty, cD_ref, tD_non, tD_bl, tD_int, tD_str, tD_ref, tH_lst, tH_tup, tH_dK, tH_ins, ki_self, ki_int_bool, ki_non_int, ki_str_int, ki_lt_lst, ki_lt_tup, r_fld, r_sfld, HO.ins.injEq, cx_K, h3, tyV_lst, hs, c2m, e2m, Int.reduceAdd, Int.reduceSub]
          refine ⟨Nat.lt_of_le_of_lt (by rw [vn_len]; exact ldz) (by decide), Nat.lt_of_le_of_lt (by rw [List.length_append, vn_len, List.length_singleton]; omega : _ ≤ 2000001) (by decide), ?_⟩
          have hlt : ((c - 8 : Nat) : Int).toNat < ((c : Nat) : Int).toNat := by omega
          refine ⟨⟨c - 8, 0, ds ++ [239, 2 * m], rfl, k3.upd.upd, by rw [upd_same, vn_app, List.append_assoc]; rfl, ?_, by omega, by decide⟩, hlt⟩
          rw [← e3, lineB_more j _ c8, litM_small q2, List.append_assoc, show j - ((0 : Nat) : Int) = j from by omega]
          rfl
        · have c8 : c ≤ 8 := by
            have := of_decide_eq_false cc
            omega
          have hb8 : (232 : Int) + (c : Int) - 1 = ((232 + (c - 1) : Nat) : Int) := by omega
          simp only [r_seq, r_next, r_brk, r_cont, r_asg, r_name, r_ret, r_retN, r_drop, r_ifs, r_never, r_var, r_c, r_op, r_un, r_if, r_tst, r_b, r_not, r_and, r_or, r_andV, r_orV, r_notV, r_nil, r_cons, r_tup, r_lst, r_cb, r_call, r_bm, r_bm0, r_sl, r_nopart, r_part, r_rev, r_gnil, r_gcons, r_gsub, r_par, r_aug, r_chain, r_I0, r_I, r_U, r_ixd, r_lend, r_tupd, r_listd, r_sld, r_app, r_ext, r_reverse, r_setl, r_cat, r_int1, r_eqS, r_neS, scal_ii, scal_bb, scal_ss, at0, at1, at2, sq_lst, sq_tup, isLst_lst, List.getElem?_cons_zero, List.getElem?_cons_succ, List.set_cons_zero, List.set_cons_succ, V.int.injEq, V.bl.injEq, V.ref.injEq, V.str.injEq, HO.lst.injEq, HO.tup.injEq, Option.some.injEq, exists_eq_left', exists_eq_left, List.cons.injEq, and_true, true_and, decide_eq_true_eq, reduceCtorEq, false_and, exists_false, or_false, false_or, exists_const, and_assoc, exists_and_left, List.append_nil, ix0, ix1, ix2, cm_mod, cdw1009, cdw2003, cdw7, cdw64, cdw2, cm104729, cm2, cm3, upd_same, List.length_cons, List.length_nil, Int.reduceLT, Int.reduceLE, Nat.reduceAdd, Nat.reduceLeDiff, Nat.reduceLT, Int.reduceToNat, r_for1, r_forL, r_forT, r_lcL, r_lc1, r_yes, r_gtupD, wipe_0, wipe_1, List.cons_append, List.nil_append, r_forS, r_ipI, ite_false, ite_true, Bool.not_true, Bool.not_false, decide_true, decide_false, r_isd, r_islt, cD_ty, cD_ref, tD_non, tD_bl, tD_int, tD_str, tD_ref, tH_lst, tH_tup, tH_dK, tH_ins, ki_self, ki_int_bool, ki_non_int, ki_str_int, ki_lt_lst, ki_lt_tup, r_fld, r_sfld, HO.ins.injEq, cx_K, h3, tyV_lst, hb8, c2m, e2m]
          refine ⟨Nat.lt_of_le_of_lt (by rw [vn_len]; exact ldz) (by decide), Nat.lt_of_le_of_lt (by rw [List.length_append, vn_len, List.length_singleton]; omega : _ ≤ 2000001) (by decide), ?_⟩
          refine fin _ _ _ _ _ _ _ (ds ++ [232 + (c - 1), 2 * m]) (by rw [e]; rfl) k3.upd.upd (by rw [upd_same, vn_app, List.append_assoc]; rfl) ?_
          rw [← e3, lineB_one j _ q1 c8, litM_small q2]
    · rintro σ H2 ⟨v1, v2, v3, v4, v5, rfl, kk, h2⟩
      rw [List.length_map, lr, List.take_length] at h2
      simp only [r_seq, r_next, r_brk, r_cont, r_asg, r_name, r_ret, r_retN, r_drop, r_ifs, r_never, r_var, r_c, r_op, r_un, r_if, r_tst, r_b, r_not, r_and, r_or, r_andV, r_orV, r_notV, r_nil, r_cons, r_tup, r_lst, r_cb, r_call, r_bm, r_bm0, r_sl, r_nopart, r_part, r_rev, r_gnil, r_gcons, r_gsub, r_par, r_aug, r_chain, r_I0, r_I, r_U, r_ixd, r_lend, r_tupd, r_listd, r_sld, r_app, r_ext, r_reverse, r_setl, r_cat, r_int1, r_eqS, r_neS, scal_ii, scal_bb, scal_ss, at0, at1, at2, sq_lst, sq_tup, isLst_lst, List.getElem?_cons_zero, List.getElem?_cons_succ, List.set_cons_zero, List.set_cons_succ, V.int.injEq, V.bl.injEq, V.ref.injEq, V.str.injEq, HO.lst.injEq, HO.tup.injEq, Option.some.injEq, exists_eq_left', exists_eq_left, List.cons.injEq, and_true, true_and, decide_eq_true_eq, reduceCtorEq, false_and, exists_false, or_false, false_or, exists_const, and_assoc, exists_and_left, List.append_nil, ix0, ix1, ix2, cm_mod, cdw1009, cdw2003, cdw7, cdw64, cdw2, cm104729, cm2, cm3, upd_same, List.length_cons, List.length_nil, Int.reduceLT, Int.reduceLE, Nat.reduceAdd, Nat.reduceLeDiff, Nat.reduceLT, Int.reduceToNat, r_for1, r_forL, r_forT, r_lcL, r_lc1, r_yes, r_gtupD, wipe_0, wipe_1, List.cons_append, List.nil_append, r_forS, r_ipI, ite_false, ite_true, Bool.not_true, Bool.not_false, decide_true, decide_false, r_isd, r_islt, cD_ty, cD_ref, tD_non, tD_bl, tD_int, tD_str, tD_ref, tH_lst, tH_tup, tH_dK, tH_ins, ki_self, ki_int_bool, ki_non_int, ki_str_int, ki_lt_lst, ki_lt_tup, r_fld, r_sfld, HO.ins.injEq, cx_K, h2]
      exact k F _ hF (sH kk) h2
theorem ok_line_bytes (T : Txt mg) (F : FnP K "line_bytes" "line_bytes" sline_bytes f fd) (C_joined : Cal P w K mg base 1 "joined" ["rows"] spJoined) (C_line_entries : Cal P w K mg base 2 "line_entries" ["rows", "line"] spLineEnts) : FnOk P w K mg base CX0 3 f fd ["rows", "line"] spLineBytes := by
  refine F.ok scline_bytes (fun vs H Q E h => ?_) (fun cdv A outer s H vs Q E hr h => ?_)
  · obtain ⟨a, Rs, cur, rfl, _⟩ := h
    rfl
  · obtain ⟨a, Rs, cur, rfl, ha, hl, hok, c1, c2, hz, k⟩ := h
    refine ⟨_, PSs.nox (pss_one (ps_ret (pe_callTy call_tuple_d (by rfl) T.b_tuple (by decide +kernel) (pa_cons (pe_cal C_line_entries (hr.mono (by decide)) rfl (pa_cons (pe_cal C_joined (hr.mono (by decide)) rfl (pa_cons (pv 0) pa_nil)) (pa_cons (pv 1) pa_nil))) pa_nil)))), ?_⟩
    show (_ : TS) _ [some (.ref a), some (.int cur)] H
    simp only [r_seq, r_next, r_brk, r_cont, r_asg, r_name, r_ret, r_retN, r_drop, r_ifs, r_never, r_var, r_c, r_op, r_un, r_if, r_tst, r_b, r_not, r_and, r_or, r_andV, r_orV, r_notV, r_nil, r_cons, r_tup, r_lst, r_cb, r_call, r_bm, r_bm0, r_sl, r_nopart, r_part, r_rev, r_gnil, r_gcons, r_gsub, r_par, r_aug, r_chain, r_I0, r_I, r_U, r_ixd, r_lend, r_tupd, r_listd, r_sld, r_app, r_ext, r_reverse, r_setl, r_cat, r_int1, r_eqS, r_neS, scal_ii, scal_bb, scal_ss, at0, at1, at2, sq_lst, sq_tup, isLst_lst, List.getElem?_cons_zero, List.getElem?_cons_succ, List.set_cons_zero, List.set_cons_succ, V.int.injEq, V.bl.injEq, V.ref.injEq, V.str.injEq, HO.lst.injEq, HO.tup.injEq, Option.some.injEq, exists_eq_left', exists_eq_left, List.cons.injEq, and_true, true_and, decide_eq_true_eq, reduceCtorEq, false_and, exists_false, or_false, false_or, exists_const, and_assoc, exists_and_left, List.append_nil, ix0, ix1, ix2, cm_mod, cdw1009, cdw2003, cdw7, cdw64, cdw2, cm104729, cm2, cm3, upd_same, List.length_cons, List.length_nil, Int.reduceLT, Int.reduceLE, Nat.reduceAdd, Nat.reduceLeDiff, Nat.reduceLT, Int.reduceToNat, r_for1, r_forL, r_forT, r_lcL, r_lc1, r_yes, r_gtupD, wipe_0, wipe_1, List.cons_append, List.nil_append, r_forS, r_ipI, ite_false, ite_true, Bool.not_true, Bool.not_false, decide_true, decide_false, r_isd, r_islt, cD_ty, cD_ref, tD_non, tD_bl, tD_int, tD_str, tD_ref, tH_lst, tH_tup, tH_dK, tH_ins, ki_self, ki_int_bool, ki_non_int, ki_str_int, ki_lt_lst, ki_lt_tup, r_fld, r_sfld, HO.ins.injEq, cx_K]
    refine ⟨a, Rs, rfl, ha, hl, fun J H1 hJ s1 r1 => ⟨J, _, cur, rfl, r1, hok, c1, c2, hz, fun p H2 hp s2 h2 => ⟨p, rfl, _, h2, fun l hl => k l _ ?_ ?_ upd_same⟩⟩⟩
    · exact (s1.trans s2).free hl
    · exact Same.new' (s1.trans s2) hl
end
end C48

set_option maxHeartbeats 1000000
namespace C48
open PySem PySem.Spec PyProof.Rows L2
def spLLB : Sp := fun vs H Q _ => ∃ (a : Addr) (Rs : List LR) (cur : Int), vs = [.ref a, .int cur] ∧ LRows H a Rs ∧ Rs.length ≤ 100000 ∧ (∀ R ∈ joinL Rs, LOk R) ∧ -(2 ^ 50) < cur ∧ cur < 2 ^ 50 ∧ (bytesL (joinL Rs) cur).length ≤ 2000000 ∧
  ∀ p H', H p = none → Same H H' → H' p = some (.lst (vn (bytesL (joinL Rs) cur))) → Q (.ref p) H'
/-- behind k turns of the inner loop -/
def lvLK (H : Hp) (a F : Addr) (pre : List Nat) (R : LR) (cur : Int) (k : Nat) (σ : L2.St) (H' : Hp) : Prop := ∃ (cu : Int) (ds : List Nat) (v : Option V), σ = [some (.ref a), some (.int cu), some (.ref F), some (.int (R.lo : Int)), some (.int (R.hi : Int)), some (lnV R.ln), some (.int ((units R : Nat) : Int)), v] ∧
  Keep F H H' ∧ H' F = some (.lst (vn ds)) ∧ ds ++ lineB (units R - 8 * k) R.ln cu = pre ++ lineB (units R) R.ln cur ∧ (cu = cur ∨ R.ln = some cu) ∧ (0 < k → cu = R.ln.getD cur)
section
variable {P : Program} {w : World} {K : PySem.W.Frag} {mg : Str → Option Value} {base : Heap} {f : Addr} {fd : FuncData}
abbrev slline_bytes : Stmt := top 47
theorem sclline_bytes : FnScope ["_law_some", "_law_line", "_law_found", "_law_low", "_law_high", "_law_here", "_law_many", "_law_k"] ["_law_some", "_law_line"] (defScope slline_bytes) := ⟨rfl, rfl, rfl, by decide +kernel, rfl, by decide +kernel, by decide +kernel⟩

theorem ok_lline_bytes (T : Txt mg) (F : FnP K "_law_line_bytes" "_law_line_bytes" slline_bytes f fd) (C_joined : Cal P w K mg base 1 "_law_joined" ["_law_some"] spJoinedL) (C_entry : Cal P w K mg base 2 "_law_entry" ["_law_units", "_law_more"] spEntry) : FnOk P w K mg base CX0 3 f fd ["_law_some", "_law_line"] spLLB := by
  refine F.ok sclline_bytes (fun vs H Q E h => ?_) (fun cdv A outer s H vs Q E hr h => ?_)
  · obtain ⟨a, Rs, cur, rfl, _⟩ := h
    rfl
  · obtain ⟨a, Rs, cur, rfl, ha, hl, hok, c1, c2, hz, k⟩ := h
    refine ⟨_, PSs.nox (pss_cons (ps_set (i := 2) sclline_bytes.nd rfl (Or.inl rfl) (pe_lst pa_nil))
  (pss_cons (ps_for PassesOwn.never rfl (pi_list (pe_cal C_joined (hr.mono (by decide)) rfl (pa_cons (pv 0) pa_nil))) (pg_tupD (n := 3) rfl (pgs_cons (pg_name (i := 3) sclline_bytes.nd rfl (Or.inl rfl)) (pgs_cons (pg_name (i := 4) sclline_bytes.nd rfl (Or.inl rfl)) (pgs_cons (pg_name (i := 5) sclline_bytes.nd rfl (Or.inl rfl)) pgs_nil))))
    (pss_cons (ps_set (i := 6) sclline_bytes.nd rfl (Or.inl rfl) (pe_op op_fdivW (pe_op op_sub (pv 4) (pv 3)) pe_int))
  (pss_one (ps_for PassesOwn.never rfl (pi_range1 rfl T.b_range (pa_cons (pe_op op_fdivW (pe_op op_add (pv 6) pe_int) pe_int) pa_nil)) (pg_name (i := 7) sclline_bytes.nd rfl (Or.inl rfl))
    (pss_cons (ps_expr (pe_bm PySem.F.plainAttrs_list PySem.F.slot_list_extend PySem.F.type_list_extend mt_extend (pv 2) (pa_cons (pe_cal C_entry (hr.mono (by decide)) rfl (pa_cons (pe_callB (call_min2 rfl) (by rfl) T.b_min (by decide +kernel) (pa_cons pe_int (pa_cons (pe_op op_sub (pv 6) (pe_op op_mul pe_int (pv 7))) pa_nil))) (pa_cons (pe_ifExp (pt_cmpR op_isN (pv 5) pe_non (nomark _)) pe_non (pe_op op_sub (pv 5) (pv 1))) pa_nil))) pa_nil)))
  (pss_one (ps_set (i := 1) sclline_bytes.nd rfl (Or.inl rfl) (pe_ifExp (pt_cmpR op_isN (pv 5) pe_non (nomark _)) (pv 1) (pv 5)))))))))
  (pss_one (ps_ret (pv 2))))), ?_⟩
    show (_ : TS) _ [some (.ref a), some (.int cur), none, none, none, none, none, none] H
    simp only [r_seq, r_next, r_brk, r_cont, r_asg, r_name, r_ret, r_retN, r_drop, r_ifs, r_never, r_var, r_c, r_op, r_un, r_if, r_tst, r_b, r_not, r_and, r_or, r_andV, r_orV, r_notV, r_nil, r_cons, r_tup, r_lst, r_cb, r_call, r_bm, r_bm0, r_sl, r_nopart, r_part, r_rev, r_gnil, r_gcons, r_gsub, r_par, r_aug, r_chain, r_I0, r_I, r_U, r_ixd, r_lend, r_tupd, r_listd, r_sld, r_app, r_ext, r_reverse, r_setl, r_cat, r_int1, r_eqS, r_neS, scal_ii, scal_bb, scal_ss, at0, at1, at2, sq_lst, sq_tup, isLst_lst, List.getElem?_cons_zero, List.getElem?_cons_succ, List.set_cons_zero, List.set_cons_succ, V.int.injEq, V.bl.injEq, V.ref.injEq, V.str.injEq, HO.lst.injEq, HO.tup.injEq, Option.some.injEq, exists_eq_left', exists_eq_left, List.cons.injEq, and_true, true_and, decide_eq_true_eq, reduceCtorEq, false_and, exists_false, or_false, false_or, exists_const, and_assoc, exists_and_left, List.append_nil, ix0, ix1, ix2, cm_mod, cdw1009, cdw2003, cdw7, cdw64, cdw2, cm104729, cm2, cm3, upd_same, List.length_cons, List.length_nil, Int.reduceLT, Int.reduceLE, Nat.reduceAdd, Nat.reduceLeDiff, Nat.reduceLT, Int.reduceToNat, r_for1, r_forL, r_forT, r_lcL, r_lc1, r_yes, r_gtupD, wipe_0, wipe_1, List.cons_append, List.nil_append, r_forS, r_ipI, ite_false, ite_true, Bool.not_true, Bool.not_false, decide_true, decide_false, r_isd, r_islt, cD_ty, cD_ref, tD_non, tD_bl, tD_int, tD_str, tD_ref, tH_lst, tH_tup, tH_dK, tH_ins, ki_self, ki_int_bool, ki_non_int, ki_str_int, ki_lt_lst, ki_lt_tup, r_fld, r_sfld, HO.ins.injEq, cx_K]
    refine ⟨szl (by decide), fun F hF => ⟨a, Rs, rfl, ?_, hl, fun J H1 hJ s1 r1 => ?_⟩⟩
    · obtain ⟨refs, e, p⟩ := ha
      have aF : a ≠ F := fun z => by
        rw [z, hF] at e
        cases e
      exact ⟨refs, by rw [upd_ne aF]; exact e, Paired.map' p fun x y h => by rw [upd_ne (ne_new h hF)]; exact h⟩
    have hF1 : H1 F = some (.lst []) := s1 _ _ upd_same
    have sH : ∀ {H' : Hp}, Keep F H1 H' → Same H H' := fun kk b o e => kk b o (ne_new e hF) (s1 b o (by rw [upd_ne (ne_new e hF)]; exact e))
    obtain ⟨refs, eJ, pJ⟩ := r1
    have lr := Paired.length pJ
    have JF : J ≠ F := fun z => by
      subst z
      rw [upd_same] at hJ
      cases hJ
    refine ⟨J, rfl, ⟨_, SqL.of eJ⟩, lp_list (xs := refs.map V.ref) (lvLB H1 a F (joinL Rs) cur) ⟨_, _, _, _, _, rfl, Keep.refl F H1, hF1⟩ (fun i σ H' _ ⟨_, _, _, _, _, _, kk, _⟩ => SqL.of (kk _ _ JF eJ)) ?_ ?_⟩
    · rintro i x σ H2 hx ⟨v1, v2, v3, v4, v5, rfl, kk, h2⟩
      have hir : i < refs.length := by
        have := (List.getElem?_eq_some_iff.mp hx).1
        rwa [List.length_map] at this
      have hiR : i < (joinL Rs).length := by rw [← lr]; exact hir
      obtain rfl : x = .ref refs[i] := by
        rw [List.getElem?_map, List.getElem?_eq_getElem hir] at hx
        exact (Option.some.inj hx).symm
      have h0 := Paired.at' pJ hir hiR
      have rF : refs[i] ≠ F := fun z => by rw [z, hF1] at h0; cases h0
      have hrow := kk _ _ rF h0
      have ok := hok _ (List.getElem_mem hiR)
      have cok := curL_ok ⟨c1, c2⟩ (Rs := (joinL Rs).take i) fun Q hq => hok Q (List.mem_of_mem_take hq)
      have eb : bytesL ((joinL Rs).take (i + 1)) cur = bytesL ((joinL Rs).take i) cur ++ lineB (units (joinL Rs)[i]) (joinL Rs)[i].ln (curL ((joinL Rs).take i) cur) := by rw [← List.take_append_getElem hiR, bytesL_snoc]
      have ec : curL ((joinL Rs).take (i + 1)) cur = (joinL Rs)[i].ln.getD (curL ((joinL Rs).take i) cur) := by rw [← List.take_append_getElem hiR, curL_snoc]
      have lz : (bytesL ((joinL Rs).take (i + 1)) cur).length ≤ 2000000 := by
        have e := bytesL_app ((joinL Rs).take (i + 1)) ((joinL Rs).drop (i + 1)) cur
        rw [List.take_append_drop] at e
        rw [e, List.length_append] at hz
        omega
      obtain ⟨R, hRe⟩ : ∃ R, R = (joinL Rs)[i] := ⟨_, rfl⟩
      rw [← hRe] at hrow ok eb ec
      obtain ⟨o1, o2, o3⟩ := id ok
      have hu : ((R.hi : Int) - (R.lo : Int)) / 2 = ((units R : Nat) : Int) := by unfold units; omega
      have hu1 : 1 ≤ units R := by unfold units; omega
      rw [eb] at lz
      generalize bytesL ((joinL Rs).take i) cur = pre at *
      generalize curL ((joinL Rs).take i) cur = cu0 at *
      simp only [r_seq, r_next, r_brk, r_cont, r_asg, r_name, r_ret, r_retN, r_drop, r_ifs, r_never, r_var, r_c, r_op, r_un, r_if, r_tst, r_b, r_not, r_and, r_or, r_andV, r_orV, r_notV, r_nil, r_cons, r_tup, r_lst, r_cb, r_call, r_bm, r_bm0, r_sl, r_nopart, r_part, r_rev, r_gnil, r_gcons, r_gsub, r_par, r_aug, r_chain, r_I0, r_I, r_U, r_ixd, r_lend, r_tupd, r_listd, r_sld, r_app, r_ext, r_reverse, r_setl, r_cat, r_int1, r_eqS, r_neS, scal_ii, scal_bb, scal_ss, at0, at1, at2, sq_lst, sq_tup, isLst_lst, List.getElem?_cons_zero, List.getElem?_cons_succ, List.set_cons_zero, List.set_cons_succ, V.int.injEq, V.bl.injEq, V.ref.injEq, V.str.injEq, HO.lst.injEq, HO.tup.injEq, Option.some.injEq, exists_eq_left', exists_eq_left, List.cons.injEq, and_true, true_and, decide_eq_true_eq, reduceCtorEq, false_and, exists_false, or_false, false_or, exists_const, and_assoc, exists_and_left, List.append_nil, ix0, ix1, ix2, cm_mod, cdw1009, cdw2003, cdw7, cdw64, cdw2, cm104729, cm2, cm3, upd_same, List.length_cons, List.length_nil, Int.reduceLT, Int.reduceLE, Nat.reduceAdd, Nat.reduceLeDiff, Nat.reduceLT, Int.reduceToNat, r_for1, r_forL, r_forT, r_lcL, r_lc1, r_yes, r_gtupD, wipe_0, wipe_1, List.cons_append, List.nil_append, r_forS, r_ipI, ite_false, ite_true, Bool.not_true, Bool.not_false, decide_true, decide_false, r_isd, r_islt, cD_ty, cD_ref, tD_non, tD_bl, tD_int, tD_str, tD_ref, tH_lst, tH_tup, tH_dK, tH_ins, ki_self, ki_int_bool, ki_non_int, ki_str_int, ki_lt_lst, ki_lt_tup, r_fld, r_sfld, HO.ins.injEq, cx_K, hrow, lv, hu]
      have hn : (((units R : Nat) : Int) + 7) / 8 = (((units R + 7) / 8 : Nat) : Int) := by omega
      have hub : units R < 2 ^ 60 := by unfold units; omega
      rw [hn, Int.toNat_natCast]
      refine ⟨of_eq_true (cdw (by decide)), by omega, by omega, lp_rng (n := (units R + 7) / 8) (lvLK H1 a F pre R cu0) ⟨cu0, pre, _, rfl, kk, h2, rfl, .inl rfl, fun z => absurd z (Nat.lt_irrefl 0)⟩ ?_ ?_⟩
      · rintro t σ H3 ht ⟨cu, ds, v, rfl, k3, h3, e3, b3, z3⟩
        obtain ⟨c, hc⟩ : ∃ c, c = units R - 8 * t := ⟨_, rfl⟩
        have c0 : c ≠ 0 := by omega
        have hcI : ((units R : Nat) : Int) - 8 * (t : Int) = (c : Int) := by omega
        have hm : (if (c : Int) < (8 : Int) then (c : Int) else (8 : Int)) = ((min c 8 : Nat) : Int) := by split <;> omega
        have hc2 : units R - 8 * (t + 1) = c - min c 8 := by omega
        have c8 : CMul 8 (t : Int) := .inl (by decide)
        rw [← hc] at e3
        have ldz : ds.length ≤ 2000000 := by
          rw [← e3, List.length_append] at lz
          omega
        simp only [r_seq, r_next, r_brk, r_cont, r_asg, r_name, r_ret, r_retN, r_drop, r_ifs, r_never, r_var, r_c, r_op, r_un, r_if, r_tst, r_b, r_not, r_and, r_or, r_andV, r_orV, r_notV, r_nil, r_cons, r_tup, r_lst, r_cb, r_call, r_bm, r_bm0, r_sl, r_nopart, r_part, r_rev, r_gnil, r_gcons, r_gsub, r_par, r_aug, r_chain, r_I0, r_I, r_U, r_ixd, r_lend, r_tupd, r_listd, r_sld, r_app, r_ext, r_reverse, r_setl, r_cat, r_int1, r_eqS, r_neS, scal_ii, scal_bb, scal_ss, at0, at1, at2, sq_lst, sq_tup, isLst_lst, List.getElem?_cons_zero, List.getElem?_cons_succ, List.set_cons_zero, List.set_cons_succ, V.int.injEq, V.bl.injEq, V.ref.injEq, V.str.injEq, HO.lst.injEq, HO.tup.injEq, Option.some.injEq, exists_eq_left', exists_eq_left, List.cons.injEq, and_true, true_and, decide_eq_true_eq, reduceCtorEq, false_and, exists_false, or_false, false_or, exists_const, and_assoc, exists_and_left, List.append_nil, ix0, ix1, ix2, cm_mod, cdw1009, cdw2003, cdw7, cdw64, cdw2, cm104729, cm2, cm3, upd_same, List.length_cons, List.length_nil, Int.reduceLT, Int.reduceLE, Nat.reduceAdd, Nat.reduceLeDiff, Nat.reduceLT, Int.reduceToNat, r_for1, r_forL, r_forT, r_lcL, r_lc1, r_yes, r_gtupD, wipe_0, wipe_1, List.cons_append, List.nil_append, r_forS, r_ipI, ite_false, ite_true, Bool.not_true, Bool.not_false, decide_true, decide_false, r_isd, r_islt, cD_ty, cD_ref, tD_non, tD_bl, tD_int, tD_str, tD_ref, tH_lst, tH_tup, tH_dK, tH_ins, ki_self, ki_int_bool, ki_non_int, ki_str_int, ki_lt_lst, ki_lt_tup, r_fld, r_sfld, HO.ins.injEq, cx_K, hcI, hm, c8]
        refine ⟨tyl h3, ?_⟩
        have e4 : ∀ {l : Option Int}, R.ln = l → (ds ++ entryL (min c 8) (l.map (· - cu))) ++ lineB (units R - 8 * (t + 1)) l (l.getD cu) = pre ++ lineB (units R) l cu0 := by
          rintro l rfl
          rw [hc2, ← e3, lineB_pos c0 R.ln cu, List.append_assoc]
        cases e : R.ln with
        | none =>
          have e5 := e4 e
          rw [e] at b3
          rw [if_pos (show lnV none = V.non from rfl)]
          refine ⟨min c 8, none, rfl, by omega, by omega, (fun n z => by cases z), fun p H4 hp s4 h4 => ⟨p, rfl, _, s4 F _ h3, _, h4, Nat.le_trans (by rw [vn_len, vn_len]; show ds.length + 1 ≤ 2000001; omega) (by decide : 2000001 ≤ sizeLine), ?_⟩⟩
          rw [if_pos (show lnV none = V.non from rfl)]
          unfold lvLK
          rw [e]
          exact ⟨cu, _, _, rfl, (k3.trans (Keep.same s4)).upd, by rw [upd_same, ← vn_app]; rfl, e5, b3, fun _ => b3.resolve_right fun z => by cases z⟩
        | some j =>
          have e5 := e4 e
          rw [e] at b3
          rw [if_neg (show ¬ lnV (some j) = V.non from fun z => by cases z)]
          have jb := o3 j e
          have cb : -(2 ^ 50) < cu ∧ cu < 2 ^ 50 := by
            rcases b3 with z | z
            · rw [z]
              exact cok
            · exact o3 cu (by rw [e, z])
          have d1 : -(2 ^ 60) < j - cu := by omega
          have d2 : j - cu < 2 ^ 60 := by omega
          have ll := litM_len (zig_lt d1 d2)
          refine ⟨j, rfl, min c 8, some (j - cu), rfl, by omega, by omega, (fun n z => by cases z; exact ⟨d1, d2⟩), fun p H4 hp s4 h4 => ⟨p, rfl, _, s4 F _ h3, _, h4, Nat.le_trans (by rw [vn_len, vn_len]; show ds.length + (litM (zig (j - cu))).length.succ ≤ 2000013; omega) (by decide : 2000013 ≤ sizeLine), ?_⟩⟩
          rw [if_neg (show ¬ lnV (some j) = V.non from fun z => by cases z)]
          unfold lvLK
          rw [e]
          exact ⟨j, _, _, rfl, (k3.trans (Keep.same s4)).upd, by rw [upd_same, ← vn_app]; rfl, e5, .inr rfl, fun _ => rfl⟩
      · rintro σ H3 ⟨cu, ds, v, rfl, k3, h3, e3, b3, z3⟩
        rw [show units R - 8 * ((units R + 7) / 8) = 0 from by omega, lineB_0, List.append_nil] at e3
        have ee : curL ((joinL Rs).take (i + 1)) cur = cu := by rw [ec, z3 (by omega)]
        show lvLB H1 a F (joinL Rs) cur (i + 1) _ H3
        unfold lvLB
        rw [ee, eb, ← e3]
        exact ⟨_, _, _, _, _, rfl, k3, h3⟩
    · rintro σ H2 ⟨v1, v2, v3, v4, v5, rfl, kk, h2⟩
      rw [List.length_map, lr, List.take_length] at h2
      simp only [r_seq, r_next, r_brk, r_cont, r_asg, r_name, r_ret, r_retN, r_drop, r_ifs, r_never, r_var, r_c, r_op, r_un, r_if, r_tst, r_b, r_not, r_and, r_or, r_andV, r_orV, r_notV, r_nil, r_cons, r_tup, r_lst, r_cb, r_call, r_bm, r_bm0, r_sl, r_nopart, r_part, r_rev, r_gnil, r_gcons, r_gsub, r_par, r_aug, r_chain, r_I0, r_I, r_U, r_ixd, r_lend, r_tupd, r_listd, r_sld, r_app, r_ext, r_reverse, r_setl, r_cat, r_int1, r_eqS, r_neS, scal_ii, scal_bb, scal_ss, at0, at1, at2, sq_lst, sq_tup, isLst_lst, List.getElem?_cons_zero, List.getElem?_cons_succ, List.set_cons_zero, List.set_cons_succ, V.int.injEq, V.bl.injEq, V.ref.injEq, V.str.injEq, HO.lst.injEq, HO.tup.injEq, Option.some.injEq, exists_eq_left', exists_eq_left, List.cons.injEq, and_true, true_and, decide_eq_true_eq, reduceCtorEq, false_and, exists_false, or_false, false_or, exists_const, and_assoc, exists_and_left, List.append_nil, ix0, ix1, ix2, cm_mod, cdw1009, cdw2003, cdw7, cdw64, cdw2, cm104729, cm2, cm3, upd_same, List.length_cons, List.length_nil, Int.reduceLT, Int.reduceLE, Nat.reduceAdd, Nat.reduceLeDiff, Nat.reduceLT, Int.reduceToNat, r_for1, r_forL, r_forT, r_lcL, r_lc1, r_yes, r_gtupD, wipe_0, wipe_1, List.cons_append, List.nil_append, r_forS, r_ipI, ite_false, ite_true, Bool.not_true, Bool.not_false, decide_true, decide_false, r_isd, r_islt, cD_ty, cD_ref, tD_non, tD_bl, tD_int, tD_str, tD_ref, tH_lst, tH_tup, tH_dK, tH_ins, ki_self, ki_int_bool, ki_non_int, ki_str_int, ki_lt_lst, ki_lt_tup, r_fld, r_sfld, HO.ins.injEq, cx_K]
      exact k F _ hF (sH kk) h2
end
end C48

set_option maxHeartbeats 1000000
namespace C48
open PySem PySem.Spec PyProof.Rows L2
/-- the number that m stands for -/
def zag (m : Nat) : Int := if m % 2 = 0 then ((m / 2 : Nat) : Int) else -((m / 2 : Nat) : Int)
theorem zag_zig (n : Int) : zag (zig n) = n := by
  unfold zag zig
  split <;> split <;> omega
theorem zig_ne1 (n : Int) : zig n ≠ 1 := by
  unfold zig
  split <;> omega
def spSignedN : Sp := fun vs H Q _ => ∃ (t : Addr) (pre post : List Nat) (n : Int), vs = [.ref t, .int (pre.length : Int)] ∧ H t = some (.tup (vn (pre ++ (litM (zig n) ++ post)))) ∧ -(2 ^ 60) < n ∧ n < 2 ^ 60 ∧
  ∀ p H', H p = none → Same H H' → H' p = some (.tup [.int n, .int ((pre.length + (litM (zig n)).length : Nat) : Int)]) → Q (.ref p) H'
/-- behind i pieces: found is what they say, r what is left -/
def lvSN (H : Hp) (t : Addr) (pre : List Nat) (m : Nat) (σ : L2.St) (H' : Hp) : Prop := ∃ (i r fo : Nat) (go : Bool), σ = [some (.ref t), some (.int ((pre.length + i : Nat) : Int)), some (.int (pre.length : Int)), some (.int (fo : Int)), some (.bl go)] ∧ H' = H ∧ m = fo + 64 ^ i * r ∧ fo < 64 ^ i ∧
  (go = true → (litM m).drop i = litM r ∧ i + (litM r).length = (litM m).length ∧ (0 < i → 1 ≤ r)) ∧ (go = false → r = 0 ∧ i = (litM m).length)
def msSN (k : Nat) (σ : L2.St) : Nat := match σ with
  | [_, some (.int a), some (.int b), _, _] => k - (a - b).toNat
  | _ => 0
theorem bit64z {z : Nat} (h : z < 128) : (Builtin.bitAnd (z : Int) 64 = 0) = (z < 64) := by
  have : ∀ z : Fin 128, decide (Builtin.bitAnd ((z.val : Nat) : Int) 64 = 0) = decide (z.val < 64) := by decide +kernel
  have e := this ⟨z, h⟩
  exact propext (by simpa using e)
section
variable {P : Program} {w : World} {K : PySem.W.Frag} {mg : Str → Option Value} {base : Heap} {f : Addr} {fd : FuncData}
abbrev ssigned_number : Stmt := top 32
theorem scsigned_number : FnScope ["table", "at", "first", "found", "goes_on"] ["table", "at"] (defScope ssigned_number) := ⟨rfl, rfl, rfl, by decide +kernel, rfl, by decide +kernel, by decide +kernel⟩

theorem ok_signed_number (T : Txt mg) (F : FnP K "signed_number" "signed_number" ssigned_number f fd) : FnOk P w K mg base CX0 1 f fd ["table", "at"] spSignedN := by
  refine F.ok scsigned_number (fun vs H Q E h => ?_) (fun cdv A outer s H vs Q E hr h => ?_)
  · obtain ⟨t, pre, post, n, rfl, _⟩ := h
    rfl
  · obtain ⟨t, pre, post, n, rfl, ht, n1, n2, k⟩ := h
    refine ⟨_, PSs.nox (pss_cons (ps_set (i := 2) scsigned_number.nd rfl (Or.inl rfl) (pv 1))
  (pss_cons (ps_set (i := 3) scsigned_number.nd rfl (Or.inl rfl) pe_int)
  (pss_cons (ps_set (i := 4) scsigned_number.nd rfl (Or.inl rfl) pe_bl)
  (pss_cons (ps_while PassesOwn.never (pt_val (pv 4))
    (pss_cons (ps_if (PW.pt (pw_or (pt_cmpR op_eq (pv 1) (pe_callB call_len_d (by rfl) T.b_len (by decide +kernel) (pa_cons (pv 0) pa_nil)) (nomark _)) (pw_or1 (pt_cmpR op_ge (pe_ix ix_d (pv 0) (pv 1) (fun _ _ => rfl)) (pe_gi T.g_BEGINS) (nomark _)))))
    (pss_one ps_never)
    pss_nil)
  (pss_cons (ps_set (i := 4) scsigned_number.nd rfl (Or.inl rfl) (pe_cmpR op_ne (pe_op op_and (pe_ix ix_d (pv 0) (pv 1) (fun _ _ => rfl)) (pe_gi T.g_GOES_ON)) pe_int (nomark _)))
  (pss_cons (ps_if (PW.pt (pw_and (pt_not (pt_val (pv 4))) (pw_and (pt_cmpR op_eq (pe_ix ix_d (pv 0) (pv 1) (fun _ _ => rfl)) pe_int (nomark _)) (pw_and1 (pt_cmpR op_gt (pv 1) (pv 2) (nomark _))))))
    (pss_one ps_never)
    pss_nil)
  (pss_cons (ps_aug (i := 3) scsigned_number.nd rfl (.inl rfl) (pe_op op_shl (pe_op op_and (pe_ix ix_d (pv 0) (pv 1) (fun _ _ => rfl)) pe_int) (pe_op op_mul pe_int (pe_op op_sub (pv 1) (pv 2)))) (pip_of iop_or))
  (pss_one (ps_aug (i := 1) scsigned_number.nd rfl (.inl rfl) pe_int ip_add)))))))
  (pss_cons (ps_if (pt_cmpR op_eq (pv 3) pe_int (nomark _))
    (pss_one ps_never)
    pss_nil)
  (pss_one (ps_ret (pe_tup (pa_cons (pe_ifExp (pt_truth (pe_op op_and (pv 3) pe_int) (by intro _; rfl)) (pe_un un_neg (pe_op op_shr (pv 3) pe_int)) (pe_op op_shr (pv 3) pe_int)) (pa_cons (pv 1) pa_nil)))))))))), ?_⟩
    show (_ : TS) _ [some (.ref t), some (.int (pre.length : Int)), none, none, none] H
    simp only [r_seq, r_next, r_brk, r_cont, r_asg, r_name, r_ret, r_retN, r_drop, r_ifs, r_never, r_var, r_c, r_op, r_un, r_if, r_tst, r_b, r_not, r_and, r_or, r_andV, r_orV, r_notV, r_nil, r_cons, r_tup, r_lst, r_cb, r_call, r_bm, r_bm0, r_sl, r_nopart, r_part, r_rev, r_gnil, r_gcons, r_gsub, r_par, r_aug, r_chain, r_I0, r_I, r_U, r_ixd, r_lend, r_tupd, r_listd, r_sld, r_app, r_ext, r_reverse, r_setl, r_cat, r_int1, r_eqS, r_neS, scal_ii, scal_bb, scal_ss, at0, at1, at2, sq_lst, sq_tup, isLst_lst, List.getElem?_cons_zero, List.getElem?_cons_succ, List.set_cons_zero, List.set_cons_succ, V.int.injEq, V.bl.injEq, V.ref.injEq, V.str.injEq, HO.lst.injEq, HO.tup.injEq, Option.some.injEq, exists_eq_left', exists_eq_left, List.cons.injEq, and_true, true_and, decide_eq_true_eq, reduceCtorEq, false_and, exists_false, or_false, false_or, exists_const, and_assoc, exists_and_left, List.append_nil, ix0, ix1, ix2, cm_mod, cdw1009, cdw2003, cdw7, cdw64, cdw2, cm104729, cm2, cm3, upd_same, List.length_cons, List.length_nil, Int.reduceLT, Int.reduceLE, Nat.reduceAdd, Nat.reduceLeDiff, Nat.reduceLT, Int.reduceToNat, r_for1, r_forL, r_forT, r_lcL, r_lc1, r_yes, r_gtupD, wipe_0, wipe_1, List.cons_append, List.nil_append, r_forS, r_ipI, ite_false, ite_true, Bool.not_true, Bool.not_false, decide_true, decide_false, r_isd, r_islt, cD_ty, cD_ref, tD_non, tD_bl, tD_int, tD_str, tD_ref, tH_lst, tH_tup, tH_dK, tH_ins, ki_self, ki_int_bool, ki_non_int, ki_str_int, ki_lt_lst, ki_lt_tup, r_fld, r_sfld, HO.ins.injEq, cx_K]
    have zl := zig_lt n1 n2
    have ll := litM_len zl
    refine while_d (lvSN H t pre (zig n)) (fun σ _ => msSN ((litM (zig n)).length + 1) σ) ⟨0, zig n, 0, true, rfl, rfl, by simp, by simp, fun _ => ⟨rfl, by simp, fun z => absurd z (Nat.lt_irrefl 0)⟩, fun z => by cases z⟩ ?_
    rintro σ H1 ⟨i, r, fo, go, rfl, rfl, hm, hf, hg1, hg0⟩
    refine ⟨go, fun QT q => ?_, fun c => ?_, fun c => ?_⟩
    · simp only [r_seq, r_next, r_brk, r_cont, r_asg, r_name, r_ret, r_retN, r_drop, r_ifs, r_never, r_var, r_c, r_op, r_un, r_if, r_tst, r_b, r_not, r_and, r_or, r_andV, r_orV, r_notV, r_nil, r_cons, r_tup, r_lst, r_cb, r_call, r_bm, r_bm0, r_sl, r_nopart, r_part, r_rev, r_gnil, r_gcons, r_gsub, r_par, r_aug, r_chain, r_I0, r_I, r_U, r_ixd, r_lend, r_tupd, r_listd, r_sld, r_app, r_ext, r_reverse, r_setl, r_cat, r_int1, r_eqS, r_neS, scal_ii, scal_bb, scal_ss, at0, at1, at2, sq_lst, sq_tup, isLst_lst, List.getElem?_cons_zero, List.getElem?_cons_succ, List.set_cons_zero, List.set_cons_succ, V.int.injEq, V.bl.injEq, V.ref.injEq, V.str.injEq, HO.lst.injEq, HO.tup.injEq, Option.some.injEq, exists_eq_left', exists_eq_left, List.cons.injEq, and_true, true_and, decide_eq_true_eq, reduceCtorEq, false_and, exists_false, or_false, false_or, exists_const, and_assoc, exists_and_left, List.append_nil, ix0, ix1, ix2, cm_mod, cdw1009, cdw2003, cdw7, cdw64, cdw2, cm104729, cm2, cm3, upd_same, List.length_cons, List.length_nil, Int.reduceLT, Int.reduceLE, Nat.reduceAdd, Nat.reduceLeDiff, Nat.reduceLT, Int.reduceToNat, r_for1, r_forL, r_forT, r_lcL, r_lc1, r_yes, r_gtupD, wipe_0, wipe_1, List.cons_append, List.nil_append, r_forS, r_ipI, ite_false, ite_true, Bool.not_true, Bool.not_false, decide_true, decide_false, r_isd, r_islt, cD_ty, cD_ref, tD_non, tD_bl, tD_int, tD_str, tD_ref, tH_lst, tH_tup, tH_dK, tH_ins, ki_self, ki_int_bool, ki_non_int, ki_str_int, ki_lt_lst, ki_lt_tup, r_fld, r_sfld, HO.ins.injEq, cx_K]
      exact q
    · obtain ⟨g1, g2, g3⟩ := hg1 c
      obtain ⟨z, hz⟩ : ∃ z, z = if r < 64 then r else r % 64 + 64 := ⟨_, rfl⟩
      have hzl : ∃ l, litM r = z :: l := by
        by_cases q : r < 64
        · rw [if_pos q] at hz
          exact ⟨[], by rw [litM_lt q, hz]⟩
        · rw [if_neg q] at hz
          exact ⟨_, by rw [litM_ge q, hz]⟩
      obtain ⟨l, hl⟩ := hzl
      have hlen1 : 1 ≤ (litM r).length := by rw [hl]; simp
      have hget : (litM (zig n))[i]? = some z := by
        have e : (litM (zig n))[i]? = ((litM (zig n)).drop i)[0]? := by simp
        rw [e, g1, hl]
        rfl
      have z128 : z < 128 := by
        rw [hz]
        split <;> omega
      have e1 : atI (vn (pre ++ (litM (zig n) ++ post))) ((pre.length + i : Nat) : Int) = some (.int (z : Int)) := by
        refine atn ?_
        unfold vn
        rw [List.getElem?_map, List.getElem?_append_right (by omega), Nat.add_sub_cancel_left, List.getElem?_append_left (by omega), hget]
        rfl
      have hlen : (((pre.length + i : Nat) : Int) = ((vn (pre ++ (litM (zig n) ++ post))).length : Int)) = False := eq_false (by
        rw [vn_len, List.length_append, List.length_append]
        omega)
      have e3 : (128 ≤ (z : Int)) = False := eq_false (by omega)
      have e4 : (Builtin.bitAnd (z : Int) 64 = 0) = (r < 64) := by
        rw [bit64z z128]
        refine propext ?_
        rw [hz]
        split <;> omega
      have e5 : Builtin.bitAnd (z : Int) 63 = ((r % 64 : Nat) : Int) := by
        rw [bitAnd_m6, hz]
        split <;> omega
      have ei : ((pre.length + i : Nat) : Int) - (pre.length : Int) = (i : Int) := by omega
      have gi : ((pre.length : Int) < ((pre.length + i : Nat) : Int)) = (0 < i) := propext (by omega)
      have e6 : CPow ((r % 64 : Nat) : Int) (6 * (i : Int)) := ⟨by omega, by omega, by
        have : r % 64 < 64 := Nat.mod_lt _ (by decide)
        have h2 : (64 : Nat) < 2 ^ 64 := by decide
        omega⟩
      have c6 : CMul 6 (i : Int) := .inl (by decide)
      have e7 : Builtin.bitOr (fo : Int) (((r % 64 : Nat) : Int) * 2 ^ (6 * (i : Int)).toNat) = ((fo + 64 ^ i * (r % 64) : Nat) : Int) := by
        have t6 : (6 * (i : Int)).toNat = 6 * i := by omega
        have p6 : (2 : Int) ^ (6 * i) = ((64 ^ i : Nat) : Int) := by
          rw [Int.pow_mul]
          push_cast
          rfl
        rw [t6, Bits.bitOr_join (by omega) (by rw [p6]; exact_mod_cast hf) (by omega), p6]
        push_cast
        rw [Int.mul_comm]
      have e8 : ((pre.length + i : Nat) : Int) + 1 = ((pre.length + (i + 1) : Nat) : Int) := by omega
      simp only [r_seq, r_next, r_brk, r_cont, r_asg, r_name, r_ret, r_retN, r_drop, r_ifs, r_never, r_var, r_c, r_op, r_un, r_if, r_tst, r_b, r_not, r_and, r_or, r_andV, r_orV, r_notV, r_nil, r_cons, r_tup, r_lst, r_cb, r_call, r_bm, r_bm0, r_sl, r_nopart, r_part, r_rev, r_gnil, r_gcons, r_gsub, r_par, r_aug, r_chain, r_I0, r_I, r_U, r_ixd, r_lend, r_tupd, r_listd, r_sld, r_app, r_ext, r_reverse, r_setl, r_cat, r_int1, r_eqS, r_neS, scal_ii, scal_bb, scal_ss, at0, at1, at2, sq_lst, sq_tup, isLst_lst, List.getElem?_cons_zero, List.getElem?_cons_succ, List.set_cons_zero, List.set_cons_succ, V.int.injEq, V.bl.injEq, V.ref.injEq, V.str.injEq, HO.lst.injEq, HO.tup.injEq, Option.some.injEq, exists_eq_left', exists_eq_left, List.cons.injEq, and_true, true_and, decide_eq_true_eq, reduceCtorEq, false_and, exists_false, or_false, false_or, exists_const, and_assoc, exists_and_left, List.append_nil, ix0, ix1, ix2, cm_mod, cdw1009, cdw2003, cdw7, cdw64, cdw2, cm104729, cm2, cm3, upd_same, List.length_cons, List.length_nil, Int.reduceLT, Int.reduceLE, Nat.reduceAdd, Nat.reduceLeDiff, Nat.reduceLT, Int.reduceToNat, r_for1, r_forL, r_forT, r_lcL, r_lc1, r_yes, r_gtupD, wipe_0, wipe_1, List.cons_append, List.nil_append, r_forS, r_ipI, ite_false, ite_true, Bool.not_true, Bool.not_false, decide_true, decide_false, r_isd, r_islt, cD_ty, cD_ref, tD_non, tD_bl, tD_int, tD_str, tD_ref, tH_lst, tH_tup, tH_dK, tH_ins, ki_self, ki_int_bool, ki_non_int, ki_str_int, ki_lt_lst, ki_lt_tup, r_fld, r_sfld, HO.ins.injEq, cx_K, ht, e1, hlen, e3, e4, e5, ei, gi, e6, c6, e7, e8]
      have G : lvSN H1 t pre (zig n) [some (.ref t), some (.int ((pre.length + (i + 1) : Nat) : Int)), some (.int (pre.length : Int)), some (.int ((fo + 64 ^ i * (r % 64) : Nat) : Int)), some (.bl (!decide (r < 64)))] H1 ∧ msSN ((litM (zig n)).length + 1) [some (.ref t), some (.int ((pre.length + (i + 1) : Nat) : Int)), some (.int (pre.length : Int)), some (.int ((fo + 64 ^ i * (r % 64) : Nat) : Int)), some (.bl (!decide (r < 64)))] < msSN ((litM (zig n)).length + 1) [some (.ref t), some (.int ((pre.length + i : Nat) : Int)), some (.int (pre.length : Int)), some (.int (fo : Int)), some (.bl go)] := by
        have em : 64 ^ i * r = 64 ^ i * (r % 64) + 64 ^ (i + 1) * (r / 64) := by
          conv => lhs; rw [← Nat.mod_add_div r 64]
          rw [Nat.mul_add, Nat.pow_succ, Nat.mul_assoc]
        have ef : 64 ^ i * (r % 64) ≤ 64 ^ i * 63 := Nat.mul_le_mul_left _ (by omega)
        refine ⟨⟨i + 1, r / 64, _, _, rfl, rfl, by omega, by rw [Nat.pow_succ]; omega, fun q => ?_, fun q => ?_⟩, ?_⟩
        · have q64 : ¬ r < 64 := by simpa using q
          rw [litM_ge q64] at g1 g2
          refine ⟨?_, ?_, fun _ => by omega⟩
          · rw [← List.drop_drop, g1]
            rfl
          · rw [List.length_cons] at g2
            omega
        · have q64 : r < 64 := by simpa using q
          rw [litM_lt q64, List.length_singleton] at g2
          exact ⟨by omega, by omega⟩
        · show (litM (zig n)).length + 1 - (((pre.length + (i + 1) : Nat) : Int) - (pre.length : Int)).toNat < (litM (zig n)).length + 1 - (((pre.length + i : Nat) : Int) - (pre.length : Int)).toNat
          omega
      refine ite2 (fun h0 => ite2 (fun h1 => ite2 (fun h2 => ?_) fun _ => G) fun _ => G) fun _ => G
      have r64 : r < 64 := by simpa using h0
      rw [if_pos r64] at hz
      have := g3 h2
      omega
    · obtain ⟨r0, hi⟩ := hg0 c
      subst r0
      have ef : fo = zig n := by omega
      subst ef hi
      have n1' : (((zig n : Nat) : Int) = 1) = False := eq_false (by have := zig_ne1 n; omega)
      simp only [r_seq, r_next, r_brk, r_cont, r_asg, r_name, r_ret, r_retN, r_drop, r_ifs, r_never, r_var, r_c, r_op, r_un, r_if, r_tst, r_b, r_not, r_and, r_or, r_andV, r_orV, r_notV, r_nil, r_cons, r_tup, r_lst, r_cb, r_call, r_bm, r_bm0, r_sl, r_nopart, r_part, r_rev, r_gnil, r_gcons, r_gsub, r_par, r_aug, r_chain, r_I0, r_I, r_U, r_ixd, r_lend, r_tupd, r_listd, r_sld, r_app, r_ext, r_reverse, r_setl, r_cat, r_int1, r_eqS, r_neS, scal_ii, scal_bb, scal_ss, at0, at1, at2, sq_lst, sq_tup, isLst_lst, List.getElem?_cons_zero, List.getElem?_cons_succ, List.set_cons_zero, List.set_cons_succ, V.int.injEq, V.bl.injEq, V.ref.injEq, V.str.injEq, HO.lst.injEq, HO.tup.injEq, Option.some.injEq, exists_eq_left', exists_eq_left, List.cons.injEq, and_true, true_and, decide_eq_true_eq, reduceCtorEq, false_and, exists_false, or_false, false_or, exists_const, and_assoc, exists_and_left, List.append_nil, ix0, ix1, ix2, cm_mod, cdw1009, cdw2003, cdw7, cdw64, cdw2, cm104729, cm2, cm3, upd_same, List.length_cons, List.length_nil, Int.reduceLT, Int.reduceLE, Nat.reduceAdd, Nat.reduceLeDiff, Nat.reduceLT, Int.reduceToNat, r_for1, r_forL, r_forT, r_lcL, r_lc1, r_yes, r_gtupD, wipe_0, wipe_1, List.cons_append, List.nil_append, r_forS, r_ipI, ite_false, ite_true, Bool.not_true, Bool.not_false, decide_true, decide_false, r_isd, r_islt, cD_ty, cD_ref, tD_non, tD_bl, tD_int, tD_str, tD_ref, tH_lst, tH_tup, tH_dK, tH_ins, ki_self, ki_int_bool, ki_non_int, ki_str_int, ki_lt_lst, ki_lt_tup, r_fld, r_sfld, HO.ins.injEq, cx_K, n1', bitAnd_m1]
      have hz := zag_zig n
      unfold zag at hz
      refine ⟨(((zig n : Nat) : Int) % 2 != 0), rfl, ?_⟩
      by_cases q : zig n % 2 = 0
      · rw [if_pos q] at hz
        have v : ((zig n : Nat) : Int) / 2 ^ 1 = n := by omega
        rw [show (((zig n : Nat) : Int) % 2 != 0) = false from by rw [show ((zig n : Nat) : Int) % 2 = 0 from by omega]; rfl, if_neg (by decide), v]
        exact ⟨szl (by decide), fun p hp => k p _ hp (Same.new' (Same.refl H1) hp) upd_same⟩
      · rw [if_neg q] at hz
        have v : -(((zig n : Nat) : Int) / 2 ^ 1) = n := by omega
        rw [show (((zig n : Nat) : Int) % 2 != 0) = true from by rw [show ((zig n : Nat) : Int) % 2 = 1 from by omega]; rfl, if_pos rfl, v]
        exact ⟨szl (by decide), fun p hp => k p _ hp (Same.new' (Same.refl H1) hp) upd_same⟩
end
end C48

set_option maxHeartbeats 1000000
namespace C48
open PySem PySem.Spec PyProof.Rows L2
/-- what is known of the class Code -/
structure CodeT (K : PySem.W.Frag) (mg : Str → Option Value) (C : Addr) : Prop where
  cI : ClsI K C
  g_Code : mg "Code" = some (.ref C)
  no : ∀ t ∈ ["NoneType", "int", "bool", "str", "list", "tuple", "dict"], PySem.W.kitOne K (.type t) (.ref C) = some false
  na : ∀ f ∈ (["argcount", "onlycount", "stacksize", "flags", "code", "depth", "constants", "names", "slots", "kinds", "name", "path", "line", "lines", "handlers", "identity"] : List Str), NoAttr K C f
end C48

set_option maxHeartbeats 1000000
namespace C48
open PySem PySem.Spec PyProof.Rows L2
/-! ### list(reversed(a tuple)) -/
theorem nolen_rt : typeLookup (.type "reversed") "__len__" = pure none := by rw [typeLookup_type, builtinLookup_eq_fast]; kernel_rfl
theorem hint_rt : typeLookup (.type "reversed") "__length_hint__" = pure (some (.builtin "reversed.__length_hint__")) := by rw [typeLookup_type, builtinLookup_eq_fast]; kernel_rfl
theorem slot_rt_hint : Slot "reversed" "__length_hint__" "reversed.__length_hint__" :=
  .of (owner := "reversed") (n := "__length_hint__") (by rw [typeLookup_type, builtinLookup_eq_fast]; kernel_rfl) (by decide +kernel) (by decide +kernel) (by decide +kernel)
    (by first | exact .inl (by decide +kernel) | exact .inr (by decide +kernel)) (by rw [isSubtype_type]; kernel_rfl)
theorem entry_rt_hint : entryFor table "reversed.__length_hint__" = some Builtin.«reversed.__length_hint__» := entryFor_of_tree (by kernel_rfl)
theorem args_rt_hint (a : Value) : argsOk "reversed.__length_hint__" ⟨[a], []⟩ := by
  unfold argsOk; rw [signature?_of (id := "reversed.__length_hint__") (n := ['_', '_', 't', 'n', 'i', 'h', '_', 'h', 't', 'g', 'n', 'e', 'l', '_', '_']) (o := ['d', 'e', 's', 'r', 'e', 'v', 'e', 'r']) (by kernel_rfl) RT.owner_rt]; kernel_rfl
theorem bind_rt_hint (self : Value) : bindSpecial (.builtin "reversed.__length_hint__") self = pure (.builtin "reversed.__length_hint__", [self]) := by
  unfold bindSpecial
  rw [show typeOf (.builtin "reversed.__length_hint__") = pure (.type "method_descriptor") from by show builtinType _ = _; rw [builtinType_eq_fast]; kernel_rfl]
  rfl
section
variable {prog : Program} {w : World} {A : Around} {E : Value → Shared → Prop} {s : Shared}
theorem rt_len {it t : Addr} {i : Int} {items : Array Value} {Q : Value → Shared → Prop} (hit : RT.IsRt s.heap it t i) (ht : IsTup s.heap t items) (hz : items.size ≤ sizeLine) (hi : i + 1 ≤ (items.size : Int))
    (h : ∀ tk u, Q (.int (i + 1) u) { s with toks := tk }) : wpAny (model prog w) A (call (.builtin "reversed.__length_hint__") [.ref it]) Q E s := by
  obtain ⟨o, ho, hc, hd⟩ := id hit
  have hn := line63
  refine wpAny_call_entry slot_rt_hint hit.typeIs entry_rt_hint ?_ (args_rt_hint _)
  unfold Builtin.«reversed.__length_hint__»
  refine wpAny_bind (wpAny_of_eq (a := Value.ref it) rfl ?_)
  try dsimp only
  refine wpAny_bind (wpAny_field ho hd (x := .ref t) rfl ?_)
  try dsimp only
  rw [if_neg (by intro h; cases h)]
  refine wpAny_bind (PyProof.Rows.len_tuple ht (by omega) ?_)
  refine wpAny_bind (wpAny_of_eq (a := some ((items.size : Nat) : Int)) rfl ?_)
  try dsimp only
  refine wpAny_bind (wpAny_field (s := { s with toks := s.toks + 1 + 1 }) ho hd (x := rawInt i) rfl ?_)
  show wpAny _ _ (if ((items.size : Nat) : Int) < i + 1 then _ else _) _ _ _
  rw [if_neg (by omega)]
  refine wpAny_bind (wpAny_mkInt (wpAny_pure ?_))
  exact ⟨_, rfl, h _ _⟩
theorem rt_hint {it t : Addr} {i : Int} {items : Array Value} {Q : Bool → Shared → Prop} (hit : RT.IsRt s.heap it t i) (ht : IsTup s.heap t items) (hz : items.size ≤ sizeLine) (hi : i + 1 ≤ (items.size : Int)) (hi0 : 0 ≤ i + 1)
    (h : ∀ tk, Q (i + 1 != 0) { s with toks := tk }) : wpAny (model prog w) A (Builtin.List.listLengthHint (.ref it)) Q E s := by
  unfold Builtin.List.listLengthHint
  refine wpAny_bind (wpAny_specialOf hit.typeIs nolen_rt ?_)
  show wpAny _ _ (specialOf (Value.ref it) (Str.ofString "__length_hint__") >>= _) _ _ _
  refine wpAny_bind (wpAny_specialOf hit.typeIs hint_rt ?_)
  generalize hid : ("reversed.__length_hint__" : String) = id0
  wp_delta
  rw [show splitId id0 = some ("reversed", "__length_hint__") from by subst hid; decide +kernel]
  refine wpAny_bind (wpAny_isInstance (b := true) hit.typeIs (by rw [isSubtype_type]; kernel_rfl) ?_)
  subst hid
  try dsimp only
  rw [if_neg (by decide), if_neg (by decide +kernel)]
  refine wpAny_bind (wpAny_rule ?_)
  rw [bind_rt_hint]
  refine wpAny_bind (wpAny_pure ?_)
  refine wpAny_bind (wpAny_attempt (rt_len hit ht hz hi fun tk u => ?_))
  refine wpAny_bind (wpAny_of_eq (a := some (i + 1)) rfl ?_)
  have f1 : Builtin.List.listFitsIndex (i + 1) = true := by
    have hn := line63
    unfold Builtin.List.listFitsIndex
    simp
    omega
  have f2 : Builtin.List.listTooLong (i + 1).toNat = false := by
    have hn := sizeLine_eq
    unfold Builtin.List.listTooLong
    simp
    omega
  show wpAny _ _ (if (!Builtin.List.listFitsIndex (i + 1)) = true then _ else _) _ _ _
  rw [f1, if_neg (by decide)]
  show wpAny _ _ (if (i + 1 : Int) < 0 then _ else _) _ _ _
  rw [if_neg (by omega)]
  show wpAny _ _ (if Builtin.List.listTooLong (i + 1).toNat = true then _ else _) _ _ _
  rw [f2, if_neg (by decide)]
  exact wpAny_pure (h _)
end
section
variable {prog : Program} {w : World} {A : Around} {s : Shared} {R : Result → Shared → Prop}
theorem walks_rt {prog : Program} {w : World} {A : Around} (hh : A.handled = none) (I t : Addr) (hne : t ≠ I) (items : Array Value) (hz : items.size ≤ sizeLine) :
    Walks prog w A I [I, t] [I] items.size (fun i v => items[items.size - 1 - i]? = some v) (fun i h => i ≤ items.size ∧ RT.IsRt h I t ((items.size : Int) - 1 - (i : Int)) ∧ IsTup h t items) where
  sub := fun b hb => by simp at hb; simp [hb]
  frame := fun _ _ _ x hk => ⟨x.1, x.2.1.at fun o e => hk I (by simp) o e, let ⟨o, ho, r⟩ := x.2.2; ⟨o, hk t (by simp) o ho, r⟩⟩
  item := fun i s Q E hi x hQ => by
    have e : (items.size : Int) - 1 - (i : Int) = ((items.size - 1 - i : Nat) : Int) := by omega
    have hit := x.2.1
    rw [e] at hit
    have hx : items[items.size - 1 - i]? = some (items[items.size - 1 - i]'(by omega)) := Array.getElem?_eq_getElem (by omega)
    refine RT.next_rt_item hit x.2.2 hx hz fun h' hit' hs' => ?_
    have e2 : ((items.size - 1 - i : Nat) : Int) - 1 = (items.size : Int) - 1 - ((i + 1 : Nat) : Int) := by omega
    rw [e2] at hit'
    exact hQ _ h' (s.toks + 1) hx ⟨hi, hit', let ⟨o, ho, r⟩ := x.2.2; ⟨o, (hs'.2 t hne).trans ho, r⟩⟩ fun b o hb eo => hs'.extBut b o (fun h => hb (by simp [h])) eo
  done := fun s Q E x hQ => by
    have e : (items.size : Int) - 1 - (items.size : Int) = -1 := by omega
    have hit := x.2.1
    rw [e] at hit
    exact RT.next_rt_end hh hit fun h' he' => hQ h' s.toks fun b o hb eo => he' b o (fun h => hb (by simp [h])) eo
  self := fun _ _ _ _ x hQ => RT.iter_rt x.2.1 hQ
theorem extend_rt {I t : Addr} {items : Array Value} (hh : A.handled = none) (hne : t ≠ I) (hz : items.size ≤ sizeLine) (S : Addr) (res : Value) (c₀ : Nat) (hit : RT.IsRt s.heap I t ((items.size : Int) - 1)) (ht : IsTup s.heap t items) (hSI : S ≠ I) (hSt : S ≠ t)
    (hS : s.heap.get? S = some { cls := .type "list", data := .seq #[] c₀ })
    (hR : ∀ s' acc' c', (∃ tk, s' = { s with heap := s'.heap, toks := tk }) → (∀ b o, b ≠ S → b ≠ I → s.heap.get? b = some o → s'.heap.get? b = some o) → s'.heap.get? S = some { cls := .type "list", dict := none, data := .seq acc' c', slots := #[] } →
      ItemsOf (fun i v => items[items.size - 1 - i]? = some v) acc' items.size → R (.ok (.ret res)) s') :
    wpAny (model prog w) A.in1 (Builtin.List.listExtendWith (.ref S) (.ref I) res)
      (fun fin s' => match fin with | .done f => R (.ok f) s' | .again c' => c'.quiet = true ∧ codeAny (model prog w) A c' R s') (fun e s' => R (.error e) s') s := by
  have W := (walks_rt (prog := prog) (w := w) (A := A.in1) hh I t hne items hz).toS
  have hSf : S ∉ [I, t] := by simp only [List.mem_cons, List.not_mem_nil, or_false, not_or]; exact ⟨hSI, hSt⟩
  unfold Builtin.List.listExtendWith
  refine wpAny_bind (wpAny_typeOf hit.typeIs ?_)
  have h1 : Builtin.List.listSameRef (.ref S) (.ref I) = false := by simp [Builtin.List.listSameRef, hSI]
  have h2 : (Value.type "reversed" == Value.type "list") = false := by decide
  have h3 : (Value.type "reversed" == Value.type "tuple") = false := by decide
  simp only [h1, h2, h3, Bool.or_false, Bool.false_eq_true, if_false]
  refine wpAny_bind (RT.iter_rt hit ?_)
  refine wpAny_bind (wpAny_holding ?_)
  refine rt_hint hit ht hz (by omega) (by omega) fun tk => ?_
  have e0 : ((items.size : Nat) : Int) - 1 - ((0 : Nat) : Int) = (items.size : Int) - 1 := by omega
  by_cases h0 : items.size = 0
  · rw [show ((items.size : Int) - 1 + 1 != 0) = false from by simp [h0]]
    rw [if_neg (by decide +kernel)]
    refine wpAny_pure ⟨plainId_quiet F.plain_extend_loop _, codeAny_extend_loopS W hz _ hSf _ items.size 0 _ _ _ rfl (Nat.zero_le _) ⟨Nat.zero_le _, by rw [e0]; exact hit, ht⟩ hS (ItemsOf.nil _) fun s' acc' c' hm hS' hacc => ?_⟩
    exact hR s' acc' c' (by have e := Moved.eq_with hm; exact ⟨_, e⟩) (fun b o h1 h2 e => hm.heap b o (by simp [h1, h2]) e) hS' hacc
  · rw [show ((items.size : Int) - 1 + 1 != 0) = true from by rw [bne_iff_ne]; omega]
    rw [if_pos (by decide +kernel)]
    refine wpAny_bind (wpAny_rule ?_)
    refine wpAny_bind ?_
    show wpAny _ A.in1 (updateSeq S (·.push .none) >>= fun _ => updateSeq S (·.pop)) _ _ _
    refine wpAny_bind (wpAny_updateSeq hS rfl ?_)
    have hS₂ := Heap.get?_update_self (Obj.mapSeq (·.push Value.none)) hS rfl
    refine wpAny_updateSeq (hz := by seq_fits) hS₂ rfl ?_
    have hS₃ := Heap.get?_update_self (Obj.mapSeq (·.pop)) hS₂ rfl
    have oth : ∀ b o, b ≠ S → s.heap.get? b = some o → ((s.heap.update S (Obj.mapSeq (·.push Value.none))).update S (Obj.mapSeq (·.pop))).get? b = some o :=
      fun b o hb e => (Heap.get?_update_other _ _ (Ne.symm hb)).trans ((Heap.get?_update_other _ _ (Ne.symm hb)).trans e)
    refine wpAny_pure ⟨plainId_quiet F.plain_extend_loop _, codeAny_extend_loopS W hz _ hSf _ items.size 0 _ _ _ rfl (Nat.zero_le _)
      ⟨Nat.zero_le _, by rw [e0]; exact hit.at fun o e => oth I o (Ne.symm hSI) e, let ⟨o, ho, r⟩ := ht; ⟨o, oth t o (Ne.symm hSt) ho, r⟩⟩ hS₃ (ItemsOf.nil _) fun s' acc' c' hm hS' hacc => ?_⟩
    exact hR s' acc' c' (by have e := Moved.eq_with hm; exact ⟨_, e⟩) (fun b o h1 h2 e => hm.heap b o (by simp [h1, h2]) (oth b o h1 e)) hS' hacc
theorem init_rt {I t : Addr} {items : Array Value} (hh : A.handled = none) (hne : t ≠ I) (hz : items.size ≤ sizeLine) (S : Addr) (hit : RT.IsRt s.heap I t ((items.size : Int) - 1)) (ht : IsTup s.heap t items) (hSI : S ≠ I) (hSt : S ≠ t)
    (hS : s.heap.get? S = some { cls := .type "list", data := .seq #[] })
    (hR : ∀ s' acc' c', (∃ tk, s' = { s with heap := s'.heap, toks := tk }) → (∀ b o, b ≠ S → b ≠ I → s.heap.get? b = some o → s'.heap.get? b = some o) → s'.heap.get? S = some { cls := .type "list", dict := none, data := .seq acc' c', slots := #[] } →
      ItemsOf (fun i v => items[items.size - 1 - i]? = some v) acc' items.size → R (.ok (.ret .none)) s') :
    wpAny (model prog w) A.in1 (Builtin.«list.__init__» ⟨[.ref S, .ref I], []⟩)
      (fun fin s' => match fin with | .done f => R (.ok f) s' | .again c' => c'.quiet = true ∧ codeAny (model prog w) A c' R s') (fun e s' => R (.error e) s') s := by
  show wpAny _ A.in1 (do let old ← Builtin.List.listItems (.ref S); Builtin.List.listUpdate (.ref S) (fun _ => #[]); letGo old.toList.reverse; Builtin.List.listExtendWith (.ref S) (.ref I) .none) _ _ s
  refine wpAny_bind ?_
  unfold Builtin.List.listItems
  refine wpAny_bind (wpAny_seqItems hS rfl (wpAny_pure ?_))
  show wpAny _ A.in1 (updateSeq S (fun _ => #[]) >>= fun _ => letGo (#[] : Array Value).toList.reverse >>= fun _ => Builtin.List.listExtendWith (.ref S) (.ref I) .none) _ _ s
  refine wpAny_bind (wpAny_updateSeq hS rfl ?_)
  have hS₂ := Heap.get?_update_self (Obj.mapSeq (fun _ => (#[] : Array Value))) hS rfl
  have oth : ∀ b o, b ≠ S → s.heap.get? b = some o → (s.heap.update S (Obj.mapSeq (fun _ => (#[] : Array Value)))).get? b = some o :=
    fun b o hb e => (Heap.get?_update_other _ _ (Ne.symm hb)).trans e
  refine wpAny_bind (wpAny_letGo ?_)
  refine extend_rt (s := { s with heap := s.heap.update S (Obj.mapSeq (fun _ => (#[] : Array Value))) }) hh hne hz S .none _ (hit.at fun o e => oth I o (Ne.symm hSI) e) (let ⟨o, ho, r⟩ := ht; ⟨o, oth t o (Ne.symm hSt) ho, r⟩) hSI hSt hS₂ fun s' acc' c' ⟨tk, es⟩ hk hS' hacc => ?_
  exact hR s' acc' c' ⟨tk, es⟩ (fun b o h1 h2 e => hk b o h1 h2 (oth b o h1 e)) hS' hacc
end
section
variable {prog : Program} {w : World} {A : Around} {E : Value → Shared → Prop} {s : Shared}
theorem call_list_rt {I t : Addr} {items : Array Value} {Q : Value → Shared → Prop} (hh : A.handled = none) (hne : t ≠ I) (hz : items.size ≤ sizeLine) (hit : RT.IsRt s.heap I t ((items.size : Int) - 1)) (ht : IsTup s.heap t items)
    (hQ : ∀ (h' : Heap) (tk : Nat) (acc : Array Value) (c : Nat), (∀ b o, b ≠ I → s.heap.get? b = some o → h'.get? b = some o) → h'.get? s.heap.objs.size = some { cls := .type "list", dict := none, data := .seq acc c, slots := #[] } →
      ItemsOf (fun i v => items[items.size - 1 - i]? = some v) acc items.size → Q (.ref s.heap.objs.size) { s with heap := h', toks := tk }) :
    wpAny (model prog w) A (call (.type "list") [.ref I]) Q E s := by
  obtain ⟨oi, hoi, _⟩ := id hit
  obtain ⟨ot, hot, _⟩ := id ht
  have hSI : s.heap.objs.size ≠ I := Nat.ne_of_gt (Heap.lt_size hoi)
  have hSt : s.heap.objs.size ≠ t := Nat.ne_of_gt (Heap.lt_size hot)
  refine callType_codes (Q₁ := fun obj s₁ => obj = .ref s.heap.objs.size ∧ s₁ = { s with heap := s.heap.push { cls := .type "list", data := .seq #[] } }) F.called_list (F.typeCall_list_1 _) F.entry_list_init
    (code_list_new _ ⟨rfl, rfl⟩) fun obj s₁ h₁ => ?_
  obtain ⟨rfl, rfl⟩ := h₁
  have hS : (s.heap.push { cls := .type "list", data := .seq #[] }).get? s.heap.objs.size = some { cls := .type "list", data := .seq #[] } := Heap.get?_push_size _ rfl
  refine ⟨⟨_, hS, rfl⟩, F.args_list_init_2 _ _, init_rt (A := A.in1) (s := { s with heap := s.heap.push { cls := .type "list", data := .seq #[] } }) hh hne hz _ (hit.at fun o e => Heap.get?_push_of_some _ e) (let ⟨o, ho, r⟩ := ht; ⟨o, Heap.get?_push_of_some _ ho, r⟩) hSI hSt hS fun s' acc' c' ⟨tk, es⟩ hk hS' hacc => ?_⟩
  have q := hQ s'.heap tk acc' c' (fun b o hb e => hk b o (Nat.ne_of_lt (Heap.lt_size e)) hb (Heap.get?_push_of_some _ e)) hS' hacc
  rw [es]
  exact ⟨rfl, q⟩
end
section
variable {X : Cx}
/-- list(reversed(x)), x a tuple: a new list -/
def tListRev (te : TE) : TE := fun σ H Q => te σ H fun v H1 => ∃ (a : Addr) (xs : List V), v = .ref a ∧ H1 a = some (.tup xs) ∧ ∀ q, H1 q = none → Q (.ref q) (L2.upd H1 q (.lst xs.reverse))
theorem pe_listRevT {e : Expr} {te : TE} {p p2 pos pos2 : Pos} (hc : X.calm = true) (hg : Gl X "list") (hm : X.mg "list" = none) (hg2 : Gl X "reversed") (hm2 : X.mg "reversed" = none) (he : PE X e te)
    (hs : starEach [e] X.env = (false, eval e X.env) :: starEach [] X.env := by rfl)
    (hs2 : starEach [.Call (.Name "reversed" p2) [e] [] pos2] X.env = (false, eval (.Call (.Name "reversed" p2) [e] [] pos2) X.env) :: starEach [] X.env := by rfl) :
    PE X (.Call (.Name "list" p) [.Call (.Name "reversed" p2) [e] [] pos2] [] pos) (tListRev te) := by
  refine ⟨fun pins s σ H Q I h => ?_⟩
  refine Call_ (ld_blt I hg hm boot_list (PyProof.Rows.callWith_type1 (args_cons (Call_ (ld_blt I hg2 hm2 PyProof.Rows.boot_reversed (PyProof.Rows.callWith_type1 (args_cons (thn (he.run pins s σ H _ I h) fun u s1 ⟨v, H1, I1, r1, q1⟩ => args_nil ?_) hs) hs rfl))) hs2) hs2 rfl))
  obtain ⟨a, xs, ev, hq, q⟩ := q1
  subst ev
  obtain rfl : u = Value.ref a := r1
  obtain ⟨its, rv, p', hz⟩ := I1.tuple (SqT.of hq)
  have hl := rv.length
  have hn := line63
  have hz' : its.toArray.size ≤ sizeLine := by rw [List.size_toArray, ← hl]; exact hz
  refine RT.call_reversed_tup p' (fun A E Q k => PyProof.Rows.len_tuple p' (by omega) k) (args_nil ?_)
  have hit : RT.IsRt (s1.heap.push (RT.rtObj a ((its.toArray.size : Int) - 1))) s1.heap.objs.size a ((its.toArray.size : Int) - 1) := ⟨_, Heap.get?_push_size _ rfl, rfl, rfl⟩
  have pt : IsTup (s1.heap.push (RT.rtObj a ((its.toArray.size : Int) - 1))) a its.toArray := let ⟨o, ho, r⟩ := p'; ⟨o, Heap.get?_push_of_some _ ho, r⟩
  have hne : a ≠ s1.heap.objs.size := Nat.ne_of_lt p'.lt
  refine call_list_rt (s := { s1 with heap := s1.heap.push (RT.rtObj a ((its.toArray.size : Int) - 1)), toks := s1.toks + 1 + 1 }) (I1.ok.hd hc) hne hz' hit pt fun h' tk acc c hk hS hi => ?_
  have sz : (s1.heap.push (RT.rtObj a ((its.toArray.size : Int) - 1))).objs.size = s1.heap.objs.size + 1 := by simp [Heap.push]
  have hle : s1.heap.objs.size ≤ (s1.heap.push (RT.rtObj a ((its.toArray.size : Int) - 1))).objs.size := by rw [sz]; exact Nat.le_succ _
  have I3 := I1.laid (t' := tk) (h' := h') (a := (s1.heap.push (RT.rtObj a ((its.toArray.size : Int) - 1))).objs.size) (o := .lst xs.reverse) (fun b o e => hk b o (Nat.ne_of_lt (Heap.lt_size e)) (Heap.get?_push_of_some _ e)) hle
    (show ObjOk X.prog X.w _ h' _ (.lst xs.reverse) from ⟨by rw [List.length_reverse]; exact hz, acc.toList, c, RT.vals_rev rv hi, by rw [Array.toArray_toList]; exact hS⟩)
  exact ⟨.ref _, _, I3, rfl, q _ (I1.hok.fresh hle)⟩
end

/-! ### texts: isascii, isprintable, encode; a number in bytes -/
section
variable {X : Cx}
theorem mt_isascii : MtR X "str.isascii" (fun x xs H Q => ∃ a, x = .str a ∧ xs = [] ∧ True ∧ Q (.bl (Txt.isascii a)) H) :=
  mt0 (C := fun _ => True) (g := fun a => .bl (Txt.isascii a)) fun _ _ s _ _ h => PySem.SC.isascii (h _ s.toks rfl)
theorem mt_isprintable : MtR X "str.isprintable" (fun x xs H Q => ∃ a, x = .str a ∧ xs = [] ∧ True ∧ Q (.bl (Txt.isprintable a)) H) :=
  mt0 (C := fun _ => True) (g := fun a => .bl (Txt.isprintable a)) fun _ _ s _ _ h => PySem.SC.isprintable (h _ s.toks rfl)
theorem mt_encode : MtR X "str.encode" (fun x xs H Q => ∃ a, x = .str a ∧ xs = [] ∧ PySem.W.KSb.Asc a ∧ a.length ≤ 16777216 ∧ ∀ c, PySem.W.KBw.bInts c = PySem.W.KSb.codes a → Q (.byt c) H) := by
  intro pins s σ H x xs v us Q I rx rs h
  obtain ⟨a, rfl, rfl, h1, h2, h⟩ := h
  obtain ⟨t, rfl⟩ := rx
  cases rs
  exact PySem.W.KSb.encode_K h1 h2 fun c t' k e _ _ => ⟨.byt c, H, I.tok k, ⟨_, rfl⟩, h c e⟩
def rNotInI : R2 := fun x y H Q => ∃ (n : Int) (b : Array UInt8), x = .int n ∧ y = .byt b ∧ 0 ≤ n ∧ n < 256 ∧ Q (.bl (!(PySem.W.KBw.bInts b).contains n)) H
theorem op_notInI : OpR X (compareOp .NotIn) rNotInI := by
  intro pins s σ H x y v u Q I rx ry h
  obtain ⟨n, b, rfl, rfl, h0, h1, q⟩ := h
  obtain ⟨t, rfl⟩ := rx
  obtain ⟨t', rfl⟩ := ry
  exact PySem.W.KBi.notIn_K rfl h0 h1 ⟨.bl _, H, I, rfl, q⟩
theorem pe_isascii {o : Expr} {to : TE} {apos pos : Pos} (ho : PE X o to) (hbase : attributeBase o "isascii" X.env (eval o X.env) = eval o X.env := by rfl) (hline : (apos.endLine == pos.line) = true := by rfl) :
    PE X (.Call (.Attribute o "isascii" apos) [] [] pos) (tM0 (fun x xs H Q => ∃ a, x = .str a ∧ xs = [] ∧ True ∧ Q (.bl (Txt.isascii a)) H) to) := pe_m0 F.slot_str_isascii F.type_str_isascii mt_isascii ho hbase hline
theorem pe_isprintable {o : Expr} {to : TE} {apos pos : Pos} (ho : PE X o to) (hbase : attributeBase o "isprintable" X.env (eval o X.env) = eval o X.env := by rfl) (hline : (apos.endLine == pos.line) = true := by rfl) :
    PE X (.Call (.Attribute o "isprintable" apos) [] [] pos) (tM0 (fun x xs H Q => ∃ a, x = .str a ∧ xs = [] ∧ True ∧ Q (.bl (Txt.isprintable a)) H) to) := pe_m0 F.slot_str_isprintable F.type_str_isprintable mt_isprintable ho hbase hline
theorem pe_encode {o : Expr} {to : TE} {apos pos : Pos} (ho : PE X o to) (hbase : attributeBase o "encode" X.env (eval o X.env) = eval o X.env := by rfl) (hline : (apos.endLine == pos.line) = true := by rfl) :
    PE X (.Call (.Attribute o "encode" apos) [] [] pos) (tM0 (fun x xs H Q => ∃ a, x = .str a ∧ xs = [] ∧ PySem.W.KSb.Asc a ∧ a.length ≤ 16777216 ∧ ∀ c, PySem.W.KBw.bInts c = PySem.W.KSb.codes a → Q (.byt c) H) to) := pe_m0 F.slot_str_encode F.type_str_encode mt_encode ho hbase hline
theorem r_m0 {r : V → List V → Hp → VK → Prop} {to : TE} {σ : L2.St} {H : Hp} {Q : VK} : tM0 r to σ H Q = to σ H (fun x H1 => (∃ a, x = .str a) ∧ r x [] H1 Q) := rfl
theorem r_listrev {te : TE} {σ : L2.St} {H : Hp} {Q : VK} : tListRev te σ H Q = te σ H (fun v H1 => ∃ (a : Addr) (xs : List V), v = .ref a ∧ H1 a = some (.tup xs) ∧ ∀ q, H1 q = none → Q (.ref q) (L2.upd H1 q (.lst xs.reverse))) := rfl
theorem r_notInI {x y : V} {H : Hp} {Q : VK} : rNotInI x y H Q = ∃ (n : Int) (b : Array UInt8), x = .int n ∧ y = .byt b ∧ 0 ≤ n ∧ n < 256 ∧ Q (.bl (!(PySem.W.KBw.bInts b).contains n)) H := rfl

end

/-! ### x is True, x is False; isidentifier; C() of a class without an own __init__ -/
def rIsBl : R2 := fun x y H Q => ∃ c : Bool, y = .bl c ∧ Q (.bl (decide (x = .bl c))) H
section
variable {X : Cx}
theorem op_isB : OpR X (compareOp .Is) rIsBl := by
  intro pins s σ H x y v u Q I rx ry h
  obtain ⟨c, rfl, q⟩ := h
  cases (show u = Value.bool c from ry)
  have eq_ : ∀ {b : Bool}, plainIs v (.bool c) = true → (v == Value.bool c) = b → b = decide (x = .bl c) → wpAny (model X.prog X.w) X.A (compareOp .Is v (.bool c)) (EP X pins σ Q) X.xe s := fun h1 h2 h3 => by
    show wpAny _ _ ((isSame v (Value.bool c)) >>= fun z => pure (Value.bool z)) _ _ s
    refine wpAny_bind (wpAny_isSame_plain h1 (wpAny_pure ?_))
    rw [h2]
    exact ⟨.bl _, H, I, by rw [h3]; rfl, q⟩
  cases x with
  | ref a =>
    cases rx
    exact eq_ rfl rfl rfl
  | non => cases rx; exact eq_ rfl rfl rfl
  | bl b => cases rx; cases b <;> cases c <;> exact eq_ rfl rfl rfl
  | int i => obtain ⟨t, rfl⟩ := rx; exact eq_ rfl rfl rfl
  | str x => obtain ⟨t, rfl⟩ := rx; exact eq_ rfl rfl rfl
  | byt x => obtain ⟨t, rfl⟩ := rx; exact eq_ rfl rfl rfl
  | flt x => obtain ⟨t, rfl⟩ := rx; exact eq_ rfl rfl rfl
  | ty n => cases rx; exact eq_ rfl rfl rfl
theorem r_isBl {x y : V} {H : Hp} {Q : VK} : rIsBl x y H Q = ∃ c : Bool, y = .bl c ∧ Q (.bl (decide (x = .bl c))) H := rfl
theorem mt_isidentifier : MtR X "str.isidentifier" (fun x xs H Q => ∃ a, x = .str a ∧ xs = [] ∧ True ∧ Q (.bl (Txt.isidentifier a)) H) :=
  mt0 (C := fun _ => True) (g := fun a => .bl (Txt.isidentifier a)) fun _ _ s _ _ h => PySem.SC.isidentifier (h _ s.toks rfl)
theorem pe_isidentifier {o : Expr} {to : TE} {apos pos : Pos} (ho : PE X o to) (hbase : attributeBase o "isidentifier" X.env (eval o X.env) = eval o X.env := by rfl) (hline : (apos.endLine == pos.line) = true := by rfl) :
    PE X (.Call (.Attribute o "isidentifier" apos) [] [] pos) (tM0 (fun x xs H Q => ∃ a, x = .str a ∧ xs = [] ∧ True ∧ Q (.bl (Txt.isidentifier a)) H) to) := pe_m0 F.slot_str_isidentifier F.type_str_isidentifier mt_isidentifier ho hbase hline
/-- what a class without an own __init__ must have to be made -/
structure MkP (K : PySem.W.Frag) (C : Addr) : Prop where
  makes : PySem.W.makesIn K C = true
  init : PySem.W.findIn K (.ref C) "__init__" = some (some (.builtin "object.__init__"))
  kp : PySem.W.keepIn K (.ref C) = true
def tPlain (C : Addr) : TE := fun _ H Q => ∀ x dx, H x = none → H dx = none → dx ≠ x → Q (.ref x) (upd (upd H dx (.own x)) x (.ins C dx []))
theorem run_plain {C : Addr} {pins : List (Addr × Obj)} {σ : L2.St} {H : Hp} {s : Shared} {Q : VK} (M : MkP X.K C) (I : Inv X pins σ H s)
    (h : ∀ x dx, H x = none → H dx = none → dx ≠ x → Q (.ref x) (upd (upd H dx (.own x)) x (.ins C dx []))) :
    wpAny (model X.prog X.w) X.A (call (.ref C) []) (EP X pins σ Q) X.xe s := by
  have hq := h (s.heap.objs.size + 1) s.heap.objs.size (I.hok.fresh (Nat.le_succ _)) (I.hok.fresh (Nat.le_refl _)) (Nat.ne_of_lt (Nat.lt_succ_self _))
  have I2 := Inv.made (C := C) I
  refine wpAny_call (make_map0 I.kIn M.makes M.init (fun self => PySem.W.Looks.of_pure (PySem.W.oi_bind _)) ?_)
  obtain ⟨hh, g, d, t, os⟩ := s
  obtain ⟨_, _, _, ho, _⟩ := I2.hok (hh.objs.size + 1) _ upd_same
  have t1 : PySem.W.Looks (model X.prog X.w) ((hh.push PySem.W.emptyDict).push (PySem.W.instObj C hh.objs.size)) (typeOf (.ref (hh.objs.size + 1))) (.ref C) := (PySem.W.Looks.ld ho).andThen .now
  refine codeAny_call_builtin PySem.W.oi_plain PySem.W.entry_oi (@PySem.W.check_slot (model X.prog X.w) _ _ _ "object.__init__" "object" "__init__" (.ref (hh.objs.size + 1)) [] [] _ PySem.W.oi_kind PySem.W.oi_split (t1.andThen (PySem.W.makes_of (M := model X.prog X.w) I2.kIn M.makes).top) (PySem.W.oi_args _) ?_)
  rw [PySem.W.oi_run]
  exact wpAny_pure ⟨rfl, ⟨V.ref (hh.objs.size + 1), _, I2, rfl, hq⟩⟩
theorem pe_plain {C : Addr} {x : Str} {p pos : Pos} (M : MkP X.K C) (hg : Gl X x) (hm : X.mg x = some (.ref C)) (hdb : (x == ("__debug__" : Str)) = false := by decide) : PE X (.Call (.Name x p) [] [] pos) (tPlain C) := by
  refine ⟨fun pins s σ H Q I h => ?_⟩
  refine wpAny_Call_Name_kw (ld_glob I hg hm ?_ hdb)
  exact PySem.W.callWith_K0 I.kIn M.kp (run_plain M I h)
theorem r_plain {C : Addr} {σ : L2.St} {H : Hp} {Q : VK} : tPlain C σ H Q = ∀ x dx, H x = none → H dx = none → dx ≠ x → Q (.ref x) (upd (upd H dx (.own x)) x (.ins C dx [])) := rfl
end

/-- what is known of the class Known: nothing that is handed in is one -/
structure KnownT (K : PySem.W.Frag) (mg : Str → Option Value) (C : Addr) : Prop where
  cI : ClsI K C
  g_Known : mg "Known" = some (.ref C)
  no : PySem.W.kitOne K (.type "list") (.ref C) = some false
def spNumberOf : Sp := fun vs H Q _ => ∃ (n : Int) (f : Str), vs = [.int n, .str f] ∧ 0 ≤ n ∧ n ≤ 2147483647 ∧ Q (.int n) H
def spBytesOf : Sp := fun vs H Q _ => ∃ (a : Addr) (f : Str) (ns : List Nat), vs = [.ref a, .str f] ∧ H a = some (.lst (vn ns)) ∧ (∀ n ∈ ns, n < 256) ∧ ∀ p H', H p = none → Same H H' → H' p = some (.tup (vn ns)) → Q (.ref p) H'
def spStringOf : Sp := fun vs H Q _ => ∃ f : Str, vs = [.str "f", .str f] ∧ Q (.str "f") H
def spStringsOf : Sp := fun vs H Q _ => ∃ (a : Addr) (f : Str), vs = [.ref a, .str f] ∧ H a = some (.lst []) ∧ ∀ p H', H p = none → Same H H' → H' p = some (.tup []) → Q (.ref p) H'
def spIsString : Sp := fun vs H Q _ => vs = [.str "f"] ∧ Q (.bl true) H
def spDepthOf : Sp := fun vs H Q _ => ∃ a : Addr, vs = [.ref a] ∧ H a = some (.lst []) ∧ ∀ H', Same H H' → Q (.int 1) H'
section
variable {P : Program} {w : World} {K : PySem.W.Frag} {mg : Str → Option Value} {base : Heap} {f : Addr} {fd : FuncData}
abbrev snumber_of : Stmt := top 15
theorem scnumber_of : FnScope ["value", "field"] ["value", "field"] (defScope snumber_of) := ⟨rfl, rfl, rfl, by decide +kernel, rfl, by decide +kernel, by decide +kernel⟩

abbrev sbytes_of : Stmt := top 16
theorem scbytes_of : FnScope ["row", "field", "value"] ["row", "field"] (defScope sbytes_of) := ⟨rfl, rfl, rfl, by decide +kernel, rfl, by decide +kernel, by decide +kernel⟩

abbrev sstring_of : Stmt := top 17
theorem scstring_of : FnScope ["value", "field"] ["value", "field"] (defScope sstring_of) := ⟨rfl, rfl, rfl, by decide +kernel, rfl, by decide +kernel, by decide +kernel⟩

abbrev sstrings_of : Stmt := top 18
theorem scstrings_of : FnScope ["row", "field", "value"] ["row", "field"] (defScope sstrings_of) := ⟨rfl, rfl, rfl, by decide +kernel, rfl, by decide +kernel, by decide +kernel⟩

abbrev sis_string : Stmt := top 19
theorem scis_string : FnScope ["value"] ["value"] (defScope sis_string) := ⟨rfl, rfl, rfl, by decide +kernel, rfl, by decide +kernel, by decide +kernel⟩

abbrev sdepth_of : Stmt := top 20
theorem scdepth_of : FnScope ["constants", "depth", "value"] ["constants"] (defScope sdepth_of) := ⟨rfl, rfl, rfl, by decide +kernel, rfl, by decide +kernel, by decide +kernel⟩

theorem ok_number_of {CC : Addr} (T : Txt mg) (I : CodeT K mg CC) (F : FnP K "number_of" "number_of" snumber_of f fd) : FnOk P w K mg base CX0 1 f fd ["value", "field"] spNumberOf := by
  refine F.ok scnumber_of (fun vs H Q E h => ?_) (fun cdv A outer s H vs Q E hr h => ?_)
  · obtain ⟨n, f, rfl, _⟩ := h
    rfl
  · obtain ⟨n, f, rfl, h0, h1, k⟩ := h
    refine ⟨_, PSs.nox (pss_cons (ps_if (PW.pt (pw_or (pt_not (pt_val (pe_callB (call_is_d I.cI) (by rfl) T.b_isinstance (by decide +kernel) (pa_cons (pv 0) (pa_cons (pe_bltn (v := .ty "int") (by rfl) T.b_int (by decide +kernel) rfl) pa_nil))))) (pw_or (pt_cmpR op_isB (pv 0) pe_bl (nomark _)) (pw_or (pt_cmpR op_isB (pv 0) pe_bl (nomark _)) (pw_or1 (pt_not (pt_chain op_le op_le pe_int (pv 0) (pe_gi T.g_GREATEST))))))))
    (pss_one ps_never)
    pss_nil)
  (pss_one (ps_ret (pv 0)))), ?_⟩
    show (_ : TS) _ [some (.int n), some (.str f)] H
    simp only [r_seq, r_next, r_brk, r_cont, r_asg, r_name, r_ret, r_retN, r_drop, r_ifs, r_never, r_var, r_c, r_op, r_un, r_if, r_tst, r_b, r_not, r_and, r_or, r_andV, r_orV, r_notV, r_nil, r_cons, r_tup, r_lst, r_cb, r_call, r_bm, r_bm0, r_sl, r_nopart, r_part, r_rev, r_gnil, r_gcons, r_gsub, r_par, r_aug, r_chain, r_I0, r_I, r_U, r_ixd, r_lend, r_tupd, r_listd, r_sld, r_app, r_ext, r_reverse, r_setl, r_cat, r_int1, r_eqS, r_neS, scal_ii, scal_bb, scal_ss, at0, at1, at2, sq_lst, sq_tup, isLst_lst, List.getElem?_cons_zero, List.getElem?_cons_succ, List.set_cons_zero, List.set_cons_succ, V.int.injEq, V.bl.injEq, V.ref.injEq, V.str.injEq, HO.lst.injEq, HO.tup.injEq, Option.some.injEq, exists_eq_left', exists_eq_left, List.cons.injEq, and_true, true_and, decide_eq_true_eq, reduceCtorEq, false_and, exists_false, or_false, false_or, exists_const, and_assoc, exists_and_left, List.append_nil, ix0, ix1, ix2, cm_mod, cdw1009, cdw2003, cdw7, cdw64, cdw2, cm104729, cm2, cm3, upd_same, List.length_cons, List.length_nil, Int.reduceLT, Int.reduceLE, Nat.reduceAdd, Nat.reduceLeDiff, Nat.reduceLT, Int.reduceToNat, r_for1, r_forL, r_forT, r_lcL, r_lc1, r_yes, r_gtupD, wipe_0, wipe_1, List.cons_append, List.nil_append, r_forS, r_ipI, ite_false, ite_true, Bool.not_true, Bool.not_false, decide_true, decide_false, r_isd, r_islt, cD_ty, cD_ref, tD_non, tD_bl, tD_int, tD_str, tD_ref, tH_lst, tH_tup, tH_dK, tH_ins, ki_self, ki_int_bool, ki_non_int, ki_str_int, ki_lt_lst, ki_lt_tup, r_fld, r_sfld, HO.ins.injEq, cx_K, h0, h1, r_isBl]
    exact k
theorem ok_is_string {CC : Addr} (T : Txt mg) (I : CodeT K mg CC) (F : FnP K "is_string" "is_string" sis_string f fd) : FnOk P w K mg base CX0 1 f fd ["value"] spIsString := by
  refine F.ok scis_string (fun vs H Q E h => ?_) (fun cdv A outer s H vs Q E hr h => ?_)
  · obtain ⟨rfl, _⟩ := h
    rfl
  · obtain ⟨rfl, k⟩ := h
    refine ⟨_, PSs.nox (pss_cons (ps_if (PW.pt (pw_or (pt_not (pt_val (pe_callB (call_is_d I.cI) (by rfl) T.b_isinstance (by decide +kernel) (pa_cons (pv 0) (pa_cons (pe_bltn (v := .ty "str") (by rfl) T.b_str (by decide +kernel) rfl) pa_nil))))) (pw_or1 (pt_not (pt_val (pe_isascii (pv 0)))))))
    (pss_one (ps_ret pe_bl))
    pss_nil)
  (pss_one (ps_ret (pe_or (pe_isidentifier (pv 0)) (pe_one (pe_and (pe_isprintable (pv 0)) (pe_one (pe_cmpR op_notInI (pe_gi T.g_BARRED) (pe_encode (pv 0)) (by rfl))))))))), ?_⟩
    show (_ : TS) _ [some (.str "f")] H
    simp only [r_seq, r_next, r_brk, r_cont, r_asg, r_name, r_ret, r_retN, r_drop, r_ifs, r_never, r_var, r_c, r_op, r_un, r_if, r_tst, r_b, r_not, r_and, r_or, r_andV, r_orV, r_notV, r_nil, r_cons, r_tup, r_lst, r_cb, r_call, r_bm, r_bm0, r_sl, r_nopart, r_part, r_rev, r_gnil, r_gcons, r_gsub, r_par, r_aug, r_chain, r_I0, r_I, r_U, r_ixd, r_lend, r_tupd, r_listd, r_sld, r_app, r_ext, r_reverse, r_setl, r_cat, r_int1, r_eqS, r_neS, scal_ii, scal_bb, scal_ss, at0, at1, at2, sq_lst, sq_tup, isLst_lst, List.getElem?_cons_zero, List.getElem?_cons_succ, List.set_cons_zero, List.set_cons_succ, V.int.injEq, V.bl.injEq, V.ref.injEq, V.str.injEq, HO.lst.injEq, HO.tup.injEq, Option.some.injEq, exists_eq_left', exists_eq_left, List.cons.injEq, and_true, true_and, decide_eq_true_eq, reduceCtorEq, false_and, exists_false, or_false, false_or, exists_const, and_assoc, exists_and_left, List.append_nil, ix0, ix1, ix2, cm_mod, cdw1009, cdw2003, cdw7, cdw64, cdw2, cm104729, cm2, cm3, upd_same, List.length_cons, List.length_nil, Int.reduceLT, Int.reduceLE, Nat.reduceAdd, Nat.reduceLeDiff, Nat.reduceLT, Int.reduceToNat, r_for1, r_forL, r_forT, r_lcL, r_lc1, r_yes, r_gtupD, wipe_0, wipe_1, List.cons_append, List.nil_append, r_forS, r_ipI, ite_false, ite_true, Bool.not_true, Bool.not_false, decide_true, decide_false, r_isd, r_islt, cD_ty, cD_ref, tD_non, tD_bl, tD_int, tD_str, tD_ref, tH_lst, tH_tup, tH_dK, tH_ins, ki_self, ki_int_bool, ki_non_int, ki_str_int, ki_lt_lst, ki_lt_tup, r_fld, r_sfld, HO.ins.injEq, cx_K, r_m0]
    have e1 : Txt.isascii (Str.ofString "f") = true := by decide +kernel
    have e2 : Txt.isidentifier (Str.ofString "f") = true := by decide +kernel
    rw [e1, if_neg (by decide), if_pos e2]
    exact ⟨⟨_, rfl⟩, ⟨_, rfl⟩, k⟩
theorem ok_string_of {CC : Addr} (T : Txt mg) (I : CodeT K mg CC) (F : FnP K "string_of" "string_of" sstring_of f fd) (C_is_string : Cal P w K mg base 1 "is_string" ["value"] spIsString) : FnOk P w K mg base CX0 2 f fd ["value", "field"] spStringOf := by
  refine F.ok scstring_of (fun vs H Q E h => ?_) (fun cdv A outer s H vs Q E hr h => ?_)
  · obtain ⟨f, rfl, _⟩ := h
    rfl
  · obtain ⟨f, rfl, k⟩ := h
    refine ⟨_, PSs.nox (pss_cons (ps_if (pt_not (pt_val (pe_cal C_is_string (hr.mono (by decide)) rfl (pa_cons (pv 0) pa_nil))))
    (pss_one ps_never)
    pss_nil)
  (pss_one (ps_ret (pv 0)))), ?_⟩
    show (_ : TS) _ [some (.str "f"), some (.str f)] H
    simp only [r_seq, r_next, r_brk, r_cont, r_asg, r_name, r_ret, r_retN, r_drop, r_ifs, r_never, r_var, r_c, r_op, r_un, r_if, r_tst, r_b, r_not, r_and, r_or, r_andV, r_orV, r_notV, r_nil, r_cons, r_tup, r_lst, r_cb, r_call, r_bm, r_bm0, r_sl, r_nopart, r_part, r_rev, r_gnil, r_gcons, r_gsub, r_par, r_aug, r_chain, r_I0, r_I, r_U, r_ixd, r_lend, r_tupd, r_listd, r_sld, r_app, r_ext, r_reverse, r_setl, r_cat, r_int1, r_eqS, r_neS, scal_ii, scal_bb, scal_ss, at0, at1, at2, sq_lst, sq_tup, isLst_lst, List.getElem?_cons_zero, List.getElem?_cons_succ, List.set_cons_zero, List.set_cons_succ, V.int.injEq, V.bl.injEq, V.ref.injEq, V.str.injEq, HO.lst.injEq, HO.tup.injEq, Option.some.injEq, exists_eq_left', exists_eq_left, List.cons.injEq, and_true, true_and, decide_eq_true_eq, reduceCtorEq, false_and, exists_false, or_false, false_or, exists_const, and_assoc, exists_and_left, List.append_nil, ix0, ix1, ix2, cm_mod, cdw1009, cdw2003, cdw7, cdw64, cdw2, cm104729, cm2, cm3, upd_same, List.length_cons, List.length_nil, Int.reduceLT, Int.reduceLE, Nat.reduceAdd, Nat.reduceLeDiff, Nat.reduceLT, Int.reduceToNat, r_for1, r_forL, r_forT, r_lcL, r_lc1, r_yes, r_gtupD, wipe_0, wipe_1, List.cons_append, List.nil_append, r_forS, r_ipI, ite_false, ite_true, Bool.not_true, Bool.not_false, decide_true, decide_false, r_isd, r_islt, cD_ty, cD_ref, tD_non, tD_bl, tD_int, tD_str, tD_ref, tH_lst, tH_tup, tH_dK, tH_ins, ki_self, ki_int_bool, ki_non_int, ki_str_int, ki_lt_lst, ki_lt_tup, r_fld, r_sfld, HO.ins.injEq, cx_K]
    exact ⟨rfl, true, rfl, k⟩
theorem ok_bytes_of {CC KC : Addr} (T : Txt mg) (I : CodeT K mg CC) (IK : KnownT K mg KC) (F : FnP K "bytes_of" "bytes_of" sbytes_of f fd) : FnOk P w K mg base CX0 1 f fd ["row", "field"] spBytesOf := by
  refine F.ok scbytes_of (fun vs H Q E h => ?_) (fun cdv A outer s H vs Q E hr h => ?_)
  · obtain ⟨a, f, ns, rfl, _⟩ := h
    rfl
  · obtain ⟨a, f, ns, rfl, ha, hb, k⟩ := h
    refine ⟨_, PSs.nox (pss_cons (ps_if (pt_val (pe_callB (call_is_d IK.cI) (by rfl) T.b_isinstance (by decide +kernel) (pa_cons (pv 0) (pa_cons (pe_glob (v := .ref _) rfl IK.g_Known rfl) pa_nil))))
    (pss_one (ps_ret (pe_callTy call_tuple_d (by rfl) T.b_tuple (by decide +kernel) (pa_cons (pe_fld (pv 0) rfl) pa_nil))))
    pss_nil)
  (pss_cons (ps_if (pt_not (pt_val (pe_callB (call_is_lt I.cI) (by rfl) T.b_isinstance (by decide +kernel) (pa_cons (pv 0) (pa_cons (pe_tup (pa_cons (pe_bltn (v := .ty "list") (by rfl) T.b_list (by decide +kernel) rfl) (pa_cons (pe_bltn (v := .ty "tuple") (by rfl) T.b_tuple (by decide +kernel) rfl) pa_nil))) pa_nil)))))
    (pss_one ps_never)
    pss_nil)
  (pss_cons (ps_for PassesOwn.never rfl (pi_list (pv 0)) (pg_name (i := 2) scbytes_of.nd rfl (Or.inl rfl))
    (pss_one (ps_if (PW.pt (pw_or (pt_not (pt_val (pe_callB (call_is_d I.cI) (by rfl) T.b_isinstance (by decide +kernel) (pa_cons (pv 2) (pa_cons (pe_bltn (v := .ty "int") (by rfl) T.b_int (by decide +kernel) rfl) pa_nil))))) (pw_or (pt_val (pe_callB (call_is_d I.cI) (by rfl) T.b_isinstance (by decide +kernel) (pa_cons (pv 2) (pa_cons (pe_bltn (v := .ty "bool") (by rfl) T.b_bool (by decide +kernel) rfl) pa_nil)))) (pw_or1 (pt_not (pt_chain op_le op_le pe_int (pv 2) pe_int))))))
    (pss_one ps_never)
    pss_nil)))
  (pss_one (ps_ret (pe_callTy call_tuple_d (by rfl) T.b_tuple (by decide +kernel) (pa_cons (pv 0) pa_nil))))))), ?_⟩
    show (_ : TS) _ [some (.ref a), some (.str f), none] H
    have nk := IK.no
    simp only [r_seq, r_next, r_brk, r_cont, r_asg, r_name, r_ret, r_retN, r_drop, r_ifs, r_never, r_var, r_c, r_op, r_un, r_if, r_tst, r_b, r_not, r_and, r_or, r_andV, r_orV, r_notV, r_nil, r_cons, r_tup, r_lst, r_cb, r_call, r_bm, r_bm0, r_sl, r_nopart, r_part, r_rev, r_gnil, r_gcons, r_gsub, r_par, r_aug, r_chain, r_I0, r_I, r_U, r_ixd, r_lend, r_tupd, r_listd, r_sld, r_app, r_ext, r_reverse, r_setl, r_cat, r_int1, r_eqS, r_neS, scal_ii, scal_bb, scal_ss, at0, at1, at2, sq_lst, sq_tup, isLst_lst, List.getElem?_cons_zero, List.getElem?_cons_succ, List.set_cons_zero, List.set_cons_succ, V.int.injEq, V.bl.injEq, V.ref.injEq, V.str.injEq, HO.lst.injEq, HO.tup.injEq, Option.some.injEq, exists_eq_left', exists_eq_left, List.cons.injEq, and_true, true_and, decide_eq_true_eq, reduceCtorEq, false_and, exists_false, or_false, false_or, exists_const, and_assoc, exists_and_left, List.append_nil, ix0, ix1, ix2, cm_mod, cdw1009, cdw2003, cdw7, cdw64, cdw2, cm104729, cm2, cm3, upd_same, List.length_cons, List.length_nil, Int.reduceLT, Int.reduceLE, Nat.reduceAdd, Nat.reduceLeDiff, Nat.reduceLT, Int.reduceToNat, r_for1, r_forL, r_forT, r_lcL, r_lc1, r_yes, r_gtupD, wipe_0, wipe_1, List.cons_append, List.nil_append, r_forS, r_ipI, ite_false, ite_true, Bool.not_true, Bool.not_false, decide_true, decide_false, r_isd, r_islt, cD_ty, cD_ref, tD_non, tD_bl, tD_int, tD_str, tD_ref, tH_lst, tH_tup, tH_dK, tH_ins, ki_self, ki_int_bool, ki_non_int, ki_str_int, ki_lt_lst, ki_lt_tup, r_fld, r_sfld, HO.ins.injEq, cx_K, ha, nk]
    refine ⟨szl (by decide), fun p hp => ?_⟩
    have pa := une (ne_new ha hp)
    have ha1 : L2.upd H p (.tup [.ty "list", .ty "tuple"]) a = some (.lst (vn ns)) := by rw [pa]; exact ha
    simp only [r_seq, r_next, r_brk, r_cont, r_asg, r_name, r_ret, r_retN, r_drop, r_ifs, r_never, r_var, r_c, r_op, r_un, r_if, r_tst, r_b, r_not, r_and, r_or, r_andV, r_orV, r_notV, r_nil, r_cons, r_tup, r_lst, r_cb, r_call, r_bm, r_bm0, r_sl, r_nopart, r_part, r_rev, r_gnil, r_gcons, r_gsub, r_par, r_aug, r_chain, r_I0, r_I, r_U, r_ixd, r_lend, r_tupd, r_listd, r_sld, r_app, r_ext, r_reverse, r_setl, r_cat, r_int1, r_eqS, r_neS, scal_ii, scal_bb, scal_ss, at0, at1, at2, sq_lst, sq_tup, isLst_lst, List.getElem?_cons_zero, List.getElem?_cons_succ, List.set_cons_zero, List.set_cons_succ, V.int.injEq, V.bl.injEq, V.ref.injEq, V.str.injEq, HO.lst.injEq, HO.tup.injEq, Option.some.injEq, exists_eq_left', exists_eq_left, List.cons.injEq, and_true, true_and, decide_eq_true_eq, reduceCtorEq, false_and, exists_false, or_false, false_or, exists_const, and_assoc, exists_and_left, List.append_nil, ix0, ix1, ix2, cm_mod, cdw1009, cdw2003, cdw7, cdw64, cdw2, cm104729, cm2, cm3, upd_same, List.length_cons, List.length_nil, Int.reduceLT, Int.reduceLE, Nat.reduceAdd, Nat.reduceLeDiff, Nat.reduceLT, Int.reduceToNat, r_for1, r_forL, r_forT, r_lcL, r_lc1, r_yes, r_gtupD, wipe_0, wipe_1, List.cons_append, List.nil_append, r_forS, r_ipI, ite_false, ite_true, Bool.not_true, Bool.not_false, decide_true, decide_false, r_isd, r_islt, cD_ty, cD_ref, tD_non, tD_bl, tD_int, tD_str, tD_ref, tH_lst, tH_tup, tH_dK, tH_ins, ki_self, ki_int_bool, ki_non_int, ki_str_int, ki_lt_lst, ki_lt_tup, r_fld, r_sfld, HO.ins.injEq, cx_K, ha1]
    refine ⟨⟨_, SqL.of ha1⟩, lp_list (xs := vn ns) (fun i σ H' => (∃ v, σ = [some (.ref a), some (.str f), v]) ∧ H' = L2.upd H p (.tup [.ty "list", .ty "tuple"])) ⟨⟨_, rfl⟩, rfl⟩ (fun i σ H' _ ⟨_, e⟩ => SqL.of (by rw [e]; exact ha1)) ?_ ?_⟩
    · rintro i x σ H' hx ⟨⟨v, rfl⟩, rfl⟩
      obtain ⟨n, hn, rfl⟩ : ∃ n ∈ ns, x = .int (n : Int) := by
        have := List.mem_of_getElem? hx
        unfold vn at this
        obtain ⟨n, hn, e⟩ := List.mem_map.mp this
        exact ⟨n, hn, e.symm⟩
      have hb1 := hb n hn
      have c1 : (0 : Int) ≤ (n : Int) := by omega
      have c2 : (n : Int) ≤ 255 := by omega
      simp only [r_seq, r_next, r_brk, r_cont, r_asg, r_name, r_ret, r_retN, r_drop, r_ifs, r_never, r_var, r_c, r_op, r_un, r_if, r_tst, r_b, r_not, r_and, r_or, r_andV, r_orV, r_notV, r_nil, r_cons, r_tup, r_lst, r_cb, r_call, r_bm, r_bm0, r_sl, r_nopart, r_part, r_rev, r_gnil, r_gcons, r_gsub, r_par, r_aug, r_chain, r_I0, r_I, r_U, r_ixd, r_lend, r_tupd, r_listd, r_sld, r_app, r_ext, r_reverse, r_setl, r_cat, r_int1, r_eqS, r_neS, scal_ii, scal_bb, scal_ss, at0, at1, at2, sq_lst, sq_tup, isLst_lst, List.getElem?_cons_zero, List.getElem?_cons_succ, List.set_cons_zero, List.set_cons_succ, V.int.injEq, V.bl.injEq, V.ref.injEq, V.str.injEq, HO.lst.injEq, HO.tup.injEq, Option.some.injEq, exists_eq_left', exists_eq_left, List.cons.injEq, and_true, true_and, decide_eq_true_eq, reduceCtorEq, false_and, exists_false, or_false, false_or, exists_const, and_assoc, exists_and_left, List.append_nil, ix0, ix1, ix2, cm_mod, cdw1009, cdw2003, cdw7, cdw64, cdw2, cm104729, cm2, cm3, upd_same, List.length_cons, List.length_nil, Int.reduceLT, Int.reduceLE, Nat.reduceAdd, Nat.reduceLeDiff, Nat.reduceLT, Int.reduceToNat, r_for1, r_forL, r_forT, r_lcL, r_lc1, r_yes, r_gtupD, wipe_0, wipe_1, List.cons_append, List.nil_append, r_forS, r_ipI, ite_false, ite_true, Bool.not_true, Bool.not_false, decide_true, decide_false, r_isd, r_islt, cD_ty, cD_ref, tD_non, tD_bl, tD_int, tD_str, tD_ref, tH_lst, tH_tup, tH_dK, tH_ins, ki_self, ki_int_bool, ki_non_int, ki_str_int, ki_lt_lst, ki_lt_tup, r_fld, r_sfld, HO.ins.injEq, cx_K, c1, c2]
      exact ⟨_, rfl⟩
    · rintro σ H' ⟨⟨v, rfl⟩, rfl⟩
      simp only [r_seq, r_next, r_brk, r_cont, r_asg, r_name, r_ret, r_retN, r_drop, r_ifs, r_never, r_var, r_c, r_op, r_un, r_if, r_tst, r_b, r_not, r_and, r_or, r_andV, r_orV, r_notV, r_nil, r_cons, r_tup, r_lst, r_cb, r_call, r_bm, r_bm0, r_sl, r_nopart, r_part, r_rev, r_gnil, r_gcons, r_gsub, r_par, r_aug, r_chain, r_I0, r_I, r_U, r_ixd, r_lend, r_tupd, r_listd, r_sld, r_app, r_ext, r_reverse, r_setl, r_cat, r_int1, r_eqS, r_neS, scal_ii, scal_bb, scal_ss, at0, at1, at2, sq_lst, sq_tup, isLst_lst, List.getElem?_cons_zero, List.getElem?_cons_succ, List.set_cons_zero, List.set_cons_succ, V.int.injEq, V.bl.injEq, V.ref.injEq, V.str.injEq, HO.lst.injEq, HO.tup.injEq, Option.some.injEq, exists_eq_left', exists_eq_left, List.cons.injEq, and_true, true_and, decide_eq_true_eq, reduceCtorEq, false_and, exists_false, or_false, false_or, exists_const, and_assoc, exists_and_left, List.append_nil, ix0, ix1, ix2, cm_mod, cdw1009, cdw2003, cdw7, cdw64, cdw2, cm104729, cm2, cm3, upd_same, List.length_cons, List.length_nil, Int.reduceLT, Int.reduceLE, Nat.reduceAdd, Nat.reduceLeDiff, Nat.reduceLT, Int.reduceToNat, r_for1, r_forL, r_forT, r_lcL, r_lc1, r_yes, r_gtupD, wipe_0, wipe_1, List.cons_append, List.nil_append, r_forS, r_ipI, ite_false, ite_true, Bool.not_true, Bool.not_false, decide_true, decide_false, r_isd, r_islt, cD_ty, cD_ref, tD_non, tD_bl, tD_int, tD_str, tD_ref, tH_lst, tH_tup, tH_dK, tH_ins, ki_self, ki_int_bool, ki_non_int, ki_str_int, ki_lt_lst, ki_lt_tup, r_fld, r_sfld, HO.ins.injEq, cx_K, ha1]
      exact fun l hl => k l _ (by rw [upd_at] at hl; split at hl; cases hl; exact hl) (Same.new' (Same.new' (Same.refl H) hp) hl) upd_same
theorem ok_strings_of {CC : Addr} (T : Txt mg) (I : CodeT K mg CC) (F : FnP K "strings_of" "strings_of" sstrings_of f fd) (C_is_string : Cal P w K mg base 1 "is_string" ["value"] spIsString) : FnOk P w K mg base CX0 2 f fd ["row", "field"] spStringsOf := by
  refine F.ok scstrings_of (fun vs H Q E h => ?_) (fun cdv A outer s H vs Q E hr h => ?_)
  · obtain ⟨a, f, rfl, _⟩ := h
    rfl
  · obtain ⟨a, f, rfl, ha, k⟩ := h
    refine ⟨_, PSs.nox (pss_cons (ps_if (pt_not (pt_val (pe_callB (call_is_lt I.cI) (by rfl) T.b_isinstance (by decide +kernel) (pa_cons (pv 0) (pa_cons (pe_tup (pa_cons (pe_bltn (v := .ty "list") (by rfl) T.b_list (by decide +kernel) rfl) (pa_cons (pe_bltn (v := .ty "tuple") (by rfl) T.b_tuple (by decide +kernel) rfl) pa_nil))) pa_nil)))))
    (pss_one ps_never)
    pss_nil)
  (pss_cons (ps_for PassesOwn.never rfl (pi_list (pv 0)) (pg_name (i := 2) scstrings_of.nd rfl (Or.inl rfl))
    (pss_one (ps_if (pt_not (pt_val (pe_cal C_is_string (hr.mono (by decide)) rfl (pa_cons (pv 2) pa_nil))))
    (pss_one ps_never)
    pss_nil)))
  (pss_one (ps_ret (pe_callTy call_tuple_d (by rfl) T.b_tuple (by decide +kernel) (pa_cons (pv 0) pa_nil)))))), ?_⟩
    show (_ : TS) _ [some (.ref a), some (.str f), none] H
    simp only [r_seq, r_next, r_brk, r_cont, r_asg, r_name, r_ret, r_retN, r_drop, r_ifs, r_never, r_var, r_c, r_op, r_un, r_if, r_tst, r_b, r_not, r_and, r_or, r_andV, r_orV, r_notV, r_nil, r_cons, r_tup, r_lst, r_cb, r_call, r_bm, r_bm0, r_sl, r_nopart, r_part, r_rev, r_gnil, r_gcons, r_gsub, r_par, r_aug, r_chain, r_I0, r_I, r_U, r_ixd, r_lend, r_tupd, r_listd, r_sld, r_app, r_ext, r_reverse, r_setl, r_cat, r_int1, r_eqS, r_neS, scal_ii, scal_bb, scal_ss, at0, at1, at2, sq_lst, sq_tup, isLst_lst, List.getElem?_cons_zero, List.getElem?_cons_succ, List.set_cons_zero, List.set_cons_succ, V.int.injEq, V.bl.injEq, V.ref.injEq, V.str.injEq, HO.lst.injEq, HO.tup.injEq, Option.some.injEq, exists_eq_left', exists_eq_left, List.cons.injEq, and_true, true_and, decide_eq_true_eq, reduceCtorEq, false_and, exists_false, or_false, false_or, exists_const, and_assoc, exists_and_left, List.append_nil, ix0, ix1, ix2, cm_mod, cdw1009, cdw2003, cdw7, cdw64, cdw2, cm104729, cm2, cm3, upd_same, List.length_cons, List.length_nil, Int.reduceLT, Int.reduceLE, Nat.reduceAdd, Nat.reduceLeDiff, Nat.reduceLT, Int.reduceToNat, r_for1, r_forL, r_forT, r_lcL, r_lc1, r_yes, r_gtupD, wipe_0, wipe_1, List.cons_append, List.nil_append, r_forS, r_ipI, ite_false, ite_true, Bool.not_true, Bool.not_false, decide_true, decide_false, r_isd, r_islt, cD_ty, cD_ref, tD_non, tD_bl, tD_int, tD_str, tD_ref, tH_lst, tH_tup, tH_dK, tH_ins, ki_self, ki_int_bool, ki_non_int, ki_str_int, ki_lt_lst, ki_lt_tup, r_fld, r_sfld, HO.ins.injEq, cx_K, ha]
    refine ⟨szl (by decide), fun p hp => ?_⟩
    have pa := une (ne_new ha hp)
    have ha1 : L2.upd H p (.tup [.ty "list", .ty "tuple"]) a = some (.lst []) := by rw [pa]; exact ha
    simp only [r_seq, r_next, r_brk, r_cont, r_asg, r_name, r_ret, r_retN, r_drop, r_ifs, r_never, r_var, r_c, r_op, r_un, r_if, r_tst, r_b, r_not, r_and, r_or, r_andV, r_orV, r_notV, r_nil, r_cons, r_tup, r_lst, r_cb, r_call, r_bm, r_bm0, r_sl, r_nopart, r_part, r_rev, r_gnil, r_gcons, r_gsub, r_par, r_aug, r_chain, r_I0, r_I, r_U, r_ixd, r_lend, r_tupd, r_listd, r_sld, r_app, r_ext, r_reverse, r_setl, r_cat, r_int1, r_eqS, r_neS, scal_ii, scal_bb, scal_ss, at0, at1, at2, sq_lst, sq_tup, isLst_lst, List.getElem?_cons_zero, List.getElem?_cons_succ, List.set_cons_zero, List.set_cons_succ, V.int.injEq, V.bl.injEq, V.ref.injEq, V.str.injEq, HO.lst.injEq, HO.tup.injEq, Option.some.injEq, exists_eq_left', exists_eq_left, List.cons.injEq, and_true, true_and, decide_eq_true_eq, reduceCtorEq, false_and, exists_false, or_false, false_or, exists_const, and_assoc, exists_and_left, List.append_nil, ix0, ix1, ix2, cm_mod, cdw1009, cdw2003, cdw7, cdw64, cdw2, cm104729, cm2, cm3, upd_same, List.length_cons, List.length_nil, Int.reduceLT, Int.reduceLE, Nat.reduceAdd, Nat.reduceLeDiff, Nat.reduceLT, Int.reduceToNat, r_for1, r_forL, r_forT, r_lcL, r_lc1, r_yes, r_gtupD, wipe_0, wipe_1, List.cons_append, List.nil_append, r_forS, r_ipI, ite_false, ite_true, Bool.not_true, Bool.not_false, decide_true, decide_false, r_isd, r_islt, cD_ty, cD_ref, tD_non, tD_bl, tD_int, tD_str, tD_ref, tH_lst, tH_tup, tH_dK, tH_ins, ki_self, ki_int_bool, ki_non_int, ki_str_int, ki_lt_lst, ki_lt_tup, r_fld, r_sfld, HO.ins.injEq, cx_K, ha1]
    refine ⟨⟨_, SqL.of ha1⟩, lp_nil (SqL.of ha1) ?_⟩
    simp only [r_seq, r_next, r_brk, r_cont, r_asg, r_name, r_ret, r_retN, r_drop, r_ifs, r_never, r_var, r_c, r_op, r_un, r_if, r_tst, r_b, r_not, r_and, r_or, r_andV, r_orV, r_notV, r_nil, r_cons, r_tup, r_lst, r_cb, r_call, r_bm, r_bm0, r_sl, r_nopart, r_part, r_rev, r_gnil, r_gcons, r_gsub, r_par, r_aug, r_chain, r_I0, r_I, r_U, r_ixd, r_lend, r_tupd, r_listd, r_sld, r_app, r_ext, r_reverse, r_setl, r_cat, r_int1, r_eqS, r_neS, scal_ii, scal_bb, scal_ss, at0, at1, at2, sq_lst, sq_tup, isLst_lst, List.getElem?_cons_zero, List.getElem?_cons_succ, List.set_cons_zero, List.set_cons_succ, V.int.injEq, V.bl.injEq, V.ref.injEq, V.str.injEq, HO.lst.injEq, HO.tup.injEq, Option.some.injEq, exists_eq_left', exists_eq_left, List.cons.injEq, and_true, true_and, decide_eq_true_eq, reduceCtorEq, false_and, exists_false, or_false, false_or, exists_const, and_assoc, exists_and_left, List.append_nil, ix0, ix1, ix2, cm_mod, cdw1009, cdw2003, cdw7, cdw64, cdw2, cm104729, cm2, cm3, upd_same, List.length_cons, List.length_nil, Int.reduceLT, Int.reduceLE, Nat.reduceAdd, Nat.reduceLeDiff, Nat.reduceLT, Int.reduceToNat, r_for1, r_forL, r_forT, r_lcL, r_lc1, r_yes, r_gtupD, wipe_0, wipe_1, List.cons_append, List.nil_append, r_forS, r_ipI, ite_false, ite_true, Bool.not_true, Bool.not_false, decide_true, decide_false, r_isd, r_islt, cD_ty, cD_ref, tD_non, tD_bl, tD_int, tD_str, tD_ref, tH_lst, tH_tup, tH_dK, tH_ins, ki_self, ki_int_bool, ki_non_int, ki_str_int, ki_lt_lst, ki_lt_tup, r_fld, r_sfld, HO.ins.injEq, cx_K, ha1]
    exact fun l hl => k l _ (by rw [upd_at] at hl; split at hl; cases hl; exact hl) (Same.new' (Same.new' (Same.refl H) hp) hl) upd_same
theorem ok_depth_of {CC : Addr} (T : Txt mg) (I : CodeT K mg CC) (F : FnP K "depth_of" "depth_of" sdepth_of f fd) : FnOk P w K mg base CX0 1 f fd ["constants"] spDepthOf := by
  refine F.ok scdepth_of (fun vs H Q E h => ?_) (fun cdv A outer s H vs Q E hr h => ?_)
  · obtain ⟨a, rfl, _⟩ := h
    rfl
  · obtain ⟨a, rfl, ha, k⟩ := h
    refine ⟨_, PSs.nox (pss_cons (ps_if (pt_not (pt_val (pe_callB (call_is_lt I.cI) (by rfl) T.b_isinstance (by decide +kernel) (pa_cons (pv 0) (pa_cons (pe_tup (pa_cons (pe_bltn (v := .ty "list") (by rfl) T.b_list (by decide +kernel) rfl) (pa_cons (pe_bltn (v := .ty "tuple") (by rfl) T.b_tuple (by decide +kernel) rfl) pa_nil))) pa_nil)))))
    (pss_one ps_never)
    pss_nil)
  (pss_cons (ps_set (i := 1) scdepth_of.nd rfl (Or.inl rfl) pe_int)
  (pss_cons (ps_for PassesOwn.never rfl (pi_list (pv 0)) (pg_name (i := 2) scdepth_of.nd rfl (Or.inl rfl))
    (pss_one ps_never))
  (pss_cons (ps_if (pt_cmpR op_gt (pv 1) (pe_gi T.g_DEEPEST) (nomark _))
    (pss_one ps_never)
    pss_nil)
  (pss_one (ps_ret (pv 1))))))), ?_⟩
    show (_ : TS) _ [some (.ref a), none, none] H
    simp only [r_seq, r_next, r_brk, r_cont, r_asg, r_name, r_ret, r_retN, r_drop, r_ifs, r_never, r_var, r_c, r_op, r_un, r_if, r_tst, r_b, r_not, r_and, r_or, r_andV, r_orV, r_notV, r_nil, r_cons, r_tup, r_lst, r_cb, r_call, r_bm, r_bm0, r_sl, r_nopart, r_part, r_rev, r_gnil, r_gcons, r_gsub, r_par, r_aug, r_chain, r_I0, r_I, r_U, r_ixd, r_lend, r_tupd, r_listd, r_sld, r_app, r_ext, r_reverse, r_setl, r_cat, r_int1, r_eqS, r_neS, scal_ii, scal_bb, scal_ss, at0, at1, at2, sq_lst, sq_tup, isLst_lst, List.getElem?_cons_zero, List.getElem?_cons_succ, List.set_cons_zero, List.set_cons_succ, V.int.injEq, V.bl.injEq, V.ref.injEq, V.str.injEq, HO.lst.injEq, HO.tup.injEq, Option.some.injEq, exists_eq_left', exists_eq_left, List.cons.injEq, and_true, true_and, decide_eq_true_eq, reduceCtorEq, false_and, exists_false, or_false, false_or, exists_const, and_assoc, exists_and_left, List.append_nil, ix0, ix1, ix2, cm_mod, cdw1009, cdw2003, cdw7, cdw64, cdw2, cm104729, cm2, cm3, upd_same, List.length_cons, List.length_nil, Int.reduceLT, Int.reduceLE, Nat.reduceAdd, Nat.reduceLeDiff, Nat.reduceLT, Int.reduceToNat, r_for1, r_forL, r_forT, r_lcL, r_lc1, r_yes, r_gtupD, wipe_0, wipe_1, List.cons_append, List.nil_append, r_forS, r_ipI, ite_false, ite_true, Bool.not_true, Bool.not_false, decide_true, decide_false, r_isd, r_islt, cD_ty, cD_ref, tD_non, tD_bl, tD_int, tD_str, tD_ref, tH_lst, tH_tup, tH_dK, tH_ins, ki_self, ki_int_bool, ki_non_int, ki_str_int, ki_lt_lst, ki_lt_tup, r_fld, r_sfld, HO.ins.injEq, cx_K, ha]
    refine ⟨szl (by decide), fun p hp => ?_⟩
    have pa := une (ne_new ha hp)
    have ha1 : L2.upd H p (.tup [.ty "list", .ty "tuple"]) a = some (.lst []) := by rw [pa]; exact ha
    simp only [r_seq, r_next, r_brk, r_cont, r_asg, r_name, r_ret, r_retN, r_drop, r_ifs, r_never, r_var, r_c, r_op, r_un, r_if, r_tst, r_b, r_not, r_and, r_or, r_andV, r_orV, r_notV, r_nil, r_cons, r_tup, r_lst, r_cb, r_call, r_bm, r_bm0, r_sl, r_nopart, r_part, r_rev, r_gnil, r_gcons, r_gsub, r_par, r_aug, r_chain, r_I0, r_I, r_U, r_ixd, r_lend, r_tupd, r_listd, r_sld, r_app, r_ext, r_reverse, r_setl, r_cat, r_int1, r_eqS, r_neS, scal_ii, scal_bb, scal_ss, at0, at1, at2, sq_lst, sq_tup, isLst_lst, List.getElem?_cons_zero, List.getElem?_cons_succ, List.set_cons_zero, List.set_cons_succ, V.int.injEq, V.bl.injEq, V.ref.injEq, V.str.injEq, HO.lst.injEq, HO.tup.injEq, Option.some.injEq, exists_eq_left', exists_eq_left, List.cons.injEq, and_true, true_and, decide_eq_true_eq, reduceCtorEq, false_and, exists_false, or_false, false_or, exists_const, and_assoc, exists_and_left, List.append_nil, ix0, ix1, ix2, cm_mod, cdw1009, cdw2003, cdw7, cdw64, cdw2, cm104729, cm2, cm3, upd_same, List.length_cons, List.length_nil, Int.reduceLT, Int.reduceLE, Nat.reduceAdd, Nat.reduceLeDiff, Nat.reduceLT, Int.reduceToNat, r_for1, r_forL, r_forT, r_lcL, r_lc1, r_yes, r_gtupD, wipe_0, wipe_1, List.cons_append, List.nil_append, r_forS, r_ipI, ite_false, ite_true, Bool.not_true, Bool.not_false, decide_true, decide_false, r_isd, r_islt, cD_ty, cD_ref, tD_non, tD_bl, tD_int, tD_str, tD_ref, tH_lst, tH_tup, tH_dK, tH_ins, ki_self, ki_int_bool, ki_non_int, ki_str_int, ki_lt_lst, ki_lt_tup, r_fld, r_sfld, HO.ins.injEq, cx_K, ha1]
    refine ⟨⟨_, SqL.of ha1⟩, lp_nil (SqL.of ha1) ?_⟩
    simp only [r_seq, r_next, r_brk, r_cont, r_asg, r_name, r_ret, r_retN, r_drop, r_ifs, r_never, r_var, r_c, r_op, r_un, r_if, r_tst, r_b, r_not, r_and, r_or, r_andV, r_orV, r_notV, r_nil, r_cons, r_tup, r_lst, r_cb, r_call, r_bm, r_bm0, r_sl, r_nopart, r_part, r_rev, r_gnil, r_gcons, r_gsub, r_par, r_aug, r_chain, r_I0, r_I, r_U, r_ixd, r_lend, r_tupd, r_listd, r_sld, r_app, r_ext, r_reverse, r_setl, r_cat, r_int1, r_eqS, r_neS, scal_ii, scal_bb, scal_ss, at0, at1, at2, sq_lst, sq_tup, isLst_lst, List.getElem?_cons_zero, List.getElem?_cons_succ, List.set_cons_zero, List.set_cons_succ, V.int.injEq, V.bl.injEq, V.ref.injEq, V.str.injEq, HO.lst.injEq, HO.tup.injEq, Option.some.injEq, exists_eq_left', exists_eq_left, List.cons.injEq, and_true, true_and, decide_eq_true_eq, reduceCtorEq, false_and, exists_false, or_false, false_or, exists_const, and_assoc, exists_and_left, List.append_nil, ix0, ix1, ix2, cm_mod, cdw1009, cdw2003, cdw7, cdw64, cdw2, cm104729, cm2, cm3, upd_same, List.length_cons, List.length_nil, Int.reduceLT, Int.reduceLE, Nat.reduceAdd, Nat.reduceLeDiff, Nat.reduceLT, Int.reduceToNat, r_for1, r_forL, r_forT, r_lcL, r_lc1, r_yes, r_gtupD, wipe_0, wipe_1, List.cons_append, List.nil_append, r_forS, r_ipI, ite_false, ite_true, Bool.not_true, Bool.not_false, decide_true, decide_false, r_isd, r_islt, cD_ty, cD_ref, tD_non, tD_bl, tD_int, tD_str, tD_ref, tH_lst, tH_tup, tH_dK, tH_ins, ki_self, ki_int_bool, ki_non_int, ki_str_int, ki_lt_lst, ki_lt_tup, r_fld, r_sfld, HO.ins.injEq, cx_K]
    exact k _ (Same.new' (Same.refl H) hp)
end
end C48

set_option maxHeartbeats 2000000
namespace C48
open PySem PySem.Spec PyProof.Rows L2
/-- a method of a class of the text -/
def inClass (s : Stmt) (j : Nat) : Stmt := match s with
  | .ClassDef _ _ _ body _ _ _ _ _ _ _ => body.getD j (.Pass ⟨0, 0, 0, 0⟩)
  | _ => .Pass ⟨0, 0, 0, 0⟩
theorem lnF {f : Str} {v : V} {fs : List (Str × V)} {n : Nat} (h : fs.length ≤ n) : (putF f v fs).length ≤ n + 1 := Nat.le_trans (length_putF f v fs) (Nat.succ_le_succ h)
/-- one statement, what follows being kept closed -/
theorem seq_intro {t u : TS} {D : Ends} {σ : L2.St} {H : Hp} (h : ∀ N : L2.St → Hp → Prop, (∀ σ' H', N σ' H' = u D σ' H') → t { D with nx := N } σ H) : tSeq t u D σ H := h _ fun _ _ => rfl
/-- an instance that is being filled: all else stays, and what is known of its fields -/
def Ini (CC c dx : Addr) (H0 : Hp) (L : List (Str × V)) (Hk : Hp) : Prop := Keep c H0 Hk ∧ ∃ fs, Hk c = some (.ins CC dx fs) ∧ fs.length ≤ L.length ∧ ∀ f v, L.lookup f = some v → fs.lookup f = some v
theorem Ini.store {CC c dx : Addr} {H0 Hk : Hp} {L fs : List (Str × V)} {f : Str} {y : V} (kk : Keep c H0 Hk) (hl : fs.length ≤ L.length) (lk : ∀ f v, L.lookup f = some v → fs.lookup f = some v) :
    Ini CC c dx H0 ((f, y) :: L) (L2.upd Hk c (.ins CC dx (putF f y fs))) := by
  refine ⟨Keep.upd kk, _, upd_same, lnF hl, fun g v h => ?_⟩
  rw [lookup_putF]
  rw [List.lookup_cons] at h
  by_cases e : g = f
  · subst e
    rw [beq_self_eq_true] at h
    rw [if_pos rfl]
    exact h
  · rw [if_neg e]
    rw [show (g == f) = false from beq_eq_false_iff_ne.mpr e] at h
    exact lk g v h
theorem Ini.same {CC c dx : Addr} {H0 Hk H' : Hp} {L : List (Str × V)} (I : Ini CC c dx H0 L Hk) (s : Same Hk H') : Ini CC c dx H0 L H' := by
  obtain ⟨kk, fs, hc, hl, lk⟩ := I
  exact ⟨kk.trans (Keep.same s), fs, s c _ hc, hl, lk⟩
section
variable {H : Hp} {Q : VK} {E : XK}
theorem r_spN {n : Int} {f : Str} : spNumberOf [.int n, .str f] H Q E = (0 ≤ n ∧ n ≤ 2147483647 ∧ Q (.int n) H) := propext ⟨fun ⟨_, _, e, h⟩ => by cases e; exact h, fun h => ⟨_, _, rfl, h⟩⟩
theorem r_spS {f : Str} : spStringOf [.str "f", .str f] H Q E = Q (.str "f") H := propext ⟨fun ⟨_, e, h⟩ => by cases e; exact h, fun h => ⟨_, rfl, h⟩⟩
theorem r_spB {a : Addr} {f : Str} : spBytesOf [.ref a, .str f] H Q E = ∃ ns, H a = some (.lst (vn ns)) ∧ (∀ n ∈ ns, n < 256) ∧ ∀ p H', H p = none → Same H H' → H' p = some (.tup (vn ns)) → Q (.ref p) H' := propext ⟨fun ⟨_, _, ns, e, h⟩ => by cases e; exact ⟨ns, h⟩, fun ⟨ns, h⟩ => ⟨_, _, ns, rfl, h⟩⟩
theorem r_spSs {a : Addr} {f : Str} : spStringsOf [.ref a, .str f] H Q E = (H a = some (.lst []) ∧ ∀ p H', H p = none → Same H H' → H' p = some (.tup []) → Q (.ref p) H') := propext ⟨fun ⟨_, _, e, h⟩ => by cases e; exact h, fun h => ⟨_, _, rfl, h⟩⟩
theorem r_spD {a : Addr} : spDepthOf [.ref a] H Q E = (H a = some (.lst []) ∧ ∀ H', Same H H' → Q (.int 1) H') := propext ⟨fun ⟨_, e, h⟩ => by cases e; exact h, fun h => ⟨_, rfl, h⟩⟩
end
/-- a Code of which the law sees no more than this -/
def CodeAt (CC : Addr) (H : Hp) (c : Addr) (ds ls gs : List Nat) (first : Int) : Prop := ∃ (dx : Addr) (fs : List (Str × V)) (u v t : Addr), H c = some (.ins CC dx fs) ∧ fs.lookup ("code" : Str) = some (.ref u) ∧ H u = some (.tup (vn ds)) ∧
  fs.lookup ("line" : Str) = some (.int first) ∧ fs.lookup ("lines" : Str) = some (.ref v) ∧ H v = some (.tup (vn ls)) ∧ fs.lookup ("handlers" : Str) = some (.ref t) ∧ H t = some (.tup (vn gs))
def spCodeInit (CC : Addr) : Sp := fun vs H Q _ => ∃ (c dx d cs nm sl kd ln gd : Addr) (ds ls gs : List Nat) (first : Int),
  vs = [.ref c, .int 0, .int 0, .int 1, .int 0, .ref d, .ref cs, .ref nm, .ref sl, .ref kd, .str "f", .str "f", .int first, .ref ln, .ref gd] ∧ H c = some (.ins CC dx []) ∧
  H d = some (.lst (vn ds)) ∧ H cs = some (.lst []) ∧ H nm = some (.lst []) ∧ H sl = some (.lst []) ∧ H kd = some (.lst []) ∧ H ln = some (.lst (vn ls)) ∧ H gd = some (.lst (vn gs)) ∧
  (∀ n ∈ ds, n < 256) ∧ (∀ n ∈ ls, n < 256) ∧ (∀ n ∈ gs, n < 256) ∧ 0 ≤ first ∧ first ≤ 2147483647 ∧ ∀ H', Keep c H H' → CodeAt CC H' c ds ls gs first → Q .non H'
section
variable {P : Program} {w : World} {K : PySem.W.Frag} {mg : Str → Option Value} {base : Heap} {f : Addr} {fd : FuncData}
abbrev sCode_init : Stmt := inClass (top 12) 0
theorem scCode_init : FnScope ["self", "argcount", "onlycount", "stacksize", "flags", "code", "constants", "names", "slots", "kinds", "name", "path", "line", "lines", "handlers"] ["self", "argcount", "onlycount", "stacksize", "flags", "code", "constants", "names", "slots", "kinds", "name", "path", "line", "lines", "handlers"] (defScope sCode_init) := ⟨rfl, rfl, rfl, by decide +kernel, rfl, by decide +kernel, by decide +kernel⟩

theorem ok_Code_init {CC MM : Addr} (T : Txt mg) (I : CodeT K mg CC) (F : FnP K "__init__" "Code.__init__" sCode_init f fd) (C_number_of : Cal P w K mg base 1 "number_of" ["value", "field"] spNumberOf) (C_bytes_of : Cal P w K mg base 1 "bytes_of" ["row", "field"] spBytesOf)
    (C_string_of : Cal P w K mg base 2 "string_of" ["value", "field"] spStringOf) (C_strings_of : Cal P w K mg base 2 "strings_of" ["row", "field"] spStringsOf) (C_depth_of : Cal P w K mg base 1 "depth_of" ["constants"] spDepthOf) (PM : MkP K MM) (gM : mg "Mark" = some (.ref MM)) :
    FnOk P w K mg base CX0 3 f fd ["self", "argcount", "onlycount", "stacksize", "flags", "code", "constants", "names", "slots", "kinds", "name", "path", "line", "lines", "handlers"] (spCodeInit CC) := by
  refine F.ok scCode_init (fun vs H Q E h => ?_) (fun cdv A outer s H vs Q E hr h => ?_)
  · obtain ⟨c, dx, d, cs, nm, sl, kd, ln, gd, ds, ls, gs, first, rfl, _⟩ := h
    rfl
  · obtain ⟨c, dx, d, cs, nm, sl, kd, ln, gd, ds, ls, gs, first, rfl, hc, a0, a1, a2, a3, a4, a5, a6, bd, bl, bg, f0, f1, k⟩ := h
    refine ⟨_, PSs.nox (pss_cons (ps_fld (pv 0) (pe_cal C_number_of (hr.mono (by decide)) rfl (pa_cons (pv 1) (pa_cons pe_str pa_nil))) rfl)
  (pss_cons (ps_fld (pv 0) (pe_cal C_number_of (hr.mono (by decide)) rfl (pa_cons (pv 2) (pa_cons pe_str pa_nil))) rfl)
  (pss_cons (ps_fld (pv 0) (pe_cal C_number_of (hr.mono (by decide)) rfl (pa_cons (pv 3) (pa_cons pe_str pa_nil))) rfl)
  (pss_cons (ps_fld (pv 0) (pe_cal C_number_of (hr.mono (by decide)) rfl (pa_cons (pv 4) (pa_cons pe_str pa_nil))) rfl)
  (pss_cons (ps_fld (pv 0) (pe_cal C_bytes_of (hr.mono (by decide)) rfl (pa_cons (pv 5) (pa_cons pe_str pa_nil))) rfl)
  (pss_cons (ps_fld (pv 0) (pe_cal C_depth_of (hr.mono (by decide)) rfl (pa_cons (pv 6) pa_nil)) rfl)
  (pss_cons (ps_fld (pv 0) (pe_callTy call_tuple_d (by rfl) T.b_tuple (by decide +kernel) (pa_cons (pv 6) pa_nil)) rfl)
  (pss_cons (ps_fld (pv 0) (pe_cal C_strings_of (hr.mono (by decide)) rfl (pa_cons (pv 7) (pa_cons pe_str pa_nil))) rfl)
  (pss_cons (ps_fld (pv 0) (pe_cal C_strings_of (hr.mono (by decide)) rfl (pa_cons (pv 8) (pa_cons pe_str pa_nil))) rfl)
  (pss_cons (ps_fld (pv 0) (pe_cal C_bytes_of (hr.mono (by decide)) rfl (pa_cons (pv 9) (pa_cons pe_str pa_nil))) rfl)
  (pss_cons (ps_if (pt_cmpR op_ne (pe_callB call_len_d (by rfl) T.b_len (by decide +kernel) (pa_cons (pe_fld (pv 0) rfl) pa_nil)) (pe_callB call_len_d (by rfl) T.b_len (by decide +kernel) (pa_cons (pe_fld (pv 0) rfl) pa_nil)) (nomark _))
    (pss_one ps_never)
    pss_nil)
  (pss_cons (ps_fld (pv 0) (pe_cal C_string_of (hr.mono (by decide)) rfl (pa_cons (pv 10) (pa_cons pe_str pa_nil))) rfl)
  (pss_cons (ps_fld (pv 0) (pe_cal C_string_of (hr.mono (by decide)) rfl (pa_cons (pv 11) (pa_cons pe_str pa_nil))) rfl)
  (pss_cons (ps_fld (pv 0) (pe_cal C_number_of (hr.mono (by decide)) rfl (pa_cons (pv 12) (pa_cons pe_str pa_nil))) rfl)
  (pss_cons (ps_fld (pv 0) (pe_cal C_bytes_of (hr.mono (by decide)) rfl (pa_cons (pv 13) (pa_cons pe_str pa_nil))) rfl)
  (pss_cons (ps_fld (pv 0) (pe_cal C_bytes_of (hr.mono (by decide)) rfl (pa_cons (pv 14) (pa_cons pe_str pa_nil))) rfl)
  (pss_one (ps_fld (pv 0) (pe_plain PM rfl gM) rfl)))))))))))))))))), ?_⟩
    show (_ : TS) _ [some (.ref c), some (.int 0), some (.int 0), some (.int 1), some (.int 0), some (.ref d), some (.ref cs), some (.ref nm), some (.ref sl), some (.ref kd), some (.str "f"), some (.str "f"), some (.int first), some (.ref ln), some (.ref gd)] H
    have cl := I.cI.cl
    have n0 := eq_true (I.na "argcount" (by decide))
    have n1 := eq_true (I.na "onlycount" (by decide))
    have n2 := eq_true (I.na "stacksize" (by decide))
    have n3 := eq_true (I.na "flags" (by decide))
    have n4 := eq_true (I.na "code" (by decide))
    have n5 := eq_true (I.na "depth" (by decide))
    have n6 := eq_true (I.na "constants" (by decide))
    have n7 := eq_true (I.na "names" (by decide))
    have n8 := eq_true (I.na "slots" (by decide))
    have n9 := eq_true (I.na "kinds" (by decide))
    have n10 := eq_true (I.na "name" (by decide))
    have n11 := eq_true (I.na "path" (by decide))
    have n12 := eq_true (I.na "line" (by decide))
    have n13 := eq_true (I.na "lines" (by decide))
    have n14 := eq_true (I.na "handlers" (by decide))
    have n15 := eq_true (I.na "identity" (by decide))
    have z0 : d ≠ c := by rintro rfl; rw [a0] at hc; cases hc
    have z1 : cs ≠ c := by rintro rfl; rw [a1] at hc; cases hc
    have z2 : nm ≠ c := by rintro rfl; rw [a2] at hc; cases hc
    have z3 : sl ≠ c := by rintro rfl; rw [a3] at hc; cases hc
    have z4 : kd ≠ c := by rintro rfl; rw [a4] at hc; cases hc
    have z5 : ln ≠ c := by rintro rfl; rw [a5] at hc; cases hc
    have z6 : gd ≠ c := by rintro rfl; rw [a6] at hc; cases hc
    have i0 : Ini CC c dx H [] H := ⟨Keep.refl c H, [], hc, Nat.le_refl _, fun f v h => by cases h⟩
    -- argcount
    refine seq_intro fun N e => ?_
    obtain ⟨kk, fs, hc, hl, lk⟩ := i0
    have l0 : fs.length < 1000 := Nat.lt_of_le_of_lt hl (by simp only [List.length_cons, List.length_nil]; decide)
    simp only [r_seq, r_next, r_brk, r_cont, r_asg, r_name, r_ret, r_retN, r_drop, r_ifs, r_never, r_var, r_c, r_op, r_un, r_if, r_tst, r_b, r_not, r_and, r_or, r_andV, r_orV, r_notV, r_nil, r_cons, r_tup, r_lst, r_cb, r_call, r_bm, r_bm0, r_sl, r_nopart, r_part, r_rev, r_gnil, r_gcons, r_gsub, r_par, r_aug, r_chain, r_I0, r_I, r_U, r_ixd, r_lend, r_tupd, r_listd, r_sld, r_app, r_ext, r_reverse, r_setl, r_cat, r_int1, r_eqS, r_neS, scal_ii, scal_bb, scal_ss, at0, at1, at2, sq_lst, sq_tup, isLst_lst, List.getElem?_cons_zero, List.getElem?_cons_succ, List.set_cons_zero, List.set_cons_succ, V.int.injEq, V.bl.injEq, V.ref.injEq, V.str.injEq, HO.lst.injEq, HO.tup.injEq, Option.some.injEq, exists_eq_left', exists_eq_left, List.cons.injEq, and_true, true_and, decide_eq_true_eq, reduceCtorEq, false_and, exists_false, or_false, false_or, exists_const, and_assoc, exists_and_left, List.append_nil, ix0, ix1, ix2, cm_mod, cdw1009, cdw2003, cdw7, cdw64, cdw2, cm104729, cm2, cm3, upd_same, List.length_cons, List.length_nil, Int.reduceLT, Int.reduceLE, Nat.reduceAdd, Nat.reduceLeDiff, Nat.reduceLT, Int.reduceToNat, r_for1, r_forL, r_forT, r_lcL, r_lc1, r_yes, r_gtupD, wipe_0, wipe_1, List.cons_append, List.nil_append, r_forS, r_ipI, ite_false, ite_true, Bool.not_true, Bool.not_false, decide_true, decide_false, r_isd, r_islt, cD_ty, cD_ref, tD_non, tD_bl, tD_int, tD_str, tD_ref, tH_lst, tH_tup, tH_dK, tH_ins, ki_self, ki_int_bool, ki_non_int, ki_str_int, ki_lt_lst, ki_lt_tup, r_fld, r_sfld, HO.ins.injEq, cx_K, r_spN, r_spS, hc, n0, l0, cl, f0, f1, (une z0), (une z1), (une z2), (une z3), (une z4), (une z5), (une z6)]
    rw [e]
    have i1 := Ini.store (CC := CC) (dx := dx) (f := "argcount") (y := .int 0) kk hl lk
    clear hc e N l0
    generalize L2.upd H c (.ins CC dx (putF "argcount" (.int 0) fs)) = H1 at i1 ⊢
    clear kk hl lk fs
    -- onlycount
    refine seq_intro fun N e => ?_
    obtain ⟨kk, fs, hc, hl, lk⟩ := i1
    have l0 : fs.length < 1000 := Nat.lt_of_le_of_lt hl (by simp only [List.length_cons, List.length_nil]; decide)
    simp only [r_seq, r_next, r_brk, r_cont, r_asg, r_name, r_ret, r_retN, r_drop, r_ifs, r_never, r_var, r_c, r_op, r_un, r_if, r_tst, r_b, r_not, r_and, r_or, r_andV, r_orV, r_notV, r_nil, r_cons, r_tup, r_lst, r_cb, r_call, r_bm, r_bm0, r_sl, r_nopart, r_part, r_rev, r_gnil, r_gcons, r_gsub, r_par, r_aug, r_chain, r_I0, r_I, r_U, r_ixd, r_lend, r_tupd, r_listd, r_sld, r_app, r_ext, r_reverse, r_setl, r_cat, r_int1, r_eqS, r_neS, scal_ii, scal_bb, scal_ss, at0, at1, at2, sq_lst, sq_tup, isLst_lst, List.getElem?_cons_zero, List.getElem?_cons_succ, List.set_cons_zero, List.set_cons_succ, V.int.injEq, V.bl.injEq, V.ref.injEq, V.str.injEq, HO.lst.injEq, HO.tup.injEq, Option.some.injEq, exists_eq_left', exists_eq_left, List.cons.injEq, and_true, true_and, decide_eq_true_eq, reduceCtorEq, false_and, exists_false, or_false, false_or, exists_const, and_assoc, exists_and_left, List.append_nil, ix0, ix1, ix2, cm_mod, cdw1009, cdw2003, cdw7, cdw64, cdw2, cm104729, cm2, cm3, upd_same, List.length_cons, List.length_nil, Int.reduceLT, Int.reduceLE, Nat.reduceAdd, Nat.reduceLeDiff, Nat.reduceLT, Int.reduceToNat, r_for1, r_forL, r_forT, r_lcL, r_lc1, r_yes, r_gtupD, wipe_0, wipe_1, List.cons_append, List.nil_append, r_forS, r_ipI, ite_false, ite_true, Bool.not_true, Bool.not_false, decide_true, decide_false, r_isd, r_islt, cD_ty, cD_ref, tD_non, tD_bl, tD_int, tD_str, tD_ref, tH_lst, tH_tup, tH_dK, tH_ins, ki_self, ki_int_bool, ki_non_int, ki_str_int, ki_lt_lst, ki_lt_tup, r_fld, r_sfld, HO.ins.injEq, cx_K, r_spN, r_spS, hc, n1, l0, cl, f0, f1, (une z0), (une z1), (une z2), (une z3), (une z4), (une z5), (une z6)]
    rw [e]
    have i2 := Ini.store (CC := CC) (dx := dx) (f := "onlycount") (y := .int 0) kk hl lk
    clear hc e N l0
    generalize L2.upd H1 c (.ins CC dx (putF "onlycount" (.int 0) fs)) = H2 at i2 ⊢
    clear kk hl lk fs
    -- stacksize
    refine seq_intro fun N e => ?_
    obtain ⟨kk, fs, hc, hl, lk⟩ := i2
    have l0 : fs.length < 1000 := Nat.lt_of_le_of_lt hl (by simp only [List.length_cons, List.length_nil]; decide)
    simp only [r_seq, r_next, r_brk, r_cont, r_asg, r_name, r_ret, r_retN, r_drop, r_ifs, r_never, r_var, r_c, r_op, r_un, r_if, r_tst, r_b, r_not, r_and, r_or, r_andV, r_orV, r_notV, r_nil, r_cons, r_tup, r_lst, r_cb, r_call, r_bm, r_bm0, r_sl, r_nopart, r_part, r_rev, r_gnil, r_gcons, r_gsub, r_par, r_aug, r_chain, r_I0, r_I, r_U, r_ixd, r_lend, r_tupd, r_listd, r_sld, r_app, r_ext, r_reverse, r_setl, r_cat, r_int1, r_eqS, r_neS, scal_ii, scal_bb, scal_ss, at0, at1, at2, sq_lst, sq_tup, isLst_lst, List.getElem?_cons_zero, List.getElem?_cons_succ, List.set_cons_zero, List.set_cons_succ, V.int.injEq, V.bl.injEq, V.ref.injEq, V.str.injEq, HO.lst.injEq, HO.tup.injEq, Option.some.injEq, exists_eq_left', exists_eq_left, List.cons.injEq, and_true, true_and, decide_eq_true_eq, reduceCtorEq, false_and, exists_false, or_false, false_or, exists_const, and_assoc, exists_and_left, List.append_nil, ix0, ix1, ix2, cm_mod, cdw1009, cdw2003, cdw7, cdw64, cdw2, cm104729, cm2, cm3, upd_same, List.length_cons, List.length_nil, Int.reduceLT, Int.reduceLE, Nat.reduceAdd, Nat.reduceLeDiff, Nat.reduceLT, Int.reduceToNat, r_for1, r_forL, r_forT, r_lcL, r_lc1, r_yes, r_gtupD, wipe_0, wipe_1, List.cons_append, List.nil_append, r_forS, r_ipI, ite_false, ite_true, Bool.not_true, Bool.not_false, decide_true, decide_false, r_isd, r_islt, cD_ty, cD_ref, tD_non, tD_bl, tD_int, tD_str, tD_ref, tH_lst, tH_tup, tH_dK, tH_ins, ki_self, ki_int_bool, ki_non_int, ki_str_int, ki_lt_lst, ki_lt_tup, r_fld, r_sfld, HO.ins.injEq, cx_K, r_spN, r_spS, hc, n2, l0, cl, f0, f1, (une z0), (une z1), (une z2), (une z3), (une z4), (une z5), (une z6)]
    rw [e]
    have i3 := Ini.store (CC := CC) (dx := dx) (f := "stacksize") (y := .int 1) kk hl lk
    clear hc e N l0
    generalize L2.upd H2 c (.ins CC dx (putF "stacksize" (.int 1) fs)) = H3 at i3 ⊢
    clear kk hl lk fs
    -- flags
    refine seq_intro fun N e => ?_
    obtain ⟨kk, fs, hc, hl, lk⟩ := i3
    have l0 : fs.length < 1000 := Nat.lt_of_le_of_lt hl (by simp only [List.length_cons, List.length_nil]; decide)
    simp only [r_seq, r_next, r_brk, r_cont, r_asg, r_name, r_ret, r_retN, r_drop, r_ifs, r_never, r_var, r_c, r_op, r_un, r_if, r_tst, r_b, r_not, r_and, r_or, r_andV, r_orV, r_notV, r_nil, r_cons, r_tup, r_lst, r_cb, r_call, r_bm, r_bm0, r_sl, r_nopart, r_part, r_rev, r_gnil, r_gcons, r_gsub, r_par, r_aug, r_chain, r_I0, r_I, r_U, r_ixd, r_lend, r_tupd, r_listd, r_sld, r_app, r_ext, r_reverse, r_setl, r_cat, r_int1, r_eqS, r_neS, scal_ii, scal_bb, scal_ss, at0, at1, at2, sq_lst, sq_tup, isLst_lst, List.getElem?_cons_zero, List.getElem?_cons_succ, List.set_cons_zero, List.set_cons_succ, V.int.injEq, V.bl.injEq, V.ref.injEq, V.str.injEq, HO.lst.injEq, HO.tup.injEq, Option.some.injEq, exists_eq_left', exists_eq_left, List.cons.injEq, and_true, true_and, decide_eq_true_eq, reduceCtorEq, false_and, exists_false, or_false, false_or, exists_const, and_assoc, exists_and_left, List.append_nil, ix0, ix1, ix2, cm_mod, cdw1009, cdw2003, cdw7, cdw64, cdw2, cm104729, cm2, cm3, upd_same, List.length_cons, List.length_nil, Int.reduceLT, Int.reduceLE, Nat.reduceAdd, Nat.reduceLeDiff, Nat.reduceLT, Int.reduceToNat, r_for1, r_forL, r_forT, r_lcL, r_lc1, r_yes, r_gtupD, wipe_0, wipe_1, List.cons_append, List.nil_append, r_forS, r_ipI, ite_false, ite_true, Bool.not_true, Bool.not_false, decide_true, decide_false, r_isd, r_islt, cD_ty, cD_ref, tD_non, tD_bl, tD_int, tD_str, tD_ref, tH_lst, tH_tup, tH_dK, tH_ins, ki_self, ki_int_bool, ki_non_int, ki_str_int, ki_lt_lst, ki_lt_tup, r_fld, r_sfld, HO.ins.injEq, cx_K, r_spN, r_spS, hc, n3, l0, cl, f0, f1, (une z0), (une z1), (une z2), (une z3), (une z4), (une z5), (une z6)]
    rw [e]
    have i4 := Ini.store (CC := CC) (dx := dx) (f := "flags") (y := .int 0) kk hl lk
    clear hc e N l0
    generalize L2.upd H3 c (.ins CC dx (putF "flags" (.int 0) fs)) = H4 at i4 ⊢
    clear kk hl lk fs
    -- code
    refine seq_intro fun N e => ?_
    have i4' := i4
    obtain ⟨kk, fs, hc, hl, lk⟩ := i4
    have b0 := kk d _ z0 a0
    have l0 : fs.length < 1000 := Nat.lt_of_le_of_lt hl (by simp only [List.length_cons, List.length_nil]; decide)
    simp only [r_seq, r_next, r_brk, r_cont, r_asg, r_name, r_ret, r_retN, r_drop, r_ifs, r_never, r_var, r_c, r_op, r_un, r_if, r_tst, r_b, r_not, r_and, r_or, r_andV, r_orV, r_notV, r_nil, r_cons, r_tup, r_lst, r_cb, r_call, r_bm, r_bm0, r_sl, r_nopart, r_part, r_rev, r_gnil, r_gcons, r_gsub, r_par, r_aug, r_chain, r_I0, r_I, r_U, r_ixd, r_lend, r_tupd, r_listd, r_sld, r_app, r_ext, r_reverse, r_setl, r_cat, r_int1, r_eqS, r_neS, scal_ii, scal_bb, scal_ss, at0, at1, at2, sq_lst, sq_tup, isLst_lst, List.getElem?_cons_zero, List.getElem?_cons_succ, List.set_cons_zero, List.set_cons_succ, V.int.injEq, V.bl.injEq, V.ref.injEq, V.str.injEq, HO.lst.injEq, HO.tup.injEq, Option.some.injEq, exists_eq_left', exists_eq_left, List.cons.injEq, and_true, true_and, decide_eq_true_eq, reduceCtorEq, false_and, exists_false, or_false, false_or, exists_const, and_assoc, exists_and_left, List.append_nil, ix0, ix1, ix2, cm_mod, cdw1009, cdw2003, cdw7, cdw64, cdw2, cm104729, cm2, cm3, upd_same, List.length_cons, List.length_nil, Int.reduceLT, Int.reduceLE, Nat.reduceAdd, Nat.reduceLeDiff, Nat.reduceLT, Int.reduceToNat, r_for1, r_forL, r_forT, r_lcL, r_lc1, r_yes, r_gtupD, wipe_0, wipe_1, List.cons_append, List.nil_append, r_forS, r_ipI, ite_false, ite_true, Bool.not_true, Bool.not_false, decide_true, decide_false, r_isd, r_islt, cD_ty, cD_ref, tD_non, tD_bl, tD_int, tD_str, tD_ref, tH_lst, tH_tup, tH_dK, tH_ins, ki_self, ki_int_bool, ki_non_int, ki_str_int, ki_lt_lst, ki_lt_tup, r_fld, r_sfld, HO.ins.injEq, cx_K, r_spB, r_spSs, b0]
    refine ⟨_, rfl, bd, fun p5 G hp sG hG => ?_⟩
    have hc1 := sG c _ hc
    simp only [r_seq, r_next, r_brk, r_cont, r_asg, r_name, r_ret, r_retN, r_drop, r_ifs, r_never, r_var, r_c, r_op, r_un, r_if, r_tst, r_b, r_not, r_and, r_or, r_andV, r_orV, r_notV, r_nil, r_cons, r_tup, r_lst, r_cb, r_call, r_bm, r_bm0, r_sl, r_nopart, r_part, r_rev, r_gnil, r_gcons, r_gsub, r_par, r_aug, r_chain, r_I0, r_I, r_U, r_ixd, r_lend, r_tupd, r_listd, r_sld, r_app, r_ext, r_reverse, r_setl, r_cat, r_int1, r_eqS, r_neS, scal_ii, scal_bb, scal_ss, at0, at1, at2, sq_lst, sq_tup, isLst_lst, List.getElem?_cons_zero, List.getElem?_cons_succ, List.set_cons_zero, List.set_cons_succ, V.int.injEq, V.bl.injEq, V.ref.injEq, V.str.injEq, HO.lst.injEq, HO.tup.injEq, Option.some.injEq, exists_eq_left', exists_eq_left, List.cons.injEq, and_true, true_and, decide_eq_true_eq, reduceCtorEq, false_and, exists_false, or_false, false_or, exists_const, and_assoc, exists_and_left, List.append_nil, ix0, ix1, ix2, cm_mod, cdw1009, cdw2003, cdw7, cdw64, cdw2, cm104729, cm2, cm3, upd_same, List.length_cons, List.length_nil, Int.reduceLT, Int.reduceLE, Nat.reduceAdd, Nat.reduceLeDiff, Nat.reduceLT, Int.reduceToNat, r_for1, r_forL, r_forT, r_lcL, r_lc1, r_yes, r_gtupD, wipe_0, wipe_1, List.cons_append, List.nil_append, r_forS, r_ipI, ite_false, ite_true, Bool.not_true, Bool.not_false, decide_true, decide_false, r_isd, r_islt, cD_ty, cD_ref, tD_non, tD_bl, tD_int, tD_str, tD_ref, tH_lst, tH_tup, tH_dK, tH_ins, ki_self, ki_int_bool, ki_non_int, ki_str_int, ki_lt_lst, ki_lt_tup, r_fld, r_sfld, HO.ins.injEq, cx_K, hc1, n4, l0, cl]
    rw [e]
    have iG := Ini.same i4' sG
    have x5 : p5 ≠ c := new_ne hc hp
    have q := Ini.store (CC := CC) (dx := dx) (f := "code") (y := .ref p5) (kk.trans (Keep.same sG)) hl lk
    have kp5 : Keep c G (L2.upd G c (.ins CC dx (putF "code" (.ref p5) fs))) := Keep.upd (Keep.refl c G)
    have t5 := kp5 p5 _ x5 hG
    have i5 := q
    clear hc e N l0 q kp5 iG hc1 i4' b0
    generalize L2.upd G c (.ins CC dx (putF "code" (.ref p5) fs)) = H5 at i5 t5 ⊢
    clear kk hl lk sG hG hp
    -- depth
    refine seq_intro fun N e => ?_
    have i5' := i5
    obtain ⟨kk, fs, hc, hl, lk⟩ := i5
    have b1 := kk cs _ z1 a1
    have l0 : fs.length < 1000 := Nat.lt_of_le_of_lt hl (by simp only [List.length_cons, List.length_nil]; decide)
    simp only [r_seq, r_next, r_brk, r_cont, r_asg, r_name, r_ret, r_retN, r_drop, r_ifs, r_never, r_var, r_c, r_op, r_un, r_if, r_tst, r_b, r_not, r_and, r_or, r_andV, r_orV, r_notV, r_nil, r_cons, r_tup, r_lst, r_cb, r_call, r_bm, r_bm0, r_sl, r_nopart, r_part, r_rev, r_gnil, r_gcons, r_gsub, r_par, r_aug, r_chain, r_I0, r_I, r_U, r_ixd, r_lend, r_tupd, r_listd, r_sld, r_app, r_ext, r_reverse, r_setl, r_cat, r_int1, r_eqS, r_neS, scal_ii, scal_bb, scal_ss, at0, at1, at2, sq_lst, sq_tup, isLst_lst, List.getElem?_cons_zero, List.getElem?_cons_succ, List.set_cons_zero, List.set_cons_succ, V.int.injEq, V.bl.injEq, V.ref.injEq, V.str.injEq, HO.lst.injEq, HO.tup.injEq, Option.some.injEq, exists_eq_left', exists_eq_left, List.cons.injEq, and_true, true_and, decide_eq_true_eq, reduceCtorEq, false_and, exists_false, or_false, false_or, exists_const, and_assoc, exists_and_left, List.append_nil, ix0, ix1, ix2, cm_mod, cdw1009, cdw2003, cdw7, cdw64, cdw2, cm104729, cm2, cm3, upd_same, List.length_cons, List.length_nil, Int.reduceLT, Int.reduceLE, Nat.reduceAdd, Nat.reduceLeDiff, Nat.reduceLT, Int.reduceToNat, r_for1, r_forL, r_forT, r_lcL, r_lc1, r_yes, r_gtupD, wipe_0, wipe_1, List.cons_append, List.nil_append, r_forS, r_ipI, ite_false, ite_true, Bool.not_true, Bool.not_false, decide_true, decide_false, r_isd, r_islt, cD_ty, cD_ref, tD_non, tD_bl, tD_int, tD_str, tD_ref, tH_lst, tH_tup, tH_dK, tH_ins, ki_self, ki_int_bool, ki_non_int, ki_str_int, ki_lt_lst, ki_lt_tup, r_fld, r_sfld, HO.ins.injEq, cx_K, r_spD, b1]
    refine fun G sG => ?_
    have hc1 := sG c _ hc
    simp only [r_seq, r_next, r_brk, r_cont, r_asg, r_name, r_ret, r_retN, r_drop, r_ifs, r_never, r_var, r_c, r_op, r_un, r_if, r_tst, r_b, r_not, r_and, r_or, r_andV, r_orV, r_notV, r_nil, r_cons, r_tup, r_lst, r_cb, r_call, r_bm, r_bm0, r_sl, r_nopart, r_part, r_rev, r_gnil, r_gcons, r_gsub, r_par, r_aug, r_chain, r_I0, r_I, r_U, r_ixd, r_lend, r_tupd, r_listd, r_sld, r_app, r_ext, r_reverse, r_setl, r_cat, r_int1, r_eqS, r_neS, scal_ii, scal_bb, scal_ss, at0, at1, at2, sq_lst, sq_tup, isLst_lst, List.getElem?_cons_zero, List.getElem?_cons_succ, List.set_cons_zero, List.set_cons_succ, V.int.injEq, V.bl.injEq, V.ref.injEq, V.str.injEq, HO.lst.injEq, HO.tup.injEq, Option.some.injEq, exists_eq_left', exists_eq_left, List.cons.injEq, and_true, true_and, decide_eq_true_eq, reduceCtorEq, false_and, exists_false, or_false, false_or, exists_const, and_assoc, exists_and_left, List.append_nil, ix0, ix1, ix2, cm_mod, cdw1009, cdw2003, cdw7, cdw64, cdw2, cm104729, cm2, cm3, upd_same, List.length_cons, List.length_nil, Int.reduceLT, Int.reduceLE, Nat.reduceAdd, Nat.reduceLeDiff, Nat.reduceLT, Int.reduceToNat, r_for1, r_forL, r_forT, r_lcL, r_lc1, r_yes, r_gtupD, wipe_0, wipe_1, List.cons_append, List.nil_append, r_forS, r_ipI, ite_false, ite_true, Bool.not_true, Bool.not_false, decide_true, decide_false, r_isd, r_islt, cD_ty, cD_ref, tD_non, tD_bl, tD_int, tD_str, tD_ref, tH_lst, tH_tup, tH_dK, tH_ins, ki_self, ki_int_bool, ki_non_int, ki_str_int, ki_lt_lst, ki_lt_tup, r_fld, r_sfld, HO.ins.injEq, cx_K, hc1, n5, l0, cl]
    rw [e]
    have i6 := Ini.store (CC := CC) (dx := dx) (f := "depth") (y := .int 1) (kk.trans (Keep.same sG)) hl lk
    have kp : Keep c G (L2.upd G c (.ins CC dx (putF "depth" (.int 1) fs))) := Keep.upd (Keep.refl c G)
    have t5 := kp p5 _ x5 (sG _ _ t5)
    clear hc e N l0 kp hc1 i5' b1
    generalize L2.upd G c (.ins CC dx (putF "depth" (.int 1) fs)) = H6 at i6 t5 ⊢
    clear kk hl lk sG
    -- constants
    refine seq_intro fun N e => ?_
    have i6' := i6
    obtain ⟨kk, fs, hc, hl, lk⟩ := i6
    have b1 := kk cs _ z1 a1
    have l0 : fs.length < 1000 := Nat.lt_of_le_of_lt hl (by simp only [List.length_cons, List.length_nil]; decide)
    simp only [r_seq, r_next, r_brk, r_cont, r_asg, r_name, r_ret, r_retN, r_drop, r_ifs, r_never, r_var, r_c, r_op, r_un, r_if, r_tst, r_b, r_not, r_and, r_or, r_andV, r_orV, r_notV, r_nil, r_cons, r_tup, r_lst, r_cb, r_call, r_bm, r_bm0, r_sl, r_nopart, r_part, r_rev, r_gnil, r_gcons, r_gsub, r_par, r_aug, r_chain, r_I0, r_I, r_U, r_ixd, r_lend, r_tupd, r_listd, r_sld, r_app, r_ext, r_reverse, r_setl, r_cat, r_int1, r_eqS, r_neS, scal_ii, scal_bb, scal_ss, at0, at1, at2, sq_lst, sq_tup, isLst_lst, List.getElem?_cons_zero, List.getElem?_cons_succ, List.set_cons_zero, List.set_cons_succ, V.int.injEq, V.bl.injEq, V.ref.injEq, V.str.injEq, HO.lst.injEq, HO.tup.injEq, Option.some.injEq, exists_eq_left', exists_eq_left, List.cons.injEq, and_true, true_and, decide_eq_true_eq, reduceCtorEq, false_and, exists_false, or_false, false_or, exists_const, and_assoc, exists_and_left, List.append_nil, ix0, ix1, ix2, cm_mod, cdw1009, cdw2003, cdw7, cdw64, cdw2, cm104729, cm2, cm3, upd_same, List.length_cons, List.length_nil, Int.reduceLT, Int.reduceLE, Nat.reduceAdd, Nat.reduceLeDiff, Nat.reduceLT, Int.reduceToNat, r_for1, r_forL, r_forT, r_lcL, r_lc1, r_yes, r_gtupD, wipe_0, wipe_1, List.cons_append, List.nil_append, r_forS, r_ipI, ite_false, ite_true, Bool.not_true, Bool.not_false, decide_true, decide_false, r_isd, r_islt, cD_ty, cD_ref, tD_non, tD_bl, tD_int, tD_str, tD_ref, tH_lst, tH_tup, tH_dK, tH_ins, ki_self, ki_int_bool, ki_non_int, ki_str_int, ki_lt_lst, ki_lt_tup, r_fld, r_sfld, HO.ins.injEq, cx_K, r_spB, r_spSs, b1]
    refine fun p7 hp => ?_
    have sG := Same.new' (Same.refl H6) (o := .tup []) hp
    have hG : L2.upd H6 p7 (.tup []) p7 = some (.tup []) := upd_same
    generalize L2.upd H6 p7 (.tup []) = G at sG hG ⊢
    have hc1 := sG c _ hc
    simp only [r_seq, r_next, r_brk, r_cont, r_asg, r_name, r_ret, r_retN, r_drop, r_ifs, r_never, r_var, r_c, r_op, r_un, r_if, r_tst, r_b, r_not, r_and, r_or, r_andV, r_orV, r_notV, r_nil, r_cons, r_tup, r_lst, r_cb, r_call, r_bm, r_bm0, r_sl, r_nopart, r_part, r_rev, r_gnil, r_gcons, r_gsub, r_par, r_aug, r_chain, r_I0, r_I, r_U, r_ixd, r_lend, r_tupd, r_listd, r_sld, r_app, r_ext, r_reverse, r_setl, r_cat, r_int1, r_eqS, r_neS, scal_ii, scal_bb, scal_ss, at0, at1, at2, sq_lst, sq_tup, isLst_lst, List.getElem?_cons_zero, List.getElem?_cons_succ, List.set_cons_zero, List.set_cons_succ, V.int.injEq, V.bl.injEq, V.ref.injEq, V.str.injEq, HO.lst.injEq, HO.tup.injEq, Option.some.injEq, exists_eq_left', exists_eq_left, List.cons.injEq, and_true, true_and, decide_eq_true_eq, reduceCtorEq, false_and, exists_false, or_false, false_or, exists_const, and_assoc, exists_and_left, List.append_nil, ix0, ix1, ix2, cm_mod, cdw1009, cdw2003, cdw7, cdw64, cdw2, cm104729, cm2, cm3, upd_same, List.length_cons, List.length_nil, Int.reduceLT, Int.reduceLE, Nat.reduceAdd, Nat.reduceLeDiff, Nat.reduceLT, Int.reduceToNat, r_for1, r_forL, r_forT, r_lcL, r_lc1, r_yes, r_gtupD, wipe_0, wipe_1, List.cons_append, List.nil_append, r_forS, r_ipI, ite_false, ite_true, Bool.not_true, Bool.not_false, decide_true, decide_false, r_isd, r_islt, cD_ty, cD_ref, tD_non, tD_bl, tD_int, tD_str, tD_ref, tH_lst, tH_tup, tH_dK, tH_ins, ki_self, ki_int_bool, ki_non_int, ki_str_int, ki_lt_lst, ki_lt_tup, r_fld, r_sfld, HO.ins.injEq, cx_K, hc1, n6, l0, cl]
    rw [e]
    have iG := Ini.same i6' sG
    have x7 : p7 ≠ c := new_ne hc hp
    have q := Ini.store (CC := CC) (dx := dx) (f := "constants") (y := .ref p7) (kk.trans (Keep.same sG)) hl lk
    have kp7 : Keep c G (L2.upd G c (.ins CC dx (putF "constants" (.ref p7) fs))) := Keep.upd (Keep.refl c G)
    have t5 := kp7 p5 _ x5 (sG _ _ t5)
    have t7 := kp7 p7 _ x7 hG
    have i7 := q
    clear hc e N l0 q kp7 iG hc1 i6' b1
    generalize L2.upd G c (.ins CC dx (putF "constants" (.ref p7) fs)) = H7 at i7 t5 t7 ⊢
    clear kk hl lk sG hG hp
    -- names
    refine seq_intro fun N e => ?_
    have i7' := i7
    obtain ⟨kk, fs, hc, hl, lk⟩ := i7
    have b2 := kk nm _ z2 a2
    have l0 : fs.length < 1000 := Nat.lt_of_le_of_lt hl (by simp only [List.length_cons, List.length_nil]; decide)
    simp only [r_seq, r_next, r_brk, r_cont, r_asg, r_name, r_ret, r_retN, r_drop, r_ifs, r_never, r_var, r_c, r_op, r_un, r_if, r_tst, r_b, r_not, r_and, r_or, r_andV, r_orV, r_notV, r_nil, r_cons, r_tup, r_lst, r_cb, r_call, r_bm, r_bm0, r_sl, r_nopart, r_part, r_rev, r_gnil, r_gcons, r_gsub, r_par, r_aug, r_chain, r_I0, r_I, r_U, r_ixd, r_lend, r_tupd, r_listd, r_sld, r_app, r_ext, r_reverse, r_setl, r_cat, r_int1, r_eqS, r_neS, scal_ii, scal_bb, scal_ss, at0, at1, at2, sq_lst, sq_tup, isLst_lst, List.getElem?_cons_zero, List.getElem?_cons_succ, List.set_cons_zero, List.set_cons_succ, V.int.injEq, V.bl.injEq, V.ref.injEq, V.str.injEq, HO.lst.injEq, HO.tup.injEq, Option.some.injEq, exists_eq_left', exists_eq_left, List.cons.injEq, and_true, true_and, decide_eq_true_eq, reduceCtorEq, false_and, exists_false, or_false, false_or, exists_const, and_assoc, exists_and_left, List.append_nil, ix0, ix1, ix2, cm_mod, cdw1009, cdw2003, cdw7, cdw64, cdw2, cm104729, cm2, cm3, upd_same, List.length_cons, List.length_nil, Int.reduceLT, Int.reduceLE, Nat.reduceAdd, Nat.reduceLeDiff, Nat.reduceLT, Int.reduceToNat, r_for1, r_forL, r_forT, r_lcL, r_lc1, r_yes, r_gtupD, wipe_0, wipe_1, List.cons_append, List.nil_append, r_forS, r_ipI, ite_false, ite_true, Bool.not_true, Bool.not_false, decide_true, decide_false, r_isd, r_islt, cD_ty, cD_ref, tD_non, tD_bl, tD_int, tD_str, tD_ref, tH_lst, tH_tup, tH_dK, tH_ins, ki_self, ki_int_bool, ki_non_int, ki_str_int, ki_lt_lst, ki_lt_tup, r_fld, r_sfld, HO.ins.injEq, cx_K, r_spB, r_spSs, b2]
    refine fun p8 G hp sG hG => ?_
    have hc1 := sG c _ hc
    simp only [r_seq, r_next, r_brk, r_cont, r_asg, r_name, r_ret, r_retN, r_drop, r_ifs, r_never, r_var, r_c, r_op, r_un, r_if, r_tst, r_b, r_not, r_and, r_or, r_andV, r_orV, r_notV, r_nil, r_cons, r_tup, r_lst, r_cb, r_call, r_bm, r_bm0, r_sl, r_nopart, r_part, r_rev, r_gnil, r_gcons, r_gsub, r_par, r_aug, r_chain, r_I0, r_I, r_U, r_ixd, r_lend, r_tupd, r_listd, r_sld, r_app, r_ext, r_reverse, r_setl, r_cat, r_int1, r_eqS, r_neS, scal_ii, scal_bb, scal_ss, at0, at1, at2, sq_lst, sq_tup, isLst_lst, List.getElem?_cons_zero, List.getElem?_cons_succ, List.set_cons_zero, List.set_cons_succ, V.int.injEq, V.bl.injEq, V.ref.injEq, V.str.injEq, HO.lst.injEq, HO.tup.injEq, Option.some.injEq, exists_eq_left', exists_eq_left, List.cons.injEq, and_true, true_and, decide_eq_true_eq, reduceCtorEq, false_and, exists_false, or_false, false_or, exists_const, and_assoc, exists_and_left, List.append_nil, ix0, ix1, ix2, cm_mod, cdw1009, cdw2003, cdw7, cdw64, cdw2, cm104729, cm2, cm3, upd_same, List.length_cons, List.length_nil, Int.reduceLT, Int.reduceLE, Nat.reduceAdd, Nat.reduceLeDiff, Nat.reduceLT, Int.reduceToNat, r_for1, r_forL, r_forT, r_lcL, r_lc1, r_yes, r_gtupD, wipe_0, wipe_1, List.cons_append, List.nil_append, r_forS, r_ipI, ite_false, ite_true, Bool.not_true, Bool.not_false, decide_true, decide_false, r_isd, r_islt, cD_ty, cD_ref, tD_non, tD_bl, tD_int, tD_str, tD_ref, tH_lst, tH_tup, tH_dK, tH_ins, ki_self, ki_int_bool, ki_non_int, ki_str_int, ki_lt_lst, ki_lt_tup, r_fld, r_sfld, HO.ins.injEq, cx_K, hc1, n7, l0, cl]
    rw [e]
    have iG := Ini.same i7' sG
    have x8 : p8 ≠ c := new_ne hc hp
    have q := Ini.store (CC := CC) (dx := dx) (f := "names") (y := .ref p8) (kk.trans (Keep.same sG)) hl lk
    have kp8 : Keep c G (L2.upd G c (.ins CC dx (putF "names" (.ref p8) fs))) := Keep.upd (Keep.refl c G)
    have t5 := kp8 p5 _ x5 (sG _ _ t5)
    have t7 := kp8 p7 _ x7 (sG _ _ t7)
    have t8 := kp8 p8 _ x8 hG
    have i8 := q
    clear hc e N l0 q kp8 iG hc1 i7' b2
    generalize L2.upd G c (.ins CC dx (putF "names" (.ref p8) fs)) = H8 at i8 t5 t7 t8 ⊢
    clear kk hl lk sG hG hp
    -- slots
    refine seq_intro fun N e => ?_
    have i8' := i8
    obtain ⟨kk, fs, hc, hl, lk⟩ := i8
    have b3 := kk sl _ z3 a3
    have l0 : fs.length < 1000 := Nat.lt_of_le_of_lt hl (by simp only [List.length_cons, List.length_nil]; decide)
    simp only [r_seq, r_next, r_brk, r_cont, r_asg, r_name, r_ret, r_retN, r_drop, r_ifs, r_never, r_var, r_c, r_op, r_un, r_if, r_tst, r_b, r_not, r_and, r_or, r_andV, r_orV, r_notV, r_nil, r_cons, r_tup, r_lst, r_cb, r_call, r_bm, r_bm0, r_sl, r_nopart, r_part, r_rev, r_gnil, r_gcons, r_gsub, r_par, r_aug, r_chain, r_I0, r_I, r_U, r_ixd, r_lend, r_tupd, r_listd, r_sld, r_app, r_ext, r_reverse, r_setl, r_cat, r_int1, r_eqS, r_neS, scal_ii, scal_bb, scal_ss, at0, at1, at2, sq_lst, sq_tup, isLst_lst, List.getElem?_cons_zero, List.getElem?_cons_succ, List.set_cons_zero, List.set_cons_succ, V.int.injEq, V.bl.injEq, V.ref.injEq, V.str.injEq, HO.lst.injEq, HO.tup.injEq, Option.some.injEq, exists_eq_left', exists_eq_left, List.cons.injEq, and_true, true_and, decide_eq_true_eq, reduceCtorEq, false_and, exists_false, or_false, false_or, exists_const, and_assoc, exists_and_left, List.append_nil, ix0, ix1, ix2, cm_mod, cdw1009, cdw2003, cdw7, cdw64, cdw2, cm104729, cm2, cm3, upd_same, List.length_cons, List.length_nil, Int.reduceLT, Int.reduceLE, Nat.reduceAdd, Nat.reduceLeDiff, Nat.reduceLT, Int.reduceToNat, r_for1, r_forL, r_forT, r_lcL, r_lc1, r_yes, r_gtupD, wipe_0, wipe_1, List.cons_append, List.nil_append, r_forS, r_ipI, ite_false, ite_true, Bool.not_true, Bool.not_false, decide_true, decide_false, r_isd, r_islt, cD_ty, cD_ref, tD_non, tD_bl, tD_int, tD_str, tD_ref, tH_lst, tH_tup, tH_dK, tH_ins, ki_self, ki_int_bool, ki_non_int, ki_str_int, ki_lt_lst, ki_lt_tup, r_fld, r_sfld, HO.ins.injEq, cx_K, r_spB, r_spSs, b3]
    refine fun p9 G hp sG hG => ?_
    have hc1 := sG c _ hc
    simp only [r_seq, r_next, r_brk, r_cont, r_asg, r_name, r_ret, r_retN, r_drop, r_ifs, r_never, r_var, r_c, r_op, r_un, r_if, r_tst, r_b, r_not, r_and, r_or, r_andV, r_orV, r_notV, r_nil, r_cons, r_tup, r_lst, r_cb, r_call, r_bm, r_bm0, r_sl, r_nopart, r_part, r_rev, r_gnil, r_gcons, r_gsub, r_par, r_aug, r_chain, r_I0, r_I, r_U, r_ixd, r_lend, r_tupd, r_listd, r_sld, r_app, r_ext, r_reverse, r_setl, r_cat, r_int1, r_eqS, r_neS, scal_ii, scal_bb, scal_ss, at0, at1, at2, sq_lst, sq_tup, isLst_lst, List.getElem?_cons_zero, List.getElem?_cons_succ, List.set_cons_zero, List.set_cons_succ, V.int.injEq, V.bl.injEq, V.ref.injEq, V.str.injEq, HO.lst.injEq, HO.tup.injEq, Option.some.injEq, exists_eq_left', exists_eq_left, List.cons.injEq, and_true, true_and, decide_eq_true_eq, reduceCtorEq, false_and, exists_false, or_false, false_or, exists_const, and_assoc, exists_and_left, List.append_nil, ix0, ix1, ix2, cm_mod, cdw1009, cdw2003, cdw7, cdw64, cdw2, cm104729, cm2, cm3, upd_same, List.length_cons, List.length_nil, Int.reduceLT, Int.reduceLE, Nat.reduceAdd, Nat.reduceLeDiff, Nat.reduceLT, Int.reduceToNat, r_for1, r_forL, r_forT, r_lcL, r_lc1, r_yes, r_gtupD, wipe_0, wipe_1, List.cons_append, List.nil_append, r_forS, r_ipI, ite_false, ite_true, Bool.not_true, Bool.not_false, decide_true, decide_false, r_isd, r_islt, cD_ty, cD_ref, tD_non, tD_bl, tD_int, tD_str, tD_ref, tH_lst, tH_tup, tH_dK, tH_ins, ki_self, ki_int_bool, ki_non_int, ki_str_int, ki_lt_lst, ki_lt_tup, r_fld, r_sfld, HO.ins.injEq, cx_K, hc1, n8, l0, cl]
    rw [e]
    have iG := Ini.same i8' sG
    have x9 : p9 ≠ c := new_ne hc hp
    have q := Ini.store (CC := CC) (dx := dx) (f := "slots") (y := .ref p9) (kk.trans (Keep.same sG)) hl lk
    have kp9 : Keep c G (L2.upd G c (.ins CC dx (putF "slots" (.ref p9) fs))) := Keep.upd (Keep.refl c G)
    have t5 := kp9 p5 _ x5 (sG _ _ t5)
    have t7 := kp9 p7 _ x7 (sG _ _ t7)
    have t8 := kp9 p8 _ x8 (sG _ _ t8)
    have t9 := kp9 p9 _ x9 hG
    have i9 := q
    clear hc e N l0 q kp9 iG hc1 i8' b3
    generalize L2.upd G c (.ins CC dx (putF "slots" (.ref p9) fs)) = H9 at i9 t5 t7 t8 t9 ⊢
    clear kk hl lk sG hG hp
    -- kinds
    refine seq_intro fun N e => ?_
    have i9' := i9
    obtain ⟨kk, fs, hc, hl, lk⟩ := i9
    have b4 := kk kd _ z4 a4
    have l0 : fs.length < 1000 := Nat.lt_of_le_of_lt hl (by simp only [List.length_cons, List.length_nil]; decide)
    simp only [r_seq, r_next, r_brk, r_cont, r_asg, r_name, r_ret, r_retN, r_drop, r_ifs, r_never, r_var, r_c, r_op, r_un, r_if, r_tst, r_b, r_not, r_and, r_or, r_andV, r_orV, r_notV, r_nil, r_cons, r_tup, r_lst, r_cb, r_call, r_bm, r_bm0, r_sl, r_nopart, r_part, r_rev, r_gnil, r_gcons, r_gsub, r_par, r_aug, r_chain, r_I0, r_I, r_U, r_ixd, r_lend, r_tupd, r_listd, r_sld, r_app, r_ext, r_reverse, r_setl, r_cat, r_int1, r_eqS, r_neS, scal_ii, scal_bb, scal_ss, at0, at1, at2, sq_lst, sq_tup, isLst_lst, List.getElem?_cons_zero, List.getElem?_cons_succ, List.set_cons_zero, List.set_cons_succ, V.int.injEq, V.bl.injEq, V.ref.injEq, V.str.injEq, HO.lst.injEq, HO.tup.injEq, Option.some.injEq, exists_eq_left', exists_eq_left, List.cons.injEq, and_true, true_and, decide_eq_true_eq, reduceCtorEq, false_and, exists_false, or_false, false_or, exists_const, and_assoc, exists_and_left, List.append_nil, ix0, ix1, ix2, cm_mod, cdw1009, cdw2003, cdw7, cdw64, cdw2, cm104729, cm2, cm3, upd_same, List.length_cons, List.length_nil, Int.reduceLT, Int.reduceLE, Nat.reduceAdd, Nat.reduceLeDiff, Nat.reduceLT, Int.reduceToNat, r_for1, r_forL, r_forT, r_lcL, r_lc1, r_yes, r_gtupD, wipe_0, wipe_1, List.cons_append, List.nil_append, r_forS, r_ipI, ite_false, ite_true, Bool.not_true, Bool.not_false, decide_true, decide_false, r_isd, r_islt, cD_ty, cD_ref, tD_non, tD_bl, tD_int, tD_str, tD_ref, tH_lst, tH_tup, tH_dK, tH_ins, ki_self, ki_int_bool, ki_non_int, ki_str_int, ki_lt_lst, ki_lt_tup, r_fld, r_sfld, HO.ins.injEq, cx_K, r_spB, r_spSs, b4]
    refine ⟨[], rfl, (fun n h => by cases h), fun p10 G hp sG hG => ?_⟩
    have hc1 := sG c _ hc
    simp only [r_seq, r_next, r_brk, r_cont, r_asg, r_name, r_ret, r_retN, r_drop, r_ifs, r_never, r_var, r_c, r_op, r_un, r_if, r_tst, r_b, r_not, r_and, r_or, r_andV, r_orV, r_notV, r_nil, r_cons, r_tup, r_lst, r_cb, r_call, r_bm, r_bm0, r_sl, r_nopart, r_part, r_rev, r_gnil, r_gcons, r_gsub, r_par, r_aug, r_chain, r_I0, r_I, r_U, r_ixd, r_lend, r_tupd, r_listd, r_sld, r_app, r_ext, r_reverse, r_setl, r_cat, r_int1, r_eqS, r_neS, scal_ii, scal_bb, scal_ss, at0, at1, at2, sq_lst, sq_tup, isLst_lst, List.getElem?_cons_zero, List.getElem?_cons_succ, List.set_cons_zero, List.set_cons_succ, V.int.injEq, V.bl.injEq, V.ref.injEq, V.str.injEq, HO.lst.injEq, HO.tup.injEq, Option.some.injEq, exists_eq_left', exists_eq_left, List.cons.injEq, and_true, true_and, decide_eq_true_eq, reduceCtorEq, false_and, exists_false, or_false, false_or, exists_const, and_assoc, exists_and_left, List.append_nil, ix0, ix1, ix2, cm_mod, cdw1009, cdw2003, cdw7, cdw64, cdw2, cm104729, cm2, cm3, upd_same, List.length_cons, List.length_nil, Int.reduceLT, Int.reduceLE, Nat.reduceAdd, Nat.reduceLeDiff, Nat.reduceLT, Int.reduceToNat, r_for1, r_forL, r_forT, r_lcL, r_lc1, r_yes, r_gtupD, wipe_0, wipe_1, List.cons_append, List.nil_append, r_forS, r_ipI, ite_false, ite_true, Bool.not_true, Bool.not_false, decide_true, decide_false, r_isd, r_islt, cD_ty, cD_ref, tD_non, tD_bl, tD_int, tD_str, tD_ref, tH_lst, tH_tup, tH_dK, tH_ins, ki_self, ki_int_bool, ki_non_int, ki_str_int, ki_lt_lst, ki_lt_tup, r_fld, r_sfld, HO.ins.injEq, cx_K, hc1, n9, l0, cl]
    rw [e]
    have iG := Ini.same i9' sG
    have x10 : p10 ≠ c := new_ne hc hp
    have q := Ini.store (CC := CC) (dx := dx) (f := "kinds") (y := .ref p10) (kk.trans (Keep.same sG)) hl lk
    have kp10 : Keep c G (L2.upd G c (.ins CC dx (putF "kinds" (.ref p10) fs))) := Keep.upd (Keep.refl c G)
    have t5 := kp10 p5 _ x5 (sG _ _ t5)
    have t7 := kp10 p7 _ x7 (sG _ _ t7)
    have t8 := kp10 p8 _ x8 (sG _ _ t8)
    have t9 := kp10 p9 _ x9 (sG _ _ t9)
    have t10 := kp10 p10 _ x10 hG
    have i10 := q
    clear hc e N l0 q kp10 iG hc1 i9' b4
    generalize L2.upd G c (.ins CC dx (putF "kinds" (.ref p10) fs)) = H10 at i10 t5 t7 t8 t9 t10 ⊢
    clear kk hl lk sG hG hp
    -- the test
    refine seq_intro fun N e => ?_
    have i10' := i10
    obtain ⟨kk, fs, hc, hl, lk⟩ := i10'
    have y9 := lk "slots" _ rfl
    have y10 := lk "kinds" _ rfl
    simp only [r_seq, r_next, r_brk, r_cont, r_asg, r_name, r_ret, r_retN, r_drop, r_ifs, r_never, r_var, r_c, r_op, r_un, r_if, r_tst, r_b, r_not, r_and, r_or, r_andV, r_orV, r_notV, r_nil, r_cons, r_tup, r_lst, r_cb, r_call, r_bm, r_bm0, r_sl, r_nopart, r_part, r_rev, r_gnil, r_gcons, r_gsub, r_par, r_aug, r_chain, r_I0, r_I, r_U, r_ixd, r_lend, r_tupd, r_listd, r_sld, r_app, r_ext, r_reverse, r_setl, r_cat, r_int1, r_eqS, r_neS, scal_ii, scal_bb, scal_ss, at0, at1, at2, sq_lst, sq_tup, isLst_lst, List.getElem?_cons_zero, List.getElem?_cons_succ, List.set_cons_zero, List.set_cons_succ, V.int.injEq, V.bl.injEq, V.ref.injEq, V.str.injEq, HO.lst.injEq, HO.tup.injEq, Option.some.injEq, exists_eq_left', exists_eq_left, List.cons.injEq, and_true, true_and, decide_eq_true_eq, reduceCtorEq, false_and, exists_false, or_false, false_or, exists_const, and_assoc, exists_and_left, List.append_nil, ix0, ix1, ix2, cm_mod, cdw1009, cdw2003, cdw7, cdw64, cdw2, cm104729, cm2, cm3, upd_same, List.length_cons, List.length_nil, Int.reduceLT, Int.reduceLE, Nat.reduceAdd, Nat.reduceLeDiff, Nat.reduceLT, Int.reduceToNat, r_for1, r_forL, r_forT, r_lcL, r_lc1, r_yes, r_gtupD, wipe_0, wipe_1, List.cons_append, List.nil_append, r_forS, r_ipI, ite_false, ite_true, Bool.not_true, Bool.not_false, decide_true, decide_false, r_isd, r_islt, cD_ty, cD_ref, tD_non, tD_bl, tD_int, tD_str, tD_ref, tH_lst, tH_tup, tH_dK, tH_ins, ki_self, ki_int_bool, ki_non_int, ki_str_int, ki_lt_lst, ki_lt_tup, r_fld, r_sfld, HO.ins.injEq, cx_K, hc, n8, n9, cl, y9, y10, t9, t10]
    rw [e, if_neg (by decide)]
    clear e N kk fs hc hl lk y9 y10
    -- name
    refine seq_intro fun N e => ?_
    obtain ⟨kk, fs, hc, hl, lk⟩ := i10
    have l0 : fs.length < 1000 := Nat.lt_of_le_of_lt hl (by simp only [List.length_cons, List.length_nil]; decide)
    simp only [r_seq, r_next, r_brk, r_cont, r_asg, r_name, r_ret, r_retN, r_drop, r_ifs, r_never, r_var, r_c, r_op, r_un, r_if, r_tst, r_b, r_not, r_and, r_or, r_andV, r_orV, r_notV, r_nil, r_cons, r_tup, r_lst, r_cb, r_call, r_bm, r_bm0, r_sl, r_nopart, r_part, r_rev, r_gnil, r_gcons, r_gsub, r_par, r_aug, r_chain, r_I0, r_I, r_U, r_ixd, r_lend, r_tupd, r_listd, r_sld, r_app, r_ext, r_reverse, r_setl, r_cat, r_int1, r_eqS, r_neS, scal_ii, scal_bb, scal_ss, at0, at1, at2, sq_lst, sq_tup, isLst_lst, List.getElem?_cons_zero, List.getElem?_cons_succ, List.set_cons_zero, List.set_cons_succ, V.int.injEq, V.bl.injEq, V.ref.injEq, V.str.injEq, HO.lst.injEq, HO.tup.injEq, Option.some.injEq, exists_eq_left', exists_eq_left, List.cons.injEq, and_true, true_and, decide_eq_true_eq, reduceCtorEq, false_and, exists_false, or_false, false_or, exists_const, and_assoc, exists_and_left, List.append_nil, ix0, ix1, ix2, cm_mod, cdw1009, cdw2003, cdw7, cdw64, cdw2, cm104729, cm2, cm3, upd_same, List.length_cons, List.length_nil, Int.reduceLT, Int.reduceLE, Nat.reduceAdd, Nat.reduceLeDiff, Nat.reduceLT, Int.reduceToNat, r_for1, r_forL, r_forT, r_lcL, r_lc1, r_yes, r_gtupD, wipe_0, wipe_1, List.cons_append, List.nil_append, r_forS, r_ipI, ite_false, ite_true, Bool.not_true, Bool.not_false, decide_true, decide_false, r_isd, r_islt, cD_ty, cD_ref, tD_non, tD_bl, tD_int, tD_str, tD_ref, tH_lst, tH_tup, tH_dK, tH_ins, ki_self, ki_int_bool, ki_non_int, ki_str_int, ki_lt_lst, ki_lt_tup, r_fld, r_sfld, HO.ins.injEq, cx_K, r_spN, r_spS, hc, n10, l0, cl, f0, f1, (une z0), (une z1), (une z2), (une z3), (une z4), (une z5), (une z6)]
    rw [e]
    have i11 := Ini.store (CC := CC) (dx := dx) (f := "name") (y := .str "f") kk hl lk
    have kp : Keep c H10 (L2.upd H10 c (.ins CC dx (putF "name" (.str "f") fs))) := Keep.upd (Keep.refl c H10)
    have t5 := kp p5 _ x5 t5
    have t7 := kp p7 _ x7 t7
    have t8 := kp p8 _ x8 t8
    have t9 := kp p9 _ x9 t9
    have t10 := kp p10 _ x10 t10
    clear hc e N l0 kp
    generalize L2.upd H10 c (.ins CC dx (putF "name" (.str "f") fs)) = H11 at i11 t5 t7 t8 t9 t10 ⊢
    clear kk hl lk fs
    -- path
    refine seq_intro fun N e => ?_
    obtain ⟨kk, fs, hc, hl, lk⟩ := i11
    have l0 : fs.length < 1000 := Nat.lt_of_le_of_lt hl (by simp only [List.length_cons, List.length_nil]; decide)
    simp only [r_seq, r_next, r_brk, r_cont, r_asg, r_name, r_ret, r_retN, r_drop, r_ifs, r_never, r_var, r_c, r_op, r_un, r_if, r_tst, r_b, r_not, r_and, r_or, r_andV, r_orV, r_notV, r_nil, r_cons, r_tup, r_lst, r_cb, r_call, r_bm, r_bm0, r_sl, r_nopart, r_part, r_rev, r_gnil, r_gcons, r_gsub, r_par, r_aug, r_chain, r_I0, r_I, r_U, r_ixd, r_lend, r_tupd, r_listd, r_sld, r_app, r_ext, r_reverse, r_setl, r_cat, r_int1, r_eqS, r_neS, scal_ii, scal_bb, scal_ss, at0, at1, at2, sq_lst, sq_tup, isLst_lst, List.getElem?_cons_zero, List.getElem?_cons_succ, List.set_cons_zero, List.set_cons_succ, V.int.injEq, V.bl.injEq, V.ref.injEq, V.str.injEq, HO.lst.injEq, HO.tup.injEq, Option.some.injEq, exists_eq_left', exists_eq_left, List.cons.injEq, and_true, true_and, decide_eq_true_eq, reduceCtorEq, false_and, exists_false, or_false, false_or, exists_const, and_assoc, exists_and_left, List.append_nil, ix0, ix1, ix2, cm_mod, cdw1009, cdw2003, cdw7, cdw64, cdw2, cm104729, cm2, cm3, upd_same, List.length_cons, List.length_nil, Int.reduceLT, Int.reduceLE, Nat.reduceAdd, Nat.reduceLeDiff, Nat.reduceLT, Int.reduceToNat, r_for1, r_forL, r_forT, r_lcL, r_lc1, r_yes, r_gtupD, wipe_0, wipe_1, List.cons_append, List.nil_append, r_forS, r_ipI, ite_false, ite_true, Bool.not_true, Bool.not_false, decide_true, decide_false, r_isd, r_islt, cD_ty, cD_ref, tD_non, tD_bl, tD_int, tD_str, tD_ref, tH_lst, tH_tup, tH_dK, tH_ins, ki_self, ki_int_bool, ki_non_int, ki_str_int, ki_lt_lst, ki_lt_tup, r_fld, r_sfld, HO.ins.injEq, cx_K, r_spN, r_spS, hc, n11, l0, cl, f0, f1, (une z0), (une z1), (une z2), (une z3), (une z4), (une z5), (une z6)]
    rw [e]
    have i12 := Ini.store (CC := CC) (dx := dx) (f := "path") (y := .str "f") kk hl lk
    have kp : Keep c H11 (L2.upd H11 c (.ins CC dx (putF "path" (.str "f") fs))) := Keep.upd (Keep.refl c H11)
    have t5 := kp p5 _ x5 t5
    have t7 := kp p7 _ x7 t7
    have t8 := kp p8 _ x8 t8
    have t9 := kp p9 _ x9 t9
    have t10 := kp p10 _ x10 t10
    clear hc e N l0 kp
    generalize L2.upd H11 c (.ins CC dx (putF "path" (.str "f") fs)) = H12 at i12 t5 t7 t8 t9 t10 ⊢
    clear kk hl lk fs
    -- line
    refine seq_intro fun N e => ?_
    obtain ⟨kk, fs, hc, hl, lk⟩ := i12
    have l0 : fs.length < 1000 := Nat.lt_of_le_of_lt hl (by simp only [List.length_cons, List.length_nil]; decide)
    simp only [r_seq, r_next, r_brk, r_cont, r_asg, r_name, r_ret, r_retN, r_drop, r_ifs, r_never, r_var, r_c, r_op, r_un, r_if, r_tst, r_b, r_not, r_and, r_or, r_andV, r_orV, r_notV, r_nil, r_cons, r_tup, r_lst, r_cb, r_call, r_bm, r_bm0, r_sl, r_nopart, r_part, r_rev, r_gnil, r_gcons, r_gsub, r_par, r_aug, r_chain, r_I0, r_I, r_U, r_ixd, r_lend, r_tupd, r_listd, r_sld, r_app, r_ext, r_reverse, r_setl, r_cat, r_int1, r_eqS, r_neS, scal_ii, scal_bb, scal_ss, at0, at1, at2, sq_lst, sq_tup, isLst_lst, List.getElem?_cons_zero, List.getElem?_cons_succ, List.set_cons_zero, List.set_cons_succ, V.int.injEq, V.bl.injEq, V.ref.injEq, V.str.injEq, HO.lst.injEq, HO.tup.injEq, Option.some.injEq, exists_eq_left', exists_eq_left, List.cons.injEq, and_true, true_and, decide_eq_true_eq, reduceCtorEq, false_and, exists_false, or_false, false_or, exists_const, and_assoc, exists_and_left, List.append_nil, ix0, ix1, ix2, cm_mod, cdw1009, cdw2003, cdw7, cdw64, cdw2, cm104729, cm2, cm3, upd_same, List.length_cons, List.length_nil, Int.reduceLT, Int.reduceLE, Nat.reduceAdd, Nat.reduceLeDiff, Nat.reduceLT, Int.reduceToNat, r_for1, r_forL, r_forT, r_lcL, r_lc1, r_yes, r_gtupD, wipe_0, wipe_1, List.cons_append, List.nil_append, r_forS, r_ipI, ite_false, ite_true, Bool.not_true, Bool.not_false, decide_true, decide_false, r_isd, r_islt, cD_ty, cD_ref, tD_non, tD_bl, tD_int, tD_str, tD_ref, tH_lst, tH_tup, tH_dK, tH_ins, ki_self, ki_int_bool, ki_non_int, ki_str_int, ki_lt_lst, ki_lt_tup, r_fld, r_sfld, HO.ins.injEq, cx_K, r_spN, r_spS, hc, n12, l0, cl, f0, f1, (une z0), (une z1), (une z2), (une z3), (une z4), (une z5), (une z6)]
    rw [e]
    have i13 := Ini.store (CC := CC) (dx := dx) (f := "line") (y := .int first) kk hl lk
    have kp : Keep c H12 (L2.upd H12 c (.ins CC dx (putF "line" (.int first) fs))) := Keep.upd (Keep.refl c H12)
    have t5 := kp p5 _ x5 t5
    have t7 := kp p7 _ x7 t7
    have t8 := kp p8 _ x8 t8
    have t9 := kp p9 _ x9 t9
    have t10 := kp p10 _ x10 t10
    clear hc e N l0 kp
    generalize L2.upd H12 c (.ins CC dx (putF "line" (.int first) fs)) = H13 at i13 t5 t7 t8 t9 t10 ⊢
    clear kk hl lk fs
    -- lines
    refine seq_intro fun N e => ?_
    have i13' := i13
    obtain ⟨kk, fs, hc, hl, lk⟩ := i13
    have b5 := kk ln _ z5 a5
    have l0 : fs.length < 1000 := Nat.lt_of_le_of_lt hl (by simp only [List.length_cons, List.length_nil]; decide)
    simp only [r_seq, r_next, r_brk, r_cont, r_asg, r_name, r_ret, r_retN, r_drop, r_ifs, r_never, r_var, r_c, r_op, r_un, r_if, r_tst, r_b, r_not, r_and, r_or, r_andV, r_orV, r_notV, r_nil, r_cons, r_tup, r_lst, r_cb, r_call, r_bm, r_bm0, r_sl, r_nopart, r_part, r_rev, r_gnil, r_gcons, r_gsub, r_par, r_aug, r_chain, r_I0, r_I, r_U, r_ixd, r_lend, r_tupd, r_listd, r_sld, r_app, r_ext, r_reverse, r_setl, r_cat, r_int1, r_eqS, r_neS, scal_ii, scal_bb, scal_ss, at0, at1, at2, sq_lst, sq_tup, isLst_lst, List.getElem?_cons_zero, List.getElem?_cons_succ, List.set_cons_zero, List.set_cons_succ, V.int.injEq, V.bl.injEq, V.ref.injEq, V.str.injEq, HO.lst.injEq, HO.tup.injEq, Option.some.injEq, exists_eq_left', exists_eq_left, List.cons.injEq, and_true, true_and, decide_eq_true_eq, reduceCtorEq, false_and, exists_false, or_false, false_or, exists_const, and_assoc, exists_and_left, List.append_nil, ix0, ix1, ix2, cm_mod, cdw1009, cdw2003, cdw7, cdw64, cdw2, cm104729, cm2, cm3, upd_same, List.length_cons, List.length_nil, Int.reduceLT, Int.reduceLE, Nat.reduceAdd, Nat.reduceLeDiff, Nat.reduceLT, Int.reduceToNat, r_for1, r_forL, r_forT, r_lcL, r_lc1, r_yes, r_gtupD, wipe_0, wipe_1, List.cons_append, List.nil_append, r_forS, r_ipI, ite_false, ite_true, Bool.not_true, Bool.not_false, decide_true, decide_false, r_isd, r_islt, cD_ty, cD_ref, tD_non, tD_bl, tD_int, tD_str, tD_ref, tH_lst, tH_tup, tH_dK, tH_ins, ki_self, ki_int_bool, ki_non_int, ki_str_int, ki_lt_lst, ki_lt_tup, r_fld, r_sfld, HO.ins.injEq, cx_K, r_spB, r_spSs, b5]
    refine ⟨_, rfl, bl, fun p14 G hp sG hG => ?_⟩
    have hc1 := sG c _ hc
    simp only [r_seq, r_next, r_brk, r_cont, r_asg, r_name, r_ret, r_retN, r_drop, r_ifs, r_never, r_var, r_c, r_op, r_un, r_if, r_tst, r_b, r_not, r_and, r_or, r_andV, r_orV, r_notV, r_nil, r_cons, r_tup, r_lst, r_cb, r_call, r_bm, r_bm0, r_sl, r_nopart, r_part, r_rev, r_gnil, r_gcons, r_gsub, r_par, r_aug, r_chain, r_I0, r_I, r_U, r_ixd, r_lend, r_tupd, r_listd, r_sld, r_app, r_ext, r_reverse, r_setl, r_cat, r_int1, r_eqS, r_neS, scal_ii, scal_bb, scal_ss, at0, at1, at2, sq_lst, sq_tup, isLst_lst, List.getElem?_cons_zero, List.getElem?_cons_succ, List.set_cons_zero, List.set_cons_succ, V.int.injEq, V.bl.injEq, V.ref.injEq, V.str.injEq, HO.lst.injEq, HO.tup.injEq, Option.some.injEq, exists_eq_left', exists_eq_left, List.cons.injEq, and_true, true_and, decide_eq_true_eq, reduceCtorEq, false_and, exists_false, or_false, false_or, exists_const, and_assoc, exists_and_left, List.append_nil, ix0, ix1, ix2, cm_mod, cdw1009, cdw2003, cdw7, cdw64, cdw2, cm104729, cm2, cm3, upd_same, List.length_cons, List.length_nil, Int.reduceLT, Int.reduceLE, Nat.reduceAdd, Nat.reduceLeDiff, Nat.reduceLT, Int.reduceToNat, r_for1, r_forL, r_forT, r_lcL, r_lc1, r_yes, r_gtupD, wipe_0, wipe_1, List.cons_append, List.nil_append, r_forS, r_ipI, ite_false, ite_true, Bool.not_true, Bool.not_false, decide_true, decide_false, r_isd, r_islt, cD_ty, cD_ref, tD_non, tD_bl, tD_int, tD_str, tD_ref, tH_lst, tH_tup, tH_dK, tH_ins, ki_self, ki_int_bool, ki_non_int, ki_str_int, ki_lt_lst, ki_lt_tup, r_fld, r_sfld, HO.ins.injEq, cx_K, hc1, n13, l0, cl]
    rw [e]
    have iG := Ini.same i13' sG
    have x14 : p14 ≠ c := new_ne hc hp
    have q := Ini.store (CC := CC) (dx := dx) (f := "lines") (y := .ref p14) (kk.trans (Keep.same sG)) hl lk
    have kp14 : Keep c G (L2.upd G c (.ins CC dx (putF "lines" (.ref p14) fs))) := Keep.upd (Keep.refl c G)
    have t5 := kp14 p5 _ x5 (sG _ _ t5)
    have t7 := kp14 p7 _ x7 (sG _ _ t7)
    have t8 := kp14 p8 _ x8 (sG _ _ t8)
    have t9 := kp14 p9 _ x9 (sG _ _ t9)
    have t10 := kp14 p10 _ x10 (sG _ _ t10)
    have t14 := kp14 p14 _ x14 hG
    have i14 := q
    clear hc e N l0 q kp14 iG hc1 i13' b5
    generalize L2.upd G c (.ins CC dx (putF "lines" (.ref p14) fs)) = H14 at i14 t5 t7 t8 t9 t10 t14 ⊢
    clear kk hl lk sG hG hp
    -- handlers
    refine seq_intro fun N e => ?_
    have i14' := i14
    obtain ⟨kk, fs, hc, hl, lk⟩ := i14
    have b6 := kk gd _ z6 a6
    have l0 : fs.length < 1000 := Nat.lt_of_le_of_lt hl (by simp only [List.length_cons, List.length_nil]; decide)
    simp only [r_seq, r_next, r_brk, r_cont, r_asg, r_name, r_ret, r_retN, r_drop, r_ifs, r_never, r_var, r_c, r_op, r_un, r_if, r_tst, r_b, r_not, r_and, r_or, r_andV, r_orV, r_notV, r_nil, r_cons, r_tup, r_lst, r_cb, r_call, r_bm, r_bm0, r_sl, r_nopart, r_part, r_rev, r_gnil, r_gcons, r_gsub, r_par, r_aug, r_chain, r_I0, r_I, r_U, r_ixd, r_lend, r_tupd, r_listd, r_sld, r_app, r_ext, r_reverse, r_setl, r_cat, r_int1, r_eqS, r_neS, scal_ii, scal_bb, scal_ss, at0, at1, at2, sq_lst, sq_tup, isLst_lst, List.getElem?_cons_zero, List.getElem?_cons_succ, List.set_cons_zero, List.set_cons_succ, V.int.injEq, V.bl.injEq, V.ref.injEq, V.str.injEq, HO.lst.injEq, HO.tup.injEq, Option.some.injEq, exists_eq_left', exists_eq_left, List.cons.injEq, and_true, true_and, decide_eq_true_eq, reduceCtorEq, false_and, exists_false, or_false, false_or, exists_const, and_assoc, exists_and_left, List.append_nil, ix0, ix1, ix2, cm_mod, cdw1009, cdw2003, cdw7, cdw64, cdw2, cm104729, cm2, cm3, upd_same, List.length_cons, List.length_nil, Int.reduceLT, Int.reduceLE, Nat.reduceAdd, Nat.reduceLeDiff, Nat.reduceLT, Int.reduceToNat, r_for1, r_forL, r_forT, r_lcL, r_lc1, r_yes, r_gtupD, wipe_0, wipe_1, List.cons_append, List.nil_append, r_forS, r_ipI, ite_false, ite_true, Bool.not_true, Bool.not_false, decide_true, decide_false, r_isd, r_islt, cD_ty, cD_ref, tD_non, tD_bl, tD_int, tD_str, tD_ref, tH_lst, tH_tup, tH_dK, tH_ins, ki_self, ki_int_bool, ki_non_int, ki_str_int, ki_lt_lst, ki_lt_tup, r_fld, r_sfld, HO.ins.injEq, cx_K, r_spB, r_spSs, b6]
    refine ⟨_, rfl, bg, fun p15 G hp sG hG => ?_⟩
    have hc1 := sG c _ hc
    simp only [r_seq, r_next, r_brk, r_cont, r_asg, r_name, r_ret, r_retN, r_drop, r_ifs, r_never, r_var, r_c, r_op, r_un, r_if, r_tst, r_b, r_not, r_and, r_or, r_andV, r_orV, r_notV, r_nil, r_cons, r_tup, r_lst, r_cb, r_call, r_bm, r_bm0, r_sl, r_nopart, r_part, r_rev, r_gnil, r_gcons, r_gsub, r_par, r_aug, r_chain, r_I0, r_I, r_U, r_ixd, r_lend, r_tupd, r_listd, r_sld, r_app, r_ext, r_reverse, r_setl, r_cat, r_int1, r_eqS, r_neS, scal_ii, scal_bb, scal_ss, at0, at1, at2, sq_lst, sq_tup, isLst_lst, List.getElem?_cons_zero, List.getElem?_cons_succ, List.set_cons_zero, List.set_cons_succ, V.int.injEq, V.bl.injEq, V.ref.injEq, V.str.injEq, HO.lst.injEq, HO.tup.injEq, Option.some.injEq, exists_eq_left', exists_eq_left, List.cons.injEq, and_true, true_and, decide_eq_true_eq, reduceCtorEq, false_and, exists_false, or_false, false_or, exists_const, and_assoc, exists_and_left, List.append_nil, ix0, ix1, ix2, cm_mod, cdw1009, cdw2003, cdw7, cdw64, cdw2, cm104729, cm2, cm3, upd_same, List.length_cons, List.length_nil, Int.reduceLT, Int.reduceLE, Nat.reduceAdd, Nat.reduceLeDiff, Nat.reduceLT, Int.reduceToNat, r_for1, r_forL, r_forT, r_lcL, r_lc1, r_yes, r_gtupD, wipe_0, wipe_1, List.cons_append, List.nil_append, r_forS, r_ipI, ite_false, ite_true, Bool.not_true, Bool.not_false, decide_true, decide_false, r_isd, r_islt, cD_ty, cD_ref, tD_non, tD_bl, tD_int, tD_str, tD_ref, tH_lst, tH_tup, tH_dK, tH_ins, ki_self, ki_int_bool, ki_non_int, ki_str_int, ki_lt_lst, ki_lt_tup, r_fld, r_sfld, HO.ins.injEq, cx_K, hc1, n14, l0, cl]
    rw [e]
    have iG := Ini.same i14' sG
    have x15 : p15 ≠ c := new_ne hc hp
    have q := Ini.store (CC := CC) (dx := dx) (f := "handlers") (y := .ref p15) (kk.trans (Keep.same sG)) hl lk
    have kp15 : Keep c G (L2.upd G c (.ins CC dx (putF "handlers" (.ref p15) fs))) := Keep.upd (Keep.refl c G)
    have t5 := kp15 p5 _ x5 (sG _ _ t5)
    have t7 := kp15 p7 _ x7 (sG _ _ t7)
    have t8 := kp15 p8 _ x8 (sG _ _ t8)
    have t9 := kp15 p9 _ x9 (sG _ _ t9)
    have t10 := kp15 p10 _ x10 (sG _ _ t10)
    have t14 := kp15 p14 _ x14 (sG _ _ t14)
    have t15 := kp15 p15 _ x15 hG
    have i15 := q
    clear hc e N l0 q kp15 iG hc1 i14' b6
    generalize L2.upd G c (.ins CC dx (putF "handlers" (.ref p15) fs)) = H15 at i15 t5 t7 t8 t9 t10 t14 t15 ⊢
    clear kk hl lk sG hG hp
    -- identity
    have i15' := i15
    obtain ⟨kk, fs, hc, hl, lk⟩ := i15'
    have y0 := lk "argcount" _ rfl
    have y1 := lk "onlycount" _ rfl
    have y2 := lk "stacksize" _ rfl
    have y3 := lk "flags" _ rfl
    have y4 := lk "code" _ rfl
    have y5 := lk "depth" _ rfl
    have y6 := lk "constants" _ rfl
    have y7 := lk "names" _ rfl
    have y8 := lk "slots" _ rfl
    have y9 := lk "kinds" _ rfl
    have y10 := lk "name" _ rfl
    have y11 := lk "path" _ rfl
    have y12 := lk "line" _ rfl
    have y13 := lk "lines" _ rfl
    have y14 := lk "handlers" _ rfl
    have l0 : fs.length < 1000 := Nat.lt_of_le_of_lt hl (by simp only [List.length_cons, List.length_nil]; decide)
    simp only [r_seq, r_next, r_brk, r_cont, r_asg, r_name, r_ret, r_retN, r_drop, r_ifs, r_never, r_var, r_c, r_op, r_un, r_if, r_tst, r_b, r_not, r_and, r_or, r_andV, r_orV, r_notV, r_nil, r_cons, r_tup, r_lst, r_cb, r_call, r_bm, r_bm0, r_sl, r_nopart, r_part, r_rev, r_gnil, r_gcons, r_gsub, r_par, r_aug, r_chain, r_I0, r_I, r_U, r_ixd, r_lend, r_tupd, r_listd, r_sld, r_app, r_ext, r_reverse, r_setl, r_cat, r_int1, r_eqS, r_neS, scal_ii, scal_bb, scal_ss, at0, at1, at2, sq_lst, sq_tup, isLst_lst, List.getElem?_cons_zero, List.getElem?_cons_succ, List.set_cons_zero, List.set_cons_succ, V.int.injEq, V.bl.injEq, V.ref.injEq, V.str.injEq, HO.lst.injEq, HO.tup.injEq, Option.some.injEq, exists_eq_left', exists_eq_left, List.cons.injEq, and_true, true_and, decide_eq_true_eq, reduceCtorEq, false_and, exists_false, or_false, false_or, exists_const, and_assoc, exists_and_left, List.append_nil, ix0, ix1, ix2, cm_mod, cdw1009, cdw2003, cdw7, cdw64, cdw2, cm104729, cm2, cm3, upd_same, List.length_cons, List.length_nil, Int.reduceLT, Int.reduceLE, Nat.reduceAdd, Nat.reduceLeDiff, Nat.reduceLT, Int.reduceToNat, r_for1, r_forL, r_forT, r_lcL, r_lc1, r_yes, r_gtupD, wipe_0, wipe_1, List.cons_append, List.nil_append, r_forS, r_ipI, ite_false, ite_true, Bool.not_true, Bool.not_false, decide_true, decide_false, r_isd, r_islt, cD_ty, cD_ref, tD_non, tD_bl, tD_int, tD_str, tD_ref, tH_lst, tH_tup, tH_dK, tH_ins, ki_self, ki_int_bool, ki_non_int, ki_str_int, ki_lt_lst, ki_lt_tup, r_fld, r_sfld, HO.ins.injEq, cx_K, r_plain]
    intro m md hm hmd nm
    have hc1 : L2.upd (L2.upd H15 md (.own m)) m (.ins MM md []) c = some (.ins CC dx fs) := by rw [upd_ne (ne_new hc hm), upd_ne (ne_new hc hmd)]; exact hc
    simp only [r_seq, r_next, r_brk, r_cont, r_asg, r_name, r_ret, r_retN, r_drop, r_ifs, r_never, r_var, r_c, r_op, r_un, r_if, r_tst, r_b, r_not, r_and, r_or, r_andV, r_orV, r_notV, r_nil, r_cons, r_tup, r_lst, r_cb, r_call, r_bm, r_bm0, r_sl, r_nopart, r_part, r_rev, r_gnil, r_gcons, r_gsub, r_par, r_aug, r_chain, r_I0, r_I, r_U, r_ixd, r_lend, r_tupd, r_listd, r_sld, r_app, r_ext, r_reverse, r_setl, r_cat, r_int1, r_eqS, r_neS, scal_ii, scal_bb, scal_ss, at0, at1, at2, sq_lst, sq_tup, isLst_lst, List.getElem?_cons_zero, List.getElem?_cons_succ, List.set_cons_zero, List.set_cons_succ, V.int.injEq, V.bl.injEq, V.ref.injEq, V.str.injEq, HO.lst.injEq, HO.tup.injEq, Option.some.injEq, exists_eq_left', exists_eq_left, List.cons.injEq, and_true, true_and, decide_eq_true_eq, reduceCtorEq, false_and, exists_false, or_false, false_or, exists_const, and_assoc, exists_and_left, List.append_nil, ix0, ix1, ix2, cm_mod, cdw1009, cdw2003, cdw7, cdw64, cdw2, cm104729, cm2, cm3, upd_same, List.length_cons, List.length_nil, Int.reduceLT, Int.reduceLE, Nat.reduceAdd, Nat.reduceLeDiff, Nat.reduceLT, Int.reduceToNat, r_for1, r_forL, r_forT, r_lcL, r_lc1, r_yes, r_gtupD, wipe_0, wipe_1, List.cons_append, List.nil_append, r_forS, r_ipI, ite_false, ite_true, Bool.not_true, Bool.not_false, decide_true, decide_false, r_isd, r_islt, cD_ty, cD_ref, tD_non, tD_bl, tD_int, tD_str, tD_ref, tH_lst, tH_tup, tH_dK, tH_ins, ki_self, ki_int_bool, ki_non_int, ki_str_int, ki_lt_lst, ki_lt_tup, r_fld, r_sfld, HO.ins.injEq, cx_K, hc1, cl, l0, n15]
    have u := fun (b : Addr) (o : HO) (nb : b ≠ c) (e : H15 b = some o) (o3 : HO) => (show L2.upd (L2.upd (L2.upd H15 md (.own m)) m (.ins MM md [])) c o3 b = some o from by rw [upd_ne nb, upd_ne (ne_new e hm), upd_ne (ne_new e hmd)]; exact e)
    refine k _ (fun b o nb e => ?_) ⟨dx, _, p5, p14, p15, upd_same, ?_, u _ _ x5 t5 _, ?_, ?_, u _ _ x14 t14 _, ?_, u _ _ x15 t15 _⟩
    · exact u b o nb (kk b o nb e) _
    · rw [lookup_putF, if_neg (by decide)]
      exact y4
    · rw [lookup_putF, if_neg (by decide)]
      exact y12
    · rw [lookup_putF, if_neg (by decide)]
      exact y13
    · rw [lookup_putF, if_neg (by decide)]
      exact y14
abbrev smade : Stmt := top 44
theorem scmade : FnScope ["_law_data", "_law_lines", "_law_guards", "_law_first"] ["_law_data", "_law_lines", "_law_guards", "_law_first"] (defScope smade) := ⟨rfl, rfl, rfl, by decide +kernel, rfl, by decide +kernel, by decide +kernel⟩

/-- a Code made by the law -/
def spMade (CC : Addr) : Sp := fun vs H Q _ => ∃ (d ln gd : Addr) (ds ls gs : List Nat) (first : Int), vs = [.ref d, .ref ln, .ref gd, .int first] ∧ H d = some (.lst (vn ds)) ∧ H ln = some (.lst (vn ls)) ∧ H gd = some (.lst (vn gs)) ∧
  (∀ n ∈ ds, n < 256) ∧ (∀ n ∈ ls, n < 256) ∧ (∀ n ∈ gs, n < 256) ∧ 0 ≤ first ∧ first ≤ 2147483647 ∧ ∀ c H', H c = none → Same H H' → CodeAt CC H' c ds ls gs first → Q (.ref c) H'
/-- the class Code as its callers see it -/
structure MkCode (P : Program) (w : World) (K : PySem.W.Frag) (mg : Str → Option Value) (base : Heap) (CC : Addr) : Prop where
  ex : ∃ f fd, Mk K CC f ∧ FnOk P w K mg base CX0 3 f fd ["self", "argcount", "onlycount", "stacksize", "flags", "code", "constants", "names", "slots", "kinds", "name", "path", "line", "lines", "handlers"] (spCodeInit CC) ∧ mg "Code" = some (.ref CC) ∧
    Binds K fd ["self", "argcount", "onlycount", "stacksize", "flags", "code", "constants", "names", "slots", "kinds", "name", "path", "line", "lines", "handlers"] []
theorem pe_mak {X : Cx} {CC : Addr} {e : Expr} {es : List Expr} {t : TA} {p pos : Pos} (M : MkCode X.prog X.w X.K X.mg X.base CC) (hr : Room 4 X.A) (hg : Gl X "Code") (ha : PA X (e :: es) t)
    (he : starEach (e :: es) X.env = (false, eval e X.env) :: starEach es X.env := by rfl) (hpl : (backTo pos (starEach es X.env)).any (·.1) = false := by rfl) :
    PE X (.Call (.Name "Code" p) (e :: es) [] pos) (tMake CC (spCodeInit CC) [] E0 t) := by
  obtain ⟨f, fd, M, F, m, b⟩ := M.ex
  exact pe_make M F hr hg m b .nil pass0 ha (by decide) he hpl
theorem r_make {C : Addr} {sp : Sp} {dvs : List V} {E : XK} {t : TA} {σ : L2.St} {H : Hp} {Q : VK} : tMake C sp dvs E t σ H Q = t σ H (fun vs H1 => ∀ x dx, H1 x = none → H1 dx = none → dx ≠ x → sp (.ref x :: (vs ++ dvs)) (L2.upd (L2.upd H1 dx (.own x)) x (.ins C dx [])) (fun v H2 => v = .non ∧ Q (.ref x) H2) E) := rfl
theorem ok_made {CC : Addr} (T : Txt mg) (F : FnP K "_law_made" "_law_made" smade f fd) (M_Code : MkCode P w K mg base CC) : FnOk P w K mg base CX0 5 f fd ["_law_data", "_law_lines", "_law_guards", "_law_first"] (spMade CC) := by
  refine F.ok scmade (fun vs H Q E h => ?_) (fun cdv A outer s H vs Q E hr h => ?_)
  · obtain ⟨d, ln, gd, ds, ls, gs, first, rfl, _⟩ := h
    rfl
  · obtain ⟨d, ln, gd, ds, ls, gs, first, rfl, a0, a5, a6, bd, bl, bg, f0, f1, k⟩ := h
    refine ⟨_, PSs.nox (pss_one (ps_ret (pe_mak M_Code hr rfl (pa_cons pe_int (pa_cons pe_int (pa_cons pe_int (pa_cons pe_int (pa_cons (pv 0) (pa_cons (pe_lst pa_nil) (pa_cons (pe_lst pa_nil) (pa_cons (pe_lst pa_nil) (pa_cons (pe_lst pa_nil) (pa_cons pe_str (pa_cons pe_str (pa_cons (pv 3) (pa_cons (pv 1) (pa_cons (pv 2) pa_nil))))))))))))))))), ?_⟩
    show (_ : TS) _ [some (.ref d), some (.ref ln), some (.ref gd), some (.int first)] H
    simp only [r_seq, r_next, r_brk, r_cont, r_asg, r_name, r_ret, r_retN, r_drop, r_ifs, r_never, r_var, r_c, r_op, r_un, r_if, r_tst, r_b, r_not, r_and, r_or, r_andV, r_orV, r_notV, r_nil, r_cons, r_tup, r_lst, r_cb, r_call, r_bm, r_bm0, r_sl, r_nopart, r_part, r_rev, r_gnil, r_gcons, r_gsub, r_par, r_aug, r_chain, r_I0, r_I, r_U, r_ixd, r_lend, r_tupd, r_listd, r_sld, r_app, r_ext, r_reverse, r_setl, r_cat, r_int1, r_eqS, r_neS, scal_ii, scal_bb, scal_ss, at0, at1, at2, sq_lst, sq_tup, isLst_lst, List.getElem?_cons_zero, List.getElem?_cons_succ, List.set_cons_zero, List.set_cons_succ, V.int.injEq, V.bl.injEq, V.ref.injEq, V.str.injEq, HO.lst.injEq, HO.tup.injEq, Option.some.injEq, exists_eq_left', exists_eq_left, List.cons.injEq, and_true, true_and, decide_eq_true_eq, reduceCtorEq, false_and, exists_false, or_false, false_or, exists_const, and_assoc, exists_and_left, List.append_nil, ix0, ix1, ix2, cm_mod, cdw1009, cdw2003, cdw7, cdw64, cdw2, cm104729, cm2, cm3, upd_same, List.length_cons, List.length_nil, Int.reduceLT, Int.reduceLE, Nat.reduceAdd, Nat.reduceLeDiff, Nat.reduceLT, Int.reduceToNat, r_for1, r_forL, r_forT, r_lcL, r_lc1, r_yes, r_gtupD, wipe_0, wipe_1, List.cons_append, List.nil_append, r_forS, r_ipI, ite_false, ite_true, Bool.not_true, Bool.not_false, decide_true, decide_false, r_isd, r_islt, cD_ty, cD_ref, tD_non, tD_bl, tD_int, tD_str, tD_ref, tH_lst, tH_tup, tH_dK, tH_ins, ki_self, ki_int_bool, ki_non_int, ki_str_int, ki_lt_lst, ki_lt_tup, r_fld, r_sfld, HO.ins.injEq, cx_K, r_make]
    refine ⟨Nat.zero_le _, fun p hp => ⟨Nat.zero_le _, fun p1 hp1 => ⟨Nat.zero_le _, fun p2 hp2 => ⟨Nat.zero_le _, fun p3 hp3 x dx hx hd nd => ?_⟩⟩⟩⟩
    have s1 := Same.new' (o := .lst []) (Same.refl H) hp
    have q1 : L2.upd H p (.lst []) p = some (.lst []) := upd_same
    generalize L2.upd H p (.lst []) = G1 at *
    have s2 := Same.new' (o := .lst []) (Same.refl G1) hp1
    have q2 : L2.upd G1 p1 (.lst []) p1 = some (.lst []) := upd_same
    generalize L2.upd G1 p1 (.lst []) = G2 at *
    have s3 := Same.new' (o := .lst []) (Same.refl G2) hp2
    have q3 : L2.upd G2 p2 (.lst []) p2 = some (.lst []) := upd_same
    generalize L2.upd G2 p2 (.lst []) = G3 at *
    have s4 := Same.new' (o := .lst []) (Same.refl G3) hp3
    have q4 : L2.upd G3 p3 (.lst []) p3 = some (.lst []) := upd_same
    generalize L2.upd G3 p3 (.lst []) = G4 at *
    have ww : ∀ b o, G4 b = some o → L2.upd (L2.upd G4 dx (.own x)) x (.ins CC dx []) b = some o := fun b o e => by
      rw [upd_ne (ne_new e hx), upd_ne (ne_new e hd)]
      exact e
    have sH : Same H G4 := fun b o e => s4 b o (s3 b o (s2 b o (s1 b o e)))
    refine ⟨x, dx, d, p, p1, p2, p3, ln, gd, ds, ls, gs, first, rfl, upd_same, ww _ _ (sH _ _ a0), ww _ _ (s4 _ _ (s3 _ _ (s2 _ _ q1))), ww _ _ (s4 _ _ (s3 _ _ q2)), ww _ _ (s4 _ _ q3), ww _ _ q4, ww _ _ (sH _ _ a5), ww _ _ (sH _ _ a6), bd, bl, bg, f0, f1, fun H' kk ca => ⟨rfl, k x H' ?_ ?_ ca⟩⟩
    · cases e : H x with
      | none => rfl
      | some o =>
        have := sH x o e
        rw [hx] at this
        cases this
    · exact fun b o e => kk b o (ne_new (sH b o e) hx) (ww _ _ (sH b o e))
end
end C48

set_option maxHeartbeats 2000000
namespace C48
open PySem PySem.Spec PyProof.Rows L2
/-! ### several clauses «except x as n» -/
/-- the ends of a suite behind which slot i is empty -/
def offE (D : Ends) (i : Nat) : Ends := { nx := fun τ G => D.nx (τ.set i none) G, rt := D.rt, bk := fun τ G => D.bk (τ.set i none) G, ct := fun τ G => D.ct (τ.set i none) G }
/-- a clause: the class, the slot of the name, the suite's reading -/
abbrev Cla := Value × Nat × (Addr → Value → Option Addr → TS)
def wAses (K : PySem.W.Frag) (m : Nat) (Wout : WX) (D : Ends) : List Cla → WX
  | [] => Wout
  | q :: r => fun cls d σ H => ∃ b, PySem.W.exmOne K cls q.1 = some b ∧ (b = true → ∀ z, H z = none → σ.length = m → q.2.2 z cls d (offE D q.2.1) (σ.set q.2.1 (some (.ref z))) H) ∧ (b = false → wAses K m Wout D r cls d σ H)
inductive AsOk (X : Cx) : List ExceptHandler → List Cla → Prop
  | nil : AsOk X [] []
  | cons {x n : Str} {c : Value} {i : Nat} {ts : Addr → Value → Option Addr → TS} {b : Stmt} {bs : List Stmt} {p q : Pos} {hds : List ExceptHandler} {l : List Cla} (nm : Names X x c) (at_ : X.N[i]? = some n) (lc : X.env.kindOf n = some .local)
      (su : ∀ (z : Addr) (o : Obj) (cls : Value) (d : Option Addr) (pn : List (Addr × Obj)), Zc cls d o → (∃ vs, o.data = .fields vs) → PSs (X.suite z ((z, o) :: pn)) (b :: bs) (ts z cls d)) (r : AsOk X hds l) :
      AsOk X (.ExceptHandler (some (.Name x p)) (some n) (b :: bs) q :: hds) ((c, i, ts) :: l)
/-- where the clauses are looked at: z is caught and stands on the ground -/
structure Down (X : Cx) (pins : List (Addr × Obj)) (σ : L2.St) (H : Hp) (cls : Value) (d : Option Addr) (z : Addr) (B : Heap) (s0 s : Shared) : Prop where
  inv : L2.Inv X pins σ H s0
  nb : ∀ (b : Addr) (o : Obj), s0.heap.get? b = some o → ¬b ∈ frs X.stack → B.get? b = some o
  up : s0.heap.UpToSlots s.heap
  fl : HandSPX.FlyingZ B (X.env :: X.outer) z (Zc cls d) s.heap
  na : H z = none
  os : s.os = s0.os
  ag : AllBare s.gens
section
variable {X : Cx} {pins : List (Addr × Obj)} {σ : L2.St} {H : Hp} {cls : Value} {d : Option Addr} {z : Addr} {B : Heap} {s0 s : Shared}
theorem Down.now (g : Down X pins σ H cls d z B s0 s) : L2.Inv X pins σ H s := g.inv.landed g.nb g.fl.1 g.up g.os g.ag
theorem Down.far (g : Down X pins σ H cls d z B s0 s) {o : Obj} {vs : Array Value} (e : s.heap.get? z = some o) (q : o.data = .fields vs) : z ∉ frs (X.env :: X.outer) := by
  intro hm
  obtain ⟨_, o1, e1, no⟩ := g.fl.2.2.1.mem hm
  have := e.symm.trans e1
  cases this
  exact no _ q
theorem Down.inside (g : Down X pins σ H cls d z B s0 s) (hf : X.env.frame = some X.env.locals) {o : Obj} {vs : Array Value} (e : s.heap.get? z = some o) (q : o.data = .fields vs) : L2.Inv (X.suite z ((z, o) :: (X.pn ++ pins))) [] σ H s := by
  have f := g.far e q
  refine g.now.suite e q g.na (fun w => f ?_) (fun hm => f ?_)
  · exact List.mem_filterMap.mpr ⟨X.env, List.mem_cons_self, hf.trans (congrArg some w.symm)⟩
  · obtain ⟨v, hv, w⟩ := List.mem_filterMap.mp hm
    exact List.mem_filterMap.mpr ⟨v, List.mem_cons_of_mem _ hv, w⟩
/-- no clause is left: the exception goes on -/
theorem Down.on {D : Ends} {Wout : WX} (g : Down X pins σ H cls d z B s0 s) (hs : X.stack = X.env :: X.outer) (hf : X.env.frame = some X.env.locals) (tk : Takes X Wout) (w : Wout cls d σ H) :
    wpAny (model X.prog X.w) X.A (handleBy (.ref z) X.env []) (SP X pins D) X.xe s := by
  refine wpAny_handleBy_nil ?_
  obtain ⟨_, _, _, o, vs, tb, _, _, e, _, q, e1, _⟩ := id g.fl
  have out : wpAny (model X.prog X.w) X.A (setFlight (.ref z) X.env.frame) (fun _ t => wpAny (model X.prog X.w) X.A (throw (.ref z) : Sem Flow) (SP X pins D) X.xe t) X.xe s := by
    rw [hf]
    exact HandSPX.setFlight_upZ g.fl fun k hk uk => wpAny_throw (tk _ _ ⟨z, B, s0, pins, σ, H, cls, d, rfl, g.inv, g.nb, g.up.trans uk, .inr (.inr (hs ▸ hk)), g.na, g.os, g.ag, w⟩)
  unfold PySem.passOn
  refine wpAny_bind (wpAny_field e q e1 ?_)
  rw [if_neg (by simp)]
  first
    | exact wpAny_bind out
    | exact wpAny_bind (wpAny_pure (wpAny_bind out))
end
section
variable {X : Cx}
/-- the clauses, one after the other -/
theorem ases_go (hs : X.stack = X.env :: X.outer) (hf : X.env.frame = some X.env.locals) (hN : X.N.Nodup) {Wout : WX} (tk : Takes X Wout) {D : Ends} {pins : List (Addr × Obj)} {σ : L2.St} {H : Hp} {cls : Value} {d : Option Addr} {z : Addr} {B : Heap} {s0 s : Shared} (g : Down X pins σ H cls d z B s0 s) :
    ∀ {hds : List ExceptHandler} {l : List Cla}, AsOk X hds l → wAses X.K X.N.length Wout D l cls d σ H → wpAny (model X.prog X.w) X.A (handleBy (.ref z) X.env hds) (SP X pins D) X.xe s := by
  intro hds l hk
  have ok := g.inv.ok
  induction hk with
  | nil => exact g.on hs hf tk
  | @cons x n c i ts b bs p q hds l nm at_ lc su r ih =>
    rintro ⟨yes, e, h1, h2⟩
    obtain ⟨o, vs, eo, zo, qo⟩ := g.fl.there
    refine wpAny_handleBy_cons (codeAny_handlers_test ?_) (by intro w; cases w)
    have cl : PySem.W.Looks (model X.prog X.w) s.heap (typeOf (.ref z)) cls := fun _ _ _ _ k w => wpAny_typeOf_ref (k _ _ eo) (by rw [zo.1]; exact w)
    have inn := g.inside hf eo qo
    have named : ∀ {Q : Value → Shared → Prop} {E : Value → Shared → Prop}, Q c s → wpAny (model X.prog X.w) (X.A.mark (some (.ref z))) (eval (.Name x p) X.env) Q E s := by
      intro Q E w
      obtain ⟨g1, g2, g3 | ⟨g3, g4, g5⟩⟩ := nm
      · exact ld_glob (X := X.suite z ((z, o) :: (X.pn ++ pins))) inn g1 g3 w g2
      · exact ld_blt (X := X.suite z ((z, o) :: (X.pn ++ pins))) inn g1 g3 g4 w g5 g2
    refine named ((PySem.W.exm_one (M := model X.prog X.w) g.now.kIn cl e).here ?_)
    cases yes with
    | false => exact ih (h2 rfl)
    | true =>
      refine codeAny_handlers_suite_as (HandSPX.lands_againZ g.fl fun k fk uk => ?_)
      have g' : Down X pins σ H cls d z B s0 { s with heap := k } := ⟨g.inv, g.nb, g.up.trans uk, fk, g.na, g.os, g.ag⟩
      obtain ⟨o', vs', eo', zo', qo'⟩ := fk.there
      refine store_ok (X := X.suite z ((z, o') :: (X.pn ++ pins))) (v := .ref z) (g'.inside hf eo' qo') hN at_ (.inl lc) rfl (fun t it => ?_) (.inr lc)
      refine wpAny_mono ((su z o' cls d (X.pn ++ pins) zo' ⟨_, qo'⟩).run [] t _ H _ it (h1 rfl z g.na g.inv.len)) (fun f t' ht => ?_) (fun _ _ no => no.elim)
      have gone : ∀ {τ : L2.St} {G : Hp} {Q : Shared → Prop}, L2.Inv (X.suite z ((z, o') :: (X.pn ++ pins))) [] τ G t' → (∀ t1, L2.Inv X pins (τ.set i none) G t1 → Q t1) →
          wpAny (model X.prog X.w) X.A (do bindName X.env n .none; unbindBehindTheSuite X.env n q) (fun _ t1 => Q t1) X.xe t' := fun it' w => gone_ok (it'.unsuite ok) hN at_ lc w
      cases f with
      | ret u =>
        obtain ⟨_, _, _, it', ru, w⟩ := ht
        exact gone it' fun _ i1 => ⟨_, _, _, i1, ru, w⟩
      | next => obtain ⟨_, _, it', w⟩ := ht; exact gone it' fun _ i1 => ⟨_, _, i1, w⟩
      | brk => obtain ⟨_, _, it', w⟩ := ht; exact gone it' fun _ i1 => ⟨_, _, i1, w⟩
      | cont => obtain ⟨_, _, it', w⟩ := ht; exact gone it' fun _ i1 => ⟨_, _, i1, w⟩
/-- try: body / except x as n: .. / except y as n: .. -/
theorem ps_try_ases {body : List Stmt} {h1 : ExceptHandler} {hds : List ExceptHandler} {l : List Cla} {pos : Pos} {tb : WX → TS} {Wout : WX} (hs : X.stack = X.env :: X.outer) (hf : X.env.frame = some X.env.locals) (hN : X.N.Nodup) (tk : Takes X Wout)
    (hb : ∀ (W : WX) (pn : List (Addr × Obj)) (xe : Value → Shared → Prop), Takes (X.tr pn xe) W → PassesOwn (model X.prog X.w) X.A X.env xe → PSs (X.tr pn xe) body (tb W)) (hh : AsOk X (h1 :: hds) l) :
    PS X (.Try body (h1 :: hds) [] [] pos) (fun D σ H => tb (wAses X.K X.N.length Wout D l) D σ H) := by
  refine ⟨fun pins s σ H D I h => wpAny_Try_except ?_⟩
  have ok := I.ok
  have fr : X.A.frames = some (X.env :: X.outer) := ok.frames.trans (congrArg some hs)
  refine wpAny_mono ((hb (wAses X.K X.N.length Wout D l) (X.pn ++ pins) _ ?_ PassesOwn.looking).run [] s σ H D (I.toTry _) h) ?_ (fun _ _ w => w)
  · rintro u t ⟨z, B, s0, pins', σ', H', cls, d, rfl, I', nb, up, sky, na, os, ag, w⟩
    show wpAny (model X.prog X.w) X.A (noteFrame (.ref z) X.env) _ _ _
    have sky' : Sky B (X.env :: X.outer) z (Zc cls d) X.env.locals t.heap := hs ▸ sky
    exact Sky.land Zc.steady fr hf sky' fun k fk uk => ases_go (s := { t with heap := k }) hs hf hN tk ⟨I'.ofTry ok, nb, up.trans uk, fk, na, os, ag⟩ hh w
  · intro f t ht
    cases f with
    | next => obtain ⟨_, _, it, w⟩ := ht; exact wpAny_execs_nil ⟨_, _, it.ofTry ok, w⟩
    | brk => obtain ⟨_, _, it, w⟩ := ht; exact ⟨_, _, it.ofTry ok, w⟩
    | cont => obtain ⟨_, _, it, w⟩ := ht; exact ⟨_, _, it.ofTry ok, w⟩
    | ret u => obtain ⟨_, _, _, it, ru, w⟩ := ht; exact ⟨_, _, _, it.ofTry ok, ru, w⟩
end
/-! ### isinstance(e, c) of a caught exception with fields of its own -/
def rIsED (K : PySem.W.Frag) (D a dd : Addr) : List V → Hp → VK → Prop := fun vs H Q => ∃ (c : V) (cv : Value) (b : Bool) (fs : List (Str × V)), vs = [.ref a, c] ∧ clsD c = some cv ∧ PySem.W.kitOne K (.ref D) cv = some b ∧ H dd = some (.xd fs) ∧ Q (.bl b) H
theorem call_isED {X : Cx} {a D dd : Addr} {o : Obj} {pn : List (Addr × Obj)} (C : ExcC X.K D) (hz : Zc (.ref D) (some dd) o) (hf : ∃ vs, o.data = .fields vs) : CallR (X.suite a ((a, o) :: pn)) (.builtin "isinstance") (rIsED X.K D a dd) := by
  rintro pins s σ H xs us Q I r ⟨c, cv, b, fs, rfl, hc, e, hd, q⟩
  obtain ⟨u, us', rfl, ru, r⟩ : ∃ u us', us = u :: us' ∧ L2.RelV (.ref a) u ∧ Vals [c] us' := by cases r with | cons x y => exact ⟨_, _, rfl, x, y⟩
  obtain ⟨v, rfl, rv⟩ := vals1 r
  obtain rfl : u = Value.ref a := ru
  have ev : v = cv := by
    cases c with
    | ty n => cases hc; exact rv
    | ref A => cases hc; exact rv
    | _ => cases hc
  subst ev
  obtain ⟨g, _⟩ := I.pin (a, o) (List.mem_append_left _ List.mem_cons_self)
  obtain ⟨vs, hv⟩ := hf
  have hx : ObjOk X.prog X.w H s.heap dd (.xd fs) := I.hok dd _ hd
  obtain ⟨mA, hns, hr⟩ := hx
  obtain ⟨od, ho, _⟩ := lookIn_ns hns
  have J : PySem.W.InstAt s.heap a o D (some od) := ⟨g, hz.1, by unfold PySem.W.notCls; rw [hv] <;> rfl, by rw [hz.2]; exact ho⟩
  have cl : (PySem.W.clsIn X.K D).isSome = true := by
    obtain ⟨cd, h, _⟩ := PySem.W.any_some C.hd
    rw [h] <;> rfl
  exact PySem.W.kia_one (PySem.W.kitx_exc cl C.hg C.hk C.hs C.ha C.hn C.ht C.hm) I.kIn J e (fun z => nomatch z) fun tk => ⟨.bl b, H, I.kept (t' := tk) fun _ _ z => z, rfl, q⟩

/-- what is known of the exception NoCode -/
structure NoCodeT (K : PySem.W.Frag) (mg : Str → Option Value) (CN CE : Addr) : Prop where
  ex : ExcC K CN
  xf : XfC K CN
  no : PySem.W.findIn K (.ref CN) "field" = some none
  g_CodeError : mg "CodeError" = some (.ref CE)
  g_NoCode : mg "NoCode" = some (.ref CN)
  b_ValueError : mg "ValueError" = none
  i1 : PySem.W.kitOne K (.ref CN) (.ref CE) = some true
  i2 : PySem.W.kitOne K (.ref CN) (.type "ValueError") = some true
  em : PySem.W.exmOne K (.ref CN) (.ref CN) = some true
/-- the def that catches: what it makes of what it calls -/
def TTCaught (CN : Addr) : (XK → Hp → VK → Prop) → Hp → VK → Prop := fun tl H Q =>
  tl (fun cls d H' => cls = .ref CN ∧ ∃ (dd : Addr) (v : V), d = some dd ∧ H' dd = some (.xd [("field", v)]) ∧ ∀ p H'', H' p = none → Same H' H'' → H'' p = some (.tup [.str "code", v]) → Q (.ref p) H'') H (fun _ H1 => Q .non H1)
section
variable {X : Cx}
abbrev scaught : Stmt := top 48
theorem sccaught : FnScope ["_law_ask", "e"] ["_law_ask"] (defScope scaught) := ⟨rfl, rfl, rfl, by decide +kernel, rfl, by decide +kernel, by decide +kernel⟩

theorem r_isED {K : PySem.W.Frag} {D a dd : Addr} {vs : List V} {H : Hp} {Q : VK} : rIsED K D a dd vs H Q = ∃ (c : V) (cv : Value) (b : Bool) (fs : List (Str × V)), vs = [.ref a, c] ∧ clsD c = some cv ∧ PySem.W.kitOne K (.ref D) cv = some b ∧ H dd = some (.xd fs) ∧ Q (.bl b) H := rfl
theorem r_xf {a : Addr} {cls : Value} {d : Option Addr} {C : Addr} {f : Str} {te : TE} {σ : L2.St} {H : Hp} {Q : VK} : tXf a cls d C f te σ H Q = te σ H (fun x H1 => x = .ref a ∧ cls = .ref C ∧ ∃ (dd : Addr) (fs : List (Str × V)) (v : V), d = some dd ∧ H1 dd = some (.xd fs) ∧ fs.lookup f = some v ∧ Q v H1) := rfl
def trS (K : PySem.W.Frag) (CN CE z dd : Addr) : TS := tRet (tIf (tAnd (tB (tCB (rIsED K CN z dd) (tCons (tVar 1) (tCons (tC (.ref CE)) tNil)))) (tB (tCB (rIsED K CN z dd) (tCons (tVar 1) (tCons (tC (.ty "ValueError")) tNil)))))
  (tTup (tCons (tC (.str "code")) (tCons (tXf z (.ref CN) (some dd) CN "field" (tVar 1)) tNil))) (tC .non))
abbrev cau (X : Cx) (g : Addr) (cdg : Value) (s : Shared) (H : Hp) : Cx := (cxOf C8.CX0 X.prog X.w X.K X.mg X.base ["_law_ask", "e"] "_law_caught" (defScope scaught) g cdg X.A X.stack s H C8.E0).nox
theorem caught_gives {CN CE CT CR CB : Addr} {g : Addr} {cdg : Value} {q : Str} (T : Txt X.mg) (I : NoCodeT X.K X.mg CN CE) (gT : X.mg "NoTable" = some (.ref CT)) (gR : X.mg "NoRows" = some (.ref CR)) (gB : X.mg "NoBytes" = some (.ref CB)) :
    LamX.GivesTo X ["_law_ask", "e"] "_law_caught" (defScope scaught) g cdg (defBody scaught) "_law_ask" q (TTCaught CN) := by
  intro f c' s H Q tl act hc h
  have hN : (["_law_ask", "e"] : List Str).Nodup := by decide
  refine ⟨_, pss_cons (ps_try_ases (X := (cxOf C8.CX0 X.prog X.w X.K X.mg X.base ["_law_ask", "e"] "_law_caught" (defScope scaught) g cdg X.A X.stack s H C8.E0).nox)
    (tb := fun W D σ H => ∃ Ech : XK, (∀ cls d σ' H', Ech cls d H' → W cls d σ' H') ∧ σ[0]? = some (some (.ref f)) ∧ H c' = some (LamX.CodeO c' q) ∧ tl Ech H (fun _ H1 => D.nx σ H1))
    rfl rfl hN LamX.takes0 (fun W pn xe tk _ => ?_)
    (.cons (i := 1) (ts := fun z cls d D σ H => ∃ dd, cls = Value.ref CN ∧ d = some dd ∧ trS X.K CN CE z dd D σ H) ⟨rfl, by decide, .inl I.g_NoCode⟩ rfl rfl (fun z o cls d pn hz hf => ?_) (.cons (i := 1) ⟨rfl, by decide, .inl gT⟩ rfl rfl (fun z o cls d pn hz hf => pss_one ps_never)
      (.cons (i := 1) ⟨rfl, by decide, .inl gR⟩ rfl rfl (fun z o cls d pn hz hf => pss_one ps_never) (.cons (i := 1) ⟨rfl, by decide, .inl gB⟩ rfl rfl (fun z o cls d pn hz hf => pss_one ps_never) .nil)))))
    (pss_one (ps_ret pe_non)), ?_⟩
  · refine ⟨fun pins s' σ H' D I h' => ?_⟩
    obtain ⟨Ech, hW, h1, h2, h3⟩ := h'
    exact (pss_one (ps_expr (act W pn xe Ech _ _ tk hW))).run pins s' σ H' D I ⟨h1, h2, h3⟩
  · refine ⟨fun pins s' σ H' D J h' => ?_⟩
    obtain ⟨dd, rfl, rfl, h'⟩ := h'
    have is1 : CallR ((cau X g cdg s H).suite z ((z, o) :: pn)) (.builtin "isinstance") (rIsED X.K CN z dd) := call_isED (X := cau X g cdg s H) I.ex hz hf
    refine PSs.run ?_ pins s' σ H' D J h'
    exact pss_one (ps_ret (pe_ifExp (PW.pt (pw_and (pt_val (pe_callB is1 (by rfl) T.b_isinstance (by decide +kernel) (pa_cons (pv 1) (pa_cons (pe_glob (v := .ref _) rfl I.g_CodeError rfl) pa_nil)))) (pw_and1 (pt_val (pe_callB is1 (by rfl) T.b_isinstance (by decide +kernel) (pa_cons (pv 1) (pa_cons (pe_bltn (v := .ty "ValueError") (by rfl) I.b_ValueError (by decide +kernel) rfl) pa_nil)))))))
      (pe_tup (pa_cons pe_str (pa_cons (pe_xf (X := cau X g cdg s H) I.xf I.no hz hf (pv 1)) pa_nil))) pe_non))
  · refine ⟨_, ?_, rfl, hc, h⟩
    rintro cls d σ' H' ⟨rfl, dd, v, rfl, hd, k⟩
    refine ⟨true, I.em, fun _ z hz hl => ⟨dd, rfl, rfl, ?_⟩, fun e => nomatch e⟩
    obtain ⟨y0, y1, rfl⟩ : ∃ y0 y1, σ' = [y0, y1] := by
      match σ', hl with
      | [y0, y1], _ => exact ⟨y0, y1, rfl⟩
    show trS X.K CN CE z dd _ [y0, some (.ref z)] H'
    unfold trS
    have i1 := I.i1
    have i2 := I.i2
    simp only [r_seq, r_next, r_brk, r_cont, r_asg, r_name, r_ret, r_retN, r_drop, r_ifs, r_never, r_var, r_c, r_op, r_un, r_if, r_tst, r_b, r_not, r_and, r_or, r_andV, r_orV, r_notV, r_nil, r_cons, r_tup, r_lst, r_cb, r_call, r_bm, r_bm0, r_sl, r_nopart, r_part, r_rev, r_gnil, r_gcons, r_gsub, r_par, r_aug, r_chain, r_I0, r_I, r_U, r_ixd, r_lend, r_tupd, r_listd, r_sld, r_app, r_ext, r_reverse, r_setl, r_cat, r_int1, r_eqS, r_neS, scal_ii, scal_bb, scal_ss, at0, at1, at2, sq_lst, sq_tup, isLst_lst, List.getElem?_cons_zero, List.getElem?_cons_succ, List.set_cons_zero, List.set_cons_succ, V.int.injEq, V.bl.injEq, V.ref.injEq, V.str.injEq, HO.lst.injEq, HO.tup.injEq, Option.some.injEq, exists_eq_left', exists_eq_left, List.cons.injEq, and_true, true_and, decide_eq_true_eq, reduceCtorEq, false_and, exists_false, or_false, false_or, exists_const, and_assoc, exists_and_left, List.append_nil, ix0, ix1, ix2, cm_mod, cdw1009, cdw2003, cdw7, cdw64, cdw2, cm104729, cm2, cm3, upd_same, List.length_cons, List.length_nil, Int.reduceLT, Int.reduceLE, Nat.reduceAdd, Nat.reduceLeDiff, Nat.reduceLT, Int.reduceToNat, r_for1, r_forL, r_forT, r_lcL, r_lc1, r_yes, r_gtupD, wipe_0, wipe_1, List.cons_append, List.nil_append, r_forS, r_ipI, ite_false, ite_true, Bool.not_true, Bool.not_false, decide_true, decide_false, r_isd, r_islt, cD_ty, cD_ref, tD_non, tD_bl, tD_int, tD_str, tD_ref, tH_lst, tH_tup, tH_dK, tH_ins, ki_self, ki_int_bool, ki_non_int, ki_str_int, ki_lt_lst, ki_lt_tup, r_fld, r_sfld, HO.ins.injEq, cx_K, hd, i1, i2, r_isED, r_xf]
    exact ⟨_, rfl, _, rfl, _, rfl, v, rfl, szl (by decide), fun p hp => k p _ hp (Same.new' (Same.refl H') hp) upd_same⟩
end
end C48

set_option maxHeartbeats 1000000
namespace C48
open PySem PySem.Spec PyProof.Rows L2
/-! ### enumerate of a tuple -/
section
variable {prog : Program} {w : World} {A : Around} {E : Value → Shared → Prop} {s : Shared}
theorem meets_enumerate_newT (l : Addr) (items : Array Value) (n : Nat) (dct : Option Addr) (sl : Array (Option Value)) :
    Meets (Builtin.«enumerate.__new__» ⟨[.type "enumerate", .ref l], []⟩) (fun _ R s => s.heap.get? l = some { cls := .type "tuple", dict := dct, data := .seq items n, slots := sl } ∧
      R (.ok (.ret (.ref (s.heap.push { cls := .type "tuple_iterator", data := .fields #[.ref l, .int 0 0] }).objs.size)))
        { s with heap := (s.heap.push { cls := .type "tuple_iterator", data := .fields #[.ref l, .int 0 0] }).push { cls := .type "enumerate", data := .fields #[.none, .bool false, .ref s.heap.objs.size, rawInt 0, .none, .none] } }) :=
  .of_wp fun prog w A R s h => by
    obtain ⟨hp, g, d, tk, os⟩ := s; obtain ⟨hl, h⟩ := h
    have hsub := sub_enumerate
    have hL : Heap.IsTuple (Shared.heap ⟨hp, g, d, tk, os⟩) l items := ⟨_, hl, rfl, n, rfl⟩
    wp_walk using AutoSeq1.wpAny_loadPart' hl
    refine wpAny_stack_any fun st => wpAny_pure ?_
    split
    · rename_i c _ _ _ _ _
      cases (c == Value.type "enumerate")
      · wp_walk using AutoSeq1.wpAny_loadPart' hl, wpAny_pyIter_tuple hL
        exact ⟨_, rfl, h⟩
      · wp_walk using AutoSeq1.wpAny_loadPart' hl, wpAny_pyIter_tuple hL
        exact ⟨_, rfl, h⟩
    · wp_walk using AutoSeq1.wpAny_loadPart' hl, wpAny_pyIter_tuple hL
      exact ⟨_, rfl, h⟩
theorem call_enumerate_tuple {l : Addr} {items : Array Value} {Q : Value → Shared → Prop} (hL : s.heap.IsTuple l items)
    (h : ∀ h', IsEnum h' (s.heap.objs.size + 1) s.heap.objs.size 0 .none → h'.IsTupleIter s.heap.objs.size l 0 → h'.objs.size = s.heap.objs.size + 2 →
      (∀ b o, s.heap.get? b = some o → h'.get? b = some o) → Q (.ref (s.heap.objs.size + 1)) { s with heap := h' }) :
    wpAny (model prog w) A (call (.type "enumerate") [.ref l]) Q E s := by
  obtain ⟨⟨c, dct, dt, sl⟩, hl, hc, n, hd⟩ := hL
  replace hc : c = .type "tuple" := hc
  replace hd : dt = .seq items n := hd
  subst hc hd
  refine callType_new F.called_enumerate (by decide) (F.typeCall_enumerate_1 _) (F.newCall_enumerate_1 _) (fun obj => F.args_object_init_2 obj _) F.entry_enumerate_new
    (meets_enumerate_newT l items n dct sl) ⟨hl, ?_⟩
  have hz : (s.heap.push { cls := .type "tuple_iterator", data := .fields #[.ref l, .int 0 0] }).objs.size = s.heap.objs.size + 1 := Heap.size_push ..
  show _ ∧ _
  rw [hz]
  have he : IsEnum ((s.heap.push { cls := .type "tuple_iterator", data := .fields #[.ref l, .int 0 0] }).push
      { cls := .type "enumerate", data := .fields #[.none, .bool false, .ref s.heap.objs.size, rawInt 0, .none, .none] }) (s.heap.objs.size + 1) s.heap.objs.size 0 .none := by
    have := Heap.get?_push_size (s.heap.push { cls := .type "tuple_iterator", data := .fields #[.ref l, .int 0 0] })
      (o := { cls := .type "enumerate", data := .fields #[.none, .bool false, .ref s.heap.objs.size, rawInt 0, .none, .none] }) rfl
    rw [hz] at this; exact this
  refine ⟨⟨_, he, rfl⟩, h _ he ⟨_, Heap.get?_push_of_some _ (Heap.get?_push_size _ rfl), rfl, rfl⟩ (by rw [Heap.size_push, hz]) fun b o x => Heap.get?_push_of_some _ (Heap.get?_push_of_some _ x)⟩
end
/-- the tuple at a, each item in a new pair -/
def IteT (K : PySem.W.Frag) (a : Addr) : It :=
  ⟨fun i H => ∃ (xs : List V) (x : V), SqT K H a xs ∧ xs[i]? = some x, fun i H v H' => ∃ T x, v = .ref T ∧ H T = none ∧ H' = L2.upd H T (.tup [.int (i : Nat), x]) ∧ ∀ xs, SqT K H a xs → xs[i]? = some x, fun i H => ∃ xs : List V, SqT K H a xs ∧ xs.length ≤ i⟩
theorem turn_enumT {P : Program} {w : World} {K : PySem.W.Frag} {elts : List Expr} {kk : Nat} {tpos : Pos} (a e it : Addr) (hai : a ≠ it) (hea : e ≠ a) :
    Turn P w K (.Tuple elts kk tpos) (IteT K a) [e, it] e (fun i h => (∃ old, IsEnum h e it ((i : Nat) : Int) old) ∧ h.IsTupleIter it a i ∧ e ≠ it) where
  mem := by simp
  obj := fun i h st b hb => by
    obtain ⟨⟨old, he⟩, ⟨o, ho, hc, hd⟩, _⟩ := st
    have e' : b = e ∨ b = it := by simpa using hb
    rcases e' with z | z
    · rw [z]; exact ⟨_, he, fun v q => nomatch q⟩
    · rw [z]; exact ⟨o, ho, fun v q => by rw [hd] at q; cases q⟩
  keep := fun i h h' st k => let ⟨⟨old, he⟩, hi, hne⟩ := st; ⟨⟨old, k e (by simp) _ he⟩, hi.at fun o q => k it (by simp) o q, hne⟩
  item := by
    intro X hP hw hK hc i pins s σ H E I hf st hg
    subst hP hw hK
    obtain ⟨⟨old, he⟩, hit, hne⟩ := st
    obtain ⟨xs, x, hq, hx⟩ := hg
    obtain ⟨its, rv, p, hz⟩ := I.tuple hq
    have p' : s.heap.IsTuple a its.toArray := p
    obtain ⟨u, hu, ru⟩ := rv.get hx
    have hel : e < s.heap.objs.size := Heap.lt_size he
    have hil : it < s.heap.objs.size := by obtain ⟨_, q, _⟩ := hit; exact Heap.lt_size q
    have hli : i < its.toArray.size := by
      have := (List.getElem?_eq_some_iff.mp hu).1
      simpa using this
    refine wpAny_pyNext_enum_itemD (Draws.tuple (A := X.A.in1) (I.ok.hd hc) it a hai its.toArray) he ⟨hit, p'⟩ hli hne (by simp [hne, hea]) fun u2 h' tk hu2 ho hst hT hsz hk => ?_
    obtain rfl : u2 = u := by
      have e1 : its.toArray[i]? = some u := by simpa using hu
      rw [e1] at hu2
      exact (Option.some.inj hu2).symm
    have hit' := hst.1
    refine ⟨_, rfl, wpAny_letOwnedTupleGo_enum (s := { s with heap := h', toks := tk + 1 }) ho fun h'' he' sb => ?_⟩
    have hT2 : h''.get? s.heap.objs.size = some { cls := .type "tuple", data := .seq #[.int i tk, u2] } := (sb.2 _ (Nat.ne_of_gt hel)).trans hT
    have new : ObjOk X.prog X.w (L2.upd H s.heap.objs.size (.tup [.int (i : Nat), x])) h'' s.heap.objs.size (.tup [.int (i : Nat), x]) :=
      ⟨by show 2 ≤ sizeLine; decide, [.int i tk, u2], .cons ⟨_, rfl⟩ (.cons ru .nil), ⟨_, hT2, rfl, _, rfl⟩⟩
    have I1 : Inv X pins σ (L2.upd H s.heap.objs.size (.tup [.int (i : Nat), x])) { s with heap := h'', toks := tk + 1 } :=
      I.turnedNew (ch := [e, it]) (fun b ob hb q => (sb.2 b (fun z => hb (by simp [z]))).trans (hk b ob (fun z => hb (by simp [z])) (fun z => hb (by simp [z])) q)) hf (Nat.le_refl _) new
    refine ⟨.ref s.heap.objs.size, _, I1, rfl, ⟨_, x, rfl, I.hok.fresh (Nat.le_refl _), rfl, fun ys hy => by rw [I.tuple_inj hy hq]; exact hx⟩, ⟨⟨u2, ?_⟩, hit'.at fun o q => (sb.2 it (Ne.symm hne)).trans q, hne⟩, fun b hb => ?_⟩
    · have e1 : ((i + 1 : Nat) : Int) = (i : Int) + 1 := by omega
      rw [e1]; exact he'
    · have hb' : b < s.heap.objs.size := by
        have e' : b = e ∨ b = it := by simpa using hb
        rcases e' with z | z
        · rw [z]; exact hel
        · rw [z]; exact hil
      rw [upd_ne (Nat.ne_of_lt hb')]
      exact (hf b hb).1
  done := by
    intro X hP hw hK hc i pins s σ H E I hf st hg
    subst hP hw hK
    obtain ⟨⟨old, he⟩, hit, hne⟩ := st
    obtain ⟨xs, hq, hx⟩ := hg
    obtain ⟨its, rv, p, hz⟩ := I.tuple hq
    have p' : s.heap.IsTuple a its.toArray := p
    obtain ⟨f0, f1, f2, f3, f4, f5⟩ := hf it (by simp)
    have hl := rv.length
    have hT : s.TypeIs (.ref e) "enumerate" := ⟨_, he, rfl⟩
    unfold pyNext
    refine wpAny_bind (wpAny_attempt (wpAny_callSpecial?_slot (name := Str.ofString "__next__") hT F.slot_enumerate_next
      (wpAny_call_entry F.slot_enumerate_next hT F.entry_enumerate_next ?_ (F.args_enumerate_next_1 _))))
    show wpAny _ _ (field (.ref e) 2 >>= _) _ _ _
    refine wpAny_bind (wpAny_field he rfl (x := .ref it) rfl ?_)
    refine wpAny_bind (wpAny_nextOf_tuple_end (I.ok.hd hc) hit p' (by simp; omega) fun h' e2 he' hx' => ?_)
    obtain ⟨o, ho, hc2⟩ := hx'
    refine wpAny_bind (wpAny_isInstance (T := "StopIteration") (b := true) ⟨o, ho, hc2⟩ isSubtype_stop ?_)
    exact wpAny_pure ⟨rfl, I.turned (t' := s.toks) (fun b o hb q => he' b o hb q) f0 f1 f3 f4 f5⟩
  self := fun A i s Q E st h => let ⟨⟨_, he⟩, _⟩ := st; wpAny_pyIter_enum he h
/-- enumerate(xs), xs a list or a tuple -/
def iEnumS (K : PySem.W.Frag) (ta : TA) : TI := fun σ H R => ta σ H fun vs H1 => ∃ a, vs = [.ref a] ∧ (((∃ xs, H1 a = some (.lst xs)) ∧ R (Ite K a) H1) ∨ ((∃ xs, H1 a = some (.tup xs)) ∧ R (IteT K a) H1))
theorem pi_enumS {X : Cx} {e : Expr} {ta : TA} {p pos tpos : Pos} {elts : List Expr} {kk : Nat} (hg : Gl X "enumerate") (hm : X.mg "enumerate" = none) (ha : PA X [e] ta) (hs : starEach [e] X.env = [(false, eval e X.env)] := by rfl) :
    PI X (.Tuple elts kk tpos) (.Call (.Name "enumerate" p) [e] [] pos) (iEnumS X.K ta) := by
  refine ⟨fun pins s σ H R I h => ?_⟩
  refine Call_ (ld_blt I hg hm boot_enumerate (PyProof.Rows.callWith_type1 (thn (ha.run pos pins s σ H _ I h) fun us s1 ⟨vs, H1, I1, r1, q1⟩ => ?_) hs rfl))
  obtain ⟨a, ex, q1⟩ := q1
  subst ex
  cases r1 with
  | cons r rr =>
    cases rr
    cases r
    rcases q1 with ⟨⟨xs, hq⟩, q⟩ | ⟨⟨xs, hq⟩, q⟩
    · obtain ⟨its, rv, p', hz⟩ := I1.list (SqL.of hq)
      refine call_enumerate_list p'.isList fun h' he hit hsz hk => wpAny_pyIter_enum he ?_
      have I2 : Inv X pins σ H1 { s1 with heap := h' } := I1.kept (t' := s1.toks) hk
      refine ⟨s1.heap.objs.size + 1, [s1.heap.objs.size + 1, s1.heap.objs.size], _, _, H1, rfl, I2, turn_enum a (s1.heap.objs.size + 1) s1.heap.objs.size, ⟨⟨.none, he⟩, hit, Nat.succ_ne_self _⟩, fun b hb => ?_, q⟩
      have e' : b = s1.heap.objs.size + 1 ∨ b = s1.heap.objs.size := by simpa using hb
      have hle : s1.heap.objs.size ≤ b := by
        rcases e' with z | z
        · rw [z]; exact Nat.le_add_right _ _
        · rw [z]; exact Nat.le_refl _
      exact I1.fpOk hle (I1.hok.fresh hle)
    · obtain ⟨its, rv, p', hz⟩ := I1.tuple (SqT.of hq)
      have p2 : s1.heap.IsTuple a its.toArray := p'
      have hal : a < s1.heap.objs.size := by obtain ⟨o, q, _⟩ := p2; exact Heap.lt_size q
      refine call_enumerate_tuple p2 fun h' he hit hsz hk => wpAny_pyIter_enum he ?_
      have I2 : Inv X pins σ H1 { s1 with heap := h' } := I1.kept (t' := s1.toks) hk
      refine ⟨s1.heap.objs.size + 1, [s1.heap.objs.size + 1, s1.heap.objs.size], _, _, H1, rfl, I2, turn_enumT a (s1.heap.objs.size + 1) s1.heap.objs.size (Nat.ne_of_lt hal) (Nat.ne_of_gt (Nat.lt_succ_of_lt hal)), ⟨⟨.none, he⟩, hit, Nat.succ_ne_self _⟩, fun b hb => ?_, q⟩
      have e' : b = s1.heap.objs.size + 1 ∨ b = s1.heap.objs.size := by simpa using hb
      have hle : s1.heap.objs.size ≤ b := by
        rcases e' with z | z
        · rw [z]; exact Nat.le_add_right _ _
        · rw [z]; exact Nat.le_refl _
      exact I1.fpOk hle (I1.hok.fresh hle)

/-! ### enumerate as a loop -/
theorem lp_enum {K : PySem.W.Frag} {g : TG} {tb : TS} {D : Ends} {σ : L2.St} {H : Hp} {a : Addr} {xs : List V} (h : sq (H a) = some xs) (Pv : Nat → L2.St → Hp → Prop) (h0 : Pv 0 σ H) (hl : ∀ i σ H', Pv i σ H' → H' a = H a)
    (hs : ∀ i x σ H, xs[i]? = some x → Pv i σ H → ∀ T, H T = none → g (.ref T) σ (L2.upd H T (.tup [.int (i : Nat), x])) fun σ2 H2 => tb { D with nx := Pv (i + 1), ct := Pv (i + 1), bk := D.nx } σ2 H2) (hd : ∀ σ H, Pv xs.length σ H → D.nx σ H) :
    ((∃ xs, H a = some (.lst xs)) ∧ LoopR (Ite K a) g tb D σ H) ∨ ((∃ xs, H a = some (.tup xs)) ∧ LoopR (IteT K a) g tb D σ H) := by
  rcases sq_cases h with e | e
  · refine .inl ⟨⟨_, e⟩, fun i m σ H => m = xs.length - i ∧ i ≤ xs.length ∧ Pv i σ H, ⟨_, rfl, Nat.zero_le _, h0⟩, ?_⟩
    rintro i m σ H' ⟨rfl, hi, p⟩
    have hq : SqL K H' a xs := SqL.of (by rw [hl i σ H' p, e])
    by_cases c : i < xs.length
    · refine .inr ⟨⟨xs, xs[i], hq, List.getElem?_eq_getElem c⟩, Pv (i + 1), fun σ' H2 q => ⟨_, by omega, rfl, c, q⟩, fun v H2 y => ?_⟩
      obtain ⟨T, x, rfl, hT, rfl, hx⟩ := y
      exact hs i x σ H' (hx xs hq) p T hT
    · exact .inl ⟨⟨xs, hq, by omega⟩, hd σ H' (by rw [show xs.length = i from by omega]; exact p)⟩
  · refine .inr ⟨⟨_, e⟩, fun i m σ H => m = xs.length - i ∧ i ≤ xs.length ∧ Pv i σ H, ⟨_, rfl, Nat.zero_le _, h0⟩, ?_⟩
    rintro i m σ H' ⟨rfl, hi, p⟩
    have hq : SqT K H' a xs := SqT.of (by rw [hl i σ H' p, e])
    by_cases c : i < xs.length
    · refine .inr ⟨⟨xs, xs[i], hq, List.getElem?_eq_getElem c⟩, Pv (i + 1), fun σ' H2 q => ⟨_, by omega, rfl, c, q⟩, fun v H2 y => ?_⟩
      obtain ⟨T, x, rfl, hT, rfl, hx⟩ := y
      exact hs i x σ H' (hx xs hq) p T hT
    · exact .inl ⟨⟨xs, hq, by omega⟩, hd σ H' (by rw [show xs.length = i from by omega]; exact p)⟩
theorem r_forE {K : PySem.W.Frag} {ta : TA} {g : TG} {tb : TS} {D : Ends} {σ : L2.St} {H : Hp} : tFor (iEnumS K ta) g tb D σ H = ta σ H (fun vs H1 => ∃ a, vs = [.ref a] ∧ (((∃ xs, H1 a = some (.lst xs)) ∧ LoopR (Ite K a) g tb D σ H1) ∨ ((∃ xs, H1 a = some (.tup xs)) ∧ LoopR (IteT K a) g tb D σ H1))) := rfl

/-! ### reading a table of lines -/
abbrev Ent : Type := Nat × Option Int
def entsB (es : List Ent) : List Nat := (es.map fun e => entryL e.1 e.2).flatten
/-- where the entries end, and the line that they leave -/
def endB (es : List Ent) (b : Nat) : Nat := es.foldl (fun b e => b + 2 * e.1) b
def stepLn (l : Int) (e : Ent) : Int := l + e.2.getD 0
def endL (es : List Ent) (l : Int) : Int := es.foldl stepLn l
def rowOf (e : Ent) (b : Nat) (l : Int) : LR := ⟨b, b + 2 * e.1, e.2.map (l + ·)⟩
def rowsOf : List Ent → Nat → Int → List LR
  | [], _, _ => []
  | e :: es, b, l => rowOf e b l :: rowsOf es (b + 2 * e.1) (stepLn l e)
theorem rowsOf_snoc : ∀ (es : List Ent) (e : Ent) (b : Nat) (l : Int), rowsOf (es ++ [e]) b l = rowsOf es b l ++ [rowOf e (endB es b) (endL es l)]
  | [], e, b, l => rfl
  | x :: es, e, b, l => by
    show rowOf x b l :: rowsOf (es ++ [e]) (b + 2 * x.1) (stepLn l x) = _
    rw [rowsOf_snoc es e]
    rfl
theorem endB_snoc (es : List Ent) (e : Ent) (b : Nat) : endB (es ++ [e]) b = endB es b + 2 * e.1 := by
  unfold endB
  rw [List.foldl_append]
  rfl
theorem endL_snoc (es : List Ent) (e : Ent) (l : Int) : endL (es ++ [e]) l = stepLn (endL es l) e := by
  unfold endL
  rw [List.foldl_append]
  rfl
theorem entsB_snoc (es : List Ent) (e : Ent) : entsB (es ++ [e]) = entsB es ++ entryL e.1 e.2 := by
  unfold entsB
  rw [List.map_append, List.flatten_append]
  simp
theorem entsB_app (es fs : List Ent) : entsB (es ++ fs) = entsB es ++ entsB fs := by
  unfold entsB
  rw [List.map_append, List.flatten_append]
theorem rowsOf_len : ∀ (es : List Ent) (b : Nat) (l : Int), (rowsOf es b l).length = es.length
  | [], _, _ => rfl
  | e :: es, b, l => by
    show (rowsOf es _ _).length + 1 = es.length + 1
    rw [rowsOf_len es]
def EntOk (e : Ent) : Prop := 1 ≤ e.1 ∧ e.1 ≤ 8 ∧ ∀ n, e.2 = some n → -(2 ^ 60) < n ∧ n < 2 ^ 60
theorem entryL_pos (u : Nat) (m : Option Int) : 0 < (entryL u m).length := by
  cases m <;> simp [entryL]
def spLineRows (CC CN : Addr) : Sp := fun vs H Q E =>
  (∃ (c dx : Addr) (fs : List (Str × V)) (t : Addr) (first : Int) (es : List Ent), vs = [.ref c] ∧ H c = some (.ins CC dx fs) ∧ fs.lookup ("lines" : Str) = some (.ref t) ∧ fs.lookup ("line" : Str) = some (.int first) ∧ H t = some (.tup (vn (entsB es))) ∧ es.length ≤ 100000 ∧ (∀ e ∈ es, EntOk e) ∧
    ∀ F H', H F = none → Same H H' → LRows H' F (joinL (rowsOf es 0 first)) → Q (.ref F) H') ∨
  ∃ (x : V) (n : String), vs = [x] ∧ tyD CC H x = some (.type n) ∧ n ∈ ["NoneType", "int", "bool", "str", "list", "tuple", "dict"] ∧ ∀ d H', H d = none → Same H H' → H' d = some (.xd [("field", .str "code")]) → E (.ref CN) (some d) H'
/-! ### the line of each unit -/
def unitsL : List Ent → Int → List (Option Int)
  | [], _ => []
  | e :: es, l => List.replicate e.1 (e.2.map (l + ·)) ++ unitsL es (stepLn l e)
theorem unitsL_snoc : ∀ (es : List Ent) (e : Ent) (l : Int), unitsL (es ++ [e]) l = unitsL es l ++ List.replicate e.1 (e.2.map (endL es l + ·))
  | [], e, l => by
    show List.replicate e.1 (e.2.map (l + ·)) ++ [] = [] ++ List.replicate e.1 (e.2.map (l + ·))
    simp
  | x :: es, e, l => by
    show List.replicate x.1 (x.2.map (l + ·)) ++ unitsL (es ++ [e]) (stepLn l x) = (List.replicate x.1 (x.2.map (l + ·)) ++ unitsL es (stepLn l x)) ++ _
    rw [unitsL_snoc es e, List.append_assoc]
    rfl
theorem unitsL_len : ∀ {es : List Ent} (l : Int), (∀ e ∈ es, EntOk e) → (unitsL es l).length ≤ 8 * es.length
  | [], l, _ => Nat.le_refl _
  | e :: es, l, h => by
    have h1 := unitsL_len (stepLn l e) fun x hx => h x (List.mem_cons_of_mem _ hx)
    have h2 := (h e List.mem_cons_self).2.1
    show (List.replicate e.1 (e.2.map (l + ·)) ++ unitsL es (stepLn l e)).length ≤ 8 * (es.length + 1)
    rw [List.length_append, List.length_replicate]
    omega
def lvs (us : List (Option Int)) : List V := us.map lnV
def unitRows : List (Option Int) → Nat → List LR
  | [], _ => []
  | x :: r, b => ⟨b, b + 2, x⟩ :: unitRows r (b + 2)
theorem unitRows_app : ∀ (xs ys : List (Option Int)) (b : Nat), unitRows (xs ++ ys) b = unitRows xs b ++ unitRows ys (b + 2 * xs.length)
  | [], ys, b => rfl
  | x :: xs, ys, b => by
    show (⟨b, b + 2, x⟩ : LR) :: unitRows (xs ++ ys) (b + 2) = (⟨b, b + 2, x⟩ : LR) :: (unitRows xs (b + 2) ++ unitRows ys (b + 2 * (xs.length + 1)))
    rw [unitRows_app xs ys, show b + 2 + 2 * xs.length = b + 2 * (xs.length + 1) from by omega]
theorem rep_fold (x : Option Int) (b : Nat) (acc : List LR) : ∀ n : Nat, (unitRows (List.replicate (n + 1) x) b).foldl jstep acc = jstep acc ⟨b, b + 2 * (n + 1), x⟩
  | 0 => rfl
  | n + 1 => by
    rw [List.replicate_succ', unitRows_app, List.foldl_append, rep_fold x b acc n, List.length_replicate]
    exact jstep_two acc b (b + 2 * (n + 1)) (b + 2 * (n + 1) + 2) x
theorem units_fold : ∀ (es : List Ent) (b : Nat) (l : Int) (acc : List LR), (∀ e ∈ es, EntOk e) → (unitRows (unitsL es l) b).foldl jstep acc = (rowsOf es b l).foldl jstep acc
  | [], b, l, acc, _ => rfl
  | e :: es, b, l, acc, h => by
    have h1 := (h e List.mem_cons_self).1
    show (unitRows (List.replicate e.1 (e.2.map (l + ·)) ++ unitsL es (stepLn l e)) b).foldl jstep acc = (rowsOf es (b + 2 * e.1) (stepLn l e)).foldl jstep (jstep acc (rowOf e b l))
    obtain ⟨n, hn⟩ : ∃ n, e.1 = n + 1 := ⟨e.1 - 1, by omega⟩
    rw [unitRows_app, List.foldl_append, List.length_replicate, units_fold es _ _ _ fun x hx => h x (List.mem_cons_of_mem _ hx)]
    unfold rowOf
    rw [hn, rep_fold]
theorem units_join {es : List Ent} (l : Int) (h : ∀ e ∈ es, EntOk e) : joinL (unitRows (unitsL es l) 0) = joinL (rowsOf es 0 l) := units_fold es 0 l [] h
theorem units_next {us : List (Option Int)} {i : Nat} (h : i < us.length) : joinL (unitRows (us.take (i + 1)) 0) = jstep (joinL (unitRows (us.take i) 0)) ⟨2 * i, 2 * i + 2, us[i]⟩ := by
  rw [← List.take_append_getElem h, unitRows_app, List.length_take, Nat.min_eq_left (Nat.le_of_lt h), Nat.zero_add]
  exact joinL_snoc _ _
theorem lvs_rep (n : Nat) (x : Option Int) : (List.replicate n [lnV x]).flatten = lvs (List.replicate n x) := by
  induction n with
  | zero => rfl
  | succ n ih => rw [List.replicate_succ, List.flatten_cons, ih, List.replicate_succ]; rfl
theorem lvs_app (xs ys : List (Option Int)) : lvs (xs ++ ys) = lvs xs ++ lvs ys := List.map_append
theorem ne_ln {K : PySem.W.Frag} {H : Hp} {a b : Option Int} {Q : VK} (k : Q (.bl (!decide (a = b))) H) : rNeD K (lnV a) (lnV b) H Q := ⟨_, _, dp_ln a, dp_ln b, shaped_ln a, shaped_ln b, by rw [eqv_ln]; exact k⟩
def spUnits (CC : Addr) : Sp := fun vs H Q _ => ∃ (c dx : Addr) (fs : List (Str × V)) (t : Addr) (first : Int) (es : List Ent), vs = [.ref c] ∧ H c = some (.ins CC dx fs) ∧ fs.lookup ("lines" : Str) = some (.ref t) ∧ fs.lookup ("line" : Str) = some (.int first) ∧ H t = some (.tup (vn (entsB es))) ∧ es.length ≤ 100000 ∧ (∀ e ∈ es, EntOk e) ∧
    ∀ F H', H F = none → Same H H' → H' F = some (.lst (lvs (unitsL es first))) → Q (.ref F) H'
def lvLU (H : Hp) (c t F : Addr) (es : List Ent) (first : Int) (σ : L2.St) (H' : Hp) : Prop := ∃ (i : Nat) (v1 v2 : Option V), i ≤ es.length ∧ σ = [some (.ref c), some (.ref t), some (.int (endL (es.take i) first)), some (.ref F), some (.int ((entsB (es.take i)).length : Int)), v1, v2] ∧
  Same H H' ∧ H' F = some (.lst (lvs (unitsL (es.take i) first)))
def msLU (m : Nat) (σ : L2.St) : Nat := match σ with
  | _ :: _ :: _ :: _ :: some (.int a) :: _ => m - a.toNat
  | _ => 0
theorem zig_even {d : Int} {z : Nat} (h : zig d = z) (e : z % 2 = 0) : ((z : Nat) : Int) / 2 = d := by
  have q := zag_zig d
  rw [h] at q
  unfold zag at q
  rw [if_pos e] at q
  omega
section
variable {P : Program} {w : World} {K : PySem.W.Frag} {mg : Str → Option Value} {base : Heap} {f : Addr} {fd : FuncData}
abbrev sline_rows : Stmt := top 30
theorem scline_rows : FnScope ["code", "lines", "found", "begin", "unit", "line"] ["code"] (defScope sline_rows) := ⟨rfl, rfl, rfl, by decide +kernel, rfl, by decide +kernel, by decide +kernel⟩

abbrev slines_of_units : Stmt := top 31
theorem sclines_of_units : FnScope ["code", "table", "line", "found", "at", "first", "more"] ["code"] (defScope slines_of_units) := ⟨rfl, rfl, rfl, by decide +kernel, rfl, by decide +kernel, by decide +kernel⟩

theorem ok_lines_of_units {CC : Addr} (T : Txt mg) (I : CodeT K mg CC) (F : FnP K "lines_of_units" "lines_of_units" slines_of_units f fd)
    (C_signed_number : Cal P w K mg base 1 "signed_number" ["table", "at"] spSignedN) : FnOk P w K mg base CX0 2 f fd ["code"] (spUnits CC) := by
  refine F.ok sclines_of_units (fun vs H Q E h => ?_) (fun cdv A outer s H vs Q E hr h => ?_)
  · obtain ⟨c, dx, fs, t, first, es, rfl, _⟩ := h
    rfl
  · refine ⟨_, PSs.nox (pss_cons (ps_set (i := 1) sclines_of_units.nd rfl (Or.inl rfl) (pe_fld (pv 0) rfl))
  (pss_cons (ps_set (i := 2) sclines_of_units.nd rfl (Or.inl rfl) (pe_fld (pv 0) rfl))
  (pss_cons (ps_set (i := 3) sclines_of_units.nd rfl (Or.inl rfl) (pe_lst pa_nil))
  (pss_cons (ps_set (i := 4) sclines_of_units.nd rfl (Or.inl rfl) pe_int)
  (pss_cons (ps_while PassesOwn.never (pt_cmpR op_lt (pv 4) (pe_callB call_len_d (by rfl) T.b_len (by decide +kernel) (pa_cons (pv 1) pa_nil)) (nomark _))
    (pss_cons (ps_set (i := 5) sclines_of_units.nd rfl (Or.inl rfl) (pe_ix ix_d (pv 1) (pv 4) (fun _ _ => rfl)))
  (pss_cons (ps_aug (i := 4) sclines_of_units.nd rfl (.inl rfl) pe_int ip_add)
  (pss_cons (ps_if (pt_cmpR op_ge (pv 5) (pe_gi T.g_WITHOUT_LINE) (nomark _))
    (pss_cons (ps_expr (pe_bm PySem.F.plainAttrs_list PySem.F.slot_list_extend PySem.F.type_list_extend mt_extend (pv 3) (pa_cons (pe_op op_rep (pe_lst (pa_cons pe_non pa_nil)) (pe_op op_add (pe_op op_sub (pv 5) (pe_gi T.g_WITHOUT_LINE)) pe_int)) pa_nil)))
  (pss_one ps_continue))
    pss_nil)
  (pss_cons (ps_if (pt_not (pt_chain op_le op_lt (pe_gi T.g_WITH_LINE) (pv 5) (pe_op op_add (pe_gi T.g_WITH_LINE) (pe_gi T.g_MOST_UNITS))))
    (pss_one ps_never)
    pss_nil)
  (pss_cons (ps_if (PW.pt (pw_and (pt_cmpR op_lt (pv 4) (pe_callB call_len_d (by rfl) T.b_len (by decide +kernel) (pa_cons (pv 1) pa_nil)) (nomark _)) (pw_and (pt_cmpR op_lt (pe_ix ix_d (pv 1) (pv 4) (fun _ _ => rfl)) (pe_gi T.g_GOES_ON) (nomark _)) (pw_and1 (pt_not (pt_truth (pe_op op_and (pe_ix ix_d (pv 1) (pv 4) (fun _ _ => rfl)) pe_int) (by intro _; rfl)))))))
    (pss_cons (ps_aug (i := 2) sclines_of_units.nd rfl (.inl rfl) (pe_op op_shr (pe_ix ix_d (pv 1) (pv 4) (fun _ _ => rfl)) pe_int) ip_add)
  (pss_one (ps_aug (i := 4) sclines_of_units.nd rfl (.inl rfl) pe_int ip_add)))
    (pss_cons (ps_asg (pe_cal C_signed_number (hr.mono (by decide)) rfl (pa_cons (pv 1) (pa_cons (pv 4) pa_nil))) (pg_tupD (n := 2) rfl (pgs_cons (pg_name (i := 6) sclines_of_units.nd rfl (Or.inl rfl)) (pgs_cons (pg_name (i := 4) sclines_of_units.nd rfl (Or.inl rfl)) pgs_nil))))
  (pss_one (ps_aug (i := 2) sclines_of_units.nd rfl (.inl rfl) (pv 6) ip_add))))
  (pss_one (ps_expr (pe_bm PySem.F.plainAttrs_list PySem.F.slot_list_extend PySem.F.type_list_extend mt_extend (pv 3) (pa_cons (pe_op op_rep (pe_lst (pa_cons (pv 2) pa_nil)) (pe_op op_add (pe_op op_sub (pv 5) (pe_gi T.g_WITH_LINE)) pe_int)) pa_nil))))))))))
  (pss_one (ps_ret (pv 3)))))))), ?_⟩
    obtain ⟨c, dx, fs, t, first, es, rfl, hc, hl, hf, ht, hz, hok, k⟩ := h
    show (_ : TS) _ [some (.ref c), none, none, none, none, none, none] H
    have na := I.na "lines" (by decide)
    have nb := I.na "line" (by decide)
    have cl := I.cI.cl
    simp only [r_seq, r_next, r_brk, r_cont, r_asg, r_name, r_ret, r_retN, r_drop, r_ifs, r_never, r_var, r_c, r_op, r_un, r_if, r_tst, r_b, r_not, r_and, r_or, r_andV, r_orV, r_notV, r_nil, r_cons, r_tup, r_lst, r_cb, r_call, r_bm, r_bm0, r_sl, r_nopart, r_part, r_rev, r_gnil, r_gcons, r_gsub, r_par, r_aug, r_chain, r_I0, r_I, r_U, r_ixd, r_lend, r_tupd, r_listd, r_sld, r_app, r_ext, r_reverse, r_setl, r_cat, r_int1, r_eqS, r_neS, scal_ii, scal_bb, scal_ss, at0, at1, at2, sq_lst, sq_tup, isLst_lst, List.getElem?_cons_zero, List.getElem?_cons_succ, List.set_cons_zero, List.set_cons_succ, V.int.injEq, V.bl.injEq, V.ref.injEq, V.str.injEq, HO.lst.injEq, HO.tup.injEq, Option.some.injEq, exists_eq_left', exists_eq_left, List.cons.injEq, and_true, true_and, decide_eq_true_eq, reduceCtorEq, false_and, exists_false, or_false, false_or, exists_const, and_assoc, exists_and_left, List.append_nil, ix0, ix1, ix2, cm_mod, cdw1009, cdw2003, cdw7, cdw64, cdw2, cm104729, cm2, cm3, upd_same, List.length_cons, List.length_nil, Int.reduceLT, Int.reduceLE, Nat.reduceAdd, Nat.reduceLeDiff, Nat.reduceLT, Int.reduceToNat, r_for1, r_forL, r_forT, r_lcL, r_lc1, r_yes, r_gtupD, wipe_0, wipe_1, List.cons_append, List.nil_append, r_forS, r_ipI, ite_false, ite_true, Bool.not_true, Bool.not_false, decide_true, decide_false, r_isd, r_islt, cD_ty, cD_ref, tD_non, tD_bl, tD_int, tD_str, tD_ref, tH_lst, tH_tup, tH_dK, tH_ins, ki_self, ki_int_bool, ki_non_int, ki_str_int, ki_lt_lst, ki_lt_tup, r_fld, r_sfld, HO.ins.injEq, cx_K, hc, hl, hf, na, nb, cl]
    refine ⟨szl (by decide), fun F hF => ?_⟩
    have FH : ∀ {b : Addr} {o : HO}, H b = some o → b ≠ F := fun e => ne_new e hF
    refine while_d (lvLU H c t F es first) (fun σ _ => msLU (entsB es).length σ) ⟨0, none, none, Nat.zero_le _, rfl, Same.new' (Same.refl H) hF, by rw [upd_same]; rfl⟩ ?_
    rintro σ H1 ⟨i, v1, v2, hi, rfl, s1, hacc⟩
    have ht1 := s1 t _ ht
    have hsplit : entsB es = entsB (es.take i) ++ entsB (es.drop i) := by
      conv => lhs; rw [← List.take_append_drop i es]
      rw [entsB_app]
    refine ⟨decide (i < es.length), fun QT q => ?_, fun cc => ?_, fun cc => ?_⟩
    · have e : decide (((entsB (es.take i)).length : Int) < ((vn (entsB es)).length : Int)) = decide (i < es.length) := decide_eq_decide.mpr (by
        rw [vn_len, hsplit, List.length_append]
        constructor
        · intro h
          by_cases c2 : i < es.length
          · exact c2
          · rw [List.drop_of_length_le (by omega)] at h
            simp [entsB] at h
        · intro h
          have : 0 < (entsB (es.drop i)).length := by
            rw [List.drop_eq_getElem_cons h]
            unfold entsB
            rw [List.map_cons, List.flatten_cons, List.length_append]
            have := entryL_pos es[i].1 es[i].2
            omega
          omega)
      simp only [r_seq, r_next, r_brk, r_cont, r_asg, r_name, r_ret, r_retN, r_drop, r_ifs, r_never, r_var, r_c, r_op, r_un, r_if, r_tst, r_b, r_not, r_and, r_or, r_andV, r_orV, r_notV, r_nil, r_cons, r_tup, r_lst, r_cb, r_call, r_bm, r_bm0, r_sl, r_nopart, r_part, r_rev, r_gnil, r_gcons, r_gsub, r_par, r_aug, r_chain, r_I0, r_I, r_U, r_ixd, r_lend, r_tupd, r_listd, r_sld, r_app, r_ext, r_reverse, r_setl, r_cat, r_int1, r_eqS, r_neS, scal_ii, scal_bb, scal_ss, at0, at1, at2, sq_lst, sq_tup, isLst_lst, List.getElem?_cons_zero, List.getElem?_cons_succ, List.set_cons_zero, List.set_cons_succ, V.int.injEq, V.bl.injEq, V.ref.injEq, V.str.injEq, HO.lst.injEq, HO.tup.injEq, Option.some.injEq, exists_eq_left', exists_eq_left, List.cons.injEq, and_true, true_and, decide_eq_true_eq, reduceCtorEq, false_and, exists_false, or_false, false_or, exists_const, and_assoc, exists_and_left, List.append_nil, ix0, ix1, ix2, cm_mod, cdw1009, cdw2003, cdw7, cdw64, cdw2, cm104729, cm2, cm3, upd_same, List.length_cons, List.length_nil, Int.reduceLT, Int.reduceLE, Nat.reduceAdd, Nat.reduceLeDiff, Nat.reduceLT, Int.reduceToNat, r_for1, r_forL, r_forT, r_lcL, r_lc1, r_yes, r_gtupD, wipe_0, wipe_1, List.cons_append, List.nil_append, r_forS, r_ipI, ite_false, ite_true, Bool.not_true, Bool.not_false, decide_true, decide_false, r_isd, r_islt, cD_ty, cD_ref, tD_non, tD_bl, tD_int, tD_str, tD_ref, tH_lst, tH_tup, tH_dK, tH_ins, ki_self, ki_int_bool, ki_non_int, ki_str_int, ki_lt_lst, ki_lt_tup, r_fld, r_sfld, HO.ins.injEq, cx_K, ht1, e]
      exact q
    · have c0 : i < es.length := of_decide_eq_true cc
      obtain ⟨e, hE⟩ : ∃ e, e = es[i] := ⟨_, rfl⟩
      have ok := hok e (by rw [hE]; exact List.getElem_mem c0)
      have tk : es.take (i + 1) = es.take i ++ [e] := by rw [hE, List.take_append_getElem c0]
      have nL : endL (es.take (i + 1)) first = stepLn (endL (es.take i) first) e := by rw [tk, endL_snoc]
      have nE : entsB (es.take (i + 1)) = entsB (es.take i) ++ entryL e.1 e.2 := by rw [tk, entsB_snoc]
      have nU : unitsL (es.take (i + 1)) first = unitsL (es.take i) first ++ List.replicate e.1 (e.2.map (endL (es.take i) first + ·)) := by rw [tk, unitsL_snoc]
      have ul : (unitsL (es.take i) first).length ≤ 800000 := by
        have := unitsL_len first (es := es.take i) fun x hx => hok x (List.mem_of_mem_take hx)
        rw [List.length_take] at this
        omega
      obtain ⟨post, hpost⟩ : ∃ post, post = entsB (es.drop (i + 1)) := ⟨_, rfl⟩
      have hw : entsB es = entsB (es.take i) ++ (entryL e.1 e.2 ++ post) := by
        rw [hsplit, List.drop_eq_getElem_cons c0, ← hE, hpost]
        rfl
      have fin : ∀ (v1 v2 : Option V) (H2 : Hp), Same H H2 → H2 F = some (.lst (lvs (unitsL (es.take i) first) ++ lvs (List.replicate e.1 (e.2.map (endL (es.take i) first + ·))))) → lvLU H c t F es first [some (.ref c), some (.ref t), some (.int (stepLn (endL (es.take i) first) e)), some (.ref F), some (.int ((entsB (es.take i) ++ entryL e.1 e.2).length : Int)), v1, v2] H2 :=
        fun v1 v2 H2 q1 q2 => ⟨i + 1, v1, v2, c0, by rw [nL, nE], q1, by rw [nU, lvs_app]; exact q2⟩
      have fin2 : (entsB es).length - ((entsB (es.take i) ++ entryL e.1 e.2).length : Int).toNat < (entsB es).length - ((entsB (es.take i)).length : Int).toNat := by
        have p0 := entryL_pos e.1 e.2
        rw [hw, List.length_append, List.length_append, List.length_append]
        omega
      clear nL nE nU hsplit
      have lul : (lvs (unitsL (es.take i) first)).length ≤ 800000 := by unfold lvs; rw [List.length_map]; exact ul
      generalize endL (es.take i) first = l0 at *
      generalize entsB (es.take i) = pre at *
      generalize lvs (unitsL (es.take i) first) = acc at *
      obtain ⟨u, m⟩ := e
      obtain ⟨o1, o2, o3⟩ := ok
      dsimp only at o1 o2 o3 fin
      -- the last step: the lines of an entry's units
      have ext : ∀ (x : Option Int) (v1 v2 : Option V) (H2 : Hp), Same H1 H2 → x = m.map (l0 + ·) → ∀ q, H2 q = none → ∀ r, L2.upd H2 q (.lst [lnV x]) r = none → 
          ∃ xs, L2.upd (L2.upd H2 q (.lst [lnV x])) r (.lst (lvs (List.replicate u x))) F = some (.lst xs) ∧ xs.length + (lvs (List.replicate u x)).length ≤ sizeLine ∧
          lvLU H c t F es first [some (.ref c), some (.ref t), some (.int (stepLn l0 (u, m))), some (.ref F), some (.int ((pre ++ entryL u m).length : Int)), v1, v2] (L2.upd (L2.upd (L2.upd H2 q (.lst [lnV x])) r (.lst (lvs (List.replicate u x)))) F (.lst (xs ++ lvs (List.replicate u x)))) := by
        rintro x v1 v2 H2 s2 rfl q hq r hr
        have sx := Same.new' (o := .lst (lvs (List.replicate u (m.map (l0 + ·))))) (Same.new' (o := .lst [lnV (m.map (l0 + ·))]) s2 hq) hr
        refine ⟨_, sx _ _ hacc, ?_, fin _ _ _ (fun b o e => ?_) upd_same⟩
        · have : (lvs (List.replicate u (m.map (l0 + ·)))).length = u := by unfold lvs; rw [List.length_map, List.length_replicate]
          exact Nat.le_trans (by omega : _ ≤ 800008) (by decide)
        · rw [upd_ne (FH e)]
          exact sx _ _ (s1 _ _ e)
      cases m with
      | none =>
        have e1 : atI (vn (entsB es)) (pre.length : Int) = some (.int ((248 + u - 1 : Nat) : Int)) := by
          refine atn ?_
          unfold vn
          rw [List.getElem?_map, hw, List.getElem?_append_right (Nat.le_refl _), Nat.sub_self]
          rfl
        have k1 : ((248 + u - 1 : Nat) : Int) - 248 + 1 = (u : Int) := by omega
        have k2 : ((248 : Int) ≤ ((248 + u - 1 : Nat) : Int)) = True := eq_true (by omega)
        have kp : ((pre.length : Nat) : Int) + 1 = ((pre ++ entryL u none).length : Int) := by rw [List.length_append]; rfl
        simp only [r_seq, r_next, r_brk, r_cont, r_asg, r_name, r_ret, r_retN, r_drop, r_ifs, r_never, r_var, r_c, r_op, r_un, r_if, r_tst, r_b, r_not, r_and, r_or, r_andV, r_orV, r_notV, r_nil, r_cons, r_tup, r_lst, r_cb, r_call, r_bm, r_bm0, r_sl, r_nopart, r_part, r_rev, r_gnil, r_gcons, r_gsub, r_par, r_aug, r_chain, r_I0, r_I, r_U, r_ixd, r_lend, r_tupd, r_listd, r_sld, r_app, r_ext, r_reverse, r_setl, r_cat, r_int1, r_eqS, r_neS, scal_ii, scal_bb, scal_ss, at0, at1, at2, sq_lst, sq_tup, isLst_lst, List.getElem?_cons_zero, List.getElem?_cons_succ, List.set_cons_zero, List.set_cons_succ, V.int.injEq, V.bl.injEq, V.ref.injEq, V.str.injEq, HO.lst.injEq, HO.tup.injEq, Option.some.injEq, exists_eq_left', exists_eq_left, List.cons.injEq, and_true, true_and, decide_eq_true_eq, reduceCtorEq, false_and, exists_false, or_false, false_or, exists_const, and_assoc, exists_and_left, List.append_nil, ix0, ix1, ix2, cm_mod, cdw1009, cdw2003, cdw7, cdw64, cdw2, cm104729, cm2, cm3, upd_same, List.length_cons, List.length_nil, Int.reduceLT, Int.reduceLE, Nat.reduceAdd, Nat.reduceLeDiff, Nat.reduceLT, Int.reduceToNat, r_for1, r_forL, r_forT, r_lcL, r_lc1, r_yes, r_gtupD, wipe_0, wipe_1, List.cons_append, List.nil_append, r_forS, r_ipI, ite_false, ite_true, Bool.not_true, Bool.not_false, decide_true, decide_false, r_isd, r_islt, cD_ty, cD_ref, tD_non, tD_bl, tD_int, tD_str, tD_ref, tH_lst, tH_tup, tH_dK, tH_ins, ki_self, ki_int_bool, ki_non_int, ki_str_int, ki_lt_lst, ki_lt_tup, r_fld, r_sfld, HO.ins.injEq, cx_K, ht1, e1, k1, k2, kp, r_rep]
        refine ⟨tyl hacc, szl (by decide), fun q hq => ⟨by omega, by omega, Nat.le_trans (by omega : _ ≤ 8) (by decide), fun r hr => ?_⟩⟩
        rw [Int.toNat_natCast, show ([V.non] : List V) = [lnV none] from rfl, lvs_rep]
        obtain ⟨xs, x1, x2, x3⟩ := ext none _ _ H1 (Same.refl H1) rfl q hq r hr
        have ks : stepLn l0 (u, none) = l0 := Int.add_zero _
        rw [ks] at x3
        exact ⟨xs, x1, x2, x3, fin2⟩
      | some d =>
        obtain ⟨d1, d2⟩ := o3 d rfl
        have e1 : atI (vn (entsB es)) (pre.length : Int) = some (.int ((232 + u - 1 : Nat) : Int)) := by
          refine atn ?_
          unfold vn
          rw [List.getElem?_map, hw, List.getElem?_append_right (Nat.le_refl _), Nat.sub_self]
          rfl
        have k2 : ((248 : Int) ≤ ((232 + u - 1 : Nat) : Int)) = False := eq_false (by omega)
        have k3 : ((232 : Int) ≤ ((232 + u - 1 : Nat) : Int)) = True := eq_true (by omega)
        have k4 : (((232 + u - 1 : Nat) : Int) < 232 + 8) = True := eq_true (by omega)
        have k4' : (((232 + u - 1 : Nat) : Int) < 240) = True := eq_true (by omega)
        have k1 : ((232 + u - 1 : Nat) : Int) - 232 + 1 = (u : Int) := by omega
        have kp : ((pre.length : Nat) : Int) + 1 = ((pre ++ [232 + u - 1]).length : Int) := by rw [List.length_append]; rfl
        have kq : (pre ++ [232 + u - 1]).length + (litM (zig d)).length = (pre ++ entryL u (some d)).length := by
          rw [List.length_append, List.length_append]
          show pre.length + 1 + _ = pre.length + ((litM (zig d)).length + 1)
          omega
        have hw2 : entsB es = (pre ++ [232 + u - 1]) ++ (litM (zig d) ++ post) := by rw [hw, List.append_assoc]; rfl
        obtain ⟨z, zs, hz1⟩ : ∃ z zs, litM (zig d) = z :: zs := by
          by_cases q : zig d < 64
          · exact ⟨_, _, litM_lt q⟩
          · exact ⟨_, _, litM_ge q⟩
        have e2 : atI (vn (entsB es)) ((pre ++ [232 + u - 1]).length : Int) = some (.int (z : Int)) := by
          refine atn ?_
          unfold vn
          rw [List.getElem?_map, hw2, List.getElem?_append_right (Nat.le_refl _), Nat.sub_self, hz1]
          rfl
        have hlen : (((pre ++ [232 + u - 1]).length : Int) < ((vn (entsB es)).length : Int)) = True := eq_true (by
          rw [vn_len, hw2, hz1]
          simp only [List.length_append, List.length_cons]
          omega)
        have ks : stepLn l0 (u, some d) = l0 + d := rfl
        rw [ks] at ext
        have last : ∀ (w1 w2 : Option V) (H2 : Hp), Same H1 H2 → tyV K "list" (V.ref F) H2 ∧ 1 ≤ sizeLine ∧ ∀ (q : Addr), H2 q = none → -2 ^ 63 ≤ (u : Int) ∧ (u : Int) < 2 ^ 63 ∧ 1 * ((u : Int)).toNat ≤ sizeLine ∧ ∀ r : Addr, L2.upd H2 q (HO.lst [V.int (l0 + d)]) r = none →
            ∃ x, L2.upd (L2.upd H2 q (HO.lst [V.int (l0 + d)])) r (HO.lst (List.replicate ((u : Int)).toNat [V.int (l0 + d)]).flatten) F = some (HO.lst x) ∧ x.length + (List.replicate ((u : Int)).toNat [V.int (l0 + d)]).flatten.length ≤ sizeLine ∧
              lvLU H c t F es first [some (V.ref c), some (V.ref t), some (V.int (l0 + d)), some (V.ref F), some (V.int ((pre ++ entryL u (some d)).length : Int)), w1, w2] (L2.upd (L2.upd (L2.upd H2 q (HO.lst [V.int (l0 + d)])) r (HO.lst (List.replicate ((u : Int)).toNat [V.int (l0 + d)]).flatten)) F (HO.lst (x ++ (List.replicate ((u : Int)).toNat [V.int (l0 + d)]).flatten))) ∧
              msLU (entsB es).length [some (V.ref c), some (V.ref t), some (V.int (l0 + d)), some (V.ref F), some (V.int ((pre ++ entryL u (some d)).length : Int)), w1, w2] < msLU (entsB es).length [some (V.ref c), some (V.ref t), some (V.int l0), some (V.ref F), some (V.int (pre.length : Int)), v1, v2] := by
          intro w1 w2 H2 s2
          refine ⟨tyl (s2 _ _ hacc), szl (by decide), fun q hq => ⟨by omega, by omega, Nat.le_trans (by omega : _ ≤ 8) (by decide), fun r hr => ?_⟩⟩
          rw [Int.toNat_natCast, show ([V.int (l0 + d)] : List V) = [lnV (some (l0 + d))] from rfl, lvs_rep]
          obtain ⟨xs, x1, x2, x3⟩ := ext (some (l0 + d)) w1 w2 H2 s2 rfl q hq r hr
          exact ⟨xs, x1, x2, x3, fin2⟩
        simp only [r_seq, r_next, r_brk, r_cont, r_asg, r_name, r_ret, r_retN, r_drop, r_ifs, r_never, r_var, r_c, r_op, r_un, r_if, r_tst, r_b, r_not, r_and, r_or, r_andV, r_orV, r_notV, r_nil, r_cons, r_tup, r_lst, r_cb, r_call, r_bm, r_bm0, r_sl, r_nopart, r_part, r_rev, r_gnil, r_gcons, r_gsub, r_par, r_aug, r_chain, r_I0, r_I, r_U, r_ixd, r_lend, r_tupd, r_listd, r_sld, r_app, r_ext, r_reverse, r_setl, r_cat, r_int1, r_eqS, r_neS, scal_ii, scal_bb, scal_ss, at0, at1, at2, sq_lst, sq_tup, isLst_lst, List.getElem?_cons_zero, List.getElem?_cons_succ, List.set_cons_zero, List.set_cons_succ, V.int.injEq, V.bl.injEq, V.ref.injEq, V.str.injEq, HO.lst.injEq, HO.tup.injEq, Option.some.injEq, exists_eq_left', exists_eq_left, List.cons.injEq, and_true, true_and, decide_eq_true_eq, reduceCtorEq, false_and, exists_false, or_false, false_or, exists_const, and_assoc, exists_and_left, List.append_nil, ix0, ix1, ix2, cm_mod, cdw1009, cdw2003, cdw7, cdw64, cdw2, cm104729, cm2, cm3, upd_same, List.length_cons, List.length_nil, Int.reduceLT, Int.reduceLE, Nat.reduceAdd, Nat.reduceLeDiff, Nat.reduceLT, Int.reduceToNat, r_for1, r_forL, r_forT, r_lcL, r_lc1, r_yes, r_gtupD, wipe_0, wipe_1, List.cons_append, List.nil_append, r_forS, r_ipI, ite_false, ite_true, Bool.not_true, Bool.not_false, decide_true, decide_false, r_isd, r_islt, cD_ty, cD_ref, tD_non, tD_bl, tD_int, tD_str, tD_ref, tH_lst, tH_tup, tH_dK, tH_ins, ki_self, ki_int_bool, ki_non_int, ki_str_int, ki_lt_lst, ki_lt_tup, r_fld, r_sfld, HO.ins.injEq, cx_K, ht1, e1, e2, k1, k2, k3, k4, k4', kp, hlen, r_rep]
        have slow : ∀ {Qx : VK}, (∀ p0 H2, Same H1 H2 → H2 p0 = some (.tup [.int d, .int ((pre ++ entryL u (some d)).length : Int)]) → Qx (.ref p0) H2) → spSignedN [V.ref t, V.int ((pre ++ [232 + u - 1]).length : Int)] H1 Qx E0 := fun kx =>
          ⟨t, pre ++ [232 + u - 1], post, d, rfl, by rw [ht1, hw2], d1, d2, fun p0 H2 hp0 s2 h2 => kx p0 H2 s2 (by rw [kq] at h2; exact h2)⟩
        by_cases q : (z : Int) < 64
        · rw [if_pos q]
          have hz9 : zig d = z ∧ zs = [] := by
            by_cases q2 : zig d < 64
            · rw [litM_lt q2] at hz1
              cases hz1
              exact ⟨rfl, rfl⟩
            · rw [litM_ge q2] at hz1
              cases hz1
              omega
          refine ⟨(Builtin.bitAnd (z : Int) 1 != 0), rfl, ?_⟩
          rw [bitAnd_m1]
          by_cases par : z % 2 = 0
          · have e8 := zig_even hz9.1 par
            rw [show ((z : Int) % 2 != 0) = false from by rw [show (z : Int) % 2 = 0 from by omega]; rfl, if_pos (by decide), show (z : Int) / 2 ^ 1 = d from by omega]
            have e7 : ((pre ++ [232 + u - 1]).length : Int) + 1 = ((pre ++ entryL u (some d)).length : Int) := by
              rw [← kq, hz1, hz9.2]
              rfl
            rw [e7]
            exact last _ _ H1 (Same.refl H1)
          · rw [show ((z : Int) % 2 != 0) = true from by rw [show (z : Int) % 2 = 1 from by omega]; rfl, if_neg (by decide)]
            exact slow fun p0 H2 s2 h2 => ⟨p0, rfl, _, h2, rfl, _, _, rfl, _, _, rfl, rfl, d, rfl, last _ _ H2 s2⟩
        · rw [if_neg q]
          exact slow fun p0 H2 s2 h2 => ⟨p0, rfl, _, h2, rfl, _, _, rfl, _, _, rfl, rfl, d, rfl, last _ _ H2 s2⟩
    · have c0 : i = es.length := by
        have := of_decide_eq_false cc
        omega
      rw [c0, List.take_length] at hacc
      simp only [r_seq, r_next, r_brk, r_cont, r_asg, r_name, r_ret, r_retN, r_drop, r_ifs, r_never, r_var, r_c, r_op, r_un, r_if, r_tst, r_b, r_not, r_and, r_or, r_andV, r_orV, r_notV, r_nil, r_cons, r_tup, r_lst, r_cb, r_call, r_bm, r_bm0, r_sl, r_nopart, r_part, r_rev, r_gnil, r_gcons, r_gsub, r_par, r_aug, r_chain, r_I0, r_I, r_U, r_ixd, r_lend, r_tupd, r_listd, r_sld, r_app, r_ext, r_reverse, r_setl, r_cat, r_int1, r_eqS, r_neS, scal_ii, scal_bb, scal_ss, at0, at1, at2, sq_lst, sq_tup, isLst_lst, List.getElem?_cons_zero, List.getElem?_cons_succ, List.set_cons_zero, List.set_cons_succ, V.int.injEq, V.bl.injEq, V.ref.injEq, V.str.injEq, HO.lst.injEq, HO.tup.injEq, Option.some.injEq, exists_eq_left', exists_eq_left, List.cons.injEq, and_true, true_and, decide_eq_true_eq, reduceCtorEq, false_and, exists_false, or_false, false_or, exists_const, and_assoc, exists_and_left, List.append_nil, ix0, ix1, ix2, cm_mod, cdw1009, cdw2003, cdw7, cdw64, cdw2, cm104729, cm2, cm3, upd_same, List.length_cons, List.length_nil, Int.reduceLT, Int.reduceLE, Nat.reduceAdd, Nat.reduceLeDiff, Nat.reduceLT, Int.reduceToNat, r_for1, r_forL, r_forT, r_lcL, r_lc1, r_yes, r_gtupD, wipe_0, wipe_1, List.cons_append, List.nil_append, r_forS, r_ipI, ite_false, ite_true, Bool.not_true, Bool.not_false, decide_true, decide_false, r_isd, r_islt, cD_ty, cD_ref, tD_non, tD_bl, tD_int, tD_str, tD_ref, tH_lst, tH_tup, tH_dK, tH_ins, ki_self, ki_int_bool, ki_non_int, ki_str_int, ki_lt_lst, ki_lt_tup, r_fld, r_sfld, HO.ins.injEq, cx_K]
      exact k F H1 hF s1 hacc
/-- behind i units: the rows found, and the one that is open -/
def RwInv (us : List (Option Int)) (acc : List LR) (bg i : Nat) : Prop := (i = 0 ∧ bg = 0 ∧ acc = []) ∨ (bg < i ∧ ∃ l, us[bg]? = some l ∧ joinL (unitRows (us.take i) 0) = acc ++ [⟨2 * bg, 2 * i, l⟩] ∧ acc.length ≤ bg)
def lvRw (H : Hp) (c U F : Addr) (us : List (Option Int)) (i : Nat) (σ : L2.St) (H' : Hp) : Prop := ∃ (acc : List LR) (bg : Nat) (v1 v2 : Option V), σ = [some (.ref c), some (.ref U), some (.ref F), some (.int (bg : Int)), v1, v2] ∧ Same H H' ∧ H' U = some (.lst (lvs us)) ∧ LRows H' F acc ∧ RwInv us acc bg i
theorem lvs_len {us : List (Option Int)} : (lvs us).length = us.length := List.length_map _
theorem rwInv_next {us : List (Option Int)} {acc : List LR} {bg i : Nat} {l lb : Option Int} (hb : bg < i) (hl : us[i]? = some l) (e : us[bg]? = some lb) (j : joinL (unitRows (us.take i) 0) = acc ++ [⟨2 * bg, 2 * i, lb⟩]) (z : acc.length ≤ bg) :
    if l = lb then RwInv us acc bg (i + 1) else RwInv us (acc ++ [⟨2 * bg, 2 * i, lb⟩]) i (i + 1) := by
  obtain ⟨hi, hli⟩ := List.getElem?_eq_some_iff.mp hl
  have n := units_next hi
  rw [j, jstep_snoc, hli] at n
  dsimp only at n
  split
  · rename_i c
    subst c
    rw [if_pos rfl] at n
    exact .inr ⟨by omega, l, e, n, z⟩
  · rename_i c
    rw [if_neg (fun h => c h.symm)] at n
    exact .inr ⟨by omega, l, hl, n, by rw [List.length_append, List.length_singleton]; omega⟩
theorem lvs_at {us : List (Option Int)} {i : Nat} {l : Option Int} (h : us[i]? = some l) : atI (lvs us) (i : Int) = some (lnV l) := atn (by unfold lvs; rw [List.getElem?_map, h]; rfl)
theorem ok_line_rows {CC CN : Addr} (T : Txt mg) (I : CodeT K mg CC) (X_NoCode : Exn P w K mg base "NoCode" CN "field") (F : FnP K "line_rows" "line_rows" sline_rows f fd)
    (C_lines_of_units : Cal P w K mg base 2 "lines_of_units" ["code"] (spUnits CC)) : FnOk P w K mg base (CX P w) 3 f fd ["code"] (spLineRows CC CN) := by
  refine F.ok scline_rows (fun vs H Q E h => ?_) (fun cdv A outer s H vs Q E hr h => ?_)
  · rcases h with ⟨c, dx, fs, t, first, es, rfl, _⟩ | ⟨x, n, rfl, _⟩ <;> rfl
  · refine ⟨_, (pss_cons (ps_if (pt_not (pt_val (pe_callB (call_is_d I.cI) (by rfl) T.b_isinstance (by decide +kernel) (pa_cons (pv 0) (pa_cons (pe_glob (v := .ref _) rfl I.g_Code rfl) pa_nil)))))
    (pss_one (ps_raise rfl (takes_of rfl rfl rfl rfl) (pmk_x X_NoCode (hr.mono (by decide)) rfl pe_str)))
    pss_nil)
  (pss_cons (ps_set (i := 1) scline_rows.nd rfl (Or.inl rfl) (pe_cal C_lines_of_units (hr.mono (by decide)) rfl (pa_cons (pv 0) pa_nil)))
  (pss_cons (ps_set (i := 2) scline_rows.nd rfl (Or.inl rfl) (pe_lst pa_nil))
  (pss_cons (ps_set (i := 3) scline_rows.nd rfl (Or.inl rfl) pe_int)
  (pss_cons (ps_for (passes_of rfl) rfl (pi_enumS (by rfl) T.b_enumerate (pa_cons (pv 1) pa_nil)) (pg_tupD (n := 2) rfl (pgs_cons (pg_name (i := 4) scline_rows.nd rfl (Or.inl rfl)) (pgs_cons (pg_name (i := 5) scline_rows.nd rfl (Or.inl rfl)) pgs_nil)))
    (pss_one (ps_if (pt_cmpR (op_neD (hu64 hr)) (pv 5) (pe_ix ix_d (pv 1) (pv 3) (fun _ _ => rfl)) (nomark _))
    (pss_cons (ps_expr (pe_bm PySem.F.plainAttrs_list PySem.F.slot_list_append PySem.F.type_list_append mt_append (pv 2) (pa_cons (pe_tup (pa_cons (pe_op op_mul pe_int (pv 3)) (pa_cons (pe_op op_mul pe_int (pv 4)) (pa_cons (pe_ix ix_d (pv 1) (pv 3) (fun _ _ => rfl)) pa_nil)))) pa_nil)))
  (pss_one (ps_set (i := 3) scline_rows.nd rfl (Or.inl rfl) (pv 4))))
    pss_nil)))
  (pss_cons (ps_if (pt_truth (pv 1) (by intro _; rfl))
    (pss_one (ps_expr (pe_bm PySem.F.plainAttrs_list PySem.F.slot_list_append PySem.F.type_list_append mt_append (pv 2) (pa_cons (pe_tup (pa_cons (pe_op op_mul pe_int (pv 3)) (pa_cons (pe_op op_mul pe_int (pe_callB call_len_d (by rfl) T.b_len (by decide +kernel) (pa_cons (pv 1) pa_nil))) (pa_cons (pe_ix ix_d (pv 1) (pv 3) (fun _ _ => rfl)) pa_nil)))) pa_nil))))
    pss_nil)
  (pss_one (ps_ret (pv 2))))))))), ?_⟩
    rcases h with ⟨c, dx, fs, t, first, es, rfl, hc, hl, hf, ht, hz, hok, k⟩ | ⟨x, n, rfl, hx, hn, k⟩
    · show (_ : TS) _ [some (.ref c), none, none, none, none, none] H
      have cl := I.cI.cl
      simp only [r_seq, r_next, r_brk, r_cont, r_asg, r_name, r_ret, r_retN, r_drop, r_ifs, r_never, r_var, r_c, r_op, r_un, r_if, r_tst, r_b, r_not, r_and, r_or, r_andV, r_orV, r_notV, r_nil, r_cons, r_tup, r_lst, r_cb, r_call, r_bm, r_bm0, r_sl, r_nopart, r_part, r_rev, r_gnil, r_gcons, r_gsub, r_par, r_aug, r_chain, r_I0, r_I, r_U, r_ixd, r_lend, r_tupd, r_listd, r_sld, r_app, r_ext, r_reverse, r_setl, r_cat, r_int1, r_eqS, r_neS, scal_ii, scal_bb, scal_ss, at0, at1, at2, sq_lst, sq_tup, isLst_lst, List.getElem?_cons_zero, List.getElem?_cons_succ, List.set_cons_zero, List.set_cons_succ, V.int.injEq, V.bl.injEq, V.ref.injEq, V.str.injEq, HO.lst.injEq, HO.tup.injEq, Option.some.injEq, exists_eq_left', exists_eq_left, List.cons.injEq, and_true, true_and, decide_eq_true_eq, reduceCtorEq, false_and, exists_false, or_false, false_or, exists_const, and_assoc, exists_and_left, List.append_nil, ix0, ix1, ix2, cm_mod, cdw1009, cdw2003, cdw7, cdw64, cdw2, cm104729, cm2, cm3, upd_same, List.length_cons, List.length_nil, Int.reduceLT, Int.reduceLE, Nat.reduceAdd, Nat.reduceLeDiff, Nat.reduceLT, Int.reduceToNat, r_for1, r_forL, r_forT, r_lcL, r_lc1, r_yes, r_gtupD, wipe_0, wipe_1, List.cons_append, List.nil_append, r_forS, r_ipI, ite_false, ite_true, Bool.not_true, Bool.not_false, decide_true, decide_false, r_isd, r_islt, cD_ty, cD_ref, tD_non, tD_bl, tD_int, tD_str, tD_ref, tH_lst, tH_tup, tH_dK, tH_ins, ki_self, ki_int_bool, ki_non_int, ki_str_int, ki_lt_lst, ki_lt_tup, r_fld, r_sfld, HO.ins.injEq, cx_K, hc, cl, r_forE]
      refine ⟨c, dx, fs, t, first, es, rfl, hc, hl, hf, ht, hz, hok, fun U H1 hU s1 h1 => ?_⟩
      have ul : (unitsL es first).length ≤ 800000 := by
        have := unitsL_len first hok
        omega
      have uj := units_join first hok
      rw [← uj] at k
      clear uj
      generalize unitsL es first = us at *
      have nF : ∀ {F : Addr}, H1 F = none → H F = none := fun e => s1.free e
      refine ⟨szl (by decide), fun F hF => ⟨U, rfl, ?_⟩⟩
      have UF : U ≠ F := ne_new h1 hF
      have FH := nF hF
      have hU1 : L2.upd H1 F (.lst []) U = some (.lst (lvs us)) := by rw [upd_ne UF]; exact h1
      have S1 : Same H (L2.upd H1 F (.lst [])) := Same.new' s1 hF
      refine lp_enum (xs := lvs us) (by rw [hU1]; rfl) (lvRw H c U F us) ⟨[], 0, none, none, rfl, S1, hU1, ⟨[], upd_same, .nil⟩, .inl ⟨rfl, rfl, rfl⟩⟩ (fun i σ H' ⟨_, _, _, _, _, _, u2, _⟩ => by rw [u2, hU1]) ?_ ?_
      · rintro i x σ H2 hx ⟨acc, bg, v1, v2, rfl, s2, u2, rows, inv⟩ T hT
        obtain ⟨l, hl9, rfl⟩ : ∃ l, us[i]? = some l ∧ x = lnV l := by
          unfold lvs at hx
          rw [List.getElem?_map] at hx
          cases e : us[i]? with
          | none => rw [e] at hx; cases hx
          | some l => rw [e] at hx; exact ⟨l, rfl, (Option.some.inj hx).symm⟩
        have hiu : i < us.length := (List.getElem?_eq_some_iff.mp hl9).1
        have sT : Same H2 (L2.upd H2 T (.tup [.int (i : Nat), lnV l])) := Same.new' (Same.refl H2) hT
        have hT3 : L2.upd H2 T (.tup [.int (i : Nat), lnV l]) T = some (.tup [.int (i : Nat), lnV l]) := upd_same
        have s3 : Same H (L2.upd H2 T (.tup [.int (i : Nat), lnV l])) := fun b o e => sT b o (s2 b o e)
        have u3 := sT _ _ u2
        obtain ⟨refs, hF3, pF⟩ := rows.same sT
        clear rows u2 s2 sT hT
        generalize L2.upd H2 T (.tup [.int (i : Nat), lnV l]) = H3 at *
        rcases inv with ⟨rfl, rfl, rfl⟩ | ⟨hb, lb, e, j, z⟩
        · have eb := lvs_at hl9
          simp only [r_seq, r_next, r_brk, r_cont, r_asg, r_name, r_ret, r_retN, r_drop, r_ifs, r_never, r_var, r_c, r_op, r_un, r_if, r_tst, r_b, r_not, r_and, r_or, r_andV, r_orV, r_notV, r_nil, r_cons, r_tup, r_lst, r_cb, r_call, r_bm, r_bm0, r_sl, r_nopart, r_part, r_rev, r_gnil, r_gcons, r_gsub, r_par, r_aug, r_chain, r_I0, r_I, r_U, r_ixd, r_lend, r_tupd, r_listd, r_sld, r_app, r_ext, r_reverse, r_setl, r_cat, r_int1, r_eqS, r_neS, scal_ii, scal_bb, scal_ss, at0, at1, at2, sq_lst, sq_tup, isLst_lst, List.getElem?_cons_zero, List.getElem?_cons_succ, List.set_cons_zero, List.set_cons_succ, V.int.injEq, V.bl.injEq, V.ref.injEq, V.str.injEq, HO.lst.injEq, HO.tup.injEq, Option.some.injEq, exists_eq_left', exists_eq_left, List.cons.injEq, and_true, true_and, decide_eq_true_eq, reduceCtorEq, false_and, exists_false, or_false, false_or, exists_const, and_assoc, exists_and_left, List.append_nil, ix0, ix1, ix2, cm_mod, cdw1009, cdw2003, cdw7, cdw64, cdw2, cm104729, cm2, cm3, upd_same, List.length_cons, List.length_nil, Int.reduceLT, Int.reduceLE, Nat.reduceAdd, Nat.reduceLeDiff, Nat.reduceLT, Int.reduceToNat, r_for1, r_forL, r_forT, r_lcL, r_lc1, r_yes, r_gtupD, wipe_0, wipe_1, List.cons_append, List.nil_append, r_forS, r_ipI, ite_false, ite_true, Bool.not_true, Bool.not_false, decide_true, decide_false, r_isd, r_islt, cD_ty, cD_ref, tD_non, tD_bl, tD_int, tD_str, tD_ref, tH_lst, tH_tup, tH_dK, tH_ins, ki_self, ki_int_bool, ki_non_int, ki_str_int, ki_lt_lst, ki_lt_tup, r_fld, r_sfld, HO.ins.injEq, cx_K, hT3, u3, eb]
          refine ne_ln ?_
          simp only [r_seq, r_next, r_brk, r_cont, r_asg, r_name, r_ret, r_retN, r_drop, r_ifs, r_never, r_var, r_c, r_op, r_un, r_if, r_tst, r_b, r_not, r_and, r_or, r_andV, r_orV, r_notV, r_nil, r_cons, r_tup, r_lst, r_cb, r_call, r_bm, r_bm0, r_sl, r_nopart, r_part, r_rev, r_gnil, r_gcons, r_gsub, r_par, r_aug, r_chain, r_I0, r_I, r_U, r_ixd, r_lend, r_tupd, r_listd, r_sld, r_app, r_ext, r_reverse, r_setl, r_cat, r_int1, r_eqS, r_neS, scal_ii, scal_bb, scal_ss, at0, at1, at2, sq_lst, sq_tup, isLst_lst, List.getElem?_cons_zero, List.getElem?_cons_succ, List.set_cons_zero, List.set_cons_succ, V.int.injEq, V.bl.injEq, V.ref.injEq, V.str.injEq, HO.lst.injEq, HO.tup.injEq, Option.some.injEq, exists_eq_left', exists_eq_left, List.cons.injEq, and_true, true_and, decide_eq_true_eq, reduceCtorEq, false_and, exists_false, or_false, false_or, exists_const, and_assoc, exists_and_left, List.append_nil, ix0, ix1, ix2, cm_mod, cdw1009, cdw2003, cdw7, cdw64, cdw2, cm104729, cm2, cm3, upd_same, List.length_cons, List.length_nil, Int.reduceLT, Int.reduceLE, Nat.reduceAdd, Nat.reduceLeDiff, Nat.reduceLT, Int.reduceToNat, r_for1, r_forL, r_forT, r_lcL, r_lc1, r_yes, r_gtupD, wipe_0, wipe_1, List.cons_append, List.nil_append, r_forS, r_ipI, ite_false, ite_true, Bool.not_true, Bool.not_false, decide_true, decide_false, r_isd, r_islt, cD_ty, cD_ref, tD_non, tD_bl, tD_int, tD_str, tD_ref, tH_lst, tH_tup, tH_dK, tH_ins, ki_self, ki_int_bool, ki_non_int, ki_str_int, ki_lt_lst, ki_lt_tup, r_fld, r_sfld, HO.ins.injEq, cx_K]
          refine ⟨[], 0, _, _, rfl, s3, u3, ⟨refs, hF3, pF⟩, .inr ⟨Nat.zero_lt_succ _, l, hl9, ?_, Nat.le_refl _⟩⟩
          have n := units_next hiu
          rw [(List.getElem?_eq_some_iff.mp hl9).2] at n
          exact n
        · have eb := lvs_at e
          have nx := rwInv_next hb hl9 e j z
          simp only [r_seq, r_next, r_brk, r_cont, r_asg, r_name, r_ret, r_retN, r_drop, r_ifs, r_never, r_var, r_c, r_op, r_un, r_if, r_tst, r_b, r_not, r_and, r_or, r_andV, r_orV, r_notV, r_nil, r_cons, r_tup, r_lst, r_cb, r_call, r_bm, r_bm0, r_sl, r_nopart, r_part, r_rev, r_gnil, r_gcons, r_gsub, r_par, r_aug, r_chain, r_I0, r_I, r_U, r_ixd, r_lend, r_tupd, r_listd, r_sld, r_app, r_ext, r_reverse, r_setl, r_cat, r_int1, r_eqS, r_neS, scal_ii, scal_bb, scal_ss, at0, at1, at2, sq_lst, sq_tup, isLst_lst, List.getElem?_cons_zero, List.getElem?_cons_succ, List.set_cons_zero, List.set_cons_succ, V.int.injEq, V.bl.injEq, V.ref.injEq, V.str.injEq, HO.lst.injEq, HO.tup.injEq, Option.some.injEq, exists_eq_left', exists_eq_left, List.cons.injEq, and_true, true_and, decide_eq_true_eq, reduceCtorEq, false_and, exists_false, or_false, false_or, exists_const, and_assoc, exists_and_left, List.append_nil, ix0, ix1, ix2, cm_mod, cdw1009, cdw2003, cdw7, cdw64, cdw2, cm104729, cm2, cm3, upd_same, List.length_cons, List.length_nil, Int.reduceLT, Int.reduceLE, Nat.reduceAdd, Nat.reduceLeDiff, Nat.reduceLT, Int.reduceToNat, r_for1, r_forL, r_forT, r_lcL, r_lc1, r_yes, r_gtupD, wipe_0, wipe_1, List.cons_append, List.nil_append, r_forS, r_ipI, ite_false, ite_true, Bool.not_true, Bool.not_false, decide_true, decide_false, r_isd, r_islt, cD_ty, cD_ref, tD_non, tD_bl, tD_int, tD_str, tD_ref, tH_lst, tH_tup, tH_dK, tH_ins, ki_self, ki_int_bool, ki_non_int, ki_str_int, ki_lt_lst, ki_lt_tup, r_fld, r_sfld, HO.ins.injEq, cx_K, hT3, u3, eb]
          refine ne_ln ?_
          by_cases c9 : l = lb
          · rw [if_pos c9] at nx
            have c9' : (l = lb) = True := eq_true c9
            simp only [r_seq, r_next, r_brk, r_cont, r_asg, r_name, r_ret, r_retN, r_drop, r_ifs, r_never, r_var, r_c, r_op, r_un, r_if, r_tst, r_b, r_not, r_and, r_or, r_andV, r_orV, r_notV, r_nil, r_cons, r_tup, r_lst, r_cb, r_call, r_bm, r_bm0, r_sl, r_nopart, r_part, r_rev, r_gnil, r_gcons, r_gsub, r_par, r_aug, r_chain, r_I0, r_I, r_U, r_ixd, r_lend, r_tupd, r_listd, r_sld, r_app, r_ext, r_reverse, r_setl, r_cat, r_int1, r_eqS, r_neS, scal_ii, scal_bb, scal_ss, at0, at1, at2, sq_lst, sq_tup, isLst_lst, List.getElem?_cons_zero, List.getElem?_cons_succ, List.set_cons_zero, List.set_cons_succ, V.int.injEq, V.bl.injEq, V.ref.injEq, V.str.injEq, HO.lst.injEq, HO.tup.injEq, Option.some.injEq, exists_eq_left', exists_eq_left, List.cons.injEq, and_true, true_and, decide_eq_true_eq, reduceCtorEq, false_and, exists_false, or_false, false_or, exists_const, and_assoc, exists_and_left, List.append_nil, ix0, ix1, ix2, cm_mod, cdw1009, cdw2003, cdw7, cdw64, cdw2, cm104729, cm2, cm3, upd_same, List.length_cons, List.length_nil, Int.reduceLT, Int.reduceLE, Nat.reduceAdd, Nat.reduceLeDiff, Nat.reduceLT, Int.reduceToNat, r_for1, r_forL, r_forT, r_lcL, r_lc1, r_yes, r_gtupD, wipe_0, wipe_1, List.cons_append, List.nil_append, r_forS, r_ipI, ite_false, ite_true, Bool.not_true, Bool.not_false, decide_true, decide_false, r_isd, r_islt, cD_ty, cD_ref, tD_non, tD_bl, tD_int, tD_str, tD_ref, tH_lst, tH_tup, tH_dK, tH_ins, ki_self, ki_int_bool, ki_non_int, ki_str_int, ki_lt_lst, ki_lt_tup, r_fld, r_sfld, HO.ins.injEq, cx_K, c9']
            exact ⟨acc, bg, _, _, rfl, s3, u3, ⟨refs, hF3, pF⟩, nx⟩
          · rw [if_neg c9] at nx
            have c9' : (l = lb) = False := eq_false c9
            have a1 : 2 * (bg : Int) = ((2 * bg : Nat) : Int) := by omega
            have a2 : 2 * (i : Int) = ((2 * i : Nat) : Int) := by omega
            simp only [r_seq, r_next, r_brk, r_cont, r_asg, r_name, r_ret, r_retN, r_drop, r_ifs, r_never, r_var, r_c, r_op, r_un, r_if, r_tst, r_b, r_not, r_and, r_or, r_andV, r_orV, r_notV, r_nil, r_cons, r_tup, r_lst, r_cb, r_call, r_bm, r_bm0, r_sl, r_nopart, r_part, r_rev, r_gnil, r_gcons, r_gsub, r_par, r_aug, r_chain, r_I0, r_I, r_U, r_ixd, r_lend, r_tupd, r_listd, r_sld, r_app, r_ext, r_reverse, r_setl, r_cat, r_int1, r_eqS, r_neS, scal_ii, scal_bb, scal_ss, at0, at1, at2, sq_lst, sq_tup, isLst_lst, List.getElem?_cons_zero, List.getElem?_cons_succ, List.set_cons_zero, List.set_cons_succ, V.int.injEq, V.bl.injEq, V.ref.injEq, V.str.injEq, HO.lst.injEq, HO.tup.injEq, Option.some.injEq, exists_eq_left', exists_eq_left, List.cons.injEq, and_true, true_and, decide_eq_true_eq, reduceCtorEq, false_and, exists_false, or_false, false_or, exists_const, and_assoc, exists_and_left, List.append_nil, ix0, ix1, ix2, cm_mod, cdw1009, cdw2003, cdw7, cdw64, cdw2, cm104729, cm2, cm3, upd_same, List.length_cons, List.length_nil, Int.reduceLT, Int.reduceLE, Nat.reduceAdd, Nat.reduceLeDiff, Nat.reduceLT, Int.reduceToNat, r_for1, r_forL, r_forT, r_lcL, r_lc1, r_yes, r_gtupD, wipe_0, wipe_1, List.cons_append, List.nil_append, r_forS, r_ipI, ite_false, ite_true, Bool.not_true, Bool.not_false, decide_true, decide_false, r_isd, r_islt, cD_ty, cD_ref, tD_non, tD_bl, tD_int, tD_str, tD_ref, tH_lst, tH_tup, tH_dK, tH_ins, ki_self, ki_int_bool, ki_non_int, ki_str_int, ki_lt_lst, ki_lt_tup, r_fld, r_sfld, HO.ins.injEq, cx_K, c9', hT3, u3, eb, a1, a2, hF3, tyV_lst]
            have lr := Paired.length pF
            refine ⟨szl (by decide), fun p hp => ⟨_, by rw [upd_ne (ne_new hF3 hp)]; exact hF3, Nat.lt_of_le_of_lt (by rw [List.length_map, lr]; omega : _ ≤ 800000) (by decide), ?_⟩⟩
            obtain ⟨p1, p2⟩ := rows_put (R := ⟨2 * bg, 2 * i, lb⟩) FH s3 hF3 pF hp
            exact ⟨_, i, _, _, rfl, p1, by rw [upd_ne UF, upd_ne (ne_new u3 hp)]; exact u3, p2, nx⟩
      · rintro σ H2 ⟨acc, bg, v1, v2, rfl, s2, u2, rows, inv⟩
        rw [lvs_len] at inv
        rcases inv with ⟨e0, rfl, rfl⟩ | ⟨hb, lb, e, j, z⟩
        · obtain rfl := List.length_eq_zero_iff.mp e0
          simp only [r_seq, r_next, r_brk, r_cont, r_asg, r_name, r_ret, r_retN, r_drop, r_ifs, r_never, r_var, r_c, r_op, r_un, r_if, r_tst, r_b, r_not, r_and, r_or, r_andV, r_orV, r_notV, r_nil, r_cons, r_tup, r_lst, r_cb, r_call, r_bm, r_bm0, r_sl, r_nopart, r_part, r_rev, r_gnil, r_gcons, r_gsub, r_par, r_aug, r_chain, r_I0, r_I, r_U, r_ixd, r_lend, r_tupd, r_listd, r_sld, r_app, r_ext, r_reverse, r_setl, r_cat, r_int1, r_eqS, r_neS, scal_ii, scal_bb, scal_ss, at0, at1, at2, sq_lst, sq_tup, isLst_lst, List.getElem?_cons_zero, List.getElem?_cons_succ, List.set_cons_zero, List.set_cons_succ, V.int.injEq, V.bl.injEq, V.ref.injEq, V.str.injEq, HO.lst.injEq, HO.tup.injEq, Option.some.injEq, exists_eq_left', exists_eq_left, List.cons.injEq, and_true, true_and, decide_eq_true_eq, reduceCtorEq, false_and, exists_false, or_false, false_or, exists_const, and_assoc, exists_and_left, List.append_nil, ix0, ix1, ix2, cm_mod, cdw1009, cdw2003, cdw7, cdw64, cdw2, cm104729, cm2, cm3, upd_same, List.length_cons, List.length_nil, Int.reduceLT, Int.reduceLE, Nat.reduceAdd, Nat.reduceLeDiff, Nat.reduceLT, Int.reduceToNat, r_for1, r_forL, r_forT, r_lcL, r_lc1, r_yes, r_gtupD, wipe_0, wipe_1, List.cons_append, List.nil_append, r_forS, r_ipI, ite_false, ite_true, Bool.not_true, Bool.not_false, decide_true, decide_false, r_isd, r_islt, cD_ty, cD_ref, tD_non, tD_bl, tD_int, tD_str, tD_ref, tH_lst, tH_tup, tH_dK, tH_ins, ki_self, ki_int_bool, ki_non_int, ki_str_int, ki_lt_lst, ki_lt_tup, r_fld, r_sfld, HO.ins.injEq, cx_K]
          refine ⟨false, .inl ⟨_, SqL.of u2, rfl⟩, ?_⟩
          simp only [r_seq, r_next, r_brk, r_cont, r_asg, r_name, r_ret, r_retN, r_drop, r_ifs, r_never, r_var, r_c, r_op, r_un, r_if, r_tst, r_b, r_not, r_and, r_or, r_andV, r_orV, r_notV, r_nil, r_cons, r_tup, r_lst, r_cb, r_call, r_bm, r_bm0, r_sl, r_nopart, r_part, r_rev, r_gnil, r_gcons, r_gsub, r_par, r_aug, r_chain, r_I0, r_I, r_U, r_ixd, r_lend, r_tupd, r_listd, r_sld, r_app, r_ext, r_reverse, r_setl, r_cat, r_int1, r_eqS, r_neS, scal_ii, scal_bb, scal_ss, at0, at1, at2, sq_lst, sq_tup, isLst_lst, List.getElem?_cons_zero, List.getElem?_cons_succ, List.set_cons_zero, List.set_cons_succ, V.int.injEq, V.bl.injEq, V.ref.injEq, V.str.injEq, HO.lst.injEq, HO.tup.injEq, Option.some.injEq, exists_eq_left', exists_eq_left, List.cons.injEq, and_true, true_and, decide_eq_true_eq, reduceCtorEq, false_and, exists_false, or_false, false_or, exists_const, and_assoc, exists_and_left, List.append_nil, ix0, ix1, ix2, cm_mod, cdw1009, cdw2003, cdw7, cdw64, cdw2, cm104729, cm2, cm3, upd_same, List.length_cons, List.length_nil, Int.reduceLT, Int.reduceLE, Nat.reduceAdd, Nat.reduceLeDiff, Nat.reduceLT, Int.reduceToNat, r_for1, r_forL, r_forT, r_lcL, r_lc1, r_yes, r_gtupD, wipe_0, wipe_1, List.cons_append, List.nil_append, r_forS, r_ipI, ite_false, ite_true, Bool.not_true, Bool.not_false, decide_true, decide_false, r_isd, r_islt, cD_ty, cD_ref, tD_non, tD_bl, tD_int, tD_str, tD_ref, tH_lst, tH_tup, tH_dK, tH_ins, ki_self, ki_int_bool, ki_non_int, ki_str_int, ki_lt_lst, ki_lt_tup, r_fld, r_sfld, HO.ins.injEq, cx_K]
          exact k F H2 FH s2 rows
        · have eb := lvs_at e
          rw [List.take_length] at j
          obtain ⟨refs, hF3, pF⟩ := rows
          have a1 : 2 * (bg : Int) = ((2 * bg : Nat) : Int) := by omega
          have a2 : 2 * (us.length : Int) = ((2 * us.length : Nat) : Int) := by omega
          simp only [r_seq, r_next, r_brk, r_cont, r_asg, r_name, r_ret, r_retN, r_drop, r_ifs, r_never, r_var, r_c, r_op, r_un, r_if, r_tst, r_b, r_not, r_and, r_or, r_andV, r_orV, r_notV, r_nil, r_cons, r_tup, r_lst, r_cb, r_call, r_bm, r_bm0, r_sl, r_nopart, r_part, r_rev, r_gnil, r_gcons, r_gsub, r_par, r_aug, r_chain, r_I0, r_I, r_U, r_ixd, r_lend, r_tupd, r_listd, r_sld, r_app, r_ext, r_reverse, r_setl, r_cat, r_int1, r_eqS, r_neS, scal_ii, scal_bb, scal_ss, at0, at1, at2, sq_lst, sq_tup, isLst_lst, List.getElem?_cons_zero, List.getElem?_cons_succ, List.set_cons_zero, List.set_cons_succ, V.int.injEq, V.bl.injEq, V.ref.injEq, V.str.injEq, HO.lst.injEq, HO.tup.injEq, Option.some.injEq, exists_eq_left', exists_eq_left, List.cons.injEq, and_true, true_and, decide_eq_true_eq, reduceCtorEq, false_and, exists_false, or_false, false_or, exists_const, and_assoc, exists_and_left, List.append_nil, ix0, ix1, ix2, cm_mod, cdw1009, cdw2003, cdw7, cdw64, cdw2, cm104729, cm2, cm3, upd_same, List.length_cons, List.length_nil, Int.reduceLT, Int.reduceLE, Nat.reduceAdd, Nat.reduceLeDiff, Nat.reduceLT, Int.reduceToNat, r_for1, r_forL, r_forT, r_lcL, r_lc1, r_yes, r_gtupD, wipe_0, wipe_1, List.cons_append, List.nil_append, r_forS, r_ipI, ite_false, ite_true, Bool.not_true, Bool.not_false, decide_true, decide_false, r_isd, r_islt, cD_ty, cD_ref, tD_non, tD_bl, tD_int, tD_str, tD_ref, tH_lst, tH_tup, tH_dK, tH_ins, ki_self, ki_int_bool, ki_non_int, ki_str_int, ki_lt_lst, ki_lt_tup, r_fld, r_sfld, HO.ins.injEq, cx_K]
          refine ⟨true, .inl ⟨_, SqL.of u2, by cases us with | nil => cases e | cons x r => rfl⟩, ?_⟩
          simp only [r_seq, r_next, r_brk, r_cont, r_asg, r_name, r_ret, r_retN, r_drop, r_ifs, r_never, r_var, r_c, r_op, r_un, r_if, r_tst, r_b, r_not, r_and, r_or, r_andV, r_orV, r_notV, r_nil, r_cons, r_tup, r_lst, r_cb, r_call, r_bm, r_bm0, r_sl, r_nopart, r_part, r_rev, r_gnil, r_gcons, r_gsub, r_par, r_aug, r_chain, r_I0, r_I, r_U, r_ixd, r_lend, r_tupd, r_listd, r_sld, r_app, r_ext, r_reverse, r_setl, r_cat, r_int1, r_eqS, r_neS, scal_ii, scal_bb, scal_ss, at0, at1, at2, sq_lst, sq_tup, isLst_lst, List.getElem?_cons_zero, List.getElem?_cons_succ, List.set_cons_zero, List.set_cons_succ, V.int.injEq, V.bl.injEq, V.ref.injEq, V.str.injEq, HO.lst.injEq, HO.tup.injEq, Option.some.injEq, exists_eq_left', exists_eq_left, List.cons.injEq, and_true, true_and, decide_eq_true_eq, reduceCtorEq, false_and, exists_false, or_false, false_or, exists_const, and_assoc, exists_and_left, List.append_nil, ix0, ix1, ix2, cm_mod, cdw1009, cdw2003, cdw7, cdw64, cdw2, cm104729, cm2, cm3, upd_same, List.length_cons, List.length_nil, Int.reduceLT, Int.reduceLE, Nat.reduceAdd, Nat.reduceLeDiff, Nat.reduceLT, Int.reduceToNat, r_for1, r_forL, r_forT, r_lcL, r_lc1, r_yes, r_gtupD, wipe_0, wipe_1, List.cons_append, List.nil_append, r_forS, r_ipI, ite_false, ite_true, Bool.not_true, Bool.not_false, decide_true, decide_false, r_isd, r_islt, cD_ty, cD_ref, tD_non, tD_bl, tD_int, tD_str, tD_ref, tH_lst, tH_tup, tH_dK, tH_ins, ki_self, ki_int_bool, ki_non_int, ki_str_int, ki_lt_lst, ki_lt_tup, r_fld, r_sfld, HO.ins.injEq, cx_K, u2, eb, a1, a2, hF3, tyV_lst, lvs_len]
          have lr := Paired.length pF
          refine ⟨szl (by decide), fun p hp => ⟨_, by rw [upd_ne (ne_new hF3 hp)]; exact hF3, Nat.lt_of_le_of_lt (by rw [List.length_map, lr]; omega : _ ≤ 800000) (by decide), ?_⟩⟩
          obtain ⟨p1, p2⟩ := rows_put (R := ⟨2 * bg, 2 * us.length, lb⟩) FH s2 hF3 pF hp
          rw [j] at k
          exact k F _ FH p1 p2
    · show (_ : TS) _ [some x, none, none, none, none, none] H
      have no := I.no n hn
      simp only [r_seq, r_next, r_brk, r_cont, r_asg, r_name, r_ret, r_retN, r_drop, r_ifs, r_never, r_var, r_c, r_op, r_un, r_if, r_tst, r_b, r_not, r_and, r_or, r_andV, r_orV, r_notV, r_nil, r_cons, r_tup, r_lst, r_cb, r_call, r_bm, r_bm0, r_sl, r_nopart, r_part, r_rev, r_gnil, r_gcons, r_gsub, r_par, r_aug, r_chain, r_I0, r_I, r_U, r_ixd, r_lend, r_tupd, r_listd, r_sld, r_app, r_ext, r_reverse, r_setl, r_cat, r_int1, r_eqS, r_neS, scal_ii, scal_bb, scal_ss, at0, at1, at2, sq_lst, sq_tup, isLst_lst, List.getElem?_cons_zero, List.getElem?_cons_succ, List.set_cons_zero, List.set_cons_succ, V.int.injEq, V.bl.injEq, V.ref.injEq, V.str.injEq, HO.lst.injEq, HO.tup.injEq, Option.some.injEq, exists_eq_left', exists_eq_left, List.cons.injEq, and_true, true_and, decide_eq_true_eq, reduceCtorEq, false_and, exists_false, or_false, false_or, exists_const, and_assoc, exists_and_left, List.append_nil, ix0, ix1, ix2, cm_mod, cdw1009, cdw2003, cdw7, cdw64, cdw2, cm104729, cm2, cm3, upd_same, List.length_cons, List.length_nil, Int.reduceLT, Int.reduceLE, Nat.reduceAdd, Nat.reduceLeDiff, Nat.reduceLT, Int.reduceToNat, r_for1, r_forL, r_forT, r_lcL, r_lc1, r_yes, r_gtupD, wipe_0, wipe_1, List.cons_append, List.nil_append, r_forS, r_ipI, ite_false, ite_true, Bool.not_true, Bool.not_false, decide_true, decide_false, r_isd, r_islt, cD_ty, cD_ref, tD_non, tD_bl, tD_int, tD_str, tD_ref, tH_lst, tH_tup, tH_dK, tH_ins, ki_self, ki_int_bool, ki_non_int, ki_str_int, ki_lt_lst, ki_lt_tup, r_fld, r_sfld, HO.ins.injEq, cx_K, hx, no]
      exact raise_x (fun Q q => q) k
end
end C48

set_option maxHeartbeats 1000000
namespace C48
open PySem PySem.Spec PyProof.Rows L2
/-! ### the law's rows -/
theorem r_par3 {i j l : Nat} {ta : TA} {D : Ends} {σ : L2.St} {H : Hp} : tPar3 i j l ta D σ H = ta σ H (fun vs H1 => ∃ u v w, vs = [u, v, w] ∧ D.nx (((σ.set i (some u)).set j (some v)).set l (some w)) H1) := rfl
/-- rows that follow one another, each of 1 to 300 units, with lines in their bounds -/
inductive Chain : Nat → List LR → Prop
  | nil (b : Nat) : Chain b []
  | cons {b : Nat} {R : LR} {Rs : List LR} (h1 : R.lo = b) (h2 : R.lo + 2 ≤ R.hi) (h3 : R.hi ≤ R.lo + 2 * 300) (h4 : (R.hi - R.lo) % 2 = 0) (h5 : ∀ i, R.ln = some i → 1 ≤ i ∧ i < 2 ^ 40) (t : Chain R.hi Rs) : Chain b (R :: Rs)
def lastB : List LR → Nat → Nat
  | [], b => b
  | R :: Rs, _ => lastB Rs R.hi
theorem lastB_snoc : ∀ (Rs : List LR) (R : LR) (b : Nat), lastB (Rs ++ [R]) b = R.hi
  | [], R, b => rfl
  | Q :: Rs, R, b => lastB_snoc Rs R Q.hi
theorem Chain.snoc : ∀ {b : Nat} {Rs : List LR} {R : LR}, Chain b Rs → R.lo = lastB Rs b → R.lo + 2 ≤ R.hi → R.hi ≤ R.lo + 2 * 300 → (R.hi - R.lo) % 2 = 0 → (∀ i, R.ln = some i → 1 ≤ i ∧ i < 2 ^ 40) → Chain b (Rs ++ [R])
  | _, _, _, .nil b, h1, h2, h3, h4, h5 => .cons h1 h2 h3 h4 h5 (.nil _)
  | _, _, _, .cons a1 a2 a3 a4 a5 t, h1, h2, h3, h4, h5 => .cons a1 a2 a3 a4 a5 (Chain.snoc t h1 h2 h3 h4 h5)
def spDrawnL : Sp := fun vs H Q _ => ∃ (a : Addr) (first : Int), vs = [.ref a, .int first] ∧ Src H a ∧ 1 ≤ first ∧ first < 2 ^ 30 ∧ ∀ (F : Addr) (Rs : List LR) H', H F = none → F ≠ a → Keep a H H' → Src H' a → LRows H' F Rs → Rs.length ≤ 30 → Chain 0 Rs → Q (.ref F) H'
def lvDrawnL (H : Hp) (a F : Addr) (first : Int) (i : Nat) (σ : L2.St) (H' : Hp) : Prop := ∃ (Rs : List LR) (here : Int) (v1 v2 v3 : Option V), σ = [some (.ref a), some (.int first), some (.ref F), some (.int ((lastB Rs 0 : Nat) : Int)), some (.int here), v1, v2, v3] ∧ Keep a H H' ∧ Src H' a ∧ LRows H' F Rs ∧ Rs.length ≤ i ∧ Chain 0 Rs ∧ 1 ≤ here ∧ here < 2 ^ 30 + 5000 * (i : Int)
section
variable {P : Program} {w : World} {K : PySem.W.Frag} {mg : Str → Option Value} {base : Heap} {f : Addr} {fd : FuncData}
abbrev sdrawn_rows : Stmt := top 49
theorem scdrawn_rows : FnScope ["_law_source", "_law_first", "_law_found", "_law_at", "_law_here", "_law_k", "_law_high", "_law_step"] ["_law_source", "_law_first"] (defScope sdrawn_rows) := ⟨rfl, rfl, rfl, by decide +kernel, rfl, by decide +kernel, by decide +kernel⟩

end
end C48

set_option maxHeartbeats 1000000
namespace C48
open PySem PySem.Spec PyProof.Rows L2
section
variable {P : Program} {w : World} {K : PySem.W.Frag} {mg : Str → Option Value} {base : Heap} {f : Addr} {fd : FuncData}
theorem ok_drawn_rows (T : Txt mg) (F : FnP K "_law_drawn_rows" "_law_drawn_rows" sdrawn_rows f fd) (C_next : Cal P w K mg base 1 "_law_next" ["_law_source", "_law_many"] spNext) (C_one : Cal P w K mg base 2 "_law_one" ["_law_source", "_law_some"] spOne) : FnOk P w K mg base CX0 4 f fd ["_law_source", "_law_first"] spDrawnL := by
  refine F.ok scdrawn_rows (fun vs H Q E h => ?_) (fun cdv A outer s H vs Q E hr h => ?_)
  · obtain ⟨a, first, rfl, _⟩ := h
    rfl
  · obtain ⟨a, first, rfl, hS, f1, f2, k⟩ := h
    refine ⟨_, PSs.nox (pss_cons (ps_par3 (i := 2) (j := 3) (l := 4) (by rfl) scdrawn_rows.nd rfl rfl rfl (by decide) (by decide) (by decide) rfl rfl rfl (pa_cons (pe_lst pa_nil) (pa_cons pe_int (pa_cons (pv 1) pa_nil))) (by rfl))
  (pss_cons (ps_for PassesOwn.never rfl (pi_range1 rfl T.b_range (pa_cons (pe_cal C_next (hr.mono (by decide)) rfl (pa_cons (pv 0) (pa_cons pe_int pa_nil))) pa_nil)) (pg_name (i := 5) scdrawn_rows.nd rfl (Or.inl rfl))
    (pss_cons (ps_set (i := 6) scdrawn_rows.nd rfl (Or.inl rfl) (pe_op op_add (pv 3) (pe_op op_mul pe_int (pe_op op_add pe_int (pe_cal C_one (hr.mono (by decide)) rfl (pa_cons (pv 0) (pa_cons (pe_lst (pa_cons (pe_cal C_next (hr.mono (by decide)) rfl (pa_cons (pv 0) (pa_cons pe_int pa_nil))) (pa_cons pe_int (pa_cons pe_int (pa_cons (pe_cal C_next (hr.mono (by decide)) rfl (pa_cons (pv 0) (pa_cons pe_int pa_nil))) pa_nil))))) pa_nil)))))))
  (pss_cons (ps_set (i := 7) scdrawn_rows.nd rfl (Or.inl rfl) (pe_cal C_one (hr.mono (by decide)) rfl (pa_cons (pv 0) (pa_cons (pe_lst (pa_cons pe_int (pa_cons pe_int (pa_cons pe_int (pa_cons (pe_op op_sub pe_int pe_int) (pa_cons pe_int (pa_cons pe_int (pa_cons (pe_op op_sub pe_int pe_int) (pa_cons (pe_op op_sub pe_int pe_int) (pa_cons (pe_cal C_next (hr.mono (by decide)) rfl (pa_cons (pv 0) (pa_cons pe_int pa_nil))) (pa_cons (pe_op op_sub pe_int (pv 1)) pa_nil))))))))))) pa_nil))))
  (pss_cons (ps_set (i := 4) scdrawn_rows.nd rfl (Or.inl rfl) (pe_callB (call_max2 rfl) (by rfl) T.b_max (by decide +kernel) (pa_cons pe_int (pa_cons (pe_op op_add (pv 4) (pv 7)) pa_nil))))
  (pss_cons (ps_expr (pe_bm PySem.F.plainAttrs_list PySem.F.slot_list_append PySem.F.type_list_append mt_append (pv 2) (pa_cons (pe_tup (pa_cons (pv 3) (pa_cons (pv 6) (pa_cons (pe_cal C_one (hr.mono (by decide)) rfl (pa_cons (pv 0) (pa_cons (pe_lst (pa_cons (pv 4) (pa_cons (pv 4) (pa_cons (pv 4) (pa_cons pe_non pa_nil))))) pa_nil))) pa_nil)))) pa_nil)))
  (pss_one (ps_set (i := 3) scdrawn_rows.nd rfl (Or.inl rfl) (pv 6))))))))
  (pss_one (ps_ret (pv 2))))), ?_⟩
    show (_ : TS) _ [some (.ref a), some (.int first), none, none, none, none, none, none] H
    simp only [r_seq, r_next, r_brk, r_cont, r_asg, r_name, r_ret, r_retN, r_drop, r_ifs, r_never, r_var, r_c, r_op, r_un, r_if, r_tst, r_b, r_not, r_and, r_or, r_andV, r_orV, r_notV, r_nil, r_cons, r_tup, r_lst, r_cb, r_call, r_bm, r_bm0, r_sl, r_nopart, r_part, r_rev, r_gnil, r_gcons, r_gsub, r_par, r_aug, r_chain, r_I0, r_I, r_U, r_ixd, r_lend, r_tupd, r_listd, r_sld, r_app, r_ext, r_reverse, r_setl, r_cat, r_int1, r_eqS, r_neS, scal_ii, scal_bb, scal_ss, at0, at1, at2, sq_lst, sq_tup, isLst_lst, List.getElem?_cons_zero, List.getElem?_cons_succ, List.set_cons_zero, List.set_cons_succ, V.int.injEq, V.bl.injEq, V.ref.injEq, V.str.injEq, HO.lst.injEq, HO.tup.injEq, Option.some.injEq, exists_eq_left', exists_eq_left, List.cons.injEq, and_true, true_and, decide_eq_true_eq, reduceCtorEq, false_and, exists_false, or_false, false_or, exists_const, and_assoc, exists_and_left, List.append_nil, ix0, ix1, ix2, cm_mod, cdw1009, cdw2003, cdw7, cdw64, cdw2, cm104729, cm2, cm3, upd_same, List.length_cons, List.length_nil, Int.reduceLT, Int.reduceLE, Nat.reduceAdd, Nat.reduceLeDiff, Nat.reduceLT, Int.reduceToNat, r_for1, r_forL, r_forT, r_lcL, r_lc1, r_yes, r_gtupD, wipe_0, wipe_1, List.cons_append, List.nil_append, r_forS, r_ipI, ite_false, ite_true, Bool.not_true, Bool.not_false, decide_true, decide_false, r_isd, r_islt, cD_ty, cD_ref, tD_non, tD_bl, tD_int, tD_str, tD_ref, tH_lst, tH_tup, tH_dK, tH_ins, ki_self, ki_int_bool, ki_non_int, ki_str_int, ki_lt_lst, ki_lt_tup, r_fld, r_sfld, HO.ins.injEq, cx_K, r_par3]
    refine ⟨szl (by decide), fun F hF0 => ?_⟩
    have Fa : F ≠ a := hS.ne hF0
    refine ⟨a, 31, rfl, hS.new hF0, by decide, by decide, fun r H1 r0 r1 k1 S1 => ⟨r, rfl, by omega, by omega, ?_⟩⟩
    have hF1 : H1 F = some (.lst []) := k1 F _ Fa upd_same
    have K1 : Keep a H H1 := (Keep.new (Keep.refl a H) hF0).trans k1
    refine lp_rng (lvDrawnL H a F first) ⟨[], first, none, none, none, rfl, K1, S1, ⟨[], hF1, .nil⟩, Nat.zero_le _, .nil _, f1, by omega⟩ ?_ ?_
    · rintro i σ H2 hi ⟨Rs, here, v1, v2, v3, rfl, K2, S2, ⟨refs, hF, hP⟩, hl, hch, g1, g2⟩
      simp only [r_seq, r_next, r_brk, r_cont, r_asg, r_name, r_ret, r_retN, r_drop, r_ifs, r_never, r_var, r_c, r_op, r_un, r_if, r_tst, r_b, r_not, r_and, r_or, r_andV, r_orV, r_notV, r_nil, r_cons, r_tup, r_lst, r_cb, r_call, r_bm, r_bm0, r_sl, r_nopart, r_part, r_rev, r_gnil, r_gcons, r_gsub, r_par, r_aug, r_chain, r_I0, r_I, r_U, r_ixd, r_lend, r_tupd, r_listd, r_sld, r_app, r_ext, r_reverse, r_setl, r_cat, r_int1, r_eqS, r_neS, scal_ii, scal_bb, scal_ss, at0, at1, at2, sq_lst, sq_tup, isLst_lst, List.getElem?_cons_zero, List.getElem?_cons_succ, List.set_cons_zero, List.set_cons_succ, V.int.injEq, V.bl.injEq, V.ref.injEq, V.str.injEq, HO.lst.injEq, HO.tup.injEq, Option.some.injEq, exists_eq_left', exists_eq_left, List.cons.injEq, and_true, true_and, decide_eq_true_eq, reduceCtorEq, false_and, exists_false, or_false, false_or, exists_const, and_assoc, exists_and_left, List.append_nil, ix0, ix1, ix2, cm_mod, cdw1009, cdw2003, cdw7, cdw64, cdw2, cm104729, cm2, cm3, upd_same, List.length_cons, List.length_nil, Int.reduceLT, Int.reduceLE, Nat.reduceAdd, Nat.reduceLeDiff, Nat.reduceLT, Int.reduceToNat, r_for1, r_forL, r_forT, r_lcL, r_lc1, r_yes, r_gtupD, wipe_0, wipe_1, List.cons_append, List.nil_append, r_forS, r_ipI, ite_false, ite_true, Bool.not_true, Bool.not_false, decide_true, decide_false, r_isd, r_islt, cD_ty, cD_ref, tD_non, tD_bl, tD_int, tD_str, tD_ref, tH_lst, tH_tup, tH_dK, tH_ins, ki_self, ki_int_bool, ki_non_int, ki_str_int, ki_lt_lst, ki_lt_tup, r_fld, r_sfld, HO.ins.injEq, cx_K]
      refine ⟨a, 9, rfl, S2, by decide, by decide, fun n1 H3 b1 b2 k3 S3 => ⟨a, 300, rfl, S3, by decide, by decide, fun n2 H4 b3 b4 k4 S4 => ⟨szl (by decide : 4 ≤ 1000), fun p1 hp1 => ?_⟩⟩⟩
      refine ⟨a, p1, _, rfl, S4.new hp1, S4.ne hp1, upd_same, by simp, (by simp : _ ≤ 1000), fun v5 H5 hv k5 S5 => ?_⟩
      obtain ⟨u, rfl, u0, u1⟩ : ∃ u : Int, v5 = .int u ∧ 0 ≤ u ∧ u < 300 := by
        simp only [List.mem_cons, List.not_mem_nil, or_false] at hv
        rcases hv with rfl | rfl | rfl | rfl
        · exact ⟨_, rfl, b1, by omega⟩
        · exact ⟨_, rfl, by decide, by decide⟩
        · exact ⟨_, rfl, by decide, by decide⟩
        · exact ⟨_, rfl, b3, by omega⟩
      refine ⟨u, rfl, a, 5000, rfl, S5, by decide, by decide, fun n3 H6 b5 b6 k6 S6 => ⟨szl (by decide : 10 ≤ 1000), fun p2 hp2 => ?_⟩⟩
      refine ⟨a, p2, _, rfl, S6.new hp2, S6.ne hp2, upd_same, by simp, (by simp : _ ≤ 1000), fun v6 H7 hv2 k7 S7 => ?_⟩
      obtain ⟨d, rfl, d1⟩ : ∃ d : Int, v6 = .int d ∧ d < 5000 := by
        simp only [List.mem_cons, List.not_mem_nil, or_false] at hv2
        rcases hv2 with rfl | rfl | rfl | rfl | rfl | rfl | rfl | rfl | rfl | rfl <;> exact ⟨_, rfl, by omega⟩
      obtain ⟨he, ehe⟩ : ∃ he : Int, he = if here + d > 1 then here + d else 1 := ⟨_, rfl⟩
      have hb : 1 ≤ he ∧ he < 2 ^ 30 + 5000 * ((i + 1 : Nat) : Int) := by
        rw [ehe]
        split <;> omega
      have hF7 : H7 F = some (.lst (refs.map V.ref)) := by
        have e4 := k4 F _ Fa (k3 F _ Fa hF)
        have e6 := k6 F _ Fa (k5 F _ Fa (by rw [upd_ne (ne_new e4 hp1)]; exact e4))
        exact k7 F _ Fa (by rw [upd_ne (ne_new e6 hp2)]; exact e6)
      have K7 : Keep a H2 H7 := (((k3.trans k4).new hp1).trans (k5.trans k6)).new hp2 |>.trans k7
      refine ⟨d, rfl, ?_⟩
      rw [← ehe]
      refine ⟨tyl hF7, szl (by decide : 4 ≤ 1000), fun p3 hp3 => ?_⟩
      refine ⟨a, p3, _, rfl, S7.new hp3, S7.ne hp3, upd_same, by simp, (by simp : _ ≤ 1000), fun v7 H8 hv3 k8 S8 => ?_⟩
      obtain ⟨l, rfl, hl1⟩ : ∃ l : Option Int, v7 = lnV l ∧ ∀ j, l = some j → 1 ≤ j ∧ j < 2 ^ 40 := by
        simp only [List.mem_cons, List.not_mem_nil, or_false] at hv3
        rcases hv3 with rfl | rfl | rfl | rfl
        · exact ⟨some he, rfl, fun j e => by cases e; omega⟩
        · exact ⟨some he, rfl, fun j e => by cases e; omega⟩
        · exact ⟨some he, rfl, fun j e => by cases e; omega⟩
        · exact ⟨none, rfl, fun j e => by cases e⟩
      have hF8 : H8 F = some (.lst (refs.map V.ref)) := k8 F _ Fa (by rw [upd_ne (ne_new hF7 hp3)]; exact hF7)
      have K8 : Keep a H2 H8 := (K7.new hp3).trans k8
      refine ⟨szl (by decide : 3 ≤ 1000), fun q hq => ?_⟩
      have Fq : F ≠ q := ne_new hF8 hq
      refine ⟨_, by rw [upd_ne Fq]; exact hF8, szlt (by rw [List.length_map, Paired.length hP]; omega), ?_⟩
      obtain ⟨un, rfl⟩ : ∃ un : Nat, u = (un : Int) := ⟨u.toNat, by omega⟩
      have t1 : ((lastB Rs 0 : Nat) : Int) + 2 * (1 + (un : Int)) = ((lastB Rs 0 + 2 * (1 + un) : Nat) : Int) := by omega
      rw [t1]
      generalize hR : (⟨lastB Rs 0, lastB Rs 0 + 2 * (1 + un), l⟩ : LR) = R
      have e1 : ((lastB Rs 0 : Nat) : Int) = (R.lo : Int) := by rw [← hR]
      have e2 : ((lastB Rs 0 + 2 * (1 + un) : Nat) : Int) = (R.hi : Int) := by rw [← hR]
      have e3 : lnV l = lnV R.ln := by rw [← hR]
      refine ⟨Rs ++ [R], he, _, _, _, by rw [lastB_snoc, e2], ?_, ?_, ⟨refs ++ [q], ?_, ?_⟩, ?_, ?_, hb.1, hb.2⟩
      · intro b o hb' e
        rw [upd_ne (ne_new e hF0), upd_ne (ne_new (K8 b o hb' (K2 b o hb' e)) hq)]
        exact K8 b o hb' (K2 b o hb' e)
      · obtain ⟨x, y, z, e⟩ := S8
        exact ⟨x, y, z, by rw [upd_ne Fa.symm, upd_ne (ne_new e hq)]; exact e⟩
      · rw [upd_same, List.map_append]
        rfl
      · refine Paired.snoc' (Paired.map' hP fun r R e => ?_) (by rw [upd_ne Fq.symm, upd_same, e1, e2, e3]; rfl)
        have ra : r ≠ a := fun z => by
          obtain ⟨x, y, w, e2⟩ := S2
          rw [z, e2] at e
          cases e
        have rF : r ≠ F := fun z => by
          rw [z, hF] at e
          cases e
        have e7 := K8 r _ ra e
        rw [upd_ne rF, upd_ne (ne_new e7 hq)]
        exact e7
      · rw [List.length_append, List.length_singleton]
        omega
      · refine Chain.snoc hch (by rw [← hR]) ?_ ?_ ?_ ?_ <;> rw [← hR]
        · show lastB Rs 0 + 2 ≤ lastB Rs 0 + 2 * (1 + un)
          omega
        · show lastB Rs 0 + 2 * (1 + un) ≤ lastB Rs 0 + 2 * 300
          omega
        · show (lastB Rs 0 + 2 * (1 + un) - lastB Rs 0) % 2 = 0
          omega
        · exact hl1
    · rintro σ H2 ⟨Rs, here, v1, v2, v3, rfl, K2, S2, rows, hl, hch, g1, g2⟩
      simp only [r_seq, r_next, r_brk, r_cont, r_asg, r_name, r_ret, r_retN, r_drop, r_ifs, r_never, r_var, r_c, r_op, r_un, r_if, r_tst, r_b, r_not, r_and, r_or, r_andV, r_orV, r_notV, r_nil, r_cons, r_tup, r_lst, r_cb, r_call, r_bm, r_bm0, r_sl, r_nopart, r_part, r_rev, r_gnil, r_gcons, r_gsub, r_par, r_aug, r_chain, r_I0, r_I, r_U, r_ixd, r_lend, r_tupd, r_listd, r_sld, r_app, r_ext, r_reverse, r_setl, r_cat, r_int1, r_eqS, r_neS, scal_ii, scal_bb, scal_ss, at0, at1, at2, sq_lst, sq_tup, isLst_lst, List.getElem?_cons_zero, List.getElem?_cons_succ, List.set_cons_zero, List.set_cons_succ, V.int.injEq, V.bl.injEq, V.ref.injEq, V.str.injEq, HO.lst.injEq, HO.tup.injEq, Option.some.injEq, exists_eq_left', exists_eq_left, List.cons.injEq, and_true, true_and, decide_eq_true_eq, reduceCtorEq, false_and, exists_false, or_false, false_or, exists_const, and_assoc, exists_and_left, List.append_nil, ix0, ix1, ix2, cm_mod, cdw1009, cdw2003, cdw7, cdw64, cdw2, cm104729, cm2, cm3, upd_same, List.length_cons, List.length_nil, Int.reduceLT, Int.reduceLE, Nat.reduceAdd, Nat.reduceLeDiff, Nat.reduceLT, Int.reduceToNat, r_for1, r_forL, r_forT, r_lcL, r_lc1, r_yes, r_gtupD, wipe_0, wipe_1, List.cons_append, List.nil_append, r_forS, r_ipI, ite_false, ite_true, Bool.not_true, Bool.not_false, decide_true, decide_false, r_isd, r_islt, cD_ty, cD_ref, tD_non, tD_bl, tD_int, tD_str, tD_ref, tH_lst, tH_tup, tH_dK, tH_ins, ki_self, ki_int_bool, ki_non_int, ki_str_int, ki_lt_lst, ki_lt_tup, r_fld, r_sfld, HO.ins.injEq, cx_K]
      exact k F Rs H2 hF0 Fa K2 S2 rows (by omega) hch
end
end C48

set_option maxHeartbeats 1000000
namespace C48
open PySem PySem.Spec PyProof.Rows L2
/-! ### rows cut up -/
def RowB (R : LR) : Prop := R.lo + 2 ≤ R.hi ∧ R.hi ≤ R.lo + 2 * 300 ∧ (R.hi - R.lo) % 2 = 0 ∧ ∀ i, R.ln = some i → 1 ≤ i ∧ i < 2 ^ 40
theorem Chain.get : ∀ {b : Nat} {Rs : List LR} {i : Nat}, Chain b Rs → (h : i < Rs.length) → Rs[i].lo = lastB (Rs.take i) b ∧ lastB (Rs.take (i + 1)) b = Rs[i].hi ∧ RowB Rs[i]
  | _, _, 0, .cons h1 h2 h3 h4 h5 t, _ => ⟨h1, rfl, h2, h3, h4, h5⟩
  | _, _, i + 1, .cons h1 h2 h3 h4 h5 t, h => Chain.get (i := i) t (by simpa using h)
theorem Chain.bound : ∀ {b : Nat} {Rs : List LR}, Chain b Rs → ∀ R ∈ Rs, R.hi ≤ b + 600 * Rs.length ∧ RowB R
  | _, _, .nil b, R, h => by cases h
  | b, _, .cons (R := Q) (Rs := Rs) h1 h2 h3 h4 h5 t, R, h => by
    rcases List.mem_cons.mp h with rfl | h
    · exact ⟨by rw [List.length_cons]; omega, h2, h3, h4, h5⟩
    · obtain ⟨q1, q2⟩ := Chain.bound t R h
      exact ⟨by rw [List.length_cons]; omega, q2⟩
/-- d units of R are told -/
structure CutI (line : Int) (J : List LR) (R : LR) (d : Nat) (es : List Ent) (cu : Int) : Prop where
  b : endB es 0 = R.lo + 2 * d
  l : endL es line = cu
  j : joinL (rowsOf es 0 line) = if d = 0 then J else jstep J ⟨R.lo, R.lo + 2 * d, R.ln⟩
theorem CutI.step {line : Int} {J : List LR} {R : LR} {d u : Nat} {es : List Ent} {cu : Int} (h : CutI line J R d es cu) (hu : 1 ≤ u) : CutI line J R (d + u) (es ++ [(u, R.ln.map (· - cu))]) (R.ln.getD cu) := by
  obtain ⟨h1, h2, h3⟩ := h
  have el : ∀ o : Option Int, (o.map (· - cu)).map (cu + ·) = o := by
    intro o
    cases o with
    | none => rfl
    | some j => exact congrArg some (by show cu + (j - cu) = j; omega)
  refine ⟨?_, ?_, ?_⟩
  · rw [endB_snoc, h1]
    show R.lo + 2 * d + 2 * u = _
    omega
  · rw [endL_snoc, h2]
    unfold stepLn
    cases R.ln with
    | none => exact Int.add_zero _
    | some j => show cu + (j - cu) = j; omega
  · rw [rowsOf_snoc, joinL_snoc, h1, h2, h3, if_neg (by omega : ¬ d + u = 0)]
    have e : rowOf (u, R.ln.map (· - cu)) (R.lo + 2 * d) cu = ⟨R.lo + 2 * d, R.lo + 2 * (d + u), R.ln⟩ := by
      unfold rowOf
      rw [el, show R.lo + 2 * d + 2 * u = R.lo + 2 * (d + u) from by omega]
    rw [e]
    split
    · rename_i z
      subst z
      rfl
    · rw [jstep_two]
def spCut : Sp := fun vs H Q _ => ∃ (a F : Addr) (Rs : List LR) (line : Int), vs = [.ref a, .ref F, .int line] ∧ Src H a ∧ F ≠ a ∧ LRows H F Rs ∧ Rs.length ≤ 30 ∧ Chain 0 Rs ∧ 1 ≤ line ∧ line < 2 ^ 40 ∧
  ∀ (p : Addr) (es : List Ent) H', H p = none → p ≠ a → Keep a H H' → Src H' a → H' p = some (.lst (vn (entsB es))) → es.length ≤ 9000 → (∀ e ∈ es, EntOk e) → joinL (rowsOf es 0 line) = joinL Rs → Q (.ref p) H'
theorem entsB_len : ∀ {es : List Ent}, (∀ e ∈ es, EntOk e) → (entsB es).length ≤ 13 * es.length
  | [], _ => Nat.le_refl _
  | e :: es, h => by
    have h1 := entsB_len fun x hx => h x (List.mem_cons_of_mem _ hx)
    have h2 : (entryL e.1 e.2).length ≤ 13 := by
      obtain ⟨_, _, q⟩ := h e List.mem_cons_self
      cases m : e.2 with
      | none => exact (by decide : 1 ≤ 13)
      | some n =>
        obtain ⟨q1, q2⟩ := q n m
        have := litM_len (zig_lt q1 q2)
        show (litM (zig n)).length + 1 ≤ 13
        omega
    show (entryL e.1 e.2 ++ entsB es).length ≤ 13 * (es.length + 1)
    rw [List.length_append]
    omega
def lvCut (H : Hp) (a F p : Addr) (Rs : List LR) (line : Int) (i : Nat) (σ : L2.St) (H' : Hp) : Prop := ∃ (es : List Ent) (cu : Int) (v4 v5 v6 v7 v8 v9 : Option V), σ = [some (.ref a), some (.ref F), some (.int cu), some (.ref p), v4, v5, v6, v7, v8, v9] ∧ Keep a H H' ∧ Src H' a ∧ H' p = some (.lst (vn (entsB es))) ∧ es.length ≤ 300 * i ∧ (∀ e ∈ es, EntOk e) ∧
  1 ≤ cu ∧ cu < 2 ^ 40 ∧ endB es 0 = lastB (Rs.take i) 0 ∧ endL es line = cu ∧ joinL (rowsOf es 0 line) = joinL (Rs.take i)
def lvCutI (H : Hp) (a F p : Addr) (J : List LR) (R : LR) (i : Nat) (line : Int) (t : Nat) (σ : L2.St) (H' : Hp) : Prop := ∃ (d : Nat) (es : List Ent) (cu : Int) (v8 v9 : Option V), σ = [some (.ref a), some (.ref F), some (.int cu), some (.ref p), some (.int (R.lo : Int)), some (.int (R.hi : Int)), some (lnV R.ln), some (.int ((units R - d : Nat) : Int)), v8, v9] ∧ Keep a H H' ∧ Src H' a ∧ H' p = some (.lst (vn (entsB es))) ∧
  es.length ≤ 300 * i + d ∧ (∀ e ∈ es, EntOk e) ∧ 1 ≤ cu ∧ cu < 2 ^ 40 ∧ d ≤ units R ∧ t ≤ d ∧ CutI line J R d es cu
section
variable {P : Program} {w : World} {K : PySem.W.Frag} {mg : Str → Option Value} {base : Heap} {f : Addr} {fd : FuncData}
abbrev scut : Stmt := top 50
theorem sccut : FnScope ["_law_source", "_law_some", "_law_line", "_law_found", "_law_low", "_law_high", "_law_here", "_law_left", "_law_k", "_law_units"] ["_law_source", "_law_some", "_law_line"] (defScope scut) := ⟨rfl, rfl, rfl, by decide +kernel, rfl, by decide +kernel, by decide +kernel⟩

theorem ok_cut (T : Txt mg) (F : FnP K "_law_cut" "_law_cut" scut f fd) (C_next : Cal P w K mg base 1 "_law_next" ["_law_source", "_law_many"] spNext) (C_entry : Cal P w K mg base 2 "_law_entry" ["_law_units", "_law_more"] spEntry) : FnOk P w K mg base CX0 3 f fd ["_law_source", "_law_some", "_law_line"] spCut := by
  refine F.ok sccut (fun vs H Q E h => ?_) (fun cdv A outer s H vs Q E hr h => ?_)
  · obtain ⟨a, F, Rs, line, rfl, _⟩ := h
    rfl
  · obtain ⟨a, F, Rs, line, rfl, hS, Fa, ⟨refs, eF, pF⟩, hl, hch, l1, l2, k⟩ := h
    refine ⟨_, PSs.nox (pss_cons (ps_set (i := 3) sccut.nd rfl (Or.inl rfl) (pe_lst pa_nil))
  (pss_cons (ps_for PassesOwn.never rfl (pi_list (pv 1)) (pg_tupD (n := 3) rfl (pgs_cons (pg_name (i := 4) sccut.nd rfl (Or.inl rfl)) (pgs_cons (pg_name (i := 5) sccut.nd rfl (Or.inl rfl)) (pgs_cons (pg_name (i := 6) sccut.nd rfl (Or.inl rfl)) pgs_nil))))
    (pss_cons (ps_set (i := 7) sccut.nd rfl (Or.inl rfl) (pe_op op_fdivW (pe_op op_sub (pv 5) (pv 4)) pe_int))
  (pss_one (ps_for PassesOwn.never rfl (pi_range1 rfl T.b_range (pa_cons (pv 7) pa_nil)) (pg_name (i := 8) sccut.nd rfl (Or.inl rfl))
    (pss_cons (ps_set (i := 9) sccut.nd rfl (Or.inl rfl) (pe_callB (call_min2 rfl) (by rfl) T.b_min (by decide +kernel) (pa_cons (pv 7) (pa_cons (pe_op op_add pe_int (pe_cal C_next (hr.mono (by decide)) rfl (pa_cons (pv 0) (pa_cons pe_int pa_nil)))) pa_nil))))
  (pss_one (ps_if (pt_cmpR op_gt (pv 7) pe_int (nomark _))
    (pss_cons (ps_expr (pe_bm PySem.F.plainAttrs_list PySem.F.slot_list_extend PySem.F.type_list_extend mt_extend (pv 3) (pa_cons (pe_cal C_entry (hr.mono (by decide)) rfl (pa_cons (pv 9) (pa_cons (pe_ifExp (pt_cmpR op_isN (pv 6) pe_non (nomark _)) pe_non (pe_op op_sub (pv 6) (pv 2))) pa_nil))) pa_nil)))
  (pss_cons (ps_set (i := 2) sccut.nd rfl (Or.inl rfl) (pe_ifExp (pt_cmpR op_isN (pv 6) pe_non (nomark _)) (pv 2) (pv 6)))
  (pss_one (ps_set (i := 7) sccut.nd rfl (Or.inl rfl) (pe_op op_sub (pv 7) (pv 9))))))
    pss_nil)))))))
  (pss_one (ps_ret (pv 3))))), ?_⟩
    show (_ : TS) _ [some (.ref a), some (.ref F), some (.int line), none, none, none, none, none, none, none] H
    have lr := Paired.length pF
    simp only [r_seq, r_next, r_brk, r_cont, r_asg, r_name, r_ret, r_retN, r_drop, r_ifs, r_never, r_var, r_c, r_op, r_un, r_if, r_tst, r_b, r_not, r_and, r_or, r_andV, r_orV, r_notV, r_nil, r_cons, r_tup, r_lst, r_cb, r_call, r_bm, r_bm0, r_sl, r_nopart, r_part, r_rev, r_gnil, r_gcons, r_gsub, r_par, r_aug, r_chain, r_I0, r_I, r_U, r_ixd, r_lend, r_tupd, r_listd, r_sld, r_app, r_ext, r_reverse, r_setl, r_cat, r_int1, r_eqS, r_neS, scal_ii, scal_bb, scal_ss, at0, at1, at2, sq_lst, sq_tup, isLst_lst, List.getElem?_cons_zero, List.getElem?_cons_succ, List.set_cons_zero, List.set_cons_succ, V.int.injEq, V.bl.injEq, V.ref.injEq, V.str.injEq, HO.lst.injEq, HO.tup.injEq, Option.some.injEq, exists_eq_left', exists_eq_left, List.cons.injEq, and_true, true_and, decide_eq_true_eq, reduceCtorEq, false_and, exists_false, or_false, false_or, exists_const, and_assoc, exists_and_left, List.append_nil, ix0, ix1, ix2, cm_mod, cdw1009, cdw2003, cdw7, cdw64, cdw2, cm104729, cm2, cm3, upd_same, List.length_cons, List.length_nil, Int.reduceLT, Int.reduceLE, Nat.reduceAdd, Nat.reduceLeDiff, Nat.reduceLT, Int.reduceToNat, r_for1, r_forL, r_forT, r_lcL, r_lc1, r_yes, r_gtupD, wipe_0, wipe_1, List.cons_append, List.nil_append, r_forS, r_ipI, ite_false, ite_true, Bool.not_true, Bool.not_false, decide_true, decide_false, r_isd, r_islt, cD_ty, cD_ref, tD_non, tD_bl, tD_int, tD_str, tD_ref, tH_lst, tH_tup, tH_dK, tH_ins, ki_self, ki_int_bool, ki_non_int, ki_str_int, ki_lt_lst, ki_lt_tup, r_fld, r_sfld, HO.ins.injEq, cx_K]
    refine ⟨szl (by decide), fun p hp => ?_⟩
    have pa : p ≠ a := hS.ne hp
    have Fp : F ≠ p := ne_new eF hp
    have sF : ∀ {H' : Hp}, Keep a H H' → H' F = some (.lst (refs.map V.ref)) := fun kk => kk _ _ Fa eF
    refine ⟨⟨_, SqL.of (sF ((Keep.refl a H).new hp))⟩, lp_list (xs := refs.map V.ref) (lvCut H a F p Rs line) ⟨[], line, _, _, _, _, _, _, rfl, (Keep.refl a H).new hp, hS.new hp, upd_same, Nat.zero_le _, (fun e he => by cases he), l1, l2, rfl, rfl, rfl⟩ (fun i σ H' _ ⟨_, _, _, _, _, _, _, _, _, kk, _⟩ => SqL.of (sF kk)) ?_ ?_⟩
    · rintro i x σ H1 hx ⟨es, cu, v4, v5, v6, v7, v8, v9, rfl, k1, S1, h1, n1, ok1, c1, c2, b1, e1, j1⟩
      have hir : i < refs.length := by
        have := (List.getElem?_eq_some_iff.mp hx).1
        rwa [List.length_map] at this
      have hiR : i < Rs.length := by rw [← lr]; exact hir
      obtain rfl : x = .ref refs[i] := by
        rw [List.getElem?_map, List.getElem?_eq_getElem hir] at hx
        exact (Option.some.inj hx).symm
      have h0 := Paired.at' pF hir hiR
      have ra : refs[i] ≠ a := fun z => by
        obtain ⟨x, y, w, e2⟩ := hS
        rw [z, e2] at h0
        cases h0
      have hrow := k1 _ _ ra h0
      obtain ⟨g1, g2, r1, r2, r3, r4⟩ := Chain.get hch hiR
      have jn := nextJ hiR
      obtain ⟨R, hRe⟩ : ∃ R, R = Rs[i] := ⟨_, rfl⟩
      rw [← hRe] at hrow g1 g2 r1 r2 r3 r4 jn
      have hu : ((R.hi : Int) - (R.lo : Int)) / 2 = ((units R : Nat) : Int) := by unfold units; omega
      have hu1 : 1 ≤ units R ∧ units R ≤ 300 := by unfold units; omega
      have hu2 : R.lo + 2 * units R = R.hi := by unfold units; omega
      simp only [r_seq, r_next, r_brk, r_cont, r_asg, r_name, r_ret, r_retN, r_drop, r_ifs, r_never, r_var, r_c, r_op, r_un, r_if, r_tst, r_b, r_not, r_and, r_or, r_andV, r_orV, r_notV, r_nil, r_cons, r_tup, r_lst, r_cb, r_call, r_bm, r_bm0, r_sl, r_nopart, r_part, r_rev, r_gnil, r_gcons, r_gsub, r_par, r_aug, r_chain, r_I0, r_I, r_U, r_ixd, r_lend, r_tupd, r_listd, r_sld, r_app, r_ext, r_reverse, r_setl, r_cat, r_int1, r_eqS, r_neS, scal_ii, scal_bb, scal_ss, at0, at1, at2, sq_lst, sq_tup, isLst_lst, List.getElem?_cons_zero, List.getElem?_cons_succ, List.set_cons_zero, List.set_cons_succ, V.int.injEq, V.bl.injEq, V.ref.injEq, V.str.injEq, HO.lst.injEq, HO.tup.injEq, Option.some.injEq, exists_eq_left', exists_eq_left, List.cons.injEq, and_true, true_and, decide_eq_true_eq, reduceCtorEq, false_and, exists_false, or_false, false_or, exists_const, and_assoc, exists_and_left, List.append_nil, ix0, ix1, ix2, cm_mod, cdw1009, cdw2003, cdw7, cdw64, cdw2, cm104729, cm2, cm3, upd_same, List.length_cons, List.length_nil, Int.reduceLT, Int.reduceLE, Nat.reduceAdd, Nat.reduceLeDiff, Nat.reduceLT, Int.reduceToNat, r_for1, r_forL, r_forT, r_lcL, r_lc1, r_yes, r_gtupD, wipe_0, wipe_1, List.cons_append, List.nil_append, r_forS, r_ipI, ite_false, ite_true, Bool.not_true, Bool.not_false, decide_true, decide_false, r_isd, r_islt, cD_ty, cD_ref, tD_non, tD_bl, tD_int, tD_str, tD_ref, tH_lst, tH_tup, tH_dK, tH_ins, ki_self, ki_int_bool, ki_non_int, ki_str_int, ki_lt_lst, ki_lt_tup, r_fld, r_sfld, HO.ins.injEq, cx_K, hrow, lv, hu]
      rw [Int.toNat_natCast]
      refine ⟨by omega, by omega, lp_rng (n := units R) (lvCutI H a F p (joinL (Rs.take i)) R i line) ⟨0, es, cu, _, _, by rw [Nat.sub_zero], k1, S1, h1, n1, ok1, c1, c2, Nat.zero_le _, Nat.le_refl _, ⟨by rw [b1, g1]; rfl, e1, by rw [if_pos rfl]; exact j1⟩⟩ ?_ ?_⟩
      · rintro t σ H2 ht ⟨d, es, cu, v8, v9, rfl, k2, S2, h2, n2, ok2, c1, c2, d1, d2, hC⟩
        simp only [r_seq, r_next, r_brk, r_cont, r_asg, r_name, r_ret, r_retN, r_drop, r_ifs, r_never, r_var, r_c, r_op, r_un, r_if, r_tst, r_b, r_not, r_and, r_or, r_andV, r_orV, r_notV, r_nil, r_cons, r_tup, r_lst, r_cb, r_call, r_bm, r_bm0, r_sl, r_nopart, r_part, r_rev, r_gnil, r_gcons, r_gsub, r_par, r_aug, r_chain, r_I0, r_I, r_U, r_ixd, r_lend, r_tupd, r_listd, r_sld, r_app, r_ext, r_reverse, r_setl, r_cat, r_int1, r_eqS, r_neS, scal_ii, scal_bb, scal_ss, at0, at1, at2, sq_lst, sq_tup, isLst_lst, List.getElem?_cons_zero, List.getElem?_cons_succ, List.set_cons_zero, List.set_cons_succ, V.int.injEq, V.bl.injEq, V.ref.injEq, V.str.injEq, HO.lst.injEq, HO.tup.injEq, Option.some.injEq, exists_eq_left', exists_eq_left, List.cons.injEq, and_true, true_and, decide_eq_true_eq, reduceCtorEq, false_and, exists_false, or_false, false_or, exists_const, and_assoc, exists_and_left, List.append_nil, ix0, ix1, ix2, cm_mod, cdw1009, cdw2003, cdw7, cdw64, cdw2, cm104729, cm2, cm3, upd_same, List.length_cons, List.length_nil, Int.reduceLT, Int.reduceLE, Nat.reduceAdd, Nat.reduceLeDiff, Nat.reduceLT, Int.reduceToNat, r_for1, r_forL, r_forT, r_lcL, r_lc1, r_yes, r_gtupD, wipe_0, wipe_1, List.cons_append, List.nil_append, r_forS, r_ipI, ite_false, ite_true, Bool.not_true, Bool.not_false, decide_true, decide_false, r_isd, r_islt, cD_ty, cD_ref, tD_non, tD_bl, tD_int, tD_str, tD_ref, tH_lst, tH_tup, tH_dK, tH_ins, ki_self, ki_int_bool, ki_non_int, ki_str_int, ki_lt_lst, ki_lt_tup, r_fld, r_sfld, HO.ins.injEq, cx_K]
        refine ⟨a, 8, rfl, S2, by decide, by decide, fun x H3 b1 b2 k3 S3 => ⟨x, rfl, ?_⟩⟩
        have h3 := k3 p _ pa h2
        obtain ⟨L, hL⟩ : ∃ L, L = units R - d := ⟨_, rfl⟩
        rw [← hL]
        by_cases c0 : L = 0
        · rw [if_neg (by omega)]
          refine ⟨d, es, cu, _, _, by rw [← hL], k2.trans k3, S3, h3, n2, ok2, c1, c2, d1, by omega, hC⟩
        · rw [if_pos (by omega)]
          obtain ⟨u, hu⟩ : ∃ u : Nat, u = if 1 + x < (L : Int) then (1 + x).toNat else L := ⟨_, rfl⟩
          have hu' : (if 1 + x < (L : Int) then 1 + x else (L : Int)) = (u : Int) := by
            rw [hu]
            split <;> omega
          have ub : 1 ≤ u ∧ u ≤ 8 ∧ u ≤ L := by
            rw [hu]
            split <;> omega
          rw [hu']
          have hd : (L : Int) - (u : Int) = ((units R - (d + u) : Nat) : Int) := by omega
          rw [hd]
          have hE : EntOk (u, R.ln.map (· - cu)) := by
            refine ⟨ub.1, ub.2.1, fun n e => ?_⟩
            cases m : R.ln with
            | none => rw [m] at e; cases e
            | some j =>
              rw [m] at e
              cases e
              have := r4 j m
              show -(2 ^ 60) < j - cu ∧ j - cu < 2 ^ 60
              omega
          have hC2 := hC.step ub.1 (u := u)
          have okk : ∀ e ∈ es ++ [(u, R.ln.map (· - cu))], EntOk e := fun e he => by
            rcases List.mem_append.mp he with z | z
            · exact ok2 e z
            · rw [List.mem_singleton.mp z]
              exact hE
          have le1 := entsB_len okk
          have le2 : (entsB (es ++ [(u, R.ln.map (· - cu))])).length ≤ 200000 := by
            rw [List.length_append, List.length_singleton] at le1
            omega
          have cb : 1 ≤ R.ln.getD cu ∧ R.ln.getD cu < 2 ^ 40 := by
            cases m : R.ln with
            | none => exact ⟨c1, c2⟩
            | some j => exact r4 j m
          refine ⟨tyl h3, ?_⟩
          have fin : ∀ (q : Addr) (H4 : Hp), Same H3 H4 → H4 q = some (.lst (vn (entryL u (R.ln.map (· - cu))))) → (vn (entsB es)).length + (vn (entryL u (R.ln.map (· - cu)))).length ≤ sizeLine ∧
              lvCutI H a F p (joinL (Rs.take i)) R i line (t + 1) [some (.ref a), some (.ref F), some (.int (R.ln.getD cu)), some (.ref p), some (.int (R.lo : Int)), some (.int (R.hi : Int)), some (lnV R.ln), some (.int ((units R - (d + u) : Nat) : Int)), some (.int (t : Int)), some (.int (u : Int))] (L2.upd H4 p (.lst (vn (entsB es) ++ vn (entryL u (R.ln.map (· - cu)))))) := by
            intro q H4 s4 h4
            rw [entsB_snoc, List.length_append] at le2
            have s5 : Keep a H2 H4 := k3.trans (Keep.same s4)
            refine ⟨Nat.le_trans (by rw [vn_len, vn_len]; exact le2) (by decide : 200000 ≤ sizeLine), d + u, es ++ [(u, R.ln.map (· - cu))], R.ln.getD cu, _, _, rfl, ?_, ?_, ?_, ?_, okk, cb.1, cb.2, by omega, by omega, hC2⟩
            · intro b o hb e
              rw [upd_ne (ne_new e hp)]
              exact s5 b o hb (k2 b o hb e)
            · obtain ⟨x, y, z, e⟩ := S3
              exact ⟨x, y, z, by rw [upd_ne pa.symm]; exact s4 _ _ e⟩
            · rw [upd_same, entsB_snoc, vn_app]
            · rw [List.length_append, List.length_singleton]
              omega
          cases m : R.ln with
          | none =>
            rw [m] at fin
            rw [if_pos (show lnV none = V.non from rfl)]
            refine ⟨u, none, rfl, ub.1, ub.2.1, (fun n z => by cases z), fun q H4 hq s4 h4 => ⟨q, rfl, _, s4 _ _ h3, _, h4, ?_⟩⟩
            obtain ⟨f1, f2⟩ := fin q H4 s4 h4
            refine ⟨f1, ?_⟩
            rw [if_pos (show lnV none = V.non from rfl)]
            exact f2
          | some j =>
            rw [m] at fin
            rw [if_neg (show ¬ lnV (some j) = V.non from fun z => by cases z)]
            have := r4 j m
            refine ⟨j, rfl, u, some (j - cu), rfl, ub.1, ub.2.1, (fun n z => by cases z; omega), fun q H4 hq s4 h4 => ⟨q, rfl, _, s4 _ _ h3, _, h4, ?_⟩⟩
            obtain ⟨f1, f2⟩ := fin q H4 s4 h4
            refine ⟨f1, ?_⟩
            rw [if_neg (show ¬ lnV (some j) = V.non from fun z => by cases z)]
            exact f2
      · rintro σ H2 ⟨d, es, cu, v8, v9, rfl, k2, S2, h2, n2, ok2, c1, c2, d1, d2, hC⟩
        have ed : d = units R := by omega
        subst ed
        obtain ⟨q1, q2, q3⟩ := hC
        rw [if_neg (by omega), hu2] at q3
        exact ⟨es, cu, _, _, _, _, _, _, rfl, k2, S2, h2, by omega, ok2, c1, c2, by rw [q1, g2, hu2], q2, by rw [q3, jn]⟩
    · rintro σ H2 ⟨es, cu, v4, v5, v6, v7, v8, v9, rfl, k1, S1, h1, n1, ok1, c1, c2, b1, e1, j1⟩
      rw [List.length_map, lr] at n1 j1
      rw [List.take_length] at j1
      simp only [r_seq, r_next, r_brk, r_cont, r_asg, r_name, r_ret, r_retN, r_drop, r_ifs, r_never, r_var, r_c, r_op, r_un, r_if, r_tst, r_b, r_not, r_and, r_or, r_andV, r_orV, r_notV, r_nil, r_cons, r_tup, r_lst, r_cb, r_call, r_bm, r_bm0, r_sl, r_nopart, r_part, r_rev, r_gnil, r_gcons, r_gsub, r_par, r_aug, r_chain, r_I0, r_I, r_U, r_ixd, r_lend, r_tupd, r_listd, r_sld, r_app, r_ext, r_reverse, r_setl, r_cat, r_int1, r_eqS, r_neS, scal_ii, scal_bb, scal_ss, at0, at1, at2, sq_lst, sq_tup, isLst_lst, List.getElem?_cons_zero, List.getElem?_cons_succ, List.set_cons_zero, List.set_cons_succ, V.int.injEq, V.bl.injEq, V.ref.injEq, V.str.injEq, HO.lst.injEq, HO.tup.injEq, Option.some.injEq, exists_eq_left', exists_eq_left, List.cons.injEq, and_true, true_and, decide_eq_true_eq, reduceCtorEq, false_and, exists_false, or_false, false_or, exists_const, and_assoc, exists_and_left, List.append_nil, ix0, ix1, ix2, cm_mod, cdw1009, cdw2003, cdw7, cdw64, cdw2, cm104729, cm2, cm3, upd_same, List.length_cons, List.length_nil, Int.reduceLT, Int.reduceLE, Nat.reduceAdd, Nat.reduceLeDiff, Nat.reduceLT, Int.reduceToNat, r_for1, r_forL, r_forT, r_lcL, r_lc1, r_yes, r_gtupD, wipe_0, wipe_1, List.cons_append, List.nil_append, r_forS, r_ipI, ite_false, ite_true, Bool.not_true, Bool.not_false, decide_true, decide_false, r_isd, r_islt, cD_ty, cD_ref, tD_non, tD_bl, tD_int, tD_str, tD_ref, tH_lst, tH_tup, tH_dK, tH_ins, ki_self, ki_int_bool, ki_non_int, ki_str_int, ki_lt_lst, ki_lt_tup, r_fld, r_sfld, HO.ins.injEq, cx_K]
      exact k p es H2 hp pa k1 S1 h1 (by omega) ok1 j1
end
end C48

set_option maxHeartbeats 1000000
namespace C48
open PySem PySem.Spec PyProof.Rows L2
/-! ### joining twice is joining once -/
inductive ApS : List LR → Prop
  | nil : ApS []
  | snoc {xs : List LR} {R : LR} (h : ApS xs) (n : ∀ q, xs.getLast? = some q → q.ln ≠ R.ln) : ApS (xs ++ [R])
theorem ApS.inv {xs : List LR} {R : LR} (h : ApS (xs ++ [R])) : ApS xs ∧ ∀ q, xs.getLast? = some q → q.ln ≠ R.ln := by
  generalize e : xs ++ [R] = ys at h
  cases h with
  | nil => simp at e
  | snoc h n =>
    obtain ⟨rfl, e2⟩ := List.append_inj' e rfl
    cases e2
    exact ⟨h, n⟩
theorem ApS.jstep {acc : List LR} (R : LR) (h : ApS acc) : ApS (jstep acc R) := by
  rcases List.eq_nil_or_concat acc with rfl | ⟨xs, q, rfl⟩
  · exact .snoc .nil fun q e => by cases e
  · rw [List.concat_eq_append] at h ⊢
    rw [jstep_snoc]
    split
    · rename_i e
      obtain ⟨h1, h2⟩ := h.inv
      exact .snoc h1 fun p hp => by
        show p.ln ≠ R.ln
        rw [← e]
        exact h2 p hp
    · rename_i e
      refine .snoc h fun p hp => ?_
      rw [List.getLast?_concat] at hp
      cases hp
      exact e
theorem ApS.foldl : ∀ (Rs : List LR) {acc : List LR}, ApS acc → ApS (Rs.foldl C48.jstep acc)
  | [], _, h => h
  | R :: Rs, _, h => ApS.foldl Rs (h.jstep R)
theorem ApS.join {acc : List LR} (h : ApS acc) : joinL acc = acc := by
  induction h with
  | nil => rfl
  | @snoc xs R h n ih =>
    rw [joinL_snoc, ih]
    rcases List.eq_nil_or_concat xs with rfl | ⟨ys, q, rfl⟩
    · rfl
    · rw [List.concat_eq_append] at n ⊢
      rw [jstep_snoc, if_neg (n q (List.getLast?_concat))]
theorem join_join (Rs : List LR) : joinL (joinL Rs) = joinL Rs := (ApS.foldl Rs .nil).join
/-! ### rows that follow one another -/
def GR (R : LR) : Prop := R.lo + 2 ≤ R.hi ∧ R.hi ≤ 20000 ∧ (R.hi - R.lo) % 2 = 0 ∧ ∀ i, R.ln = some i → 1 ≤ i ∧ i < 2 ^ 40
inductive Chn : Nat → List LR → Prop
  | nil (b : Nat) : Chn b []
  | cons {b : Nat} {R : LR} {Rs : List LR} (h1 : R.lo = b) (h2 : GR R) (t : Chn R.hi Rs) : Chn b (R :: Rs)
theorem Chn.snoc : ∀ {b : Nat} {Rs : List LR} {R : LR}, Chn b Rs → R.lo = lastB Rs b → GR R → Chn b (Rs ++ [R])
  | _, _, _, .nil b, h1, h2 => .cons h1 h2 (.nil _)
  | _, _, _, .cons a1 a2 t, h1, h2 => .cons a1 a2 (Chn.snoc t h1 h2)
theorem Chn.inv : ∀ {xs : List LR} {b : Nat} {q : LR}, Chn b (xs ++ [q]) → Chn b xs ∧ q.lo = lastB xs b ∧ GR q
  | [], b, q, .cons h1 h2 _ => ⟨.nil _, h1, h2⟩
  | x :: xs, b, q, .cons h1 h2 t => by
    obtain ⟨g1, g2, g3⟩ := Chn.inv (xs := xs) t
    exact ⟨.cons h1 h2 g1, g2, g3⟩
theorem Chn.jstep {acc : List LR} {R : LR} (h : Chn 0 acc) (e : R.lo = lastB acc 0) (g : GR R) : Chn 0 (jstep acc R) ∧ lastB (C48.jstep acc R) 0 = R.hi := by
  rcases List.eq_nil_or_concat acc with rfl | ⟨xs, q, rfl⟩
  · exact ⟨.cons e g (.nil _), rfl⟩
  · rw [List.concat_eq_append] at h e ⊢
    rw [lastB_snoc] at e
    rw [jstep_snoc]
    obtain ⟨g1, g2, g3⟩ := h.inv
    split
    · rename_i e2
      refine ⟨g1.snoc g2 ⟨?_, ?_, ?_, ?_⟩, lastB_snoc _ _ _⟩
      · show q.lo + 2 ≤ R.hi
        have := g.1
        have := g3.1
        omega
      · exact g.2.1
      · show (R.hi - q.lo) % 2 = 0
        have := g.1
        have := g3.1
        have := g.2.2.1
        have := g3.2.2.1
        omega
      · exact g.2.2.2
    · exact ⟨h.snoc (by rw [lastB_snoc]; exact e) g, lastB_snoc _ _ _⟩
theorem Chn.foldl : ∀ {Rs : List LR} {b : Nat} {acc : List LR}, Chn b Rs → Chn 0 acc → lastB acc 0 = b → Chn 0 (Rs.foldl C48.jstep acc) ∧ lastB (Rs.foldl C48.jstep acc) 0 = lastB Rs b
  | [], b, acc, _, h, e => ⟨h, e⟩
  | R :: Rs, b, acc, .cons h1 h2 t, h, e => by
    obtain ⟨g1, g2⟩ := h.jstep (h1.trans e.symm) h2
    exact Chn.foldl (Rs := Rs) (b := R.hi) t g1 g2
theorem Chain.chn : ∀ {b : Nat} {Rs : List LR}, Chain b Rs → b + 600 * Rs.length ≤ 20000 → Chn b Rs
  | _, _, .nil b, _ => .nil b
  | b, _, .cons (R := R) (Rs := Rs) h1 h2 h3 h4 h5 t, h => by
    rw [List.length_cons] at h
    exact .cons h1 ⟨h2, by omega, h4, h5⟩ (Chain.chn t (by omega))
theorem Chn.all : ∀ {b : Nat} {Rs : List LR}, Chn b Rs → ∀ R ∈ Rs, GR R
  | _, _, .nil b, R, h => by cases h
  | _, _, .cons h1 h2 t, R, h => by
    rcases List.mem_cons.mp h with rfl | h
    · exact h2
    · exact Chn.all t R h
theorem GR.lok {R : LR} (h : GR R) : LOk R := by
  refine ⟨h.1, by have := h.2.1; omega, fun i e => ?_⟩
  have := h.2.2.2 i e
  omega
theorem Chn.last : ∀ {b : Nat} {Rs : List LR}, Chn b Rs → b ≤ 20000 → lastB Rs b ≤ 20000
  | _, _, .nil b, h => h
  | _, _, .cons (R := R) (Rs := Rs) h1 h2 t, h => Chn.last (Rs := Rs) (b := R.hi) t h2.2.1
theorem chn_join {Rs : List LR} (h : Chain 0 Rs) (hl : Rs.length ≤ 30) : Chn 0 (joinL Rs) := (Chn.foldl (h.chn (by omega)) (.nil 0) rfl).1
/-! ### the entries of joined rows -/
def lineE (c : Nat) (l : Option Int) (cur : Int) : List Ent := if h : c = 0 then [] else (min c 8, l.map (· - cur)) :: lineE (c - min c 8) l (l.getD cur)
termination_by c
decreasing_by omega
theorem lineE_0 (l : Option Int) (cur : Int) : lineE 0 l cur = [] := by
  rw [lineE]
  rfl
theorem lineE_pos {c : Nat} (h : c ≠ 0) (l : Option Int) (cur : Int) : lineE c l cur = (min c 8, l.map (· - cur)) :: lineE (c - min c 8) l (l.getD cur) := by
  rw [lineE]
  exact dif_neg h
theorem lineE_B (l : Option Int) : ∀ (c : Nat) (cur : Int), entsB (lineE c l cur) = lineB c l cur := by
  intro c
  induction c using Nat.strongRecOn with
  | _ c ih =>
    intro cur
    by_cases h : c = 0
    · subst h
      rw [lineE_0, lineB_0]
      rfl
    · rw [lineE_pos h, lineB_pos h, ← ih (c - min c 8) (by omega)]
      rfl
theorem lineE_len (l : Option Int) : ∀ (c : Nat) (cur : Int), (lineE c l cur).length ≤ c := by
  intro c
  induction c using Nat.strongRecOn with
  | _ c ih =>
    intro cur
    by_cases h : c = 0
    · subst h
      rw [lineE_0]
      exact Nat.le_refl 0
    · rw [lineE_pos h, List.length_cons]
      have := ih (c - min c 8) (by omega) (l.getD cur)
      omega
def CB (cu : Int) : Prop := 1 ≤ cu ∧ cu < 2 ^ 40
theorem lineE_ok {l : Option Int} (hl : ∀ i, l = some i → CB i) : ∀ (c : Nat) (cur : Int), CB cur → ∀ e ∈ lineE c l cur, EntOk e := by
  intro c
  induction c using Nat.strongRecOn with
  | _ c ih =>
    intro cur hc e he
    by_cases h : c = 0
    · subst h
      rw [lineE_0] at he
      cases he
    · rw [lineE_pos h] at he
      rcases List.mem_cons.mp he with rfl | he
      · refine ⟨by show 1 ≤ min c 8; omega, by show min c 8 ≤ 8; omega, fun n e => ?_⟩
        cases m : l with
        | none => rw [m] at e; cases e
        | some j =>
          rw [m] at e
          cases e
          have := hl j m
          unfold CB at *
          show -(2 ^ 60) < j - cur ∧ j - cur < 2 ^ 60
          omega
      · refine ih (c - min c 8) (by omega) (l.getD cur) ?_ e he
        cases m : l with
        | none => exact hc
        | some j => exact hl j m
theorem CutI.line {line : Int} {J : List LR} {R : LR} : ∀ (c d : Nat) (es : List Ent) (cu : Int), CutI line J R d es cu → CutI line J R (d + c) (es ++ lineE c R.ln cu) (if c = 0 then cu else R.ln.getD cu) := by
  intro c
  induction c using Nat.strongRecOn with
  | _ c ih =>
    intro d es cu h
    by_cases hc : c = 0
    · subst hc
      rw [lineE_0, List.append_nil, if_pos rfl]
      exact h
    · have h2 := ih (c - min c 8) (by omega) (d + min c 8) _ _ (h.step (u := min c 8) (by omega))
      rw [lineE_pos hc, if_neg hc]
      have e1 : d + min c 8 + (c - min c 8) = d + c := by omega
      rw [e1, List.append_assoc] at h2
      have e2 : (if c - min c 8 = 0 then R.ln.getD cu else R.ln.getD (R.ln.getD cu)) = R.ln.getD cu := by
        split
        · rfl
        · cases R.ln <;> rfl
      rw [e2] at h2
      exact h2
def entsOf : List LR → Int → List Ent
  | [], _ => []
  | R :: Rs, cur => lineE (units R) R.ln cur ++ entsOf Rs (R.ln.getD cur)
theorem entsOf_B : ∀ (Rs : List LR) (cur : Int), entsB (entsOf Rs cur) = bytesL Rs cur
  | [], _ => rfl
  | R :: Rs, cur => by
    show entsB (lineE (units R) R.ln cur ++ entsOf Rs (R.ln.getD cur)) = lineB (units R) R.ln cur ++ bytesL Rs (R.ln.getD cur)
    rw [entsB_app, lineE_B, entsOf_B Rs]
theorem CB.getD {cu : Int} {R : LR} (h : CB cu) (g : GR R) : CB (R.ln.getD cu) := by
  cases m : R.ln with
  | none => exact h
  | some j => exact g.2.2.2 j m
theorem entsOf_ok : ∀ {b : Nat} {Rs : List LR} {cur : Int}, Chn b Rs → CB cur → ∀ e ∈ entsOf Rs cur, EntOk e
  | _, _, _, .nil b, _, e, he => by cases he
  | _, _, cur, .cons (R := R) (Rs := Rs) h1 h2 t, hc, e, he => by
    rcases List.mem_append.mp he with z | z
    · exact lineE_ok h2.2.2.2 _ _ hc e z
    · exact entsOf_ok t (hc.getD h2) e z
theorem entsOf_len : ∀ {b : Nat} {Rs : List LR} {cur : Int}, Chn b Rs → 2 * (entsOf Rs cur).length + b ≤ lastB Rs b
  | _, _, _, .nil b => by
    show 2 * 0 + b ≤ b
    omega
  | b, _, cur, .cons (R := R) (Rs := Rs) h1 h2 t => by
    have q1 := entsOf_len (cur := R.ln.getD cur) t
    have q2 := lineE_len R.ln (units R) cur
    show 2 * (lineE (units R) R.ln cur ++ entsOf Rs (R.ln.getD cur)).length + b ≤ lastB Rs R.hi
    rw [List.length_append]
    have := h2.1
    unfold units at q2 ⊢
    omega
theorem entsOf_join {line : Int} : ∀ {Rs : List LR} {b : Nat} {cu : Int} {es : List Ent} {Js : List LR}, Chn b Rs → endB es 0 = b → endL es line = cu → joinL (rowsOf es 0 line) = joinL Js → joinL (rowsOf (es ++ entsOf Rs cu) 0 line) = joinL (Js ++ Rs)
  | [], _, _, es, Js, _, _, _, h => by
    show joinL (rowsOf (es ++ []) 0 line) = joinL (Js ++ [])
    rw [List.append_nil, List.append_nil]
    exact h
  | R :: Rs, b, cu, es, Js, .cons h1 h2 t, eb, el, h => by
    have h0 : CutI line (joinL Js) R 0 es cu := ⟨by rw [eb, ← h1]; rfl, el, by rw [if_pos rfl]; exact h⟩
    have hu : units R ≠ 0 := by
      have := h2.1
      unfold units
      omega
    have hh : R.lo + 2 * units R = R.hi := by
      have := h2.1
      have := h2.2.2.1
      unfold units
      omega
    obtain ⟨q1, q2, q3⟩ := CutI.line (units R) 0 es cu h0
    rw [Nat.zero_add, hh] at q1
    rw [if_neg hu] at q2
    rw [Nat.zero_add, if_neg hu, hh] at q3
    have := entsOf_join (Js := Js ++ [R]) t q1 q2 (by rw [q3, joinL_snoc])
    rw [List.append_assoc, List.append_assoc] at this
    exact this
theorem entsOf_rows {Rs : List LR} {line : Int} (h : Chn 0 Rs) : joinL (rowsOf (entsOf Rs line) 0 line) = joinL Rs := entsOf_join (es := []) (Js := []) h rfl rfl rfl
/-! ### all bytes are bytes -/
theorem litM_b : ∀ (m : Nat), ∀ x ∈ litM m, x < 128 := by
  intro m
  induction m using Nat.strongRecOn with
  | _ m ih =>
    intro x hx
    by_cases c : m < 64
    · rw [litM_lt c, List.mem_singleton] at hx
      omega
    · rw [litM_ge c] at hx
      rcases List.mem_cons.mp hx with rfl | hx
      · omega
      · exact ih (m / 64) (by omega) x hx
theorem entsB_b {es : List Ent} (h : ∀ e ∈ es, EntOk e) : ∀ x ∈ entsB es, x < 256 := by
  intro x hx
  obtain ⟨l, hl, hx⟩ := List.mem_flatten.mp hx
  obtain ⟨e, he, rfl⟩ := List.mem_map.mp hl
  obtain ⟨h1, h2, _⟩ := h e he
  cases m : e.2 with
  | none =>
    rw [m] at hx
    have := List.mem_singleton.mp hx
    omega
  | some n =>
    rw [m] at hx
    rcases List.mem_cons.mp hx with e | e
    · omega
    · have := litM_b _ x e
      omega
/-- what the law leans on -/
theorem joined_facts {Rs : List LR} {line : Int} (h : Chain 0 Rs) (hl : Rs.length ≤ 30) (hc : CB line) : ∃ es, entsB es = bytesL (joinL Rs) line ∧ (∀ e ∈ es, EntOk e) ∧ es.length ≤ 10000 ∧ joinL (rowsOf es 0 line) = joinL Rs := by
  have c := chn_join h hl
  have l1 := entsOf_len (cur := line) c
  have l2 := c.last (by decide)
  exact ⟨entsOf (joinL Rs) line, entsOf_B _ _, entsOf_ok c hc, by omega, by rw [entsOf_rows c, join_join]⟩
end C48

set_option maxHeartbeats 2000000
namespace C48
open PySem PySem.Spec PyProof.Rows L2
/-! ### the end of a law, told of the very state in which it is called -/
section
variable {P : Program} {w : World} {K : PySem.W.Frag} {mg mb : Str → Option Value} {fa a : Addr} {cs : List (Addr × Addr)} {s : Shared} {vs : List Value} {ns : List Int}
/-- tracked: the tables of code objects, and the script where nothing written holds it -/
def trk (K : PySem.W.Frag) (T : List Addr) (a : Addr) (vs : List Value) (ns : List Int) : Hp := fun b =>
  if b ∈ T then some (.tbl #[]) else if b = a ∧ K.lookup a = none then some (.frz { cls := .type "list", data := .seq vs.toArray } (.lst (ns.map V.int))) else none
theorem trk_tab {T : List Addr} {b : Addr} (h : b ∈ T) : trk K T a vs ns b = some (.tbl #[]) := if_pos h
theorem trk_cases {T : List Addr} {b : Addr} {u : HO} (h : trk K T a vs ns b = some u) : (b ∈ T ∧ u = .tbl #[]) ∨ (b ∉ T ∧ b = a ∧ K.lookup a = none ∧ u = .frz { cls := .type "list", data := .seq vs.toArray } (.lst (ns.map V.int))) := by
  unfold trk at h
  split at h
  · exact .inl ⟨by assumption, (Option.some.inj h).symm⟩
  · split at h
    · rename_i n q
      exact .inr ⟨n, q.1, q.2, (Option.some.inj h).symm⟩
    · cases h
/-- what the law's run at callerA must do -/
def RunsAt (P : Program) (w : World) (K : PySem.W.Frag) (mg : Str → Option Value) (cs : List (Addr × Addr)) (fa a : Addr) (s : Shared) (ns : List Int) : Prop := ∀ (base : Heap) (H : Hp), K.In base → base.Ns mainGlobals mg → (∀ p ∈ cs, LamX.TabB base mg p.1 p.2) → Env0 P w K mg base callerA [] s H →
  (∀ p ∈ cs, H p.2 = some (.tbl #[])) → SqL K H a (ns.map V.int) → codeAny (model P w) callerA (.call (.ref fa) ⟨[.ref a], []⟩) (CR CX0 [] P w H s (fun v _ => v = .bl true) E0) s
theorem end_run (KX : K.In s.heap) (hns : s.heap.Ns mainGlobals mg) (hb : s.heap.Ns builtinsNs mb) (hbb : ∀ x : Str, x ≠ "__name__" → mb x = bootBuiltins x) (hlim : s.heap.NoLimit) (hg : s.gens = #[])
    (hT : ∀ p ∈ cs, s.heap.get? p.2 = some { cls := .none, data := .fields #[] }) (nT : ∀ p ∈ cs, K.lookup p.2 = none) (C : ∀ p ∈ cs, PySem.W.CodeHd s.heap p.1 p.2)
    (hbm : ∃ (bm : Addr) (ob : Obj), mg "__builtins__" = some (.ref bm) ∧ bm ≠ builtinsNs ∧ s.heap.get? bm = some ob ∧ ob.cls = .type "module" ∧ ob.dict = some builtinsNs ∧ ob.data = .plain)
    (ha : s.heap.get? a = some { cls := .type "list", data := .seq vs.toArray }) (hi : IntsAre vs ns) (hl : ns.length ≤ sizeLine) (R : RunsAt P w K mg cs fa a s ns) :
    codeAny (model P w) callerA (.call (.ref fa) ⟨[.ref a], []⟩) (fun r s' => r = .ok (.ret (.bool true)) ∧ OldK s.heap s'.heap ∧ s'.os = s.os ∧ AllBare s'.gens) s := by
  have lens := hi.length
  obtain ⟨T, eT⟩ : ∃ T, T = cs.map (·.2) := ⟨_, rfl⟩
  have inT : ∀ {b : Addr}, b ∈ T → ∃ p ∈ cs, p.2 = b := fun {b} h => by rw [eT] at h; obtain ⟨p, hp, e⟩ := List.mem_map.mp h; exact ⟨p, hp, e⟩
  have toT : ∀ p ∈ cs, p.2 ∈ T := fun p hp => by rw [eT]; exact List.mem_map_of_mem hp
  have tabO : ∀ {b : Addr}, b ∈ T → s.heap.get? b = some { cls := .none, data := .fields #[] } := fun h => by obtain ⟨p, hp, rfl⟩ := inT h; exact hT p hp
  have aT : a ∉ T := fun h => by
    have := ha.symm.trans (tabO h)
    cases congrArg Obj.data (Option.some.inj this)
  generalize eH : trk K T a vs ns = H
  have cas : ∀ {b u}, H b = some u → (b ∈ T ∧ u = .tbl #[]) ∨ (b ∉ T ∧ b = a ∧ K.lookup a = none ∧ u = .frz { cls := .type "list", data := .seq vs.toArray } (.lst (ns.map V.int))) := fun {b u} h => trk_cases (by rw [eH]; exact h)
  -- what is neither a row of values nor an empty row of fields is hidden from nobody
  have free : ∀ {b : Addr} {o : Obj}, s.heap.get? b = some o → (∀ xs n, o.data ≠ .seq xs n) → o.data ≠ .fields #[] → H b = none := fun {b o} e h1 h2 => by
    cases q : H b with
    | none => rfl
    | some u =>
      rcases cas q with ⟨h, _⟩ | ⟨_, rfl, _⟩
      · cases e.symm.trans (tabO h)
        exact absurd rfl h2
      · cases e.symm.trans ha
        exact absurd rfl (h1 _ _)
  have seen : ∀ {b : Addr} {o : Obj}, s.heap.get? b = some o → (∀ xs n, o.data ≠ .seq xs n) → o.data ≠ .fields #[] → (hidT s.heap H).get? b = some o := fun e h1 h2 => hidT_get e (free e h1 h2)
  have nsS : ∀ {b : Addr} {m : Str → Option Value}, s.heap.Ns b m → (hidT s.heap H).Ns b m := fun ⟨o, es, ep, e, d, r⟩ => ⟨o, es, ep, seen e (by rw [d]; intro _ _ z; cases z) (by rw [d]; intro z; cases z), d, r⟩
  have KB : K.In (hidT s.heap H) := fun b o e => hidT_get (KX b o e) (by
    cases q : H b with
    | none => rfl
    | some u =>
      rcases cas q with ⟨h, _⟩ | ⟨_, rfl, n, _⟩
      · obtain ⟨p, hp, rfl⟩ := inT h
        cases (nT p hp).symm.trans e
      · cases n.symm.trans e)
  have MM : L2.Mod K mg (hidT s.heap H) := ⟨KB, nsS hns, ⟨mb, nsS hb, hbb⟩, by obtain ⟨mc, h1, h2⟩ := hlim; exact ⟨mc, nsS h1, h2⟩⟩
  have OK : HOk P w H s.heap := fun b u q => by
    rcases cas q with ⟨h, rfl⟩ | ⟨_, rfl, _, rfl⟩
    · exact tabO h
    · exact ⟨ha, by rw [List.length_map]; exact hl, vs, _, vals_ints hi, ha⟩
  have SQ : SqL K H a (ns.map V.int) := by
    cases k : K.lookup a with
    | none => exact .inl (.inr ⟨_, by rw [← eH]; unfold trk; rw [if_neg aT, if_pos ⟨rfl, k⟩]⟩)
    | some o =>
      cases (KX a o k).symm.trans ha
      exact .inr ⟨_, vs.toArray, _, k, rfl, rfl, rfl, by rw [List.size_toArray, lens]; exact hl, by simpa using vals_ints hi⟩
  have TB : ∀ p ∈ cs, LamX.TabB (hidT s.heap H) mg p.1 p.2 := fun p hp => by
    refine ⟨?_, ?_, ?_⟩
    · obtain ⟨o, us, file, tf, flags, tg, inF, text, tt, e1, r1, r2, r3, r⟩ := C p hp
      exact ⟨o, us, file, tf, flags, tg, inF, text, tt, seen e1 (by rw [r2]; intro _ _ z; cases z) (by rw [r2]; intro z; cases z; simp at r3), r1, r2, r3, r⟩
    · obtain ⟨bm, ob, b1, b2, b3, b4, b5, b6⟩ := hbm
      refine ⟨bm, ob, b1, b2, ?_, ?_, seen b3 (by rw [b6]; intro _ _ z; cases z) (by rw [b6]; intro z; cases z), b4, b5, b6⟩
      · rintro rfl
        obtain ⟨o, es, ep, e, d, _⟩ := hns
        cases e.symm.trans b3
        cases d.symm.trans b6
      · rintro rfl
        cases (hT p hp).symm.trans b3
        cases b6
    · intro z
      obtain ⟨o, es, ep, e, d, _⟩ := hns
      rw [z] at e
      cases (hT p hp).symm.trans e
      cases d
  have E0' : Env0 P w K mg (hidT s.heap H) callerA [] s H := ⟨rfl, MM, fun b o e => of_hidT e, Nat.le_of_eq (hidT_size _ _), trivial, (fun b hb => by cases hb), OK, .of_eq hg⟩
  refine codeAny_mono (R _ H KB (nsS hns) TB E0' (fun p hp => by rw [← eH]; exact trk_tab (toT p hp)) SQ) fun r s' h => ?_
  cases r with
  | error e => exact False.elim h
  | ok fl =>
    cases fl with
    | ret u =>
      obtain ⟨v, H', os, bare, un, ok', rv, rfl⟩ := h
      obtain rfl : u = Value.bool true := rv
      have stay : ∀ {b : Addr} {o : Obj}, b ∉ T → s.heap.get? b = some o → s'.heap.get? b = some o := fun {b o} n e => by
        cases q : H b with
        | none => exact un.keep b o e q (by intro z; cases z) (by simp)
        | some u =>
          rcases cas q with ⟨h, _⟩ | ⟨_, rfl, _, rfl⟩
          · exact absurd h n
          · cases e.symm.trans ha
            exact (ok' _ _ (un.frzs _ _ _ q)).1
      have more : ∀ {b : Addr}, b ∈ T → ∃ xs : Array Value, s'.heap.get? b = some { cls := .none, data := .fields xs } := fun {b} h => by
        obtain ⟨xs, z⟩ := un.tbls b #[] (by rw [← eH]; exact trk_tab h)
        exact ⟨_, ok' b _ z⟩
      refine ⟨rfl, ⟨fun b o e => ?_, fun b o e => ?_⟩, os, bare⟩
      · rcases Classical.em (b ∈ T) with h | h
        · obtain ⟨xs, hx⟩ := more h
          cases (tabO h).symm.trans e
          obtain ⟨p, hp, rfl⟩ := inT h
          exact .inr (.inl ⟨((C p hp).tab (hT p hp)).isCodeTable, rfl, #[], xs, rfl, hx.trans (by rw [Array.empty_append])⟩)
        · exact .inl (stay h e)
      · rcases Classical.em (b ∈ T) with h | h
        · obtain ⟨xs, hx⟩ := more h
          exact ⟨_, hx⟩
        · exact ⟨o, stay h e⟩
    | _ => exact False.elim h
/-- the law's walk, from its run -/
theorem walk_run {l : PySem.W.OpenLaw} {n : Nat} {q : Program} {loose : List Str} {XP : (Str → Option Value) → Heap → Prop} {YP : World → Heap → Prop} {d : DefRec} (hn : l.most = some n) (hn2 : n ≤ sizeLine) (hdf : d.params.defaults = [])
    (F : ∀ (w : World) (mg : Str → Option Value) (fa : Addr) (h : Heap), YP w h → h.Ns mainGlobals mg → mg d.name = some (.ref fa) → ∃ (K : PySem.W.Frag) (cs : List (Addr × Addr)), K.In h ∧ (∀ p ∈ cs, h.get? p.2 = some { cls := .none, data := .fields #[] }) ∧
      (∀ p ∈ cs, K.lookup p.2 = none) ∧ (∀ p ∈ cs, PySem.W.CodeHd h p.1 p.2) ∧ ∀ (s : Shared) (a : Addr) (ns : List Int), ns.length ≤ n → (∀ z ∈ ns, Builtin.Int.intBits z ≤ 1048576) → RunsAt l.prog w K mg cs fa a s ns) :
    PySem.W.WalkO q loose XP YP l.row.toRowW d [] (fun f vs => PySem.call f vs) := by
  refine Att.attach_callB hn hdf fun w s0 s1 mg mb fa o pm cd doc a vs ns G Y ho hd hcd hmg hobj hints hlen hbits hg => ?_
  obtain ⟨K, cs, kx, hT, nT, C, R⟩ := F w mg fa _ Y G.T.g hmg
  exact end_run kx G.T.g G.T.b G.T.builtins G.T.nolimit hg hT nT C G.T.bmain hobj hints (Nat.le_trans hlen hn2) (R s1 a ns hlen hbits)
end

section
variable {X : Cx}
/-! ### the script + a written list -/
def rCatS (K : PySem.W.Frag) : R2 := fun x y H Q => ∃ l b xs zs, x = .ref l ∧ y = .ref b ∧ SqL K H l xs ∧ H b = some (.lst zs) ∧ xs.length + zs.length ≤ sizeLine ∧ ∀ p, H p = none → Q (.ref p) (L2.upd H p (.lst (xs ++ zs)))
theorem op_catS : OpR X (binaryOp .Add) (rCatS X.K) := by
  rintro pins s σ H x y v u Q I rx ry ⟨l, b, xs, zs, rfl, rfl, hs, hb, hz, q⟩
  cases rx
  cases ry
  obtain ⟨i1, r1, ⟨⟨c1, d1, t1, sl1⟩, n1, e1, k1, _, k2⟩, _⟩ := I.list hs
  obtain ⟨_, i2, n2, r2, l2, e2⟩ := I.lstM hb
  dsimp only at k1 k2
  subst k1 k2
  have l1 := r1.length
  refine concat_meets ⟨_, e1, rfl⟩ ⟨_, e2, rfl⟩ noFill_list_add seq_list_add PySem.F.slot_list_add PySem.F.entry_list_add (PySem.F.args_list_add_2 _ _) (list_addW l b i1.toArray i2.toArray n1 n2 d1 none sl1 #[] (by rw [List.size_toArray, List.size_toArray]; omega)) ⟨e1, e2, ?_⟩
  rw [show i1.toArray ++ i2.toArray = (i1 ++ i2).toArray from by simp]
  exact ⟨.ref _, _, I.lnew (t' := s.toks) (r1.append r2) (by rw [List.length_append]; omega), rfl, q _ I.fresh⟩
/-! ### repr of data -/
def rReprD (K : PySem.W.Frag) : List V → Hp → VK → Prop := fun vs H Q => ∃ (a : Addr) (d : PyData), vs = [.ref a] ∧ Dp K H (.ref a) d ∧ d.showable = true ∧ d.hasDict = false ∧ d.depth ≤ 10 ∧ d.shown.length ≤ sizeLine ∧ Q (.str d.shown) H
theorem call_repr_D (hg : X.A.guards = some []) (hu : X.A.units + 20 < cLine) : CallR X (.builtin "repr") (rReprD X.K) := by
  rintro pins s σ H xs us Q I r ⟨a, d, rfl, hd, h1, h2, h3, h4, q⟩
  obtain ⟨v, rfl, rv⟩ := vals1 r
  obtain ⟨as, rd⟩ := Dp.reads I d _ v hd rv
  obtain rfl : v = Value.ref a := rv
  exact repr_of_reads' rd h1 (fun z => by rw [h2] at z; cases z) hg (by omega) (fun _ _ e => e) (fun h' u tk k => ⟨.str d.shown, H, I.kept (t' := tk) k, ⟨_, rfl⟩, q⟩) h4
/-! ### a call by one keyword; a def that may raise -/
structure CalX (P : Program) (w : World) (K : PySem.W.Frag) (mg : Str → Option Value) (base : Heap) (k : Nat) (x y : Str) (sp : Sp) : Prop where
  ex : ∃ f fd, FnOk P w K mg base (L2.CX P w) k f fd [y] sp ∧ mg x = some (.ref f) ∧ PySem.W.keepIn K (.ref f) = true ∧ Binds K fd [y] [] ∧ KBn K fd [y] 0 [y] (fun _ ws => ws) (fun _ zs => zs)
theorem pe_calX {W : WX} {E : XK} {k : Nat} {x y : Str} {sp : Sp} {e : Expr} {t : TA} {p pos : Pos} (C : CalX X.prog X.w X.K X.mg X.base k x y sp) (hr : Room k X.A) (hg : Gl X x) (tk : Takes X W) (hW : ∀ cls d σ H, E cls d H → W cls d σ H) (ha : PA X [e] t)
    (hdb : (x == ("__debug__" : Str)) = false := by decide) (he : starEach [e] X.env = (false, eval e X.env) :: starEach [] X.env := by rfl) (hpl : (backTo pos (starEach [] X.env)).any (·.1) = false := by rfl) :
    PE X (.Call (.Name x p) [e] [] pos) (tCall sp [] E t) := by
  obtain ⟨f, fd, F, m, kp, b, _⟩ := C.ex
  exact pe_call F hr hg m kp b .nil (passes_call tk hW) ha hdb he hpl
def QK1 (sp : Sp) (Q : VK) (E : XK) : List V → Hp → Prop := fun zs H1 => match zs with
  | [v] => sp [v] H1 Q E
  | _ => False
theorem qk1 {sp : Sp} {Q : VK} {E : XK} {zs : List V} {H : Hp} (h : QK1 sp Q E zs H) : ∃ v, zs = [v] ∧ sp [v] H Q E := by
  match zs, h with
  | [v], h => exact ⟨v, rfl, h⟩
def tCallK1 (sp : Sp) (E : XK) (te : TE) : TE := fun σ H Q => te σ H fun v H1 => sp [v] H1 Q E
theorem pe_calXK {W : WX} {E : XK} {k : Nat} {x y : Str} {sp : Sp} {e : Expr} {te : TE} {p pos kpos : Pos} (C : CalX X.prog X.w X.K X.mg X.base k x y sp) (hr : Room k X.A) (hg : Gl X x) (tk : Takes X W) (hW : ∀ cls d σ H, E cls d H → W cls d σ H) (ha : PE X e te)
    (hall : (backToKw pos (keywordEach [⟨some y, e, kpos⟩] X.env)).all (·.1.isSome) = true := by rfl) (hks : (backToKw pos (keywordEach [⟨some y, e, kpos⟩] X.env)).filterMap (·.1) = [y] := by rfl) (hdb : (x == ("__debug__" : Str)) = false := by decide)
    (hpl : ((backTo pos (starEach [] X.env)).any (·.1) || (backToKw pos (keywordEach [⟨some y, e, kpos⟩] X.env)).any (·.1.isNone)) = false := by rfl) :
    PE X (.Call (.Name x p) [] [⟨some y, e, kpos⟩] pos) (tCallK1 sp E te) := by
  obtain ⟨f, fd, F, m, kp, _, b⟩ := C.ex
  refine ⟨fun pins s σ H Q I h => wpAny_Call_Name_kw (ld_glob I hg m (PySem.W.callWith_KW0 (h₀ := X.base) I.ok.mod.kin kp hall ?_ hpl) hdb)⟩
  refine thn ((pk_cons (nm := some y) (kpos := kpos) ha pk_nil).run pos pins s σ H (QK1 sp Q E) I h) fun ws s2 ⟨zs, H2, I2, rz, q⟩ => ⟨I2.kIn, ?_⟩
  obtain ⟨v, rfl, q⟩ := qk1 q
  rw [hks]
  exact run_fnN (us := []) (vs := []) (n := 0) F hr b (passes_call tk hW) I2 .nil rz rfl rfl q
structure CalK (P : Program) (w : World) (K : PySem.W.Frag) (mg : Str → Option Value) (base : Heap) (k : Nat) (x y : Str) (sp : Sp) : Prop where
  ex : ∃ f fd, FnOk P w K mg base CX0 k f fd [y] sp ∧ mg x = some (.ref f) ∧ PySem.W.keepIn K (.ref f) = true ∧ Binds K fd [y] [] ∧ KBn K fd [y] 0 [y] (fun _ ws => ws) (fun _ zs => zs)
theorem CalK.cal {P : Program} {w : World} {K : PySem.W.Frag} {mg : Str → Option Value} {base : Heap} {k : Nat} {x y : Str} {sp : Sp} (C : CalK P w K mg base k x y sp) : Cal P w K mg base k x [y] sp := by
  obtain ⟨f, fd, F, m, kp, b, _⟩ := C.ex
  exact ⟨⟨f, fd, F, m, kp, b⟩⟩
theorem pe_calK {k : Nat} {x y : Str} {sp : Sp} {e : Expr} {te : TE} {p pos kpos : Pos} (C : CalK X.prog X.w X.K X.mg X.base k x y sp) (hr : Room k X.A) (hg : Gl X x) (ha : PE X e te)
    (hall : (backToKw pos (keywordEach [⟨some y, e, kpos⟩] X.env)).all (·.1.isSome) = true := by rfl) (hks : (backToKw pos (keywordEach [⟨some y, e, kpos⟩] X.env)).filterMap (·.1) = [y] := by rfl) (hdb : (x == ("__debug__" : Str)) = false := by decide)
    (hpl : ((backTo pos (starEach [] X.env)).any (·.1) || (backToKw pos (keywordEach [⟨some y, e, kpos⟩] X.env)).any (·.1.isNone)) = false := by rfl) :
    PE X (.Call (.Name x p) [] [⟨some y, e, kpos⟩] pos) (tCallK1 sp E0 te) := by
  obtain ⟨f, fd, F, m, kp, _, b⟩ := C.ex
  refine ⟨fun pins s σ H Q I h => wpAny_Call_Name_kw (ld_glob I hg m (PySem.W.callWith_KW0 (h₀ := X.base) I.ok.mod.kin kp hall ?_ hpl) hdb)⟩
  refine thn ((pk_cons (nm := some y) (kpos := kpos) ha pk_nil).run pos pins s σ H (QK1 sp Q E0) I h) fun ws s2 ⟨zs, H2, I2, rz, q⟩ => ⟨I2.kIn, ?_⟩
  obtain ⟨v, rfl, q⟩ := qk1 q
  rw [hks]
  exact run_fnN (us := []) (vs := []) (n := 0) F hr b pass0 I2 .nil rz rfl rfl q
end
/-- one parameter, given by its name -/
theorem kw1 {K : PySem.W.Frag} {x qual : Str} {params : Arguments} {body : List Stmt} {scope : Scope} {f : Addr} {fd : FuncData} {p : Str} (F : FunD K x qual params body scope [] [] f fd)
    (h : ∀ (kV doc pm : Value) (an : Option Addr) (cdv ct w : Value), bindArgs (PySem.W.fnOf x qual params body scope .none kV doc pm an cdv ct) ⟨[], [(p, w)]⟩ = pure [(p, w)]) : KBn K fd [p] 0 [p] (fun _ ws => ws) (fun _ zs => zs) := by
  obtain ⟨oc, od, dV, kV, doc, pm, an, cdv, ct, osl, rfl, lk, hcd, hD, hK⟩ := F.ex
  rcases hD with ⟨_, rfl⟩ | ⟨e, _⟩
  · refine ⟨fun s us ws _ l1 l2 => ?_, fun _ r => r⟩
    match us, l1, ws, l2 with
    | [], _, [w], _ => exact .of_eq (h kV doc pm an cdv ct w)
  · exact absurd rfl e

abbrev Nlaw : List Str := ["_law_script", "_law_cell", "_law_source", "_law_first", "_law_given", "_law_due", "_law_whole", "_law_got", "_law_table", "_law_made_here", "_law_found", "_law_odd"]
abbrev slaw : Stmt := top 51
theorem sclaw : FnScope ["_law_script", "_law_cell", "_law_source", "_law_first", "_law_given", "_law_due", "_law_whole", "_law_got", "_law_table", "_law_made_here", "_law_found", "_law_odd"] ["_law_script"] (defScope slaw) := ⟨rfl, rfl, rfl, by decide +kernel, rfl, by decide +kernel, by decide +kernel⟩

/-- what the law calls, and its own function object -/
structure LawT (P : Program) (w : World) (K : PySem.W.Frag) (mg : Str → Option Value) (base : Heap) (CC CN CE CT CR CB gC : Addr) (cdC : Value) : Prop where
  T : Txt mg
  I : CodeT K mg CC
  N : NoCodeT K mg CN CE
  gT : mg "NoTable" = some (.ref CT)
  gR : mg "NoRows" = some (.ref CR)
  gB : mg "NoBytes" = some (.ref CB)
  C_source_of : Cal P w K mg base 1 "_law_source_of" ["_law_cell"] spSrc
  C_next : Cal P w K mg base 1 "_law_next" ["_law_source", "_law_many"] spNext
  C_one : Cal P w K mg base 2 "_law_one" ["_law_source", "_law_some"] spOne
  C_drawn_rows : Cal P w K mg base 4 "_law_drawn_rows" ["_law_source", "_law_first"] spDrawnL
  C_lline_bytes : Cal P w K mg base 3 "_law_line_bytes" ["_law_some", "_law_line"] spLLB
  C_ljoined : Cal P w K mg base 1 "_law_joined" ["_law_some"] spJoinedL
  C_line_bytes : Cal P w K mg base 3 "line_bytes" ["rows", "line"] spLineBytes
  C_cut : Cal P w K mg base 3 "_law_cut" ["_law_source", "_law_some", "_law_line"] spCut
  C_made : Cal P w K mg base 5 "_law_made" ["_law_data", "_law_lines", "_law_guards", "_law_first"] (spMade CC)
  CX_line_rows : CalX P w K mg base 3 "line_rows" "code" (spLineRows CC CN)
  g_caught : mg "_law_caught" = some (.ref gC)
  k_caught : PySem.W.keepIn K (.ref gC) = true
  c_caught : PySem.W.codeIn K cdC "_law_caught" = true
  f_caught : ∃ (oc : Value) (od : Option Addr) (dV kV doc pm ct : Value) (an : Option Addr) (osl : Array (Option Value)), K.lookup gC = some ⟨oc, od, .func (PySem.W.fnOf "_law_caught" "_law_caught" (defArgs scaught) (defBody scaught) (defScope scaught) dV kV doc pm an cdC ct), osl⟩ ∧
    Binds K (PySem.W.fnOf "_law_caught" "_law_caught" (defArgs scaught) (defBody scaught) (defScope scaught) dV kV doc pm an cdC ct) ["_law_ask"] []
section
variable {P : Program} {w : World} {K : PySem.W.Frag} {mg : Str → Option Value} {base : Heap}
abbrev Xlaw (P : Program) (w : World) (K : PySem.W.Frag) (mg : Str → Option Value) (base : Heap) (fa co : Addr) (s : Shared) (H : Hp) : Cx := cxOf CX0 P w K mg base Nlaw "law" (defScope slaw) fa (.ref co) callerA [] s H E0
/-- the law's lambda, handed to the def that catches -/
def tLamL (CC CN Pt : Addr) (q : Str) : TE := LamX.tLam [(Pt, q)] (TTCaught CN) (fun E => tCall (spLineRows CC CN) [] E (tCons (tVar 11) tNil))
def t_odd (K : PySem.W.Frag) (CC CN Pt : Addr) (q : Str) : TS := tIfS (tTest (tOp (rNeD K) (tLamL CC CN Pt q) (tTup (tCons (tC (V.str "code")) (tCons (tC (V.str "code")) tNil))))) (tRet (tC (V.bl false))) tNext
def t_odds (K : PySem.W.Frag) (CC CN Pt : Addr) (q : Str) : TS := tFor (iTup K (tTup (tCons (tC V.non) (tCons (tC (V.int 5)) (tCons (tC (V.str "ab")) (tCons (tLst tNil) (tCons (tVar 4) (tCons (tVar 5) (tCons (tC (V.bl true)) (tCons tDNewK tNil)))))))))) (gName 11) (t_odd K CC CN Pt q)
def t_table (K : PySem.W.Frag) (CC CN : Addr) : TS := tSeq (tAsg (tCall (spMade CC) [] E0 (tCons (tLst (tCons (tC (V.int 30)) (tCons (tC (V.int 0)) tNil))) (tCons (tVar 8) (tCons (tLst tNil) (tCons (tVar 3) tNil))))) (gName 9))
  (tSeq (tAsg (tCall (spLineRows CC CN) [] E0 (tCons (tVar 9) tNil)) (gName 10))
  (tSeq (tIfS (tTest (tOp rNe (tCB (rReprD K) (tCons (tVar 10) tNil)) (tCB (rReprD K) (tCons (tVar 6) tNil)))) (tRet (tC (V.bl false))) tNext)
  (tSeq (tDrop (tBM K "list" rAppend (tVar 10) (tCons (tC V.non) tNil)))
  (tIfS (tTest (tOp rNe (tCB (rReprD K) (tCons (tCallK1 (spLineRows CC CN) E0 (tVar 9)) tNil)) (tCB (rReprD K) (tCons (tVar 6) tNil)))) (tRet (tC (V.bl false))) tNext))))
def t_tables (K : PySem.W.Frag) (CC CN : Addr) : TS := tFor (iTup K (tTup (tCons (tVar 5) (tCons (tCall spCut [] E0 (tCons (tVar 2) (tCons (tVar 4) (tCons (tVar 3) tNil)))) tNil)))) (gName 8) (t_table K CC CN)
def t_gots (K : PySem.W.Frag) : TS := tFor (iTup K (tTup (tCons (tCall spLineBytes [] E0 (tCons (tVar 4) (tCons (tVar 3) tNil))) (tCons (tCall spLineBytes [] E0 (tCons (tCB rTupd (tCons (tVar 4) tNil)) (tCons (tVar 3) tNil))) (tCons (tCall spLineBytes [] E0 (tCons (tVar 6) (tCons (tVar 3) tNil))) tNil))))) (gName 7)
  (tIfS (tTest (tOp (rNeD K) (tVar 7) (tCB rTupd (tCons (tVar 5) tNil)))) (tRet (tC (V.bl false))) tNext)
def t_first : TS := tAsg (tCall spOne [] E0 (tCons (tVar 2) (tCons (tLst (tCons (tC (V.int 1)) (tCons (tC (V.int 7)) (tCons (tOp (rI0 fun i j => .int (i + j)) (tC (V.int 1)) (tCall spNext [] E0 (tCons (tVar 2) (tCons (tOp (rI CPow fun i j => .int (i ^ j.toNat)) (tC (V.int 10)) (tC (V.int 6))) tNil)))) tNil)))) tNil))) (gName 3)
def t_cell (K : PySem.W.Frag) (CC CN Pt : Addr) (q : Str) : TS := tSeq (tAsg (tCall spSrc [] E0 (tCons (tVar 1) tNil)) (gName 2)) (tSeq t_first (tSeq (tAsg (tCall spDrawnL [] E0 (tCons (tVar 2) (tCons (tVar 3) tNil))) (gName 4))
  (tSeq (tPar 5 6 (tCons (tCall spLLB [] E0 (tCons (tVar 4) (tCons (tVar 3) tNil))) (tCons (tCall spJoinedL [] E0 (tCons (tVar 4) tNil)) tNil)))
  (tSeq (t_gots K) (tSeq (t_tables K CC CN) (t_odds K CC CN Pt q))))))
def t_law (K : PySem.W.Frag) (CC CN Pt : Addr) (q : Str) : TS := tSeq (tFor (iList K (tSl rSld (tOp (rCatS K) (tVar 0) (tLst (tCons (tC (V.int 0)) tNil))) tNoPart (tPart (tC (V.int 6))))) (gName 1) (t_cell K CC CN Pt q)) (tRet (tC (V.bl true)))
/-- the reading of the law -/
theorem law_reads {CC CN CE CT CR CB gC fa co Pt : Addr} {cdC : Value} {s : Shared} {H : Hp} (L : LawT P w K mg base CC CN CE CT CR CB gC cdC) (TB : LamX.TabB base mg co Pt) (hr : Room 6 (Xlaw P w K mg base fa co s H).nox.A) (hgd : (Xlaw P w K mg base fa co s H).nox.A.guards = some []) :
    PSs (Xlaw P w K mg base fa co s H).nox (defBody slaw) (t_law (Xlaw P w K mg base fa co s H).nox.K CC CN Pt ((Xlaw P w K mg base fa co s H).nox.env.qual ++ "<lambda>")) := by
  have hu64 : (Xlaw P w K mg base fa co s H).nox.A.units + 64 < cLine := by have := hr.un; omega
  have hu20 : (Xlaw P w K mg base fa co s H).nox.A.units + 20 < cLine := by have := hr.un; omega
  have T := L.T
  have C_source_of := L.C_source_of
  have C_next := L.C_next
  have C_one := L.C_one
  have C_drawn_rows := L.C_drawn_rows
  have C_lline_bytes := L.C_lline_bytes
  have C_ljoined := L.C_ljoined
  have C_line_bytes := L.C_line_bytes
  have C_cut := L.C_cut
  have C_made := L.C_made
  obtain ⟨oc, od, dV, kV, doc, pm, ct, an, osl, lkC, bC⟩ := L.f_caught
  unfold t_law t_cell t_first t_tables t_table t_odds t_odd t_gots tLamL
  exact (pss_cons (ps_for PassesOwn.never rfl (pi_list (pe_slice sl_d (pe_op op_catS (pv 0) (pe_lst (pa_cons pe_int pa_nil))) po_none (po_some pe_int))) (pg_name (i := 1) sclaw.nd rfl (Or.inl rfl))
    (pss_cons (ps_set (i := 2) sclaw.nd rfl (Or.inl rfl) (pe_cal C_source_of (hr.mono (by decide)) rfl (pa_cons (pv 1) pa_nil)))
  (pss_cons (ps_set (i := 3) sclaw.nd rfl (Or.inl rfl) (pe_cal C_one (hr.mono (by decide)) rfl (pa_cons (pv 2) (pa_cons (pe_lst (pa_cons pe_int (pa_cons pe_int (pa_cons (pe_op op_add pe_int (pe_cal C_next (hr.mono (by decide)) rfl (pa_cons (pv 2) (pa_cons (pe_op op_pow pe_int pe_int) pa_nil)))) pa_nil)))) pa_nil))))
  (pss_cons (ps_set (i := 4) sclaw.nd rfl (Or.inl rfl) (pe_cal C_drawn_rows (hr.mono (by decide)) rfl (pa_cons (pv 2) (pa_cons (pv 3) pa_nil))))
  (pss_cons (ps_par (i := 5) (j := 6) (by rfl) sclaw.nd rfl rfl (by decide) rfl rfl (pa_cons (pe_cal C_lline_bytes (hr.mono (by decide)) rfl (pa_cons (pv 4) (pa_cons (pv 3) pa_nil))) (pa_cons (pe_cal C_ljoined (hr.mono (by decide)) rfl (pa_cons (pv 4) pa_nil)) pa_nil)) (by rfl))
  (pss_cons (ps_for PassesOwn.never rfl (pi_tup (pe_tup (pa_cons (pe_cal C_line_bytes (hr.mono (by decide)) rfl (pa_cons (pv 4) (pa_cons (pv 3) pa_nil))) (pa_cons (pe_cal C_line_bytes (hr.mono (by decide)) rfl (pa_cons (pe_callTy call_tuple_d (by rfl) T.b_tuple (by decide +kernel) (pa_cons (pv 4) pa_nil)) (pa_cons (pv 3) pa_nil))) (pa_cons (pe_cal C_line_bytes (hr.mono (by decide)) rfl (pa_cons (pv 6) (pa_cons (pv 3) pa_nil))) pa_nil))))) (pg_name (i := 7) sclaw.nd rfl (Or.inl rfl))
    (pss_one (ps_if (pt_cmpR (op_neD hu64) (pv 7) (pe_callTy call_tuple_d (by rfl) T.b_tuple (by decide +kernel) (pa_cons (pv 5) pa_nil)) (nomark _))
    (pss_one (ps_ret pe_bl))
    pss_nil)))
  (pss_cons (ps_for PassesOwn.never rfl (pi_tup (pe_tup (pa_cons (pv 5) (pa_cons (pe_cal C_cut (hr.mono (by decide)) rfl (pa_cons (pv 2) (pa_cons (pv 4) (pa_cons (pv 3) pa_nil)))) pa_nil)))) (pg_name (i := 8) sclaw.nd rfl (Or.inl rfl))
    (pss_cons (ps_set (i := 9) sclaw.nd rfl (Or.inl rfl) (pe_cal C_made (hr.mono (by decide)) rfl (pa_cons (pe_lst (pa_cons pe_int (pa_cons pe_int pa_nil))) (pa_cons (pv 8) (pa_cons (pe_lst pa_nil) (pa_cons (pv 3) pa_nil))))))
  (pss_cons (ps_set (i := 10) sclaw.nd rfl (Or.inl rfl) (pe_calX L.CX_line_rows (hr.mono (by decide)) rfl LamX.takes0 (fun _ _ _ _ z => z) (pa_cons (pv 9) pa_nil)))
  (pss_cons (ps_if (pt_cmpR op_ne (pe_callB (call_repr_D hgd hu20) (by rfl) T.b_repr (by decide +kernel) (pa_cons (pv 10) pa_nil)) (pe_callB (call_repr_D hgd hu20) (by rfl) T.b_repr (by decide +kernel) (pa_cons (pv 6) pa_nil)) (nomark _))
    (pss_one (ps_ret pe_bl))
    pss_nil)
  (pss_cons (ps_expr (pe_bm PySem.F.plainAttrs_list PySem.F.slot_list_append PySem.F.type_list_append mt_append (pv 10) (pa_cons pe_non pa_nil)))
  (pss_one (ps_if (pt_cmpR op_ne (pe_callB (call_repr_D hgd hu20) (by rfl) T.b_repr (by decide +kernel) (pa_cons (pe_calXK L.CX_line_rows (hr.mono (by decide)) rfl LamX.takes0 (fun _ _ _ _ z => z) (pv 9)) pa_nil)) (pe_callB (call_repr_D hgd hu20) (by rfl) T.b_repr (by decide +kernel) (pa_cons (pv 6) pa_nil)) (nomark _))
    (pss_one (ps_ret pe_bl))
    pss_nil)))))))
  (pss_one (ps_for PassesOwn.never rfl (pi_tup (pe_tup (pa_cons pe_non (pa_cons pe_int (pa_cons pe_str (pa_cons (pe_lst pa_nil) (pa_cons (pv 4) (pa_cons (pv 5) (pa_cons pe_bl (pa_cons pe_dnewK pa_nil)))))))))) (pg_name (i := 11) sclaw.nd rfl (Or.inr rfl))
    (pss_one (ps_if (pt_cmpR (op_neD hu64) (LamX.pe_lamcall (k := 3) (T := [(Pt, (Xlaw P w K mg base fa co s H).nox.env.qual ++ "<lambda>")]) (t := fun E => tCall (spLineRows CC CN) [] E (tCons (tVar 11) tNil)) rfl L.g_caught L.k_caught lkC L.c_caught bC sccaught rfl (Or.inl rfl) (caught_gives (X := (Xlaw P w K mg base fa co s H).nox) L.T L.N L.gT L.gR L.gB) TB rfl (List.mem_singleton.mpr rfl) (fun p hp _ => by rw [List.mem_singleton.mp hp]) (hr.mono (by decide)) (show LamX.LamS (defScope slaw) _ from LamX.lamS_by (by decide +kernel)) rfl (fun _ _ _ _ _ => rfl) (fun A outer s H E f c' hr2 => pe_calX L.CX_line_rows hr2 rfl (takes_of rfl rfl rfl rfl) (fun _ _ _ _ z => z) (pa_cons (pv 11) pa_nil))) (pe_tup (pa_cons pe_str (pa_cons pe_str pa_nil))) (nomark _))
    (pss_one (ps_ret pe_bl))
    pss_nil)))))))))))
  (pss_one (ps_ret pe_bl)))
end
end C48

set_option maxHeartbeats 2000000
namespace C48
open PySem PySem.Spec PyProof.Rows L2
/-! ### rows shown -/
theorem log_nat {n : Nat} (h : n < 2 ^ 62) : ((n : Int)).natAbs.log2 < 62 := by
  rw [Int.natAbs_natCast]
  rcases Nat.eq_zero_or_pos n with e | e
  · subst e
    decide
  · exact (Nat.log2_lt (by omega)).mpr h
theorem w_nat {n : Nat} (h : n < 2 ^ 62) : (PyData.int (n : Int)).weight ≤ 62 := by
  have := log_nat h
  simp only [PyData.weight]
  split <;> omega
theorem sh_nat {n : Nat} (h : n < 2 ^ 62) : (PyData.int (n : Int)).leavesShort 64 = true := by
  have e := PySem.int_text_length_le10 (a := (n : Int)) (k := 20) (by decide) (by rw [Int.natAbs_natCast]; exact Nat.lt_trans h (by decide))
  simp only [PyData.leavesShort, decide_eq_true_eq]
  show (Str.ofString (toString (n : Int))).length ≤ 64
  rw [PySem.ofString_length]
  omega
theorem sb_nat {n : Nat} (h : n < 2 ^ 62) : (PyData.int (n : Int)).showable = true := by
  have := log_nat h
  simp only [PyData.showable, decide_eq_true_eq]
  omega
theorem ln_facts {l : Option Int} (h : ∀ i, l = some i → CB i) : (lnD l).showable = true ∧ (lnD l).hasDict = false ∧ (lnD l).depth = 0 ∧ (lnD l).weight ≤ 62 ∧ (lnD l).leavesShort 64 = true := by
  cases l with
  | none => exact ⟨by simp [lnD, PyData.showable], rfl, by simp [lnD, PyData.depth], by simp [lnD, PyData.weight], by simp [lnD, PyData.leavesShort]⟩
  | some i =>
    obtain ⟨h1, h2⟩ := h i rfl
    obtain ⟨n, rfl⟩ : ∃ n : Nat, i = (n : Int) := ⟨i.toNat, by omega⟩
    have hn : n < 2 ^ 62 := by omega
    exact ⟨sb_nat hn, rfl, by simp [lnD, PyData.depth], w_nat hn, sh_nat hn⟩
theorem lr_facts {R : LR} (h : GR R) : (lrD R).showable = true ∧ (lrD R).hasDict = false ∧ (lrD R).depth ≤ 1 ∧ (lrD R).weight ≤ 260 ∧ (lrD R).leavesShort 64 = true := by
  obtain ⟨h1, h2, h3, h4⟩ := h
  have a1 : R.lo < 2 ^ 62 := by omega
  have a2 : R.hi < 2 ^ 62 := by omega
  have w1 := w_nat a1
  have w2 := w_nat a2
  obtain ⟨l1, l2, l3, l4, l5⟩ := ln_facts h4
  unfold lrD
  refine ⟨?_, ?_, ?_, ?_, ?_⟩
  · simp only [PyData.showable, PyData.showableAll, Bool.and_eq_true]
    exact ⟨sb_nat a1, sb_nat a2, l1, trivial⟩
  · simp only [PyData.hasDict, PyData.hasDictAll, l2]
    rfl
  · simp only [PyData.depth, PyData.depthAll, l3]
    decide
  · rw [PyData.weight]
    simp only [PyData.weightAll]
    omega
  · simp only [PyData.leavesShort, PyData.leavesShortAll, Bool.and_eq_true]
    exact ⟨sh_nat a1, sh_nat a2, l5, trivial⟩
theorem lrs_facts : ∀ {Rs : List LR}, (∀ R ∈ Rs, GR R) → PyData.showableAll (Rs.map lrD) = true ∧ PyData.hasDictAll (Rs.map lrD) = false ∧ PyData.depthAll (Rs.map lrD) ≤ 1 ∧ PyData.weightAll (Rs.map lrD) ≤ 261 * Rs.length ∧ PyData.leavesShortAll 64 (Rs.map lrD) = true
  | [], _ => ⟨rfl, rfl, by simp [PyData.depthAll], by simp [PyData.weightAll], rfl⟩
  | R :: Rs, h => by
    obtain ⟨a1, a2, a3, a4, a5⟩ := lr_facts (h R List.mem_cons_self)
    obtain ⟨b1, b2, b3, b4, b5⟩ := lrs_facts fun Q hq => h Q (List.mem_cons_of_mem _ hq)
    simp only [List.map_cons, PyData.showableAll, PyData.hasDictAll, PyData.depthAll, PyData.weightAll, PyData.leavesShortAll, a1, a2, a5, b1, b2, b5, List.length_cons]
    refine ⟨rfl, rfl, ?_, ?_, rfl⟩
    · exact Nat.max_le.mpr ⟨a3, b3⟩
    · omega
theorem shown_lrs {Rs : List LR} (h : ∀ R ∈ Rs, GR R) (hl : Rs.length ≤ 30) : (PyData.list (Rs.map lrD)).showable = true ∧ (PyData.list (Rs.map lrD)).hasDict = false ∧ (PyData.list (Rs.map lrD)).depth ≤ 10 ∧ (PyData.list (Rs.map lrD)).shown.length ≤ sizeLine := by
  obtain ⟨b1, b2, b3, b4, b5⟩ := lrs_facts h
  refine ⟨by simpa only [PyData.showable] using b1, by simpa only [PyData.hasDict] using b2, ?_, ?_⟩
  · simp only [PyData.depth]
    omega
  · have e := PyData.shown_le 64 (by decide) (.list (Rs.map lrD)) (by simpa only [PyData.leavesShort] using b5)
    have e2 : (PyData.list (Rs.map lrD)).weight = PyData.weightAll (Rs.map lrD) := by simp only [PyData.weight]
    have : sizeLine = 16777216 := by rw [sizeLine_eq]
    omega
theorem repr_lrs {K : PySem.W.Frag} {H : Hp} {F : Addr} {Rs : List LR} {Q : VK} (r : LRows H F Rs) (h : ∀ R ∈ Rs, GR R) (hl : Rs.length ≤ 30) (q : Q (.str (PyData.list (Rs.map lrD)).shown) H) : rReprD K [.ref F] H Q := by
  obtain ⟨a1, a2, a3, a4⟩ := shown_lrs h hl
  obtain ⟨refs, e, p⟩ := r
  exact ⟨F, _, rfl, .lst (SqL.of e) (dp_lrs p), a1, a2, a3, a4, q⟩
/-! ### tuples of bytes as data -/
def nsD (ns : List Nat) : List PyData := ns.map fun n : Nat => .int (n : Int)
theorem dp_ns {K : PySem.W.Frag} {H : Hp} : ∀ ns : List Nat, DpAll K H (vn ns) (nsD ns)
  | [] => .nil
  | n :: r => .cons (.int _) (dp_ns r)
theorem lay_ns : ∀ ns : List Nat, PyData.canLayAll0 (nsD ns) = true
  | [] => by simp [nsD, PyData.canLayAll0]
  | n :: r => by
    show PyData.canLayAll0 (.int (n : Int) :: nsD r) = true
    simp only [PyData.canLayAll0, PyData.canLay0, lay_ns r]
    rfl
theorem dep_ns : ∀ ns : List Nat, PyData.depthAll (nsD ns) = 0
  | [] => by simp [nsD, PyData.depthAll]
  | n :: r => by
    show PyData.depthAll (.int (n : Int) :: nsD r) = 0
    simp only [PyData.depthAll, PyData.depth, dep_ns r]
    rfl
theorem shaped_ns (ns : List Nat) : SeqAt.shaped (.tuple (nsD ns)) = true := by
  unfold SeqAt.shaped
  simp only [PyData.canLay0, lay_ns, PyData.depth, dep_ns]
  decide
theorem eqv_ns (ns : List Nat) : PyData.eqv (.tuple (nsD ns)) (.tuple (nsD ns)) = true := SeqAt.eqv_refl _ (by simp only [PyData.canLay0, lay_ns])
theorem ne_ns {K : PySem.W.Frag} {H : Hp} {p q : Addr} {ns : List Nat} {Q : VK} (hp : H p = some (.tup (vn ns))) (hq : H q = some (.tup (vn ns))) (k : Q (.bl false) H) : rNeD K (.ref p) (.ref q) H Q :=
  ⟨_, _, .tup (SqT.of hp) (dp_ns ns), .tup (SqT.of hq) (dp_ns ns), shaped_ns ns, shaped_ns ns, by rw [eqv_ns]; exact k⟩
end C48

set_option maxHeartbeats 2000000
namespace C48
open PySem PySem.Spec PyProof.Rows L2
theorem r_callK1 {sp : Sp} {E : XK} {te : TE} {σ : L2.St} {H : Hp} {Q : VK} : tCallK1 sp E te σ H Q = te σ H (fun v H1 => sp [v] H1 Q E) := rfl
theorem r_dnew {σ : L2.St} {H : Hp} {Q : VK} : tDNewK σ H Q = ∀ p, H p = none → Q (.ref p) (L2.upd H p (.dK [])) := rfl
/-! ### the heap and the tables -/
theorem ExtN.same {H H' : Hp} (s : Same H H') : LamX.ExtN H H' := fun b o e _ => s b o e
theorem tabs_keep {T : List (Addr × Str)} {a : Addr} {H H' : Hp} (t : LamX.Tabs T H) (k : Keep a H H') (ha : ∃ xs, H a = some (.lst xs)) : LamX.Tabs T H' := by
  obtain ⟨xs, ha⟩ := ha
  intro p hp
  obtain ⟨ps, h1, h2, h3⟩ := t p hp
  have n1 : p.1 ≠ a := fun z => by rw [z, ha] at h1; cases h1
  refine ⟨ps, k _ _ n1 h1, h2, fun pos cv hc => ?_⟩
  obtain ⟨c, e1, e2⟩ := h3 pos cv hc
  have n2 : c ≠ a := fun z => by rw [z, ha] at e2; cases e2
  exact ⟨c, e1, k _ _ n2 e2⟩
theorem tabs_same {T : List (Addr × Str)} {H H' : Hp} (t : LamX.Tabs T H) (k : Same H H') : LamX.Tabs T H' := t.ext fun b o e => k b o e
theorem Same.trans' {H H1 H2 : Hp} (a : Same H H1) (b : Same H1 H2) : Same H H2 := fun c o e => b c o (a c o e)
/-! ### one odd value -/
def oddT : List String := ["NoneType", "int", "bool", "str", "list", "tuple", "dict"]
def OddOk (CC : Addr) (x : V) (H : Hp) : Prop := ∃ n : String, n ∈ oddT ∧ ∀ H1, LamX.ExtN H H1 → tyD CC H1 x = some (.type n)
theorem OddOk.ext {CC : Addr} {x : V} {H H1 : Hp} (h : OddOk CC x H) (e : LamX.ExtN H H1) : OddOk CC x H1 := by
  obtain ⟨n, hn, k⟩ := h
  exact ⟨n, hn, fun H2 e2 => k H2 (e.trans e2)⟩
theorem dp_code {K : PySem.W.Frag} {H : Hp} {p : Addr} (h : H p = some (.tup [.str "code", .str "code"])) : Dp K H (.ref p) (.tuple [.str "code", .str "code"]) := .tup (SqT.of h) (.cons (.str _) (.cons (.str _) .nil))
theorem ne_code {K : PySem.W.Frag} {H : Hp} {p q : Addr} {Q : VK} (hp : H p = some (.tup [.str "code", .str "code"])) (hq : H q = some (.tup [.str "code", .str "code"])) (k : Q (.bl false) H) : rNeD K (.ref p) (.ref q) H Q :=
  ⟨_, _, dp_code hp, dp_code hq, by decide +kernel, by decide +kernel, by rw [show PyData.eqv (.tuple [.str "code", .str "code"]) (.tuple [.str "code", .str "code"]) = true from by decide +kernel]; exact k⟩
theorem odd_run {K : PySem.W.Frag} {CC CN Pt : Addr} {q : Str} {D : Ends} {σ : L2.St} {H : Hp} {x : V} (hσ : σ[11]? = some (some x)) (t : LamX.Tabs [(Pt, q)] H) (ok : OddOk CC x H) (k : ∀ H', LamX.ExtN H H' → LamX.Tabs [(Pt, q)] H' → D.nx σ H') : t_odd K CC CN Pt q D σ H := by
  obtain ⟨n, hn, ok⟩ := ok
  refine ⟨t, fun H1 e1 t1 => ⟨x, hσ, .inr ⟨x, n, rfl, ok H1 e1, hn, fun d H2 hd s2 hf => ⟨rfl, d, .str "code", rfl, hf, fun p H3 hp s3 h3 => ?_⟩⟩⟩⟩
  refine ⟨szl (by decide), fun p2 hp2 => ?_⟩
  refine ne_code (by rw [upd_ne (ne_new h3 hp2)]; exact h3) upd_same ⟨false, rfl, ?_⟩
  have s4 : Same H1 (L2.upd H3 p2 (.tup [.str "code", .str "code"])) := Same.new' (fun b o e => s3 b o (s2 b o e)) hp2
  exact k _ (e1.trans (ExtN.same s4)) (tabs_same t1 s4)
/-- all of them -/
theorem odds_loop {K : PySem.W.Frag} {CC CN Pt TT : Addr} {q : Str} {D : Ends} {H : Hp} {all : List V} {v0 v1 v2 v3 v4 v5 v6 v7 v8 v9 v10 v11 : Option V} (hT : H TT = some (.tup all)) (t : LamX.Tabs [(Pt, q)] H) (ok : ∀ x ∈ all, OddOk CC x H)
    (k : ∀ v11 H', LamX.ExtN H H' → LamX.Tabs [(Pt, q)] H' → D.nx [v0, v1, v2, v3, v4, v5, v6, v7, v8, v9, v10, v11] H') : LoopR (Itt K TT) (gName 11) (t_odd K CC CN Pt q) D [v0, v1, v2, v3, v4, v5, v6, v7, v8, v9, v10, v11] H := by
  refine lp_tup (xs := all) (fun i σ H' => (∃ v, σ = [v0, v1, v2, v3, v4, v5, v6, v7, v8, v9, v10, v]) ∧ LamX.ExtN H H' ∧ LamX.Tabs [(Pt, q)] H') ⟨⟨_, rfl⟩, LamX.ExtN.refl H, t⟩ (fun i σ H' _ ⟨_, e, _⟩ => SqT.of (e _ _ hT (fun _ z => by cases z))) ?_ ?_
  · rintro i x σ H' hx ⟨⟨v, rfl⟩, e, t1⟩
    show t_odd K CC CN Pt q _ [v0, v1, v2, v3, v4, v5, v6, v7, v8, v9, v10, some x] H'
    exact odd_run rfl t1 ((ok x (List.mem_of_getElem? hx)).ext e) fun H2 e2 t2 => ⟨⟨_, rfl⟩, e.trans e2, t2⟩
  · rintro σ H' ⟨⟨v, rfl⟩, e, t1⟩
    exact k v H' e t1
theorem odd_lit {CC : Addr} {x : V} {H : Hp} {n : String} (hn : n ∈ oddT) (h : ∀ H1 : Hp, tyD CC H1 x = some (.type n)) : OddOk CC x H := ⟨n, hn, fun H1 _ => h H1⟩
theorem odd_lst {CC : Addr} {a : Addr} {xs : List V} {H : Hp} (h : H a = some (.lst xs)) : OddOk CC (.ref a) H := ⟨"list", by decide, fun H1 e => by
  show tyH CC (H1 a) = _
  rw [e a _ h (fun _ z => by cases z)]
  rfl⟩
theorem odd_dct {CC : Addr} {a : Addr} {kvs : List (Key × V)} {H : Hp} (h : H a = some (.dK kvs)) : OddOk CC (.ref a) H := ⟨"dict", by decide, fun H1 e => by
  show tyH CC (H1 a) = _
  rw [e a _ h (fun _ z => by cases z)]
  rfl⟩
theorem odds_run {K : PySem.W.Frag} {CC CN Pt F U : Addr} {q : Str} {D : Ends} {H : Hp} {xs ys : List V} {v0 v1 v2 v3 v6 v7 v8 v9 v10 v11 : Option V} (hF : H F = some (.lst xs)) (hU : H U = some (.lst ys)) (t : LamX.Tabs [(Pt, q)] H)
    (k : ∀ v11 H', LamX.ExtN H H' → LamX.Tabs [(Pt, q)] H' → D.nx [v0, v1, v2, v3, some (.ref F), some (.ref U), v6, v7, v8, v9, v10, v11] H') : t_odds K CC CN Pt q D [v0, v1, v2, v3, some (.ref F), some (.ref U), v6, v7, v8, v9, v10, v11] H := by
  unfold t_odds
  refine ⟨Nat.zero_le _, fun e1 h1 => ⟨_, rfl, _, rfl, fun e2 h2 => ⟨szl (by simp only [List.length_cons, List.length_nil]; decide), fun TT hT => ⟨TT, rfl, ⟨_, SqT.of upd_same⟩, ?_⟩⟩⟩⟩
  have s1 := Same.new' (o := .lst []) (Same.refl H) h1
  have q1 : L2.upd H e1 (.lst []) e1 = some (.lst []) := upd_same
  generalize L2.upd H e1 (.lst []) = G1 at *
  have s2 := Same.new' (o := .dK []) (Same.refl G1) h2
  have q2 : L2.upd G1 e2 (.dK []) e2 = some (.dK []) := upd_same
  generalize L2.upd G1 e2 (.dK []) = G2 at *
  have s3 := Same.new' (o := .tup [.non, .int 5, .str "ab", .ref e1, .ref F, .ref U, .bl true, .ref e2]) (Same.refl G2) hT
  have sA : Same H (L2.upd G2 TT (.tup [.non, .int 5, .str "ab", .ref e1, .ref F, .ref U, .bl true, .ref e2])) := fun b o e => s3 b o (s2 b o (s1 b o e))
  refine odds_loop (all := [.non, .int 5, .str "ab", .ref e1, .ref F, .ref U, .bl true, .ref e2]) upd_same (tabs_same t sA) ?_ (fun v11 H' e t' => k v11 H' ((ExtN.same sA).trans e) t')
  intro x hx
  simp only [List.mem_cons, List.not_mem_nil, or_false] at hx
  rcases hx with rfl | rfl | rfl | rfl | rfl | rfl | rfl | rfl
  · exact odd_lit (n := "NoneType") (by decide) fun _ => rfl
  · exact odd_lit (n := "int") (by decide) fun _ => rfl
  · exact odd_lit (n := "str") (by decide) fun _ => rfl
  · exact odd_lst (s3 _ _ (s2 _ _ q1))
  · exact odd_lst (sA _ _ hF)
  · exact odd_lst (sA _ _ hU)
  · exact odd_lit (n := "bool") (by decide) fun _ => rfl
  · exact odd_dct (s3 _ _ q2)
/-! ### what the program writes -/
theorem LRows.keep {H H' : Hp} {F U : Addr} {Rs : List LR} (r : LRows H F Rs) (k : Keep U H H') (FU : F ≠ U) (hU : ∃ xs, H U = some (.lst xs)) : LRows H' F Rs := by
  obtain ⟨refs, e, p⟩ := r
  obtain ⟨xs, hU⟩ := hU
  exact ⟨refs, k _ _ FU e, Paired.map' p fun a b h => k _ _ (fun z => by rw [z, hU] at h; cases h) h⟩
theorem got_run {K : PySem.W.Frag} {D : Ends} {σ : L2.St} {H : Hp} {p U : Addr} {ns : List Nat} (h7 : σ[7]? = some (some (.ref p))) (h5 : σ[5]? = some (some (.ref U))) (hp : H p = some (.tup (vn ns))) (hU : H U = some (.lst (vn ns)))
    (k : ∀ H', Same H H' → D.nx σ H') : (tIfS (tTest (tOp (rNeD K) (tVar 7) (tCB rTupd (tCons (tVar 5) tNil)))) (tRet (tC (V.bl false))) tNext : TS) D σ H :=
  ⟨_, h7, _, h5, U, _, rfl, hU, fun l hl => ne_ns (by rw [upd_ne (ne_new hp hl)]; exact hp) upd_same ⟨false, rfl, k _ (Same.new' (Same.refl H) hl)⟩⟩
/-- what is known of the drawn rows -/
structure Giv (Rs : List LR) (first : Int) (ns : List Nat) : Prop where
  l : Rs.length ≤ 30
  ch : Chain 0 Rs
  c : 1 ≤ first ∧ first < 2 ^ 30
  b : ns = bytesL (joinL Rs) first
theorem Giv.bounds {Rs : List LR} {first : Int} {ns : List Nat} (g : Giv Rs first ns) : (∀ R ∈ joinL Rs, LOk R) ∧ (bytesL (joinL Rs) first).length ≤ 2000000 ∧ (∀ R ∈ joinL Rs, GR R) ∧ (joinL Rs).length ≤ 30 := by
  have cb : CB first := ⟨g.c.1, by have := g.c.2; omega⟩
  obtain ⟨es, e1, e2, e3, _⟩ := joined_facts g.ch g.l cb
  have h := (chn_join g.ch g.l).all
  have := entsB_len e2
  refine ⟨fun R hR => (h R hR).lok, by rw [← e1]; omega, h, Nat.le_trans (joinL_len Rs) g.l⟩
theorem gots_run {K : PySem.W.Frag} {D : Ends} {F U W : Addr} {Rs : List LR} {first : Int} {ns : List Nat} {H : Hp} {v0 v1 v2 v7 v8 v9 v10 v11 : Option V} (g : Giv Rs first ns) (hF : LRows H F Rs) (hU : H U = some (.lst (vn ns))) (hW : LRows H W (joinL Rs))
    (k : ∀ v7 H', Same H H' → D.nx [v0, v1, v2, some (.int first), some (.ref F), some (.ref U), some (.ref W), v7, v8, v9, v10, v11] H') : t_gots K D [v0, v1, v2, some (.int first), some (.ref F), some (.ref U), some (.ref W), v7, v8, v9, v10, v11] H := by
  obtain ⟨b1, b2, _, b4⟩ := g.bounds
  have f1 : -(2 ^ 50) < first := by have := g.c; omega
  have f2 : first < 2 ^ 50 := by have := g.c; omega
  have gl := g.l
  unfold t_gots
  refine ⟨_, rfl, _, rfl, F, Rs, first, rfl, hF.s, by omega, b1, f1, f2, b2, fun p1 H1 hp1 s1 h1 => ?_⟩
  obtain ⟨refs, eF, pF⟩ := hF.same s1
  refine ⟨_, rfl, F, _, rfl, eF, fun l hl1 => ⟨_, rfl, l, Rs, first, rfl, ⟨refs, by rw [upd_same]; rfl, Paired.map' pF fun a b h => by rw [upd_ne (ne_new h hl1)]; exact h⟩, by omega, b1, f1, f2, b2, fun p2 H2 hp2 s2 h2 => ?_⟩⟩
  have s3 : Same H1 H2 := Same.trans' (Same.new' (Same.refl H1) hl1) s2
  refine ⟨_, rfl, _, rfl, W, joinL Rs, first, rfl, (hW.same (Same.trans' s1 s3)).s, by omega, by rw [join_join]; exact b1, f1, f2, by rw [join_join]; exact b2, fun p3 H3 hp3 s4 h3 => ⟨szl (by simp only [List.length_cons, List.length_nil]; decide), fun TT hT => ⟨TT, rfl, ⟨_, SqT.of upd_same⟩, ?_⟩⟩⟩
  rw [join_join] at h3
  rw [← g.b] at h1 h2 h3
  have sA : Same H (L2.upd H3 TT (.tup [.ref p1, .ref p2, .ref p3])) := Same.new' (fun b o e => s4 b o (s3 b o (s1 b o e))) hT
  have sT : ∀ {b : Addr} {o : HO}, H3 b = some o → L2.upd H3 TT (.tup [.ref p1, .ref p2, .ref p3]) b = some o := fun e => by rw [upd_ne (ne_new e hT)]; exact e
  have al : ∀ x ∈ [V.ref p1, .ref p2, .ref p3], ∃ p, x = .ref p ∧ L2.upd H3 TT (.tup [.ref p1, .ref p2, .ref p3]) p = some (.tup (vn ns)) := by
    intro x hx
    simp only [List.mem_cons, List.not_mem_nil, or_false] at hx
    rcases hx with rfl | rfl | rfl
    · exact ⟨_, rfl, sT (s4 _ _ (s3 _ _ h1))⟩
    · exact ⟨_, rfl, sT (s4 _ _ h2)⟩
    · exact ⟨_, rfl, sT h3⟩
  have eT : L2.upd H3 TT (.tup [.ref p1, .ref p2, .ref p3]) TT = some (.tup [.ref p1, .ref p2, .ref p3]) := upd_same
  generalize L2.upd H3 TT (.tup [.ref p1, .ref p2, .ref p3]) = G at *
  refine lp_tup (xs := [.ref p1, .ref p2, .ref p3]) (fun i σ H' => (∃ v, σ = [v0, v1, v2, some (.int first), some (.ref F), some (.ref U), some (.ref W), v, v8, v9, v10, v11]) ∧ Same G H') ⟨⟨_, rfl⟩, Same.refl G⟩ (fun i σ H' _ ⟨_, e⟩ => SqT.of (e _ _ eT)) ?_ ?_
  · rintro i x σ H' hx ⟨⟨v, rfl⟩, e⟩
    obtain ⟨p, rfl, hp⟩ := al x (List.mem_of_getElem? hx)
    show (tIfS _ _ _ : TS) _ [v0, v1, v2, some (.int first), some (.ref F), some (.ref U), some (.ref W), some (.ref p), v8, v9, v10, v11] H'
    exact got_run rfl rfl (e _ _ hp) (e _ _ (sA _ _ hU)) fun H2 e2 => ⟨⟨_, rfl⟩, Same.trans' e e2⟩
  · rintro σ H' ⟨⟨v, rfl⟩, e⟩
    exact k v H' (Same.trans' sA e)
/-! ### what the program reads -/
theorem ne_str {D : Ends} {σ : L2.St} {H : Hp} {x y : Str} {u v : TS} (e : x = y) (k : v D σ H) : rNe (.str x) (.str y) H (fun z H' => ∃ b, z = .bl b ∧ if b = true then u D σ H' else v D σ H') := by
  subst e
  refine ⟨rfl, _, rfl, ?_⟩
  simpa using k
/-- a table that tells these rows -/
def Tab (H : Hp) (t : Addr) (first : Int) (Js : List LR) : Prop := ∃ es : List Ent, H t = some (.lst (vn (entsB es))) ∧ es.length ≤ 100000 ∧ (∀ e ∈ es, EntOk e) ∧ joinL (rowsOf es 0 first) = Js
theorem table_run {K : PySem.W.Frag} {CC CN F U W t : Addr} {D : Ends} {Rs : List LR} {first : Int} {ns : List Nat} {H : Hp} {v0 v1 v2 v4 v5 v7 v9 v10 v11 : Option V} (g : Giv Rs first ns) (hW : LRows H W (joinL Rs)) (hT : Tab H t first (joinL Rs))
    (k : ∀ v9 v10 H', Same H H' → D.nx [v0, v1, v2, some (.int first), v4, v5, some (.ref W), v7, some (.ref t), v9, v10, v11] H') : t_table K CC CN D [v0, v1, v2, some (.int first), v4, v5, some (.ref W), v7, some (.ref t), v9, v10, v11] H := by
  obtain ⟨_, _, hg, hl⟩ := g.bounds
  obtain ⟨es, ht, le, ok, je⟩ := hT
  unfold t_table
  refine ⟨szl (by decide), fun p1 hp1 => ⟨_, rfl, Nat.zero_le _, fun p2 hp2 => ⟨_, rfl, p1, t, p2, [30, 0], entsB es, [], first, rfl, ?_, ?_, ?_, ?_, entsB_b ok, ?_, by have := g.c; omega, by have := g.c; omega, fun c H1 hc s1 ca => ?_⟩⟩⟩
  · rw [upd_ne (ne_new upd_same hp2)]
    exact upd_same
  · rw [upd_ne (ne_new (by rw [upd_ne (ne_new ht hp1)]; exact ht) hp2), upd_ne (ne_new ht hp1)]
    exact ht
  · exact upd_same
  · decide
  · intro n h
    cases h
  have sB : Same H H1 := Same.trans' (Same.new' (Same.new' (Same.refl H) hp1) hp2) s1
  obtain ⟨dx, fs, cu, cv, ct, e1, _, _, e4, e2, e3, _, _⟩ := ca
  refine ⟨_, rfl, .inl ⟨c, dx, fs, cv, first, es, rfl, e1, e2, e4, e3, le, ok, fun F1 H2 hF1 s2 r2 => ?_⟩⟩
  rw [je] at r2
  refine ⟨_, rfl, ?_⟩
  simp only [r_nil]
  refine repr_lrs r2 hg hl ⟨_, rfl, ?_⟩
  simp only [r_nil]
  refine repr_lrs (hW.same (Same.trans' sB s2)) hg hl ?_
  refine ne_str rfl ?_
  obtain ⟨refs, eF, pF⟩ := id r2
  have lr := Paired.length pF
  refine ⟨_, rfl, tyl eF, F1, _, .non, rfl, rfl, eF, Nat.lt_of_le_of_lt (by rw [List.length_map]; omega : _ ≤ 1000) (by decide), ?_⟩
  have sC : ∀ b o, H1 b = some o → L2.upd H2 F1 (.lst (refs.map V.ref ++ [.non])) b = some o := fun b o e => by
    rw [upd_ne (ne_new e hF1)]
    exact s2 b o e
  refine ⟨_, rfl, .inl ⟨c, dx, fs, cv, first, es, rfl, sC _ _ e1, e2, e4, sC _ _ e3, le, ok, fun F2 H3 hF2 s3 r3 => ?_⟩⟩
  rw [je] at r3
  simp only [r_nil]
  refine repr_lrs r3 hg hl ⟨_, rfl, ?_⟩
  simp only [r_nil]
  refine repr_lrs (hW.same fun b o e => s3 b o (sC b o (sB b o e))) hg hl ?_
  refine ne_str rfl ?_
  exact k _ _ _ fun b o e => s3 b o (sC b o (sB b o e))
theorem Tab.same {H H' : Hp} {t : Addr} {first : Int} {Js : List LR} (h : Tab H t first Js) (s : Same H H') : Tab H' t first Js := by
  obtain ⟨es, h1, h2⟩ := h
  exact ⟨es, s _ _ h1, h2⟩
theorem tables_run {K : PySem.W.Frag} {CC CN a F U W : Addr} {D : Ends} {Rs : List LR} {first : Int} {ns : List Nat} {H : Hp} {v0 v1 v7 v8 v9 v10 v11 : Option V} (g : Giv Rs first ns) (hS : Src H a) (Fa : F ≠ a) (Ua : U ≠ a) (Wa : W ≠ a) (hF : LRows H F Rs) (hU : H U = some (.lst (vn ns))) (hW : LRows H W (joinL Rs))
    (k : ∀ v8 v9 v10 H', Keep a H H' → D.nx [v0, v1, some (.ref a), some (.int first), some (.ref F), some (.ref U), some (.ref W), v7, v8, v9, v10, v11] H') : t_tables K CC CN D [v0, v1, some (.ref a), some (.int first), some (.ref F), some (.ref U), some (.ref W), v7, v8, v9, v10, v11] H := by
  have cb : CB first := ⟨g.c.1, by have := g.c.2; omega⟩
  unfold t_tables
  refine ⟨_, rfl, _, rfl, _, rfl, _, rfl, a, F, Rs, first, rfl, hS, Fa, hF, g.l, g.ch, g.c.1, cb.2, fun p es H1 hp pa k1 S1 h1 le ok je => ⟨szl (by simp only [List.length_cons, List.length_nil]; decide), fun TT hT => ⟨TT, rfl, ⟨_, SqT.of upd_same⟩, ?_⟩⟩⟩
  have sT := Same.new' (o := .tup [.ref U, .ref p]) (Same.refl H1) hT
  have eT : L2.upd H1 TT (.tup [.ref U, .ref p]) TT = some (.tup [.ref U, .ref p]) := upd_same
  have kG : Keep a H (L2.upd H1 TT (.tup [.ref U, .ref p])) := k1.trans (Keep.same sT)
  obtain ⟨es2, b1, b2, b3, b4⟩ := joined_facts g.ch g.l cb
  have t1 : Tab (L2.upd H1 TT (.tup [.ref U, .ref p])) U first (joinL Rs) := ⟨es2, by rw [b1, ← g.b]; exact kG _ _ Ua hU, by omega, b2, b4⟩
  have t2 : Tab (L2.upd H1 TT (.tup [.ref U, .ref p])) p first (joinL Rs) := ⟨es, sT _ _ h1, by omega, ok, je⟩
  have w : LRows (L2.upd H1 TT (.tup [.ref U, .ref p])) W (joinL Rs) := by
    obtain ⟨x, y, z, eS⟩ := hS
    exact hW.keep kG Wa ⟨_, eS⟩
  generalize L2.upd H1 TT (.tup [.ref U, .ref p]) = G at *
  refine lp_tup (xs := [.ref U, .ref p]) (fun i σ H' => (∃ v8 v9 v10, σ = [v0, v1, some (.ref a), some (.int first), some (.ref F), some (.ref U), some (.ref W), v7, v8, v9, v10, v11]) ∧ Same G H') ⟨⟨_, _, _, rfl⟩, Same.refl G⟩ (fun i σ H' _ ⟨_, e⟩ => SqT.of (e _ _ eT)) ?_ ?_
  · rintro i x σ H' hx ⟨⟨v8, v9, v10, rfl⟩, e⟩
    have : ∃ t, x = .ref t ∧ Tab G t first (joinL Rs) := by
      have := List.mem_of_getElem? hx
      simp only [List.mem_cons, List.not_mem_nil, or_false] at this
      rcases this with rfl | rfl
      · exact ⟨_, rfl, t1⟩
      · exact ⟨_, rfl, t2⟩
    obtain ⟨t, rfl, ht⟩ := this
    show t_table K CC CN _ [v0, v1, some (.ref a), some (.int first), some (.ref F), some (.ref U), some (.ref W), v7, some (.ref t), v9, v10, v11] H'
    exact table_run (F := F) (U := U) g (w.same e) (ht.same e) fun u9 u10 H2 e2 => ⟨⟨_, _, _, rfl⟩, Same.trans' e e2⟩
  · rintro σ H' ⟨⟨v8, v9, v10, rfl⟩, e⟩
    exact k v8 v9 v10 H' (kG.trans (Keep.same e))
end C48

set_option maxHeartbeats 2000000
namespace C48
open PySem PySem.Spec PyProof.Rows L2
theorem sqL_same {K : PySem.W.Frag} {H H' : Hp} {a : Addr} {xs : List V} (h : SqL K H a xs) (s : Same H H') : SqL K H' a xs := by
  rcases h with (h | ⟨o, h⟩) | h
  · exact .inl (.inl (s _ _ h))
  · exact .inl (.inr ⟨o, s _ _ h⟩)
  · exact .inr h
theorem first_run {D : Ends} {H : Hp} {p : Addr} {v0 v1 v3 v4 v5 v6 v7 v8 v9 v10 v11 : Option V} (src : Src H p)
    (k : ∀ (first : Int) H', 1 ≤ first → first < 2 ^ 30 → Keep p H H' → Src H' p → D.nx [v0, v1, some (.ref p), some (.int first), v4, v5, v6, v7, v8, v9, v10, v11] H') : t_first D [v0, v1, some (.ref p), v3, v4, v5, v6, v7, v8, v9, v10, v11] H := by
  unfold t_first
  simp only [r_seq, r_next, r_brk, r_cont, r_asg, r_name, r_ret, r_retN, r_drop, r_ifs, r_never, r_var, r_c, r_op, r_un, r_if, r_tst, r_b, r_not, r_and, r_or, r_andV, r_orV, r_notV, r_nil, r_cons, r_tup, r_lst, r_cb, r_call, r_bm, r_bm0, r_sl, r_nopart, r_part, r_rev, r_gnil, r_gcons, r_gsub, r_par, r_aug, r_chain, r_I0, r_I, r_U, r_ixd, r_lend, r_tupd, r_listd, r_sld, r_app, r_ext, r_reverse, r_setl, r_cat, r_int1, r_eqS, r_neS, scal_ii, scal_bb, scal_ss, at0, at1, at2, sq_lst, sq_tup, isLst_lst, List.getElem?_cons_zero, List.getElem?_cons_succ, List.set_cons_zero, List.set_cons_succ, V.int.injEq, V.bl.injEq, V.ref.injEq, V.str.injEq, HO.lst.injEq, HO.tup.injEq, Option.some.injEq, exists_eq_left', exists_eq_left, List.cons.injEq, and_true, true_and, decide_eq_true_eq, reduceCtorEq, false_and, exists_false, or_false, false_or, exists_const, and_assoc, exists_and_left, List.append_nil, ix0, ix1, ix2, cm_mod, cdw1009, cdw2003, cdw7, cdw64, cdw2, cm104729, cm2, cm3, upd_same, List.length_cons, List.length_nil, Int.reduceLT, Int.reduceLE, Nat.reduceAdd, Nat.reduceLeDiff, Nat.reduceLT, Int.reduceToNat, r_for1, r_forL, r_forT, r_lcL, r_lc1, r_yes, r_gtupD, wipe_0, wipe_1, List.cons_append, List.nil_append, r_forS, r_ipI, ite_false, ite_true, Bool.not_true, Bool.not_false, decide_true, decide_false, r_isd, r_islt, cD_ty, cD_ref, tD_non, tD_bl, tD_int, tD_str, tD_ref, tH_lst, tH_tup, tH_dK, tH_ins, ki_self, ki_int_bool, ki_non_int, ki_str_int, ki_lt_lst, ki_lt_tup, r_fld, r_sfld, HO.ins.injEq, cx_K]
  refine ⟨⟨by decide, by decide, by decide⟩, p, 1000000, rfl, src, by decide, by decide, fun r H1 r0 r1 k1 S1 => ⟨r, rfl, szl (by decide : 3 ≤ 1000), fun q hq => ?_⟩⟩
  refine ⟨p, q, _, rfl, S1.new hq, S1.ne hq, upd_same, by simp, (by simp : _ ≤ 1000), fun v H2 hv k2 S2 => ?_⟩
  have kk : Keep p H H2 := (k1.new hq).trans k2
  simp only [List.mem_cons, List.not_mem_nil, or_false] at hv
  rcases hv with rfl | rfl | rfl
  · exact k 1 H2 (by decide) (by decide) kk S2
  · exact k 7 H2 (by decide) (by decide) kk S2
  · exact k (1 + r) H2 (by omega) (by omega) kk S2
theorem cell_run {K : PySem.W.Frag} {CC CN Pt : Addr} {q : Str} {D : Ends} {H : Hp} {n : Int} {v0 v2 v3 v4 v5 v6 v7 v8 v9 v10 v11 : Option V} (t : LamX.Tabs [(Pt, q)] H)
    (k : ∀ v2 v3 v4 v5 v6 v7 v8 v9 v10 v11 H', LamX.ExtN H H' → LamX.Tabs [(Pt, q)] H' → D.nx [v0, some (.int n), v2, v3, v4, v5, v6, v7, v8, v9, v10, v11] H') : t_cell K CC CN Pt q D [v0, some (.int n), v2, v3, v4, v5, v6, v7, v8, v9, v10, v11] H := by
  unfold t_cell
  refine ⟨_, rfl, n, rfl, fun p H1 hp s1 src => ?_⟩
  refine first_run src fun first H2 f1 f2 k2 S2 => ?_
  refine ⟨_, rfl, _, rfl, p, first, rfl, S2, f1, f2, fun F Rs H3 hF Fp k3 S3 rows hl ch => ?_⟩
  have cb : CB first := ⟨f1, by omega⟩
  have g0 : Giv Rs first (bytesL (joinL Rs) first) := ⟨hl, ch, ⟨f1, f2⟩, rfl⟩
  obtain ⟨b1, b2, _, _⟩ := g0.bounds
  refine ⟨_, rfl, _, rfl, F, Rs, first, rfl, rows, by omega, b1, by omega, by omega, b2, fun U H4 hU s4 u4 => ?_⟩
  refine ⟨_, rfl, F, Rs, rfl, rows.same s4, by omega, fun W H5 hW s5 w5 => ⟨_, _, rfl, ?_⟩⟩
  have t1 := tabs_same t s1
  obtain ⟨x, y, z, eS⟩ := src
  have t2 := tabs_keep t1 k2 ⟨_, eS⟩
  obtain ⟨x2, y2, z2, eS2⟩ := S2
  have t3 := tabs_keep t2 k3 ⟨_, eS2⟩
  have t5 := tabs_same (tabs_same t3 s4) s5
  have S5 : Src H5 p := by
    obtain ⟨x, y, z, e⟩ := S3
    exact ⟨x, y, z, s5 _ _ (s4 _ _ e)⟩
  have Up : U ≠ p := S3.ne hU
  have Wp : W ≠ p := by
    obtain ⟨x, y, z, e⟩ := S3
    exact new_ne (s4 _ _ e) hW
  have r5 : LRows H5 F Rs := (rows.same s4).same s5
  have u5 : H5 U = some (.lst (vn (bytesL (joinL Rs) first))) := s5 _ _ u4
  have keepH : ∀ b o, H b = some o → H5 b = some o ∧ b ≠ p := fun b o e => by
    have bp : b ≠ p := ne_new e hp
    exact ⟨s5 _ _ (s4 _ _ (k3 b o bp (k2 b o bp (s1 b o e)))), bp⟩
  refine gots_run g0 r5 u5 w5 fun v7 H6 s6 => ?_
  have S6 : Src H6 p := by
    obtain ⟨x, y, z, e⟩ := S5
    exact ⟨x, y, z, s6 _ _ e⟩
  have t6 := tabs_same t5 s6
  refine tables_run g0 S6 Fp Up Wp (r5.same s6) (s6 _ _ u5) (w5.same s6) fun v8 v9 v10 H7 k7 => ?_
  obtain ⟨x6, y6, z6, eS6⟩ := S6
  have t7 := tabs_keep t6 k7 ⟨_, eS6⟩
  obtain ⟨refs, eF, _⟩ := r5.same s6
  refine odds_run (k7 _ _ Fp eF) (k7 _ _ Up (s6 _ _ u5)) t7 fun v11 H8 e8 t8 => k _ _ _ _ _ _ _ _ _ _ _ (fun b o e n => ?_) t8
  obtain ⟨e5, bp⟩ := keepH b o e
  exact e8 b o (k7 b o bp (s6 b o e5)) n
theorem law_run {K : PySem.W.Frag} {CC CN Pt a : Addr} {q : Str} {H : Hp} {ns : List Int} (t : LamX.Tabs [(Pt, q)] H) (hS : SqL K H a (ns.map V.int)) (hn : ns.length ≤ 1000) :
    t_law K CC CN Pt q { nx := fun _ H' => (fun v (_ : Hp) => v = V.bl true) .non H', rt := fun v _ => v = .bl true } (L2.start Nlaw [.ref a]) H := by
  unfold t_law
  refine ⟨_, rfl, szl (by decide), fun p0 h0 => ⟨a, p0, _, _, rfl, rfl, sqL_same hS (Same.new' (Same.refl H) h0), upd_same, Nat.le_trans (by rw [List.length_map, List.length_singleton]; omega : _ ≤ 1001) (by decide), fun p1 h1 => ⟨6, rfl, p1, _, rfl, upd_same, fun p2 h2 => ⟨p2, rfl, ⟨_, SqL.of upd_same⟩, ?_⟩⟩⟩⟩
  have s1 := Same.new' (o := .lst [.int 0]) (Same.refl H) h0
  generalize L2.upd H p0 (.lst [.int 0]) = G1 at *
  have s2 := Same.new' (o := .lst (ns.map V.int ++ [.int 0])) (Same.refl G1) h1
  generalize L2.upd G1 p1 (.lst (ns.map V.int ++ [.int 0])) = G2 at *
  have isInt : ∀ x ∈ cutV (ns.map V.int ++ [.int 0]) none (some 6), ∃ n : Int, x = .int n := by
    intro x hx
    unfold cutV at hx
    have h := List.mem_of_mem_drop (List.mem_of_mem_take hx)
    rcases List.mem_append.mp h with h | h
    · obtain ⟨n, _, e⟩ := List.mem_map.mp h
      exact ⟨n, e.symm⟩
    · exact ⟨0, List.mem_singleton.mp h⟩
  generalize cutV (ns.map V.int ++ [.int 0]) none (some 6) = xs at *
  have s3 := Same.new' (o := .lst xs) (Same.refl G2) h2
  have q3 : L2.upd G2 p2 (.lst xs) p2 = some (.lst xs) := upd_same
  have t3 : LamX.Tabs [(Pt, q)] (L2.upd G2 p2 (.lst xs)) := tabs_same (tabs_same (tabs_same t s1) s2) s3
  generalize L2.upd G2 p2 (.lst xs) = G3 at *
  refine lp_list (xs := xs) (fun i σ H' => (∃ v1 v2 v3 v4 v5 v6 v7 v8 v9 v10 v11, σ = [some (.ref a), v1, v2, v3, v4, v5, v6, v7, v8, v9, v10, v11]) ∧ LamX.ExtN G3 H' ∧ LamX.Tabs [(Pt, q)] H') ⟨⟨_, _, _, _, _, _, _, _, _, _, _, rfl⟩, LamX.ExtN.refl G3, t3⟩ (fun i σ H' _ ⟨_, e, _⟩ => SqL.of (e _ _ q3 (fun _ z => by cases z))) ?_ ?_
  · rintro i x σ H' hx ⟨⟨v1, v2, v3, v4, v5, v6, v7, v8, v9, v10, v11, rfl⟩, e, t'⟩
    obtain ⟨n, rfl⟩ := isInt x (List.mem_of_getElem? hx)
    show t_cell K CC CN Pt q _ [some (.ref a), some (.int n), v2, v3, v4, v5, v6, v7, v8, v9, v10, v11] H'
    exact cell_run t' fun w2 w3 w4 w5 w6 w7 w8 w9 w10 w11 H2 e2 t2 => ⟨⟨_, _, _, _, _, _, _, _, _, _, _, rfl⟩, e.trans e2, t2⟩
  · rintro σ H' ⟨_, e, t'⟩
    rfl
/-- the law runs well -/
theorem law_runs {P : Program} {w : World} {K : PySem.W.Frag} {mg : Str → Option Value} {CC CN CE CT CR CB gC fa co Pt a : Addr} {cdC : Value} {s : Shared} {ns : List Int} {oc : Value} {od : Option Addr} {dV kV doc pm ct : Value} {an : Option Addr} {osl : Array (Option Value)}
    (L : ∀ base, LawT P w K mg base CC CN CE CT CR CB gC cdC) (lk : K.lookup fa = some ⟨oc, od, .func (PySem.W.fnOf "law" "law" (defArgs slaw) (defBody slaw) (defScope slaw) dV kV doc pm an (.ref co) ct), osl⟩) (hcd : PySem.W.codeIn K (.ref co) "law" = true)
    (bind : ∀ (s : Shared) (v : Value), BindsTo s (PySem.W.fnOf "law" "law" (defArgs slaw) (defBody slaw) (defScope slaw) dV kV doc pm an (.ref co) ct) ⟨[v], []⟩ [("_law_script", v)]) (hn : ns.length ≤ 1000) : RunsAt P w K mg [(co, Pt)] fa a s ns := by
  intro base H KB nsB TB e0 hT hS
  refine LamX.run_ofS (N := Nlaw) (ps := ["_law_script"]) (us := [.ref a]) (vs := [.ref a]) lk hcd sclaw (k := 6) ⟨rfl, by decide, by decide⟩ e0 (bind s (.ref a)) (.cons rfl .nil) rfl fun hr => ?_
  refine ⟨_, (law_reads (L base) (TB _ (List.mem_singleton.mpr rfl)) hr rfl).nox, ?_⟩
  exact law_run (fun p hp => by rw [List.mem_singleton.mp hp]; exact LamX.TabS.nil (hT _ (List.mem_singleton.mpr rfl))) hS hn
end C48

set_option maxHeartbeats 4000000
namespace C48
open PySem PySem.Spec PyProof.Rows L2
/-! ### the exception's __init__ -/
section
variable {P : Program} {w : World} {K : PySem.W.Frag} {mg : Str → Option Value} {base : Heap} {f : Addr} {fd : FuncData}
abbrev sNoCode_init : Stmt := inClass (top 2) 0
theorem scNoCode_init : FnScope ["self", "field"] ["self", "field"] (defScope sNoCode_init) := ⟨rfl, rfl, rfl, by decide +kernel, rfl, by decide +kernel, by decide +kernel⟩

theorem ok_NoCode_init {CN : Addr} (ox : OexC K CN) (no : PySem.W.findIn K (.ref CN) "field" = some none) (F : FnP K "__init__" "NoCode.__init__" sNoCode_init f fd) : FnOk P w K mg base CX0 1 f fd ["self", "field"] (spXInit CN "field") := by
  refine F.ok scNoCode_init (fun vs H Q E h => ?_) (fun cdv A outer s H vs Q E hr h => ?_)
  · obtain ⟨a, v, rfl, _⟩ := h
    rfl
  · obtain ⟨a, v, rfl, ha, k⟩ := h
    refine ⟨_, PSs.nox (pss_one (ps_ost (pv 0) (pv 1))), ?_⟩
    exact ⟨v, rfl, .ref a, rfl, a, CN, rfl, ox, no, .inl ⟨ha, fun d hd nd => k d hd nd⟩⟩
end
/-! ### facts of classes, as a Bool -/
def oexB (K : PySem.W.Frag) (C : Addr) : Bool := match K.lookup C with
  | some ⟨.type t, _, .cls cd, sl⟩ => decide (t = "type") && (match cd.mro, sl.toList with
    | .ref D :: bm, [_, _, _, _, some (.builtin n), _] => decide (D = C) && (decide (n = "ValueError.__new__") && (!cd.hasDel && (cd.hasDict && PySem.HandSPX.refsVE bm)))
    | _, _ => false)
  | _ => false
theorem oexB_ok {K : PySem.W.Frag} {C : Addr} (h : oexB K C = true) : ∃ nm q N bs bm sn sub ab col dd k0 k1 k2 k3 k5, K.lookup C = some (excClassObj nm q C N bs bm true sn sub ab col dd k0 k1 k2 k3 k5 "ValueError.__new__") ∧ PySem.HandSPX.refsVE bm = true := by
  unfold oexB at h
  split at h
  · rename_i t dd cd sl e
    rw [Bool.and_eq_true] at h
    obtain ⟨ht, h⟩ := h
    split at h
    · rename_i D bm y0 y1 y2 y3 n y5 em es
      simp only [Bool.and_eq_true, decide_eq_true_eq, Bool.not_eq_true'] at h
      obtain ⟨h1, h2, h3, h4, h5⟩ := h
      have ht := of_decide_eq_true ht
      obtain ⟨nm, bs, mro, ns, qn, hd, sn, sub, ab, col, del⟩ := cd
      obtain ⟨l⟩ := sl
      dsimp only at em es h3 h4
      subst em es h1 h2 h3 h4 ht
      exact ⟨_, _, _, _, bm, _, _, _, _, _, _, _, _, _, _, e, h5⟩
    · cases h
  · cases h
def excB (K : PySem.W.Frag) (D : Addr) : Bool := He.eqO (PySem.W.findIn K (.ref D) "__getattribute__") (some (some (.builtin "BaseException.__getattribute__"))) && (He.eqO (PySem.W.findIn K (.ref D) "__getattr__") (some none) && (decide (PySem.W.subIn K (.ref D) (.type "BaseException") = some true) &&
  (PySem.W.hasDictIn K D && (He.eqO (PySem.W.findIn K (.ref D) "__class__") (some (some (.builtin "object.__class__"))) && (He.eqO (PySem.W.specialIn K (.builtin "object.__class__") "__get__") (some (some (.builtin "getset_descriptor.__get__"))) &&
  (decide (PySem.W.takesIn K (.builtin "object.__class__") = some true) && (decide (PySem.W.mroIn K D (.type "object") = some true) && (decide (PySem.W.typeIn K (.ref D) = some (.type "type")) && (PySem.W.keepIn K (.ref D) && He.eqO (PySem.W.findIn K (.ref D) "__setattr__") (some (some (.builtin "object.__setattr__"))))))))))))
theorem excB_ok {K : PySem.W.Frag} {D : Addr} (h : excB K D = true) : ExcC K D ∧ XfC K D ∧ PySem.W.typeIn K (.ref D) = some (.type "type") ∧ PySem.W.keepIn K (.ref D) = true ∧ PySem.W.findIn K (.ref D) "__setattr__" = some (some (.builtin "object.__setattr__")) := by
  unfold excB at h
  simp only [Bool.and_eq_true, decide_eq_true_eq] at h
  obtain ⟨h1, h2, h3, h4, h5, h6, h7, h8, h9, h10, h11⟩ := h
  exact ⟨⟨He.eqO_ok h1, He.eqO_ok h2, h3, h4, He.eqO_ok h5, He.eqO_ok h6, h7, h8⟩, ⟨He.eqO_ok h1, He.eqO_ok h2, h3, h4⟩, h9, h10, He.eqO_ok h11⟩
def kitB (K : PySem.W.Frag) (C : Addr) : Bool := He.eqO (PySem.W.findIn K (.ref C) "__class__") (some (some (.builtin "object.__class__"))) && (decide (PySem.W.mroIn K C (.type "object") = some true) && (["NoneType", "int", "bool", "str", "list", "tuple", "dict"] : List String).all fun t => decide (PySem.W.kitOne K (.type t) (.ref C) = some false))
def mkpB (K : PySem.W.Frag) (C : Addr) : Bool := PySem.W.makesIn K C && (He.eqO (PySem.W.findIn K (.ref C) "__init__") (some (some (.builtin "object.__init__"))) && PySem.W.keepIn K (.ref C))
def exB (K : PySem.W.Frag) : Bool := kitB K (He.ga K "Known") && (mkpB K (He.ga K "Mark") && (kitB K (He.ga K "Code") && (oexB K (He.ga K "NoCode") && (excB K (He.ga K "NoCode") && (He.eqO (PySem.W.findIn K (.ref (He.ga K "NoCode")) "field") (some none) && (decide (PySem.W.kitOne K (.ref (He.ga K "NoCode")) (.ref (He.ga K "CodeError")) = some true) &&
  (decide (PySem.W.kitOne K (.ref (He.ga K "NoCode")) (.type "ValueError") = some true) && (decide (PySem.W.typeIn K (.ref (He.ma K (He.ga K "NoCode") "__init__")) = some (.type "function")) && He.eqO (PySem.W.findIn K (.ref (He.ga K "NoCode")) "__init__") (some (some (.ref (He.ma K (He.ga K "NoCode") "__init__"))))))))))))
def d_number_of : He.DefD := ⟨("number_of", none), "number_of", "number_of", defArgs snumber_of, defBody snumber_of, defScope snumber_of, [], []⟩
def d_bytes_of : He.DefD := ⟨("bytes_of", none), "bytes_of", "bytes_of", defArgs sbytes_of, defBody sbytes_of, defScope sbytes_of, [], []⟩
def d_string_of : He.DefD := ⟨("string_of", none), "string_of", "string_of", defArgs sstring_of, defBody sstring_of, defScope sstring_of, [], []⟩
def d_strings_of : He.DefD := ⟨("strings_of", none), "strings_of", "strings_of", defArgs sstrings_of, defBody sstrings_of, defScope sstrings_of, [], []⟩
def d_is_string : He.DefD := ⟨("is_string", none), "is_string", "is_string", defArgs sis_string, defBody sis_string, defScope sis_string, [], []⟩
def d_depth_of : He.DefD := ⟨("depth_of", none), "depth_of", "depth_of", defArgs sdepth_of, defBody sdepth_of, defScope sdepth_of, [], []⟩
def d_Code_init : He.DefD := ⟨("Code", some "__init__"), "__init__", "Code.__init__", defArgs sCode_init, defBody sCode_init, defScope sCode_init, [], []⟩
def d_NoCode_init : He.DefD := ⟨("NoCode", some "__init__"), "__init__", "NoCode.__init__", defArgs sNoCode_init, defBody sNoCode_init, defScope sNoCode_init, [], []⟩
def d_line_rows : He.DefD := ⟨("line_rows", none), "line_rows", "line_rows", defArgs sline_rows, defBody sline_rows, defScope sline_rows, [], []⟩
def d_signed_number : He.DefD := ⟨("signed_number", none), "signed_number", "signed_number", defArgs ssigned_number, defBody ssigned_number, defScope ssigned_number, [], []⟩
def d_joined : He.DefD := ⟨("joined", none), "joined", "joined", defArgs sjoined, defBody sjoined, defScope sjoined, [], []⟩
def d_line_bytes : He.DefD := ⟨("line_bytes", none), "line_bytes", "line_bytes", defArgs sline_bytes, defBody sline_bytes, defScope sline_bytes, [], []⟩
def d_line_entries : He.DefD := ⟨("line_entries", none), "line_entries", "line_entries", defArgs sline_entries, defBody sline_entries, defScope sline_entries, [], []⟩
def d_entries_of : He.DefD := ⟨("entries_of", none), "entries_of", "entries_of", defArgs sentries_of, defBody sentries_of, defScope sentries_of, [], []⟩
def d_lines_of_units : He.DefD := ⟨("lines_of_units", none), "lines_of_units", "lines_of_units", defArgs slines_of_units, defBody slines_of_units, defScope slines_of_units, [], []⟩
def d_signed_pieces : He.DefD := ⟨("signed_pieces", none), "signed_pieces", "signed_pieces", defArgs ssigned_pieces, defBody ssigned_pieces, defScope ssigned_pieces, [], []⟩
def d_source_of : He.DefD := ⟨("_law_source_of", none), "_law_source_of", "_law_source_of", defArgs ssource_of, defBody ssource_of, defScope ssource_of, [], []⟩
def d_next : He.DefD := ⟨("_law_next", none), "_law_next", "_law_next", defArgs snext, defBody snext, defScope snext, [], []⟩
def d_one : He.DefD := ⟨("_law_one", none), "_law_one", "_law_one", defArgs sone, defBody sone, defScope sone, [], []⟩
def d_pieces : He.DefD := ⟨("_law_pieces", none), "_law_pieces", "_law_pieces", defArgs spieces, defBody spieces, defScope spieces, [], []⟩
def d_marked : He.DefD := ⟨("_law_marked", none), "_law_marked", "_law_marked", defArgs smarked, defBody smarked, defScope smarked, [], []⟩
def d_made : He.DefD := ⟨("_law_made", none), "_law_made", "_law_made", defArgs smade, defBody smade, defScope smade, [], []⟩
def d_ljoined : He.DefD := ⟨("_law_joined", none), "_law_joined", "_law_joined", defArgs sljoined, defBody sljoined, defScope sljoined, [], []⟩
def d_entry : He.DefD := ⟨("_law_entry", none), "_law_entry", "_law_entry", defArgs sentry, defBody sentry, defScope sentry, [], []⟩
def d_lline_bytes : He.DefD := ⟨("_law_line_bytes", none), "_law_line_bytes", "_law_line_bytes", defArgs slline_bytes, defBody slline_bytes, defScope slline_bytes, [], []⟩
def d_caught : He.DefD := ⟨("_law_caught", none), "_law_caught", "_law_caught", defArgs scaught, defBody scaught, defScope scaught, [], []⟩
def d_drawn_rows : He.DefD := ⟨("_law_drawn_rows", none), "_law_drawn_rows", "_law_drawn_rows", defArgs sdrawn_rows, defBody sdrawn_rows, defScope sdrawn_rows, [], []⟩
def d_cut : He.DefD := ⟨("_law_cut", none), "_law_cut", "_law_cut", defArgs scut, defBody scut, defScope scut, [], []⟩
def d_law : He.DefD := ⟨("law", none), "law", "law", defArgs slaw, defBody slaw, defScope slaw, [], []⟩
def fns : List He.DefD := [d_number_of, d_bytes_of, d_string_of, d_strings_of, d_is_string, d_depth_of, d_Code_init, d_NoCode_init, d_line_rows, d_signed_number, d_joined, d_line_bytes, d_line_entries, d_entries_of, d_lines_of_units, d_signed_pieces, d_source_of, d_next, d_one, d_pieces, d_marked, d_made, d_ljoined, d_entry, d_lline_bytes, d_caught, d_drawn_rows, d_cut, d_law]
def fas : List He.Fa := [.glo "number_of", .glo "bytes_of", .glo "string_of", .glo "strings_of", .glo "is_string", .glo "depth_of", .glo "line_rows", .glo "signed_number", .glo "joined", .glo "line_bytes", .glo "line_entries", .glo "entries_of", .glo "lines_of_units", .glo "signed_pieces", .glo "_law_source_of", .glo "_law_next", .glo "_law_one", .glo "_law_pieces", .glo "_law_marked", .glo "_law_made", .glo "_law_joined", .glo "_law_entry", .glo "_law_line_bytes", .glo "_law_caught", .glo "_law_drawn_rows", .glo "_law_cut", .glo "law", .glo "Code", .glo "Known", .glo "Mark", .glo "NoCode", .glo "CodeError", .glo "NoTable", .glo "NoRows", .glo "NoBytes", .free "len", .free "int", .free "range", .free "tuple", .free "list", .free "isinstance", .free "bool", .free "str", .free "max", .free "reversed", .free "repr", .free "min", .free "enumerate", .free "ValueError", .int "GREATEST" 2147483647, .int "DEEPEST" 100, .int "BARRED" 37, .int "BEGINS" 128, .int "GOES_ON" 64, .int "WITH_LINE" 232, .int "WITHOUT_LINE" 248, .int "MOST_UNITS" 8, .int "MANY_UNITS" 80, .cls "Code", .cls "Known", .mkr "Code", .exm "NoCode" "NoCode" true, .noat "Code" "argcount", .noat "Code" "onlycount", .noat "Code" "stacksize", .noat "Code" "flags", .noat "Code" "code", .noat "Code" "depth", .noat "Code" "constants", .noat "Code" "names", .noat "Code" "slots", .noat "Code" "kinds", .noat "Code" "name", .noat "Code" "path", .noat "Code" "line", .noat "Code" "lines", .noat "Code" "handlers", .noat "Code" "identity"]
abbrev Rk : PySem.W.OpenRow := PySem.W.OpenLaw.row PySem.Challenge.rw_codewalk_k48_tables_of_lines_both_ways
def tfs : List He.Defn := [("law", none)]
abbrev hkk : PySem.W.Hook := He.hookX 4 fas fns [] tfs exB
def obk (s : PySem.W.SharedT) : He.AlX := He.obsX 4 fas fns [] tfs exB (HandSHeadRun.getT s)
theorem obk_eq (s : PySem.W.SharedT) : obk s = hkk.obs s.abs := He.obsX_eq (HandSHeadRun.getT_eq s)
def loose : List Str := (["CodeError", "NoCode", "NoTable", "NoBytes", "NoRows", "GREATEST", "DEEPEST", "BARRED", "Known", "Mark", "Code", "are_equal", "is_same_constant", "number_of", "bytes_of", "string_of", "strings_of", "is_string", "depth_of", "is_constant"] : List Str) ++ (["told_constants", "BEGINS", "GOES_ON", "WITH_LINE", "WITHOUT_LINE", "MOST_UNITS", "MANY_UNITS", "line_rows", "lines_of_units", "signed_number", "joined", "line_bytes", "line_entries", "entries_of", "signed_pieces", "_law_source_of", "_law_next", "_law_one", "_law_pieces", "_law_marked"] : List Str) ++ (["_law_made", "_law_joined", "_law_entry", "_law_line_bytes", "_law_caught", "_law_drawn_rows", "_law_cut"] : List Str)
theorem runk (w : World) : HandSHeadRun.RunEq Rk (PySem.W.view Rk.prog [51]) hkk obk 6000 loose w := by
  intro os
  kernel_rfl
end C48

set_option maxHeartbeats 4000000
namespace C48
open PySem PySem.Spec PyProof.Rows L2
abbrev Pk : Program := PySem.Challenge.pw_codewalk_k48_tables_of_lines_both_ways
theorem k48_at {w : World} {mg : Str → Option Value} {fa : Addr} {h : Heap} (Y : hkk.says w h) (G : h.Ns mainGlobals mg) (hmg : mg "law" = some (.ref fa)) : ∃ (K : PySem.W.Frag) (cs : List (Addr × Addr)), K.In h ∧ (∀ p ∈ cs, h.get? p.2 = some { cls := .none, data := .fields #[] }) ∧
    (∀ p ∈ cs, K.lookup p.2 = none) ∧ (∀ p ∈ cs, PySem.W.CodeHd h p.1 p.2) ∧ ∀ (s : Shared) (a : Addr) (ns : List Int), ns.length ≤ 1000 → RunsAt Pk w K mg cs fa a s ns := by
  obtain ⟨K, X, c⟩ := Y
  have cd := c.t.d
  obtain ⟨fd_number_of, F_number_of⟩ := cd.def_ 0 (d := d_number_of) rfl
  obtain ⟨fd_bytes_of, F_bytes_of⟩ := cd.def_ 1 (d := d_bytes_of) rfl
  obtain ⟨fd_string_of, F_string_of⟩ := cd.def_ 2 (d := d_string_of) rfl
  obtain ⟨fd_strings_of, F_strings_of⟩ := cd.def_ 3 (d := d_strings_of) rfl
  obtain ⟨fd_is_string, F_is_string⟩ := cd.def_ 4 (d := d_is_string) rfl
  obtain ⟨fd_depth_of, F_depth_of⟩ := cd.def_ 5 (d := d_depth_of) rfl
  obtain ⟨fd_Code_init, F_Code_init⟩ := cd.def_ 6 (d := d_Code_init) rfl
  obtain ⟨fd_NoCode_init, F_NoCode_init⟩ := cd.def_ 7 (d := d_NoCode_init) rfl
  obtain ⟨fd_line_rows, F_line_rows⟩ := cd.def_ 8 (d := d_line_rows) rfl
  obtain ⟨fd_signed_number, F_signed_number⟩ := cd.def_ 9 (d := d_signed_number) rfl
  obtain ⟨fd_joined, F_joined⟩ := cd.def_ 10 (d := d_joined) rfl
  obtain ⟨fd_line_bytes, F_line_bytes⟩ := cd.def_ 11 (d := d_line_bytes) rfl
  obtain ⟨fd_line_entries, F_line_entries⟩ := cd.def_ 12 (d := d_line_entries) rfl
  obtain ⟨fd_entries_of, F_entries_of⟩ := cd.def_ 13 (d := d_entries_of) rfl
  obtain ⟨fd_lines_of_units, F_lines_of_units⟩ := cd.def_ 14 (d := d_lines_of_units) rfl
  obtain ⟨fd_signed_pieces, F_signed_pieces⟩ := cd.def_ 15 (d := d_signed_pieces) rfl
  obtain ⟨fd_source_of, F_source_of⟩ := cd.def_ 16 (d := d_source_of) rfl
  obtain ⟨fd_next, F_next⟩ := cd.def_ 17 (d := d_next) rfl
  obtain ⟨fd_one, F_one⟩ := cd.def_ 18 (d := d_one) rfl
  obtain ⟨fd_pieces, F_pieces⟩ := cd.def_ 19 (d := d_pieces) rfl
  obtain ⟨fd_marked, F_marked⟩ := cd.def_ 20 (d := d_marked) rfl
  obtain ⟨fd_made, F_made⟩ := cd.def_ 21 (d := d_made) rfl
  obtain ⟨fd_ljoined, F_ljoined⟩ := cd.def_ 22 (d := d_ljoined) rfl
  obtain ⟨fd_entry, F_entry⟩ := cd.def_ 23 (d := d_entry) rfl
  obtain ⟨fd_lline_bytes, F_lline_bytes⟩ := cd.def_ 24 (d := d_lline_bytes) rfl
  obtain ⟨fd_caught, F_caught⟩ := cd.def_ 25 (d := d_caught) rfl
  obtain ⟨fd_drawn_rows, F_drawn_rows⟩ := cd.def_ 26 (d := d_drawn_rows) rfl
  obtain ⟨fd_cut, F_cut⟩ := cd.def_ 27 (d := d_cut) rfl
  obtain ⟨fd_law, F_law⟩ := cd.def_ 28 (d := d_law) rfl
  have g_number_of := He.glo_ok X G (cd.fact 0 (f := .glo "number_of") rfl)
  have g_bytes_of := He.glo_ok X G (cd.fact 1 (f := .glo "bytes_of") rfl)
  have g_string_of := He.glo_ok X G (cd.fact 2 (f := .glo "string_of") rfl)
  have g_strings_of := He.glo_ok X G (cd.fact 3 (f := .glo "strings_of") rfl)
  have g_is_string := He.glo_ok X G (cd.fact 4 (f := .glo "is_string") rfl)
  have g_depth_of := He.glo_ok X G (cd.fact 5 (f := .glo "depth_of") rfl)
  have g_line_rows := He.glo_ok X G (cd.fact 6 (f := .glo "line_rows") rfl)
  have g_signed_number := He.glo_ok X G (cd.fact 7 (f := .glo "signed_number") rfl)
  have g_joined := He.glo_ok X G (cd.fact 8 (f := .glo "joined") rfl)
  have g_line_bytes := He.glo_ok X G (cd.fact 9 (f := .glo "line_bytes") rfl)
  have g_line_entries := He.glo_ok X G (cd.fact 10 (f := .glo "line_entries") rfl)
  have g_entries_of := He.glo_ok X G (cd.fact 11 (f := .glo "entries_of") rfl)
  have g_lines_of_units := He.glo_ok X G (cd.fact 12 (f := .glo "lines_of_units") rfl)
  have g_signed_pieces := He.glo_ok X G (cd.fact 13 (f := .glo "signed_pieces") rfl)
  have g_source_of := He.glo_ok X G (cd.fact 14 (f := .glo "_law_source_of") rfl)
  have g_next := He.glo_ok X G (cd.fact 15 (f := .glo "_law_next") rfl)
  have g_one := He.glo_ok X G (cd.fact 16 (f := .glo "_law_one") rfl)
  have g_pieces := He.glo_ok X G (cd.fact 17 (f := .glo "_law_pieces") rfl)
  have g_marked := He.glo_ok X G (cd.fact 18 (f := .glo "_law_marked") rfl)
  have g_made := He.glo_ok X G (cd.fact 19 (f := .glo "_law_made") rfl)
  have g_ljoined := He.glo_ok X G (cd.fact 20 (f := .glo "_law_joined") rfl)
  have g_entry := He.glo_ok X G (cd.fact 21 (f := .glo "_law_entry") rfl)
  have g_lline_bytes := He.glo_ok X G (cd.fact 22 (f := .glo "_law_line_bytes") rfl)
  have g_caught := He.glo_ok X G (cd.fact 23 (f := .glo "_law_caught") rfl)
  have g_drawn_rows := He.glo_ok X G (cd.fact 24 (f := .glo "_law_drawn_rows") rfl)
  have g_cut := He.glo_ok X G (cd.fact 25 (f := .glo "_law_cut") rfl)
  have g_law := He.glo_ok X G (cd.fact 26 (f := .glo "law") rfl)
  have g_Code := He.glo_ok X G (cd.fact 27 (f := .glo "Code") rfl)
  have g_Known := He.glo_ok X G (cd.fact 28 (f := .glo "Known") rfl)
  have g_Mark := He.glo_ok X G (cd.fact 29 (f := .glo "Mark") rfl)
  have g_NoCode := He.glo_ok X G (cd.fact 30 (f := .glo "NoCode") rfl)
  have g_CodeError := He.glo_ok X G (cd.fact 31 (f := .glo "CodeError") rfl)
  have g_NoTable := He.glo_ok X G (cd.fact 32 (f := .glo "NoTable") rfl)
  have g_NoRows := He.glo_ok X G (cd.fact 33 (f := .glo "NoRows") rfl)
  have g_NoBytes := He.glo_ok X G (cd.fact 34 (f := .glo "NoBytes") rfl)
  have B_number_of : Binds K fd_number_of ["value", "field"] [] := F_number_of.bindsN fun _ _ _ _ _ _ us hl => match us, hl with | [_, _], _ => rfl
  have B_bytes_of : Binds K fd_bytes_of ["row", "field"] [] := F_bytes_of.bindsN fun _ _ _ _ _ _ us hl => match us, hl with | [_, _], _ => rfl
  have B_string_of : Binds K fd_string_of ["value", "field"] [] := F_string_of.bindsN fun _ _ _ _ _ _ us hl => match us, hl with | [_, _], _ => rfl
  have B_strings_of : Binds K fd_strings_of ["row", "field"] [] := F_strings_of.bindsN fun _ _ _ _ _ _ us hl => match us, hl with | [_, _], _ => rfl
  have B_is_string : Binds K fd_is_string ["value"] [] := F_is_string.bindsN fun _ _ _ _ _ _ us hl => match us, hl with | [_], _ => rfl
  have B_depth_of : Binds K fd_depth_of ["constants"] [] := F_depth_of.bindsN fun _ _ _ _ _ _ us hl => match us, hl with | [_], _ => rfl
  have B_Code_init : Binds K fd_Code_init ["self", "argcount", "onlycount", "stacksize", "flags", "code", "constants", "names", "slots", "kinds", "name", "path", "line", "lines", "handlers"] [] := F_Code_init.bindsN fun _ _ _ _ _ _ us hl => match us, hl with | [_, _, _, _, _, _, _, _, _, _, _, _, _, _, _], _ => rfl
  have B_NoCode_init : Binds K fd_NoCode_init ["self", "field"] [] := F_NoCode_init.bindsN fun _ _ _ _ _ _ us hl => match us, hl with | [_, _], _ => rfl
  have B_line_rows : Binds K fd_line_rows ["code"] [] := F_line_rows.bindsN fun _ _ _ _ _ _ us hl => match us, hl with | [_], _ => rfl
  have B_signed_number : Binds K fd_signed_number ["table", "at"] [] := F_signed_number.bindsN fun _ _ _ _ _ _ us hl => match us, hl with | [_, _], _ => rfl
  have B_joined : Binds K fd_joined ["rows"] [] := F_joined.bindsN fun _ _ _ _ _ _ us hl => match us, hl with | [_], _ => rfl
  have B_line_bytes : Binds K fd_line_bytes ["rows", "line"] [] := F_line_bytes.bindsN fun _ _ _ _ _ _ us hl => match us, hl with | [_, _], _ => rfl
  have B_line_entries : Binds K fd_line_entries ["rows", "line"] [] := F_line_entries.bindsN fun _ _ _ _ _ _ us hl => match us, hl with | [_, _], _ => rfl
  have B_entries_of : Binds K fd_entries_of ["units", "pieces"] [] := F_entries_of.bindsN fun _ _ _ _ _ _ us hl => match us, hl with | [_, _], _ => rfl
  have B_lines_of_units : Binds K fd_lines_of_units ["code"] [] := F_lines_of_units.bindsN fun _ _ _ _ _ _ us hl => match us, hl with | [_], _ => rfl
  have B_signed_pieces : Binds K fd_signed_pieces ["number"] [] := F_signed_pieces.bindsN fun _ _ _ _ _ _ us hl => match us, hl with | [_], _ => rfl
  have B_source_of : Binds K fd_source_of ["_law_cell"] [] := F_source_of.bindsN fun _ _ _ _ _ _ us hl => match us, hl with | [_], _ => rfl
  have B_next : Binds K fd_next ["_law_source", "_law_many"] [] := F_next.bindsN fun _ _ _ _ _ _ us hl => match us, hl with | [_, _], _ => rfl
  have B_one : Binds K fd_one ["_law_source", "_law_some"] [] := F_one.bindsN fun _ _ _ _ _ _ us hl => match us, hl with | [_, _], _ => rfl
  have B_pieces : Binds K fd_pieces ["_law_number"] [] := F_pieces.bindsN fun _ _ _ _ _ _ us hl => match us, hl with | [_], _ => rfl
  have B_marked : Binds K fd_marked ["_law_some"] [] := F_marked.bindsN fun _ _ _ _ _ _ us hl => match us, hl with | [_], _ => rfl
  have B_made : Binds K fd_made ["_law_data", "_law_lines", "_law_guards", "_law_first"] [] := F_made.bindsN fun _ _ _ _ _ _ us hl => match us, hl with | [_, _, _, _], _ => rfl
  have B_ljoined : Binds K fd_ljoined ["_law_some"] [] := F_ljoined.bindsN fun _ _ _ _ _ _ us hl => match us, hl with | [_], _ => rfl
  have B_entry : Binds K fd_entry ["_law_units", "_law_more"] [] := F_entry.bindsN fun _ _ _ _ _ _ us hl => match us, hl with | [_, _], _ => rfl
  have B_lline_bytes : Binds K fd_lline_bytes ["_law_some", "_law_line"] [] := F_lline_bytes.bindsN fun _ _ _ _ _ _ us hl => match us, hl with | [_, _], _ => rfl
  have B_caught : Binds K fd_caught ["_law_ask"] [] := F_caught.bindsN fun _ _ _ _ _ _ us hl => match us, hl with | [_], _ => rfl
  have B_drawn_rows : Binds K fd_drawn_rows ["_law_source", "_law_first"] [] := F_drawn_rows.bindsN fun _ _ _ _ _ _ us hl => match us, hl with | [_, _], _ => rfl
  have B_cut : Binds K fd_cut ["_law_source", "_law_some", "_law_line"] [] := F_cut.bindsN fun _ _ _ _ _ _ us hl => match us, hl with | [_, _, _], _ => rfl
  have B_law : Binds K fd_law ["_law_script"] [] := F_law.bindsN fun _ _ _ _ _ _ us hl => match us, hl with | [_], _ => rfl
  have T : Txt mg := ⟨He.free_ok X G (cd.fact 35 (f := .free "len") rfl), He.free_ok X G (cd.fact 36 (f := .free "int") rfl), He.free_ok X G (cd.fact 37 (f := .free "range") rfl), He.free_ok X G (cd.fact 38 (f := .free "tuple") rfl), He.free_ok X G (cd.fact 39 (f := .free "list") rfl), He.free_ok X G (cd.fact 40 (f := .free "isinstance") rfl), He.free_ok X G (cd.fact 41 (f := .free "bool") rfl), He.free_ok X G (cd.fact 42 (f := .free "str") rfl), He.free_ok X G (cd.fact 43 (f := .free "max") rfl), He.free_ok X G (cd.fact 44 (f := .free "reversed") rfl), He.free_ok X G (cd.fact 45 (f := .free "repr") rfl), He.int_ok X G (cd.fact 49 (f := .int "GREATEST" 2147483647) rfl), He.int_ok X G (cd.fact 50 (f := .int "DEEPEST" 100) rfl), He.int_ok X G (cd.fact 51 (f := .int "BARRED" 37) rfl), He.int_ok X G (cd.fact 52 (f := .int "BEGINS" 128) rfl), He.int_ok X G (cd.fact 53 (f := .int "GOES_ON" 64) rfl), He.free_ok X G (cd.fact 46 (f := .free "min") rfl), He.int_ok X G (cd.fact 54 (f := .int "WITH_LINE" 232) rfl), He.int_ok X G (cd.fact 55 (f := .int "WITHOUT_LINE" 248) rfl), He.int_ok X G (cd.fact 56 (f := .int "MOST_UNITS" 8) rfl), He.int_ok X G (cd.fact 57 (f := .int "MANY_UNITS" 80) rfl), He.free_ok X G (cd.fact 47 (f := .free "enumerate") rfl)⟩
  have mo := c.more
  unfold exB at mo
  simp only [Bool.and_eq_true, decide_eq_true_eq] at mo
  obtain ⟨mk, mm, m1, m2, m3, m4, m5, m6, m7, m8⟩ := mo
  obtain ⟨eC, eF, eT, eK, eS⟩ := excB_ok m3
  unfold kitB at m1
  simp only [Bool.and_eq_true, decide_eq_true_eq] at m1
  obtain ⟨m11, m12, m13⟩ := m1
  unfold kitB at mk
  simp only [Bool.and_eq_true, decide_eq_true_eq] at mk
  obtain ⟨mk1, mk2, mk3⟩ := mk
  unfold mkpB at mm
  simp only [Bool.and_eq_true, decide_eq_true_eq] at mm
  obtain ⟨mm1, mm2, mm3⟩ := mm
  have PM : MkP K (He.ga K "Mark") := ⟨mm1, He.eqO_ok mm2, mm3⟩
  have IK : KnownT K mg (He.ga K "Known") := ⟨⟨He.cls_ok (cd.fact 59 (f := .cls "Known") rfl), He.eqO_ok mk1, eC.hn, eC.ht, mk2⟩, g_Known, of_decide_eq_true (List.all_eq_true.mp mk3 "list" (by decide))⟩
  have cls := He.cls_ok (cd.fact 58 (f := .cls "Code") rfl)
  have I : CodeT K mg (He.ga K "Code") := by
    refine ⟨⟨cls, He.eqO_ok m11, eC.hn, eC.ht, m12⟩, g_Code, fun t ht => of_decide_eq_true (List.all_eq_true.mp m13 t ht), fun f hf => ?_⟩
    simp only [List.mem_cons, List.not_mem_nil, or_false] at hf
    rcases hf with rfl | rfl | rfl | rfl | rfl | rfl | rfl | rfl | rfl | rfl | rfl | rfl | rfl | rfl | rfl | rfl
    · exact He.noat_ok (cd.fact 62 (f := .noat "Code" "argcount") rfl)
    · exact He.noat_ok (cd.fact 63 (f := .noat "Code" "onlycount") rfl)
    · exact He.noat_ok (cd.fact 64 (f := .noat "Code" "stacksize") rfl)
    · exact He.noat_ok (cd.fact 65 (f := .noat "Code" "flags") rfl)
    · exact He.noat_ok (cd.fact 66 (f := .noat "Code" "code") rfl)
    · exact He.noat_ok (cd.fact 67 (f := .noat "Code" "depth") rfl)
    · exact He.noat_ok (cd.fact 68 (f := .noat "Code" "constants") rfl)
    · exact He.noat_ok (cd.fact 69 (f := .noat "Code" "names") rfl)
    · exact He.noat_ok (cd.fact 70 (f := .noat "Code" "slots") rfl)
    · exact He.noat_ok (cd.fact 71 (f := .noat "Code" "kinds") rfl)
    · exact He.noat_ok (cd.fact 72 (f := .noat "Code" "name") rfl)
    · exact He.noat_ok (cd.fact 73 (f := .noat "Code" "path") rfl)
    · exact He.noat_ok (cd.fact 74 (f := .noat "Code" "line") rfl)
    · exact He.noat_ok (cd.fact 75 (f := .noat "Code" "lines") rfl)
    · exact He.noat_ok (cd.fact 76 (f := .noat "Code" "handlers") rfl)
    · exact He.noat_ok (cd.fact 77 (f := .noat "Code" "identity") rfl)
  have NT : NoCodeT K mg (He.ga K "NoCode") (He.ga K "CodeError") := ⟨eC, eF, He.eqO_ok m4, g_CodeError, g_NoCode, He.free_ok X G (cd.fact 48 (f := .free "ValueError") rfl), m5, m6, He.exm_ok (cd.fact 61 (f := .exm "NoCode" "NoCode" true) rfl)⟩
  have ox : OexC K (He.ga K "NoCode") := ⟨oexB_ok m2, eS, eC.hs, eT, eK⟩
  have cal : ∀ {base : Heap} {k : Nat} {x : Str} {ps : List Str} {sp : Sp} {f : Addr} {fd : FuncData}, FnOk Pk w K mg base CX0 k f fd ps sp → mg x = some (.ref f) → PySem.W.keepIn K (.ref f) = true → Binds K fd ps [] → Cal Pk w K mg base k x ps sp := fun F g kp b => ⟨⟨_, _, F, g, kp, b⟩⟩
  obtain ⟨oc, od, dV, kV, doc, pm, an, cdC, ct, osl, rfl, lkC, hcC, _, _⟩ := F_caught.ex
  have law : ∀ base, LawT Pk w K mg base (He.ga K "Code") (He.ga K "NoCode") (He.ga K "CodeError") (He.ga K "NoTable") (He.ga K "NoRows") (He.ga K "NoBytes") (He.ga K "_law_caught") cdC := fun base => by
    have C_source_of := cal (base := base) (ok_source_of T F_source_of) g_source_of F_source_of.kp B_source_of
    have C_next := cal (base := base) (ok_next T F_next) g_next F_next.kp B_next
    have C_one := cal (base := base) (ok_one T F_one C_next) g_one F_one.kp B_one
    have C_pieces := cal (base := base) (ok_pieces T F_pieces) g_pieces F_pieces.kp B_pieces
    have C_marked := cal (base := base) (ok_marked T F_marked) g_marked F_marked.kp B_marked
    have C_entry := cal (base := base) (ok_entry T F_entry C_pieces C_marked) g_entry F_entry.kp B_entry
    have C_drawn_rows := cal (base := base) (ok_drawn_rows T F_drawn_rows C_next C_one) g_drawn_rows F_drawn_rows.kp B_drawn_rows
    have C_cut := cal (base := base) (ok_cut T F_cut C_next C_entry) g_cut F_cut.kp B_cut
    have C_ljoined := cal (base := base) (ok_ljoined T F_ljoined) g_ljoined F_ljoined.kp B_ljoined
    have C_lline_bytes := cal (base := base) (ok_lline_bytes T F_lline_bytes C_ljoined C_entry) g_lline_bytes F_lline_bytes.kp B_lline_bytes
    have C_joined := cal (base := base) (ok_joined T F_joined) g_joined F_joined.kp B_joined
    have C_signed_pieces := cal (base := base) (ok_signed_pieces T F_signed_pieces) g_signed_pieces F_signed_pieces.kp B_signed_pieces
    have C_entries_of := cal (base := base) (ok_entries_of T F_entries_of) g_entries_of F_entries_of.kp B_entries_of
    have C_line_entries := cal (base := base) (ok_line_entries T F_line_entries C_signed_pieces C_entries_of) g_line_entries F_line_entries.kp B_line_entries
    have C_line_bytes := cal (base := base) (ok_line_bytes T F_line_bytes C_joined C_line_entries) g_line_bytes F_line_bytes.kp B_line_bytes
    have C_signed_number := cal (base := base) (ok_signed_number T F_signed_number) g_signed_number F_signed_number.kp B_signed_number
    have C_lines_of_units := cal (base := base) (ok_lines_of_units T I F_lines_of_units C_signed_number) g_lines_of_units F_lines_of_units.kp B_lines_of_units
    have C_number_of := cal (base := base) (ok_number_of T I F_number_of) g_number_of F_number_of.kp B_number_of
    have C_bytes_of := cal (base := base) (ok_bytes_of T I IK F_bytes_of) g_bytes_of F_bytes_of.kp B_bytes_of
    have C_is_string := cal (base := base) (ok_is_string T I F_is_string) g_is_string F_is_string.kp B_is_string
    have C_string_of := cal (base := base) (ok_string_of T I F_string_of C_is_string) g_string_of F_string_of.kp B_string_of
    have C_strings_of := cal (base := base) (ok_strings_of T I F_strings_of C_is_string) g_strings_of F_strings_of.kp B_strings_of
    have C_depth_of := cal (base := base) (ok_depth_of T I F_depth_of) g_depth_of F_depth_of.kp B_depth_of
    have XN : Exn Pk w K mg base "NoCode" (He.ga K "NoCode") "field" := ⟨ox, g_NoCode, _, _, He.eqO_ok m8, m7, ok_NoCode_init ox (He.eqO_ok m4) F_NoCode_init, B_NoCode_init⟩
    have MC : MkCode Pk w K mg base (He.ga K "Code") := ⟨⟨_, _, He.mkr_ok (cd.fact 60 (f := .mkr "Code") rfl), ok_Code_init T I F_Code_init C_number_of C_bytes_of C_string_of C_strings_of C_depth_of PM g_Mark, g_Code, B_Code_init⟩⟩
    have C_made := cal (base := base) (ok_made T F_made MC) g_made F_made.kp B_made
    exact ⟨T, I, NT, g_NoTable, g_NoRows, g_NoBytes, C_source_of, C_next, C_one, C_drawn_rows, C_lline_bytes, C_ljoined, C_line_bytes, C_cut, C_made,
      ⟨⟨_, _, ok_line_rows T I XN F_line_rows C_lines_of_units, g_line_rows, F_line_rows.kp, B_line_rows, kw1 F_line_rows fun _ _ _ _ _ _ _ => rfl⟩⟩, g_caught, F_caught.kp, hcC, _, _, _, _, _, _, _, _, _, lkC, B_caught⟩
  have bl := fun s v => F_law.bindsA (ps := ["_law_script"]) (fun _ _ _ _ _ _ us hl => match us, hl with | [_], _ => rfl) s [v] rfl
  obtain ⟨oc2, od2, dV2, kV2, doc2, pm2, an2, cdL, ct2, osl2, rfl, lkL, hcL, _, _⟩ := F_law.ex
  obtain ⟨co, rfl⟩ := He.codeIn_ref hcL
  have eco : He.codeOf K ("law", none) = co := He.codeOf_eq (p := ("law", none)) lkL rfl
  have eT2 : He.cT K ("law", none) = (co, He.tabOf K co) := by unfold He.cT; rw [eco]
  have hd := c.hd ("law", none) (List.mem_singleton.mpr rfl)
  have ou := c.out ("law", none) (List.mem_singleton.mpr rfl)
  have em := c.empty ("law", none) (List.mem_singleton.mpr rfl)
  rw [eT2] at hd ou em
  have efa : fa = He.ga K "law" := by
    have := hmg.symm.trans g_law
    cases this
    rfl
  subst efa
  refine ⟨K, [(co, He.tabOf K co)], X, fun p hp => ?_, fun p hp => ?_, fun p hp => ?_, fun s a ns hn => law_runs law lkL hcL bl hn⟩
  · rw [List.mem_singleton.mp hp]
    exact em
  · rw [List.mem_singleton.mp hp]
    exact ou
  · rw [List.mem_singleton.mp hp]
    exact PySem.W.codeHd_of_K X hd
end C48
open PySem PySem.W PySem.Calls PyProof.Rows
theorem PySem.Challenge.cw_codewalk_k48_tables_of_lines_both_ways_holds : PySem.Challenge.rw_codewalk_k48_tables_of_lines_both_ways.Holds := by
  w_on; o_law
  refine HandSHeadRun.head_any (r := OpenLaw.row PySem.Challenge.rw_codewalk_k48_tables_of_lines_both_ways) (q := view (OpenLaw.row PySem.Challenge.rw_codewalk_k48_tables_of_lines_both_ways).prog [51]) (H := C48.hkk) (ob := C48.obk) (M := 6000) (loose := C48.loose) (d := HandSHeadRun.topDef (OpenLaw.row PySem.Challenge.rw_codewalk_k48_tables_of_lines_both_ways).prog 51) (kwd := []) C48.obk_eq
    (by kernel_rfl) (fun s => by kernel_rfl) C48.runk (by kernel_rfl) (by kernel_rfl) (by kernel_rfl) (by rfl) (by first | assumption | decide +kernel) (by decide +kernel) ⟨rfl, rfl, rfl, rfl, rfl, by decide +kernel⟩ ?hw ?hc
  case hw => w_witness2
  case hc =>
    refine C48.walk_run (l := PySem.Challenge.rw_codewalk_k48_tables_of_lines_both_ways) (n := 63) rfl (by decide) (by kernel_rfl) ?_
    intro w mg fa h Y G hmg0
    have hmg : mg ("law" : PySem.Str) = some (.ref fa) := by
      have e : (HandSHeadRun.topDef (OpenLaw.row PySem.Challenge.rw_codewalk_k48_tables_of_lines_both_ways).prog 51).name = ("law" : PySem.Str) := by kernel_rfl
      rw [← e]
      exact hmg0
    obtain ⟨K, cs, h1, h2, h3, h4, h5⟩ := C48.k48_at Y G hmg
    exact ⟨K, cs, h1, h2, h3, h4, fun s a ns hl _ => h5 s a ns (Nat.le_trans hl (by decide))⟩
