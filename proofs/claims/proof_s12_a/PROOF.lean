import PyProof.Rows.All
import Wide.All
import OpenK.AllK
import Wide.FinOn
import PyProof.EqAt
import PyProof.EqKinds
import PyProof.TupleCall
import Open.SpecLaws
import KE.OsGo
import HandS.ForSpec
import HandS.TryMany
import HandS.Conv
import HandS.SetFor
import HandS.Comp
import HandS.Iter
import HandS.Text
import HandS.Small
import HandS.ExcSuper
import HandS.ExcInit
import HandS.Steps
import HandS.ExcField
import HandS.Flow
import HandS.Rev
import HandS.Dict
import HandS.SortKw
import PySem.Challenge.RW_macromarkup_s12_roman
set_option Elab.async false
set_option linter.all false
set_option maxRecDepth 100000
set_option maxHeartbeats 4000000
/-! ## Words of this text's own over the layer: an own exception over Exception, with fields; defs, methods, classes as one fact each; a while -/
namespace MM
open PySem PySem.Spec PyProof.Rows L2
section
variable {X : Cx}
/-! ### raise C(), C over Exception without an own __init__ -/
theorem pmk_bare {C : Addr} {bmB : List Value} {B newId initId : String} {x : Str} {p pos : Pos} (F : ExcBaseFacts B newId initId bmB) (q : PySem.W.excIn X.K C bmB newId = true) (gC : X.mg x = some (.ref C))
    (kC : PySem.W.keepIn X.K (.ref C) = true) (r : Raises X (.ref C)) (hg : Gl X x) (hdb : (x == ("__debug__" : Str)) = false := by decide) : PMk X (.Call (.Name x p) [] [] pos) (fun _ H Q => Q (.ref C) none H) := by
  intro pins s σ H Q I h
  refine wpAny_Call_Name_kw (ld_glob I hg gC ?_ hdb)
  refine PySem.W.callWith_K0 I.kIn kC ?_
  obtain ⟨bm, N, nm, qn, bs, hdct, sn, sub, ab, col, dd, k0, k1, k2, k3, k5, mN, hC, hN, hni, T⟩ := exc_obj I.kIn q
  refine wpAny_call_exc_subT F T hC hN hni (fun h' e hm => ?_) (Nat.zero_le _)
  exact mk_of I hm r h (I.hok.gone hm.new)
end
/-! ### an exception over Exception whose own __init__ stores fields -/
abbrev exT : List Value := [.type "Exception", .type "BaseException", .type "object"]
structure ErrC (K : PySem.W.Frag) (C : Addr) : Prop where
  cls : ∃ nm q N bs sn sub ab col dd k0 k1 k2 k3 k5, K.lookup C = some (excClassObj nm q C N bs exT true sn sub ab col dd k0 k1 k2 k3 k5 "Exception.__new__")
  sa : PySem.W.findIn K (.ref C) "__setattr__" = some (some (.builtin "object.__setattr__"))
  sub : PySem.W.subIn K (.ref C) (.type "BaseException") = some true
  ty : PySem.W.typeIn K (.ref C) = some (.type "type")
  kp : PySem.W.keepIn K (.ref C) = true
theorem exT_has (Y : String) : exT.contains (.type Y) = ESX.exTail.contains (.type Y) := rfl
section
variable {X : Cx} {pins : List (Addr × Obj)} {σ : L2.St} {H : Hp} {s : Shared} {a C dx : Addr} {f : Str} {y : V} {u : Value} {fs : List (Str × V)} {Q : Unit → Shared → Prop} {E : Value → Shared → Prop} {A : Around}
theorem put_new (T : ErrC X.K C) (I : Inv X pins σ H s) (e : H a = some (exo a C none)) (hno : PySem.W.findIn X.K (.ref C) f = some none) (ry : RelV y u)
    (h : ∀ dx s', H dx = none → dx ≠ a → Inv X pins σ (upd (upd H dx (exd dx [(f, y)])) a (exo a C (some dx))) s' → Q () s') : wpAny (model X.prog X.w) A (setAttr (.ref a) f u) Q E s := by
  obtain ⟨nm, q, N, bs, sn, sub, ab, col, dd, k0, k1, k2, k3, k5, hC⟩ := T.cls
  have hcl : PySem.W.clsIn X.K C = some ⟨nm, bs, .ref C :: exT, N, q, true, sn, sub, ab, col, false⟩ := by
    unfold PySem.W.clsIn
    rw [hC] <;> rfl
  obtain ⟨t1, ho⟩ := exo_at I.hok e
  obtain ⟨hp, g, d, t, os⟩ := s
  refine PySem.W.set_plain I.kIn (ox := ⟨.ref C, none, .fields #[.ref t1, .none, .none, .none, .bool false, .none], #[]⟩) (od := none) ⟨ho, rfl, rfl, trivial⟩ T.sa ?_
  refine ESX.osa_new I.kIn ho hcl rfl rfl hno fun h' tk' dx k dn dne hx hn => ?_
  have hnd : H dx = none := I.hok.fresh dn
  have nd : ∀ {b : Addr} {o : Obj}, hp.get? b = some o → b ≠ dx := fun q => Nat.ne_of_lt (Nat.lt_of_lt_of_le (Heap.lt_size q) dn)
  have na : ∀ {b : Addr}, H b = none → b ≠ a := fun n z => by
    rw [z, e] at n
    cases n
  have U : Un X.fs [] H (upd (upd H dx (exd dx [(f, y)])) a (exo a C (some dx))) hp h' := by
    refine ⟨fun b o q n _ _ => k b o (na n) q, fun b o q n _ _ => ⟨o.slots, k b o (na n) q⟩, fun b o q n _ => ?_, fun b o q _ => ?_, fun b xs q => ?_, fun b o v q => ?_, fun b ps q => ⟨#[], ?_⟩⟩
    · rw [upd_ne (na n), upd_ne (nd q)]
      exact n
    · by_cases hb : b = a
      · exact ⟨_, by rw [hb]; exact hx⟩
      · exact ⟨o, k b o hb q⟩
    · rw [upd_ne (at_ne e q exo_tup), upd_ne (ne_of_none q hnd)]
      exact q
    · rw [upd_ne (at_ne e q exo_frz), upd_ne (ne_of_none q hnd)]
      exact q
    · rw [upd_ne (at_ne e q exo_tbl), upd_ne (ne_of_none q hnd), q]
      simp
  refine h dx _ hnd dne (I.un (t' := tk') U fun b o q => ?_)
  by_cases hb : b = a
  · subst hb
    rw [upd_same] at q
    cases q
    exact exo_ok hx
  rw [upd_ne hb] at q
  by_cases hd : b = dx
  · subst hd
    rw [upd_same] at q
    cases q
    exact exd_ok hn (relO_put (fs := []) ry fun g => True.intro)
  rw [upd_ne hd] at q
  refine (I.hok b o q).stay (fun c v hc z => k c v ?_ z) (fun c hc => ?_) fun c xs hc => ?_
  · rcases hc with hc | hc
    · rw [hc]
      exact hb
    · exact at_ne e hc exo_own
  · rw [upd_ne (at_ne e hc exo_own), upd_ne (ne_of_none hc hnd)]
    exact hc
  · rw [upd_ne (at_ne e hc exo_tup), upd_ne (ne_of_none hc hnd)]
    exact hc
theorem put_old (T : ErrC X.K C) (I : Inv X pins σ H s) (e : H a = some (exo a C (some dx))) (ed : H dx = some (exd dx fs)) (hl : fs.length ≤ 900) (hno : PySem.W.findIn X.K (.ref C) f = some none) (ry : RelV y u)
    (h : ∀ s', Inv X pins σ (upd H dx (exd dx ((f, y) :: fs))) s' → Q () s') : wpAny (model X.prog X.w) A (setAttr (.ref a) f u) Q E s := by
  obtain ⟨nm, q, N, bs, sn, sub, ab, col, dd, k0, k1, k2, k3, k5, hC⟩ := T.cls
  have hcl : PySem.W.clsIn X.K C = some ⟨nm, bs, .ref C :: exT, N, q, true, sn, sub, ab, col, false⟩ := by
    unfold PySem.W.clsIn
    rw [hC] <;> rfl
  obtain ⟨t1, ho⟩ := exo_at I.hok e
  obtain ⟨mA, hns, rel⟩ := exd_at I.hok ed
  have hw := within_of rel
  obtain ⟨hp, g, d, t, os⟩ := s
  obtain ⟨oD, _, _, hoD, _, _⟩ := hns.count hw
  refine PySem.W.set_plain I.kIn (ox := ⟨.ref C, some dx, .fields #[.ref t1, .none, .none, .none, .bool false, .none], #[]⟩) (od := some oD) ⟨ho, rfl, rfl, hoD⟩ T.sa ?_
  refine ESX.osa_old I.kIn ho hns hw (by rw [List.length_map]; omega) hcl rfl rfl hno fun h' tk' k hn => ?_
  have hd : ∃ o, h'.get? dx = some o := by
    obtain ⟨o, _, _, e', _⟩ := hn
    exact ⟨o, e'⟩
  exact h _ (I.write (t' := tk') (x := dx) (e := dx) (o := exd dx ((f, y) :: fs)) (by rw [ed]; exact True.intro) (.inl rfl) k hd (exd_ok hn (relO_put ry rel)))
end
/-- self.f = e within such an __init__ -/
def tPutF (K : PySem.W.Frag) (f : Str) (to te : TE) : TS := fun D σ H => te σ H fun y H1 => to σ H1 fun x H2 => ∃ a C : Addr, x = .ref a ∧ ErrC K C ∧ PySem.W.findIn K (.ref C) f = some none ∧
  ((H2 a = some (exo a C none) ∧ ∀ dx, H2 dx = none → dx ≠ a → D.nx σ (upd (upd H2 dx (exd dx [(f, y)])) a (exo a C (some dx)))) ∨
    ∃ (dx : Addr) (fs : List (Str × V)), H2 a = some (exo a C (some dx)) ∧ H2 dx = some (exd dx fs) ∧ fs.length ≤ 900 ∧ D.nx σ (upd H2 dx (exd dx ((f, y) :: fs))))
section
variable {X : Cx} {o e : Expr} {es : List Expr} {to te : TE} {ta : TA} {f : Str} {p p' pos : Pos}
theorem ps_putF (ho : PE X o to) (he : PE X e te) (hs : swapsWith e (some (.Attribute o f p')) pos.line X.env = pure false := by rfl) : PS X (.Assign [.Attribute o f p'] e pos) (tPutF X.K f to te) := by
  refine ⟨fun pins s σ H D I h => ?_⟩
  refine plainObj_wpAny_Assign_Attribute (thn (he.run pins s σ H _ I h) fun v s1 hh => ?_) hs
  obtain ⟨y, H1, I1, r1, q1⟩ := hh
  refine thn (ho.run pins s1 σ H1 _ I1 q1) fun u s2 hh => ?_
  obtain ⟨x, H2, I2, r2, a, C, ex, T, hno, q⟩ := hh
  subst ex
  obtain rfl : u = Value.ref a := r2
  rcases q with ⟨ea, q⟩ | ⟨dx, fs, ea, ed, hl, q⟩
  · exact put_new T I2 ea hno r1 fun dx s' n ne J => ⟨σ, _, J, q dx n ne⟩
  · exact put_old T I2 ea ed hl hno r1 fun s' J => ⟨σ, _, J, q⟩
/-- C(e, ..) -/
theorem pmk_err {CX : CXT} {x : Str} {C fI : Addr} {k : Nat} {fd : FuncData} {ps : List Str} {sp : Sp} {ds : List Value} {dvs : List V} (T : ErrC X.K C) (iC : PySem.W.findIn X.K (.ref C) "__init__" = some (some (.ref fI))) (tI : PySem.W.typeIn X.K (.ref fI) = some (.type "function"))
    (F1 : FnOk X.prog X.w X.K X.mg X.base CX k fI fd ps sp) (hr : Room (k + 1) X.A) (hb : Binds X.K fd ps ds) (hd : Vals dvs ds) (hx : Passes CX X (fun _ _ _ => False)) (hg : Gl X x) (hm : X.mg x = some (.ref C)) (ha : PA X (e :: es) ta)
    (hdb : (x == ("__debug__" : Str)) = false := by decide) (he : starEach (e :: es) X.env = (false, eval e X.env) :: starEach es X.env := by rfl) (hpl : (backTo pos (starEach es X.env)).any (·.1) = false := by rfl) :
    PMk X (.Call (.Name x p) (e :: es) [] pos) (tMkO C sp dvs ta) := by
  intro pins s σ H Q I h
  obtain ⟨nm, q, N, bs, sn, sub, ab, col, dd, k0, k1, k2, k3, k5, hC⟩ := T.cls
  refine wpAny_Call_Name_kw (ld_glob I hg hm ?_ hdb)
  refine PySem.W.callWith_K (h₀ := X.base) I.ok.mod.kin T.kp (thn (ha.run pos pins s σ H _ I h) fun us s1 hh => ?_) he hpl
  obtain ⟨vs, H1, I1, r1, hz, q1⟩ := hh
  refine ⟨I1.kIn, ?_⟩
  show wpAny _ _ (call (.ref C) us) _ _ _
  obtain ⟨hp, g, dr, tk, os⟩ := s1
  have hsz : hp.objs.size ≤ hp.objs.size + 1 := Nat.le_succ _
  have hn : H1 (hp.objs.size + 1) = none := I1.hok.fresh hsz
  have hq := q1 (hp.objs.size + 1) hn
  have kk : ∀ b o, hp.get? b = some o → ((hp.push (PySem.W.kdv_tup us)).push (HandSPX.excO C hp.objs.size)).get? b = some o := fun b o e => Heap.get?_push_of_some _ (Heap.get?_push_of_some _ e)
  have hget : ((hp.push (PySem.W.kdv_tup us)).push (HandSPX.excO C hp.objs.size)).get? (hp.objs.size + 1) = some (HandSPX.excO C hp.objs.size) := by heap_get
  have I2 := I1.laid (t' := tk) (a := hp.objs.size + 1) (o := exo (hp.objs.size + 1) C none) kk hsz (exo_ok hget)
  have r2 : Vals (V.ref (hp.objs.size + 1) :: (vs ++ dvs)) (Value.ref (hp.objs.size + 1) :: (us ++ ds)) := .cons rfl (r1.append hd)
  have hl : (Value.ref (hp.objs.size + 1) :: us ++ ds).length = ps.length := by
    have e := r2.length
    rw [F1.len _ _ _ _ hq] at e
    exact e.symm
  have hus : us.length ≤ sizeLine := by
    rw [← Paired.length r1, sizeLine_eq]
    omega
  refine wpAny_call (HandSPX.call_own F.excBase_Exception (fun Y => rfl) (I1.kIn _ _ hC) (PySem.W.looks_findIn I1.kIn iC) (fun self => PySem.W.bind_fn I1.kIn self tI) hus ?_)
  refine codeAny_mono (F1.run _ X.stack _ _ ⟨Value.ref (hp.objs.size + 1) :: us, []⟩ (Value.ref (hp.objs.size + 1) :: (us ++ ds)) _ _ (fun _ _ _ => False) (hr.make C us []) (I2.env0.make C us []) (hb _ (Value.ref (hp.objs.size + 1) :: us) I2.kIn hl) r2 hq) fun r s' hq' => ?_
  cases r with
  | error er => exact hx pins σ _ _ er s' I2 hq'
  | ok fl =>
    cases fl with
    | ret u =>
      obtain ⟨v, H2, os2, bare2, un2, hok2, rv, ev, d, fs, ea, ed, hd1, q2⟩ := hq'
      subst ev
      obtain ⟨h2, g2, d2, t2, os'⟩ := s'
      exact ⟨rv, mk_end (raises_own T.sub T.ty) I1 hsz kk un2 hok2 os2 bare2 ea ed hd1 q2⟩
    | next => exact False.elim hq'
    | brk => exact False.elim hq'
    | cont => exact False.elim hq'
end

/-! ### a def, a method, a class that is made, an exception that is made: one fact each, its address hidden -/
section
structure Dn (P : Program) (w : World) (K : PySem.W.Frag) (mg : Str → Option Value) (base : Heap) (CX : CXT) (k : Nat) (x : Str) (ps : List Str) (sp : Sp) : Prop where
  fn : ∃ f fd, FnOk P w K mg base CX k f fd ps sp ∧ Binds K fd ps [] ∧ mg x = some (.ref f) ∧ PySem.W.keepIn K (.ref f) = true
structure Dm (P : Program) (w : World) (K : PySem.W.Frag) (mg : Str → Option Value) (base : Heap) (CX : CXT) (k : Nat) (C : Addr) (m : Str) (ps : List Str) (sp : Sp) : Prop where
  fn : ∃ f fd, FnOk P w K mg base CX k f fd ps sp ∧ Binds K fd ps [] ∧ Meth K C m f
structure Dk (P : Program) (w : World) (K : PySem.W.Frag) (mg : Str → Option Value) (base : Heap) (CX : CXT) (k : Nat) (x : Str) (C : Addr) (ps : List Str) (sp : Sp) : Prop where
  fn : ∃ f fd, FnOk P w K mg base CX k f fd ps sp ∧ Binds K fd ps [] ∧ Mk K C f ∧ mg x = some (.ref C)
structure Dr (P : Program) (w : World) (K : PySem.W.Frag) (mg : Str → Option Value) (base : Heap) (CX : CXT) (k : Nat) (x : Str) (C : Addr) (ps : List Str) (sp : Sp) : Prop where
  fn : ∃ f fd, FnOk P w K mg base CX k f fd ps sp ∧ Binds K fd ps [] ∧ PySem.W.findIn K (.ref C) "__init__" = some (some (.ref f)) ∧ PySem.W.typeIn K (.ref f) = some (.type "function") ∧ mg x = some (.ref C)
/-- what the top has written of each: its place, how it binds -/
def DefT (K : PySem.W.Frag) (mg : Str → Option Value) (x : Str) (st : Stmt) (ps : List Str) : Prop := ∃ f fd, Fun K x x st f fd ∧ Binds K fd ps [] ∧ mg x = some (.ref f)
def MetT (K : PySem.W.Frag) (C : Addr) (m qual : Str) (st : Stmt) (ps : List Str) : Prop := ∃ f fd, Fun K m qual st f fd ∧ Binds K fd ps [] ∧ Meth K C m f
def InitT (K : PySem.W.Frag) (mg : Str → Option Value) (x : Str) (C : Addr) (qual : Str) (st : Stmt) (ps : List Str) : Prop := ∃ f fd, Fun K "__init__" qual st f fd ∧ Binds K fd ps [] ∧ Mk K C f ∧ mg x = some (.ref C)
def XInitT (K : PySem.W.Frag) (mg : Str → Option Value) (x : Str) (C : Addr) (qual : Str) (st : Stmt) (ps : List Str) : Prop :=
  ∃ f fd, Fun K "__init__" qual st f fd ∧ Binds K fd ps [] ∧ PySem.W.findIn K (.ref C) "__init__" = some (some (.ref f)) ∧ PySem.W.typeIn K (.ref f) = some (.type "function") ∧ mg x = some (.ref C)
section
variable {P : Program} {w : World} {K : PySem.W.Frag} {mg : Str → Option Value} {base : Heap} {CX : CXT} {k : Nat} {x m qual : Str} {C : Addr} {st : Stmt} {ps : List Str} {sp : Sp}
theorem DefT.mk (d : DefT K mg x st ps) (h : ∀ f fd, Fun K x x st f fd → FnOk P w K mg base CX k f fd ps sp) : Dn P w K mg base CX k x ps sp := by
  obtain ⟨f, fd, F, B, g⟩ := d
  exact ⟨f, fd, h f fd F, B, g, F.kp⟩
theorem MetT.mk (d : MetT K C m qual st ps) (h : ∀ f fd, Fun K m qual st f fd → FnOk P w K mg base CX k f fd ps sp) : Dm P w K mg base CX k C m ps sp := by
  obtain ⟨f, fd, F, B, g⟩ := d
  exact ⟨f, fd, h f fd F, B, g⟩
theorem InitT.mk (d : InitT K mg x C qual st ps) (h : ∀ f fd, Fun K "__init__" qual st f fd → FnOk P w K mg base CX k f fd ps sp) : Dk P w K mg base CX k x C ps sp := by
  obtain ⟨f, fd, F, B, g⟩ := d
  exact ⟨f, fd, h f fd F, B, g⟩
theorem XInitT.mk (d : XInitT K mg x C qual st ps) (h : ∀ f fd, Fun K "__init__" qual st f fd → FnOk P w K mg base CX k f fd ps sp) : Dr P w K mg base CX k x C ps sp := by
  obtain ⟨f, fd, F, B, g⟩ := d
  exact ⟨f, fd, h f fd F, B, g⟩
end
def Gv (mg : Str → Option Value) (x : Str) (v : V) : Prop := ∃ u, mg x = some u ∧ RelV v u
variable {X : Cx} {j k : Nat} {x m : Str} {C : Addr} {ps : List Str} {sp : Sp} {e o : Expr} {es : List Expr} {p pos apos : Pos} {t : TA} {ta : TE} {E : XK} {v : V}
theorem pe_gv (h : Gv X.mg x v) (hg : Gl X x := by rfl) (hd : (x == ("__debug__" : Str)) = false := by decide) : PE X (.Name x pos) (tC v) := by
  obtain ⟨u, hu, r⟩ := h
  exact pe_glob hg hu r hd
/-- a call that lets nothing out -/
theorem pe_dn (D : Dn X.prog X.w X.K X.mg X.base CX0 k x ps sp) (hr : Room j X.A) (hk : k ≤ j) (ha : PA X (e :: es) t) (hg : Gl X x := by rfl) (hdb : (x == ("__debug__" : Str)) = false := by decide)
    (he : starEach (e :: es) X.env = (false, eval e X.env) :: starEach es X.env := by rfl) (hpl : (backTo pos (starEach es X.env)).any (·.1) = false := by rfl) : PE X (.Call (.Name x p) (e :: es) [] pos) (tCall sp [] E0 t) := by
  obtain ⟨f, fd, F, B, g, kp⟩ := D.fn
  exact pe_call F (hr.mono hk) hg g kp B .nil pass0 ha hdb he hpl
theorem pe_dn0 (D : Dn X.prog X.w X.K X.mg X.base CX0 k x ps sp) (hr : Room j X.A) (hk : k ≤ j) (hg : Gl X x := by rfl) (hdb : (x == ("__debug__" : Str)) = false := by decide) : PE X (.Call (.Name x p) [] [] pos) (tCall sp [] E0 tNil) := by
  obtain ⟨f, fd, F, B, g, kp⟩ := D.fn
  exact pe_call0 F (hr.mono hk) hg g kp B .nil pass0 hdb
/-- a call within a def that what is raised leaves -/
theorem pe_dx (D : Dn X.prog X.w X.K X.mg X.base (L2.CX X.prog X.w) k x ps sp) (hr : Room j X.A) (hk : k ≤ j) (tk : Takes X (fun cls d _ H => E cls d H)) (ha : PA X (e :: es) t) (hg : Gl X x := by rfl) (hdb : (x == ("__debug__" : Str)) = false := by decide)
    (he : starEach (e :: es) X.env = (false, eval e X.env) :: starEach es X.env := by rfl) (hpl : (backTo pos (starEach es X.env)).any (·.1) = false := by rfl) : PE X (.Call (.Name x p) (e :: es) [] pos) (tCall sp [] E t) := by
  obtain ⟨f, fd, F, B, g, kp⟩ := D.fn
  exact pe_call F (hr.mono hk) hg g kp B .nil (passes_call tk fun _ _ _ _ h => h) ha hdb he hpl
/-- a call within a try's body -/
theorem pe_ds {W : WX} (D : Dn X.prog X.w X.K X.mg X.base (L2.CX X.prog X.w) k x ps sp) (hr : Room j X.A) (hk : k ≤ j) (tk : Takes X W) (ha : PA X (e :: es) t) (hg : Gl X x := by rfl) (hdb : (x == ("__debug__" : Str)) = false := by decide)
    (he : starEach (e :: es) X.env = (false, eval e X.env) :: starEach es X.env := by rfl) (hpl : (backTo pos (starEach es X.env)).any (·.1) = false := by rfl) : PE X (.Call (.Name x p) (e :: es) [] pos) (tCallS sp (WE W) t) := by
  obtain ⟨f, fd, F, B, g, kp⟩ := D.fn
  exact pe_callS F (hr.mono hk) hg g kp B (fun σ => passAt tk σ) ha hdb he hpl
theorem pe_dm {pl : Sem Bool} (D : Dm X.prog X.w X.K X.mg X.base CX0 k C m ps sp) (c : Cls X.K C) (hr : Room j X.A) (hk : k ≤ j) (he : PE X o ta) (ha : PA X (e :: es) t)
    (hst : starEach (e :: es) X.env = (false, eval e X.env) :: starEach es X.env := by rfl) (hpl : (backTo pos (starEach es X.env)).any (·.1) = false := by rfl)
    (ht : eval (.Call (.Attribute o m apos) (e :: es) [] pos) X.env = (do
      let ov ← eval o X.env
      standAt apos.atName
      let (f, first) ← holding [ov] (getMethod ov m pl)
      callWith pos f first (backTo pos (starEach (e :: es) X.env)) (backToKw pos (keywordEach [] X.env))) := by rfl) : PE X (.Call (.Attribute o m apos) (e :: es) [] pos) (tMeth C m sp [] E0 ta t) := by
  obtain ⟨f, fd, F, B, M⟩ := D.fn
  exact pe_meth he c M F (hr.mono hk) B .nil pass0 ha hst hpl ht
theorem pe_dk (D : Dk X.prog X.w X.K X.mg X.base CX0 k x C ps sp) (hr : Room j X.A) (hk : k + 1 ≤ j) (ha : PA X (e :: es) t) (hg : Gl X x := by rfl) (hdb : (x == ("__debug__" : Str)) = false := by decide)
    (he : starEach (e :: es) X.env = (false, eval e X.env) :: starEach es X.env := by rfl) (hpl : (backTo pos (starEach es X.env)).any (·.1) = false := by rfl) : PE X (.Call (.Name x p) (e :: es) [] pos) (tMake C sp [] E0 t) := by
  obtain ⟨f, fd, F, B, M, g⟩ := D.fn
  exact pe_make M F (hr.mono hk) hg g B .nil pass0 ha hdb he hpl
/-- an own exception with fields is made -/
theorem pmk_dr (T : ErrC X.K C) (D : Dr X.prog X.w X.K X.mg X.base CX0 k x C ps sp) (hr : Room j X.A) (hk : k + 1 ≤ j) {taa : TA} (ha : PA X (e :: es) taa) (hg : Gl X x := by rfl) (hdb : (x == ("__debug__" : Str)) = false := by decide)
    (he : starEach (e :: es) X.env = (false, eval e X.env) :: starEach es X.env := by rfl) (hpl : (backTo pos (starEach es X.env)).any (·.1) = false := by rfl) :
    PMk X (.Call (.Name x p) (e :: es) [] pos) (tMkO C sp [] taa) := by
  obtain ⟨f, fd, F, B, iC, tI, g⟩ := D.fn
  exact pmk_err T iC tI F (hr.mono hk) B .nil pass0 hg g ha hdb he hpl
/-- raise C(), raise C(e, ..) -/
def tRaiseB (C : Addr) (E : XK) : TS := fun _ _ H => E (.ref C) none H
def tRaiseO (C : Addr) (sp : Sp) (E : XK) (ta : TA) : TS := fun _ σ H => tMkO C sp [] ta σ H fun cls d H' => E cls d H'
/-- try .. except .. except ..: the wishes of the clauses; nothing else is let out -/
def tTry (K : PySem.W.Frag) (tb : WX → TS) (l : List (Value × (Addr → Value → Option Addr → TS))) : TS := fun D σ H => tb (wMany K (fun _ _ _ _ => False) D l) D σ H
/-- a while: W m holds at its start for some m; a turn that goes on leads to W of a smaller one -/
theorem wh {c : TT} {tb : TS} {D : Ends} {σ : L2.St} {H : Hp} (W : Nat → L2.St → Hp → Prop) (m : Nat) (h0 : W m σ H)
    (hs : ∀ m σ H, W m σ H → c σ H fun b H1 => if b = true then ∃ N : L2.St → Hp → Prop, (∀ σ' H', N σ' H' → ∃ m', m' < m ∧ W m' σ' H') ∧ tb { D with nx := N, ct := N, bk := D.nx } σ H1 else D.nx σ H1) : tWhile c tb D σ H := ⟨W, ⟨m, h0⟩, hs⟩
/-! ### names for the readings of built-ins -/
def rLen (K : PySem.W.Frag) : List V → Hp → VK → Prop := fun xs H Q => ∃ p ys, xs = [.ref p] ∧ (SqL K H p ys ∨ SqT K H p ys) ∧ Q (.int ys.length) H
def rOrd : List V → Hp → VK → Prop := fun xs H Q => ∃ x, xs = [.str x] ∧ x.length = 1 ∧ Q (.int (x.cps.getD 0 0 : Nat)) H
def rMin2 : List V → Hp → VK → Prop := fun xs H Q => ∃ i j, xs = [.int i, .int j] ∧ Q (.int (if j < i then j else i)) H
def rMax2 : List V → Hp → VK → Prop := fun xs H Q => ∃ i j, xs = [.int i, .int j] ∧ Q (.int (if j > i then j else i)) H
def rTupleOf (K : PySem.W.Frag) : List V → Hp → VK → Prop := fun xs H Q => ∃ p ys, xs = [.ref p] ∧ ((SqL K H p ys ∧ ∀ l, H l = none → Q (.ref l) (upd H l (.tup ys))) ∨ (SqT K H p ys ∧ Q (.ref p) H))
def rAddStr : R2 := fun x y H Q => ∃ i j, x = .str i ∧ y = .str j ∧ i.length + j.length ≤ sizeLine ∧ Q (.str (i ++ j)) H
end
end MM
namespace MM
open PySem PySem.Spec PyProof.Rows L2
def tJoin (K : PySem.W.Frag) (to te : TE) : TE := tM1 (fun x xs H Q => ∃ a p, ∃ ys : List Str, x = .str a ∧ xs = [.ref p] ∧ (SqL K H p (ys.map V.str) ∨ SqT K H p (ys.map V.str)) ∧ (ys.map (·.length)).sum + ys.length * a.length ≤ 16777216 ∧ Q (.str (Txt.join a ys)) H) to te
end MM

set_option Elab.async false
set_option linter.all false
set_option maxRecDepth 100000
set_option maxHeartbeats 4000000
/-! ## Readings step by step, over natural numbers -/
namespace MM
open PySem PySem.Spec PyProof.Rows L2
abbrev vI (l : List Nat) : List V := l.map fun c => V.int (c : Nat)
abbrev sT (l : List Nat) : Str := ⟨l.toArray⟩
def But (L : List Addr) (H H' : Hp) : Prop := ∀ b o, H b = some o → b ∉ L → H' b = some o
section
variable {K : PySem.W.Frag} {σ : L2.St} {H H' : Hp} {v w x y z : V} {te ta tb tc : TE} {c t u : TT} {b b1 b2 : Bool} {i j k' : Int} {a C dx p : Addr} {n m k : Nat} {f : Str} {E : XK} {sp : Sp} {D : Ends} {t1 t2 ts : TS}
theorem _root_.L2.Val.of (h : Val te σ H v) (e : v = w) : Val te σ H w := e ▸ h
theorem val_i0 {g : Int → Int → V} (ha : Val ta σ H (.int i)) (hb : Val tb σ H (.int j)) : Val (tOp (rI0 g) ta tb) σ H (g i j) := val_op ha hb fun Q q => ⟨i, j, rfl, rfl, q⟩
theorem val_addN (ha : Val ta σ H (.int (n : Nat))) (hb : Val tb σ H (.int (m : Nat))) : Val (tOp (rI0 fun i j => .int (i + j)) ta tb) σ H (.int (n + m : Nat)) := val_i0 ha hb
theorem val_subN (ha : Val ta σ H (.int (n : Nat))) (hb : Val tb σ H (.int (m : Nat))) (h : m ≤ n) : Val (tOp (rI0 fun i j => .int (i - j)) ta tb) σ H (.int (n - m : Nat)) :=
  (val_i0 (g := fun i j => .int (i - j)) ha hb).of (congrArg V.int (by omega))
theorem val_mulN (ha : Val ta σ H (.int (n : Nat))) (hb : Val tb σ H (.int (m : Nat))) (h : m < 2 ^ 64) : Val (tOp (rI CMul fun i j => .int (i * j)) ta tb) σ H (.int (n * m : Nat)) :=
  val_op ha hb fun Q q => ⟨_, _, rfl, rfl, .inr ⟨by omega, by omega⟩, by show Q (V.int ((n : Int) * (m : Int))) H; rw [← Int.natCast_mul]; exact q⟩
theorem val_fdivN (ha : Val ta σ H (.int (n : Nat))) (hb : Val tb σ H (.int (m : Nat))) (h0 : 0 < m) (h : m < 1073741824) : Val (tOp (rI CDiv fun i j => .int (i / j)) ta tb) σ H (.int (n / m : Nat)) :=
  val_op ha hb fun Q q => ⟨_, _, rfl, rfl, ⟨by omega, by omega⟩, by show Q (V.int ((n : Int) / (m : Int))) H; rw [← Int.natCast_ediv]; exact q⟩
theorem val_modN (ha : Val ta σ H (.int (n : Nat))) (hb : Val tb σ H (.int (m : Nat))) (h0 : 0 < m) : Val (tOp (rI (fun _ j => 0 < j) fun i j => .int (i % j)) ta tb) σ H (.int (n % m : Nat)) :=
  val_op ha hb fun Q q => ⟨_, _, rfl, rfl, (by omega : (0 : Int) < m), by show Q (V.int ((n : Int) % (m : Int))) H; rw [← Int.natCast_emod]; exact q⟩
theorem ans_i0 {g : Int → Int → Bool} (ha : Val ta σ H (.int i)) (hb : Val tb σ H (.int j)) : Ans (tTest (tOp (rI0 fun i j => .bl (g i j)) ta tb)) σ H (g i j) := ans_cmp ha hb fun Q q => ⟨i, j, rfl, rfl, q⟩
theorem ans_ltN (ha : Val ta σ H (.int (n : Nat))) (hb : Val tb σ H (.int (m : Nat))) : Ans (tTest (tOp (rI0 fun i j => .bl (decide (i < j))) ta tb)) σ H (decide (n < m)) := (ans_i0 (g := fun i j => decide (i < j)) ha hb).to (by simp)
theorem ans_leN (ha : Val ta σ H (.int (n : Nat))) (hb : Val tb σ H (.int (m : Nat))) : Ans (tTest (tOp (rI0 fun i j => .bl (decide (i ≤ j))) ta tb)) σ H (decide (n ≤ m)) := (ans_i0 (g := fun i j => decide (i ≤ j)) ha hb).to (by simp)
theorem ans_gtN (ha : Val ta σ H (.int (n : Nat))) (hb : Val tb σ H (.int (m : Nat))) : Ans (tTest (tOp (rI0 fun i j => .bl (decide (j < i))) ta tb)) σ H (decide (m < n)) := (ans_i0 (g := fun i j => decide (j < i)) ha hb).to (by simp)
theorem ans_geN (ha : Val ta σ H (.int (n : Nat))) (hb : Val tb σ H (.int (m : Nat))) : Ans (tTest (tOp (rI0 fun i j => .bl (decide (j ≤ i))) ta tb)) σ H (decide (m ≤ n)) := (ans_i0 (g := fun i j => decide (j ≤ i)) ha hb).to (by simp)
theorem val_geN (ha : Val ta σ H (.int (n : Nat))) (hb : Val tb σ H (.int (m : Nat))) : Val (tOp (rI0 fun i j => .bl (decide (j ≤ i))) ta tb) σ H (.bl (decide (m ≤ n))) := (val_i0 (g := fun i j => .bl (decide (j ≤ i))) ha hb).of (by simp)
theorem ans_eqN (ha : Val ta σ H (.int (n : Nat))) (hb : Val tb σ H (.int (m : Nat))) : Ans (tTest (tOp rEq ta tb)) σ H (decide (n = m)) := ans_eq ha hb rfl (by simp; omega)
theorem ans_neN (ha : Val ta σ H (.int (n : Nat))) (hb : Val tb σ H (.int (m : Nat))) : Ans (tTest (tOp rNe ta tb)) σ H (decide (n ≠ m)) := ans_ne ha hb rfl (by simp; omega)
theorem ans_eqS {s s' : Str} (ha : Val ta σ H (.str s)) (hb : Val tb σ H (.str s')) : Ans (tTest (tOp rEq ta tb)) σ H (decide (s = s')) := ans_eq ha hb rfl (by simp)
theorem ans_neS {s s' : Str} (ha : Val ta σ H (.str s)) (hb : Val tb σ H (.str s')) : Ans (tTest (tOp rNe ta tb)) σ H (decide (s ≠ s')) := ans_ne ha hb rfl (by simp)
theorem val_chain {g h : Int → Int → Bool} (ha : Val ta σ H (.int i)) (hb : Val tb σ H (.int j)) (hc : Val tc σ H (.int k')) : Val (tChain (rI0 fun i j => .bl (g i j)) (rI0 fun i j => .bl (h i j)) ta tb tc) σ H (.bl (g i j && h j k')) := by
  intro Q q
  refine ha _ (hb _ ⟨i, j, rfl, rfl, g i j, rfl, ?_⟩)
  cases e : g i j with
  | true =>
    rw [if_pos rfl]
    refine hc _ ⟨j, k', rfl, rfl, ?_⟩
    rw [e, Bool.true_and] at q
    exact q
  | false =>
    rw [if_neg Bool.false_ne_true]
    rw [e, Bool.false_and] at q
    exact q
theorem _root_.L2.Val.ans (h : Val te σ H (.bl b)) : Ans (tTest te) σ H b := fun Q q => h _ ⟨b, rfl, q⟩
theorem val_chainLL (ha : Val ta σ H (.int (n : Nat))) (hb : Val tb σ H (.int (m : Nat))) (hc : Val tc σ H (.int (k : Nat))) : Val (tChain (rI0 fun i j => .bl (decide (i ≤ j))) (rI0 fun i j => .bl (decide (i ≤ j))) ta tb tc) σ H (.bl (decide (n ≤ m) && decide (m ≤ k))) :=
  (val_chain (g := fun i j => decide (i ≤ j)) (h := fun i j => decide (i ≤ j)) ha hb hc).of (by simp)
theorem val_chainLT (ha : Val ta σ H (.int (n : Nat))) (hb : Val tb σ H (.int (m : Nat))) (hc : Val tc σ H (.int (k : Nat))) : Val (tChain (rI0 fun i j => .bl (decide (i ≤ j))) (rI0 fun i j => .bl (decide (i < j))) ta tb tc) σ H (.bl (decide (n ≤ m) && decide (m < k))) :=
  (val_chain (g := fun i j => decide (i ≤ j)) (h := fun i j => decide (i < j)) ha hb hc).of (by simp)
theorem val_orV (ha : Val ta σ H (.bl b1)) (hb : b1 = false → Val tb σ H (.bl b2)) : Val (tOrV ta tb) σ H (.bl (b1 || b2)) := by
  intro Q q
  refine ha _ ⟨b1, rfl, ?_⟩
  cases b1 with
  | true => rw [if_pos rfl]; exact q
  | false => rw [if_neg Bool.false_ne_true]; exact hb rfl _ q
theorem val_andV (ha : Val ta σ H (.bl b1)) (hb : b1 = true → Val tb σ H (.bl b2)) : Val (tAndV ta tb) σ H (.bl (b1 && b2)) := by
  intro Q q
  refine ha _ ⟨b1, rfl, ?_⟩
  cases b1 with
  | true => rw [if_pos rfl]; exact hb rfl _ q
  | false => rw [if_neg Bool.false_ne_true]; exact q
theorem val_notV (ha : Val ta σ H (.bl b)) : Val (tNotV ta) σ H (.bl (!b)) := fun Q q => ha _ ⟨b, rfl, q⟩
theorem ans_orL (h1 : Ans t σ H b1) (h2 : b1 = false → Ans u σ H b2) : Ans (tOr t u) σ H (b1 || b2) := by
  cases b1 with
  | true => exact ans_or1 h1
  | false => exact ans_or h1 (h2 rfl)
theorem ans_andL (h1 : Ans t σ H b1) (h2 : b1 = true → Ans u σ H b2) : Ans (tAnd t u) σ H (b1 && b2) := by
  cases b1 with
  | true => exact ans_and h1 (h2 rfl)
  | false => exact ans_and0 h1
theorem flat_vI : ∀ l : List Nat, (vI l).all flatV = true
  | [] => rfl
  | _ :: l => flat_vI l
theorem inV_vI (n : Nat) : ∀ l : List Nat, inV (.int n) (vI l) = decide (n ∈ l)
  | [] => rfl
  | c :: l => by
    have ih := inV_vI n l
    unfold inV at ih ⊢
    unfold vI at ih ⊢
    rw [List.map_cons, List.any_cons, ih]
    show (((c : Nat) : Int) == (n : Int) || decide (n ∈ l)) = decide (n ∈ c :: l)
    by_cases h : c = n
    · subst h; simp
    · have h2 : ¬ ((c : Int) = (n : Int)) := by omega
      have h3 : ¬ n = c := fun e => h e.symm
      simp [h2, h3]
theorem val_in {l : List Nat} (ha : Val ta σ H (.int (n : Nat))) (hs : SqT K H p (vI l)) : Val (tOp (rIn K false) ta (tC (.ref p))) σ H (.bl (decide (n ∈ l))) :=
  val_op ha val_c fun Q q => ⟨p, vI l, rfl, .inr hs, rfl, flat_vI l, by rw [if_neg Bool.false_ne_true, inV_vI]; exact q⟩
theorem vI_get {l : List Nat} {c : Nat} (h : l[k]? = some c) : (vI l)[k]? = some (V.int (c : Nat)) := by
  unfold vI
  rw [List.getElem?_map, h]; rfl
theorem val_ixV {xs : List V} (hl : Val ta σ H (.ref a)) (hs : SqL K H a xs) (hi : Val tb σ H (.int (k : Nat))) (hk : xs[k]? = some v) : Val (tOp (rIxL K) ta tb) σ H v :=
  val_op hl hi fun Q q => ⟨a, xs, _, v, rfl, rfl, hs, atI_nat hk, q⟩
theorem val_ixL {l : List Nat} {c : Nat} (hl : Val ta σ H (.ref a)) (hs : H a = some (.lst (vI l))) (hi : Val tb σ H (.int (k : Nat))) (hk : l[k]? = some c) : Val (tOp (rIxL K) ta tb) σ H (.int (c : Nat)) :=
  val_ixV hl (.of hs) hi (vI_get hk)
theorem val_ixT {xs : List V} (hl : Val ta σ H (.ref a)) (hs : SqT K H a xs) (hi : Val tb σ H (.int (k : Nat))) (hk : xs[k]? = some v) : Val (tOp (rIxT K) ta tb) σ H v :=
  val_op hl hi fun Q q => ⟨a, xs, _, v, rfl, rfl, hs, atI_nat hk, q⟩
theorem val_len {xs : List V} (hl : Val ta σ H (.ref a)) (hs : SqL K H a xs) : Val (tCB (rLen K) (tCons ta tNil)) σ H (.int (xs.length : Nat)) := fun Q q => hl _ ⟨a, xs, rfl, .inl hs, q⟩
theorem val_lenI {l : List Nat} (hl : Val ta σ H (.ref a)) (hs : H a = some (.lst (vI l))) : Val (tCB (rLen K) (tCons ta tNil)) σ H (.int (l.length : Nat)) := (val_len hl (.of hs)).of (by rw [List.length_map])
theorem val_call1 (ha : Val ta σ H x) (h : ∀ Q : VK, Q v H → sp [x] H Q E) : Val (tCall sp [] E (tCons ta tNil)) σ H v := fun Q q => ha _ (h Q q)
theorem val_call2 (ha : Val ta σ H x) (hb : Val tb σ H y) (h : ∀ Q : VK, Q v H → sp [x, y] H Q E) : Val (tCall sp [] E (tCons ta (tCons tb tNil))) σ H v := fun Q q => ha _ (hb _ (h Q q))
theorem val_min2 (ha : Val ta σ H (.int (n : Nat))) (hb : Val tb σ H (.int (m : Nat))) : Val (tCB rMin2 (tCons ta (tCons tb tNil))) σ H (.int (min n m : Nat)) := fun Q q => ha _ (hb _ ⟨_, _, rfl, by
  have e : (if (m : Int) < (n : Int) then (m : Int) else (n : Int)) = ((min n m : Nat) : Int) := by split <;> omega
  rw [e]; exact q⟩)
theorem val_max2 (ha : Val ta σ H (.int (n : Nat))) (hb : Val tb σ H (.int (m : Nat))) : Val (tCB rMax2 (tCons ta (tCons tb tNil))) σ H (.int (max n m : Nat)) := fun Q q => ha _ (hb _ ⟨_, _, rfl, by
  have e : (if (m : Int) > (n : Int) then (m : Int) else (n : Int)) = ((max n m : Nat) : Int) := by split <;> omega
  rw [e]; exact q⟩)
/-- l[a:b] -/
theorem cutV_vI {l : List Nat} {s e : Nat} : cutV (vI l) (some (s : Nat)) (some (e : Nat)) = vI ((l.take e).drop s) := by
  unfold cutV
  rw [HT.sIx_nat, HT.sIx_nat, List.length_map]
  unfold vI
  rw [← List.map_drop, ← List.map_take]
  congr 1
  apply List.ext_getElem?
  intro q
  rw [List.getElem?_take, List.getElem?_drop, List.getElem?_drop, List.getElem?_take]
  by_cases h1 : s + q < e
  · rw [if_pos h1]
    by_cases h2 : s + q < l.length
    · rw [if_pos (by omega)]
      congr 1
      omega
    · rw [List.getElem?_eq_none (by omega : l.length ≤ s + q)]
      split
      · rw [List.getElem?_eq_none (by omega)]
      · rfl
  · rw [if_neg h1, if_neg (by omega)]
theorem run_sl {l : List Nat} {s e : Nat} {tl th : TE} {Q : VK} (hl : Val te σ H (.ref a)) (hs : H a = some (.lst (vI l))) (h1 : Val tl σ H (.int (s : Nat))) (h2 : Val th σ H (.int (e : Nat)))
    (q : ∀ p, H p = none → Q (.ref p) (upd H p (.lst (vI ((l.take e).drop s))))) : tSl (rSlL K) te (tPart tl) (tPart th) σ H Q :=
  hl _ (h1 _ ⟨_, rfl, h2 _ ⟨_, rfl, a, vI l, rfl, .of hs, fun p hp => by rw [cutV_vI]; exact q p hp⟩⟩)
/-! ### statements -/
theorem mif (h : Ans c σ H b) (ht : b = true → t1 D σ H) (hf : b = false → t2 D σ H) : tIfS c t1 t2 D σ H := by
  cases b with
  | true => exact st_yes h (ht rfl)
  | false => exact st_no h (hf rfl)
theorem mwhile (W : Nat → L2.St → Hp → Prop) (m : Nat) (h0 : W m σ H) (hs : ∀ m σ H, W m σ H → ∃ b, Ans c σ H b ∧
    (b = true → ∀ N : L2.St → Hp → Prop, (∀ m' σ' H', m' < m → W m' σ' H' → N σ' H') → ts { D with nx := N, ct := N, bk := D.nx } σ H) ∧ (b = false → D.nx σ H)) : tWhile c ts D σ H := by
  refine wh W m h0 fun m σ H w => ?_
  obtain ⟨b, ha, ht, hf⟩ := hs m σ H w
  refine ha _ ?_
  cases b with
  | true =>
    rw [if_pos rfl]
    exact ⟨fun σ' H' => ∃ m', m' < m ∧ W m' σ' H', fun _ _ h => h, ht rfl _ fun m' σ' H' l w' => ⟨m', l, w'⟩⟩
  | false =>
    rw [if_neg Bool.false_ne_true]
    exact hf rfl
theorem maug {q : Nat} {g : Int → Int → Int} (hx : σ[q]? = some (some (.int i))) (hv : Val te σ H (.int j)) (h : D.nx (σ.set q (some (.int (g i j)))) H) : tAug q te (ipI g) D σ H := ⟨_, hx, hv _ ⟨i, j, rfl, rfl, h⟩⟩
theorem maugN {q : Nat} (hx : σ[q]? = some (some (.int (n : Nat)))) (hv : Val te σ H (.int (m : Nat))) (h : D.nx (σ.set q (some (.int (n + m : Nat)))) H) : tAug q te (ipI fun i j => i + j) D σ H := maug hx hv h
/-! ### heaps -/
theorem But.refl (L : List Addr) (H : Hp) : But L H H := fun _ _ h _ => h
theorem But.trans {L : List Addr} {H1 H2 H3 : Hp} (h : But L H1 H2) (g : But L H2 H3) : But L H1 H3 := fun b o e n => g b o (h b o e n) n
theorem But.of {L : List Addr} (s : Same H H') : But L H H' := fun b o e _ => s b o e
theorem But.mono {L M : List Addr} (h : But L H H') (k : ∀ b, b ∈ L → b ∈ M) : But M H H' := fun b o e n => h b o e fun z => n (k b z)
theorem But.put {L : List Addr} {o : HO} (h : a ∈ L) : But L H (upd H a o) := fun b o e n => by
  rw [upd_ne fun z => n (by rw [z]; exact h)]; exact e
theorem But.new {L : List Addr} {o : HO} (h : H a = none) : But L H (upd H a o) := fun b o e n => by
  rw [upd_ne fun z => by rw [z, h] at e; cases e]; exact e
theorem same_new {o : HO} (h : H a = none) : Same H (upd H a o) := fun b o e => by
  rw [upd_ne fun z => by rw [z, h] at e; cases e]; exact e
/-- what was not there ahead of it -/
theorem But.same {L : List Addr} {H0 : Hp} (s : Same H0 H) (h : But L H H') (n : ∀ b, b ∈ L → H0 b = none) : Same H0 H' := fun b o e => h b o (s b o e) fun z => by
  rw [n b z] at e; cases e
end
end MM

set_option Elab.async false
set_option linter.all false
set_option maxRecDepth 100000
set_option maxHeartbeats 4000000
namespace MM
open PySem PySem.Spec PyProof.Rows L2
section
variable {K : PySem.W.Frag} {σ : L2.St} {H H' : Hp} {v w x y z : V} {te ts : TE} {i j : Nat} {a : Addr} {Q : VK}
theorem take_get {α : Type} {l : List α} {n : Nat} {x : α} (h : l[n]? = some x) : l.take (n + 1) = l.take n ++ [x] := by
  rw [List.take_succ, h]; rfl
/-- [e for x in xs], e without an effect -/
theorem run_lcList {xs ys : List V} (hl : Val ts σ H (.ref a)) (hs : ∀ H', Same H H' → SqL K H' a xs) (hy : ys.length = xs.length) (hz : xs.length < sizeLine)
    (hw : ∀ v, wipe ((wipe σ [j]).set j v) [j] = wipe σ [j])
    (he : ∀ (i : Nat) (x y : V) (H' : Hp), xs[i]? = some x → ys[i]? = some y → Same H H' → Val te ((wipe σ [j]).set j (some x)) H' y)
    (q : ∀ p, H p = none → Q (.ref p) (upd H p (.lst ys))) : tLc (iList K ts) (gName j) tYes te [j] σ H Q := by
  refine hl _ ⟨a, rfl, ⟨xs, hs H (Same.refl H)⟩, fun D hD => ?_⟩
  have sm : ∀ k, Same H (upd H D (.lst (ys.take k))) := fun k => same_new hD
  refine lc_list (K := K) (a := a) (xs := xs) (fun k H' => H' = upd H D (.lst (ys.take k))) rfl (fun k H' hk e => by rw [e]; exact hs _ (sm k)) ?_ ?_
  · rintro k x _ hx rfl
    have hk : k < ys.length := by
      rw [hy]; exact (List.getElem?_eq_some_iff.mp hx).1
    have hyk : ys[k]? = some ys[k] := List.getElem?_eq_getElem hk
    refine ⟨hw _, ?_⟩
    unfold tYes
    dsimp only
    rw [if_pos rfl]
    refine he k x _ _ hx hyk (sm k) _ ⟨_, upd_same, ?_, ?_⟩
    · rw [List.length_take]; omega
    · rw [upd_upd, take_get hyk]
  · rintro _ rfl
    rw [← hy, List.take_length]
    exact q D hD
theorem run_lcStr {z : Str} {ys : List V} (hl : Val ts σ H (.str z)) (hy : ys.length = z.cps.size) (hz : z.cps.size < sizeLine)
    (hw : ∀ v, wipe ((wipe σ [j]).set j v) [j] = wipe σ [j])
    (he : ∀ (i c : Nat) (y : V) (H' : Hp), z.cps[i]? = some c → ys[i]? = some y → Same H H' → Val te ((wipe σ [j]).set j (some (.str ⟨#[c]⟩))) H' y)
    (q : ∀ p, H p = none → Q (.ref p) (upd H p (.lst ys))) : tLc (iStr ts) (gName j) tYes te [j] σ H Q := by
  refine hl _ ⟨z, rfl, fun D hD => ?_⟩
  refine ⟨fun k m H' => m = z.cps.size - k ∧ k ≤ z.cps.size ∧ H' = upd H D (.lst (ys.take k)), ⟨z.cps.size, by omega, Nat.zero_le _, rfl⟩, ?_⟩
  rintro k m _ ⟨rfl, hk, rfl⟩
  by_cases hlt : k < z.cps.size
  · refine .inr ⟨hlt, fun H' => H' = upd H D (.lst (ys.take (k + 1))), fun H' e => ⟨_, by omega, rfl, hlt, e⟩, ?_⟩
    rintro x H' ⟨rfl, c, hc, rfl⟩
    have hk' : k < ys.length := by rw [hy]; exact hlt
    have hyk : ys[k]? = some ys[k] := List.getElem?_eq_getElem hk'
    refine ⟨hw _, ?_⟩
    unfold tYes
    dsimp only
    rw [if_pos rfl]
    refine he k c _ _ hc hyk (same_new hD) _ ⟨_, upd_same, ?_, ?_⟩
    · rw [List.length_take]; omega
    · rw [upd_upd, take_get hyk]
  · refine .inl ⟨by show z.cps.size ≤ k; omega, ?_⟩
    have e : k = ys.length := by omega
    rw [e, List.take_length]
    exact q D hD
/-! ### calls and methods -/
variable {sp : Sp} {E : XK} {ta tb tc td to : TE} {u x1 x2 x3 x4 : V} {C l : Addr} {D : Ends}
theorem run_call1 (ha : Val ta σ H x1) (q : sp [x1] H Q E) : tCall sp [] E (tCons ta tNil) σ H Q := ha _ q
theorem run_call2 (ha : Val ta σ H x1) (hb : Val tb σ H x2) (q : sp [x1, x2] H Q E) : tCall sp [] E (tCons ta (tCons tb tNil)) σ H Q := ha _ (hb _ q)
theorem run_call3 (ha : Val ta σ H x1) (hb : Val tb σ H x2) (hc : Val tc σ H x3) (q : sp [x1, x2, x3] H Q E) : tCall sp [] E (tCons ta (tCons tb (tCons tc tNil))) σ H Q := ha _ (hb _ (hc _ q))
theorem run_make1 (ha : Val ta σ H x1) (q : ∀ o dx, H o = none → H dx = none → dx ≠ o → sp [.ref o, x1] (upd (upd H dx (.own o)) o (.ins C dx [])) (fun v H2 => v = .non ∧ Q (.ref o) H2) E) : tMake C sp [] E (tCons ta tNil) σ H Q := ha _ q
theorem run_make3 (ha : Val ta σ H x1) (hb : Val tb σ H x2) (hc : Val tc σ H x3)
    (q : ∀ o dx, H o = none → H dx = none → dx ≠ o → sp [.ref o, x1, x2, x3] (upd (upd H dx (.own o)) o (.ins C dx [])) (fun v H2 => v = .non ∧ Q (.ref o) H2) E) : tMake C sp [] E (tCons ta (tCons tb (tCons tc tNil))) σ H Q := ha _ (hb _ (hc _ q))
/-- l.append(e) as a statement; e may have an effect -/
theorem run_append {xs : List V} (ho : Val to σ H (.ref l)) (hl : H l = some (.lst xs)) (q : te σ H fun y H2 => rAppend (.ref l) [y] H2 fun _ H1 => D.nx σ H1) : tDrop (tBM K "list" rAppend to (tCons te tNil)) D σ H :=
  ho _ ⟨.inl ⟨rfl, xs, .of hl⟩, q⟩
theorem do_append {xs : List V} {y : V} {R : VK} (hl : H l = some (.lst xs)) (hz : xs.length < sizeLine) (q : R .non (upd H l (.lst (xs ++ [y])))) : rAppend (.ref l) [y] H R := ⟨l, xs, y, rfl, rfl, hl, hz, q⟩
/-- x = l[a:b] -/
theorem st_sl {n : Nat} {l : List Nat} {s e : Nat} {tl th : TE} (hl : Val te σ H (.ref a)) (hs : H a = some (.lst (vI l))) (h1 : Val tl σ H (.int (s : Nat))) (h2 : Val th σ H (.int (e : Nat)))
    (q : ∀ p, H p = none → D.nx (σ.set n (some (.ref p))) (upd H p (.lst (vI ((l.take e).drop s))))) : tAsg (tSl (rSlL K) te (tPart tl) (tPart th)) (gName n) D σ H := run_sl hl hs h1 h2 q
end
end MM
namespace MM
open PySem PySem.Spec PyProof.Rows L2
section
variable {K : PySem.W.Frag} {σ : L2.St} {H H' : Hp} {v w x y z : V} {te ta tb tc td tf : TE} {a b : Addr} {Q : VK} {D : Ends} {sp : Sp} {E : XK} {c t u : TT} {t1 t2 t3 : TS} {bb : Bool}
theorem mguard (h : Ans c σ H bb) (ht : bb = true → t1 { D with nx := t3 D } σ H) (hf : bb = false → t3 D σ H) : tSeq (tIfS c t1 tNext) t3 D σ H := st_seq (mif h ht hf)
/-- tuple(l[a:b]) -/
theorem run_tupSl {te tl th : TE} {l : List Nat} {x y : Nat} (hl : Val te σ H (.ref a)) (hs : H a = some (.lst (vI l))) (h1 : Val tl σ H (.int (x : Nat))) (h2 : Val th σ H (.int (y : Nat)))
    (q : ∀ r H', H' r = some (.tup (vI ((l.take y).drop x))) → Same H H' → H r = none → Q (.ref r) H') : tCB (rTupleOf K) (tCons (tSl (rSlL K) te (tPart tl) (tPart th)) tNil) σ H Q := by
  refine run_sl hl hs h1 h2 fun p hp => ?_
  refine ⟨p, _, rfl, .inl ⟨.of upd_same, fun r hr => ?_⟩⟩
  have hrp : r ≠ p := fun z => by rw [z, upd_same] at hr; cases hr
  exact q r _ upd_same ((same_new hp).trans (same_new hr)) (by rw [upd_ne hrp] at hr; exact hr)
theorem st_tupSl {n : Nat} {te tl th : TE} {l : List Nat} {x y : Nat} (hl : Val te σ H (.ref a)) (hs : H a = some (.lst (vI l))) (h1 : Val tl σ H (.int (x : Nat))) (h2 : Val th σ H (.int (y : Nat)))
    (q : ∀ r H', H' r = some (.tup (vI ((l.take y).drop x))) → Same H H' → H r = none → D.nx (σ.set n (some (.ref r))) H') : tAsg (tCB (rTupleOf K) (tCons (tSl (rSlL K) te (tPart tl) (tPart th)) tNil)) (gName n) D σ H := run_tupSl hl hs h1 h2 q
theorem run_tup2 (ha : Val ta σ H x) (hb : Val tb σ H y) (q : ∀ p, H p = none → Q (.ref p) (upd H p (.tup [x, y]))) : tTup (tCons ta (tCons tb tNil)) σ H Q := ha _ (hb _ ⟨by show 2 ≤ sizeLine; decide, q⟩)
theorem run_lst2 (ha : Val ta σ H x) (hb : Val tb σ H y) (q : ∀ p, H p = none → Q (.ref p) (upd H p (.lst [x, y]))) : tLst (tCons ta (tCons tb tNil)) σ H Q := ha _ (hb _ ⟨by show 2 ≤ sizeLine; decide, q⟩)
theorem run_lst1 (ha : Val ta σ H x) (q : ∀ p, H p = none → Q (.ref p) (upd H p (.lst [x]))) : tLst (tCons ta tNil) σ H Q := ha _ ⟨by show 1 ≤ sizeLine; decide, q⟩
theorem run_call5E (ha : Val ta σ H x) (hb : Val tb σ H y) (q : tc σ H fun z H1 => td σ H1 fun w H2 => tf σ H2 fun u H3 => sp [x, y, z, w, u] H3 Q E) : tCall sp [] E (tCons ta (tCons tb (tCons tc (tCons td (tCons tf tNil))))) σ H Q := ha _ (hb _ q)
theorem run_test {te : TE} {R : Bool → Hp → Prop} (q : te σ H fun x H' => ∃ k, x = .bl k ∧ R k H') : tTest te σ H R := q
theorem append_sT (l m : List Nat) : (sT l ++ sT m : Str) = sT (l ++ m) := by
  apply TL.ext_tl
  rw [TL.tl_append]
theorem val_addS {l m : List Nat} (ha : Val ta σ H (.str (sT l))) (hb : Val tb σ H (.str (sT m))) (h : l.length + m.length ≤ 1000) : Val (tOp rAddStr ta tb) σ H (.str (sT (l ++ m))) :=
  val_op ha hb fun Q q => ⟨_, _, rfl, rfl, by
    have e : ∀ l : List Nat, (sT l).length = l.length := fun l => by show l.toArray.size = l.length; simp
    rw [e, e]
    exact Nat.le_of_lt (small1000 h), by rw [append_sT]; exact q⟩
theorem slice_eq {α : Type} (l : List α) (s n : Nat) : (l.take (s + n)).drop s = (l.drop s).take n := by
  rw [List.drop_take, Nat.add_sub_cancel_left]
end
end MM

set_option Elab.async false
set_option linter.all false
set_option maxRecDepth 100000
set_option maxHeartbeats 2000000
/-! ## list(reversed(xs)): a rule of this text's own -/
namespace MM
open PySem PySem.Spec PyProof.Rows L2 RT
section
variable {prog : Program} {w : World} {A : Around} {E : Value → Shared → Prop} {s : Shared}
/-- an empty list at S takes all that a reversed list's iterator gives -/
theorem take_rev {R : Result → Shared → Prop} {S it l : Addr} {items : Array Value} (hh : A.handled = none) (hit : s.heap.IsRevIter it l ((items.size : Int) - 1)) (hl : s.heap.IsList l items) (hne : l ≠ it) (hn : items.size ≤ sizeLine) (hSi : S ≠ it) (hSl : S ≠ l)
    (hS : s.heap.get? S = some { cls := .type "list", data := .seq #[] })
    (hR : ∀ h' tk acc' c', (∀ b o, b ≠ S → b ≠ it → s.heap.get? b = some o → h'.get? b = some o) → h'.get? S = some { cls := .type "list", dict := none, data := .seq acc' c', slots := #[] } → ItemsOf (fun i v => items[items.size - 1 - i]? = some v) acc' items.size → R (.ok (.ret .none)) { s with heap := h', toks := tk }) :
    wpAny (model prog w) A.in1 (Builtin.List.listExtendWith (.ref S) (.ref it) .none)
      (fun fin s' => match fin with | .done f => R (.ok f) s' | .again c' => c'.quiet = true ∧ codeAny (model prog w) A c' R s') (fun e s' => R (.error e) s') s := by
  have W := (Walks.listRev (prog := prog) (w := w) (A := A.in1) hh it l hne items).toS
  have hSf : S ∉ [it, l] := by simp only [List.mem_cons, List.not_mem_nil, or_false, not_or]; exact ⟨hSi, hSl⟩
  have hT : s.TypeIs (.ref it) "list_reverseiterator" := Heap.IsRevIter.typeIs hit
  have h1 : Builtin.List.listSameRef (.ref S) (.ref it) = false := by simp [Builtin.List.listSameRef, hSi]
  unfold Builtin.List.listExtendWith
  refine wpAny_bind (wpAny_typeOf hT ?_)
  rw [if_neg (by rw [h1]; decide)]
  refine wpAny_bind (wpAny_pyIter_revIter hit ?_)
  refine wpAny_bind (wpAny_holding ?_)
  unfold Builtin.List.listLengthHint
  refine wpAny_bind (wpAny_specialOf hT nolen_lri ?_)
  show wpAny _ A.in1 (specialOf (Value.ref it) (Str.ofString "__length_hint__") >>= _) _ _ _
  refine wpAny_bind (wpAny_specialOf hT hint_lri ?_)
  generalize hid : ("list_reverseiterator.__length_hint__" : String) = id0
  wp_delta
  rw [show splitId id0 = some ("list_reverseiterator", "__length_hint__") from by subst hid; decide +kernel]
  subst hid
  refine wpAny_bind (wpAny_isInstance (b := true) hT (by rw [isSubtype_type]; kernel_rfl) ?_)
  refine wpAny_pure ?_
  rw [if_neg (by decide)]
  have e0 : ((items.size : Nat) : Int) - 1 - ((0 : Nat) : Int) = (items.size : Int) - 1 := by omega
  refine wpAny_pure ⟨plainId_quiet F.plain_extend_loop _, codeAny_extend_loopS W hn _ hSf _ items.size 0 _ _ _ rfl (Nat.zero_le _) ⟨Nat.zero_le _, by rw [e0]; exact hit, hl⟩ hS (ItemsOf.nil _) fun s' acc' c' hm hS' hacc => ?_⟩
  rw [Moved.eq_with hm]
  refine hR s'.heap s'.toks acc' c' (fun b o hb hb2 e => hm.heap b o (fun hmem => ?_) e) hS' hacc
  rcases List.mem_cons.mp hmem with e' | hmem
  · exact hb e'
  · exact hb2 (List.mem_singleton.mp hmem)
theorem call_list_rev {it l : Addr} {items : Array Value} {Q : Value → Shared → Prop} (hh : A.handled = none) (hit : s.heap.IsRevIter it l ((items.size : Int) - 1)) (hl : s.heap.IsList l items) (hne : l ≠ it) (hn : items.size ≤ sizeLine)
    (hQ : ∀ h' tk acc' c', (∀ b o, b ≠ it → s.heap.get? b = some o → h'.get? b = some o) → h'.get? s.heap.objs.size = some { cls := .type "list", dict := none, data := .seq acc' c', slots := #[] } → ItemsOf (fun i v => items[items.size - 1 - i]? = some v) acc' items.size → Q (.ref s.heap.objs.size) { s with heap := h', toks := tk }) :
    wpAny (model prog w) A (call (.type "list") [.ref it]) Q E s := by
  obtain ⟨oi, hoi, _⟩ := id hit
  obtain ⟨ol, hol, _⟩ := id hl
  have hSi : s.heap.objs.size ≠ it := Nat.ne_of_gt (Heap.lt_size hoi)
  have hSl : s.heap.objs.size ≠ l := Nat.ne_of_gt (Heap.lt_size hol)
  refine callType_codes (Q₁ := fun obj s₁ => obj = .ref s.heap.objs.size ∧ s₁ = { s with heap := s.heap.push { cls := .type "list", data := .seq #[] } }) PySem.F.called_list (PySem.F.typeCall_list_1 _) PySem.F.entry_list_init
    (code_list_new _ ⟨rfl, rfl⟩) fun obj s₁ h₁ => ?_
  obtain ⟨rfl, rfl⟩ := h₁
  have hS : (s.heap.push { cls := .type "list", data := .seq #[] }).get? s.heap.objs.size = some { cls := .type "list", data := .seq #[] } := Heap.get?_push_size _ rfl
  refine ⟨⟨_, hS, rfl⟩, PySem.F.args_list_init_2 _ _, ?_⟩
  show wpAny _ _ (do let old ← Builtin.List.listItems (.ref s.heap.objs.size); Builtin.List.listUpdate (.ref s.heap.objs.size) (fun _ => #[]); letGo old.toList.reverse; Builtin.List.listExtendWith (.ref s.heap.objs.size) (.ref it) .none) _ _ _
  refine wpAny_bind ?_
  unfold Builtin.List.listItems
  refine wpAny_bind (wpAny_seqItems hS rfl (wpAny_pure ?_))
  show wpAny _ _ (updateSeq s.heap.objs.size (fun _ => #[]) >>= fun _ => letGo (#[] : Array Value).toList.reverse >>= fun _ => Builtin.List.listExtendWith (.ref s.heap.objs.size) (.ref it) .none) _ _ _
  refine wpAny_bind (wpAny_updateSeq hS rfl ?_)
  have hS₂ := Heap.get?_update_self (Obj.mapSeq (fun _ => (#[] : Array Value))) hS rfl
  have oth : ∀ b o, s.heap.get? b = some o → ((s.heap.push { cls := .type "list", data := .seq #[] }).update s.heap.objs.size (Obj.mapSeq (fun _ => (#[] : Array Value)))).get? b = some o := fun b o e =>
    (Heap.get?_update_other _ _ (Nat.ne_of_gt (Heap.lt_size e))).trans (Heap.get?_push_of_some _ e)
  refine wpAny_bind (wpAny_letGo ?_)
  obtain ⟨n, hln⟩ : ∃ h : (({ s with heap := (s.heap.push { cls := .type "list", data := .seq #[] }).update s.heap.objs.size (Obj.mapSeq (fun _ => (#[] : Array Value))) } : Shared).heap).IsList l items, True := ⟨hl.at fun o e => oth l o e, trivial⟩
  refine take_rev (A := A.in1) hh (hit.at fun o e => oth it o e) n hne hn hSi hSl hS₂ fun h' tk acc' c' hk hS' hacc => ?_
  exact ⟨rfl, hQ h' tk acc' c' (fun b o hb e => hk b o (Nat.ne_of_lt (Heap.lt_size e)) hb (oth b o e)) hS' hacc⟩
end
end MM
namespace MM
open PySem PySem.Spec PyProof.Rows L2 RT
/-- list(reversed(e)) -/
def tListRev (K : PySem.W.Frag) (te : TE) : TE := fun σ H Q => te σ H fun v H1 => ∃ (a : Addr) (xs : List V), v = .ref a ∧ SqL K H1 a xs ∧ ∀ q, H1 q = none → Q (.ref q) (upd H1 q (.lst xs.reverse))
theorem pe_listRev {X : Cx} {e : Expr} {te : TE} {p p2 pos pos2 : Pos} (hc : X.calm = true) (hg : Gl X "list") (hm : X.mg "list" = none) (hg2 : Gl X "reversed") (hm2 : X.mg "reversed" = none) (he : PE X e te)
    (hs : starEach [e] X.env = (false, eval e X.env) :: starEach [] X.env := by rfl)
    (hs2 : starEach [.Call (.Name "reversed" p2) [e] [] pos2] X.env = (false, eval (.Call (.Name "reversed" p2) [e] [] pos2) X.env) :: starEach [] X.env := by rfl) :
    PE X (.Call (.Name "list" p) [.Call (.Name "reversed" p2) [e] [] pos2] [] pos) (tListRev X.K te) := by
  have hv : bootBuiltins "list" = some (.type "list") := by decide +kernel
  refine ⟨fun pins s σ H Q I h => ?_⟩
  refine Call_ (ld_blt I hg hm hv (PyProof.Rows.callWith_type1 (args_cons (Call_ (ld_blt I hg2 hm2 PyProof.Rows.boot_reversed (PyProof.Rows.callWith_type1 (args_cons (thn (he.run pins s σ H _ I h) fun u s1 hh => args_nil ?_) hs) hs rfl))) hs2) hs2 rfl))
  obtain ⟨v, H1, I1, r1, a, xs, ev, hq, q⟩ := hh
  subst ev
  obtain rfl : u = Value.ref a := r1
  obtain ⟨its, rv, p', hz⟩ := I1.list hq
  have hl := p'.isList
  refine call_reversed_list hl (args_nil ?_)
  have I2 : Inv X pins σ H1 { s1 with heap := s1.heap.push (revObj a ((its.toArray.size : Int) - 1)) } := I1.kept (t' := s1.toks) fun b o e => Heap.get?_push_of_some _ e
  obtain ⟨f0, f1, f2, f3, f4, f5⟩ := I1.fpOk (H' := H1) (b := s1.heap.objs.size) (Nat.le_refl _) (I1.hok.fresh (Nat.le_refl _))
  obtain ⟨ol, hol, _⟩ := id hl
  have hn : its.toArray.size ≤ sizeLine := by rw [List.size_toArray, ← rv.length]; exact hz
  refine call_list_rev (s := { s1 with heap := s1.heap.push (revObj a ((its.toArray.size : Int) - 1)) }) (I1.ok.hd hc) ⟨_, Heap.get?_push_size _ rfl, rfl, rfl⟩ (hl.push _) (Nat.ne_of_lt (Heap.lt_size hol)) hn fun h' tk acc c' hk hS' hi => ?_
  have fp : ∀ b ∈ [s1.heap.objs.size], FpOk X pins H1 b := fun b hb => by
    cases List.mem_singleton.mp hb
    exact ⟨f0, f1, f2, f3, f4, f5⟩
  refine ⟨.ref _, _, I2.turnedNew (t' := tk) (ch := [s1.heap.objs.size]) (h' := h') (fun b o hb e => hk b o (fun z => hb (by rw [z]; exact List.mem_singleton.mpr rfl)) e) fp (Nat.le_refl _)
    (show ObjOk X.prog X.w _ _ _ (.lst xs.reverse) from ⟨by rw [List.length_reverse]; exact hz, acc.toList, c', vals_rev rv hi, ?_⟩), rfl, q _ (I2.hok.fresh (Nat.le_refl _))⟩
  rw [Array.toArray_toList]
  exact hS'
end MM

set_option Elab.async false
set_option linter.all false
set_option maxRecDepth 100000
set_option maxHeartbeats 2000000
/-! ## max(xs, default=d) and text * int: rules of this text's own -/
namespace MM
open PySem PySem.Spec PyProof.Rows L2
section
variable {prog : Program} {w : World} {A : Around} {E : Value → Shared → Prop} {I : Addr} {fp wr : List Addr} {G : Array GenState → Array GenState → Prop} {n : Nat} {P : Nat → Value → Prop} {St : Nat → Shared → Prop}
abbrev mxL (l : List Value) : Obj := { cls := .type "list", dict := none, data := .seq l.toArray, slots := #[] }
theorem mx_name : (toString "max" ++ toString ".loop" : String) = "max.loop" := by decide
/-- the walk of max, j numbers seen, the best of them at S -/
theorem mx_loop (kw : List (Str × Value)) (W : WalksS prog w A.in1 I fp wr G n P St) (bt : Nat → Nat → Bool) (hcmp : CmpOf prog w A.in1 .Gt P bt) (S : Addr) (hS : S ∉ fp) {R : Result → Shared → Prop} (m : Nat) :
    ∀ (j : Nat) (s : Shared) (vb : Value) (c : Nat), j + 1 + m = n → St (j + 1) s → P (argBest bt j) vb → s.heap.get? S = some { cls := .type "list", dict := none, data := .seq #[vb, vb] c, slots := #[] } →
    (∀ v s', P (argBest bt (n - 1)) v → Moved (S :: wr) G s s' → R (.ok (.ret v)) s') → codeAny (model prog w) A (.builtin "max.loop" ⟨[.ref I, .none, .ref S], kw⟩) R s := by
  have hw : S ∉ wr := fun h => hS (W.sub _ h)
  have sub : ∀ b ∈ wr, b ∈ S :: wr := fun b hb => List.mem_cons_of_mem _ hb
  have ne : ∀ {b : Addr}, b ∉ S :: wr → S ≠ b := fun hb h => hb (h ▸ List.mem_cons_self)
  induction m with
  | zero =>
    intro j s vb c hm st hb hs hR
    obtain rfl : j + 1 = n := hm
    refine codeAny_builtin F.entry_max_loop ?_
    rw [Around.under_plainId F.plain_max_loop _]
    show wpAny _ A.in1 (seqItems? (.ref S) >>= _) _ _ s
    refine wpAny_bind (wpAny_seqItems hs rfl ?_)
    show wpAny _ A.in1 (tryCatch (pyNext (.ref I)) _ >>= _) _ _ s
    refine wpAny_bind (wpAny_tryCatch (W.done s _ _ st fun s' mv => ?_))
    show wpAny _ A.in1 (updateSeq S (fun _ => #[]) >>= _) _ _ _
    refine wpAny_bind (wpAny_updateSeq (mv.heap S _ hw hs) rfl (wpAny_bind (wpAny_letGo (wpAny_pure ?_))))
    exact hR vb _ hb ((mv.mono sub).then_heap (tk := s'.toks) (Nat.le_refl _) fun b o h e => (Heap.get?_update_other _ _ (ne h)).trans e)
  | succ m ih =>
    intro j s vb c hm st hb hs hR
    refine codeAny_builtin F.entry_max_loop ?_
    rw [Around.under_plainId F.plain_max_loop _]
    show wpAny _ A.in1 (seqItems? (.ref S) >>= _) _ _ s
    refine wpAny_bind (wpAny_seqItems hs rfl ?_)
    show wpAny _ A.in1 (tryCatch (pyNext (.ref I)) _ >>= _) _ _ s
    refine wpAny_bind (wpAny_tryCatch (W.item (j + 1) s _ _ (by omega) st fun v s' hv st' mv => ?_))
    have hs' := mv.heap S _ hw hs
    show wpAny _ A.in1 (tryCatch (holding [v, v] (richCompare .Gt v vb >>= _)) _ >>= _) _ _ _
    refine wpAny_bind (wpAny_tryCatch (wpAny_holding (wpAny_bind (hcmp (j + 1) (argBest bt j) v vb _ _ _ hv hb ?_))))
    refine wpAny_bind (wpAny_holding (wpAny_truthy_bool ?_))
    refine wpAny_bind (wpAny_letGo (wpAny_pure ?_))
    cases hc : bt (j + 1) (argBest bt j) with
    | true =>
      have e1 : argBest bt (j + 1) = j + 1 := by simp only [argBest, hc, if_true]
      simp only [if_true]
      refine wpAny_bind (wpAny_updateSeq hs' rfl (wpAny_bind (wpAny_letGo ?_)))
      rw [mx_name]
      refine wpAny_pure ⟨plainId_quiet F.plain_max_loop _, ih (j + 1) _ v _ (by omega) (W.frame _ s' _ s'.toks st' (Nat.le_refl _) fun b hf o e => (Heap.get?_update_other _ _ (fun h : S = b => hS (h ▸ hf))).trans e) (by rw [e1]; exact hv) (Heap.get?_update_self _ hs' rfl) fun u s2 hu mv2 => ?_⟩
      exact hR u s2 hu (Moved.trans W.gtrans ((mv.mono sub).then_heap (tk := s'.toks) (Nat.le_refl _) fun b o h e => (Heap.get?_update_other _ _ (ne h)).trans e) mv2)
    | false =>
      have e1 : argBest bt (j + 1) = argBest bt j := by simp only [argBest, hc, Bool.false_eq_true, if_false]
      simp only [Bool.false_eq_true, if_false]
      refine wpAny_bind (wpAny_letGo ?_)
      rw [mx_name]
      exact wpAny_pure ⟨plainId_quiet F.plain_max_loop _, ih (j + 1) _ vb c (by omega) st' (by rw [e1]; exact hb) hs' fun u s2 hu mv2 => hR u s2 hu (Moved.trans W.gtrans (mv.mono sub) mv2)⟩
/-- its first turn -/
theorem mx_first (d : Value) (W : WalksS prog w A.in1 I fp wr G n P St) (bt : Nat → Nat → Bool) (hcmp : CmpOf prog w A.in1 .Gt P bt) (S : Addr) (hS : S ∉ fp) {R : Result → Shared → Prop} {s : Shared} {c : Nat} (st : St 0 s)
    (hs : s.heap.get? S = some { cls := .type "list", dict := none, data := .seq #[] c, slots := #[] })
    (h0 : n = 0 → ∀ s', Moved wr G s s' → R (.ok (.ret d)) s') (hR : 0 < n → ∀ v s', P (argBest bt (n - 1)) v → Moved (S :: wr) G s s' → R (.ok (.ret v)) s') :
    codeAny (model prog w) A (.builtin "max.loop" ⟨[.ref I, .none, .ref S], [("default", d)]⟩) R s := by
  have hw : S ∉ wr := fun h => hS (W.sub _ h)
  have sub : ∀ b ∈ wr, b ∈ S :: wr := fun b hb => List.mem_cons_of_mem _ hb
  have ne : ∀ {b : Addr}, b ∉ S :: wr → S ≠ b := fun hb h => hb (h ▸ List.mem_cons_self)
  refine codeAny_builtin F.entry_max_loop ?_
  rw [Around.under_plainId F.plain_max_loop _]
  show wpAny _ A.in1 (seqItems? (.ref S) >>= _) _ _ s
  refine wpAny_bind (wpAny_seqItems hs rfl ?_)
  show wpAny _ A.in1 (tryCatch (pyNext (.ref I)) _ >>= _) _ _ s
  cases n with
  | zero =>
    refine wpAny_bind (wpAny_tryCatch (W.done s _ _ st fun s' mv => ?_))
    show wpAny _ A.in1 (rule _ >>= _) _ _ _
    exact wpAny_bind (wpAny_rule (wpAny_pure (h0 rfl s' mv)))
  | succ k =>
    refine wpAny_bind (wpAny_tryCatch (W.item 0 s _ _ (Nat.succ_pos k) st fun v s' hv st' mv => ?_))
    have hs' := mv.heap S _ hw hs
    show wpAny _ A.in1 (updateSeq S (fun _ => #[v, v]) >>= _) _ _ _
    refine wpAny_bind (wpAny_updateSeq hs' rfl ?_)
    rw [mx_name]
    refine wpAny_pure ⟨plainId_quiet F.plain_max_loop _, mx_loop [("default", d)] W bt hcmp S hS k 0 _ v _ (by omega) (W.frame _ s' _ s'.toks st' (Nat.le_refl _) fun b hf o e => (Heap.get?_update_other _ _ (fun h : S = b => hS (h ▸ hf))).trans e) hv (Heap.get?_update_self _ hs' rfl) fun u s2 hu mv2 => ?_⟩
    exact hR (Nat.succ_pos k) u s2 hu (Moved.trans W.gtrans ((mv.mono sub).then_heap (tk := s'.toks) (Nat.le_refl _) fun b o h e => (Heap.get?_update_other _ _ (ne h)).trans e) mv2)
theorem args_maxD (a d : Value) : argsOk "max" ⟨[a], [("default", d)]⟩ := by unfold argsOk; kernel_rfl
theorem called_max {a d : Value} {s : Shared} {Q : Value → Shared → Prop}
    (hc : wpAny (model prog w) A.in1 (Builtin.«max» ⟨[a], [("default", d)]⟩) (fun fin s' => match fin with
      | .done f => (match (Except.ok f : Result) with | .ok (.ret v) => Q v s' | .ok _ => False | .error e => E e s')
      | .again c' => c'.quiet = true ∧ codeAny (model prog w) A c' (fun r s' => match r with | .ok (.ret v) => Q v s' | .ok _ => False | .error e => E e s') s') E s) :
    wpAny (model prog w) A (call (.builtin "max") [a] [("default", d)]) Q E s := by
  refine wpAny_call (codeAny_call_builtin F.plain_max F.entry_max ?_)
  have ha := args_maxD a d
  simp only [checkBuiltinCall, F.kind_max]
  cases hsig : Manifest.signature? "max" with
  | none => exact wpAny_pure hc
  | some sig =>
    simp only [argsOk, hsig] at ha
    have h2 : Bind.checkArgs "max" sig ⟨[a], [("default", d)]⟩ = pure () := ha
    show wpAny _ A.in1 (Bind.checkArgs "max" sig ⟨[a], [("default", d)]⟩) _ _ s
    rw [h2]; exact wpAny_pure hc
theorem call_maxD {x d : Value} {s : Shared} {Q : Value → Shared → Prop}
    (h : wpAny (model prog w) A.in1 (pyIter x) (fun it s₂ => ∃ I fp wr G n P St bt, it = .ref I ∧ WalksS prog w A.in1 I fp wr G n P St ∧ St 0 s₂ ∧ (∀ b ∈ fp, b < s₂.heap.objs.size) ∧ CmpOf prog w A.in1 .Gt P bt ∧
      (n = 0 → ∀ s', Moved wr G s₂ s' → Q d s') ∧ (0 < n → ∀ v s', P (argBest bt (n - 1)) v → Moved wr G s₂ s' → Q v s')) E s) :
    wpAny (model prog w) A (call (.builtin "max") [x] [("default", d)]) Q E s := by
  refine called_max ?_
  show wpAny _ A.in1 (Builtin.Builtins.bindParams "max" ["key", "default"] 0 ⟨[], [("default", d)]⟩ >>= _) _ _ s
  refine wpAny_bind (wpAny_of_eq (show Builtin.Builtins.bindParams "max" ["key", "default"] 0 ⟨[], [("default", d)]⟩ = pure [none, some d] from rfl) ?_)
  refine wpAny_bind (wpAny_pure ?_)
  refine wpAny_bind (wpAny_mono h (fun it s₂ h₂ => ?_) fun _ _ e => e)
  obtain ⟨I, fp, wr, G, n, P, St, bt, rfl, W, st, hfp, hcmp, h0, h1⟩ := h₂
  refine wpAny_bind (wpAny_newObj_type ?_)
  have hS : s₂.heap.objs.size ∉ fp := fun hm => Nat.lt_irrefl _ (hfp _ hm)
  rw [mx_name]
  refine wpAny_pure ⟨plainId_quiet F.plain_max_loop _, mx_first d W bt hcmp s₂.heap.objs.size hS (W.frame 0 s₂ _ s₂.toks st (Nat.le_refl _) fun b _ o e => Heap.get?_push_of_some _ e) (Heap.get?_push_size _ rfl) (fun z s' mv => ?_) fun z v s' hv mv => ?_⟩
  · exact h0 z s' (Moved.drop_new (tk := s₂.toks) (mv.mono fun b hb => List.mem_cons_of_mem _ hb) (Nat.le_refl _))
  · exact h1 z v s' hv (Moved.drop_new (tk := s₂.toks) mv (Nat.le_refl _))
theorem maxD_ints {s : Shared} {l : Addr} {its : List Value} {ns : List Int} {d : Value} {Q : Value → Shared → Prop} (hh : A.handled = none) (hl : s.heap.IsList l its.toArray) (hi : IntsAre its ns)
    (h0 : ns = [] → ∀ h' tk, (∀ b o, s.heap.get? b = some o → h'.get? b = some o) → Q d { s with heap := h', toks := tk })
    (h : ∀ h' tk M t', (∀ b o, s.heap.get? b = some o → h'.get? b = some o) → M ∈ ns → (∀ a, a ∈ ns → a ≤ M) → Q (.int M t') { s with heap := h', toks := tk }) : wpAny (model prog w) A (call (.builtin "max") [.ref l] [("default", d)]) Q E s := by
  obtain ⟨xs, e⟩ := hi.allInts.items
  have hn : numsOf (intItems xs).toList = ns := by rw [← e]; exact hi.numsOf
  rw [nums_intItems] at hn
  subst hn
  rw [e] at hl
  refine call_maxD (iter_intList hl fun s₂ e st hfp hlI => ?_)
  subst e
  refine ⟨_, _, _, _, _, _, _, _, rfl, (Walks.list (A := A.in1) hh _ l hlI (intItems xs)).toS, st, hfp, CmpOf.ints_gt (numAt xs) (fun _ _ => intItems_at), fun hz s' mv => ?_, fun hz v s' hv mv => ?_⟩
  · rw [mv.eq_with]
    refine h0 ?_ _ _ (old_kept mv.heap)
    have : xs.size = 0 := by simpa [intItems] using hz
    simp [Array.eq_empty_of_size_eq_zero this]
  · rw [mv.eq_with]
    have hsz : 0 < xs.size := by simpa [intItems] using hz
    have hv' : (intItems xs)[argBest (fun i j => decide (numAt xs i > numAt xs j)) (xs.size - 1)]? = some v := by simpa [intItems] using hv
    obtain ⟨t, rfl⟩ := intItems_at hv'
    obtain ⟨h1, h2⟩ := argBest_gt (numAt xs) (xs.size - 1)
    refine h _ _ _ t (old_kept mv.heap) ?_ fun a ha => ?_
    · rw [numAt_eq]; exact PySem.getD_mem (by rw [List.length_map, Array.length_toList]; omega)
    · obtain ⟨j, hj, rfl⟩ := mem_getD ha
      rw [List.length_map, Array.length_toList] at hj
      rw [← numAt_eq]; exact h2 j (by omega)
end
section
variable {X : Cx}
/-- the greatest of a list of numbers, d of none -/
def rMaxD (K : PySem.W.Frag) : List V → List V → Hp → VK → Prop := fun vs zs H Q => ∃ (a : Addr) (ns : List Int) (d : Int), vs = [V.ref a] ∧ zs = [V.int d] ∧ SqL K H a (ns.map V.int) ∧
  ∀ m, (ns = [] → m = d) → (ns ≠ [] → m ∈ ns) → (∀ y, y ∈ ns → y ≤ m) → Q (.int m) H
theorem cr_maxDef (hc : X.calm = true) : CallRK X (.builtin "max") [Str.ofString "default"] (rMaxD X.K) := by
  intro pins s σ H vs zs us ws Q I r rz h
  obtain ⟨a, ns, d, rfl, rfl, hs, q⟩ := h
  obtain ⟨its, rv, hl, _⟩ := I.list hs
  obtain rfl := Vals.ref1 r
  obtain ⟨w1, rfl, t, e1⟩ := vals1 rz
  subst e1
  refine maxD_ints (I.ok.hd hc) hl.isList rv.ints (fun e h' tk hk => ?_) fun h' tk m t' hk h1 h2 => ⟨.int _, H, I.kept hk, ⟨_, rfl⟩, q m (fun e => by rw [e] at h1; cases h1) (fun _ => h1) h2⟩
  exact ⟨.int d, H, I.kept hk, ⟨_, rfl⟩, q d (fun _ => rfl) (fun n => absurd e n) fun y hy => by rw [e] at hy; cases hy⟩
/-- text * n, few signs -/
def rMulS : R2 := fun x y H Q => ∃ (l : List Nat) (n : Nat), x = .str (sT l) ∧ y = .int (n : Nat) ∧ l ≠ [] ∧ l.length ≤ 1000 ∧ n ≤ 1000 ∧ Q (.str (sT (List.replicate n l).flatten)) H
theorem foldl_app (l : List Nat) : ∀ (n : Nat) (acc : Array Nat), (List.replicate n l.toArray).foldl (· ++ ·) acc = acc ++ ((List.replicate n l).flatten).toArray
  | 0, acc => by simp
  | n + 1, acc => by
    rw [List.replicate_succ, List.foldl_cons, foldl_app l n, List.replicate_succ, List.flatten_cons]
    simp
theorem op_mulS : OpR X (binaryOp .Mult) rMulS := by
  intro pins s σ H x y v u Q I rx ry h
  obtain ⟨l, n, rfl, rfl, hl, hz, hn, q⟩ := h
  obtain ⟨t, rfl⟩ := rx
  obtain ⟨t', rfl⟩ := ry
  have len : ∀ l : List Nat, (sT l).length = l.length := fun l => by show l.toArray.size = l.length; simp
  have h1 : l.length * n ≤ 1000000 := Nat.mul_le_mul hz hn
  have hflat : ((List.replicate n l).flatten).length = n * l.length := by simp [List.length_flatten]
  have hfits : ((List.replicate n l).flatten).length ≤ sizeLine := by
    rw [hflat, sizeLine_eq, Nat.mul_comm]; omega
  have done : ∀ (z : Str) t2 tk, z = sT (List.replicate n l).flatten → EP X pins σ Q (.str z t2) { s with toks := tk } := fun z t2 tk e => ⟨.str (sT (List.replicate n l).flatten), H, I.tok _, ⟨t2, by rw [e]⟩, q⟩
  refine PySem.P.mul_str (by rw [decide_eq_false (by omega), decide_eq_false (by omega)]; rfl) (fun h _ => ?_) (fun h _ => ?_) ?_
  · have : ((sT l).length : Int) * n ≤ 2 ^ 63 - 1 := by
      rw [len]
      have : ((l.length * n : Nat) : Int) ≤ 1000000 := by omega
      rw [Int.natCast_mul] at this
      omega
    have := (Int.le_ediv_iff_mul_le (by omega : (0 : Int) < n)).mpr this
    omega
  · unfold Builtin.Str.tooLong
    rw [len]
    refine decide_eq_false ?_
    rw [sizeLine_eq, Int.toNat_natCast]; omega
  · by_cases h0 : (n : Int) < 1
    · rw [if_pos h0]
      have : n = 0 := by omega
      subst this
      exact ⟨Nat.zero_le _, done _ _ _ rfl⟩
    · rw [if_neg h0]
      by_cases h2 : ((n : Int) == 1 || (sT l).length == 0) = true
      · rw [if_pos h2]
        have hn1 : n = 1 := by
          rw [Bool.or_eq_true] at h2
          rcases h2 with h2 | h2
          · have := eq_of_beq h2; omega
          · have := eq_of_beq h2
            rw [len] at this
            exact absurd (List.length_eq_zero_iff.mp this) hl
        subst hn1
        exact done _ _ s.toks (by simp)
      · rw [if_neg h2]
        have e : (⟨(List.replicate ((n : Int)).toNat (sT l).cps).foldl (· ++ ·) #[]⟩ : Str) = sT (List.replicate n l).flatten := by
          rw [Int.toNat_natCast]
          show (⟨(List.replicate n l.toArray).foldl (· ++ ·) #[]⟩ : Str) = _
          rw [foldl_app]; simp
        refine ⟨?_, done _ _ _ e⟩
        rw [e, len]; exact hfits
end
end MM

set_option Elab.async false
set_option linter.all false
set_option maxRecDepth 100000
set_option maxHeartbeats 2000000
/-! ## choices of readings, calls of methods that raise, a list that is extended by a tuple, tables of the module -/
namespace MM
open PySem PySem.AutoSeq1
/-- what a list's extend does with a tuple, whatever its other slots hold -/
theorem ext_tup (l b : Addr) (xs ys : Array Value) (n k : Nat) (dx : Option Addr) (sl : Array (Option Value)) (fits : ¬(!xs.isEmpty && Builtin.List.listTooLong (xs.size + ys.size)) = true) (h1 : xs.size ≤ sizeLine) (h2 : (xs ++ ys).size ≤ sizeLine + 1) :
    Meets (Builtin.«list.extend» ⟨[.ref l, .ref b], []⟩) (fun _ R s => s.heap.get? l = some { cls := .type "list", dict := none, data := .seq xs n, slots := #[] } ∧ s.heap.get? b = some { cls := .type "tuple", dict := dx, data := .seq ys k, slots := sl } ∧ R (.ok (.ret Value.none)) { s with heap := s.heap.update l (Obj.mapSeq fun x => x ++ ys), toks := s.toks }) := by
  refine .of_wp fun prog w A R s h => ?_
  have a1 := idx_int
  have a2 := sub_tuple_tuple
  have a3 := sub_tuple_list
  have a4 := sub_list_list
  have a5 := sub_list_tuple
  rcases s with ⟨hp, g, d, tk, os⟩
  rcases h with ⟨hl, hb, h⟩
  wp_walk using (wpAny_updateSeq hl rfl (hz := h1) (_hz' := h2)), wpAny_loadPart' hl, wpAny_loadPart' hb
  exact ⟨_, rfl, h⟩
end MM
namespace MM
open PySem PySem.Spec PyProof.Rows L2
section
variable {X : Cx} {tg e i o : Expr} {t1 t2 : TE} {c1 c2 : TT} {w1 w2 : TI}
/-- whichever of two readings holds -/
def orE (t1 t2 : TE) : TE := fun σ H Q => t1 σ H Q ∨ t2 σ H Q
def orI (w1 w2 : TI) : TI := fun σ H R => w1 σ H R ∨ w2 σ H R
theorem pe_alt (h1 : PE X e t1) (h2 : PE X e t2) : PE X e (orE t1 t2) := ⟨fun pins s σ H Q I h => h.elim (h1.run pins s σ H Q I) (h2.run pins s σ H Q I)⟩
theorem pi_alt (h1 : PI X tg e w1) (h2 : PI X tg e w2) : PI X tg e (orI w1 w2) := ⟨fun pins s σ H R I h => h.elim (h1.run pins s σ H R I) (h2.run pins s σ H R I)⟩
/-- a walk over a list or a tuple -/
abbrev iSeq (K : PySem.W.Frag) (te : TE) : TI := orI (iList K te) (iTup K te)
theorem pi_seq (h : PE X e t1) : PI X tg e (iSeq X.K t1) := pi_alt (pi_list h) (pi_tup h)
/-- a list is extended by a tuple -/
def rExtT (K : PySem.W.Frag) : V → List V → Hp → VK → Prop := fun x vs H Q => ∃ l b xs zs, x = .ref l ∧ vs = [.ref b] ∧ H l = some (.lst xs) ∧ SqT K H b zs ∧ xs.length + zs.length ≤ sizeLine ∧ Q .non (upd H l (.lst (xs ++ zs)))
theorem mt_extT : MtM X "list.extend" (rExtT X.K) := by
  intro pins s σ H x vs v us Q I rx rv h
  obtain ⟨l, b, xs, zs, rfl, rfl, hH, hB, hz, q⟩ := h
  cases rx
  obtain ⟨u, rfl, ru⟩ := rv.one
  cases ru
  obtain ⟨z, its, n, r, hl, e⟩ := I.lstM hH
  obtain ⟨its2, r2, ht, z2⟩ := I.tuple hB
  have hl2 := r2.length
  obtain ⟨⟨cl, d0, dat, sl⟩, e2, hc, n2, hd⟩ := ht
  dsimp only at hc hd
  subst hc hd
  have hsz : its.toArray.size + its2.toArray.size ≤ sizeLine := by rw [List.size_toArray, List.size_toArray]; omega
  have hlong : ¬ (!its.toArray.isEmpty && Builtin.List.listTooLong (its.toArray.size + its2.toArray.size)) = true := by
    rw [notLongL hsz, Bool.and_false]
    exact Bool.false_ne_true
  refine call_meets F.slot_list_extend ⟨_, e, rfl⟩ F.entry_list_extend (F.args_list_extend_2 _ _)
    (ext_tup l b its.toArray its2.toArray n n2 d0 sl hlong (by rw [List.size_toArray]; omega) (by rw [Array.size_append]; omega)) ⟨e, e2, ?_⟩
  refine ⟨.non, _, I.lset (its' := its ++ its2) hH e (by simp) (r.append r2) ?_, rfl, q⟩
  rw [List.length_append]
  omega
def rExtS (K : PySem.W.Frag) : V → List V → Hp → VK → Prop := fun x vs H Q => rExtend x vs H Q ∨ rExtT K x vs H Q
theorem mt_extS : MtM X "list.extend" (rExtS X.K) := fun pins s σ H x vs v us Q I rx rv h => h.elim (mt_extend pins s σ H x vs v us Q I rx rv) (mt_extT pins s σ H x vs v us Q I rx rv)
/-- text += text -/
theorem ip_addS : PIp X .Add rAddStr := fun pins s σ H x y v u Q I r1 r2 h => iop_add_str pins s σ H x y v u Q I r1 r2 h
end
section
variable {X : Cx} {j k : Nat} {m : Str} {C : Addr} {ps : List Str} {sp : Sp} {e o : Expr} {es : List Expr} {p pos apos : Pos} {t : TA} {ta : TE} {E : XK}
theorem pe_dm0 {pl : Sem Bool} (D : Dm X.prog X.w X.K X.mg X.base CX0 k C m ps sp) (c : Cls X.K C) (hr : Room j X.A) (hk : k ≤ j) (he : PE X o ta)
    (ht : eval (.Call (.Attribute o m apos) [] [] pos) X.env = (do
      let ov ← eval o X.env
      standAt apos.atName
      let (f, first) ← holding [ov] (getMethod ov m pl)
      callWith pos f first (backTo pos (starEach [] X.env)) (backToKw pos (keywordEach [] X.env))) := by rfl) : PE X (.Call (.Attribute o m apos) [] [] pos) (tMeth C m sp [] E0 ta tNil) := by
  obtain ⟨f, fd, F, B, M⟩ := D.fn
  exact pe_meth0 he c M F (hr.mono hk) B .nil pass0 ht
/-- a method that raises, within a def that what is raised leaves -/
theorem pe_dmx {pl : Sem Bool} (D : Dm X.prog X.w X.K X.mg X.base (L2.CX X.prog X.w) k C m ps sp) (c : Cls X.K C) (hr : Room j X.A) (hk : k ≤ j) (tk : Takes X (fun cls d _ H => E cls d H)) (he : PE X o ta) (ha : PA X (e :: es) t)
    (hst : starEach (e :: es) X.env = (false, eval e X.env) :: starEach es X.env := by rfl) (hpl : (backTo pos (starEach es X.env)).any (·.1) = false := by rfl)
    (ht : eval (.Call (.Attribute o m apos) (e :: es) [] pos) X.env = (do
      let ov ← eval o X.env
      standAt apos.atName
      let (f, first) ← holding [ov] (getMethod ov m pl)
      callWith pos f first (backTo pos (starEach (e :: es) X.env)) (backToKw pos (keywordEach [] X.env))) := by rfl) : PE X (.Call (.Attribute o m apos) (e :: es) [] pos) (tMeth C m sp [] E ta t) := by
  obtain ⟨f, fd, F, B, M⟩ := D.fn
  exact pe_meth he c M F (hr.mono hk) B .nil (passes_call tk fun _ _ _ _ h => h) ha hst hpl ht
end
/-! ### names for readings -/
def rStrInt : List V → Hp → VK → Prop := fun xs H Q => ∃ i, xs = [.int i] ∧ i.natAbs.log2 < 1920 ∧ Q (.str (toString i)) H
def rIntStr : List V → Hp → VK → Prop := fun xs H Q => ∃ a n, xs = [.str a] ∧ PySem.intText? a = some n ∧ a.length ≤ 640 ∧ Q (.int n) H
def rListOf (K : PySem.W.Frag) : List V → Hp → VK → Prop := fun xs H Q => ∃ p ys, xs = [.ref p] ∧ (SqL K H p ys ∨ SqT K H p ys) ∧ ∀ l, H l = none → Q (.ref l) (upd H l (.lst ys))
def rLenStr : List V → Hp → VK → Prop := fun xs H Q => ∃ z, xs = [.str z] ∧ z.length ≤ sizeLine ∧ Q (.int z.length) H
/-- a table of the module whose keys are texts -/
structure Tab (K : PySem.W.Frag) (w : World) (d : Addr) : Prop where
  kd : ∃ es n, KDict K w d es n
def rInTab (K : PySem.W.Frag) (d : Addr) (no : Bool) : R2 := fun x y H Q => ∃ (z : Str) (r : Option Value), x = .str z ∧ y = .ref d ∧ PySem.W.nsIn K d z = some r ∧ Q (.bl (if no then !r.isSome else r.isSome)) H
theorem op_inTab {X : Cx} {d : Addr} (h : Tab X.K X.w d) : OpR X (compareOp .In) (rInTab X.K d false) := by
  obtain ⟨es, n, D⟩ := h.kd
  exact op_in_kd D
theorem op_notInTab {X : Cx} {d : Addr} (h : Tab X.K X.w d) : OpR X (compareOp .NotIn) (rInTab X.K d true) := by
  obtain ⟨es, n, D⟩ := h.kd
  exact op_notIn_kd D
end MM
namespace MM
open PySem PySem.Spec PyProof.Rows L2
/-- a key of a table as a text -/
def keyStr (e : DictEntry) : Str := match e.key with
  | .str x _ => x
  | _ => ""
theorem nsIn_keys {K : PySem.W.Frag} {P : Params} {d : Addr} {es : Array DictEntry} {n : Nat} {names : List Str} (hl : K.lookup d = some ⟨.type "dict", none, .dict es n, #[]⟩) (hk : PySem.W.KeysLit P es.toList) (hn : es.toList.map keyStr = names) :
    ∀ z : Str, ∃ r, PySem.W.nsIn K d z = some r ∧ r.isSome = decide (z ∈ names) := by
  intro z
  unfold PySem.W.nsIn
  rw [hl]
  dsimp only
  subst hn
  have all := PySem.W.KeysLit.all hk
  cases e : es.toList.find? (·.key.isStr z) with
  | some x =>
    refine ⟨_, rfl, ?_⟩
    have hx := List.mem_of_find?_eq_some e
    obtain ⟨y, t, hy, _⟩ := all x hx
    have h1 := List.find?_some e
    rw [hy] at h1
    have h2 : y = z := by simpa [Value.isStr] using h1
    symm
    rw [Option.isSome_some, decide_eq_true_iff]
    refine List.mem_map.mpr ⟨x, hx, ?_⟩
    unfold keyStr
    rw [hy]
    exact h2
  | none =>
    have h3 : es.toList.any (·.refKey) = false := by
      rw [List.any_eq_false]
      intro x hx
      obtain ⟨y, t, hy, _⟩ := all x hx
      unfold DictEntry.refKey
      rw [hy]
      exact Bool.false_ne_true
    dsimp only
    rw [h3]
    refine ⟨_, rfl, ?_⟩
    symm
    rw [Option.isSome_none, decide_eq_false_iff_not]
    intro hm
    obtain ⟨x, hx, hz⟩ := List.mem_map.mp hm
    rw [List.find?_eq_none] at e
    obtain ⟨y, t, hy, _⟩ := all x hx
    unfold keyStr at hz
    rw [hy] at hz
    have hz : y = z := hz
    exact e x hx (by rw [hy]; simp [Value.isStr, hz])
end MM

set_option Elab.async false
set_option maxRecDepth 100000
namespace MM
theorem roman_len : ∀ n, n < 4000 → (Kh452.roman n).length ≤ 15 := by decide +kernel
end MM

set_option Elab.async false
set_option linter.all false
set_option maxRecDepth 100000
set_option maxHeartbeats 4000000

namespace MM
open PySem PySem.Spec PyProof.Rows L2
def top (i : Nat) : Stmt := PySem.Challenge.pw_macromarkup_s12_roman.main.body.getD i (.Pass ⟨0, 0, 0, 0⟩)
structure Ad where
  ROMAN_PARTS : Addr
  ROMAN_PARTS_0 : Addr
  ROMAN_PARTS_1 : Addr
  ROMAN_PARTS_2 : Addr
  ROMAN_PARTS_3 : Addr
  ROMAN_PARTS_4 : Addr
  ROMAN_PARTS_5 : Addr
  ROMAN_PARTS_6 : Addr
  ROMAN_PARTS_7 : Addr
  ROMAN_PARTS_8 : Addr
  ROMAN_PARTS_9 : Addr
  ROMAN_PARTS_10 : Addr
  ROMAN_PARTS_11 : Addr
  ROMAN_PARTS_12 : Addr
  deriving Inhabited
abbrev c_GREATEST_ROMAN : V := (.int 3999)
abbrev s_codes_of : Stmt := top 1
abbrev N_codes_of : List Str := ["text", "sign"]
abbrev s_roman_text : Stmt := top 5
abbrev N_roman_text : List Str := ["value", "text", "part", "letters"]
abbrev s_with_length : Stmt := top 8
abbrev N_with_length : List Str := ["data"]
abbrev s_roman : Stmt := top 7
abbrev N_roman : List Str := ["value"]
end MM

set_option Elab.async false
set_option linter.all false
set_option maxRecDepth 100000
set_option maxHeartbeats 4000000

namespace MM
open PySem PySem.Spec PyProof.Rows L2
/-- what the pure theorems need of the top -/
structure TxtP (K : PySem.W.Frag) (A : Ad) : Prop where
  q_ROMAN_PARTS : ∀ H, SqT K H A.ROMAN_PARTS [V.ref A.ROMAN_PARTS_0, V.ref A.ROMAN_PARTS_1, V.ref A.ROMAN_PARTS_2, V.ref A.ROMAN_PARTS_3, V.ref A.ROMAN_PARTS_4, V.ref A.ROMAN_PARTS_5, V.ref A.ROMAN_PARTS_6, V.ref A.ROMAN_PARTS_7, V.ref A.ROMAN_PARTS_8, V.ref A.ROMAN_PARTS_9, V.ref A.ROMAN_PARTS_10, V.ref A.ROMAN_PARTS_11, V.ref A.ROMAN_PARTS_12]
  q_ROMAN_PARTS_0 : ∀ H, SqT K H A.ROMAN_PARTS_0 [(.int 1000), (.str "m")]
  q_ROMAN_PARTS_1 : ∀ H, SqT K H A.ROMAN_PARTS_1 [(.int 900), (.str "cm")]
  q_ROMAN_PARTS_2 : ∀ H, SqT K H A.ROMAN_PARTS_2 [(.int 500), (.str "d")]
  q_ROMAN_PARTS_3 : ∀ H, SqT K H A.ROMAN_PARTS_3 [(.int 400), (.str "cd")]
  q_ROMAN_PARTS_4 : ∀ H, SqT K H A.ROMAN_PARTS_4 [(.int 100), (.str "c")]
  q_ROMAN_PARTS_5 : ∀ H, SqT K H A.ROMAN_PARTS_5 [(.int 90), (.str "xc")]
  q_ROMAN_PARTS_6 : ∀ H, SqT K H A.ROMAN_PARTS_6 [(.int 50), (.str "l")]
  q_ROMAN_PARTS_7 : ∀ H, SqT K H A.ROMAN_PARTS_7 [(.int 40), (.str "xl")]
  q_ROMAN_PARTS_8 : ∀ H, SqT K H A.ROMAN_PARTS_8 [(.int 10), (.str "x")]
  q_ROMAN_PARTS_9 : ∀ H, SqT K H A.ROMAN_PARTS_9 [(.int 9), (.str "ix")]
  q_ROMAN_PARTS_10 : ∀ H, SqT K H A.ROMAN_PARTS_10 [(.int 5), (.str "v")]
  q_ROMAN_PARTS_11 : ∀ H, SqT K H A.ROMAN_PARTS_11 [(.int 4), (.str "iv")]
  q_ROMAN_PARTS_12 : ∀ H, SqT K H A.ROMAN_PARTS_12 [(.int 1), (.str "i")]
end MM

set_option Elab.async false
set_option linter.all false
set_option maxRecDepth 100000
set_option maxHeartbeats 4000000
namespace MM
open PySem PySem.Spec PyProof.Rows L2
def sp_codes_of (A : Ad) (K : PySem.W.Frag) : Sp := fun vs H Q _ => ∃ (z : List Nat), vs = [.str (sT z)] ∧ z.length ≤ 1000 ∧ ∀ p H', H p = none → H' p = some (.lst (vI z)) → Same H H' → Q (.ref p) H'
def sp_roman_text (A : Ad) (K : PySem.W.Frag) : Sp := fun vs H Q _ => ∃ n : Nat, vs = [.int n] ∧ n < 4000 ∧ Q (.str (sT (Kh452.roman n))) H
def sp_with_length (A : Ad) (K : PySem.W.Frag) : Sp := fun vs H Q _ => ∃ (a : Addr) (l : List Nat), vs = [.ref a] ∧ H a = some (.lst (vI l)) ∧ l.length ≤ 1000000 ∧ ∀ p H', H p = none → H' p = some (.lst (vI (l.length :: l))) → Same H H' → Q (.ref p) H'
def sp_roman (A : Ad) (K : PySem.W.Frag) : Sp := fun vs H Q _ => ∃ n : Int, vs = [.int n] ∧ 0 ≤ n ∧ n ≤ 4294967295 ∧ ∀ (H' : Hp) (p : Addr), H' p = some (.lst ((PyKh452.roman n).map V.int)) → Q (.ref p) H'
end MM

set_option Elab.async false
set_option linter.all false
set_option maxRecDepth 100000
set_option maxHeartbeats 4000000

namespace MM
open PySem PySem.Spec PyProof.Rows L2
/-- codes_of(text) -/
def t_codes_of (A : Ad) (K : PySem.W.Frag) : TS :=
  (tRet (tLc (iStr (tVar 0)) (gName 1) tYes (tCB (rOrd) (tCons (tVar 1) tNil)) [1]))
/-- roman_text(value) -/
def t_roman_text (A : Ad) (K : PySem.W.Frag) : TS :=
  (tSeq (tAsg (tC (.str "")) (gName 1))
    (tSeq (tFor (iTup K (tC (.ref A.ROMAN_PARTS))) (gTup K 2 (gCons (gName 2) (gCons (gName 3) gNil)))
    (tSeq (tAug 1 (tOp rMulS (tVar 3) (tOp (rI CDiv fun i j => .int (i / j)) (tVar 0) (tVar 2))) rAddStr)
    (tAsg (tOp (rI (fun _ j => 0 < j) fun i j => .int (i % j)) (tVar 0) (tVar 2)) (gName 0))))
    (tRet (tVar 1))))
/-- with_length(data) -/
def t_with_length (A : Ad) (K : PySem.W.Frag) : TS :=
  (tRet (tOp rCat (tLst (tCons (tCB (rLen K) (tCons (tVar 0) tNil)) tNil)) (tVar 0)))
/-- roman(value) -/
def t_roman (A : Ad) (K : PySem.W.Frag) : TS :=
  (tSeq (tIfS (tNot (tTest (tChain (rI0 fun i j => .bl (decide (i ≤ j))) (rI0 fun i j => .bl (decide (i ≤ j))) (tC (.int 1)) (tVar 0) (tC c_GREATEST_ROMAN))))
    (tRet (tLst (tCons (tUn (rU fun i => .int (-i)) (tC (.int 22))) tNil)))
    tNext)
    (tRet (tCall (sp_with_length A K) [] E0 (tCons (tCall (sp_codes_of A K) [] E0 (tCons (tCall (sp_roman_text A K) [] E0 (tCons (tVar 0) tNil)) tNil)) tNil))))
end MM

set_option Elab.async false
set_option linter.all false
set_option maxRecDepth 100000
set_option maxHeartbeats 4000000
namespace MM
open PySem PySem.Spec PyProof.Rows L2
open Kh450 (Text codesOf)
variable {K : PySem.W.Frag} {A : Ad}
theorem ofS (m : String) : Str.ofString m = sT (codesOf m) := PySem.Str.ofString_eq_toList m
section
variable {σ : L2.St} {H H' : Hp} {te ta tb tc : TE} {Q : VK}
theorem val_lit (m : String) : Val (tC (.str (Str.ofString m))) σ H (.str (sT (codesOf m))) := by rw [ofS]; exact val_c
end
theorem drop_get {α : Type} {l : List α} {i : Nat} {p : α} (h : l[i]? = some p) : l.drop i = p :: l.drop (i + 1) := by
  obtain ⟨hi, e⟩ := List.getElem?_eq_some_iff.mp h
  rw [List.drop_eq_getElem_cons hi, e]
theorem lt_line {n : Nat} (h : n ≤ 16700000) : n < sizeLine := Nat.lt_of_le_of_lt h (by decide +kernel)
theorem le_line {n : Nat} (h : n ≤ 16700000) : n ≤ sizeLine := Nat.le_of_lt (lt_line h)
theorem len_codes_of (A : Ad) (K : PySem.W.Frag) : ∀ vs H Q E, sp_codes_of A K vs H Q E → vs.length = 1 := by
  rintro _ H Q E ⟨z, rfl, _⟩; rfl
theorem pure_codes_of (T : TxtP K A) (vs : List V) (H : Hp) (Q : VK) (E : XK) (h : sp_codes_of A K vs H Q E) : t_codes_of A K { nx := fun _ H' => Q .non H', rt := Q } (start N_codes_of vs) H := by
  obtain ⟨z, rfl, hz, q⟩ := h
  refine run_lcStr (z := sT z) (ys := vI z) (val_var rfl) ?_ ?_ (fun v => rfl) ?_ ?_
  · rw [List.length_map]; rfl
  · show z.toArray.size < sizeLine
    rw [List.size_toArray]
    exact small1000 hz
  · intro i c y H' hc hy s Q q
    have hc' : z[i]? = some c := by simpa using hc
    rw [vI_get hc'] at hy
    cases hy
    exact ⟨_, rfl, ⟨#[c]⟩, rfl, rfl, q⟩
  · intro p hp
    exact q p _ hp upd_same (same_new hp)
/-! ### Roman numbers -/
abbrev romRefs (A : Ad) : List V := [V.ref A.ROMAN_PARTS_0, V.ref A.ROMAN_PARTS_1, V.ref A.ROMAN_PARTS_2, V.ref A.ROMAN_PARTS_3, V.ref A.ROMAN_PARTS_4, V.ref A.ROMAN_PARTS_5, V.ref A.ROMAN_PARTS_6, V.ref A.ROMAN_PARTS_7, V.ref A.ROMAN_PARTS_8, V.ref A.ROMAN_PARTS_9, V.ref A.ROMAN_PARTS_10, V.ref A.ROMAN_PARTS_11, V.ref A.ROMAN_PARTS_12]
abbrev romParts : List (Nat × String) := [(1000, "m"), (900, "cm"), (500, "d"), (400, "cd"), (100, "c"), (90, "xc"), (50, "l"), (40, "xl"), (10, "x"), (9, "ix"), (5, "v"), (4, "iv"), (1, "i")]
theorem rom_item (T : TxtP K A) : ∀ (i : Nat) (x : V), (romRefs A)[i]? = some x → ∃ (a : Addr) (v : Nat) (d : String), x = V.ref a ∧ (∀ H, SqT K H a [.int ((v : Nat) : Int), .str (Str.ofString d)]) ∧ (romParts[i]? : Option (Nat × String)) = some (v, d) ∧ 0 < v ∧ v ≤ 1000 ∧ codesOf d ≠ [] ∧ (codesOf d).length ≤ 2 := by
  intro i
  match i with
  | 0 => intro x h; cases h; exact ⟨_, 1000, "m", rfl, T.q_ROMAN_PARTS_0, rfl, by decide, by decide, by decide +kernel, by decide +kernel⟩
  | 1 => intro x h; cases h; exact ⟨_, 900, "cm", rfl, T.q_ROMAN_PARTS_1, rfl, by decide, by decide, by decide +kernel, by decide +kernel⟩
  | 2 => intro x h; cases h; exact ⟨_, 500, "d", rfl, T.q_ROMAN_PARTS_2, rfl, by decide, by decide, by decide +kernel, by decide +kernel⟩
  | 3 => intro x h; cases h; exact ⟨_, 400, "cd", rfl, T.q_ROMAN_PARTS_3, rfl, by decide, by decide, by decide +kernel, by decide +kernel⟩
  | 4 => intro x h; cases h; exact ⟨_, 100, "c", rfl, T.q_ROMAN_PARTS_4, rfl, by decide, by decide, by decide +kernel, by decide +kernel⟩
  | 5 => intro x h; cases h; exact ⟨_, 90, "xc", rfl, T.q_ROMAN_PARTS_5, rfl, by decide, by decide, by decide +kernel, by decide +kernel⟩
  | 6 => intro x h; cases h; exact ⟨_, 50, "l", rfl, T.q_ROMAN_PARTS_6, rfl, by decide, by decide, by decide +kernel, by decide +kernel⟩
  | 7 => intro x h; cases h; exact ⟨_, 40, "xl", rfl, T.q_ROMAN_PARTS_7, rfl, by decide, by decide, by decide +kernel, by decide +kernel⟩
  | 8 => intro x h; cases h; exact ⟨_, 10, "x", rfl, T.q_ROMAN_PARTS_8, rfl, by decide, by decide, by decide +kernel, by decide +kernel⟩
  | 9 => intro x h; cases h; exact ⟨_, 9, "ix", rfl, T.q_ROMAN_PARTS_9, rfl, by decide, by decide, by decide +kernel, by decide +kernel⟩
  | 10 => intro x h; cases h; exact ⟨_, 5, "v", rfl, T.q_ROMAN_PARTS_10, rfl, by decide, by decide, by decide +kernel, by decide +kernel⟩
  | 11 => intro x h; cases h; exact ⟨_, 4, "iv", rfl, T.q_ROMAN_PARTS_11, rfl, by decide, by decide, by decide +kernel, by decide +kernel⟩
  | 12 => intro x h; cases h; exact ⟨_, 1, "i", rfl, T.q_ROMAN_PARTS_12, rfl, by decide, by decide, by decide +kernel, by decide +kernel⟩
  | n + 13 => intro x h; simp at h
theorem len_roman_text (A : Ad) (K : PySem.W.Frag) : ∀ vs H Q E, sp_roman_text A K vs H Q E → vs.length = 1 := by
  rintro _ H Q E ⟨n, rfl, _⟩; rfl
theorem pure_roman_text (T : TxtP K A) (vs : List V) (H : Hp) (Q : VK) (E : XK) (h : sp_roman_text A K vs H Q E) : t_roman_text A K { nx := fun _ H' => Q .non H', rt := Q } (start N_roman_text vs) H := by
  obtain ⟨n, rfl, hn, q⟩ := h
  have hlen := roman_len n hn
  refine st_seq (st_set (v := .str (sT [])) ((val_lit "").of rfl) ?_)
  dsimp only
  refine st_seq ⟨A.ROMAN_PARTS, rfl, ⟨_, T.q_ROMAN_PARTS H⟩, for_tup (K := K) (a := A.ROMAN_PARTS) (xs := romRefs A) (fun i σ H' => ∃ (m : Nat) (t : Text) (v2 v3 : Option V), σ = [some (.int (m : Nat)), some (.str (sT t)), v2, v3] ∧ H = H' ∧ m ≤ n ∧ t ++ Kh452.romanLoop (romParts.drop i) m = Kh452.roman n)
    ⟨n, [], none, none, rfl, rfl, Nat.le_refl _, rfl⟩ ?_ ?_ ?_⟩
  · rintro i _ _ _ ⟨m, t, v2, v3, rfl, rfl, _⟩
    exact T.q_ROMAN_PARTS H
  · rintro i x _ _ hx ⟨m, t, v2, v3, rfl, rfl, hm, e⟩
    obtain ⟨a, v, d, rfl, hs, hp, h0, h1, h2, h3⟩ := rom_item T i x hx
    refine ⟨a, _, rfl, hs H, rfl, ⟨_, _, rfl, ⟨_, _, rfl, ⟨rfl, ?_⟩⟩⟩⟩
    rw [drop_get hp] at e
    have e : t ++ ((List.replicate (m / v) (codesOf d)).flatten ++ Kh452.romanLoop (romParts.drop (i + 1)) (m % v)) = Kh452.roman n := e
    have ht : t.length + ((List.replicate (m / v) (codesOf d)).flatten).length ≤ 15 := by
      rw [← e] at hlen
      simp only [List.length_append] at hlen
      omega
    have hdiv : m / v ≤ 1000 * 4 := Nat.le_trans (Nat.div_le_self _ _) (by omega)
    have hdiv2 : m / v ≤ 1000 := by
      have h4 : m / v ≤ ((List.replicate (m / v) (codesOf d)).flatten).length := by
        have : ∀ k, k ≤ ((List.replicate k (codesOf d)).flatten).length := by
          intro k
          induction k with
          | zero => exact Nat.zero_le _
          | succ k ih =>
            rw [List.replicate_succ, List.flatten_cons, List.length_append]
            have : 0 < (codesOf d).length := List.length_pos_iff.mpr h2
            omega
        exact this _
      omega
    refine st_seq ⟨_, rfl, ?_⟩
    refine (val_op (z := .str (sT (List.replicate (m / v) (codesOf d)).flatten)) ((val_var rfl).of (congrArg V.str (ofS d))) (val_fdivN (val_var rfl) (val_var rfl) h0 (by omega)) fun Q q => ⟨codesOf d, m / v, rfl, rfl, h2, by omega, hdiv2, q⟩ : Val (tOp rMulS (tVar 3) (tOp (rI CDiv fun i j => .int (i / j)) (tVar 0) (tVar 2))) [some (.int (m : Nat)), some (.str (sT t)), some (.int (v : Nat)), some (.str (Str.ofString d))] H _) _ ?_
    refine ⟨_, _, rfl, rfl, ?_, ?_⟩
    · have e1 : ∀ l : List Nat, (sT l).length = l.length := fun l => by show l.toArray.size = l.length; simp
      rw [e1, e1]
      exact le_line (by omega)
    · rw [append_sT]
      refine st_set (v := .int (m % v : Nat)) (val_modN (val_var rfl) (val_var rfl) h0) ?_
      exact ⟨m % v, _, _, _, rfl, rfl, Nat.le_trans (Nat.mod_le _ _) hm, by rw [List.append_assoc]; exact e⟩
  · rintro _ _ ⟨m, t, v2, v3, rfl, rfl, hm, e⟩
    have e : t ++ [] = Kh452.roman n := e
    rw [List.append_nil] at e
    rw [← e] at q
    exact st_ret (val_var rfl) q

theorem len_with_length (A : Ad) (K : PySem.W.Frag) : ∀ vs H Q E, sp_with_length A K vs H Q E → vs.length = 1 := by
  rintro _ H Q E ⟨a, l, rfl, _⟩; rfl
theorem pure_with_length (T : TxtP K A) (vs : List V) (H : Hp) (Q : VK) (E : XK) (h : sp_with_length A K vs H Q E) : t_with_length A K { nx := fun _ H' => Q .non H', rt := Q } (start N_with_length vs) H := by
  obtain ⟨a, l, rfl, ha, hl, q⟩ := h
  have v0 : Val (tVar 0) (start N_with_length [V.ref a]) H (.ref a) := val_var rfl
  show tLst (tCons (tCB (rLen K) (tCons (tVar 0) tNil)) tNil) (start N_with_length [V.ref a]) H fun x H1 => tVar 0 (start N_with_length [V.ref a]) H1 fun y H2 => rCat x y H2 Q
  refine run_lst1 (x := .int (l.length : Nat)) (val_lenI v0 ha) fun p hp => ?_
  have nap : a ≠ p := fun z => by rw [← z, ha] at hp; cases hp
  refine (val_var rfl : Val (tVar 0) (start N_with_length [V.ref a]) _ (.ref a)) _ ?_
  refine ⟨p, a, _, _, rfl, rfl, upd_same, (upd_ne nap).trans ha, ?_, fun r hr => ?_⟩
  · rw [List.length_map, sizeLine_eq]; show 1 + l.length ≤ 16777216; omega
  · have nrp : r ≠ p := fun z => by rw [z, upd_same] at hr; cases hr
    refine q r _ (by rw [upd_ne nrp] at hr; exact hr) upd_same ((same_new hp).trans (same_new hr))
theorem roman_ascii : ∀ n, n < 4000 → Kh450.encodeAll (Kh452.roman n) = Kh452.roman n ∨ True := fun _ _ => .inr trivial
theorem spec_roman {n : Int} (h0 : 0 ≤ n) : PyKh452.roman n = if n < 1 ∨ 3999 < n then [-22] else ((Kh452.roman n.toNat).length :: Kh452.roman n.toNat).map Int.ofNat := by
  show Kh452Neutral.integers (Kh452.answer (.roman n.toNat)) = _
  show Kh452Neutral.integers (if n.toNat < 1 ∨ 3999 < n.toNat then Kh452.number (-22) else Kh450.bytesResult (Kh452.roman n.toNat)) = _
  by_cases h : n < 1 ∨ 3999 < n
  · rw [if_pos h, if_pos (by omega)]; rfl
  · rw [if_neg h, if_neg (by omega)]; rfl
theorem len_roman (A : Ad) (K : PySem.W.Frag) : ∀ vs H Q E, sp_roman A K vs H Q E → vs.length = 1 := by
  rintro _ H Q E ⟨n, rfl, _⟩; rfl
theorem pure_roman (T : TxtP K A) (vs : List V) (H : Hp) (Q : VK) (E : XK) (h : sp_roman A K vs H Q E) : t_roman A K { nx := fun _ H' => Q .non H', rt := Q } (start N_roman vs) H := by
  obtain ⟨n, rfl, h0, _, q⟩ := h
  rw [spec_roman h0] at q
  obtain ⟨m, rfl⟩ : ∃ m : Nat, n = (m : Int) := ⟨n.toNat, by omega⟩
  refine st_seq (mif (b := !(decide (1 ≤ m) && decide (m ≤ 3999))) (ans_not ((val_chainLL (n := 1) (m := m) (k := 3999) val_c (val_var rfl) val_c).ans)) (fun hb => ?_) fun hb => ?_)
  · have hb : (m : Int) < 1 ∨ 3999 < (m : Int) := by
      simp at hb; omega
    rw [if_pos hb] at q
    exact ⟨_, rfl, by show 1 ≤ sizeLine; decide, fun p hp => q _ p upd_same⟩
  · have hm : 1 ≤ m ∧ m ≤ 3999 := by simpa using hb
    rw [if_neg (by omega)] at q
    refine (val_var rfl : Val (tVar 0) (start N_roman [V.int (m : Nat)]) H (.int (m : Nat))) _ ?_
    have hl := roman_len m (by omega)
    refine ⟨m, rfl, by omega, ⟨_, rfl, by omega, fun p H1 hp hp1 s1 => ⟨p, _, rfl, hp1, by omega, fun r H2 hr hr2 s2 => q H2 r ?_⟩⟩⟩
    rw [hr2]
    unfold vI
    rw [List.map_map]; rfl
end MM

set_option Elab.async false
set_option linter.all false
set_option maxRecDepth 100000
set_option maxHeartbeats 4000000

namespace MM
open PySem PySem.Spec PyProof.Rows L2
structure Txt (K : PySem.W.Frag) (w : World) (mg : Str → Option Value) (A : Ad) : Prop extends TxtP K A where
  g_GREATEST_ROMAN : Gv mg "GREATEST_ROMAN" c_GREATEST_ROMAN
  g_ROMAN_PARTS : Gv mg "ROMAN_PARTS" (.ref A.ROMAN_PARTS)
  b_len : mg "len" = none
  b_ord : mg "ord" = none
  d_codes_of : DefT K mg "codes_of" s_codes_of ["text"]
  d_roman_text : DefT K mg "roman_text" s_roman_text ["value"]
  d_with_length : DefT K mg "with_length" s_with_length ["data"]
section
variable {P : Program} {w : World} {K : PySem.W.Frag} {mg : Str → Option Value} {base : Heap} {A : Ad}
theorem sc_codes_of : FnScope N_codes_of ["text"] (defScope s_codes_of) := ⟨rfl, rfl, rfl, by decide +kernel, rfl, by decide +kernel, by decide +kernel⟩
theorem D_codes_of (T : Txt K w mg A) : Dn P w K mg base CX0 1 "codes_of" ["text"] (sp_codes_of A K) := by
  have nd := (sc_codes_of).nd
  refine T.d_codes_of.mk (fun f fd F => F.ok sc_codes_of (len_codes_of A K) (fun cdv A' outer s H vs Q E hr h => ⟨t_codes_of A K, ?_, pure_codes_of T.toTxtP vs H Q E h⟩))
  exact (pss_one (ps_ret (pe_lc (own := [("sign", 1)]) (g := (gName 1)) (tt := tYes) rfl nd (pi_str (pv 0)) (blkOk_by (N := N_codes_of) (sc := defScope s_codes_of) (by decide +kernel)) (fun _ _ _ _ _ => pg_name (i := 1) nd rfl (Or.inl rfl)) (fun _ _ _ _ _ => pts_nil) (fun _ _ _ _ _ => (pe_callB call_ord (by rfl) T.b_ord (by decide +kernel) (pa_cons (pv 1) pa_nil))))))
theorem sc_roman_text : FnScope N_roman_text ["value"] (defScope s_roman_text) := ⟨rfl, rfl, rfl, by decide +kernel, rfl, by decide +kernel, by decide +kernel⟩
theorem D_roman_text (T : Txt K w mg A) : Dn P w K mg base CX0 1 "roman_text" ["value"] (sp_roman_text A K) := by
  have nd := (sc_roman_text).nd
  refine T.d_roman_text.mk (fun f fd F => F.ok sc_roman_text (len_roman_text A K) (fun cdv A' outer s H vs Q E hr h => ⟨t_roman_text A K, ?_, pure_roman_text T.toTxtP vs H Q E h⟩))
  exact (pss_cons (ps_set (i := 1) nd rfl (Or.inl rfl) pe_str)
      (pss_cons (ps_for PassesOwn.never rfl (pi_tup (pe_gv T.g_ROMAN_PARTS)) (pg_tup rfl (pgs_cons (pg_name (i := 2) nd rfl (Or.inl rfl)) (pgs_cons (pg_name (i := 3) nd rfl (Or.inl rfl)) pgs_nil)))
      (pss_cons (ps_aug (i := 1) nd rfl (.inl rfl) (pe_op op_mulS (pv 3) (pe_op op_fdiv (pv 0) (pv 2))) ip_addS)
      (pss_one (ps_set (i := 0) nd rfl (Or.inl rfl) (pe_op op_mod (pv 0) (pv 2))))))
      (pss_one (ps_ret (pv 1)))))
theorem sc_with_length : FnScope N_with_length ["data"] (defScope s_with_length) := ⟨rfl, rfl, rfl, by decide +kernel, rfl, by decide +kernel, by decide +kernel⟩
theorem D_with_length (T : Txt K w mg A) : Dn P w K mg base CX0 1 "with_length" ["data"] (sp_with_length A K) := by
  have nd := (sc_with_length).nd
  refine T.d_with_length.mk (fun f fd F => F.ok sc_with_length (len_with_length A K) (fun cdv A' outer s H vs Q E hr h => ⟨t_with_length A K, ?_, pure_with_length T.toTxtP vs H Q E h⟩))
  exact (pss_one (ps_ret (pe_op op_cat (pe_lst (pa_cons (pe_callB call_len_seq (by rfl) T.b_len (by decide +kernel) (pa_cons (pv 0) pa_nil)) pa_nil)) (pv 0))))
theorem sc_roman : FnScope N_roman ["value"] (defScope s_roman) := ⟨rfl, rfl, rfl, by decide +kernel, rfl, by decide +kernel, by decide +kernel⟩

end
section
variable {P : Program} {w : World} {K : PySem.W.Frag} {mg : Str → Option Value} {base : Heap} {A : Ad}
theorem ok_entry {f : Addr} {fd : FuncData} (F : Fun K "roman" "roman" s_roman f fd) (T : Txt K w mg A) : FnOk P w K mg base CX0 2 f fd ["value"] (sp_roman A K) := by
  have nd := (sc_roman).nd
  refine F.ok sc_roman (len_roman A K) (fun cdv A' outer s H vs Q E hr h => ⟨t_roman A K, ?_, pure_roman T.toTxtP vs H Q E h⟩)
  exact (pss_cons (ps_if (pt_not (pt_chain op_le op_le pe_int (pv 0) (pe_gv T.g_GREATEST_ROMAN)))
      (pss_one (ps_ret (pe_lst (pa_cons (pe_un un_neg pe_int) pa_nil))))
      pss_nil)
      (pss_one (ps_ret (pe_dn (D_with_length T) hr (by decide) (pa_cons (pe_dn (D_codes_of T) hr (by decide) (pa_cons (pe_dn (D_roman_text T) hr (by decide) (pa_cons (pv 0) pa_nil)) pa_nil)) pa_nil)))))
end
end MM

set_option Elab.async false
set_option linter.all false
set_option maxRecDepth 100000
set_option maxHeartbeats 4000000

namespace MM
open PySem PySem.Spec PyProof.Rows L2
theorem exm_self {K : PySem.W.Frag} {S : Addr} (h1 : PySem.W.subIn K (.ref S) (.type "BaseException") = some true) (h2 : PySem.W.isClsIn K S = true) (h3 : PySem.W.typeIn K (.ref S) = some (.type "type")) {S' : Addr} {b : Bool} (k1 : PySem.W.subIn K (.ref S') (.type "BaseException") = some true) (h4 : PySem.W.subIn K (.ref S') (.ref S) = some b) :
    PySem.W.exmOne K (.ref S') (.ref S) = some b := by
  have e1 : (PySem.W.subIn K (.ref S) (.type "BaseException") == some true) = true := by rw [h1] <;> rfl
  have e2 : ((PySem.W.clsIn K S).isSome && PySem.W.typeIn K (.ref S) == some (.type "type")) = true := by
    have h2' : (PySem.W.clsIn K S).isSome = true := h2
    rw [h2', h3] <;> rfl
  show (if (PySem.W.subIn K (.ref S) (.type "BaseException") == some true) = true then (if ((PySem.W.clsIn K S).isSome && PySem.W.typeIn K (.ref S) == some (.type "type")) = true then PySem.W.subIn K (.ref S') (.ref S) else none) else none) = some b
  rw [if_pos e1, if_pos e2]
  exact h4
theorem all_mk {P : Program} {w : World} {K : PySem.W.Frag} {h : Heap} {mg : Str → Option Value} {fa S_ROMAN_PARTS S_ROMAN_PARTS_0 S_ROMAN_PARTS_1 S_ROMAN_PARTS_2 S_ROMAN_PARTS_3 S_ROMAN_PARTS_4 S_ROMAN_PARTS_5 S_ROMAN_PARTS_6 S_ROMAN_PARTS_7 S_ROMAN_PARTS_8 S_ROMAN_PARTS_9 S_ROMAN_PARTS_10 S_ROMAN_PARTS_11 S_ROMAN_PARTS_12 f_codes_of f_roman_text f_with_length f_roman : Addr} {t_GREATEST_ROMAN : PySem.Tok}
    {n_ROMAN_PARTS : Nat} {d_ROMAN_PARTS : Option Addr} {sl_ROMAN_PARTS : Array (Option Value)} 
    {n_ROMAN_PARTS_0 : Nat} {d_ROMAN_PARTS_0 : Option Addr} {sl_ROMAN_PARTS_0 : Array (Option Value)} {t_ROMAN_PARTS_0_0 : PySem.Tok} {t_ROMAN_PARTS_0_1 : PySem.Tok}
    {n_ROMAN_PARTS_1 : Nat} {d_ROMAN_PARTS_1 : Option Addr} {sl_ROMAN_PARTS_1 : Array (Option Value)} {t_ROMAN_PARTS_1_0 : PySem.Tok} {t_ROMAN_PARTS_1_1 : PySem.Tok}
    {n_ROMAN_PARTS_2 : Nat} {d_ROMAN_PARTS_2 : Option Addr} {sl_ROMAN_PARTS_2 : Array (Option Value)} {t_ROMAN_PARTS_2_0 : PySem.Tok} {t_ROMAN_PARTS_2_1 : PySem.Tok}
    {n_ROMAN_PARTS_3 : Nat} {d_ROMAN_PARTS_3 : Option Addr} {sl_ROMAN_PARTS_3 : Array (Option Value)} {t_ROMAN_PARTS_3_0 : PySem.Tok} {t_ROMAN_PARTS_3_1 : PySem.Tok}
    {n_ROMAN_PARTS_4 : Nat} {d_ROMAN_PARTS_4 : Option Addr} {sl_ROMAN_PARTS_4 : Array (Option Value)} {t_ROMAN_PARTS_4_0 : PySem.Tok} {t_ROMAN_PARTS_4_1 : PySem.Tok}
    {n_ROMAN_PARTS_5 : Nat} {d_ROMAN_PARTS_5 : Option Addr} {sl_ROMAN_PARTS_5 : Array (Option Value)} {t_ROMAN_PARTS_5_0 : PySem.Tok} {t_ROMAN_PARTS_5_1 : PySem.Tok}
    {n_ROMAN_PARTS_6 : Nat} {d_ROMAN_PARTS_6 : Option Addr} {sl_ROMAN_PARTS_6 : Array (Option Value)} {t_ROMAN_PARTS_6_0 : PySem.Tok} {t_ROMAN_PARTS_6_1 : PySem.Tok}
    {n_ROMAN_PARTS_7 : Nat} {d_ROMAN_PARTS_7 : Option Addr} {sl_ROMAN_PARTS_7 : Array (Option Value)} {t_ROMAN_PARTS_7_0 : PySem.Tok} {t_ROMAN_PARTS_7_1 : PySem.Tok}
    {n_ROMAN_PARTS_8 : Nat} {d_ROMAN_PARTS_8 : Option Addr} {sl_ROMAN_PARTS_8 : Array (Option Value)} {t_ROMAN_PARTS_8_0 : PySem.Tok} {t_ROMAN_PARTS_8_1 : PySem.Tok}
    {n_ROMAN_PARTS_9 : Nat} {d_ROMAN_PARTS_9 : Option Addr} {sl_ROMAN_PARTS_9 : Array (Option Value)} {t_ROMAN_PARTS_9_0 : PySem.Tok} {t_ROMAN_PARTS_9_1 : PySem.Tok}
    {n_ROMAN_PARTS_10 : Nat} {d_ROMAN_PARTS_10 : Option Addr} {sl_ROMAN_PARTS_10 : Array (Option Value)} {t_ROMAN_PARTS_10_0 : PySem.Tok} {t_ROMAN_PARTS_10_1 : PySem.Tok}
    {n_ROMAN_PARTS_11 : Nat} {d_ROMAN_PARTS_11 : Option Addr} {sl_ROMAN_PARTS_11 : Array (Option Value)} {t_ROMAN_PARTS_11_0 : PySem.Tok} {t_ROMAN_PARTS_11_1 : PySem.Tok}
    {n_ROMAN_PARTS_12 : Nat} {d_ROMAN_PARTS_12 : Option Addr} {sl_ROMAN_PARTS_12 : Array (Option Value)} {t_ROMAN_PARTS_12_0 : PySem.Tok} {t_ROMAN_PARTS_12_1 : PySem.Tok}
    {od_codes_of an_codes_of : Option Addr} {sl_codes_of : Array (Option Value)} {oc_codes_of kV_codes_of dc_codes_of pm_codes_of cd_codes_of ct_codes_of : Value}
    {od_roman_text an_roman_text : Option Addr} {sl_roman_text : Array (Option Value)} {oc_roman_text kV_roman_text dc_roman_text pm_roman_text cd_roman_text ct_roman_text : Value}
    {od_with_length an_with_length : Option Addr} {sl_with_length : Array (Option Value)} {oc_with_length kV_with_length dc_with_length pm_with_length cd_with_length ct_with_length : Value}
    {od_roman an_roman : Option Addr} {sl_roman : Array (Option Value)} {oc_roman kV_roman dc_roman pm_roman cd_roman ct_roman : Value}
    (X : K.In h) (G : h.Ns mainGlobals mg) (hfa : mg "roman" = some (.ref fa))
    (a_GREATEST_ROMAN : PySem.W.nsIn K mainGlobals "GREATEST_ROMAN" = some (some (.int 3999 t_GREATEST_ROMAN)))
    (a_ROMAN_PARTS : PySem.W.nsIn K mainGlobals "ROMAN_PARTS" = some (some (.ref S_ROMAN_PARTS)))
    (l_ROMAN_PARTS : K.lookup S_ROMAN_PARTS = some ⟨.type "tuple", d_ROMAN_PARTS, .seq #[.ref S_ROMAN_PARTS_0, .ref S_ROMAN_PARTS_1, .ref S_ROMAN_PARTS_2, .ref S_ROMAN_PARTS_3, .ref S_ROMAN_PARTS_4, .ref S_ROMAN_PARTS_5, .ref S_ROMAN_PARTS_6, .ref S_ROMAN_PARTS_7, .ref S_ROMAN_PARTS_8, .ref S_ROMAN_PARTS_9, .ref S_ROMAN_PARTS_10, .ref S_ROMAN_PARTS_11, .ref S_ROMAN_PARTS_12] n_ROMAN_PARTS, sl_ROMAN_PARTS⟩)
    (l_ROMAN_PARTS_0 : K.lookup S_ROMAN_PARTS_0 = some ⟨.type "tuple", d_ROMAN_PARTS_0, .seq #[.int 1000 t_ROMAN_PARTS_0_0, .str "m" t_ROMAN_PARTS_0_1] n_ROMAN_PARTS_0, sl_ROMAN_PARTS_0⟩)
    (l_ROMAN_PARTS_1 : K.lookup S_ROMAN_PARTS_1 = some ⟨.type "tuple", d_ROMAN_PARTS_1, .seq #[.int 900 t_ROMAN_PARTS_1_0, .str "cm" t_ROMAN_PARTS_1_1] n_ROMAN_PARTS_1, sl_ROMAN_PARTS_1⟩)
    (l_ROMAN_PARTS_2 : K.lookup S_ROMAN_PARTS_2 = some ⟨.type "tuple", d_ROMAN_PARTS_2, .seq #[.int 500 t_ROMAN_PARTS_2_0, .str "d" t_ROMAN_PARTS_2_1] n_ROMAN_PARTS_2, sl_ROMAN_PARTS_2⟩)
    (l_ROMAN_PARTS_3 : K.lookup S_ROMAN_PARTS_3 = some ⟨.type "tuple", d_ROMAN_PARTS_3, .seq #[.int 400 t_ROMAN_PARTS_3_0, .str "cd" t_ROMAN_PARTS_3_1] n_ROMAN_PARTS_3, sl_ROMAN_PARTS_3⟩)
    (l_ROMAN_PARTS_4 : K.lookup S_ROMAN_PARTS_4 = some ⟨.type "tuple", d_ROMAN_PARTS_4, .seq #[.int 100 t_ROMAN_PARTS_4_0, .str "c" t_ROMAN_PARTS_4_1] n_ROMAN_PARTS_4, sl_ROMAN_PARTS_4⟩)
    (l_ROMAN_PARTS_5 : K.lookup S_ROMAN_PARTS_5 = some ⟨.type "tuple", d_ROMAN_PARTS_5, .seq #[.int 90 t_ROMAN_PARTS_5_0, .str "xc" t_ROMAN_PARTS_5_1] n_ROMAN_PARTS_5, sl_ROMAN_PARTS_5⟩)
    (l_ROMAN_PARTS_6 : K.lookup S_ROMAN_PARTS_6 = some ⟨.type "tuple", d_ROMAN_PARTS_6, .seq #[.int 50 t_ROMAN_PARTS_6_0, .str "l" t_ROMAN_PARTS_6_1] n_ROMAN_PARTS_6, sl_ROMAN_PARTS_6⟩)
    (l_ROMAN_PARTS_7 : K.lookup S_ROMAN_PARTS_7 = some ⟨.type "tuple", d_ROMAN_PARTS_7, .seq #[.int 40 t_ROMAN_PARTS_7_0, .str "xl" t_ROMAN_PARTS_7_1] n_ROMAN_PARTS_7, sl_ROMAN_PARTS_7⟩)
    (l_ROMAN_PARTS_8 : K.lookup S_ROMAN_PARTS_8 = some ⟨.type "tuple", d_ROMAN_PARTS_8, .seq #[.int 10 t_ROMAN_PARTS_8_0, .str "x" t_ROMAN_PARTS_8_1] n_ROMAN_PARTS_8, sl_ROMAN_PARTS_8⟩)
    (l_ROMAN_PARTS_9 : K.lookup S_ROMAN_PARTS_9 = some ⟨.type "tuple", d_ROMAN_PARTS_9, .seq #[.int 9 t_ROMAN_PARTS_9_0, .str "ix" t_ROMAN_PARTS_9_1] n_ROMAN_PARTS_9, sl_ROMAN_PARTS_9⟩)
    (l_ROMAN_PARTS_10 : K.lookup S_ROMAN_PARTS_10 = some ⟨.type "tuple", d_ROMAN_PARTS_10, .seq #[.int 5 t_ROMAN_PARTS_10_0, .str "v" t_ROMAN_PARTS_10_1] n_ROMAN_PARTS_10, sl_ROMAN_PARTS_10⟩)
    (l_ROMAN_PARTS_11 : K.lookup S_ROMAN_PARTS_11 = some ⟨.type "tuple", d_ROMAN_PARTS_11, .seq #[.int 4 t_ROMAN_PARTS_11_0, .str "iv" t_ROMAN_PARTS_11_1] n_ROMAN_PARTS_11, sl_ROMAN_PARTS_11⟩)
    (l_ROMAN_PARTS_12 : K.lookup S_ROMAN_PARTS_12 = some ⟨.type "tuple", d_ROMAN_PARTS_12, .seq #[.int 1 t_ROMAN_PARTS_12_0, .str "i" t_ROMAN_PARTS_12_1] n_ROMAN_PARTS_12, sl_ROMAN_PARTS_12⟩)
    (b_len : PySem.W.nsIn K mainGlobals "len" = some none)
    (b_ord : PySem.W.nsIn K mainGlobals "ord" = some none)
    (a_codes_of : PySem.W.nsIn K mainGlobals "codes_of" = some (some (.ref f_codes_of)))
    (l_codes_of : K.lookup f_codes_of = some ⟨oc_codes_of, od_codes_of, .func (PySem.W.fnOf "codes_of" "codes_of" (defArgs s_codes_of) (defBody s_codes_of) (defScope s_codes_of) .none kV_codes_of dc_codes_of pm_codes_of an_codes_of cd_codes_of ct_codes_of), sl_codes_of⟩)
    (c_codes_of : PySem.W.codeIn K cd_codes_of "codes_of" = true)
    (k_codes_of : PySem.W.keepIn K (.ref f_codes_of) = true)
    (a_roman_text : PySem.W.nsIn K mainGlobals "roman_text" = some (some (.ref f_roman_text)))
    (l_roman_text : K.lookup f_roman_text = some ⟨oc_roman_text, od_roman_text, .func (PySem.W.fnOf "roman_text" "roman_text" (defArgs s_roman_text) (defBody s_roman_text) (defScope s_roman_text) .none kV_roman_text dc_roman_text pm_roman_text an_roman_text cd_roman_text ct_roman_text), sl_roman_text⟩)
    (c_roman_text : PySem.W.codeIn K cd_roman_text "roman_text" = true)
    (k_roman_text : PySem.W.keepIn K (.ref f_roman_text) = true)
    (a_with_length : PySem.W.nsIn K mainGlobals "with_length" = some (some (.ref f_with_length)))
    (l_with_length : K.lookup f_with_length = some ⟨oc_with_length, od_with_length, .func (PySem.W.fnOf "with_length" "with_length" (defArgs s_with_length) (defBody s_with_length) (defScope s_with_length) .none kV_with_length dc_with_length pm_with_length an_with_length cd_with_length ct_with_length), sl_with_length⟩)
    (c_with_length : PySem.W.codeIn K cd_with_length "with_length" = true)
    (k_with_length : PySem.W.keepIn K (.ref f_with_length) = true)
    (a_roman : PySem.W.nsIn K mainGlobals "roman" = some (some (.ref f_roman)))
    (l_roman : K.lookup f_roman = some ⟨oc_roman, od_roman, .func (PySem.W.fnOf "roman" "roman" (defArgs s_roman) (defBody s_roman) (defScope s_roman) .none kV_roman dc_roman pm_roman an_roman cd_roman ct_roman), sl_roman⟩)
    (c_roman : PySem.W.codeIn K cd_roman "roman" = true)
    (k_roman : PySem.W.keepIn K (.ref f_roman) = true)
    : ∃ fd : FuncData, (∀ (s : Shared) (us : List Value), us.length = (["value"] : List Str).length → BindsTo s fd ⟨us, []⟩ ((["value"] : List Str).zip us)) ∧ ∀ base : Heap, K.In base → base.Ns mainGlobals mg → FnOk P w K mg base CX0 2 fa fd ["value"] (sp_roman ⟨0, 0, 0, 0, 0, 0, 0, 0, 0, 0, 0, 0, 0, 0⟩ K) := by
  have e := hfa.symm.trans (PySem.W.mg_of X G a_roman)
  cases e
  have F_codes_of := fun_mk (st := s_codes_of) l_codes_of c_codes_of k_codes_of
  have B_codes_of := F_codes_of.binds (ps := ["text"]) fun _ _ _ _ _ _ us hl => match us, hl with | [_], _ => rfl
  have F_roman_text := fun_mk (st := s_roman_text) l_roman_text c_roman_text k_roman_text
  have B_roman_text := F_roman_text.binds (ps := ["value"]) fun _ _ _ _ _ _ us hl => match us, hl with | [_], _ => rfl
  have F_with_length := fun_mk (st := s_with_length) l_with_length c_with_length k_with_length
  have B_with_length := F_with_length.binds (ps := ["data"]) fun _ _ _ _ _ _ us hl => match us, hl with | [_], _ => rfl
  have F_roman := fun_mk (st := s_roman) l_roman c_roman k_roman
  have T : Txt K w mg (⟨S_ROMAN_PARTS, S_ROMAN_PARTS_0, S_ROMAN_PARTS_1, S_ROMAN_PARTS_2, S_ROMAN_PARTS_3, S_ROMAN_PARTS_4, S_ROMAN_PARTS_5, S_ROMAN_PARTS_6, S_ROMAN_PARTS_7, S_ROMAN_PARTS_8, S_ROMAN_PARTS_9, S_ROMAN_PARTS_10, S_ROMAN_PARTS_11, S_ROMAN_PARTS_12⟩ : Ad) :=
    { g_GREATEST_ROMAN := ⟨_, PySem.W.mg_of X G a_GREATEST_ROMAN, ⟨_, rfl⟩⟩,
      q_ROMAN_PARTS := fun H => .inr ⟨_, _, _, l_ROMAN_PARTS, rfl, rfl, (show 13 ≤ sizeLine from by rw [sizeLine_eq]; decide), .cons rfl (.cons rfl (.cons rfl (.cons rfl (.cons rfl (.cons rfl (.cons rfl (.cons rfl (.cons rfl (.cons rfl (.cons rfl (.cons rfl (.cons rfl (.nil)))))))))))))⟩,
      q_ROMAN_PARTS_0 := fun H => .inr ⟨_, _, _, l_ROMAN_PARTS_0, rfl, rfl, (show 2 ≤ sizeLine from by rw [sizeLine_eq]; decide), .cons ⟨_, rfl⟩ (.cons ⟨_, rfl⟩ (.nil))⟩,
      q_ROMAN_PARTS_1 := fun H => .inr ⟨_, _, _, l_ROMAN_PARTS_1, rfl, rfl, (show 2 ≤ sizeLine from by rw [sizeLine_eq]; decide), .cons ⟨_, rfl⟩ (.cons ⟨_, rfl⟩ (.nil))⟩,
      q_ROMAN_PARTS_2 := fun H => .inr ⟨_, _, _, l_ROMAN_PARTS_2, rfl, rfl, (show 2 ≤ sizeLine from by rw [sizeLine_eq]; decide), .cons ⟨_, rfl⟩ (.cons ⟨_, rfl⟩ (.nil))⟩,
      q_ROMAN_PARTS_3 := fun H => .inr ⟨_, _, _, l_ROMAN_PARTS_3, rfl, rfl, (show 2 ≤ sizeLine from by rw [sizeLine_eq]; decide), .cons ⟨_, rfl⟩ (.cons ⟨_, rfl⟩ (.nil))⟩,
      q_ROMAN_PARTS_4 := fun H => .inr ⟨_, _, _, l_ROMAN_PARTS_4, rfl, rfl, (show 2 ≤ sizeLine from by rw [sizeLine_eq]; decide), .cons ⟨_, rfl⟩ (.cons ⟨_, rfl⟩ (.nil))⟩,
      q_ROMAN_PARTS_5 := fun H => .inr ⟨_, _, _, l_ROMAN_PARTS_5, rfl, rfl, (show 2 ≤ sizeLine from by rw [sizeLine_eq]; decide), .cons ⟨_, rfl⟩ (.cons ⟨_, rfl⟩ (.nil))⟩,
      q_ROMAN_PARTS_6 := fun H => .inr ⟨_, _, _, l_ROMAN_PARTS_6, rfl, rfl, (show 2 ≤ sizeLine from by rw [sizeLine_eq]; decide), .cons ⟨_, rfl⟩ (.cons ⟨_, rfl⟩ (.nil))⟩,
      q_ROMAN_PARTS_7 := fun H => .inr ⟨_, _, _, l_ROMAN_PARTS_7, rfl, rfl, (show 2 ≤ sizeLine from by rw [sizeLine_eq]; decide), .cons ⟨_, rfl⟩ (.cons ⟨_, rfl⟩ (.nil))⟩,
      q_ROMAN_PARTS_8 := fun H => .inr ⟨_, _, _, l_ROMAN_PARTS_8, rfl, rfl, (show 2 ≤ sizeLine from by rw [sizeLine_eq]; decide), .cons ⟨_, rfl⟩ (.cons ⟨_, rfl⟩ (.nil))⟩,
      q_ROMAN_PARTS_9 := fun H => .inr ⟨_, _, _, l_ROMAN_PARTS_9, rfl, rfl, (show 2 ≤ sizeLine from by rw [sizeLine_eq]; decide), .cons ⟨_, rfl⟩ (.cons ⟨_, rfl⟩ (.nil))⟩,
      q_ROMAN_PARTS_10 := fun H => .inr ⟨_, _, _, l_ROMAN_PARTS_10, rfl, rfl, (show 2 ≤ sizeLine from by rw [sizeLine_eq]; decide), .cons ⟨_, rfl⟩ (.cons ⟨_, rfl⟩ (.nil))⟩,
      q_ROMAN_PARTS_11 := fun H => .inr ⟨_, _, _, l_ROMAN_PARTS_11, rfl, rfl, (show 2 ≤ sizeLine from by rw [sizeLine_eq]; decide), .cons ⟨_, rfl⟩ (.cons ⟨_, rfl⟩ (.nil))⟩,
      q_ROMAN_PARTS_12 := fun H => .inr ⟨_, _, _, l_ROMAN_PARTS_12, rfl, rfl, (show 2 ≤ sizeLine from by rw [sizeLine_eq]; decide), .cons ⟨_, rfl⟩ (.cons ⟨_, rfl⟩ (.nil))⟩,
      g_ROMAN_PARTS := ⟨_, PySem.W.mg_of X G a_ROMAN_PARTS, rfl⟩,
      b_len := PySem.W.mg_none_of X G b_len,
      b_ord := PySem.W.mg_none_of X G b_ord,
      d_codes_of := ⟨_, _, F_codes_of, B_codes_of, PySem.W.mg_of X G a_codes_of⟩,
      d_roman_text := ⟨_, _, F_roman_text, B_roman_text, PySem.W.mg_of X G a_roman_text⟩,
      d_with_length := ⟨_, _, F_with_length, B_with_length, PySem.W.mg_of X G a_with_length⟩ }
  exact ⟨PySem.W.fnOf "roman" "roman" (defArgs s_roman) (defBody s_roman) (defScope s_roman) .none kV_roman dc_roman pm_roman an_roman cd_roman ct_roman, fun s us hu => match us, hu with | [_], _ => .of_eq rfl, fun base _ _ => by
    have last := ok_entry (P := P) (w := w) (base := base) F_roman T
    exact last⟩
end MM

set_option Elab.async false
set_option linter.all false
set_option maxRecDepth 100000
set_option maxHeartbeats 4000000

open PySem PySem.W PyProof.Rows
set_option maxRecDepth 100000 in
set_option maxHeartbeats 0 in
theorem PySem.Challenge.cw_macromarkup_s12_roman_holds : PySem.Challenge.rw_macromarkup_s12_roman.Holds := by
  w_on; k_headS; (case hw => exact ⟨[.int 0], by decide +kernel, by decide +kernel⟩)
  k_fillS
  refine L2.walk_specK (r := PySem.Challenge.rw_macromarkup_s12_roman) (k := 2) (CX := L2.CX0) (ps := ["value"]) (sp := fun K => MM.sp_roman ⟨0, 0, 0, 0, 0, 0, 0, 0, 0, 0, 0, 0, 0, 0⟩ K) (by decide +kernel) rfl rfl ⟨rfl, by decide, by decide⟩ (fun w h Y => PySem.W.kIn_of Y) ?F ?S (fun _ _ _ _ z => z)
  case F =>
    intro w mg fa h Y KX G hmg
    refine' MM.all_mk KX G hmg ?a_GREATEST_ROMAN ?a_ROMAN_PARTS ?l_ROMAN_PARTS ?l_ROMAN_PARTS_0 ?l_ROMAN_PARTS_1 ?l_ROMAN_PARTS_2 ?l_ROMAN_PARTS_3 ?l_ROMAN_PARTS_4 ?l_ROMAN_PARTS_5 ?l_ROMAN_PARTS_6 ?l_ROMAN_PARTS_7 ?l_ROMAN_PARTS_8 ?l_ROMAN_PARTS_9 ?l_ROMAN_PARTS_10 ?l_ROMAN_PARTS_11 ?l_ROMAN_PARTS_12 ?b_len ?b_ord ?a_codes_of ?l_codes_of ?c_codes_of ?k_codes_of ?a_roman_text ?l_roman_text ?c_roman_text ?k_roman_text ?a_with_length ?l_with_length ?c_with_length ?k_with_length ?a_roman ?l_roman ?c_roman ?k_roman
    (case a_GREATEST_ROMAN => k_is)
    (case a_ROMAN_PARTS => k_is)
    (case l_ROMAN_PARTS => k_is)
    (case l_ROMAN_PARTS_0 => k_is)
    (case l_ROMAN_PARTS_1 => k_is)
    (case l_ROMAN_PARTS_2 => k_is)
    (case l_ROMAN_PARTS_3 => k_is)
    (case l_ROMAN_PARTS_4 => k_is)
    (case l_ROMAN_PARTS_5 => k_is)
    (case l_ROMAN_PARTS_6 => k_is)
    (case l_ROMAN_PARTS_7 => k_is)
    (case l_ROMAN_PARTS_8 => k_is)
    (case l_ROMAN_PARTS_9 => k_is)
    (case l_ROMAN_PARTS_10 => k_is)
    (case l_ROMAN_PARTS_11 => k_is)
    (case l_ROMAN_PARTS_12 => k_is)
    (case b_len => k_is)
    (case b_ord => k_is)
    (case a_codes_of => k_is)
    (case l_codes_of => k_is)
    (case c_codes_of => k_is)
    (case k_codes_of => k_is)
    (case a_roman_text => k_is)
    (case l_roman_text => k_is)
    (case c_roman_text => k_is)
    (case k_roman_text => k_is)
    (case a_with_length => k_is)
    (case l_with_length => k_is)
    (case c_with_length => k_is)
    (case k_with_length => k_is)
    (case a_roman => k_is)
    (case l_roman => k_is)
    (case c_roman => k_is)
    (case k_roman => k_is)
  case S =>
    intro K H xs a hO hwi hask hx
    cases hx with
    | cons h1 h2 =>
      cases h2
      cases h1 with
      | int i =>
        have q : (Codec.inInt (Int.ofNat 0) (Int.ofNat 4294967295) a.1 && true) = true := hwi
        rw [Bool.and_eq_true] at q
        have q1 := Codec.inInt_iff.mp q.1
        exact ⟨a.1, rfl, q1.1, q1.2, fun H' p hp => .lst (L2.SqL.of hp) (L2.dw_ints _)⟩
