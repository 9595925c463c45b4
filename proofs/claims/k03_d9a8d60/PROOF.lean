import PyProof.Rows.All
import Wide.All
import OpenK.AllK
import Wide.FinOn
import KE.KTypeName
import HandS.ForMost
import HandS.ForExc
import HandS.ExcInit
import HandS.ExcIs
import HandS.ExcField
import HandS.IsInst
import HandS.HotCalls
import HandS.Codes
import HandS.StrMore
import HandS.TupAny
import HandS.Walk
import HandS.TupSets
import HandS.DictTup
import HandS.FStr
import KE.KExcIs
import HandS.SortKw
import KE.IntTextLaws
import PyProof.EqAt
import PyProof.EqKinds
import PyProof.TupleCall
import PySem.Challenge.RW_owntables_k03_read_place
set_option Elab.async false
set_option linter.all false
set_option maxRecDepth 100000
set_option maxHeartbeats 2000000
/-! Own errors of the package: word, index, made and told. -/
namespace PySem.W
open PySem PySem.Calls PyProof.Rows Builtin Builtin.ObjectAttr Builtin.Getset_descriptor
section
variable {prog : Program} {w : World} {A : Around} {E : Value → Shared → Prop} {s : Shared} {K : Frag} {x D : Addr} {ox : Obj}
/-- what a class says of the attribute «class» of its instances -/
structure OtCls (K : Frag) (D : Addr) : Prop where
  hga : findIn K (.ref D) "__getattribute__" = some (some (.builtin "BaseException.__getattribute__"))
  hgt : findIn K (.ref D) "__getattr__" = some none
  hsub : subIn K (.ref D) (.type "BaseException") = some true
  hdct : hasDictIn K D = true
  ha : findIn K (.ref D) "__class__" = some (some (.builtin "object.__class__"))
  hn : specialIn K (.builtin "object.__class__") "__get__" = some (some (.builtin "getset_descriptor.__get__"))
  htk : takesIn K (.builtin "object.__class__") = some true
  hm : mroIn K D (.type "object") = some true
theorem ot_class {expr : Bool} {Q : Value → Shared → Prop} (T : OtCls K D) (X : K.In s.heap) (I : InstAt s.heap x ox D none)
    (h : Q (.ref D) { s with toks := s.toks + 1 }) : wpAny (model prog w) A (getAttr (.ref x) "__class__" expr) Q E s := by
  obtain ⟨hga, hgt, hsub, hdct, ha, hn, htk, hm⟩ := T
  have found : findObj K D none "__class__" = some (.bind (.builtin "getset_descriptor.__get__") (.builtin "object.__class__")) :=
    findObj_dataN (by obtain ⟨cd, q, _⟩ := any_some hdct; rw [q]; rfl) ha hn htk
  obtain ⟨hp, gens, dr, tk, os⟩ := s
  have ty := I.type (M := model prog w)
  have l1 := looks_findIn (M := model prog w) X hga
  have l2 := looks_findIn (M := model prog w) X hgt
  have l3 := looks_find (M := model prog w) X I found
  have isx : Looks (model prog w) hp (isInstance (.ref x) (.type "BaseException")) true := ty.andThen (looks_subIn X hsub)
  have e0 : (Value.builtin "BaseException.__getattribute__" == Value.builtin "object.__getattribute__") = false := by decide +kernel
  unfold getAttr getAttrBy
  apply wpAny_bind; apply wpAny_mkText; apply wpAny_holding
  apply wpAny_bind; apply ty.at
  apply wpAny_bind; apply l1.at
  show wpAny _ _ (if (onTheHeap (Value.ref D) && _) = true then _ else _) _ _ _
  rw [e0, Bool.and_false, if_neg Bool.false_ne_true]
  unfold getAttrByItsOwn hookBefore
  apply wpAny_bind
  rw [if_pos (show onTheHeap (Value.ref D) = true from rfl)]
  apply l2.at
  apply wpAny_bind; apply wpAny_attempt; apply wpAny_holding
  unfold callGetattribute
  rw [(by cases expr <;> rfl : (expr && onTheHeap (Value.builtin "BaseException.__getattribute__")) = false), if_neg Bool.false_ne_true]
  unfold boundAndCalled
  rw [PySem.F.excAttr_ValueError.ga.bind (.ref x)]
  apply wpAny_bind; apply wpAny_pure
  show wpAny _ _ (call (.builtin "BaseException.__getattribute__") [.ref x, .str "__class__" tk]) _ _ _
  apply wpAny_call
  apply codeAny_call_builtin PySem.F.excAttr_ValueError.ga.plain PySem.F.entry_bexc_ga
  apply @check_slot (model prog w) _ _ ⟨hp, gens, dr, tk + 1, os⟩ "BaseException.__getattribute__" "BaseException" "__getattribute__" (.ref x) [.str "__class__" tk] [] _ (by decide +kernel) (by decide +kernel) isx (PySem.F.args_bexc_ga (.ref x) (.str "__class__" tk))
  unfold Builtin.«object.__getattribute__»
  refine wpAny_bind (wpAny_of_eq (a := ((Value.ref x : Value), [Value.str "__class__" tk])) (by first | rfl | (simp only [slotArgs]; rfl)) ?_)
  apply wpAny_bind; apply wpAny_pure
  apply wpAny_bind; apply ty.at
  apply wpAny_bind; apply l3.at
  show wpAny _ _ (holding [Value.builtin "object.__class__"] (call _ [.builtin "object.__class__", .ref x, .ref D]) >>= ret) _ _ _
  apply wpAny_bind; apply wpAny_holding; apply wpAny_call
  refine class_get (s := ⟨hp, gens, dr, tk + 1, os⟩) (ox := ox) (od := none) X I hm ?_
  apply wpAny_pure
  show wpAny _ _ (handedOut (.ref D)) _ _ _
  rw [handedOut_of (v := .ref D) rfl]
  exact wpAny_pure h
/-- the written part's class at C keeps its name nm -/
structure OtName (K : Frag) (C : Addr) (nm : Str) : Prop where
  keeps : ∃ (c : Value) (dd : Option Addr) (dat : Data) (sl : Array (Option Value)) (tk : Tok), K.lookup C = some ⟨c, dd, dat, sl⟩ ∧ sl[2]? = some (some (.str nm tk))
  reads : readsIn K C (.type "type") = true
  ty : typeIn K (.ref C) = some (.type "type")
  found : findCls K (.ref C) (.type "type") "__name__" = some (.get (.builtin "getset_descriptor.__get__") (.builtin "type.__name__") (.ref C) (.type "type"))
theorem ot_dga (d tp : Value) (C : Addr) : descrGetArgs ⟨[d, .ref C, tp], []⟩ = pure (d, some (.ref C), given tp) := by kernel_rfl
theorem ot_name {expr : Bool} {nm : Str} {Q : Value → Shared → Prop} (T : OtName K D nm) (X : K.In s.heap)
    (h : ∀ tk u, Q (.str nm tk) { s with toks := u }) : wpAny (model prog w) A (getAttr (.ref D) "__name__" expr) Q E s := by
  obtain ⟨⟨c, dd, dat, sl, tk, hk, hsl⟩, hr, ty, hf⟩ := T
  refine cls_bind X hr hf ?_
  obtain ⟨hp, gens, dr, tks, os⟩ := s
  have t0 : Looks (model prog w) hp (typeOf (.ref D)) (.type "type") := looks_typeIn X ty
  have t1 : Looks (model prog w) hp (isSubtype (.type "type") (.type "type")) true := Looks.of_pure (by rw [isSubtype_type]; kernel_rfl)
  refine wpAny_call (codeAny_call_builtin KF.slot_gs.plain KF.entry_gs (KF.slot_gs.check _ _ _ _ _ _ _ _ ktyn_type (KF.args_gs _ _ _) ?_))
  unfold Builtin.«getset_descriptor.__get__» descrGet
  rw [ot_dga]
  apply wpAny_bind
  apply wpAny_pure
  unfold descrGetter descrCheckInstance descrNameAndClass isInstance
  simp only [ktyn_owner]
  repeat lk
  refine ⟨Code.quiet_builtin _ (by decide +kernel), codeAny_builtin ktyn_entry ?_⟩
  unfold Builtin.«type.__name__» keptObject slotAt
  dsimp only
  refine wpAny_bind (wpAny_bind (wpAny_loadPart (X _ _ hk) (wpAny_pure ?_)))
  dsimp only
  rw [hsl]
  exact wpAny_pure (handed_on rfl (h _ _))
end
end PySem.W
namespace L2
open PySem PySem.Spec PyProof.Rows
/-! ### an exception's own __init__ -/
section
variable {X : Cx} {pos p1 p2 : Pos} {e : Expr} {es : List Expr} {te : TE} {ta : TA}
/-- e.__class__.__name__, e an exception that is being made, without a field so far -/
def tOtName (K : PySem.W.Frag) (te : TE) : TE := fun σ H Q => te σ H fun x H1 => ∃ (a C : Addr) (nm : Str), x = .ref a ∧ H1 a = some (exo a C none) ∧ PySem.W.OtCls K C ∧ PySem.W.OtName K C nm ∧ Q (.str nm) H1
theorem pe_otname (he : PE X e te) (hb : attributeBase e "__class__" X.env (eval e X.env) = eval e X.env := by rfl)
    (hb2 : attributeBase (.Attribute e "__class__" p1) "__name__" X.env (eval (.Attribute e "__class__" p1) X.env) = eval (.Attribute e "__class__" p1) X.env := by rfl) :
    PE X (.Attribute (.Attribute e "__class__" p1) "__name__" pos) (tOtName X.K te) := by
  refine ⟨fun pins s σ H Q I h => ?_⟩
  refine attr_of hb2 (attr_of hb (thn (he.run pins s σ H _ I h) fun u s1 hh => ?_))
  obtain ⟨x, H1, I1, rx, a, C, nm, ex, ea, tc, tn, q⟩ := hh
  subst ex
  obtain rfl : u = Value.ref a := rx
  obtain ⟨t1, ho⟩ := exo_at I1.hok ea
  have J : PySem.W.InstAt s1.heap a _ C none := ⟨ho, rfl, rfl, True.intro⟩
  refine PySem.W.ot_class tc I1.kIn J ?_
  refine PySem.W.ot_name tn I1.kIn fun tk u => ?_
  exact ⟨.str nm, H1, I1.tok u, ⟨tk, rfl⟩, q⟩
/-- a class of the text, its attributes read by the type's own way -/
structure OtRead (K : PySem.W.Frag) (C : Addr) (m : Str) (f : Addr) : Prop where
  rd : PySem.W.readsIn K C (.type "type") = true
  ga : PySem.W.specialIn K (.ref C) "__getattribute__" = some (some (.builtin "type.__getattribute__"))
  at_ : PySem.W.findCls K (.ref C) (.type "type") m = some (.val (.ref f))
  kp : PySem.W.keepIn K (.ref f) = true
/-- B.m(e, ..), B a class of the text, m a def of it -/
theorem pe_otcall {CX : CXT} {k : Nat} {f C : Addr} {fd : FuncData} {ps : List Str} {sp : Sp} {E : XK} {o : Expr} {to : TE} {m : Str} {pl : Sem Bool} (ho : PE X o to) (R : OtRead X.K C m f) (F : FnOk X.prog X.w X.K X.mg X.base CX k f fd ps sp) (hr : Room k X.A) (hb : Binds X.K fd ps []) (hx : Passes CX X E) (ha : PA X (e :: es) ta)
    (hc : eval (.Call (.Attribute o m p2) (e :: es) [] pos) X.env = (do
      let ov ← eval o X.env
      standAt p2.atName
      let (f, first) ← holding [ov] (getMethod ov m pl)
      callWith pos f first (backTo pos (starEach (e :: es) X.env)) (backToKw pos (keywordEach [] X.env))) := by rfl)
    (he : starEach (e :: es) X.env = (false, eval e X.env) :: starEach es X.env := by rfl) (hpl : (backTo pos (starEach es X.env)).any (·.1) = false := by rfl) :
    PE X (.Call (.Attribute o m p2) (e :: es) [] pos) (fun σ H Q => to σ H fun x H1 => x = .ref C ∧ ta σ H1 fun vs H2 => sp vs H2 Q E) := by
  refine ⟨fun pins s σ H Q I h => ?_⟩
  refine PySem.W.methodCall_KW (thn (ho.run pins s σ H _ I h) fun u s1 hh => ?_) hc
  obtain ⟨x, H1, I1, rx, ex, q⟩ := hh
  subst ex
  obtain rfl : u = Value.ref C := rx
  refine PySem.W.method_cls I1.kIn R.ga (PySem.W.cls_value I1.kIn R.rd R.at_ rfl ?_)
  have I2 := I1.tok (s1.toks + 1)
  show wpAny _ _ (callWith pos (Value.ref f) [] (backTo pos (starEach (e :: es) X.env)) []) _ _ _
  refine PySem.W.callWith_K (h₀ := X.base) I2.ok.mod.kin R.kp (thn (ha.run pos pins _ σ H1 _ I2 q) fun us s2 hh2 => ?_) he hpl
  obtain ⟨vs, H2, I3, r3, q3⟩ := hh2
  exact ⟨I3.kIn, run_fn F hr hb .nil hx I3 r3 (by rw [List.append_nil]; exact q3)⟩
end
end L2

namespace L2
open PySem PySem.Spec PyProof.Rows
/-- all that is asked of an own class of error, its name nm -/
structure OtErr (K : PySem.W.Frag) (C : Addr) (nm : Str) : Prop where
  ox : OexC K C
  oc : PySem.W.OtCls K C
  on : PySem.W.OtName K C nm
  nw : PySem.W.findIn K (.ref C) "word" = some none
  ni : PySem.W.findIn K (.ref C) "index" = some none
section
variable {P : Program} {w : World} {K : PySem.W.Frag} {mg : Str → Option Value} {base : Heap}
/-- TableError.__init__ -/
def spTE (K : PySem.W.Frag) : Sp := fun vs H Q _ => ∃ (a C : Addr) (nm : Str), vs = [.ref a] ∧ H a = some (exo a C none) ∧ OtErr K C nm ∧
  ∀ d, H d = none → d ≠ a → Q .non (upd (upd H d (exd d [("word", .str nm)])) a (exo a C (some d)))
theorem ok_te {q : Str} {st : Stmt} {f : Addr} {fd : FuncData} {p1 p2 p3 p4 p5 p6 : Pos} (F : Fun K "__init__" q st f fd) (S : FnScope ["self"] ["self"] (defScope st))
    (v : Vis (defScope st) "self") (hb : defBody st = [.Assign [.Attribute (.Name "self" p1) "word" p2] (.Attribute (.Attribute (.Name "self" p3) "__class__" p4) "__name__" p5) p6]) :
    FnOk P w K mg base CX0 1 f fd ["self"] (spTE K) := by
  refine F.ok S (fun vs H Q E h => ?_) (fun cdv A outer s H vs Q E hr h => ?_)
  · obtain ⟨a, C, nm, rfl, _⟩ := h
    rfl
  · obtain ⟨a, C, nm, rfl, ha, T, k⟩ := h
    rw [hb]
    refine ⟨_, pss_one (ps_ost (pv 0 rfl v) (pe_otname (pv 0 rfl v))), ?_⟩
    refine ⟨_, rfl, a, C, nm, rfl, ha, T.oc, T.on, _, rfl, a, C, rfl, T.ox, T.nw, Or.inl ⟨ha, fun d nd ne => ?_⟩⟩
    exact k d nd ne
/-- IndexedError.__init__ -/
def spIE (K : PySem.W.Frag) : Sp := fun vs H Q _ => ∃ (a C : Addr) (nm : Str) (v : V), vs = [.ref a, v] ∧ H a = some (exo a C none) ∧ OtErr K C nm ∧
  ∀ d, H d = none → d ≠ a → Q .non (upd (upd (upd H d (exd d [("word", .str nm)])) a (exo a C (some d))) d (exd d [("index", v), ("word", .str nm)]))
end
end L2

/-! ### defs that are handed the error that an except suite holds -/
namespace L2
open PySem PySem.Spec PyProof.Rows
/-- a promise that knows the held error: where it stands, its class, its dict -/
abbrev SpE := Addr → Value → Option Addr → Sp
structure FnE (P : Program) (w : World) (K : PySem.W.Frag) (mg : Str → Option Value) (base : Heap) (k : Nat) (f : Addr) (fd : FuncData) (ps : List Str) (sp : SpE) : Prop where
  len : ∀ a c d vs H Q E, sp a c d vs H Q E → vs.length = ps.length
  run : ∀ (A : Around) (outer : List Env) (s : Shared) (H : Hp) (args : Args) (us : List Value) (vs : List V) (Q : VK) (p : Addr × Obj) (c : Value) (d : Option Addr), L2H.RoomH k A → L2H.PinOk outer H s p → Zc c d p.2 → (∃ fs, p.2.data = .fields fs) →
    Env0 P w K mg base A outer s H → BindsTo s fd args (ps.zip us) → Vals vs us → sp p.1 c d vs H Q E0 → codeAny (model P w) A (.call (.ref f) args) (CR CX0 outer P w H s Q E0) s
theorem fnE_of {P : Program} {w : World} {K : PySem.W.Frag} {mg : Str → Option Value} {base : Heap} {k : Nat} {x : Str} {st : Stmt} {f : Addr} {fd : FuncData} {N ps : List Str} {sp : SpE} (F : C8.Fun K x x st f fd) (S : FnScope N ps (C8.fnScope st))
    (len : ∀ a c d vs H Q E, sp a c d vs H Q E → vs.length = ps.length)
    (body : ∀ (cdv : Value) (A : Around) (outer : List Env) (s : Shared) (H : Hp) (vs : List V) (Q : VK) (p : Addr × Obj) (c : Value) (d : Option Addr), Zc c d p.2 → (∃ fs, p.2.data = .fields fs) → L2H.RoomH k (A.deeper (envOfC x (C8.fnScope st) s.heap.objs.size f cdv)) → sp p.1 c d vs H Q E0 →
      ∃ t, PSs (L2H.cxH CX0 P w K mg base N x (C8.fnScope st) f cdv A outer s H E0 p) (C8.fnBody st) t ∧ t { nx := fun _ H' => Q .non H', rt := Q } (L2.start N vs) H) :
    FnE P w K mg base (k + 1) f fd ps sp := by
  obtain ⟨oc, od, dV, kV, doc, pm, an, cdv, ct, osl, rfl, lk, hcd⟩ := F.ex
  constructor
  · exact len
  intro A outer s H args us vs Q p c d room pin zc fld env binds rel want
  have size := len _ _ _ _ _ _ _ want
  have old : ∀ b o, base.get? b = some o → s.heap.get? b = some o := fun b o z => (env.bs b o z).1
  have inK : K.In s.heap := env.mod.kin.keeps old
  have kinds : ∀ y ∈ ps.zip us, (C8.fnScope st).names.lookup y.1 = some .local ∨
      ((C8.fnScope st).names.lookup y.1 = some .cell ∧ ((cellsFrom (s.heap.objs.size + 1) (C8.fnScope st).names []).lookup y.1).isSome = true) := by
    intro y hy
    have my := (List.of_mem_zip (a := y.1) (b := y.2) hy).1
    exact (S.par y.1 my).imp id fun z => ⟨z, PySem.W.cellsFrom_some _ _ _ (Or.inl z)⟩
  apply codeAny_call_function room.depth (inK _ _ lk) rfl S.co S.gen rfl (PySem.W.codeRec_of inK hcd)
  apply binds
  apply wpAny_newFunctionEnv_cells S.kind kinds
  intro env1 he s1 called
  subst he
  refine ⟨(env.mod.nolimit.keeps old).keeps called.toInCall.keep, codeAny_func ?_⟩
  obtain ⟨t, ht, read⟩ := body cdv A outer s H vs Q p c d zc fld (room.deeper _) want
  have I0 : Inv (L2H.cxH CX0 P w K mg base N x (C8.fnScope st) f cdv A outer s H E0 p) [] (L2.start N vs) H s1 := L2H.inv_startH S pin env size rel called
  refine wpAny_mono (ht.run [] s1 (L2.start N vs) H _ I0 read) (fun fl s2 q => ?_) fun _ _ q => q
  cases fl with
  | ret u =>
    obtain ⟨v, σ2, H2, J, rv, z⟩ := q
    exact ⟨v, H2, J.os, J.bare, J.base, J.hok, rv, z⟩
  | next =>
    obtain ⟨σ2, H2, J, z⟩ := q
    exact ⟨.non, H2, J.os, J.bare, J.base, J.hok, rfl, z⟩
  | brk =>
    obtain ⟨_, _, _, z⟩ := q
    exact z.elim
  | cont =>
    obtain ⟨_, _, _, z⟩ := q
    exact z.elim
section
variable {X : Cx} {p : Addr × Obj} {c : Value} {d : Option Addr} {k : Nat} {f : Addr} {fd : FuncData} {ps : List Str} {sp : SpE} {x : Str} {q pos : Pos} {e : Expr} {es : List Expr} {t : TA} {te : TE}
/-- f(e, ..) where the error is held -/
theorem pe_callE (F : FnE X.prog X.w X.K X.mg X.base k f fd ps sp) (hr : L2H.RoomH k X.A) (hp : p ∈ X.pn) (zc : Zc c d p.2) (fld : ∃ fs, p.2.data = .fields fs) (hg : Gl X x) (hm : X.mg x = some (.ref f)) (hk : PySem.W.keepIn X.K (.ref f) = true) (hb : Binds X.K fd ps [])
    (ha : PA X (e :: es) t) (hdb : (x == ("__debug__" : Str)) = false := by decide) (he : starEach (e :: es) X.env = (false, eval e X.env) :: starEach es X.env := by rfl) (hpl : (backTo pos (starEach es X.env)).any (·.1) = false := by rfl) :
    PE X (.Call (.Name x q) (e :: es) [] pos) (fun σ H Q => t σ H fun vs H1 => sp p.1 c d vs H1 Q E0) := by
  constructor
  intro pins s σ H Q I want
  apply wpAny_Call_Name_kw
  refine ld_glob I hg hm ?_ hdb
  refine PySem.W.callWith_K (h₀ := X.base) I.ok.mod.kin hk (thn (ha.run pos pins s σ H _ I want) ?_) he hpl
  rintro us s1 ⟨vs, H1, J, rel, z⟩
  refine ⟨J.kIn, ?_⟩
  have size : us.length = ps.length := by
    rw [← rel.length]
    exact F.len _ _ _ _ _ _ _ z
  have bind := hb s1 us J.kIn (by rw [List.append_nil]; exact size)
  rw [List.append_nil] at bind
  obtain ⟨p1, p2, p3, p4, p5⟩ := J.pin p (List.mem_append_left _ hp)
  have pin : L2H.PinOk X.stack H1 s1 p := ⟨p1, p2, fun z => (List.mem_cons.mp (J.stkSub p.1 z)).elim p3 p4, p5⟩
  refine wpAny_call (codeAny_mono (F.run X.A X.stack s1 H1 ⟨us, []⟩ us vs Q p c d hr pin zc fld J.env0 bind rel z) ?_)
  intro r s2 got
  cases r with
  | error er => exact got.elim
  | ok fl =>
    cases fl with
    | ret u => exact J.after got
    | next => exact got.elim
    | brk => exact got.elim
    | cont => exact got.elim
/-- the held error is an instance of its class -/
theorem heldAt {pins : List (Addr × Obj)} {σ : L2.St} {H : Hp} {s : Shared} {C dd : Addr} {fs : List (Str × V)} (I : Inv X pins σ H s) (hp : p ∈ X.pn) (zc : Zc (.ref C) (some dd) p.2) (fld : ∃ fs, p.2.data = .fields fs) (hd : H dd = some (.xd fs)) :
    ∃ od, PySem.W.InstAt s.heap p.1 p.2 C (some od) ∧ ∀ n v, fs.lookup n = some v → ∃ u, RelV v u ∧ PySem.W.lookIn n od = some (some u) := by
  obtain ⟨at1, _⟩ := I.pin p (List.mem_append_left _ hp)
  obtain ⟨vs, hdat⟩ := fld
  obtain ⟨mA, hns, hr⟩ := (show ObjOk X.prog X.w H s.heap dd (.xd fs) from I.hok dd _ hd)
  obtain ⟨od, ho, hl⟩ := lookIn_ns hns
  refine ⟨od, ⟨at1, zc.1, by unfold PySem.W.notCls; rw [hdat] <;> rfl, by rw [zc.2]; exact ho⟩, fun n v l => ?_⟩
  obtain ⟨u, hu, ru⟩ := RelO.some_of (v := v) (o := mA n) (by rw [← l]; exact hr n)
  exact ⟨u, ru, by rw [hl, hu]⟩
/-- isinstance(e, T), e the held error -/
theorem call_isX (hp : p ∈ X.pn) (zc : Zc c d p.2) (fld : ∃ fs, p.2.data = .fields fs) : CallR X (.builtin "isinstance") (fun xs H Q => ∃ (C dd : Addr) (fs : List (Str × V)) (y : V) (u : Value) (b : Bool),
    xs = [.ref p.1, y] ∧ c = .ref C ∧ d = some dd ∧ PySem.W.OtCls X.K C ∧ H dd = some (.xd fs) ∧ ClsV y u ∧ PySem.W.kitOne X.K (.ref C) u = some b ∧ Q (.bl b) H) := by
  rintro pins s σ H xs us Q I rel ⟨C, dd, fs, y, u, b, rfl, rfl, rfl, T, hd, hy, hb, z⟩
  obtain ⟨u1, u2, rfl, r1, r2⟩ := vals2 rel
  cases (show u1 = Value.ref p.1 from r1)
  cases hy.eq r2
  obtain ⟨od, J, _⟩ := heldAt I hp zc fld hd
  have isC : (PySem.W.clsIn X.K C).isSome = true := by
    obtain ⟨cd, q, _⟩ := PySem.W.any_some T.hdct
    rw [q]
    rfl
  exact PySem.W.kia_one (PySem.W.kitx_exc isC T.hga T.hgt T.hsub T.ha T.hn T.htk T.hm) I.kIn J hb (fun z => nomatch z) fun tk => ⟨.bl b, H, I.tok tk, rfl, z⟩
/-- e.n, e the held error, n a field of its own -/
theorem pe_fX {n : Str} (hp : p ∈ X.pn) (zc : Zc c d p.2) (fld : ∃ fs, p.2.data = .fields fs) (he : PE X e te) (hb : attributeBase e n X.env (eval e X.env) = eval e X.env := by rfl) :
    PE X (.Attribute e n pos) (fun σ H Q => te σ H fun y H1 => ∃ (C dd : Addr) (fs : List (Str × V)) (v : V), y = .ref p.1 ∧ c = .ref C ∧ d = some dd ∧ PySem.W.OtCls X.K C ∧ PySem.W.findIn X.K (.ref C) n = some none ∧ H1 dd = some (.xd fs) ∧ fs.lookup n = some v ∧ Q v H1) := by
  constructor
  intro pins s σ H Q I want
  refine attr_of hb (thn (he.run pins s σ H _ I want) ?_)
  rintro u s1 ⟨y, H1, J1, ry, C, dd, fs, v, rfl, rfl, rfl, T, hno, hd, hl, z⟩
  obtain rfl : u = Value.ref p.1 := ry
  obtain ⟨od, J, look⟩ := heldAt J1 hp zc fld hd
  obtain ⟨w1, rw1, lw⟩ := look n v hl
  exact HandSPX.exc_get J1.kIn J T.hga T.hgt T.hsub (PySem.W.findObj_own T.hdct hno rfl lw) (handed_of rw1) ⟨v, H1, J1.tok _, rw1, z⟩
end
end L2

namespace OT
open PySem
theorem b_int : bootBuiltins "int" = some (.type "int") := by decide +kernel
theorem b_str : bootBuiltins "str" = some (.type "str") := by decide +kernel
theorem b_bool : bootBuiltins "bool" = some (.type "bool") := by decide +kernel
theorem b_list : bootBuiltins "list" = some (.type "list") := by decide +kernel
theorem b_tuple : bootBuiltins "tuple" = some (.type "tuple") := by decide +kernel
theorem b_len : bootBuiltins "len" = some (.builtin "len") := by decide +kernel
theorem b_isinstance : bootBuiltins "isinstance" = some (.builtin "isinstance") := by decide +kernel
theorem b_any : bootBuiltins "any" = some (.builtin "any") := by decide +kernel
theorem b_all : bootBuiltins "all" = some (.builtin "all") := by decide +kernel
theorem b_sum : bootBuiltins "sum" = some (.builtin "sum") := by decide +kernel
theorem b_min : bootBuiltins "min" = some (.builtin "min") := by decide +kernel
theorem b_max : bootBuiltins "max" = some (.builtin "max") := by decide +kernel
theorem b_sorted : bootBuiltins "sorted" = some (.builtin "sorted") := by decide +kernel
theorem b_abs : bootBuiltins "abs" = some (.builtin "abs") := by decide +kernel
theorem b_ValueError : bootBuiltins "ValueError" = some (.type "ValueError") := by decide +kernel
end OT

set_option Elab.async false
set_option linter.all false
set_option maxRecDepth 100000
set_option maxHeartbeats 2000000
namespace OT
open PySem PySem.Spec PyProof.Rows L2
def topS (i : Nat) : Stmt := PySem.Challenge.pw_owntables_k03_read_place.main.body.getD i (.Pass ⟨0, 0, 0, 0⟩)
abbrev s_TableError___init__ : Stmt := inClass (topS 1) 0
theorem sc_TableError___init__ : FnScope ["self"] ["self"] (C8.fnScope s_TableError___init__) := C8.fnScope_by (by decide +kernel)
abbrev s_IndexedError___init__ : Stmt := inClass (topS 2) 0
theorem sc_IndexedError___init__ : FnScope ["self", "index"] ["self", "index"] (C8.fnScope s_IndexedError___init__) := C8.fnScope_by (by decide +kernel)
abbrev s_is_decimal : Stmt := topS 7
theorem sc_is_decimal : FnScope ["text", "digits"] ["text"] (C8.fnScope s_is_decimal) := C8.fnScope_by (by decide +kernel)
abbrev s_first_bad_piece : Stmt := topS 8
theorem sc_first_bad_piece : FnScope ["pieces", "index", "piece"] ["pieces"] (C8.fnScope s_first_bad_piece) := C8.fnScope_by (by decide +kernel)
abbrev s_write_place : Stmt := topS 9
theorem sc_write_place : FnScope ["place", "x"] ["place"] (C8.fnScope s_write_place) := C8.fnScope_by (by decide +kernel)
abbrev s_read_place : Stmt := topS 10
theorem sc_read_place : FnScope ["text", "pieces", "bad", "piece"] ["text"] (C8.fnScope s_read_place) := C8.fnScope_by (by decide +kernel)
abbrev s__law_cell : Stmt := topS 12
theorem sc__law_cell : FnScope ["_law_script", "_law_k"] ["_law_script", "_law_k"] (C8.fnScope s__law_cell) := C8.fnScope_by (by decide +kernel)
abbrev s__law_draws : Stmt := topS 13
theorem sc__law_draws : FnScope ["_law_cell_here", "_law_sizes", "_law_draws_here", "_law_rest", "_law_k", "_law_mixed"] ["_law_cell_here", "_law_sizes"] (C8.fnScope s__law_draws) := C8.fnScope_by (by decide +kernel)
abbrev s__law_is_integer : Stmt := topS 14
theorem sc__law_is_integer : FnScope ["_law_actual"] ["_law_actual"] (C8.fnScope s__law_is_integer) := C8.fnScope_by (by decide +kernel)
abbrev s__law_is_place : Stmt := topS 15
theorem sc__law_is_place : FnScope ["_law_actual", "_law_x"] ["_law_actual"] (C8.fnScope s__law_is_place) := C8.fnScope_by (by decide +kernel)
abbrev s__law_is_error : Stmt := topS 16
theorem sc__law_is_error : FnScope ["_law_e", "_law_word"] ["_law_e", "_law_word"] (C8.fnScope s__law_is_error) := C8.fnScope_by (by decide +kernel)
abbrev s__law_odd_piece : Stmt := topS 17
theorem sc__law_odd_piece : FnScope ["_law_which", "_law_pieces"] ["_law_which"] (C8.fnScope s__law_odd_piece) := C8.fnScope_by (by decide +kernel)
abbrev s__law_piece : Stmt := topS 18
theorem sc__law_piece : FnScope ["_law_cell_here", "_law_draws_here", "_law_digits", "_law_k"] ["_law_cell_here"] (C8.fnScope s__law_piece) := C8.fnScope_by (by decide +kernel)
abbrev s__law_place : Stmt := topS 19
theorem sc__law_place : FnScope ["_law_cell_here", "_law_draws_here", "_law_place_here"] ["_law_cell_here"] (C8.fnScope s__law_place) := C8.fnScope_by (by decide +kernel)
abbrev s__law_decimal : Stmt := topS 20
theorem sc__law_decimal : FnScope ["_law_piece_here", "_law_digits", "_law_sign"] ["_law_piece_here"] (C8.fnScope s__law_decimal) := C8.fnScope_by (by decide +kernel)
abbrev s__law_first_bad : Stmt := topS 21
theorem sc__law_first_bad : FnScope ["_law_pieces", "_law_k"] ["_law_pieces"] (C8.fnScope s__law_first_bad) := C8.fnScope_by (by decide +kernel)
abbrev s__law_refused : Stmt := topS 22
theorem sc__law_refused : FnScope ["_law_e", "_law_index"] ["_law_e", "_law_index"] (C8.fnScope s__law_refused) := C8.fnScope_by (by decide +kernel)
abbrev s__law_asked : Stmt := topS 23
theorem sc__law_asked : FnScope ["_law_text", "_law_pieces", "_law_bad", "_law_e", "_law_actual", "_law_piece_here"] ["_law_text"] (C8.fnScope s__law_asked) := C8.fnScope_by (by decide +kernel)
abbrev s_law : Stmt := topS 24
theorem sc_law : FnScope ["_law_script", "_law_draws_here", "_law_text", "_law_odd", "_law_place_here", "_law_written", "_law_texts", "_law_turn", "_law_told", "_law_each", "_law_k", "_law_x"] ["_law_script"] (C8.fnScope s_law) := C8.fnScope_by (by decide +kernel)
theorem iteD {c A B : Prop} [Decidable c] (h1 : c → A) (h2 : ¬ c → B) : if decide c = true then A else B := by
  by_cases h : c
  · rw [decide_eq_true h]
    exact iteT (h1 h)
  · rw [decide_eq_false h]
    exact iteF (h2 h)
theorem iteND {c A B : Prop} [Decidable c] (h1 : ¬ c → A) (h2 : c → B) : if (!decide c) = true then A else B := by
  by_cases h : c
  · rw [decide_eq_true h]
    exact iteF (h2 h)
  · rw [decide_eq_false h]
    exact iteT (h1 h)
theorem iteB {c : Bool} {A B : Prop} (h1 : c = true → A) (h2 : c = false → B) : if c = true then A else B := by
  cases c with
  | true => exact iteT (h1 rfl)
  | false => exact iteF (h2 rfl)
theorem atI_int {ns : List Int} {k : Int} (h0 : 0 ≤ k) (h1 : k < (ns.length : Int)) : ∃ c, atI (ns.map V.int) k = some (.int c) ∧ ns[k.toNat]? = some c := by
  obtain ⟨j, rfl⟩ := Int.eq_ofNat_of_zero_le h0
  have hj : j < ns.length := by omega
  refine ⟨ns[j], atI_nat ?_, ?_⟩
  · rw [List.getElem?_map, List.getElem?_eq_getElem hj]
    rfl
  · rw [Int.toNat_natCast, List.getElem?_eq_getElem hj]
theorem same_upd {H : Hp} {p : Addr} {o : HO} (h : H p = none) : Same H (upd H p o) := fun b x e => by
  rw [upd_ne (ne_of_none e h)]
  exact e
theorem same_mut {H H' : Hp} {p : Addr} {o : HO} (e : Same H H') (h : H p = none) : Same H (upd H' p o) := fun b x z => by
  rw [upd_ne (ne_of_none z h)]
  exact e b x z
theorem same_t {K : PySem.W.Frag} {H H' : Hp} {a : Addr} {xs : List V} (e : Same H H') (h : SqT K H a xs) : SqT K H' a xs := by
  rcases h with (h | ⟨o, h⟩) | h
  · exact .inl (.inl (e _ _ h))
  · exact .inl (.inr ⟨o, e _ _ h⟩)
  · exact .inr h
/-- the module's names that stay the built-in ones -/
structure Bi (mg : Str → Option Value) : Prop where
  n_len : mg "len" = none
  n_int : mg "int" = none
  n_str : mg "str" = none
  n_bool : mg "bool" = none
  n_list : mg "list" = none
  n_tuple : mg "tuple" = none
  n_range : mg "range" = none
  n_enumerate : mg "enumerate" = none
  n_isinstance : mg "isinstance" = none
section
variable {P : Program} {w : World} {K : PySem.W.Frag} {mg : Str → Option Value} {base : Heap}
/-! ### a cell of the script -/
def spCell (K : PySem.W.Frag) : Sp := fun vs H Q _ => ∃ (a : Addr) (ns : List Int) (k : Int), vs = [.ref a, .int k] ∧ SqL K H a (ns.map V.int) ∧ 0 ≤ k ∧ ∀ c : Int, Q (.int c) H
theorem c__law_cell {f : Addr} {fd : FuncData} (D : C8.Def K mg "_law_cell" s__law_cell f fd) (b : Binds K fd ["_law_script", "_law_k"] []) (T : Bi mg) : C8.Cal P w K mg base 1 "_law_cell" (spCell K) [] := by
  refine C8.cal0 D b .nil sc__law_cell (fun vs H Q E h => ?_) (fun cdv A outer s H vs Q E hr h => ?_)
  · obtain ⟨a, ns, k, rfl, _⟩ := h
    rfl
  · obtain ⟨a, ns, k, rfl, hS, hk, q⟩ := h
    refine ⟨_, (pss_cons (ps_if (pt_cmpR op_lt (pv 1) (pe_callB call_len_seq (by rfl) T.n_len OT.b_len (pa_cons (pv 0) pa_nil)) (nomark _)) (pss_one (ps_ret (pe_ix ix_list (pv 0) (pv 1) (fun _ _ => rfl)))) pss_nil)
  (pss_cons (ps_if (pt_cmpR op_eq (pe_callB call_len_seq (by rfl) T.n_len OT.b_len (pa_cons (pv 0) pa_nil)) pe_int (nomark _)) (pss_one (ps_ret (pe_op op_add (pe_op op_mul pe_int (pv 1)) pe_int))) pss_nil)
  (pss_one (ps_ret (pe_op op_mod (pe_callTy call_int1 (by rfl) T.n_int OT.b_int (pa_cons (pe_op op_add (pe_op op_add (pe_op op_mul (pe_ix ix_list (pv 0) (pe_op op_mod (pe_callTy call_int1 (by rfl) T.n_int OT.b_int (pa_cons (pv 1) pa_nil)) (pe_callB call_len_seq (by rfl) T.n_len OT.b_len (pa_cons (pv 0) pa_nil))) (fun _ _ => rfl)) pe_int) (pe_op op_mul pe_int (pv 1))) pe_int) pa_nil)) pe_int))))), ?_⟩
    refine ⟨_, rfl, _, rfl, a, _, rfl, .inl hS, _, _, rfl, rfl, _, rfl, ?_⟩
    refine iteD (fun h1 => ?_) (fun h1 => ?_)
    · rw [List.length_map] at h1
      obtain ⟨c, hc, _⟩ := atI_int hk h1
      exact ⟨_, rfl, _, rfl, a, _, _, _, rfl, rfl, hS, hc, q c⟩
    · refine ⟨_, rfl, a, _, rfl, .inl hS, rfl, _, rfl, ?_⟩
      refine iteD (fun h2 => ?_) (fun h2 => ?_)
      · exact ⟨_, rfl, _, _, rfl, rfl, .inl ⟨by decide, by decide⟩, _, _, rfl, rfl, q _⟩
      · have hp : 0 < ns.length := by
          have h3 : ¬ (V.int ((ns.map V.int).length : Int) = V.int 0) := h2
          rw [List.length_map] at h3
          cases ns with
          | nil => exact absurd rfl h3
          | cons x r => exact Nat.succ_pos _
        have hm : 0 ≤ k % (ns.length : Int) := Int.emod_nonneg _ (by omega)
        have hm2 : k % (ns.length : Int) < ns.length := Int.emod_lt_of_pos _ (by omega)
        obtain ⟨c, hc, _⟩ := atI_int hm hm2
        refine ⟨_, rfl, _, rfl, .inl ⟨k, rfl, _, rfl, a, _, rfl, .inl hS, k, _, rfl, rfl, ?_, a, _, _, _, rfl, rfl, hS, ?_, c, _, rfl, rfl, .inr ⟨by decide, by decide⟩, _, rfl, _, _, rfl, rfl, .inl ⟨by decide, by decide⟩, _, _, rfl, rfl, _, _, rfl, rfl, .inl ⟨_, rfl, _, _, rfl, rfl, by show (0 : Int) < 2147483647; decide, q _⟩⟩⟩
        · rw [List.length_map]
          show (0 : Int) < (ns.length : Int)
          omega
        · rw [List.length_map]
          exact hc
/-! ### draws -/
theorem cmul_m1 (x y : Int) : CMul (x % 2147483647) y := by
  refine .inl ?_
  have h1 := Int.emod_nonneg x (show (2147483647 : Int) ≠ 0 by decide)
  have h2 := Int.emod_lt_of_pos x (show (0 : Int) < 2147483647 by decide)
  have h3 : (2 : Int) ^ 64 = 18446744073709551616 := by decide
  omega
theorem cmul_m2 (x y : Int) : CMul (x % 2147483629) y := by
  refine .inl ?_
  have h1 := Int.emod_nonneg x (show (2147483629 : Int) ≠ 0 by decide)
  have h2 := Int.emod_lt_of_pos x (show (0 : Int) < 2147483629 by decide)
  have h3 : (2 : Int) ^ 64 = 18446744073709551616 := by decide
  omega

def InR (ds zs : List Int) : Prop := ds.length = zs.length ∧ ∀ (i : Nat) (d z : Int), ds[i]? = some d → zs[i]? = some z → 0 ≤ d ∧ d < z
def spDraws (K : PySem.W.Frag) : Sp := fun vs H Q _ => ∃ (a : Addr) (zs : List Int) (c : Int), vs = [.int c, .ref a] ∧ SqL K H a (zs.map V.int) ∧ zs.length ≤ 1000 ∧ (∀ z ∈ zs, 0 < z ∧ z < 1073741824) ∧
  ∀ (ds : List Int) H' p, InR ds zs → Same H H' → H p = none → H' p = some (.lst (ds.map V.int)) → Q (.ref p) H'
theorem c__law_draws {f : Addr} {fd : FuncData} (D : C8.Def K mg "_law_draws" s__law_draws f fd) (b : Binds K fd ["_law_cell_here", "_law_sizes"] []) (T : Bi mg) : C8.Cal P w K mg base 1 "_law_draws" (spDraws K) [] := by
  refine C8.cal0 D b .nil sc__law_draws (fun vs H Q E h => ?_) (fun cdv A outer s H vs Q E hr h => ?_)
  · obtain ⟨a, zs, c, rfl, _⟩ := h
    rfl
  · obtain ⟨a, zs, c, rfl, hS, hl, hz, q⟩ := h
    refine ⟨_, (pss_cons (ps_set (i := 2) sc__law_draws.nd rfl (Or.inl rfl) (pe_lst pa_nil))
  (pss_cons (ps_set (i := 3) sc__law_draws.nd rfl (Or.inl rfl) (pe_op op_sub (pv 0) (pe_op op_pow pe_int pe_int)))
  (pss_cons (ps_for PassesOwn.never rfl (pi_range1 rfl T.n_range (pa_cons (pe_callB call_len_seq (by rfl) T.n_len OT.b_len (pa_cons (pv 1) pa_nil)) pa_nil)) (pg_name (i := 4) sc__law_draws.nd rfl (Or.inl rfl)) (pss_one (ps_if (pt_cmpR op_ge (pv 0) (pe_op op_pow pe_int pe_int) (nomark _)) (pss_cons (ps_expr (pe_bm PySem.F.plainAttrs_list PySem.F.slot_list_append PySem.F.type_list_append mt_append (pv 2) (pa_cons (pe_op op_mod (pe_callTy call_int1 (by rfl) T.n_int OT.b_int (pa_cons (pv 3) pa_nil)) (pe_ix ix_list (pv 1) (pv 4) (fun _ _ => rfl))) pa_nil)))
  (pss_one (ps_set (i := 3) sc__law_draws.nd rfl (Or.inl rfl) (pe_op op_fdiv (pv 3) (pe_ix ix_list (pv 1) (pv 4) (fun _ _ => rfl)))))) (pss_cons (ps_set (i := 5) sc__law_draws.nd rfl (Or.inl rfl) (pe_op op_mod (pe_callTy call_int1 (by rfl) T.n_int OT.b_int (pa_cons (pe_op op_add (pe_op op_add (pv 0) (pe_op op_mul pe_int (pv 4))) pe_int) pa_nil)) pe_int))
  (pss_cons (ps_set (i := 5) sc__law_draws.nd rfl (Or.inl rfl) (pe_op op_mod (pe_callTy call_int1 (by rfl) T.n_int OT.b_int (pa_cons (pe_op op_mul (pv 5) (pe_op op_add (pv 5) pe_int)) pa_nil)) pe_int))
  (pss_cons (ps_set (i := 5) sc__law_draws.nd rfl (Or.inl rfl) (pe_op op_mod (pe_callTy call_int1 (by rfl) T.n_int OT.b_int (pa_cons (pe_op op_add (pe_op op_mul (pv 5) (pe_op op_add (pv 5) pe_int)) (pe_op op_mul pe_int (pv 4))) pa_nil)) pe_int))
  (pss_one (ps_expr (pe_bm PySem.F.plainAttrs_list PySem.F.slot_list_append PySem.F.type_list_append mt_append (pv 2) (pa_cons (pe_op op_mod (pe_callTy call_int1 (by rfl) T.n_int OT.b_int (pa_cons (pe_op op_fdiv (pv 5) pe_int) pa_nil)) (pe_ix ix_list (pv 1) (pv 4) (fun _ _ => rfl))) pa_nil))))))))))
  (pss_one (ps_ret (pv 2)))))), ?_⟩
    refine ⟨Nat.zero_le _, fun p np => ?_⟩
    have s1 : Same H (upd H p (.lst [])) := same_upd np
    refine ⟨_, rfl, 10, 18, rfl, rfl, ?cp, _, _, rfl, rfl, ?_⟩
    case cp => exact ⟨by decide, by decide⟩
    refine ⟨_, rfl, a, _, rfl, .inl (s1.seq hS), _, rfl, ?_, ?_, ?_⟩
    · rw [List.length_map]
      omega
    · rw [List.length_map]
      have : (2 : Int) ^ 62 = 4611686018427387904 := by decide
      omega
    rw [List.length_map, Int.toNat_natCast]
    refine for_range (fun i σ H2 => ∃ (ds : List Int) (r : Int) (y4 y5 : Option V), σ = [some (.int c), some (.ref a), some (.ref p), some (.int r), y4, y5] ∧ Same H H2 ∧ H2 p = some (.lst (ds.map V.int)) ∧ InR ds (zs.take i)) ?_ ?_ ?_
    · exact ⟨[], _, none, none, rfl, s1, upd_same, rfl, fun i d z h => by simp at h⟩
    · rintro i σ H2 hi ⟨ds, r, y4, y5, rfl, sm, hp, hr2⟩
      have hzi : zs[i]? = some zs[i] := List.getElem?_eq_getElem hi
      obtain ⟨z1, z2⟩ := hz zs[i] (List.getElem_mem hi)
      have hix : atI (zs.map V.int) ((0 : Int) + (i : Int)) = some (.int zs[i]) := by
        rw [Int.zero_add]
        exact atI_nat (by rw [List.getElem?_map, hzi]; rfl)
      have hS2 := sm.seq hS
      have hlen : ds.length = i := by
        rw [hr2.1, List.length_take]
        omega
      have hlt : (ds.map V.int).length < sizeLine := by
        rw [List.length_map]
        exact small1000 (by omega)
      have more : ∀ x : Int, InR (ds ++ [x % zs[i]]) (zs.take (i + 1)) := fun x => by
        refine ⟨?_, fun j d z h1 h2 => ?_⟩
        · rw [List.length_append, List.length_take, hlen]
          simp
          omega
        · by_cases hj : j < i
          · rw [List.getElem?_append_left (by omega)] at h1
            rw [List.getElem?_take_of_lt (by omega)] at h2
            exact hr2.2 j d z h1 (by rw [List.getElem?_take_of_lt hj]; exact h2)
          · by_cases ej : j = i
            · subst ej
              rw [List.getElem?_append_right (by omega), hlen, Nat.sub_self] at h1
              rw [List.getElem?_take_of_lt (by omega), hzi] at h2
              have e1 : x % zs[j] = d := Option.some.inj h1
              have e2 : zs[j] = z := Option.some.inj h2
              rw [← e1, ← e2]
              exact ⟨Int.emod_nonneg _ (by omega), Int.emod_lt_of_pos _ z1⟩
            · rw [List.getElem?_eq_none (by rw [List.length_take]; omega)] at h2
              cases h2
      have fin : ∀ (x r' : Int) (y4 y5 : Option V), ∃ (ds2 : List Int) (r2 : Int) (z4 z5 : Option V), [some (.int c), some (.ref a), some (.ref p), some (.int r'), y4, y5] = [some (.int c), some (.ref a), some (.ref p), some (.int r2), z4, z5] ∧
          Same H (upd H2 p (.lst (ds.map V.int ++ [V.int (x % zs[i])]))) ∧ (upd H2 p (.lst (ds.map V.int ++ [V.int (x % zs[i])]))) p = some (.lst (ds2.map V.int)) ∧ InR ds2 (zs.take (i + 1)) := fun x r' y4 y5 => by
        refine ⟨ds ++ [x % zs[i]], r', y4, y5, rfl, same_mut sm np, ?_, more x⟩
        rw [upd_same, List.map_append]
        rfl
      refine ⟨_, rfl, 10, 18, rfl, rfl, ⟨by decide, by decide⟩, _, _, rfl, rfl, _, rfl, ?_⟩
      refine iteD (fun _ => ?_) (fun _ => ?_)
      · refine ⟨_, rfl, .inl ⟨rfl, _, .inl (.inl hp)⟩, _, rfl, .inl ⟨r, rfl, _, rfl, _, rfl, a, _, _, _, rfl, rfl, hS2, hix, _, _, rfl, rfl, z1, p, _, _, rfl, rfl, hp, hlt, ?_⟩⟩
        have sm3 : Same H (upd H2 p (.lst (ds.map V.int ++ [V.int (r % zs[i])]))) := same_mut sm np
        refine ⟨_, rfl, _, rfl, _, rfl, a, _, _, _, rfl, rfl, sm3.seq hS, hix, _, _, rfl, rfl, ⟨z1, z2⟩, ?_⟩
        exact fin _ _ _ _
      · refine ⟨_, rfl, _, rfl, _, _, rfl, rfl, .inl ⟨by decide, by decide⟩, _, _, rfl, rfl, _, _, rfl, rfl, .inl ⟨_, rfl, _, _, rfl, rfl, by show (0 : Int) < 2147483647; decide, ?_⟩⟩
        refine ⟨_, rfl, _, rfl, _, _, rfl, rfl, _, _, rfl, rfl, cmul_m1 _ _, .inl ⟨_, rfl, _, _, rfl, rfl, by show (0 : Int) < 2147483629; decide, ?_⟩⟩
        refine ⟨_, rfl, _, rfl, _, _, rfl, rfl, _, _, rfl, rfl, cmul_m2 _ _, _, rfl, _, _, rfl, rfl, .inl ⟨by decide, by decide⟩, _, _, rfl, rfl, .inl ⟨_, rfl, _, _, rfl, rfl, by show (0 : Int) < 2147483647; decide, ?_⟩⟩
        refine ⟨_, rfl, .inl ⟨rfl, _, .inl (.inl hp)⟩, _, rfl, _, _, rfl, rfl, ⟨by decide, by decide⟩, .inl ⟨_, rfl, _, rfl, _, rfl, a, _, _, _, rfl, rfl, hS2, hix, _, _, rfl, rfl, z1, p, _, _, rfl, rfl, hp, hlt, ?_⟩⟩
        exact fin _ _ _ _
    · rintro σ H2 ⟨ds, r, y4, y5, rfl, sm, hp, hr2⟩
      rw [List.take_length] at hr2
      exact ⟨_, rfl, q ds H2 p hr2 sm np hp⟩
end
end OT

set_option Elab.async false
set_option linter.all false
set_option maxRecDepth 100000
set_option maxHeartbeats 2000000
namespace OT
open PySem PySem.Spec PyProof.Rows L2
open TL (tl)
/-! ### decimal texts, sign by sign -/
def bodyL : List Nat → List Nat
  | [] => []
  | c :: r => if c = 45 then r else c :: r
theorem bodyL_45 (r : List Nat) : bodyL (45 :: r) = r := by
  show (if 45 = 45 then r else 45 :: r) = r
  rw [if_pos rfl]
theorem bodyL_ne {c : Nat} (r : List Nat) (h : ¬ c = 45) : bodyL (c :: r) = c :: r := by
  show (if c = 45 then r else c :: r) = c :: r
  rw [if_neg h]
def digsL (l : List Nat) : Bool := l.all fun c => decide (48 ≤ c ∧ c ≤ 57)
def decL (l : List Nat) : Bool := !(bodyL l).isEmpty && (digsL (bodyL l) && (decide ((bodyL l).head? ≠ some 48) || decide (l = [48])))
theorem tl_minus : tl ("-" : Str) = [45] := by decide +kernel
theorem tl_zero : tl ("0" : Str) = [48] := by decide +kernel
theorem tl_empty : tl ("" : Str) = [] := by decide +kernel
theorem tl_inj {x y : Str} : x = y ↔ tl x = tl y := ⟨fun h => by rw [h], TL.ext_tl⟩
theorem tl_rm (z : Str) : tl (Txt.removeprefix z ("-" : Str)) = bodyL (tl z) := by
  have hl : ("-" : Str).length = 1 := by decide +kernel
  unfold Txt.removeprefix
  rw [PySem.StrLaws.subAt_eq, hl, List.drop_zero]
  show tl (Txt.affix z (if ((tl z).take 1 == tl ("-" : Str)) = true then some (1, z.length) else none)) = _
  rw [tl_minus]
  have hlen := TL.len_tl z
  cases e : tl z with
  | nil =>
    rw [if_neg (by simp)]
    exact e
  | cons c r =>
    by_cases hc : c = 45
    · subst hc
      rw [if_pos (by simp)]
      unfold Txt.affix
      dsimp only
      have h1 : (z.length - 1 == z.length) = false := by
        rw [e] at hlen
        rw [List.length_cons] at hlen
        simp
        omega
      rw [h1, if_neg Bool.false_ne_true, TL.tl_strSub_end, e]
      rfl
    · rw [if_neg (by simpa using hc)]
      show tl z = _
      rw [e, bodyL_ne r hc]
theorem ascii_digit {l : List Nat} : (l.all (· < 128) && (decide (l.length > 0) && l.all Unicode.isDigit)) = (!l.isEmpty && digsL l) := by
  have key : ∀ c : Nat, (decide (c < 128) && Unicode.isDigit c) = decide (48 ≤ c ∧ c ≤ 57) := fun c => by
    by_cases h : c < 128
    · have q : ∀ c, c < 128 → Unicode.isDigit c = decide (48 ≤ c ∧ c ≤ 57) := by decide +kernel
      rw [q c h, decide_eq_true h, Bool.true_and]
    · rw [decide_eq_false h, Bool.false_and]
      exact (decide_eq_false (by omega)).symm
  have all2 : ∀ l : List Nat, (l.all (· < 128) && l.all Unicode.isDigit) = digsL l := by
    intro l
    induction l with
    | nil => rfl
    | cons c r ih =>
      have k := key c
      unfold digsL at ih ⊢
      simp only [List.all_cons]
      rw [← ih, ← k]
      cases decide (c < 128) <;> cases Unicode.isDigit c <;> simp
  rw [← all2 l]
  cases l with
  | nil => rfl
  | cons c r =>
    have h : decide ((c :: r).length > 0) = true := decide_eq_true (Nat.succ_pos _)
    rw [h]
    simp
theorem all_tl (z : Str) (p : Nat → Bool) : z.cps.all p = (tl z).all p := by
  rw [← Array.all_toList]
section
variable {P : Program} {w : World} {K : PySem.W.Frag} {mg : Str → Option Value} {base : Heap}
def spDec : Sp := fun vs H Q _ => ∃ z : Str, vs = [.str z] ∧ z.length ≤ 1000 ∧ Q (.bl (decL (tl z))) H
theorem rm_len (z : Str) : (Txt.removeprefix z ("-" : Str)).length ≤ z.length := by
  rw [TL.len_tl, TL.len_tl, tl_rm]
  cases tl z with
  | nil => exact Nat.le_refl _
  | cons c r =>
    by_cases h : c = 45
    · subst h
      rw [bodyL_45]
      exact Nat.le_succ _
    · rw [bodyL_ne r h]
      exact Nat.le_refl _
theorem c_is_decimal {f : Addr} {fd : FuncData} (D : C8.Def K mg "is_decimal" s_is_decimal f fd) (b : Binds K fd ["text"] []) (T : Bi mg) : C8.Cal P w K mg base 1 "is_decimal" spDec [] := by
  refine C8.cal0 D b .nil sc_is_decimal (fun vs H Q E h => ?_) (fun cdv A outer s H vs Q E hr h => ?_)
  · obtain ⟨z, rfl, _⟩ := h
    rfl
  · obtain ⟨z, rfl, hz, q⟩ := h
    refine ⟨_, (pss_cons (ps_set (i := 1) sc_is_decimal.nd rfl (Or.inl rfl) (pe_m1 PySem.F.slot_str_removeprefix PySem.F.type_str_removeprefix mt_removeprefix (pv 0) pe_str))
  (pss_cons (ps_if (PW.pt (pw_or (pt_not (pt_val (pe_m0 PySem.F.slot_str_isascii PySem.F.type_str_isascii mt_isascii (pv 1)))) (pw_or1 (pt_not (pt_val (pe_m0 PySem.F.slot_str_isdigit PySem.F.type_str_isdigit mt_isdigit (pv 1))))))) (pss_one (ps_ret pe_bl)) pss_nil)
  (pss_one (ps_ret (pe_or (pe_cmpR op_eq (pv 0) pe_str (nomark _)) (pe_one (pe_cmpR op_ne (pe_ix ix_str (pv 1) pe_int (fun _ _ => rfl)) pe_str (nomark _)))))))), ?_⟩
    have hz2 : z.length ≤ sizeLine := Nat.le_of_lt (small1000 hz)
    refine ⟨_, rfl, ⟨_, rfl⟩, z, "-", rfl, rfl, hz2, ?_⟩
    have ed := tl_rm z
    have hrm := rm_len z
    generalize Txt.removeprefix z ("-" : Str) = d at ed hrm ⊢
    have kd : (Txt.isascii d && Txt.isdigit d) = (!(tl d).isEmpty && digsL (tl d)) := by
      rw [← ascii_digit, ← all_tl, ← all_tl, ← TL.len_tl]
      rfl
    rw [ed] at kd
    have e0 : decL (tl z) = ((Txt.isascii d && Txt.isdigit d) && (decide ((bodyL (tl z)).head? ≠ some 48) || decide (tl z = [48]))) := by
      unfold decL
      rw [kd, Bool.and_assoc]
    refine ⟨_, rfl, ⟨_, rfl⟩, d, rfl, rfl, trivial, _, rfl, iteB (fun h1 => iteT ?_) (fun h1 => ?_)⟩
    · rw [e0] at q
      rw [Bool.not_eq_true'] at h1
      rw [h1, Bool.false_and, Bool.false_and] at q
      exact q
    · rw [Bool.not_eq_false'] at h1
      refine ⟨_, rfl, ⟨_, rfl⟩, d, rfl, rfl, trivial, _, rfl, iteB (fun h2 => ?_) (fun h2 => ?_)⟩
      · rw [e0] at q
        rw [Bool.not_eq_true'] at h2
        rw [h2, Bool.and_false, Bool.false_and] at q
        exact q
      · rw [Bool.not_eq_false'] at h2
        rw [h1, h2, Bool.true_and] at e0
        rw [Bool.true_and] at e0
        have hne : bodyL (tl z) ≠ [] := fun h => by
          rw [h1, h2, h] at kd
          cases kd
        refine ⟨_, rfl, rfl, _, rfl, iteD (fun h3 => ?_) (fun h3 => ?_)⟩
        · rw [e0, show decide (tl z = [48]) = true from decide_eq_true (by rw [V.str.inj h3]; exact tl_zero), Bool.or_true] at q
          exact q
        · have h4 : decide (tl z = [48]) = false := decide_eq_false fun h => h3 (by rw [tl_inj.mpr (h.trans tl_zero.symm)])
          rw [e0, h4, Bool.or_false, ← ed] at q
          rw [← ed] at hne
          cases e5 : tl d with
          | nil => exact absurd e5 hne
          | cons c r =>
            refine ⟨_, rfl, d, 0, c, rfl, rfl, Nat.le_trans hrm hz2, ?_, rfl, ?_⟩
            · show atI (tl d) ((0 : Nat) : Int) = some c
              rw [e5]
              exact atI_nat rfl
            · rw [e5] at q
              have e6 : decide (V.str ⟨#[c]⟩ = V.str ("0" : Str)) = decide (c = 48) := by
                rw [Bool.eq_iff_iff, decide_eq_true_iff, decide_eq_true_iff]
                refine ⟨fun h => ?_, fun h => by rw [h]; rfl⟩
                have h7 := (tl_inj.mp (V.str.inj h)).trans tl_zero
                exact (List.cons.inj h7).1
              have e8 : decide ((c :: r).head? ≠ some 48) = !decide (c = 48) := by
                rw [Bool.eq_iff_iff]
                simp
              show Q (.bl (!decide (V.str ⟨#[c]⟩ = V.str ("0" : Str)))) _
              rw [e6, ← e8]
              exact q
end
end OT

set_option Elab.async false
set_option linter.all false
set_option maxRecDepth 100000
set_option maxHeartbeats 2000000
namespace OT
open PySem PySem.Spec PyProof.Rows L2
open TL (tl)
/-- the first bad piece, from place i on -/
def fbL : Nat → List Str → Option Nat
  | _, [] => none
  | i, y :: r => if i = 3 ∨ decL (tl y) = false then some i else fbL (i + 1) r
theorem fbL_hit {i : Nat} {y : Str} {r : List Str} (h : i = 3 ∨ decL (tl y) = false) : fbL i (y :: r) = some i := if_pos h
theorem fbL_miss {i : Nat} {y : Str} {r : List Str} (h : ¬ (i = 3 ∨ decL (tl y) = false)) : fbL i (y :: r) = fbL (i + 1) r := if_neg h
theorem fbL_none : ∀ {ys : List Str} {i : Nat}, fbL i ys = none → ∀ y ∈ ys, decL (tl y) = true
  | [], _, _, y, hy => by cases hy
  | z :: r, i, h, y, hy => by
    by_cases hc : i = 3 ∨ decL (tl z) = false
    · rw [fbL_hit hc] at h
      cases h
    · rw [fbL_miss hc] at h
      rcases List.mem_cons.mp hy with e | hy
      · rw [e]
        cases q : decL (tl z) with
        | true => rfl
        | false => exact absurd (.inr q) hc
      · exact fbL_none h y hy
theorem fbL_len : ∀ {ys : List Str} {i : Nat}, fbL i ys = none → i ≤ 3 → ys.length + i ≤ 3
  | [], i, _, hi => by simpa using hi
  | z :: r, i, h, hi => by
    by_cases hc : i = 3 ∨ decL (tl z) = false
    · rw [fbL_hit hc] at h
      cases h
    · rw [fbL_miss hc] at h
      have h3 : i ≠ 3 := fun e => hc (.inl e)
      have q := fbL_len h (by omega)
      rw [List.length_cons]
      omega
/-- an int's text -/
abbrev strN (n : Int) : Str := Str.ofString (toString n)
theorem strN_len {n : Int} {k : Nat} (hk : 0 < k) (h : n.natAbs < 10 ^ k) : (strN n).length ≤ k + 1 := by
  rw [TL.len_tl, TL.tl_ofString, List.length_map]
  exact int_text_length_le10 hk h
theorem strN_log {n : Int} (h : n.natAbs < 10 ^ 40) : n.natAbs.log2 < 1920 := by
  have h2 : n.natAbs < 2 ^ 133 := Nat.lt_of_lt_of_le h (by decide)
  have := PySem.Flt.log2_lt_of (by decide) h2
  omega
theorem sum_le {l : List Str} {k : Nat} (h : ∀ y ∈ l, y.length ≤ k) : (l.map (·.length)).sum ≤ l.length * k := by
  induction l with
  | nil => exact Nat.zero_le _
  | cons y r ih =>
    have h1 := h y (List.mem_cons_self ..)
    have h2 := ih fun z hz => h z (List.mem_cons_of_mem _ hz)
    rw [List.map_cons, List.sum_cons, List.length_cons, Nat.succ_mul]
    omega
theorem take_map_succ {α β : Type} {l : List α} {i : Nat} (f : α → β) (h : i < l.length) : (l.take (i + 1)).map f = (l.take i).map f ++ [f l[i]] := by
  rw [List.take_add_one, List.getElem?_eq_getElem h, List.map_append]
  rfl
theorem getm {α β : Type} {l : List α} {i : Nat} {f : α → β} {x : β} (h : (l.map f)[i]? = some x) : ∃ hi : i < l.length, x = f l[i] := by
  rw [List.getElem?_map] at h
  cases e : l[i]? with
  | none =>
    rw [e] at h
    cases h
  | some z =>
    rw [e] at h
    obtain ⟨hi, hz⟩ := List.getElem?_eq_some_iff.mp e
    exact ⟨hi, by rw [hz]; exact (Option.some.inj h).symm⟩
theorem tYes_of {A B : Hp → Prop} {σ : L2.St} {H : Hp} (h : A H) : tYes σ H (fun b H3 => if b = true then A H3 else B H3) := by
  show (if true = true then A H else B H)
  rw [if_pos rfl]
  exact h
theorem drop_cons {α : Type} {l : List α} {i : Nat} (h : i < l.length) : l.drop i = l[i] :: l.drop (i + 1) := List.drop_eq_getElem_cons h
section
variable {P : Program} {w : World} {K : PySem.W.Frag} {mg : Str → Option Value} {base : Heap}
def optV : Option Nat → V
  | some i => .int i
  | none => .non
def spFB (K : PySem.W.Frag) : Sp := fun vs H Q _ => ∃ (a : Addr) (ys : List Str), vs = [.ref a] ∧ SqL K H a (ys.map V.str) ∧ (∀ y ∈ ys, y.length ≤ 1000) ∧ ∀ H', Same H H' → Q (optV (fbL 0 ys)) H'
theorem c_first_bad_piece {f : Addr} {fd : FuncData} (D : C8.Def K mg "first_bad_piece" s_first_bad_piece f fd) (b : Binds K fd ["pieces"] []) (T : Bi mg) (c_is_decimal : C8.Cal P w K mg base 1 "is_decimal" spDec []) : C8.Cal P w K mg base 2 "first_bad_piece" (spFB K) [] := by
  refine C8.cal0 D b .nil sc_first_bad_piece (fun vs H Q E h => ?_) (fun cdv A outer s H vs Q E hr h => ?_)
  · obtain ⟨a, ys, rfl, _⟩ := h
    rfl
  · obtain ⟨a, ys, rfl, hS, hl, q⟩ := h
    refine ⟨_, (pss_cons (ps_for PassesOwn.never rfl (pi_enum (by rfl) T.n_enumerate (pa_cons (pv 0) pa_nil)) (pg_tup rfl (pgs_cons (pg_name (i := 1) sc_first_bad_piece.nd rfl (Or.inl rfl)) (pgs_cons (pg_name (i := 2) sc_first_bad_piece.nd rfl (Or.inl rfl)) pgs_nil))) (pss_one (ps_if (PW.pt (pw_or (pt_cmpR op_eq (pv 1) pe_int (nomark _)) (pw_or1 (pt_not (pt_val (C8.pe_c c_is_decimal hr (by decide) (by rfl) (pa_cons (pv 2) pa_nil))))))) (pss_one (ps_ret (pv 1))) pss_nil)))
  (pss_one (ps_ret pe_non))), ?_⟩
    refine ⟨_, rfl, a, _, rfl, hS, ?_⟩
    refine for_it (walk_enum (xs := ys.map V.str)) (fun i σ H2 => ∃ y1 y2, σ = [some (.ref a), y1, y2] ∧ Same H H2 ∧ fbL i (ys.drop i) = fbL 0 ys) ?_ ?_ ?_ ?_
    · exact ⟨none, none, rfl, Same.refl _, rfl⟩
    · rintro i σ H2 _ ⟨_, _, _, sm, _⟩
      exact sm.seq hS
    · rintro i x σ H2 H3 hi ⟨y1, y2, rfl, sm, e⟩ ⟨t, x1, x2, rfl, nt, rfl, e1, e2⟩
      rw [List.length_map] at hi
      obtain ⟨_, rfl⟩ := getm (show (ys.map V.str)[i]? = some x2 from e2)
      cases e1
      have sm2 : Same H (upd H2 t (.tup [.int (i : Nat), .str ys[i]])) := sm.trans (same_upd nt)
      rw [drop_cons hi] at e
      refine ⟨t, _, rfl, .inl (.inl upd_same), rfl, _, _, rfl, _, _, rfl, rfl, ?_⟩
      refine ⟨_, rfl, rfl, _, rfl, iteD (fun h1 => iteT ?_) (fun h1 => ?_)⟩
      · have e3 : i = 3 := by
          have h2 : V.int ((i : Nat) : Int) = V.int 3 := h1
          have h3 := V.int.inj h2
          omega
        rw [fbL_hit (.inl e3)] at e
        have q2 := q _ sm2
        rw [← e] at q2
        exact ⟨_, rfl, q2⟩
      · have e3 : i ≠ 3 := fun h => h1 (by rw [h]; rfl)
        refine ⟨_, rfl, _, rfl, hl _ (List.getElem_mem hi), _, rfl, iteB (fun h2 => ?_) (fun h2 => ?_)⟩
        · rw [Bool.not_eq_true'] at h2
          rw [fbL_hit (.inr h2)] at e
          have q2 := q _ sm2
          rw [← e] at q2
          exact ⟨_, rfl, q2⟩
        · rw [Bool.not_eq_false'] at h2
          rw [fbL_miss (fun h => h.elim e3 fun h => by rw [h2] at h; cases h)] at e
          exact ⟨_, _, rfl, sm2, e⟩
    · rintro σ H2 ⟨y1, y2, rfl, sm, e⟩
      rw [List.length_map, List.drop_length] at e
      have q2 := q _ sm
      rw [← e] at q2
      exact q2
def spWP (K : PySem.W.Frag) : Sp := fun vs H Q _ => ∃ (a : Addr) (ns : List Int), vs = [.ref a] ∧ SqT K H a (ns.map V.int) ∧ ns.length ≤ 10 ∧ (∀ n ∈ ns, n.natAbs < 10 ^ 40) ∧ ∀ H', Same H H' → Q (.str (Txt.join "," (ns.map strN))) H'
theorem c_write_place {f : Addr} {fd : FuncData} (D : C8.Def K mg "write_place" s_write_place f fd) (b : Binds K fd ["place"] []) (T : Bi mg) : C8.Cal P w K mg base 1 "write_place" (spWP K) [] := by
  refine C8.cal0 D b .nil sc_write_place (fun vs H Q E h => ?_) (fun cdv A outer s H vs Q E hr h => ?_)
  · obtain ⟨a, ys, rfl, _⟩ := h
    rfl
  · obtain ⟨a, ns, rfl, hS, hl, hb, q⟩ := h
    refine ⟨_, (pss_one (ps_ret (pe_join pe_str (pe_lc (own := [("x", 1)]) (g := gName 1) (tt := tYes) rfl sc_write_place.nd (pi_tup (pv 0)) (blkOk_by (N := ["place", "x"]) (sc := C8.fnScope s_write_place) (by decide +kernel)) (fun _ _ _ _ _ => (pg_name (i := 1) sc_write_place.nd rfl (Or.inl rfl))) (fun _ _ _ _ _ => pts_nil) (fun _ _ _ _ _ => (pe_callTy call_str_int (by rfl) T.n_str OT.b_str (pa_cons (pv 1) pa_nil))))))), ?_⟩
    refine ⟨⟨_, rfl⟩, _, rfl, a, rfl, ⟨_, hS⟩, fun p np => ?_⟩
    refine lc_tup (K := K) (xs := ns.map V.int) (fun i H2 => Same H H2 ∧ H2 p = some (.lst ((ns.take i).map fun n => V.str (strN n)))) ?_ ?_ ?_ ?_
    · exact ⟨same_upd np, upd_same⟩
    · rintro i H2 _ ⟨sm, _⟩
      exact same_t sm hS
    · rintro i x H2 hx ⟨sm, hp⟩
      obtain ⟨hi, rfl⟩ := getm hx
      have hm := List.getElem_mem hi
      refine ⟨rfl, tYes_of ?_⟩
      refine ⟨_, rfl, _, rfl, strN_log (hb _ hm), _, hp, ?_, same_mut sm np, ?_⟩
      · rw [List.length_map, List.length_take]
        exact small1000 (by omega)
      · rw [upd_same, take_map_succ (fun n => V.str (strN n)) hi]
    · rintro H2 ⟨sm, hp⟩
      rw [List.length_map, List.take_length] at hp
      refine ⟨_, p, ns.map strN, rfl, rfl, .inl (.inl (.inl ?_)), ?_, q _ sm⟩
      · rw [hp, List.map_map]
        rfl
      · have h1 : ((ns.map strN).map (·.length)).sum ≤ (ns.map strN).length * 41 := sum_le fun y hy => by
          obtain ⟨n, hn, rfl⟩ := List.mem_map.mp hy
          exact strN_len (by decide) (hb n hn)
        rw [List.length_map] at h1 ⊢
        have h2 : ("," : Str).length = 1 := by decide +kernel
        rw [h2]
        omega
end
end OT

set_option Elab.async false
set_option linter.all false
set_option maxRecDepth 100000
set_option maxHeartbeats 2000000
namespace OT
open PySem PySem.Spec PyProof.Rows L2
open TL (tl)
section
variable {P : Program} {w : World} {K : PySem.W.Frag} {mg : Str → Option Value} {base : Heap}
/-! ### isinstance -/
theorem isi_ty {K : PySem.W.Frag} {H : Hp} {x : V} {a b : String} {r : Bool} {Q : VK} (h : TyX K H x (.type a)) (e : kitB a b = some r) (q : Q (.bl r) H) : rIsi K [x, .ty b] H Q :=
  ⟨x, .ty b, .type a, .type b, r, rfl, .ty b, h, kit_ty e, q⟩
theorem kb_ii : kitB "int" "int" = some true := by decide +kernel
theorem kb_ib : kitB "int" "bool" = some false := by decide +kernel
theorem kb_tt : kitB "tuple" "tuple" = some true := by decide +kernel
theorem kb_ss : kitB "str" "str" = some true := by decide +kernel
theorem kb_ll : kitB "list" "list" = some true := by decide +kernel
def spIsInt : Sp := fun vs H Q _ => ∃ i : Int, vs = [.int i] ∧ Q (.bl true) H
theorem c__law_is_integer {f : Addr} {fd : FuncData} (D : C8.Def K mg "_law_is_integer" s__law_is_integer f fd) (b : Binds K fd ["_law_actual"] []) (T : Bi mg) : C8.Cal P w K mg base 1 "_law_is_integer" spIsInt [] := by
  refine C8.cal0 D b .nil sc__law_is_integer (fun vs H Q E h => ?_) (fun cdv A outer s H vs Q E hr h => ?_)
  · obtain ⟨i, rfl, _⟩ := h
    rfl
  · obtain ⟨i, rfl, q⟩ := h
    refine ⟨_, (pss_one (ps_ret (pe_and (pe_callB call_isi (by rfl) T.n_isinstance OT.b_isinstance (pa_cons (pv 0) (pa_cons (pe_bltn (v := .ty "int") (by rfl) T.n_int OT.b_int rfl) pa_nil))) (pe_one (pe_not (pe_callB call_isi (by rfl) T.n_isinstance OT.b_isinstance (pa_cons (pv 0) (pa_cons (pe_bltn (v := .ty "bool") (by rfl) T.n_bool OT.b_bool rfl) pa_nil)))))))), ?_⟩
    refine ⟨_, rfl, _, _, _, _, _, rfl, .ty _, .base (.int i), kit_ty kb_ii, _, rfl, ?_⟩
    refine iteT ?_
    exact ⟨_, rfl, _, _, _, _, _, rfl, .ty _, .base (.int i), kit_ty kb_ib, _, rfl, q⟩
def spIsPlace (K : PySem.W.Frag) : Sp := fun vs H Q _ => ∃ (a : Addr) (ns : List Int), vs = [.ref a] ∧ H a = some (.tup (ns.map V.int)) ∧ 1 ≤ ns.length ∧ ns.length ≤ 3 ∧ Q (.bl true) H
theorem c__law_is_place {f : Addr} {fd : FuncData} (D : C8.Def K mg "_law_is_place" s__law_is_place f fd) (b : Binds K fd ["_law_actual"] []) (T : Bi mg) (c__law_is_integer : C8.Cal P w K mg base 1 "_law_is_integer" spIsInt []) : C8.Cal P w K mg base 2 "_law_is_place" (spIsPlace K) [] := by
  refine C8.cal0 D b .nil sc__law_is_place (fun vs H Q E h => ?_) (fun cdv A outer s H vs Q E hr h => ?_)
  · obtain ⟨a, ns, rfl, _⟩ := h
    rfl
  · obtain ⟨a, ns, rfl, hS, h1, h3, q⟩ := h
    have hT : SqT K H a (ns.map V.int) := .inl (.inl hS)
    refine ⟨_, (pss_cons (ps_if (PW.pt (pw_or (pt_not (pt_val (pe_callB call_isi (by rfl) T.n_isinstance OT.b_isinstance (pa_cons (pv 0) (pa_cons (pe_bltn (v := .ty "tuple") (by rfl) T.n_tuple OT.b_tuple rfl) pa_nil))))) (pw_or (pt_cmpR op_lt (pe_callB call_len_seq (by rfl) T.n_len OT.b_len (pa_cons (pv 0) pa_nil)) pe_int (nomark _)) (pw_or1 (pt_cmpR op_gt (pe_callB call_len_seq (by rfl) T.n_len OT.b_len (pa_cons (pv 0) pa_nil)) pe_int (nomark _)))))) (pss_one (ps_ret pe_bl)) pss_nil)
  (pss_cons (ps_for PassesOwn.never rfl (pi_tup (pv 0)) (pg_name (i := 1) sc__law_is_place.nd rfl (Or.inl rfl)) (pss_one (ps_if (pt_not (pt_val (C8.pe_c c__law_is_integer hr (by decide) (by rfl) (pa_cons (pv 1) pa_nil)))) (pss_one (ps_ret pe_bl)) pss_nil)))
  (pss_one (ps_ret pe_bl)))), ?_⟩
    refine ⟨_, rfl, _, _, _, _, _, rfl, .ty _, .base (.tup hS), kit_ty kb_tt, _, rfl, ?_⟩
    refine iteF ?_
    refine ⟨_, rfl, a, _, rfl, .inr hT, _, _, rfl, rfl, _, rfl, iteD (fun z => ?_) (fun _ => ?_)⟩
    · rw [List.length_map] at z
      omega
    refine ⟨_, rfl, a, _, rfl, .inr hT, _, _, rfl, rfl, _, rfl, iteD (fun z => ?_) (fun _ => ?_)⟩
    · rw [List.length_map] at z
      omega
    refine ⟨_, rfl, a, rfl, ⟨_, hT⟩, ?_⟩
    refine for_tup (K := K) (xs := ns.map V.int) (fun i σ H2 => ∃ y, σ = [some (.ref a), y] ∧ H2 = H) ⟨none, rfl, rfl⟩ (fun i σ H2 _ ⟨_, _, e⟩ => by rw [e]; exact hT) ?_ ?_
    · rintro i x σ H2 hx ⟨y, rfl, rfl⟩
      obtain ⟨hi, rfl⟩ := getm hx
      exact ⟨_, rfl, _, rfl, _, rfl, iteF ⟨_, rfl, rfl⟩⟩
    · rintro σ H2 ⟨y, rfl, rfl⟩
      exact q
/-! ### texts -/
def oddL : List Str := ["", "0", "-0", "00", "7", "-12", "+1", " 1", "1 ", "a", "-", "--1", "1.0", "01", "-01", "9", "12a", "1-", "1_0", "7\n", "\t7", "1e3", "0x1", "1@0"]
def shortStr (l : List Str) : Bool := l.all fun z => decide (z.length ≤ 10)
def spOdd (K : PySem.W.Frag) : Sp := fun vs H Q _ => ∃ k : Int, vs = [.int k] ∧ 0 ≤ k ∧ k < 24 ∧ ∀ (z : Str) H', z.length ≤ 10 → Same H H' → Q (.str z) H'
theorem c__law_odd_piece {f : Addr} {fd : FuncData} (D : C8.Def K mg "_law_odd_piece" s__law_odd_piece f fd) (b : Binds K fd ["_law_which"] []) (T : Bi mg) : C8.Cal P w K mg base 1 "_law_odd_piece" (spOdd K) [] := by
  refine C8.cal0 D b .nil sc__law_odd_piece (fun vs H Q E h => ?_) (fun cdv A outer s H vs Q E hr h => ?_)
  · obtain ⟨a, rfl, _⟩ := h
    rfl
  · obtain ⟨k, rfl, h0, h1, q⟩ := h
    refine ⟨_, (pss_cons (ps_set (i := 1) sc__law_odd_piece.nd rfl (Or.inl rfl) (pe_lst (pa_cons pe_str (pa_cons pe_str (pa_cons pe_str (pa_cons pe_str (pa_cons pe_str (pa_cons pe_str (pa_cons pe_str (pa_cons pe_str (pa_cons pe_str (pa_cons pe_str (pa_cons pe_str (pa_cons pe_str (pa_cons pe_str (pa_cons pe_str (pa_cons pe_str (pa_cons pe_str (pa_cons pe_str (pa_cons pe_str pa_nil))))))))))))))))))))
  (pss_cons (ps_set (i := 1) sc__law_odd_piece.nd rfl (Or.inl rfl) (pe_op op_cat (pv 1) (pe_lst (pa_cons pe_str (pa_cons pe_str (pa_cons pe_str (pa_cons pe_str (pa_cons pe_str (pa_cons pe_str pa_nil)))))))))
  (pss_one (ps_ret (pe_ix ix_list (pv 1) (pv 0) (fun _ _ => rfl)))))), ?_⟩
    refine ⟨by decide, fun p np => ?_⟩
    refine ⟨_, rfl, by decide, fun p2 np2 => ?_⟩
    have ne : p ≠ p2 := ne_of_none upd_same np2
    refine ⟨p, p2, _, _, rfl, rfl, by rw [upd_ne ne, upd_same], upd_same, by decide, fun p3 np3 => ?_⟩
    obtain ⟨j, rfl⟩ := Int.eq_ofNat_of_zero_le h0
    have hj : j < 24 := by omega
    obtain ⟨z, hz, hl⟩ : ∃ z : Str, oddL[j]? = some z ∧ z.length ≤ 10 := by
      have key : ∀ j, j < 24 → ∃ z : Str, oddL[j]? = some z ∧ z.length ≤ 10 := fun j hj => by
        have a : shortStr oddL = true := by decide +kernel
        have l : oddL.length = 24 := rfl
        refine ⟨oddL[j]'(by omega), List.getElem?_eq_getElem _, ?_⟩
        exact of_decide_eq_true (List.all_eq_true.mp a _ (List.getElem_mem _))
      exact key j hj
    refine ⟨_, rfl, _, rfl, p3, _, _, .str z, rfl, rfl, .inl (.inl upd_same), ?_, q z _ hl (((same_upd np).trans (same_upd np2)).trans (same_upd np3))⟩
    refine atI_nat (j := j) ?_
    show (oddL.map V.str)[j]? = _
    rw [List.getElem?_map, hz]
    rfl
theorem digit_mem {c : Nat} : c ∈ ("0123456789" : Str).cps.toList ↔ 48 ≤ c ∧ c ≤ 57 := by
  have e : ("0123456789" : Str).cps.toList = [48, 49, 50, 51, 52, 53, 54, 55, 56, 57] := by decide +kernel
  rw [e]
  simp only [List.mem_cons, List.not_mem_nil, or_false]
  omega
def spDec2 : Sp := fun vs H Q _ => ∃ z : Str, vs = [.str z] ∧ z.length ≤ 1000 ∧ Q (.bl (decL (tl z))) H
theorem c__law_decimal {f : Addr} {fd : FuncData} (D : C8.Def K mg "_law_decimal" s__law_decimal f fd) (b : Binds K fd ["_law_piece_here"] []) (T : Bi mg) : C8.Cal P w K mg base 1 "_law_decimal" spDec2 [] := by
  refine C8.cal0 D b .nil sc__law_decimal (fun vs H Q E h => ?_) (fun cdv A outer s H vs Q E hr h => ?_)
  · obtain ⟨a, rfl, _⟩ := h
    rfl
  · obtain ⟨z, rfl, hz, q⟩ := h
    refine ⟨_, (pss_cons (ps_set (i := 1) sc__law_decimal.nd rfl (Or.inl rfl) (pv 0))
  (C8.pss_cut (ps_if (pt_cmpR op_eq (pe_slice sl_str (pv 0) po_none (po_some pe_int)) pe_str (nomark _)) (pss_one (ps_set (i := 1) sc__law_decimal.nd rfl (Or.inl rfl) (pe_slice sl_str (pv 0) (po_some pe_int) po_none))) pss_nil)
  (pss_cons (ps_if (pt_cmpR op_eq (pv 1) pe_str (nomark _)) (pss_one (ps_ret pe_bl)) pss_nil)
  (pss_cons (ps_for PassesOwn.never rfl (pi_str (pv 1)) (pg_name (i := 2) sc__law_decimal.nd rfl (Or.inl rfl)) (pss_one (ps_if (pt_cmpR op_notIn_sign (pv 2) pe_str rfl) (pss_one (ps_ret pe_bl)) pss_nil)))
  (pss_one (ps_ret (pe_or (pe_cmpR op_ne (pe_ix ix_str (pv 1) pe_int (fun _ _ => rfl)) pe_str (nomark _)) (pe_one (pe_cmpR op_eq (pv 0) pe_str (nomark _)))))))))), ?_⟩
    have hz2 : z.length ≤ sizeLine := Nat.le_of_lt (small1000 hz)
    have c1 : tl (cutS z none (some 1)) = (tl z).take 1 := by
      show ((tl z).drop (HT.sIx z.length 0 none)).take (HT.sIx z.length z.length (some ((1 : Nat) : Int)) - HT.sIx z.length 0 none) = _
      rw [HT.sIx_none, HT.sIx_nat, List.drop_zero, Nat.sub_zero, TL.len_tl]
      cases tl z with
      | nil => rfl
      | cons c r =>
        rw [List.length_cons, Nat.min_eq_left (by omega)]
    have c2 : tl (cutS z (some 1) none) = (tl z).drop 1 := by
      show ((tl z).drop (HT.sIx z.length 0 (some ((1 : Nat) : Int)))).take (HT.sIx z.length z.length none - HT.sIx z.length 0 (some ((1 : Nat) : Int))) = _
      rw [HT.sIx_none, HT.sIx_nat, TL.len_tl]
      cases tl z with
      | nil => rfl
      | cons c r =>
        rw [List.length_cons, Nat.min_eq_left (by omega)]
        exact List.take_of_length_le (by rw [List.length_drop, List.length_cons]; exact Nat.le_refl _)
    refine ⟨_, rfl, fun σ H2 => ∃ d : Str, σ = [some (.str z), some (.str d), none] ∧ H2 = H ∧ tl d = bodyL (tl z), ?_, ?_⟩
    · refine ⟨_, rfl, 1, rfl, z, rfl, hz2, rfl, _, rfl, iteD (fun h => ?_) (fun h => ?_)⟩
      · have h2 := c1.symm.trans ((tl_inj.mp (V.str.inj h)).trans tl_minus)
        refine ⟨_, rfl, 1, rfl, z, rfl, hz2, _, rfl, rfl, ?_⟩
        rw [c2]
        cases e : tl z with
        | nil =>
          rw [e] at h2
          cases h2
        | cons c r =>
          rw [e] at h2
          have e2 : c = 45 := (List.cons.inj h2).1
          subst e2
          rw [bodyL_45]
          rfl
      · refine ⟨z, rfl, rfl, ?_⟩
        cases e : tl z with
        | nil => rfl
        | cons c r =>
          refine (bodyL_ne r fun e2 => h ?_).symm
          have h3 : cutS z none (some 1) = ("-" : Str) := tl_inj.mpr (by rw [c1, e, e2, tl_minus]; rfl)
          rw [h3]
    · rintro σ H2 ⟨d, rfl, rfl, ed⟩
      have hd : d.length ≤ z.length := by
        rw [TL.len_tl, ed, TL.len_tl, ← tl_rm, ← TL.len_tl, ← TL.len_tl]
        exact rm_len z
      refine ⟨_, rfl, rfl, _, rfl, iteD (fun h => ?_) (fun h => ?_)⟩
      · have h2 := (tl_inj.mp (V.str.inj h)).trans tl_empty
        have e0 : decL (tl z) = false := by
          unfold decL
          rw [← ed, h2]
          rfl
        rw [e0] at q
        exact q
      · have hne : tl d ≠ [] := fun e => h (by rw [tl_inj.mpr (e.trans tl_empty.symm)])
        refine ⟨_, rfl, d, rfl, ?_⟩
        refine for_it (walk_str (z := d)) (fun i σ H3 => ∃ y, σ = [some (.str z), some (.str d), y] ∧ H3 = H2 ∧ ∀ j c, j < i → d.cps[j]? = some c → 48 ≤ c ∧ c ≤ 57) ?_ (fun _ _ _ _ _ => True.intro) ?_ ?_
        · exact ⟨none, rfl, rfl, fun j c hj => absurd hj (Nat.not_lt_zero _)⟩
        · rintro i x σ H3 H4 hi ⟨y, rfl, rfl, hall⟩ ⟨rfl, c, hc, rfl⟩
          refine ⟨_, rfl, c, "0123456789", rfl, rfl, _, rfl, iteND (fun h2 => ?_) (fun h2 => ?_)⟩
          · have e0 : decL (tl z) = false := by
              have e1 : digsL (tl d) = false := by
                cases e2 : digsL (tl d) with
                | false => rfl
                | true =>
                  have hm : c ∈ tl d := Array.mem_toList_iff.mpr (Array.mem_of_getElem? hc)
                  exact absurd (digit_mem.mpr (of_decide_eq_true (List.all_eq_true.mp e2 c hm))) h2
              unfold decL
              rw [← ed, e1, Bool.false_and, Bool.and_false]
            rw [e0] at q
            exact q
          · refine ⟨_, rfl, rfl, fun j c' hj hc' => ?_⟩
            by_cases hji : j < i
            · exact hall j c' hji hc'
            · have e : j = i := by omega
              rw [e, hc] at hc'
              rw [← Option.some.inj hc']
              exact digit_mem.mp h2
        · rintro σ H3 ⟨y, rfl, rfl, hall⟩
          have e1 : digsL (tl d) = true := List.all_eq_true.mpr fun c hm => by
            obtain ⟨j, hj⟩ := List.getElem?_of_mem hm
            rw [Array.getElem?_toList] at hj
            exact decide_eq_true (hall j c (Array.getElem?_eq_some_iff.mp hj).1 hj)
          have e2 : decL (tl z) = (decide ((tl d).head? ≠ some 48) || decide (tl z = [48])) := by
            unfold decL
            rw [← ed, e1, Bool.true_and]
            cases e3 : tl d with
            | nil => exact absurd e3 hne
            | cons c r => rfl
          rw [e2] at q
          cases e5 : tl d with
          | nil => exact absurd e5 hne
          | cons c r =>
            refine ⟨_, rfl, d, 0, c, rfl, rfl, Nat.le_trans hd hz2, ?_, rfl, _, rfl, iteND (fun h3 => ?_) (fun h3 => ?_)⟩
            · show atI (tl d) ((0 : Nat) : Int) = some c
              rw [e5]
              exact atI_nat rfl
            · rw [e5] at q
              have e6 : decide ((c :: r).head? ≠ some 48) = true := decide_eq_true fun h => h3 (by
                have h7 : c = 48 := Option.some.inj h
                rw [h7]
                rfl)
              rw [e6, Bool.true_or] at q
              exact q
            · rw [e5] at q
              have h7 := (tl_inj.mp (V.str.inj h3)).trans tl_zero
              have h8 : c = 48 := (List.cons.inj h7).1
              have e6 : decide ((c :: r).head? ≠ some 48) = false := decide_eq_false fun h => h (by rw [h8]; rfl)
              rw [e6, Bool.false_or] at q
              refine ⟨_, rfl, rfl, ?_⟩
              have e9 : decide (V.str z = V.str ("0" : Str)) = decide (tl z = [48]) := by
                rw [Bool.eq_iff_iff, decide_eq_true_iff, decide_eq_true_iff]
                exact ⟨fun h => (tl_inj.mp (V.str.inj h)).trans tl_zero, fun h => by rw [tl_inj.mpr (h.trans tl_zero.symm)]⟩
              show Q (.bl (decide (V.str z = V.str ("0" : Str)))) _
              rw [e9]
              exact q
end
end OT

set_option Elab.async false
set_option linter.all false
set_option maxRecDepth 100000
set_option maxHeartbeats 2000000
namespace OT
open PySem PySem.Spec PyProof.Rows L2
open TL (tl)
theorem InR.get {ds zs : List Int} (h : InR ds zs) {i : Nat} {z : Int} (hz : zs[i]? = some z) : ∃ d, (ds.map V.int)[i]? = some (.int d) ∧ 0 ≤ d ∧ d < z := by
  have hi : i < ds.length := by
    rw [h.1]
    exact (List.getElem?_eq_some_iff.mp hz).1
  have e : ds[i]? = some ds[i] := List.getElem?_eq_getElem hi
  exact ⟨ds[i], by rw [List.getElem?_map, e]; rfl, h.2 i _ z e hz⟩
section
variable {P : Program} {w : World} {K : PySem.W.Frag} {mg : Str → Option Value} {base : Heap}
def spPiece (K : PySem.W.Frag) : Sp := fun vs H Q _ => ∃ c : Int, vs = [.int c] ∧ ∀ (z : Str) H', z.length ≤ 100 → Same H H' → Q (.str z) H'
theorem c__law_piece {f : Addr} {fd : FuncData} (D : C8.Def K mg "_law_piece" s__law_piece f fd) (b : Binds K fd ["_law_cell_here"] []) (T : Bi mg) (c__law_draws : C8.Cal P w K mg base 1 "_law_draws" (spDraws K) []) (c__law_odd_piece : C8.Cal P w K mg base 1 "_law_odd_piece" (spOdd K) []) : C8.Cal P w K mg base 2 "_law_piece" (spPiece K) [] := by
  refine C8.cal0 D b .nil sc__law_piece (fun vs H Q E h => ?_) (fun cdv A outer s H vs Q E hr h => ?_)
  · obtain ⟨a, rfl, _⟩ := h
    rfl
  · obtain ⟨c, rfl, q⟩ := h
    refine ⟨_, (pss_cons (ps_set (i := 1) sc__law_piece.nd rfl (Or.inr rfl) (C8.pe_c c__law_draws hr (by decide) (by rfl) (pa_cons (pv 0) (pa_cons (pe_op op_cat (pe_lst (pa_cons pe_int (pa_cons pe_int (pa_cons pe_int (pa_cons pe_int pa_nil))))) (pe_lc (own := [("_law_k", 3)]) (g := gName 3) (tt := tYes) rfl sc__law_piece.nd (pi_range1 rfl T.n_range (pa_cons pe_int pa_nil)) (blkOk_by (N := ["_law_cell_here", "_law_draws_here", "_law_digits", "_law_k"]) (sc := C8.fnScope s__law_piece) (by decide +kernel)) (fun _ _ _ _ _ => (pg_name (i := 3) sc__law_piece.nd rfl (Or.inl rfl))) (fun _ _ _ _ _ => pts_nil) (fun _ _ _ _ _ => pe_int))) pa_nil))))
  (pss_cons (ps_if (pt_cmpR op_eq (pe_ix ix_list (pv 1) pe_int (fun _ _ => rfl)) pe_int (nomark _)) (pss_one (ps_ret (C8.pe_c c__law_odd_piece hr (by decide) (by rfl) (pa_cons (pe_ix ix_list (pv 1) pe_int (fun _ _ => rfl)) pa_nil)))) pss_nil)
  (pss_cons (ps_set (i := 2) sc__law_piece.nd rfl (Or.inl rfl) (pe_join pe_str (pe_lc (own := [("_law_k", 3)]) (g := gName 3) (tt := tYes) rfl sc__law_piece.nd (pi_range1 rfl T.n_range (pa_cons (pe_op op_add pe_int (pe_ix ix_list (pv 1) pe_int (fun _ _ => rfl))) pa_nil)) (blkOk_by (N := ["_law_cell_here", "_law_draws_here", "_law_digits", "_law_k"]) (sc := C8.fnScope s__law_piece) (by decide +kernel)) (fun _ _ _ _ _ => (pg_name (i := 3) sc__law_piece.nd rfl (Or.inl rfl))) (fun _ _ _ _ _ => pts_nil) (fun _ _ _ _ _ => (pe_callTy call_str_int (by rfl) T.n_str OT.b_str (pa_cons (pe_ix (show IxR _ (rIxL K) from ix_list) (pv 1) (pe_op op_add pe_int (pv 3)) (fun _ _ => rfl)) pa_nil))))))
  (pss_cons (ps_if (pt_cmpR op_eq (pe_ix ix_list (pv 1) pe_int (fun _ _ => rfl)) pe_int (nomark _)) (pss_one (ps_ret (pe_op op_add_str pe_str (pv 2)))) pss_nil)
  (pss_one (ps_ret (pv 2))))))), ?_⟩
    refine ⟨_, rfl, by decide, fun p np => ?_⟩
    refine ⟨30, rfl, by decide, by decide, fun p2 np2 => ?_⟩
    have s1 : Same H (upd H p (.lst [.int 4, .int 24, .int 2, .int 30])) := same_upd np
    refine lc_range (lo := 0) (n := 30) (fun i H2 => Same (upd H p (.lst [.int 4, .int 24, .int 2, .int 30])) H2 ∧ H2 p2 = some (.lst (List.replicate i (.int 10)))) ⟨same_upd np2, upd_same⟩ ?_ ?_
    · rintro i H2 hi ⟨sm, hp⟩
      refine ⟨rfl, tYes_of ?_⟩
      refine ⟨_, hp, ?_, same_mut sm np2, ?_⟩
      · rw [List.length_replicate]
        exact small1000 (by omega)
      · rw [upd_same, List.replicate_succ']
    · rintro H2 ⟨sm, hp⟩
      have hp1 := sm _ _ (upd_same : upd H p (.lst [.int 4, .int 24, .int 2, .int 30]) p = _)
      refine ⟨p, p2, _, _, rfl, rfl, hp1, hp, by decide, fun p3 np3 => ?_⟩
      refine ⟨p3, [4, 24, 2, 30] ++ List.replicate 30 10, c, rfl, .inl (.inl upd_same), by decide, by decide, fun ds H3 p4 hin sm3 np4 hp4 => ?_⟩
      have smA : Same H H3 := ((s1.trans sm).trans (same_upd np3)).trans sm3
      have L4 : SqL K H3 p4 (ds.map V.int) := .inl (.inl hp4)
      obtain ⟨d0, g0, _⟩ := hin.get (i := 0) (z := 4) rfl
      obtain ⟨d1, g1, g1a, g1b⟩ := hin.get (i := 1) (z := 24) rfl
      obtain ⟨d2, g2, _⟩ := hin.get (i := 2) (z := 2) rfl
      obtain ⟨d3, g3, g3a, g3b⟩ := hin.get (i := 3) (z := 30) rfl
      refine ⟨_, rfl, p4, _, 0, _, rfl, rfl, L4, atI_nat (j := 0) g0, rfl, _, rfl, iteD (fun _ => ?_) (fun _ => ?_)⟩
      · refine ⟨_, rfl, p4, _, 1, _, rfl, rfl, L4, atI_nat (j := 1) g1, d1, rfl, g1a, g1b, fun z H5 hz sm5 => ?_⟩
        exact q z H5 (by omega) (smA.trans sm5)
      · obtain ⟨n, rfl⟩ := Int.eq_ofNat_of_zero_le g3a
        refine ⟨⟨_, rfl⟩, _, rfl, p4, _, 3, _, rfl, rfl, L4, atI_nat (j := 3) g3, _, _, rfl, rfl, _, rfl, ?_, ?_, fun p5 np5 => ?_⟩
        · omega
        · have : (2 : Int) ^ 62 = 4611686018427387904 := by decide
          omega
        rw [show ((1 : Int) + (n : Int)).toNat = 1 + n by omega]
        refine lc_range (lo := 0) (n := 1 + n) (fun i H4 => ∃ zs : List Str, zs.length = i ∧ (∀ z ∈ zs, z.length ≤ 2) ∧ Same H3 H4 ∧ H4 p5 = some (.lst (zs.map V.str))) ⟨[], rfl, fun z hz => by (cases hz), same_upd np5, upd_same⟩ ?_ ?_
        · rintro i H4 hi ⟨zs, hzl, hz2, sm5, hp5⟩
          have hg : ([4, 24, 2, 30] ++ List.replicate 30 (10 : Int))[4 + i]? = some 10 := by
            rw [List.getElem?_append_right (by show 4 ≤ 4 + i; omega), List.getElem?_replicate, if_pos (by show 4 + i - 4 < 30; omega)]
          obtain ⟨e, ge, gea, geb⟩ := hin.get hg
          have hix : atI (ds.map V.int) (4 + ((0 : Int) + (i : Int))) = some (.int e) := by
            rw [show (4 : Int) + (0 + (i : Int)) = ((4 + i : Nat) : Int) by omega]
            exact atI_nat ge
          refine ⟨rfl, tYes_of ?_⟩
          refine ⟨_, rfl, _, rfl, _, _, rfl, rfl, p4, _, _, _, rfl, rfl, sm5.seq L4, hix, e, rfl, strN_log (by omega), _, hp5, ?_, ?_⟩
          · rw [List.length_map]
            exact small1000 (by omega)
          · refine ⟨zs ++ [strN e], by rw [List.length_append, hzl]; rfl, fun z hz => ?_, same_mut sm5 np5, ?_⟩
            · rcases List.mem_append.mp hz with hz | hz
              · exact hz2 z hz
              · rw [List.mem_singleton.mp hz]
                exact strN_len (k := 1) (by decide) (by omega)
            · rw [upd_same, List.map_append]
              rfl
        · rintro H4 ⟨zs, hzl, hz2, sm5, hp5⟩
          have hsum := sum_le hz2
          have he : ("" : Str).length = 0 := by decide +kernel
          have hjl : (Txt.join ("" : Str) zs).length ≤ 62 := by
            have h1 := PySem.StrLaws.join_length_le ("" : Str) zs
            rw [TL.join_eq, he] at *
            omega
          refine ⟨_, p5, zs, rfl, rfl, .inl (.inl (.inl hp5)), by rw [he]; omega, ?_⟩
          have L6 := sm5.seq L4
          refine ⟨_, rfl, p4, _, 2, _, rfl, rfl, L6, atI_nat (j := 2) g2, rfl, _, rfl, iteD (fun _ => ?_) (fun _ => ?_)⟩
          · have hm : ("-" : Str).length = 1 := by decide +kernel
            refine ⟨_, rfl, _, _, rfl, rfl, ?_, q _ H4 ?_ (smA.trans sm5)⟩
            · rw [hm]
              exact Nat.le_of_lt (small1000 (by omega))
            · rw [Str.length_append, hm]
              omega
          · exact ⟨_, rfl, q _ H4 (by omega) (smA.trans sm5)⟩
def spPlace (K : PySem.W.Frag) : Sp := fun vs H Q _ => ∃ c : Int, vs = [.int c] ∧ ∀ (ns : List Int) (a : Addr) H', 1 ≤ ns.length → ns.length ≤ 3 → (∀ n ∈ ns, n.natAbs < 10 ^ 4) → Same H H' → H' a = some (.tup (ns.map V.int)) → Q (.ref a) H'
theorem c__law_place {f : Addr} {fd : FuncData} (D : C8.Def K mg "_law_place" s__law_place f fd) (b : Binds K fd ["_law_cell_here"] []) (T : Bi mg) (c__law_draws : C8.Cal P w K mg base 1 "_law_draws" (spDraws K) []) : C8.Cal P w K mg base 2 "_law_place" (spPlace K) [] := by
  refine C8.cal0 D b .nil sc__law_place (fun vs H Q E h => ?_) (fun cdv A outer s H vs Q E hr h => ?_)
  · obtain ⟨a, rfl, _⟩ := h
    rfl
  · obtain ⟨c, rfl, q⟩ := h
    refine ⟨_, (pss_cons (ps_set (i := 1) sc__law_place.nd rfl (Or.inl rfl) (C8.pe_c c__law_draws hr (by decide) (by rfl) (pa_cons (pv 0) (pa_cons (pe_lst (pa_cons pe_int (pa_cons pe_int (pa_cons pe_int (pa_cons pe_int (pa_cons pe_int (pa_cons pe_int (pa_cons pe_int (pa_cons pe_int pa_nil))))))))) pa_nil))))
  (pss_cons (ps_set (i := 2) sc__law_place.nd rfl (Or.inl rfl) (pe_tup (pa_cons (pe_op op_sub (pe_ix ix_list (pv 1) pe_int (fun _ _ => rfl)) pe_int) (pa_cons (pe_op op_sub (pe_ix ix_list (pv 1) pe_int (fun _ _ => rfl)) pe_int) (pa_cons (pe_op op_sub (pe_ix ix_list (pv 1) pe_int (fun _ _ => rfl)) pe_int) pa_nil)))))
  (C8.pss_cut (ps_if (pt_cmpR op_eq (pe_ix ix_list (pv 1) pe_int (fun _ _ => rfl)) pe_int (nomark _)) (pss_one (ps_set (i := 2) sc__law_place.nd rfl (Or.inl rfl) (pe_tup (pa_cons (pe_op op_sub (pe_ix ix_list (pv 1) pe_int (fun _ _ => rfl)) pe_int) (pa_cons (pe_op op_sub (pe_ix ix_list (pv 1) pe_int (fun _ _ => rfl)) pe_int) (pa_cons (pe_op op_sub (pe_ix ix_list (pv 1) pe_int (fun _ _ => rfl)) pe_int) pa_nil)))))) pss_nil)
  (pss_one (ps_ret (pe_slice sl_tupA (pv 2) po_none (po_some (pe_op op_add pe_int (pe_ix ix_list (pv 1) pe_int (fun _ _ => rfl)))))))))), ?_⟩
    refine ⟨_, rfl, by decide, fun p np => ?_⟩
    refine ⟨p, [3, 2, 19, 19, 19, 2001, 2001, 2001], c, rfl, .inl (.inl upd_same), by decide, by decide, fun ds H2 p2 hin sm2 np2 hp2 => ?_⟩
    have L2' : SqL K H2 p2 (ds.map V.int) := .inl (.inl hp2)
    have smA : Same H H2 := (same_upd np).trans sm2
    obtain ⟨d0, g0, g0a, g0b⟩ := hin.get (i := 0) (z := 3) rfl
    obtain ⟨d1, g1, _⟩ := hin.get (i := 1) (z := 2) rfl
    obtain ⟨d2, g2, g2a, g2b⟩ := hin.get (i := 2) (z := 19) rfl
    obtain ⟨d3, g3, g3a, g3b⟩ := hin.get (i := 3) (z := 19) rfl
    obtain ⟨d4, g4, g4a, g4b⟩ := hin.get (i := 4) (z := 19) rfl
    obtain ⟨d5, g5, g5a, g5b⟩ := hin.get (i := 5) (z := 2001) rfl
    obtain ⟨d6, g6, g6a, g6b⟩ := hin.get (i := 6) (z := 2001) rfl
    obtain ⟨d7, g7, g7a, g7b⟩ := hin.get (i := 7) (z := 2001) rfl
    refine ⟨_, rfl, p2, _, 2, _, rfl, rfl, L2', atI_nat (j := 2) g2, _, _, rfl, rfl, _, rfl, p2, _, 3, _, rfl, rfl, L2', atI_nat (j := 3) g3, _, _, rfl, rfl, _, rfl, p2, _, 4, _, rfl, rfl, L2', atI_nat (j := 4) g4, _, _, rfl, rfl, (by show 3 ≤ sizeLine; decide), fun t nt => ?_⟩
    refine ⟨fun σ H3 => ∃ (a : Addr) (x y z : Int), σ = [some (.int c), some (.ref p2), some (.ref a)] ∧ Same H2 H3 ∧ H3 a = some (.tup [.int x, .int y, .int z]) ∧ x.natAbs < 10 ^ 4 ∧ y.natAbs < 10 ^ 4 ∧ z.natAbs < 10 ^ 4, ?_, ?_⟩
    · have sm3 : Same H2 (upd H2 t (.tup [.int (d2 - 9), .int (d3 - 9), .int (d4 - 9)])) := same_upd nt
      have L3 := sm3.seq L2'
      refine ⟨_, rfl, p2, _, 1, _, rfl, rfl, L3, atI_nat (j := 1) g1, rfl, _, rfl, iteD (fun _ => ?_) (fun _ => ?_)⟩
      · refine ⟨_, rfl, p2, _, 5, _, rfl, rfl, L3, atI_nat (j := 5) g5, _, _, rfl, rfl, _, rfl, p2, _, 6, _, rfl, rfl, L3, atI_nat (j := 6) g6, _, _, rfl, rfl, _, rfl, p2, _, 7, _, rfl, rfl, L3, atI_nat (j := 7) g7, _, _, rfl, rfl, (by show 3 ≤ sizeLine; decide), fun t2 nt2 => ?_⟩
        exact ⟨t2, _, _, _, rfl, sm3.trans (same_upd nt2), upd_same, by omega, by omega, by omega⟩
      · exact ⟨t, _, _, _, rfl, sm3, upd_same, by omega, by omega, by omega⟩
    · rintro σ H3 ⟨a, x, y, z, rfl, sm3, ha, hx, hy, hz⟩
      have L3 := sm3.seq L2'
      have hT : SqT K H3 a [.int x, .int y, .int z] := .inl (.inl ha)
      have hall : ∀ n ∈ [x, y, z], n.natAbs < 10 ^ 4 := fun n hn => by
        simp only [List.mem_cons, List.not_mem_nil, or_false] at hn
        rcases hn with rfl | rfl | rfl <;> assumption
      obtain ⟨n, rfl⟩ := Int.eq_ofNat_of_zero_le g0a
      have hcut : cutV [V.int x, V.int y, V.int z] none (some (1 + (n : Int))) = ([x, y, z].take (1 + n)).map V.int := by
        unfold cutV
        rw [HT.sIx_none, show (1 + (n : Int)) = ((1 + n : Nat) : Int) by omega, HT.sIx_nat]
        rw [Nat.min_eq_left (show 1 + n ≤ [V.int x, V.int y, V.int z].length by show 1 + n ≤ 3; omega), List.drop_zero, Nat.sub_zero, List.map_take]
        rfl
      have smB := smA.trans sm3
      refine ⟨_, rfl, _, rfl, p2, _, 0, _, rfl, rfl, L3, atI_nat (j := 0) g0, _, _, rfl, rfl, _, rfl, a, _, rfl, hT, fun hw => ?_, fun hw t3 nt3 => ?_⟩
      · exact q [x, y, z] a _ (by show 1 ≤ 3; decide) (by show 3 ≤ 3; decide) hall smB ha
      · refine q ([x, y, z].take (1 + n)) t3 _ ?_ ?_ (fun m hm => hall m (List.mem_of_mem_take hm)) (smB.trans (same_upd nt3)) ?_
        · rw [List.length_take]
          show 1 ≤ min (1 + n) 3
          omega
        · rw [List.length_take]
          show min (1 + n) 3 ≤ 3
          omega
        · rw [upd_same]
          show some (HO.tup (cutV [V.int x, V.int y, V.int z] none (some (1 + (n : Int))))) = _
          rw [hcut]
def spLFB (K : PySem.W.Frag) : Sp := fun vs H Q _ => ∃ (a : Addr) (ys : List Str), vs = [.ref a] ∧ SqL K H a (ys.map V.str) ∧ ys.length ≤ 1001 ∧ (∀ y ∈ ys, y.length ≤ 1000) ∧ Q (.int (match fbL 0 ys with | some i => (i : Int) | none => -1)) H
theorem c__law_first_bad {f : Addr} {fd : FuncData} (D : C8.Def K mg "_law_first_bad" s__law_first_bad f fd) (b : Binds K fd ["_law_pieces"] []) (T : Bi mg) (c__law_decimal : C8.Cal P w K mg base 1 "_law_decimal" spDec2 []) : C8.Cal P w K mg base 2 "_law_first_bad" (spLFB K) [] := by
  refine C8.cal0 D b .nil sc__law_first_bad (fun vs H Q E h => ?_) (fun cdv A outer s H vs Q E hr h => ?_)
  · obtain ⟨a, ys, rfl, _⟩ := h
    rfl
  · obtain ⟨a, ys, rfl, hS, hn, hl, q⟩ := h
    refine ⟨_, (pss_cons (ps_for PassesOwn.never rfl (pi_range1 rfl T.n_range (pa_cons (pe_callB call_len_seq (by rfl) T.n_len OT.b_len (pa_cons (pv 0) pa_nil)) pa_nil)) (pg_name (i := 1) sc__law_first_bad.nd rfl (Or.inl rfl)) (pss_one (ps_if (PW.pt (pw_or (pt_cmpR op_eq (pv 1) pe_int (nomark _)) (pw_or1 (pt_not (pt_val (C8.pe_c c__law_decimal hr (by decide) (by rfl) (pa_cons (pe_ix ix_list (pv 0) (pv 1) (fun _ _ => rfl)) pa_nil))))))) (pss_one (ps_ret (pv 1))) pss_nil)))
  (pss_one (ps_ret (pe_un un_neg pe_int)))), ?_⟩
    refine ⟨_, rfl, a, _, rfl, .inl hS, _, rfl, ?_, ?_, ?_⟩
    · rw [List.length_map]
      omega
    · rw [List.length_map]
      have : (2 : Int) ^ 62 = 4611686018427387904 := by decide
      omega
    rw [List.length_map, Int.toNat_natCast]
    refine for_range (fun i σ H2 => ∃ y, σ = [some (.ref a), y] ∧ H2 = H ∧ fbL i (ys.drop i) = fbL 0 ys) ⟨none, rfl, rfl, rfl⟩ ?_ ?_
    · rintro i σ H2 hi ⟨y, rfl, rfl, e⟩
      rw [drop_cons hi] at e
      refine ⟨_, rfl, rfl, _, rfl, iteD (fun h1 => iteT ?_) (fun h1 => ?_)⟩
      · have e3 : i = 3 := by
          have h2 := V.int.inj h1
          omega
        rw [fbL_hit (.inl e3)] at e
        rw [← e] at q
        refine ⟨_, rfl, ?_⟩
        rw [Int.zero_add]
        exact q
      · have e3 : i ≠ 3 := fun h => h1 (by rw [h]; rfl)
        have hix : atI (ys.map V.str) ((0 : Int) + (i : Int)) = some (.str ys[i]) := by
          rw [Int.zero_add]
          exact atI_nat (by rw [List.getElem?_map, List.getElem?_eq_getElem hi]; rfl)
        refine ⟨_, rfl, _, rfl, a, _, _, _, rfl, rfl, hS, hix, _, rfl, hl _ (List.getElem_mem hi), _, rfl, iteB (fun h2 => ?_) (fun h2 => ?_)⟩
        · rw [Bool.not_eq_true'] at h2
          rw [fbL_hit (.inr h2)] at e
          rw [← e] at q
          refine ⟨_, rfl, ?_⟩
          rw [Int.zero_add]
          exact q
        · rw [Bool.not_eq_false'] at h2
          rw [fbL_miss (fun h => h.elim e3 fun h => by rw [h2] at h; cases h)] at e
          exact ⟨_, rfl, rfl, e⟩
    · rintro σ H2 ⟨y, rfl, rfl, e⟩
      rw [List.drop_length] at e
      rw [← e] at q
      exact ⟨_, rfl, q⟩
end
end OT

set_option Elab.async false
set_option linter.all false
set_option maxRecDepth 100000
set_option maxHeartbeats 2000000
namespace OT
open PySem PySem.Spec PyProof.Rows L2
open TL (tl)
section
variable {P : Program} {w : World} {K : PySem.W.Frag} {mg : Str → Option Value} {base : Heap}
/-! ### the errors' own __init__ -/
theorem ok_te {f : Addr} {fd : FuncData} (F : C8.Fun K "__init__" "TableError.__init__" s_TableError___init__ f fd) : FnOk P w K mg base L2.CX0 1 f fd ["self"] (spTE K) := by
  refine C8.fn0 F sc_TableError___init__ (fun vs H Q E h => ?_) (fun cdv A outer s H vs Q E hr h => ?_)
  · obtain ⟨a, C, nm, rfl, _⟩ := h
    rfl
  · obtain ⟨a, C, nm, rfl, ha, T, k⟩ := h
    refine ⟨_, pss_one (ps_ost (pv 0) (pe_otname (pv 0))), ?_⟩
    exact ⟨_, rfl, a, C, nm, rfl, ha, T.oc, T.on, _, rfl, a, C, rfl, T.ox, T.nw, Or.inl ⟨ha, fun d nd ne => k d nd ne⟩⟩
theorem ok_ie {f B fB : Addr} {fd fdB : FuncData} (F : C8.Fun K "__init__" "IndexedError.__init__" s_IndexedError___init__ f fd) (GB : FnOk P w K mg base L2.CX0 1 fB fdB ["self"] (spTE K)) (bB : Binds K fdB ["self"] []) (R : OtRead K B "__init__" fB) (gB : mg "TableError" = some (.ref B)) :
    FnOk P w K mg base L2.CX0 2 f fd ["self", "index"] (spIE K) := by
  refine C8.fn0 F sc_IndexedError___init__ (fun vs H Q E h => ?_) (fun cdv A outer s H vs Q E hr h => ?_)
  · obtain ⟨a, C, nm, x, rfl, _⟩ := h
    rfl
  · obtain ⟨a, C, nm, x, rfl, ha, T, k⟩ := h
    refine ⟨_, pss_cons (ps_expr (pe_otcall (pe_glob (v := .ref B) (by rfl) gB rfl) R GB hr bB pass0 (pa_cons (pv 0) pa_nil)))
      (pss_one (ps_ost (pv 0) (pv 1))), ?_⟩
    refine ⟨rfl, _, rfl, a, C, nm, rfl, ha, T, fun d nd ne => ?_⟩
    refine ⟨_, rfl, _, rfl, a, C, rfl, T.ox, T.ni, Or.inr ⟨d, _, upd_same, ?_, (by show 1 ≤ 900; decide), k d nd ne⟩⟩
    rw [upd_ne ne, upd_same]
/-! ### read_place -/
def numOf (z : Str) : Int := (PySem.intText? z).getD 0
theorem dec_num {z : Str} (h : decL (tl z) = true) (hl : z.length ≤ 4300) : PySem.intText? z = some (numOf z) := by
  have key : ∃ n, PySem.intText? z = some n := by
    unfold decL at h
    simp only [Bool.and_eq_true, Bool.not_eq_true', List.isEmpty_eq_false_iff] at h
    obtain ⟨h1, h2, _⟩ := h
    have hd : NumText.AllDigits (bodyL (tl z)) := fun c hc => of_decide_eq_true (List.all_eq_true.mp h2 c hc)
    cases e : tl z with
    | nil =>
      rw [e] at h1
      exact absurd rfl h1
    | cons c r =>
      rw [e] at hd h1
      by_cases hc : c = 45
      · subst hc
        rw [bodyL_45] at hd h1
        exact ⟨_, intText_neg e hd h1 hl⟩
      · rw [bodyL_ne r hc] at hd h1
        have hd2 : NumText.AllDigits z.cps.toList := by
          show NumText.AllDigits (tl z)
          rw [e]
          exact hd
        exact ⟨_, intText_digits hd2 (by show tl z ≠ []; rw [e]; exact h1) hl⟩
  obtain ⟨n, hn⟩ := key
  unfold numOf
  rw [hn]
  rfl
theorem spl_len (S : List Nat) : ∀ (l : List Nat) (k : Nat) (acc : List Nat), (∀ p ∈ TL.spl S k acc l, p.length ≤ acc.length + l.length) ∧ (TL.spl S k acc l).length ≤ l.length + 1
  | [], k, acc => by
    rw [TL.spl_nil]
    exact ⟨fun p hp => by rw [List.mem_singleton.mp hp]; exact Nat.le_add_right _ _, Nat.le_refl _⟩
  | c :: r, 0, acc => by
    cases h : TL.pre S (c :: r) with
    | true =>
      rw [TL.spl_hit h]
      obtain ⟨h1, h2⟩ := spl_len S r (S.length - 1) []
      refine ⟨fun p hp => ?_, ?_⟩
      · rcases List.mem_cons.mp hp with e | hp
        · rw [e]
          exact Nat.le_add_right _ _
        · have := h1 p hp
          rw [List.length_nil] at this
          rw [List.length_cons]
          omega
      · rw [List.length_cons, List.length_cons]
        omega
    | false =>
      rw [TL.spl_miss h]
      obtain ⟨h1, h2⟩ := spl_len S r 0 (acc ++ [c])
      refine ⟨fun p hp => ?_, ?_⟩
      · have := h1 p hp
        rw [List.length_append, List.length_singleton] at this
        rw [List.length_cons]
        omega
      · rw [List.length_cons]
        omega
  | c :: r, k + 1, acc => by
    show (∀ p ∈ TL.spl S k acc r, _) ∧ (TL.spl S k acc r).length ≤ _
    obtain ⟨h1, h2⟩ := spl_len S r k acc
    refine ⟨fun p hp => ?_, ?_⟩
    · have := h1 p hp
      rw [List.length_cons]
      omega
    · rw [List.length_cons]
      omega
theorem split_len {z y : Str} (hy : tl y ≠ []) (hk : y.cps.all (· < 256) = true) : (∀ p ∈ Txt.split z y, p.length ≤ z.length) ∧ (Txt.split z y).length ≤ z.length + 1 := by
  obtain ⟨h1, h2⟩ := spl_len (tl y) (tl z) 0 []
  rw [← TL.split_spl z y hy (TL.kind_ok hk)] at h1 h2
  rw [List.length_map] at h2
  rw [TL.len_tl z]
  refine ⟨fun p hp => ?_, h2⟩
  have := h1 (tl p) (List.mem_map_of_mem hp)
  rw [List.length_nil] at this
  rw [TL.len_tl]
  omega
theorem comma_ne : tl ("," : Str) ≠ [] := by decide +kernel
theorem comma_k : ("," : Str).cps.all (· < 256) = true := by decide +kernel
theorem comma_z : (("," : Str).length == 0) = false := by decide +kernel
def pieces (z : Str) : List Str := Txt.split z ","
/-- what is known of an error of a class that tells an index -/
structure ErrI (K : PySem.W.Frag) (mg : Str → Option Value) (nm : Str) (C fI : Addr) : Prop where
  g : mg nm = some (.ref C)
  t : OtErr K C nm
  i : PySem.W.findIn K (.ref C) "__init__" = some (some (.ref fI))
  ty : PySem.W.typeIn K (.ref fI) = some (.type "function")
def spRead (K : PySem.W.Frag) (C : Addr) : Sp := fun vs H Q E => ∃ z : Str, vs = [.str z] ∧ z.length ≤ 600 ∧
  (∀ i, fbL 0 (pieces z) = some i → ∀ d H', Same H H' → H' d = some (.xd [("index", .int (i : Nat)), ("word", .str "BadText")]) → E (.ref C) (some d) H') ∧
  (fbL 0 (pieces z) = none → ∀ a H', Same H H' → H' a = some (.tup ((pieces z).map fun y => V.int (numOf y))) → Q (.ref a) H')
theorem ok_read {f C fI : Addr} {fd fdI : FuncData} (D : C8.Def K mg "read_place" s_read_place f fd) (T : Bi mg) (X : ErrI K mg "BadText" C fI) (GI : FnOk P w K mg base L2.CX0 2 fI fdI ["self", "index"] (spIE K)) (bI : Binds K fdI ["self", "index"] [])
    (c_first_bad_piece : C8.Cal P w K mg base 2 "first_bad_piece" (spFB K) []) : FnOk P w K mg base (L2.CX P w) 4 f fd ["text"] (spRead K C) := by
  obtain ⟨oc, od, dV, kV, doc, pm, an, cdv, ct, osl, rfl, lk, hcd⟩ := D.fn.ex
  refine fn_of lk hcd sc_read_place (fun vs H Q E h => ?_) fun A outer s H vs Q E hr h => ?_
  · obtain ⟨z, rfl, _⟩ := h
    rfl
  · obtain ⟨z, rfl, hz, qE, qN⟩ := h
    refine ⟨_, pss_cons (ps_set (i := 1) sc_read_place.nd rfl (Or.inl rfl) (pe_split (pv 0) pe_str))
      (pss_cons (ps_set (i := 2) sc_read_place.nd rfl (Or.inl rfl) (C8.pe_c c_first_bad_piece hr (by decide) (by rfl) (pa_cons (pv 1) pa_nil)))
      (pss_cons (ps_if (pt_cmpR op_notN (pv 2) pe_non (nomark _)) (pss_one (ps_raise rfl (takes_of rfl rfl rfl rfl) (pmk_oex X.t.ox X.i X.ty GI hr bI .nil pass0 (by rfl) X.g (pa_cons (pv 2) pa_nil)))) pss_nil)
      (pss_one (ps_ret (pe_callTy call_tuple_of (by rfl) T.n_tuple OT.b_tuple (pa_cons (pe_lc (own := [("piece", 3)]) (g := gName 3) (tt := tYes) rfl sc_read_place.nd (pi_list (pv 1)) (blkOk_by (N := ["text", "pieces", "bad", "piece"]) (sc := C8.fnScope s_read_place) (by decide +kernel)) (fun _ _ _ _ _ => (pg_name (i := 3) sc_read_place.nd rfl (Or.inl rfl))) (fun _ _ _ _ _ => pts_nil)
        (fun _ _ _ _ _ => (pe_callTy call_int_str (by rfl) T.n_int OT.b_int (pa_cons (pv 3) pa_nil)))) pa_nil)))))), ?_⟩
    have hsl := split_len (z := z) comma_ne comma_k
    have h601 : (pieces z).length ≤ 601 := Nat.le_trans hsl.2 (by omega)
    have hpl : ∀ y ∈ pieces z, y.length ≤ 600 := fun y hy => Nat.le_trans (hsl.1 y hy) hz
    refine ⟨_, rfl, ⟨_, rfl⟩, z, ",", rfl, rfl, comma_z, Nat.le_of_lt (small1000 (by omega)), fun p np => ?_⟩
    have s1 : Same H (upd H p (.lst ((pieces z).map V.str))) := same_upd np
    refine ⟨_, rfl, p, pieces z, rfl, .inl (.inl upd_same), fun y hy => Nat.le_trans (hpl y hy) (by decide), fun H2 sm => ?_⟩
    have s2 := s1.trans sm
    have hp2 : H2 p = some (.lst ((pieces z).map V.str)) := sm _ _ upd_same
    cases e : fbL 0 (pieces z) with
    | some i =>
      refine ⟨_, rfl, rfl, _, rfl, iteT ⟨_, rfl, (by show 1 ≤ 1000; decide), fun a na => ⟨a, C, _, _, rfl, upd_same, X.t, fun d nd ne => ?_⟩⟩⟩
      have nd2 : H2 d = none := by
        rw [upd_ne ne] at nd
        exact nd
      refine ⟨rfl, d, _, ?_, upd_same, nd2, qE i e d _ ?_ upd_same⟩
      · rw [upd_ne ne.symm, upd_same]
      · intro b o hb
        have hb2 := s2 b o hb
        have nba : b ≠ a := ne_of_none hb2 na
        have nbd : b ≠ d := ne_of_none hb2 nd2
        rw [upd_ne nbd, del_ne nba, upd_ne nbd, upd_ne nba, upd_ne nbd, upd_ne nba]
        exact hb2
    | none =>
      refine ⟨_, rfl, rfl, _, rfl, iteF ?_⟩
      have hdec := fbL_none e
      refine ⟨_, rfl, p, rfl, ⟨_, .inl (.inl hp2)⟩, fun p3 np3 => ?_⟩
      refine lc_list (K := K) (xs := (pieces z).map V.str) (fun i H3 => Same H2 H3 ∧ H3 p3 = some (.lst (((pieces z).take i).map fun y => V.int (numOf y)))) ?_ ?_ ?_ ?_
      · exact ⟨same_upd np3, upd_same⟩
      · rintro i H3 _ ⟨sm3, _⟩
        exact sm3.seq (.inl (.inl hp2))
      · rintro i x H3 hx ⟨sm3, hp3⟩
        obtain ⟨hi, rfl⟩ := getm hx
        have hm := List.getElem_mem hi
        refine ⟨rfl, tYes_of ?_⟩
        refine ⟨_, rfl, _, _, rfl, dec_num (hdec _ hm) (Nat.le_trans (hpl _ hm) (by decide)), Nat.le_trans (hpl _ hm) (by decide), _, hp3, ?_, same_mut sm3 np3, ?_⟩
        · rw [List.length_map, List.length_take]
          exact small1000 (by omega)
        · rw [upd_same, take_map_succ (fun y => V.int (numOf y)) hi]
      · rintro H3 ⟨sm3, hp3⟩
        rw [List.length_map, List.take_length] at hp3
        refine ⟨p3, _, rfl, .inl ⟨.inl (.inl hp3), fun l nl => ?_⟩⟩
        exact qN e l _ ((s2.trans sm3).trans (same_upd nl)) upd_same
end
end OT

set_option Elab.async false
set_option linter.all false
set_option maxRecDepth 100000
set_option maxHeartbeats 2000000
namespace OT
open PySem PySem.Spec PyProof.Rows L2
open TL (tl)
section
variable {P : Program} {w : World} {K : PySem.W.Frag} {mg : Str → Option Value} {base : Heap}
/-! ### asked of the error that is held -/
def spIntE : SpE := fun _ _ _ vs H Q _ => ∃ i : Int, vs = [.int i] ∧ Q (.bl true) H
theorem h__law_is_integer {f : Addr} {fd : FuncData} (D : C8.Def K mg "_law_is_integer" s__law_is_integer f fd) (T : Bi mg) : FnE P w K mg base 1 f fd ["_law_actual"] spIntE := by
  refine fnE_of D.fn sc__law_is_integer (fun a c d vs H Q E h => ?_) (fun cdv A outer s H vs Q p c d zc fld hr h => ?_)
  · obtain ⟨i, rfl, _⟩ := h
    rfl
  · obtain ⟨i, rfl, q⟩ := h
    refine ⟨_, (pss_one (ps_ret (pe_and (pe_callB call_isi (by rfl) T.n_isinstance OT.b_isinstance (pa_cons (pv 0) (pa_cons (pe_bltn (v := .ty "int") (by rfl) T.n_int OT.b_int rfl) pa_nil))) (pe_one (pe_not (pe_callB call_isi (by rfl) T.n_isinstance OT.b_isinstance (pa_cons (pv 0) (pa_cons (pe_bltn (v := .ty "bool") (by rfl) T.n_bool OT.b_bool rfl) pa_nil)))))))), ?_⟩
    refine ⟨_, rfl, _, _, _, _, _, rfl, .ty _, .base (.int i), kit_ty kb_ii, _, rfl, ?_⟩
    refine iteT ?_
    exact ⟨_, rfl, _, _, _, _, _, rfl, .ty _, .base (.int i), kit_ty kb_ib, _, rfl, q⟩
/-- the held error bears these fields -/
structure HeldF (K : PySem.W.Frag) (H : Hp) (C dd : Addr) (c : Value) (d : Option Addr) (fs : List (Str × V)) : Prop where
  c : c = .ref C
  d : d = some dd
  t : PySem.W.OtCls K C
  h : H dd = some (.xd fs)
def spErrE (K : PySem.W.Frag) (B : Addr) : SpE := fun a c d vs H Q _ => ∃ (C dd : Addr) (fs : List (Str × V)) (nm : Str), vs = [.ref a, .str nm] ∧ HeldF K H C dd c d fs ∧ PySem.W.findIn K (.ref C) "word" = some none ∧ fs.lookup ("word" : Str) = some (V.str nm) ∧
  PySem.W.kitOne K (.ref C) (.ref B) = some true ∧ PySem.W.kitOne K (.ref C) (.type "ValueError") = some true ∧ Q (.bl true) H
theorem h__law_is_error {f B : Addr} {fd : FuncData} (D : C8.Def K mg "_law_is_error" s__law_is_error f fd) (T : Bi mg) (gB : mg "TableError" = some (.ref B)) (nV : mg "ValueError" = none) : FnE P w K mg base 1 f fd ["_law_e", "_law_word"] (spErrE K B) := by
  refine fnE_of D.fn sc__law_is_error (fun a c d vs H Q E h => ?_) (fun cdv A outer s H vs Q p c d zc fld hr h => ?_)
  · obtain ⟨C, dd, fs, nm, rfl, _⟩ := h
    rfl
  · obtain ⟨C, dd, fs, nm, rfl, hh, nw, lw, kB, kV, q⟩ := h
    have hp : p ∈ (L2H.cxH L2.CX0 P w K mg base ["_law_e", "_law_word"] "_law_is_error" (C8.fnScope s__law_is_error) f cdv A outer s H E0 p).pn := List.mem_cons_self
    refine ⟨_, pss_one (ps_ret (pe_and (pe_callB (call_isX hp zc fld) (by rfl) T.n_isinstance OT.b_isinstance (pa_cons (pv 0) (pa_cons (pe_glob (v := .ref B) (by rfl) gB rfl) pa_nil)))
      (pe_and (pe_callB (call_isX hp zc fld) (by rfl) T.n_isinstance OT.b_isinstance (pa_cons (pv 0) (pa_cons (pe_bltn (v := .ty "ValueError") (by rfl) nV OT.b_ValueError rfl) pa_nil)))
      (pe_and (pe_callB call_isi (by rfl) T.n_isinstance OT.b_isinstance (pa_cons (pe_fX hp zc fld (pv 0)) (pa_cons (pe_bltn (v := .ty "str") (by rfl) T.n_str OT.b_str rfl) pa_nil)))
      (pe_one (pe_cmpR op_eq (pe_fX hp zc fld (pv 0)) (pv 1) (nomark _))))))), ?_⟩
    refine ⟨_, rfl, C, dd, fs, _, _, _, rfl, hh.c, hh.d, hh.t, hh.h, .own B, kB, _, rfl, ?_⟩
    refine iteT ?_
    refine ⟨_, rfl, C, dd, fs, _, _, _, rfl, hh.c, hh.d, hh.t, hh.h, .ty _, kV, _, rfl, ?_⟩
    refine iteT ?_
    refine ⟨_, rfl, C, dd, fs, _, rfl, hh.c, hh.d, hh.t, nw, hh.h, lw, _, _, _, _, _, rfl, .ty _, .base (.str nm), kit_ty kb_ss, _, rfl, ?_⟩
    refine iteT ?_
    refine ⟨_, rfl, C, dd, fs, _, rfl, hh.c, hh.d, hh.t, nw, hh.h, lw, _, rfl, rfl, ?_⟩
    rw [decide_eq_true rfl]
    exact q
/-- what isinstance says of the class at C -/
structure KitE (K : PySem.W.Frag) (B C : Addr) : Prop where
  b : PySem.W.kitOne K (.ref C) (.ref B) = some true
  v : PySem.W.kitOne K (.ref C) (.type "ValueError") = some true
def spRefE (K : PySem.W.Frag) (C : Addr) : SpE := fun a c d vs H Q _ => ∃ (dd : Addr) (i : Int), vs = [.ref a, .int i] ∧ HeldF K H C dd c d [("index", .int i), ("word", .str "BadText")] ∧ Q (.bl true) H
theorem h__law_refused {f B C C2 C3 f1 f2 : Addr} {fd fd1 fd2 : FuncData} (D : C8.Def K mg "_law_refused" s__law_refused f fd) (T : Bi mg) (t : OtErr K C "BadText") (k : KitE K B C)
    (gC : mg "BadText" = some (.ref C)) (g2 : mg "BadPlace" = some (.ref C2)) (g3 : mg "BadLine" = some (.ref C3)) (k1 : PySem.W.kitOne K (.ref C) (.ref C) = some true) (k2 : PySem.W.kitOne K (.ref C) (.ref C2) = some false) (k3 : PySem.W.kitOne K (.ref C) (.ref C3) = some false)
    (D1 : C8.Def K mg "_law_is_error" s__law_is_error f1 fd1) (b1 : Binds K fd1 ["_law_e", "_law_word"] []) (F1 : FnE P w K mg base 1 f1 fd1 ["_law_e", "_law_word"] (spErrE K B))
    (D2 : C8.Def K mg "_law_is_integer" s__law_is_integer f2 fd2) (b2 : Binds K fd2 ["_law_actual"] []) (F2 : FnE P w K mg base 1 f2 fd2 ["_law_actual"] spIntE) :
    FnE P w K mg base 2 f fd ["_law_e", "_law_index"] (spRefE K C) := by
  refine fnE_of D.fn sc__law_refused (fun a c d vs H Q E h => ?_) (fun cdv A outer s H vs Q p c d zc fld hr h => ?_)
  · obtain ⟨dd, i, rfl, _⟩ := h
    rfl
  · obtain ⟨dd, i, rfl, hh, q⟩ := h
    have hp : p ∈ (L2H.cxH L2.CX0 P w K mg base ["_law_e", "_law_index"] "_law_refused" (C8.fnScope s__law_refused) f cdv A outer s H E0 p).pn := List.mem_cons_self
    refine ⟨_, pss_cons (ps_if (PW.pt (pw_or (pt_not (pt_val (pe_callB (call_isX hp zc fld) (by rfl) T.n_isinstance OT.b_isinstance (pa_cons (pv 0) (pa_cons (pe_glob (v := .ref C) (by rfl) gC rfl) pa_nil)))))
        (pw_or (pt_val (pe_callB (call_isX hp zc fld) (by rfl) T.n_isinstance OT.b_isinstance (pa_cons (pv 0) (pa_cons (pe_glob (v := .ref C2) (by rfl) g2 rfl) pa_nil))))
        (pw_or1 (pt_val (pe_callB (call_isX hp zc fld) (by rfl) T.n_isinstance OT.b_isinstance (pa_cons (pv 0) (pa_cons (pe_glob (v := .ref C3) (by rfl) g3 rfl) pa_nil)))))))) (pss_one (ps_ret pe_bl)) pss_nil)
      (pss_one (ps_ret (pe_and (pe_callE F1 hr hp zc fld (by rfl) D1.mgf D1.kp b1 (pa_cons (pv 0) (pa_cons pe_str pa_nil)))
        (pe_and (pe_callE F2 hr hp zc fld (by rfl) D2.mgf D2.kp b2 (pa_cons (pe_fX hp zc fld (pv 0)) pa_nil))
        (pe_one (pe_cmpR op_eq (pe_fX hp zc fld (pv 0)) (pv 1) (nomark _))))))), ?_⟩
    refine ⟨_, rfl, C, dd, _, _, _, _, rfl, hh.c, hh.d, hh.t, hh.h, .own C, k1, _, rfl, ?_⟩
    refine iteF ?_
    refine ⟨_, rfl, C, dd, _, _, _, _, rfl, hh.c, hh.d, hh.t, hh.h, .own C2, k2, _, rfl, ?_⟩
    refine iteF ?_
    refine ⟨_, rfl, C, dd, _, _, _, _, rfl, hh.c, hh.d, hh.t, hh.h, .own C3, k3, _, rfl, ?_⟩
    refine iteF ?_
    refine ⟨_, rfl, C, dd, _, "BadText", rfl, hh, t.nw, rfl, k.b, k.v, _, rfl, ?_⟩
    refine iteT ?_
    refine ⟨_, rfl, C, dd, _, _, rfl, hh.c, hh.d, hh.t, t.ni, hh.h, rfl, i, rfl, _, rfl, ?_⟩
    refine iteT ?_
    refine ⟨_, rfl, C, dd, _, _, rfl, hh.c, hh.d, hh.t, t.ni, hh.h, rfl, _, rfl, rfl, ?_⟩
    rw [decide_eq_true rfl]
    exact q
/-! ### one text asked -/
theorem roomH_m {k : Nat} {A : Around} {v : Option Value} (r : Room k A) : L2H.RoomH k (A.mark v) := ⟨r.dp, r.un⟩
theorem dpAll {K : PySem.W.Frag} {H : Hp} : ∀ ns : List Int, DpAll K H (ns.map V.int) (ns.map PyData.int)
  | [] => .nil
  | n :: r => .cons (.int n) (dpAll r)
theorem lay_ints : ∀ ns : List Int, PyData.canLayAll0 (ns.map PyData.int) = true
  | [] => by simp only [List.map_nil, PyData.canLayAll0]
  | n :: r => by simp only [List.map_cons, PyData.canLayAll0, PyData.canLay0, lay_ints r, Bool.and_self]
theorem depth_ints : ∀ ns : List Int, PyData.depthAll (ns.map PyData.int) = 0
  | [] => by simp only [List.map_nil, PyData.depthAll]
  | n :: r => by simp only [List.map_cons, PyData.depthAll, PyData.depth, depth_ints r, Nat.max_self]
theorem lay_tup (ns : List Int) : (PyData.tuple (ns.map PyData.int)).canLay0 = true := by simp only [PyData.canLay0, lay_ints]
theorem shaped_tup (ns : List Int) : SeqAt.shaped (PyData.tuple (ns.map PyData.int)) = true := by
  unfold SeqAt.shaped
  rw [lay_tup, Bool.true_and]
  refine decide_eq_true ?_
  simp only [PyData.depth, depth_ints]
  decide
theorem spl_pos (S : List Nat) : ∀ (l : List Nat) (k : Nat) (acc : List Nat), 1 ≤ (TL.spl S k acc l).length
  | [], k, acc => by
    rw [TL.spl_nil]
    exact Nat.le_refl _
  | c :: r, 0, acc => by
    cases h : TL.pre S (c :: r) with
    | true =>
      rw [TL.spl_hit h, List.length_cons]
      exact Nat.succ_pos _
    | false =>
      rw [TL.spl_miss h]
      exact spl_pos S r 0 _
  | c :: r, k + 1, acc => spl_pos S r k acc
theorem pieces_pos (z : Str) : 1 ≤ (pieces z).length := by
  have h := spl_pos (tl ("," : Str)) (tl z) 0 []
  rw [← TL.split_spl z "," comma_ne (TL.kind_ok comma_k), List.length_map] at h
  exact h
def spAsk : Sp := fun vs H Q _ => ∃ z : Str, vs = [.str z] ∧ z.length ≤ 600 ∧ ∀ H', Same H H' → Q (.bl true) H'
theorem c__law_asked {f B C fR fE : Addr} {fd fdR fdE : FuncData} (D : C8.Def K mg "_law_asked" s__law_asked f fd) (b : Binds K fd ["_law_text"] []) (T : Bi mg) (gB : mg "TableError" = some (.ref B)) (t : OtErr K C "BadText") (eB : PySem.W.exmOne K (.ref C) (.ref B) = some true)
    (DR : C8.Def K mg "read_place" s_read_place fR fdR) (bR : Binds K fdR ["text"] []) (GR : FnOk P w K mg base (L2.CX P w) 4 fR fdR ["text"] (spRead K C))
    (DE : C8.Def K mg "_law_refused" s__law_refused fE fdE) (bE : Binds K fdE ["_law_e", "_law_index"] []) (GE : FnE P w K mg base 2 fE fdE ["_law_e", "_law_index"] (spRefE K C))
    (c__law_first_bad : C8.Cal P w K mg base 2 "_law_first_bad" (spLFB K) []) (c__law_is_place : C8.Cal P w K mg base 2 "_law_is_place" (spIsPlace K) []) : C8.Cal P w K mg base 5 "_law_asked" spAsk [] := by
  refine C8.cal0 D b .nil sc__law_asked (fun vs H Q E h => ?_) (fun cdv A outer s H vs Q E hr h => ?_)
  · obtain ⟨z, rfl, _⟩ := h
    rfl
  · obtain ⟨z, rfl, hz, q⟩ := h
    refine ⟨_, pss_cons (ps_set (i := 1) sc__law_asked.nd rfl (Or.inl rfl) (pe_split (pv 0) pe_str))
      (pss_cons (ps_set (i := 2) sc__law_asked.nd rfl (Or.inl rfl) (C8.pe_c c__law_first_bad hr (by decide) (by rfl) (pa_cons (pv 1) pa_nil)))
      (pss_cons (ps_try_as (i := 3) (tb := fun W => tAsg (tCallS (spRead K C) (WE W) (tCons (tVar 0) tNil)) (gName 4)) (ts := fun a cls d => tRet (tAndV (tOp (rI0 fun i j => .bl (decide (j ≤ i))) (tVar 2) (tC (.int 0))) (fun σ H Q => tCons (tVar 3) (tCons (tVar 2) tNil) σ H fun vs H1 => spRefE K C a cls d vs H1 Q E0))) (Wout := fun _ _ _ _ => False) rfl rfl sc__law_asked.nd rfl rfl ⟨rfl, by decide, Or.inl gB⟩ takes0
        (fun W pn xe tk _ => pss_one (ps_set (i := 4) sc__law_asked.nd rfl (Or.inl rfl) (pe_callS GR hr rfl DR.mgf DR.kp bR (fun σ => passAt tk σ) (pa_cons (pv 0) pa_nil))))
        (fun a oe cls d pn hz hf => pss_one (ps_ret (pe_and (by exact pe_cmpR op_ge (pv 2) pe_int (nomark _)) (pe_one (by exact pe_callE (p := (a, oe)) GE (roomH_m (hr.mono (by decide : 2 ≤ 4))) List.mem_cons_self hz hf (by rfl) DE.mgf DE.kp bE (pa_cons (pv 3) (pa_cons (pv 2) pa_nil))))))))
      (pss_one (ps_ret (pe_and (pe_cmpR op_lt (pv 2) pe_int (nomark _)) (pe_and (C8.pe_c c__law_is_place hr (by decide) (by rfl) (pa_cons (pv 4) pa_nil))
        (pe_one (pe_cmpR (op_eqD hr.units) (pv 4) (pe_callTy call_tuple_of (by rfl) T.n_tuple OT.b_tuple (pa_cons (pe_lc (own := [("_law_piece_here", 5)]) (g := gName 5) (tt := tYes) rfl sc__law_asked.nd (pi_list (pv 1)) (blkOk_by (N := ["_law_text", "_law_pieces", "_law_bad", "_law_e", "_law_actual", "_law_piece_here"]) (sc := C8.fnScope s__law_asked) (by decide +kernel)) (fun _ _ _ _ _ => (pg_name (i := 5) sc__law_asked.nd rfl (Or.inl rfl))) (fun _ _ _ _ _ => pts_nil)
        (fun _ _ _ _ _ => (pe_callTy call_int_str (by rfl) T.n_int OT.b_int (pa_cons (pv 5) pa_nil)))) pa_nil)) (nomark _))))))))), ?_⟩
    have hsl := split_len (z := z) comma_ne comma_k
    have h601 : (pieces z).length ≤ 601 := Nat.le_trans hsl.2 (by omega)
    have hpl : ∀ y ∈ pieces z, y.length ≤ 600 := fun y hy => Nat.le_trans (hsl.1 y hy) hz
    refine ⟨_, rfl, ⟨_, rfl⟩, z, ",", rfl, rfl, comma_z, Nat.le_of_lt (small1000 (by omega)), fun p np => ?_⟩
    have s1 : Same H (upd H p (.lst ((pieces z).map V.str))) := same_upd np
    refine ⟨_, rfl, p, pieces z, rfl, .inl (.inl upd_same), by omega, fun y hy => Nat.le_trans (hpl y hy) (by decide), ?_⟩
    cases e : fbL 0 (pieces z) with
    | some i =>
      refine ⟨_, rfl, z, rfl, hz, fun j hj d H3 sm hd => ?_, fun h => ?_⟩
      · rw [e] at hj
        cases hj
        refine ⟨true, eB, fun _ a na => ?_, fun h => by cases h⟩
        refine ⟨_, rfl, _, _, rfl, rfl, _, rfl, ?_⟩
        rw [decide_eq_true (show (0 : Int) ≤ ((i : Nat) : Int) by omega)]
        refine iteT ?_
        exact ⟨_, rfl, _, rfl, d, _, rfl, ⟨rfl, rfl, t.oc, hd⟩, q _ (s1.trans sm)⟩
      · rw [e] at h
        cases h
    | none =>
      refine ⟨_, rfl, z, rfl, hz, fun j hj d H3 sm hd => ?_, fun h a H3 sm ha => ?_⟩
      · rw [e] at hj
        cases hj
      · refine ⟨_, rfl, _, _, rfl, rfl, _, rfl, ?_⟩
        have hdec := fbL_none e
        have h3 : (pieces z).length ≤ 3 := fbL_len e (by decide)
        have h0 : 1 ≤ (pieces z).length := pieces_pos z
        have em : ((pieces z).map fun y => V.int (numOf y)) = ((pieces z).map numOf).map V.int := by rw [List.map_map]; rfl
        rw [em] at ha
        rw [decide_eq_true (show (-1 : Int) < 0 by decide)]
        refine iteT ?_
        refine ⟨_, rfl, a, _, rfl, ha, by rw [List.length_map]; exact h0, by rw [List.length_map]; exact h3, _, rfl, ?_⟩
        refine iteT ?_
        have hp3 : H3 p = some (.lst ((pieces z).map V.str)) := sm _ _ upd_same
        refine ⟨_, rfl, _, rfl, p, rfl, ⟨_, .inl (.inl hp3)⟩, fun p3 np3 => ?_⟩
        refine lc_list (K := K) (xs := (pieces z).map V.str) (fun i H4 => Same H3 H4 ∧ H4 p3 = some (.lst (((pieces z).take i).map fun y => V.int (numOf y)))) ?_ ?_ ?_ ?_
        · exact ⟨same_upd np3, upd_same⟩
        · rintro i H4 _ ⟨sm3, _⟩
          exact sm3.seq (.inl (.inl hp3))
        · rintro i x H4 hx ⟨sm3, hp4⟩
          obtain ⟨hi, rfl⟩ := getm hx
          have hm := List.getElem_mem hi
          refine ⟨rfl, tYes_of ?_⟩
          refine ⟨_, rfl, _, _, rfl, dec_num (hdec _ hm) (Nat.le_trans (hpl _ hm) (by decide)), Nat.le_trans (hpl _ hm) (by decide), _, hp4, ?_, same_mut sm3 np3, ?_⟩
          · rw [List.length_map, List.length_take]
            exact small1000 (by omega)
          · rw [upd_same, take_map_succ (fun y => V.int (numOf y)) hi]
        · rintro H4 ⟨sm3, hp4⟩
          rw [List.length_map, List.take_length, em] at hp4
          refine ⟨p3, _, rfl, .inl ⟨.inl (.inl hp4), fun l nl => ?_⟩⟩
          have sm5 : Same H4 (upd H4 l (.tup (((pieces z).map numOf).map V.int))) := same_upd nl
          refine ⟨.tuple (((pieces z).map numOf).map PyData.int), .tuple (((pieces z).map numOf).map PyData.int), .tup (.inl (.inl (sm5 _ _ (sm3 _ _ ha)))) (dpAll _), .tup (.inl (.inl upd_same)) (dpAll _), shaped_tup _, shaped_tup _, ?_⟩
          rw [SeqAt.eqv_refl _ (lay_tup _)]
          exact q _ ((((s1.trans sm).trans sm3)).trans sm5)
end
end OT

set_option Elab.async false
set_option linter.all false
set_option maxRecDepth 100000
set_option maxHeartbeats 4000000
namespace OT
open PySem PySem.Spec PyProof.Rows L2
open TL (tl)
section
variable {P : Program} {w : World} {K : PySem.W.Frag} {mg : Str → Option Value} {base : Heap}
def spLaw (K : PySem.W.Frag) : Sp := fun vs H Q _ => ∃ (a : Addr) (ns : List Int), vs = [.ref a] ∧ SqL K H a (ns.map V.int) ∧ ns.length ≤ 63 ∧ ∀ H', Q (.bl true) H'
theorem join_len {s : Str} {l : List Str} {k n m : Nat} (h : ∀ y ∈ l, y.length ≤ k) (hs : s.length = 1) (hl : l.length ≤ n) (hm : n * (k + 1) ≤ m) : (Txt.join s l).length ≤ m ∧ (l.map (·.length)).sum + l.length * s.length ≤ m := by
  have h1 := PySem.StrLaws.join_length_le s l
  have h2 := sum_le h
  have h3 : l.length * (k + 1) ≤ n * (k + 1) := Nat.mul_le_mul_right _ hl
  rw [TL.join_eq]
  rw [hs] at h1 ⊢
  rw [Nat.mul_succ] at h3
  omega
theorem c_law {f : Addr} {fd : FuncData} (D : C8.Def K mg "law" s_law f fd) (b : Binds K fd ["_law_script"] []) (T : Bi mg)
    (c__law_cell : C8.Cal P w K mg base 1 "_law_cell" (spCell K) []) (c__law_draws : C8.Cal P w K mg base 1 "_law_draws" (spDraws K) []) (c__law_piece : C8.Cal P w K mg base 2 "_law_piece" (spPiece K) []) (c__law_odd_piece : C8.Cal P w K mg base 1 "_law_odd_piece" (spOdd K) [])
    (c__law_place : C8.Cal P w K mg base 2 "_law_place" (spPlace K) []) (c_write_place : C8.Cal P w K mg base 1 "write_place" (spWP K) []) (c__law_asked : C8.Cal P w K mg base 5 "_law_asked" spAsk []) : FnOk P w K mg base L2.CX0 6 f fd ["_law_script"] (spLaw K) := by
  refine C8.fn0 D.fn sc_law (fun vs H Q E h => ?_) (fun cdv A outer s H vs Q E hr h => ?_)
  · obtain ⟨a, ns, rfl, _⟩ := h
    rfl
  · obtain ⟨a, ns, rfl, hS, hlen, q⟩ := h
    refine ⟨_, (pss_cons (ps_set (i := 1) sc_law.nd rfl (Or.inl rfl) (C8.pe_c c__law_draws hr (by decide) (by rfl) (pa_cons (C8.pe_c c__law_cell hr (by decide) (by rfl) (pa_cons (pv 0) (pa_cons pe_int pa_nil))) (pa_cons (pe_lst (pa_cons pe_int (pa_cons pe_int pa_nil))) pa_nil))))
  (pss_cons (ps_set (i := 2) sc_law.nd rfl (Or.inl rfl) (pe_join pe_str (pe_lc (own := [("_law_k", 10)]) (g := gName 10) (tt := tYes) rfl sc_law.nd (pi_range1 rfl T.n_range (pa_cons (pe_op op_add pe_int (pe_ix ix_list (pv 1) pe_int (fun _ _ => rfl))) pa_nil)) (blkOk_by (N := ["_law_script", "_law_draws_here", "_law_text", "_law_odd", "_law_place_here", "_law_written", "_law_texts", "_law_turn", "_law_told", "_law_each", "_law_k", "_law_x"]) (sc := C8.fnScope s_law) (by decide +kernel)) (fun _ _ _ _ _ => (pg_name (i := 10) sc_law.nd rfl (Or.inl rfl))) (fun _ _ _ _ _ => pts_nil) (fun _ _ _ _ _ => (C8.pe_c c__law_piece hr (by decide) (by rfl) (pa_cons (C8.pe_c c__law_cell hr (by decide) (by rfl) (pa_cons (pv 0) (pa_cons (pe_op op_add pe_int (pv 10)) pa_nil))) pa_nil))))))
  (pss_cons (ps_set (i := 3) sc_law.nd rfl (Or.inl rfl) (C8.pe_c c__law_odd_piece hr (by decide) (by rfl) (pa_cons (pe_ix ix_list (pv 1) pe_int (fun _ _ => rfl)) pa_nil)))
  (pss_cons (ps_set (i := 4) sc_law.nd rfl (Or.inl rfl) (C8.pe_c c__law_place hr (by decide) (by rfl) (pa_cons (C8.pe_c c__law_cell hr (by decide) (by rfl) (pa_cons (pv 0) (pa_cons pe_int pa_nil))) pa_nil)))
  (pss_cons (ps_set (i := 5) sc_law.nd rfl (Or.inl rfl) (pe_join pe_str (pe_lc (own := [("_law_x", 11)]) (g := gName 11) (tt := tYes) rfl sc_law.nd (pi_tup (pv 4)) (blkOk_by (N := ["_law_script", "_law_draws_here", "_law_text", "_law_odd", "_law_place_here", "_law_written", "_law_texts", "_law_turn", "_law_told", "_law_each", "_law_k", "_law_x"]) (sc := C8.fnScope s_law) (by decide +kernel)) (fun _ _ _ _ _ => (pg_name (i := 11) sc_law.nd rfl (Or.inl rfl))) (fun _ _ _ _ _ => pts_nil) (fun _ _ _ _ _ => (pe_callTy call_str_int (by rfl) T.n_str OT.b_str (pa_cons (pv 11) pa_nil))))))
  (pss_cons (ps_set (i := 6) sc_law.nd rfl (Or.inl rfl) (pe_lst (pa_cons (pv 2) (pa_cons (pv 5) (pa_cons (pv 3) (pa_cons (pe_op op_add_str (pe_op op_add_str (pv 3) pe_str) (pv 5)) (pa_cons (pe_op op_add_str (pe_op op_add_str (pv 5) pe_str) (pv 3)) (pa_cons (pe_op op_add_str (pv 5) pe_str) (pa_cons (pe_op op_add_str (pv 5) pe_str) pa_nil)))))))))
  (pss_cons (ps_set (i := 6) sc_law.nd rfl (Or.inl rfl) (pe_op op_cat (pv 6) (pe_lst (pa_cons (pe_op op_add_str (pv 5) pe_str) (pa_cons (pe_op op_add_str pe_str (pv 5)) (pa_cons (pe_op op_add_str (pv 5) pe_str) pa_nil))))))
  (pss_cons (ps_for PassesOwn.never rfl (pi_range1 rfl T.n_range (pa_cons pe_int pa_nil)) (pg_name (i := 7) sc_law.nd rfl (Or.inl rfl)) (pss_cons (ps_set (i := 8) sc_law.nd rfl (Or.inl rfl) (C8.pe_c c_write_place hr (by decide) (by rfl) (pa_cons (pv 4) pa_nil)))
  (pss_cons (ps_if (PW.pt (pw_or (pt_not (pt_val (pe_callB call_isi (by rfl) T.n_isinstance OT.b_isinstance (pa_cons (pv 8) (pa_cons (pe_bltn (v := .ty "str") (by rfl) T.n_str OT.b_str rfl) pa_nil))))) (pw_or1 (pt_cmpR op_ne (pv 8) (pv 5) (nomark _))))) (pss_one (ps_ret pe_bl)) pss_nil)
  (pss_one (ps_for PassesOwn.never rfl (pi_list (pv 6)) (pg_name (i := 9) sc_law.nd rfl (Or.inl rfl)) (pss_one (ps_if (pt_not (pt_val (C8.pe_c c__law_asked hr (by decide) (by rfl) (pa_cons (pv 9) pa_nil)))) (pss_one (ps_ret pe_bl)) pss_nil)))))))
  (pss_one (ps_ret pe_bl)))))))))), ?_⟩
    refine ⟨_, rfl, a, ns, 0, rfl, hS, by decide, fun c => ?_⟩
    refine ⟨by decide, fun p np => ?_⟩
    refine ⟨p, [5, 24], c, rfl, .inl (.inl upd_same), by decide, by decide, fun ds H1 p1 hin sm1 np1 hp1 => ?_⟩
    have sA : Same H H1 := (same_upd np).trans sm1
    have L1 : SqL K H1 p1 (ds.map V.int) := .inl (.inl hp1)
    obtain ⟨d0, g0, g0a, g0b⟩ := hin.get (i := 0) (z := 5) rfl
    obtain ⟨d1, g1, g1a, g1b⟩ := hin.get (i := 1) (z := 24) rfl
    obtain ⟨n, rfl⟩ := Int.eq_ofNat_of_zero_le g0a
    have hc1 : ("," : Str).length = 1 := by decide +kernel
    -- the first text
    refine ⟨⟨_, rfl⟩, _, rfl, p1, _, 0, _, rfl, rfl, L1, atI_nat (j := 0) g0, _, _, rfl, rfl, _, rfl, by omega, ?_, fun p2 np2 => ?_⟩
    · have : (2 : Int) ^ 62 = 4611686018427387904 := by decide
      omega
    rw [show ((1 : Int) + (n : Int)).toNat = 1 + n by omega]
    refine lc_range (lo := 0) (n := 1 + n) (fun i H4 => ∃ zs : List Str, zs.length = i ∧ (∀ z ∈ zs, z.length ≤ 100) ∧ Same H1 H4 ∧ H4 p2 = some (.lst (zs.map V.str))) ⟨[], rfl, fun z hz => by (cases hz), same_upd np2, upd_same⟩ ?_ ?_
    · rintro i H4 hi ⟨zs, hzl, hz2, sm5, hp5⟩
      refine ⟨rfl, tYes_of ?_⟩
      refine ⟨_, rfl, _, rfl, _, _, rfl, rfl, a, ns, _, rfl, (sA.trans sm5).seq hS, by omega, fun c2 => ?_⟩
      refine ⟨c2, rfl, fun z H5 hz sm6 => ?_⟩
      refine ⟨_, sm6 _ _ hp5, ?_, zs ++ [z], by rw [List.length_append, hzl]; rfl, fun y hy => ?_, same_mut (sm5.trans sm6) np2, ?_⟩
      · rw [List.length_map]
        exact small1000 (by omega)
      · rcases List.mem_append.mp hy with hy | hy
        · exact hz2 y hy
        · rw [List.mem_singleton.mp hy]
          exact hz
      · rw [upd_same, List.map_append]
        rfl
    · rintro H4 ⟨zs, hzl, hz2, sm5, hp5⟩
      obtain ⟨j1, j2⟩ := join_len (s := ",") (n := 5) (m := 510) hz2 hc1 (by omega) (by decide)
      refine ⟨_, p2, zs, rfl, rfl, .inl (.inl (.inl hp5)), by omega, ?_⟩
      generalize Txt.join (",": Str) zs = text at j1 ⊢
      have sB := sA.trans sm5
      -- the odd piece
      refine ⟨_, rfl, p1, _, 1, _, rfl, rfl, sm5.seq L1, atI_nat (j := 1) g1, d1, rfl, g1a, g1b, fun odd H5 hodd sm6 => ?_⟩
      have sC := sB.trans sm6
      -- the place
      refine ⟨_, rfl, a, ns, 1, rfl, sC.seq hS, by decide, fun c3 => ⟨c3, rfl, fun ms pa H6 hm1 hm3 hmb sm7 hpa => ?_⟩⟩
      have sD := sC.trans sm7
      have hPa : SqT K H6 pa (ms.map V.int) := .inl (.inl hpa)
      have hmb2 : ∀ m ∈ ms, m.natAbs < 10 ^ 40 := fun m hm => Nat.lt_of_lt_of_le (hmb m hm) (by decide)
      -- its written form
      refine ⟨⟨_, rfl⟩, _, rfl, pa, rfl, ⟨_, hPa⟩, fun p3 np3 => ?_⟩
      refine lc_tup (K := K) (xs := ms.map V.int) (fun i H7 => Same H6 H7 ∧ H7 p3 = some (.lst ((ms.take i).map fun n => V.str (strN n)))) ⟨same_upd np3, upd_same⟩ (fun i H7 _ h => same_t h.1 hPa) ?_ ?_
      · rintro i x H7 hx ⟨sm8, hp⟩
        obtain ⟨hi, rfl⟩ := getm hx
        have hm := List.getElem_mem hi
        refine ⟨rfl, tYes_of ?_⟩
        refine ⟨_, rfl, _, rfl, strN_log (hmb2 _ hm), _, hp, ?_, same_mut sm8 np3, ?_⟩
        · rw [List.length_map, List.length_take]
          exact small1000 (by omega)
        · rw [upd_same, take_map_succ (fun n => V.str (strN n)) hi]
      · rintro H7 ⟨sm8, hp⟩
        rw [List.length_map, List.take_length] at hp
        have hst : ∀ y ∈ ms.map strN, y.length ≤ 5 := fun y hy => by
          obtain ⟨m, hm, rfl⟩ := List.mem_map.mp hy
          exact strN_len (by decide) (hmb m hm)
        obtain ⟨k1, k2⟩ := join_len (s := ",") (n := 3) (m := 18) hst hc1 (by rw [List.length_map]; omega) (by decide)
        refine ⟨_, p3, ms.map strN, rfl, rfl, .inl (.inl (.inl ?_)), by omega, ?_⟩
        · rw [hp, List.map_map]
          rfl
        have sE := sD.trans sm8
        generalize hwr : Txt.join (",": Str) (ms.map strN) = wr at k1 ⊢
        have ec0 : (",0" : Str).length = 2 := by decide +kernel
        have enl : ("\n" : Str).length = 1 := by decide +kernel
        have esp : (" " : Str).length = 1 := by decide +kernel
        have sz : ∀ {k : Nat}, k ≤ 1000 → k ≤ sizeLine := fun h => Nat.le_of_lt (small1000 h)
        have l1 : (odd ++ ("," : Str)).length ≤ 11 := by rw [Str.length_append, hc1]; omega
        have l2 : (odd ++ ("," : Str) ++ wr).length ≤ 29 := by rw [Str.length_append]; omega
        have l3 : (wr ++ ("," : Str)).length ≤ 19 := by rw [Str.length_append, hc1]; omega
        have l4 : (wr ++ ("," : Str) ++ odd).length ≤ 29 := by rw [Str.length_append]; omega
        have l5 : (wr ++ (",0" : Str)).length ≤ 20 := by rw [Str.length_append, ec0]; omega
        have l6 : (wr ++ ("\n" : Str)).length ≤ 19 := by rw [Str.length_append, enl]; omega
        have l7 : ((" " : Str) ++ wr).length ≤ 19 := by rw [Str.length_append, esp]; omega
        have l8 : (wr ++ (" " : Str)).length ≤ 19 := by rw [Str.length_append, esp]; omega
        refine ⟨_, rfl, _, rfl, _, rfl, _, rfl, _, _, rfl, rfl, sz (by omega), _, rfl, _, _, rfl, rfl, sz (by omega),
          _, rfl, _, _, rfl, rfl, sz (by omega), _, rfl, _, _, rfl, rfl, sz (by omega), _, rfl, _, _, rfl, rfl, sz (by omega), _, rfl, _, _, rfl, rfl, sz (by omega), (by show 7 ≤ sizeLine; decide), fun p4 np4 => ?_⟩
        refine ⟨_, rfl, _, rfl, _, _, rfl, rfl, sz (by omega), _, rfl, _, _, rfl, rfl, sz (by omega), _, rfl, _, _, rfl, rfl, sz (by omega), (by show 3 ≤ sizeLine; decide), fun p5 np5 => ?_⟩
        have n45 : p4 ≠ p5 := ne_of_none upd_same np5
        refine ⟨p4, p5, _, _, rfl, rfl, by rw [upd_ne n45, upd_same], upd_same, (by show 7 + 3 ≤ sizeLine; decide), fun p6 np6 => ?_⟩
        let texts : List Str := [text, wr, odd, odd ++ ("," : Str) ++ wr, wr ++ ("," : Str) ++ odd, wr ++ (",0" : Str), wr ++ ("," : Str), wr ++ ("\n" : Str), (" " : Str) ++ wr, wr ++ (" " : Str)]
        have htx : ∀ y ∈ texts, y.length ≤ 600 := fun y hy => by
          simp only [texts, List.mem_cons, List.not_mem_nil, or_false] at hy
          rcases hy with rfl | rfl | rfl | rfl | rfl | rfl | rfl | rfl | rfl | rfl <;> omega
        refine ⟨2, rfl, by decide, by decide, ?_⟩
        refine for_range (lo := 0) (n := 2) (fun i σ H2 => ∃ (y7 y8 y9 : Option V), σ = [some (.ref a), some (.ref p1), some (.str text), some (.str odd), some (.ref pa), some (.str wr), some (.ref p6), y7, y8, y9, none, none] ∧ Same H7 H2 ∧ H2 p6 = some (.lst (texts.map V.str))) ?_ ?_ ?_
        · exact ⟨none, none, none, rfl, ((same_upd np4).trans (same_upd np5)).trans (same_upd np6), upd_same⟩
        · rintro i σ H8 hi ⟨y7, y8, y9, rfl, sm9, hp6⟩
          refine ⟨_, rfl, pa, ms, rfl, same_t (sm8.trans sm9) hPa, by omega, hmb2, fun H9 sm10 => ?_⟩
          rw [hwr]
          refine ⟨_, rfl, _, _, _, _, _, rfl, .ty _, .base (.str _), kit_ty kb_ss, _, rfl, ?_⟩
          refine iteF ?_
          refine ⟨_, rfl, _, rfl, rfl, _, rfl, iteNS rfl ?_⟩
          have hp7 := sm10 _ _ hp6
          refine ⟨_, rfl, p6, rfl, ⟨_, .inl (.inl hp7)⟩, ?_⟩
          refine for_list (K := K) (xs := texts.map V.str) (fun j σ H10 => ∃ (z9 : Option V), σ = [some (.ref a), some (.ref p1), some (.str text), some (.str odd), some (.ref pa), some (.str wr), some (.ref p6), some (.int (0 + (i : Int))), some (.str wr), z9, none, none] ∧ Same H7 H10 ∧ H10 p6 = some (.lst (texts.map V.str))) ?_ ?_ ?_ ?_
          · exact ⟨_, rfl, sm9.trans sm10, hp7⟩
          · rintro j σ H10 _ ⟨_, _, _, h⟩
            exact .inl (.inl h)
          · rintro j x σ H10 hx ⟨z9, rfl, sm11, hp8⟩
            obtain ⟨hj, rfl⟩ := getm hx
            refine ⟨_, rfl, _, rfl, htx _ (List.getElem_mem hj), fun H11 sm12 => ⟨_, rfl, ?_⟩⟩
            refine iteF ?_
            exact ⟨_, rfl, sm11.trans sm12, sm12 _ _ hp8⟩
          · rintro σ H10 ⟨z9, rfl, sm11, hp8⟩
            exact ⟨_, _, _, rfl, sm11, hp8⟩
        · rintro σ H8 ⟨y7, y8, y9, rfl, sm9, hp6⟩
          exact q H8
end
end OT

set_option Elab.async false
set_option linter.all false
set_option maxRecDepth 100000
set_option maxHeartbeats 4000000
namespace OT
open PySem PySem.Spec PyProof.Rows L2
theorem all_mk {l : PySem.W.OpenLaw} {w : World} {K : PySem.W.Frag} {h : Heap} {mg : Str → Option Value} {fa : Addr} {f_is_decimal f_first_bad_piece f_write_place f_read_place f__law_cell f__law_draws f__law_is_integer f__law_is_place f__law_is_error f__law_odd_piece f__law_piece f__law_place f__law_decimal f__law_first_bad f__law_refused f__law_asked f_law f_te f_ie B I C C2 C3 : Addr} (X : K.In h) (G : h.Ns mainGlobals mg) (hfa : mg "law" = some (.ref fa))
    {od_is_decimal an_is_decimal : Option Addr} {sl_is_decimal : Array (Option Value)} {oc_is_decimal kV_is_decimal dc_is_decimal pm_is_decimal cd_is_decimal ct_is_decimal : Value}
    {od_first_bad_piece an_first_bad_piece : Option Addr} {sl_first_bad_piece : Array (Option Value)} {oc_first_bad_piece kV_first_bad_piece dc_first_bad_piece pm_first_bad_piece cd_first_bad_piece ct_first_bad_piece : Value}
    {od_write_place an_write_place : Option Addr} {sl_write_place : Array (Option Value)} {oc_write_place kV_write_place dc_write_place pm_write_place cd_write_place ct_write_place : Value}
    {od_read_place an_read_place : Option Addr} {sl_read_place : Array (Option Value)} {oc_read_place kV_read_place dc_read_place pm_read_place cd_read_place ct_read_place : Value}
    {od__law_cell an__law_cell : Option Addr} {sl__law_cell : Array (Option Value)} {oc__law_cell kV__law_cell dc__law_cell pm__law_cell cd__law_cell ct__law_cell : Value}
    {od__law_draws an__law_draws : Option Addr} {sl__law_draws : Array (Option Value)} {oc__law_draws kV__law_draws dc__law_draws pm__law_draws cd__law_draws ct__law_draws : Value}
    {od__law_is_integer an__law_is_integer : Option Addr} {sl__law_is_integer : Array (Option Value)} {oc__law_is_integer kV__law_is_integer dc__law_is_integer pm__law_is_integer cd__law_is_integer ct__law_is_integer : Value}
    {od__law_is_place an__law_is_place : Option Addr} {sl__law_is_place : Array (Option Value)} {oc__law_is_place kV__law_is_place dc__law_is_place pm__law_is_place cd__law_is_place ct__law_is_place : Value}
    {od__law_is_error an__law_is_error : Option Addr} {sl__law_is_error : Array (Option Value)} {oc__law_is_error kV__law_is_error dc__law_is_error pm__law_is_error cd__law_is_error ct__law_is_error : Value}
    {od__law_odd_piece an__law_odd_piece : Option Addr} {sl__law_odd_piece : Array (Option Value)} {oc__law_odd_piece kV__law_odd_piece dc__law_odd_piece pm__law_odd_piece cd__law_odd_piece ct__law_odd_piece : Value}
    {od__law_piece an__law_piece : Option Addr} {sl__law_piece : Array (Option Value)} {oc__law_piece kV__law_piece dc__law_piece pm__law_piece cd__law_piece ct__law_piece : Value}
    {od__law_place an__law_place : Option Addr} {sl__law_place : Array (Option Value)} {oc__law_place kV__law_place dc__law_place pm__law_place cd__law_place ct__law_place : Value}
    {od__law_decimal an__law_decimal : Option Addr} {sl__law_decimal : Array (Option Value)} {oc__law_decimal kV__law_decimal dc__law_decimal pm__law_decimal cd__law_decimal ct__law_decimal : Value}
    {od__law_first_bad an__law_first_bad : Option Addr} {sl__law_first_bad : Array (Option Value)} {oc__law_first_bad kV__law_first_bad dc__law_first_bad pm__law_first_bad cd__law_first_bad ct__law_first_bad : Value}
    {od__law_refused an__law_refused : Option Addr} {sl__law_refused : Array (Option Value)} {oc__law_refused kV__law_refused dc__law_refused pm__law_refused cd__law_refused ct__law_refused : Value}
    {od__law_asked an__law_asked : Option Addr} {sl__law_asked : Array (Option Value)} {oc__law_asked kV__law_asked dc__law_asked pm__law_asked cd__law_asked ct__law_asked : Value}
    {od_law an_law : Option Addr} {sl_law : Array (Option Value)} {oc_law kV_law dc_law pm_law cd_law ct_law : Value}
    {od_te an_te : Option Addr} {sl_te : Array (Option Value)} {oc_te kV_te dc_te pm_te cd_te ct_te : Value}
    {od_ie an_ie : Option Addr} {sl_ie : Array (Option Value)} {oc_ie kV_ie dc_ie pm_ie cd_ie ct_ie : Value}
    {nm_C q_C : Str} {N_C : Addr} {bs_C bm_C : List Value} {sn_C : List Str} {sub_C : List Value} {ab_C : Bool} {col_C : Option Bool} {dd_C : Option Addr} {m0_C m1_C m3_C m5_C : Option Value} {tk_C : Tok}
    (z_len : PySem.W.nsIn K mainGlobals "len" = some none)
    (z_int : PySem.W.nsIn K mainGlobals "int" = some none)
    (z_str : PySem.W.nsIn K mainGlobals "str" = some none)
    (z_bool : PySem.W.nsIn K mainGlobals "bool" = some none)
    (z_list : PySem.W.nsIn K mainGlobals "list" = some none)
    (z_tuple : PySem.W.nsIn K mainGlobals "tuple" = some none)
    (z_range : PySem.W.nsIn K mainGlobals "range" = some none)
    (z_enumerate : PySem.W.nsIn K mainGlobals "enumerate" = some none)
    (z_isinstance : PySem.W.nsIn K mainGlobals "isinstance" = some none)
    (z_ValueError : PySem.W.nsIn K mainGlobals "ValueError" = some none)
    (a_is_decimal : PySem.W.nsIn K mainGlobals "is_decimal" = some (some (.ref f_is_decimal)))
    (l_is_decimal : K.lookup f_is_decimal = some ⟨oc_is_decimal, od_is_decimal, .func (PySem.W.fnOf "is_decimal" "is_decimal" (C8.fnArgs s_is_decimal) (C8.fnBody s_is_decimal) (C8.fnScope s_is_decimal) .none kV_is_decimal dc_is_decimal pm_is_decimal an_is_decimal cd_is_decimal ct_is_decimal), sl_is_decimal⟩)
    (co_is_decimal : PySem.W.codeIn K cd_is_decimal "is_decimal" = true)
    (k_is_decimal : PySem.W.keepIn K (.ref f_is_decimal) = true)
    (a_first_bad_piece : PySem.W.nsIn K mainGlobals "first_bad_piece" = some (some (.ref f_first_bad_piece)))
    (l_first_bad_piece : K.lookup f_first_bad_piece = some ⟨oc_first_bad_piece, od_first_bad_piece, .func (PySem.W.fnOf "first_bad_piece" "first_bad_piece" (C8.fnArgs s_first_bad_piece) (C8.fnBody s_first_bad_piece) (C8.fnScope s_first_bad_piece) .none kV_first_bad_piece dc_first_bad_piece pm_first_bad_piece an_first_bad_piece cd_first_bad_piece ct_first_bad_piece), sl_first_bad_piece⟩)
    (co_first_bad_piece : PySem.W.codeIn K cd_first_bad_piece "first_bad_piece" = true)
    (k_first_bad_piece : PySem.W.keepIn K (.ref f_first_bad_piece) = true)
    (a_write_place : PySem.W.nsIn K mainGlobals "write_place" = some (some (.ref f_write_place)))
    (l_write_place : K.lookup f_write_place = some ⟨oc_write_place, od_write_place, .func (PySem.W.fnOf "write_place" "write_place" (C8.fnArgs s_write_place) (C8.fnBody s_write_place) (C8.fnScope s_write_place) .none kV_write_place dc_write_place pm_write_place an_write_place cd_write_place ct_write_place), sl_write_place⟩)
    (co_write_place : PySem.W.codeIn K cd_write_place "write_place" = true)
    (k_write_place : PySem.W.keepIn K (.ref f_write_place) = true)
    (a_read_place : PySem.W.nsIn K mainGlobals "read_place" = some (some (.ref f_read_place)))
    (l_read_place : K.lookup f_read_place = some ⟨oc_read_place, od_read_place, .func (PySem.W.fnOf "read_place" "read_place" (C8.fnArgs s_read_place) (C8.fnBody s_read_place) (C8.fnScope s_read_place) .none kV_read_place dc_read_place pm_read_place an_read_place cd_read_place ct_read_place), sl_read_place⟩)
    (co_read_place : PySem.W.codeIn K cd_read_place "read_place" = true)
    (k_read_place : PySem.W.keepIn K (.ref f_read_place) = true)
    (a__law_cell : PySem.W.nsIn K mainGlobals "_law_cell" = some (some (.ref f__law_cell)))
    (l__law_cell : K.lookup f__law_cell = some ⟨oc__law_cell, od__law_cell, .func (PySem.W.fnOf "_law_cell" "_law_cell" (C8.fnArgs s__law_cell) (C8.fnBody s__law_cell) (C8.fnScope s__law_cell) .none kV__law_cell dc__law_cell pm__law_cell an__law_cell cd__law_cell ct__law_cell), sl__law_cell⟩)
    (co__law_cell : PySem.W.codeIn K cd__law_cell "_law_cell" = true)
    (k__law_cell : PySem.W.keepIn K (.ref f__law_cell) = true)
    (a__law_draws : PySem.W.nsIn K mainGlobals "_law_draws" = some (some (.ref f__law_draws)))
    (l__law_draws : K.lookup f__law_draws = some ⟨oc__law_draws, od__law_draws, .func (PySem.W.fnOf "_law_draws" "_law_draws" (C8.fnArgs s__law_draws) (C8.fnBody s__law_draws) (C8.fnScope s__law_draws) .none kV__law_draws dc__law_draws pm__law_draws an__law_draws cd__law_draws ct__law_draws), sl__law_draws⟩)
    (co__law_draws : PySem.W.codeIn K cd__law_draws "_law_draws" = true)
    (k__law_draws : PySem.W.keepIn K (.ref f__law_draws) = true)
    (a__law_is_integer : PySem.W.nsIn K mainGlobals "_law_is_integer" = some (some (.ref f__law_is_integer)))
    (l__law_is_integer : K.lookup f__law_is_integer = some ⟨oc__law_is_integer, od__law_is_integer, .func (PySem.W.fnOf "_law_is_integer" "_law_is_integer" (C8.fnArgs s__law_is_integer) (C8.fnBody s__law_is_integer) (C8.fnScope s__law_is_integer) .none kV__law_is_integer dc__law_is_integer pm__law_is_integer an__law_is_integer cd__law_is_integer ct__law_is_integer), sl__law_is_integer⟩)
    (co__law_is_integer : PySem.W.codeIn K cd__law_is_integer "_law_is_integer" = true)
    (k__law_is_integer : PySem.W.keepIn K (.ref f__law_is_integer) = true)
    (a__law_is_place : PySem.W.nsIn K mainGlobals "_law_is_place" = some (some (.ref f__law_is_place)))
    (l__law_is_place : K.lookup f__law_is_place = some ⟨oc__law_is_place, od__law_is_place, .func (PySem.W.fnOf "_law_is_place" "_law_is_place" (C8.fnArgs s__law_is_place) (C8.fnBody s__law_is_place) (C8.fnScope s__law_is_place) .none kV__law_is_place dc__law_is_place pm__law_is_place an__law_is_place cd__law_is_place ct__law_is_place), sl__law_is_place⟩)
    (co__law_is_place : PySem.W.codeIn K cd__law_is_place "_law_is_place" = true)
    (k__law_is_place : PySem.W.keepIn K (.ref f__law_is_place) = true)
    (a__law_is_error : PySem.W.nsIn K mainGlobals "_law_is_error" = some (some (.ref f__law_is_error)))
    (l__law_is_error : K.lookup f__law_is_error = some ⟨oc__law_is_error, od__law_is_error, .func (PySem.W.fnOf "_law_is_error" "_law_is_error" (C8.fnArgs s__law_is_error) (C8.fnBody s__law_is_error) (C8.fnScope s__law_is_error) .none kV__law_is_error dc__law_is_error pm__law_is_error an__law_is_error cd__law_is_error ct__law_is_error), sl__law_is_error⟩)
    (co__law_is_error : PySem.W.codeIn K cd__law_is_error "_law_is_error" = true)
    (k__law_is_error : PySem.W.keepIn K (.ref f__law_is_error) = true)
    (a__law_odd_piece : PySem.W.nsIn K mainGlobals "_law_odd_piece" = some (some (.ref f__law_odd_piece)))
    (l__law_odd_piece : K.lookup f__law_odd_piece = some ⟨oc__law_odd_piece, od__law_odd_piece, .func (PySem.W.fnOf "_law_odd_piece" "_law_odd_piece" (C8.fnArgs s__law_odd_piece) (C8.fnBody s__law_odd_piece) (C8.fnScope s__law_odd_piece) .none kV__law_odd_piece dc__law_odd_piece pm__law_odd_piece an__law_odd_piece cd__law_odd_piece ct__law_odd_piece), sl__law_odd_piece⟩)
    (co__law_odd_piece : PySem.W.codeIn K cd__law_odd_piece "_law_odd_piece" = true)
    (k__law_odd_piece : PySem.W.keepIn K (.ref f__law_odd_piece) = true)
    (a__law_piece : PySem.W.nsIn K mainGlobals "_law_piece" = some (some (.ref f__law_piece)))
    (l__law_piece : K.lookup f__law_piece = some ⟨oc__law_piece, od__law_piece, .func (PySem.W.fnOf "_law_piece" "_law_piece" (C8.fnArgs s__law_piece) (C8.fnBody s__law_piece) (C8.fnScope s__law_piece) .none kV__law_piece dc__law_piece pm__law_piece an__law_piece cd__law_piece ct__law_piece), sl__law_piece⟩)
    (co__law_piece : PySem.W.codeIn K cd__law_piece "_law_piece" = true)
    (k__law_piece : PySem.W.keepIn K (.ref f__law_piece) = true)
    (a__law_place : PySem.W.nsIn K mainGlobals "_law_place" = some (some (.ref f__law_place)))
    (l__law_place : K.lookup f__law_place = some ⟨oc__law_place, od__law_place, .func (PySem.W.fnOf "_law_place" "_law_place" (C8.fnArgs s__law_place) (C8.fnBody s__law_place) (C8.fnScope s__law_place) .none kV__law_place dc__law_place pm__law_place an__law_place cd__law_place ct__law_place), sl__law_place⟩)
    (co__law_place : PySem.W.codeIn K cd__law_place "_law_place" = true)
    (k__law_place : PySem.W.keepIn K (.ref f__law_place) = true)
    (a__law_decimal : PySem.W.nsIn K mainGlobals "_law_decimal" = some (some (.ref f__law_decimal)))
    (l__law_decimal : K.lookup f__law_decimal = some ⟨oc__law_decimal, od__law_decimal, .func (PySem.W.fnOf "_law_decimal" "_law_decimal" (C8.fnArgs s__law_decimal) (C8.fnBody s__law_decimal) (C8.fnScope s__law_decimal) .none kV__law_decimal dc__law_decimal pm__law_decimal an__law_decimal cd__law_decimal ct__law_decimal), sl__law_decimal⟩)
    (co__law_decimal : PySem.W.codeIn K cd__law_decimal "_law_decimal" = true)
    (k__law_decimal : PySem.W.keepIn K (.ref f__law_decimal) = true)
    (a__law_first_bad : PySem.W.nsIn K mainGlobals "_law_first_bad" = some (some (.ref f__law_first_bad)))
    (l__law_first_bad : K.lookup f__law_first_bad = some ⟨oc__law_first_bad, od__law_first_bad, .func (PySem.W.fnOf "_law_first_bad" "_law_first_bad" (C8.fnArgs s__law_first_bad) (C8.fnBody s__law_first_bad) (C8.fnScope s__law_first_bad) .none kV__law_first_bad dc__law_first_bad pm__law_first_bad an__law_first_bad cd__law_first_bad ct__law_first_bad), sl__law_first_bad⟩)
    (co__law_first_bad : PySem.W.codeIn K cd__law_first_bad "_law_first_bad" = true)
    (k__law_first_bad : PySem.W.keepIn K (.ref f__law_first_bad) = true)
    (a__law_refused : PySem.W.nsIn K mainGlobals "_law_refused" = some (some (.ref f__law_refused)))
    (l__law_refused : K.lookup f__law_refused = some ⟨oc__law_refused, od__law_refused, .func (PySem.W.fnOf "_law_refused" "_law_refused" (C8.fnArgs s__law_refused) (C8.fnBody s__law_refused) (C8.fnScope s__law_refused) .none kV__law_refused dc__law_refused pm__law_refused an__law_refused cd__law_refused ct__law_refused), sl__law_refused⟩)
    (co__law_refused : PySem.W.codeIn K cd__law_refused "_law_refused" = true)
    (k__law_refused : PySem.W.keepIn K (.ref f__law_refused) = true)
    (a__law_asked : PySem.W.nsIn K mainGlobals "_law_asked" = some (some (.ref f__law_asked)))
    (l__law_asked : K.lookup f__law_asked = some ⟨oc__law_asked, od__law_asked, .func (PySem.W.fnOf "_law_asked" "_law_asked" (C8.fnArgs s__law_asked) (C8.fnBody s__law_asked) (C8.fnScope s__law_asked) .none kV__law_asked dc__law_asked pm__law_asked an__law_asked cd__law_asked ct__law_asked), sl__law_asked⟩)
    (co__law_asked : PySem.W.codeIn K cd__law_asked "_law_asked" = true)
    (k__law_asked : PySem.W.keepIn K (.ref f__law_asked) = true)
    (a_law : PySem.W.nsIn K mainGlobals "law" = some (some (.ref f_law)))
    (l_law : K.lookup f_law = some ⟨oc_law, od_law, .func (PySem.W.fnOf "law" "law" (C8.fnArgs s_law) (C8.fnBody s_law) (C8.fnScope s_law) .none kV_law dc_law pm_law an_law cd_law ct_law), sl_law⟩)
    (co_law : PySem.W.codeIn K cd_law "law" = true)
    (k_law : PySem.W.keepIn K (.ref f_law) = true)
    (a_te : PySem.W.findIn K (.ref B) "__init__" = some (some (.ref f_te)))
    (l_te : K.lookup f_te = some ⟨oc_te, od_te, .func (PySem.W.fnOf "__init__" "TableError.__init__" (C8.fnArgs s_TableError___init__) (C8.fnBody s_TableError___init__) (C8.fnScope s_TableError___init__) .none kV_te dc_te pm_te an_te cd_te ct_te), sl_te⟩)
    (co_te : PySem.W.codeIn K cd_te "TableError.__init__" = true)
    (k_te : PySem.W.keepIn K (.ref f_te) = true)
    (a_ie : PySem.W.findIn K (.ref I) "__init__" = some (some (.ref f_ie)))
    (l_ie : K.lookup f_ie = some ⟨oc_ie, od_ie, .func (PySem.W.fnOf "__init__" "IndexedError.__init__" (C8.fnArgs s_IndexedError___init__) (C8.fnBody s_IndexedError___init__) (C8.fnScope s_IndexedError___init__) .none kV_ie dc_ie pm_ie an_ie cd_ie ct_ie), sl_ie⟩)
    (co_ie : PySem.W.codeIn K cd_ie "IndexedError.__init__" = true)
    (k_ie : PySem.W.keepIn K (.ref f_ie) = true)
    (g_B : PySem.W.nsIn K mainGlobals "TableError" = some (some (.ref B)))
    (g_I : PySem.W.nsIn K mainGlobals "IndexedError" = some (some (.ref I)))
    (g_C : PySem.W.nsIn K mainGlobals "BadText" = some (some (.ref C)))
    (g_C2 : PySem.W.nsIn K mainGlobals "BadPlace" = some (some (.ref C2)))
    (g_C3 : PySem.W.nsIn K mainGlobals "BadLine" = some (some (.ref C3)))
    (xl_C : K.lookup C = some (excClassObj nm_C q_C C N_C bs_C bm_C true sn_C sub_C ab_C col_C dd_C m0_C m1_C (some (.str "BadText" tk_C)) m3_C m5_C "ValueError.__new__"))
    (vb_C : PySem.HandSPX.refsVE bm_C = true)
    (sa_C : PySem.W.findIn K (.ref C) "__setattr__" = some (some (.builtin "object.__setattr__")))
    (ex_C : PySem.W.subIn K (.ref C) (.type "BaseException") = some true)
    (ty_C : PySem.W.typeIn K (.ref C) = some (.type "type"))
    (kc_C : PySem.W.keepIn K (.ref C) = true)
    (ga_C : PySem.W.findIn K (.ref C) "__getattribute__" = some (some (.builtin "BaseException.__getattribute__")))
    (gg_C : PySem.W.findIn K (.ref C) "__getattr__" = some none)
    (hd_C : PySem.W.hasDictIn K C = true)
    (ha_C : PySem.W.findIn K (.ref C) "__class__" = some (some (.builtin "object.__class__")))
    (mr_C : PySem.W.mroIn K C (.type "object") = some true)
    (rd_C : PySem.W.readsIn K C (.type "type") = true)
    (fn_C : PySem.W.findCls K (.ref C) (.type "type") "__name__" = some (.get (.builtin "getset_descriptor.__get__") (.builtin "type.__name__") (.ref C) (.type "type")))
    (nw_C : PySem.W.findIn K (.ref C) "word" = some none)
    (ni_C : PySem.W.findIn K (.ref C) "index" = some none)
    (in_C : PySem.W.findIn K (.ref C) "__init__" = some (some (.ref f_ie)))
    (hn : PySem.W.specialIn K (.builtin "object.__class__") "__get__" = some (some (.builtin "getset_descriptor.__get__")))
    (ht : PySem.W.takesIn K (.builtin "object.__class__") = some true)
    (ti_ie : PySem.W.typeIn K (.ref f_ie) = some (.type "function"))
    (rB : PySem.W.readsIn K B (.type "type") = true)
    (sB : PySem.W.specialIn K (.ref B) "__getattribute__" = some (some (.builtin "type.__getattribute__")))
    (fB : PySem.W.findCls K (.ref B) (.type "type") "__init__" = some (.val (.ref f_te)))
    (xB : PySem.W.exmOne K (.ref C) (.ref B) = some true)
    (kB : PySem.W.kitOne K (.ref C) (.ref B) = some true)
    (kV : PySem.W.kitOne K (.ref C) (.type "ValueError") = some true)
    (k1 : PySem.W.kitOne K (.ref C) (.ref C) = some true)
    (k2 : PySem.W.kitOne K (.ref C) (.ref C2) = some false)
    (k3 : PySem.W.kitOne K (.ref C) (.ref C3) = some false) :
    ∃ fd : FuncData, (∀ (s : Shared) (v : Value), BindsTo s fd ⟨[v], []⟩ [("_law_script", v)]) ∧ ∀ base : Heap, K.In base → base.Ns mainGlobals mg → FnOk l.prog w K mg base L2.CX0 6 fa fd ["_law_script"] (spLaw K) := by
  have e := hfa.symm.trans (PySem.W.mg_of X G a_law)
  cases e
  have T : Bi mg := ⟨PySem.W.mg_none_of X G z_len, PySem.W.mg_none_of X G z_int, PySem.W.mg_none_of X G z_str, PySem.W.mg_none_of X G z_bool, PySem.W.mg_none_of X G z_list, PySem.W.mg_none_of X G z_tuple, PySem.W.mg_none_of X G z_range, PySem.W.mg_none_of X G z_enumerate, PySem.W.mg_none_of X G z_isinstance⟩
  have D_is_decimal : C8.Def K mg "is_decimal" s_is_decimal f_is_decimal _ := ⟨⟨⟨_, _, _, _, _, _, _, _, _, _, rfl, l_is_decimal, co_is_decimal⟩⟩, PySem.W.mg_of X G a_is_decimal, k_is_decimal⟩
  have b_is_decimal := D_is_decimal.fn.binds (ps := ["text"]) rfl fun _ _ _ _ _ _ us hl => match us, hl with | [_], _ => rfl
  have D_first_bad_piece : C8.Def K mg "first_bad_piece" s_first_bad_piece f_first_bad_piece _ := ⟨⟨⟨_, _, _, _, _, _, _, _, _, _, rfl, l_first_bad_piece, co_first_bad_piece⟩⟩, PySem.W.mg_of X G a_first_bad_piece, k_first_bad_piece⟩
  have b_first_bad_piece := D_first_bad_piece.fn.binds (ps := ["pieces"]) rfl fun _ _ _ _ _ _ us hl => match us, hl with | [_], _ => rfl
  have D_write_place : C8.Def K mg "write_place" s_write_place f_write_place _ := ⟨⟨⟨_, _, _, _, _, _, _, _, _, _, rfl, l_write_place, co_write_place⟩⟩, PySem.W.mg_of X G a_write_place, k_write_place⟩
  have b_write_place := D_write_place.fn.binds (ps := ["place"]) rfl fun _ _ _ _ _ _ us hl => match us, hl with | [_], _ => rfl
  have D_read_place : C8.Def K mg "read_place" s_read_place f_read_place _ := ⟨⟨⟨_, _, _, _, _, _, _, _, _, _, rfl, l_read_place, co_read_place⟩⟩, PySem.W.mg_of X G a_read_place, k_read_place⟩
  have b_read_place := D_read_place.fn.binds (ps := ["text"]) rfl fun _ _ _ _ _ _ us hl => match us, hl with | [_], _ => rfl
  have D__law_cell : C8.Def K mg "_law_cell" s__law_cell f__law_cell _ := ⟨⟨⟨_, _, _, _, _, _, _, _, _, _, rfl, l__law_cell, co__law_cell⟩⟩, PySem.W.mg_of X G a__law_cell, k__law_cell⟩
  have b__law_cell := D__law_cell.fn.binds (ps := ["_law_script", "_law_k"]) rfl fun _ _ _ _ _ _ us hl => match us, hl with | [_, _], _ => rfl
  have D__law_draws : C8.Def K mg "_law_draws" s__law_draws f__law_draws _ := ⟨⟨⟨_, _, _, _, _, _, _, _, _, _, rfl, l__law_draws, co__law_draws⟩⟩, PySem.W.mg_of X G a__law_draws, k__law_draws⟩
  have b__law_draws := D__law_draws.fn.binds (ps := ["_law_cell_here", "_law_sizes"]) rfl fun _ _ _ _ _ _ us hl => match us, hl with | [_, _], _ => rfl
  have D__law_is_integer : C8.Def K mg "_law_is_integer" s__law_is_integer f__law_is_integer _ := ⟨⟨⟨_, _, _, _, _, _, _, _, _, _, rfl, l__law_is_integer, co__law_is_integer⟩⟩, PySem.W.mg_of X G a__law_is_integer, k__law_is_integer⟩
  have b__law_is_integer := D__law_is_integer.fn.binds (ps := ["_law_actual"]) rfl fun _ _ _ _ _ _ us hl => match us, hl with | [_], _ => rfl
  have D__law_is_place : C8.Def K mg "_law_is_place" s__law_is_place f__law_is_place _ := ⟨⟨⟨_, _, _, _, _, _, _, _, _, _, rfl, l__law_is_place, co__law_is_place⟩⟩, PySem.W.mg_of X G a__law_is_place, k__law_is_place⟩
  have b__law_is_place := D__law_is_place.fn.binds (ps := ["_law_actual"]) rfl fun _ _ _ _ _ _ us hl => match us, hl with | [_], _ => rfl
  have D__law_is_error : C8.Def K mg "_law_is_error" s__law_is_error f__law_is_error _ := ⟨⟨⟨_, _, _, _, _, _, _, _, _, _, rfl, l__law_is_error, co__law_is_error⟩⟩, PySem.W.mg_of X G a__law_is_error, k__law_is_error⟩
  have b__law_is_error := D__law_is_error.fn.binds (ps := ["_law_e", "_law_word"]) rfl fun _ _ _ _ _ _ us hl => match us, hl with | [_, _], _ => rfl
  have D__law_odd_piece : C8.Def K mg "_law_odd_piece" s__law_odd_piece f__law_odd_piece _ := ⟨⟨⟨_, _, _, _, _, _, _, _, _, _, rfl, l__law_odd_piece, co__law_odd_piece⟩⟩, PySem.W.mg_of X G a__law_odd_piece, k__law_odd_piece⟩
  have b__law_odd_piece := D__law_odd_piece.fn.binds (ps := ["_law_which"]) rfl fun _ _ _ _ _ _ us hl => match us, hl with | [_], _ => rfl
  have D__law_piece : C8.Def K mg "_law_piece" s__law_piece f__law_piece _ := ⟨⟨⟨_, _, _, _, _, _, _, _, _, _, rfl, l__law_piece, co__law_piece⟩⟩, PySem.W.mg_of X G a__law_piece, k__law_piece⟩
  have b__law_piece := D__law_piece.fn.binds (ps := ["_law_cell_here"]) rfl fun _ _ _ _ _ _ us hl => match us, hl with | [_], _ => rfl
  have D__law_place : C8.Def K mg "_law_place" s__law_place f__law_place _ := ⟨⟨⟨_, _, _, _, _, _, _, _, _, _, rfl, l__law_place, co__law_place⟩⟩, PySem.W.mg_of X G a__law_place, k__law_place⟩
  have b__law_place := D__law_place.fn.binds (ps := ["_law_cell_here"]) rfl fun _ _ _ _ _ _ us hl => match us, hl with | [_], _ => rfl
  have D__law_decimal : C8.Def K mg "_law_decimal" s__law_decimal f__law_decimal _ := ⟨⟨⟨_, _, _, _, _, _, _, _, _, _, rfl, l__law_decimal, co__law_decimal⟩⟩, PySem.W.mg_of X G a__law_decimal, k__law_decimal⟩
  have b__law_decimal := D__law_decimal.fn.binds (ps := ["_law_piece_here"]) rfl fun _ _ _ _ _ _ us hl => match us, hl with | [_], _ => rfl
  have D__law_first_bad : C8.Def K mg "_law_first_bad" s__law_first_bad f__law_first_bad _ := ⟨⟨⟨_, _, _, _, _, _, _, _, _, _, rfl, l__law_first_bad, co__law_first_bad⟩⟩, PySem.W.mg_of X G a__law_first_bad, k__law_first_bad⟩
  have b__law_first_bad := D__law_first_bad.fn.binds (ps := ["_law_pieces"]) rfl fun _ _ _ _ _ _ us hl => match us, hl with | [_], _ => rfl
  have D__law_refused : C8.Def K mg "_law_refused" s__law_refused f__law_refused _ := ⟨⟨⟨_, _, _, _, _, _, _, _, _, _, rfl, l__law_refused, co__law_refused⟩⟩, PySem.W.mg_of X G a__law_refused, k__law_refused⟩
  have b__law_refused := D__law_refused.fn.binds (ps := ["_law_e", "_law_index"]) rfl fun _ _ _ _ _ _ us hl => match us, hl with | [_, _], _ => rfl
  have D__law_asked : C8.Def K mg "_law_asked" s__law_asked f__law_asked _ := ⟨⟨⟨_, _, _, _, _, _, _, _, _, _, rfl, l__law_asked, co__law_asked⟩⟩, PySem.W.mg_of X G a__law_asked, k__law_asked⟩
  have b__law_asked := D__law_asked.fn.binds (ps := ["_law_text"]) rfl fun _ _ _ _ _ _ us hl => match us, hl with | [_], _ => rfl
  have D_law : C8.Def K mg "law" s_law fa _ := ⟨⟨⟨_, _, _, _, _, _, _, _, _, _, rfl, l_law, co_law⟩⟩, hfa, k_law⟩
  have b_law := D_law.fn.binds (ps := ["_law_script"]) rfl fun _ _ _ _ _ _ us hl => match us, hl with | [_], _ => rfl
  have D_te : C8.Fun K "__init__" "TableError.__init__" s_TableError___init__ f_te _ := ⟨⟨_, _, _, _, _, _, _, _, _, _, rfl, l_te, co_te⟩⟩
  have b_te := D_te.binds (ps := ["self"]) rfl fun _ _ _ _ _ _ us hl => match us, hl with | [_], _ => rfl
  have D_ie : C8.Fun K "__init__" "IndexedError.__init__" s_IndexedError___init__ f_ie _ := ⟨⟨_, _, _, _, _, _, _, _, _, _, rfl, l_ie, co_ie⟩⟩
  have b_ie := D_ie.binds (ps := ["self", "index"]) rfl fun _ _ _ _ _ _ us hl => match us, hl with | [_, _], _ => rfl
  have oc_C : PySem.W.OtCls K C := ⟨ga_C, gg_C, ex_C, hd_C, ha_C, hn, ht, mr_C⟩
  have er_C : OtErr K C "BadText" := ⟨⟨⟨_, _, _, _, _, _, _, _, _, _, _, _, _, _, _, xl_C, vb_C⟩, sa_C, ex_C, ty_C, kc_C⟩, oc_C, ⟨⟨_, _, _, _, _, xl_C, rfl⟩, rd_C, ty_C, fn_C⟩, nw_C, ni_C⟩
  have ei_C : ErrI K mg "BadText" C f_ie := ⟨PySem.W.mg_of X G g_C, er_C, in_C, ti_ie⟩
  refine ⟨PySem.W.fnOf "law" "law" (C8.fnArgs s_law) (C8.fnBody s_law) (C8.fnScope s_law) .none kV_law dc_law pm_law an_law cd_law ct_law, fun s v => .of_eq rfl, fun base _ _ => ?_⟩
  have GT : FnOk l.prog w K mg base L2.CX0 1 f_te _ ["self"] (spTE K) := ok_te D_te
  have RB : OtRead K B "__init__" f_te := ⟨rB, sB, fB, k_te⟩
  have GI := ok_ie D_ie GT b_te RB (PySem.W.mg_of X G g_B)
  have c1 := c__law_cell (P := l.prog) (w := w) (base := base) D__law_cell b__law_cell T
  have c2 : C8.Cal l.prog w K mg base 1 "_law_draws" (spDraws K) [] := c__law_draws D__law_draws b__law_draws T
  have c3 := c_is_decimal (P := l.prog) (w := w) (base := base) D_is_decimal b_is_decimal T
  have c4 := c_first_bad_piece D_first_bad_piece b_first_bad_piece T c3
  have c5 := c_write_place (P := l.prog) (w := w) (base := base) D_write_place b_write_place T
  have c6 := c__law_is_integer (P := l.prog) (w := w) (base := base) D__law_is_integer b__law_is_integer T
  have c7 := c__law_is_place D__law_is_place b__law_is_place T c6
  have c8 := c__law_odd_piece (P := l.prog) (w := w) (base := base) D__law_odd_piece b__law_odd_piece T
  have c9 := c__law_decimal (P := l.prog) (w := w) (base := base) D__law_decimal b__law_decimal T
  have c10 := c__law_piece D__law_piece b__law_piece T c2 c8
  have c11 := c__law_place D__law_place b__law_place T c2
  have c12 := c__law_first_bad D__law_first_bad b__law_first_bad T c9
  have GR := ok_read D_read_place T ei_C GI b_ie c4
  have h1 := h__law_is_integer (P := l.prog) (w := w) (base := base) D__law_is_integer T
  have h2 := h__law_is_error (P := l.prog) (w := w) (base := base) D__law_is_error T (PySem.W.mg_of X G g_B) (PySem.W.mg_none_of X G z_ValueError)
  have h3 := h__law_refused D__law_refused T er_C ⟨kB, kV⟩ (PySem.W.mg_of X G g_C) (PySem.W.mg_of X G g_C2) (PySem.W.mg_of X G g_C3) k1 k2 k3 D__law_is_error b__law_is_error h2 D__law_is_integer b__law_is_integer h1
  have c13 := c__law_asked D__law_asked b__law_asked T (PySem.W.mg_of X G g_B) er_C xB D_read_place b_read_place GR D__law_refused b__law_refused h3 c12 c7
  exact c_law D_law b_law T c1 c2 c10 c8 c11 c5 c13
theorem walk {l : PySem.W.OpenLaw} {q : Program} {loose : List Str} {XP : (Str → Option Value) → Heap → Prop} {YP : World → Heap → Prop} {d : DefRec} {K : Params → PySem.W.Frag} (hn : l.most = some 63) (hdf : d.params.defaults = [])
    (hY : ∀ (w : World) (h : Heap), YP w h → (K w.params).In h)
    (F : ∀ (w : World) (mg : Str → Option Value) (fa : Addr) (h : Heap), (K w.params).In h → h.Ns mainGlobals mg → mg d.name = some (.ref fa) →
      ∃ fd : FuncData, (∀ (s : Shared) (u : Value), BindsTo s fd ⟨[u], []⟩ [("_law_script", u)]) ∧ ∀ base : Heap, (K w.params).In base → base.Ns mainGlobals mg → FnOk l.prog w (K w.params) mg base L2.CX0 6 fa fd ["_law_script"] (spLaw (K w.params))) :
    PySem.W.WalkO q loose XP YP l.row.toRowW d [] (fun f vs => PySem.call f vs) :=
  L2.walk_ofK (n := 63) (k := 6) (x := "_law_script") (CX := L2.CX0) (sp := spLaw) hn (by decide) hdf ⟨rfl, by decide, by decide⟩ hY F (fun _ _ a ns hl _ hS => ⟨a, ns, rfl, hS, hl, fun _ => rfl⟩) fun _ _ _ _ z => z
end OT
open PySem PySem.W PyProof.Rows
set_option maxRecDepth 100000 in
set_option maxHeartbeats 0 in
theorem PySem.Challenge.cw_owntables_k03_read_place_holds : PySem.Challenge.rw_owntables_k03_read_place.Holds := by
  w_on; o_law; k_head; (case hw => w_witness2)
  k_fill
  refine OT.walk (l := PySem.Challenge.rw_owntables_k03_read_place) rfl rfl (fun w h Y => PySem.W.kIn_of Y) ?F
  case F =>
    intro w mg fa h KX G hmg
    refine' OT.all_mk KX G hmg ?z_len ?z_int ?z_str ?z_bool ?z_list ?z_tuple ?z_range ?z_enumerate ?z_isinstance ?z_ValueError ?a_is_decimal ?l_is_decimal ?co_is_decimal ?k_is_decimal ?a_first_bad_piece ?l_first_bad_piece ?co_first_bad_piece ?k_first_bad_piece ?a_write_place ?l_write_place ?co_write_place ?k_write_place ?a_read_place ?l_read_place ?co_read_place ?k_read_place ?a__law_cell ?l__law_cell ?co__law_cell ?k__law_cell ?a__law_draws ?l__law_draws ?co__law_draws ?k__law_draws ?a__law_is_integer ?l__law_is_integer ?co__law_is_integer ?k__law_is_integer ?a__law_is_place ?l__law_is_place ?co__law_is_place ?k__law_is_place ?a__law_is_error ?l__law_is_error ?co__law_is_error ?k__law_is_error ?a__law_odd_piece ?l__law_odd_piece ?co__law_odd_piece ?k__law_odd_piece ?a__law_piece ?l__law_piece ?co__law_piece ?k__law_piece ?a__law_place ?l__law_place ?co__law_place ?k__law_place ?a__law_decimal ?l__law_decimal ?co__law_decimal ?k__law_decimal ?a__law_first_bad ?l__law_first_bad ?co__law_first_bad ?k__law_first_bad ?a__law_refused ?l__law_refused ?co__law_refused ?k__law_refused ?a__law_asked ?l__law_asked ?co__law_asked ?k__law_asked ?a_law ?l_law ?co_law ?k_law ?a_te ?l_te ?co_te ?k_te ?a_ie ?l_ie ?co_ie ?k_ie ?g_B ?g_I ?g_C ?g_C2 ?g_C3 ?xl_C ?vb_C ?sa_C ?ex_C ?ty_C ?kc_C ?ga_C ?gg_C ?hd_C ?ha_C ?mr_C ?rd_C ?fn_C ?nw_C ?ni_C ?in_C ?hn ?ht ?ti_ie ?rB ?sB ?fB ?xB ?kB ?kV ?k1 ?k2 ?k3
    (case g_B => k_is)
    (case g_I => k_is)
    (case g_C => k_is)
    (case g_C2 => k_is)
    (case g_C3 => k_is)
    (case a_is_decimal => k_is)
    (case a_first_bad_piece => k_is)
    (case a_write_place => k_is)
    (case a_read_place => k_is)
    (case a__law_cell => k_is)
    (case a__law_draws => k_is)
    (case a__law_is_integer => k_is)
    (case a__law_is_place => k_is)
    (case a__law_is_error => k_is)
    (case a__law_odd_piece => k_is)
    (case a__law_piece => k_is)
    (case a__law_place => k_is)
    (case a__law_decimal => k_is)
    (case a__law_first_bad => k_is)
    (case a__law_refused => k_is)
    (case a__law_asked => k_is)
    (case a_law => k_is)
    (case a_te => k_is)
    (case a_ie => k_is)
    (case xl_C => k_is)
    (case in_C => k_is)
    (case z_len => k_is)
    (case z_int => k_is)
    (case z_str => k_is)
    (case z_bool => k_is)
    (case z_list => k_is)
    (case z_tuple => k_is)
    (case z_range => k_is)
    (case z_enumerate => k_is)
    (case z_isinstance => k_is)
    (case z_ValueError => k_is)
    (case l_is_decimal => k_is)
    (case co_is_decimal => k_is)
    (case k_is_decimal => k_is)
    (case l_first_bad_piece => k_is)
    (case co_first_bad_piece => k_is)
    (case k_first_bad_piece => k_is)
    (case l_write_place => k_is)
    (case co_write_place => k_is)
    (case k_write_place => k_is)
    (case l_read_place => k_is)
    (case co_read_place => k_is)
    (case k_read_place => k_is)
    (case l__law_cell => k_is)
    (case co__law_cell => k_is)
    (case k__law_cell => k_is)
    (case l__law_draws => k_is)
    (case co__law_draws => k_is)
    (case k__law_draws => k_is)
    (case l__law_is_integer => k_is)
    (case co__law_is_integer => k_is)
    (case k__law_is_integer => k_is)
    (case l__law_is_place => k_is)
    (case co__law_is_place => k_is)
    (case k__law_is_place => k_is)
    (case l__law_is_error => k_is)
    (case co__law_is_error => k_is)
    (case k__law_is_error => k_is)
    (case l__law_odd_piece => k_is)
    (case co__law_odd_piece => k_is)
    (case k__law_odd_piece => k_is)
    (case l__law_piece => k_is)
    (case co__law_piece => k_is)
    (case k__law_piece => k_is)
    (case l__law_place => k_is)
    (case co__law_place => k_is)
    (case k__law_place => k_is)
    (case l__law_decimal => k_is)
    (case co__law_decimal => k_is)
    (case k__law_decimal => k_is)
    (case l__law_first_bad => k_is)
    (case co__law_first_bad => k_is)
    (case k__law_first_bad => k_is)
    (case l__law_refused => k_is)
    (case co__law_refused => k_is)
    (case k__law_refused => k_is)
    (case l__law_asked => k_is)
    (case co__law_asked => k_is)
    (case k__law_asked => k_is)
    (case l_law => k_is)
    (case co_law => k_is)
    (case k_law => k_is)
    (case l_te => k_is)
    (case co_te => k_is)
    (case k_te => k_is)
    (case l_ie => k_is)
    (case co_ie => k_is)
    (case k_ie => k_is)
    (case vb_C => decide +kernel)
    (case sa_C => k_is)
    (case ex_C => k_is)
    (case ty_C => k_is)
    (case kc_C => k_is)
    (case ga_C => k_is)
    (case gg_C => k_is)
    (case hd_C => k_is)
    (case ha_C => k_is)
    (case mr_C => k_is)
    (case rd_C => k_is)
    (case fn_C => k_is)
    (case nw_C => k_is)
    (case ni_C => k_is)
    (case hn => k_is)
    (case ht => k_is)
    (case ti_ie => k_is)
    (case rB => k_is)
    (case sB => k_is)
    (case fB => k_is)
    (case xB => first | rfl | k_is)
    (case kB => first | rfl | k_is)
    (case kV => first | rfl | k_is)
    (case k1 => first | rfl | k_is)
    (case k2 => first | rfl | k_is)
    (case k3 => first | rfl | k_is)

