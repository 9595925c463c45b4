import PyProof.Rows.All
import Wide.All
import OpenK.AllK
import Wide.FinOn
import KE.KTypeName
import HandS.ForMost
import HandS.ForExc
import HandS.ExcInit
import HandS.ExcIs
import HandS.ExcField
import HandS.IsInst
import HandS.HotCalls
import HandS.Codes
import HandS.StrMore
import HandS.TupAny
import HandS.Walk
import HandS.TupSets
import HandS.DictTup
import HandS.FStr
import KE.KExcIs
import HandS.SortKw
import KE.KSortTupG
import HandS.Conv
import HandS.More
import HandS.Evl
import PyProof.EqAt
import PyProof.EqKinds
import PyProof.TupleCall
import PySem.Challenge.RW_owntables_k01_make_row
set_option Elab.async false
set_option linter.all false
set_option maxRecDepth 100000
set_option maxHeartbeats 2000000
/-! Own errors of the package: word, index, made and told. -/
namespace PySem.W
open PySem PySem.Calls PyProof.Rows Builtin Builtin.ObjectAttr Builtin.Getset_descriptor
section
variable {prog : Program} {w : World} {A : Around} {E : Value → Shared → Prop} {s : Shared} {K : Frag} {x D : Addr} {ox : Obj}
/-- what a class says of the attribute «class» of its instances -/
structure OtCls (K : Frag) (D : Addr) : Prop where
  hga : findIn K (.ref D) "__getattribute__" = some (some (.builtin "BaseException.__getattribute__"))
  hgt : findIn K (.ref D) "__getattr__" = some none
  hsub : subIn K (.ref D) (.type "BaseException") = some true
  hdct : hasDictIn K D = true
  ha : findIn K (.ref D) "__class__" = some (some (.builtin "object.__class__"))
  hn : specialIn K (.builtin "object.__class__") "__get__" = some (some (.builtin "getset_descriptor.__get__"))
  htk : takesIn K (.builtin "object.__class__") = some true
  hm : mroIn K D (.type "object") = some true
theorem ot_class {expr : Bool} {Q : Value → Shared → Prop} (T : OtCls K D) (X : K.In s.heap) (I : InstAt s.heap x ox D none)
    (h : Q (.ref D) { s with toks := s.toks + 1 }) : wpAny (model prog w) A (getAttr (.ref x) "__class__" expr) Q E s := by
  obtain ⟨hga, hgt, hsub, hdct, ha, hn, htk, hm⟩ := T
  have found : findObj K D none "__class__" = some (.bind (.builtin "getset_descriptor.__get__") (.builtin "object.__class__")) :=
    findObj_dataN (by obtain ⟨cd, q, _⟩ := any_some hdct; rw [q]; rfl) ha hn htk
  obtain ⟨hp, gens, dr, tk, os⟩ := s
  have ty := I.type (M := model prog w)
  have l1 := looks_findIn (M := model prog w) X hga
  have l2 := looks_findIn (M := model prog w) X hgt
  have l3 := looks_find (M := model prog w) X I found
  have isx : Looks (model prog w) hp (isInstance (.ref x) (.type "BaseException")) true := ty.andThen (looks_subIn X hsub)
  have e0 : (Value.builtin "BaseException.__getattribute__" == Value.builtin "object.__getattribute__") = false := by decide +kernel
  unfold getAttr getAttrBy
  apply wpAny_bind; apply wpAny_mkText; apply wpAny_holding
  apply wpAny_bind; apply ty.at
  apply wpAny_bind; apply l1.at
  show wpAny _ _ (if (onTheHeap (Value.ref D) && _) = true then _ else _) _ _ _
  rw [e0, Bool.and_false, if_neg Bool.false_ne_true]
  unfold getAttrByItsOwn hookBefore
  apply wpAny_bind
  rw [if_pos (show onTheHeap (Value.ref D) = true from rfl)]
  apply l2.at
  apply wpAny_bind; apply wpAny_attempt; apply wpAny_holding
  unfold callGetattribute
  rw [(by cases expr <;> rfl : (expr && onTheHeap (Value.builtin "BaseException.__getattribute__")) = false), if_neg Bool.false_ne_true]
  unfold boundAndCalled
  rw [PySem.F.excAttr_ValueError.ga.bind (.ref x)]
  apply wpAny_bind; apply wpAny_pure
  show wpAny _ _ (call (.builtin "BaseException.__getattribute__") [.ref x, .str "__class__" tk]) _ _ _
  apply wpAny_call
  apply codeAny_call_builtin PySem.F.excAttr_ValueError.ga.plain PySem.F.entry_bexc_ga
  apply @check_slot (model prog w) _ _ ⟨hp, gens, dr, tk + 1, os⟩ "BaseException.__getattribute__" "BaseException" "__getattribute__" (.ref x) [.str "__class__" tk] [] _ (by decide +kernel) (by decide +kernel) isx (PySem.F.args_bexc_ga (.ref x) (.str "__class__" tk))
  unfold Builtin.«object.__getattribute__»
  refine wpAny_bind (wpAny_of_eq (a := ((Value.ref x : Value), [Value.str "__class__" tk])) (by first | rfl | (simp only [slotArgs]; rfl)) ?_)
  apply wpAny_bind; apply wpAny_pure
  apply wpAny_bind; apply ty.at
  apply wpAny_bind; apply l3.at
  show wpAny _ _ (holding [Value.builtin "object.__class__"] (call _ [.builtin "object.__class__", .ref x, .ref D]) >>= ret) _ _ _
  apply wpAny_bind; apply wpAny_holding; apply wpAny_call
  refine class_get (s := ⟨hp, gens, dr, tk + 1, os⟩) (ox := ox) (od := none) X I hm ?_
  apply wpAny_pure
  show wpAny _ _ (handedOut (.ref D)) _ _ _
  rw [handedOut_of (v := .ref D) rfl]
  exact wpAny_pure h
/-- the written part's class at C keeps its name nm -/
structure OtName (K : Frag) (C : Addr) (nm : Str) : Prop where
  keeps : ∃ (c : Value) (dd : Option Addr) (dat : Data) (sl : Array (Option Value)) (tk : Tok), K.lookup C = some ⟨c, dd, dat, sl⟩ ∧ sl[2]? = some (some (.str nm tk))
  reads : readsIn K C (.type "type") = true
  ty : typeIn K (.ref C) = some (.type "type")
  found : findCls K (.ref C) (.type "type") "__name__" = some (.get (.builtin "getset_descriptor.__get__") (.builtin "type.__name__") (.ref C) (.type "type"))
theorem ot_dga (d tp : Value) (C : Addr) : descrGetArgs ⟨[d, .ref C, tp], []⟩ = pure (d, some (.ref C), given tp) := by kernel_rfl
theorem ot_name {expr : Bool} {nm : Str} {Q : Value → Shared → Prop} (T : OtName K D nm) (X : K.In s.heap)
    (h : ∀ tk u, Q (.str nm tk) { s with toks := u }) : wpAny (model prog w) A (getAttr (.ref D) "__name__" expr) Q E s := by
  obtain ⟨⟨c, dd, dat, sl, tk, hk, hsl⟩, hr, ty, hf⟩ := T
  refine cls_bind X hr hf ?_
  obtain ⟨hp, gens, dr, tks, os⟩ := s
  have t0 : Looks (model prog w) hp (typeOf (.ref D)) (.type "type") := looks_typeIn X ty
  have t1 : Looks (model prog w) hp (isSubtype (.type "type") (.type "type")) true := Looks.of_pure (by rw [isSubtype_type]; kernel_rfl)
  refine wpAny_call (codeAny_call_builtin KF.slot_gs.plain KF.entry_gs (KF.slot_gs.check _ _ _ _ _ _ _ _ ktyn_type (KF.args_gs _ _ _) ?_))
  unfold Builtin.«getset_descriptor.__get__» descrGet
  rw [ot_dga]
  apply wpAny_bind
  apply wpAny_pure
  unfold descrGetter descrCheckInstance descrNameAndClass isInstance
  simp only [ktyn_owner]
  repeat lk
  refine ⟨Code.quiet_builtin _ (by decide +kernel), codeAny_builtin ktyn_entry ?_⟩
  unfold Builtin.«type.__name__» keptObject slotAt
  dsimp only
  refine wpAny_bind (wpAny_bind (wpAny_loadPart (X _ _ hk) (wpAny_pure ?_)))
  dsimp only
  rw [hsl]
  exact wpAny_pure (handed_on rfl (h _ _))
end
end PySem.W
namespace L2
open PySem PySem.Spec PyProof.Rows
/-! ### an exception's own __init__ -/
section
variable {X : Cx} {pos p1 p2 : Pos} {e : Expr} {es : List Expr} {te : TE} {ta : TA}
/-- e.__class__.__name__, e an exception that is being made, without a field so far -/
def tOtName (K : PySem.W.Frag) (te : TE) : TE := fun σ H Q => te σ H fun x H1 => ∃ (a C : Addr) (nm : Str), x = .ref a ∧ H1 a = some (exo a C none) ∧ PySem.W.OtCls K C ∧ PySem.W.OtName K C nm ∧ Q (.str nm) H1
theorem pe_otname (he : PE X e te) (hb : attributeBase e "__class__" X.env (eval e X.env) = eval e X.env := by rfl)
    (hb2 : attributeBase (.Attribute e "__class__" p1) "__name__" X.env (eval (.Attribute e "__class__" p1) X.env) = eval (.Attribute e "__class__" p1) X.env := by rfl) :
    PE X (.Attribute (.Attribute e "__class__" p1) "__name__" pos) (tOtName X.K te) := by
  refine ⟨fun pins s σ H Q I h => ?_⟩
  refine attr_of hb2 (attr_of hb (thn (he.run pins s σ H _ I h) fun u s1 hh => ?_))
  obtain ⟨x, H1, I1, rx, a, C, nm, ex, ea, tc, tn, q⟩ := hh
  subst ex
  obtain rfl : u = Value.ref a := rx
  obtain ⟨t1, ho⟩ := exo_at I1.hok ea
  have J : PySem.W.InstAt s1.heap a _ C none := ⟨ho, rfl, rfl, True.intro⟩
  refine PySem.W.ot_class tc I1.kIn J ?_
  refine PySem.W.ot_name tn I1.kIn fun tk u => ?_
  exact ⟨.str nm, H1, I1.tok u, ⟨tk, rfl⟩, q⟩
/-- a class of the text, its attributes read by the type's own way -/
structure OtRead (K : PySem.W.Frag) (C : Addr) (m : Str) (f : Addr) : Prop where
  rd : PySem.W.readsIn K C (.type "type") = true
  ga : PySem.W.specialIn K (.ref C) "__getattribute__" = some (some (.builtin "type.__getattribute__"))
  at_ : PySem.W.findCls K (.ref C) (.type "type") m = some (.val (.ref f))
  kp : PySem.W.keepIn K (.ref f) = true
/-- B.m(e, ..), B a class of the text, m a def of it -/
theorem pe_otcall {CX : CXT} {k : Nat} {f C : Addr} {fd : FuncData} {ps : List Str} {sp : Sp} {E : XK} {o : Expr} {to : TE} {m : Str} {pl : Sem Bool} (ho : PE X o to) (R : OtRead X.K C m f) (F : FnOk X.prog X.w X.K X.mg X.base CX k f fd ps sp) (hr : Room k X.A) (hb : Binds X.K fd ps []) (hx : Passes CX X E) (ha : PA X (e :: es) ta)
    (hc : eval (.Call (.Attribute o m p2) (e :: es) [] pos) X.env = (do
      let ov ← eval o X.env
      standAt p2.atName
      let (f, first) ← holding [ov] (getMethod ov m pl)
      callWith pos f first (backTo pos (starEach (e :: es) X.env)) (backToKw pos (keywordEach [] X.env))) := by rfl)
    (he : starEach (e :: es) X.env = (false, eval e X.env) :: starEach es X.env := by rfl) (hpl : (backTo pos (starEach es X.env)).any (·.1) = false := by rfl) :
    PE X (.Call (.Attribute o m p2) (e :: es) [] pos) (fun σ H Q => to σ H fun x H1 => x = .ref C ∧ ta σ H1 fun vs H2 => sp vs H2 Q E) := by
  refine ⟨fun pins s σ H Q I h => ?_⟩
  refine PySem.W.methodCall_KW (thn (ho.run pins s σ H _ I h) fun u s1 hh => ?_) hc
  obtain ⟨x, H1, I1, rx, ex, q⟩ := hh
  subst ex
  obtain rfl : u = Value.ref C := rx
  refine PySem.W.method_cls I1.kIn R.ga (PySem.W.cls_value I1.kIn R.rd R.at_ rfl ?_)
  have I2 := I1.tok (s1.toks + 1)
  show wpAny _ _ (callWith pos (Value.ref f) [] (backTo pos (starEach (e :: es) X.env)) []) _ _ _
  refine PySem.W.callWith_K (h₀ := X.base) I2.ok.mod.kin R.kp (thn (ha.run pos pins _ σ H1 _ I2 q) fun us s2 hh2 => ?_) he hpl
  obtain ⟨vs, H2, I3, r3, q3⟩ := hh2
  exact ⟨I3.kIn, run_fn F hr hb .nil hx I3 r3 (by rw [List.append_nil]; exact q3)⟩
end
end L2

namespace L2
open PySem PySem.Spec PyProof.Rows
/-- all that is asked of an own class of error, its name nm -/
structure OtErr (K : PySem.W.Frag) (C : Addr) (nm : Str) : Prop where
  ox : OexC K C
  oc : PySem.W.OtCls K C
  on : PySem.W.OtName K C nm
  nw : PySem.W.findIn K (.ref C) "word" = some none
  ni : PySem.W.findIn K (.ref C) "index" = some none
section
variable {P : Program} {w : World} {K : PySem.W.Frag} {mg : Str → Option Value} {base : Heap}
/-- TableError.__init__ -/
def spTE (K : PySem.W.Frag) : Sp := fun vs H Q _ => ∃ (a C : Addr) (nm : Str), vs = [.ref a] ∧ H a = some (exo a C none) ∧ OtErr K C nm ∧
  ∀ d, H d = none → d ≠ a → Q .non (upd (upd H d (exd d [("word", .str nm)])) a (exo a C (some d)))
theorem ok_te {q : Str} {st : Stmt} {f : Addr} {fd : FuncData} {p1 p2 p3 p4 p5 p6 : Pos} (F : Fun K "__init__" q st f fd) (S : FnScope ["self"] ["self"] (defScope st))
    (v : Vis (defScope st) "self") (hb : defBody st = [.Assign [.Attribute (.Name "self" p1) "word" p2] (.Attribute (.Attribute (.Name "self" p3) "__class__" p4) "__name__" p5) p6]) :
    FnOk P w K mg base CX0 1 f fd ["self"] (spTE K) := by
  refine F.ok S (fun vs H Q E h => ?_) (fun cdv A outer s H vs Q E hr h => ?_)
  · obtain ⟨a, C, nm, rfl, _⟩ := h
    rfl
  · obtain ⟨a, C, nm, rfl, ha, T, k⟩ := h
    rw [hb]
    refine ⟨_, pss_one (ps_ost (pv 0 rfl v) (pe_otname (pv 0 rfl v))), ?_⟩
    refine ⟨_, rfl, a, C, nm, rfl, ha, T.oc, T.on, _, rfl, a, C, rfl, T.ox, T.nw, Or.inl ⟨ha, fun d nd ne => ?_⟩⟩
    exact k d nd ne
/-- IndexedError.__init__ -/
def spIE (K : PySem.W.Frag) : Sp := fun vs H Q _ => ∃ (a C : Addr) (nm : Str) (v : V), vs = [.ref a, v] ∧ H a = some (exo a C none) ∧ OtErr K C nm ∧
  ∀ d, H d = none → d ≠ a → Q .non (upd (upd (upd H d (exd d [("word", .str nm)])) a (exo a C (some d))) d (exd d [("index", v), ("word", .str nm)]))
end
end L2

/-! ### defs that are handed the error that an except suite holds -/
namespace L2
open PySem PySem.Spec PyProof.Rows
/-- a promise that knows the held error: where it stands, its class, its dict -/
abbrev SpE := Addr → Value → Option Addr → Sp
structure FnE (P : Program) (w : World) (K : PySem.W.Frag) (mg : Str → Option Value) (base : Heap) (k : Nat) (f : Addr) (fd : FuncData) (ps : List Str) (sp : SpE) : Prop where
  len : ∀ a c d vs H Q E, sp a c d vs H Q E → vs.length = ps.length
  run : ∀ (A : Around) (outer : List Env) (s : Shared) (H : Hp) (args : Args) (us : List Value) (vs : List V) (Q : VK) (p : Addr × Obj) (c : Value) (d : Option Addr), L2H.RoomH k A → L2H.PinOk outer H s p → Zc c d p.2 → (∃ fs, p.2.data = .fields fs) →
    Env0 P w K mg base A outer s H → BindsTo s fd args (ps.zip us) → Vals vs us → sp p.1 c d vs H Q E0 → codeAny (model P w) A (.call (.ref f) args) (CR CX0 outer P w H s Q E0) s
theorem fnE_of {P : Program} {w : World} {K : PySem.W.Frag} {mg : Str → Option Value} {base : Heap} {k : Nat} {x : Str} {st : Stmt} {f : Addr} {fd : FuncData} {N ps : List Str} {sp : SpE} (F : C8.Fun K x x st f fd) (S : FnScope N ps (C8.fnScope st))
    (len : ∀ a c d vs H Q E, sp a c d vs H Q E → vs.length = ps.length)
    (body : ∀ (cdv : Value) (A : Around) (outer : List Env) (s : Shared) (H : Hp) (vs : List V) (Q : VK) (p : Addr × Obj) (c : Value) (d : Option Addr), Zc c d p.2 → (∃ fs, p.2.data = .fields fs) → L2H.RoomH k (A.deeper (envOfC x (C8.fnScope st) s.heap.objs.size f cdv)) → sp p.1 c d vs H Q E0 →
      ∃ t, PSs (L2H.cxH CX0 P w K mg base N x (C8.fnScope st) f cdv A outer s H E0 p) (C8.fnBody st) t ∧ t { nx := fun _ H' => Q .non H', rt := Q } (L2.start N vs) H) :
    FnE P w K mg base (k + 1) f fd ps sp := by
  obtain ⟨oc, od, dV, kV, doc, pm, an, cdv, ct, osl, rfl, lk, hcd⟩ := F.ex
  constructor
  · exact len
  intro A outer s H args us vs Q p c d room pin zc fld env binds rel want
  have size := len _ _ _ _ _ _ _ want
  have old : ∀ b o, base.get? b = some o → s.heap.get? b = some o := fun b o z => (env.bs b o z).1
  have inK : K.In s.heap := env.mod.kin.keeps old
  have kinds : ∀ y ∈ ps.zip us, (C8.fnScope st).names.lookup y.1 = some .local ∨
      ((C8.fnScope st).names.lookup y.1 = some .cell ∧ ((cellsFrom (s.heap.objs.size + 1) (C8.fnScope st).names []).lookup y.1).isSome = true) := by
    intro y hy
    have my := (List.of_mem_zip (a := y.1) (b := y.2) hy).1
    exact (S.par y.1 my).imp id fun z => ⟨z, PySem.W.cellsFrom_some _ _ _ (Or.inl z)⟩
  apply codeAny_call_function room.depth (inK _ _ lk) rfl S.co S.gen rfl (PySem.W.codeRec_of inK hcd)
  apply binds
  apply wpAny_newFunctionEnv_cells S.kind kinds
  intro env1 he s1 called
  subst he
  refine ⟨(env.mod.nolimit.keeps old).keeps called.toInCall.keep, codeAny_func ?_⟩
  obtain ⟨t, ht, read⟩ := body cdv A outer s H vs Q p c d zc fld (room.deeper _) want
  have I0 : Inv (L2H.cxH CX0 P w K mg base N x (C8.fnScope st) f cdv A outer s H E0 p) [] (L2.start N vs) H s1 := L2H.inv_startH S pin env size rel called
  refine wpAny_mono (ht.run [] s1 (L2.start N vs) H _ I0 read) (fun fl s2 q => ?_) fun _ _ q => q
  cases fl with
  | ret u =>
    obtain ⟨v, σ2, H2, J, rv, z⟩ := q
    exact ⟨v, H2, J.os, J.bare, J.base, J.hok, rv, z⟩
  | next =>
    obtain ⟨σ2, H2, J, z⟩ := q
    exact ⟨.non, H2, J.os, J.bare, J.base, J.hok, rfl, z⟩
  | brk =>
    obtain ⟨_, _, _, z⟩ := q
    exact z.elim
  | cont =>
    obtain ⟨_, _, _, z⟩ := q
    exact z.elim
section
variable {X : Cx} {p : Addr × Obj} {c : Value} {d : Option Addr} {k : Nat} {f : Addr} {fd : FuncData} {ps : List Str} {sp : SpE} {x : Str} {q pos : Pos} {e : Expr} {es : List Expr} {t : TA} {te : TE}
/-- f(e, ..) where the error is held -/
theorem pe_callE (F : FnE X.prog X.w X.K X.mg X.base k f fd ps sp) (hr : L2H.RoomH k X.A) (hp : p ∈ X.pn) (zc : Zc c d p.2) (fld : ∃ fs, p.2.data = .fields fs) (hg : Gl X x) (hm : X.mg x = some (.ref f)) (hk : PySem.W.keepIn X.K (.ref f) = true) (hb : Binds X.K fd ps [])
    (ha : PA X (e :: es) t) (hdb : (x == ("__debug__" : Str)) = false := by decide) (he : starEach (e :: es) X.env = (false, eval e X.env) :: starEach es X.env := by rfl) (hpl : (backTo pos (starEach es X.env)).any (·.1) = false := by rfl) :
    PE X (.Call (.Name x q) (e :: es) [] pos) (fun σ H Q => t σ H fun vs H1 => sp p.1 c d vs H1 Q E0) := by
  constructor
  intro pins s σ H Q I want
  apply wpAny_Call_Name_kw
  refine ld_glob I hg hm ?_ hdb
  refine PySem.W.callWith_K (h₀ := X.base) I.ok.mod.kin hk (thn (ha.run pos pins s σ H _ I want) ?_) he hpl
  rintro us s1 ⟨vs, H1, J, rel, z⟩
  refine ⟨J.kIn, ?_⟩
  have size : us.length = ps.length := by
    rw [← rel.length]
    exact F.len _ _ _ _ _ _ _ z
  have bind := hb s1 us J.kIn (by rw [List.append_nil]; exact size)
  rw [List.append_nil] at bind
  obtain ⟨p1, p2, p3, p4, p5⟩ := J.pin p (List.mem_append_left _ hp)
  have pin : L2H.PinOk X.stack H1 s1 p := ⟨p1, p2, fun z => (List.mem_cons.mp (J.stkSub p.1 z)).elim p3 p4, p5⟩
  refine wpAny_call (codeAny_mono (F.run X.A X.stack s1 H1 ⟨us, []⟩ us vs Q p c d hr pin zc fld J.env0 bind rel z) ?_)
  intro r s2 got
  cases r with
  | error er => exact got.elim
  | ok fl =>
    cases fl with
    | ret u => exact J.after got
    | next => exact got.elim
    | brk => exact got.elim
    | cont => exact got.elim
/-- the held error is an instance of its class -/
theorem heldAt {pins : List (Addr × Obj)} {σ : L2.St} {H : Hp} {s : Shared} {C dd : Addr} {fs : List (Str × V)} (I : Inv X pins σ H s) (hp : p ∈ X.pn) (zc : Zc (.ref C) (some dd) p.2) (fld : ∃ fs, p.2.data = .fields fs) (hd : H dd = some (.xd fs)) :
    ∃ od, PySem.W.InstAt s.heap p.1 p.2 C (some od) ∧ ∀ n v, fs.lookup n = some v → ∃ u, RelV v u ∧ PySem.W.lookIn n od = some (some u) := by
  obtain ⟨at1, _⟩ := I.pin p (List.mem_append_left _ hp)
  obtain ⟨vs, hdat⟩ := fld
  obtain ⟨mA, hns, hr⟩ := (show ObjOk X.prog X.w H s.heap dd (.xd fs) from I.hok dd _ hd)
  obtain ⟨od, ho, hl⟩ := lookIn_ns hns
  refine ⟨od, ⟨at1, zc.1, by unfold PySem.W.notCls; rw [hdat] <;> rfl, by rw [zc.2]; exact ho⟩, fun n v l => ?_⟩
  obtain ⟨u, hu, ru⟩ := RelO.some_of (v := v) (o := mA n) (by rw [← l]; exact hr n)
  exact ⟨u, ru, by rw [hl, hu]⟩
/-- isinstance(e, T), e the held error -/
theorem call_isX (hp : p ∈ X.pn) (zc : Zc c d p.2) (fld : ∃ fs, p.2.data = .fields fs) : CallR X (.builtin "isinstance") (fun xs H Q => ∃ (C dd : Addr) (fs : List (Str × V)) (y : V) (u : Value) (b : Bool),
    xs = [.ref p.1, y] ∧ c = .ref C ∧ d = some dd ∧ PySem.W.OtCls X.K C ∧ H dd = some (.xd fs) ∧ ClsV y u ∧ PySem.W.kitOne X.K (.ref C) u = some b ∧ Q (.bl b) H) := by
  rintro pins s σ H xs us Q I rel ⟨C, dd, fs, y, u, b, rfl, rfl, rfl, T, hd, hy, hb, z⟩
  obtain ⟨u1, u2, rfl, r1, r2⟩ := vals2 rel
  cases (show u1 = Value.ref p.1 from r1)
  cases hy.eq r2
  obtain ⟨od, J, _⟩ := heldAt I hp zc fld hd
  have isC : (PySem.W.clsIn X.K C).isSome = true := by
    obtain ⟨cd, q, _⟩ := PySem.W.any_some T.hdct
    rw [q]
    rfl
  exact PySem.W.kia_one (PySem.W.kitx_exc isC T.hga T.hgt T.hsub T.ha T.hn T.htk T.hm) I.kIn J hb (fun z => nomatch z) fun tk => ⟨.bl b, H, I.tok tk, rfl, z⟩
/-- e.n, e the held error, n a field of its own -/
theorem pe_fX {n : Str} (hp : p ∈ X.pn) (zc : Zc c d p.2) (fld : ∃ fs, p.2.data = .fields fs) (he : PE X e te) (hb : attributeBase e n X.env (eval e X.env) = eval e X.env := by rfl) :
    PE X (.Attribute e n pos) (fun σ H Q => te σ H fun y H1 => ∃ (C dd : Addr) (fs : List (Str × V)) (v : V), y = .ref p.1 ∧ c = .ref C ∧ d = some dd ∧ PySem.W.OtCls X.K C ∧ PySem.W.findIn X.K (.ref C) n = some none ∧ H1 dd = some (.xd fs) ∧ fs.lookup n = some v ∧ Q v H1) := by
  constructor
  intro pins s σ H Q I want
  refine attr_of hb (thn (he.run pins s σ H _ I want) ?_)
  rintro u s1 ⟨y, H1, J1, ry, C, dd, fs, v, rfl, rfl, rfl, T, hno, hd, hl, z⟩
  obtain rfl : u = Value.ref p.1 := ry
  obtain ⟨od, J, look⟩ := heldAt J1 hp zc fld hd
  obtain ⟨w1, rw1, lw⟩ := look n v hl
  exact HandSPX.exc_get J1.kIn J T.hga T.hgt T.hsub (PySem.W.findObj_own T.hdct hno rfl lw) (handed_of rw1) ⟨v, H1, J1.tok _, rw1, z⟩
end
end L2

namespace OT
open PySem
theorem b_int : bootBuiltins "int" = some (.type "int") := by decide +kernel
theorem b_str : bootBuiltins "str" = some (.type "str") := by decide +kernel
theorem b_bool : bootBuiltins "bool" = some (.type "bool") := by decide +kernel
theorem b_list : bootBuiltins "list" = some (.type "list") := by decide +kernel
theorem b_tuple : bootBuiltins "tuple" = some (.type "tuple") := by decide +kernel
theorem b_len : bootBuiltins "len" = some (.builtin "len") := by decide +kernel
theorem b_isinstance : bootBuiltins "isinstance" = some (.builtin "isinstance") := by decide +kernel
theorem b_any : bootBuiltins "any" = some (.builtin "any") := by decide +kernel
theorem b_all : bootBuiltins "all" = some (.builtin "all") := by decide +kernel
theorem b_sum : bootBuiltins "sum" = some (.builtin "sum") := by decide +kernel
theorem b_min : bootBuiltins "min" = some (.builtin "min") := by decide +kernel
theorem b_max : bootBuiltins "max" = some (.builtin "max") := by decide +kernel
theorem b_sorted : bootBuiltins "sorted" = some (.builtin "sorted") := by decide +kernel
theorem b_abs : bootBuiltins "abs" = some (.builtin "abs") := by decide +kernel
theorem b_ValueError : bootBuiltins "ValueError" = some (.type "ValueError") := by decide +kernel
end OT

set_option Elab.async false
set_option linter.all false
set_option maxRecDepth 100000
set_option maxHeartbeats 2000000
/-! Rows: sorted keys of a dict whose keys are tuples of ints; valid rows. -/
namespace L2
open PySem PySem.Spec PyProof.Rows
section
/-- what a sort leaves: the same values, ascending by their keys -/
theorem sort_left {κ : KeyKind} {vs : List Value} {a : Array Keyed} (perm : a.Perm (pairsOf vs)) (srt : SortedToK κ a (pairsOf vs).size) :
    (a.toList.map (·.2)).Perm vs ∧ (a.toList.map (·.2)).Pairwise fun x y => ∀ k l, κ.keyOf x = some k → κ.keyOf y = some l → κ.kle k l := by
  have pl : a.toList.Perm (vs.zip vs) := by
    rw [← pairsOf_toList]
    exact Array.perm_iff_toList_perm.mp perm
  have diag : ∀ p ∈ a.toList, p.1 = p.2 := fun p hp => (mem_zip_self (pl.mem_iff.mp hp)).1
  constructor
  · have e : (vs.zip vs).map (·.2) = vs := by
      rw [List.map_snd_zip]
      exact Nat.le_refl _
    have q := pl.map (·.2)
    rw [e] at q
    exact q
  · rw [List.pairwise_map, List.pairwise_iff_getElem]
    intro i j hi hj hij k l hk hl
    have hn : a.size = (pairsOf vs).size := perm.size_eq
    rw [Array.length_toList] at hi hj
    have s := srt i j (Nat.le_of_lt hij) (by omega)
    have at_ : ∀ n (h : n < a.size), ∀ m, κ.keyOf a.toList[n].2 = some m → KK κ a n = m := fun n h m hm => by
      unfold KK
      rw [Array.getElem?_eq_getElem h]
      have d := diag a.toList[n] (List.getElem_mem _)
      rw [← d] at hm
      rw [Array.getElem_toList] at hm
      dsimp only
      rw [hm]
      rfl
    rw [at_ i hi k hk, at_ j hj l hl] at s
    exact s
theorem lexLt_inl : ∀ k l : List Int, PyProof.Rows.lexLt itemOrd (k.map Sum.inl) (l.map Sum.inl) = HT.lexLt k l
  | [], [] => rfl
  | [], _ :: _ => rfl
  | _ :: _, [] => rfl
  | x :: r, y :: t => by
    rw [List.map_cons, List.map_cons, PyProof.Rows.lex_cons, lexLt_inl r t, HT.lexLt_cons]
    show (decide (x < y) || (!decide (y < x) && HT.lexLt r t)) = _
    by_cases h : x = y
    · rw [if_pos h, decide_eq_false (by omega), decide_eq_false (by omega)]
      rfl
    · rw [if_neg h]
      by_cases h2 : x < y
      · rw [decide_eq_true h2]
        rfl
      · rw [decide_eq_false h2, decide_eq_true (show y < x by omega)]
        rfl
theorem tupItems_ints : ∀ (ns : List Int) (us : List Value) (i : Nat), Vals (ns.map V.int) us → tupItems (fun _ => false) i us = some (ns.map Sum.inl)
  | [], _, _, .nil => rfl
  | n :: ns, _ :: us, i, .cons r t => by
    obtain ⟨tk, rfl⟩ := (show ∃ tk, _ = Value.int n tk from r)
    show (if (false : Bool) = true then none else (tupItems (fun _ => false) (i + 1) us).map (Sum.inl n :: ·)) = _
    rw [if_neg Bool.false_ne_true, tupItems_ints ns us (i + 1) t]
    rfl
theorem ints_inj : ∀ {k l : List Int}, k.map V.int = l.map V.int → k = l
  | [], [], _ => rfl
  | [], _ :: _, h => by cases h
  | _ :: _, [], h => by cases h
  | x :: r, y :: t, h => by
    rw [List.map_cons, List.map_cons] at h
    obtain ⟨e, h⟩ := List.cons.inj h
    rw [V.int.inj e, ints_inj h]
theorem vals_refs' : ∀ out : List (Addr × List Int), Vals (out.map fun x => V.ref x.1) (out.map fun x => Value.ref x.1)
  | [] => .nil
  | _ :: r => .cons rfl (vals_refs' r)
variable {X : Cx}
/-- sorted(d), the keys of d tuples of ints -/
theorem cr_sortedDT (hcalm : X.calm = true) : CallR X (.builtin "sorted") (fun xs H Q => ∃ (d : Addr) (kvs : List (List Key × V)) (ks : List (List Int)), xs = [.ref d] ∧ Rd H d (.dT kvs) ∧ kvs.map (·.1) = ks.map (fun k => k.map Sum.inl) ∧ (2 ≤ ks.length → ∀ k ∈ ks, k ≠ []) ∧
    ∀ (out : List (Addr × List Int)) (p : Addr), (out.map (·.2)).Perm ks → (out.map (·.2)).Pairwise (fun a b => HT.lexLt b a = false) → ks.Nodup → (∀ x ∈ out, H x.1 = some (.tup (x.2.map V.int))) → H p = none → Q (.ref p) (upd H p (.lst (out.map fun x => V.ref x.1)))) := by
  rintro pins s σ H xs us Q I rel ⟨d, kvs, ks, rfl, hd, hks, hne, want⟩
  obtain ⟨u, rfl, rx⟩ := rel.one
  cases rx
  obtain ⟨z, hs, xs, pr, o, es, ep, ho, hx, hdt, he, hn⟩ := (show ObjOk X.prog X.w H s.heap d (.dT kvs) from hd.ok I.hok)
  have l1 : es.size = xs.length := size_of_entries he
  have l2 : kvs.length = xs.length := Paired.length pr
  -- the keys' addresses
  have keyed : ∀ (kvs : List (List Key × V)) (xs : List (List Key × Addr × Value)) (ks : List (List Int)), Paired (fun (p : List Key × V) (q : List Key × Addr × Value) => p.1 = q.1 ∧ H q.2.1 = some (.tup (p.1.map kV)) ∧ RelV p.2 q.2.2) kvs xs → kvs.map (·.1) = ks.map (fun k => k.map Sum.inl) →
      xs.map (·.1) = ks.map (fun k => k.map Sum.inl) ∧ ∀ x ∈ (xs.map (·.2.1)).zip ks, H x.1 = some (.tup (x.2.map V.int)) := by
    intro kvs
    induction kvs with
    | nil =>
      intro xs ks pr hks
      cases pr
      cases ks with
      | nil => exact ⟨rfl, fun x hx => by cases hx⟩
      | cons k r => cases hks
    | cons a r ih =>
      intro xs ks pr hks
      cases pr with
      | cons h t =>
        rename_i q xs'
        cases ks with
        | nil => cases hks
        | cons k ks' =>
          obtain ⟨e1', e2⟩ := List.cons.inj hks
          have e1 : a.1 = k.map Sum.inl := e1'
          obtain ⟨i1, i2⟩ := ih _ _ t e2
          obtain ⟨h1, h2, _⟩ := h
          refine ⟨?_, fun x hx => ?_⟩
          · rw [List.map_cons, List.map_cons, i1, ← h1, e1]
          · rw [List.map_cons, List.zip_cons_cons] at hx
            rcases List.mem_cons.mp hx with e | hx
            · rw [e]
              show H q.2.1 = _
              rw [h2, e1, List.map_map]
              rfl
            · exact i2 x hx
  obtain ⟨kx, held⟩ := keyed kvs xs ks pr hks
  have lk : xs.length = ks.length := by
    have := congrArg List.length kx
    rwa [List.length_map, List.length_map] at this
  have nod : ks.Nodup := by
    rw [kx] at hn
    exact nodup_of_map hn
  apply Calls.call_function_entry kind_sorted plain_sorted entry_sorted (args_sorted1 (.ref d))
  unfold Builtin.«sorted»
  apply wpAny_bind (m := checkCount "sorted" 1 1 _)
  apply wpAny_pure
  refine wpAny_bind (PySem.W.kdu_collect (A := X.A.in1) (kdl_raw hs hx hdt) (I.ok.hd hcalm) ho (by omega) fun h' tk got hk hacc => ?_)
  have ea : got.toList = (xs.map (·.2.1)).map Value.ref := by
    have hl : got.toList.length = xs.length := by rw [Array.length_toList, hacc.1]; exact l1
    apply List.ext_getElem
    · rw [hl, List.length_map, List.length_map]
    · intro j hj1 hj2
      have g1 : got[j]? = some got.toList[j] := by
        rw [← Array.getElem?_toList]
        exact List.getElem?_eq_getElem hj1
      obtain ⟨en, hen, hv⟩ := hacc.2 j _ g1
      have qe := entry_at he j
      have hjx : j < xs.length := by omega
      rw [hen, List.getElem?_eq_getElem hjx] at qe
      have e2 := Option.some.inj qe
      rw [hv, e2, List.getElem_map, List.getElem_map]
      rfl
  have J1 : Inv X pins σ H { s with heap := h', toks := tk } := I.kept hk
  have gotk : got.toList.length = ks.length := by rw [ea, List.length_map, List.length_map, lk]
  have fits : got.toList.length ≤ sizeLine := by omega
  apply wpAny_bind
  refine wpAny_newList ?_ fits
  have atL : (h'.push (seqObj "list" got.toList.toArray 0)).get? h'.objs.size = some (seqObj "list" got.toList.toArray 0) := Heap.get?_push_size _ rfl
  show wpAny _ _ _ _ _ { s with heap := h'.push (seqObj "list" got.toList.toArray 0), toks := tk }
  -- each key stands in the heap
  have stands : ∀ (a : Addr) (k : List Int), H a = some (.tup (k.map V.int)) → ∃ its : List Value, Vals (k.map V.int) its ∧ IsTup h' a its.toArray := fun a k e => by
    obtain ⟨_, its, rv, it⟩ := (show ObjOk X.prog X.w H h' a (.tup (k.map V.int)) from J1.hok a _ e)
    exact ⟨its, rv, it⟩
  have keyOf : ∀ (a : Addr) (k : List Int), H a = some (.tup (k.map V.int)) → PyProof.Rows.G.tupKeyC (h'.push (seqObj "list" got.toList.toArray 0)) (fun _ => false) (.ref a) = some (k.map Sum.inl) := fun a k e => by
    obtain ⟨its, rv, ob, h1, h2, n, h3⟩ := stands a k e
    have g : (h'.push (seqObj "list" got.toList.toArray 0)).get? a = some ob := Heap.get?_push_of_some _ h1
    have it : PyProof.Rows.G.isTupObj (h'.push (seqObj "list" got.toList.toArray 0)) (.ref a) = true := by
      simp only [PyProof.Rows.G.isTupObj, g, h2]
      rfl
    unfold PyProof.Rows.G.tupKeyC
    rw [if_pos it]
    unfold tupKey
    dsimp only
    rw [g]
    dsimp only
    rw [h3]
    dsimp only
    exact tupItems_ints k its 0 rv
  have zipped : ∀ v ∈ got.toList, ∃ a k, v = Value.ref a ∧ k ∈ ks ∧ H a = some (.tup (k.map V.int)) := fun v hv => by
    obtain ⟨j, hj, e⟩ := List.getElem_of_mem hv
    have hjk : j < ks.length := by omega
    have hjx : j < (xs.map (·.2.1)).length := by rw [List.length_map]; omega
    have ev : v = Value.ref (xs.map (·.2.1))[j] := by
      rw [← e]
      simp only [ea, List.getElem_map]
    refine ⟨_, ks[j], ev, List.getElem_mem _, held ((xs.map (·.2.1))[j], ks[j]) ?_⟩
    rw [List.mem_iff_getElem]
    refine ⟨j, by rw [List.length_zip]; omega, ?_⟩
    rw [List.getElem_zip]
  have keys : KeysOf (PyProof.Rows.G.tupKindC (h'.push (seqObj "list" got.toList.toArray 0)) fun _ => false) (pairsOf got.toList) := PyProof.Rows.G.tupKeys fun v hv => by
    obtain ⟨a, k, rfl, _, hk⟩ := zipped v hv
    exact ⟨_, keyOf a k hk⟩
  have k6 := PyProof.Rows.G.keeps_sort6 (vs := got.toList) atL
  have tups : 2 ≤ got.toList.length → ∃ fs, 0 < fs.length ∧ TupsOf (h'.push (seqObj "list" got.toList.toArray 0)) (fun _ => false) got.toList fs := fun h2 => by
    have each : ∀ l : List Value, (∀ v ∈ l, ∃ a k, v = Value.ref a ∧ k ∈ ks ∧ H a = some (.tup (k.map V.int))) → ∃ fs, fs.length = l.length ∧ TupsOf (h'.push (seqObj "list" got.toList.toArray 0)) (fun _ => false) l fs := by
      intro l
      induction l with
      | nil => exact fun _ => ⟨[], rfl, .nil⟩
      | cons v r ih =>
        intro hv
        obtain ⟨fs, hl, ht⟩ := ih fun y hy => hv y (List.mem_cons_of_mem _ hy)
        obtain ⟨a, k, rfl, hm, hk⟩ := hv v List.mem_cons_self
        obtain ⟨its, rv, ob, h1, h2', n, h3⟩ := stands a k hk
        cases k with
        | nil => exact absurd rfl (hne (by omega) [] hm)
        | cons i k =>
          cases rv with
          | @cons _ u0 _ ur r0 rt =>
            obtain ⟨tk0, rfl⟩ := (show ∃ tk, u0 = Value.int i tk from r0)
            exact ⟨.int i tk0 :: fs, by rw [List.length_cons, List.length_cons, hl], .cons ⟨a, ob, _, n, rfl, Heap.get?_push_of_some _ h1, h2', h3, rfl, fun _ => ⟨i, tk0, rfl⟩, fun z => by cases z⟩ ht⟩
    obtain ⟨fs, hl, ht⟩ := each got.toList zipped
    exact ⟨fs, by omega, ht⟩
  refine wpAny_bind (wpAny_holding (wpAny_call_entry PyProof.Rows.slot_list_sort ⟨_, atL, rfl⟩ PyProof.Rows.entry_list_sort
    (PyProof.Rows.G.list_sort_treeG (κ := PyProof.Rows.G.tupKindC (h'.push (seqObj "list" got.toList.toArray 0)) fun _ => false) (kd := tuples' true) (s := { s with heap := h'.push (seqObj "list" got.toList.toArray 0), toks := tk }) atL keys
      (PyProof.Rows.G.tupC_ltAt true k6) (fun h2 R hq => ?kind) fits fun st' a1 a2 a3 => ⟨_, rfl, ?ret⟩) (PyProof.Rows.args_list_sort _)))
  case kind =>
    obtain ⟨fs, hl, ht⟩ := tups h2
    exact tup_kind hl (PyProof.Rows.G.TupsOf.keep k6 ht) hq
  case ret =>
    obtain ⟨o1, o2⟩ := sort_left a1 a2
    have out : ∃ out : List (Addr × List Int), (arrOf st').toList.map (·.2) = out.map (fun x => Value.ref x.1) ∧ ∀ x ∈ out, H x.1 = some (.tup (x.2.map V.int)) := by
      have each : ∀ l : List Value, (∀ v ∈ l, v ∈ got.toList) → ∃ out : List (Addr × List Int), l = out.map (fun x => Value.ref x.1) ∧ ∀ x ∈ out, H x.1 = some (.tup (x.2.map V.int)) := by
        intro l
        induction l with
        | nil => exact fun _ => ⟨[], rfl, fun x hx => by cases hx⟩
        | cons v r ih =>
          intro hv
          obtain ⟨out, e, ho'⟩ := ih fun y hy => hv y (List.mem_cons_of_mem _ hy)
          obtain ⟨a, k, rfl, _, hk⟩ := zipped v (hv v List.mem_cons_self)
          refine ⟨(a, k) :: out, by rw [List.map_cons, e], fun x hx => ?_⟩
          rcases List.mem_cons.mp hx with e' | hx
          · rw [e']
            exact hk
          · exact ho' x hx
      exact each _ fun v hv => o1.mem_iff.mp hv
    obtain ⟨out, eo, ho'⟩ := out
    obtain ⟨ep', he'⟩ := PyProof.Rows.sortedHeap_at (vs := got.toList) (out := (arrOf st').map (·.2)) atL
    have oz : out.length ≤ sizeLine := by
      have e1 := congrArg List.length eo
      have e2 := o1.length_eq
      rw [List.length_map] at e1 e2
      rw [List.length_map] at e1
      omega
    have inj : ∀ (a : Addr) (k l : List Int), H a = some (.tup (k.map V.int)) → H a = some (.tup (l.map V.int)) → k = l := fun a k l h1 h2 => by
      rw [h1] at h2
      exact ints_inj (HO.tup.inj (Option.some.inj h2))
    refine wpAny_pure ⟨_, rfl, .ref h'.objs.size, upd H h'.objs.size (.lst (out.map fun x => V.ref x.1)), J1.laid (t' := tk) (fun b u q => ?old) (Nat.le_refl _) ⟨by rw [List.length_map]; exact oz, ((arrOf st').map (·.2)).toList, ep', ?vals, he'⟩, rfl, want out _ ?perm ?pw nod ho' (J1.hok.fresh (Nat.le_refl _))⟩
    case old =>
      rw [PyProof.Rows.sortedHeap_old (Nat.ne_of_lt (Heap.lt_size q)) (Nat.lt_of_lt_of_le (Heap.lt_size q) (by rw [size_push']; exact Nat.le_succ _))]
      exact Heap.get?_push_of_some _ q
    case vals =>
      rw [Array.toList_map, eo]
      exact vals_refs' out
    case perm =>
      have p1 : (out.map (fun x => Value.ref x.1)).Perm got.toList := by rw [← eo]; exact o1
      have rd : ∀ v : Value, ∃ k : List Int, ∀ (a : Addr) (l : List Int), v = .ref a → H a = some (.tup (l.map V.int)) → k = l := fun v => by
        by_cases h : ∃ (a : Addr) (l : List Int), v = .ref a ∧ H a = some (.tup (l.map V.int))
        · obtain ⟨a, l, e, h⟩ := h
          refine ⟨l, fun a' l' e' h' => ?_⟩
          cases e.symm.trans e'
          exact inj _ _ _ h h'
        · exact ⟨[], fun a l e h' => absurd ⟨a, l, e, h'⟩ h⟩
      have p2 := p1.map fun v => (rd v).choose
      rw [List.map_map] at p2
      have e1 : out.map (((fun v => (rd v).choose)) ∘ fun x => Value.ref x.1) = out.map (·.2) := List.map_congr_left fun x hx => (rd (.ref x.1)).choose_spec _ _ rfl (ho' x hx)
      have e2 : got.toList.map (fun v => (rd v).choose) = ks := by
        apply List.ext_getElem
        · rw [List.length_map]; exact gotk
        · intro j h1 h2
          have h3 : j < (xs.map (·.2.1)).length := by rw [List.length_map]; omega
          rw [List.getElem_map]
          have ev : got.toList[j]'(by omega) = Value.ref (xs.map (·.2.1))[j] := by simp only [ea, List.getElem_map]
          refine (rd _).choose_spec _ _ ev (held ((xs.map (·.2.1))[j], ks[j]) ?_)
          rw [List.mem_iff_getElem]
          refine ⟨j, by rw [List.length_zip]; omega, ?_⟩
          rw [List.getElem_zip]
      rw [e1, e2] at p2
      exact p2
    case pw =>
      rw [eo, List.pairwise_map] at o2
      rw [List.pairwise_map]
      refine List.Pairwise.imp_of_mem (fun {x y} hx hy h => ?_) o2
      have hle := h _ _ (keyOf x.1 x.2 (ho' x hx)) (keyOf y.1 y.2 (ho' y hy))
      rw [← lexLt_inl]
      exact hle
end
end L2

set_option Elab.async false
set_option linter.all false
set_option maxRecDepth 100000
set_option maxHeartbeats 2000000
/-! rows: what a list of entries sums to, and the one row of the sums -/
namespace OT
open PySem PySem.Spec PyProof.Rows L2
abbrev Pl := List Int
abbrev Ent := List Int × Int
def numAt : List Ent → Pl → Int
  | [], _ => 0
  | e :: r, q => (if e.1 = q then e.2 else 0) + numAt r q
theorem numAt_app : ∀ (a b : List Ent) (q : Pl), numAt (a ++ b) q = numAt a q + numAt b q
  | [], b, q => by
    show numAt b q = 0 + numAt b q
    omega
  | e :: r, b, q => by
    show (if e.1 = q then e.2 else 0) + numAt (r ++ b) q = (if e.1 = q then e.2 else 0) + numAt r q + numAt b q
    rw [numAt_app r b q]
    omega
theorem numAt_out {es : List Ent} {q : Pl} (h : ∀ e ∈ es, e.1 ≠ q) : numAt es q = 0 := by
  induction es with
  | nil => rfl
  | cons e r ih =>
    show (if e.1 = q then e.2 else 0) + numAt r q = 0
    rw [if_neg (h e List.mem_cons_self), ih fun x hx => h x (List.mem_cons_of_mem _ hx)]
    rfl
theorem lt_irr (k : Pl) : HT.lexLt k k = false := by
  rw [← lexLt_inl]
  exact PyProof.Rows.lex_irrefl _
theorem lt_trans {a b c : Pl} (h1 : HT.lexLt a b = true) (h2 : HT.lexLt b c = true) : HT.lexLt a c = true := by
  rw [← lexLt_inl] at *
  exact PyProof.Rows.lex_trans _ _ _ h1 h2
theorem inl_inj {β : Type} : ∀ {a b : Pl}, a.map (Sum.inl : Int → Int ⊕ β) = b.map Sum.inl → a = b
  | [], [], _ => rfl
  | [], _ :: _, h => by cases h
  | _ :: _, [], h => by cases h
  | x :: r, y :: t, h => by
    rw [List.map_cons, List.map_cons] at h
    obtain ⟨e, h⟩ := List.cons.inj h
    rw [Sum.inl.inj e, inl_inj h]
theorem lt_tot {a b : Pl} (h1 : HT.lexLt a b = false) (h2 : HT.lexLt b a = false) : a = b := by
  rw [← lexLt_inl] at *
  exact inl_inj (PyProof.Rows.lex_total _ _ h1 h2)
theorem lt_ne {a b : Pl} (h : HT.lexLt a b = true) : a ≠ b := by
  rintro rfl
  rw [lt_irr] at h
  cases h
structure Valid (r : List Ent) : Prop where
  asc : r.Pairwise fun a b => HT.lexLt a.1 b.1 = true
  nz : ∀ e ∈ r, e.2 ≠ 0
theorem Valid.tail {e : Ent} {r : List Ent} (h : Valid (e :: r)) : Valid r := ⟨(List.pairwise_cons.mp h.asc).2, fun x hx => h.nz x (List.mem_cons_of_mem _ hx)⟩
theorem Valid.head_out {e : Ent} {r : List Ent} (h : Valid (e :: r)) {q : Pl} (hq : q = e.1 ∨ HT.lexLt q e.1 = true) : numAt r q = 0 := by
  refine numAt_out fun x hx z => ?_
  have h1 := (List.pairwise_cons.mp h.asc).1 x hx
  rcases hq with rfl | hq
  · exact lt_ne h1 z.symm
  · exact lt_ne (lt_trans hq h1) z.symm
theorem Valid.head_at {e : Ent} {r : List Ent} (h : Valid (e :: r)) : numAt (e :: r) e.1 = e.2 := by
  show (if e.1 = e.1 then e.2 else 0) + numAt r e.1 = e.2
  rw [if_pos rfl, h.head_out (.inl rfl)]
  omega
theorem Valid.low {e : Ent} {r : List Ent} (h : Valid (e :: r)) {q : Pl} (hq : HT.lexLt q e.1 = true) : numAt (e :: r) q = 0 := by
  show (if e.1 = q then e.2 else 0) + numAt r q = 0
  rw [if_neg (fun z => lt_ne hq z.symm), h.head_out (.inr hq)]
  rfl
theorem Valid.ext : ∀ {r t : List Ent}, Valid r → Valid t → (∀ q, numAt r q = numAt t q) → r = t
  | [], [], _, _, _ => rfl
  | [], e :: t, _, ht, h => by
    have h1 := h e.1
    rw [ht.head_at] at h1
    exact absurd h1.symm (ht.nz e List.mem_cons_self)
  | e :: r, [], hr, _, h => by
    have h1 := h e.1
    rw [hr.head_at] at h1
    exact absurd h1 (hr.nz e List.mem_cons_self)
  | e :: r, f :: t, hr, ht, h => by
    have k : e.1 = f.1 := by
      refine lt_tot ?_ ?_
      · cases z : HT.lexLt e.1 f.1 with
        | false => rfl
        | true =>
          have h1 := h e.1
          rw [hr.head_at, ht.low z] at h1
          exact absurd h1 (hr.nz e List.mem_cons_self)
      · cases z : HT.lexLt f.1 e.1 with
        | false => rfl
        | true =>
          have h1 := h f.1
          rw [ht.head_at, hr.low z] at h1
          exact absurd h1.symm (ht.nz f List.mem_cons_self)
    have n : e.2 = f.2 := by
      have h1 := h e.1
      rw [hr.head_at, k, ht.head_at] at h1
      exact h1
    have ef : e = f := Prod.ext k n
    subst ef
    refine congrArg _ (Valid.ext hr.tail ht.tail fun q => ?_)
    have h1 := h q
    have h2 : (if e.1 = q then e.2 else 0) + numAt r q = (if e.1 = q then e.2 else 0) + numAt t q := h1
    omega
/-- the row of the sums -/
structure RowIs (r es : List Ent) : Prop where
  v : Valid r
  s : ∀ q, numAt r q = numAt es q
theorem RowIs.one {r t es : List Ent} (h1 : RowIs r es) (h2 : RowIs t es) : r = t := h1.v.ext h2.v fun q => (h1.s q).trans (h2.s q).symm
theorem Valid.at : ∀ {r : List Ent}, Valid r → ∀ e ∈ r, numAt r e.1 = e.2
  | f :: t, h, e, he => by
    rcases List.mem_cons.mp he with rfl | he
    · exact h.head_at
    · show (if f.1 = e.1 then f.2 else 0) + numAt t e.1 = e.2
      rw [if_neg (lt_ne ((List.pairwise_cons.mp h.asc).1 e he)), Valid.at h.tail e he]
      omega
theorem RowIs.mem {r es : List Ent} (h : RowIs r es) {e : Ent} (he : e ∈ r) : ∃ x ∈ es, x.1 = e.1 := by
  have h1 := h.v.at e he
  rw [h.s] at h1
  by_cases z : ∃ x ∈ es, x.1 = e.1
  · exact z
  · rw [numAt_out fun x hx y => z ⟨x, hx, y⟩] at h1
    exact absurd h1.symm (h.v.nz e he)
theorem Valid.len : ∀ {r : List Ent} {l : List Pl}, Valid r → (∀ e ∈ r, e.1 ∈ l) → r.length ≤ l.length
  | [], _, _, _ => Nat.zero_le _
  | e :: t, l, h, k => by
    have h1 := k e List.mem_cons_self
    have ih := Valid.len (l := l.erase e.1) h.tail fun x hx => (List.mem_erase_of_ne (lt_ne ((List.pairwise_cons.mp h.asc).1 x hx)).symm).mpr (k x (List.mem_cons_of_mem _ hx))
    rw [List.length_erase_of_mem h1] at ih
    have h2 := List.length_pos_of_mem h1
    rw [List.length_cons]
    omega
theorem RowIs.len {r es : List Ent} (h : RowIs r es) : r.length ≤ es.length := by
  have := h.v.len (l := es.map (·.1)) fun e he => by
    obtain ⟨x, hx, ex⟩ := h.mem he
    rw [← ex]
    exact List.mem_map_of_mem hx
  rwa [List.length_map] at this
/-- the entries of the keys in turn -/
def mkR (f : Pl → Int) : List Pl → List Ent
  | [] => []
  | k :: r => if f k = 0 then mkR f r else (k, f k) :: mkR f r
theorem mkR_snoc (f : Pl → Int) (k : Pl) : ∀ ks : List Pl, mkR f (ks ++ [k]) = mkR f ks ++ (if f k = 0 then [] else [(k, f k)])
  | [] => by
    show (if f k = 0 then [] else [(k, f k)]) = [] ++ _
    rw [List.nil_append]
  | x :: r => by
    show (if f x = 0 then mkR f (r ++ [k]) else (x, f x) :: mkR f (r ++ [k])) = (if f x = 0 then mkR f r else (x, f x) :: mkR f r) ++ _
    rw [mkR_snoc f k r]
    by_cases h : f x = 0
    · rw [if_pos h, if_pos h]
    · rw [if_neg h, if_neg h]
      rfl
theorem mkR_mem {f : Pl → Int} {e : Ent} : ∀ {ks : List Pl}, e ∈ mkR f ks → e.1 ∈ ks ∧ e.2 = f e.1 ∧ e.2 ≠ 0
  | k :: r, h => by
    have h' : e ∈ (if f k = 0 then mkR f r else (k, f k) :: mkR f r) := h
    by_cases z : f k = 0
    · rw [if_pos z] at h'
      obtain ⟨h1, h2⟩ := mkR_mem h'
      exact ⟨List.mem_cons_of_mem _ h1, h2⟩
    · rw [if_neg z] at h'
      rcases List.mem_cons.mp h' with rfl | h'
      · exact ⟨List.mem_cons_self, rfl, z⟩
      · obtain ⟨h1, h2⟩ := mkR_mem h'
        exact ⟨List.mem_cons_of_mem _ h1, h2⟩
theorem mkR_valid {f : Pl → Int} : ∀ {ks : List Pl}, ks.Pairwise (fun a b => HT.lexLt a b = true) → Valid (mkR f ks)
  | [], _ => ⟨.nil, fun e h => by cases h⟩
  | k :: r, h => by
    obtain ⟨h1, h2⟩ := List.pairwise_cons.mp h
    have ih := mkR_valid (f := f) h2
    show Valid (if f k = 0 then mkR f r else (k, f k) :: mkR f r)
    by_cases z : f k = 0
    · rw [if_pos z]
      exact ih
    · rw [if_neg z]
      refine ⟨List.pairwise_cons.mpr ⟨fun e he => h1 _ (mkR_mem he).1, ih.asc⟩, fun e he => ?_⟩
      rcases List.mem_cons.mp he with rfl | he
      · exact z
      · exact ih.nz e he
theorem mkR_sum {f : Pl → Int} : ∀ {ks : List Pl}, ks.Nodup → ∀ q, numAt (mkR f ks) q = if q ∈ ks then f q else 0
  | [], _, q => rfl
  | k :: r, h, q => by
    obtain ⟨h1, h2⟩ := List.nodup_cons.mp h
    have ih := mkR_sum (f := f) h2 q
    show numAt (if f k = 0 then mkR f r else (k, f k) :: mkR f r) q = _
    have key : numAt (if f k = 0 then mkR f r else (k, f k) :: mkR f r) q = (if k = q then f k else 0) + numAt (mkR f r) q := by
      by_cases z : f k = 0
      · rw [if_pos z, z, ite_self]
        omega
      · rw [if_neg z]
        rfl
    rw [key, ih]
    by_cases e : k = q
    · subst e
      rw [if_pos rfl, if_neg h1, if_pos List.mem_cons_self]
      omega
    · rw [if_neg e]
      by_cases m : q ∈ r
      · rw [if_pos m, if_pos (List.mem_cons_of_mem _ m)]
        omega
      · rw [if_neg m, if_neg]
        · rfl
        · intro hq
          rcases List.mem_cons.mp hq with rfl | hq
          · exact e rfl
          · exact m hq
/-- a dict of sums: its keys are ks, at k it holds f k -/
structure Sums (kvs : List (List Key × V)) (ks : List Pl) (f : Pl → Int) : Prop where
  keys : kvs.map (·.1) = ks.map fun k => k.map Sum.inl
  val : ∀ k : Pl, valV kvs (k.map Sum.inl) = if k ∈ ks then some (V.int (f k)) else none
  out : ∀ k, k ∉ ks → f k = 0
theorem Sums.nil : Sums [] [] (fun _ => 0) := ⟨rfl, fun k => rfl, fun _ _ => rfl⟩
theorem Sums.len {kvs : List (List Key × V)} {ks : List Pl} {f : Pl → Int} (h : Sums kvs ks f) : kvs.length = ks.length := by
  have := congrArg List.length h.keys
  rwa [List.length_map, List.length_map] at this
theorem putK_keys {κ : Type} [DecidableEq κ] {kvs : List (κ × V)} {k : κ} {v : V} (h : (valV kvs k).isSome = true) : (putK kvs k v).map (·.1) = kvs.map (·.1) := by
  unfold putK
  rw [valV_any, if_pos h, List.map_map]
  refine List.map_congr_left fun x _ => ?_
  show (if x.1 = k then (x.1, v) else x).1 = x.1
  by_cases e : x.1 = k
  · rw [if_pos e]
  · rw [if_neg e]
theorem Sums.put {kvs : List (List Key × V)} {ks : List Pl} {f : Pl → Int} (h : Sums kvs ks f) (k : Pl) (n : Int) :
    Sums (putK kvs (k.map Sum.inl) (.int (f k + n))) (if k ∈ ks then ks else ks ++ [k]) (fun q => f q + if k = q then n else 0) := by
  have hv := h.val k
  refine ⟨?_, fun q => ?_, fun q hq => ?_⟩
  · by_cases m : k ∈ ks
    · rw [if_pos m] at hv ⊢
      rw [putK_keys (by rw [hv]; rfl), h.keys]
    · rw [if_neg m] at hv ⊢
      rw [putK_new _ hv, List.map_append, List.map_append, h.keys]
      rfl
  · rw [valV_put, h.val]
    by_cases e : q = k
    · subst e
      rw [if_pos rfl, if_pos rfl, if_pos]
      by_cases m : q ∈ ks
      · rw [if_pos m]
        exact m
      · rw [if_neg m]
        exact List.mem_append_right _ List.mem_cons_self
    · have ne1 : ¬ (q.map (Sum.inl : Int → Key) = k.map Sum.inl) := fun z => e (inl_inj z)
      have ne2 : ¬ (k = q) := fun z => e z.symm
      rw [if_neg ne1, if_neg ne2]
      have mm : (q ∈ if k ∈ ks then ks else ks ++ [k]) ↔ q ∈ ks := by
        by_cases m : k ∈ ks
        · rw [if_pos m]
        · rw [if_neg m, List.mem_append, List.mem_singleton]
          exact ⟨fun z => z.elim id fun z => absurd z e, .inl⟩
      by_cases m : q ∈ ks
      · rw [if_pos m, if_pos (mm.mpr m), Int.add_zero]
      · rw [if_neg m, if_neg (fun z => m (mm.mp z))]
  · have hq2 : q ∉ ks ∧ k ≠ q := by
      by_cases m : k ∈ ks
      · rw [if_pos m] at hq
        exact ⟨hq, fun z => hq (z ▸ m)⟩
      · rw [if_neg m] at hq
        exact ⟨fun z => hq (List.mem_append_left _ z), fun z => hq (List.mem_append_right _ (z ▸ List.mem_cons_self))⟩
    show f q + (if k = q then n else 0) = 0
    rw [if_neg hq2.2, h.out q hq2.1]
    rfl
theorem Sums.next {kvs : List (List Key × V)} {ks : List Pl} {es : List Ent} {i : Nat} {e : Ent} (hi : es[i]? = some e) (h : Sums kvs ks (numAt (es.take i))) :
    Sums (putK kvs (e.1.map Sum.inl) (.int (numAt (es.take i) e.1 + e.2))) (if e.1 ∈ ks then ks else ks ++ [e.1]) (numAt (es.take (i + 1))) := by
  have he : es.take (i + 1) = es.take i ++ [e] := by
    obtain ⟨h1, h2⟩ := List.getElem?_eq_some_iff.mp hi
    rw [List.take_add_one, hi]
    rfl
  have hf : numAt (es.take (i + 1)) = fun q => numAt (es.take i) q + if e.1 = q then e.2 else 0 := by
    funext q
    rw [he, numAt_app]
    show _ + ((if e.1 = q then e.2 else 0) + 0) = _
    omega
  rw [hf]
  exact h.put e.1 e.2
theorem Sums.get {kvs : List (List Key × V)} {ks : List Pl} {f : Pl → Int} (h : Sums kvs ks f) {k : Pl} (m : k ∈ ks) : valV kvs (k.map Sum.inl) = some (.int (f k)) := by
  rw [h.val, if_pos m]
theorem Sums.getD {kvs : List (List Key × V)} {ks : List Pl} {f : Pl → Int} (h : Sums kvs ks f) (k : Pl) : (valV kvs (k.map Sum.inl)).getD (.int 0) = .int (f k) := by
  rw [h.val]
  by_cases m : k ∈ ks
  · rw [if_pos m]
    rfl
  · rw [if_neg m, h.out k m]
    rfl
/-- sorted keys' entries are the row -/
theorem row_sorted {es : List Ent} {ks out : List Pl} (perm : out.Perm ks) (pw : out.Pairwise fun a b => HT.lexLt b a = false) (nod : ks.Nodup) (all : ∀ q, q ∉ ks → numAt es q = 0) : RowIs (mkR (numAt es) out) es := by
  have no : out.Nodup := perm.nodup_iff.mpr nod
  have asc : out.Pairwise fun a b => HT.lexLt a b = true := by
    have both := List.pairwise_and_iff.mpr ⟨pw, no⟩
    refine both.imp fun {a b} h => ?_
    cases z : HT.lexLt a b with
    | true => rfl
    | false => exact absurd (lt_tot z h.1) h.2
  refine ⟨mkR_valid asc, fun q => ?_⟩
  rw [mkR_sum no]
  by_cases m : q ∈ out
  · rw [if_pos m]
  · rw [if_neg m, all q fun z => m (perm.mem_iff.mpr z)]
/-! ### rows in the heap -/
def EntAt (H : Hp) (v : V) (e : Ent) : Prop := ∃ t p, v = .ref t ∧ H t = some (.tup [.ref p, .int e.2]) ∧ H p = some (.tup (e.1.map V.int))
inductive Ents (H : Hp) : List V → List Ent → Prop
  | nil : Ents H [] []
  | cons {v : V} {e : Ent} {vs : List V} {es : List Ent} : EntAt H v e → Ents H vs es → Ents H (v :: vs) (e :: es)
theorem Ents.len {H : Hp} {vs : List V} {es : List Ent} (h : Ents H vs es) : vs.length = es.length := by
  induction h with
  | nil => rfl
  | cons _ _ ih => rw [List.length_cons, List.length_cons, ih]
theorem EntAt.mono {H H' : Hp} {v : V} {e : Ent} (s : ∀ b o, H b = some o → H' b = some o) (h : EntAt H v e) : EntAt H' v e := by
  obtain ⟨t, p, rfl, h1, h2⟩ := h
  exact ⟨t, p, rfl, s _ _ h1, s _ _ h2⟩
theorem Ents.mono {H H' : Hp} {vs : List V} {es : List Ent} (s : ∀ b o, H b = some o → H' b = some o) (h : Ents H vs es) : Ents H' vs es := by
  induction h with
  | nil => exact .nil
  | cons h1 _ ih => exact .cons (h1.mono s) ih
theorem Ents.app {H : Hp} {vs ws : List V} {es fs : List Ent} (h : Ents H vs es) (g : Ents H ws fs) : Ents H (vs ++ ws) (es ++ fs) := by
  induction h with
  | nil => exact g
  | cons h1 _ ih => exact .cons h1 ih
theorem Ents.get {H : Hp} {vs : List V} {es : List Ent} (h : Ents H vs es) : ∀ {i : Nat} {v : V}, vs[i]? = some v → ∃ e, es[i]? = some e ∧ EntAt H v e := by
  induction h with
  | nil => intro i v h; simp at h
  | cons h1 _ ih =>
    intro i v hv
    cases i with
    | zero =>
      cases hv
      exact ⟨_, rfl, h1⟩
    | succ i => exact ih (i := i) hv
theorem Ents.at {H : Hp} {vs : List V} {es : List Ent} (h : Ents H vs es) {i : Nat} (hi : i < es.length) : ∃ v, vs[i]? = some v ∧ EntAt H v es[i] := by
  have h2 : i < vs.length := by rw [h.len]; exact hi
  obtain ⟨e, h3, h4⟩ := h.get (List.getElem?_eq_getElem h2)
  rw [List.getElem?_eq_getElem hi] at h3
  cases h3
  exact ⟨_, List.getElem?_eq_getElem h2, h4⟩
theorem Ents.set {H : Hp} {vs : List V} {es : List Ent} {v : V} {e : Ent} (h : Ents H vs es) (h1 : EntAt H v e) : ∀ i, Ents H (vs.set i v) (es.set i e) := by
  induction h with
  | nil => intro i; exact .nil
  | cons a b ih =>
    intro i
    cases i with
    | zero => exact .cons h1 b
    | succ i => exact .cons a (ih i)
/-- as data -/
def dPl (k : Pl) : PyData := .tuple (k.map .int)
def dEnt (e : Ent) : PyData := .tuple [dPl e.1, .int e.2]
def dRow (es : List Ent) : PyData := .list (es.map dEnt)
theorem dp_ints {K : PySem.W.Frag} {H : Hp} : ∀ k : Pl, DpAll K H (k.map V.int) (k.map PyData.int)
  | [] => .nil
  | n :: r => .cons (.int n) (dp_ints r)
theorem EntAt.dp {K : PySem.W.Frag} {H : Hp} {v : V} {e : Ent} (h : EntAt H v e) : Dp K H v (dEnt e) := by
  obtain ⟨t, p, rfl, h1, h2⟩ := h
  exact .tup (.inl (.inl h1)) (.cons (.tup (.inl (.inl h2)) (dp_ints _)) (.cons (.int _) .nil))
theorem Ents.dpAll {K : PySem.W.Frag} {H : Hp} {vs : List V} {es : List Ent} (h : Ents H vs es) : DpAll K H vs (es.map dEnt) := by
  induction h with
  | nil => exact .nil
  | cons h1 _ ih => exact .cons h1.dp ih
theorem Ents.dp {K : PySem.W.Frag} {H : Hp} {a : Addr} {vs : List V} {es : List Ent} (ha : SqL K H a vs) (h : Ents H vs es) : Dp K H (.ref a) (dRow es) := .lst ha h.dpAll
theorem lay_ints : ∀ k : Pl, PyData.canLayAll0 (k.map PyData.int) = true
  | [] => rfl
  | n :: r => by
    show (PyData.canLay0 (.int n) && PyData.canLayAll0 (r.map PyData.int)) = true
    rw [lay_ints r]
    rfl
theorem lay_row : ∀ es : List Ent, PyData.canLayAll0 (es.map dEnt) = true
  | [] => rfl
  | e :: r => by
    show (PyData.canLay0 (dEnt e) && PyData.canLayAll0 (r.map dEnt)) = true
    rw [lay_row r]
    show ((PyData.canLayAll0 (e.1.map PyData.int) && (PyData.canLay0 (.int e.2) && true)) && true) = true
    rw [lay_ints]
    rfl
end OT

set_option Elab.async false
set_option linter.all false
set_option maxRecDepth 100000
set_option maxHeartbeats 4000000
/-! raise C(), an own class whose __init__ takes no argument but the error itself -/
namespace L2
open PySem PySem.Spec PyProof.Rows PySem.W PySem.Calls PySem.HandSPX
section
variable {X : Cx} {p pos : Pos} {pins : List (Addr × Obj)} {σ : St} {H : Hp} {st : Shared}
/-- the heap with the bare error and its empty arguments behind the old objects -/
def bareHeap (C : Addr) (h : Heap) : Heap := (h.push (kdv_tup [])).push (excO C h.objs.size)
theorem bare_grows {C : Addr} {h : Heap} (b : Addr) (o : Obj) (e : h.get? b = some o) : (bareHeap C h).get? b = some o := Heap.get?_push_of_some _ (Heap.get?_push_of_some _ e)
theorem bare_there {C : Addr} {h : Heap} : (bareHeap C h).get? (h.objs.size + 1) = some (excO C h.objs.size) := by
  show ((h.push (kdv_tup [])).push (excO C h.objs.size)).get? (h.objs.size + 1) = _
  heap_get
theorem bare_inv {C : Addr} (I : Inv X pins σ H st) : H (st.heap.objs.size + 1) = none ∧ Inv X pins σ (upd H (st.heap.objs.size + 1) (exo (st.heap.objs.size + 1) C none)) ⟨bareHeap C st.heap, st.gens, st.drawn, st.toks, st.os⟩ :=
  ⟨I.hok.fresh (Nat.le_succ _), I.laid (t' := st.toks) (a := st.heap.objs.size + 1) (h' := bareHeap C st.heap) (o := exo (st.heap.objs.size + 1) C none) bare_grows (Nat.le_succ _) (exo_ok bare_there)⟩
theorem pmk_oex0 {CX : CXT} {x : Str} {C fI : Addr} {k : Nat} {fd : FuncData} {ps : List Str} {sp : Sp} (T : OexC X.K C) (iC : findIn X.K (.ref C) "__init__" = some (some (.ref fI))) (tI : typeIn X.K (.ref fI) = some (.type "function"))
    (G : FnOk X.prog X.w X.K X.mg X.base CX k fI fd ps sp) (hr : Room (k + 1) X.A) (bi : Binds X.K fd ps []) (no : Passes CX X fun _ _ _ => False) (hg : Gl X x) (hm : X.mg x = some (.ref C)) (nd : (x == ("__debug__" : Str)) = false := by decide) :
    PMk X (.Call (.Name x p) [] [] pos) (tMkO C sp [] tNil) := by
  intro pins σ0 σ H Q I want
  rcases σ0 with ⟨h, gs, dw, ts, os⟩
  obtain ⟨_, _, _, _, bm, _, _, _, _, _, _, _, _, _, _, stands, vb⟩ := T.cls
  obtain ⟨_, ask⟩ := want
  obtain ⟨free, J⟩ := bare_inv (C := C) I
  have promise := ask (h.objs.size + 1) free
  have one : ([Value.ref (h.objs.size + 1)] : List Value).length = ps.length := (G.len _ _ _ _ promise).symm ▸ rfl
  have body := G.run (X.A.under (.builtin "type.__call__" ⟨[.ref C], []⟩)) X.stack _ _ ⟨[.ref (h.objs.size + 1)], []⟩ [.ref (h.objs.size + 1)] _ _ (fun _ _ _ => False) (hr.make C [] []) (J.env0.make C [] []) (bi _ [.ref (h.objs.size + 1)] J.kIn one) (show Vals [V.ref (h.objs.size + 1)] [Value.ref (h.objs.size + 1)] from .cons rfl .nil) promise
  refine wpAny_Call_Name_kw (ld_glob I hg hm (callWith_K0 I.kIn T.kC ?_) nd)
  refine wpAny_call (call_own (rest := []) F.excBase_ValueError (fun Y => refsVE_contains Y bm vb) (I.kIn _ _ stands) (looks_findIn I.kIn iC) (fun me => bind_fn I.kIn me tI) (Nat.zero_le _) (codeAny_mono body ?_))
  rintro (er | fl) s2 end_
  · exact no pins σ _ _ er s2 J end_
  · cases fl with
    | ret u =>
      rcases s2 with ⟨h2, gs2, dw2, ts2, os2⟩
      obtain ⟨_, H2, same, bare, un, ok2, rel, rfl, d, fs, at_a, at_d, new, q⟩ := end_
      exact ⟨rel, mk_end (raises_own T.exC T.tyC) I (Nat.le_succ _) bare_grows un ok2 same bare at_a at_d new q⟩
    | next => cases end_
    | brk => cases end_
    | cont => cases end_
end
end L2

set_option Elab.async false
set_option linter.all false
set_option maxRecDepth 100000
set_option maxHeartbeats 2000000
namespace OT
open PySem PySem.Spec PyProof.Rows L2
def topS (i : Nat) : Stmt := PySem.Challenge.pw_owntables_k01_make_row.main.body.getD i (.Pass ⟨0, 0, 0, 0⟩)
abbrev s_TableError___init__ : Stmt := inClass (topS 1) 0
theorem sc_TableError___init__ : FnScope ["self"] ["self"] (C8.fnScope s_TableError___init__) := C8.fnScope_by (by decide +kernel)
abbrev s_IndexedError___init__ : Stmt := inClass (topS 2) 0
theorem sc_IndexedError___init__ : FnScope ["self", "index"] ["self", "index"] (C8.fnScope s_IndexedError___init__) := C8.fnScope_by (by decide +kernel)
abbrev s_OneDirectionOnly___init__ : Stmt := inClass (topS 4) 0
theorem sc_OneDirectionOnly___init__ : FnScope ["self", "dimension"] ["self", "dimension"] (C8.fnScope s_OneDirectionOnly___init__) := C8.fnScope_by (by decide +kernel)
abbrev s_same_lengths : Stmt := topS 8
theorem sc_same_lengths : FnScope ["lengths", "known", "length"] ["lengths"] (C8.fnScope s_same_lengths) := C8.fnScope_by (by decide +kernel)
abbrev s_row_of : Stmt := topS 10
theorem sc_row_of : FnScope ["numbers", "place"] ["numbers"] (C8.fnScope s_row_of) := C8.fnScope_by (by decide +kernel)
abbrev s_gather : Stmt := topS 11
theorem sc_gather : FnScope ["entries", "numbers", "place", "number"] ["entries"] (C8.fnScope s_gather) := C8.fnScope_by (by decide +kernel)
abbrev s_make_row : Stmt := topS 12
theorem sc_make_row : FnScope ["entries", "index", "place", "number"] ["entries"] (C8.fnScope s_make_row) := C8.fnScope_by (by decide +kernel)
abbrev s__law_cell : Stmt := topS 14
theorem sc__law_cell : FnScope ["_law_script", "_law_k"] ["_law_script", "_law_k"] (C8.fnScope s__law_cell) := C8.fnScope_by (by decide +kernel)
abbrev s__law_draws : Stmt := topS 15
theorem sc__law_draws : FnScope ["_law_cell_here", "_law_sizes", "_law_draws_here", "_law_rest", "_law_k", "_law_mixed"] ["_law_cell_here", "_law_sizes"] (C8.fnScope s__law_draws) := C8.fnScope_by (by decide +kernel)
abbrev s__law_is_integer : Stmt := topS 16
theorem sc__law_is_integer : FnScope ["_law_actual"] ["_law_actual"] (C8.fnScope s__law_is_integer) := C8.fnScope_by (by decide +kernel)
abbrev s__law_is_place : Stmt := topS 17
theorem sc__law_is_place : FnScope ["_law_actual", "_law_x"] ["_law_actual"] (C8.fnScope s__law_is_place) := C8.fnScope_by (by decide +kernel)
abbrev s__law_is_row : Stmt := topS 18
theorem sc__law_is_row : FnScope ["_law_actual", "_law_k", "_law_entry"] ["_law_actual"] (C8.fnScope s__law_is_row) := C8.fnScope_by (by decide +kernel)
abbrev s__law_same : Stmt := topS 19
theorem sc__law_same : FnScope ["_law_actual", "_law_expected"] ["_law_actual", "_law_expected"] (C8.fnScope s__law_same) := C8.fnScope_by (by decide +kernel)
abbrev s__law_back : Stmt := topS 20
theorem sc__law_back : FnScope ["_law_place", "_law_x"] ["_law_place"] (C8.fnScope s__law_back) := C8.fnScope_by (by decide +kernel)
abbrev s__law_row : Stmt := topS 21
theorem sc__law_row : FnScope ["_law_pairs_here", "_law_sums", "_law_place", "_law_number"] ["_law_pairs_here"] (C8.fnScope s__law_row) := C8.fnScope_by (by decide +kernel)
abbrev s__law_is_error : Stmt := topS 22
theorem sc__law_is_error : FnScope ["_law_e", "_law_word"] ["_law_e", "_law_word"] (C8.fnScope s__law_is_error) := C8.fnScope_by (by decide +kernel)
abbrev s__law_pair : Stmt := topS 23
theorem sc__law_pair : FnScope ["_law_draws_here", "_law_size", "_law_pairs_here", "_law_place", "_law_number", "_law_earlier"] ["_law_draws_here", "_law_size", "_law_pairs_here"] (C8.fnScope s__law_pair) := C8.fnScope_by (by decide +kernel)
abbrev s__law_pairs : Stmt := topS 24
theorem sc__law_pairs : FnScope ["_law_script", "_law_size", "_law_count", "_law_pairs_here", "_law_k", "_law_draws_here"] ["_law_script", "_law_size", "_law_count"] (C8.fnScope s__law_pairs) := C8.fnScope_by (by decide +kernel)
abbrev s__law_spoilt : Stmt := topS 25
theorem sc__law_spoilt : FnScope ["_law_pairs_here", "_law_size", "_law_draws_here", "_law_spoilt_here", "_law_mode", "_law_first", "_law_second", "_law_bad", "_law_other", "_law_k"] ["_law_pairs_here", "_law_size", "_law_draws_here"] (C8.fnScope s__law_spoilt) := C8.fnScope_by (by decide +kernel)
abbrev s__law_due : Stmt := topS 26
theorem sc__law_due : FnScope ["_law_pairs_here", "_law_k"] ["_law_pairs_here"] (C8.fnScope s__law_due) := C8.fnScope_by (by decide +kernel)
abbrev s__law_refused : Stmt := topS 27
theorem sc__law_refused : FnScope ["_law_e", "_law_due_here"] ["_law_e", "_law_due_here"] (C8.fnScope s__law_refused) := C8.fnScope_by (by decide +kernel)
abbrev s__law_asked : Stmt := topS 28
theorem sc__law_asked : FnScope ["_law_pairs_here", "_law_due_here", "_law_handed", "_law_e", "_law_actual"] ["_law_pairs_here", "_law_due_here"] (C8.fnScope s__law_asked) := C8.fnScope_by (by decide +kernel)
abbrev s_law : Stmt := topS 29
theorem sc_law : FnScope ["_law_script", "_law_draws_here", "_law_size", "_law_pairs_here", "_law_spoilt_here", "_law_turn", "_law_pair_here"] ["_law_script"] (C8.fnScope s_law) := C8.fnScope_by (by decide +kernel)
theorem iteD {c A B : Prop} [Decidable c] (h1 : c → A) (h2 : ¬ c → B) : if decide c = true then A else B := by
  by_cases h : c
  · rw [decide_eq_true h]
    exact iteT (h1 h)
  · rw [decide_eq_false h]
    exact iteF (h2 h)
theorem iteND {c A B : Prop} [Decidable c] (h1 : ¬ c → A) (h2 : c → B) : if (!decide c) = true then A else B := by
  by_cases h : c
  · rw [decide_eq_true h]
    exact iteF (h2 h)
  · rw [decide_eq_false h]
    exact iteT (h1 h)
theorem iteB {c : Bool} {A B : Prop} (h1 : c = true → A) (h2 : c = false → B) : if c = true then A else B := by
  cases c with
  | true => exact iteT (h1 rfl)
  | false => exact iteF (h2 rfl)
theorem atI_int {ns : List Int} {k : Int} (h0 : 0 ≤ k) (h1 : k < (ns.length : Int)) : ∃ c, atI (ns.map V.int) k = some (.int c) ∧ ns[k.toNat]? = some c := by
  obtain ⟨j, rfl⟩ := Int.eq_ofNat_of_zero_le h0
  have hj : j < ns.length := by omega
  refine ⟨ns[j], atI_nat ?_, ?_⟩
  · rw [List.getElem?_map, List.getElem?_eq_getElem hj]
    rfl
  · rw [Int.toNat_natCast, List.getElem?_eq_getElem hj]
theorem same_upd {H : Hp} {p : Addr} {o : HO} (h : H p = none) : Same H (upd H p o) := fun b x e => by
  rw [upd_ne (ne_of_none e h)]
  exact e
theorem same_mut {H H' : Hp} {p : Addr} {o : HO} (e : Same H H') (h : H p = none) : Same H (upd H' p o) := fun b x z => by
  rw [upd_ne (ne_of_none z h)]
  exact e b x z
theorem same_t {K : PySem.W.Frag} {H H' : Hp} {a : Addr} {xs : List V} (e : Same H H') (h : SqT K H a xs) : SqT K H' a xs := by
  rcases h with (h | ⟨o, h⟩) | h
  · exact .inl (.inl (e _ _ h))
  · exact .inl (.inr ⟨o, e _ _ h⟩)
  · exact .inr h
/-- the module's names that stay the built-in ones -/
structure Bi (mg : Str → Option Value) : Prop where
  n_len : mg "len" = none
  n_int : mg "int" = none
  n_str : mg "str" = none
  n_bool : mg "bool" = none
  n_list : mg "list" = none
  n_tuple : mg "tuple" = none
  n_range : mg "range" = none
  n_enumerate : mg "enumerate" = none
  n_isinstance : mg "isinstance" = none
  n_sorted : mg "sorted" = none
  n_any : mg "any" = none
section
variable {P : Program} {w : World} {K : PySem.W.Frag} {mg : Str → Option Value} {base : Heap}
/-! ### a cell of the script -/
def spCell (K : PySem.W.Frag) : Sp := fun vs H Q _ => ∃ (a : Addr) (ns : List Int) (k : Int), vs = [.ref a, .int k] ∧ SqL K H a (ns.map V.int) ∧ 0 ≤ k ∧ ∀ c : Int, Q (.int c) H
theorem c__law_cell {f : Addr} {fd : FuncData} (D : C8.Def K mg "_law_cell" s__law_cell f fd) (b : Binds K fd ["_law_script", "_law_k"] []) (T : Bi mg) : C8.Cal P w K mg base 1 "_law_cell" (spCell K) [] := by
  refine C8.cal0 D b .nil sc__law_cell (fun vs H Q E h => ?_) (fun cdv A outer s H vs Q E hr h => ?_)
  · obtain ⟨a, ns, k, rfl, _⟩ := h
    rfl
  · obtain ⟨a, ns, k, rfl, hS, hk, q⟩ := h
    refine ⟨_, (pss_cons (ps_if (pt_cmpR op_lt (pv 1) (pe_callB call_len_seq (by rfl) T.n_len OT.b_len (pa_cons (pv 0) pa_nil)) (nomark _)) (pss_one (ps_ret (pe_ix ix_list (pv 0) (pv 1) (fun _ _ => rfl)))) pss_nil)
  (pss_cons (ps_if (pt_cmpR op_eq (pe_callB call_len_seq (by rfl) T.n_len OT.b_len (pa_cons (pv 0) pa_nil)) pe_int (nomark _)) (pss_one (ps_ret (pe_op op_add (pe_op op_mul pe_int (pv 1)) pe_int))) pss_nil)
  (pss_one (ps_ret (pe_op op_mod (pe_callTy call_int1 (by rfl) T.n_int OT.b_int (pa_cons (pe_op op_add (pe_op op_add (pe_op op_mul (pe_ix ix_list (pv 0) (pe_op op_mod (pe_callTy call_int1 (by rfl) T.n_int OT.b_int (pa_cons (pv 1) pa_nil)) (pe_callB call_len_seq (by rfl) T.n_len OT.b_len (pa_cons (pv 0) pa_nil))) (fun _ _ => rfl)) pe_int) (pe_op op_mul pe_int (pv 1))) pe_int) pa_nil)) pe_int))))), ?_⟩
    refine ⟨_, rfl, _, rfl, a, _, rfl, .inl hS, _, _, rfl, rfl, _, rfl, ?_⟩
    refine iteD (fun h1 => ?_) (fun h1 => ?_)
    · rw [List.length_map] at h1
      obtain ⟨c, hc, _⟩ := atI_int hk h1
      exact ⟨_, rfl, _, rfl, a, _, _, _, rfl, rfl, hS, hc, q c⟩
    · refine ⟨_, rfl, a, _, rfl, .inl hS, rfl, _, rfl, ?_⟩
      refine iteD (fun h2 => ?_) (fun h2 => ?_)
      · exact ⟨_, rfl, _, _, rfl, rfl, .inl ⟨by decide, by decide⟩, _, _, rfl, rfl, q _⟩
      · have hp : 0 < ns.length := by
          have h3 : ¬ (V.int ((ns.map V.int).length : Int) = V.int 0) := h2
          rw [List.length_map] at h3
          cases ns with
          | nil => exact absurd rfl h3
          | cons x r => exact Nat.succ_pos _
        have hm : 0 ≤ k % (ns.length : Int) := Int.emod_nonneg _ (by omega)
        have hm2 : k % (ns.length : Int) < ns.length := Int.emod_lt_of_pos _ (by omega)
        obtain ⟨c, hc, _⟩ := atI_int hm hm2
        refine ⟨_, rfl, _, rfl, .inl ⟨k, rfl, _, rfl, a, _, rfl, .inl hS, k, _, rfl, rfl, ?_, a, _, _, _, rfl, rfl, hS, ?_, c, _, rfl, rfl, .inr ⟨by decide, by decide⟩, _, rfl, _, _, rfl, rfl, .inl ⟨by decide, by decide⟩, _, _, rfl, rfl, _, _, rfl, rfl, .inl ⟨_, rfl, _, _, rfl, rfl, by show (0 : Int) < 2147483647; decide, q _⟩⟩⟩
        · rw [List.length_map]
          show (0 : Int) < (ns.length : Int)
          omega
        · rw [List.length_map]
          exact hc
/-! ### draws -/
theorem cmul_m1 (x y : Int) : CMul (x % 2147483647) y := by
  refine .inl ?_
  have h1 := Int.emod_nonneg x (show (2147483647 : Int) ≠ 0 by decide)
  have h2 := Int.emod_lt_of_pos x (show (0 : Int) < 2147483647 by decide)
  have h3 : (2 : Int) ^ 64 = 18446744073709551616 := by decide
  omega
theorem cmul_m2 (x y : Int) : CMul (x % 2147483629) y := by
  refine .inl ?_
  have h1 := Int.emod_nonneg x (show (2147483629 : Int) ≠ 0 by decide)
  have h2 := Int.emod_lt_of_pos x (show (0 : Int) < 2147483629 by decide)
  have h3 : (2 : Int) ^ 64 = 18446744073709551616 := by decide
  omega

def InR (ds zs : List Int) : Prop := ds.length = zs.length ∧ ∀ (i : Nat) (d z : Int), ds[i]? = some d → zs[i]? = some z → 0 ≤ d ∧ d < z
def spDraws (K : PySem.W.Frag) : Sp := fun vs H Q _ => ∃ (a : Addr) (zs : List Int) (c : Int), vs = [.int c, .ref a] ∧ SqL K H a (zs.map V.int) ∧ zs.length ≤ 1000 ∧ (∀ z ∈ zs, 0 < z ∧ z < 1073741824) ∧
  ∀ (ds : List Int) H' p, InR ds zs → Same H H' → H p = none → H' p = some (.lst (ds.map V.int)) → Q (.ref p) H'
theorem c__law_draws {f : Addr} {fd : FuncData} (D : C8.Def K mg "_law_draws" s__law_draws f fd) (b : Binds K fd ["_law_cell_here", "_law_sizes"] []) (T : Bi mg) : C8.Cal P w K mg base 1 "_law_draws" (spDraws K) [] := by
  refine C8.cal0 D b .nil sc__law_draws (fun vs H Q E h => ?_) (fun cdv A outer s H vs Q E hr h => ?_)
  · obtain ⟨a, zs, c, rfl, _⟩ := h
    rfl
  · obtain ⟨a, zs, c, rfl, hS, hl, hz, q⟩ := h
    refine ⟨_, (pss_cons (ps_set (i := 2) sc__law_draws.nd rfl (Or.inl rfl) (pe_lst pa_nil))
  (pss_cons (ps_set (i := 3) sc__law_draws.nd rfl (Or.inl rfl) (pe_op op_sub (pv 0) (pe_op op_pow pe_int pe_int)))
  (pss_cons (ps_for PassesOwn.never rfl (pi_range1 rfl T.n_range (pa_cons (pe_callB call_len_seq (by rfl) T.n_len OT.b_len (pa_cons (pv 1) pa_nil)) pa_nil)) (pg_name (i := 4) sc__law_draws.nd rfl (Or.inl rfl)) (pss_one (ps_if (pt_cmpR op_ge (pv 0) (pe_op op_pow pe_int pe_int) (nomark _)) (pss_cons (ps_expr (pe_bm PySem.F.plainAttrs_list PySem.F.slot_list_append PySem.F.type_list_append mt_append (pv 2) (pa_cons (pe_op op_mod (pe_callTy call_int1 (by rfl) T.n_int OT.b_int (pa_cons (pv 3) pa_nil)) (pe_ix ix_list (pv 1) (pv 4) (fun _ _ => rfl))) pa_nil)))
  (pss_one (ps_set (i := 3) sc__law_draws.nd rfl (Or.inl rfl) (pe_op op_fdiv (pv 3) (pe_ix ix_list (pv 1) (pv 4) (fun _ _ => rfl)))))) (pss_cons (ps_set (i := 5) sc__law_draws.nd rfl (Or.inl rfl) (pe_op op_mod (pe_callTy call_int1 (by rfl) T.n_int OT.b_int (pa_cons (pe_op op_add (pe_op op_add (pv 0) (pe_op op_mul pe_int (pv 4))) pe_int) pa_nil)) pe_int))
  (pss_cons (ps_set (i := 5) sc__law_draws.nd rfl (Or.inl rfl) (pe_op op_mod (pe_callTy call_int1 (by rfl) T.n_int OT.b_int (pa_cons (pe_op op_mul (pv 5) (pe_op op_add (pv 5) pe_int)) pa_nil)) pe_int))
  (pss_cons (ps_set (i := 5) sc__law_draws.nd rfl (Or.inl rfl) (pe_op op_mod (pe_callTy call_int1 (by rfl) T.n_int OT.b_int (pa_cons (pe_op op_add (pe_op op_mul (pv 5) (pe_op op_add (pv 5) pe_int)) (pe_op op_mul pe_int (pv 4))) pa_nil)) pe_int))
  (pss_one (ps_expr (pe_bm PySem.F.plainAttrs_list PySem.F.slot_list_append PySem.F.type_list_append mt_append (pv 2) (pa_cons (pe_op op_mod (pe_callTy call_int1 (by rfl) T.n_int OT.b_int (pa_cons (pe_op op_fdiv (pv 5) pe_int) pa_nil)) (pe_ix ix_list (pv 1) (pv 4) (fun _ _ => rfl))) pa_nil))))))))))
  (pss_one (ps_ret (pv 2)))))), ?_⟩
    refine ⟨Nat.zero_le _, fun p np => ?_⟩
    have s1 : Same H (upd H p (.lst [])) := same_upd np
    refine ⟨_, rfl, 10, 18, rfl, rfl, ?cp, _, _, rfl, rfl, ?_⟩
    case cp => exact ⟨by decide, by decide⟩
    refine ⟨_, rfl, a, _, rfl, .inl (s1.seq hS), _, rfl, ?_, ?_, ?_⟩
    · rw [List.length_map]
      omega
    · rw [List.length_map]
      have : (2 : Int) ^ 62 = 4611686018427387904 := by decide
      omega
    rw [List.length_map, Int.toNat_natCast]
    refine for_range (fun i σ H2 => ∃ (ds : List Int) (r : Int) (y4 y5 : Option V), σ = [some (.int c), some (.ref a), some (.ref p), some (.int r), y4, y5] ∧ Same H H2 ∧ H2 p = some (.lst (ds.map V.int)) ∧ InR ds (zs.take i)) ?_ ?_ ?_
    · exact ⟨[], _, none, none, rfl, s1, upd_same, rfl, fun i d z h => by simp at h⟩
    · rintro i σ H2 hi ⟨ds, r, y4, y5, rfl, sm, hp, hr2⟩
      have hzi : zs[i]? = some zs[i] := List.getElem?_eq_getElem hi
      obtain ⟨z1, z2⟩ := hz zs[i] (List.getElem_mem hi)
      have hix : atI (zs.map V.int) ((0 : Int) + (i : Int)) = some (.int zs[i]) := by
        rw [Int.zero_add]
        exact atI_nat (by rw [List.getElem?_map, hzi]; rfl)
      have hS2 := sm.seq hS
      have hlen : ds.length = i := by
        rw [hr2.1, List.length_take]
        omega
      have hlt : (ds.map V.int).length < sizeLine := by
        rw [List.length_map]
        exact small1000 (by omega)
      have more : ∀ x : Int, InR (ds ++ [x % zs[i]]) (zs.take (i + 1)) := fun x => by
        refine ⟨?_, fun j d z h1 h2 => ?_⟩
        · rw [List.length_append, List.length_take, hlen]
          simp
          omega
        · by_cases hj : j < i
          · rw [List.getElem?_append_left (by omega)] at h1
            rw [List.getElem?_take_of_lt (by omega)] at h2
            exact hr2.2 j d z h1 (by rw [List.getElem?_take_of_lt hj]; exact h2)
          · by_cases ej : j = i
            · subst ej
              rw [List.getElem?_append_right (by omega), hlen, Nat.sub_self] at h1
              rw [List.getElem?_take_of_lt (by omega), hzi] at h2
              have e1 : x % zs[j] = d := Option.some.inj h1
              have e2 : zs[j] = z := Option.some.inj h2
              rw [← e1, ← e2]
              exact ⟨Int.emod_nonneg _ (by omega), Int.emod_lt_of_pos _ z1⟩
            · rw [List.getElem?_eq_none (by rw [List.length_take]; omega)] at h2
              cases h2
      have fin : ∀ (x r' : Int) (y4 y5 : Option V), ∃ (ds2 : List Int) (r2 : Int) (z4 z5 : Option V), [some (.int c), some (.ref a), some (.ref p), some (.int r'), y4, y5] = [some (.int c), some (.ref a), some (.ref p), some (.int r2), z4, z5] ∧
          Same H (upd H2 p (.lst (ds.map V.int ++ [V.int (x % zs[i])]))) ∧ (upd H2 p (.lst (ds.map V.int ++ [V.int (x % zs[i])]))) p = some (.lst (ds2.map V.int)) ∧ InR ds2 (zs.take (i + 1)) := fun x r' y4 y5 => by
        refine ⟨ds ++ [x % zs[i]], r', y4, y5, rfl, same_mut sm np, ?_, more x⟩
        rw [upd_same, List.map_append]
        rfl
      refine ⟨_, rfl, 10, 18, rfl, rfl, ⟨by decide, by decide⟩, _, _, rfl, rfl, _, rfl, ?_⟩
      refine iteD (fun _ => ?_) (fun _ => ?_)
      · refine ⟨_, rfl, .inl ⟨rfl, _, .inl (.inl hp)⟩, _, rfl, .inl ⟨r, rfl, _, rfl, _, rfl, a, _, _, _, rfl, rfl, hS2, hix, _, _, rfl, rfl, z1, p, _, _, rfl, rfl, hp, hlt, ?_⟩⟩
        have sm3 : Same H (upd H2 p (.lst (ds.map V.int ++ [V.int (r % zs[i])]))) := same_mut sm np
        refine ⟨_, rfl, _, rfl, _, rfl, a, _, _, _, rfl, rfl, sm3.seq hS, hix, _, _, rfl, rfl, ⟨z1, z2⟩, ?_⟩
        exact fin _ _ _ _
      · refine ⟨_, rfl, _, rfl, _, _, rfl, rfl, .inl ⟨by decide, by decide⟩, _, _, rfl, rfl, _, _, rfl, rfl, .inl ⟨_, rfl, _, _, rfl, rfl, by show (0 : Int) < 2147483647; decide, ?_⟩⟩
        refine ⟨_, rfl, _, rfl, _, _, rfl, rfl, _, _, rfl, rfl, cmul_m1 _ _, .inl ⟨_, rfl, _, _, rfl, rfl, by show (0 : Int) < 2147483629; decide, ?_⟩⟩
        refine ⟨_, rfl, _, rfl, _, _, rfl, rfl, _, _, rfl, rfl, cmul_m2 _ _, _, rfl, _, _, rfl, rfl, .inl ⟨by decide, by decide⟩, _, _, rfl, rfl, .inl ⟨_, rfl, _, _, rfl, rfl, by show (0 : Int) < 2147483647; decide, ?_⟩⟩
        refine ⟨_, rfl, .inl ⟨rfl, _, .inl (.inl hp)⟩, _, rfl, _, _, rfl, rfl, ⟨by decide, by decide⟩, .inl ⟨_, rfl, _, rfl, _, rfl, a, _, _, _, rfl, rfl, hS2, hix, _, _, rfl, rfl, z1, p, _, _, rfl, rfl, hp, hlt, ?_⟩⟩
        exact fin _ _ _ _
    · rintro σ H2 ⟨ds, r, y4, y5, rfl, sm, hp, hr2⟩
      rw [List.take_length] at hr2
      exact ⟨_, rfl, q ds H2 p hr2 sm np hp⟩
end
end OT

set_option Elab.async false
set_option linter.all false
set_option maxRecDepth 100000
set_option maxHeartbeats 2000000
namespace OT
open PySem PySem.Spec PyProof.Rows L2
theorem take_map_succ {α β : Type} {l : List α} {i : Nat} (f : α → β) (h : i < l.length) : (l.take (i + 1)).map f = (l.take i).map f ++ [f l[i]] := by
  rw [List.take_add_one, List.getElem?_eq_getElem h, List.map_append]
  rfl
theorem getm {α β : Type} {l : List α} {i : Nat} {f : α → β} {x : β} (h : (l.map f)[i]? = some x) : ∃ hi : i < l.length, x = f l[i] := by
  rw [List.getElem?_map] at h
  cases e : l[i]? with
  | none =>
    rw [e] at h
    cases h
  | some z =>
    rw [e] at h
    obtain ⟨hi, hz⟩ := List.getElem?_eq_some_iff.mp e
    exact ⟨hi, by rw [hz]; exact (Option.some.inj h).symm⟩
theorem tYes_of {A B : Hp → Prop} {σ : L2.St} {H : Hp} (h : A H) : tYes σ H (fun b H3 => if b = true then A H3 else B H3) := by
  show (if true = true then A H else B H)
  rw [if_pos rfl]
  exact h
theorem drop_cons {α : Type} {l : List α} {i : Nat} (h : i < l.length) : l.drop i = l[i] :: l.drop (i + 1) := List.drop_eq_getElem_cons h
theorem kb_ii : kitB "int" "int" = some true := by decide +kernel
theorem kb_ib : kitB "int" "bool" = some false := by decide +kernel
theorem kb_tt : kitB "tuple" "tuple" = some true := by decide +kernel
theorem kb_ss : kitB "str" "str" = some true := by decide +kernel
theorem kb_ll : kitB "list" "list" = some true := by decide +kernel
theorem depth_ints : ∀ ns : List Int, PyData.depthAll (ns.map PyData.int) = 0
  | [] => by simp only [List.map_nil, PyData.depthAll]
  | n :: r => by simp only [List.map_cons, PyData.depthAll, PyData.depth, depth_ints r, Nat.max_self]
theorem depth_row : ∀ es : List Ent, PyData.depthAll (es.map dEnt) ≤ 3
  | [] => by simp only [List.map_nil, PyData.depthAll]; decide
  | e :: r => by
    have ih := depth_row r
    simp only [List.map_cons, PyData.depthAll, dEnt, dPl, PyData.depth, depth_ints] at ih ⊢
    omega
theorem shaped_row (es : List Ent) : SeqAt.shaped (dRow es) = true := by
  unfold SeqAt.shaped
  have h1 : (dRow es).canLay0 = true := lay_row es
  rw [h1, Bool.true_and]
  refine decide_eq_true ?_
  have := depth_row es
  simp only [dRow, PyData.depth]
  omega
section
variable {P : Program} {w : World} {K : PySem.W.Frag} {mg : Str → Option Value} {base : Heap}
def spIsInt : Sp := fun vs H Q _ => ∃ i : Int, vs = [.int i] ∧ Q (.bl true) H
theorem c__law_is_integer {f : Addr} {fd : FuncData} (D : C8.Def K mg "_law_is_integer" s__law_is_integer f fd) (b : Binds K fd ["_law_actual"] []) (T : Bi mg) : C8.Cal P w K mg base 1 "_law_is_integer" spIsInt [] := by
  refine C8.cal0 D b .nil sc__law_is_integer (fun vs H Q E h => ?_) (fun cdv A outer s H vs Q E hr h => ?_)
  · obtain ⟨i, rfl, _⟩ := h
    rfl
  · obtain ⟨i, rfl, q⟩ := h
    refine ⟨_, (pss_one (ps_ret (pe_and (pe_callB call_isi (by rfl) T.n_isinstance OT.b_isinstance (pa_cons (pv 0) (pa_cons (pe_bltn (v := .ty "int") (by rfl) T.n_int OT.b_int rfl) pa_nil))) (pe_one (pe_not (pe_callB call_isi (by rfl) T.n_isinstance OT.b_isinstance (pa_cons (pv 0) (pa_cons (pe_bltn (v := .ty "bool") (by rfl) T.n_bool OT.b_bool rfl) pa_nil)))))))), ?_⟩
    refine ⟨_, rfl, _, _, _, _, _, rfl, .ty _, .base (.int i), kit_ty kb_ii, _, rfl, ?_⟩
    refine iteT ?_
    exact ⟨_, rfl, _, _, _, _, _, rfl, .ty _, .base (.int i), kit_ty kb_ib, _, rfl, q⟩
def spIsPlace (K : PySem.W.Frag) : Sp := fun vs H Q _ => ∃ (a : Addr) (ns : List Int), vs = [.ref a] ∧ H a = some (.tup (ns.map V.int)) ∧ 1 ≤ ns.length ∧ ns.length ≤ 3 ∧ Q (.bl true) H
theorem c__law_is_place {f : Addr} {fd : FuncData} (D : C8.Def K mg "_law_is_place" s__law_is_place f fd) (b : Binds K fd ["_law_actual"] []) (T : Bi mg) (c__law_is_integer : C8.Cal P w K mg base 1 "_law_is_integer" spIsInt []) : C8.Cal P w K mg base 2 "_law_is_place" (spIsPlace K) [] := by
  refine C8.cal0 D b .nil sc__law_is_place (fun vs H Q E h => ?_) (fun cdv A outer s H vs Q E hr h => ?_)
  · obtain ⟨a, ns, rfl, _⟩ := h
    rfl
  · obtain ⟨a, ns, rfl, hS, h1, h3, q⟩ := h
    have hT : SqT K H a (ns.map V.int) := .inl (.inl hS)
    refine ⟨_, (pss_cons (ps_if (PW.pt (pw_or (pt_not (pt_val (pe_callB call_isi (by rfl) T.n_isinstance OT.b_isinstance (pa_cons (pv 0) (pa_cons (pe_bltn (v := .ty "tuple") (by rfl) T.n_tuple OT.b_tuple rfl) pa_nil))))) (pw_or (pt_cmpR op_lt (pe_callB call_len_seq (by rfl) T.n_len OT.b_len (pa_cons (pv 0) pa_nil)) pe_int (nomark _)) (pw_or1 (pt_cmpR op_gt (pe_callB call_len_seq (by rfl) T.n_len OT.b_len (pa_cons (pv 0) pa_nil)) pe_int (nomark _)))))) (pss_one (ps_ret pe_bl)) pss_nil)
  (pss_cons (ps_for PassesOwn.never rfl (pi_tup (pv 0)) (pg_name (i := 1) sc__law_is_place.nd rfl (Or.inl rfl)) (pss_one (ps_if (pt_not (pt_val (C8.pe_c c__law_is_integer hr (by decide) (by rfl) (pa_cons (pv 1) pa_nil)))) (pss_one (ps_ret pe_bl)) pss_nil)))
  (pss_one (ps_ret pe_bl)))), ?_⟩
    refine ⟨_, rfl, _, _, _, _, _, rfl, .ty _, .base (.tup hS), kit_ty kb_tt, _, rfl, ?_⟩
    refine iteF ?_
    refine ⟨_, rfl, a, _, rfl, .inr hT, _, _, rfl, rfl, _, rfl, iteD (fun z => ?_) (fun _ => ?_)⟩
    · rw [List.length_map] at z
      omega
    refine ⟨_, rfl, a, _, rfl, .inr hT, _, _, rfl, rfl, _, rfl, iteD (fun z => ?_) (fun _ => ?_)⟩
    · rw [List.length_map] at z
      omega
    refine ⟨_, rfl, a, rfl, ⟨_, hT⟩, ?_⟩
    refine for_tup (K := K) (xs := ns.map V.int) (fun i σ H2 => ∃ y, σ = [some (.ref a), y] ∧ H2 = H) ⟨none, rfl, rfl⟩ (fun i σ H2 _ ⟨_, _, e⟩ => by rw [e]; exact hT) ?_ ?_
    · rintro i x σ H2 hx ⟨y, rfl, rfl⟩
      obtain ⟨hi, rfl⟩ := getm hx
      exact ⟨_, rfl, _, rfl, _, rfl, iteF ⟨_, rfl, rfl⟩⟩
    · rintro σ H2 ⟨y, rfl, rfl⟩
      exact q
end
end OT

set_option Elab.async false
set_option linter.all false
set_option maxRecDepth 100000
set_option maxHeartbeats 2000000
namespace OT
open PySem PySem.Spec PyProof.Rows L2
theorem kV_ints (k : Pl) : (k.map (Sum.inl : Int → Key)).map kV = k.map V.int := by
  rw [List.map_map]
  rfl
theorem dgetT {H : Hp} {d b : Addr} {kvs : List (List Key × V)} {k : Pl} {o : Option V} (e : H d = some (.dT kvs)) (eb : H b = some (.tup (k.map V.int))) (h : valV kvs (k.map Sum.inl) = o) : DGet H d (.ref b) o := by
  rw [← h]
  exact DGet.t e (by rw [kV_ints]; exact eb)
theorem ne_lst {H : Hp} {a D : Addr} {xs l : List V} (h : H a = some (.tup xs)) (hD : H D = some (.lst l)) : a ≠ D := fun e => by
  rw [e, hD] at h
  cases h
theorem EntAt.updL {H : Hp} {D : Addr} {l l' : List V} {v : V} {e : Ent} (hD : H D = some (.lst l)) (h : EntAt H v e) : EntAt (upd H D (.lst l')) v e := by
  obtain ⟨t, p, rfl, h1, h2⟩ := h
  exact ⟨t, p, rfl, by rw [upd_ne (ne_lst h1 hD)]; exact h1, by rw [upd_ne (ne_lst h2 hD)]; exact h2⟩
theorem Ents.updL {H : Hp} {D : Addr} {l l' : List V} {vs : List V} {es : List Ent} (hD : H D = some (.lst l)) (h : Ents H vs es) : Ents (upd H D (.lst l')) vs es := by
  induction h with
  | nil => exact .nil
  | cons h1 _ ih => exact .cons (h1.updL hD) ih
theorem mkR_len (f : Pl → Int) : ∀ ks : List Pl, (mkR f ks).length ≤ ks.length
  | [] => Nat.le_refl _
  | k :: r => by
    have ih := mkR_len f r
    show (if f k = 0 then mkR f r else (k, f k) :: mkR f r).length ≤ r.length + 1
    by_cases h : f k = 0
    · rw [if_pos h]
      omega
    · rw [if_neg h, List.length_cons]
      omega
theorem none_of_upd {H : Hp} {p D : Addr} {o : HO} (h : upd H p o D = none) : H D = none ∧ p ≠ D := by
  have ne : p ≠ D := ne_of_none upd_same h
  exact ⟨by rw [upd_ne ne.symm] at h; exact h, ne⟩
section
variable {P : Program} {w : World} {K : PySem.W.Frag} {mg : Str → Option Value} {base : Heap}
def wantRow (H : Hp) (es : List Ent) (Q : VK) : Prop := ∀ (r : List Ent) (p : Addr) (ws : List V) (H' : Hp), RowIs r es → Same H H' → H p = none → H' p = some (.lst ws) → Ents H' ws r → Q (.ref p) H'
def spRowOf (K : PySem.W.Frag) : Sp := fun vs H Q _ => ∃ (d : Addr) (kvs : List (List Key × V)) (ks : List Pl) (es : List Ent), vs = [.ref d] ∧ H d = some (.dT kvs) ∧ Sums kvs ks (numAt es) ∧ (∀ k ∈ ks, k ≠ []) ∧ ks.length < sizeLine ∧ wantRow H es Q
theorem c_row_of {f : Addr} {fd : FuncData} (D : C8.Def K mg "row_of" s_row_of f fd) (b : Binds K fd ["numbers"] []) (T : Bi mg) : C8.Cal P w K mg base 1 "row_of" (spRowOf K) [] := by
  refine C8.cal0 D b .nil sc_row_of (fun vs H Q E h => ?_) (fun cdv A outer s H vs Q E hr h => ?_)
  · obtain ⟨d, kvs, ks, es, rfl, _⟩ := h
    rfl
  · obtain ⟨d, kvs, ks, es, rfl, hd, hs, hne, hz, q⟩ := h
    refine ⟨_, (pss_one (ps_ret (pe_lc (own := [("place", 1)]) (g := (gName 1)) rfl sc_row_of.nd (pi_list (pe_callB (cr_sortedDT rfl) (by rfl) T.n_sorted OT.b_sorted (pa_cons (pv 0) pa_nil))) (blkOk_by (N := ["numbers", "place"]) (sc := C8.fnScope s_row_of) (by decide +kernel)) (fun _ _ _ _ _ => (pg_name (i := 1) sc_row_of.nd rfl (Or.inl rfl))) (fun _ _ _ _ _ => (pts_one (pt_cmpR op_ne (pe_dget (hu_of hr) (pv 0) (pv 1) (fun _ _ => rfl)) pe_int (nomark _)))) (fun _ _ _ _ _ => (pe_tup (pa_cons (pv 1) (pa_cons (pe_dget (hu_of hr) (pv 0) (pv 1) (fun _ _ => rfl)) pa_nil))))))), ?_⟩
    refine ⟨_, rfl, d, kvs, ks, rfl, .inl hd, hs.keys, fun _ => hne, fun out p perm pw nod held np => ?_⟩
    refine ⟨p, rfl, ⟨_, .inl (.inl upd_same)⟩, fun D nD => ?_⟩
    have hpD : p ≠ D := ne_of_none upd_same nD
    obtain ⟨hDn, _⟩ := none_of_upd nD
    have hkd : ∀ x ∈ out, x.2 ∈ ks := fun x hx => perm.mem_iff.mp (List.mem_map_of_mem hx)
    refine lc_list (K := K) (a := p) (xs := out.map fun x => V.ref x.1) (fun i H2 => Same H H2 ∧ H2 p = some (.lst (out.map fun x => V.ref x.1)) ∧ ∃ ws, H2 D = some (.lst ws) ∧ Ents H2 ws (mkR (numAt es) ((out.take i).map (·.2)))) ?_ ?_ ?_ ?_
    · refine ⟨(same_upd np).trans (same_upd nD), ?_, [], upd_same, .nil⟩
      rw [upd_ne hpD, upd_same]
    · rintro i H2 _ ⟨_, hp, _⟩
      exact .inl (.inl hp)
    · rintro i x H2 hx ⟨sm, hp, ws, hD, hE⟩
      obtain ⟨hi, rfl⟩ := getm hx
      have hm := List.getElem_mem hi
      have hk := sm _ _ (held _ hm)
      have hv := hs.get (hkd _ hm)
      have hd2 := sm _ _ hd
      refine ⟨rfl, _, rfl, _, rfl, d, _, rfl, dgetT hd2 hk hv, ?_⟩
      refine ⟨rfl, _, rfl, ?_⟩
      have htk : (out.take (i + 1)).map (·.2) = (out.take i).map (·.2) ++ [out[i].2] := take_map_succ (·.2) hi
      rw [htk, mkR_snoc]
      refine iteND (fun hn => ?_) (fun h0 => ?_)
      · have hn0 : numAt es out[i].2 ≠ 0 := fun z => hn (by rw [z])
        rw [if_neg hn0]
        refine ⟨_, rfl, _, rfl, _, rfl, d, _, rfl, dgetT hd2 hk hv, (by show 2 ≤ sizeLine; decide), fun t nt => ?_⟩
        have ntD : D ≠ t := ne_of_none hD nt
        have smt : Same H2 (upd H2 t (.tup [.ref out[i].1, .int (numAt es out[i].2)])) := same_upd nt
        have hD3 := smt _ _ hD
        refine ⟨ws, hD3, ?_, same_mut (sm.trans smt) hDn, ?_, ws ++ [.ref t], upd_same, ?_⟩
        · have h1 := hE.len
          have h2 := mkR_len (numAt es) ((out.take i).map (·.2))
          have h3 := perm.length_eq
          rw [List.length_map] at h2 h3
          rw [List.length_take] at h2
          omega
        · rw [upd_ne hpD]
          exact smt _ _ hp
        · refine ((hE.mono smt).updL hD3).app (.cons (EntAt.updL hD3 ⟨t, _, rfl, upd_same, ?_⟩) .nil)
          exact smt _ _ hk
      · have h0' : numAt es out[i].2 = 0 := V.int.inj h0
        rw [if_pos h0', List.append_nil]
        exact ⟨sm, hp, ws, hD, hE⟩
    · rintro H2 ⟨sm, hp, ws, hD, hE⟩
      rw [List.length_map, List.take_length] at hE
      exact q _ D ws H2 (row_sorted perm pw nod hs.out) sm hDn hD hE
end
end OT

set_option Elab.async false
set_option linter.all false
set_option maxRecDepth 100000
set_option maxHeartbeats 2000000
namespace OT
open PySem PySem.Spec PyProof.Rows L2
section
variable {P : Program} {w : World} {K : PySem.W.Frag} {mg : Str → Option Value} {base : Heap}
theorem put_keys_ne {ks : List Pl} {e : Pl} (h : ∀ k ∈ ks, k ≠ []) (he : e ≠ []) : ∀ k ∈ (if e ∈ ks then ks else ks ++ [e]), k ≠ [] := by
  by_cases m : e ∈ ks
  · rw [if_pos m]
    exact h
  · rw [if_neg m]
    intro k hk
    rcases List.mem_append.mp hk with hk | hk
    · exact h k hk
    · rw [List.mem_singleton.mp hk]
      exact he
theorem put_keys_len {ks : List Pl} {e : Pl} {i : Nat} (h : ks.length ≤ i) : (if e ∈ ks then ks else ks ++ [e]).length ≤ i + 1 := by
  by_cases m : e ∈ ks
  · rw [if_pos m]
    omega
  · rw [if_neg m, List.length_append, List.length_singleton]
    omega
theorem Ents.updD {H : Hp} {D : Addr} {l l' : List (List Key × V)} {vs : List V} {es : List Ent} (hD : H D = some (.dT l)) (h : Ents H vs es) : Ents (upd H D (.dT l')) vs es := by
  have ne : ∀ {a : Addr} {xs : List V}, H a = some (.tup xs) → a ≠ D := fun {a xs} h e => by
    rw [e, hD] at h
    cases h
  induction h with
  | nil => exact .nil
  | cons h1 _ ih =>
    obtain ⟨t, p, rfl, h1, h2⟩ := h1
    exact .cons ⟨t, p, rfl, by rw [upd_ne (ne h1)]; exact h1, by rw [upd_ne (ne h2)]; exact h2⟩ ih
theorem seq_upd {H : Hp} {D a : Addr} {o : HO} {xs : List V} (h : SqL K H a xs) (ne : a ≠ D) : SqL K (upd H D o) a xs := by
  rcases h with (h | ⟨o', h⟩) | h
  · exact .inl (.inl (by rw [upd_ne ne]; exact h))
  · exact .inl (.inr ⟨o', by rw [upd_ne ne]; exact h⟩)
  · exact .inr h
/-- what a list of entries asks -/
structure InEnts (K : PySem.W.Frag) (H : Hp) (a : Addr) (vs : List V) (es : List Ent) : Prop where
  l : SqL K H a vs
  e : Ents H vs es
  z : es.length < sizeLine
theorem InEnts.mono {H H' : Hp} {a : Addr} {vs : List V} {es : List Ent} (s : Same H H') (h : InEnts K H a vs es) : InEnts K H' a vs es := ⟨s.seq h.l, h.e.mono s, h.z⟩
def spGather (K : PySem.W.Frag) : Sp := fun vs H Q _ => ∃ (a : Addr) (xs : List V) (es : List Ent), vs = [.ref a] ∧ InEnts K H a xs es ∧ (∀ e ∈ es, e.1 ≠ []) ∧ wantRow H es Q
theorem c_gather {f : Addr} {fd : FuncData} (D : C8.Def K mg "gather" s_gather f fd) (b : Binds K fd ["entries"] []) (T : Bi mg) (c_row_of : C8.Cal P w K mg base 1 "row_of" (spRowOf K) []) : C8.Cal P w K mg base 2 "gather" (spGather K) [] := by
  refine C8.cal0 D b .nil sc_gather (fun vs H Q E h => ?_) (fun cdv A outer s H vs Q E hr h => ?_)
  · obtain ⟨a, xs, es, rfl, _⟩ := h
    rfl
  · obtain ⟨a, xs, es, rfl, hE, hne, q⟩ := h
    refine ⟨_, (pss_cons (ps_set (i := 1) sc_gather.nd rfl (Or.inl rfl) pe_dnewT)
  (pss_cons (ps_for PassesOwn.never rfl (pi_list (pv 0)) (pg_tup rfl (pgs_cons (pg_name (i := 2) sc_gather.nd rfl (Or.inl rfl)) (pgs_cons (pg_name (i := 3) sc_gather.nd rfl (Or.inl rfl)) pgs_nil))) (pss_one (ps_dput (hu_of hr) (pv 1) (pv 2) (pe_op op_add (pe_dget2 (hu_of hr) (pv 1) (pv 2) pe_int ⟨rfl, rfl, rfl, rfl⟩) (pv 3)) rfl)))
  (pss_one (ps_ret (C8.pe_c c_row_of hr (by decide) (by rfl) (pa_cons (pv 1) pa_nil)))))), ?_⟩
    refine fun d nd => ?_
    have s1 : Same H (upd H d (.dT [])) := same_upd nd
    refine ⟨_, rfl, a, rfl, ⟨xs, s1.seq hE.l⟩, ?_⟩
    refine for_list (K := K) (xs := xs) (fun i σ H2 => ∃ (kvs : List (List Key × V)) (ks : List Pl) (y2 y3 : Option V), σ = [some (.ref a), some (.ref d), y2, y3] ∧ Same H H2 ∧ H2 d = some (.dT kvs) ∧ Sums kvs ks (numAt (es.take i)) ∧ (∀ k ∈ ks, k ≠ []) ∧ ks.length ≤ i) ?_ ?_ ?_ ?_
    · exact ⟨[], [], none, none, rfl, s1, upd_same, Sums.nil, fun k hk => (by cases hk), Nat.le_refl _⟩
    · rintro i σ H2 _ ⟨_, _, _, _, _, sm, _⟩
      exact sm.seq hE.l
    · rintro i x σ H2 hx ⟨kvs, ks, y2, y3, rfl, sm, hd, hs, hk, hl⟩
      obtain ⟨e, he, hv⟩ := (hE.e.mono sm).get hx
      obtain ⟨t, p, rfl, ht, hp⟩ := hv
      have hi := (List.getElem?_eq_some_iff.mp he).1
      have hm : e ∈ es := List.mem_of_getElem? he
      have hz := hE.z
      refine ⟨t, _, rfl, .inl (.inl ht), rfl, _, _, rfl, _, _, rfl, rfl, ?_⟩
      refine ⟨_, rfl, d, rfl, .inr ⟨kvs, .inl hd⟩, _, rfl, _, dgetT hd hp rfl, _, rfl, numAt (es.take i) e.1, e.2, hs.getD _, rfl, _, rfl, _, rfl, d, _, rfl, DPut.t hd (k := e.1.map Sum.inl) (by rw [kV_ints]; exact hp) ?_, ?_⟩
      · rw [hs.len]
        omega
      · exact ⟨_, _, _, _, rfl, same_mut sm nd, upd_same, hs.next he, put_keys_ne hk (hne e hm), put_keys_len hl⟩
    · rintro σ H2 ⟨kvs, ks, y2, y3, rfl, sm, hd, hs, hk, hl⟩
      have hz := hE.z
      have hlen := hE.e.len
      rw [hlen, List.take_length] at hs
      refine ⟨_, rfl, d, kvs, ks, es, rfl, hd, hs, hk, by omega, fun r p ws H3 hr sm3 np hp he => ?_⟩
      refine q r p ws H3 hr (sm.trans sm3) ?_ hp he
      cases z : H p with
      | none => rfl
      | some o =>
        rw [sm _ _ z] at np
        cases np
theorem c__law_row {f : Addr} {fd : FuncData} (D : C8.Def K mg "_law_row" s__law_row f fd) (b : Binds K fd ["_law_pairs_here"] []) (T : Bi mg) : C8.Cal P w K mg base 1 "_law_row" (spGather K) [] := by
  refine C8.cal0 D b .nil sc__law_row (fun vs H Q E h => ?_) (fun cdv A outer s H vs Q E hr h => ?_)
  · obtain ⟨a, xs, es, rfl, _⟩ := h
    rfl
  · obtain ⟨a, xs, es, rfl, hE, hne, q⟩ := h
    refine ⟨_, (pss_cons (ps_set (i := 1) sc__law_row.nd rfl (Or.inr rfl) pe_dnewT)
  (pss_cons (ps_for PassesOwn.never rfl (pi_list (pv 0)) (pg_tup rfl (pgs_cons (pg_name (i := 2) sc__law_row.nd rfl (Or.inl rfl)) (pgs_cons (pg_name (i := 3) sc__law_row.nd rfl (Or.inl rfl)) pgs_nil))) (pss_one (ps_dput (hu_of hr) (pv 1) (pv 2) (pe_op op_add (pe_dget2 (hu_of hr) (pv 1) (pv 2) pe_int ⟨rfl, rfl, rfl, rfl⟩) (pv 3)) rfl)))
  (pss_one (ps_ret (pe_lc (own := [("_law_place", 2)]) (g := (gName 2)) rfl sc__law_row.nd (pi_list (pe_callB (cr_sortedDT rfl) (by rfl) T.n_sorted OT.b_sorted (pa_cons (pv 1) pa_nil))) (blkOk_by (N := ["_law_pairs_here", "_law_sums", "_law_place", "_law_number"]) (sc := C8.fnScope s__law_row) (by decide +kernel)) (fun _ _ _ _ _ => (pg_name (i := 2) sc__law_row.nd rfl (Or.inl rfl))) (fun _ _ _ _ _ => (pts_one (pt_cmpR op_ne (pe_dget (hu_of hr) (pv 1) (pv 2) (fun _ _ => rfl)) pe_int (nomark _)))) (fun _ _ _ _ _ => (pe_tup (pa_cons (pv 2) (pa_cons (pe_dget (hu_of hr) (pv 1) (pv 2) (fun _ _ => rfl)) pa_nil))))))))), ?_⟩
    refine fun d nd => ?_
    have s1 : Same H (upd H d (.dT [])) := same_upd nd
    refine ⟨_, rfl, a, rfl, ⟨xs, s1.seq hE.l⟩, ?_⟩
    refine for_list (K := K) (xs := xs) (fun i σ H2 => ∃ (kvs : List (List Key × V)) (ks : List Pl) (y2 y3 : Option V), σ = [some (.ref a), some (.ref d), y2, y3] ∧ Same H H2 ∧ H2 d = some (.dT kvs) ∧ Sums kvs ks (numAt (es.take i)) ∧ (∀ k ∈ ks, k ≠ []) ∧ ks.length ≤ i) ?_ ?_ ?_ ?_
    · exact ⟨[], [], none, none, rfl, s1, upd_same, Sums.nil, fun k hk => (by cases hk), Nat.le_refl _⟩
    · rintro i σ H2 _ ⟨_, _, _, _, _, sm, _⟩
      exact sm.seq hE.l
    · rintro i x σ H2 hx ⟨kvs, ks, y2, y3, rfl, sm, hd, hs, hk, hl⟩
      obtain ⟨e, he, hv⟩ := (hE.e.mono sm).get hx
      obtain ⟨t, p, rfl, ht, hp⟩ := hv
      have hi := (List.getElem?_eq_some_iff.mp he).1
      have hm : e ∈ es := List.mem_of_getElem? he
      have hz := hE.z
      refine ⟨t, _, rfl, .inl (.inl ht), rfl, _, _, rfl, _, _, rfl, rfl, ?_⟩
      refine ⟨_, rfl, d, rfl, .inr ⟨kvs, .inl hd⟩, _, rfl, _, dgetT hd hp rfl, _, rfl, numAt (es.take i) e.1, e.2, hs.getD _, rfl, _, rfl, _, rfl, d, _, rfl, DPut.t hd (k := e.1.map Sum.inl) (by rw [kV_ints]; exact hp) ?_, ?_⟩
      · rw [hs.len]
        omega
      · exact ⟨_, _, _, _, rfl, same_mut sm nd, upd_same, hs.next he, put_keys_ne hk (hne e hm), put_keys_len hl⟩
    · rintro σ H2 ⟨kvs, ks, y2, y3, rfl, sm, hd, hs, hk, hl⟩
      have hz := hE.z
      have hlen := hE.e.len
      rw [hlen, List.take_length] at hs
      have hkz : ks.length < sizeLine := by omega
      refine ⟨_, rfl, d, kvs, ks, rfl, .inl hd, hs.keys, fun _ => hk, fun out p perm pw nod held np => ?_⟩
      refine ⟨p, rfl, ⟨_, .inl (.inl upd_same)⟩, fun D nD => ?_⟩
      have hpD : p ≠ D := ne_of_none upd_same nD
      obtain ⟨hDn, _⟩ := none_of_upd nD
      have hkd : ∀ x ∈ out, x.2 ∈ ks := fun x hx => perm.mem_iff.mp (List.mem_map_of_mem hx)
      refine lc_list (K := K) (a := p) (xs := out.map fun x => V.ref x.1) (fun i H3 => Same H2 H3 ∧ H3 p = some (.lst (out.map fun x => V.ref x.1)) ∧ ∃ ws, H3 D = some (.lst ws) ∧ Ents H3 ws (mkR (numAt es) ((out.take i).map (·.2)))) ?_ ?_ ?_ ?_
      · refine ⟨(same_upd np).trans (same_upd nD), ?_, [], upd_same, .nil⟩
        rw [upd_ne hpD, upd_same]
      · rintro i H3 _ ⟨_, hp, _⟩
        exact .inl (.inl hp)
      · rintro i x H3 hx ⟨sm3, hp, ws, hD, hE3⟩
        obtain ⟨hi, rfl⟩ := getm hx
        have hm := List.getElem_mem hi
        have hk3 := sm3 _ _ (held _ hm)
        have hv := hs.get (hkd _ hm)
        have hd2 := sm3 _ _ hd
        refine ⟨rfl, _, rfl, _, rfl, d, _, rfl, dgetT hd2 hk3 hv, ?_⟩
        refine ⟨rfl, _, rfl, ?_⟩
        have htk : (out.take (i + 1)).map (·.2) = (out.take i).map (·.2) ++ [out[i].2] := take_map_succ (·.2) hi
        rw [htk, mkR_snoc]
        refine iteND (fun hn => ?_) (fun h0 => ?_)
        · have hn0 : numAt es out[i].2 ≠ 0 := fun z => hn (by rw [z])
          rw [if_neg hn0]
          refine ⟨_, rfl, _, rfl, _, rfl, d, _, rfl, dgetT hd2 hk3 hv, (by show 2 ≤ sizeLine; decide), fun t nt => ?_⟩
          have ntD : D ≠ t := ne_of_none hD nt
          have smt : Same H3 (upd H3 t (.tup [.ref out[i].1, .int (numAt es out[i].2)])) := same_upd nt
          have hD3 := smt _ _ hD
          refine ⟨ws, hD3, ?_, same_mut (sm3.trans smt) hDn, ?_, ws ++ [.ref t], upd_same, ?_⟩
          · have h1 := hE3.len
            have h2 := mkR_len (numAt es) ((out.take i).map (·.2))
            have h3 := perm.length_eq
            rw [List.length_map] at h2 h3
            rw [List.length_take] at h2
            omega
          · rw [upd_ne hpD]
            exact smt _ _ hp
          · refine ((hE3.mono smt).updL hD3).app (.cons (EntAt.updL hD3 ⟨t, _, rfl, upd_same, ?_⟩) .nil)
            exact smt _ _ hk3
        · have h0' : numAt es out[i].2 = 0 := V.int.inj h0
          rw [if_pos h0', List.append_nil]
          exact ⟨sm3, hp, ws, hD, hE3⟩
      · rintro H3 ⟨sm3, hp, ws, hD, hE3⟩
        rw [List.length_map, List.take_length] at hE3
        refine q _ D ws H3 (row_sorted perm pw nod hs.out) (sm.trans sm3) ?_ hD hE3
        cases z : H D with
        | none => rfl
        | some o =>
          rw [sm _ _ z] at hDn
          cases hDn
end
end OT

set_option Elab.async false
set_option linter.all false
set_option maxRecDepth 100000
set_option maxHeartbeats 2000000
namespace OT
open PySem PySem.Spec PyProof.Rows L2
section
variable {P : Program} {w : World} {K : PySem.W.Frag} {mg : Str → Option Value} {base : Heap}
/-- a row of places of n coordinates -/
structure RowN (n : Nat) (r : List Ent) : Prop where
  v : Valid r
  n1 : 1 ≤ n
  n3 : n ≤ 3
  at_ : ∀ e ∈ r, e.1.length = n
theorem asc_get {r : List Ent} (h : Valid r) {i j : Nat} (hi : i < r.length) (hj : j < r.length) (hij : i < j) : HT.lexLt r[i].1 r[j].1 = true := List.pairwise_iff_getElem.mp h.asc i j hi hj hij
def spIsRow (K : PySem.W.Frag) : Sp := fun vs H Q _ => ∃ (a : Addr) (ws : List V) (r : List Ent) (n : Nat), vs = [.ref a] ∧ H a = some (.lst ws) ∧ Ents H ws r ∧ RowN n r ∧ r.length ≤ 100000 ∧ Q (.bl true) H
theorem c__law_is_row {f : Addr} {fd : FuncData} (D : C8.Def K mg "_law_is_row" s__law_is_row f fd) (b : Binds K fd ["_law_actual"] []) (T : Bi mg) (c__law_is_place : C8.Cal P w K mg base 2 "_law_is_place" (spIsPlace K) []) (c__law_is_integer : C8.Cal P w K mg base 1 "_law_is_integer" spIsInt []) :
    C8.Cal P w K mg base 3 "_law_is_row" (spIsRow K) [] := by
  refine C8.cal0 D b .nil sc__law_is_row (fun vs H Q E h => ?_) (fun cdv A outer s H vs Q E hr h => ?_)
  · obtain ⟨a, ws, r, n, rfl, _⟩ := h
    rfl
  · obtain ⟨a, ws, r, n, rfl, ha, hE, hN, hz, q⟩ := h
    have hS : SqL K H a ws := .inl (.inl ha)
    refine ⟨_, (pss_cons (ps_if (pt_not (pt_val (pe_callB call_isi (by rfl) T.n_isinstance OT.b_isinstance (pa_cons (pv 0) (pa_cons (pe_bltn (v := .ty "list") (by rfl) T.n_list OT.b_list rfl) pa_nil))))) (pss_one (ps_ret pe_bl)) pss_nil)
  (pss_cons (ps_for PassesOwn.never rfl (pi_range1 rfl T.n_range (pa_cons (pe_callB call_len_seq (by rfl) T.n_len OT.b_len (pa_cons (pv 0) pa_nil)) pa_nil)) (pg_name (i := 1) sc__law_is_row.nd rfl (Or.inl rfl)) (pss_cons (ps_set (i := 2) sc__law_is_row.nd rfl (Or.inl rfl) (pe_ix ix_list (pv 0) (pv 1) (fun _ _ => rfl)))
  (pss_cons (ps_if (PW.pt (pw_or (pt_not (pt_val (pe_callB call_isi (by rfl) T.n_isinstance OT.b_isinstance (pa_cons (pv 2) (pa_cons (pe_bltn (v := .ty "tuple") (by rfl) T.n_tuple OT.b_tuple rfl) pa_nil))))) (pw_or1 (pt_cmpR op_ne (pe_callB call_len_seq (by rfl) T.n_len OT.b_len (pa_cons (pv 2) pa_nil)) pe_int (nomark _))))) (pss_one (ps_ret pe_bl)) pss_nil)
  (pss_cons (ps_if (PW.pt (pw_or (pt_not (pt_val (C8.pe_c c__law_is_place hr (by decide) (by rfl) (pa_cons (pe_ix ix_tup (pv 2) pe_int (fun _ _ => rfl)) pa_nil)))) (pw_or (pt_not (pt_val (C8.pe_c c__law_is_integer hr (by decide) (by rfl) (pa_cons (pe_ix ix_tup (pv 2) pe_int (fun _ _ => rfl)) pa_nil)))) (pw_or1 (pt_cmpR op_eq (pe_ix ix_tup (pv 2) pe_int (fun _ _ => rfl)) pe_int (nomark _)))))) (pss_one (ps_ret pe_bl)) pss_nil)
  (pss_cons (ps_if (pt_cmpR op_ne (pe_callB call_len_seq (by rfl) T.n_len OT.b_len (pa_cons (pe_ix ix_tup (pv 2) pe_int (fun _ _ => rfl)) pa_nil)) (pe_callB call_len_seq (by rfl) T.n_len OT.b_len (pa_cons (pe_ix ix_tup (pe_ix ix_list (pv 0) pe_int (fun _ _ => rfl)) pe_int (fun _ _ => rfl)) pa_nil)) (nomark _)) (pss_one (ps_ret pe_bl)) pss_nil)
  (pss_one (ps_if (PW.pt (pw_and (pt_cmpR op_gt (pv 1) pe_int (nomark _)) (pw_and1 (pt_not (pt_cmpR (op_ltT hr.units0) (pe_ix ix_tup (pe_ix ix_list (pv 0) (pe_op op_sub (pv 1) pe_int) (fun _ _ => rfl)) pe_int (fun _ _ => rfl)) (pe_ix ix_tup (pv 2) pe_int (fun _ _ => rfl)) (nomark _)))))) (pss_one (ps_ret pe_bl)) pss_nil)))))))
  (pss_one (ps_ret pe_bl)))), ?_⟩
    refine ⟨_, rfl, _, _, _, _, _, rfl, .ty _, .base (.lst ha), kit_ty kb_ll, _, rfl, ?_⟩
    refine iteF ?_
    refine ⟨_, rfl, a, _, rfl, .inl hS, _, rfl, ?_, ?_, ?_⟩
    · omega
    · have h2 := hE.len
      have : (2 : Int) ^ 62 = 4611686018427387904 := by decide
      omega
    rw [Int.toNat_natCast, hE.len]
    refine for_range (fun i σ H2 => ∃ y1 y2, σ = [some (.ref a), y1, y2] ∧ H2 = H) ⟨none, none, rfl, rfl⟩ ?_ ?_
    · rintro i σ H2 hi ⟨y1, y2, rfl, rfl⟩
      obtain ⟨v, hv, t, p, rfl, ht, hp⟩ := hE.at hi
      obtain ⟨v0, hv0, t0, p0, rfl, ht0, hp0⟩ := hE.at (i := 0) (by omega)
      have hm := List.getElem_mem hi
      have hm0 := List.getElem_mem (show 0 < r.length by omega)
      have hT : SqT K H2 t [.ref p, .int r[i].2] := .inl (.inl ht)
      have hT0 : SqT K H2 t0 [.ref p0, .int (r[0]'(by omega)).2] := .inl (.inl ht0)
      have hP : SqT K H2 p (r[i].1.map V.int) := .inl (.inl hp)
      have hP0 : SqT K H2 p0 ((r[0]'(by omega)).1.map V.int) := .inl (.inl hp0)
      refine ⟨_, rfl, _, rfl, a, _, _, .ref t, rfl, rfl, hS, by rw [Int.zero_add]; exact atI_nat hv, ?_⟩
      refine ⟨_, rfl, _, _, _, _, _, rfl, .ty _, .base (.tup ht), kit_ty kb_tt, _, rfl, ?_⟩
      refine iteF ?_
      refine ⟨_, rfl, t, _, rfl, .inr hT, rfl, _, rfl, ?_⟩
      refine iteF ?_
      refine ⟨_, rfl, t, _, 0, _, rfl, rfl, hT, atI_nat (j := 0) rfl, p, _, rfl, hp, by rw [hN.at_ _ hm]; exact hN.n1, by rw [hN.at_ _ hm]; exact hN.n3, _, rfl, ?_⟩
      refine iteF ?_
      refine ⟨_, rfl, t, _, 1, _, rfl, rfl, hT, atI_nat (j := 1) rfl, _, rfl, _, rfl, ?_⟩
      refine iteF ?_
      refine ⟨_, rfl, t, _, 1, _, rfl, rfl, hT, atI_nat (j := 1) rfl, rfl, _, rfl, iteD (fun z => absurd (V.int.inj z) (hN.v.nz _ hm)) (fun _ => ?_)⟩
      refine ⟨_, rfl, t, _, 0, _, rfl, rfl, hT, atI_nat (j := 0) rfl, p, _, rfl, .inr hP, _, rfl, a, _, 0, _, rfl, rfl, hS, atI_nat (j := 0) hv0, t0, _, 0, _, rfl, rfl, hT0, atI_nat (j := 0) rfl, p0, _, rfl, .inr hP0, rfl, _, rfl, iteND (fun z => ?_) (fun _ => ?_)⟩
      · rw [List.length_map, List.length_map, hN.at_ _ hm, hN.at_ _ hm0] at z
        exact absurd rfl z
      refine ⟨_, rfl, _, _, rfl, rfl, _, rfl, iteD (fun hk => ?_) (fun _ => ?_)⟩
      · have hi1 : i - 1 < r.length := by omega
        obtain ⟨v1, hv1, t1, p1, rfl, ht1, hp1⟩ := hE.at (i := i - 1) hi1
        have hT1 : SqT K H2 t1 [.ref p1, .int (r[i - 1]'hi1).2] := .inl (.inl ht1)
        refine ⟨_, rfl, _, rfl, _, _, rfl, rfl, a, _, _, _, rfl, rfl, hS, ?_, t1, _, 0, _, rfl, rfl, hT1, atI_nat (j := 0) rfl, _, rfl, t, _, 0, _, rfl, rfl, hT, atI_nat (j := 0) rfl, p1, p, _, _, rfl, rfl, .inl (.inl hp1), hP, _, rfl, ?_⟩
        · rw [show (0 : Int) + (i : Int) - 1 = ((i - 1 : Nat) : Int) by omega]
          exact atI_nat hv1
        · rw [asc_get hN.v hi1 hi (by omega)]
          refine iteF ?_
          exact ⟨_, _, rfl, rfl⟩
      · exact ⟨_, _, rfl, rfl⟩
    · rintro σ H2 ⟨y1, y2, rfl, rfl⟩
      exact q
def spSame (K : PySem.W.Frag) : Sp := fun vs H Q _ => ∃ (a c : Addr) (ws us : List V) (r : List Ent) (n : Nat), vs = [.ref a, .ref c] ∧ H a = some (.lst ws) ∧ Ents H ws r ∧ H c = some (.lst us) ∧ Ents H us r ∧ RowN n r ∧ r.length ≤ 100000 ∧ Q (.bl true) H
theorem c__law_same {f : Addr} {fd : FuncData} (D : C8.Def K mg "_law_same" s__law_same f fd) (b : Binds K fd ["_law_actual", "_law_expected"] []) (T : Bi mg) (c__law_is_row : C8.Cal P w K mg base 3 "_law_is_row" (spIsRow K) []) :
    C8.Cal P w K mg base 4 "_law_same" (spSame K) [] := by
  refine C8.cal0 D b .nil sc__law_same (fun vs H Q E h => ?_) (fun cdv A outer s H vs Q E hr h => ?_)
  · obtain ⟨a, c, ws, us, r, n, rfl, _⟩ := h
    rfl
  · obtain ⟨a, c, ws, us, r, n, rfl, ha, hE, hc, hF, hN, hz, q⟩ := h
    refine ⟨_, (pss_one (ps_ret (pe_and (C8.pe_c c__law_is_row hr (by decide) (by rfl) (pa_cons (pv 0) pa_nil)) (pe_one (pe_cmpR (op_eqD hr.units) (pv 0) (pv 1) (nomark _)))))), ?_⟩
    refine ⟨_, rfl, a, ws, r, n, rfl, ha, hE, hN, hz, _, rfl, ?_⟩
    refine iteT ?_
    refine ⟨_, rfl, _, rfl, dRow r, dRow r, hE.dp (.inl (.inl ha)), hF.dp (.inl (.inl hc)), shaped_row r, shaped_row r, ?_⟩
    rw [SeqAt.eqv_refl _ (SeqAt.canLay_of_shaped (shaped_row r))]
    exact q
def spBack (K : PySem.W.Frag) : Sp := fun vs H Q _ => ∃ (a : Addr) (ns : Pl), vs = [.ref a] ∧ SqT K H a (ns.map V.int) ∧ ns.length ≤ 1000 ∧ ∀ (ms : Pl) p H', ms.length = ns.length → Same H H' → H' p = some (.tup (ms.map V.int)) → Q (.ref p) H'
theorem c__law_back {f : Addr} {fd : FuncData} (D : C8.Def K mg "_law_back" s__law_back f fd) (b : Binds K fd ["_law_place"] []) (T : Bi mg) : C8.Cal P w K mg base 1 "_law_back" (spBack K) [] := by
  refine C8.cal0 D b .nil sc__law_back (fun vs H Q E h => ?_) (fun cdv A outer s H vs Q E hr h => ?_)
  · obtain ⟨a, ns, rfl, _⟩ := h
    rfl
  · obtain ⟨a, ns, rfl, hS, hl, q⟩ := h
    refine ⟨_, (pss_one (ps_ret (pe_callTy call_tuple_of (by rfl) T.n_tuple OT.b_tuple (pa_cons (pe_lc (own := [("_law_x", 1)]) (g := (gName 1)) (tt := tYes) rfl sc__law_back.nd (pi_tup (pv 0)) (blkOk_by (N := ["_law_place", "_law_x"]) (sc := C8.fnScope s__law_back) (by decide +kernel)) (fun _ _ _ _ _ => (pg_name (i := 1) sc__law_back.nd rfl (Or.inl rfl))) (fun _ _ _ _ _ => pts_nil) (fun _ _ _ _ _ => (pe_un un_neg (pv 1)))) pa_nil)))), ?_⟩
    refine ⟨_, rfl, a, rfl, ⟨_, hS⟩, fun p np => ?_⟩
    refine lc_tup (K := K) (xs := ns.map V.int) (fun i H2 => Same H H2 ∧ H2 p = some (.lst ((ns.take i).map fun n => V.int (-n)))) ?_ ?_ ?_ ?_
    · exact ⟨same_upd np, upd_same⟩
    · rintro i H2 _ ⟨sm, _⟩
      exact same_t sm hS
    · rintro i x H2 hx ⟨sm, hp⟩
      obtain ⟨hi, rfl⟩ := getm hx
      refine ⟨rfl, tYes_of ?_⟩
      refine ⟨_, rfl, _, rfl, _, hp, ?_, same_mut sm np, ?_⟩
      · rw [List.length_map, List.length_take]
        exact small1000 (by omega)
      · rw [upd_same, take_map_succ (fun n => V.int (-n)) hi]
    · rintro H2 ⟨sm, hp⟩
      rw [List.length_map, List.take_length] at hp
      refine ⟨p, _, rfl, .inl ⟨.inl (.inl hp), fun l nl => ?_⟩⟩
      refine q (ns.map fun n => -n) l _ (List.length_map _) (sm.trans (same_upd nl)) ?_
      rw [upd_same, List.map_map]
      rfl
end
end OT

set_option Elab.async false
set_option linter.all false
set_option maxRecDepth 100000
set_option maxHeartbeats 2000000
namespace OT
open PySem PySem.Spec PyProof.Rows L2
def badE (e : Ent) : Prop := e.1.length < 1 ∨ 3 < e.1.length
instance (e : Ent) : Decidable (badE e) := inferInstanceAs (Decidable (_ ∨ _))
/-- the first bad place, from index i on -/
def fbE : Nat → List Ent → Option Nat
  | _, [] => none
  | i, e :: r => if badE e then some i else fbE (i + 1) r
theorem fbE_hit {i : Nat} {e : Ent} {r : List Ent} (h : badE e) : fbE i (e :: r) = some i := if_pos h
theorem fbE_miss {i : Nat} {e : Ent} {r : List Ent} (h : ¬ badE e) : fbE i (e :: r) = fbE (i + 1) r := if_neg h
theorem fbE_none : ∀ {es : List Ent} {i : Nat}, fbE i es = none → ∀ e ∈ es, ¬ badE e
  | z :: r, i, h, e, he => by
    by_cases hc : badE z
    · rw [fbE_hit hc] at h
      cases h
    · rw [fbE_miss hc] at h
      rcases List.mem_cons.mp he with rfl | he
      · exact hc
      · exact fbE_none h e he
/-- some length is another than the first one -/
def mixL (ns : List Int) : Bool := (ns.map fun m => !decide (V.int m = V.int (ns.headD 0))).any id
def lens (es : List Ent) : List Int := es.map fun e => (e.1.length : Int)
section
variable {P : Program} {w : World} {K : PySem.W.Frag} {mg : Str → Option Value} {base : Heap}
/-! ### the errors' own __init__ -/
theorem ok_te {f : Addr} {fd : FuncData} (F : C8.Fun K "__init__" "TableError.__init__" s_TableError___init__ f fd) : FnOk P w K mg base L2.CX0 1 f fd ["self"] (spTE K) := by
  refine C8.fn0 F sc_TableError___init__ (fun vs H Q E h => ?_) (fun cdv A outer s H vs Q E hr h => ?_)
  · obtain ⟨a, C, nm, rfl, _⟩ := h
    rfl
  · obtain ⟨a, C, nm, rfl, ha, T, k⟩ := h
    refine ⟨_, pss_one (ps_ost (pv 0) (pe_otname (pv 0))), ?_⟩
    exact ⟨_, rfl, a, C, nm, rfl, ha, T.oc, T.on, _, rfl, a, C, rfl, T.ox, T.nw, Or.inl ⟨ha, fun d nd ne => k d nd ne⟩⟩
theorem ok_ie {f B fB : Addr} {fd fdB : FuncData} (F : C8.Fun K "__init__" "IndexedError.__init__" s_IndexedError___init__ f fd) (GB : FnOk P w K mg base L2.CX0 1 fB fdB ["self"] (spTE K)) (bB : Binds K fdB ["self"] []) (R : OtRead K B "__init__" fB) (gB : mg "TableError" = some (.ref B)) :
    FnOk P w K mg base L2.CX0 2 f fd ["self", "index"] (spIE K) := by
  refine C8.fn0 F sc_IndexedError___init__ (fun vs H Q E h => ?_) (fun cdv A outer s H vs Q E hr h => ?_)
  · obtain ⟨a, C, nm, x, rfl, _⟩ := h
    rfl
  · obtain ⟨a, C, nm, x, rfl, ha, T, k⟩ := h
    refine ⟨_, pss_cons (ps_expr (pe_otcall (pe_glob (v := .ref B) (by rfl) gB rfl) R GB hr bB pass0 (pa_cons (pv 0) pa_nil)))
      (pss_one (ps_ost (pv 0) (pv 1))), ?_⟩
    refine ⟨rfl, _, rfl, a, C, nm, rfl, ha, T, fun d nd ne => ?_⟩
    refine ⟨_, rfl, _, rfl, a, C, rfl, T.ox, T.ni, Or.inr ⟨d, _, upd_same, ?_, (by show 1 ≤ 900; decide), k d nd ne⟩⟩
    rw [upd_ne ne, upd_same]
/-- what is known of an error of a class that tells an index -/
structure ErrI (K : PySem.W.Frag) (mg : Str → Option Value) (nm : Str) (C fI : Addr) : Prop where
  g : mg nm = some (.ref C)
  t : OtErr K C nm
  i : PySem.W.findIn K (.ref C) "__init__" = some (some (.ref fI))
  ty : PySem.W.typeIn K (.ref fI) = some (.type "function")
def errM : List (Str × V) := [("word", .str "MixedDimensions")]
def errB (i : Nat) : List (Str × V) := [("index", .int (i : Nat)), ("word", .str "BadPlace")]
def spSL (K : PySem.W.Frag) (M : Addr) : Sp := fun vs H Q E => ∃ (a : Addr) (ns : List Int), vs = [.ref a] ∧ SqL K H a (ns.map V.int) ∧ (∀ n ∈ ns, n ≠ 0) ∧ ns.length ≤ 100000 ∧
  (mixL ns = true → ∀ d H', Same H H' → H' d = some (.xd errM) → E (.ref M) (some d) H') ∧ (mixL ns = false → ∀ H', Same H H' → Q .non H')
theorem ok_same_lengths {f M fB : Addr} {fd fdB : FuncData} (D : C8.Def K mg "same_lengths" s_same_lengths f fd) (T : Bi mg) (X : ErrI K mg "MixedDimensions" M fB) (GB : FnOk P w K mg base L2.CX0 1 fB fdB ["self"] (spTE K)) (bB : Binds K fdB ["self"] []) :
    FnOk P w K mg base (L2.CX P w) 3 f fd ["lengths"] (spSL K M) := by
  obtain ⟨oc, od, dV, kV, doc, pm, an, cdv, ct, osl, rfl, lk, hcd⟩ := D.fn.ex
  refine fn_of lk hcd sc_same_lengths (fun vs H Q E h => ?_) fun A outer s H vs Q E hr h => ?_
  · obtain ⟨a, ns, rfl, _⟩ := h
    rfl
  · obtain ⟨a, ns, rfl, hS, hnz, hz, qE, qN⟩ := h
    refine ⟨_, (pss_cons (ps_set (i := 1) sc_same_lengths.nd rfl (Or.inr rfl) (pe_lc (own := [("length", 2)]) (g := (gName 2)) rfl sc_same_lengths.nd (pi_list (pv 0)) (blkOk_by (N := ["lengths", "known", "length"]) (sc := C8.fnScope s_same_lengths) (by decide +kernel)) (fun _ _ _ _ _ => (pg_name (i := 2) sc_same_lengths.nd rfl (Or.inl rfl))) (fun _ _ _ _ _ => (pts_one (pt_cmpR op_ne (pv 2) pe_int (nomark _)))) (fun _ _ _ _ _ => (pv 2))))
  (pss_one (ps_if (pt_val (pe_callB (cr_any rfl) (by rfl) T.n_any OT.b_any (pa_cons (pe_lc (own := [("length", 2)]) (g := (gName 2)) (tt := tYes) rfl sc_same_lengths.nd (pi_list (pv 1)) (blkOk_by (N := ["lengths", "known", "length"]) (sc := C8.fnScope s_same_lengths) (by decide +kernel)) (fun _ _ _ _ _ => (pg_name (i := 2) sc_same_lengths.nd rfl (Or.inl rfl))) (fun _ _ _ _ _ => pts_nil) (fun _ _ _ _ _ => (pe_cmpR op_ne (pv 2) (pe_ix (show IxR _ (rIxL K) from ix_list) (pv 1) pe_int (fun _ _ => rfl)) (nomark _)))) pa_nil))) (pss_one (ps_raise rfl (takes_of rfl rfl rfl rfl) (pmk_oex0 X.t.ox X.i X.ty GB hr bB pass0 (by rfl) X.g))) pss_nil))), ?_⟩
    refine ⟨_, rfl, a, rfl, ⟨_, hS⟩, fun p np => ?_⟩
    refine lc_list (K := K) (xs := ns.map V.int) (fun i H2 => Same H H2 ∧ H2 p = some (.lst ((ns.take i).map V.int))) ?_ ?_ ?_ ?_
    · exact ⟨same_upd np, upd_same⟩
    · rintro i H2 _ ⟨sm, _⟩
      exact sm.seq hS
    · rintro i x H2 hx ⟨sm, hp⟩
      obtain ⟨hi, rfl⟩ := getm hx
      have hm := List.getElem_mem hi
      refine ⟨rfl, _, rfl, rfl, _, rfl, iteND (fun _ => ?_) (fun h0 => absurd (V.int.inj h0) (hnz _ hm))⟩
      refine ⟨_, rfl, _, hp, ?_, same_mut sm np, ?_⟩
      · rw [List.length_map, List.length_take]
        exact Nat.lt_of_le_of_lt (show min i ns.length ≤ 100000 by omega) (by decide)
      · rw [upd_same, take_map_succ V.int hi]
    · rintro H2 ⟨sm, hp⟩
      rw [List.length_map, List.take_length] at hp
      have hP : SqL K H2 p (ns.map V.int) := .inl (.inl hp)
      refine ⟨_, rfl, p, rfl, ⟨_, hP⟩, fun p2 np2 => ?_⟩
      refine lc_list (K := K) (xs := ns.map V.int) (fun i H3 => Same H2 H3 ∧ H3 p2 = some (.lst ((ns.take i).map fun m => V.bl (!decide (V.int m = V.int (ns.headD 0)))))) ?_ ?_ ?_ ?_
      · exact ⟨same_upd np2, upd_same⟩
      · rintro i H3 _ ⟨sm3, _⟩
        exact sm3.seq hP
      · rintro i x H3 hx ⟨sm3, hp3⟩
        obtain ⟨hi, rfl⟩ := getm hx
        have h0 : (ns.map V.int)[0]? = some (.int (ns.headD 0)) := by
          cases ns with
          | nil => exact absurd hi (Nat.not_lt_zero _)
          | cons n r => rfl
        refine ⟨rfl, tYes_of ?_⟩
        refine ⟨_, rfl, _, rfl, p, _, 0, _, rfl, rfl, sm3.seq hP, atI_nat (j := 0) h0, rfl, _, hp3, ?_, same_mut sm3 np2, ?_⟩
        · rw [List.length_map, List.length_take]
          exact Nat.lt_of_le_of_lt (show min i ns.length ≤ 100000 by omega) (by decide)
        · rw [upd_same, take_map_succ (fun m => V.bl (!decide (V.int m = V.int (ns.headD 0)))) hi]
      · rintro H3 ⟨sm3, hp3⟩
        rw [List.length_map, List.take_length] at hp3
        have sA := sm.trans sm3
        refine ⟨p2, ns.map fun m => !decide (V.int m = V.int (ns.headD 0)), rfl, .inl (.inl ?_), _, rfl, ?_⟩
        · rw [hp3, List.map_map]
          rfl
        show if mixL ns = true then _ else _
        cases e : mixL ns with
        | true =>
          refine iteT ?_
          refine ⟨(by show 0 ≤ 1000; decide), fun a na => ⟨a, M, _, rfl, upd_same, X.t, fun d nd ne => ?_⟩⟩
          have nd3 : H3 d = none := by
            rw [upd_ne ne] at nd
            exact nd
          refine ⟨rfl, d, _, upd_same, ?_, nd3, qE e d _ ?_ upd_same⟩
          · rw [upd_ne ne, upd_same]
            rfl
          · intro b o hb
            have hb2 := sA b o hb
            have nba : b ≠ a := ne_of_none hb2 na
            have nbd : b ≠ d := ne_of_none hb2 nd3
            rw [upd_ne nbd, del_ne nba, upd_ne nba, upd_ne nbd, upd_ne nba]
            exact hb2
        | false =>
          refine iteF ?_
          exact qN e H3 sA
end
end OT

set_option Elab.async false
set_option linter.all false
set_option maxRecDepth 100000
set_option maxHeartbeats 2000000
namespace OT
open PySem PySem.Spec PyProof.Rows L2
theorem lens_get {es : List Ent} {i : Nat} (h : i < es.length) : ((lens es).take (i + 1)).map V.int = ((lens es).take i).map V.int ++ [V.int (es[i].1.length : Int)] := by
  have h2 : i < (lens es).length := by
    show i < (es.map _).length
    rw [List.length_map]
    exact h
  have e : (lens es)[i] = (es[i].1.length : Int) := List.getElem_map _
  rw [take_map_succ V.int h2, e]
section
variable {P : Program} {w : World} {K : PySem.W.Frag} {mg : Str → Option Value} {base : Heap}
def spMk (K : PySem.W.Frag) (C M : Addr) : Sp := fun vs H Q E => ∃ (a : Addr) (xs : List V) (es : List Ent), vs = [.ref a] ∧ InEnts K H a xs es ∧ es.length ≤ 100000 ∧
  (∀ i, fbE 0 es = some i → ∀ d H', Same H H' → H' d = some (.xd (errB i)) → E (.ref C) (some d) H') ∧
  (fbE 0 es = none → mixL (lens es) = true → ∀ d H', Same H H' → H' d = some (.xd errM) → E (.ref M) (some d) H') ∧
  (fbE 0 es = none → mixL (lens es) = false → wantRow H es Q)
theorem wantRow.mono {H H2 : Hp} {es : List Ent} {Q : VK} (sm : Same H H2) (q : wantRow H es Q) : wantRow H2 es Q := by
  intro r p ws H3 hr sm3 np hp he
  refine q r p ws H3 hr (sm.trans sm3) ?_ hp he
  cases z : H p with
  | none => rfl
  | some o =>
    rw [sm _ _ z] at np
    cases np
theorem ok_make_row {f C M fI fS : Addr} {fd fdI fdS : FuncData} (D : C8.Def K mg "make_row" s_make_row f fd) (T : Bi mg) (X : ErrI K mg "BadPlace" C fI) (GI : FnOk P w K mg base L2.CX0 2 fI fdI ["self", "index"] (spIE K)) (bI : Binds K fdI ["self", "index"] [])
    (DS : C8.Def K mg "same_lengths" s_same_lengths fS fdS) (bS : Binds K fdS ["lengths"] []) (GS : FnOk P w K mg base (L2.CX P w) 3 fS fdS ["lengths"] (spSL K M)) (c_gather : C8.Cal P w K mg base 2 "gather" (spGather K) []) :
    FnOk P w K mg base (L2.CX P w) 4 f fd ["entries"] (spMk K C M) := by
  obtain ⟨oc, od, dV, kV, doc, pm, an, cdv, ct, osl, rfl, lk, hcd⟩ := D.fn.ex
  refine fn_of lk hcd sc_make_row (fun vs H Q E h => ?_) fun A outer s H vs Q E hr h => ?_
  · obtain ⟨a, xs, es, rfl, _⟩ := h
    rfl
  · obtain ⟨a, xs, es, rfl, hE, hz, qB, qM, qR⟩ := h
    refine ⟨_, (pss_cons (ps_for (passes_of rfl) rfl (pi_enum (by rfl) T.n_enumerate (pa_cons (pv 0) pa_nil)) (pg_tup rfl (pgs_cons (pg_name (i := 1) sc_make_row.nd rfl (Or.inl rfl)) (pgs_cons (pg_tup rfl (pgs_cons (pg_name (i := 2) sc_make_row.nd rfl (Or.inl rfl)) (pgs_cons (pg_name (i := 3) sc_make_row.nd rfl (Or.inl rfl)) pgs_nil))) pgs_nil))) (pss_one (ps_if (PW.pt (pw_or (pt_cmpR op_lt (pe_callB call_len_seq (by rfl) T.n_len OT.b_len (pa_cons (pv 2) pa_nil)) pe_int (nomark _)) (pw_or1 (pt_cmpR op_gt (pe_callB call_len_seq (by rfl) T.n_len OT.b_len (pa_cons (pv 2) pa_nil)) pe_int (nomark _))))) (pss_one (ps_raise rfl (takes_of rfl rfl rfl rfl) (pmk_oex X.t.ox X.i X.ty GI hr bI .nil pass0 (by rfl) X.g (pa_cons (pv 1) pa_nil)))) pss_nil)))
  (pss_cons (ps_expr (pe_callS GS hr rfl DS.mgf DS.kp bS (fun σ => passAt (takes_of rfl rfl rfl rfl) σ) (pa_cons (pe_lc (own := [("place", 2), ("number", 3)]) (g := (gTup K 2 (gCons (gName 2) (gCons (gName 3) gNil)))) (tt := tYes) rfl sc_make_row.nd (pi_list (pv 0)) (blkOk_by (N := ["entries", "index", "place", "number"]) (sc := C8.fnScope s_make_row) (by decide +kernel)) (fun _ _ _ _ _ => (pg_tup rfl (pgs_cons (pg_name (i := 2) sc_make_row.nd rfl (Or.inl rfl)) (pgs_cons (pg_name (i := 3) sc_make_row.nd rfl (Or.inl rfl)) pgs_nil)))) (fun _ _ _ _ _ => pts_nil) (fun _ _ _ _ _ => (pe_callB (show CallR _ _ (Evl.rLenS K) from call_len_seq) (by rfl) T.n_len OT.b_len (pa_cons (pv 2) pa_nil)))) pa_nil)))
  (pss_one (ps_ret (C8.pe_c c_gather hr (by decide) (by rfl) (pa_cons (pv 0) pa_nil)))))), ?_⟩
    refine ⟨_, rfl, a, _, rfl, hE.l, ?_⟩
    refine for_it (walk_enum (xs := xs)) (fun i σ H2 => ∃ y1 y2 y3, σ = [some (.ref a), y1, y2, y3] ∧ Same H H2 ∧ fbE i (es.drop i) = fbE 0 es) ?_ ?_ ?_ ?_
    · exact ⟨none, none, none, rfl, Same.refl _, rfl⟩
    · rintro i σ H2 _ ⟨_, _, _, _, sm, _⟩
      exact sm.seq hE.l
    · rintro i x σ H2 H3 hi ⟨y1, y2, y3, rfl, sm, e⟩ ⟨t, x1, x2, rfl, nt, rfl, e1, e2⟩
      obtain ⟨en, hen, t2, p, rfl, ht, hp⟩ := (hE.e.mono sm).get e2
      cases e1
      have smt : Same H2 (upd H2 t (.tup [.int (i : Nat), .ref t2])) := same_upd nt
      have sm2 := sm.trans smt
      have hie := (List.getElem?_eq_some_iff.mp hen).1
      have hee := (List.getElem?_eq_some_iff.mp hen).2
      have hP : SqT K (upd H2 t (.tup [.int (i : Nat), .ref t2])) p (en.1.map V.int) := .inl (.inl (smt _ _ hp))
      rw [drop_cons hie, hee] at e
      refine ⟨t, _, rfl, .inl (.inl upd_same), rfl, _, _, rfl, _, _, rfl, t2, _, rfl, .inl (.inl (smt _ _ ht)), rfl, _, _, rfl, _, _, rfl, rfl, rfl, ?_⟩
      refine ⟨_, rfl, p, _, rfl, .inr hP, _, _, rfl, rfl, _, rfl, ?_⟩
      rw [List.length_map]
      have raise : fbE 0 es = some i → tMkO C (spIE K) [] (tCons (tVar 1) tNil) [some (.ref a), some (.int (i : Nat)), some (.ref p), some (.int en.2)] (upd H2 t (.tup [.int (i : Nat), .ref t2])) (fun cls d H' => E cls d H') := fun hi0 => by
        refine ⟨_, rfl, (by show 1 ≤ 1000; decide), fun a na => ⟨a, C, _, _, rfl, upd_same, X.t, fun d nd ne => ?_⟩⟩
        have nd2 : (upd H2 t (.tup [.int (i : Nat), .ref t2])) d = none := by
          rw [upd_ne ne] at nd
          exact nd
        refine ⟨rfl, d, _, ?_, upd_same, nd2, qB i hi0 d _ ?_ upd_same⟩
        · rw [upd_ne ne.symm, upd_same]
        · intro b o hb
          have hb2 := sm2 b o hb
          have nba : b ≠ a := ne_of_none hb2 na
          have nbd : b ≠ d := ne_of_none hb2 nd2
          rw [upd_ne nbd, del_ne nba, upd_ne nbd, upd_ne nba, upd_ne nbd, upd_ne nba]
          exact hb2
      refine iteD (fun h1 => iteT ?_) (fun h1 => ?_)
      · have hb : badE en := .inl (by omega)
        rw [fbE_hit hb] at e
        exact raise e.symm
      · refine ⟨_, rfl, p, _, rfl, .inr hP, _, _, rfl, rfl, _, rfl, ?_⟩
        rw [List.length_map]
        refine iteD (fun h2 => ?_) (fun h2 => ?_)
        · have hb : badE en := .inr (by omega)
          rw [fbE_hit hb] at e
          exact raise e.symm
        · have hb : ¬ badE en := fun hb => by
            rcases hb with hb | hb <;> omega
          rw [fbE_miss hb] at e
          exact ⟨_, _, _, rfl, sm2, e⟩
    · rintro σ H2 ⟨y1, y2, y3, rfl, sm, e⟩
      rw [hE.e.len, List.drop_length] at e
      have hnb := fbE_none e.symm
      have hE2 := hE.mono sm
      refine ⟨_, rfl, a, rfl, ⟨xs, hE2.l⟩, fun p np => ?_⟩
      refine lc_list (K := K) (xs := xs) (fun i H3 => Same H2 H3 ∧ H3 p = some (.lst (((lens es).take i).map V.int))) ?_ ?_ ?_ ?_
      · exact ⟨same_upd np, upd_same⟩
      · rintro i H3 _ ⟨sm3, _⟩
        exact sm3.seq hE2.l
      · rintro i x H3 hx ⟨sm3, hp⟩
        obtain ⟨en, hen, t2, q2, rfl, ht, hq⟩ := (hE2.e.mono sm3).get hx
        obtain ⟨hie, hee⟩ := List.getElem?_eq_some_iff.mp hen
        refine ⟨t2, _, rfl, .inl (.inl ht), rfl, _, _, rfl, _, _, rfl, rfl, rfl, tYes_of ?_⟩
        refine ⟨_, rfl, q2, _, rfl, .inr (.inl (.inl hq)), _, hp, ?_, same_mut sm3 np, ?_⟩
        · rw [List.length_map, List.length_take]
          exact Nat.lt_of_le_of_lt (show min i (lens es).length ≤ 100000 from Nat.le_trans (Nat.min_le_left _ _) (by omega)) (by decide)
        · rw [upd_same, lens_get hie, hee, List.length_map]
      · rintro H3 ⟨sm3, hp⟩
        have hll : (lens es).length = es.length := List.length_map _
        rw [hE.e.len, ← hll, List.take_length] at hp
        have sA := sm.trans sm3
        refine ⟨p, lens es, rfl, .inl (.inl hp), fun n hn => ?_, by omega, fun hm d H4 sm4 hd => qM e.symm hm d H4 (sA.trans sm4) hd, fun hm H4 sm4 => ?_⟩
        · obtain ⟨en, hen, rfl⟩ := List.mem_map.mp hn
          have := hnb en hen
          unfold badE at this
          omega
        · have sB := sA.trans sm4
          refine ⟨_, rfl, a, xs, es, rfl, hE.mono sB, fun en hen z => ?_, (qR e.symm hm).mono sB⟩
          have := hnb en hen
          unfold badE at this
          rw [z] at this
          exact this (.inl (by show 0 < 1; decide))
end
end OT

set_option Elab.async false
set_option linter.all false
set_option maxRecDepth 100000
set_option maxHeartbeats 2000000
namespace OT
open PySem PySem.Spec PyProof.Rows L2
theorem InR.get {ds zs : List Int} (h : InR ds zs) {i : Nat} {z : Int} (hz : zs[i]? = some z) : ∃ d, (ds.map V.int)[i]? = some (.int d) ∧ 0 ≤ d ∧ d < z := by
  have hi : i < ds.length := by
    rw [h.1]
    exact (List.getElem?_eq_some_iff.mp hz).1
  have e : ds[i]? = some ds[i] := List.getElem?_eq_getElem hi
  exact ⟨ds[i], by rw [List.getElem?_map, e]; rfl, h.2 i _ z e hz⟩
theorem cut_take {xs : List Int} {n : Nat} (h : n ≤ xs.length) : cutV (xs.map V.int) none (some (n : Int)) = (xs.take n).map V.int := by
  unfold cutV
  rw [HT.sIx_none, HT.sIx_nat, List.length_map, Nat.min_eq_left h, List.drop_zero, Nat.sub_zero, List.map_take]
section
variable {P : Program} {w : World} {K : PySem.W.Frag} {mg : Str → Option Value} {base : Heap}
theorem Ents.mod {H : Hp} {vs : List V} {es : List Ent} (h : Ents H vs es) (hp : 0 < es.length) (z : Int) : ∃ (v : V) (e : Ent), atI vs (z % (vs.length : Int)) = some v ∧ EntAt H v e ∧ e ∈ es := by
  have hl := h.len
  have h0 : 0 ≤ z % (vs.length : Int) := Int.emod_nonneg _ (by omega)
  have h1 : z % (vs.length : Int) < vs.length := Int.emod_lt_of_pos _ (by omega)
  obtain ⟨j, hj⟩ := Int.eq_ofNat_of_zero_le h0
  rw [hj] at h1 ⊢
  obtain ⟨v, hv, he⟩ := h.at (i := j) (by omega)
  exact ⟨v, _, atI_nat hv, he, List.getElem_mem _⟩
def zsP : List Int := [6, 4, 5, 5, 5, 2001, 2001, 2001, 9, 7, 10, 9]
/-- pairs of places of n coordinates -/
structure PairsN (K : PySem.W.Frag) (H : Hp) (a : Addr) (n : Nat) (vs : List V) (es : List Ent) : Prop where
  l : H a = some (.lst vs)
  e : Ents H vs es
  n : ∀ e ∈ es, e.1.length = n
def spPair (K : PySem.W.Frag) : Sp := fun vs H Q _ => ∃ (a p : Addr) (ds : List Int) (n : Nat) (xs : List V) (es : List Ent), vs = [.ref a, .int (n : Int), .ref p] ∧ SqL K H a (ds.map V.int) ∧ InR ds zsP ∧ 1 ≤ n ∧ n ≤ 3 ∧ PairsN K H p n xs es ∧
  ∀ (v : V) (e : Ent) H', EntAt H' v e → e.1.length = n → Same H H' → Q v H'
theorem c__law_pair {f : Addr} {fd : FuncData} (D : C8.Def K mg "_law_pair" s__law_pair f fd) (b : Binds K fd ["_law_draws_here", "_law_size", "_law_pairs_here"] []) (T : Bi mg) : C8.Cal P w K mg base 1 "_law_pair" (spPair K) [] := by
  refine C8.cal0 D b .nil sc__law_pair (fun vs H Q E h => ?_) (fun cdv A outer s H vs Q E hr h => ?_)
  · obtain ⟨a, p, ds, n, xs, es, rfl, _⟩ := h
    rfl
  · obtain ⟨a, p, ds, n, xs, es, rfl, hS, hin, hn1, hn3, hP, q⟩ := h
    refine ⟨_, (pss_cons (ps_set (i := 3) sc__law_pair.nd rfl (Or.inl rfl) (pe_tup (pa_cons (pe_op op_sub (pe_ix ix_list (pv 0) pe_int (fun _ _ => rfl)) pe_int) (pa_cons (pe_op op_sub (pe_ix ix_list (pv 0) pe_int (fun _ _ => rfl)) pe_int) (pa_cons (pe_op op_sub (pe_ix ix_list (pv 0) pe_int (fun _ _ => rfl)) pe_int) pa_nil)))))
  (C8.pss_cut (ps_if (pt_cmpR op_eq (pe_ix ix_list (pv 0) pe_int (fun _ _ => rfl)) pe_int (nomark _)) (pss_one (ps_set (i := 3) sc__law_pair.nd rfl (Or.inl rfl) (pe_tup (pa_cons (pe_op op_sub (pe_ix ix_list (pv 0) pe_int (fun _ _ => rfl)) pe_int) (pa_cons (pe_op op_sub (pe_ix ix_list (pv 0) pe_int (fun _ _ => rfl)) pe_int) (pa_cons (pe_op op_sub (pe_ix ix_list (pv 0) pe_int (fun _ _ => rfl)) pe_int) pa_nil)))))) pss_nil)
  (pss_cons (ps_set (i := 4) sc__law_pair.nd rfl (Or.inl rfl) (pe_op op_sub (pe_ix ix_list (pv 0) pe_int (fun _ _ => rfl)) pe_int))
  (C8.pss_cut (ps_if (pt_cmpR op_eq (pe_ix ix_list (pv 0) pe_int (fun _ _ => rfl)) pe_int (nomark _)) (pss_one (ps_set (i := 4) sc__law_pair.nd rfl (Or.inl rfl) (pe_op op_sub (pe_op op_pow pe_int pe_int) (pe_ix ix_list (pv 0) pe_int (fun _ _ => rfl))))) pss_nil)
  (C8.pss_cut (ps_if (pt_cmpR op_eq (pe_ix ix_list (pv 0) pe_int (fun _ _ => rfl)) pe_int (nomark _)) (pss_one (ps_set (i := 4) sc__law_pair.nd rfl (Or.inl rfl) (pe_op op_sub (pe_ix ix_list (pv 0) pe_int (fun _ _ => rfl)) (pe_op op_pow pe_int pe_int)))) pss_nil)
  (pss_cons (ps_if (PW.pt (pw_or (pt_cmpR op_eq (pe_callB call_len_seq (by rfl) T.n_len OT.b_len (pa_cons (pv 2) pa_nil)) pe_int (nomark _)) (pw_or1 (pt_cmpR op_gt (pe_ix ix_list (pv 0) pe_int (fun _ _ => rfl)) pe_int (nomark _))))) (pss_one (ps_ret (pe_tup (pa_cons (pe_slice sl_tupA (pv 3) po_none (po_some (pv 1))) (pa_cons (pv 4) pa_nil))))) pss_nil)
  (pss_cons (ps_set (i := 5) sc__law_pair.nd rfl (Or.inl rfl) (pe_ix ix_list (pv 2) (pe_op op_mod (pe_callTy call_int1 (by rfl) T.n_int OT.b_int (pa_cons (pe_ix ix_list (pv 0) pe_int (fun _ _ => rfl)) pa_nil)) (pe_callB call_len_seq (by rfl) T.n_len OT.b_len (pa_cons (pv 2) pa_nil))) (fun _ _ => rfl)))
  (C8.pss_cut (ps_if (pt_cmpR op_eq (pe_ix ix_list (pv 0) pe_int (fun _ _ => rfl)) pe_int (nomark _)) (pss_one (ps_set (i := 4) sc__law_pair.nd rfl (Or.inl rfl) (pe_un un_neg (pe_ix ix_tup (pv 5) pe_int (fun _ _ => rfl))))) pss_nil)
  (pss_one (ps_ret (pe_tup (pa_cons (pe_ix ix_tup (pv 5) pe_int (fun _ _ => rfl)) (pa_cons (pv 4) pa_nil))))))))))))), ?_⟩
    obtain ⟨d0, g0, g0a, g0b⟩ := hin.get (i := 0) (z := 6) rfl
    obtain ⟨d1, g1, g1a, g1b⟩ := hin.get (i := 1) (z := 4) rfl
    obtain ⟨d2, g2, g2a, g2b⟩ := hin.get (i := 2) (z := 5) rfl
    obtain ⟨d3, g3, g3a, g3b⟩ := hin.get (i := 3) (z := 5) rfl
    obtain ⟨d4, g4, g4a, g4b⟩ := hin.get (i := 4) (z := 5) rfl
    obtain ⟨d5, g5, g5a, g5b⟩ := hin.get (i := 5) (z := 2001) rfl
    obtain ⟨d6, g6, g6a, g6b⟩ := hin.get (i := 6) (z := 2001) rfl
    obtain ⟨d7, g7, g7a, g7b⟩ := hin.get (i := 7) (z := 2001) rfl
    obtain ⟨d8, g8, g8a, g8b⟩ := hin.get (i := 8) (z := 9) rfl
    obtain ⟨d9, g9, g9a, g9b⟩ := hin.get (i := 9) (z := 7) rfl
    obtain ⟨d10, g10, g10a, g10b⟩ := hin.get (i := 10) (z := 10) rfl
    obtain ⟨d11, g11, g11a, g11b⟩ := hin.get (i := 11) (z := 9) rfl
    refine ⟨_, rfl, a, _, 2, _, rfl, rfl, hS, atI_nat (j := 2) g2, _, _, rfl, rfl, _, rfl, a, _, 3, _, rfl, rfl, hS, atI_nat (j := 3) g3, _, _, rfl, rfl, _, rfl, a, _, 4, _, rfl, rfl, hS, atI_nat (j := 4) g4, _, _, rfl, rfl, (by show 3 ≤ sizeLine; decide), fun t nt => ?_⟩
    refine ⟨fun σ H3 => ∃ (c : Addr) (x y z : Int), σ = [some (.ref a), some (.int (n : Int)), some (.ref p), some (.ref c), none, none] ∧ Same H H3 ∧ H3 c = some (.tup [.int x, .int y, .int z]), ?_, ?_⟩
    · have sm3 : Same H (upd H t (.tup [.int (d2 - 2), .int (d3 - 2), .int (d4 - 2)])) := same_upd nt
      have L3 := sm3.seq hS
      refine ⟨_, rfl, a, _, 1, _, rfl, rfl, L3, atI_nat (j := 1) g1, rfl, _, rfl, iteD (fun _ => ?_) (fun _ => ?_)⟩
      · refine ⟨_, rfl, a, _, 5, _, rfl, rfl, L3, atI_nat (j := 5) g5, _, _, rfl, rfl, _, rfl, a, _, 6, _, rfl, rfl, L3, atI_nat (j := 6) g6, _, _, rfl, rfl, _, rfl, a, _, 7, _, rfl, rfl, L3, atI_nat (j := 7) g7, _, _, rfl, rfl, (by show 3 ≤ sizeLine; decide), fun t2 nt2 => ?_⟩
        exact ⟨t2, _, _, _, rfl, sm3.trans (same_upd nt2), upd_same⟩
      · exact ⟨t, _, _, _, rfl, sm3, upd_same⟩
    · rintro σ H3 ⟨c, x, y, z, rfl, sm3, hc⟩
      have L3 := sm3.seq hS
      refine ⟨_, rfl, a, _, 9, _, rfl, rfl, L3, atI_nat (j := 9) g9, _, _, rfl, rfl, ?_⟩
      refine ⟨fun σ H4 => ∃ m : Int, σ = [some (.ref a), some (.int (n : Int)), some (.ref p), some (.ref c), some (.int m), none] ∧ H4 = H3, ?_, ?_⟩
      · refine ⟨_, rfl, a, _, 8, _, rfl, rfl, L3, atI_nat (j := 8) g8, rfl, _, rfl, iteD (fun _ => ?_) (fun _ => ?_)⟩
        · exact ⟨10, 12, rfl, rfl, ⟨by decide, by decide⟩, _, rfl, a, _, 10, _, rfl, rfl, L3, atI_nat (j := 10) g10, _, _, rfl, rfl, _, rfl, rfl⟩
        · exact ⟨_, rfl, rfl⟩
      · rintro σ H4 ⟨m, rfl, rfl⟩
        refine ⟨fun σ H5 => ∃ m : Int, σ = [some (.ref a), some (.int (n : Int)), some (.ref p), some (.ref c), some (.int m), none] ∧ H5 = H4, ?_, ?_⟩
        · refine ⟨_, rfl, a, _, 8, _, rfl, rfl, L3, atI_nat (j := 8) g8, rfl, _, rfl, iteD (fun _ => ?_) (fun _ => ?_)⟩
          · exact ⟨_, rfl, a, _, 10, _, rfl, rfl, L3, atI_nat (j := 10) g10, 10, 12, rfl, rfl, ⟨by decide, by decide⟩, _, _, rfl, rfl, _, rfl, rfl⟩
          · exact ⟨_, rfl, rfl⟩
        · rintro σ H5 ⟨m, rfl, rfl⟩
          have hp5 := sm3 _ _ hP.l
          have hSp : SqL K H5 p xs := .inl (.inl hp5)
          have hE5 := hP.e.mono sm3
          have hT : SqT K H5 c [.int x, .int y, .int z] := .inl (.inl hc)
          have hcut : cutV [V.int x, V.int y, V.int z] none (some (n : Int)) = ([x, y, z].take n).map V.int := cut_take (xs := [x, y, z]) (by show n ≤ 3; exact hn3)
          have hlt : ([x, y, z].take n).length = n := by
            rw [List.length_take]
            show min n 3 = n
            omega
          have early : ∀ D : Ends, D.rt = Q → tRet (tTup (tCons (tSl (rSlA K) (tVar 3) tNoPart (tPart (tVar 1))) (tCons (tVar 4) tNil))) D [some (.ref a), some (.int (n : Int)), some (.ref p), some (.ref c), some (.int m), none] H5 := fun D hD => by
            refine ⟨_, rfl, _, rfl, _, rfl, c, _, rfl, hT, fun hw => ?_, fun hw t3 nt3 => ?_⟩
            · have h3 : n = 3 := by
                have h2 := hw.2
                rw [HT.sIx_nat] at h2
                have h4 : min n 3 = 3 := h2
                omega
              refine ⟨_, rfl, (by show 2 ≤ sizeLine; decide), fun t nt => ?_⟩
              rw [hD]
              have sm6 : Same H5 (upd H5 t (.tup [.ref c, .int m])) := same_upd nt
              exact q _ ([x, y, z], m) _ ⟨t, c, rfl, upd_same, sm6 _ _ hc⟩ h3.symm (sm3.trans sm6)
            · refine ⟨_, rfl, (by show 2 ≤ sizeLine; decide), fun t nt => ?_⟩
              rw [hD]
              have sm5 : Same H5 (upd H5 t3 (.tup (cutV [.int x, .int y, .int z] none (some (n : Int))))) := same_upd nt3
              have sm6 : Same (upd H5 t3 (.tup (cutV [.int x, .int y, .int z] none (some (n : Int))))) (upd (upd H5 t3 (.tup (cutV [.int x, .int y, .int z] none (some (n : Int))))) t (.tup [.ref t3, .int m])) := same_upd nt
              refine q _ ([x, y, z].take n, m) _ ⟨t, t3, rfl, upd_same, sm6 _ _ ?_⟩ hlt ((sm3.trans sm5).trans sm6)
              rw [upd_same, hcut]
          refine ⟨_, rfl, p, _, rfl, .inl hSp, rfl, _, rfl, iteD (fun _ => iteT (early _ rfl)) (fun h0 => ?_)⟩
          refine ⟨_, rfl, a, _, 0, _, rfl, rfl, L3, atI_nat (j := 0) g0, _, _, rfl, rfl, _, rfl, iteD (fun _ => early _ rfl) (fun _ => ?_)⟩
          have hpos : 0 < es.length := by
            have h1 := hP.e.len
            have h2 : ¬ (V.int (xs.length : Int) = V.int 0) := h0
            cases z : es.length with
            | zero =>
              rw [z] at h1
              rw [h1] at h2
              exact absurd rfl h2
            | succ k => exact Nat.succ_pos _
          have hlen := hP.e.len
          obtain ⟨v, e, hv, ⟨t, pe, rfl, ht, hpe⟩, hm⟩ := hE5.mod hpos d11
          refine ⟨_, rfl, _, rfl, a, _, 11, _, rfl, rfl, L3, atI_nat (j := 11) g11, .inl ⟨_, rfl, _, rfl, p, _, rfl, .inl hSp, _, _, rfl, rfl, (by show (0 : Int) < (xs.length : Int); omega), p, _, _, _, rfl, rfl, hSp, hv, ?_⟩⟩
          have hTe : SqT K H5 t [.ref pe, .int e.2] := .inl (.inl ht)
          refine ⟨fun σ H6 => ∃ m : Int, σ = [some (.ref a), some (.int (n : Int)), some (.ref p), some (.ref c), some (.int m), some (.ref t)] ∧ H6 = H5, ?_, ?_⟩
          · refine ⟨_, rfl, a, _, 0, _, rfl, rfl, L3, atI_nat (j := 0) g0, rfl, _, rfl, iteD (fun _ => ?_) (fun _ => ?_)⟩
            · exact ⟨_, rfl, t, _, 1, _, rfl, rfl, hTe, atI_nat (j := 1) rfl, _, rfl, _, rfl, rfl⟩
            · exact ⟨_, rfl, rfl⟩
          · rintro σ H6 ⟨m, rfl, rfl⟩
            refine ⟨_, rfl, t, _, 0, _, rfl, rfl, hTe, atI_nat (j := 0) rfl, _, rfl, (by show 2 ≤ sizeLine; decide), fun t2 nt2 => ?_⟩
            have sm6 : Same H6 (upd H6 t2 (.tup [.ref pe, .int m])) := same_upd nt2
            exact q _ (e.1, m) _ ⟨t2, pe, rfl, upd_same, sm6 _ _ hpe⟩ (hP.n e hm) (sm3.trans sm6)
end
end OT

set_option Elab.async false
set_option linter.all false
set_option maxRecDepth 100000
set_option maxHeartbeats 2000000
namespace OT
open PySem PySem.Spec PyProof.Rows L2
section
variable {P : Program} {w : World} {K : PySem.W.Frag} {mg : Str → Option Value} {base : Heap}
theorem PairsN.push {H H' : Hp} {D : Addr} {n : Nat} {vs : List V} {es : List Ent} {v : V} {e : Ent} (h : PairsN K H D n vs es) (s : Same H H') (hv : EntAt H' v e) (he : e.1.length = n) : PairsN K (upd H' D (.lst (vs ++ [v]))) D n (vs ++ [v]) (es ++ [e]) := by
  have hD := s _ _ h.l
  refine ⟨upd_same, ((h.e.mono s).app (.cons hv .nil)).updL hD, fun x hx => ?_⟩
  rcases List.mem_append.mp hx with hx | hx
  · exact h.n x hx
  · rw [List.mem_singleton.mp hx]
    exact he
def spPairs (K : PySem.W.Frag) : Sp := fun vs H Q _ => ∃ (a : Addr) (ns : List Int) (n m : Nat), vs = [.ref a, .int (n : Int), .int (m : Int)] ∧ SqL K H a (ns.map V.int) ∧ 1 ≤ n ∧ n ≤ 3 ∧ m ≤ 9 ∧
  ∀ (p : Addr) (xs : List V) (es : List Ent) H', PairsN K H' p n xs es → es.length = m → Same H H' → H p = none → Q (.ref p) H'
theorem c__law_pairs {f : Addr} {fd : FuncData} (D : C8.Def K mg "_law_pairs" s__law_pairs f fd) (b : Binds K fd ["_law_script", "_law_size", "_law_count"] []) (T : Bi mg) (c__law_cell : C8.Cal P w K mg base 1 "_law_cell" (spCell K) []) (c__law_draws : C8.Cal P w K mg base 1 "_law_draws" (spDraws K) [])
    (c__law_pair : C8.Cal P w K mg base 1 "_law_pair" (spPair K) []) : C8.Cal P w K mg base 2 "_law_pairs" (spPairs K) [] := by
  refine C8.cal0 D b .nil sc__law_pairs (fun vs H Q E h => ?_) (fun cdv A outer s H vs Q E hr h => ?_)
  · obtain ⟨a, ns, n, m, rfl, _⟩ := h
    rfl
  · obtain ⟨a, ns, n, m, rfl, hS, hn1, hn3, hm, q⟩ := h
    refine ⟨_, (pss_cons (ps_set (i := 3) sc__law_pairs.nd rfl (Or.inl rfl) (pe_lst pa_nil))
  (pss_cons (ps_for PassesOwn.never rfl (pi_range1 rfl T.n_range (pa_cons (pv 2) pa_nil)) (pg_name (i := 4) sc__law_pairs.nd rfl (Or.inl rfl)) (pss_cons (ps_set (i := 5) sc__law_pairs.nd rfl (Or.inl rfl) (C8.pe_c c__law_draws hr (by decide) (by rfl) (pa_cons (C8.pe_c c__law_cell hr (by decide) (by rfl) (pa_cons (pv 0) (pa_cons (pe_op op_add pe_int (pv 4)) pa_nil))) (pa_cons (pe_lst (pa_cons pe_int (pa_cons pe_int (pa_cons pe_int (pa_cons pe_int (pa_cons pe_int (pa_cons pe_int (pa_cons pe_int (pa_cons pe_int (pa_cons pe_int (pa_cons pe_int (pa_cons pe_int (pa_cons pe_int pa_nil))))))))))))) pa_nil))))
  (pss_one (ps_expr (pe_bm PySem.F.plainAttrs_list PySem.F.slot_list_append PySem.F.type_list_append mt_append (pv 3) (pa_cons (C8.pe_c c__law_pair hr (by decide) (by rfl) (pa_cons (pv 5) (pa_cons (pv 1) (pa_cons (pv 3) pa_nil)))) pa_nil))))))
  (pss_one (ps_ret (pv 3))))), ?_⟩
    refine ⟨Nat.zero_le _, fun p np => ?_⟩
    have s1 : Same H (upd H p (.lst [])) := same_upd np
    refine ⟨_, rfl, _, rfl, by omega, ?_, ?_⟩
    · have : (2 : Int) ^ 62 = 4611686018427387904 := by decide
      omega
    rw [Int.toNat_natCast]
    refine for_range (fun i σ H2 => ∃ (xs : List V) (es : List Ent) (y4 y5 : Option V), σ = [some (.ref a), some (.int (n : Int)), some (.int (m : Int)), some (.ref p), y4, y5] ∧ Same H H2 ∧ PairsN K H2 p n xs es ∧ es.length = i) ?_ ?_ ?_
    · exact ⟨[], [], none, none, rfl, s1, ⟨upd_same, .nil, fun e he => by cases he⟩, rfl⟩
    · rintro i σ H2 hi ⟨xs, es, y4, y5, rfl, sm, hP, hl⟩
      refine ⟨_, rfl, _, rfl, _, _, rfl, rfl, a, ns, _, rfl, sm.seq hS, by omega, fun c => ?_⟩
      refine ⟨by decide, fun p2 np2 => ?_⟩
      have sm2 : Same H2 (upd H2 p2 (.lst (zsP.map V.int))) := same_upd np2
      refine ⟨p2, zsP, c, rfl, .inl (.inl upd_same), by decide, by decide, fun ds H3 p3 hin sm3 np3 hp3 => ?_⟩
      have smA := sm2.trans sm3
      have hp := smA _ _ hP.l
      refine ⟨_, rfl, .inl ⟨rfl, _, .inl (.inl hp)⟩, _, rfl, _, rfl, _, rfl, p3, p, ds, n, xs, es, rfl, .inl (.inl hp3), hin, hn1, hn3, ⟨hp, hP.e.mono smA, hP.n⟩, fun v e H4 hv he sm4 => ?_⟩
      have hx := hP.e.len
      refine ⟨p, _, _, rfl, rfl, sm4 _ _ hp, small1000 (by omega), ?_⟩
      refine ⟨_, _, _, _, rfl, same_mut (sm.trans (smA.trans sm4)) np, hP.push (smA.trans sm4) hv he, ?_⟩
      rw [List.length_append, hl]
      rfl
    · rintro σ H2 ⟨xs, es, y4, y5, rfl, sm, hP, hl⟩
      exact ⟨_, rfl, q p xs es H2 hP hl sm np⟩
/-! ### what is due -/
def DueIs (K : PySem.W.Frag) (H : Hp) (v : V) (es : List Ent) : Prop :=
  (∃ (i : Nat) (t : Addr), fbE 0 es = some i ∧ v = .ref t ∧ H t = some (.tup [.str "BadPlace", .int (i : Nat)])) ∨
  (fbE 0 es = none ∧ mixL (lens es) = true ∧ ∃ t : Addr, v = .ref t ∧ H t = some (.tup [.str "MixedDimensions", .int 0])) ∨
  (fbE 0 es = none ∧ mixL (lens es) = false ∧ ∃ (t p : Addr) (ws : List V) (r : List Ent), v = .ref t ∧ H t = some (.tup [.str "row", .ref p]) ∧ H p = some (.lst ws) ∧ Ents H ws r ∧ RowIs r es)
def spDue (K : PySem.W.Frag) : Sp := fun vs H Q _ => ∃ (a : Addr) (xs : List V) (es : List Ent), vs = [.ref a] ∧ InEnts K H a xs es ∧ es.length ≤ 1000 ∧ ∀ v H', DueIs K H' v es → Same H H' → Q v H'
/-- from place i on -/
def mixFrom (z : Int) (ns : List Int) (i : Nat) : Bool := ((ns.drop i).map fun m => !decide (V.int m = V.int z)).any id
theorem c__law_due {f : Addr} {fd : FuncData} (D : C8.Def K mg "_law_due" s__law_due f fd) (b : Binds K fd ["_law_pairs_here"] []) (T : Bi mg) (c__law_row : C8.Cal P w K mg base 1 "_law_row" (spGather K) []) : C8.Cal P w K mg base 2 "_law_due" (spDue K) [] := by
  refine C8.cal0 D b .nil sc__law_due (fun vs H Q E h => ?_) (fun cdv A outer s H vs Q E hr h => ?_)
  · obtain ⟨a, xs, es, rfl, _⟩ := h
    rfl
  · obtain ⟨a, xs, es, rfl, hE, hz, q⟩ := h
    have hS := hE.l
    have hx := hE.e.len
    have hb : ((xs.length : Nat) : Int) < 2 ^ 62 := by
      have : (2 : Int) ^ 62 = 4611686018427387904 := by decide
      omega
    refine ⟨_, (pss_cons (ps_for PassesOwn.never rfl (pi_range1 rfl T.n_range (pa_cons (pe_callB call_len_seq (by rfl) T.n_len OT.b_len (pa_cons (pv 0) pa_nil)) pa_nil)) (pg_name (i := 1) sc__law_due.nd rfl (Or.inl rfl)) (pss_one (ps_if (PW.pt (pw_or (pt_cmpR op_lt (pe_callB call_len_seq (by rfl) T.n_len OT.b_len (pa_cons (pe_ix ix_tup (pe_ix ix_list (pv 0) (pv 1) (fun _ _ => rfl)) pe_int (fun _ _ => rfl)) pa_nil)) pe_int (nomark _)) (pw_or1 (pt_cmpR op_gt (pe_callB call_len_seq (by rfl) T.n_len OT.b_len (pa_cons (pe_ix ix_tup (pe_ix ix_list (pv 0) (pv 1) (fun _ _ => rfl)) pe_int (fun _ _ => rfl)) pa_nil)) pe_int (nomark _))))) (pss_one (ps_ret (pe_tup (pa_cons pe_str (pa_cons (pv 1) pa_nil))))) pss_nil)))
  (pss_cons (ps_for PassesOwn.never rfl (pi_range1 rfl T.n_range (pa_cons (pe_callB call_len_seq (by rfl) T.n_len OT.b_len (pa_cons (pv 0) pa_nil)) pa_nil)) (pg_name (i := 1) sc__law_due.nd rfl (Or.inl rfl)) (pss_one (ps_if (pt_cmpR op_ne (pe_callB call_len_seq (by rfl) T.n_len OT.b_len (pa_cons (pe_ix ix_tup (pe_ix ix_list (pv 0) (pv 1) (fun _ _ => rfl)) pe_int (fun _ _ => rfl)) pa_nil)) (pe_callB call_len_seq (by rfl) T.n_len OT.b_len (pa_cons (pe_ix ix_tup (pe_ix ix_list (pv 0) pe_int (fun _ _ => rfl)) pe_int (fun _ _ => rfl)) pa_nil)) (nomark _)) (pss_one (ps_ret (pe_tup (pa_cons pe_str (pa_cons pe_int pa_nil))))) pss_nil)))
  (pss_one (ps_ret (pe_tup (pa_cons pe_str (pa_cons (C8.pe_c c__law_row hr (by decide) (by rfl) (pa_cons (pv 0) pa_nil)) pa_nil))))))), ?_⟩
    refine ⟨_, rfl, a, _, rfl, .inl hS, _, rfl, by omega, hb, ?_⟩
    rw [Int.toNat_natCast, hx]
    refine for_range (fun i σ H2 => ∃ y, σ = [some (.ref a), y] ∧ H2 = H ∧ fbE i (es.drop i) = fbE 0 es) ⟨none, rfl, rfl, rfl⟩ ?_ ?_
    · rintro i σ H2 hi ⟨y, rfl, rfl, e⟩
      obtain ⟨v, hv, t, p, rfl, ht, hp⟩ := hE.e.at hi
      have hT : SqT K H2 t [.ref p, .int es[i].2] := .inl (.inl ht)
      have hP : SqT K H2 p (es[i].1.map V.int) := .inl (.inl hp)
      have hix : atI xs ((0 : Int) + (i : Int)) = some (.ref t) := by rw [Int.zero_add]; exact atI_nat hv
      rw [drop_cons hi] at e
      have out : fbE 0 es = some i → ∀ D : Ends, D.rt = Q → tRet (tTup (tCons (tC (.str "BadPlace")) (tCons (tVar 1) tNil))) D [some (.ref a), some (.int ((0 : Int) + (i : Int)))] H2 := fun h0 D hD => by
        refine ⟨_, rfl, (by show 2 ≤ sizeLine; decide), fun t2 nt2 => ?_⟩
        rw [hD]
        refine q _ _ (.inl ⟨i, t2, h0, rfl, ?_⟩) (same_upd nt2)
        rw [upd_same, Int.zero_add]
      refine ⟨_, rfl, _, rfl, a, _, _, _, rfl, rfl, hS, hix, t, _, 0, _, rfl, rfl, hT, atI_nat (j := 0) rfl, p, _, rfl, .inr hP, _, _, rfl, rfl, _, rfl, ?_⟩
      rw [List.length_map]
      refine iteD (fun h1 => iteT ?_) (fun h1 => ?_)
      · rw [fbE_hit (show badE es[i] from .inl (by omega))] at e
        exact out e.symm _ rfl
      · refine ⟨_, rfl, _, rfl, a, _, _, _, rfl, rfl, hS, hix, t, _, 0, _, rfl, rfl, hT, atI_nat (j := 0) rfl, p, _, rfl, .inr hP, _, _, rfl, rfl, _, rfl, ?_⟩
        rw [List.length_map]
        refine iteD (fun h2 => ?_) (fun h2 => ?_)
        · rw [fbE_hit (show badE es[i] from .inr (by omega))] at e
          exact out e.symm _ rfl
        · rw [fbE_miss (show ¬ badE es[i] from fun hb => by rcases hb with hb | hb <;> omega)] at e
          exact ⟨_, rfl, rfl, e⟩
    · rintro σ H2 ⟨y, rfl, rfl, e⟩
      rw [List.drop_length] at e
      have hnb := fbE_none e.symm
      have hll : (lens es).length = es.length := List.length_map _
      refine ⟨_, rfl, a, _, rfl, .inl hS, _, rfl, by omega, hb, ?_⟩
      rw [Int.toNat_natCast, hx]
      refine for_range (fun i σ H2' => ∃ y, σ = [some (.ref a), y] ∧ H2' = H2 ∧ mixFrom ((lens es).headD 0) (lens es) i = mixL (lens es)) ⟨_, rfl, rfl, rfl⟩ ?_ ?_
      · rintro i σ H3 hi ⟨y, rfl, rfl, em⟩
        obtain ⟨v, hv, t, p, rfl, ht, hp⟩ := hE.e.at hi
        obtain ⟨v0, hv0, t0, p0, rfl, ht0, hp0⟩ := hE.e.at (i := 0) (by omega)
        have hT : SqT K H3 t [.ref p, .int es[i].2] := .inl (.inl ht)
        have hP : SqT K H3 p (es[i].1.map V.int) := .inl (.inl hp)
        have hT0 : SqT K H3 t0 [.ref p0, .int (es[0]'(by omega)).2] := .inl (.inl ht0)
        have hP0 : SqT K H3 p0 ((es[0]'(by omega)).1.map V.int) := .inl (.inl hp0)
        have hix : atI xs ((0 : Int) + (i : Int)) = some (.ref t) := by rw [Int.zero_add]; exact atI_nat hv
        have hh : (lens es).headD 0 = ((es[0]'(by omega)).1.length : Int) := by
          cases es with
          | nil => exact absurd hi (Nat.not_lt_zero _)
          | cons e r => rfl
        have hi2 : i < (lens es).length := by rw [hll]; exact hi
        have hli : (lens es)[i] = (es[i].1.length : Int) := List.getElem_map _
        have step : mixFrom ((lens es).headD 0) (lens es) i = ((!decide (V.int (es[i].1.length : Int) = V.int ((es[0]'(by omega)).1.length : Int))) || mixFrom ((lens es).headD 0) (lens es) (i + 1)) := by
          unfold mixFrom
          rw [drop_cons hi2, List.map_cons, List.any_cons, hli, hh]
          rfl
        rw [step] at em
        refine ⟨_, rfl, _, rfl, a, _, _, _, rfl, rfl, hS, hix, t, _, 0, _, rfl, rfl, hT, atI_nat (j := 0) rfl, p, _, rfl, .inr hP, _, rfl, a, _, 0, _, rfl, rfl, hS, atI_nat (j := 0) hv0, t0, _, 0, _, rfl, rfl, hT0, atI_nat (j := 0) rfl, p0, _, rfl, .inr hP0, rfl, _, rfl, ?_⟩
        rw [List.length_map, List.length_map]
        refine iteND (fun h1 => ?_) (fun h1 => ?_)
        · rw [decide_eq_false h1] at em
          refine ⟨(by show 2 ≤ sizeLine; decide), fun t2 nt2 => ?_⟩
          exact q _ _ (.inr (.inl ⟨e.symm, em.symm, t2, rfl, upd_same⟩)) (same_upd nt2)
        · rw [decide_eq_true h1] at em
          exact ⟨_, rfl, rfl, em⟩
      · rintro σ H3 ⟨y, rfl, rfl, em⟩
        have hm0 : mixL (lens es) = false := by
          rw [← em, ← hll]
          unfold mixFrom
          rw [List.drop_length]
          rfl
        refine ⟨_, rfl, a, xs, es, rfl, hE, fun en hen z => ?_, fun r p ws H4 hr sm np hp he => ?_⟩
        · have := hnb en hen
          unfold badE at this
          rw [z] at this
          exact this (.inl (by show 0 < 1; decide))
        · refine ⟨(by show 2 ≤ sizeLine; decide), fun t2 nt2 => ?_⟩
          have smt : Same H4 (upd H4 t2 (.tup [.str "row", .ref p])) := same_upd nt2
          exact q _ _ (.inr (.inr ⟨e.symm, hm0, t2, p, ws, r, rfl, upd_same, smt _ _ hp, he.mono smt, hr⟩)) (sm.trans smt)
end
end OT

set_option Elab.async false
set_option linter.all false
set_option maxRecDepth 100000
set_option maxHeartbeats 2000000
namespace OT
open PySem PySem.Spec PyProof.Rows L2
section
variable {P : Program} {w : World} {K : PySem.W.Frag} {mg : Str → Option Value} {base : Heap}
theorem ixN_nat {n j : Nat} (h : j < n) : ixN n (j : Int) = some j := by
  unfold ixN
  rw [if_pos (by omega), if_pos (by omega), Int.toNat_natCast]
theorem mod_nat {n : Nat} (h : 0 < n) (z : Int) : ∃ j : Nat, z % (n : Int) = (j : Int) ∧ j < n := by
  have h0 : 0 ≤ z % (n : Int) := Int.emod_nonneg _ (by omega)
  have h1 : z % (n : Int) < n := Int.emod_lt_of_pos _ (by omega)
  obtain ⟨j, hj⟩ := Int.eq_ofNat_of_zero_le h0
  exact ⟨j, hj, by omega⟩
/-- the list that is spoilt -/
structure Spo (H H3 : Hp) (n : Nat) (sp : Addr) (ys : List V) (fs : List Ent) : Prop where
  s : Same H H3
  np : H sp = none
  l : H3 sp = some (.lst ys)
  e : Ents H3 ys fs
  lo : n ≤ fs.length
  hi : fs.length ≤ n + 2
theorem Spo.mono {H H3 H4 : Hp} {n : Nat} {sp : Addr} {ys : List V} {fs : List Ent} (h : Spo H H3 n sp ys fs) (s : Same H3 H4) : Spo H H4 n sp ys fs := ⟨h.s.trans s, h.np, s _ _ h.l, h.e.mono s, h.lo, h.hi⟩
theorem Spo.set {H H3 : Hp} {n j : Nat} {sp : Addr} {ys : List V} {fs : List Ent} {v : V} {e : Ent} (h : Spo H H3 n sp ys fs) (hv : EntAt H3 v e) : Spo H (upd H3 sp (.lst (ys.set j v))) n sp (ys.set j v) (fs.set j e) :=
  ⟨same_mut h.s h.np, h.np, upd_same, (h.e.set hv j).updL h.l, by rw [List.length_set]; exact h.lo, by rw [List.length_set]; exact h.hi⟩
def zsS : List Int := [8, 36, 36, 4, 2]
def spSpoilt (K : PySem.W.Frag) : Sp := fun vs H Q _ => ∃ (a d : Addr) (n : Nat) (xs : List V) (es : List Ent) (ds : List Int), vs = [.ref a, .int (n : Int), .ref d] ∧ H a = some (.lst xs) ∧ Ents H xs es ∧ es.length ≤ 100 ∧ SqL K H d (ds.map V.int) ∧ InR ds zsS ∧
  ∀ (p : Addr) (ys : List V) (fs : List Ent) H', H' p = some (.lst ys) → Ents H' ys fs → fs.length ≤ es.length + 2 → Same H H' → Q (.ref p) H'
theorem four_ix {j : Nat} (h : j < 4) : ∃ m : Nat, m ≤ 6 ∧ [V.int 0, V.int 4, V.int 5, V.int 6][j]? = some (.int (m : Int)) := by
  match j, h with
  | 0, _ => exact ⟨0, by decide, rfl⟩
  | 1, _ => exact ⟨4, by decide, rfl⟩
  | 2, _ => exact ⟨5, by decide, rfl⟩
  | 3, _ => exact ⟨6, by decide, rfl⟩
theorem c__law_spoilt {f : Addr} {fd : FuncData} (D : C8.Def K mg "_law_spoilt" s__law_spoilt f fd) (b : Binds K fd ["_law_pairs_here", "_law_size", "_law_draws_here"] []) (T : Bi mg) : C8.Cal P w K mg base 1 "_law_spoilt" (spSpoilt K) [] := by
  refine C8.cal0 D b .nil sc__law_spoilt (fun vs H Q E h => ?_) (fun cdv A outer s H vs Q E hr h => ?_)
  · obtain ⟨a, d, n, xs, es, ds, rfl, _⟩ := h
    rfl
  · obtain ⟨a, d, n, xs, es, ds, rfl, ha, hE, hz, hd, hin, q⟩ := h
    obtain ⟨d0, g0, g0a, g0b⟩ := hin.get (i := 0) (z := 8) rfl
    obtain ⟨d1, g1, g1a, g1b⟩ := hin.get (i := 1) (z := 36) rfl
    obtain ⟨d2, g2, g2a, g2b⟩ := hin.get (i := 2) (z := 36) rfl
    obtain ⟨d3, g3, g3a, g3b⟩ := hin.get (i := 3) (z := 4) rfl
    obtain ⟨d4, g4, g4a, g4b⟩ := hin.get (i := 4) (z := 2) rfl
    have hS : SqL K H a xs := .inl (.inl ha)
    refine ⟨_, (pss_cons (ps_set (i := 3) sc__law_spoilt.nd rfl (Or.inl rfl) (pe_callTy call_list_of (by rfl) T.n_list OT.b_list (pa_cons (pv 0) pa_nil)))
  (pss_cons (ps_if (pt_cmpR op_eq (pe_callB call_len_seq (by rfl) T.n_len OT.b_len (pa_cons (pv 0) pa_nil)) pe_int (nomark _)) (pss_one (ps_ret (pv 3))) pss_nil)
  (pss_cons (ps_set (i := 4) sc__law_spoilt.nd rfl (Or.inl rfl) (pe_ix ix_list (pv 2) pe_int (fun _ _ => rfl)))
  (pss_cons (ps_set (i := 5) sc__law_spoilt.nd rfl (Or.inl rfl) (pe_op op_mod (pe_callTy call_int1 (by rfl) T.n_int OT.b_int (pa_cons (pe_ix ix_list (pv 2) pe_int (fun _ _ => rfl)) pa_nil)) (pe_callB call_len_seq (by rfl) T.n_len OT.b_len (pa_cons (pv 0) pa_nil))))
  (pss_cons (ps_set (i := 6) sc__law_spoilt.nd rfl (Or.inl rfl) (pe_op op_mod (pe_callTy call_int1 (by rfl) T.n_int OT.b_int (pa_cons (pe_ix ix_list (pv 2) pe_int (fun _ _ => rfl)) pa_nil)) (pe_callB call_len_seq (by rfl) T.n_len OT.b_len (pa_cons (pv 0) pa_nil))))
  (pss_cons (ps_set (i := 7) sc__law_spoilt.nd rfl (Or.inl rfl) (pe_callTy call_tuple_of (by rfl) T.n_tuple OT.b_tuple (pa_cons (pe_lc (own := [("_law_k", 9)]) (g := (gName 9)) (tt := tYes) rfl sc__law_spoilt.nd (pi_range1 rfl T.n_range (pa_cons (pe_ix ix_list (pe_lst (pa_cons pe_int (pa_cons pe_int (pa_cons pe_int (pa_cons pe_int pa_nil))))) (pe_ix ix_list (pv 2) pe_int (fun _ _ => rfl)) (fun _ _ => rfl)) pa_nil)) (blkOk_by (N := ["_law_pairs_here", "_law_size", "_law_draws_here", "_law_spoilt_here", "_law_mode", "_law_first", "_law_second", "_law_bad", "_law_other", "_law_k"]) (sc := C8.fnScope s__law_spoilt) (by decide +kernel)) (fun _ _ _ _ _ => (pg_name (i := 9) sc__law_spoilt.nd rfl (Or.inl rfl))) (fun _ _ _ _ _ => pts_nil) (fun _ _ _ _ _ => (pe_op op_sub (pv 9) pe_int))) pa_nil)))
  (pss_cons (ps_set (i := 8) sc__law_spoilt.nd rfl (Or.inl rfl) (pe_callTy call_tuple_of (by rfl) T.n_tuple OT.b_tuple (pa_cons (pe_lc (own := [("_law_k", 9)]) (g := (gName 9)) (tt := tYes) rfl sc__law_spoilt.nd (pi_range1 rfl T.n_range (pa_cons (pe_op op_add pe_int (pe_op op_mod (pe_callTy call_int1 (by rfl) T.n_int OT.b_int (pa_cons (pe_op op_add (pv 1) (pe_ix ix_list (pv 2) pe_int (fun _ _ => rfl))) pa_nil)) pe_int)) pa_nil)) (blkOk_by (N := ["_law_pairs_here", "_law_size", "_law_draws_here", "_law_spoilt_here", "_law_mode", "_law_first", "_law_second", "_law_bad", "_law_other", "_law_k"]) (sc := C8.fnScope s__law_spoilt) (by decide +kernel)) (fun _ _ _ _ _ => (pg_name (i := 9) sc__law_spoilt.nd rfl (Or.inl rfl))) (fun _ _ _ _ _ => pts_nil) (fun _ _ _ _ _ => (pv 9))) pa_nil)))
  (C8.pss_cut (ps_if (pt_cmpR op_eq (pv 4) pe_int (nomark _)) (pss_one (ps_asg (pe_tup (pa_cons (pe_tup pa_nil) (pa_cons (pe_ix ix_tup (pe_ix ix_list (pv 0) (pv 6) (fun _ _ => rfl)) pe_int (fun _ _ => rfl)) pa_nil))) (pg_sub (pv 3) (pv 6) set_list))) pss_nil)
  (C8.pss_cut (ps_if (PW.pt (pw_or (pt_cmpR op_eq (pv 4) pe_int (nomark _)) (pw_or1 (pt_cmpR op_eq (pv 4) pe_int (nomark _))))) (pss_one (ps_asg (pe_tup (pa_cons (pv 8) (pa_cons (pe_ix ix_tup (pe_ix ix_list (pv 0) (pv 6) (fun _ _ => rfl)) pe_int (fun _ _ => rfl)) pa_nil))) (pg_sub (pv 3) (pv 6) set_list))) pss_nil)
  (C8.pss_cut (ps_if (pt_cmpR op_eq (pv 4) pe_int (nomark _)) (pss_one (ps_asg (pe_tup (pa_cons (pv 8) (pa_cons pe_int pa_nil))) (pg_sub (pv 3) (pv 6) set_list))) pss_nil)
  (C8.pss_cut (ps_if (PW.pt (pw_and (pt_cmpR op_eq (pv 4) pe_int (nomark _)) (pw_and1 (pt_cmpR op_gt (pe_ix ix_list (pv 2) pe_int (fun _ _ => rfl)) pe_int (nomark _))))) (pss_one (ps_set (i := 3) sc__law_spoilt.nd rfl (Or.inl rfl) (pe_op op_cat (pe_callTy call_list_of (by rfl) T.n_list OT.b_list (pa_cons (pv 0) pa_nil)) (pe_lst (pa_cons (pe_tup (pa_cons (pv 8) (pa_cons pe_int pa_nil))) (pa_cons (pe_tup (pa_cons (pv 8) (pa_cons (pe_un un_neg pe_int) pa_nil))) pa_nil)))))) pss_nil)
  (C8.pss_cut (ps_if (PW.pt (pw_or (pt_cmpR op_eq (pv 4) pe_int (nomark _)) (pw_or (pt_cmpR op_eq (pv 4) pe_int (nomark _)) (pw_or1 (pt_cmpR op_eq (pv 4) pe_int (nomark _)))))) (pss_one (ps_asg (pe_tup (pa_cons (pv 7) (pa_cons (pe_ix ix_tup (pe_ix ix_list (pv 0) (pv 5) (fun _ _ => rfl)) pe_int (fun _ _ => rfl)) pa_nil))) (pg_sub (pv 3) (pv 5) set_list))) pss_nil)
  (pss_one (ps_ret (pv 3))))))))))))))), ?_⟩
    refine ⟨_, rfl, a, _, rfl, .inl hS, fun sp nsp => ?_⟩
    have s1 : Same H (upd H sp (.lst xs)) := same_upd nsp
    refine ⟨_, rfl, a, _, rfl, .inl (s1.seq hS), rfl, _, rfl, iteD (fun _ => ?_) (fun h0 => ?_)⟩
    · exact ⟨_, rfl, q sp xs es _ upd_same (hE.mono s1) (by omega) s1⟩
    have hx := hE.len
    have hpos : 0 < xs.length := by
      have h2 : ¬ (V.int (xs.length : Int) = V.int 0) := h0
      cases z : xs.length with
      | zero =>
        rw [z] at h2
        exact absurd rfl h2
      | succ k => exact Nat.succ_pos _
    have hi0 : (0 : Int) < (xs.length : Int) := by omega
    have hd1 := s1.seq hd
    refine ⟨_, rfl, d, _, 0, _, rfl, rfl, hd1, atI_nat (j := 0) g0, ?_⟩
    refine ⟨_, rfl, d, _, 1, _, rfl, rfl, hd1, atI_nat (j := 1) g1, .inl ⟨_, rfl, _, rfl, a, _, rfl, .inl (s1.seq hS), _, _, rfl, rfl, hi0, ?_⟩⟩
    refine ⟨_, rfl, d, _, 2, _, rfl, rfl, hd1, atI_nat (j := 2) g2, .inl ⟨_, rfl, _, rfl, a, _, rfl, .inl (s1.seq hS), _, _, rfl, rfl, hi0, ?_⟩⟩
    obtain ⟨j1, e1, hj1⟩ := mod_nat hpos d1
    obtain ⟨j2, e2, hj2⟩ := mod_nat hpos d2
    obtain ⟨k3, rfl⟩ := Int.eq_ofNat_of_zero_le g3a
    obtain ⟨m3, hm3, hix3⟩ := four_ix (show k3 < 4 by omega)
    have b62 : (2 : Int) ^ 62 = 4611686018427387904 := by decide
    refine ⟨by decide, fun p1 np1 => ?_⟩
    have s2 : Same (upd H sp (.lst xs)) (upd (upd H sp (.lst xs)) p1 (.lst [.int 0, .int 4, .int 5, .int 6])) := same_upd np1
    refine ⟨_, rfl, d, _, 3, _, rfl, rfl, s2.seq hd1, atI_nat (j := 3) g3, p1, _, _, _, rfl, rfl, .inl (.inl upd_same), atI_nat hix3, ?_⟩
    refine ⟨_, rfl, by omega, by omega, fun p2 np2 => ?_⟩
    rw [Int.toNat_natCast]
    have S0 : Spo H (upd H sp (.lst xs)) es.length sp xs es := ⟨s1, nsp, upd_same, hE.mono s1, Nat.le_refl _, by omega⟩
    have S1 := S0.mono s2
    refine lc_range (lo := 0) (n := m3) (fun i H4 => ∃ zs : List Int, zs.length = i ∧ Same (upd (upd H sp (.lst xs)) p1 (.lst [.int 0, .int 4, .int 5, .int 6])) H4 ∧ H4 p2 = some (.lst (zs.map V.int))) ⟨[], rfl, same_upd np2, upd_same⟩ ?_ ?_
    · rintro i H4 hi ⟨zs, hzl, sm, hp⟩
      refine ⟨rfl, tYes_of ?_⟩
      refine ⟨_, rfl, _, _, rfl, rfl, _, hp, ?_, zs ++ [0 + (i : Int) - 1], by rw [List.length_append, hzl]; rfl, same_mut sm np2, ?_⟩
      · rw [List.length_map]
        exact small1000 (by omega)
      · rw [upd_same, List.map_append]
        rfl
    rintro H4 ⟨zs, hzl, sm4, hp2⟩
    have S4 := S1.mono sm4
    refine ⟨p2, _, rfl, .inl ⟨.inl (.inl hp2), fun bad nbad => ?_⟩⟩
    have S5 := S4.mono (same_upd (o := .tup (zs.map V.int)) nbad)
    have hbad : (upd H4 bad (.tup (zs.map V.int))) bad = some (.tup (zs.map V.int)) := upd_same
    generalize upd H4 bad (.tup (zs.map V.int)) = H5 at S5 hbad ⊢
    refine ⟨_, rfl, _, rfl, d, _, 4, _, rfl, rfl, S5.s.seq hd, atI_nat (j := 4) g4, _, _, rfl, rfl, .inl ⟨_, rfl, _, _, rfl, rfl, by show (0 : Int) < 3; decide, _, _, rfl, rfl, _, rfl, by omega, by omega, fun p6 np6 => ?_⟩⟩
    generalize hk6 : (1 + ((n : Int) + d4) % 3).toNat = k6
    have hk6' : k6 ≤ 3 := by omega
    refine lc_range (lo := 0) (n := k6) (fun i H6 => ∃ zs : List Int, zs.length = i ∧ Same H5 H6 ∧ H6 p6 = some (.lst (zs.map V.int))) ⟨[], rfl, same_upd np6, upd_same⟩ ?_ ?_
    · rintro i H6 hi ⟨zs6, hzl6, sm, hp⟩
      refine ⟨rfl, tYes_of ?_⟩
      refine ⟨_, rfl, _, hp, ?_, zs6 ++ [0 + (i : Int)], by rw [List.length_append, hzl6]; rfl, same_mut sm np6, ?_⟩
      · rw [List.length_map]
        exact small1000 (by omega)
      · rw [upd_same, List.map_append]
        rfl
    rintro H6 ⟨zs6, hzl6, sm6, hp6⟩
    refine ⟨p6, _, rfl, .inl ⟨.inl (.inl hp6), fun oth noth => ?_⟩⟩
    have S7 := S5.mono (sm6.trans (same_upd (o := .tup (zs6.map V.int)) noth))
    have hoth : (upd H6 oth (.tup (zs6.map V.int))) oth = some (.tup (zs6.map V.int)) := upd_same
    have hbad7 := (sm6.trans (same_upd (o := .tup (zs6.map V.int)) noth)) _ _ hbad
    generalize upd H6 oth (.tup (zs6.map V.int)) = H7 at S7 hoth hbad7 ⊢
    let M : L2.St → Hp → Prop := fun σ H3 => ∃ (sp : Addr) (ys : List V) (fs : List Ent), σ = [some (.ref a), some (.int (n : Int)), some (.ref d), some (.ref sp), some (.int d0), some (.int (d1 % (xs.length : Int))), some (.int (d2 % (xs.length : Int))), some (.ref bad), some (.ref oth), none] ∧
      H3 bad = some (.tup (zs.map V.int)) ∧ H3 oth = some (.tup (zs6.map V.int)) ∧ Spo H H3 es.length sp ys fs
    obtain ⟨v1, hv1, t1, q1, rfl, ht1, hq1⟩ := hE.at (i := j1) (by omega)
    obtain ⟨v2, hv2, t2, q2, rfl, ht2, hq2⟩ := hE.at (i := j2) (by omega)
    have ha1 : atI xs (d1 % (xs.length : Int)) = some (.ref t1) := by rw [e1]; exact atI_nat hv1
    have ha2 : atI xs (d2 % (xs.length : Int)) = some (.ref t2) := by rw [e2]; exact atI_nat hv2
    -- a list that is set at j to a new entry
    have done : ∀ {H3 : Hp} {sp : Addr} {ys : List V} {fs : List Ent} (j : Nat) (z : Int) (hz : z = (j : Int)) (hj : j < xs.length) (pl : Addr) (k : Pl) (m : Int) (t3 : Addr), H3 t3 = none → H3 pl = some (.tup (k.map V.int)) → H3 bad = some (.tup (zs.map V.int)) → H3 oth = some (.tup (zs6.map V.int)) → Spo H H3 es.length sp ys fs →
        (upd H3 t3 (.tup [.ref pl, .int m])) sp = some (.lst ys) ∧ ixN ys.length z = some j ∧
        M [some (.ref a), some (.int (n : Int)), some (.ref d), some (.ref sp), some (.int d0), some (.int (d1 % (xs.length : Int))), some (.int (d2 % (xs.length : Int))), some (.ref bad), some (.ref oth), none] (upd (upd H3 t3 (.tup [.ref pl, .int m])) sp (.lst (ys.set j (.ref t3)))) := by
      intro H3 sp ys fs j z hz hj pl k m t3 nt3 hpl hb ho S
      have sm : Same H3 (upd H3 t3 (.tup [.ref pl, .int m])) := same_upd nt3
      have S2 := S.mono sm
      refine ⟨S2.l, ?_, sp, ys.set j (.ref t3), fs.set j (k, m), rfl, ?_, ?_, S2.set ⟨t3, pl, rfl, upd_same, sm _ _ hpl⟩⟩
      · rw [hz]
        refine ixN_nat ?_
        have h1 := S2.e.len
        have h2 := S2.lo
        omega
      · rw [upd_ne (ne_lst (sm _ _ hb) S2.l)]
        exact sm _ _ hb
      · rw [upd_ne (ne_lst (sm _ _ ho) S2.l)]
        exact sm _ _ ho
    refine ⟨M, ?_, ?_⟩
    · refine ⟨_, rfl, rfl, _, rfl, iteD (fun _ => ?_) (fun _ => ?_)⟩
      · refine ⟨(by show 0 ≤ sizeLine; decide), fun t0 nt0 => ?_⟩
        have sm0 : Same H7 (upd H7 t0 (.tup [])) := same_upd nt0
        have S8 := S7.mono sm0
        refine ⟨_, rfl, _, rfl, a, _, _, _, rfl, rfl, S8.s.seq hS, ha2, t2, _, 1, _, rfl, rfl, .inl (.inl (S8.s _ _ ht2)), atI_nat (j := 1) rfl, (by show 2 ≤ sizeLine; decide), fun t3 nt3 => ?_⟩
        obtain ⟨k1, k2, k3⟩ := done j2 _ e2 hj2 t0 [] es[j2].2 t3 nt3 upd_same (sm0 _ _ hbad7) (sm0 _ _ hoth) S8
        exact ⟨_, rfl, _, rfl, sp, _, _, j2, rfl, rfl, k1, k2, k3⟩
      · exact ⟨sp, xs, es, rfl, hbad7, hoth, S7⟩
    rintro σ H8 ⟨sp1, ys1, fs1, rfl, hb8, ho8, S8⟩
    refine ⟨M, ?_, ?_⟩
    · refine ⟨_, rfl, rfl, _, rfl, iteD (fun _ => iteT ?b1) (fun _ => ?c1)⟩
      case c1 =>
        refine ⟨_, rfl, rfl, _, rfl, iteD (fun _ => ?b2) (fun _ => ?c2)⟩
        case c2 => exact ⟨sp1, ys1, fs1, rfl, hb8, ho8, S8⟩
        case b2 =>
          refine ⟨_, rfl, _, rfl, _, rfl, a, _, _, _, rfl, rfl, S8.s.seq hS, ha2, t2, _, 1, _, rfl, rfl, .inl (.inl (S8.s _ _ ht2)), atI_nat (j := 1) rfl, (by show 2 ≤ sizeLine; decide), fun t3 nt3 => ?_⟩
          obtain ⟨k1, k2, k3⟩ := done j2 _ e2 hj2 oth zs6 es[j2].2 t3 nt3 ho8 hb8 ho8 S8
          exact ⟨_, rfl, _, rfl, sp1, _, _, j2, rfl, rfl, k1, k2, k3⟩
      case b1 =>
        refine ⟨_, rfl, _, rfl, _, rfl, a, _, _, _, rfl, rfl, S8.s.seq hS, ha2, t2, _, 1, _, rfl, rfl, .inl (.inl (S8.s _ _ ht2)), atI_nat (j := 1) rfl, (by show 2 ≤ sizeLine; decide), fun t3 nt3 => ?_⟩
        obtain ⟨k1, k2, k3⟩ := done j2 _ e2 hj2 oth zs6 es[j2].2 t3 nt3 ho8 hb8 ho8 S8
        exact ⟨_, rfl, _, rfl, sp1, _, _, j2, rfl, rfl, k1, k2, k3⟩
    clear hb8 ho8 S8
    rintro σ H9 ⟨sp2, ys2, fs2, rfl, hb8, ho8, S8⟩
    refine ⟨M, ?_, ?_⟩
    · refine ⟨_, rfl, rfl, _, rfl, iteD (fun _ => ?_) (fun _ => ?_)⟩
      · refine ⟨_, rfl, (by show 2 ≤ sizeLine; decide), fun t3 nt3 => ?_⟩
        obtain ⟨k1, k2, k3⟩ := done j2 _ e2 hj2 oth zs6 0 t3 nt3 ho8 hb8 ho8 S8
        exact ⟨_, rfl, _, rfl, sp2, _, _, j2, rfl, rfl, k1, k2, k3⟩
      · exact ⟨sp2, ys2, fs2, rfl, hb8, ho8, S8⟩
    clear hb8 ho8 S8
    rintro σ H10 ⟨sp3, ys3, fs3, rfl, hb8, ho8, S8⟩
    refine ⟨M, ?_, ?_⟩
    · refine ⟨_, rfl, rfl, _, rfl, iteD (fun _ => ?_) (fun _ => iteF ?_)⟩
      · refine ⟨_, rfl, d, _, 3, _, rfl, rfl, S8.s.seq hd, atI_nat (j := 3) g3, _, _, rfl, rfl, _, rfl, iteD (fun _ => ?_) (fun _ => ?_)⟩
        · refine ⟨_, rfl, a, _, rfl, .inl (S8.s.seq hS), fun l1 nl1 => ?_⟩
          have sm1 : Same H10 (upd H10 l1 (.lst xs)) := same_upd nl1
          refine ⟨_, rfl, (by show 2 ≤ sizeLine; decide), fun u1 nu1 => ?_⟩
          have sm2 : Same (upd H10 l1 (.lst xs)) (upd (upd H10 l1 (.lst xs)) u1 (.tup [.ref oth, .int 3])) := same_upd nu1
          refine ⟨_, rfl, 3, rfl, (by show 2 ≤ sizeLine; decide), fun u2 nu2 => ?_⟩
          have sm3 : Same (upd (upd H10 l1 (.lst xs)) u1 (.tup [.ref oth, .int 3])) (upd (upd (upd H10 l1 (.lst xs)) u1 (.tup [.ref oth, .int 3])) u2 (.tup [.ref oth, .int (-3)])) := same_upd nu2
          have hu1 := sm3 _ _ (upd_same : (upd (upd H10 l1 (.lst xs)) u1 (.tup [.ref oth, .int 3])) u1 = _)
          have hu2 : (upd (upd (upd H10 l1 (.lst xs)) u1 (.tup [.ref oth, .int 3])) u2 (.tup [.ref oth, .int (-3)])) u2 = _ := upd_same
          have hl1 := (sm2.trans sm3) _ _ (upd_same : (upd H10 l1 (.lst xs)) l1 = _)
          have smA := (sm1.trans sm2).trans sm3
          generalize upd (upd (upd H10 l1 (.lst xs)) u1 (.tup [.ref oth, .int 3])) u2 (.tup [.ref oth, .int (-3)]) = H11 at hu1 hu2 hl1 smA ⊢
          refine ⟨(by show 2 ≤ sizeLine; decide), fun l2 nl2 => ?_⟩
          have sm4 : Same H11 (upd H11 l2 (.lst [.ref u1, .ref u2])) := same_upd nl2
          refine ⟨l1, l2, _, _, rfl, rfl, sm4 _ _ hl1, upd_same, ?_, fun l3 nl3 => ?_⟩
          · show xs.length + 2 ≤ sizeLine
            exact Nat.le_of_lt (small1000 (by omega))
          · have sm5 : Same (upd H11 l2 (.lst [.ref u1, .ref u2])) (upd (upd H11 l2 (.lst [.ref u1, .ref u2])) l3 (.lst (xs ++ [.ref u1, .ref u2]))) := same_upd nl3
            have smB := sm4.trans sm5
            have smC := smA.trans smB
            have nH : H l3 = none := by
              cases z : H l3 with
              | none => rfl
              | some o =>
                rw [sm4 _ _ (smA _ _ (S8.s _ _ z))] at nl3
                cases nl3
            have ho11 := smA _ _ ho8
            refine ⟨l3, _, es ++ [(zs6, 3), (zs6, -3)], rfl, smC _ _ hb8, smC _ _ ho8, S8.s.trans smC, nH, upd_same, ?_, ?_, ?_⟩
            · refine (hE.mono (S8.s.trans smC)).app (.cons ⟨u1, oth, rfl, smB _ _ hu1, smB _ _ ho11⟩ (.cons ⟨u2, oth, rfl, smB _ _ hu2, smB _ _ ho11⟩ .nil))
            · rw [List.length_append]
              omega
            · rw [List.length_append]
              exact Nat.le_refl _
        · exact ⟨sp3, ys3, fs3, rfl, hb8, ho8, S8⟩
      · exact ⟨sp3, ys3, fs3, rfl, hb8, ho8, S8⟩
    clear hb8 ho8 S8
    rintro σ H11 ⟨sp4, ys4, fs4, rfl, hb8, ho8, S8⟩
    refine ⟨M, ?_, ?_⟩
    · refine ⟨_, rfl, rfl, _, rfl, iteD (fun _ => iteT ?b1) (fun _ => ?c1)⟩
      case c1 =>
        refine ⟨_, rfl, rfl, _, rfl, iteD (fun _ => iteT ?b2) (fun _ => ?c2)⟩
        case c2 =>
          refine ⟨_, rfl, rfl, _, rfl, iteD (fun _ => ?b3) (fun _ => ?c3)⟩
          case c3 => exact ⟨sp4, ys4, fs4, rfl, hb8, ho8, S8⟩
          case b3 =>
            refine ⟨_, rfl, _, rfl, _, rfl, a, _, _, _, rfl, rfl, S8.s.seq hS, ha1, t1, _, 1, _, rfl, rfl, .inl (.inl (S8.s _ _ ht1)), atI_nat (j := 1) rfl, (by show 2 ≤ sizeLine; decide), fun t3 nt3 => ?_⟩
            obtain ⟨k1, k2, k3⟩ := done j1 _ e1 hj1 bad zs es[j1].2 t3 nt3 hb8 hb8 ho8 S8
            exact ⟨_, rfl, _, rfl, sp4, _, _, j1, rfl, rfl, k1, k2, k3⟩
        case b2 =>
          refine ⟨_, rfl, _, rfl, _, rfl, a, _, _, _, rfl, rfl, S8.s.seq hS, ha1, t1, _, 1, _, rfl, rfl, .inl (.inl (S8.s _ _ ht1)), atI_nat (j := 1) rfl, (by show 2 ≤ sizeLine; decide), fun t3 nt3 => ?_⟩
          obtain ⟨k1, k2, k3⟩ := done j1 _ e1 hj1 bad zs es[j1].2 t3 nt3 hb8 hb8 ho8 S8
          exact ⟨_, rfl, _, rfl, sp4, _, _, j1, rfl, rfl, k1, k2, k3⟩
      case b1 =>
        refine ⟨_, rfl, _, rfl, _, rfl, a, _, _, _, rfl, rfl, S8.s.seq hS, ha1, t1, _, 1, _, rfl, rfl, .inl (.inl (S8.s _ _ ht1)), atI_nat (j := 1) rfl, (by show 2 ≤ sizeLine; decide), fun t3 nt3 => ?_⟩
        obtain ⟨k1, k2, k3⟩ := done j1 _ e1 hj1 bad zs es[j1].2 t3 nt3 hb8 hb8 ho8 S8
        exact ⟨_, rfl, _, rfl, sp4, _, _, j1, rfl, rfl, k1, k2, k3⟩
    clear hb8 ho8 S8
    rintro σ H12 ⟨sp5, ys5, fs5, rfl, hb8, ho8, S8⟩
    exact ⟨_, rfl, q sp5 ys5 fs5 _ S8.l S8.e S8.hi S8.s⟩
end
end OT

set_option Elab.async false
set_option linter.all false
set_option maxRecDepth 100000
set_option maxHeartbeats 2000000
namespace OT
open PySem PySem.Spec PyProof.Rows L2
section
variable {P : Program} {w : World} {K : PySem.W.Frag} {mg : Str → Option Value} {base : Heap}
/-! ### asked of the error that is held -/
def spIntE : SpE := fun _ _ _ vs H Q _ => ∃ i : Int, vs = [.int i] ∧ Q (.bl true) H
theorem h__law_is_integer {f : Addr} {fd : FuncData} (D : C8.Def K mg "_law_is_integer" s__law_is_integer f fd) (T : Bi mg) : FnE P w K mg base 1 f fd ["_law_actual"] spIntE := by
  refine fnE_of D.fn sc__law_is_integer (fun a c d vs H Q E h => ?_) (fun cdv A outer s H vs Q p c d zc fld hr h => ?_)
  · obtain ⟨i, rfl, _⟩ := h
    rfl
  · obtain ⟨i, rfl, q⟩ := h
    refine ⟨_, (pss_one (ps_ret (pe_and (pe_callB call_isi (by rfl) T.n_isinstance OT.b_isinstance (pa_cons (pv 0) (pa_cons (pe_bltn (v := .ty "int") (by rfl) T.n_int OT.b_int rfl) pa_nil))) (pe_one (pe_not (pe_callB call_isi (by rfl) T.n_isinstance OT.b_isinstance (pa_cons (pv 0) (pa_cons (pe_bltn (v := .ty "bool") (by rfl) T.n_bool OT.b_bool rfl) pa_nil)))))))), ?_⟩
    refine ⟨_, rfl, _, _, _, _, _, rfl, .ty _, .base (.int i), kit_ty kb_ii, _, rfl, ?_⟩
    refine iteT ?_
    exact ⟨_, rfl, _, _, _, _, _, rfl, .ty _, .base (.int i), kit_ty kb_ib, _, rfl, q⟩
/-- the held error bears these fields -/
structure HeldF (K : PySem.W.Frag) (H : Hp) (C dd : Addr) (c : Value) (d : Option Addr) (fs : List (Str × V)) : Prop where
  c : c = .ref C
  d : d = some dd
  t : PySem.W.OtCls K C
  h : H dd = some (.xd fs)
def spErrE (K : PySem.W.Frag) (B : Addr) : SpE := fun a c d vs H Q _ => ∃ (C dd : Addr) (fs : List (Str × V)) (nm : Str), vs = [.ref a, .str nm] ∧ HeldF K H C dd c d fs ∧ PySem.W.findIn K (.ref C) "word" = some none ∧ fs.lookup ("word" : Str) = some (V.str nm) ∧
  PySem.W.kitOne K (.ref C) (.ref B) = some true ∧ PySem.W.kitOne K (.ref C) (.type "ValueError") = some true ∧ Q (.bl true) H
theorem h__law_is_error {f B : Addr} {fd : FuncData} (D : C8.Def K mg "_law_is_error" s__law_is_error f fd) (T : Bi mg) (gB : mg "TableError" = some (.ref B)) (nV : mg "ValueError" = none) : FnE P w K mg base 1 f fd ["_law_e", "_law_word"] (spErrE K B) := by
  refine fnE_of D.fn sc__law_is_error (fun a c d vs H Q E h => ?_) (fun cdv A outer s H vs Q p c d zc fld hr h => ?_)
  · obtain ⟨C, dd, fs, nm, rfl, _⟩ := h
    rfl
  · obtain ⟨C, dd, fs, nm, rfl, hh, nw, lw, kB, kV, q⟩ := h
    have hp : p ∈ (L2H.cxH L2.CX0 P w K mg base ["_law_e", "_law_word"] "_law_is_error" (C8.fnScope s__law_is_error) f cdv A outer s H E0 p).pn := List.mem_cons_self
    refine ⟨_, pss_one (ps_ret (pe_and (pe_callB (call_isX hp zc fld) (by rfl) T.n_isinstance OT.b_isinstance (pa_cons (pv 0) (pa_cons (pe_glob (v := .ref B) (by rfl) gB rfl) pa_nil)))
      (pe_and (pe_callB (call_isX hp zc fld) (by rfl) T.n_isinstance OT.b_isinstance (pa_cons (pv 0) (pa_cons (pe_bltn (v := .ty "ValueError") (by rfl) nV OT.b_ValueError rfl) pa_nil)))
      (pe_and (pe_callB call_isi (by rfl) T.n_isinstance OT.b_isinstance (pa_cons (pe_fX hp zc fld (pv 0)) (pa_cons (pe_bltn (v := .ty "str") (by rfl) T.n_str OT.b_str rfl) pa_nil)))
      (pe_one (pe_cmpR op_eq (pe_fX hp zc fld (pv 0)) (pv 1) (nomark _))))))), ?_⟩
    refine ⟨_, rfl, C, dd, fs, _, _, _, rfl, hh.c, hh.d, hh.t, hh.h, .own B, kB, _, rfl, ?_⟩
    refine iteT ?_
    refine ⟨_, rfl, C, dd, fs, _, _, _, rfl, hh.c, hh.d, hh.t, hh.h, .ty _, kV, _, rfl, ?_⟩
    refine iteT ?_
    refine ⟨_, rfl, C, dd, fs, _, rfl, hh.c, hh.d, hh.t, nw, hh.h, lw, _, _, _, _, _, rfl, .ty _, .base (.str nm), kit_ty kb_ss, _, rfl, ?_⟩
    refine iteT ?_
    refine ⟨_, rfl, C, dd, fs, _, rfl, hh.c, hh.d, hh.t, nw, hh.h, lw, _, rfl, rfl, ?_⟩
    rw [decide_eq_true rfl]
    exact q
/-- what isinstance says of the class at C -/
structure KitE (K : PySem.W.Frag) (B C : Addr) : Prop where
  b : PySem.W.kitOne K (.ref C) (.ref B) = some true
  v : PySem.W.kitOne K (.ref C) (.type "ValueError") = some true
/-- the classes told apart -/
structure Kit4 (K : PySem.W.Frag) (C M O Z : Addr) : Prop where
  co : PySem.W.kitOne K (.ref C) (.ref O) = some false
  cz : PySem.W.kitOne K (.ref C) (.ref Z) = some false
  cc : PySem.W.kitOne K (.ref C) (.ref C) = some true
  cm : PySem.W.kitOne K (.ref C) (.ref M) = some false
  mo : PySem.W.kitOne K (.ref M) (.ref O) = some false
  mz : PySem.W.kitOne K (.ref M) (.ref Z) = some false
  mm : PySem.W.kitOne K (.ref M) (.ref M) = some true
  mc : PySem.W.kitOne K (.ref M) (.ref C) = some false
def spRefE (K : PySem.W.Frag) (C M : Addr) : SpE := fun a c d vs H Q _ => ∃ t : Addr, vs = [.ref a, .ref t] ∧
  ((∃ (dd : Addr) (i : Nat), HeldF K H C dd c d (errB i) ∧ H t = some (.tup [.str "BadPlace", .int (i : Nat)])) ∨ (∃ dd : Addr, HeldF K H M dd c d errM ∧ H t = some (.tup [.str "MixedDimensions", .int 0]))) ∧ Q (.bl true) H
theorem h__law_refused {f B C M O Z f1 f2 : Addr} {fd fd1 fd2 : FuncData} (D : C8.Def K mg "_law_refused" s__law_refused f fd) (T : Bi mg) (tC_ : OtErr K C "BadPlace") (tM : OtErr K M "MixedDimensions") (kC : KitE K B C) (kM : KitE K B M)
    (gC : mg "BadPlace" = some (.ref C)) (gM : mg "MixedDimensions" = some (.ref M)) (gO : mg "OneDirectionOnly" = some (.ref O)) (gZ : mg "ZeroRow" = some (.ref Z)) (k : Kit4 K C M O Z)
    (D1 : C8.Def K mg "_law_is_error" s__law_is_error f1 fd1) (b1 : Binds K fd1 ["_law_e", "_law_word"] []) (F1 : FnE P w K mg base 1 f1 fd1 ["_law_e", "_law_word"] (spErrE K B))
    (D2 : C8.Def K mg "_law_is_integer" s__law_is_integer f2 fd2) (b2 : Binds K fd2 ["_law_actual"] []) (F2 : FnE P w K mg base 1 f2 fd2 ["_law_actual"] spIntE) :
    FnE P w K mg base 2 f fd ["_law_e", "_law_due_here"] (spRefE K C M) := by
  refine fnE_of D.fn sc__law_refused (fun a c d vs H Q E h => ?_) (fun cdv A outer s H vs Q p c d zc fld hr h => ?_)
  · obtain ⟨t, rfl, _⟩ := h
    rfl
  · obtain ⟨t, rfl, hw, q⟩ := h
    have hp : p ∈ (L2H.cxH L2.CX0 P w K mg base ["_law_e", "_law_due_here"] "_law_refused" (C8.fnScope s__law_refused) f cdv A outer s H E0 p).pn := List.mem_cons_self
    refine ⟨_, pss_cons (ps_if (PW.pt (pw_or (pt_val (pe_callB (call_isX hp zc fld) (by rfl) T.n_isinstance OT.b_isinstance (pa_cons (pv 0) (pa_cons (pe_glob (v := .ref O) (by rfl) gO rfl) pa_nil))))
        (pw_or (pt_val (pe_callB (call_isX hp zc fld) (by rfl) T.n_isinstance OT.b_isinstance (pa_cons (pv 0) (pa_cons (pe_glob (v := .ref Z) (by rfl) gZ rfl) pa_nil))))
        (pw_or1 (pt_not (pt_val (pe_callE F1 hr hp zc fld (by rfl) D1.mgf D1.kp b1 (pa_cons (pv 0) (pa_cons (pe_ix ix_tup (pv 1) pe_int (fun _ _ => rfl)) pa_nil))))))))) (pss_one (ps_ret pe_bl)) pss_nil)
      (pss_cons (ps_if (pt_cmpR op_eq (pe_ix ix_tup (pv 1) pe_int (fun _ _ => rfl)) pe_str (nomark _))
          (pss_cons (ps_if (PW.pt (pw_or (pt_not (pt_val (pe_callB (call_isX hp zc fld) (by rfl) T.n_isinstance OT.b_isinstance (pa_cons (pv 0) (pa_cons (pe_glob (v := .ref C) (by rfl) gC rfl) pa_nil)))))
              (pw_or1 (pt_val (pe_callB (call_isX hp zc fld) (by rfl) T.n_isinstance OT.b_isinstance (pa_cons (pv 0) (pa_cons (pe_glob (v := .ref M) (by rfl) gM rfl) pa_nil))))))) (pss_one (ps_ret pe_bl)) pss_nil)
            (pss_one (ps_ret (pe_and (pe_callE F2 hr hp zc fld (by rfl) D2.mgf D2.kp b2 (pa_cons (pe_fX hp zc fld (pv 0)) pa_nil))
              (pe_one (pe_cmpR op_eq (pe_fX hp zc fld (pv 0)) (pe_ix ix_tup (pv 1) pe_int (fun _ _ => rfl)) (nomark _))))))) pss_nil)
      (pss_one (ps_ret (pe_and (pe_callB (call_isX hp zc fld) (by rfl) T.n_isinstance OT.b_isinstance (pa_cons (pv 0) (pa_cons (pe_glob (v := .ref M) (by rfl) gM rfl) pa_nil)))
        (pe_one (pe_not (pe_callB (call_isX hp zc fld) (by rfl) T.n_isinstance OT.b_isinstance (pa_cons (pv 0) (pa_cons (pe_glob (v := .ref C) (by rfl) gC rfl) pa_nil))))))))), ?_⟩
    rcases hw with ⟨dd, i, hh, ht⟩ | ⟨dd, hh, ht⟩
    · have hT : SqT K H t [.str "BadPlace", .int (i : Nat)] := .inl (.inl ht)
      refine ⟨_, rfl, C, dd, _, _, _, _, rfl, hh.c, hh.d, hh.t, hh.h, .own O, k.co, _, rfl, ?_⟩
      refine iteF ?_
      refine ⟨_, rfl, C, dd, _, _, _, _, rfl, hh.c, hh.d, hh.t, hh.h, .own Z, k.cz, _, rfl, ?_⟩
      refine iteF ?_
      refine ⟨_, rfl, _, rfl, t, _, 0, _, rfl, rfl, hT, atI_nat (j := 0) rfl, C, dd, _, "BadPlace", rfl, hh, tC_.nw, rfl, kC.b, kC.v, _, rfl, ?_⟩
      refine iteF ?_
      refine ⟨_, rfl, t, _, 0, _, rfl, rfl, hT, atI_nat (j := 0) rfl, rfl, _, rfl, ?_⟩
      rw [decide_eq_true rfl]
      refine iteT ?_
      refine ⟨_, rfl, C, dd, _, _, _, _, rfl, hh.c, hh.d, hh.t, hh.h, .own C, k.cc, _, rfl, ?_⟩
      refine iteF ?_
      refine ⟨_, rfl, C, dd, _, _, _, _, rfl, hh.c, hh.d, hh.t, hh.h, .own M, k.cm, _, rfl, ?_⟩
      refine iteF ?_
      refine ⟨_, rfl, C, dd, _, _, rfl, hh.c, hh.d, hh.t, tC_.ni, hh.h, rfl, _, rfl, _, rfl, ?_⟩
      refine iteT ?_
      refine ⟨_, rfl, C, dd, _, _, rfl, hh.c, hh.d, hh.t, tC_.ni, hh.h, rfl, _, rfl, t, _, 1, _, rfl, rfl, hT, atI_nat (j := 1) rfl, rfl, ?_⟩
      rw [decide_eq_true rfl]
      exact q
    · have hT : SqT K H t [.str "MixedDimensions", .int 0] := .inl (.inl ht)
      refine ⟨_, rfl, M, dd, _, _, _, _, rfl, hh.c, hh.d, hh.t, hh.h, .own O, k.mo, _, rfl, ?_⟩
      refine iteF ?_
      refine ⟨_, rfl, M, dd, _, _, _, _, rfl, hh.c, hh.d, hh.t, hh.h, .own Z, k.mz, _, rfl, ?_⟩
      refine iteF ?_
      refine ⟨_, rfl, _, rfl, t, _, 0, _, rfl, rfl, hT, atI_nat (j := 0) rfl, M, dd, _, "MixedDimensions", rfl, hh, tM.nw, rfl, kM.b, kM.v, _, rfl, ?_⟩
      refine iteF ?_
      refine ⟨_, rfl, t, _, 0, _, rfl, rfl, hT, atI_nat (j := 0) rfl, rfl, _, rfl, ?_⟩
      rw [decide_eq_false (show ¬ (V.str "MixedDimensions" = V.str "BadPlace") by decide +kernel)]
      refine iteF ?_
      refine ⟨_, rfl, M, dd, _, _, _, _, rfl, hh.c, hh.d, hh.t, hh.h, .own M, k.mm, _, rfl, ?_⟩
      refine iteT ?_
      refine ⟨_, rfl, M, dd, _, _, _, _, rfl, hh.c, hh.d, hh.t, hh.h, .own C, k.mc, _, rfl, q⟩
end
end OT

set_option Elab.async false
set_option linter.all false
set_option maxRecDepth 100000
set_option maxHeartbeats 2000000
namespace OT
open PySem PySem.Spec PyProof.Rows L2
section
variable {P : Program} {w : World} {K : PySem.W.Frag} {mg : Str → Option Value} {base : Heap}
theorem roomH_m {k : Nat} {A : Around} {v : Option Value} (r : Room k A) : L2H.RoomH k (A.mark v) := ⟨r.dp, r.un⟩
theorem mixL_false {es : List Ent} (h : mixL (lens es) = false) : ∀ e ∈ es, (e.1.length : Int) = (lens es).headD 0 := fun e he => by
  unfold mixL at h
  rw [List.any_eq_false] at h
  have hm : (!decide (V.int (e.1.length : Int) = V.int ((lens es).headD 0))) ∈ (lens es).map fun m => !decide (V.int m = V.int ((lens es).headD 0)) := by
    refine List.mem_map.mpr ⟨(e.1.length : Int), ?_, rfl⟩
    exact List.mem_map.mpr ⟨e, he, rfl⟩
  have h1 := h _ hm
  by_cases z : V.int (e.1.length : Int) = V.int ((lens es).headD 0)
  · exact V.int.inj z
  · rw [decide_eq_false z] at h1
    exact absurd rfl h1
theorem rowN_of {es r : List Ent} (hb : fbE 0 es = none) (hm : mixL (lens es) = false) (hr : RowIs r es) : ∃ n, RowN n r := by
  have h1 := mixL_false hm
  have h2 := fbE_none hb
  cases es with
  | nil =>
    have h3 := hr.len
    have h4 : r = [] := List.length_eq_zero_iff.mp (Nat.le_zero.mp h3)
    subst h4
    exact ⟨1, hr.v, by decide, by decide, fun e he => by cases he⟩
  | cons e t =>
    have hh : (lens (e :: t)).headD 0 = (e.1.length : Int) := rfl
    have hb1 := h2 e List.mem_cons_self
    unfold badE at hb1
    refine ⟨e.1.length, hr.v, by omega, by omega, fun x hx => ?_⟩
    obtain ⟨y, hy, hxy⟩ := hr.mem hx
    have h3 := h1 y hy
    rw [hh, hxy] at h3
    omega
theorem DueIs.mono {H H' : Hp} {v : V} {es : List Ent} (s : Same H H') (h : DueIs K H v es) : DueIs K H' v es := by
  rcases h with ⟨i, t, h1, h2, h3⟩ | ⟨h1, h2, t, h3, h4⟩ | ⟨h1, h2, t, p, ws, r, h3, h4, h5, h6, h7⟩
  · exact .inl ⟨i, t, h1, h2, s _ _ h3⟩
  · exact .inr (.inl ⟨h1, h2, t, h3, s _ _ h4⟩)
  · exact .inr (.inr ⟨h1, h2, t, p, ws, r, h3, s _ _ h4, s _ _ h5, h6.mono s, h7⟩)
def spAsk (K : PySem.W.Frag) : Sp := fun vs H Q _ => ∃ (a : Addr) (dv : V) (xs : List V) (es : List Ent), vs = [.ref a, dv] ∧ H a = some (.lst xs) ∧ Ents H xs es ∧ es.length ≤ 500 ∧ DueIs K H dv es ∧ ∀ H', Same H H' → Q (.bl true) H'
theorem c__law_asked {f B C M fR fE : Addr} {fd fdR fdE : FuncData} (D : C8.Def K mg "_law_asked" s__law_asked f fd) (b : Binds K fd ["_law_pairs_here", "_law_due_here"] []) (T : Bi mg) (gB : mg "TableError" = some (.ref B)) (tC_ : OtErr K C "BadPlace") (tM : OtErr K M "MixedDimensions") (eC : PySem.W.exmOne K (.ref C) (.ref B) = some true) (eM : PySem.W.exmOne K (.ref M) (.ref B) = some true)
    (DR : C8.Def K mg "make_row" s_make_row fR fdR) (bR : Binds K fdR ["entries"] []) (GR : FnOk P w K mg base (L2.CX P w) 4 fR fdR ["entries"] (spMk K C M))
    (DE : C8.Def K mg "_law_refused" s__law_refused fE fdE) (bE : Binds K fdE ["_law_e", "_law_due_here"] []) (GE : FnE P w K mg base 2 fE fdE ["_law_e", "_law_due_here"] (spRefE K C M))
    (c__law_same : C8.Cal P w K mg base 4 "_law_same" (spSame K) []) : C8.Cal P w K mg base 5 "_law_asked" (spAsk K) [] := by
  refine C8.cal0 D b .nil sc__law_asked (fun vs H Q E h => ?_) (fun cdv A outer s H vs Q E hr h => ?_)
  · obtain ⟨a, dv, xs, es, rfl, _⟩ := h
    rfl
  · obtain ⟨a, dv, xs, es, rfl, ha, hE, hz, hD, q⟩ := h
    refine ⟨_, pss_cons (ps_set (i := 2) sc__law_asked.nd rfl (Or.inl rfl) (pe_callTy call_list_of (by rfl) T.n_list OT.b_list (pa_cons (pv 0) pa_nil)))
      (pss_cons (ps_try_as (i := 3) (tb := fun W => tAsg (tCallS (spMk K C M) (WE W) (tCons (tVar 2) tNil)) (gName 4)) (ts := fun a cls d => tRet (tAndV (tOp rNe (tOp (rIxT K) (tVar 1) (tC (.int 0))) (tC (.str "row"))) (tAndV (tOp (rEqD K) (tVar 2) (tVar 0)) (fun σ H Q => tCons (tVar 3) (tCons (tVar 1) tNil) σ H fun vs H1 => spRefE K C M a cls d vs H1 Q E0)))) (Wout := fun _ _ _ _ => False) rfl rfl sc__law_asked.nd rfl rfl ⟨rfl, by decide, Or.inl gB⟩ takes0
        (fun W pn xe tk _ => pss_one (ps_set (i := 4) sc__law_asked.nd rfl (Or.inl rfl) (pe_callS GR hr rfl DR.mgf DR.kp bR (fun σ => passAt tk σ) (pa_cons (pv 2) pa_nil))))
        (fun a oe cls d pn hz hf => pss_one (ps_ret (pe_and (by exact pe_cmpR op_ne (pe_ix ix_tup (pv 1) pe_int (fun _ _ => rfl)) pe_str (nomark _)) (pe_and (by exact pe_cmpR (op_eqD hr.units) (pv 2) (pv 0) (nomark _))
          (pe_one (by exact pe_callE (p := (a, oe)) GE (roomH_m (hr.mono (by decide : 2 ≤ 4))) List.mem_cons_self hz hf (by rfl) DE.mgf DE.kp bE (pa_cons (pv 3) (pa_cons (pv 1) pa_nil)))))))))
      (pss_cons (ps_if (PW.pt (pw_or (pt_cmpR op_ne (pe_ix ix_tup (pv 1) pe_int (fun _ _ => rfl)) pe_str (nomark _)) (pw_or (pt_not (pt_val (C8.pe_c c__law_same hr (by decide) (by rfl) (pa_cons (pv 4) (pa_cons (pe_ix ix_tup (pv 1) pe_int (fun _ _ => rfl)) pa_nil)))))
          (pw_or1 (pt_cmpR (op_neD hr.units) (pv 2) (pv 0) (nomark _)))))) (pss_one (ps_ret pe_bl)) pss_nil)
      (pss_cons (ps_expr (pe_bm PySem.F.plainAttrs_list PySem.F.slot_list_append PySem.F.type_list_append mt_append (pv 4) (pa_cons (pe_tup (pa_cons (pe_tup (pa_cons pe_int pa_nil)) (pa_cons pe_int pa_nil))) pa_nil)))
      (pss_one (ps_ret (pe_cmpR (op_eqD hr.units) (pv 2) (pv 0) (nomark _))))))), ?_⟩
    refine ⟨_, rfl, a, _, rfl, .inl (.inl (.inl ha)), fun l nl => ?_⟩
    have s1 : Same H (upd H l (.lst xs)) := same_upd nl
    have hl : (upd H l (.lst xs)) l = some (.lst xs) := upd_same
    have es_z : es.length < sizeLine := small1000 (by omega)
    generalize upd H l (.lst xs) = H1 at s1 hl ⊢
    have dpl : ∀ {H3 : Hp}, Same H1 H3 → Dp K H3 (.ref l) (dRow es) := fun sm => (hE.mono (s1.trans sm)).dp (.inl (.inl (sm _ _ hl)))
    have dpa : ∀ {H3 : Hp}, Same H1 H3 → Dp K H3 (.ref a) (dRow es) := fun sm => (hE.mono (s1.trans sm)).dp (.inl (.inl ((s1.trans sm) _ _ ha)))
    have hq := SeqAt.eqv_refl _ (SeqAt.canLay_of_shaped (shaped_row es))
    refine ⟨_, rfl, l, xs, es, rfl, ⟨.inl (.inl hl), hE.mono s1, es_z⟩, by omega, fun i hi d H2 sm hd => ?_, fun h1 h2 d H2 sm hd => ?_, fun h1 h2 r p ws H2 hr sm np hp he => ?_⟩
    · rcases hD.mono (s1.trans sm) with ⟨i', t, k1, rfl, k3⟩ | ⟨k1, _⟩ | ⟨k1, _⟩
      · rw [hi] at k1
        cases k1
        have hT : SqT K H2 t [.str "BadPlace", .int (i : Nat)] := .inl (.inl k3)
        refine ⟨true, eC, fun _ a na => ?_, fun h => by cases h⟩
        refine ⟨_, rfl, t, _, 0, _, rfl, rfl, hT, atI_nat (j := 0) rfl, rfl, _, rfl, ?_⟩
        rw [decide_eq_false (show ¬ (V.str "BadPlace" = V.str "row") by decide +kernel)]
        refine iteT ?_
        refine ⟨_, rfl, _, rfl, dRow es, dRow es, dpl sm, dpa sm, shaped_row es, shaped_row es, _, rfl, ?_⟩
        rw [hq]
        refine iteT ?_
        exact ⟨_, rfl, _, rfl, t, rfl, .inl ⟨d, i, ⟨rfl, rfl, tC_.oc, hd⟩, k3⟩, q _ (s1.trans sm)⟩
      · rw [hi] at k1
        cases k1
      · rw [hi] at k1
        cases k1
    · rcases hD.mono (s1.trans sm) with ⟨i', t, k1, rfl, k3⟩ | ⟨_, _, t, rfl, k3⟩ | ⟨_, k2, _⟩
      · rw [h1] at k1
        cases k1
      · have hT : SqT K H2 t [.str "MixedDimensions", .int 0] := .inl (.inl k3)
        refine ⟨true, eM, fun _ a na => ?_, fun h => by cases h⟩
        refine ⟨_, rfl, t, _, 0, _, rfl, rfl, hT, atI_nat (j := 0) rfl, rfl, _, rfl, ?_⟩
        rw [decide_eq_false (show ¬ (V.str "MixedDimensions" = V.str "row") by decide +kernel)]
        refine iteT ?_
        refine ⟨_, rfl, _, rfl, dRow es, dRow es, dpl sm, dpa sm, shaped_row es, shaped_row es, _, rfl, ?_⟩
        rw [hq]
        refine iteT ?_
        exact ⟨_, rfl, _, rfl, t, rfl, .inr ⟨d, ⟨rfl, rfl, tM.oc, hd⟩, k3⟩, q _ (s1.trans sm)⟩
      · rw [h2] at k2
        cases k2
    · rcases hD.mono (s1.trans sm) with ⟨i', t, k1, rfl, k3⟩ | ⟨_, k2, _⟩ | ⟨_, _, t, p2, us, r2, rfl, k3, k4, k5, k6⟩
      · rw [h1] at k1
        cases k1
      · rw [h2] at k2
        cases k2
      · obtain rfl := hr.one k6
        obtain ⟨n, hN⟩ := rowN_of h1 h2 hr
        have hlr := hr.len
        have hwr := he.len
        have hT : SqT K H2 t [.str "row", .ref p2] := .inl (.inl k3)
        refine ⟨_, rfl, t, _, 0, _, rfl, rfl, hT, atI_nat (j := 0) rfl, rfl, _, rfl, iteNS rfl ?_⟩
        refine ⟨_, rfl, _, rfl, t, _, 1, _, rfl, rfl, hT, atI_nat (j := 1) rfl, p, p2, ws, us, r, n, rfl, hp, he, k4, k5, hN, by omega, _, rfl, ?_⟩
        refine iteF ?_
        refine ⟨_, rfl, _, rfl, dRow es, dRow es, dpl sm, dpa sm, shaped_row es, shaped_row es, _, rfl, ?_⟩
        rw [hq]
        refine iteF ?_
        refine ⟨_, rfl, .inl ⟨rfl, _, .inl (.inl hp)⟩, (by show 1 ≤ sizeLine; decide), fun t1 nt1 => ⟨(by show 2 ≤ sizeLine; decide), fun t2 nt2 => ?_⟩⟩
        have sm1 : Same H2 (upd H2 t1 (.tup [.int 0])) := same_upd nt1
        have sm2 : Same (upd H2 t1 (.tup [.int 0])) (upd (upd H2 t1 (.tup [.int 0])) t2 (.tup [.ref t1, .int 1])) := same_upd nt2
        have sm3 := sm.trans (sm1.trans sm2)
        refine ⟨p, ws, _, rfl, rfl, (sm1.trans sm2) _ _ hp, small1000 (by omega), ?_⟩
        have sm4 : Same H1 (upd (upd (upd H2 t1 (.tup [.int 0])) t2 (.tup [.ref t1, .int 1])) p (.lst (ws ++ [.ref t2]))) := same_mut sm3 np
        refine ⟨_, rfl, _, rfl, dRow es, dRow es, dpl sm4, dpa sm4, shaped_row es, shaped_row es, ?_⟩
        rw [hq]
        exact q _ (s1.trans sm4)
end
end OT

set_option Elab.async false
set_option linter.all false
set_option maxRecDepth 100000
set_option maxHeartbeats 4000000
namespace OT
open PySem PySem.Spec PyProof.Rows L2
section
variable {P : Program} {w : World} {K : PySem.W.Frag} {mg : Str → Option Value} {base : Heap}
def spLaw (K : PySem.W.Frag) : Sp := fun vs H Q _ => ∃ (a : Addr) (ns : List Int), vs = [.ref a] ∧ SqL K H a (ns.map V.int) ∧ ns.length ≤ 63 ∧ ∀ H', Q (.bl true) H'
def zsL : List Int := [3, 10, 8, 36, 36, 4, 2, 8]
theorem cut27 {ds : List Int} (h : ds.length = 8) : cutV (ds.map V.int) (some 2) (some 7) = ((ds.drop 2).take 5).map V.int := by
  unfold cutV
  rw [show (2 : Int) = ((2 : Nat) : Int) from rfl, show (7 : Int) = ((7 : Nat) : Int) from rfl, HT.sIx_nat, HT.sIx_nat, List.length_map, h, List.map_take, List.map_drop]
  rfl
theorem in27 {ds : List Int} (h : InR ds zsL) : InR ((ds.drop 2).take 5) zsS := by
  have hl : ds.length = 8 := h.1
  refine ⟨?_, fun i d z h1 h2 => ?_⟩
  · rw [List.length_take, List.length_drop, hl]
    rfl
  · have hi : i < 5 := (List.getElem?_eq_some_iff.mp h2).1
    rw [List.getElem?_take_of_lt hi, List.getElem?_drop] at h1
    refine h.2 (2 + i) d z h1 ?_
    rw [← h2]
    match i, hi with
    | 0, _ => rfl
    | 1, _ => rfl
    | 2, _ => rfl
    | 3, _ => rfl
    | 4, _ => rfl
theorem good_n {es : List Ent} {n : Nat} (h1 : 1 ≤ n) (h3 : n ≤ 3) (h : ∀ e ∈ es, e.1.length = n) : fbE 0 es = none ∧ mixL (lens es) = false := by
  constructor
  · have key : ∀ (l : List Ent) (i : Nat), (∀ e ∈ l, e.1.length = n) → fbE i l = none := by
      intro l
      induction l with
      | nil => exact fun _ _ => rfl
      | cons e r ih =>
        intro i he
        have h4 := he e List.mem_cons_self
        rw [fbE_miss (show ¬ badE e from fun hb => by unfold badE at hb; omega)]
        exact ih _ fun x hx => he x (List.mem_cons_of_mem _ hx)
    exact key es 0 h
  · unfold mixL
    rw [List.any_eq_false]
    intro x hx
    obtain ⟨m, hm, rfl⟩ := List.mem_map.mp hx
    obtain ⟨e, he, rfl⟩ := List.mem_map.mp hm
    have hh : (lens es).headD 0 = (n : Int) := by
      cases es with
      | nil => cases he
      | cons f r =>
        show (f.1.length : Int) = n
        rw [h f List.mem_cons_self]
    rw [hh, h e he, decide_eq_true rfl]
    exact Bool.false_ne_true
theorem c_law {f : Addr} {fd : FuncData} (D : C8.Def K mg "law" s_law f fd) (b : Binds K fd ["_law_script"] []) (T : Bi mg)
    (c__law_cell : C8.Cal P w K mg base 1 "_law_cell" (spCell K) []) (c__law_draws : C8.Cal P w K mg base 1 "_law_draws" (spDraws K) []) (c__law_pairs : C8.Cal P w K mg base 2 "_law_pairs" (spPairs K) []) (c__law_back : C8.Cal P w K mg base 1 "_law_back" (spBack K) [])
    (c__law_spoilt : C8.Cal P w K mg base 1 "_law_spoilt" (spSpoilt K) []) (c__law_due : C8.Cal P w K mg base 2 "_law_due" (spDue K) []) (c__law_row : C8.Cal P w K mg base 1 "_law_row" (spGather K) []) (c__law_asked : C8.Cal P w K mg base 5 "_law_asked" (spAsk K) []) : FnOk P w K mg base L2.CX0 6 f fd ["_law_script"] (spLaw K) := by
  refine C8.fn0 D.fn sc_law (fun vs H Q E h => ?_) (fun cdv A outer s H vs Q E hr h => ?_)
  · obtain ⟨a, ns, rfl, _⟩ := h
    rfl
  · obtain ⟨a, ns, rfl, hS, hlen, q⟩ := h
    refine ⟨_, (pss_cons (ps_set (i := 1) sc_law.nd rfl (Or.inl rfl) (C8.pe_c c__law_draws hr (by decide) (by rfl) (pa_cons (C8.pe_c c__law_cell hr (by decide) (by rfl) (pa_cons (pv 0) (pa_cons pe_int pa_nil))) (pa_cons (pe_lst (pa_cons pe_int (pa_cons pe_int (pa_cons pe_int (pa_cons pe_int (pa_cons pe_int (pa_cons pe_int (pa_cons pe_int (pa_cons pe_int pa_nil))))))))) pa_nil))))
  (pss_cons (ps_set (i := 2) sc_law.nd rfl (Or.inl rfl) (pe_op op_add pe_int (pe_ix ix_list (pv 1) pe_int (fun _ _ => rfl))))
  (pss_cons (ps_set (i := 3) sc_law.nd rfl (Or.inl rfl) (C8.pe_c c__law_pairs hr (by decide) (by rfl) (pa_cons (pv 0) (pa_cons (pv 2) (pa_cons (pe_ix ix_list (pv 1) pe_int (fun _ _ => rfl)) pa_nil)))))
  (C8.pss_cut (ps_if (pt_cmpR op_eq (pe_ix ix_list (pv 1) pe_int (fun _ _ => rfl)) pe_int (nomark _)) (pss_cons (ps_set (i := 3) sc_law.nd rfl (Or.inl rfl) (pe_op op_cat (pv 3) (pe_lc (own := [("_law_pair_here", 6)]) (g := (gName 6)) (tt := tYes) rfl sc_law.nd (pi_list (pv 3)) (blkOk_by (N := ["_law_script", "_law_draws_here", "_law_size", "_law_pairs_here", "_law_spoilt_here", "_law_turn", "_law_pair_here"]) (sc := C8.fnScope s_law) (by decide +kernel)) (fun _ _ _ _ _ => (pg_name (i := 6) sc_law.nd rfl (Or.inl rfl))) (fun _ _ _ _ _ => pts_nil) (fun _ _ _ _ _ => (pe_tup (pa_cons (C8.pe_c c__law_back hr (by decide) (by rfl) (pa_cons (pe_ix (show IxR _ (rIxT K) from ix_tup) (pv 6) pe_int (fun _ _ => rfl)) pa_nil)) (pa_cons (pe_ix (show IxR _ (rIxT K) from ix_tup) (pv 6) pe_int (fun _ _ => rfl)) pa_nil)))))))
  (pss_one (ps_set (i := 3) sc_law.nd rfl (Or.inl rfl) (pe_op op_cat (pv 3) (pv 3))))) pss_nil)
  (pss_cons (ps_set (i := 4) sc_law.nd rfl (Or.inl rfl) (C8.pe_c c__law_spoilt hr (by decide) (by rfl) (pa_cons (pv 3) (pa_cons (pv 2) (pa_cons (pe_slice sl_list (pv 1) (po_some pe_int) (po_some pe_int)) pa_nil)))))
  (pss_cons (ps_for PassesOwn.never rfl (pi_range1 rfl T.n_range (pa_cons pe_int pa_nil)) (pg_name (i := 5) sc_law.nd rfl (Or.inl rfl)) (pss_cons (ps_if (pt_not (pt_val (C8.pe_c c__law_asked hr (by decide) (by rfl) (pa_cons (pv 4) (pa_cons (C8.pe_c c__law_due hr (by decide) (by rfl) (pa_cons (pv 4) pa_nil)) pa_nil))))) (pss_one (ps_ret pe_bl)) pss_nil)
  (pss_one (ps_if (pt_not (pt_val (C8.pe_c c__law_asked hr (by decide) (by rfl) (pa_cons (pv 3) (pa_cons (pe_tup (pa_cons pe_str (pa_cons (C8.pe_c c__law_row hr (by decide) (by rfl) (pa_cons (pv 3) pa_nil)) pa_nil))) pa_nil))))) (pss_one (ps_ret pe_bl)) pss_nil))))
  (pss_one (ps_ret pe_bl)))))))), ?_⟩
    refine ⟨_, rfl, a, ns, 0, rfl, hS, by decide, fun c => ?_⟩
    refine ⟨by decide, fun p np => ?_⟩
    refine ⟨p, zsL, c, rfl, .inl (.inl upd_same), by decide, by decide, fun ds H1 p1 hin sm1 np1 hp1 => ?_⟩
    have sA : Same H H1 := (same_upd np).trans sm1
    have L1 : SqL K H1 p1 (ds.map V.int) := .inl (.inl hp1)
    obtain ⟨d0, g0, g0a, g0b⟩ := hin.get (i := 0) (z := 3) rfl
    obtain ⟨d1, g1, g1a, g1b⟩ := hin.get (i := 1) (z := 10) rfl
    obtain ⟨d7, g7, g7a, g7b⟩ := hin.get (i := 7) (z := 8) rfl
    obtain ⟨n0, rfl⟩ := Int.eq_ofNat_of_zero_le g0a
    obtain ⟨m, rfl⟩ := Int.eq_ofNat_of_zero_le g1a
    refine ⟨_, rfl, p1, _, 0, _, rfl, rfl, L1, atI_nat (j := 0) g0, _, _, rfl, rfl, ?_⟩
    have hn : (1 : Int) + (n0 : Int) = ((1 + n0 : Nat) : Int) := by omega
    refine ⟨_, rfl, _, rfl, _, rfl, p1, _, 1, _, rfl, rfl, L1, atI_nat (j := 1) g1, a, ns, 1 + n0, m, ?_, sA.seq hS, by omega, by omega, by omega, fun p2 xs es H2 hP hml sm2 np2 => ?_⟩
    · rw [← hn]
      rfl
    have sB := sA.trans sm2
    have np2H : H p2 = none := by
      cases z : H p2 with
      | none => rfl
      | some o =>
        rw [sA _ _ z] at np2
        cases np2
    refine ⟨fun σ H3 => ∃ (p3 : Addr) (xs : List V) (es : List Ent), σ = [some (.ref a), some (.ref p1), some (.int (1 + (n0 : Int))), some (.ref p3), none, none, none] ∧ Same H2 H3 ∧ PairsN K H3 p3 (1 + n0) xs es ∧ es.length ≤ 36, ?_, ?_⟩
    · refine ⟨_, rfl, p1, _, 7, _, rfl, rfl, sm2.seq L1, atI_nat (j := 7) g7, rfl, _, rfl, iteD (fun _ => ?_) (fun _ => ?_)⟩
      · have hx := hP.e.len
        refine ⟨_, rfl, _, rfl, p2, rfl, ⟨_, .inl (.inl hP.l)⟩, fun D nD => ?_⟩
        refine lc_list (K := K) (xs := xs) (fun i H3 => Same H2 H3 ∧ ∃ (ws : List V) (fs : List Ent), H3 D = some (.lst ws) ∧ Ents H3 ws fs ∧ fs.length = i ∧ ∀ e ∈ fs, e.1.length = 1 + n0) ?_ ?_ ?_ ?_
        · exact ⟨same_upd nD, [], [], upd_same, .nil, rfl, fun e he => by cases he⟩
        · rintro i H3 _ ⟨sm3, _⟩
          exact sm3.seq (.inl (.inl hP.l))
        · rintro i x H3 hxi ⟨sm3, ws, fs, hD, hF, hfl, hfn⟩
          obtain ⟨e, hei, t, pe, rfl, ht, hpe⟩ := (hP.e.mono sm3).get hxi
          have hie := (List.getElem?_eq_some_iff.mp hei).1
          have hm : e ∈ es := List.mem_of_getElem? hei
          have hen := hP.n e hm
          have hT : SqT K H3 t [.ref pe, .int e.2] := .inl (.inl ht)
          refine ⟨rfl, tYes_of ?_⟩
          refine ⟨_, rfl, t, _, 0, _, rfl, rfl, hT, atI_nat (j := 0) rfl, pe, e.1, rfl, .inl (.inl hpe), by omega, fun ms p4 H4 hml4 sm4 hp4 => ?_⟩
          refine ⟨_, rfl, t, _, 1, _, rfl, rfl, same_t sm4 hT, atI_nat (j := 1) rfl, (by show 2 ≤ sizeLine; decide), fun t5 nt5 => ?_⟩
          have sm5 : Same H4 (upd H4 t5 (.tup [.ref p4, .int e.2])) := same_upd nt5
          have hD5 := (sm4.trans sm5) _ _ hD
          have hF5 := hF.mono (sm4.trans sm5)
          have hwl := hF.len
          have hv : EntAt (upd H4 t5 (.tup [.ref p4, .int e.2])) (.ref t5) (ms, e.2) := ⟨t5, p4, rfl, upd_same, sm5 _ _ hp4⟩
          refine ⟨ws, hD5, small1000 (by omega), same_mut (sm3.trans (sm4.trans sm5)) nD, ws ++ [.ref t5], fs ++ [(ms, e.2)], upd_same, (hF5.app (.cons hv .nil)).updL hD5, ?_, fun y hy => ?_⟩
          · rw [List.length_append, hfl]
            rfl
          · rcases List.mem_append.mp hy with hy | hy
            · exact hfn y hy
            · rw [List.mem_singleton.mp hy]
              show ms.length = 1 + n0
              omega
        · rintro H3 ⟨sm3, ws, fs, hD, hF, hfl, hfn⟩
          have hp23 := sm3 _ _ hP.l
          have hwl := hF.len
          refine ⟨p2, D, _, _, rfl, rfl, hp23, hD, Nat.le_of_lt (small1000 (by omega)), fun p5 np5 => ?_⟩
          have sm5 : Same H3 (upd H3 p5 (.lst (xs ++ ws))) := same_upd np5
          have hA := ((hP.e.mono sm3).app hF).mono sm5
          have hp5 : (upd H3 p5 (.lst (xs ++ ws))) p5 = some (.lst (xs ++ ws)) := upd_same
          have hAn : ∀ e ∈ es ++ fs, e.1.length = 1 + n0 := fun e he => by
            rcases List.mem_append.mp he with he | he
            · exact hP.n e he
            · exact hfn e he
          have hAl : (es ++ fs).length ≤ 18 := by
            rw [List.length_append]
            omega
          have hwl2 := hA.len
          refine ⟨_, rfl, _, rfl, p5, p5, _, _, rfl, rfl, hp5, hp5, Nat.le_of_lt (small1000 (by omega)), fun p6 np6 => ?_⟩
          have sm6 : Same (upd H3 p5 (.lst (xs ++ ws))) (upd (upd H3 p5 (.lst (xs ++ ws))) p6 (.lst ((xs ++ ws) ++ (xs ++ ws)))) := same_upd np6
          refine ⟨p6, _, (es ++ fs) ++ (es ++ fs), rfl, sm3.trans (sm5.trans sm6), ⟨upd_same, (hA.app hA).mono sm6, fun e he => ?_⟩, ?_⟩
          · rcases List.mem_append.mp he with he | he <;> exact hAn e he
          · rw [List.length_append]
            omega
      · exact ⟨p2, xs, es, rfl, Same.refl _, hP, by omega⟩
    clear hP hml np2 np2H
    rintro σ H3 ⟨p3, xs, es, rfl, sm3, hP, hes⟩
    have sC := sB.trans sm3
    have L3 := (sm2.trans sm3).seq L1
    refine ⟨_, rfl, _, rfl, _, rfl, 2, rfl, 7, rfl, p1, _, rfl, L3, fun p7 np7 => ?_⟩
    have hcut : cutV (ds.map V.int) (some 2) (some 7) = ((ds.drop 2).take 5).map V.int := cut27 hin.1
    rw [hcut]
    have sm7 : Same H3 (upd H3 p7 (.lst (((ds.drop 2).take 5).map V.int))) := same_upd np7
    have hp7 : (upd H3 p7 (.lst (((ds.drop 2).take 5).map V.int))) p7 = some (.lst (((ds.drop 2).take 5).map V.int)) := upd_same
    generalize upd H3 p7 (.lst (((ds.drop 2).take 5).map V.int)) = H4 at sm7 hp7 ⊢
    refine ⟨p3, p7, 1 + n0, xs, es, (ds.drop 2).take 5, ?_, sm7 _ _ hP.l, hP.e.mono sm7, by omega, .inl (.inl hp7), in27 hin, fun sp ys fs H8 hsp hF hfl sm8 => ?_⟩
    · rw [← hn]
      rfl
    have sm38 := sm7.trans sm8
    obtain ⟨gb, gm⟩ := good_n (n := 1 + n0) (by omega) (by omega) hP.n
    refine ⟨2, rfl, by decide, by decide, ?_⟩
    refine for_range (lo := 0) (n := 2) (fun i σ H9 => ∃ y5 : Option V, σ = [some (.ref a), some (.ref p1), some (.int (1 + (n0 : Int))), some (.ref p3), some (.ref sp), y5, none] ∧ Same H8 H9) ?_ ?_ ?_
    · exact ⟨none, rfl, Same.refl _⟩
    · rintro i σ H9 hi ⟨y5, rfl, sm9⟩
      refine ⟨_, rfl, _, rfl, sp, ys, fs, rfl, ⟨.inl (.inl (sm9 _ _ hsp)), hF.mono sm9, small1000 (by omega)⟩, by omega, fun dv H10 hdue sm10 => ?_⟩
      have smX := sm9.trans sm10
      refine ⟨sp, dv, ys, fs, rfl, smX _ _ hsp, hF.mono smX, by omega, hdue, fun H11 sm11 => ⟨_, rfl, ?_⟩⟩
      refine iteF ?_
      have smY := smX.trans sm11
      have smZ := sm38.trans smY
      refine ⟨_, rfl, _, rfl, p3, xs, es, rfl, ⟨.inl (.inl (smZ _ _ hP.l)), hP.e.mono smZ, small1000 (by omega)⟩, fun e he z => ?_, fun r pr ws H12 hr sm12 np12 hp12 he12 => ?_⟩
      · have := hP.n e he
        rw [z] at this
        have h0 : (0 : Nat) = 1 + n0 := this
        omega
      · refine ⟨(by show 2 ≤ sizeLine; decide), fun t13 nt13 => ?_⟩
        have sm13 : Same H12 (upd H12 t13 (.tup [.str "row", .ref pr])) := same_upd nt13
        have smW := smZ.trans (sm12.trans sm13)
        refine ⟨p3, _, xs, es, rfl, smW _ _ hP.l, hP.e.mono smW, by omega, .inr (.inr ⟨gb, gm, t13, pr, ws, r, rfl, upd_same, sm13 _ _ hp12, he12.mono sm13, hr⟩), fun H14 sm14 => ⟨_, rfl, ?_⟩⟩
        refine iteF ?_
        exact ⟨_, rfl, smY.trans ((sm12.trans sm13).trans sm14)⟩
    · rintro σ H9 ⟨y5, rfl, sm9⟩
      exact q H9
end
end OT

set_option Elab.async false
set_option linter.all false
set_option maxRecDepth 100000
set_option maxHeartbeats 4000000
namespace OT
open PySem PySem.Spec PyProof.Rows L2
theorem all_mk {l : PySem.W.OpenLaw} {w : World} {K : PySem.W.Frag} {h : Heap} {mg : Str → Option Value} {fa : Addr} {f_same_lengths f_row_of f_gather f_make_row f__law_cell f__law_draws f__law_is_integer f__law_is_place f__law_is_row f__law_same f__law_back f__law_row f__law_is_error f__law_pair f__law_pairs f__law_spoilt f__law_due f__law_refused f__law_asked f_law f_te f_ie B I C M O Z : Addr} (X : K.In h) (G : h.Ns mainGlobals mg) (hfa : mg "law" = some (.ref fa))
    {od_same_lengths an_same_lengths : Option Addr} {sl_same_lengths : Array (Option Value)} {oc_same_lengths kV_same_lengths dc_same_lengths pm_same_lengths cd_same_lengths ct_same_lengths : Value}
    {od_row_of an_row_of : Option Addr} {sl_row_of : Array (Option Value)} {oc_row_of kV_row_of dc_row_of pm_row_of cd_row_of ct_row_of : Value}
    {od_gather an_gather : Option Addr} {sl_gather : Array (Option Value)} {oc_gather kV_gather dc_gather pm_gather cd_gather ct_gather : Value}
    {od_make_row an_make_row : Option Addr} {sl_make_row : Array (Option Value)} {oc_make_row kV_make_row dc_make_row pm_make_row cd_make_row ct_make_row : Value}
    {od__law_cell an__law_cell : Option Addr} {sl__law_cell : Array (Option Value)} {oc__law_cell kV__law_cell dc__law_cell pm__law_cell cd__law_cell ct__law_cell : Value}
    {od__law_draws an__law_draws : Option Addr} {sl__law_draws : Array (Option Value)} {oc__law_draws kV__law_draws dc__law_draws pm__law_draws cd__law_draws ct__law_draws : Value}
    {od__law_is_integer an__law_is_integer : Option Addr} {sl__law_is_integer : Array (Option Value)} {oc__law_is_integer kV__law_is_integer dc__law_is_integer pm__law_is_integer cd__law_is_integer ct__law_is_integer : Value}
    {od__law_is_place an__law_is_place : Option Addr} {sl__law_is_place : Array (Option Value)} {oc__law_is_place kV__law_is_place dc__law_is_place pm__law_is_place cd__law_is_place ct__law_is_place : Value}
    {od__law_is_row an__law_is_row : Option Addr} {sl__law_is_row : Array (Option Value)} {oc__law_is_row kV__law_is_row dc__law_is_row pm__law_is_row cd__law_is_row ct__law_is_row : Value}
    {od__law_same an__law_same : Option Addr} {sl__law_same : Array (Option Value)} {oc__law_same kV__law_same dc__law_same pm__law_same cd__law_same ct__law_same : Value}
    {od__law_back an__law_back : Option Addr} {sl__law_back : Array (Option Value)} {oc__law_back kV__law_back dc__law_back pm__law_back cd__law_back ct__law_back : Value}
    {od__law_row an__law_row : Option Addr} {sl__law_row : Array (Option Value)} {oc__law_row kV__law_row dc__law_row pm__law_row cd__law_row ct__law_row : Value}
    {od__law_is_error an__law_is_error : Option Addr} {sl__law_is_error : Array (Option Value)} {oc__law_is_error kV__law_is_error dc__law_is_error pm__law_is_error cd__law_is_error ct__law_is_error : Value}
    {od__law_pair an__law_pair : Option Addr} {sl__law_pair : Array (Option Value)} {oc__law_pair kV__law_pair dc__law_pair pm__law_pair cd__law_pair ct__law_pair : Value}
    {od__law_pairs an__law_pairs : Option Addr} {sl__law_pairs : Array (Option Value)} {oc__law_pairs kV__law_pairs dc__law_pairs pm__law_pairs cd__law_pairs ct__law_pairs : Value}
    {od__law_spoilt an__law_spoilt : Option Addr} {sl__law_spoilt : Array (Option Value)} {oc__law_spoilt kV__law_spoilt dc__law_spoilt pm__law_spoilt cd__law_spoilt ct__law_spoilt : Value}
    {od__law_due an__law_due : Option Addr} {sl__law_due : Array (Option Value)} {oc__law_due kV__law_due dc__law_due pm__law_due cd__law_due ct__law_due : Value}
    {od__law_refused an__law_refused : Option Addr} {sl__law_refused : Array (Option Value)} {oc__law_refused kV__law_refused dc__law_refused pm__law_refused cd__law_refused ct__law_refused : Value}
    {od__law_asked an__law_asked : Option Addr} {sl__law_asked : Array (Option Value)} {oc__law_asked kV__law_asked dc__law_asked pm__law_asked cd__law_asked ct__law_asked : Value}
    {od_law an_law : Option Addr} {sl_law : Array (Option Value)} {oc_law kV_law dc_law pm_law cd_law ct_law : Value}
    {od_te an_te : Option Addr} {sl_te : Array (Option Value)} {oc_te kV_te dc_te pm_te cd_te ct_te : Value}
    {od_ie an_ie : Option Addr} {sl_ie : Array (Option Value)} {oc_ie kV_ie dc_ie pm_ie cd_ie ct_ie : Value}
    {nm_C q_C : Str} {N_C : Addr} {bs_C bm_C : List Value} {sn_C : List Str} {sub_C : List Value} {ab_C : Bool} {col_C : Option Bool} {dd_C : Option Addr} {m0_C m1_C m3_C m5_C : Option Value} {tk_C : Tok}
    {nm_M q_M : Str} {N_M : Addr} {bs_M bm_M : List Value} {sn_M : List Str} {sub_M : List Value} {ab_M : Bool} {col_M : Option Bool} {dd_M : Option Addr} {m0_M m1_M m3_M m5_M : Option Value} {tk_M : Tok}
    (z_len : PySem.W.nsIn K mainGlobals "len" = some none)
    (z_int : PySem.W.nsIn K mainGlobals "int" = some none)
    (z_str : PySem.W.nsIn K mainGlobals "str" = some none)
    (z_bool : PySem.W.nsIn K mainGlobals "bool" = some none)
    (z_list : PySem.W.nsIn K mainGlobals "list" = some none)
    (z_tuple : PySem.W.nsIn K mainGlobals "tuple" = some none)
    (z_range : PySem.W.nsIn K mainGlobals "range" = some none)
    (z_enumerate : PySem.W.nsIn K mainGlobals "enumerate" = some none)
    (z_isinstance : PySem.W.nsIn K mainGlobals "isinstance" = some none)
    (z_sorted : PySem.W.nsIn K mainGlobals "sorted" = some none)
    (z_any : PySem.W.nsIn K mainGlobals "any" = some none)
    (z_ValueError : PySem.W.nsIn K mainGlobals "ValueError" = some none)
    (a_same_lengths : PySem.W.nsIn K mainGlobals "same_lengths" = some (some (.ref f_same_lengths)))
    (l_same_lengths : K.lookup f_same_lengths = some ⟨oc_same_lengths, od_same_lengths, .func (PySem.W.fnOf "same_lengths" "same_lengths" (C8.fnArgs s_same_lengths) (C8.fnBody s_same_lengths) (C8.fnScope s_same_lengths) .none kV_same_lengths dc_same_lengths pm_same_lengths an_same_lengths cd_same_lengths ct_same_lengths), sl_same_lengths⟩)
    (co_same_lengths : PySem.W.codeIn K cd_same_lengths "same_lengths" = true)
    (k_same_lengths : PySem.W.keepIn K (.ref f_same_lengths) = true)
    (a_row_of : PySem.W.nsIn K mainGlobals "row_of" = some (some (.ref f_row_of)))
    (l_row_of : K.lookup f_row_of = some ⟨oc_row_of, od_row_of, .func (PySem.W.fnOf "row_of" "row_of" (C8.fnArgs s_row_of) (C8.fnBody s_row_of) (C8.fnScope s_row_of) .none kV_row_of dc_row_of pm_row_of an_row_of cd_row_of ct_row_of), sl_row_of⟩)
    (co_row_of : PySem.W.codeIn K cd_row_of "row_of" = true)
    (k_row_of : PySem.W.keepIn K (.ref f_row_of) = true)
    (a_gather : PySem.W.nsIn K mainGlobals "gather" = some (some (.ref f_gather)))
    (l_gather : K.lookup f_gather = some ⟨oc_gather, od_gather, .func (PySem.W.fnOf "gather" "gather" (C8.fnArgs s_gather) (C8.fnBody s_gather) (C8.fnScope s_gather) .none kV_gather dc_gather pm_gather an_gather cd_gather ct_gather), sl_gather⟩)
    (co_gather : PySem.W.codeIn K cd_gather "gather" = true)
    (k_gather : PySem.W.keepIn K (.ref f_gather) = true)
    (a_make_row : PySem.W.nsIn K mainGlobals "make_row" = some (some (.ref f_make_row)))
    (l_make_row : K.lookup f_make_row = some ⟨oc_make_row, od_make_row, .func (PySem.W.fnOf "make_row" "make_row" (C8.fnArgs s_make_row) (C8.fnBody s_make_row) (C8.fnScope s_make_row) .none kV_make_row dc_make_row pm_make_row an_make_row cd_make_row ct_make_row), sl_make_row⟩)
    (co_make_row : PySem.W.codeIn K cd_make_row "make_row" = true)
    (k_make_row : PySem.W.keepIn K (.ref f_make_row) = true)
    (a__law_cell : PySem.W.nsIn K mainGlobals "_law_cell" = some (some (.ref f__law_cell)))
    (l__law_cell : K.lookup f__law_cell = some ⟨oc__law_cell, od__law_cell, .func (PySem.W.fnOf "_law_cell" "_law_cell" (C8.fnArgs s__law_cell) (C8.fnBody s__law_cell) (C8.fnScope s__law_cell) .none kV__law_cell dc__law_cell pm__law_cell an__law_cell cd__law_cell ct__law_cell), sl__law_cell⟩)
    (co__law_cell : PySem.W.codeIn K cd__law_cell "_law_cell" = true)
    (k__law_cell : PySem.W.keepIn K (.ref f__law_cell) = true)
    (a__law_draws : PySem.W.nsIn K mainGlobals "_law_draws" = some (some (.ref f__law_draws)))
    (l__law_draws : K.lookup f__law_draws = some ⟨oc__law_draws, od__law_draws, .func (PySem.W.fnOf "_law_draws" "_law_draws" (C8.fnArgs s__law_draws) (C8.fnBody s__law_draws) (C8.fnScope s__law_draws) .none kV__law_draws dc__law_draws pm__law_draws an__law_draws cd__law_draws ct__law_draws), sl__law_draws⟩)
    (co__law_draws : PySem.W.codeIn K cd__law_draws "_law_draws" = true)
    (k__law_draws : PySem.W.keepIn K (.ref f__law_draws) = true)
    (a__law_is_integer : PySem.W.nsIn K mainGlobals "_law_is_integer" = some (some (.ref f__law_is_integer)))
    (l__law_is_integer : K.lookup f__law_is_integer = some ⟨oc__law_is_integer, od__law_is_integer, .func (PySem.W.fnOf "_law_is_integer" "_law_is_integer" (C8.fnArgs s__law_is_integer) (C8.fnBody s__law_is_integer) (C8.fnScope s__law_is_integer) .none kV__law_is_integer dc__law_is_integer pm__law_is_integer an__law_is_integer cd__law_is_integer ct__law_is_integer), sl__law_is_integer⟩)
    (co__law_is_integer : PySem.W.codeIn K cd__law_is_integer "_law_is_integer" = true)
    (k__law_is_integer : PySem.W.keepIn K (.ref f__law_is_integer) = true)
    (a__law_is_place : PySem.W.nsIn K mainGlobals "_law_is_place" = some (some (.ref f__law_is_place)))
    (l__law_is_place : K.lookup f__law_is_place = some ⟨oc__law_is_place, od__law_is_place, .func (PySem.W.fnOf "_law_is_place" "_law_is_place" (C8.fnArgs s__law_is_place) (C8.fnBody s__law_is_place) (C8.fnScope s__law_is_place) .none kV__law_is_place dc__law_is_place pm__law_is_place an__law_is_place cd__law_is_place ct__law_is_place), sl__law_is_place⟩)
    (co__law_is_place : PySem.W.codeIn K cd__law_is_place "_law_is_place" = true)
    (k__law_is_place : PySem.W.keepIn K (.ref f__law_is_place) = true)
    (a__law_is_row : PySem.W.nsIn K mainGlobals "_law_is_row" = some (some (.ref f__law_is_row)))
    (l__law_is_row : K.lookup f__law_is_row = some ⟨oc__law_is_row, od__law_is_row, .func (PySem.W.fnOf "_law_is_row" "_law_is_row" (C8.fnArgs s__law_is_row) (C8.fnBody s__law_is_row) (C8.fnScope s__law_is_row) .none kV__law_is_row dc__law_is_row pm__law_is_row an__law_is_row cd__law_is_row ct__law_is_row), sl__law_is_row⟩)
    (co__law_is_row : PySem.W.codeIn K cd__law_is_row "_law_is_row" = true)
    (k__law_is_row : PySem.W.keepIn K (.ref f__law_is_row) = true)
    (a__law_same : PySem.W.nsIn K mainGlobals "_law_same" = some (some (.ref f__law_same)))
    (l__law_same : K.lookup f__law_same = some ⟨oc__law_same, od__law_same, .func (PySem.W.fnOf "_law_same" "_law_same" (C8.fnArgs s__law_same) (C8.fnBody s__law_same) (C8.fnScope s__law_same) .none kV__law_same dc__law_same pm__law_same an__law_same cd__law_same ct__law_same), sl__law_same⟩)
    (co__law_same : PySem.W.codeIn K cd__law_same "_law_same" = true)
    (k__law_same : PySem.W.keepIn K (.ref f__law_same) = true)
    (a__law_back : PySem.W.nsIn K mainGlobals "_law_back" = some (some (.ref f__law_back)))
    (l__law_back : K.lookup f__law_back = some ⟨oc__law_back, od__law_back, .func (PySem.W.fnOf "_law_back" "_law_back" (C8.fnArgs s__law_back) (C8.fnBody s__law_back) (C8.fnScope s__law_back) .none kV__law_back dc__law_back pm__law_back an__law_back cd__law_back ct__law_back), sl__law_back⟩)
    (co__law_back : PySem.W.codeIn K cd__law_back "_law_back" = true)
    (k__law_back : PySem.W.keepIn K (.ref f__law_back) = true)
    (a__law_row : PySem.W.nsIn K mainGlobals "_law_row" = some (some (.ref f__law_row)))
    (l__law_row : K.lookup f__law_row = some ⟨oc__law_row, od__law_row, .func (PySem.W.fnOf "_law_row" "_law_row" (C8.fnArgs s__law_row) (C8.fnBody s__law_row) (C8.fnScope s__law_row) .none kV__law_row dc__law_row pm__law_row an__law_row cd__law_row ct__law_row), sl__law_row⟩)
    (co__law_row : PySem.W.codeIn K cd__law_row "_law_row" = true)
    (k__law_row : PySem.W.keepIn K (.ref f__law_row) = true)
    (a__law_is_error : PySem.W.nsIn K mainGlobals "_law_is_error" = some (some (.ref f__law_is_error)))
    (l__law_is_error : K.lookup f__law_is_error = some ⟨oc__law_is_error, od__law_is_error, .func (PySem.W.fnOf "_law_is_error" "_law_is_error" (C8.fnArgs s__law_is_error) (C8.fnBody s__law_is_error) (C8.fnScope s__law_is_error) .none kV__law_is_error dc__law_is_error pm__law_is_error an__law_is_error cd__law_is_error ct__law_is_error), sl__law_is_error⟩)
    (co__law_is_error : PySem.W.codeIn K cd__law_is_error "_law_is_error" = true)
    (k__law_is_error : PySem.W.keepIn K (.ref f__law_is_error) = true)
    (a__law_pair : PySem.W.nsIn K mainGlobals "_law_pair" = some (some (.ref f__law_pair)))
    (l__law_pair : K.lookup f__law_pair = some ⟨oc__law_pair, od__law_pair, .func (PySem.W.fnOf "_law_pair" "_law_pair" (C8.fnArgs s__law_pair) (C8.fnBody s__law_pair) (C8.fnScope s__law_pair) .none kV__law_pair dc__law_pair pm__law_pair an__law_pair cd__law_pair ct__law_pair), sl__law_pair⟩)
    (co__law_pair : PySem.W.codeIn K cd__law_pair "_law_pair" = true)
    (k__law_pair : PySem.W.keepIn K (.ref f__law_pair) = true)
    (a__law_pairs : PySem.W.nsIn K mainGlobals "_law_pairs" = some (some (.ref f__law_pairs)))
    (l__law_pairs : K.lookup f__law_pairs = some ⟨oc__law_pairs, od__law_pairs, .func (PySem.W.fnOf "_law_pairs" "_law_pairs" (C8.fnArgs s__law_pairs) (C8.fnBody s__law_pairs) (C8.fnScope s__law_pairs) .none kV__law_pairs dc__law_pairs pm__law_pairs an__law_pairs cd__law_pairs ct__law_pairs), sl__law_pairs⟩)
    (co__law_pairs : PySem.W.codeIn K cd__law_pairs "_law_pairs" = true)
    (k__law_pairs : PySem.W.keepIn K (.ref f__law_pairs) = true)
    (a__law_spoilt : PySem.W.nsIn K mainGlobals "_law_spoilt" = some (some (.ref f__law_spoilt)))
    (l__law_spoilt : K.lookup f__law_spoilt = some ⟨oc__law_spoilt, od__law_spoilt, .func (PySem.W.fnOf "_law_spoilt" "_law_spoilt" (C8.fnArgs s__law_spoilt) (C8.fnBody s__law_spoilt) (C8.fnScope s__law_spoilt) .none kV__law_spoilt dc__law_spoilt pm__law_spoilt an__law_spoilt cd__law_spoilt ct__law_spoilt), sl__law_spoilt⟩)
    (co__law_spoilt : PySem.W.codeIn K cd__law_spoilt "_law_spoilt" = true)
    (k__law_spoilt : PySem.W.keepIn K (.ref f__law_spoilt) = true)
    (a__law_due : PySem.W.nsIn K mainGlobals "_law_due" = some (some (.ref f__law_due)))
    (l__law_due : K.lookup f__law_due = some ⟨oc__law_due, od__law_due, .func (PySem.W.fnOf "_law_due" "_law_due" (C8.fnArgs s__law_due) (C8.fnBody s__law_due) (C8.fnScope s__law_due) .none kV__law_due dc__law_due pm__law_due an__law_due cd__law_due ct__law_due), sl__law_due⟩)
    (co__law_due : PySem.W.codeIn K cd__law_due "_law_due" = true)
    (k__law_due : PySem.W.keepIn K (.ref f__law_due) = true)
    (a__law_refused : PySem.W.nsIn K mainGlobals "_law_refused" = some (some (.ref f__law_refused)))
    (l__law_refused : K.lookup f__law_refused = some ⟨oc__law_refused, od__law_refused, .func (PySem.W.fnOf "_law_refused" "_law_refused" (C8.fnArgs s__law_refused) (C8.fnBody s__law_refused) (C8.fnScope s__law_refused) .none kV__law_refused dc__law_refused pm__law_refused an__law_refused cd__law_refused ct__law_refused), sl__law_refused⟩)
    (co__law_refused : PySem.W.codeIn K cd__law_refused "_law_refused" = true)
    (k__law_refused : PySem.W.keepIn K (.ref f__law_refused) = true)
    (a__law_asked : PySem.W.nsIn K mainGlobals "_law_asked" = some (some (.ref f__law_asked)))
    (l__law_asked : K.lookup f__law_asked = some ⟨oc__law_asked, od__law_asked, .func (PySem.W.fnOf "_law_asked" "_law_asked" (C8.fnArgs s__law_asked) (C8.fnBody s__law_asked) (C8.fnScope s__law_asked) .none kV__law_asked dc__law_asked pm__law_asked an__law_asked cd__law_asked ct__law_asked), sl__law_asked⟩)
    (co__law_asked : PySem.W.codeIn K cd__law_asked "_law_asked" = true)
    (k__law_asked : PySem.W.keepIn K (.ref f__law_asked) = true)
    (a_law : PySem.W.nsIn K mainGlobals "law" = some (some (.ref f_law)))
    (l_law : K.lookup f_law = some ⟨oc_law, od_law, .func (PySem.W.fnOf "law" "law" (C8.fnArgs s_law) (C8.fnBody s_law) (C8.fnScope s_law) .none kV_law dc_law pm_law an_law cd_law ct_law), sl_law⟩)
    (co_law : PySem.W.codeIn K cd_law "law" = true)
    (k_law : PySem.W.keepIn K (.ref f_law) = true)
    (a_te : PySem.W.findIn K (.ref B) "__init__" = some (some (.ref f_te)))
    (l_te : K.lookup f_te = some ⟨oc_te, od_te, .func (PySem.W.fnOf "__init__" "TableError.__init__" (C8.fnArgs s_TableError___init__) (C8.fnBody s_TableError___init__) (C8.fnScope s_TableError___init__) .none kV_te dc_te pm_te an_te cd_te ct_te), sl_te⟩)
    (co_te : PySem.W.codeIn K cd_te "TableError.__init__" = true)
    (k_te : PySem.W.keepIn K (.ref f_te) = true)
    (a_ie : PySem.W.findIn K (.ref I) "__init__" = some (some (.ref f_ie)))
    (l_ie : K.lookup f_ie = some ⟨oc_ie, od_ie, .func (PySem.W.fnOf "__init__" "IndexedError.__init__" (C8.fnArgs s_IndexedError___init__) (C8.fnBody s_IndexedError___init__) (C8.fnScope s_IndexedError___init__) .none kV_ie dc_ie pm_ie an_ie cd_ie ct_ie), sl_ie⟩)
    (co_ie : PySem.W.codeIn K cd_ie "IndexedError.__init__" = true)
    (k_ie : PySem.W.keepIn K (.ref f_ie) = true)
    (g_B : PySem.W.nsIn K mainGlobals "TableError" = some (some (.ref B)))
    (g_I : PySem.W.nsIn K mainGlobals "IndexedError" = some (some (.ref I)))
    (g_C : PySem.W.nsIn K mainGlobals "BadPlace" = some (some (.ref C)))
    (g_M : PySem.W.nsIn K mainGlobals "MixedDimensions" = some (some (.ref M)))
    (g_O : PySem.W.nsIn K mainGlobals "OneDirectionOnly" = some (some (.ref O)))
    (g_Z : PySem.W.nsIn K mainGlobals "ZeroRow" = some (some (.ref Z)))
    (xl_C : K.lookup C = some (excClassObj nm_C q_C C N_C bs_C bm_C true sn_C sub_C ab_C col_C dd_C m0_C m1_C (some (.str "BadPlace" tk_C)) m3_C m5_C "ValueError.__new__"))
    (vb_C : PySem.HandSPX.refsVE bm_C = true)
    (sa_C : PySem.W.findIn K (.ref C) "__setattr__" = some (some (.builtin "object.__setattr__")))
    (ex_C : PySem.W.subIn K (.ref C) (.type "BaseException") = some true)
    (ty_C : PySem.W.typeIn K (.ref C) = some (.type "type"))
    (kc_C : PySem.W.keepIn K (.ref C) = true)
    (ga_C : PySem.W.findIn K (.ref C) "__getattribute__" = some (some (.builtin "BaseException.__getattribute__")))
    (gg_C : PySem.W.findIn K (.ref C) "__getattr__" = some none)
    (hd_C : PySem.W.hasDictIn K C = true)
    (ha_C : PySem.W.findIn K (.ref C) "__class__" = some (some (.builtin "object.__class__")))
    (mr_C : PySem.W.mroIn K C (.type "object") = some true)
    (rd_C : PySem.W.readsIn K C (.type "type") = true)
    (fn_C : PySem.W.findCls K (.ref C) (.type "type") "__name__" = some (.get (.builtin "getset_descriptor.__get__") (.builtin "type.__name__") (.ref C) (.type "type")))
    (nw_C : PySem.W.findIn K (.ref C) "word" = some none)
    (ni_C : PySem.W.findIn K (.ref C) "index" = some none)
    (in_C : PySem.W.findIn K (.ref C) "__init__" = some (some (.ref f_ie)))
    (xl_M : K.lookup M = some (excClassObj nm_M q_M M N_M bs_M bm_M true sn_M sub_M ab_M col_M dd_M m0_M m1_M (some (.str "MixedDimensions" tk_M)) m3_M m5_M "ValueError.__new__"))
    (vb_M : PySem.HandSPX.refsVE bm_M = true)
    (sa_M : PySem.W.findIn K (.ref M) "__setattr__" = some (some (.builtin "object.__setattr__")))
    (ex_M : PySem.W.subIn K (.ref M) (.type "BaseException") = some true)
    (ty_M : PySem.W.typeIn K (.ref M) = some (.type "type"))
    (kc_M : PySem.W.keepIn K (.ref M) = true)
    (ga_M : PySem.W.findIn K (.ref M) "__getattribute__" = some (some (.builtin "BaseException.__getattribute__")))
    (gg_M : PySem.W.findIn K (.ref M) "__getattr__" = some none)
    (hd_M : PySem.W.hasDictIn K M = true)
    (ha_M : PySem.W.findIn K (.ref M) "__class__" = some (some (.builtin "object.__class__")))
    (mr_M : PySem.W.mroIn K M (.type "object") = some true)
    (rd_M : PySem.W.readsIn K M (.type "type") = true)
    (fn_M : PySem.W.findCls K (.ref M) (.type "type") "__name__" = some (.get (.builtin "getset_descriptor.__get__") (.builtin "type.__name__") (.ref M) (.type "type")))
    (nw_M : PySem.W.findIn K (.ref M) "word" = some none)
    (ni_M : PySem.W.findIn K (.ref M) "index" = some none)
    (in_M : PySem.W.findIn K (.ref M) "__init__" = some (some (.ref f_te)))
    (hn : PySem.W.specialIn K (.builtin "object.__class__") "__get__" = some (some (.builtin "getset_descriptor.__get__")))
    (ht : PySem.W.takesIn K (.builtin "object.__class__") = some true)
    (ti_ie : PySem.W.typeIn K (.ref f_ie) = some (.type "function"))
    (ti_te : PySem.W.typeIn K (.ref f_te) = some (.type "function"))
    (rB : PySem.W.readsIn K B (.type "type") = true)
    (sB : PySem.W.specialIn K (.ref B) "__getattribute__" = some (some (.builtin "type.__getattribute__")))
    (fB : PySem.W.findCls K (.ref B) (.type "type") "__init__" = some (.val (.ref f_te)))
    (xC : PySem.W.exmOne K (.ref C) (.ref B) = some true)
    (xM : PySem.W.exmOne K (.ref M) (.ref B) = some true)
    (kBC : PySem.W.kitOne K (.ref C) (.ref B) = some true)
    (kVC : PySem.W.kitOne K (.ref C) (.type "ValueError") = some true)
    (kBM : PySem.W.kitOne K (.ref M) (.ref B) = some true)
    (kVM : PySem.W.kitOne K (.ref M) (.type "ValueError") = some true)
    (k1 : PySem.W.kitOne K (.ref C) (.ref O) = some false)
    (k2 : PySem.W.kitOne K (.ref C) (.ref Z) = some false)
    (k3 : PySem.W.kitOne K (.ref C) (.ref C) = some true)
    (k4 : PySem.W.kitOne K (.ref C) (.ref M) = some false)
    (k5 : PySem.W.kitOne K (.ref M) (.ref O) = some false)
    (k6 : PySem.W.kitOne K (.ref M) (.ref Z) = some false)
    (k7 : PySem.W.kitOne K (.ref M) (.ref M) = some true)
    (k8 : PySem.W.kitOne K (.ref M) (.ref C) = some false) :
    ∃ fd : FuncData, (∀ (s : Shared) (v : Value), BindsTo s fd ⟨[v], []⟩ [("_law_script", v)]) ∧ ∀ base : Heap, K.In base → base.Ns mainGlobals mg → FnOk l.prog w K mg base L2.CX0 6 fa fd ["_law_script"] (spLaw K) := by
  have e := hfa.symm.trans (PySem.W.mg_of X G a_law)
  cases e
  have T : Bi mg := ⟨PySem.W.mg_none_of X G z_len, PySem.W.mg_none_of X G z_int, PySem.W.mg_none_of X G z_str, PySem.W.mg_none_of X G z_bool, PySem.W.mg_none_of X G z_list, PySem.W.mg_none_of X G z_tuple, PySem.W.mg_none_of X G z_range, PySem.W.mg_none_of X G z_enumerate, PySem.W.mg_none_of X G z_isinstance, PySem.W.mg_none_of X G z_sorted, PySem.W.mg_none_of X G z_any⟩
  have D_same_lengths : C8.Def K mg "same_lengths" s_same_lengths f_same_lengths _ := ⟨⟨⟨_, _, _, _, _, _, _, _, _, _, rfl, l_same_lengths, co_same_lengths⟩⟩, PySem.W.mg_of X G a_same_lengths, k_same_lengths⟩
  have b_same_lengths := D_same_lengths.fn.binds (ps := ["lengths"]) rfl fun _ _ _ _ _ _ us hl => match us, hl with | [_], _ => rfl
  have D_row_of : C8.Def K mg "row_of" s_row_of f_row_of _ := ⟨⟨⟨_, _, _, _, _, _, _, _, _, _, rfl, l_row_of, co_row_of⟩⟩, PySem.W.mg_of X G a_row_of, k_row_of⟩
  have b_row_of := D_row_of.fn.binds (ps := ["numbers"]) rfl fun _ _ _ _ _ _ us hl => match us, hl with | [_], _ => rfl
  have D_gather : C8.Def K mg "gather" s_gather f_gather _ := ⟨⟨⟨_, _, _, _, _, _, _, _, _, _, rfl, l_gather, co_gather⟩⟩, PySem.W.mg_of X G a_gather, k_gather⟩
  have b_gather := D_gather.fn.binds (ps := ["entries"]) rfl fun _ _ _ _ _ _ us hl => match us, hl with | [_], _ => rfl
  have D_make_row : C8.Def K mg "make_row" s_make_row f_make_row _ := ⟨⟨⟨_, _, _, _, _, _, _, _, _, _, rfl, l_make_row, co_make_row⟩⟩, PySem.W.mg_of X G a_make_row, k_make_row⟩
  have b_make_row := D_make_row.fn.binds (ps := ["entries"]) rfl fun _ _ _ _ _ _ us hl => match us, hl with | [_], _ => rfl
  have D__law_cell : C8.Def K mg "_law_cell" s__law_cell f__law_cell _ := ⟨⟨⟨_, _, _, _, _, _, _, _, _, _, rfl, l__law_cell, co__law_cell⟩⟩, PySem.W.mg_of X G a__law_cell, k__law_cell⟩
  have b__law_cell := D__law_cell.fn.binds (ps := ["_law_script", "_law_k"]) rfl fun _ _ _ _ _ _ us hl => match us, hl with | [_, _], _ => rfl
  have D__law_draws : C8.Def K mg "_law_draws" s__law_draws f__law_draws _ := ⟨⟨⟨_, _, _, _, _, _, _, _, _, _, rfl, l__law_draws, co__law_draws⟩⟩, PySem.W.mg_of X G a__law_draws, k__law_draws⟩
  have b__law_draws := D__law_draws.fn.binds (ps := ["_law_cell_here", "_law_sizes"]) rfl fun _ _ _ _ _ _ us hl => match us, hl with | [_, _], _ => rfl
  have D__law_is_integer : C8.Def K mg "_law_is_integer" s__law_is_integer f__law_is_integer _ := ⟨⟨⟨_, _, _, _, _, _, _, _, _, _, rfl, l__law_is_integer, co__law_is_integer⟩⟩, PySem.W.mg_of X G a__law_is_integer, k__law_is_integer⟩
  have b__law_is_integer := D__law_is_integer.fn.binds (ps := ["_law_actual"]) rfl fun _ _ _ _ _ _ us hl => match us, hl with | [_], _ => rfl
  have D__law_is_place : C8.Def K mg "_law_is_place" s__law_is_place f__law_is_place _ := ⟨⟨⟨_, _, _, _, _, _, _, _, _, _, rfl, l__law_is_place, co__law_is_place⟩⟩, PySem.W.mg_of X G a__law_is_place, k__law_is_place⟩
  have b__law_is_place := D__law_is_place.fn.binds (ps := ["_law_actual"]) rfl fun _ _ _ _ _ _ us hl => match us, hl with | [_], _ => rfl
  have D__law_is_row : C8.Def K mg "_law_is_row" s__law_is_row f__law_is_row _ := ⟨⟨⟨_, _, _, _, _, _, _, _, _, _, rfl, l__law_is_row, co__law_is_row⟩⟩, PySem.W.mg_of X G a__law_is_row, k__law_is_row⟩
  have b__law_is_row := D__law_is_row.fn.binds (ps := ["_law_actual"]) rfl fun _ _ _ _ _ _ us hl => match us, hl with | [_], _ => rfl
  have D__law_same : C8.Def K mg "_law_same" s__law_same f__law_same _ := ⟨⟨⟨_, _, _, _, _, _, _, _, _, _, rfl, l__law_same, co__law_same⟩⟩, PySem.W.mg_of X G a__law_same, k__law_same⟩
  have b__law_same := D__law_same.fn.binds (ps := ["_law_actual", "_law_expected"]) rfl fun _ _ _ _ _ _ us hl => match us, hl with | [_, _], _ => rfl
  have D__law_back : C8.Def K mg "_law_back" s__law_back f__law_back _ := ⟨⟨⟨_, _, _, _, _, _, _, _, _, _, rfl, l__law_back, co__law_back⟩⟩, PySem.W.mg_of X G a__law_back, k__law_back⟩
  have b__law_back := D__law_back.fn.binds (ps := ["_law_place"]) rfl fun _ _ _ _ _ _ us hl => match us, hl with | [_], _ => rfl
  have D__law_row : C8.Def K mg "_law_row" s__law_row f__law_row _ := ⟨⟨⟨_, _, _, _, _, _, _, _, _, _, rfl, l__law_row, co__law_row⟩⟩, PySem.W.mg_of X G a__law_row, k__law_row⟩
  have b__law_row := D__law_row.fn.binds (ps := ["_law_pairs_here"]) rfl fun _ _ _ _ _ _ us hl => match us, hl with | [_], _ => rfl
  have D__law_is_error : C8.Def K mg "_law_is_error" s__law_is_error f__law_is_error _ := ⟨⟨⟨_, _, _, _, _, _, _, _, _, _, rfl, l__law_is_error, co__law_is_error⟩⟩, PySem.W.mg_of X G a__law_is_error, k__law_is_error⟩
  have b__law_is_error := D__law_is_error.fn.binds (ps := ["_law_e", "_law_word"]) rfl fun _ _ _ _ _ _ us hl => match us, hl with | [_, _], _ => rfl
  have D__law_pair : C8.Def K mg "_law_pair" s__law_pair f__law_pair _ := ⟨⟨⟨_, _, _, _, _, _, _, _, _, _, rfl, l__law_pair, co__law_pair⟩⟩, PySem.W.mg_of X G a__law_pair, k__law_pair⟩
  have b__law_pair := D__law_pair.fn.binds (ps := ["_law_draws_here", "_law_size", "_law_pairs_here"]) rfl fun _ _ _ _ _ _ us hl => match us, hl with | [_, _, _], _ => rfl
  have D__law_pairs : C8.Def K mg "_law_pairs" s__law_pairs f__law_pairs _ := ⟨⟨⟨_, _, _, _, _, _, _, _, _, _, rfl, l__law_pairs, co__law_pairs⟩⟩, PySem.W.mg_of X G a__law_pairs, k__law_pairs⟩
  have b__law_pairs := D__law_pairs.fn.binds (ps := ["_law_script", "_law_size", "_law_count"]) rfl fun _ _ _ _ _ _ us hl => match us, hl with | [_, _, _], _ => rfl
  have D__law_spoilt : C8.Def K mg "_law_spoilt" s__law_spoilt f__law_spoilt _ := ⟨⟨⟨_, _, _, _, _, _, _, _, _, _, rfl, l__law_spoilt, co__law_spoilt⟩⟩, PySem.W.mg_of X G a__law_spoilt, k__law_spoilt⟩
  have b__law_spoilt := D__law_spoilt.fn.binds (ps := ["_law_pairs_here", "_law_size", "_law_draws_here"]) rfl fun _ _ _ _ _ _ us hl => match us, hl with | [_, _, _], _ => rfl
  have D__law_due : C8.Def K mg "_law_due" s__law_due f__law_due _ := ⟨⟨⟨_, _, _, _, _, _, _, _, _, _, rfl, l__law_due, co__law_due⟩⟩, PySem.W.mg_of X G a__law_due, k__law_due⟩
  have b__law_due := D__law_due.fn.binds (ps := ["_law_pairs_here"]) rfl fun _ _ _ _ _ _ us hl => match us, hl with | [_], _ => rfl
  have D__law_refused : C8.Def K mg "_law_refused" s__law_refused f__law_refused _ := ⟨⟨⟨_, _, _, _, _, _, _, _, _, _, rfl, l__law_refused, co__law_refused⟩⟩, PySem.W.mg_of X G a__law_refused, k__law_refused⟩
  have b__law_refused := D__law_refused.fn.binds (ps := ["_law_e", "_law_due_here"]) rfl fun _ _ _ _ _ _ us hl => match us, hl with | [_, _], _ => rfl
  have D__law_asked : C8.Def K mg "_law_asked" s__law_asked f__law_asked _ := ⟨⟨⟨_, _, _, _, _, _, _, _, _, _, rfl, l__law_asked, co__law_asked⟩⟩, PySem.W.mg_of X G a__law_asked, k__law_asked⟩
  have b__law_asked := D__law_asked.fn.binds (ps := ["_law_pairs_here", "_law_due_here"]) rfl fun _ _ _ _ _ _ us hl => match us, hl with | [_, _], _ => rfl
  have D_law : C8.Def K mg "law" s_law fa _ := ⟨⟨⟨_, _, _, _, _, _, _, _, _, _, rfl, l_law, co_law⟩⟩, hfa, k_law⟩
  have b_law := D_law.fn.binds (ps := ["_law_script"]) rfl fun _ _ _ _ _ _ us hl => match us, hl with | [_], _ => rfl
  have D_te : C8.Fun K "__init__" "TableError.__init__" s_TableError___init__ f_te _ := ⟨⟨_, _, _, _, _, _, _, _, _, _, rfl, l_te, co_te⟩⟩
  have b_te := D_te.binds (ps := ["self"]) rfl fun _ _ _ _ _ _ us hl => match us, hl with | [_], _ => rfl
  have D_ie : C8.Fun K "__init__" "IndexedError.__init__" s_IndexedError___init__ f_ie _ := ⟨⟨_, _, _, _, _, _, _, _, _, _, rfl, l_ie, co_ie⟩⟩
  have b_ie := D_ie.binds (ps := ["self", "index"]) rfl fun _ _ _ _ _ _ us hl => match us, hl with | [_, _], _ => rfl
  have oc_C : PySem.W.OtCls K C := ⟨ga_C, gg_C, ex_C, hd_C, ha_C, hn, ht, mr_C⟩
  have er_C : OtErr K C "BadPlace" := ⟨⟨⟨_, _, _, _, _, _, _, _, _, _, _, _, _, _, _, xl_C, vb_C⟩, sa_C, ex_C, ty_C, kc_C⟩, oc_C, ⟨⟨_, _, _, _, _, xl_C, rfl⟩, rd_C, ty_C, fn_C⟩, nw_C, ni_C⟩
  have ei_C : ErrI K mg "BadPlace" C f_ie := ⟨PySem.W.mg_of X G g_C, er_C, in_C, ti_ie⟩
  have oc_M : PySem.W.OtCls K M := ⟨ga_M, gg_M, ex_M, hd_M, ha_M, hn, ht, mr_M⟩
  have er_M : OtErr K M "MixedDimensions" := ⟨⟨⟨_, _, _, _, _, _, _, _, _, _, _, _, _, _, _, xl_M, vb_M⟩, sa_M, ex_M, ty_M, kc_M⟩, oc_M, ⟨⟨_, _, _, _, _, xl_M, rfl⟩, rd_M, ty_M, fn_M⟩, nw_M, ni_M⟩
  have ei_M : ErrI K mg "MixedDimensions" M f_te := ⟨PySem.W.mg_of X G g_M, er_M, in_M, ti_te⟩
  refine ⟨PySem.W.fnOf "law" "law" (C8.fnArgs s_law) (C8.fnBody s_law) (C8.fnScope s_law) .none kV_law dc_law pm_law an_law cd_law ct_law, fun s v => .of_eq rfl, fun base _ _ => ?_⟩
  have GT : FnOk l.prog w K mg base L2.CX0 1 f_te _ ["self"] (spTE K) := ok_te D_te
  have RB : OtRead K B "__init__" f_te := ⟨rB, sB, fB, k_te⟩
  have GI := ok_ie D_ie GT b_te RB (PySem.W.mg_of X G g_B)
  have c1 := c__law_cell (P := l.prog) (w := w) (base := base) D__law_cell b__law_cell T
  have c2 : C8.Cal l.prog w K mg base 1 "_law_draws" (spDraws K) [] := c__law_draws D__law_draws b__law_draws T
  have c3 := c__law_is_integer (P := l.prog) (w := w) (base := base) D__law_is_integer b__law_is_integer T
  have c4 := c__law_is_place D__law_is_place b__law_is_place T c3
  have c5 := c__law_is_row D__law_is_row b__law_is_row T c4 c3
  have c6 := c__law_same D__law_same b__law_same T c5
  have c7 := c__law_back (P := l.prog) (w := w) (base := base) D__law_back b__law_back T
  have c8 := c__law_row (P := l.prog) (w := w) (base := base) D__law_row b__law_row T
  have c9 := c__law_pair (P := l.prog) (w := w) (base := base) D__law_pair b__law_pair T
  have c10 := c__law_pairs D__law_pairs b__law_pairs T c1 c2 c9
  have c11 := c__law_spoilt (P := l.prog) (w := w) (base := base) D__law_spoilt b__law_spoilt T
  have c12 := c__law_due D__law_due b__law_due T c8
  have c13 := c_row_of (P := l.prog) (w := w) (base := base) D_row_of b_row_of T
  have c14 := c_gather D_gather b_gather T c13
  have GS := ok_same_lengths D_same_lengths T ei_M GT b_te
  have GM := ok_make_row D_make_row T ei_C GI b_ie D_same_lengths b_same_lengths GS c14
  have h1 := h__law_is_integer (P := l.prog) (w := w) (base := base) D__law_is_integer T
  have h2 := h__law_is_error (P := l.prog) (w := w) (base := base) D__law_is_error T (PySem.W.mg_of X G g_B) (PySem.W.mg_none_of X G z_ValueError)
  have h3 := h__law_refused D__law_refused T er_C er_M ⟨kBC, kVC⟩ ⟨kBM, kVM⟩ (PySem.W.mg_of X G g_C) (PySem.W.mg_of X G g_M) (PySem.W.mg_of X G g_O) (PySem.W.mg_of X G g_Z) ⟨k1, k2, k3, k4, k5, k6, k7, k8⟩ D__law_is_error b__law_is_error h2 D__law_is_integer b__law_is_integer h1
  have c15 := c__law_asked D__law_asked b__law_asked T (PySem.W.mg_of X G g_B) er_C er_M xC xM D_make_row b_make_row GM D__law_refused b__law_refused h3 c6
  exact c_law D_law b_law T c1 c2 c10 c7 c11 c12 c8 c15
theorem walk {l : PySem.W.OpenLaw} {q : Program} {loose : List Str} {XP : (Str → Option Value) → Heap → Prop} {YP : World → Heap → Prop} {d : DefRec} {K : Params → PySem.W.Frag} (hn : l.most = some 63) (hdf : d.params.defaults = [])
    (hY : ∀ (w : World) (h : Heap), YP w h → (K w.params).In h)
    (F : ∀ (w : World) (mg : Str → Option Value) (fa : Addr) (h : Heap), (K w.params).In h → h.Ns mainGlobals mg → mg d.name = some (.ref fa) →
      ∃ fd : FuncData, (∀ (s : Shared) (u : Value), BindsTo s fd ⟨[u], []⟩ [("_law_script", u)]) ∧ ∀ base : Heap, (K w.params).In base → base.Ns mainGlobals mg → FnOk l.prog w (K w.params) mg base L2.CX0 6 fa fd ["_law_script"] (spLaw (K w.params))) :
    PySem.W.WalkO q loose XP YP l.row.toRowW d [] (fun f vs => PySem.call f vs) :=
  L2.walk_ofK (n := 63) (k := 6) (x := "_law_script") (CX := L2.CX0) (sp := spLaw) hn (by decide) hdf ⟨rfl, by decide, by decide⟩ hY F (fun _ _ a ns hl _ hS => ⟨a, ns, rfl, hS, hl, fun _ => rfl⟩) fun _ _ _ _ z => z
end OT
open PySem PySem.W PyProof.Rows
set_option maxRecDepth 100000 in
set_option maxHeartbeats 0 in
theorem PySem.Challenge.cw_owntables_k01_make_row_holds : PySem.Challenge.rw_owntables_k01_make_row.Holds := by
  w_on; o_law; k_head; (case hw => w_witness2)
  k_fill
  refine OT.walk (l := PySem.Challenge.rw_owntables_k01_make_row) rfl rfl (fun w h Y => PySem.W.kIn_of Y) ?F
  case F =>
    intro w mg fa h KX G hmg
    refine' OT.all_mk KX G hmg ?z_len ?z_int ?z_str ?z_bool ?z_list ?z_tuple ?z_range ?z_enumerate ?z_isinstance ?z_sorted ?z_any ?z_ValueError ?a_same_lengths ?l_same_lengths ?co_same_lengths ?k_same_lengths ?a_row_of ?l_row_of ?co_row_of ?k_row_of ?a_gather ?l_gather ?co_gather ?k_gather ?a_make_row ?l_make_row ?co_make_row ?k_make_row ?a__law_cell ?l__law_cell ?co__law_cell ?k__law_cell ?a__law_draws ?l__law_draws ?co__law_draws ?k__law_draws ?a__law_is_integer ?l__law_is_integer ?co__law_is_integer ?k__law_is_integer ?a__law_is_place ?l__law_is_place ?co__law_is_place ?k__law_is_place ?a__law_is_row ?l__law_is_row ?co__law_is_row ?k__law_is_row ?a__law_same ?l__law_same ?co__law_same ?k__law_same ?a__law_back ?l__law_back ?co__law_back ?k__law_back ?a__law_row ?l__law_row ?co__law_row ?k__law_row ?a__law_is_error ?l__law_is_error ?co__law_is_error ?k__law_is_error ?a__law_pair ?l__law_pair ?co__law_pair ?k__law_pair ?a__law_pairs ?l__law_pairs ?co__law_pairs ?k__law_pairs ?a__law_spoilt ?l__law_spoilt ?co__law_spoilt ?k__law_spoilt ?a__law_due ?l__law_due ?co__law_due ?k__law_due ?a__law_refused ?l__law_refused ?co__law_refused ?k__law_refused ?a__law_asked ?l__law_asked ?co__law_asked ?k__law_asked ?a_law ?l_law ?co_law ?k_law ?a_te ?l_te ?co_te ?k_te ?a_ie ?l_ie ?co_ie ?k_ie ?g_B ?g_I ?g_C ?g_M ?g_O ?g_Z ?xl_C ?vb_C ?sa_C ?ex_C ?ty_C ?kc_C ?ga_C ?gg_C ?hd_C ?ha_C ?mr_C ?rd_C ?fn_C ?nw_C ?ni_C ?in_C ?xl_M ?vb_M ?sa_M ?ex_M ?ty_M ?kc_M ?ga_M ?gg_M ?hd_M ?ha_M ?mr_M ?rd_M ?fn_M ?nw_M ?ni_M ?in_M ?hn ?ht ?ti_ie ?ti_te ?rB ?sB ?fB ?xC ?xM ?kBC ?kVC ?kBM ?kVM ?k1 ?k2 ?k3 ?k4 ?k5 ?k6 ?k7 ?k8
    (case g_B => k_is)
    (case g_I => k_is)
    (case g_C => k_is)
    (case g_M => k_is)
    (case g_O => k_is)
    (case g_Z => k_is)
    (case a_same_lengths => k_is)
    (case a_row_of => k_is)
    (case a_gather => k_is)
    (case a_make_row => k_is)
    (case a__law_cell => k_is)
    (case a__law_draws => k_is)
    (case a__law_is_integer => k_is)
    (case a__law_is_place => k_is)
    (case a__law_is_row => k_is)
    (case a__law_same => k_is)
    (case a__law_back => k_is)
    (case a__law_row => k_is)
    (case a__law_is_error => k_is)
    (case a__law_pair => k_is)
    (case a__law_pairs => k_is)
    (case a__law_spoilt => k_is)
    (case a__law_due => k_is)
    (case a__law_refused => k_is)
    (case a__law_asked => k_is)
    (case a_law => k_is)
    (case a_te => k_is)
    (case a_ie => k_is)
    (case xl_C => k_is)
    (case in_C => k_is)
    (case xl_M => k_is)
    (case in_M => k_is)
    (case z_len => k_is)
    (case z_int => k_is)
    (case z_str => k_is)
    (case z_bool => k_is)
    (case z_list => k_is)
    (case z_tuple => k_is)
    (case z_range => k_is)
    (case z_enumerate => k_is)
    (case z_isinstance => k_is)
    (case z_sorted => k_is)
    (case z_any => k_is)
    (case z_ValueError => k_is)
    (case l_same_lengths => k_is)
    (case co_same_lengths => k_is)
    (case k_same_lengths => k_is)
    (case l_row_of => k_is)
    (case co_row_of => k_is)
    (case k_row_of => k_is)
    (case l_gather => k_is)
    (case co_gather => k_is)
    (case k_gather => k_is)
    (case l_make_row => k_is)
    (case co_make_row => k_is)
    (case k_make_row => k_is)
    (case l__law_cell => k_is)
    (case co__law_cell => k_is)
    (case k__law_cell => k_is)
    (case l__law_draws => k_is)
    (case co__law_draws => k_is)
    (case k__law_draws => k_is)
    (case l__law_is_integer => k_is)
    (case co__law_is_integer => k_is)
    (case k__law_is_integer => k_is)
    (case l__law_is_place => k_is)
    (case co__law_is_place => k_is)
    (case k__law_is_place => k_is)
    (case l__law_is_row => k_is)
    (case co__law_is_row => k_is)
    (case k__law_is_row => k_is)
    (case l__law_same => k_is)
    (case co__law_same => k_is)
    (case k__law_same => k_is)
    (case l__law_back => k_is)
    (case co__law_back => k_is)
    (case k__law_back => k_is)
    (case l__law_row => k_is)
    (case co__law_row => k_is)
    (case k__law_row => k_is)
    (case l__law_is_error => k_is)
    (case co__law_is_error => k_is)
    (case k__law_is_error => k_is)
    (case l__law_pair => k_is)
    (case co__law_pair => k_is)
    (case k__law_pair => k_is)
    (case l__law_pairs => k_is)
    (case co__law_pairs => k_is)
    (case k__law_pairs => k_is)
    (case l__law_spoilt => k_is)
    (case co__law_spoilt => k_is)
    (case k__law_spoilt => k_is)
    (case l__law_due => k_is)
    (case co__law_due => k_is)
    (case k__law_due => k_is)
    (case l__law_refused => k_is)
    (case co__law_refused => k_is)
    (case k__law_refused => k_is)
    (case l__law_asked => k_is)
    (case co__law_asked => k_is)
    (case k__law_asked => k_is)
    (case l_law => k_is)
    (case co_law => k_is)
    (case k_law => k_is)
    (case l_te => k_is)
    (case co_te => k_is)
    (case k_te => k_is)
    (case l_ie => k_is)
    (case co_ie => k_is)
    (case k_ie => k_is)
    (case vb_C => decide +kernel)
    (case sa_C => k_is)
    (case ex_C => k_is)
    (case ty_C => k_is)
    (case kc_C => k_is)
    (case ga_C => k_is)
    (case gg_C => k_is)
    (case hd_C => k_is)
    (case ha_C => k_is)
    (case mr_C => k_is)
    (case rd_C => k_is)
    (case fn_C => k_is)
    (case nw_C => k_is)
    (case ni_C => k_is)
    (case vb_M => decide +kernel)
    (case sa_M => k_is)
    (case ex_M => k_is)
    (case ty_M => k_is)
    (case kc_M => k_is)
    (case ga_M => k_is)
    (case gg_M => k_is)
    (case hd_M => k_is)
    (case ha_M => k_is)
    (case mr_M => k_is)
    (case rd_M => k_is)
    (case fn_M => k_is)
    (case nw_M => k_is)
    (case ni_M => k_is)
    (case hn => k_is)
    (case ht => k_is)
    (case ti_ie => k_is)
    (case ti_te => k_is)
    (case rB => k_is)
    (case sB => k_is)
    (case fB => k_is)
    (case xC => first | rfl | k_is)
    (case xM => first | rfl | k_is)
    (case kBC => first | rfl | k_is)
    (case kVC => first | rfl | k_is)
    (case kBM => first | rfl | k_is)
    (case kVM => first | rfl | k_is)
    (case k1 => first | rfl | k_is)
    (case k2 => first | rfl | k_is)
    (case k3 => first | rfl | k_is)
    (case k4 => first | rfl | k_is)
    (case k5 => first | rfl | k_is)
    (case k6 => first | rfl | k_is)
    (case k7 => first | rfl | k_is)
    (case k8 => first | rfl | k_is)

