import PyProof.Rows.All
import Wide.All
import OpenK.AllK
import Wide.FinOn
import KE.KTypeName
import HandS.ForMost
import HandS.ForExc
import HandS.ExcInit
import HandS.ExcIs
import HandS.ExcField
import HandS.IsInst
import HandS.HotCalls
import HandS.Codes
import HandS.StrMore
import HandS.TupAny
import HandS.Walk
import HandS.TupSets
import HandS.DictTup
import HandS.FStr
import KE.KExcIs
import HandS.SortKw
import KE.KSortTupG
import HandS.Conv
import HandS.More
import HandS.Evl
import HandS.SetFor
import PyProof.TupleIter
import PyProof.Rows.TupIter
import HandS.ExcCtx
import HandS.ExcInitHot
import HandS.Wide
import HandS.CallSlots
import HandS.DictComp
import HandS.Gcd
import KE.KMathGC
import HandS.Iter
import HandS.Style
import HandS.Defaults
import PyProof.EqAt
import PyProof.EqKinds
import PyProof.TupleCall
import PySem.Challenge.RW_owntables_k38_whole_folds
set_option Elab.async false
set_option linter.all false
set_option maxRecDepth 100000
set_option maxHeartbeats 2000000
/-! Own errors of the package: word, index, made and told. -/
namespace PySem.W
open PySem PySem.Calls PyProof.Rows Builtin Builtin.ObjectAttr Builtin.Getset_descriptor
section
variable {prog : Program} {w : World} {A : Around} {E : Value → Shared → Prop} {s : Shared} {K : Frag} {x D : Addr} {ox : Obj}
/-- what a class says of the attribute «class» of its instances -/
structure OtCls (K : Frag) (D : Addr) : Prop where
  hga : findIn K (.ref D) "__getattribute__" = some (some (.builtin "BaseException.__getattribute__"))
  hgt : findIn K (.ref D) "__getattr__" = some none
  hsub : subIn K (.ref D) (.type "BaseException") = some true
  hdct : hasDictIn K D = true
  ha : findIn K (.ref D) "__class__" = some (some (.builtin "object.__class__"))
  hn : specialIn K (.builtin "object.__class__") "__get__" = some (some (.builtin "getset_descriptor.__get__"))
  htk : takesIn K (.builtin "object.__class__") = some true
  hm : mroIn K D (.type "object") = some true
theorem ot_class {expr : Bool} {Q : Value → Shared → Prop} (T : OtCls K D) (X : K.In s.heap) (I : InstAt s.heap x ox D none)
    (h : Q (.ref D) { s with toks := s.toks + 1 }) : wpAny (model prog w) A (getAttr (.ref x) "__class__" expr) Q E s := by
  obtain ⟨hga, hgt, hsub, hdct, ha, hn, htk, hm⟩ := T
  have found : findObj K D none "__class__" = some (.bind (.builtin "getset_descriptor.__get__") (.builtin "object.__class__")) :=
    findObj_dataN (by obtain ⟨cd, q, _⟩ := any_some hdct; rw [q]; rfl) ha hn htk
  obtain ⟨hp, gens, dr, tk, os⟩ := s
  have ty := I.type (M := model prog w)
  have l1 := looks_findIn (M := model prog w) X hga
  have l2 := looks_findIn (M := model prog w) X hgt
  have l3 := looks_find (M := model prog w) X I found
  have isx : Looks (model prog w) hp (isInstance (.ref x) (.type "BaseException")) true := ty.andThen (looks_subIn X hsub)
  have e0 : (Value.builtin "BaseException.__getattribute__" == Value.builtin "object.__getattribute__") = false := by decide +kernel
  unfold getAttr getAttrBy
  apply wpAny_bind; apply wpAny_mkText; apply wpAny_holding
  apply wpAny_bind; apply ty.at
  apply wpAny_bind; apply l1.at
  show wpAny _ _ (if (onTheHeap (Value.ref D) && _) = true then _ else _) _ _ _
  rw [e0, Bool.and_false, if_neg Bool.false_ne_true]
  unfold getAttrByItsOwn hookBefore
  apply wpAny_bind
  rw [if_pos (show onTheHeap (Value.ref D) = true from rfl)]
  apply l2.at
  apply wpAny_bind; apply wpAny_attempt; apply wpAny_holding
  unfold callGetattribute
  rw [(by cases expr <;> rfl : (expr && onTheHeap (Value.builtin "BaseException.__getattribute__")) = false), if_neg Bool.false_ne_true]
  unfold boundAndCalled
  rw [PySem.F.excAttr_ValueError.ga.bind (.ref x)]
  apply wpAny_bind; apply wpAny_pure
  show wpAny _ _ (call (.builtin "BaseException.__getattribute__") [.ref x, .str "__class__" tk]) _ _ _
  apply wpAny_call
  apply codeAny_call_builtin PySem.F.excAttr_ValueError.ga.plain PySem.F.entry_bexc_ga
  apply @check_slot (model prog w) _ _ ⟨hp, gens, dr, tk + 1, os⟩ "BaseException.__getattribute__" "BaseException" "__getattribute__" (.ref x) [.str "__class__" tk] [] _ (by decide +kernel) (by decide +kernel) isx (PySem.F.args_bexc_ga (.ref x) (.str "__class__" tk))
  unfold Builtin.«object.__getattribute__»
  refine wpAny_bind (wpAny_of_eq (a := ((Value.ref x : Value), [Value.str "__class__" tk])) (by first | rfl | (simp only [slotArgs]; rfl)) ?_)
  apply wpAny_bind; apply wpAny_pure
  apply wpAny_bind; apply ty.at
  apply wpAny_bind; apply l3.at
  show wpAny _ _ (holding [Value.builtin "object.__class__"] (call _ [.builtin "object.__class__", .ref x, .ref D]) >>= ret) _ _ _
  apply wpAny_bind; apply wpAny_holding; apply wpAny_call
  refine class_get (s := ⟨hp, gens, dr, tk + 1, os⟩) (ox := ox) (od := none) X I hm ?_
  apply wpAny_pure
  show wpAny _ _ (handedOut (.ref D)) _ _ _
  rw [handedOut_of (v := .ref D) rfl]
  exact wpAny_pure h
/-- the written part's class at C keeps its name nm -/
structure OtName (K : Frag) (C : Addr) (nm : Str) : Prop where
  keeps : ∃ (c : Value) (dd : Option Addr) (dat : Data) (sl : Array (Option Value)) (tk : Tok), K.lookup C = some ⟨c, dd, dat, sl⟩ ∧ sl[2]? = some (some (.str nm tk))
  reads : readsIn K C (.type "type") = true
  ty : typeIn K (.ref C) = some (.type "type")
  found : findCls K (.ref C) (.type "type") "__name__" = some (.get (.builtin "getset_descriptor.__get__") (.builtin "type.__name__") (.ref C) (.type "type"))
theorem ot_dga (d tp : Value) (C : Addr) : descrGetArgs ⟨[d, .ref C, tp], []⟩ = pure (d, some (.ref C), given tp) := by kernel_rfl
theorem ot_name {expr : Bool} {nm : Str} {Q : Value → Shared → Prop} (T : OtName K D nm) (X : K.In s.heap)
    (h : ∀ tk u, Q (.str nm tk) { s with toks := u }) : wpAny (model prog w) A (getAttr (.ref D) "__name__" expr) Q E s := by
  obtain ⟨⟨c, dd, dat, sl, tk, hk, hsl⟩, hr, ty, hf⟩ := T
  refine cls_bind X hr hf ?_
  obtain ⟨hp, gens, dr, tks, os⟩ := s
  have t0 : Looks (model prog w) hp (typeOf (.ref D)) (.type "type") := looks_typeIn X ty
  have t1 : Looks (model prog w) hp (isSubtype (.type "type") (.type "type")) true := Looks.of_pure (by rw [isSubtype_type]; kernel_rfl)
  refine wpAny_call (codeAny_call_builtin KF.slot_gs.plain KF.entry_gs (KF.slot_gs.check _ _ _ _ _ _ _ _ ktyn_type (KF.args_gs _ _ _) ?_))
  unfold Builtin.«getset_descriptor.__get__» descrGet
  rw [ot_dga]
  apply wpAny_bind
  apply wpAny_pure
  unfold descrGetter descrCheckInstance descrNameAndClass isInstance
  simp only [ktyn_owner]
  repeat lk
  refine ⟨Code.quiet_builtin _ (by decide +kernel), codeAny_builtin ktyn_entry ?_⟩
  unfold Builtin.«type.__name__» keptObject slotAt
  dsimp only
  refine wpAny_bind (wpAny_bind (wpAny_loadPart (X _ _ hk) (wpAny_pure ?_)))
  dsimp only
  rw [hsl]
  exact wpAny_pure (handed_on rfl (h _ _))
end
end PySem.W
namespace L2
open PySem PySem.Spec PyProof.Rows
/-! ### an exception's own __init__ -/
section
variable {X : Cx} {pos p1 p2 : Pos} {e : Expr} {es : List Expr} {te : TE} {ta : TA}
/-- e.__class__.__name__, e an exception that is being made, without a field so far -/
def tOtName (K : PySem.W.Frag) (te : TE) : TE := fun σ H Q => te σ H fun x H1 => ∃ (a C : Addr) (nm : Str), x = .ref a ∧ H1 a = some (exo a C none) ∧ PySem.W.OtCls K C ∧ PySem.W.OtName K C nm ∧ Q (.str nm) H1
theorem pe_otname (he : PE X e te) (hb : attributeBase e "__class__" X.env (eval e X.env) = eval e X.env := by rfl)
    (hb2 : attributeBase (.Attribute e "__class__" p1) "__name__" X.env (eval (.Attribute e "__class__" p1) X.env) = eval (.Attribute e "__class__" p1) X.env := by rfl) :
    PE X (.Attribute (.Attribute e "__class__" p1) "__name__" pos) (tOtName X.K te) := by
  refine ⟨fun pins s σ H Q I h => ?_⟩
  refine attr_of hb2 (attr_of hb (thn (he.run pins s σ H _ I h) fun u s1 hh => ?_))
  obtain ⟨x, H1, I1, rx, a, C, nm, ex, ea, tc, tn, q⟩ := hh
  subst ex
  obtain rfl : u = Value.ref a := rx
  obtain ⟨t1, ho⟩ := exo_at I1.hok ea
  have J : PySem.W.InstAt s1.heap a _ C none := ⟨ho, rfl, rfl, True.intro⟩
  refine PySem.W.ot_class tc I1.kIn J ?_
  refine PySem.W.ot_name tn I1.kIn fun tk u => ?_
  exact ⟨.str nm, H1, I1.tok u, ⟨tk, rfl⟩, q⟩
/-- a class of the text, its attributes read by the type's own way -/
structure OtRead (K : PySem.W.Frag) (C : Addr) (m : Str) (f : Addr) : Prop where
  rd : PySem.W.readsIn K C (.type "type") = true
  ga : PySem.W.specialIn K (.ref C) "__getattribute__" = some (some (.builtin "type.__getattribute__"))
  at_ : PySem.W.findCls K (.ref C) (.type "type") m = some (.val (.ref f))
  kp : PySem.W.keepIn K (.ref f) = true
/-- B.m(e, ..), B a class of the text, m a def of it -/
theorem pe_otcall {CX : CXT} {k : Nat} {f C : Addr} {fd : FuncData} {ps : List Str} {sp : Sp} {E : XK} {o : Expr} {to : TE} {m : Str} {pl : Sem Bool} (ho : PE X o to) (R : OtRead X.K C m f) (F : FnOk X.prog X.w X.K X.mg X.base CX k f fd ps sp) (hr : Room k X.A) (hb : Binds X.K fd ps []) (hx : Passes CX X E) (ha : PA X (e :: es) ta)
    (hc : eval (.Call (.Attribute o m p2) (e :: es) [] pos) X.env = (do
      let ov ← eval o X.env
      standAt p2.atName
      let (f, first) ← holding [ov] (getMethod ov m pl)
      callWith pos f first (backTo pos (starEach (e :: es) X.env)) (backToKw pos (keywordEach [] X.env))) := by rfl)
    (he : starEach (e :: es) X.env = (false, eval e X.env) :: starEach es X.env := by rfl) (hpl : (backTo pos (starEach es X.env)).any (·.1) = false := by rfl) :
    PE X (.Call (.Attribute o m p2) (e :: es) [] pos) (fun σ H Q => to σ H fun x H1 => x = .ref C ∧ ta σ H1 fun vs H2 => sp vs H2 Q E) := by
  refine ⟨fun pins s σ H Q I h => ?_⟩
  refine PySem.W.methodCall_KW (thn (ho.run pins s σ H _ I h) fun u s1 hh => ?_) hc
  obtain ⟨x, H1, I1, rx, ex, q⟩ := hh
  subst ex
  obtain rfl : u = Value.ref C := rx
  refine PySem.W.method_cls I1.kIn R.ga (PySem.W.cls_value I1.kIn R.rd R.at_ rfl ?_)
  have I2 := I1.tok (s1.toks + 1)
  show wpAny _ _ (callWith pos (Value.ref f) [] (backTo pos (starEach (e :: es) X.env)) []) _ _ _
  refine PySem.W.callWith_K (h₀ := X.base) I2.ok.mod.kin R.kp (thn (ha.run pos pins _ σ H1 _ I2 q) fun us s2 hh2 => ?_) he hpl
  obtain ⟨vs, H2, I3, r3, q3⟩ := hh2
  exact ⟨I3.kIn, run_fn F hr hb .nil hx I3 r3 (by rw [List.append_nil]; exact q3)⟩
end
end L2

namespace L2
open PySem PySem.Spec PyProof.Rows
/-- all that is asked of an own class of error, its name nm -/
structure OtErr (K : PySem.W.Frag) (C : Addr) (nm : Str) : Prop where
  ox : OexC K C
  oc : PySem.W.OtCls K C
  on : PySem.W.OtName K C nm
  nw : PySem.W.findIn K (.ref C) "word" = some none
  ni : PySem.W.findIn K (.ref C) "index" = some none
section
variable {P : Program} {w : World} {K : PySem.W.Frag} {mg : Str → Option Value} {base : Heap}
/-- TableError.__init__ -/
def spTE (K : PySem.W.Frag) : Sp := fun vs H Q _ => ∃ (a C : Addr) (nm : Str), vs = [.ref a] ∧ H a = some (exo a C none) ∧ OtErr K C nm ∧
  ∀ d, H d = none → d ≠ a → Q .non (upd (upd H d (exd d [("word", .str nm)])) a (exo a C (some d)))
theorem ok_te {q : Str} {st : Stmt} {f : Addr} {fd : FuncData} {p1 p2 p3 p4 p5 p6 : Pos} (F : Fun K "__init__" q st f fd) (S : FnScope ["self"] ["self"] (defScope st))
    (v : Vis (defScope st) "self") (hb : defBody st = [.Assign [.Attribute (.Name "self" p1) "word" p2] (.Attribute (.Attribute (.Name "self" p3) "__class__" p4) "__name__" p5) p6]) :
    FnOk P w K mg base CX0 1 f fd ["self"] (spTE K) := by
  refine F.ok S (fun vs H Q E h => ?_) (fun cdv A outer s H vs Q E hr h => ?_)
  · obtain ⟨a, C, nm, rfl, _⟩ := h
    rfl
  · obtain ⟨a, C, nm, rfl, ha, T, k⟩ := h
    rw [hb]
    refine ⟨_, pss_one (ps_ost (pv 0 rfl v) (pe_otname (pv 0 rfl v))), ?_⟩
    refine ⟨_, rfl, a, C, nm, rfl, ha, T.oc, T.on, _, rfl, a, C, rfl, T.ox, T.nw, Or.inl ⟨ha, fun d nd ne => ?_⟩⟩
    exact k d nd ne
/-- IndexedError.__init__ -/
def spIE (K : PySem.W.Frag) : Sp := fun vs H Q _ => ∃ (a C : Addr) (nm : Str) (v : V), vs = [.ref a, v] ∧ H a = some (exo a C none) ∧ OtErr K C nm ∧
  ∀ d, H d = none → d ≠ a → Q .non (upd (upd (upd H d (exd d [("word", .str nm)])) a (exo a C (some d))) d (exd d [("index", v), ("word", .str nm)]))
end
end L2

/-! ### defs that are handed the error that an except suite holds -/
namespace L2
open PySem PySem.Spec PyProof.Rows
/-- a promise that knows the held error: where it stands, its class, its dict -/
abbrev SpE := Addr → Value → Option Addr → Sp
structure FnE (P : Program) (w : World) (K : PySem.W.Frag) (mg : Str → Option Value) (base : Heap) (k : Nat) (f : Addr) (fd : FuncData) (ps : List Str) (sp : SpE) : Prop where
  len : ∀ a c d vs H Q E, sp a c d vs H Q E → vs.length = ps.length
  run : ∀ (A : Around) (outer : List Env) (s : Shared) (H : Hp) (args : Args) (us : List Value) (vs : List V) (Q : VK) (p : Addr × Obj) (c : Value) (d : Option Addr), L2H.RoomH k A → L2H.PinOk outer H s p → Zc c d p.2 → (∃ fs, p.2.data = .fields fs) →
    Env0 P w K mg base A outer s H → BindsTo s fd args (ps.zip us) → Vals vs us → sp p.1 c d vs H Q E0 → codeAny (model P w) A (.call (.ref f) args) (CR CX0 outer P w H s Q E0) s
theorem fnE_of {P : Program} {w : World} {K : PySem.W.Frag} {mg : Str → Option Value} {base : Heap} {k : Nat} {x : Str} {st : Stmt} {f : Addr} {fd : FuncData} {N ps : List Str} {sp : SpE} (F : C8.Fun K x x st f fd) (S : FnScope N ps (C8.fnScope st))
    (len : ∀ a c d vs H Q E, sp a c d vs H Q E → vs.length = ps.length)
    (body : ∀ (cdv : Value) (A : Around) (outer : List Env) (s : Shared) (H : Hp) (vs : List V) (Q : VK) (p : Addr × Obj) (c : Value) (d : Option Addr), Zc c d p.2 → (∃ fs, p.2.data = .fields fs) → L2H.RoomH k (A.deeper (envOfC x (C8.fnScope st) s.heap.objs.size f cdv)) → sp p.1 c d vs H Q E0 →
      ∃ t, PSs (L2H.cxH CX0 P w K mg base N x (C8.fnScope st) f cdv A outer s H E0 p) (C8.fnBody st) t ∧ t { nx := fun _ H' => Q .non H', rt := Q } (L2.start N vs) H) :
    FnE P w K mg base (k + 1) f fd ps sp := by
  obtain ⟨oc, od, dV, kV, doc, pm, an, cdv, ct, osl, rfl, lk, hcd⟩ := F.ex
  constructor
  · exact len
  intro A outer s H args us vs Q p c d room pin zc fld env binds rel want
  have size := len _ _ _ _ _ _ _ want
  have old : ∀ b o, base.get? b = some o → s.heap.get? b = some o := fun b o z => (env.bs b o z).1
  have inK : K.In s.heap := env.mod.kin.keeps old
  have kinds : ∀ y ∈ ps.zip us, (C8.fnScope st).names.lookup y.1 = some .local ∨
      ((C8.fnScope st).names.lookup y.1 = some .cell ∧ ((cellsFrom (s.heap.objs.size + 1) (C8.fnScope st).names []).lookup y.1).isSome = true) := by
    intro y hy
    have my := (List.of_mem_zip (a := y.1) (b := y.2) hy).1
    exact (S.par y.1 my).imp id fun z => ⟨z, PySem.W.cellsFrom_some _ _ _ (Or.inl z)⟩
  apply codeAny_call_function room.depth (inK _ _ lk) rfl S.co S.gen rfl (PySem.W.codeRec_of inK hcd)
  apply binds
  apply wpAny_newFunctionEnv_cells S.kind kinds
  intro env1 he s1 called
  subst he
  refine ⟨(env.mod.nolimit.keeps old).keeps called.toInCall.keep, codeAny_func ?_⟩
  obtain ⟨t, ht, read⟩ := body cdv A outer s H vs Q p c d zc fld (room.deeper _) want
  have I0 : Inv (L2H.cxH CX0 P w K mg base N x (C8.fnScope st) f cdv A outer s H E0 p) [] (L2.start N vs) H s1 := L2H.inv_startH S pin env size rel called
  refine wpAny_mono (ht.run [] s1 (L2.start N vs) H _ I0 read) (fun fl s2 q => ?_) fun _ _ q => q
  cases fl with
  | ret u =>
    obtain ⟨v, σ2, H2, J, rv, z⟩ := q
    exact ⟨v, H2, J.os, J.bare, J.base, J.hok, rv, z⟩
  | next =>
    obtain ⟨σ2, H2, J, z⟩ := q
    exact ⟨.non, H2, J.os, J.bare, J.base, J.hok, rfl, z⟩
  | brk =>
    obtain ⟨_, _, _, z⟩ := q
    exact z.elim
  | cont =>
    obtain ⟨_, _, _, z⟩ := q
    exact z.elim
section
variable {X : Cx} {p : Addr × Obj} {c : Value} {d : Option Addr} {k : Nat} {f : Addr} {fd : FuncData} {ps : List Str} {sp : SpE} {x : Str} {q pos : Pos} {e : Expr} {es : List Expr} {t : TA} {te : TE}
/-- f(e, ..) where the error is held -/
theorem pe_callE (F : FnE X.prog X.w X.K X.mg X.base k f fd ps sp) (hr : L2H.RoomH k X.A) (hp : p ∈ X.pn) (zc : Zc c d p.2) (fld : ∃ fs, p.2.data = .fields fs) (hg : Gl X x) (hm : X.mg x = some (.ref f)) (hk : PySem.W.keepIn X.K (.ref f) = true) (hb : Binds X.K fd ps [])
    (ha : PA X (e :: es) t) (hdb : (x == ("__debug__" : Str)) = false := by decide) (he : starEach (e :: es) X.env = (false, eval e X.env) :: starEach es X.env := by rfl) (hpl : (backTo pos (starEach es X.env)).any (·.1) = false := by rfl) :
    PE X (.Call (.Name x q) (e :: es) [] pos) (fun σ H Q => t σ H fun vs H1 => sp p.1 c d vs H1 Q E0) := by
  constructor
  intro pins s σ H Q I want
  apply wpAny_Call_Name_kw
  refine ld_glob I hg hm ?_ hdb
  refine PySem.W.callWith_K (h₀ := X.base) I.ok.mod.kin hk (thn (ha.run pos pins s σ H _ I want) ?_) he hpl
  rintro us s1 ⟨vs, H1, J, rel, z⟩
  refine ⟨J.kIn, ?_⟩
  have size : us.length = ps.length := by
    rw [← rel.length]
    exact F.len _ _ _ _ _ _ _ z
  have bind := hb s1 us J.kIn (by rw [List.append_nil]; exact size)
  rw [List.append_nil] at bind
  obtain ⟨p1, p2, p3, p4, p5⟩ := J.pin p (List.mem_append_left _ hp)
  have pin : L2H.PinOk X.stack H1 s1 p := ⟨p1, p2, fun z => (List.mem_cons.mp (J.stkSub p.1 z)).elim p3 p4, p5⟩
  refine wpAny_call (codeAny_mono (F.run X.A X.stack s1 H1 ⟨us, []⟩ us vs Q p c d hr pin zc fld J.env0 bind rel z) ?_)
  intro r s2 got
  cases r with
  | error er => exact got.elim
  | ok fl =>
    cases fl with
    | ret u => exact J.after got
    | next => exact got.elim
    | brk => exact got.elim
    | cont => exact got.elim
/-- the held error is an instance of its class -/
theorem heldAt {pins : List (Addr × Obj)} {σ : L2.St} {H : Hp} {s : Shared} {C dd : Addr} {fs : List (Str × V)} (I : Inv X pins σ H s) (hp : p ∈ X.pn) (zc : Zc (.ref C) (some dd) p.2) (fld : ∃ fs, p.2.data = .fields fs) (hd : H dd = some (.xd fs)) :
    ∃ od, PySem.W.InstAt s.heap p.1 p.2 C (some od) ∧ ∀ n v, fs.lookup n = some v → ∃ u, RelV v u ∧ PySem.W.lookIn n od = some (some u) := by
  obtain ⟨at1, _⟩ := I.pin p (List.mem_append_left _ hp)
  obtain ⟨vs, hdat⟩ := fld
  obtain ⟨mA, hns, hr⟩ := (show ObjOk X.prog X.w H s.heap dd (.xd fs) from I.hok dd _ hd)
  obtain ⟨od, ho, hl⟩ := lookIn_ns hns
  refine ⟨od, ⟨at1, zc.1, by unfold PySem.W.notCls; rw [hdat] <;> rfl, by rw [zc.2]; exact ho⟩, fun n v l => ?_⟩
  obtain ⟨u, hu, ru⟩ := RelO.some_of (v := v) (o := mA n) (by rw [← l]; exact hr n)
  exact ⟨u, ru, by rw [hl, hu]⟩
/-- isinstance(e, T), e the held error -/
theorem call_isX (hp : p ∈ X.pn) (zc : Zc c d p.2) (fld : ∃ fs, p.2.data = .fields fs) : CallR X (.builtin "isinstance") (fun xs H Q => ∃ (C dd : Addr) (fs : List (Str × V)) (y : V) (u : Value) (b : Bool),
    xs = [.ref p.1, y] ∧ c = .ref C ∧ d = some dd ∧ PySem.W.OtCls X.K C ∧ H dd = some (.xd fs) ∧ ClsV y u ∧ PySem.W.kitOne X.K (.ref C) u = some b ∧ Q (.bl b) H) := by
  rintro pins s σ H xs us Q I rel ⟨C, dd, fs, y, u, b, rfl, rfl, rfl, T, hd, hy, hb, z⟩
  obtain ⟨u1, u2, rfl, r1, r2⟩ := vals2 rel
  cases (show u1 = Value.ref p.1 from r1)
  cases hy.eq r2
  obtain ⟨od, J, _⟩ := heldAt I hp zc fld hd
  have isC : (PySem.W.clsIn X.K C).isSome = true := by
    obtain ⟨cd, q, _⟩ := PySem.W.any_some T.hdct
    rw [q]
    rfl
  exact PySem.W.kia_one (PySem.W.kitx_exc isC T.hga T.hgt T.hsub T.ha T.hn T.htk T.hm) I.kIn J hb (fun z => nomatch z) fun tk => ⟨.bl b, H, I.tok tk, rfl, z⟩
/-- e.n, e the held error, n a field of its own -/
theorem pe_fX {n : Str} (hp : p ∈ X.pn) (zc : Zc c d p.2) (fld : ∃ fs, p.2.data = .fields fs) (he : PE X e te) (hb : attributeBase e n X.env (eval e X.env) = eval e X.env := by rfl) :
    PE X (.Attribute e n pos) (fun σ H Q => te σ H fun y H1 => ∃ (C dd : Addr) (fs : List (Str × V)) (v : V), y = .ref p.1 ∧ c = .ref C ∧ d = some dd ∧ PySem.W.OtCls X.K C ∧ PySem.W.findIn X.K (.ref C) n = some none ∧ H1 dd = some (.xd fs) ∧ fs.lookup n = some v ∧ Q v H1) := by
  constructor
  intro pins s σ H Q I want
  refine attr_of hb (thn (he.run pins s σ H _ I want) ?_)
  rintro u s1 ⟨y, H1, J1, ry, C, dd, fs, v, rfl, rfl, rfl, T, hno, hd, hl, z⟩
  obtain rfl : u = Value.ref p.1 := ry
  obtain ⟨od, J, look⟩ := heldAt J1 hp zc fld hd
  obtain ⟨w1, rw1, lw⟩ := look n v hl
  exact HandSPX.exc_get J1.kIn J T.hga T.hgt T.hsub (PySem.W.findObj_own T.hdct hno rfl lw) (handed_of rw1) ⟨v, H1, J1.tok _, rw1, z⟩
end
end L2

namespace OT
open PySem
theorem b_int : bootBuiltins "int" = some (.type "int") := by decide +kernel
theorem b_str : bootBuiltins "str" = some (.type "str") := by decide +kernel
theorem b_bool : bootBuiltins "bool" = some (.type "bool") := by decide +kernel
theorem b_list : bootBuiltins "list" = some (.type "list") := by decide +kernel
theorem b_tuple : bootBuiltins "tuple" = some (.type "tuple") := by decide +kernel
theorem b_len : bootBuiltins "len" = some (.builtin "len") := by decide +kernel
theorem b_isinstance : bootBuiltins "isinstance" = some (.builtin "isinstance") := by decide +kernel
theorem b_any : bootBuiltins "any" = some (.builtin "any") := by decide +kernel
theorem b_all : bootBuiltins "all" = some (.builtin "all") := by decide +kernel
theorem b_sum : bootBuiltins "sum" = some (.builtin "sum") := by decide +kernel
theorem b_min : bootBuiltins "min" = some (.builtin "min") := by decide +kernel
theorem b_max : bootBuiltins "max" = some (.builtin "max") := by decide +kernel
theorem b_sorted : bootBuiltins "sorted" = some (.builtin "sorted") := by decide +kernel
theorem b_abs : bootBuiltins "abs" = some (.builtin "abs") := by decide +kernel
theorem b_ValueError : bootBuiltins "ValueError" = some (.type "ValueError") := by decide +kernel
end OT

set_option Elab.async false
set_option linter.all false
set_option maxRecDepth 100000
set_option maxHeartbeats 2000000
/-! Rows: sorted keys of a dict whose keys are tuples of ints; valid rows. -/
namespace L2
open PySem PySem.Spec PyProof.Rows
section
/-- what a sort leaves: the same values, ascending by their keys -/
theorem sort_left {κ : KeyKind} {vs : List Value} {a : Array Keyed} (perm : a.Perm (pairsOf vs)) (srt : SortedToK κ a (pairsOf vs).size) :
    (a.toList.map (·.2)).Perm vs ∧ (a.toList.map (·.2)).Pairwise fun x y => ∀ k l, κ.keyOf x = some k → κ.keyOf y = some l → κ.kle k l := by
  have pl : a.toList.Perm (vs.zip vs) := by
    rw [← pairsOf_toList]
    exact Array.perm_iff_toList_perm.mp perm
  have diag : ∀ p ∈ a.toList, p.1 = p.2 := fun p hp => (mem_zip_self (pl.mem_iff.mp hp)).1
  constructor
  · have e : (vs.zip vs).map (·.2) = vs := by
      rw [List.map_snd_zip]
      exact Nat.le_refl _
    have q := pl.map (·.2)
    rw [e] at q
    exact q
  · rw [List.pairwise_map, List.pairwise_iff_getElem]
    intro i j hi hj hij k l hk hl
    have hn : a.size = (pairsOf vs).size := perm.size_eq
    rw [Array.length_toList] at hi hj
    have s := srt i j (Nat.le_of_lt hij) (by omega)
    have at_ : ∀ n (h : n < a.size), ∀ m, κ.keyOf a.toList[n].2 = some m → KK κ a n = m := fun n h m hm => by
      unfold KK
      rw [Array.getElem?_eq_getElem h]
      have d := diag a.toList[n] (List.getElem_mem _)
      rw [← d] at hm
      rw [Array.getElem_toList] at hm
      dsimp only
      rw [hm]
      rfl
    rw [at_ i hi k hk, at_ j hj l hl] at s
    exact s
theorem lexLt_inl : ∀ k l : List Int, PyProof.Rows.lexLt itemOrd (k.map Sum.inl) (l.map Sum.inl) = HT.lexLt k l
  | [], [] => rfl
  | [], _ :: _ => rfl
  | _ :: _, [] => rfl
  | x :: r, y :: t => by
    rw [List.map_cons, List.map_cons, PyProof.Rows.lex_cons, lexLt_inl r t, HT.lexLt_cons]
    show (decide (x < y) || (!decide (y < x) && HT.lexLt r t)) = _
    by_cases h : x = y
    · rw [if_pos h, decide_eq_false (by omega), decide_eq_false (by omega)]
      rfl
    · rw [if_neg h]
      by_cases h2 : x < y
      · rw [decide_eq_true h2]
        rfl
      · rw [decide_eq_false h2, decide_eq_true (show y < x by omega)]
        rfl
theorem tupItems_ints : ∀ (ns : List Int) (us : List Value) (i : Nat), Vals (ns.map V.int) us → tupItems (fun _ => false) i us = some (ns.map Sum.inl)
  | [], _, _, .nil => rfl
  | n :: ns, _ :: us, i, .cons r t => by
    obtain ⟨tk, rfl⟩ := (show ∃ tk, _ = Value.int n tk from r)
    show (if (false : Bool) = true then none else (tupItems (fun _ => false) (i + 1) us).map (Sum.inl n :: ·)) = _
    rw [if_neg Bool.false_ne_true, tupItems_ints ns us (i + 1) t]
    rfl
theorem ints_inj : ∀ {k l : List Int}, k.map V.int = l.map V.int → k = l
  | [], [], _ => rfl
  | [], _ :: _, h => by cases h
  | _ :: _, [], h => by cases h
  | x :: r, y :: t, h => by
    rw [List.map_cons, List.map_cons] at h
    obtain ⟨e, h⟩ := List.cons.inj h
    rw [V.int.inj e, ints_inj h]
theorem vals_refs' : ∀ out : List (Addr × List Int), Vals (out.map fun x => V.ref x.1) (out.map fun x => Value.ref x.1)
  | [] => .nil
  | _ :: r => .cons rfl (vals_refs' r)
variable {X : Cx}
/-- sorted(d), the keys of d tuples of ints -/
theorem cr_sortedDT (hcalm : X.calm = true) : CallR X (.builtin "sorted") (fun xs H Q => ∃ (d : Addr) (kvs : List (List Key × V)) (ks : List (List Int)), xs = [.ref d] ∧ Rd H d (.dT kvs) ∧ kvs.map (·.1) = ks.map (fun k => k.map Sum.inl) ∧ (2 ≤ ks.length → ∀ k ∈ ks, k ≠ []) ∧
    ∀ (out : List (Addr × List Int)) (p : Addr), (out.map (·.2)).Perm ks → (out.map (·.2)).Pairwise (fun a b => HT.lexLt b a = false) → ks.Nodup → (∀ x ∈ out, H x.1 = some (.tup (x.2.map V.int))) → H p = none → Q (.ref p) (upd H p (.lst (out.map fun x => V.ref x.1)))) := by
  rintro pins s σ H xs us Q I rel ⟨d, kvs, ks, rfl, hd, hks, hne, want⟩
  obtain ⟨u, rfl, rx⟩ := rel.one
  cases rx
  obtain ⟨z, hs, xs, pr, o, es, ep, ho, hx, hdt, he, hn⟩ := (show ObjOk X.prog X.w H s.heap d (.dT kvs) from hd.ok I.hok)
  have l1 : es.size = xs.length := size_of_entries he
  have l2 : kvs.length = xs.length := Paired.length pr
  -- the keys' addresses
  have keyed : ∀ (kvs : List (List Key × V)) (xs : List (List Key × Addr × Value)) (ks : List (List Int)), Paired (fun (p : List Key × V) (q : List Key × Addr × Value) => p.1 = q.1 ∧ H q.2.1 = some (.tup (p.1.map kV)) ∧ RelV p.2 q.2.2) kvs xs → kvs.map (·.1) = ks.map (fun k => k.map Sum.inl) →
      xs.map (·.1) = ks.map (fun k => k.map Sum.inl) ∧ ∀ x ∈ (xs.map (·.2.1)).zip ks, H x.1 = some (.tup (x.2.map V.int)) := by
    intro kvs
    induction kvs with
    | nil =>
      intro xs ks pr hks
      cases pr
      cases ks with
      | nil => exact ⟨rfl, fun x hx => by cases hx⟩
      | cons k r => cases hks
    | cons a r ih =>
      intro xs ks pr hks
      cases pr with
      | cons h t =>
        rename_i q xs'
        cases ks with
        | nil => cases hks
        | cons k ks' =>
          obtain ⟨e1', e2⟩ := List.cons.inj hks
          have e1 : a.1 = k.map Sum.inl := e1'
          obtain ⟨i1, i2⟩ := ih _ _ t e2
          obtain ⟨h1, h2, _⟩ := h
          refine ⟨?_, fun x hx => ?_⟩
          · rw [List.map_cons, List.map_cons, i1, ← h1, e1]
          · rw [List.map_cons, List.zip_cons_cons] at hx
            rcases List.mem_cons.mp hx with e | hx
            · rw [e]
              show H q.2.1 = _
              rw [h2, e1, List.map_map]
              rfl
            · exact i2 x hx
  obtain ⟨kx, held⟩ := keyed kvs xs ks pr hks
  have lk : xs.length = ks.length := by
    have := congrArg List.length kx
    rwa [List.length_map, List.length_map] at this
  have nod : ks.Nodup := by
    rw [kx] at hn
    exact nodup_of_map hn
  apply Calls.call_function_entry kind_sorted plain_sorted entry_sorted (args_sorted1 (.ref d))
  unfold Builtin.«sorted»
  apply wpAny_bind (m := checkCount "sorted" 1 1 _)
  apply wpAny_pure
  refine wpAny_bind (PySem.W.kdu_collect (A := X.A.in1) (kdl_raw hs hx hdt) (I.ok.hd hcalm) ho (by omega) fun h' tk got hk hacc => ?_)
  have ea : got.toList = (xs.map (·.2.1)).map Value.ref := by
    have hl : got.toList.length = xs.length := by rw [Array.length_toList, hacc.1]; exact l1
    apply List.ext_getElem
    · rw [hl, List.length_map, List.length_map]
    · intro j hj1 hj2
      have g1 : got[j]? = some got.toList[j] := by
        rw [← Array.getElem?_toList]
        exact List.getElem?_eq_getElem hj1
      obtain ⟨en, hen, hv⟩ := hacc.2 j _ g1
      have qe := entry_at he j
      have hjx : j < xs.length := by omega
      rw [hen, List.getElem?_eq_getElem hjx] at qe
      have e2 := Option.some.inj qe
      rw [hv, e2, List.getElem_map, List.getElem_map]
      rfl
  have J1 : Inv X pins σ H { s with heap := h', toks := tk } := I.kept hk
  have gotk : got.toList.length = ks.length := by rw [ea, List.length_map, List.length_map, lk]
  have fits : got.toList.length ≤ sizeLine := by omega
  apply wpAny_bind
  refine wpAny_newList ?_ fits
  have atL : (h'.push (seqObj "list" got.toList.toArray 0)).get? h'.objs.size = some (seqObj "list" got.toList.toArray 0) := Heap.get?_push_size _ rfl
  show wpAny _ _ _ _ _ { s with heap := h'.push (seqObj "list" got.toList.toArray 0), toks := tk }
  -- each key stands in the heap
  have stands : ∀ (a : Addr) (k : List Int), H a = some (.tup (k.map V.int)) → ∃ its : List Value, Vals (k.map V.int) its ∧ IsTup h' a its.toArray := fun a k e => by
    obtain ⟨_, its, rv, it⟩ := (show ObjOk X.prog X.w H h' a (.tup (k.map V.int)) from J1.hok a _ e)
    exact ⟨its, rv, it⟩
  have keyOf : ∀ (a : Addr) (k : List Int), H a = some (.tup (k.map V.int)) → PyProof.Rows.G.tupKeyC (h'.push (seqObj "list" got.toList.toArray 0)) (fun _ => false) (.ref a) = some (k.map Sum.inl) := fun a k e => by
    obtain ⟨its, rv, ob, h1, h2, n, h3⟩ := stands a k e
    have g : (h'.push (seqObj "list" got.toList.toArray 0)).get? a = some ob := Heap.get?_push_of_some _ h1
    have it : PyProof.Rows.G.isTupObj (h'.push (seqObj "list" got.toList.toArray 0)) (.ref a) = true := by
      simp only [PyProof.Rows.G.isTupObj, g, h2]
      rfl
    unfold PyProof.Rows.G.tupKeyC
    rw [if_pos it]
    unfold tupKey
    dsimp only
    rw [g]
    dsimp only
    rw [h3]
    dsimp only
    exact tupItems_ints k its 0 rv
  have zipped : ∀ v ∈ got.toList, ∃ a k, v = Value.ref a ∧ k ∈ ks ∧ H a = some (.tup (k.map V.int)) := fun v hv => by
    obtain ⟨j, hj, e⟩ := List.getElem_of_mem hv
    have hjk : j < ks.length := by omega
    have hjx : j < (xs.map (·.2.1)).length := by rw [List.length_map]; omega
    have ev : v = Value.ref (xs.map (·.2.1))[j] := by
      rw [← e]
      simp only [ea, List.getElem_map]
    refine ⟨_, ks[j], ev, List.getElem_mem _, held ((xs.map (·.2.1))[j], ks[j]) ?_⟩
    rw [List.mem_iff_getElem]
    refine ⟨j, by rw [List.length_zip]; omega, ?_⟩
    rw [List.getElem_zip]
  have keys : KeysOf (PyProof.Rows.G.tupKindC (h'.push (seqObj "list" got.toList.toArray 0)) fun _ => false) (pairsOf got.toList) := PyProof.Rows.G.tupKeys fun v hv => by
    obtain ⟨a, k, rfl, _, hk⟩ := zipped v hv
    exact ⟨_, keyOf a k hk⟩
  have k6 := PyProof.Rows.G.keeps_sort6 (vs := got.toList) atL
  have tups : 2 ≤ got.toList.length → ∃ fs, 0 < fs.length ∧ TupsOf (h'.push (seqObj "list" got.toList.toArray 0)) (fun _ => false) got.toList fs := fun h2 => by
    have each : ∀ l : List Value, (∀ v ∈ l, ∃ a k, v = Value.ref a ∧ k ∈ ks ∧ H a = some (.tup (k.map V.int))) → ∃ fs, fs.length = l.length ∧ TupsOf (h'.push (seqObj "list" got.toList.toArray 0)) (fun _ => false) l fs := by
      intro l
      induction l with
      | nil => exact fun _ => ⟨[], rfl, .nil⟩
      | cons v r ih =>
        intro hv
        obtain ⟨fs, hl, ht⟩ := ih fun y hy => hv y (List.mem_cons_of_mem _ hy)
        obtain ⟨a, k, rfl, hm, hk⟩ := hv v List.mem_cons_self
        obtain ⟨its, rv, ob, h1, h2', n, h3⟩ := stands a k hk
        cases k with
        | nil => exact absurd rfl (hne (by omega) [] hm)
        | cons i k =>
          cases rv with
          | @cons _ u0 _ ur r0 rt =>
            obtain ⟨tk0, rfl⟩ := (show ∃ tk, u0 = Value.int i tk from r0)
            exact ⟨.int i tk0 :: fs, by rw [List.length_cons, List.length_cons, hl], .cons ⟨a, ob, _, n, rfl, Heap.get?_push_of_some _ h1, h2', h3, rfl, fun _ => ⟨i, tk0, rfl⟩, fun z => by cases z⟩ ht⟩
    obtain ⟨fs, hl, ht⟩ := each got.toList zipped
    exact ⟨fs, by omega, ht⟩
  refine wpAny_bind (wpAny_holding (wpAny_call_entry PyProof.Rows.slot_list_sort ⟨_, atL, rfl⟩ PyProof.Rows.entry_list_sort
    (PyProof.Rows.G.list_sort_treeG (κ := PyProof.Rows.G.tupKindC (h'.push (seqObj "list" got.toList.toArray 0)) fun _ => false) (kd := tuples' true) (s := { s with heap := h'.push (seqObj "list" got.toList.toArray 0), toks := tk }) atL keys
      (PyProof.Rows.G.tupC_ltAt true k6) (fun h2 R hq => ?kind) fits fun st' a1 a2 a3 => ⟨_, rfl, ?ret⟩) (PyProof.Rows.args_list_sort _)))
  case kind =>
    obtain ⟨fs, hl, ht⟩ := tups h2
    exact tup_kind hl (PyProof.Rows.G.TupsOf.keep k6 ht) hq
  case ret =>
    obtain ⟨o1, o2⟩ := sort_left a1 a2
    have out : ∃ out : List (Addr × List Int), (arrOf st').toList.map (·.2) = out.map (fun x => Value.ref x.1) ∧ ∀ x ∈ out, H x.1 = some (.tup (x.2.map V.int)) := by
      have each : ∀ l : List Value, (∀ v ∈ l, v ∈ got.toList) → ∃ out : List (Addr × List Int), l = out.map (fun x => Value.ref x.1) ∧ ∀ x ∈ out, H x.1 = some (.tup (x.2.map V.int)) := by
        intro l
        induction l with
        | nil => exact fun _ => ⟨[], rfl, fun x hx => by cases hx⟩
        | cons v r ih =>
          intro hv
          obtain ⟨out, e, ho'⟩ := ih fun y hy => hv y (List.mem_cons_of_mem _ hy)
          obtain ⟨a, k, rfl, _, hk⟩ := zipped v (hv v List.mem_cons_self)
          refine ⟨(a, k) :: out, by rw [List.map_cons, e], fun x hx => ?_⟩
          rcases List.mem_cons.mp hx with e' | hx
          · rw [e']
            exact hk
          · exact ho' x hx
      exact each _ fun v hv => o1.mem_iff.mp hv
    obtain ⟨out, eo, ho'⟩ := out
    obtain ⟨ep', he'⟩ := PyProof.Rows.sortedHeap_at (vs := got.toList) (out := (arrOf st').map (·.2)) atL
    have oz : out.length ≤ sizeLine := by
      have e1 := congrArg List.length eo
      have e2 := o1.length_eq
      rw [List.length_map] at e1 e2
      rw [List.length_map] at e1
      omega
    have inj : ∀ (a : Addr) (k l : List Int), H a = some (.tup (k.map V.int)) → H a = some (.tup (l.map V.int)) → k = l := fun a k l h1 h2 => by
      rw [h1] at h2
      exact ints_inj (HO.tup.inj (Option.some.inj h2))
    refine wpAny_pure ⟨_, rfl, .ref h'.objs.size, upd H h'.objs.size (.lst (out.map fun x => V.ref x.1)), J1.laid (t' := tk) (fun b u q => ?old) (Nat.le_refl _) ⟨by rw [List.length_map]; exact oz, ((arrOf st').map (·.2)).toList, ep', ?vals, he'⟩, rfl, want out _ ?perm ?pw nod ho' (J1.hok.fresh (Nat.le_refl _))⟩
    case old =>
      rw [PyProof.Rows.sortedHeap_old (Nat.ne_of_lt (Heap.lt_size q)) (Nat.lt_of_lt_of_le (Heap.lt_size q) (by rw [size_push']; exact Nat.le_succ _))]
      exact Heap.get?_push_of_some _ q
    case vals =>
      rw [Array.toList_map, eo]
      exact vals_refs' out
    case perm =>
      have p1 : (out.map (fun x => Value.ref x.1)).Perm got.toList := by rw [← eo]; exact o1
      have rd : ∀ v : Value, ∃ k : List Int, ∀ (a : Addr) (l : List Int), v = .ref a → H a = some (.tup (l.map V.int)) → k = l := fun v => by
        by_cases h : ∃ (a : Addr) (l : List Int), v = .ref a ∧ H a = some (.tup (l.map V.int))
        · obtain ⟨a, l, e, h⟩ := h
          refine ⟨l, fun a' l' e' h' => ?_⟩
          cases e.symm.trans e'
          exact inj _ _ _ h h'
        · exact ⟨[], fun a l e h' => absurd ⟨a, l, e, h'⟩ h⟩
      have p2 := p1.map fun v => (rd v).choose
      rw [List.map_map] at p2
      have e1 : out.map (((fun v => (rd v).choose)) ∘ fun x => Value.ref x.1) = out.map (·.2) := List.map_congr_left fun x hx => (rd (.ref x.1)).choose_spec _ _ rfl (ho' x hx)
      have e2 : got.toList.map (fun v => (rd v).choose) = ks := by
        apply List.ext_getElem
        · rw [List.length_map]; exact gotk
        · intro j h1 h2
          have h3 : j < (xs.map (·.2.1)).length := by rw [List.length_map]; omega
          rw [List.getElem_map]
          have ev : got.toList[j]'(by omega) = Value.ref (xs.map (·.2.1))[j] := by simp only [ea, List.getElem_map]
          refine (rd _).choose_spec _ _ ev (held ((xs.map (·.2.1))[j], ks[j]) ?_)
          rw [List.mem_iff_getElem]
          refine ⟨j, by rw [List.length_zip]; omega, ?_⟩
          rw [List.getElem_zip]
      rw [e1, e2] at p2
      exact p2
    case pw =>
      rw [eo, List.pairwise_map] at o2
      rw [List.pairwise_map]
      refine List.Pairwise.imp_of_mem (fun {x y} hx hy h => ?_) o2
      have hle := h _ _ (keyOf x.1 x.2 (ho' x hx)) (keyOf y.1 y.2 (ho' y hy))
      rw [← lexLt_inl]
      exact hle
end
end L2

set_option Elab.async false
set_option linter.all false
set_option maxRecDepth 100000
set_option maxHeartbeats 2000000
/-! rows: what a list of entries sums to, and the one row of the sums -/
namespace OT
open PySem PySem.Spec PyProof.Rows L2
abbrev Pl := List Int
abbrev Ent := List Int × Int
def numAt : List Ent → Pl → Int
  | [], _ => 0
  | e :: r, q => (if e.1 = q then e.2 else 0) + numAt r q
theorem numAt_app : ∀ (a b : List Ent) (q : Pl), numAt (a ++ b) q = numAt a q + numAt b q
  | [], b, q => by
    show numAt b q = 0 + numAt b q
    omega
  | e :: r, b, q => by
    show (if e.1 = q then e.2 else 0) + numAt (r ++ b) q = (if e.1 = q then e.2 else 0) + numAt r q + numAt b q
    rw [numAt_app r b q]
    omega
theorem numAt_out {es : List Ent} {q : Pl} (h : ∀ e ∈ es, e.1 ≠ q) : numAt es q = 0 := by
  induction es with
  | nil => rfl
  | cons e r ih =>
    show (if e.1 = q then e.2 else 0) + numAt r q = 0
    rw [if_neg (h e List.mem_cons_self), ih fun x hx => h x (List.mem_cons_of_mem _ hx)]
    rfl
theorem lt_irr (k : Pl) : HT.lexLt k k = false := by
  rw [← lexLt_inl]
  exact PyProof.Rows.lex_irrefl _
theorem lt_trans {a b c : Pl} (h1 : HT.lexLt a b = true) (h2 : HT.lexLt b c = true) : HT.lexLt a c = true := by
  rw [← lexLt_inl] at *
  exact PyProof.Rows.lex_trans _ _ _ h1 h2
theorem inl_inj {β : Type} : ∀ {a b : Pl}, a.map (Sum.inl : Int → Int ⊕ β) = b.map Sum.inl → a = b
  | [], [], _ => rfl
  | [], _ :: _, h => by cases h
  | _ :: _, [], h => by cases h
  | x :: r, y :: t, h => by
    rw [List.map_cons, List.map_cons] at h
    obtain ⟨e, h⟩ := List.cons.inj h
    rw [Sum.inl.inj e, inl_inj h]
theorem lt_tot {a b : Pl} (h1 : HT.lexLt a b = false) (h2 : HT.lexLt b a = false) : a = b := by
  rw [← lexLt_inl] at *
  exact inl_inj (PyProof.Rows.lex_total _ _ h1 h2)
theorem lt_ne {a b : Pl} (h : HT.lexLt a b = true) : a ≠ b := by
  rintro rfl
  rw [lt_irr] at h
  cases h
structure Valid (r : List Ent) : Prop where
  asc : r.Pairwise fun a b => HT.lexLt a.1 b.1 = true
  nz : ∀ e ∈ r, e.2 ≠ 0
theorem Valid.tail {e : Ent} {r : List Ent} (h : Valid (e :: r)) : Valid r := ⟨(List.pairwise_cons.mp h.asc).2, fun x hx => h.nz x (List.mem_cons_of_mem _ hx)⟩
theorem Valid.head_out {e : Ent} {r : List Ent} (h : Valid (e :: r)) {q : Pl} (hq : q = e.1 ∨ HT.lexLt q e.1 = true) : numAt r q = 0 := by
  refine numAt_out fun x hx z => ?_
  have h1 := (List.pairwise_cons.mp h.asc).1 x hx
  rcases hq with rfl | hq
  · exact lt_ne h1 z.symm
  · exact lt_ne (lt_trans hq h1) z.symm
theorem Valid.head_at {e : Ent} {r : List Ent} (h : Valid (e :: r)) : numAt (e :: r) e.1 = e.2 := by
  show (if e.1 = e.1 then e.2 else 0) + numAt r e.1 = e.2
  rw [if_pos rfl, h.head_out (.inl rfl)]
  omega
theorem Valid.low {e : Ent} {r : List Ent} (h : Valid (e :: r)) {q : Pl} (hq : HT.lexLt q e.1 = true) : numAt (e :: r) q = 0 := by
  show (if e.1 = q then e.2 else 0) + numAt r q = 0
  rw [if_neg (fun z => lt_ne hq z.symm), h.head_out (.inr hq)]
  rfl
theorem Valid.ext : ∀ {r t : List Ent}, Valid r → Valid t → (∀ q, numAt r q = numAt t q) → r = t
  | [], [], _, _, _ => rfl
  | [], e :: t, _, ht, h => by
    have h1 := h e.1
    rw [ht.head_at] at h1
    exact absurd h1.symm (ht.nz e List.mem_cons_self)
  | e :: r, [], hr, _, h => by
    have h1 := h e.1
    rw [hr.head_at] at h1
    exact absurd h1 (hr.nz e List.mem_cons_self)
  | e :: r, f :: t, hr, ht, h => by
    have k : e.1 = f.1 := by
      refine lt_tot ?_ ?_
      · cases z : HT.lexLt e.1 f.1 with
        | false => rfl
        | true =>
          have h1 := h e.1
          rw [hr.head_at, ht.low z] at h1
          exact absurd h1 (hr.nz e List.mem_cons_self)
      · cases z : HT.lexLt f.1 e.1 with
        | false => rfl
        | true =>
          have h1 := h f.1
          rw [ht.head_at, hr.low z] at h1
          exact absurd h1.symm (ht.nz f List.mem_cons_self)
    have n : e.2 = f.2 := by
      have h1 := h e.1
      rw [hr.head_at, k, ht.head_at] at h1
      exact h1
    have ef : e = f := Prod.ext k n
    subst ef
    refine congrArg _ (Valid.ext hr.tail ht.tail fun q => ?_)
    have h1 := h q
    have h2 : (if e.1 = q then e.2 else 0) + numAt r q = (if e.1 = q then e.2 else 0) + numAt t q := h1
    omega
/-- the row of the sums -/
structure RowIs (r es : List Ent) : Prop where
  v : Valid r
  s : ∀ q, numAt r q = numAt es q
theorem RowIs.one {r t es : List Ent} (h1 : RowIs r es) (h2 : RowIs t es) : r = t := h1.v.ext h2.v fun q => (h1.s q).trans (h2.s q).symm
theorem Valid.at : ∀ {r : List Ent}, Valid r → ∀ e ∈ r, numAt r e.1 = e.2
  | f :: t, h, e, he => by
    rcases List.mem_cons.mp he with rfl | he
    · exact h.head_at
    · show (if f.1 = e.1 then f.2 else 0) + numAt t e.1 = e.2
      rw [if_neg (lt_ne ((List.pairwise_cons.mp h.asc).1 e he)), Valid.at h.tail e he]
      omega
theorem RowIs.mem {r es : List Ent} (h : RowIs r es) {e : Ent} (he : e ∈ r) : ∃ x ∈ es, x.1 = e.1 := by
  have h1 := h.v.at e he
  rw [h.s] at h1
  by_cases z : ∃ x ∈ es, x.1 = e.1
  · exact z
  · rw [numAt_out fun x hx y => z ⟨x, hx, y⟩] at h1
    exact absurd h1.symm (h.v.nz e he)
theorem Valid.len : ∀ {r : List Ent} {l : List Pl}, Valid r → (∀ e ∈ r, e.1 ∈ l) → r.length ≤ l.length
  | [], _, _, _ => Nat.zero_le _
  | e :: t, l, h, k => by
    have h1 := k e List.mem_cons_self
    have ih := Valid.len (l := l.erase e.1) h.tail fun x hx => (List.mem_erase_of_ne (lt_ne ((List.pairwise_cons.mp h.asc).1 x hx)).symm).mpr (k x (List.mem_cons_of_mem _ hx))
    rw [List.length_erase_of_mem h1] at ih
    have h2 := List.length_pos_of_mem h1
    rw [List.length_cons]
    omega
theorem RowIs.len {r es : List Ent} (h : RowIs r es) : r.length ≤ es.length := by
  have := h.v.len (l := es.map (·.1)) fun e he => by
    obtain ⟨x, hx, ex⟩ := h.mem he
    rw [← ex]
    exact List.mem_map_of_mem hx
  rwa [List.length_map] at this
/-- the entries of the keys in turn -/
def mkR (f : Pl → Int) : List Pl → List Ent
  | [] => []
  | k :: r => if f k = 0 then mkR f r else (k, f k) :: mkR f r
theorem mkR_snoc (f : Pl → Int) (k : Pl) : ∀ ks : List Pl, mkR f (ks ++ [k]) = mkR f ks ++ (if f k = 0 then [] else [(k, f k)])
  | [] => by
    show (if f k = 0 then [] else [(k, f k)]) = [] ++ _
    rw [List.nil_append]
  | x :: r => by
    show (if f x = 0 then mkR f (r ++ [k]) else (x, f x) :: mkR f (r ++ [k])) = (if f x = 0 then mkR f r else (x, f x) :: mkR f r) ++ _
    rw [mkR_snoc f k r]
    by_cases h : f x = 0
    · rw [if_pos h, if_pos h]
    · rw [if_neg h, if_neg h]
      rfl
theorem mkR_mem {f : Pl → Int} {e : Ent} : ∀ {ks : List Pl}, e ∈ mkR f ks → e.1 ∈ ks ∧ e.2 = f e.1 ∧ e.2 ≠ 0
  | k :: r, h => by
    have h' : e ∈ (if f k = 0 then mkR f r else (k, f k) :: mkR f r) := h
    by_cases z : f k = 0
    · rw [if_pos z] at h'
      obtain ⟨h1, h2⟩ := mkR_mem h'
      exact ⟨List.mem_cons_of_mem _ h1, h2⟩
    · rw [if_neg z] at h'
      rcases List.mem_cons.mp h' with rfl | h'
      · exact ⟨List.mem_cons_self, rfl, z⟩
      · obtain ⟨h1, h2⟩ := mkR_mem h'
        exact ⟨List.mem_cons_of_mem _ h1, h2⟩
theorem mkR_valid {f : Pl → Int} : ∀ {ks : List Pl}, ks.Pairwise (fun a b => HT.lexLt a b = true) → Valid (mkR f ks)
  | [], _ => ⟨.nil, fun e h => by cases h⟩
  | k :: r, h => by
    obtain ⟨h1, h2⟩ := List.pairwise_cons.mp h
    have ih := mkR_valid (f := f) h2
    show Valid (if f k = 0 then mkR f r else (k, f k) :: mkR f r)
    by_cases z : f k = 0
    · rw [if_pos z]
      exact ih
    · rw [if_neg z]
      refine ⟨List.pairwise_cons.mpr ⟨fun e he => h1 _ (mkR_mem he).1, ih.asc⟩, fun e he => ?_⟩
      rcases List.mem_cons.mp he with rfl | he
      · exact z
      · exact ih.nz e he
theorem mkR_sum {f : Pl → Int} : ∀ {ks : List Pl}, ks.Nodup → ∀ q, numAt (mkR f ks) q = if q ∈ ks then f q else 0
  | [], _, q => rfl
  | k :: r, h, q => by
    obtain ⟨h1, h2⟩ := List.nodup_cons.mp h
    have ih := mkR_sum (f := f) h2 q
    show numAt (if f k = 0 then mkR f r else (k, f k) :: mkR f r) q = _
    have key : numAt (if f k = 0 then mkR f r else (k, f k) :: mkR f r) q = (if k = q then f k else 0) + numAt (mkR f r) q := by
      by_cases z : f k = 0
      · rw [if_pos z, z, ite_self]
        omega
      · rw [if_neg z]
        rfl
    rw [key, ih]
    by_cases e : k = q
    · subst e
      rw [if_pos rfl, if_neg h1, if_pos List.mem_cons_self]
      omega
    · rw [if_neg e]
      by_cases m : q ∈ r
      · rw [if_pos m, if_pos (List.mem_cons_of_mem _ m)]
        omega
      · rw [if_neg m, if_neg]
        · rfl
        · intro hq
          rcases List.mem_cons.mp hq with rfl | hq
          · exact e rfl
          · exact m hq
/-- a dict of sums: its keys are ks, at k it holds f k -/
structure Sums (kvs : List (List Key × V)) (ks : List Pl) (f : Pl → Int) : Prop where
  keys : kvs.map (·.1) = ks.map fun k => k.map Sum.inl
  val : ∀ k : Pl, valV kvs (k.map Sum.inl) = if k ∈ ks then some (V.int (f k)) else none
  out : ∀ k, k ∉ ks → f k = 0
theorem Sums.nil : Sums [] [] (fun _ => 0) := ⟨rfl, fun k => rfl, fun _ _ => rfl⟩
theorem Sums.len {kvs : List (List Key × V)} {ks : List Pl} {f : Pl → Int} (h : Sums kvs ks f) : kvs.length = ks.length := by
  have := congrArg List.length h.keys
  rwa [List.length_map, List.length_map] at this
theorem putK_keys {κ : Type} [DecidableEq κ] {kvs : List (κ × V)} {k : κ} {v : V} (h : (valV kvs k).isSome = true) : (putK kvs k v).map (·.1) = kvs.map (·.1) := by
  unfold putK
  rw [valV_any, if_pos h, List.map_map]
  refine List.map_congr_left fun x _ => ?_
  show (if x.1 = k then (x.1, v) else x).1 = x.1
  by_cases e : x.1 = k
  · rw [if_pos e]
  · rw [if_neg e]
theorem Sums.put {kvs : List (List Key × V)} {ks : List Pl} {f : Pl → Int} (h : Sums kvs ks f) (k : Pl) (n : Int) :
    Sums (putK kvs (k.map Sum.inl) (.int (f k + n))) (if k ∈ ks then ks else ks ++ [k]) (fun q => f q + if k = q then n else 0) := by
  have hv := h.val k
  refine ⟨?_, fun q => ?_, fun q hq => ?_⟩
  · by_cases m : k ∈ ks
    · rw [if_pos m] at hv ⊢
      rw [putK_keys (by rw [hv]; rfl), h.keys]
    · rw [if_neg m] at hv ⊢
      rw [putK_new _ hv, List.map_append, List.map_append, h.keys]
      rfl
  · rw [valV_put, h.val]
    by_cases e : q = k
    · subst e
      rw [if_pos rfl, if_pos rfl, if_pos]
      by_cases m : q ∈ ks
      · rw [if_pos m]
        exact m
      · rw [if_neg m]
        exact List.mem_append_right _ List.mem_cons_self
    · have ne1 : ¬ (q.map (Sum.inl : Int → Key) = k.map Sum.inl) := fun z => e (inl_inj z)
      have ne2 : ¬ (k = q) := fun z => e z.symm
      rw [if_neg ne1, if_neg ne2]
      have mm : (q ∈ if k ∈ ks then ks else ks ++ [k]) ↔ q ∈ ks := by
        by_cases m : k ∈ ks
        · rw [if_pos m]
        · rw [if_neg m, List.mem_append, List.mem_singleton]
          exact ⟨fun z => z.elim id fun z => absurd z e, .inl⟩
      by_cases m : q ∈ ks
      · rw [if_pos m, if_pos (mm.mpr m), Int.add_zero]
      · rw [if_neg m, if_neg (fun z => m (mm.mp z))]
  · have hq2 : q ∉ ks ∧ k ≠ q := by
      by_cases m : k ∈ ks
      · rw [if_pos m] at hq
        exact ⟨hq, fun z => hq (z ▸ m)⟩
      · rw [if_neg m] at hq
        exact ⟨fun z => hq (List.mem_append_left _ z), fun z => hq (List.mem_append_right _ (z ▸ List.mem_cons_self))⟩
    show f q + (if k = q then n else 0) = 0
    rw [if_neg hq2.2, h.out q hq2.1]
    rfl
theorem Sums.next {kvs : List (List Key × V)} {ks : List Pl} {es : List Ent} {i : Nat} {e : Ent} (hi : es[i]? = some e) (h : Sums kvs ks (numAt (es.take i))) :
    Sums (putK kvs (e.1.map Sum.inl) (.int (numAt (es.take i) e.1 + e.2))) (if e.1 ∈ ks then ks else ks ++ [e.1]) (numAt (es.take (i + 1))) := by
  have he : es.take (i + 1) = es.take i ++ [e] := by
    obtain ⟨h1, h2⟩ := List.getElem?_eq_some_iff.mp hi
    rw [List.take_add_one, hi]
    rfl
  have hf : numAt (es.take (i + 1)) = fun q => numAt (es.take i) q + if e.1 = q then e.2 else 0 := by
    funext q
    rw [he, numAt_app]
    show _ + ((if e.1 = q then e.2 else 0) + 0) = _
    omega
  rw [hf]
  exact h.put e.1 e.2
theorem Sums.get {kvs : List (List Key × V)} {ks : List Pl} {f : Pl → Int} (h : Sums kvs ks f) {k : Pl} (m : k ∈ ks) : valV kvs (k.map Sum.inl) = some (.int (f k)) := by
  rw [h.val, if_pos m]
theorem Sums.getD {kvs : List (List Key × V)} {ks : List Pl} {f : Pl → Int} (h : Sums kvs ks f) (k : Pl) : (valV kvs (k.map Sum.inl)).getD (.int 0) = .int (f k) := by
  rw [h.val]
  by_cases m : k ∈ ks
  · rw [if_pos m]
    rfl
  · rw [if_neg m, h.out k m]
    rfl
/-- sorted keys' entries are the row -/
theorem row_sorted {es : List Ent} {ks out : List Pl} (perm : out.Perm ks) (pw : out.Pairwise fun a b => HT.lexLt b a = false) (nod : ks.Nodup) (all : ∀ q, q ∉ ks → numAt es q = 0) : RowIs (mkR (numAt es) out) es := by
  have no : out.Nodup := perm.nodup_iff.mpr nod
  have asc : out.Pairwise fun a b => HT.lexLt a b = true := by
    have both := List.pairwise_and_iff.mpr ⟨pw, no⟩
    refine both.imp fun {a b} h => ?_
    cases z : HT.lexLt a b with
    | true => rfl
    | false => exact absurd (lt_tot z h.1) h.2
  refine ⟨mkR_valid asc, fun q => ?_⟩
  rw [mkR_sum no]
  by_cases m : q ∈ out
  · rw [if_pos m]
  · rw [if_neg m, all q fun z => m (perm.mem_iff.mpr z)]
/-! ### rows in the heap -/
def EntAt (H : Hp) (v : V) (e : Ent) : Prop := ∃ t p, v = .ref t ∧ H t = some (.tup [.ref p, .int e.2]) ∧ H p = some (.tup (e.1.map V.int))
inductive Ents (H : Hp) : List V → List Ent → Prop
  | nil : Ents H [] []
  | cons {v : V} {e : Ent} {vs : List V} {es : List Ent} : EntAt H v e → Ents H vs es → Ents H (v :: vs) (e :: es)
theorem Ents.len {H : Hp} {vs : List V} {es : List Ent} (h : Ents H vs es) : vs.length = es.length := by
  induction h with
  | nil => rfl
  | cons _ _ ih => rw [List.length_cons, List.length_cons, ih]
theorem EntAt.mono {H H' : Hp} {v : V} {e : Ent} (s : ∀ b o, H b = some o → H' b = some o) (h : EntAt H v e) : EntAt H' v e := by
  obtain ⟨t, p, rfl, h1, h2⟩ := h
  exact ⟨t, p, rfl, s _ _ h1, s _ _ h2⟩
theorem Ents.mono {H H' : Hp} {vs : List V} {es : List Ent} (s : ∀ b o, H b = some o → H' b = some o) (h : Ents H vs es) : Ents H' vs es := by
  induction h with
  | nil => exact .nil
  | cons h1 _ ih => exact .cons (h1.mono s) ih
theorem Ents.app {H : Hp} {vs ws : List V} {es fs : List Ent} (h : Ents H vs es) (g : Ents H ws fs) : Ents H (vs ++ ws) (es ++ fs) := by
  induction h with
  | nil => exact g
  | cons h1 _ ih => exact .cons h1 ih
theorem Ents.get {H : Hp} {vs : List V} {es : List Ent} (h : Ents H vs es) : ∀ {i : Nat} {v : V}, vs[i]? = some v → ∃ e, es[i]? = some e ∧ EntAt H v e := by
  induction h with
  | nil => intro i v h; simp at h
  | cons h1 _ ih =>
    intro i v hv
    cases i with
    | zero =>
      cases hv
      exact ⟨_, rfl, h1⟩
    | succ i => exact ih (i := i) hv
theorem Ents.at {H : Hp} {vs : List V} {es : List Ent} (h : Ents H vs es) {i : Nat} (hi : i < es.length) : ∃ v, vs[i]? = some v ∧ EntAt H v es[i] := by
  have h2 : i < vs.length := by rw [h.len]; exact hi
  obtain ⟨e, h3, h4⟩ := h.get (List.getElem?_eq_getElem h2)
  rw [List.getElem?_eq_getElem hi] at h3
  cases h3
  exact ⟨_, List.getElem?_eq_getElem h2, h4⟩
theorem Ents.set {H : Hp} {vs : List V} {es : List Ent} {v : V} {e : Ent} (h : Ents H vs es) (h1 : EntAt H v e) : ∀ i, Ents H (vs.set i v) (es.set i e) := by
  induction h with
  | nil => intro i; exact .nil
  | cons a b ih =>
    intro i
    cases i with
    | zero => exact .cons h1 b
    | succ i => exact .cons a (ih i)
/-- as data -/
def dPl (k : Pl) : PyData := .tuple (k.map .int)
def dEnt (e : Ent) : PyData := .tuple [dPl e.1, .int e.2]
def dRow (es : List Ent) : PyData := .list (es.map dEnt)
theorem dp_ints {K : PySem.W.Frag} {H : Hp} : ∀ k : Pl, DpAll K H (k.map V.int) (k.map PyData.int)
  | [] => .nil
  | n :: r => .cons (.int n) (dp_ints r)
theorem EntAt.dp {K : PySem.W.Frag} {H : Hp} {v : V} {e : Ent} (h : EntAt H v e) : Dp K H v (dEnt e) := by
  obtain ⟨t, p, rfl, h1, h2⟩ := h
  exact .tup (.inl (.inl h1)) (.cons (.tup (.inl (.inl h2)) (dp_ints _)) (.cons (.int _) .nil))
theorem Ents.dpAll {K : PySem.W.Frag} {H : Hp} {vs : List V} {es : List Ent} (h : Ents H vs es) : DpAll K H vs (es.map dEnt) := by
  induction h with
  | nil => exact .nil
  | cons h1 _ ih => exact .cons h1.dp ih
theorem Ents.dp {K : PySem.W.Frag} {H : Hp} {a : Addr} {vs : List V} {es : List Ent} (ha : SqL K H a vs) (h : Ents H vs es) : Dp K H (.ref a) (dRow es) := .lst ha h.dpAll
theorem lay_ints : ∀ k : Pl, PyData.canLayAll0 (k.map PyData.int) = true
  | [] => rfl
  | n :: r => by
    show (PyData.canLay0 (.int n) && PyData.canLayAll0 (r.map PyData.int)) = true
    rw [lay_ints r]
    rfl
theorem lay_row : ∀ es : List Ent, PyData.canLayAll0 (es.map dEnt) = true
  | [] => rfl
  | e :: r => by
    show (PyData.canLay0 (dEnt e) && PyData.canLayAll0 (r.map dEnt)) = true
    rw [lay_row r]
    show ((PyData.canLayAll0 (e.1.map PyData.int) && (PyData.canLay0 (.int e.2) && true)) && true) = true
    rw [lay_ints]
    rfl
end OT

set_option Elab.async false
set_option linter.all false
set_option maxRecDepth 100000
set_option maxHeartbeats 4000000
/-! raise C(), an own class whose __init__ takes no argument but the error itself -/
namespace L2
open PySem PySem.Spec PyProof.Rows PySem.W PySem.Calls PySem.HandSPX
section
variable {X : Cx} {p pos : Pos} {pins : List (Addr × Obj)} {σ : St} {H : Hp} {st : Shared}
/-- the heap with the bare error and its empty arguments behind the old objects -/
def bareHeap (C : Addr) (h : Heap) : Heap := (h.push (kdv_tup [])).push (excO C h.objs.size)
theorem bare_grows {C : Addr} {h : Heap} (b : Addr) (o : Obj) (e : h.get? b = some o) : (bareHeap C h).get? b = some o := Heap.get?_push_of_some _ (Heap.get?_push_of_some _ e)
theorem bare_there {C : Addr} {h : Heap} : (bareHeap C h).get? (h.objs.size + 1) = some (excO C h.objs.size) := by
  show ((h.push (kdv_tup [])).push (excO C h.objs.size)).get? (h.objs.size + 1) = _
  heap_get
theorem bare_inv {C : Addr} (I : Inv X pins σ H st) : H (st.heap.objs.size + 1) = none ∧ Inv X pins σ (upd H (st.heap.objs.size + 1) (exo (st.heap.objs.size + 1) C none)) ⟨bareHeap C st.heap, st.gens, st.drawn, st.toks, st.os⟩ :=
  ⟨I.hok.fresh (Nat.le_succ _), I.laid (t' := st.toks) (a := st.heap.objs.size + 1) (h' := bareHeap C st.heap) (o := exo (st.heap.objs.size + 1) C none) bare_grows (Nat.le_succ _) (exo_ok bare_there)⟩
theorem pmk_oex0 {CX : CXT} {x : Str} {C fI : Addr} {k : Nat} {fd : FuncData} {ps : List Str} {sp : Sp} (T : OexC X.K C) (iC : findIn X.K (.ref C) "__init__" = some (some (.ref fI))) (tI : typeIn X.K (.ref fI) = some (.type "function"))
    (G : FnOk X.prog X.w X.K X.mg X.base CX k fI fd ps sp) (hr : Room (k + 1) X.A) (bi : Binds X.K fd ps []) (no : Passes CX X fun _ _ _ => False) (hg : Gl X x) (hm : X.mg x = some (.ref C)) (nd : (x == ("__debug__" : Str)) = false := by decide) :
    PMk X (.Call (.Name x p) [] [] pos) (tMkO C sp [] tNil) := by
  intro pins σ0 σ H Q I want
  rcases σ0 with ⟨h, gs, dw, ts, os⟩
  obtain ⟨_, _, _, _, bm, _, _, _, _, _, _, _, _, _, _, stands, vb⟩ := T.cls
  obtain ⟨_, ask⟩ := want
  obtain ⟨free, J⟩ := bare_inv (C := C) I
  have promise := ask (h.objs.size + 1) free
  have one : ([Value.ref (h.objs.size + 1)] : List Value).length = ps.length := (G.len _ _ _ _ promise).symm ▸ rfl
  have body := G.run (X.A.under (.builtin "type.__call__" ⟨[.ref C], []⟩)) X.stack _ _ ⟨[.ref (h.objs.size + 1)], []⟩ [.ref (h.objs.size + 1)] _ _ (fun _ _ _ => False) (hr.make C [] []) (J.env0.make C [] []) (bi _ [.ref (h.objs.size + 1)] J.kIn one) (show Vals [V.ref (h.objs.size + 1)] [Value.ref (h.objs.size + 1)] from .cons rfl .nil) promise
  refine wpAny_Call_Name_kw (ld_glob I hg hm (callWith_K0 I.kIn T.kC ?_) nd)
  refine wpAny_call (call_own (rest := []) F.excBase_ValueError (fun Y => refsVE_contains Y bm vb) (I.kIn _ _ stands) (looks_findIn I.kIn iC) (fun me => bind_fn I.kIn me tI) (Nat.zero_le _) (codeAny_mono body ?_))
  rintro (er | fl) s2 end_
  · exact no pins σ _ _ er s2 J end_
  · cases fl with
    | ret u =>
      rcases s2 with ⟨h2, gs2, dw2, ts2, os2⟩
      obtain ⟨_, H2, same, bare, un, ok2, rel, rfl, d, fs, at_a, at_d, new, q⟩ := end_
      exact ⟨rel, mk_end (raises_own T.exC T.tyC) I (Nat.le_succ _) bare_grows un ok2 same bare at_a at_d new q⟩
    | next => cases end_
    | brk => cases end_
    | cont => cases end_
end
end L2

set_option Elab.async false
set_option linter.all false
set_option maxRecDepth 100000
set_option maxHeartbeats 4000000
/-! steps of a reading, one lemma for each form -/
namespace AU
open PySem PySem.Spec PyProof.Rows L2
section
variable {K : PySem.W.Frag} {σ : L2.St} {H : Hp} {Q : VK} {D : Ends}
theorem climb {H1 H2 : Hp} {a : Addr} {o : HO} (s : Same H1 H2) (h : H1 a = some o) : H2 a = some o := s _ _ h
theorem sqL {a : Addr} {xs : List V} (h : H a = some (.lst xs)) : SqL K H a xs := .inl (.inl h)
theorem sqT {a : Addr} {xs : List V} (h : H a = some (.tup xs)) : SqT K H a xs := .inl (.inl h)
theorem newS {H H2 : Hp} {p : Addr} {o : HO} (h : H p = none) (e : upd H p o = H2) : Same H H2 := fun b x z => by
  rw [← e, upd_ne (ne_of_none z h)]
  exact z
theorem newH {H H2 : Hp} {p : Addr} {o : HO} (e : upd H p o = H2) : H2 p = some o := by rw [← e]; exact upd_same
theorem back {H H2 : Hp} {p : Addr} (s : Same H H2) (h : H2 p = none) : H p = none := by
  cases h1 : H p with
  | none => rfl
  | some o =>
    rw [s p o h1] at h
    cases h
theorem trueT {A B : Prop} (h : A) : if true = true then A else B := by rw [if_pos rfl]; exact h
theorem falseF {A B : Prop} (h : B) : if false = true then A else B := by rw [if_neg (by decide)]; exact h
theorem trueN {A B : Prop} (h : B) : if (!true) = true then A else B := by rw [if_neg (by decide)]; exact h
theorem falseN {A B : Prop} (h : A) : if (!false) = true then A else B := by rw [if_pos (by decide)]; exact h
theorem mutS {H H1 : Hp} {p : Addr} {o : HO} (e : Same H H1) (h : H p = none) : Same H (upd H1 p o) := fun b x z => by
  rw [upd_ne (ne_of_none z h)]
  exact e b x z
theorem sqLS {H1 H2 : Hp} {a : Addr} {xs : List V} (s : Same H1 H2) (h : SqL K H1 a xs) : SqL K H2 a xs := s.seq h
theorem sqTS {H1 H2 : Hp} {a : Addr} {xs : List V} (e : Same H1 H2) (h : SqT K H1 a xs) : SqT K H2 a xs := by
  rcases h with (h | ⟨o, h⟩) | h
  · exact .inl (.inl (e _ _ h))
  · exact .inl (.inr ⟨o, e _ _ h⟩)
  · exact .inr h
/- statements -/
theorem seq_ {t u : TS} (h : t { D with nx := u D } σ H) : tSeq t u D σ H := h
theorem asg_ {te : TE} {g : TG} (h : te σ H fun x H1 => g x σ H1 D.nx) : tAsg te g D σ H := h
theorem name_ {i : Nat} {v : V} {W : L2.St → Hp → Prop} (h : W (σ.set i (some v)) H) : gName i v σ H W := h
theorem drop_ {te : TE} (h : te σ H fun _ H1 => D.nx σ H1) : tDrop te D σ H := h
theorem ret_ {te : TE} (h : te σ H D.rt) : tRet te D σ H := h
theorem retN_ (h : D.rt .non H) : tRetN D σ H := h
theorem next_ (h : D.nx σ H) : tNext D σ H := h
theorem brk_ (h : D.bk σ H) : tBreak D σ H := h
theorem cont_ (h : D.ct σ H) : tCont D σ H := h
theorem ifs_ {c : TT} {t u : TS} (h : c σ H fun b H1 => if b = true then t D σ H1 else u D σ H1) : tIfS c t u D σ H := h
theorem aug_ {i : Nat} {te : TE} {ti : TIp} {x : V} (e : σ[i]? = some (some x)) (h : te σ H fun y H1 => ti x y H1 fun z H2 => D.nx (σ.set i (some z)) H2) : tAug i te ti D σ H := ⟨x, e, h⟩
theorem nxm {nx : L2.St → Hp → Prop} {rt : VK} {bk ct : L2.St → Hp → Prop} (h : nx σ H) : (Ends.mk nx rt bk ct).nx σ H := h
theorem rtm {nx : L2.St → Hp → Prop} {rt : VK} {bk ct : L2.St → Hp → Prop} {v : V} (h : rt v H) : (Ends.mk nx rt bk ct).rt v H := h
theorem bkm {nx : L2.St → Hp → Prop} {rt : VK} {bk ct : L2.St → Hp → Prop} (h : bk σ H) : (Ends.mk nx rt bk ct).bk σ H := h
theorem ctm {nx : L2.St → Hp → Prop} {rt : VK} {bk ct : L2.St → Hp → Prop} (h : ct σ H) : (Ends.mk nx rt bk ct).ct σ H := h
/- expressions -/
theorem var_ {i : Nat} {v : V} (e : σ[i]? = some (some v)) (q : Q v H) : tVar i σ H Q := ⟨v, e, q⟩
theorem c_ {v : V} (q : Q v H) : tC v σ H Q := q
theorem op_ {r : R2} {ta tb : TE} (h : ta σ H fun x H1 => tb σ H1 fun y H2 => r x y H2 Q) : tOp r ta tb σ H Q := h
theorem un_ {r : V → Hp → VK → Prop} {ta : TE} (h : ta σ H fun x H1 => r x H1 Q) : tUn r ta σ H Q := h
theorem u_ {g : Int → V} {i : Int} (q : Q (g i) H) : rU g (.int i) H Q := ⟨i, rfl, q⟩
theorem i0_ {g : Int → Int → V} {i j : Int} (q : Q (g i j) H) : rI0 g (.int i) (.int j) H Q := ⟨i, j, rfl, rfl, q⟩
theorem i_ {C : Int → Int → Prop} {g : Int → Int → V} {i j : Int} (c : C i j) (q : Q (g i j) H) : rI C g (.int i) (.int j) H Q := ⟨i, j, rfl, rfl, c, q⟩
theorem eq_ {x y : V} (c : scal x y = true) (q : Q (.bl (decide (x = y))) H) : rEq x y H Q := ⟨c, q⟩
theorem eqr_ {i : Int} (q : Q (.bl true) H) : rEq (.int i) (.int i) H Q := ⟨rfl, by
  rw [decide_eq_true rfl]; exact q⟩
theorem eqs_ {i : Str} (q : Q (.bl true) H) : rEq (.str i) (.str i) H Q := ⟨rfl, by
  rw [decide_eq_true rfl]; exact q⟩
theorem eqi_ {i j : Int} (q : Q (.bl (decide (i = j))) H) : rEq (.int i) (.int j) H Q := ⟨rfl, by
  have : decide (V.int i = V.int j) = decide (i = j) := decide_eq_decide.mpr ⟨fun h => by cases h; rfl, fun h => by rw [h]⟩
  rw [this]; exact q⟩
theorem nei_ {i j : Int} (q : Q (.bl (!decide (i = j))) H) : rNe (.int i) (.int j) H Q := ⟨rfl, by
  have : decide (V.int i = V.int j) = decide (i = j) := decide_eq_decide.mpr ⟨fun h => by cases h; rfl, fun h => by rw [h]⟩
  rw [this]; exact q⟩
theorem ne_ {x y : V} (c : scal x y = true) (q : Q (.bl (!decide (x = y))) H) : rNe x y H Q := ⟨c, q⟩
theorem test_ {t : TE} {R : Bool → Hp → Prop} (h : t σ H fun x H' => ∃ k, x = .bl k ∧ R k H') : tTest t σ H R := h
theorem sl_ {r : V → Option Int → Option Int → Hp → VK → Prop} {te : TE} {tl th : TO} (h : te σ H fun x H1 => tl σ H1 fun l H2 => th σ H2 fun u H3 => r x l u H3 Q) : tSl r te tl th σ H Q := h
theorem npart_ {R : Option Int → Hp → Prop} (h : R none H) : tNoPart σ H R := h
theorem part_ {te : TE} {R : Option Int → Hp → Prop} (h : te σ H fun x H1 => ∃ i, x = .int i ∧ R (some i) H1) : tPart te σ H R := h
theorem int1_ {i : Int} {A : Int → Prop} (h : A i) : ∃ k, V.int i = .int k ∧ A k := ⟨i, rfl, h⟩
theorem int2_ {i : Int} {A : Int → Prop} (h : A i) : ∃ k, [V.int i] = [V.int k] ∧ A k := ⟨i, rfl, h⟩
theorem slL_ {a : Addr} {xs : List V} {lo hi : Option Int} (s : SqL K H a xs) (h : ∀ p, H p = none → Q (.ref p) (upd H p (.lst (cutV xs lo hi)))) : rSlL K (.ref a) lo hi H Q := ⟨a, xs, rfl, s, h⟩
theorem cut_takeA {xs : List Int} (n : Nat) : cutV (xs.map V.int) none (some (n : Int)) = (xs.take n).map V.int := by
  unfold cutV
  rw [HT.sIx_none, HT.sIx_nat, List.length_map, List.drop_zero, Nat.sub_zero, List.map_take]
  by_cases h : n ≤ xs.length
  · rw [Nat.min_eq_left h]
  · rw [Nat.min_eq_right (by omega), List.take_of_length_le (by rw [List.length_map]; omega), List.take_of_length_le (by rw [List.length_map]; omega)]
theorem bool_ {b : Bool} {A : Bool → Prop} (h : A b) : ∃ k, V.bl b = .bl k ∧ A k := ⟨b, rfl, h⟩
theorem b_ {t : TE} {R : Bool → Hp → Prop} (h : t σ H fun x H' => ∃ k, x = .bl k ∧ R k H') : tB t σ H R := h
theorem and_ {t u : TT} {R : Bool → Hp → Prop} (h : t σ H fun c H1 => if c = true then u σ H1 R else R false H1) : tAnd t u σ H R := h
theorem or_ {t u : TT} {R : Bool → Hp → Prop} (h : t σ H fun c H1 => if c = true then R true H1 else u σ H1 R) : tOr t u σ H R := h
theorem not_ {t : TT} {R : Bool → Hp → Prop} (h : t σ H fun c H1 => R (!c) H1) : tNot t σ H R := h
theorem andV_ {ta tb : TE} (h : ta σ H fun x H1 => ∃ c, x = .bl c ∧ if c = true then tb σ H1 Q else Q (.bl false) H1) : tAndV ta tb σ H Q := h
theorem orV_ {ta tb : TE} (h : ta σ H fun x H1 => ∃ c, x = .bl c ∧ if c = true then Q (.bl true) H1 else tb σ H1 Q) : tOrV ta tb σ H Q := h
theorem notV_ {ta : TE} (h : ta σ H fun x H1 => ∃ c, x = .bl c ∧ Q (.bl (!c)) H1) : tNotV ta σ H Q := h
theorem if_ {t : TT} {ta tb : TE} (h : t σ H fun c H1 => if c = true then ta σ H1 Q else tb σ H1 Q) : tIf t ta tb σ H Q := h
theorem nil_ {R : List V → Hp → Prop} (h : R [] H) : tNil σ H R := h
theorem cons_ {ta : TE} {tr : TA} {R : List V → Hp → Prop} (h : ta σ H fun x H1 => tr σ H1 fun xs H2 => R (x :: xs) H2) : tCons ta tr σ H R := h
theorem lst_ {t : TA} (h : t σ H fun xs H1 => xs.length ≤ sizeLine ∧ ∀ p, H1 p = none → Q (.ref p) (upd H1 p (.lst xs))) : tLst t σ H Q := h
theorem tup_ {t : TA} (h : t σ H fun xs H1 => xs.length ≤ sizeLine ∧ ∀ p, H1 p = none → Q (.ref p) (upd H1 p (.tup xs))) : tTup t σ H Q := h
theorem call_ {sp : Sp} {dvs : List V} {E : XK} {t : TA} (h : t σ H fun vs H1 => sp (vs ++ dvs) H1 Q E) : tCall sp dvs E t σ H Q := h
theorem callS_ {sp : Sp} {E : L2.St → XK} {t : TA} (h : t σ H fun vs H1 => sp vs H1 Q (E σ)) : tCallS sp E t σ H Q := h
theorem cb_ {r : List V → Hp → VK → Prop} {t : TA} (h : t σ H fun vs H1 => r vs H1 Q) : tCB r t σ H Q := h
theorem bm_ {T : String} {r : V → List V → Hp → VK → Prop} {to : TE} {t : TA} (h : to σ H fun x H1 => tyV K T x H1 ∧ t σ H1 fun xs H2 => r x xs H2 Q) : tBM K T r to t σ H Q := h
theorem ixL_ {p : Addr} {xs : List V} {i : Int} {v : V} (h : SqL K H p xs) (e : atI xs i = some v) (q : Q v H) : rIxL K (.ref p) (.int i) H Q := ⟨p, xs, i, v, rfl, rfl, h, e, q⟩
theorem ixT_ {p : Addr} {xs : List V} {i : Int} {v : V} (h : SqT K H p xs) (e : atI xs i = some v) (q : Q v H) : rIxT K (.ref p) (.int i) H Q := ⟨p, xs, i, v, rfl, rfl, h, e, q⟩
theorem lenL_ {p : Addr} {xs : List V} (h : SqL K H p xs) (q : Q (.int xs.length) H) : _root_.Evl.rLenS K [.ref p] H Q := ⟨p, xs, rfl, .inl h, q⟩
theorem lenT_ {p : Addr} {xs : List V} (h : SqT K H p xs) (q : Q (.int xs.length) H) : _root_.Evl.rLenS K [.ref p] H Q := ⟨p, xs, rfl, .inr h, q⟩
theorem app_ {l : Addr} {xs : List V} {y : V} (h : H l = some (.lst xs)) (z : xs.length < sizeLine) (q : Q .non (upd H l (.lst (xs ++ [y])))) : rAppend (.ref l) [y] H Q := ⟨l, xs, y, rfl, rfl, h, z, q⟩
theorem listof_ {p : Addr} {ys : List V} {A : List V → Prop} (h : SqL K H p ys) (q : A ys) : ∃ p' ys', [V.ref p] = [.ref p'] ∧ (SqL K H p' ys' ∨ SqT K H p' ys') ∧ A ys' := ⟨p, ys, rfl, .inl h, q⟩
theorem listofT_ {p : Addr} {ys : List V} {A : List V → Prop} (h : SqT K H p ys) (q : A ys) : ∃ p' ys', [V.ref p] = [.ref p'] ∧ (SqL K H p' ys' ∨ SqT K H p' ys') ∧ A ys' := ⟨p, ys, rfl, .inr h, q⟩
theorem tupleofT_ {p : Addr} {ys : List V} {A : List V → Prop} {B : Addr → Prop} (h : SqT K H p ys) (q : B p) : ∃ p' ys', [V.ref p] = [.ref p'] ∧ ((SqL K H p' ys' ∧ A ys') ∨ (SqT K H p' ys' ∧ B p')) := ⟨p, ys, rfl, .inr ⟨h, q⟩⟩
theorem eqD_ {x y : V} {d e : PyData} (hx : Dp K H x d) (hy : Dp K H y e) (hd : SeqAt.shaped d = true) (he : SeqAt.shaped e = true) (q : Q (.bl (PyData.eqv d e)) H) : rEqD K x y H Q := ⟨d, e, hx, hy, hd, he, q⟩
theorem neD_ {x y : V} {d e : PyData} (hx : Dp K H x d) (hy : Dp K H y e) (hd : SeqAt.shaped d = true) (he : SeqAt.shaped e = true) (q : Q (.bl (!PyData.eqv d e)) H) : rNeD K x y H Q := ⟨d, e, hx, hy, hd, he, q⟩
theorem wAs_ {c cls : Value} {i : Nat} {ts : Addr → Value → Option Addr → TS} {Wout : WX} {d : Option Addr} (e : PySem.W.exmOne K cls c = some true) (h : ∀ a, H a = none → ts a cls d { nx := fun σ' H' => D.nx (σ'.set i none) H', rt := D.rt, bk := fun σ' H' => D.bk (σ'.set i none) H', ct := fun σ' H' => D.ct (σ'.set i none) H' } (σ.set i (some (.ref a))) H) : wAs K c i ts Wout D cls d σ H := ⟨true, e, fun _ => h, fun z => by cases z⟩
theorem cat_ {l b : Addr} {xs zs : List V} (h : H l = some (.lst xs)) (k : H b = some (.lst zs)) (z : xs.length + zs.length ≤ sizeLine) (q : ∀ p, H p = none → Q (.ref p) (upd H p (.lst (xs ++ zs)))) : rCat (.ref l) (.ref b) H Q := ⟨l, b, xs, zs, rfl, rfl, h, k, z, q⟩
theorem intb_ {b : Bool} {A : Int → Prop} {B : Bool → Prop} (q : B b) : (∃ i, [V.bl b] = [.int i] ∧ A i) ∨ ∃ k, [V.bl b] = [.bl k] ∧ B k := .inr ⟨b, rfl, q⟩
theorem inti_ {i : Int} {A : Int → Prop} {B : Prop} (q : A i) : (∃ i', [V.int i] = [.int i'] ∧ A i') ∨ B := .inl ⟨i, rfl, q⟩
theorem b01 (b : Bool) : -(2 ^ 64) < (if b = true then (1 : Int) else 0) ∧ (if b = true then (1 : Int) else 0) < 2 ^ 64 := by cases b <;> decide
theorem rng1_ {ta : TA} {R : It → Hp → Prop} (h : ta σ H fun vs H1 => ∃ j : Int, vs = [.int j] ∧ -(2 ^ 62) ≤ j ∧ j < 2 ^ 62 ∧ R (Itr 0 j.toNat) H1) : iRng1 ta σ H R := h
theorem list_ {tl : TE} {R : It → Hp → Prop} (h : tl σ H fun x H1 => ∃ a, x = .ref a ∧ (∃ xs, SqL K H1 a xs) ∧ R (Itl K a) H1) : iList K tl σ H R := h
theorem itup_ {tl : TE} {R : It → Hp → Prop} (h : tl σ H fun x H1 => ∃ a, x = .ref a ∧ (∃ xs, SqT K H1 a xs) ∧ R (Itt K a) H1) : iTup K tl σ H R := h
theorem for_ {wi : TI} {g : TG} {tb : TS} (h : wi σ H fun J H1 => ∃ W : Nat → Nat → L2.St → Hp → Prop, (∃ m, W 0 m σ H1) ∧ ∀ i m σ H, W i m σ H →
  (J.stop i H ∧ D.nx σ H) ∨ (J.go i H ∧ ∃ N : L2.St → Hp → Prop, (∀ σ' H', N σ' H' → ∃ m', m' < m ∧ W (i + 1) m' σ' H') ∧ ∀ x H', J.yld i H x H' → g x σ H' fun σ2 H2 => tb { D with nx := N, ct := N, bk := D.nx } σ2 H2)) : tFor wi g tb D σ H := h
theorem lc_ {wi : TI} {g : TG} {tt : TT} {te : TE} {vs : List Nat} (h : wi σ H fun J H1 => ∀ D, H1 D = none → ∃ W : Nat → Nat → Hp → Prop, (∃ m, W 0 m (upd H1 D (.lst []))) ∧ ∀ i m H, W i m H →
  (J.stop i H ∧ Q (.ref D) H) ∨ (J.go i H ∧ ∃ Nx : Hp → Prop, (∀ H', Nx H' → ∃ m', m' < m ∧ W (i + 1) m' H') ∧ ∀ x H', J.yld i H x H' → g x (wipe σ vs) H' fun σ2 H2 => wipe σ2 vs = wipe σ vs ∧ tt σ2 H2 fun b H3 =>
    if b = true then te σ2 H3 fun y H4 => ∃ acc, H4 D = some (.lst acc) ∧ acc.length < sizeLine ∧ Nx (upd H4 D (.lst (acc ++ [y]))) else Nx H3)) : tLc wi g tt te vs σ H Q := h
theorem yes_ {A B : Hp → Prop} (h : A H) : tYes σ H (fun b H3 => if b = true then A H3 else B H3) := by
  show (if true = true then A H else B H)
  rw [if_pos rfl]
  exact h
theorem refNon {p : Addr} {A B : Prop} (h : B) : if decide (V.ref p = V.non) = true then A else B := by rw [if_neg (by intro z; have := of_decide_eq_true z; cases this)]; exact h
theorem nonNon {A B : Prop} (h : A) : if decide (V.non = V.non) = true then A else B := by rw [if_pos (decide_eq_true rfl)]; exact h
theorem line {n : Nat} (h : n ≤ 20000) : n < sizeLine := Nat.lt_of_lt_of_le (Nat.lt_of_le_of_lt h (by decide : 20000 < 100000)) (by decide)
theorem tyl_ {p : Addr} {xs : List V} {A : Prop} (h : SqL K H p xs) (q : A) : tyV K "list" (.ref p) H ∧ A := ⟨.inl ⟨rfl, xs, h⟩, q⟩
theorem tupleof_ {p : Addr} {ys : List V} {A : List V → Prop} {B : Addr → List V → Prop} (h : SqL K H p ys) (q : A ys) : ∃ p' ys', [V.ref p] = [.ref p'] ∧ ((SqL K H p' ys' ∧ A ys') ∨ B p' ys') := ⟨p, ys, rfl, .inl ⟨h, q⟩⟩
/-- a list of ints that grows at D, H0 without D -/
def IntsAt (H0 : Hp) (D : Addr) (Pr : Nat → Int → Prop) (i : Nat) (H : Hp) : Prop := Same H0 H ∧ ∃ zs : List Int, H D = some (.lst (zs.map V.int)) ∧ zs.length = i ∧ ∀ (k : Nat) (z : Int), zs[k]? = some z → Pr k z
theorem IntsAt.start {H0 : Hp} {D : Addr} {Pr : Nat → Int → Prop} (nD : H0 D = none) : IntsAt H0 D Pr 0 (upd H0 D (.lst [])) := ⟨newS nD rfl, [], upd_same, rfl, fun k z h => by simp at h⟩
theorem IntsAt.step {H0 H H4 : Hp} {D : Addr} {Pr : Nat → Int → Prop} {i : Nat} {z : Int} (nD : H0 D = none) (h : IntsAt H0 D Pr i H) (s : Same H H4) (hi : i < 10000) (pz : Pr i z) : ∃ acc, H4 D = some (.lst acc) ∧ acc.length < sizeLine ∧ IntsAt H0 D Pr (i + 1) (upd H4 D (.lst (acc ++ [.int z]))) := by
  obtain ⟨s0, zs, hD, hl, hp⟩ := h
  refine ⟨_, s _ _ hD, by rw [List.length_map]; exact line (by omega), mutS (s0.trans s) nD, zs ++ [z], by rw [upd_same, List.map_append]; rfl, by rw [List.length_append, hl]; rfl, fun k x hk => ?_⟩
  by_cases c : k < zs.length
  · rw [List.getElem?_append_left c] at hk
    exact hp k x hk
  · have hkl := (List.getElem?_eq_some_iff.mp hk).1
    rw [List.length_append, List.length_singleton] at hkl
    obtain rfl : k = zs.length := by omega
    rw [List.getElem?_append_right (Nat.le_refl _), Nat.sub_self] at hk
    cases hk
    rw [hl]
    exact pz
/-- entries that grow at D, H0 without D -/
def EntsG (H0 : Hp) (D : Addr) (Pe : Nat → OT.Ent → Prop) (i : Nat) (H : Hp) : Prop := Same H0 H ∧ ∃ (ws : List V) (es : List OT.Ent), H D = some (.lst ws) ∧ OT.Ents H ws es ∧ es.length = i ∧ ∀ (k : Nat) (e : OT.Ent), es[k]? = some e → Pe k e
theorem EntsG.start {H0 : Hp} {D : Addr} {Pe : Nat → OT.Ent → Prop} (nD : H0 D = none) : EntsG H0 D Pe 0 (upd H0 D (.lst [])) := ⟨newS nD rfl, [], [], upd_same, .nil, rfl, fun k z h => by simp at h⟩
theorem ne_ltup {a D : Addr} {xs l : List V} (h : H a = some (.tup xs)) (hD : H D = some (.lst l)) : a ≠ D := fun e => by
  rw [e, hD] at h
  cases h
theorem ents_upd {H : Hp} {D : Addr} {l l' : List V} {vs : List V} {es : List OT.Ent} (hD : H D = some (.lst l)) (h : OT.Ents H vs es) : OT.Ents (upd H D (.lst l')) vs es := by
  induction h with
  | nil => exact .nil
  | cons h1 _ ih =>
    obtain ⟨t, p, rfl, ht, hp⟩ := h1
    refine .cons ⟨t, p, rfl, ?_, ?_⟩ ih
    · rw [upd_ne (ne_ltup ht hD)]; exact ht
    · rw [upd_ne (ne_ltup hp hD)]; exact hp
theorem EntsG.step {H0 H H4 : Hp} {D : Addr} {Pe : Nat → OT.Ent → Prop} {i : Nat} {v : V} {e : OT.Ent} (nD : H0 D = none) (h : EntsG H0 D Pe i H) (s : Same H H4) (hi : i < 10000) (hv : OT.EntAt H4 v e) (pz : Pe i e) : ∃ acc, H4 D = some (.lst acc) ∧ acc.length < sizeLine ∧ EntsG H0 D Pe (i + 1) (upd H4 D (.lst (acc ++ [v]))) := by
  obtain ⟨s0, ws, es, hD, hE, hl, hp⟩ := h
  have hw := hE.len
  refine ⟨_, s _ _ hD, line (by omega), mutS (s0.trans s) nD, ws ++ [v], es ++ [e], upd_same, ents_upd (s _ _ hD) ((hE.mono s).app (.cons hv .nil)), by rw [List.length_append, hl]; rfl, fun k x hk => ?_⟩
  by_cases c : k < es.length
  · rw [List.getElem?_append_left c] at hk
    exact hp k x hk
  · have hkl := (List.getElem?_eq_some_iff.mp hk).1
    rw [List.length_append, List.length_singleton] at hkl
    obtain rfl : k = es.length := by omega
    rw [List.getElem?_append_right (Nat.le_refl _), Nat.sub_self] at hk
    cases hk
    rw [hl]
    exact pz
theorem atN {xs : List V} {k : Int} {j : Nat} {v : V} (e : k = (j : Int)) (h : xs[j]? = some v) : atI xs k = some v := by rw [e]; exact atI_nat h
end
end AU

set_option Elab.async false
set_option linter.all false
set_option maxRecDepth 100000
set_option maxHeartbeats 4000000
/-! xs.count(y) of a list of flat items -/
namespace OA
open PySem PySem.Spec PyProof.Rows PySem.W PySem.Calls L2
theorem count_vals {y : V} : ∀ {ys : List V} {its : List Value}, Vals ys its → ys.all flatV = true → its.countP (eqU y) = ys.countP fun z => eqV z y
  | [], _, .nil, _ => rfl
  | z :: r, _, .cons rz rt, f => by
    rw [List.all_cons, Bool.and_eq_true] at f
    rw [List.countP_cons, List.countP_cons, count_vals rt f.2, eqU_of rz f.1]
section
variable {X : Cx}
def rCntV (K : PySem.W.Frag) : V → List V → Hp → VK → Prop := fun x xs H Q => ∃ (p : Addr) (ys : List V) (y : V), x = .ref p ∧ xs = [y] ∧ SqL K H p ys ∧ flatV y = true ∧ ys.all flatV = true ∧ Q (.int ((ys.countP fun z => eqV z y : Nat) : Int)) H
theorem mt_lcountV : MtR X "list.count" (rCntV X.K) := by
  intro pins s σ H x xs v us Q I rx rxs h
  obtain ⟨p, ys, y, rfl, rfl, hs, fy, fys, q⟩ := h
  cases rx
  cases rxs with
  | cons ry rt =>
    rename_i uy ut
    cases rt
    obtain ⟨its, rv, ⟨⟨cls, dd, data, sl⟩, n, ho, hc, hdn, hd⟩, hlen⟩ := I.list hs
    simp only at hc hd
    subst hc hd
    refine call_meets PySem.F.slot_list_count ⟨_, ho, rfl⟩ PySem.F.entry_list_count (PySem.F.args_list_count_2 _ _)
      (SeqAt.list_countAt p its.toArray n dd sl uy (eqU y)) ⟨ho, fun u' hu' => mem_eqAt ry fy rv fys u' (by simpa using hu'), ?_⟩
    refine ⟨.int ((ys.countP fun z => eqV z y : Nat) : Int), H, I.tok _, ⟨s.toks, ?_⟩, q⟩
    show Value.int ((its.toArray.toList.countP (eqU y) : Nat) : Int) s.toks = Value.int ((ys.countP fun z => eqV z y : Nat) : Int) s.toks
    have e : its.toArray.toList = its := rfl
    rw [e, count_vals rv fys]
end
end OA

set_option Elab.async false
set_option linter.all false
set_option maxRecDepth 100000
set_option maxHeartbeats 2000000
/-! data in the heap: kept where the heap grows; what is shaped -/
namespace OT
open PySem PySem.Spec PyProof.Rows L2
theorem same_tD {K : PySem.W.Frag} {H H' : Hp} {a : Addr} {xs : List V} (e : Same H H') (h : SqT K H a xs) : SqT K H' a xs := by
  rcases h with (h | ⟨o, h⟩) | h
  · exact .inl (.inl (e _ _ h))
  · exact .inl (.inr ⟨o, e _ _ h⟩)
  · exact .inr h
mutual
theorem Dp.mono {K : PySem.W.Frag} {H H' : Hp} (s : Same H H') : ∀ {v : V} {d : PyData}, Dp K H v d → Dp K H' v d
  | _, _, .non => .non
  | _, _, .bl b => .bl b
  | _, _, .int i => .int i
  | _, _, .str x => .str x
  | _, _, .lst h1 h2 => .lst (s.seq h1) (DpAll.mono s h2)
  | _, _, .tup h1 h2 => .tup (same_tD s h1) (DpAll.mono s h2)
theorem DpAll.mono {K : PySem.W.Frag} {H H' : Hp} (s : Same H H') : ∀ {vs : List V} {ds : List PyData}, DpAll K H vs ds → DpAll K H' vs ds
  | _, _, .nil => .nil
  | _, _, .cons h1 h2 => .cons (Dp.mono s h1) (DpAll.mono s h2)
end
theorem DpAll.len {K : PySem.W.Frag} {H : Hp} {vs : List V} {ds : List PyData} (h : DpAll K H vs ds) : vs.length = ds.length := by
  induction vs generalizing ds with
  | nil =>
    cases h
    rfl
  | cons v r ih =>
    cases h with
    | cons _ h2 => rw [List.length_cons, List.length_cons, ih h2]
theorem DpAll.snoc {K : PySem.W.Frag} {H : Hp} {v : V} {d : PyData} : ∀ {vs : List V} {ds : List PyData}, DpAll K H vs ds → Dp K H v d → DpAll K H (vs ++ [v]) (ds ++ [d])
  | [], _, h, k => by
    cases h
    exact .cons k .nil
  | _ :: r, _, h, k => by
    cases h with
    | cons h1 h2 => exact .cons h1 (DpAll.snoc h2 k)
/-- data that is shaped, of a depth -/
structure DOk (n : Nat) (d : PyData) : Prop where
  lay : d.canLay0 = true
  dep : d.depth ≤ n
theorem DOk.le {n m : Nat} {d : PyData} (h : DOk n d) (k : n ≤ m) : DOk m d := ⟨h.lay, Nat.le_trans h.dep k⟩
theorem layAll {ds : List PyData} {n : Nat} : (∀ d ∈ ds, DOk n d) → PyData.canLayAll0 ds = true ∧ PyData.depthAll ds ≤ n := by
  induction ds with
  | nil =>
    intro _
    exact ⟨by simp only [PyData.canLayAll0], by simp only [PyData.depthAll]; omega⟩
  | cons d r ih =>
    intro h
    obtain ⟨h1, h2⟩ := ih fun x hx => h x (List.mem_cons_of_mem _ hx)
    have hd := h d List.mem_cons_self
    refine ⟨?_, ?_⟩
    · simp only [PyData.canLayAll0, hd.lay, h1, Bool.and_self]
    · have := hd.dep
      simp only [PyData.depthAll]
      omega
theorem DOk.list {n : Nat} {ds : List PyData} (h : ∀ d ∈ ds, DOk n d) : DOk (n + 1) (.list ds) := by
  obtain ⟨h1, h2⟩ := layAll h
  exact ⟨h1, by simp only [PyData.depth]; omega⟩
theorem DOk.tuple {n : Nat} {ds : List PyData} (h : ∀ d ∈ ds, DOk n d) : DOk (n + 1) (.tuple ds) := by
  obtain ⟨h1, h2⟩ := layAll h
  exact ⟨h1, by simp only [PyData.depth]; omega⟩
theorem DOk.int (i : Int) : DOk 1 (.int i) := ⟨rfl, by simp only [PyData.depth]; omega⟩
theorem DOk.shaped {n : Nat} {d : PyData} (h : DOk n d) (hn : n ≤ 64) : SeqAt.shaped d = true := by
  unfold SeqAt.shaped
  rw [h.lay, Bool.true_and]
  exact decide_eq_true (Nat.le_trans h.dep hn)
theorem eqvD {d : PyData} (h : SeqAt.shaped d = true) : PyData.eqv d d = true := SeqAt.eqv_refl _ (SeqAt.canLay_of_shaped h)
theorem DOk.pl (k : Pl) : DOk 2 (.tuple (k.map PyData.int)) := DOk.tuple fun d hd => by
  obtain ⟨x, _, rfl⟩ := List.mem_map.mp hd
  exact DOk.int x
theorem DOk.ent (e : Ent) : DOk 3 (dEnt e) := DOk.tuple (n := 2) fun d hd => by
  rcases List.mem_cons.mp hd with rfl | hd
  · exact DOk.pl e.1
  · rcases List.mem_cons.mp hd with rfl | hd
    · exact (DOk.int _).le (by decide)
    · cases hd
theorem DOk.row (es : List Ent) : DOk 4 (dRow es) := DOk.list fun d hd => by
  obtain ⟨x, _, rfl⟩ := List.mem_map.mp hd
  exact DOk.ent x
/-- places as data -/
def dMat (M : List Pl) : PyData := .list (M.map fun l => .tuple (l.map PyData.int))
theorem DOk.mat (M : List Pl) : DOk 3 (dMat M) := DOk.list fun d hd => by
  obtain ⟨x, _, rfl⟩ := List.mem_map.mp hd
  exact DOk.pl x
theorem DOk.ints (ns : List Int) : DOk 2 (.list (ns.map PyData.int)) := DOk.list fun d hd => by
  obtain ⟨x, _, rfl⟩ := List.mem_map.mp hd
  exact DOk.int x
end OT

set_option Elab.async false
set_option linter.all false
set_option maxRecDepth 100000
set_option maxHeartbeats 2000000
/-! sums over entries with weights: they depend on the sums at the places alone -/
namespace OT
open PySem PySem.Spec PyProof.Rows L2
def sumW (w : Pl → Int) : List Ent → Int
  | [] => 0
  | e :: r => e.2 * w e.1 + sumW w r
theorem sumW_app (w : Pl → Int) : ∀ a b : List Ent, sumW w (a ++ b) = sumW w a + sumW w b
  | [], b => by show sumW w b = 0 + sumW w b; omega
  | e :: r, b => by
    show e.2 * w e.1 + sumW w (r ++ b) = e.2 * w e.1 + sumW w r + sumW w b
    rw [sumW_app w r b]
    omega
/-- 1 at the place -/
def at1 (q : Pl) : Pl → Int := fun k => if k = q then 1 else 0
theorem numAt_sumW (q : Pl) : ∀ es : List Ent, numAt es q = sumW (at1 q) es
  | [] => rfl
  | e :: r => by
    show (if e.1 = q then e.2 else 0) + numAt r q = e.2 * (if e.1 = q then 1 else 0) + sumW (at1 q) r
    rw [numAt_sumW q r]
    by_cases h : e.1 = q
    · rw [if_pos h, if_pos h, Int.mul_one]
    · rw [if_neg h, if_neg h, Int.mul_zero]
def negs (es : List Ent) : List Ent := es.map fun e => (e.1, -e.2)
theorem numAt_negs (q : Pl) : ∀ es : List Ent, numAt (negs es) q = - numAt es q
  | [] => rfl
  | e :: r => by
    have ih := numAt_negs q r
    show (if e.1 = q then -e.2 else 0) + numAt (negs r) q = -((if e.1 = q then e.2 else 0) + numAt r q)
    rw [ih]
    by_cases h : e.1 = q
    · rw [if_pos h, if_pos h]; omega
    · rw [if_neg h, if_neg h]; omega
theorem sumW_negs (w : Pl → Int) : ∀ es : List Ent, sumW w (negs es) = - sumW w es
  | [] => rfl
  | e :: r => by
    have ih := sumW_negs w r
    show -e.2 * w e.1 + sumW w (negs r) = -(e.2 * w e.1 + sumW w r)
    rw [ih, Int.neg_mul]
    omega
def off (k : Pl) (es : List Ent) : List Ent := es.filter fun e => decide (e.1 ≠ k)
theorem sumW_off (w : Pl → Int) (k : Pl) : ∀ es : List Ent, sumW w es = numAt es k * w k + sumW w (off k es)
  | [] => by show (0 : Int) = 0 * w k + 0; rw [Int.zero_mul]; rfl
  | e :: r => by
    have ih := sumW_off w k r
    show e.2 * w e.1 + sumW w r = ((if e.1 = k then e.2 else 0) + numAt r k) * w k + sumW w (off k (e :: r))
    unfold off at ih ⊢
    rw [List.filter_cons]
    by_cases h : e.1 = k
    · rw [if_pos h, if_neg (by simp [h]), ih, Int.add_mul, h]
      omega
    · rw [if_neg h, if_pos (decide_eq_true h), ih]
      show e.2 * w e.1 + _ = (0 + numAt r k) * w k + (e.2 * w e.1 + _)
      rw [Int.zero_add]
      omega
theorem numAt_off (k q : Pl) (es : List Ent) : numAt (off k es) q = if q = k then 0 else numAt es q := by
  by_cases h : q = k
  · subst h
    rw [if_pos rfl]
    refine numAt_out fun e he => ?_
    exact of_decide_eq_true (List.mem_filter.mp he).2
  · rw [if_neg h]
    have h1 := sumW_off (at1 q) k es
    rw [← numAt_sumW, ← numAt_sumW] at h1
    have : at1 q k = 0 := if_neg fun z => h z.symm
    rw [this, Int.mul_zero] at h1
    omega
theorem off_len {k : Pl} : ∀ {es : List Ent}, (∃ e ∈ es, e.1 = k) → (off k es).length < es.length := by
  intro es ⟨e, he, hk⟩
  unfold off
  refine List.length_filter_lt_length_iff_exists.mpr ⟨e, he, ?_⟩
  simp [hk]
theorem sumW_zero (w : Pl → Int) : ∀ (n : Nat) (es : List Ent), es.length ≤ n → (∀ q, numAt es q = 0) → sumW w es = 0
  | _, [], _, _ => rfl
  | 0, e :: r, h, _ => by simp at h
  | n + 1, e :: r, h, z => by
    rw [sumW_off w e.1, z e.1, Int.zero_mul, Int.zero_add]
    refine sumW_zero w n _ ?_ fun q => ?_
    · have := off_len (k := e.1) (es := e :: r) ⟨e, List.mem_cons_self, rfl⟩
      omega
    · rw [numAt_off]
      by_cases hq : q = e.1
      · rw [if_pos hq]
      · rw [if_neg hq]
        exact z q
/-- the key: sums with weights depend on the sums at the places alone -/
theorem sumW_eq (w : Pl → Int) {a b : List Ent} (h : ∀ q, numAt a q = numAt b q) : sumW w a = sumW w b := by
  have z := sumW_zero w _ (a ++ negs b) (Nat.le_refl _) fun q => by
    rw [numAt_app, numAt_negs, h q]
    omega
  rw [sumW_app, sumW_negs] at z
  omega
theorem RowIs.sum {r es : List Ent} (h : RowIs r es) (w : Pl → Int) : sumW w r = sumW w es := sumW_eq w h.s
/-- places moved by a function -/
def mapF (f : Pl → Pl) (es : List Ent) : List Ent := es.map fun e => (f e.1, e.2)
theorem sumW_mapF (w : Pl → Int) (f : Pl → Pl) : ∀ es : List Ent, sumW w (mapF f es) = sumW (fun k => w (f k)) es
  | [] => rfl
  | e :: r => by
    have ih := sumW_mapF w f r
    show e.2 * w (f e.1) + sumW w (mapF f r) = e.2 * w (f e.1) + sumW (fun k => w (f k)) r
    rw [ih]
theorem sumW_congr {w v : Pl → Int} : ∀ {es : List Ent}, (∀ e ∈ es, w e.1 = v e.1) → sumW w es = sumW v es
  | [], _ => rfl
  | e :: r, h => by
    show e.2 * w e.1 + sumW w r = e.2 * v e.1 + sumW v r
    rw [h e List.mem_cons_self, sumW_congr fun x hx => h x (List.mem_cons_of_mem _ hx)]
theorem numAt_mapF_eq (f : Pl → Pl) {a b : List Ent} (h : ∀ q, numAt a q = numAt b q) (q : Pl) : numAt (mapF f a) q = numAt (mapF f b) q := by
  rw [numAt_sumW, numAt_sumW, sumW_mapF, sumW_mapF]
  exact sumW_eq _ h
/-- the row of what is moved from a row -/
theorem RowIs.mapped {r es g : List Ent} {f : Pl → Pl} (h : RowIs r es) (hg : RowIs g (mapF f r)) : RowIs g (mapF f es) := ⟨hg.v, fun q => (hg.s q).trans (numAt_mapF_eq f h.s q)⟩
theorem RowIs.congr {r a b : List Ent} (h : RowIs r a) (e : ∀ q, numAt a q = numAt b q) : RowIs r b := ⟨h.v, fun q => (h.s q).trans (e q)⟩
theorem RowIs.app {r s a b c : List Ent} (h : RowIs r a) (k : RowIs s b) (g : RowIs c (r ++ s)) : RowIs c (a ++ b) := ⟨g.v, fun q => by
  rw [g.s, numAt_app, numAt_app, h.s, k.s]⟩
/-- products by pairs, with any sum of places -/
def prodL (op : Pl → Pl → Pl) (es fs : List Ent) : List Ent := es.flatMap fun e => fs.map fun g => (op e.1 g.1, e.2 * g.2)
theorem sumW_row (w : Pl → Int) (op : Pl → Pl → Pl) (e : Ent) : ∀ fs : List Ent, sumW w (fs.map fun g => (op e.1 g.1, e.2 * g.2)) = e.2 * sumW (fun l => w (op e.1 l)) fs
  | [] => by show (0 : Int) = e.2 * 0; rw [Int.mul_zero]
  | g :: r => by
    have ih := sumW_row w op e r
    show e.2 * g.2 * w (op e.1 g.1) + sumW w (r.map _) = e.2 * (g.2 * w (op e.1 g.1) + sumW _ r)
    rw [ih, Int.mul_add, Int.mul_assoc]
theorem sumW_prodL (w : Pl → Int) (op : Pl → Pl → Pl) : ∀ es fs : List Ent, sumW w (prodL op es fs) = sumW (fun k => sumW (fun l => w (op k l)) fs) es
  | [], fs => rfl
  | e :: r, fs => by
    have ih := sumW_prodL w op r fs
    show sumW w ((fs.map fun g => (op e.1 g.1, e.2 * g.2)) ++ prodL op r fs) = e.2 * sumW (fun l => w (op e.1 l)) fs + _
    rw [sumW_app, sumW_row, ih]
theorem numAt_prodL_eq (op : Pl → Pl → Pl) {a b c d : List Ent} (h : ∀ q, numAt a q = numAt b q) (k : ∀ q, numAt c q = numAt d q) (q : Pl) : numAt (prodL op a c) q = numAt (prodL op b d) q := by
  rw [numAt_sumW, numAt_sumW, sumW_prodL, sumW_prodL, sumW_eq _ h]
  refine sumW_congr fun e _ => sumW_eq _ k
end OT

set_option Elab.async false
set_option linter.all false
set_option maxRecDepth 100000
set_option maxHeartbeats 4000000
/-! a held error: isinstance, fields, calls with it -/
namespace OT
open PySem PySem.Spec PyProof.Rows L2
def rIsX (K : PySem.W.Frag) (a : Addr) (c : Value) (d : Option Addr) : List V → Hp → VK → Prop := fun xs H Q => ∃ (C dd : Addr) (fs : List (Str × V)) (y : V) (u : Value) (b : Bool),
    xs = [.ref a, y] ∧ c = .ref C ∧ d = some dd ∧ PySem.W.OtCls K C ∧ H dd = some (.xd fs) ∧ ClsV y u ∧ PySem.W.kitOne K (.ref C) u = some b ∧ Q (.bl b) H
theorem call_isA {X : Cx} {a : Addr} {oe : Obj} {c : Value} {d : Option Addr} (hp : (a, oe) ∈ X.pn) (zc : Zc c d oe) (fld : ∃ fs, oe.data = .fields fs) : CallR X (.builtin "isinstance") (rIsX X.K a c d) := call_isX (p := (a, oe)) hp zc fld
def tCallE (sp : SpE) (a : Addr) (c : Value) (d : Option Addr) (t : TA) : TE := fun σ H Q => t σ H fun vs H1 => sp a c d vs H1 Q E0
theorem pe_callA {X : Cx} {a : Addr} {oe : Obj} {c : Value} {d : Option Addr} {k : Nat} {f : Addr} {fd : FuncData} {ps : List Str} {sp : SpE} {x : Str} {q pos : Pos} {e : Expr} {es : List Expr} {t : TA} (F : FnE X.prog X.w X.K X.mg X.base k f fd ps sp) (hr : L2H.RoomH k X.A) (hp : (a, oe) ∈ X.pn) (zc : Zc c d oe) (fld : ∃ fs, oe.data = .fields fs) (hg : Gl X x) (hm : X.mg x = some (.ref f)) (hk : PySem.W.keepIn X.K (.ref f) = true) (hb : Binds X.K fd ps [])
    (ha : PA X (e :: es) t) (hdb : (x == ("__debug__" : Str)) = false := by decide) (he : starEach (e :: es) X.env = (false, eval e X.env) :: starEach es X.env := by rfl) (hpl : (backTo pos (starEach es X.env)).any (·.1) = false := by rfl) :
    PE X (.Call (.Name x q) (e :: es) [] pos) (tCallE sp a c d t) := pe_callE (p := (a, oe)) F hr hp zc fld hg hm hk hb ha hdb he hpl
def tFA (K : PySem.W.Frag) (a : Addr) (c : Value) (d : Option Addr) (n : Str) (te : TE) : TE := fun σ H Q => te σ H fun y H1 => ∃ (C dd : Addr) (fs : List (Str × V)) (v : V), y = .ref a ∧ c = .ref C ∧ d = some dd ∧ PySem.W.OtCls K C ∧ PySem.W.findIn K (.ref C) n = some none ∧ H1 dd = some (.xd fs) ∧ fs.lookup n = some v ∧ Q v H1
theorem pe_fA {X : Cx} {a : Addr} {oe : Obj} {c : Value} {d : Option Addr} {n : Str} {e : Expr} {te : TE} {pos : Pos} (hp : (a, oe) ∈ X.pn) (zc : Zc c d oe) (fld : ∃ fs, oe.data = .fields fs) (he : PE X e te) (hb : attributeBase e n X.env (eval e X.env) = eval e X.env := by rfl) :
    PE X (.Attribute e n pos) (tFA X.K a c d n te) := pe_fX (p := (a, oe)) hp zc fld he hb
structure HeldF (K : PySem.W.Frag) (H : Hp) (C dd : Addr) (c : Value) (d : Option Addr) (fs : List (Str × V)) : Prop where
  c : c = .ref C
  d : d = some dd
  t : PySem.W.OtCls K C
  h : H dd = some (.xd fs)
structure KitE (K : PySem.W.Frag) (B C : Addr) : Prop where
  b : PySem.W.kitOne K (.ref C) (.ref B) = some true
  v : PySem.W.kitOne K (.ref C) (.type "ValueError") = some true
theorem roomH_m {k : Nat} {A : Around} {v : Option Value} (r : Room k A) : L2H.RoomH k (A.mark v) := ⟨r.dp, r.un⟩
theorem HeldF.mono {K : PySem.W.Frag} {H H' : Hp} {C dd : Addr} {c : Value} {d : Option Addr} {fs : List (Str × V)} (s : Same H H') (h : HeldF K H C dd c d fs) : HeldF K H' C dd c d fs := { h with h := s _ _ h.h }
theorem isX_ {K : PySem.W.Frag} {a : Addr} {c : Value} {d : Option Addr} {H : Hp} {Q : VK} {C dd : Addr} {fs : List (Str × V)} {y : V} {u : Value} {b : Bool} (h : HeldF K H C dd c d fs) (v : ClsV y u) (k : PySem.W.kitOne K (.ref C) u = some b) (q : Q (.bl b) H) : rIsX K a c d [.ref a, y] H Q := ⟨C, dd, fs, y, u, b, rfl, h.c, h.d, h.t, h.h, v, k, q⟩
theorem fA_ {K : PySem.W.Frag} {a : Addr} {c : Value} {d : Option Addr} {n : Str} {te : TE} {σ : L2.St} {H : Hp} {Q : VK} (h : te σ H fun y H1 => ∃ (C dd : Addr) (fs : List (Str × V)) (v : V), y = .ref a ∧ c = .ref C ∧ d = some dd ∧ PySem.W.OtCls K C ∧ PySem.W.findIn K (.ref C) n = some none ∧ H1 dd = some (.xd fs) ∧ fs.lookup n = some v ∧ Q v H1) : tFA K a c d n te σ H Q := h
theorem fB_ {K : PySem.W.Frag} {a : Addr} {c : Value} {d : Option Addr} {n : Str} {H : Hp} {A : V → Prop} {C dd : Addr} {fs : List (Str × V)} {v : V} (h : HeldF K H C dd c d fs) (f : PySem.W.findIn K (.ref C) n = some none) (l : fs.lookup n = some v) (q : A v) : ∃ (C dd : Addr) (fs : List (Str × V)) (v : V), V.ref a = .ref a ∧ c = .ref C ∧ d = some dd ∧ PySem.W.OtCls K C ∧ PySem.W.findIn K (.ref C) n = some none ∧ H dd = some (.xd fs) ∧ fs.lookup n = some v ∧ A v := ⟨C, dd, fs, v, rfl, h.c, h.d, h.t, f, h.h, l, q⟩
theorem callE_ {sp : SpE} {a : Addr} {c : Value} {d : Option Addr} {t : TA} {σ : L2.St} {H : Hp} {Q : VK} (h : t σ H fun vs H1 => sp a c d vs H1 Q E0) : tCallE sp a c d t σ H Q := h
theorem isi_ {K : PySem.W.Frag} {H : Hp} {Q : VK} {x c : V} {t u : Value} {b : Bool} (hc : ClsV c u) (hx : TyX K H x t) (hk : PySem.W.kitOne K t u = some b) (q : Q (.bl b) H) : rIsi K [x, c] H Q := ⟨x, c, t, u, b, rfl, hc, hx, hk, q⟩
theorem isin_ {K : PySem.W.Frag} {H : Hp} {Q : VK} {x c : V} {t u : Value} {b : Bool} (hc : ClsV c u) (hx : TyX K H x t) (hk : PySem.W.kitOne K t u = some b) (q : Q (.bl b) H) : ∃ (x' c' : V) (t' u' : Value) (b' : Bool), [x, c] = [x', c'] ∧ ClsV c' u' ∧ TyX K H x' t' ∧ PySem.W.kitOne K t' u' = some b' ∧ Q (.bl b') H := ⟨x, c, t, u, b, rfl, hc, hx, hk, q⟩
theorem kt {K : PySem.W.Frag} {a b : String} {r : Bool} (h : kitB a b = some r) : PySem.W.kitOne K (.type a) (.type b) = some r := kit_ty h
theorem kq_int_int : kitB "int" "int" = some true := by decide +kernel
theorem kq_int_bool : kitB "int" "bool" = some false := by decide +kernel
theorem kq_bool_bool : kitB "bool" "bool" = some true := by decide +kernel
theorem kq_bool_int : kitB "bool" "int" = some true := by decide +kernel
theorem kq_str_str : kitB "str" "str" = some true := by decide +kernel
theorem kq_tuple_tuple : kitB "tuple" "tuple" = some true := by decide +kernel
theorem kq_list_list : kitB "list" "list" = some true := by decide +kernel
theorem kq_list_tuple : kitB "list" "tuple" = some false := by decide +kernel
theorem kq_tuple_list : kitB "tuple" "list" = some false := by decide +kernel
theorem kq_list_int : kitB "list" "int" = some false := by decide +kernel
theorem kq_tuple_int : kitB "tuple" "int" = some false := by decide +kernel
theorem kq_list_bool : kitB "list" "bool" = some false := by decide +kernel
theorem kq_tuple_bool : kitB "tuple" "bool" = some false := by decide +kernel
theorem kq_str_int : kitB "str" "int" = some false := by decide +kernel
theorem kq_int_str : kitB "int" "str" = some false := by decide +kernel
theorem kq_int_list : kitB "int" "list" = some false := by decide +kernel
theorem kq_int_tuple : kitB "int" "tuple" = some false := by decide +kernel
theorem kq_bool_list : kitB "bool" "list" = some false := by decide +kernel
theorem kq_bool_tuple : kitB "bool" "tuple" = some false := by decide +kernel
end OT

set_option Elab.async false
set_option linter.all false
set_option maxRecDepth 100000
set_option maxHeartbeats 4000000
/-! loops, unpacking and comprehensions while an error is held -/
namespace HP
open PySem PySem.Spec PyProof.Rows L2 HotX
section
variable {prog : Program} {w : World} {A : Around} {E : Value → Shared → Prop} {s : Shared}
theorem hot_ne {x1 it : Addr} {h : Heap} {o : Obj} {u v : Value} (hot : HotAt A x1 h) (ho : h.get? it = some o) (hd : o.data = .fields #[u, v]) : x1 ≠ it := by
  rintro rfl
  obtain ⟨_, o1, vs, h1, d1, c1⟩ := hot
  rw [h1] at ho; cases ho
  rw [d1] at hd; cases hd
  simp at c1
theorem hot_upd {x1 it : Addr} {h : Heap} {f : Obj → Obj} (hot : HotAt A x1 h) (hne : x1 ≠ it) : HotAt A x1 (h.update it f) := by
  obtain ⟨hh, o1, vs, h1, d1, c1⟩ := hot
  exact ⟨hh, o1, vs, by rw [Heap.get?_update_other _ _ hne.symm]; exact h1, d1, c1⟩
theorem hot_push {x1 : Addr} {h : Heap} {o : Obj} (hot : HotAt A x1 h) : HotAt A x1 (h.push o) := by
  obtain ⟨hh, o1, vs, h1, d1, c1⟩ := hot
  exact ⟨hh, o1, vs, Heap.get?_push_of_some _ h1, d1, c1⟩
theorem hot_lt {x1 : Addr} {h : Heap} (hot : HotAt A x1 h) : x1 < h.objs.size := by
  obtain ⟨_, o1, vs, h1, _, _⟩ := hot
  exact Heap.lt_size h1
theorem grown {it a : Addr} {h : Heap} {o1 o2 : Obj} {f g : Obj → Obj} (b : Addr) (o : Obj) (hb : b ≠ it) (ha : a = ((h.update it f).push o1).objs.size) (e : h.get? b = some o) : ((((h.update it f).push o1).push o2).update a g).get? b = some o := by
  have e1 : (h.update it f).get? b = some o := by rw [Heap.get?_update_other _ _ hb.symm]; exact e
  have e2 := Heap.get?_push_of_some o1 e1
  rw [Heap.get?_update_other _ _ (by rw [ha]; exact Nat.ne_of_gt (Heap.lt_size e2))]
  exact Heap.get?_push_of_some _ e2
theorem list_end_hot {it l x1 : Addr} {i : Nat} {items : Array Value} {Q : Option Value → Shared → Prop} (hot : HotAt A x1 s.heap) (hit : s.heap.IsListIter it l i) (hl : s.heap.IsList l items) (hx : items[i]? = none)
    (hQ : ∀ h', Heap.ExtBut it s.heap h' → Q none { s with heap := h' }) : wpAny (model prog w) A (pyNext (.ref it)) Q E s := by
  obtain ⟨o, ho, hc, hd⟩ := id hit; obtain ⟨ol, hol, _, nl, hdl⟩ := hl
  have hne := hot_ne hot ho hd
  unfold pyNext
  refine wpAny_bind (wpAny_attempt (wpAny_callSpecial?_slot (name := Str.ofString "__next__") hit.typeIs slot_listiter_next (wpAny_call_entry slot_listiter_next hit.typeIs entry_listiter_next ?_ (args_listiter_next _))))
  show wpAny _ _ (field (.ref it) 0 >>= _) _ _ s; refine wpAny_bind (wpAny_field ho hd (x := .ref l) rfl ?_)
  show wpAny _ _ (if (Value.ref l == Value.none) = true then _ else _) _ _ s; rw [if_neg (show ¬ ((Value.ref l == Value.none) = true) from Bool.false_ne_true)]
  show wpAny _ _ (field (.ref it) 1 >>= _) _ _ s; refine wpAny_bind (wpAny_field ho hd (x := .int i 0) rfl ?_)
  show wpAny _ _ (seqItems? (.ref l) >>= _) _ _ s; refine wpAny_bind (wpAny_seqItems hol hdl ?_)
  simp only [Int.toNat_natCast, hx]; refine wpAny_bind (wpAny_rule (wpAny_bind (wpAny_setField ho hd (by simp) ?_)))
  show wpAny _ _ (newExc (.type "StopIteration") [] >>= _) _ _ _; refine wpAny_bind ?_; simp only [newExc, newTuple]
  refine wpAny_bind (wpAny_newObj_type ?_ (by size_fits)); refine wpAny_bind (m := firstArgMember _ _) (wpAny_of_eq (a := Value.none) (by first | rfl | (simp only [firstArgMember]; rfl)) ?_)
  refine wpAny_newObj_type ?_ (by size_fits); refine raiseNew_hot (x1 := x1) (hot_push (hot_push (hot_upd ⟨hot.1, hot.2⟩ hne))) (Nat.ne_of_lt (hot_lt (hot_push (hot_upd hot hne)))) (Heap.get?_push_size _ rfl) rfl (by first | (simp; done) | (simp; omega) | (simp only [Array.size_append]; simp; omega)) ?_
  refine wpAny_bind (wpAny_isInstance (T := "StopIteration") (b := true) ⟨_, Heap.get?_update_self _ (Heap.get?_push_size _ rfl) rfl, rfl⟩ isSubtype_stop ?_)
  exact wpAny_pure (hQ _ fun b o hb e => grown b o hb rfl e)
theorem tuple_end_hot {it l x1 : Addr} {i : Nat} {items : Array Value} {Q : Option Value → Shared → Prop} (hot : HotAt A x1 s.heap) (hit : s.heap.IsTupleIter it l i) (hl : s.heap.IsTuple l items) (hx : items[i]? = none)
    (hQ : ∀ h', Heap.ExtBut it s.heap h' → Q none { s with heap := h' }) : wpAny (model prog w) A (pyNext (.ref it)) Q E s := by
  obtain ⟨o, ho, hc, hd⟩ := id hit; obtain ⟨ol, hol, _, nl, hdl⟩ := hl
  have hne := hot_ne hot ho hd
  unfold pyNext
  refine wpAny_bind (wpAny_attempt (wpAny_callSpecial?_slot (name := Str.ofString "__next__") hit.typeIs F.slot_tuple_iterator_next (wpAny_call_entry F.slot_tuple_iterator_next hit.typeIs F.entry_tuple_iterator_next ?_ (F.args_tuple_iterator_next_1 _))))
  show wpAny _ _ (field (.ref it) 0 >>= _) _ _ s; refine wpAny_bind (wpAny_field ho hd (x := .ref l) rfl ?_)
  show wpAny _ _ (if (Value.ref l == Value.none) = true then _ else _) _ _ s; rw [if_neg (show ¬ ((Value.ref l == Value.none) = true) from Bool.false_ne_true)]
  show wpAny _ _ (field (.ref it) 1 >>= _) _ _ s; refine wpAny_bind (wpAny_field ho hd (x := .int i 0) rfl ?_)
  show wpAny _ _ (seqItems? (.ref l) >>= _) _ _ s; refine wpAny_bind (wpAny_seqItems hol hdl ?_)
  simp only [Int.toNat_natCast, hx]; refine wpAny_bind (wpAny_rule (wpAny_bind (wpAny_setField ho hd (by simp) ?_)))
  show wpAny _ _ (newExc (.type "StopIteration") [] >>= _) _ _ _; refine wpAny_bind ?_; simp only [newExc, newTuple]
  refine wpAny_bind (wpAny_newObj_type ?_ (by size_fits)); refine wpAny_bind (m := firstArgMember _ _) (wpAny_of_eq (a := Value.none) (by first | rfl | (simp only [firstArgMember]; rfl)) ?_)
  refine wpAny_newObj_type ?_ (by size_fits); refine raiseNew_hot (x1 := x1) (hot_push (hot_push (hot_upd ⟨hot.1, hot.2⟩ hne))) (Nat.ne_of_lt (hot_lt (hot_push (hot_upd hot hne)))) (Heap.get?_push_size _ rfl) rfl (by first | (simp; done) | (simp; omega) | (simp only [Array.size_append]; simp; omega)) ?_
  refine wpAny_bind (wpAny_isInstance (T := "StopIteration") (b := true) ⟨_, Heap.get?_update_self _ (Heap.get?_push_size _ rfl) rfl, rfl⟩ isSubtype_stop ?_)
  exact wpAny_pure (hQ _ fun b o hb e => grown b o hb rfl e)
/-- a tuple taken apart -/
theorem unpack_hot {t x1 : Addr} {items : Array Value} {Q : List Value → Shared → Prop} (hot : HotAt A x1 s.heap) (ht : IsTup s.heap t items)
    (hQ : ∀ h', Heap.ExtBut s.heap.objs.size s.heap h' → Q items.toList { s with heap := h' }) : wpAny (model prog w) A (unpackItems (.ref t) items.size none) Q E s := by
  have hlt : t ≠ s.heap.objs.size := by
    obtain ⟨o, ho, _⟩ := ht
    exact Nat.ne_of_lt (Heap.lt_size ho)
  unfold unpackItems notIterableAtAll
  refine wpAny_bind (wpAny_bind (wpAny_specialOf ht.typeIs slot_tuple_iter.lookup (wpAny_pure ?_)))
  simp only [Bool.false_eq_true, if_false]; refine wpAny_bind (wpAny_holding (iter_tuple ht (wpAny_bind (wpAny_holding (draw_tuple hlt items.size 0 _ _ ⟨_, Heap.get?_push_size _ rfl, rfl, rfl⟩ (ht.push _) (by omega) fun h₁ hit₁ hs₁ => ?_)))))
  have hall : List.take items.size (List.drop 0 items.toList) = items.toList := by
    rw [List.drop_zero, List.take_of_length_le (by simp)]
  rw [hall, if_neg (by simp)]
  have hot1 : HotAt A x1 h₁ := by
    obtain ⟨hh, o1, vs, g1, d1, c1⟩ := hot_push (o := { cls := .type "tuple_iterator", data := .fields #[.ref t, .int 0 0] }) hot
    exact ⟨hh, o1, vs, hs₁.extBut x1 o1 (Nat.ne_of_lt (hot_lt hot)) g1, d1, c1⟩
  refine wpAny_bind (wpAny_holding (tuple_end_hot hot1 hit₁ ((ht.push _).extBut hs₁.extBut hlt) (by simp) fun h₂ he₂ => ?_))
  simp only [Option.isSome_none, Bool.false_eq_true, if_false]; exact wpAny_pure (hQ h₂ fun b o hb e => he₂ b o hb (hs₁.extBut b o hb (Heap.get?_push_of_some _ e)))
end
section
variable {X : Cx} {tg : Expr}
theorem pg_tupH {es : List Expr} {k n : Nat} {t : TGs} {pos : Pos} (hc : L2H.HotC X) (h : PGs X es t) (hn : (assignEach es X.env).length = n := by rfl) (hst : (assignEach es X.env).findIdx? (·.1) = none := by rfl) : PG X (.Tuple es k pos) (gTup X.K n t) := by
  refine ⟨fun pins s σ H v u Q I r hw => ?_⟩
  obtain ⟨a, xs, rfl, hq, hl, hw⟩ := hw
  cases r
  obtain ⟨its, rv, ht, hz⟩ := I.tuple hq
  obtain ⟨x1, hot⟩ := hc.at I
  have hlen : (assignEach es X.env).length = its.toArray.size := by simp [hn, ← hl, rv.length]
  rw [assign_Tuple]
  refine wpAny_bind (wpAny_standAt ?_)
  unfold unpack
  rw [hlen, hst]
  refine wpAny_bind (wpAny_holding (unpack_hot hot ht fun h' hx => ?_))
  exact h.run pins _ σ H xs _ Q (I.kept (t' := s.toks) fun b o e => hx b o (Nat.ne_of_lt (Heap.lt_size e)) e) (by simpa using rv) hw
theorem turn_listH {P : Program} {w : World} {K : PySem.W.Frag} (a it : Addr) : L2H.TurnH P w K tg (Itl K a) [it] it (fun i h => h.IsListIter it a i) := by
  have C := turn_list (P := P) (w := w) (K := K) (tg := tg) a it
  refine ⟨C.mem, C.obj, C.keep, ?_, ?_, C.self⟩
  · rintro X rfl rfl rfl _ i pins s σ H E I hf st ⟨xs, x, hq, hx⟩
    obtain ⟨its, rv, p, hz⟩ := I.list hq
    obtain ⟨u, hu, ru⟩ := rv.get hx
    have f := hf it List.mem_cons_self
    refine wpAny_pyNext_list_item st p.isList (x := u) (by simpa using hu) fun h' st' sb => ?_
    obtain ⟨o, e, c, d⟩ := id st'
    refine ⟨u, rfl, go_of (s := { s with heap := h' }) e c d (by decide) ⟨x, H, I.turned (t' := s.toks) (fun b o hb e => (sb.2 b hb).trans e) f.1 f.2.1 f.2.2.2.1 f.2.2.2.2.1 f.2.2.2.2.2, ru, ⟨rfl, fun ys hy => ?_⟩, st', fun b hb => (hf b hb).1⟩⟩
    rw [I.list_inj hy hq]; exact hx
  · rintro X rfl rfl rfl hc i pins s σ H E I hf st ⟨xs, hq, hx⟩
    obtain ⟨its, rv, p, hz⟩ := I.list hq
    obtain ⟨x1, hot⟩ := hc.at I
    have f := hf it List.mem_cons_self
    have hl := rv.length
    exact list_end_hot hot st p.isList (by simp; omega) fun h' eb => ⟨rfl, I.turned (t' := s.toks) (fun b o hb e => eb b o hb e) f.1 f.2.1 f.2.2.2.1 f.2.2.2.2.1 f.2.2.2.2.2⟩
theorem turn_tupleH {P : Program} {w : World} {K : PySem.W.Frag} (a it : Addr) : L2H.TurnH P w K tg (Itt K a) [it] it (fun i h => h.IsTupleIter it a i) := by
  have C := turn_tuple (P := P) (w := w) (K := K) (tg := tg) a it
  refine ⟨C.mem, C.obj, C.keep, ?_, ?_, C.self⟩
  · rintro X rfl rfl rfl _ i pins s σ H E I hf st ⟨xs, x, hq, hx⟩
    obtain ⟨its, rv, p, hz⟩ := I.tuple hq
    obtain ⟨u, hu, ru⟩ := rv.get hx
    have f := hf it List.mem_cons_self
    refine wpAny_pyNext_tuple_item st (show s.heap.IsTuple a its.toArray from p) (x := u) (by simpa using hu) fun h' st' sb => ?_
    obtain ⟨o, e, c, d⟩ := id st'
    refine ⟨u, rfl, go_of (s := { s with heap := h' }) e c d (by decide) ⟨x, H, I.turned (t' := s.toks) (fun b o hb e => (sb.2 b hb).trans e) f.1 f.2.1 f.2.2.2.1 f.2.2.2.2.1 f.2.2.2.2.2, ru, ⟨rfl, fun ys hy => ?_⟩, st', fun b hb => (hf b hb).1⟩⟩
    rw [I.tuple_inj hy hq]; exact hx
  · rintro X rfl rfl rfl hc i pins s σ H E I hf st ⟨xs, hq, hx⟩
    obtain ⟨its, rv, p, hz⟩ := I.tuple hq
    obtain ⟨x1, hot⟩ := hc.at I
    have f := hf it List.mem_cons_self
    have hl := rv.length
    exact tuple_end_hot hot st (show s.heap.IsTuple a its.toArray from p) (by simp; omega) fun h' eb => ⟨rfl, I.turned (t' := s.toks) (fun b o hb e => eb b o hb e) f.1 f.2.1 f.2.2.2.1 f.2.2.2.2.1 f.2.2.2.2.2⟩
theorem pi_listH {l : Expr} {tl : TE} (hl : PE X l tl) : L2H.PIH X tg l (iList X.K tl) := by
  refine ⟨fun pins s σ H R I h => thn (hl.run pins s σ H _ I h) fun v s1 ⟨x, H1, I1, r1, q1⟩ => ?_⟩
  obtain ⟨a, rfl, ⟨xs, hq⟩, q⟩ := q1
  cases r1
  obtain ⟨its, rv, p, hz⟩ := I1.list hq
  refine wpAny_pyIter_list p.isList ⟨s1.heap.objs.size, [s1.heap.objs.size], _, _, H1, rfl, I1.kept (t' := s1.toks) fun b o e => Heap.get?_push_of_some _ e, turn_listH a _, ⟨_, Heap.get?_push_size _ rfl, rfl, rfl⟩, fun b hb => ?_, q⟩
  rw [List.mem_singleton.mp hb]
  exact I1.fpOk (Nat.le_refl _) (I1.hok.fresh (Nat.le_refl _))
theorem pi_tupH {l : Expr} {tl : TE} (hl : PE X l tl) : L2H.PIH X tg l (iTup X.K tl) := by
  refine ⟨fun pins s σ H R I h => thn (hl.run pins s σ H _ I h) fun v s1 ⟨x, H1, I1, r1, q1⟩ => ?_⟩
  obtain ⟨a, rfl, ⟨xs, hq⟩, q⟩ := q1
  cases r1
  obtain ⟨its, rv, p, hz⟩ := I1.tuple hq
  refine wpAny_pyIter_tuple (show s1.heap.IsTuple a its.toArray from p) ⟨s1.heap.objs.size, [s1.heap.objs.size], _, _, H1, rfl, I1.kept (t' := s1.toks) fun b o e => Heap.get?_push_of_some _ e, turn_tupleH a _, ⟨_, Heap.get?_push_size _ rfl, rfl, rfl⟩, fun b hb => ?_, q⟩
  rw [List.mem_singleton.mp hb]
  exact I1.fpOk (Nat.le_refl _) (I1.hok.fresh (Nat.le_refl _))
/-- a comprehension's block, the held error borne on -/
abbrev blkH (X : Cx) (s : Shared) (H : Hp) (scope : Scope) (cenv : Env) (fp : List Addr) : Cx := { X.blk s H scope cenv fp with pn := X.pn }
theorem blk_hot {s : Shared} {H : Hp} {scope : Scope} {cenv : Env} {fp : List Addr} (h : L2H.HotC X) : L2H.HotC (blkH X s H scope cenv fp) := h
theorem block_hot {pins : List (Addr × Obj)} {σ : L2.St} {H : Hp} {s : Shared} {scope : Scope} {own : List (Str × Nat)} {fp : List Addr} (I : Inv X pins σ H s) (ok : BlkOk X.N X.env.scope scope own) (hN : X.N.Nodup) (hfp : ∀ b ∈ fp, FpOk X pins H b ∧ b < s.heap.objs.size) :
    Inv (blkH X s H scope (compEnvC scope (cellsFrom (s.heap.objs.size + 1) scope.names (cloFrom X.env.cells scope.names [])) s.heap.objs.size X.env) fp) [] (wipe σ (own.map (·.2))) H { s with heap := pushCells (s.heap.push { cls := .type "dict", data := .dict #[] }) scope.names } := by
  have B := block_start I ok hN hfp
  have k := B.ok
  refine ⟨⟨k.mod, k.kind, k.glob, k.blt, k.above, k.inj, k.has, k.cab, k.hd, k.frames, k.stk, k.exf, k.bs, k.bsz, k.noex, k.exfs, k.funs, k.frf⟩, B.os, B.bare, B.base, B.loc, B.cell, B.free, B.freeC, fun p hp => ?_, B.hok, B.len⟩
  have hp' : p ∈ X.pn ++ pins := by
    rcases List.mem_append.mp hp with h | h
    · exact List.mem_append_left _ h
    · cases h
  obtain ⟨p1, p2, p3, p4, p5⟩ := I.pin p hp'
  refine ⟨pushCells_keeps _ _ _ _ (Heap.get?_push_of_some _ p1), p2, Nat.ne_of_lt (Heap.lt_size p1), fun z => ?_, p5⟩
  rcases List.mem_cons.mp (I.stkSub p.1 z) with e | e
  · exact p3 e
  · exact p4 e
/-- one comprehension over a list while an error is held -/
theorem lc_hot {pins : List (Addr × Obj)} {s : Shared} {σ : L2.St} {H : Hp} {Q : VK} {elt iter : Expr} {ifs : List Expr} {scope : Scope} {own : List (Str × Nat)} {pos pos' : Pos} {wi : TI} {g : TG} {tt : TT} {te : TE} {use : Option (Value → Sem Unit)} {Qf : Value → Shared → Prop}
    (hc : L2H.HotC X) (hN : X.N.Nodup) (I : Inv X pins σ H s) (hi : L2H.PIH X tg iter wi) (ok : BlkOk X.N X.env.scope scope own) (hs : ∀ x, foldedSetIterable iter X.env x = pure x)
    (hb : ∀ (s : Shared) (H : Hp) (C : Addr) (cl : List (Str × Addr)) (fp : List Addr), PG (blkH X s H scope (compEnvC scope cl C X.env) fp) tg g ∧ PTs (blkH X s H scope (compEnvC scope cl C X.env) fp) ifs tt ∧ PE (blkH X s H scope (compEnvC scope cl C X.env) fp) elt te)
    (h : tLc wi g tt te (own.map (·.2)) σ H Q)
    (hRR : ∀ D C s' m H', Inv X pins σ H' s' → Q (.ref D) H' → s'.heap.Ns C m → FpOk X pins H' C → compPost (model X.prog X.w) X.A X.xe use Qf (.ref D) C (.ok .next) s') :
    wpAny (model X.prog X.w) X.A (comprehension (.ListComp elt [⟨tg, iter, ifs, 0⟩] scope pos) scope X.env pos' (newList []) false (eval iter X.env) use) Qf X.xe s := by
  have cl0 : ∀ y ∈ scope.names, y.2 = .free → ∃ c, X.env.cells.lookup y.1 = some c := fun y hy e => I.ok.has _ (ok.free y hy e)
  refine wpAny_comprehension_free (use := use) rfl hs (closure_ok cl0) ok.kind (fun y hy e => by rw [ok.uniq y hy, e]) (thn (hi.run pins s σ H _ I h) fun xv s1 hx => thn hx fun itv s2 ⟨it, fp, tn, J, H2, e0, I2, T, st2, f2, q⟩ => ?_)
  subst e0
  refine wpAny_newObj_type (newEnv_comp ?_) (by show 0 ≤ sizeLine; decide)
  obtain ⟨D, hD⟩ : ∃ D, D = s2.heap.objs.size := ⟨_, rfl⟩
  have hDn : H2 D = none := I2.hok.fresh (Nat.le_of_eq hD.symm)
  obtain ⟨W, ⟨m0, w0⟩, turn⟩ := q D hDn
  obtain ⟨s3, hs3⟩ : ∃ s3 : Shared, s3 = { s2 with heap := s2.heap.push { cls := .type "list", data := .seq ([] : List Value).toArray } } := ⟨_, rfl⟩
  have kp : ∀ b o, s2.heap.get? b = some o → s3.heap.get? b = some o := fun b o e => by rw [hs3]; exact Heap.get?_push_of_some _ e
  have I3 : Inv X pins σ (upd H2 D (.lst [])) s3 := by
    rw [hs3]
    refine I2.laid (t' := s2.toks) (fun b o e => Heap.get?_push_of_some _ e) (Nat.le_of_eq hD.symm) ⟨Nat.zero_le _, [], 0, .nil, ?_⟩
    rw [hD]; exact Heap.get?_push_size _ rfl
  have f3 : ∀ b ∈ fp, FpOk X pins (upd H2 D (.lst [])) b ∧ b < s3.heap.objs.size := fun b hb => by
    obtain ⟨o, e, _⟩ := T.obj _ _ st2 b hb
    have hlt := Heap.lt_size e
    refine ⟨⟨?_, (f2 b hb).2⟩, Heap.lt_size (kp b o e)⟩
    rw [upd_ne (by rw [hD]; exact Nat.ne_of_lt hlt)]; exact (f2 b hb).1
  have B := block_hot I3 ok hN f3
  obtain ⟨pg, pt, pe⟩ := hb s3 (upd H2 D (.lst [])) s3.heap.objs.size (cellsFrom (s3.heap.objs.size + 1) scope.names (cloFrom X.env.cells scope.names [])) fp
  rw [← hD, ← hs3]
  show codeAny (model X.prog X.w) X.A (.compStart (.ListComp elt [⟨tg, iter, ifs, 0⟩] scope pos) 0 (.ref it) (.ref D) (compEnvC scope (cellsFrom (s3.heap.objs.size + 1) scope.names (cloFrom X.env.cells scope.names [])) s3.heap.objs.size X.env)) (compPost (model X.prog X.w) X.A X.xe use Qf (.ref D) s3.heap.objs.size) { s3 with heap := pushCells (s3.heap.push { cls := .type "dict", data := .dict #[] }) scope.names }
  obtain ⟨ce, hce⟩ : ∃ ce, ce = compEnvC scope (cellsFrom (s3.heap.objs.size + 1) scope.names (cloFrom X.env.cells scope.names [])) s3.heap.objs.size X.env := ⟨_, rfl⟩
  rw [← hce] at B pg pt pe ⊢
  have cL : ce.locals = s3.heap.objs.size := by rw [hce]; rfl
  obtain ⟨s4, hs4⟩ : ∃ s4 : Shared, s4 = { s3 with heap := pushCells (s3.heap.push { cls := .type "dict", data := .dict #[] }) scope.names } := ⟨_, rfl⟩
  rw [← hs4] at B ⊢
  have st4 : tn 0 s4.heap := T.keep _ _ _ st2 fun b _ o e => by rw [hs4]; exact pushCells_keeps _ _ _ _ (Heap.get?_push_of_some _ (kp b o e))
  obtain ⟨H3, hH3⟩ : ∃ H3, H3 = upd H2 D (.lst []) := ⟨_, rfl⟩
  rw [← hH3] at I3 B pg pt pe w0 f3
  have hot : L2H.HotC (blkH X s3 H3 scope ce fp) := hc
  have own_ok : ∀ {σ' : L2.St} {H' : Hp} {s' : Shared}, Inv (blkH X s3 H3 scope ce fp) [] σ' H' s' → (∀ b ∈ fp, H' b = none) → ∀ b ∈ fp, FpOk (blkH X s3 H3 scope ce fp) [] H' b := fun {σ' H' s'} I' hn b hb => by
    refine ⟨hn b hb, (I'.ok.exf b hb).1, I'.ok.exfs b hb, .inl hb, fun x c e => (I'.ok.exf b hb).2 x c e, fun p hp => ?_⟩
    rcases List.mem_append.mp hp with z | z
    · exact (f3 b hb).1.2.2.2.2.2 p (List.mem_append_left _ z)
    · cases z
  refine codeAny_compStart_list (compLoop_any (fun n s' => ∃ i H', Inv (blkH X s3 H3 scope ce fp) [] (wipe σ (own.map (·.2))) H' s' ∧ tn i s'.heap ∧ (∀ b ∈ fp, H' b = none) ∧ W i n H') ?_ m0 ⟨0, H3, B, st4, fun b hb => (f3 b hb).1.1, w0⟩) (T.self X.A 0 _ _ _ st4 (compLoop_any (fun n s' => ∃ i H', Inv (blkH X s3 H3 scope ce fp) [] (wipe σ (own.map (·.2))) H' s' ∧ tn i s'.heap ∧ (∀ b ∈ fp, H' b = none) ∧ W i n H') ?_ m0 ⟨0, H3, B, st4, fun b hb => (f3 b hb).1.1, w0⟩))
  all_goals
    rintro n s5 ⟨i, H5, I5, st5, n5, w5⟩
    rcases turn i n H5 w5 with ⟨stop, qq⟩ | ⟨go, Nx, hNx, step⟩
    · refine thnF (T.done (blkH X s3 H3 scope ce fp) rfl rfl rfl hot i [] s5 _ H5 (fun _ _ => False) I5 (own_ok I5 n5) st5 stop) fun r s6 ⟨hr, I6⟩ => ?_
      subst hr
      have nC : H5 ce.locals = none := I6.free
      obtain ⟨m, hn, _⟩ := I6.loc
      rw [cL] at nC
      have hn : s6.heap.Ns s3.heap.objs.size m := by rw [← cL]; exact hn
      exact hRR D s3.heap.objs.size s6 m H5 (I3.call' (ch := fp) I6.os I6.base I6.hok I6.bare fun b hb => ⟨(f3 b hb).1.2.2.2.1, (f3 b hb).1.2.1, (f3 b hb).1.2.2.2.2.1, (f3 b hb).1.2.2.2.2.2⟩) qq hn (I3.fpOk (Nat.le_refl _) nC)
    · refine thnF (T.item (blkH X s3 H3 scope ce fp) rfl rfl rfl hot i [] s5 _ H5 (fun _ _ => False) I5 (own_ok I5 n5) st5 go) fun r s6 ⟨u, hr, h6⟩ => ?_
      subst hr
      refine thnF h6 fun _ s7 ⟨x, H7, I7, r7, y7, st7, n7⟩ => thnF (pg.run _ s7 _ H7 x u _ (I7.pinned (own_ok I7 n7) (T.obj _ _ st7)) r7 (step x H7 y7)) fun _ s8 ⟨σ8, H8, I8, hw8, q8⟩ => thnF (pt.run _ s8 σ8 H8 _ I8 q8) fun b s9 ⟨H9, I9, q9⟩ => ?_
      have next : ∀ {s' : Shared} {H' : Hp}, Inv (blkH X s3 H3 scope ce fp) ([] ++ pinsAt fp s7.heap) σ8 H' s' → Nx H' → ∃ m, m < n ∧ ∃ i H', Inv (blkH X s3 H3 scope ce fp) [] (wipe σ (own.map (·.2))) H' s' ∧ tn i s'.heap ∧ (∀ b ∈ fp, H' b = none) ∧ W i m H' := fun {s' H'} I' nx => by
        obtain ⟨m', hm, w'⟩ := hNx H' nx
        have pn : ∀ b ∈ fp, ∀ o, s7.heap.get? b = some o → s'.heap.get? b = some o ∧ H' b = none := fun b hb o e => by
          have z := I'.pin (b, o) (List.mem_append_right _ (List.mem_append_right _ (mem_pinsAt hb e)))
          exact ⟨z.1, z.2.1⟩
        refine ⟨m', hm, i + 1, H', (I'.unpinned (pins := [])).weak (by rw [← hw8, wipe_length]) (fun j v e => by rw [← hw8] at e; exact (wipe_some e).1), T.keep _ _ _ st7 fun b hb o e => (pn b hb o e).1, fun b hb => ?_, w'⟩
        obtain ⟨o, e, _⟩ := T.obj _ _ st7 b hb
        exact (pn b hb o e).2
      cases b with
      | false =>
        simp only [Bool.false_eq_true, if_false] at q9 ⊢; exact next I9 q9
      | true =>
        simp only [if_true] at q9 ⊢; refine thnF (pe.run _ s9 σ8 H9 _ I9 q9) fun z s10 ⟨yv, H10, I10, r10, acc, hD10, hz10, nx⟩ => ?_
        exact app_ok (X := blkH X s3 H3 scope ce fp) I10 hD10 hz10 r10 fun s11 I11 => next I11 nx
theorem pe_lcH {elt iter : Expr} {ifs : List Expr} {scope : Scope} {own : List (Str × Nat)} {pos : Pos} {wi : TI} {g : TG} {tt : TT} {te : TE} (hc : L2H.HotC X) (hN : X.N.Nodup) (hi : L2H.PIH X tg iter wi) (ok : BlkOk X.N X.env.scope scope own)
    (hg : ∀ (s : Shared) (H : Hp) (C : Addr) (cl : List (Str × Addr)) (fp : List Addr), PG (blkH X s H scope (compEnvC scope cl C X.env) fp) tg g) (ht : ∀ (s : Shared) (H : Hp) (C : Addr) (cl : List (Str × Addr)) (fp : List Addr), PTs (blkH X s H scope (compEnvC scope cl C X.env) fp) ifs tt)
    (he : ∀ (s : Shared) (H : Hp) (C : Addr) (cl : List (Str × Addr)) (fp : List Addr), PE (blkH X s H scope (compEnvC scope cl C X.env) fp) elt te) (hs : ∀ x, foldedSetIterable iter X.env x = pure x := by intro _; rfl) :
    PE X (.ListComp elt [⟨tg, iter, ifs, 0⟩] scope pos) (tLc wi g tt te (own.map (·.2))) := by
  refine ⟨fun pins s σ H Q I h => ?_⟩
  rw [eval_ListComp]
  refine lc_hot hc hN I hi ok hs (fun s H C cl fp => ⟨hg s H C cl fp, ht s H C cl fp, he s H C cl fp⟩) h fun D C s' m H' I' q hn f => ⟨m, hn, fun h'' sb => ?_⟩
  exact ⟨.ref D, H', I'.turned (t' := s'.toks) (fun b o hb e => (sb.2 b hb).trans e) f.1 f.2.1 f.2.2.2.1 f.2.2.2.2.1 f.2.2.2.2.2, rfl, q⟩
end
end HP

set_option Elab.async false
set_option linter.all false
set_option maxRecDepth 100000
set_option maxHeartbeats 4000000
/-! own errors whose context is known to be None; defs called while they are held -/
namespace HP
open PySem PySem.Spec PyProof.Rows L2 PySem.W PySem.Calls PySem.HandSPX
section
variable {X : Cx} {p pos : Pos} {pins : List (Addr × Obj)} {σ : L2.St} {H : Hp}
theorem mkN {H1 H2 : Hp} {Q : XK} {hp hp2 h2 : Heap} {g1 g2 : Array GenState} {d1 d2 : Drawn} {t1 t2 : Nat} {os1 os2 : OsState} {a C d : Addr} {fs : List (Str × V)} (T : Raises X (.ref C)) (I1 : Inv X pins σ H1 ⟨hp, g1, d1, t1, os1⟩) (ha : hp.objs.size ≤ a) (k : ∀ b o, hp.get? b = some o → hp2.get? b = some o)
    (un : Un (frs X.stack) [] (upd H1 a (exo a C none)) H2 hp2 h2) (hok : HOk X.prog X.w H2 h2) (ho : os2 = os1) (hb : AllBare g2) (ea : H2 a = some (exo a C (some d))) (ed : H2 d = some (exd d fs)) (hd1 : H1 d = none) (q : Q (.ref C) (some d) (upd (del H2 a) d (.xd fs))) : L2N.MkP X pins σ Q (.ref a) ⟨h2, g2, d2, t2, os2⟩ := by
  obtain ⟨t0, G, J, kG, ge, hoe, na⟩ := mk_end0 (d2 := d2) (t2 := t2) I1 ha k un hok ho hb ea ed hd1
  exact ⟨a, _, _, ⟨G, g2, d2, t2, os2⟩, _, .ref C, some d, rfl, J, kG, ge, hoe, ⟨rfl, rfl, fun vs hv => by cases hv; rfl⟩, rfl, rfl, na, rfl, hb, T, q⟩
theorem pmk_oex0N {CX : CXT} {x : Str} {C fI : Addr} {k : Nat} {fd : FuncData} {ps : List Str} {sp : Sp} (T : OexC X.K C) (iC : findIn X.K (.ref C) "__init__" = some (some (.ref fI))) (tI : typeIn X.K (.ref fI) = some (.type "function"))
    (G : FnOk X.prog X.w X.K X.mg X.base CX k fI fd ps sp) (hr : Room (k + 1) X.A) (bi : Binds X.K fd ps []) (no : Passes CX X fun _ _ _ => False) (hg : Gl X x) (hm : X.mg x = some (.ref C)) (nd : (x == ("__debug__" : Str)) = false := by decide) : L2N.PMk X (.Call (.Name x p) [] [] pos) (tMkO C sp [] tNil) := by
  intro pins σ0 σ H Q I want
  rcases σ0 with ⟨h, gs, dw, ts, os⟩
  obtain ⟨_, _, _, _, bm, _, _, _, _, _, _, _, _, _, _, stands, vb⟩ := T.cls
  obtain ⟨_, ask⟩ := want
  obtain ⟨free, J⟩ := bare_inv (C := C) I
  have promise := ask (h.objs.size + 1) free
  have one : ([Value.ref (h.objs.size + 1)] : List Value).length = ps.length := (G.len _ _ _ _ promise).symm ▸ rfl
  have body := G.run (X.A.under (.builtin "type.__call__" ⟨[.ref C], []⟩)) X.stack _ _ ⟨[.ref (h.objs.size + 1)], []⟩ [.ref (h.objs.size + 1)] _ _ (fun _ _ _ => False) (hr.make C [] []) (J.env0.make C [] []) (bi _ [.ref (h.objs.size + 1)] J.kIn one) (show Vals [V.ref (h.objs.size + 1)] [Value.ref (h.objs.size + 1)] from .cons rfl .nil) promise
  refine wpAny_Call_Name_kw (ld_glob I hg hm (callWith_K0 I.kIn T.kC ?_) nd)
  refine wpAny_call (call_own (rest := []) F.excBase_ValueError (fun Y => refsVE_contains Y bm vb) (I.kIn _ _ stands) (looks_findIn I.kIn iC) (fun me => bind_fn I.kIn me tI) (Nat.zero_le _) (codeAny_mono body ?_))
  rintro (er | fl) s2 end_
  · exact no pins σ _ _ er s2 J end_
  · cases fl with
    | ret u =>
      rcases s2 with ⟨h2, gs2, dw2, ts2, os2⟩
      obtain ⟨_, H2, same, bare, un, ok2, rel, rfl, d, fs, at_a, at_d, new, q⟩ := end_
      exact ⟨rel, mkN (raises_own T.exC T.tyC) I (Nat.le_succ _) bare_grows un ok2 same bare at_a at_d new q⟩
    | next => cases end_
    | brk => cases end_
    | cont => cases end_
/-- the heap with the bare error and its arguments behind the old objects -/
def bareA (C : Addr) (us : List Value) (h : Heap) : Heap := (h.push (kdv_tup us)).push (excO C h.objs.size)
theorem bareA_grows {C : Addr} {us : List Value} {h : Heap} (b : Addr) (o : Obj) (e : h.get? b = some o) : (bareA C us h).get? b = some o := Heap.get?_push_of_some _ (Heap.get?_push_of_some _ e)
theorem bareA_there {C : Addr} {us : List Value} {h : Heap} : (bareA C us h).get? (h.objs.size + 1) = some (excO C h.objs.size) := by
  show ((h.push (kdv_tup us)).push (excO C h.objs.size)).get? (h.objs.size + 1) = _
  heap_get
theorem bareA_inv {C : Addr} {us : List Value} {st : Shared} (I : Inv X pins σ H st) : H (st.heap.objs.size + 1) = none ∧ Inv X pins σ (upd H (st.heap.objs.size + 1) (exo (st.heap.objs.size + 1) C none)) ⟨bareA C us st.heap, st.gens, st.drawn, st.toks, st.os⟩ :=
  ⟨I.hok.fresh (Nat.le_succ _), I.laid (t' := st.toks) (a := st.heap.objs.size + 1) (h' := bareA C us st.heap) (o := exo (st.heap.objs.size + 1) C none) bareA_grows (Nat.le_succ _) (exo_ok bareA_there)⟩
theorem pmk_oexN {CX : CXT} {x : Str} {e : Expr} {es : List Expr} {ta : TA} {C fI : Addr} {k : Nat} {fd : FuncData} {ps : List Str} {sp : Sp} (T : OexC X.K C) (iC : findIn X.K (.ref C) "__init__" = some (some (.ref fI))) (tI : typeIn X.K (.ref fI) = some (.type "function"))
    (G : FnOk X.prog X.w X.K X.mg X.base CX k fI fd ps sp) (hr : Room (k + 1) X.A) (bi : Binds X.K fd ps []) (_hd : Vals [] []) (no : Passes CX X fun _ _ _ => False) (hg : Gl X x) (hm : X.mg x = some (.ref C)) (ha : PA X (e :: es) ta) (nd : (x == ("__debug__" : Str)) = false := by decide)
    (he : starEach (e :: es) X.env = (false, eval e X.env) :: starEach es X.env := by rfl) (hpl : (backTo pos (starEach es X.env)).any (·.1) = false := by rfl) : L2N.PMk X (.Call (.Name x p) (e :: es) [] pos) (tMkO C sp [] ta) := by
  intro pins s σ H Q I want
  obtain ⟨_, _, _, _, bm, _, _, _, _, _, _, _, _, _, _, stands, vb⟩ := T.cls
  refine wpAny_Call_Name_kw (ld_glob I hg hm ?_ nd)
  refine callWith_K (h₀ := X.base) I.ok.mod.kin T.kC (thn (ha.run pos pins s σ H _ I want) fun us s1 ⟨vs, H1, I1, rv, few, ask⟩ => ⟨I1.kIn, ?_⟩) he hpl
  show wpAny _ _ (call (.ref C) us) _ _ _
  rcases s1 with ⟨h, gs, dw, ts, os⟩
  obtain ⟨free, J⟩ := bareA_inv (C := C) (us := us) I1
  have promise := ask (h.objs.size + 1) free
  rw [List.append_nil] at promise
  have rv2 : Vals (V.ref (h.objs.size + 1) :: vs) (Value.ref (h.objs.size + 1) :: us) := .cons rfl rv
  have one : (Value.ref (h.objs.size + 1) :: us ++ []).length = ps.length := by rw [List.append_nil, ← rv2.length]; exact G.len _ _ _ _ promise
  have few2 : us.length ≤ sizeLine := by rw [← Paired.length rv]; exact Nat.le_of_lt (AU.line (by omega))
  have bind := bi _ (Value.ref (h.objs.size + 1) :: us) J.kIn one
  rw [List.append_nil] at bind
  have body := G.run (X.A.under (.builtin "type.__call__" ⟨.ref C :: us, []⟩)) X.stack _ _ ⟨Value.ref (h.objs.size + 1) :: us, []⟩ (Value.ref (h.objs.size + 1) :: us) _ _ (fun _ _ _ => False) (hr.make C us []) (J.env0.make C us []) bind rv2 promise
  refine wpAny_call (call_own F.excBase_ValueError (fun Y => refsVE_contains Y bm vb) (I1.kIn _ _ stands) (looks_findIn I1.kIn iC) (fun me => bind_fn I1.kIn me tI) few2 (codeAny_mono body ?_))
  rintro (er | fl) s2 end_
  · exact no pins σ _ _ er s2 J end_
  · cases fl with
    | ret u =>
      rcases s2 with ⟨h2, gs2, dw2, ts2, os2⟩
      obtain ⟨_, H2, same, bare, un, ok2, rel, rfl, d, fs, at_a, at_d, new, q⟩ := end_
      exact ⟨rel, mkN (raises_own T.exC T.tyC) I1 (Nat.le_succ _) bareA_grows un ok2 same bare at_a at_d new q⟩
    | next => cases end_
    | brk => cases end_
    | cont => cases end_
end
end HP

set_option Elab.async false
set_option linter.all false
set_option maxRecDepth 100000
set_option maxHeartbeats 4000000
namespace HP
open PySem PySem.Spec PyProof.Rows L2
/-- a def called while an error is held whose context is None -/
structure FnG (P : Program) (w : World) (K : PySem.W.Frag) (mg : Str → Option Value) (base : Heap) (k : Nat) (f : Addr) (fd : FuncData) (ps : List Str) (sp : SpE) : Prop where
  len : ∀ a c d vs H Q E, sp a c d vs H Q E → vs.length = ps.length
  run : ∀ (A : Around) (outer : List Env) (s : Shared) (H : Hp) (args : Args) (us : List Value) (vs : List V) (Q : VK) (p : Addr × Obj) (c : Value) (d : Option Addr), L2H.RoomH k A → L2H.Hot1 A p → L2H.PinOk outer H s p → Zc c d p.2 → (∃ fs, p.2.data = .fields fs) →
    Env0 P w K mg base A outer s H → BindsTo s fd args (ps.zip us) → Vals vs us → sp p.1 c d vs H Q E0 → codeAny (model P w) A (.call (.ref f) args) (CR CX0 outer P w H s Q E0) s
theorem FnG.of {P : Program} {w : World} {K : PySem.W.Frag} {mg : Str → Option Value} {base : Heap} {k : Nat} {f : Addr} {fd : FuncData} {ps : List Str} {sp : SpE} (h : FnE P w K mg base k f fd ps sp) : FnG P w K mg base k f fd ps sp :=
  ⟨h.len, fun A outer s H args us vs Q p c d r _ => h.run A outer s H args us vs Q p c d r⟩
theorem fnG_of {P : Program} {w : World} {K : PySem.W.Frag} {mg : Str → Option Value} {base : Heap} {k : Nat} {x : Str} {st : Stmt} {f : Addr} {fd : FuncData} {N ps : List Str} {sp : SpE} (F : C8.Fun K x x st f fd) (S : FnScope N ps (C8.fnScope st))
    (len : ∀ a c d vs H Q E, sp a c d vs H Q E → vs.length = ps.length)
    (body : ∀ (cdv : Value) (A : Around) (outer : List Env) (s : Shared) (H : Hp) (vs : List V) (Q : VK) (p : Addr × Obj) (c : Value) (d : Option Addr), L2H.Hot1 (A.deeper (envOfC x (C8.fnScope st) s.heap.objs.size f cdv)) p → Zc c d p.2 → (∃ fs, p.2.data = .fields fs) → L2H.RoomH k (A.deeper (envOfC x (C8.fnScope st) s.heap.objs.size f cdv)) → sp p.1 c d vs H Q E0 →
      ∃ t, PSs (L2H.cxH CX0 P w K mg base N x (C8.fnScope st) f cdv A outer s H E0 p) (C8.fnBody st) t ∧ t { nx := fun _ H' => Q .non H', rt := Q } (L2.start N vs) H) :
    FnG P w K mg base (k + 1) f fd ps sp := by
  obtain ⟨oc, od, dV, kV, doc, pm, an, cdv, ct, osl, rfl, lk, hcd⟩ := F.ex
  constructor
  · exact len
  intro A outer s H args us vs Q p c d room hot pin zc fld env binds rel want
  have size := len _ _ _ _ _ _ _ want
  have old : ∀ b o, base.get? b = some o → s.heap.get? b = some o := fun b o z => (env.bs b o z).1
  have inK : K.In s.heap := env.mod.kin.keeps old
  have kinds : ∀ y ∈ ps.zip us, (C8.fnScope st).names.lookup y.1 = some .local ∨
      ((C8.fnScope st).names.lookup y.1 = some .cell ∧ ((cellsFrom (s.heap.objs.size + 1) (C8.fnScope st).names []).lookup y.1).isSome = true) := by
    intro y hy
    have my := (List.of_mem_zip (a := y.1) (b := y.2) hy).1
    exact (S.par y.1 my).imp id fun z => ⟨z, PySem.W.cellsFrom_some _ _ _ (Or.inl z)⟩
  apply codeAny_call_function room.depth (inK _ _ lk) rfl S.co S.gen rfl (PySem.W.codeRec_of inK hcd)
  apply binds
  apply wpAny_newFunctionEnv_cells S.kind kinds
  intro env1 he s1 called
  subst he
  refine ⟨(env.mod.nolimit.keeps old).keeps called.toInCall.keep, codeAny_func ?_⟩
  obtain ⟨t, ht, read⟩ := body cdv A outer s H vs Q p c d ⟨hot.1, hot.2⟩ zc fld (room.deeper _) want
  have I0 : Inv (L2H.cxH CX0 P w K mg base N x (C8.fnScope st) f cdv A outer s H E0 p) [] (L2.start N vs) H s1 := L2H.inv_startH S pin env size rel called
  refine wpAny_mono (ht.run [] s1 (L2.start N vs) H _ I0 read) (fun fl s2 q => ?_) fun _ _ q => q
  cases fl with
  | ret u =>
    obtain ⟨v, σ2, H2, J, rv, z⟩ := q
    exact ⟨v, H2, J.os, J.bare, J.base, J.hok, rv, z⟩
  | next =>
    obtain ⟨σ2, H2, J, z⟩ := q
    exact ⟨.non, H2, J.os, J.bare, J.base, J.hok, rfl, z⟩
  | brk =>
    obtain ⟨_, _, _, z⟩ := q
    exact z.elim
  | cont =>
    obtain ⟨_, _, _, z⟩ := q
    exact z.elim
/-- such a def by its name -/
def CalG (P : Program) (w : World) (K : PySem.W.Frag) (mg : Str → Option Value) (base : Heap) (k : Nat) (x : Str) (sp : SpE) : Prop :=
  ∃ f fd ps, FnG P w K mg base k f fd ps sp ∧ mg x = some (.ref f) ∧ PySem.W.keepIn K (.ref f) = true ∧ Binds K fd ps []
theorem CalG.mk {P : Program} {w : World} {K : PySem.W.Frag} {mg : Str → Option Value} {base : Heap} {k : Nat} {x : Str} {st : Stmt} {f : Addr} {fd : FuncData} {ps : List Str} {sp : SpE} (D : C8.Def K mg x st f fd) (b : Binds K fd ps []) (F : FnG P w K mg base k f fd ps sp) : CalG P w K mg base k x sp := ⟨f, fd, ps, F, D.mgf, D.kp, b⟩
theorem hu {k : Nat} {A : Around} (r : L2H.RoomH k A) : A.units + 64 < cLine := by have := r.un; omega
theorem takes0N {X : Cx} : L2N.Takes X (fun _ _ _ _ => False) := fun _ _ x => by
  obtain ⟨_, _, _, _, _, _, _, _, _, _, _, _, _, _, _, _, z⟩ := x
  exact z.elim
section
variable {X : Cx} {p : Addr × Obj} {c : Value} {d : Option Addr} {k j : Nat} {sp : SpE} {x : Str} {q pos : Pos} {e : Expr} {es : List Expr} {t : TA} {te : TE}
theorem pe_ch (F : CalG X.prog X.w X.K X.mg X.base k x sp) (hr : L2H.RoomH j X.A) (hj : k ≤ j) (hot : L2H.Hot1 X.A p) (hp : p ∈ X.pn) (zc : Zc c d p.2) (fld : ∃ fs, p.2.data = .fields fs) (hg : Gl X x)
    (ha : PA X (e :: es) t) (hdb : (x == ("__debug__" : Str)) = false := by decide) (he : starEach (e :: es) X.env = (false, eval e X.env) :: starEach es X.env := by rfl) (hpl : (backTo pos (starEach es X.env)).any (·.1) = false := by rfl) :
    PE X (.Call (.Name x q) (e :: es) [] pos) (OT.tCallE sp p.1 c d t) := by
  obtain ⟨f, fd, ps, F, hm, hk, hb⟩ := F
  constructor
  intro pins s σ H Q I want
  apply wpAny_Call_Name_kw
  refine ld_glob I hg hm ?_ hdb
  refine PySem.W.callWith_K (h₀ := X.base) I.ok.mod.kin hk (thn (ha.run pos pins s σ H _ I want) ?_) he hpl
  rintro us s1 ⟨vs, H1, J, rel, z⟩
  refine ⟨J.kIn, ?_⟩
  have size : us.length = ps.length := by
    rw [← rel.length]
    exact F.len _ _ _ _ _ _ _ z
  have bind := hb s1 us J.kIn (by rw [List.append_nil]; exact size)
  rw [List.append_nil] at bind
  obtain ⟨p1, p2, p3, p4, p5⟩ := J.pin p (List.mem_append_left _ hp)
  have pin : L2H.PinOk X.stack H1 s1 p := ⟨p1, p2, fun z => (List.mem_cons.mp (J.stkSub p.1 z)).elim p3 p4, p5⟩
  refine wpAny_call (codeAny_mono (F.run X.A X.stack s1 H1 ⟨us, []⟩ us vs Q p c d (hr.mono hj) hot pin zc fld J.env0 bind rel z) ?_)
  intro r s2 got
  cases r with
  | error er => exact got.elim
  | ok fl =>
    cases fl with
    | ret u => exact J.after got
    | next => exact got.elim
    | brk => exact got.elim
    | cont => exact got.elim
/-- in an except suite -/
theorem pe_chs {a : Addr} {oe : Obj} {cls : Value} {pn : List (Addr × Obj)} (F : CalG X.prog X.w X.K X.mg X.base k x sp) (hr : Room j X.A) (hj : k ≤ j) (hz : L2N.Zn cls d oe) (hf : ∃ fs, oe.data = .fields fs) (hg : Gl (X.suite a ((a, oe) :: pn)) x)
    (ha : PA (X.suite a ((a, oe) :: pn)) (e :: es) t) (hdb : (x == ("__debug__" : Str)) = false := by decide) (he : starEach (e :: es) X.env = (false, eval e X.env) :: starEach es X.env := by rfl) (hpl : (backTo pos (starEach es X.env)).any (·.1) = false := by rfl) :
    PE (X.suite a ((a, oe) :: pn)) (.Call (.Name x q) (e :: es) [] pos) (OT.tCallE sp a cls d t) := by
  obtain ⟨vs, hv⟩ := hf
  exact pe_ch (X := X.suite a ((a, oe) :: pn)) (p := (a, oe)) F (OT.roomH_m hr) hj ⟨rfl, vs, hv, hz.2.2 vs hv⟩ List.mem_cons_self hz.zc ⟨vs, hv⟩ hg ha hdb he hpl
end
end HP

set_option Elab.async false
set_option linter.all false
set_option maxRecDepth 100000
set_option maxHeartbeats 2000000
namespace OT
open PySem PySem.Spec PyProof.Rows L2
def topS (i : Nat) : Stmt := PySem.Challenge.pw_owntables_k38_whole_folds.main.body.getD i (.Pass ⟨0, 0, 0, 0⟩)
abbrev s_TableError___init__ : Stmt := inClass (topS 2) 0
theorem sc_TableError___init__ : FnScope ["self"] ["self"] (C8.fnScope s_TableError___init__) := C8.fnScope_by (by decide +kernel)
abbrev s_OneDirectionOnly___init__ : Stmt := inClass (topS 3) 0
theorem sc_OneDirectionOnly___init__ : FnScope ["self", "dimension"] ["self", "dimension"] (C8.fnScope s_OneDirectionOnly___init__) := C8.fnScope_by (by decide +kernel)
abbrev s_NotSymmetric___init__ : Stmt := inClass (topS 4) 0
theorem sc_NotSymmetric___init__ : FnScope ["self", "place"] ["self", "place"] (C8.fnScope s_NotSymmetric___init__) := C8.fnScope_by (by decide +kernel)
abbrev s_places_length : Stmt := topS 8
theorem sc_places_length : FnScope ["row"] ["row"] (C8.fnScope s_places_length) := C8.fnScope_by (by decide +kernel)
abbrev s_same_lengths : Stmt := topS 9
theorem sc_same_lengths : FnScope ["lengths", "known", "length"] ["lengths"] (C8.fnScope s_same_lengths) := C8.fnScope_by (by decide +kernel)
abbrev s_same_dimension : Stmt := topS 10
theorem sc_same_dimension : FnScope ["rows", "places", "row", "place"] ["rows", "places"] (C8.fnScope s_same_dimension) := C8.fnScope_by (by decide +kernel)
abbrev s_one_direction : Stmt := topS 11
theorem sc_one_direction : FnScope ["rows", "row"] ["rows"] (C8.fnScope s_one_direction) := C8.fnScope_by (by decide +kernel)
abbrev s_row_of : Stmt := topS 13
theorem sc_row_of : FnScope ["numbers", "place"] ["numbers"] (C8.fnScope s_row_of) := C8.fnScope_by (by decide +kernel)
abbrev s_gather : Stmt := topS 14
theorem sc_gather : FnScope ["entries", "numbers", "place", "number"] ["entries"] (C8.fnScope s_gather) := C8.fnScope_by (by decide +kernel)
abbrev s_dense : Stmt := topS 16
theorem sc_dense : FnScope ["row", "numbers", "place", "number"] ["row"] (C8.fnScope s_dense) := C8.fnScope_by (by decide +kernel)
abbrev s_unequal_place : Stmt := topS 18
theorem sc_unequal_place : FnScope ["row", "numbers", "place", "number", "x"] ["row"] (C8.fnScope s_unequal_place) := C8.fnScope_by (by decide +kernel)
abbrev s_require_symmetric : Stmt := topS 19
theorem sc_require_symmetric : FnScope ["row", "place"] ["row"] (C8.fnScope s_require_symmetric) := C8.fnScope_by (by decide +kernel)
abbrev s_upper_half : Stmt := topS 20
theorem sc_upper_half : FnScope ["row", "place", "number"] ["row"] (C8.fnScope s_upper_half) := C8.fnScope_by (by decide +kernel)
abbrev s_fold : Stmt := topS 21
theorem sc_fold : FnScope ["row", "numbers", "top", "step"] ["row"] (C8.fnScope s_fold) := C8.fnScope_by (by decide +kernel)
abbrev s_unfold : Stmt := topS 22
theorem sc_unfold : FnScope ["numbers", "step", "top", "times"] ["numbers"] (C8.fnScope s_unfold) := C8.fnScope_by (by decide +kernel)
abbrev s_fold_value : Stmt := topS 23
theorem sc_fold_value : FnScope ["numbers", "at", "value", "number"] ["numbers", "at"] (C8.fnScope s_fold_value) := C8.fnScope_by (by decide +kernel)
abbrev s__law_cell : Stmt := topS 25
theorem sc__law_cell : FnScope ["_law_script", "_law_k"] ["_law_script", "_law_k"] (C8.fnScope s__law_cell) := C8.fnScope_by (by decide +kernel)
abbrev s__law_draws : Stmt := topS 26
theorem sc__law_draws : FnScope ["_law_cell_here", "_law_sizes", "_law_draws_here", "_law_rest", "_law_k", "_law_mixed"] ["_law_cell_here", "_law_sizes"] (C8.fnScope s__law_draws) := C8.fnScope_by (by decide +kernel)
abbrev s__law_is_integer : Stmt := topS 27
theorem sc__law_is_integer : FnScope ["_law_actual"] ["_law_actual"] (C8.fnScope s__law_is_integer) := C8.fnScope_by (by decide +kernel)
abbrev s__law_is_place : Stmt := topS 28
theorem sc__law_is_place : FnScope ["_law_actual", "_law_x"] ["_law_actual"] (C8.fnScope s__law_is_place) := C8.fnScope_by (by decide +kernel)
abbrev s__law_is_row : Stmt := topS 29
theorem sc__law_is_row : FnScope ["_law_actual", "_law_k", "_law_entry"] ["_law_actual"] (C8.fnScope s__law_is_row) := C8.fnScope_by (by decide +kernel)
abbrev s__law_same : Stmt := topS 30
theorem sc__law_same : FnScope ["_law_actual", "_law_expected"] ["_law_actual", "_law_expected"] (C8.fnScope s__law_same) := C8.fnScope_by (by decide +kernel)
abbrev s__law_plus : Stmt := topS 31
theorem sc__law_plus : FnScope ["_law_place", "_law_other", "_law_k"] ["_law_place", "_law_other"] (C8.fnScope s__law_plus) := C8.fnScope_by (by decide +kernel)
abbrev s__law_back : Stmt := topS 32
theorem sc__law_back : FnScope ["_law_place", "_law_x"] ["_law_place"] (C8.fnScope s__law_back) := C8.fnScope_by (by decide +kernel)
abbrev s__law_row : Stmt := topS 33
theorem sc__law_row : FnScope ["_law_pairs", "_law_sums", "_law_place", "_law_number"] ["_law_pairs"] (C8.fnScope s__law_row) := C8.fnScope_by (by decide +kernel)
abbrev s__law_add : Stmt := topS 34
theorem sc__law_add : FnScope ["_law_first", "_law_second"] ["_law_first", "_law_second"] (C8.fnScope s__law_add) := C8.fnScope_by (by decide +kernel)
abbrev s__law_times : Stmt := topS 35
theorem sc__law_times : FnScope ["_law_first", "_law_second", "_law_pairs", "_law_place", "_law_number", "_law_other", "_law_factor"] ["_law_first", "_law_second"] (C8.fnScope s__law_times) := C8.fnScope_by (by decide +kernel)
abbrev s__law_mirror : Stmt := topS 36
theorem sc__law_mirror : FnScope ["_law_row_here", "_law_entry"] ["_law_row_here"] (C8.fnScope s__law_mirror) := C8.fnScope_by (by decide +kernel)
abbrev s__law_moved : Stmt := topS 37
theorem sc__law_moved : FnScope ["_law_row_here", "_law_by", "_law_entry"] ["_law_row_here", "_law_by"] (C8.fnScope s__law_moved) := C8.fnScope_by (by decide +kernel)
abbrev s__law_at : Stmt := topS 38
theorem sc__law_at : FnScope ["_law_row_here", "_law_place", "_law_other", "_law_number"] ["_law_row_here", "_law_place"] (C8.fnScope s__law_at) := C8.fnScope_by (by decide +kernel)
abbrev s__law_zero : Stmt := topS 39
theorem sc__law_zero : FnScope ["_law_count", "_law_k"] ["_law_count"] (C8.fnScope s__law_zero) := C8.fnScope_by (by decide +kernel)
abbrev s__law_places : Stmt := topS 40
theorem sc__law_places : FnScope ["_law_box_here", "_law_places_here", "_law_width", "_law_longer", "_law_place", "_law_k"] ["_law_box_here"] (C8.fnScope s__law_places) := C8.fnScope_by (by decide +kernel)
abbrev s__law_drawn : Stmt := topS 41
theorem sc__law_drawn : FnScope ["_law_cell_here", "_law_box_here", "_law_reach", "_law_moves", "_law_places_here", "_law_draws_here", "_law_by", "_law_k"] ["_law_cell_here", "_law_box_here", "_law_reach", "_law_moves"] (C8.fnScope s__law_drawn) := C8.fnScope_by (by decide +kernel)
abbrev s__law_box : Stmt := topS 42
theorem sc__law_box : FnScope ["_law_kind", "_law_wide"] ["_law_kind", "_law_wide"] (C8.fnScope s__law_box) := C8.fnScope_by (by decide +kernel)
abbrev s__law_is_error : Stmt := topS 43
theorem sc__law_is_error : FnScope ["_law_e", "_law_word"] ["_law_e", "_law_word"] (C8.fnScope s__law_is_error) := C8.fnScope_by (by decide +kernel)
abbrev s__law_is_numbers : Stmt := topS 44
theorem sc__law_is_numbers : FnScope ["_law_actual", "_law_x"] ["_law_actual"] (C8.fnScope s__law_is_numbers) := C8.fnScope_by (by decide +kernel)
abbrev s__law_unfolded : Stmt := topS 45
theorem sc__law_unfolded : FnScope ["_law_numbers", "_law_row_here", "_law_k", "_law_number"] ["_law_numbers"] (C8.fnScope s__law_unfolded) := C8.fnScope_by (by decide +kernel)
abbrev s__law_stripped : Stmt := topS 46
theorem sc__law_stripped : FnScope ["_law_numbers", "_law_size", "_law_k"] ["_law_numbers"] (C8.fnScope s__law_stripped) := C8.fnScope_by (by decide +kernel)
abbrev s__law_value : Stmt := topS 47
theorem sc__law_value : FnScope ["_law_numbers", "_law_at_here", "_law_value_here", "_law_power", "_law_number"] ["_law_numbers", "_law_at_here"] (C8.fnScope s__law_value) := C8.fnScope_by (by decide +kernel)
abbrev s__law_list_product : Stmt := topS 48
theorem sc__law_list_product : FnScope ["_law_one", "_law_two", "_law_numbers", "_law_i", "_law_k"] ["_law_one", "_law_two"] (C8.fnScope s__law_list_product) := C8.fnScope_by (by decide +kernel)
abbrev s__law_list_sum : Stmt := topS 49
theorem sc__law_list_sum : FnScope ["_law_one", "_law_two", "_law_numbers", "_law_k"] ["_law_one", "_law_two"] (C8.fnScope s__law_list_sum) := C8.fnScope_by (by decide +kernel)
abbrev s__law_folded : Stmt := topS 50
theorem sc__law_folded : FnScope ["_law_row_here", "_law_size", "_law_passed", "_law_first", "_law_kept", "_law_again"] ["_law_row_here"] (C8.fnScope s__law_folded) := C8.fnScope_by (by decide +kernel)
abbrev s__law_unfold_is : Stmt := topS 51
theorem sc__law_unfold_is : FnScope ["_law_numbers", "_law_expected", "_law_passed", "_law_first"] ["_law_numbers", "_law_expected"] (C8.fnScope s__law_unfold_is) := C8.fnScope_by (by decide +kernel)
abbrev s__law_value_is : Stmt := topS 52
theorem sc__law_value_is : FnScope ["_law_numbers", "_law_at_here", "_law_expected", "_law_passed", "_law_first", "_law_again"] ["_law_numbers", "_law_at_here", "_law_expected"] (C8.fnScope s__law_value_is) := C8.fnScope_by (by decide +kernel)
abbrev s__law_total : Stmt := topS 53
theorem sc__law_total : FnScope ["_law_row_here", "_law_turned", "_law_total_here", "_law_place", "_law_number"] ["_law_row_here", "_law_turned"] (C8.fnScope s__law_total) := C8.fnScope_by (by decide +kernel)
abbrev s__law_symmetric_row : Stmt := topS 54
theorem sc__law_symmetric_row : FnScope ["_law_kind", "_law_cell_here", "_law_row_here", "_law_draws_here", "_law_k"] ["_law_kind", "_law_cell_here"] (C8.fnScope s__law_symmetric_row) := C8.fnScope_by (by decide +kernel)
abbrev s__law_first_difference : Stmt := topS 55
theorem sc__law_first_difference : FnScope ["_law_row_here", "_law_place", "_law_number"] ["_law_row_here"] (C8.fnScope s__law_first_difference) := C8.fnScope_by (by decide +kernel)
abbrev s__law_not_symmetric : Stmt := topS 56
theorem sc__law_not_symmetric : FnScope ["_law_row_here", "_law_passed", "_law_e"] ["_law_row_here"] (C8.fnScope s__law_not_symmetric) := C8.fnScope_by (by decide +kernel)
abbrev s__law_one_direction_only : Stmt := topS 57
theorem sc__law_one_direction_only : FnScope ["_law_row_here", "_law_passed", "_law_e"] ["_law_row_here"] (C8.fnScope s__law_one_direction_only) := C8.fnScope_by (by decide +kernel)
abbrev s__law_refusals : Stmt := topS 58
theorem sc__law_refusals : FnScope ["_law_first", "_law_draws_here", "_law_cell_here", "_law_at_here", "_law_spoilt", "_law_wider"] ["_law_first", "_law_draws_here", "_law_cell_here"] (C8.fnScope s__law_refusals) := C8.fnScope_by (by decide +kernel)
abbrev s__law_values : Stmt := topS 59
theorem sc__law_values : FnScope ["_law_row_here", "_law_numbers", "_law_at_here"] ["_law_row_here", "_law_numbers", "_law_at_here"] (C8.fnScope s__law_values) := C8.fnScope_by (by decide +kernel)
abbrev s_law : Stmt := topS 60
theorem sc_law : FnScope ["_law_script", "_law_draws_here", "_law_at_here", "_law_first", "_law_second", "_law_one", "_law_two", "_law_product", "_law_numbers", "_law_both", "_law_sums"] ["_law_script"] (C8.fnScope s_law) := C8.fnScope_by (by decide +kernel)
theorem iteD {c A B : Prop} [Decidable c] (h1 : c → A) (h2 : ¬ c → B) : if decide c = true then A else B := by
  by_cases h : c
  · rw [decide_eq_true h]
    exact iteT (h1 h)
  · rw [decide_eq_false h]
    exact iteF (h2 h)
theorem iteND {c A B : Prop} [Decidable c] (h1 : ¬ c → A) (h2 : c → B) : if (!decide c) = true then A else B := by
  by_cases h : c
  · rw [decide_eq_true h]
    exact iteF (h2 h)
  · rw [decide_eq_false h]
    exact iteT (h1 h)
theorem iteB {c : Bool} {A B : Prop} (h1 : c = true → A) (h2 : c = false → B) : if c = true then A else B := by
  cases c with
  | true => exact iteT (h1 rfl)
  | false => exact iteF (h2 rfl)
theorem atI_int {ns : List Int} {k : Int} (h0 : 0 ≤ k) (h1 : k < (ns.length : Int)) : ∃ c, atI (ns.map V.int) k = some (.int c) ∧ ns[k.toNat]? = some c := by
  obtain ⟨j, rfl⟩ := Int.eq_ofNat_of_zero_le h0
  have hj : j < ns.length := by omega
  refine ⟨ns[j], atI_nat ?_, ?_⟩
  · rw [List.getElem?_map, List.getElem?_eq_getElem hj]
    rfl
  · rw [Int.toNat_natCast, List.getElem?_eq_getElem hj]
theorem same_upd {H : Hp} {p : Addr} {o : HO} (h : H p = none) : Same H (upd H p o) := fun b x e => by
  rw [upd_ne (ne_of_none e h)]
  exact e
theorem same_mut {H H' : Hp} {p : Addr} {o : HO} (e : Same H H') (h : H p = none) : Same H (upd H' p o) := fun b x z => by
  rw [upd_ne (ne_of_none z h)]
  exact e b x z
theorem same_t {K : PySem.W.Frag} {H H' : Hp} {a : Addr} {xs : List V} (e : Same H H') (h : SqT K H a xs) : SqT K H' a xs := by
  rcases h with (h | ⟨o, h⟩) | h
  · exact .inl (.inl (e _ _ h))
  · exact .inl (.inr ⟨o, e _ _ h⟩)
  · exact .inr h
/-- the module's names that stay the built-in ones -/
structure Bi (mg : Str → Option Value) : Prop where
  n_len : mg "len" = none
  n_int : mg "int" = none
  n_str : mg "str" = none
  n_bool : mg "bool" = none
  n_list : mg "list" = none
  n_tuple : mg "tuple" = none
  n_range : mg "range" = none
  n_enumerate : mg "enumerate" = none
  n_isinstance : mg "isinstance" = none
  n_sorted : mg "sorted" = none
  n_abs : mg "abs" = none
  n_any : mg "any" = none
  n_sum : mg "sum" = none
  n_min : mg "min" = none
  n_max : mg "max" = none
  n_zip : mg "zip" = none
section
variable {P : Program} {w : World} {K : PySem.W.Frag} {mg : Str → Option Value} {base : Heap}
/-! ### a cell of the script -/
def spCell (K : PySem.W.Frag) : Sp := fun vs H Q _ => ∃ (a : Addr) (ns : List Int) (k : Int), vs = [.ref a, .int k] ∧ SqL K H a (ns.map V.int) ∧ 0 ≤ k ∧ ∀ c : Int, Q (.int c) H
theorem c__law_cell {f : Addr} {fd : FuncData} (D : C8.Def K mg "_law_cell" s__law_cell f fd) (b : Binds K fd ["_law_script", "_law_k"] []) (T : Bi mg) : C8.Cal P w K mg base 1 "_law_cell" (spCell K) [] := by
  refine C8.cal0 D b .nil sc__law_cell (fun vs H Q E h => ?_) (fun cdv A outer s H vs Q E hr h => ?_)
  · obtain ⟨a, ns, k, rfl, _⟩ := h
    rfl
  · obtain ⟨a, ns, k, rfl, hS, hk, q⟩ := h
    refine ⟨_, (pss_cons (ps_if (pt_cmpR op_lt (pv 1) (pe_callB call_len_seq (by rfl) T.n_len OT.b_len (pa_cons (pv 0) pa_nil)) (nomark _)) (pss_one (ps_ret (pe_ix ix_list (pv 0) (pv 1) (fun _ _ => rfl)))) pss_nil)
  (pss_cons (ps_if (pt_cmpR op_eq (pe_callB call_len_seq (by rfl) T.n_len OT.b_len (pa_cons (pv 0) pa_nil)) pe_int (nomark _)) (pss_one (ps_ret (pe_op op_add (pe_op op_mul pe_int (pv 1)) pe_int))) pss_nil)
  (pss_one (ps_ret (pe_op op_mod (pe_callTy call_int1 (by rfl) T.n_int OT.b_int (pa_cons (pe_op op_add (pe_op op_add (pe_op op_mul (pe_ix ix_list (pv 0) (pe_op op_mod (pe_callTy call_int1 (by rfl) T.n_int OT.b_int (pa_cons (pv 1) pa_nil)) (pe_callB call_len_seq (by rfl) T.n_len OT.b_len (pa_cons (pv 0) pa_nil))) (fun _ _ => rfl)) pe_int) (pe_op op_mul pe_int (pv 1))) pe_int) pa_nil)) pe_int))))), ?_⟩
    refine ⟨_, rfl, _, rfl, a, _, rfl, .inl hS, _, _, rfl, rfl, _, rfl, ?_⟩
    refine iteD (fun h1 => ?_) (fun h1 => ?_)
    · rw [List.length_map] at h1
      obtain ⟨c, hc, _⟩ := atI_int hk h1
      exact ⟨_, rfl, _, rfl, a, _, _, _, rfl, rfl, hS, hc, q c⟩
    · refine ⟨_, rfl, a, _, rfl, .inl hS, rfl, _, rfl, ?_⟩
      refine iteD (fun h2 => ?_) (fun h2 => ?_)
      · exact ⟨_, rfl, _, _, rfl, rfl, .inl ⟨by decide, by decide⟩, _, _, rfl, rfl, q _⟩
      · have hp : 0 < ns.length := by
          have h3 : ¬ (V.int ((ns.map V.int).length : Int) = V.int 0) := h2
          rw [List.length_map] at h3
          cases ns with
          | nil => exact absurd rfl h3
          | cons x r => exact Nat.succ_pos _
        have hm : 0 ≤ k % (ns.length : Int) := Int.emod_nonneg _ (by omega)
        have hm2 : k % (ns.length : Int) < ns.length := Int.emod_lt_of_pos _ (by omega)
        obtain ⟨c, hc, _⟩ := atI_int hm hm2
        refine ⟨_, rfl, _, rfl, .inl ⟨k, rfl, _, rfl, a, _, rfl, .inl hS, k, _, rfl, rfl, ?_, a, _, _, _, rfl, rfl, hS, ?_, c, _, rfl, rfl, .inr ⟨by decide, by decide⟩, _, rfl, _, _, rfl, rfl, .inl ⟨by decide, by decide⟩, _, _, rfl, rfl, _, _, rfl, rfl, .inl ⟨_, rfl, _, _, rfl, rfl, by show (0 : Int) < 2147483647; decide, q _⟩⟩⟩
        · rw [List.length_map]
          show (0 : Int) < (ns.length : Int)
          omega
        · rw [List.length_map]
          exact hc
/-! ### draws -/
theorem cmul_m1 (x y : Int) : CMul (x % 2147483647) y := by
  refine .inl ?_
  have h1 := Int.emod_nonneg x (show (2147483647 : Int) ≠ 0 by decide)
  have h2 := Int.emod_lt_of_pos x (show (0 : Int) < 2147483647 by decide)
  have h3 : (2 : Int) ^ 64 = 18446744073709551616 := by decide
  omega
theorem cmul_m2 (x y : Int) : CMul (x % 2147483629) y := by
  refine .inl ?_
  have h1 := Int.emod_nonneg x (show (2147483629 : Int) ≠ 0 by decide)
  have h2 := Int.emod_lt_of_pos x (show (0 : Int) < 2147483629 by decide)
  have h3 : (2 : Int) ^ 64 = 18446744073709551616 := by decide
  omega

theorem small64 {z : Int} (h1 : 0 < z) (h2 : z < 1000000000000000) : z.natAbs < 2 ^ 64 := by
  have : (2 : Nat) ^ 64 = 18446744073709551616 := by decide
  omega
def InR (ds zs : List Int) : Prop := ds.length = zs.length ∧ ∀ (i : Nat) (d z : Int), ds[i]? = some d → zs[i]? = some z → 0 ≤ d ∧ d < z
def spDraws (K : PySem.W.Frag) : Sp := fun vs H Q _ => ∃ (a : Addr) (zs : List Int) (c : Int), vs = [.int c, .ref a] ∧ SqL K H a (zs.map V.int) ∧ zs.length ≤ 1000 ∧ (∀ z ∈ zs, 0 < z ∧ z < 1000000000000000) ∧
  ∀ (ds : List Int) H' p, InR ds zs → Same H H' → H p = none → H' p = some (.lst (ds.map V.int)) → Q (.ref p) H'
theorem c__law_draws {f : Addr} {fd : FuncData} (D : C8.Def K mg "_law_draws" s__law_draws f fd) (b : Binds K fd ["_law_cell_here", "_law_sizes"] []) (T : Bi mg) : C8.Cal P w K mg base 1 "_law_draws" (spDraws K) [] := by
  refine C8.cal0 D b .nil sc__law_draws (fun vs H Q E h => ?_) (fun cdv A outer s H vs Q E hr h => ?_)
  · obtain ⟨a, zs, c, rfl, _⟩ := h
    rfl
  · obtain ⟨a, zs, c, rfl, hS, hl, hz, q⟩ := h
    refine ⟨_, (pss_cons (ps_set (i := 2) sc__law_draws.nd rfl (Or.inl rfl) (pe_lst pa_nil))
  (pss_cons (ps_set (i := 3) sc__law_draws.nd rfl (Or.inl rfl) (pe_op op_sub (pv 0) (pe_op op_pow pe_int pe_int)))
  (pss_cons (ps_for PassesOwn.never rfl (pi_range1 rfl T.n_range (pa_cons (pe_callB call_len_seq (by rfl) T.n_len OT.b_len (pa_cons (pv 1) pa_nil)) pa_nil)) (pg_name (i := 4) sc__law_draws.nd rfl (Or.inl rfl)) (pss_one (ps_if (pt_cmpR op_ge (pv 0) (pe_op op_pow pe_int pe_int) (nomark _)) (pss_cons (ps_expr (pe_bm PySem.F.plainAttrs_list PySem.F.slot_list_append PySem.F.type_list_append mt_append (pv 2) (pa_cons (pe_op op_mod (pe_callTy call_int1 (by rfl) T.n_int OT.b_int (pa_cons (pv 3) pa_nil)) (pe_ix ix_list (pv 1) (pv 4) (fun _ _ => rfl))) pa_nil)))
  (pss_one (ps_set (i := 3) sc__law_draws.nd rfl (Or.inl rfl) (pe_op op_fdivW (pv 3) (pe_ix ix_list (pv 1) (pv 4) (fun _ _ => rfl)))))) (pss_cons (ps_set (i := 5) sc__law_draws.nd rfl (Or.inl rfl) (pe_op op_mod (pe_callTy call_int1 (by rfl) T.n_int OT.b_int (pa_cons (pe_op op_add (pe_op op_add (pv 0) (pe_op op_mul pe_int (pv 4))) pe_int) pa_nil)) pe_int))
  (pss_cons (ps_set (i := 5) sc__law_draws.nd rfl (Or.inl rfl) (pe_op op_mod (pe_callTy call_int1 (by rfl) T.n_int OT.b_int (pa_cons (pe_op op_mul (pv 5) (pe_op op_add (pv 5) pe_int)) pa_nil)) pe_int))
  (pss_cons (ps_set (i := 5) sc__law_draws.nd rfl (Or.inl rfl) (pe_op op_mod (pe_callTy call_int1 (by rfl) T.n_int OT.b_int (pa_cons (pe_op op_add (pe_op op_mul (pv 5) (pe_op op_add (pv 5) pe_int)) (pe_op op_mul pe_int (pv 4))) pa_nil)) pe_int))
  (pss_one (ps_expr (pe_bm PySem.F.plainAttrs_list PySem.F.slot_list_append PySem.F.type_list_append mt_append (pv 2) (pa_cons (pe_op op_mod (pe_callTy call_int1 (by rfl) T.n_int OT.b_int (pa_cons (pe_op op_fdiv (pv 5) pe_int) pa_nil)) (pe_ix ix_list (pv 1) (pv 4) (fun _ _ => rfl))) pa_nil))))))))))
  (pss_one (ps_ret (pv 2)))))), ?_⟩
    refine ⟨Nat.zero_le _, fun p np => ?_⟩
    have s1 : Same H (upd H p (.lst [])) := same_upd np
    refine ⟨_, rfl, 10, 18, rfl, rfl, ?cp, _, _, rfl, rfl, ?_⟩
    case cp => exact ⟨by decide, by decide⟩
    refine ⟨_, rfl, a, _, rfl, .inl (s1.seq hS), _, rfl, ?_, ?_, ?_⟩
    · rw [List.length_map]
      omega
    · rw [List.length_map]
      have : (2 : Int) ^ 62 = 4611686018427387904 := by decide
      omega
    rw [List.length_map, Int.toNat_natCast]
    refine for_range (fun i σ H2 => ∃ (ds : List Int) (r : Int) (y4 y5 : Option V), σ = [some (.int c), some (.ref a), some (.ref p), some (.int r), y4, y5] ∧ Same H H2 ∧ H2 p = some (.lst (ds.map V.int)) ∧ InR ds (zs.take i)) ?_ ?_ ?_
    · exact ⟨[], _, none, none, rfl, s1, upd_same, rfl, fun i d z h => by simp at h⟩
    · rintro i σ H2 hi ⟨ds, r, y4, y5, rfl, sm, hp, hr2⟩
      have hzi : zs[i]? = some zs[i] := List.getElem?_eq_getElem hi
      obtain ⟨z1, z2⟩ := hz zs[i] (List.getElem_mem hi)
      have hix : atI (zs.map V.int) ((0 : Int) + (i : Int)) = some (.int zs[i]) := by
        rw [Int.zero_add]
        exact atI_nat (by rw [List.getElem?_map, hzi]; rfl)
      have hS2 := sm.seq hS
      have hlen : ds.length = i := by
        rw [hr2.1, List.length_take]
        omega
      have hlt : (ds.map V.int).length < sizeLine := by
        rw [List.length_map]
        exact small1000 (by omega)
      have more : ∀ x : Int, InR (ds ++ [x % zs[i]]) (zs.take (i + 1)) := fun x => by
        refine ⟨?_, fun j d z h1 h2 => ?_⟩
        · rw [List.length_append, List.length_take, hlen]
          simp
          omega
        · by_cases hj : j < i
          · rw [List.getElem?_append_left (by omega)] at h1
            rw [List.getElem?_take_of_lt (by omega)] at h2
            exact hr2.2 j d z h1 (by rw [List.getElem?_take_of_lt hj]; exact h2)
          · by_cases ej : j = i
            · subst ej
              rw [List.getElem?_append_right (by omega), hlen, Nat.sub_self] at h1
              rw [List.getElem?_take_of_lt (by omega), hzi] at h2
              have e1 : x % zs[j] = d := Option.some.inj h1
              have e2 : zs[j] = z := Option.some.inj h2
              rw [← e1, ← e2]
              exact ⟨Int.emod_nonneg _ (by omega), Int.emod_lt_of_pos _ z1⟩
            · rw [List.getElem?_eq_none (by rw [List.length_take]; omega)] at h2
              cases h2
      have fin : ∀ (x r' : Int) (y4 y5 : Option V), ∃ (ds2 : List Int) (r2 : Int) (z4 z5 : Option V), [some (.int c), some (.ref a), some (.ref p), some (.int r'), y4, y5] = [some (.int c), some (.ref a), some (.ref p), some (.int r2), z4, z5] ∧
          Same H (upd H2 p (.lst (ds.map V.int ++ [V.int (x % zs[i])]))) ∧ (upd H2 p (.lst (ds.map V.int ++ [V.int (x % zs[i])]))) p = some (.lst (ds2.map V.int)) ∧ InR ds2 (zs.take (i + 1)) := fun x r' y4 y5 => by
        refine ⟨ds ++ [x % zs[i]], r', y4, y5, rfl, same_mut sm np, ?_, more x⟩
        rw [upd_same, List.map_append]
        rfl
      refine ⟨_, rfl, 10, 18, rfl, rfl, ⟨by decide, by decide⟩, _, _, rfl, rfl, _, rfl, ?_⟩
      refine iteD (fun _ => ?_) (fun _ => ?_)
      · refine ⟨_, rfl, .inl ⟨rfl, _, .inl (.inl hp)⟩, _, rfl, .inl ⟨r, rfl, _, rfl, _, rfl, a, _, _, _, rfl, rfl, hS2, hix, _, _, rfl, rfl, z1, p, _, _, rfl, rfl, hp, hlt, ?_⟩⟩
        have sm3 : Same H (upd H2 p (.lst (ds.map V.int ++ [V.int (r % zs[i])]))) := same_mut sm np
        refine ⟨_, rfl, _, rfl, _, rfl, a, _, _, _, rfl, rfl, sm3.seq hS, hix, _, _, rfl, rfl, wide_div z1 (b := 64) (small64 z1 z2) (by decide) (by decide), ?_⟩
        exact fin _ _ _ _
      · refine ⟨_, rfl, _, rfl, _, _, rfl, rfl, .inl ⟨by decide, by decide⟩, _, _, rfl, rfl, _, _, rfl, rfl, .inl ⟨_, rfl, _, _, rfl, rfl, by show (0 : Int) < 2147483647; decide, ?_⟩⟩
        refine ⟨_, rfl, _, rfl, _, _, rfl, rfl, _, _, rfl, rfl, cmul_m1 _ _, .inl ⟨_, rfl, _, _, rfl, rfl, by show (0 : Int) < 2147483629; decide, ?_⟩⟩
        refine ⟨_, rfl, _, rfl, _, _, rfl, rfl, _, _, rfl, rfl, cmul_m2 _ _, _, rfl, _, _, rfl, rfl, .inl ⟨by decide, by decide⟩, _, _, rfl, rfl, .inl ⟨_, rfl, _, _, rfl, rfl, by show (0 : Int) < 2147483647; decide, ?_⟩⟩
        refine ⟨_, rfl, .inl ⟨rfl, _, .inl (.inl hp)⟩, _, rfl, _, _, rfl, rfl, ⟨by decide, by decide⟩, .inl ⟨_, rfl, _, rfl, _, rfl, a, _, _, _, rfl, rfl, hS2, hix, _, _, rfl, rfl, z1, p, _, _, rfl, rfl, hp, hlt, ?_⟩⟩
        exact fin _ _ _ _
    · rintro σ H2 ⟨ds, r, y4, y5, rfl, sm, hp, hr2⟩
      rw [List.take_length] at hr2
      exact ⟨_, rfl, q ds H2 p hr2 sm np hp⟩
end
end OT

set_option Elab.async false
set_option linter.all false
set_option maxRecDepth 100000
set_option maxHeartbeats 2000000
namespace OT
open PySem PySem.Spec PyProof.Rows L2
theorem take_map_succ {α β : Type} {l : List α} {i : Nat} (f : α → β) (h : i < l.length) : (l.take (i + 1)).map f = (l.take i).map f ++ [f l[i]] := by
  rw [List.take_add_one, List.getElem?_eq_getElem h, List.map_append]
  rfl
theorem getm {α β : Type} {l : List α} {i : Nat} {f : α → β} {x : β} (h : (l.map f)[i]? = some x) : ∃ hi : i < l.length, x = f l[i] := by
  rw [List.getElem?_map] at h
  cases e : l[i]? with
  | none =>
    rw [e] at h
    cases h
  | some z =>
    rw [e] at h
    obtain ⟨hi, hz⟩ := List.getElem?_eq_some_iff.mp e
    exact ⟨hi, by rw [hz]; exact (Option.some.inj h).symm⟩
theorem tYes_of {A B : Hp → Prop} {σ : L2.St} {H : Hp} (h : A H) : tYes σ H (fun b H3 => if b = true then A H3 else B H3) := by
  show (if true = true then A H else B H)
  rw [if_pos rfl]
  exact h
theorem drop_cons {α : Type} {l : List α} {i : Nat} (h : i < l.length) : l.drop i = l[i] :: l.drop (i + 1) := List.drop_eq_getElem_cons h
theorem kb_ii : kitB "int" "int" = some true := by decide +kernel
theorem kb_ib : kitB "int" "bool" = some false := by decide +kernel
theorem kb_tt : kitB "tuple" "tuple" = some true := by decide +kernel
theorem kb_ss : kitB "str" "str" = some true := by decide +kernel
theorem kb_ll : kitB "list" "list" = some true := by decide +kernel
theorem depth_ints : ∀ ns : List Int, PyData.depthAll (ns.map PyData.int) = 0
  | [] => by simp only [List.map_nil, PyData.depthAll]
  | n :: r => by simp only [List.map_cons, PyData.depthAll, PyData.depth, depth_ints r, Nat.max_self]
theorem depth_row : ∀ es : List Ent, PyData.depthAll (es.map dEnt) ≤ 3
  | [] => by simp only [List.map_nil, PyData.depthAll]; decide
  | e :: r => by
    have ih := depth_row r
    simp only [List.map_cons, PyData.depthAll, dEnt, dPl, PyData.depth, depth_ints] at ih ⊢
    omega
theorem shaped_row (es : List Ent) : SeqAt.shaped (dRow es) = true := by
  unfold SeqAt.shaped
  have h1 : (dRow es).canLay0 = true := lay_row es
  rw [h1, Bool.true_and]
  refine decide_eq_true ?_
  have := depth_row es
  simp only [dRow, PyData.depth]
  omega
section
variable {P : Program} {w : World} {K : PySem.W.Frag} {mg : Str → Option Value} {base : Heap}
def spIsInt : Sp := fun vs H Q _ => ∃ i : Int, vs = [.int i] ∧ Q (.bl true) H
theorem c__law_is_integer {f : Addr} {fd : FuncData} (D : C8.Def K mg "_law_is_integer" s__law_is_integer f fd) (b : Binds K fd ["_law_actual"] []) (T : Bi mg) : C8.Cal P w K mg base 1 "_law_is_integer" spIsInt [] := by
  refine C8.cal0 D b .nil sc__law_is_integer (fun vs H Q E h => ?_) (fun cdv A outer s H vs Q E hr h => ?_)
  · obtain ⟨i, rfl, _⟩ := h
    rfl
  · obtain ⟨i, rfl, q⟩ := h
    refine ⟨_, (pss_one (ps_ret (pe_and (pe_callB call_isi (by rfl) T.n_isinstance OT.b_isinstance (pa_cons (pv 0) (pa_cons (pe_bltn (v := .ty "int") (by rfl) T.n_int OT.b_int rfl) pa_nil))) (pe_one (pe_not (pe_callB call_isi (by rfl) T.n_isinstance OT.b_isinstance (pa_cons (pv 0) (pa_cons (pe_bltn (v := .ty "bool") (by rfl) T.n_bool OT.b_bool rfl) pa_nil)))))))), ?_⟩
    refine ⟨_, rfl, _, _, _, _, _, rfl, .ty _, .base (.int i), kit_ty kb_ii, _, rfl, ?_⟩
    refine iteT ?_
    exact ⟨_, rfl, _, _, _, _, _, rfl, .ty _, .base (.int i), kit_ty kb_ib, _, rfl, q⟩
def spIsPlace (K : PySem.W.Frag) : Sp := fun vs H Q _ => ∃ (a : Addr) (ns : List Int), vs = [.ref a] ∧ H a = some (.tup (ns.map V.int)) ∧ 1 ≤ ns.length ∧ ns.length ≤ 3 ∧ Q (.bl true) H
theorem c__law_is_place {f : Addr} {fd : FuncData} (D : C8.Def K mg "_law_is_place" s__law_is_place f fd) (b : Binds K fd ["_law_actual"] []) (T : Bi mg) (c__law_is_integer : C8.Cal P w K mg base 1 "_law_is_integer" spIsInt []) : C8.Cal P w K mg base 2 "_law_is_place" (spIsPlace K) [] := by
  refine C8.cal0 D b .nil sc__law_is_place (fun vs H Q E h => ?_) (fun cdv A outer s H vs Q E hr h => ?_)
  · obtain ⟨a, ns, rfl, _⟩ := h
    rfl
  · obtain ⟨a, ns, rfl, hS, h1, h3, q⟩ := h
    have hT : SqT K H a (ns.map V.int) := .inl (.inl hS)
    refine ⟨_, (pss_cons (ps_if (PW.pt (pw_or (pt_not (pt_val (pe_callB call_isi (by rfl) T.n_isinstance OT.b_isinstance (pa_cons (pv 0) (pa_cons (pe_bltn (v := .ty "tuple") (by rfl) T.n_tuple OT.b_tuple rfl) pa_nil))))) (pw_or (pt_cmpR op_lt (pe_callB call_len_seq (by rfl) T.n_len OT.b_len (pa_cons (pv 0) pa_nil)) pe_int (nomark _)) (pw_or1 (pt_cmpR op_gt (pe_callB call_len_seq (by rfl) T.n_len OT.b_len (pa_cons (pv 0) pa_nil)) pe_int (nomark _)))))) (pss_one (ps_ret pe_bl)) pss_nil)
  (pss_cons (ps_for PassesOwn.never rfl (pi_tup (pv 0)) (pg_name (i := 1) sc__law_is_place.nd rfl (Or.inl rfl)) (pss_one (ps_if (pt_not (pt_val (C8.pe_c c__law_is_integer hr (by decide) (by rfl) (pa_cons (pv 1) pa_nil)))) (pss_one (ps_ret pe_bl)) pss_nil)))
  (pss_one (ps_ret pe_bl)))), ?_⟩
    refine ⟨_, rfl, _, _, _, _, _, rfl, .ty _, .base (.tup hS), kit_ty kb_tt, _, rfl, ?_⟩
    refine iteF ?_
    refine ⟨_, rfl, a, _, rfl, .inr hT, _, _, rfl, rfl, _, rfl, iteD (fun z => ?_) (fun _ => ?_)⟩
    · rw [List.length_map] at z
      omega
    refine ⟨_, rfl, a, _, rfl, .inr hT, _, _, rfl, rfl, _, rfl, iteD (fun z => ?_) (fun _ => ?_)⟩
    · rw [List.length_map] at z
      omega
    refine ⟨_, rfl, a, rfl, ⟨_, hT⟩, ?_⟩
    refine for_tup (K := K) (xs := ns.map V.int) (fun i σ H2 => ∃ y, σ = [some (.ref a), y] ∧ H2 = H) ⟨none, rfl, rfl⟩ (fun i σ H2 _ ⟨_, _, e⟩ => by rw [e]; exact hT) ?_ ?_
    · rintro i x σ H2 hx ⟨y, rfl, rfl⟩
      obtain ⟨hi, rfl⟩ := getm hx
      exact ⟨_, rfl, _, rfl, _, rfl, iteF ⟨_, rfl, rfl⟩⟩
    · rintro σ H2 ⟨y, rfl, rfl⟩
      exact q
end
end OT

set_option Elab.async false
set_option linter.all false
set_option maxRecDepth 100000
set_option maxHeartbeats 2000000
namespace OT
open PySem PySem.Spec PyProof.Rows L2
theorem kV_ints (k : Pl) : (k.map (Sum.inl : Int → Key)).map kV = k.map V.int := by
  rw [List.map_map]
  rfl
theorem dgetT {H : Hp} {d b : Addr} {kvs : List (List Key × V)} {k : Pl} {o : Option V} (e : H d = some (.dT kvs)) (eb : H b = some (.tup (k.map V.int))) (h : valV kvs (k.map Sum.inl) = o) : DGet H d (.ref b) o := by
  rw [← h]
  exact DGet.t e (by rw [kV_ints]; exact eb)
theorem ne_lst {H : Hp} {a D : Addr} {xs l : List V} (h : H a = some (.tup xs)) (hD : H D = some (.lst l)) : a ≠ D := fun e => by
  rw [e, hD] at h
  cases h
theorem EntAt.updL {H : Hp} {D : Addr} {l l' : List V} {v : V} {e : Ent} (hD : H D = some (.lst l)) (h : EntAt H v e) : EntAt (upd H D (.lst l')) v e := by
  obtain ⟨t, p, rfl, h1, h2⟩ := h
  exact ⟨t, p, rfl, by rw [upd_ne (ne_lst h1 hD)]; exact h1, by rw [upd_ne (ne_lst h2 hD)]; exact h2⟩
theorem Ents.updL {H : Hp} {D : Addr} {l l' : List V} {vs : List V} {es : List Ent} (hD : H D = some (.lst l)) (h : Ents H vs es) : Ents (upd H D (.lst l')) vs es := by
  induction h with
  | nil => exact .nil
  | cons h1 _ ih => exact .cons (h1.updL hD) ih
theorem mkR_len (f : Pl → Int) : ∀ ks : List Pl, (mkR f ks).length ≤ ks.length
  | [] => Nat.le_refl _
  | k :: r => by
    have ih := mkR_len f r
    show (if f k = 0 then mkR f r else (k, f k) :: mkR f r).length ≤ r.length + 1
    by_cases h : f k = 0
    · rw [if_pos h]
      omega
    · rw [if_neg h, List.length_cons]
      omega
theorem none_of_upd {H : Hp} {p D : Addr} {o : HO} (h : upd H p o D = none) : H D = none ∧ p ≠ D := by
  have ne : p ≠ D := ne_of_none upd_same h
  exact ⟨by rw [upd_ne ne.symm] at h; exact h, ne⟩
section
variable {P : Program} {w : World} {K : PySem.W.Frag} {mg : Str → Option Value} {base : Heap}
def wantRow (H : Hp) (es : List Ent) (Q : VK) : Prop := ∀ (r : List Ent) (p : Addr) (ws : List V) (H' : Hp), RowIs r es → Same H H' → H p = none → H' p = some (.lst ws) → Ents H' ws r → Q (.ref p) H'
def spRowOf (K : PySem.W.Frag) : Sp := fun vs H Q _ => ∃ (d : Addr) (kvs : List (List Key × V)) (ks : List Pl) (es : List Ent), vs = [.ref d] ∧ H d = some (.dT kvs) ∧ Sums kvs ks (numAt es) ∧ (∀ k ∈ ks, k ≠ []) ∧ ks.length < sizeLine ∧ wantRow H es Q
end
end OT

set_option Elab.async false
set_option linter.all false
set_option maxRecDepth 100000
set_option maxHeartbeats 2000000
namespace OT
open PySem PySem.Spec PyProof.Rows L2
section
variable {P : Program} {w : World} {K : PySem.W.Frag} {mg : Str → Option Value} {base : Heap}
theorem put_keys_ne {ks : List Pl} {e : Pl} (h : ∀ k ∈ ks, k ≠ []) (he : e ≠ []) : ∀ k ∈ (if e ∈ ks then ks else ks ++ [e]), k ≠ [] := by
  by_cases m : e ∈ ks
  · rw [if_pos m]
    exact h
  · rw [if_neg m]
    intro k hk
    rcases List.mem_append.mp hk with hk | hk
    · exact h k hk
    · rw [List.mem_singleton.mp hk]
      exact he
theorem put_keys_len {ks : List Pl} {e : Pl} {i : Nat} (h : ks.length ≤ i) : (if e ∈ ks then ks else ks ++ [e]).length ≤ i + 1 := by
  by_cases m : e ∈ ks
  · rw [if_pos m]
    omega
  · rw [if_neg m, List.length_append, List.length_singleton]
    omega
theorem Ents.updD {H : Hp} {D : Addr} {l l' : List (List Key × V)} {vs : List V} {es : List Ent} (hD : H D = some (.dT l)) (h : Ents H vs es) : Ents (upd H D (.dT l')) vs es := by
  have ne : ∀ {a : Addr} {xs : List V}, H a = some (.tup xs) → a ≠ D := fun {a xs} h e => by
    rw [e, hD] at h
    cases h
  induction h with
  | nil => exact .nil
  | cons h1 _ ih =>
    obtain ⟨t, p, rfl, h1, h2⟩ := h1
    exact .cons ⟨t, p, rfl, by rw [upd_ne (ne h1)]; exact h1, by rw [upd_ne (ne h2)]; exact h2⟩ ih
theorem seq_upd {H : Hp} {D a : Addr} {o : HO} {xs : List V} (h : SqL K H a xs) (ne : a ≠ D) : SqL K (upd H D o) a xs := by
  rcases h with (h | ⟨o', h⟩) | h
  · exact .inl (.inl (by rw [upd_ne ne]; exact h))
  · exact .inl (.inr ⟨o', by rw [upd_ne ne]; exact h⟩)
  · exact .inr h
/-- what a list of entries asks -/
structure InEnts (K : PySem.W.Frag) (H : Hp) (a : Addr) (vs : List V) (es : List Ent) : Prop where
  l : SqL K H a vs
  e : Ents H vs es
  z : es.length < sizeLine
theorem InEnts.mono {H H' : Hp} {a : Addr} {vs : List V} {es : List Ent} (s : Same H H') (h : InEnts K H a vs es) : InEnts K H' a vs es := ⟨s.seq h.l, h.e.mono s, h.z⟩
def spGather (K : PySem.W.Frag) : Sp := fun vs H Q _ => ∃ (a : Addr) (xs : List V) (es : List Ent), vs = [.ref a] ∧ InEnts K H a xs es ∧ (∀ e ∈ es, e.1 ≠ []) ∧ wantRow H es Q
theorem c__law_row {f : Addr} {fd : FuncData} (D : C8.Def K mg "_law_row" s__law_row f fd) (b : Binds K fd ["_law_pairs"] []) (T : Bi mg) : C8.Cal P w K mg base 1 "_law_row" (spGather K) [] := by
  refine C8.cal0 D b .nil sc__law_row (fun vs H Q E h => ?_) (fun cdv A outer s H vs Q E hr h => ?_)
  · obtain ⟨a, xs, es, rfl, _⟩ := h
    rfl
  · obtain ⟨a, xs, es, rfl, hE, hne, q⟩ := h
    refine ⟨_, (pss_cons (ps_set (i := 1) sc__law_row.nd rfl (Or.inr rfl) pe_dnewT)
  (pss_cons (ps_for PassesOwn.never rfl (pi_list (pv 0)) (pg_tup rfl (pgs_cons (pg_name (i := 2) sc__law_row.nd rfl (Or.inl rfl)) (pgs_cons (pg_name (i := 3) sc__law_row.nd rfl (Or.inl rfl)) pgs_nil))) (pss_one (ps_dput (hu_of hr) (pv 1) (pv 2) (pe_op op_add (pe_dget2 (hu_of hr) (pv 1) (pv 2) pe_int ⟨rfl, rfl, rfl, rfl⟩) (pv 3)) rfl)))
  (pss_one (ps_ret (pe_lc (own := [("_law_place", 2)]) (g := (gName 2)) rfl sc__law_row.nd (pi_list (pe_callB (cr_sortedDT rfl) (by rfl) T.n_sorted OT.b_sorted (pa_cons (pv 1) pa_nil))) (blkOk_by (N := ["_law_pairs", "_law_sums", "_law_place", "_law_number"]) (sc := C8.fnScope s__law_row) (by decide +kernel)) (fun _ _ _ _ _ => (pg_name (i := 2) sc__law_row.nd rfl (Or.inl rfl))) (fun _ _ _ _ _ => (pts_one (pt_cmpR op_ne (pe_dget (hu_of hr) (pv 1) (pv 2) (fun _ _ => rfl)) pe_int (nomark _)))) (fun _ _ _ _ _ => (pe_tup (pa_cons (pv 2) (pa_cons (pe_dget (hu_of hr) (pv 1) (pv 2) (fun _ _ => rfl)) pa_nil))))))))), ?_⟩
    refine fun d nd => ?_
    have s1 : Same H (upd H d (.dT [])) := same_upd nd
    refine ⟨_, rfl, a, rfl, ⟨xs, s1.seq hE.l⟩, ?_⟩
    refine for_list (K := K) (xs := xs) (fun i σ H2 => ∃ (kvs : List (List Key × V)) (ks : List Pl) (y2 y3 : Option V), σ = [some (.ref a), some (.ref d), y2, y3] ∧ Same H H2 ∧ H2 d = some (.dT kvs) ∧ Sums kvs ks (numAt (es.take i)) ∧ (∀ k ∈ ks, k ≠ []) ∧ ks.length ≤ i) ?_ ?_ ?_ ?_
    · exact ⟨[], [], none, none, rfl, s1, upd_same, Sums.nil, fun k hk => (by cases hk), Nat.le_refl _⟩
    · rintro i σ H2 _ ⟨_, _, _, _, _, sm, _⟩
      exact sm.seq hE.l
    · rintro i x σ H2 hx ⟨kvs, ks, y2, y3, rfl, sm, hd, hs, hk, hl⟩
      obtain ⟨e, he, hv⟩ := (hE.e.mono sm).get hx
      obtain ⟨t, p, rfl, ht, hp⟩ := hv
      have hi := (List.getElem?_eq_some_iff.mp he).1
      have hm : e ∈ es := List.mem_of_getElem? he
      have hz := hE.z
      refine ⟨t, _, rfl, .inl (.inl ht), rfl, _, _, rfl, _, _, rfl, rfl, ?_⟩
      refine ⟨_, rfl, d, rfl, .inr ⟨kvs, .inl hd⟩, _, rfl, _, dgetT hd hp rfl, _, rfl, numAt (es.take i) e.1, e.2, hs.getD _, rfl, _, rfl, _, rfl, d, _, rfl, DPut.t hd (k := e.1.map Sum.inl) (by rw [kV_ints]; exact hp) ?_, ?_⟩
      · rw [hs.len]
        omega
      · exact ⟨_, _, _, _, rfl, same_mut sm nd, upd_same, hs.next he, put_keys_ne hk (hne e hm), put_keys_len hl⟩
    · rintro σ H2 ⟨kvs, ks, y2, y3, rfl, sm, hd, hs, hk, hl⟩
      have hz := hE.z
      have hlen := hE.e.len
      rw [hlen, List.take_length] at hs
      have hkz : ks.length < sizeLine := by omega
      refine ⟨_, rfl, d, kvs, ks, rfl, .inl hd, hs.keys, fun _ => hk, fun out p perm pw nod held np => ?_⟩
      refine ⟨p, rfl, ⟨_, .inl (.inl upd_same)⟩, fun D nD => ?_⟩
      have hpD : p ≠ D := ne_of_none upd_same nD
      obtain ⟨hDn, _⟩ := none_of_upd nD
      have hkd : ∀ x ∈ out, x.2 ∈ ks := fun x hx => perm.mem_iff.mp (List.mem_map_of_mem hx)
      refine lc_list (K := K) (a := p) (xs := out.map fun x => V.ref x.1) (fun i H3 => Same H2 H3 ∧ H3 p = some (.lst (out.map fun x => V.ref x.1)) ∧ ∃ ws, H3 D = some (.lst ws) ∧ Ents H3 ws (mkR (numAt es) ((out.take i).map (·.2)))) ?_ ?_ ?_ ?_
      · refine ⟨(same_upd np).trans (same_upd nD), ?_, [], upd_same, .nil⟩
        rw [upd_ne hpD, upd_same]
      · rintro i H3 _ ⟨_, hp, _⟩
        exact .inl (.inl hp)
      · rintro i x H3 hx ⟨sm3, hp, ws, hD, hE3⟩
        obtain ⟨hi, rfl⟩ := getm hx
        have hm := List.getElem_mem hi
        have hk3 := sm3 _ _ (held _ hm)
        have hv := hs.get (hkd _ hm)
        have hd2 := sm3 _ _ hd
        refine ⟨rfl, _, rfl, _, rfl, d, _, rfl, dgetT hd2 hk3 hv, ?_⟩
        refine ⟨rfl, _, rfl, ?_⟩
        have htk : (out.take (i + 1)).map (·.2) = (out.take i).map (·.2) ++ [out[i].2] := take_map_succ (·.2) hi
        rw [htk, mkR_snoc]
        refine iteND (fun hn => ?_) (fun h0 => ?_)
        · have hn0 : numAt es out[i].2 ≠ 0 := fun z => hn (by rw [z])
          rw [if_neg hn0]
          refine ⟨_, rfl, _, rfl, _, rfl, d, _, rfl, dgetT hd2 hk3 hv, (by show 2 ≤ sizeLine; decide), fun t nt => ?_⟩
          have ntD : D ≠ t := ne_of_none hD nt
          have smt : Same H3 (upd H3 t (.tup [.ref out[i].1, .int (numAt es out[i].2)])) := same_upd nt
          have hD3 := smt _ _ hD
          refine ⟨ws, hD3, ?_, same_mut (sm3.trans smt) hDn, ?_, ws ++ [.ref t], upd_same, ?_⟩
          · have h1 := hE3.len
            have h2 := mkR_len (numAt es) ((out.take i).map (·.2))
            have h3 := perm.length_eq
            rw [List.length_map] at h2 h3
            rw [List.length_take] at h2
            omega
          · rw [upd_ne hpD]
            exact smt _ _ hp
          · refine ((hE3.mono smt).updL hD3).app (.cons (EntAt.updL hD3 ⟨t, _, rfl, upd_same, ?_⟩) .nil)
            exact smt _ _ hk3
        · have h0' : numAt es out[i].2 = 0 := V.int.inj h0
          rw [if_pos h0', List.append_nil]
          exact ⟨sm3, hp, ws, hD, hE3⟩
      · rintro H3 ⟨sm3, hp, ws, hD, hE3⟩
        rw [List.length_map, List.take_length] at hE3
        refine q _ D ws H3 (row_sorted perm pw nod hs.out) (sm.trans sm3) ?_ hD hE3
        cases z : H D with
        | none => rfl
        | some o =>
          rw [sm _ _ z] at hDn
          cases hDn
end
end OT

set_option Elab.async false
set_option linter.all false
set_option maxRecDepth 100000
set_option maxHeartbeats 2000000
namespace OT
open PySem PySem.Spec PyProof.Rows L2
section
variable {P : Program} {w : World} {K : PySem.W.Frag} {mg : Str → Option Value} {base : Heap}
/-- a row of places of n coordinates -/
structure RowN (n : Nat) (r : List Ent) : Prop where
  v : Valid r
  n1 : 1 ≤ n
  n3 : n ≤ 3
  at_ : ∀ e ∈ r, e.1.length = n
theorem asc_get {r : List Ent} (h : Valid r) {i j : Nat} (hi : i < r.length) (hj : j < r.length) (hij : i < j) : HT.lexLt r[i].1 r[j].1 = true := List.pairwise_iff_getElem.mp h.asc i j hi hj hij
def spIsRow (K : PySem.W.Frag) : Sp := fun vs H Q _ => ∃ (a : Addr) (ws : List V) (r : List Ent) (n : Nat), vs = [.ref a] ∧ H a = some (.lst ws) ∧ Ents H ws r ∧ RowN n r ∧ r.length ≤ 100000 ∧ Q (.bl true) H
theorem c__law_is_row {f : Addr} {fd : FuncData} (D : C8.Def K mg "_law_is_row" s__law_is_row f fd) (b : Binds K fd ["_law_actual"] []) (T : Bi mg) (c__law_is_place : C8.Cal P w K mg base 2 "_law_is_place" (spIsPlace K) []) (c__law_is_integer : C8.Cal P w K mg base 1 "_law_is_integer" spIsInt []) :
    C8.Cal P w K mg base 3 "_law_is_row" (spIsRow K) [] := by
  refine C8.cal0 D b .nil sc__law_is_row (fun vs H Q E h => ?_) (fun cdv A outer s H vs Q E hr h => ?_)
  · obtain ⟨a, ws, r, n, rfl, _⟩ := h
    rfl
  · obtain ⟨a, ws, r, n, rfl, ha, hE, hN, hz, q⟩ := h
    have hS : SqL K H a ws := .inl (.inl ha)
    refine ⟨_, (pss_cons (ps_if (pt_not (pt_val (pe_callB call_isi (by rfl) T.n_isinstance OT.b_isinstance (pa_cons (pv 0) (pa_cons (pe_bltn (v := .ty "list") (by rfl) T.n_list OT.b_list rfl) pa_nil))))) (pss_one (ps_ret pe_bl)) pss_nil)
  (pss_cons (ps_for PassesOwn.never rfl (pi_range1 rfl T.n_range (pa_cons (pe_callB call_len_seq (by rfl) T.n_len OT.b_len (pa_cons (pv 0) pa_nil)) pa_nil)) (pg_name (i := 1) sc__law_is_row.nd rfl (Or.inl rfl)) (pss_cons (ps_set (i := 2) sc__law_is_row.nd rfl (Or.inl rfl) (pe_ix ix_list (pv 0) (pv 1) (fun _ _ => rfl)))
  (pss_cons (ps_if (PW.pt (pw_or (pt_not (pt_val (pe_callB call_isi (by rfl) T.n_isinstance OT.b_isinstance (pa_cons (pv 2) (pa_cons (pe_bltn (v := .ty "tuple") (by rfl) T.n_tuple OT.b_tuple rfl) pa_nil))))) (pw_or1 (pt_cmpR op_ne (pe_callB call_len_seq (by rfl) T.n_len OT.b_len (pa_cons (pv 2) pa_nil)) pe_int (nomark _))))) (pss_one (ps_ret pe_bl)) pss_nil)
  (pss_cons (ps_if (PW.pt (pw_or (pt_not (pt_val (C8.pe_c c__law_is_place hr (by decide) (by rfl) (pa_cons (pe_ix ix_tup (pv 2) pe_int (fun _ _ => rfl)) pa_nil)))) (pw_or (pt_not (pt_val (C8.pe_c c__law_is_integer hr (by decide) (by rfl) (pa_cons (pe_ix ix_tup (pv 2) pe_int (fun _ _ => rfl)) pa_nil)))) (pw_or1 (pt_cmpR op_eq (pe_ix ix_tup (pv 2) pe_int (fun _ _ => rfl)) pe_int (nomark _)))))) (pss_one (ps_ret pe_bl)) pss_nil)
  (pss_cons (ps_if (pt_cmpR op_ne (pe_callB call_len_seq (by rfl) T.n_len OT.b_len (pa_cons (pe_ix ix_tup (pv 2) pe_int (fun _ _ => rfl)) pa_nil)) (pe_callB call_len_seq (by rfl) T.n_len OT.b_len (pa_cons (pe_ix ix_tup (pe_ix ix_list (pv 0) pe_int (fun _ _ => rfl)) pe_int (fun _ _ => rfl)) pa_nil)) (nomark _)) (pss_one (ps_ret pe_bl)) pss_nil)
  (pss_one (ps_if (PW.pt (pw_and (pt_cmpR op_gt (pv 1) pe_int (nomark _)) (pw_and1 (pt_not (pt_cmpR (op_ltT hr.units0) (pe_ix ix_tup (pe_ix ix_list (pv 0) (pe_op op_sub (pv 1) pe_int) (fun _ _ => rfl)) pe_int (fun _ _ => rfl)) (pe_ix ix_tup (pv 2) pe_int (fun _ _ => rfl)) (nomark _)))))) (pss_one (ps_ret pe_bl)) pss_nil)))))))
  (pss_one (ps_ret pe_bl)))), ?_⟩
    refine ⟨_, rfl, _, _, _, _, _, rfl, .ty _, .base (.lst ha), kit_ty kb_ll, _, rfl, ?_⟩
    refine iteF ?_
    refine ⟨_, rfl, a, _, rfl, .inl hS, _, rfl, ?_, ?_, ?_⟩
    · omega
    · have h2 := hE.len
      have : (2 : Int) ^ 62 = 4611686018427387904 := by decide
      omega
    rw [Int.toNat_natCast, hE.len]
    refine for_range (fun i σ H2 => ∃ y1 y2, σ = [some (.ref a), y1, y2] ∧ H2 = H) ⟨none, none, rfl, rfl⟩ ?_ ?_
    · rintro i σ H2 hi ⟨y1, y2, rfl, rfl⟩
      obtain ⟨v, hv, t, p, rfl, ht, hp⟩ := hE.at hi
      obtain ⟨v0, hv0, t0, p0, rfl, ht0, hp0⟩ := hE.at (i := 0) (by omega)
      have hm := List.getElem_mem hi
      have hm0 := List.getElem_mem (show 0 < r.length by omega)
      have hT : SqT K H2 t [.ref p, .int r[i].2] := .inl (.inl ht)
      have hT0 : SqT K H2 t0 [.ref p0, .int (r[0]'(by omega)).2] := .inl (.inl ht0)
      have hP : SqT K H2 p (r[i].1.map V.int) := .inl (.inl hp)
      have hP0 : SqT K H2 p0 ((r[0]'(by omega)).1.map V.int) := .inl (.inl hp0)
      refine ⟨_, rfl, _, rfl, a, _, _, .ref t, rfl, rfl, hS, by rw [Int.zero_add]; exact atI_nat hv, ?_⟩
      refine ⟨_, rfl, _, _, _, _, _, rfl, .ty _, .base (.tup ht), kit_ty kb_tt, _, rfl, ?_⟩
      refine iteF ?_
      refine ⟨_, rfl, t, _, rfl, .inr hT, rfl, _, rfl, ?_⟩
      refine iteF ?_
      refine ⟨_, rfl, t, _, 0, _, rfl, rfl, hT, atI_nat (j := 0) rfl, p, _, rfl, hp, by rw [hN.at_ _ hm]; exact hN.n1, by rw [hN.at_ _ hm]; exact hN.n3, _, rfl, ?_⟩
      refine iteF ?_
      refine ⟨_, rfl, t, _, 1, _, rfl, rfl, hT, atI_nat (j := 1) rfl, _, rfl, _, rfl, ?_⟩
      refine iteF ?_
      refine ⟨_, rfl, t, _, 1, _, rfl, rfl, hT, atI_nat (j := 1) rfl, rfl, _, rfl, iteD (fun z => absurd (V.int.inj z) (hN.v.nz _ hm)) (fun _ => ?_)⟩
      refine ⟨_, rfl, t, _, 0, _, rfl, rfl, hT, atI_nat (j := 0) rfl, p, _, rfl, .inr hP, _, rfl, a, _, 0, _, rfl, rfl, hS, atI_nat (j := 0) hv0, t0, _, 0, _, rfl, rfl, hT0, atI_nat (j := 0) rfl, p0, _, rfl, .inr hP0, rfl, _, rfl, iteND (fun z => ?_) (fun _ => ?_)⟩
      · rw [List.length_map, List.length_map, hN.at_ _ hm, hN.at_ _ hm0] at z
        exact absurd rfl z
      refine ⟨_, rfl, _, _, rfl, rfl, _, rfl, iteD (fun hk => ?_) (fun _ => ?_)⟩
      · have hi1 : i - 1 < r.length := by omega
        obtain ⟨v1, hv1, t1, p1, rfl, ht1, hp1⟩ := hE.at (i := i - 1) hi1
        have hT1 : SqT K H2 t1 [.ref p1, .int (r[i - 1]'hi1).2] := .inl (.inl ht1)
        refine ⟨_, rfl, _, rfl, _, _, rfl, rfl, a, _, _, _, rfl, rfl, hS, ?_, t1, _, 0, _, rfl, rfl, hT1, atI_nat (j := 0) rfl, _, rfl, t, _, 0, _, rfl, rfl, hT, atI_nat (j := 0) rfl, p1, p, _, _, rfl, rfl, .inl (.inl hp1), hP, _, rfl, ?_⟩
        · rw [show (0 : Int) + (i : Int) - 1 = ((i - 1 : Nat) : Int) by omega]
          exact atI_nat hv1
        · rw [asc_get hN.v hi1 hi (by omega)]
          refine iteF ?_
          exact ⟨_, _, rfl, rfl⟩
      · exact ⟨_, _, rfl, rfl⟩
    · rintro σ H2 ⟨y1, y2, rfl, rfl⟩
      exact q
def spSame (K : PySem.W.Frag) : Sp := fun vs H Q _ => ∃ (a c : Addr) (ws us : List V) (r : List Ent) (n : Nat), vs = [.ref a, .ref c] ∧ H a = some (.lst ws) ∧ Ents H ws r ∧ H c = some (.lst us) ∧ Ents H us r ∧ RowN n r ∧ r.length ≤ 100000 ∧ Q (.bl true) H
theorem c__law_same {f : Addr} {fd : FuncData} (D : C8.Def K mg "_law_same" s__law_same f fd) (b : Binds K fd ["_law_actual", "_law_expected"] []) (T : Bi mg) (c__law_is_row : C8.Cal P w K mg base 3 "_law_is_row" (spIsRow K) []) :
    C8.Cal P w K mg base 4 "_law_same" (spSame K) [] := by
  refine C8.cal0 D b .nil sc__law_same (fun vs H Q E h => ?_) (fun cdv A outer s H vs Q E hr h => ?_)
  · obtain ⟨a, c, ws, us, r, n, rfl, _⟩ := h
    rfl
  · obtain ⟨a, c, ws, us, r, n, rfl, ha, hE, hc, hF, hN, hz, q⟩ := h
    refine ⟨_, (pss_one (ps_ret (pe_and (C8.pe_c c__law_is_row hr (by decide) (by rfl) (pa_cons (pv 0) pa_nil)) (pe_one (pe_cmpR (op_eqD hr.units) (pv 0) (pv 1) (nomark _)))))), ?_⟩
    refine ⟨_, rfl, a, ws, r, n, rfl, ha, hE, hN, hz, _, rfl, ?_⟩
    refine iteT ?_
    refine ⟨_, rfl, _, rfl, dRow r, dRow r, hE.dp (.inl (.inl ha)), hF.dp (.inl (.inl hc)), shaped_row r, shaped_row r, ?_⟩
    rw [SeqAt.eqv_refl _ (SeqAt.canLay_of_shaped (shaped_row r))]
    exact q
end
end OT

set_option Elab.async false
set_option linter.all false
set_option maxRecDepth 100000
set_option maxHeartbeats 2000000
namespace OT
open PySem PySem.Spec PyProof.Rows L2
/-! ### places -/
def plusP (k l : Pl) : Pl := List.zipWith (· + ·) k l
theorem plusP_len {k l : Pl} (h : k.length ≤ l.length) : (plusP k l).length = k.length := by
  unfold plusP
  rw [List.length_zipWith, Nat.min_eq_left h]
theorem plusP_get {k l : Pl} {i : Nat} (h : i < (plusP k l).length) (h1 : i < k.length) (h2 : i < l.length) : (plusP k l)[i] = k[i] + l[i] := by
  unfold plusP
  exact List.getElem_zipWith ..
theorem plusP_mem {k l : Pl} {x : Int} (h : x ∈ plusP k l) : ∃ a ∈ k, ∃ b ∈ l, x = a + b := by
  obtain ⟨i, hi, rfl⟩ := List.getElem_of_mem h
  have hk : i < k.length := by
    unfold plusP at hi
    rw [List.length_zipWith] at hi
    omega
  have hl : i < l.length := by
    unfold plusP at hi
    rw [List.length_zipWith] at hi
    omega
  exact ⟨_, List.getElem_mem hk, _, List.getElem_mem hl, plusP_get hi hk hl⟩
theorem plusP_lt : ∀ {a b l : Pl}, a.length ≤ l.length → b.length ≤ l.length → HT.lexLt (plusP a l) (plusP b l) = HT.lexLt a b
  | [], [], _, _, _ => rfl
  | [], _ :: _, _ :: _, _, _ => rfl
  | _ :: _, [], _ :: _, _, _ => rfl
  | x :: a, y :: b, z :: l, h1, h2 => by
    show (if x + z = y + z then HT.lexLt (plusP a l) (plusP b l) else decide (x + z < y + z)) = if x = y then HT.lexLt a b else decide (x < y)
    rw [plusP_lt (Nat.le_of_succ_le_succ h1) (Nat.le_of_succ_le_succ h2)]
    by_cases e : x = y
    · rw [if_pos e, if_pos (by rw [e])]
    · rw [if_neg e, if_neg (by omega)]
      by_cases h : x < y
      · rw [decide_eq_true h, decide_eq_true (by omega)]
      · rw [decide_eq_false h, decide_eq_false (by omega)]
def movL (es : List Ent) (l : Pl) : List Ent := es.map fun e => (plusP e.1 l, e.2)
theorem movL_valid {es : List Ent} {l : Pl} (h : Valid es) (hl : ∀ e ∈ es, e.1.length ≤ l.length) : Valid (movL es l) := by
  refine ⟨?_, fun e he => ?_⟩
  · unfold movL
    rw [List.pairwise_map]
    refine List.Pairwise.imp_of_mem (fun {x y} hx hy q => ?_) h.asc
    rw [plusP_lt (hl x hx) (hl y hy)]
    exact q
  · obtain ⟨x, hx, rfl⟩ := List.mem_map.mp he
    exact h.nz x hx
theorem numAt_bound {es : List Ent} {m : Nat} (h : ∀ e ∈ es, e.2.natAbs ≤ m) (q : Pl) : (numAt es q).natAbs ≤ es.length * m := by
  induction es with
  | nil => exact Nat.zero_le _
  | cons e r ih =>
    have h1 := h e List.mem_cons_self
    have h2 := ih fun x hx => h x (List.mem_cons_of_mem _ hx)
    show ((if e.1 = q then e.2 else 0) + numAt r q).natAbs ≤ (r.length + 1) * m
    rw [Nat.succ_mul]
    by_cases c : e.1 = q
    · rw [if_pos c]
      omega
    · rw [if_neg c]
      omega
theorem RowIs.bound {r es : List Ent} {m : Nat} (h : RowIs r es) (hb : ∀ e ∈ es, e.2.natAbs ≤ m) : ∀ e ∈ r, e.2.natAbs ≤ es.length * m := fun e he => by
  have h1 := h.v.at e he
  rw [h.s] at h1
  rw [← h1]
  exact numAt_bound hb _
/-- tuples of ints, in turn -/
inductive Pls (H : Hp) : List V → List Pl → Prop
  | nil : Pls H [] []
  | cons {p : Addr} {k : Pl} {vs : List V} {ks : List Pl} : H p = some (.tup (k.map V.int)) → Pls H vs ks → Pls H (.ref p :: vs) (k :: ks)
theorem Pls.len {H : Hp} {vs : List V} {ks : List Pl} (h : Pls H vs ks) : vs.length = ks.length := by
  induction h with
  | nil => rfl
  | cons _ _ ih => rw [List.length_cons, List.length_cons, ih]
theorem Pls.mono {H H' : Hp} {vs : List V} {ks : List Pl} (s : ∀ b o, H b = some o → H' b = some o) (h : Pls H vs ks) : Pls H' vs ks := by
  induction h with
  | nil => exact .nil
  | cons h1 _ ih => exact .cons (s _ _ h1) ih
theorem Pls.app {H : Hp} {vs ws : List V} {ks ls : List Pl} (h : Pls H vs ks) (g : Pls H ws ls) : Pls H (vs ++ ws) (ks ++ ls) := by
  induction h with
  | nil => exact g
  | cons h1 _ ih => exact .cons h1 ih
theorem Pls.updL {H : Hp} {D : Addr} {l l' : List V} {vs : List V} {ks : List Pl} (hD : H D = some (.lst l)) (h : Pls H vs ks) : Pls (upd H D (.lst l')) vs ks := by
  induction h with
  | nil => exact .nil
  | cons h1 _ ih => exact .cons (by rw [upd_ne (ne_lst h1 hD)]; exact h1) ih
theorem Pls.get {H : Hp} {vs : List V} {ks : List Pl} (h : Pls H vs ks) : ∀ {i : Nat} {v : V}, vs[i]? = some v → ∃ p k, v = .ref p ∧ ks[i]? = some k ∧ H p = some (.tup (k.map V.int)) := by
  induction h with
  | nil => intro i v h; simp at h
  | cons h1 _ ih =>
    intro i v hv
    cases i with
    | zero =>
      cases hv
      exact ⟨_, _, rfl, rfl, h1⟩
    | succ i => exact ih (i := i) hv
section
variable {P : Program} {w : World} {K : PySem.W.Frag} {mg : Str → Option Value} {base : Heap}
theorem small100k {n : Nat} (h : n ≤ 100000) : n < sizeLine := Nat.lt_of_le_of_lt h (by decide)
theorem b62 {n : Nat} (h : n ≤ 100000) : (n : Int) < 2 ^ 62 := by
  have : (2 : Int) ^ 62 = 4611686018427387904 := by decide
  omega
def spPlus (K : PySem.W.Frag) : Sp := fun vs H Q _ => ∃ (a b : Addr) (k l : Pl), vs = [.ref a, .ref b] ∧ SqT K H a (k.map V.int) ∧ SqT K H b (l.map V.int) ∧ k.length ≤ l.length ∧ k.length ≤ 1000 ∧ ∀ p H', Same H H' → H' p = some (.tup ((plusP k l).map V.int)) → Q (.ref p) H'
theorem c__law_plus {f : Addr} {fd : FuncData} (D : C8.Def K mg "_law_plus" s__law_plus f fd) (b : Binds K fd ["_law_place", "_law_other"] []) (T : Bi mg) : C8.Cal P w K mg base 1 "_law_plus" (spPlus K) [] := by
  refine C8.cal0 D b .nil sc__law_plus (fun vs H Q E h => ?_) (fun cdv A outer s H vs Q E hr h => ?_)
  · obtain ⟨a, b, k, l, rfl, _⟩ := h
    rfl
  · obtain ⟨a, b, k, l, rfl, hk, hl, hkl, hz, q⟩ := h
    refine ⟨_, (pss_one (ps_ret (pe_callTy call_tuple_of (by rfl) T.n_tuple OT.b_tuple (pa_cons (pe_lc (own := [("_law_k", 2)]) (g := (gName 2)) (tt := tYes) rfl sc__law_plus.nd (pi_range1 rfl T.n_range (pa_cons (pe_callB call_len_seq (by rfl) T.n_len OT.b_len (pa_cons (pv 0) pa_nil)) pa_nil)) (blkOk_by (N := ["_law_place", "_law_other", "_law_k"]) (sc := C8.fnScope s__law_plus) (by decide +kernel)) (fun _ _ _ _ _ => (pg_name (i := 2) sc__law_plus.nd rfl (Or.inl rfl))) (fun _ _ _ _ _ => pts_nil) (fun _ _ _ _ _ => (pe_op op_add (pe_ix (show IxR _ (rIxT K) from ix_tup) (pv 0) (pv 2) (fun _ _ => rfl)) (pe_ix (show IxR _ (rIxT K) from ix_tup) (pv 1) (pv 2) (fun _ _ => rfl))))) pa_nil)))), ?_⟩
    have hpl := plusP_len hkl
    refine ⟨_, rfl, a, _, rfl, .inr hk, _, rfl, by omega, b62 (by rw [List.length_map]; omega), fun p np => ?_⟩
    rw [List.length_map, Int.toNat_natCast]
    refine lc_range (lo := 0) (n := k.length) (fun i H2 => Same H H2 ∧ H2 p = some (.lst (((plusP k l).take i).map V.int))) ⟨same_upd np, upd_same⟩ ?_ ?_
    · rintro i H2 hi ⟨sm, hp⟩
      have hil : i < l.length := by omega
      have hip : i < (plusP k l).length := by omega
      have gk : atI (k.map V.int) ((0 : Int) + (i : Int)) = some (.int k[i]) := by
        rw [Int.zero_add]
        exact atI_nat (by rw [List.getElem?_map, List.getElem?_eq_getElem hi]; rfl)
      have gl : atI (l.map V.int) ((0 : Int) + (i : Int)) = some (.int l[i]) := by
        rw [Int.zero_add]
        exact atI_nat (by rw [List.getElem?_map, List.getElem?_eq_getElem hil]; rfl)
      refine ⟨rfl, tYes_of ?_⟩
      refine ⟨_, rfl, _, rfl, a, _, _, _, rfl, rfl, same_t sm hk, gk, _, rfl, _, rfl, b, _, _, _, rfl, rfl, same_t sm hl, gl, _, _, rfl, rfl, _, hp, ?_, same_mut sm np, ?_⟩
      · rw [List.length_map, List.length_take]
        exact small1000 (by omega)
      · rw [upd_same, take_map_succ V.int hip, plusP_get hip hi hil]
    · rintro H2 ⟨sm, hp⟩
      rw [← hpl, List.take_length] at hp
      exact ⟨p, _, rfl, .inl ⟨.inl (.inl hp), fun t nt => q t _ (sm.trans (same_upd nt)) upd_same⟩⟩
def spMoved (K : PySem.W.Frag) : Sp := fun vs H Q _ => ∃ (a b : Addr) (xs : List V) (es : List Ent) (l : Pl), vs = [.ref a, .ref b] ∧ InEnts K H a xs es ∧ SqT K H b (l.map V.int) ∧ (∀ e ∈ es, e.1.length ≤ l.length) ∧ l.length ≤ 1000 ∧
  ∀ p ws H', Same H H' → H p = none → H' p = some (.lst ws) → Ents H' ws (movL es l) → Q (.ref p) H'
theorem c__law_moved {f : Addr} {fd : FuncData} (D : C8.Def K mg "_law_moved" s__law_moved f fd) (b : Binds K fd ["_law_row_here", "_law_by"] []) (T : Bi mg) (c__law_plus : C8.Cal P w K mg base 1 "_law_plus" (spPlus K) []) : C8.Cal P w K mg base 2 "_law_moved" (spMoved K) [] := by
  refine C8.cal0 D b .nil sc__law_moved (fun vs H Q E h => ?_) (fun cdv A outer s H vs Q E hr h => ?_)
  · obtain ⟨a, b, xs, es, l, rfl, _⟩ := h
    rfl
  · obtain ⟨a, b, xs, es, l, rfl, hE, hl, hle, hz, q⟩ := h
    refine ⟨_, (pss_one (ps_ret (pe_lc (own := [("_law_entry", 2)]) (g := (gName 2)) (tt := tYes) rfl sc__law_moved.nd (pi_list (pv 0)) (blkOk_by (N := ["_law_row_here", "_law_by", "_law_entry"]) (sc := C8.fnScope s__law_moved) (by decide +kernel)) (fun _ _ _ _ _ => (pg_name (i := 2) sc__law_moved.nd rfl (Or.inl rfl))) (fun _ _ _ _ _ => pts_nil) (fun _ _ _ _ _ => (pe_tup (pa_cons (C8.pe_c c__law_plus hr (by decide) (by rfl) (pa_cons (pe_ix (show IxR _ (rIxT K) from ix_tup) (pv 2) pe_int (fun _ _ => rfl)) (pa_cons (pv 1) pa_nil))) (pa_cons (pe_ix (show IxR _ (rIxT K) from ix_tup) (pv 2) pe_int (fun _ _ => rfl)) pa_nil))))))), ?_⟩
    have hx := hE.e.len
    have hez := hE.z
    refine ⟨_, rfl, a, rfl, ⟨_, hE.l⟩, fun p np => ?_⟩
    refine lc_list (K := K) (xs := xs) (fun i H2 => Same H H2 ∧ ∃ ws, H2 p = some (.lst ws) ∧ Ents H2 ws (movL (es.take i) l)) ?_ ?_ ?_ ?_
    · exact ⟨same_upd np, [], upd_same, .nil⟩
    · rintro i H2 _ ⟨sm, _⟩
      exact sm.seq hE.l
    · rintro i x H2 hxi ⟨sm, ws, hp, hW⟩
      obtain ⟨e, he, t, pe, rfl, ht, hpe⟩ := (hE.e.mono sm).get hxi
      obtain ⟨hi, hee⟩ := List.getElem?_eq_some_iff.mp he
      have hm := List.mem_of_getElem? he
      have hT : SqT K H2 t [.ref pe, .int e.2] := .inl (.inl ht)
      refine ⟨rfl, tYes_of ?_⟩
      refine ⟨_, rfl, t, _, 0, _, rfl, rfl, hT, atI_nat (j := 0) rfl, _, rfl, pe, b, e.1, l, rfl, .inl (.inl hpe), same_t sm hl, hle e hm, Nat.le_trans (hle e hm) hz, fun p3 H3 sm3 hp3 => ?_⟩
      refine ⟨_, rfl, t, _, 1, _, rfl, rfl, same_t sm3 hT, atI_nat (j := 1) rfl, (by show 2 ≤ sizeLine; decide), fun t4 nt4 => ?_⟩
      have sm4 : Same H3 (upd H3 t4 (.tup [.ref p3, .int e.2])) := same_upd nt4
      have smA := sm3.trans sm4
      have hv : EntAt (upd H3 t4 (.tup [.ref p3, .int e.2])) (.ref t4) (plusP e.1 l, e.2) := ⟨t4, p3, rfl, upd_same, sm4 _ _ hp3⟩
      have hD := smA _ _ hp
      have hwl := hW.len
      refine ⟨ws, hD, ?_, same_mut (sm.trans smA) np, ws ++ [.ref t4], upd_same, ?_⟩
      · unfold movL at hwl
        rw [List.length_map, List.length_take] at hwl
        omega
      · have ht1 : es.take (i + 1) = es.take i ++ [e] := by
          rw [List.take_add_one, he]
          rfl
        unfold movL
        rw [ht1, List.map_append]
        exact ((hW.mono smA).app (.cons hv .nil)).updL hD
    · rintro H2 ⟨sm, ws, hp, hW⟩
      rw [hx, List.take_length] at hW
      exact q p ws H2 sm np hp hW
def spBox (K : PySem.W.Frag) : Sp := fun vs H Q _ => ∃ (k u : Nat), vs = [.int (k : Int), .int (u : Int)] ∧ k < 3 ∧ ∀ p (bs : List Nat) H', (bs = [u] ∨ bs = [u, 2] ∨ bs = [2, 2, 2]) → bs.length = k + 1 → Same H H' → H' p = some (.lst (bs.map fun (n : Nat) => V.int n)) → Q (.ref p) H'
theorem c__law_box {f : Addr} {fd : FuncData} (D : C8.Def K mg "_law_box" s__law_box f fd) (b : Binds K fd ["_law_kind", "_law_wide"] []) (T : Bi mg) : C8.Cal P w K mg base 1 "_law_box" (spBox K) [] := by
  refine C8.cal0 D b .nil sc__law_box (fun vs H Q E h => ?_) (fun cdv A outer s H vs Q E hr h => ?_)
  · obtain ⟨k, u, rfl, _⟩ := h
    rfl
  · obtain ⟨k, u, rfl, hk, q⟩ := h
    refine ⟨_, (pss_cons (ps_if (pt_cmpR op_eq (pv 0) pe_int (nomark _)) (pss_one (ps_ret (pe_lst (pa_cons (pv 1) pa_nil)))) pss_nil)
  (pss_cons (ps_if (pt_cmpR op_eq (pv 0) pe_int (nomark _)) (pss_one (ps_ret (pe_lst (pa_cons (pv 1) (pa_cons pe_int pa_nil))))) pss_nil)
  (pss_one (ps_ret (pe_lst (pa_cons pe_int (pa_cons pe_int (pa_cons pe_int pa_nil)))))))), ?_⟩
    refine ⟨_, rfl, rfl, _, rfl, iteD (fun h => ?_) (fun h => ?_)⟩
    · refine ⟨_, rfl, (by show 1 ≤ sizeLine; decide), fun p np => ?_⟩
      have h0 := V.int.inj h
      exact q p [u] _ (.inl rfl) (by show 1 = k + 1; omega) (same_upd np) upd_same
    · refine ⟨_, rfl, rfl, _, rfl, iteD (fun h2 => ?_) (fun h2 => ?_)⟩
      · refine ⟨_, rfl, (by show 2 ≤ sizeLine; decide), fun p np => ?_⟩
        have h0 := V.int.inj h2
        exact q p [u, 2] _ (.inr (.inl rfl)) (by show 2 = k + 1; omega) (same_upd np) upd_same
      · refine ⟨(by show 3 ≤ sizeLine; decide), fun p np => ?_⟩
        have h0 : k ≠ 0 := fun e => h (by rw [e]; rfl)
        have h1 : k ≠ 1 := fun e => h2 (by rw [e]; rfl)
        exact q p [2, 2, 2] _ (.inr (.inr rfl)) (by show 3 = k + 1; omega) (same_upd np) upd_same
end
end OT

set_option Elab.async false
set_option linter.all false
set_option maxRecDepth 100000
set_option maxHeartbeats 2000000
namespace OT
open PySem PySem.Spec PyProof.Rows L2
theorem InR.get {ds zs : List Int} (h : InR ds zs) {i : Nat} {z : Int} (hz : zs[i]? = some z) : ∃ d, (ds.map V.int)[i]? = some (.int d) ∧ 0 ≤ d ∧ d < z := by
  have hi : i < ds.length := by
    rw [h.1]
    exact (List.getElem?_eq_some_iff.mp hz).1
  have e : ds[i]? = some ds[i] := List.getElem?_eq_getElem hi
  exact ⟨ds[i], by rw [List.getElem?_map, e]; rfl, h.2 i _ z e hz⟩
theorem ixN_nat {n j : Nat} (h : j < n) : ixN n (j : Int) = some j := by
  unfold ixN
  rw [if_pos (by omega), if_pos (by omega), Int.toNat_natCast]
theorem mod_nat {n : Nat} (h : 0 < n) (z : Int) : ∃ j : Nat, z % (n : Int) = (j : Int) ∧ j < n := by
  have h0 : 0 ≤ z % (n : Int) := Int.emod_nonneg _ (by omega)
  have h1 : z % (n : Int) < n := Int.emod_lt_of_pos _ (by omega)
  obtain ⟨j, hj⟩ := Int.eq_ofNat_of_zero_le h0
  exact ⟨j, hj, by omega⟩
/-- how many places a box has -/
def pr (bs : List Nat) : Nat := bs.foldl (· * ·) 1
theorem pr_snoc (bs : List Nat) (n : Nat) : pr (bs ++ [n]) = pr bs * n := by
  unfold pr
  rw [List.foldl_append]
  rfl
theorem pr_take {bs : List Nat} {i : Nat} (h : i < bs.length) : pr (bs.take (i + 1)) = pr (bs.take i) * bs[i] := by
  rw [List.take_add_one, List.getElem?_eq_getElem h]
  exact pr_snoc _ _
structure PlaceN (W n : Nat) (ks : List Pl) : Prop where
  l : ∀ k ∈ ks, k.length = n
  c : ∀ k ∈ ks, ∀ x ∈ k, 0 ≤ x ∧ x < (W : Int)
theorem PlaceN.push {W n : Nat} {ks : List Pl} {k : Pl} {m : Nat} (h : PlaceN W (n + 1) ks) (hl : k.length = n) (hc : ∀ x ∈ k, 0 ≤ x ∧ x < (W : Int)) (hm : m < W) : PlaceN W (n + 1) (ks ++ [k ++ [(m : Int)]]) := by
  constructor
  · intro y hy
    rcases List.mem_append.mp hy with hy | hy
    · exact h.l y hy
    · rw [List.mem_singleton.mp hy, List.length_append, hl]
      rfl
  · intro y hy x hx
    rcases List.mem_append.mp hy with hy | hy
    · exact h.c y hy x hx
    · rw [List.mem_singleton.mp hy] at hx
      rcases List.mem_append.mp hx with hx | hx
      · exact hc x hx
      · rw [List.mem_singleton.mp hx]
        omega
section
variable {P : Program} {w : World} {K : PySem.W.Frag} {mg : Str → Option Value} {base : Heap}
/-- a box that is small -/
structure BoxOk (W : Nat) (bs : List Nat) : Prop where
  n : bs.length ≤ 3
  w : ∀ n ∈ bs, n ≤ W
  p : ∀ i, pr (bs.take i) ≤ 64000
def spPlaces (K : PySem.W.Frag) : Sp := fun vs H Q _ => ∃ (b : Addr) (bs : List Nat) (W : Nat), vs = [.ref b] ∧ SqL K H b (bs.map fun (n : Nat) => V.int n) ∧ BoxOk W bs ∧ W ≤ 1000 ∧
  ∀ p ws ks H', Same H H' → H' p = some (.lst ws) → Pls H' ws ks → ks.length = pr bs → PlaceN W bs.length ks → Q (.ref p) H'
theorem c__law_places {f : Addr} {fd : FuncData} (D : C8.Def K mg "_law_places" s__law_places f fd) (b : Binds K fd ["_law_box_here"] []) (T : Bi mg) : C8.Cal P w K mg base 1 "_law_places" (spPlaces K) [] := by
  refine C8.cal0 D b .nil sc__law_places (fun vs H Q E h => ?_) (fun cdv A outer s H vs Q E hr h => ?_)
  · obtain ⟨b, bs, W, rfl, _⟩ := h
    rfl
  · obtain ⟨b, bs, W, rfl, hB, ok, hW0, q⟩ := h
    refine ⟨_, (pss_cons (ps_set (i := 1) sc__law_places.nd rfl (Or.inl rfl) (pe_lst (pa_cons (pe_tup pa_nil) pa_nil)))
  (pss_cons (ps_for PassesOwn.never rfl (pi_list (pv 0)) (pg_name (i := 2) sc__law_places.nd rfl (Or.inl rfl)) (pss_cons (ps_set (i := 3) sc__law_places.nd rfl (Or.inl rfl) (pe_lst pa_nil))
  (pss_cons (ps_for PassesOwn.never rfl (pi_list (pv 1)) (pg_name (i := 4) sc__law_places.nd rfl (Or.inl rfl)) (pss_one (ps_for PassesOwn.never rfl (pi_range1 rfl T.n_range (pa_cons (pv 2) pa_nil)) (pg_name (i := 5) sc__law_places.nd rfl (Or.inl rfl)) (pss_one (ps_expr (pe_bm PySem.F.plainAttrs_list PySem.F.slot_list_append PySem.F.type_list_append mt_append (pv 3) (pa_cons (pe_op op_catA (pv 4) (pe_tup (pa_cons (pv 5) pa_nil))) pa_nil)))))))
  (pss_one (ps_set (i := 1) sc__law_places.nd rfl (Or.inl rfl) (pe_callTy call_list_of (by rfl) T.n_list OT.b_list (pa_cons (pv 3) pa_nil)))))))
  (pss_one (ps_ret (pv 1))))), ?_⟩
    refine ⟨(by show 0 ≤ sizeLine; decide), fun t0 nt0 => ⟨(by show 1 ≤ sizeLine; decide), fun p0 np0 => ?_⟩⟩
    have s0 : Same H (upd H t0 (.tup [])) := same_upd nt0
    have s1 : Same (upd H t0 (.tup [])) (upd (upd H t0 (.tup [])) p0 (.lst [.ref t0])) := same_upd np0
    refine ⟨_, rfl, b, rfl, ⟨_, (s0.trans s1).seq hB⟩, ?_⟩
    refine for_list (K := K) (xs := bs.map fun (n : Nat) => V.int n) (fun i σ H2 => ∃ (p : Addr) (ws : List V) (ks : List Pl) (y2 y3 y4 y5 : Option V), σ = [some (.ref b), some (.ref p), y2, y3, y4, y5] ∧ Same H H2 ∧ H2 p = some (.lst ws) ∧ Pls H2 ws ks ∧ ks.length = pr (bs.take i) ∧ PlaceN W i ks) ?_ ?_ ?_ ?_
    · refine ⟨p0, _, [[]], none, none, none, none, rfl, s0.trans s1, upd_same, .cons (s1 _ _ upd_same) .nil, rfl, ⟨fun k hk => ?_, fun k hk x hx => ?_⟩⟩
      · rw [List.mem_singleton.mp hk]
        rfl
      · rw [List.mem_singleton.mp hk] at hx
        cases hx
    · rintro i σ H2 _ ⟨_, _, _, _, _, _, _, _, sm, _⟩
      exact sm.seq hB
    · rintro i x σ H2 hx ⟨p, ws, ks, y2, y3, y4, y5, rfl, sm, hp, hW, hkl, hN⟩
      obtain ⟨hi, rfl⟩ := getm hx
      have hwi := ok.w _ (List.getElem_mem hi)
      have hpi := ok.p i
      have hpi1 := ok.p (i + 1)
      rw [pr_take hi] at hpi1
      generalize hbn : bs[i] = n at hwi hpi1 ⊢
      rw [← hkl] at hpi hpi1
      have hwl := hW.len
      refine ⟨Nat.zero_le _, fun D nD => ?_⟩
      have s2 : Same H2 (upd H2 D (.lst [])) := same_upd nD
      have nDl : D ≠ p := (ne_of_none hp nD).symm
      refine ⟨_, rfl, p, rfl, ⟨_, .inl (.inl (s2 _ _ hp))⟩, ?_⟩
      refine for_list (K := K) (a := p) (xs := ws) (fun j σ H3 => ∃ (us : List V) (ls : List Pl) (z4 z5 : Option V), σ = [some (.ref b), some (.ref p), some (.int (n : Int)), some (.ref D), z4, z5] ∧ Same H2 H3 ∧ H3 p = some (.lst ws) ∧ H3 D = some (.lst us) ∧ Pls H3 us ls ∧ ls.length = j * n ∧ PlaceN W (i + 1) ls) ?_ ?_ ?_ ?_
      · exact ⟨[], [], y4, y5, rfl, s2, s2 _ _ hp, upd_same, .nil, by rw [Nat.zero_mul]; rfl, ⟨fun k hk => (by cases hk), fun k hk => (by cases hk)⟩⟩
      · rintro j σ H3 _ ⟨_, _, _, _, _, _, hl, _⟩
        exact .inl (.inl hl)
      · rintro j x σ H3 hxj ⟨us, ls, z4, z5, rfl, sm3, hl, hD, hU, hll, hN3⟩
        obtain ⟨a, k, rfl, hkk, hak⟩ := (hW.mono sm3).get hxj
        have hj := (List.getElem?_eq_some_iff.mp hkk).1
        have hkm := List.mem_of_getElem? hkk
        have hjn : (j + 1) * n ≤ ks.length * n := Nat.mul_le_mul_right _ hj
        rw [Nat.succ_mul] at hjn
        refine ⟨_, rfl, _, rfl, by omega, b62 (by omega), ?_⟩
        rw [Int.toNat_natCast]
        refine for_range (lo := 0) (n := n) (fun m σ H4 => ∃ (us : List V) (ls : List Pl) (z5 : Option V), σ = [some (.ref b), some (.ref p), some (.int (n : Int)), some (.ref D), some (.ref a), z5] ∧ Same H2 H4 ∧ H4 p = some (.lst ws) ∧ H4 D = some (.lst us) ∧ Pls H4 us ls ∧ ls.length = j * n + m ∧ PlaceN W (i + 1) ls) ⟨us, ls, z5, rfl, sm3, hl, hD, hU, hll, hN3⟩ ?_ ?_
        · rintro m σ H4 hm ⟨us, ls, z5, rfl, sm4, hl4, hD4, hU4, hll4, hN4⟩
          have hak4 : H4 a = some (.tup (k.map V.int)) := by
            obtain ⟨a2, k2, e1, e2, e3⟩ := (hW.mono sm4).get hxj
            cases e1
            rw [hkk] at e2
            cases e2
            exact e3
          have hul := hU4.len
          have nl4 : ∀ {o : HO}, upd H4 D o p = H4 p := fun {o} => upd_ne (Ne.symm nDl)
          refine ⟨_, rfl, .inl ⟨rfl, _, .inl (.inl hD4)⟩, _, rfl, _, rfl, (by show 1 ≤ sizeLine; decide), fun t nt => ?_⟩
          have sm5 : Same H4 (upd H4 t (.tup [.int ((0 : Int) + (m : Int))])) := same_upd nt
          have hN5 := hN4.push (hN.l k hkm) (hN.c k hkm) (show m < W by omega)
          have hlen5 : (ls ++ [k ++ [(m : Int)]]).length = j * n + (m + 1) := by
            rw [List.length_append, hll4]
            rfl
          refine ⟨a, t, _, _, rfl, rfl, .inl (.inl (sm5 _ _ hak4)), .inl (.inl upd_same), ?_, fun h0 => ?_, fun _ h => (by cases h), fun _ _ u nu => ?_⟩
          · rw [List.length_map, hN.l k hkm]
            exact Nat.le_of_lt (small1000 (by show i + 1 ≤ 1000; have := ok.n; omega))
          · have hk0 : k = [] := List.map_eq_nil_iff.mp h0
            have hD5 := sm5 _ _ hD4
            refine ⟨D, us, _, rfl, rfl, hD5, small100k (by omega), ?_⟩
            refine ⟨us ++ [.ref t], ls ++ [k ++ [(m : Int)]], _, rfl, same_mut (sm4.trans sm5) nD, ?_, upd_same, ((hU4.mono sm5).app (.cons ?_ .nil)).updL hD5, hlen5, hN5⟩
            · rw [upd_ne (Ne.symm nDl)]
              exact sm5 _ _ hl4
            · rw [upd_same, hk0, Int.zero_add]
              rfl
          · have sm6 : Same (upd H4 t (.tup [.int ((0 : Int) + (m : Int))])) (upd (upd H4 t (.tup [.int ((0 : Int) + (m : Int))])) u (.tup (k.map V.int ++ [.int ((0 : Int) + (m : Int))]))) := same_upd nu
            have sm7 := sm5.trans sm6
            have hD5 := sm7 _ _ hD4
            refine ⟨D, us, _, rfl, rfl, hD5, small100k (by omega), ?_⟩
            refine ⟨us ++ [.ref u], ls ++ [k ++ [(m : Int)]], _, rfl, same_mut (sm4.trans sm7) nD, ?_, upd_same, ((hU4.mono sm7).app (.cons ?_ .nil)).updL hD5, hlen5, hN5⟩
            · rw [upd_ne (Ne.symm nDl)]
              exact sm7 _ _ hl4
            · rw [upd_same, List.map_append, Int.zero_add]
              rfl
        · rintro σ H4 ⟨us, ls, z5, rfl, sm4, hl4, hD4, hU4, hll4, hN4⟩
          exact ⟨us, ls, _, _, rfl, sm4, hl4, hD4, hU4, by rw [hll4, Nat.succ_mul], hN4⟩
      · rintro σ H3 ⟨us, ls, z4, z5, rfl, sm3, hl, hD, hU, hll, hN3⟩
        refine ⟨_, rfl, D, _, rfl, .inl (.inl (.inl hD)), fun l nl => ?_⟩
        have s9 : Same H3 (upd H3 l (.lst us)) := same_upd nl
        refine ⟨l, us, ls, _, _, _, _, rfl, (sm.trans sm3).trans s9, upd_same, hU.mono s9, ?_, hN3⟩
        rw [hll, hwl, hkl, pr_take hi, hbn]
    · rintro σ H2 ⟨p, ws, ks, y2, y3, y4, y5, rfl, sm, hp, hW, hkl, hN⟩
      rw [List.length_map] at hkl hN
      rw [List.take_length] at hkl
      exact ⟨_, rfl, q p ws ks H2 sm hp hW hkl hN⟩
end
end OT

set_option Elab.async false
set_option linter.all false
set_option maxRecDepth 100000
set_option maxHeartbeats 2000000
namespace OT
open PySem PySem.Spec PyProof.Rows L2
/-- a row that is drawn: at most m places of n coordinates -/
structure DrawnR (n m c u : Nat) (r : List Ent) : Prop where
  v : Valid r
  m : r.length ≤ m
  n : ∀ e ∈ r, e.1.length = n
  c : ∀ e ∈ r, ∀ x ∈ e.1, x.natAbs ≤ c
  u : ∀ e ∈ r, e.2.natAbs ≤ u
section
variable {P : Program} {w : World} {K : PySem.W.Frag} {mg : Str → Option Value} {base : Heap}
def spDrawn (K : PySem.W.Frag) : Sp := fun vs H Q _ => ∃ (c : Int) (b : Addr) (bs : List Nat) (rc mv W : Nat), vs = [.int c, .ref b, .int (rc : Int), .int (mv : Int)] ∧ SqL K H b (bs.map fun (n : Nat) => V.int n) ∧ BoxOk W bs ∧ W ≤ 1000 ∧ 1 ≤ bs.length ∧ pr bs ≤ 900 ∧ rc ≤ 1000 ∧ mv ≤ 100000 ∧
  ∀ p ws r H', Same H H' → H p = none → H' p = some (.lst ws) → Ents H' ws r → DrawnR bs.length (pr bs) (W + mv) (pr bs * rc) r → Q (.ref p) H'
theorem rep_get {n : Nat} {z : Int} {i : Nat} (h : i < n) (ys : List Int) : (List.replicate n z ++ ys)[i]? = some z := by
  rw [List.getElem?_append_left (by rw [List.length_replicate]; exact h), List.getElem?_replicate, if_pos h]
theorem rep_get2 {n m : Nat} {y z : Int} {i : Nat} (h : i < m) : (List.replicate n y ++ List.replicate m z)[n + i]? = some z := by
  rw [List.getElem?_append_right (by rw [List.length_replicate]; exact Nat.le_add_right _ _), List.length_replicate, Nat.add_sub_cancel_left, List.getElem?_replicate, if_pos h]
theorem c__law_drawn {f : Addr} {fd : FuncData} (D : C8.Def K mg "_law_drawn" s__law_drawn f fd) (b : Binds K fd ["_law_cell_here", "_law_box_here", "_law_reach", "_law_moves"] []) (T : Bi mg) (c__law_places : C8.Cal P w K mg base 1 "_law_places" (spPlaces K) []) (c__law_draws : C8.Cal P w K mg base 1 "_law_draws" (spDraws K) [])
    (c__law_row : C8.Cal P w K mg base 1 "_law_row" (spGather K) []) (c__law_moved : C8.Cal P w K mg base 2 "_law_moved" (spMoved K) []) : C8.Cal P w K mg base 3 "_law_drawn" (spDrawn K) [] := by
  refine C8.cal0 D b .nil sc__law_drawn (fun vs H Q E h => ?_) (fun cdv A outer s H vs Q E hr h => ?_)
  · obtain ⟨c, b, bs, rc, mv, W, rfl, _⟩ := h
    rfl
  · obtain ⟨c, b, bs, rc, mv, W, rfl, hB, ok, hW0, hb1, hpr, hrc, hmv, q⟩ := h
    refine ⟨_, (pss_cons (ps_set (i := 4) sc__law_drawn.nd rfl (Or.inr rfl) (C8.pe_c c__law_places hr (by decide) (by rfl) (pa_cons (pv 1) pa_nil)))
  (pss_cons (ps_set (i := 5) sc__law_drawn.nd rfl (Or.inr rfl) (C8.pe_c c__law_draws hr (by decide) (by rfl) (pa_cons (pv 0) (pa_cons (pe_op op_cat (pe_lc (own := [("_law_k", 7)]) (g := (gName 7)) (tt := tYes) rfl sc__law_drawn.nd (pi_list (pv 4)) (blkOk_by (N := ["_law_cell_here", "_law_box_here", "_law_reach", "_law_moves", "_law_places_here", "_law_draws_here", "_law_by", "_law_k"]) (sc := C8.fnScope s__law_drawn) (by decide +kernel)) (fun _ _ _ _ _ => (pg_name (i := 7) sc__law_drawn.nd rfl (Or.inl rfl))) (fun _ _ _ _ _ => pts_nil) (fun _ _ _ _ _ => (pe_op op_add (pe_op op_mul pe_int (pv 2)) pe_int))) (pe_lc (own := [("_law_k", 7)]) (g := (gName 7)) (tt := tYes) rfl sc__law_drawn.nd (pi_list (pv 1)) (blkOk_by (N := ["_law_cell_here", "_law_box_here", "_law_reach", "_law_moves", "_law_places_here", "_law_draws_here", "_law_by", "_law_k"]) (sc := C8.fnScope s__law_drawn) (by decide +kernel)) (fun _ _ _ _ _ => (pg_name (i := 7) sc__law_drawn.nd rfl (Or.inl rfl))) (fun _ _ _ _ _ => pts_nil) (fun _ _ _ _ _ => (pe_op op_add (pe_op op_mul pe_int (pv 3)) pe_int)))) pa_nil))))
  (pss_cons (ps_set (i := 6) sc__law_drawn.nd rfl (Or.inl rfl) (pe_callTy call_tuple_of (by rfl) T.n_tuple OT.b_tuple (pa_cons (pe_lc (own := [("_law_k", 7)]) (g := (gName 7)) (tt := tYes) rfl sc__law_drawn.nd (pi_range1 rfl T.n_range (pa_cons (pe_callB call_len_seq (by rfl) T.n_len OT.b_len (pa_cons (pv 1) pa_nil)) pa_nil)) (blkOk_by (N := ["_law_cell_here", "_law_box_here", "_law_reach", "_law_moves", "_law_places_here", "_law_draws_here", "_law_by", "_law_k"]) (sc := C8.fnScope s__law_drawn) (by decide +kernel)) (fun _ _ _ _ _ => (pg_name (i := 7) sc__law_drawn.nd rfl (Or.inl rfl))) (fun _ _ _ _ _ => pts_nil) (fun _ _ _ _ _ => (pe_op op_sub (pe_ix (show IxR _ (rIxL K) from ix_list) (pv 5) (pe_op op_add (pe_callB (show CallR _ _ (Evl.rLenS K) from call_len_seq) (by rfl) T.n_len OT.b_len (pa_cons (pv 4) pa_nil)) (pv 7)) (fun _ _ => rfl)) (pv 3)))) pa_nil)))
  (pss_one (ps_ret (C8.pe_c c__law_moved hr (by decide) (by rfl) (pa_cons (C8.pe_c c__law_row hr (by decide) (by rfl) (pa_cons (pe_lc (own := [("_law_k", 7)]) (g := (gName 7)) (tt := tYes) rfl sc__law_drawn.nd (pi_range1 rfl T.n_range (pa_cons (pe_callB call_len_seq (by rfl) T.n_len OT.b_len (pa_cons (pv 4) pa_nil)) pa_nil)) (blkOk_by (N := ["_law_cell_here", "_law_box_here", "_law_reach", "_law_moves", "_law_places_here", "_law_draws_here", "_law_by", "_law_k"]) (sc := C8.fnScope s__law_drawn) (by decide +kernel)) (fun _ _ _ _ _ => (pg_name (i := 7) sc__law_drawn.nd rfl (Or.inl rfl))) (fun _ _ _ _ _ => pts_nil) (fun _ _ _ _ _ => (pe_tup (pa_cons (pe_ix (show IxR _ (rIxL K) from ix_list) (pv 4) (pv 7) (fun _ _ => rfl)) (pa_cons (pe_op op_sub (pe_ix (show IxR _ (rIxL K) from ix_list) (pv 5) (pv 7) (fun _ _ => rfl)) (pv 2)) pa_nil))))) pa_nil)) (pa_cons (pv 6) pa_nil)))))))), ?_⟩
    refine ⟨_, rfl, b, bs, W, rfl, hB, ok, hW0, fun p ws ks H1 sm1 hp hW hkl hN => ?_⟩
    have hS : SqL K H1 p ws := .inl (.inl hp)
    have hwl := hW.len
    have hbn := ok.n
    refine ⟨_, rfl, _, rfl, p, rfl, ⟨_, hS⟩, fun D1 nD1 => ?_⟩
    refine lc_list (K := K) (xs := ws) (fun i H2 => Same H1 H2 ∧ H2 D1 = some (.lst (List.replicate i (V.int (2 * (rc : Int) + 1))))) ⟨same_upd nD1, upd_same⟩ ?_ ?_ ?_
    · rintro i H2 _ ⟨sm, _⟩
      exact sm.seq hS
    · rintro i x H2 hx ⟨sm, hD⟩
      have hi := (List.getElem?_eq_some_iff.mp hx).1
      refine ⟨rfl, tYes_of ?_⟩
      refine ⟨_, rfl, _, _, rfl, rfl, .inl ⟨by decide, by decide⟩, _, _, rfl, rfl, _, hD, ?_, same_mut sm nD1, ?_⟩
      · rw [List.length_replicate]
        exact small1000 (by omega)
      · rw [upd_same, List.replicate_succ']
    rintro H2 ⟨sm2, hD1⟩
    have sA := sm1.trans sm2
    refine ⟨_, rfl, b, rfl, ⟨_, sA.seq hB⟩, fun D2 nD2 => ?_⟩
    refine lc_list (K := K) (xs := bs.map fun (n : Nat) => V.int n) (fun i H3 => Same H2 H3 ∧ H3 D2 = some (.lst (List.replicate i (V.int (2 * (mv : Int) + 1))))) ⟨same_upd nD2, upd_same⟩ ?_ ?_ ?_
    · rintro i H3 _ ⟨sm, _⟩
      exact (sA.trans sm).seq hB
    · rintro i x H3 hx ⟨sm, hD⟩
      have hi := (List.getElem?_eq_some_iff.mp hx).1
      rw [List.length_map] at hi
      refine ⟨rfl, tYes_of ?_⟩
      refine ⟨_, rfl, _, _, rfl, rfl, .inl ⟨by decide, by decide⟩, _, _, rfl, rfl, _, hD, ?_, same_mut sm nD2, ?_⟩
      · rw [List.length_replicate]
        exact small1000 (by omega)
      · rw [upd_same, List.replicate_succ']
    rintro H3 ⟨sm3, hD2⟩
    rw [List.length_map] at hD2
    refine ⟨D1, D2, _, _, rfl, rfl, sm3 _ _ hD1, hD2, ?_, fun p3 np3 => ?_⟩
    · rw [List.length_replicate, List.length_replicate]
      exact Nat.le_of_lt (small1000 (by omega))
    let zs : List Int := List.replicate ws.length (2 * (rc : Int) + 1) ++ List.replicate bs.length (2 * (mv : Int) + 1)
    have hzl : zs.length = ws.length + bs.length := by
      show (_ ++ _ : List Int).length = _
      rw [List.length_append, List.length_replicate, List.length_replicate]
    have hzm : zs.map V.int = List.replicate ws.length (V.int (2 * (rc : Int) + 1)) ++ List.replicate bs.length (V.int (2 * (mv : Int) + 1)) := by
      show (_ ++ _ : List Int).map V.int = _
      rw [List.map_append, List.map_replicate, List.map_replicate]
    have sB := (sA.trans sm3).trans (same_upd (o := .lst (List.replicate ws.length (V.int (2 * (rc : Int) + 1)) ++ List.replicate bs.length (V.int (2 * (mv : Int) + 1)))) np3)
    have sB1 := (sm2.trans sm3).trans (same_upd (o := .lst (List.replicate ws.length (V.int (2 * (rc : Int) + 1)) ++ List.replicate bs.length (V.int (2 * (mv : Int) + 1)))) np3)
    refine ⟨p3, zs, c, rfl, .inl (.inl ?_), by omega, fun z hz => ?_, fun ds H4 p4 hin sm4 np4 hp4 => ?_⟩
    · rw [upd_same, hzm]
    · rcases List.mem_append.mp hz with hz | hz
      · rw [(List.mem_replicate.mp hz).2]
        omega
      · rw [(List.mem_replicate.mp hz).2]
        omega
    have sC := sB.trans sm4
    have sC1 := sB1.trans sm4
    have L4 : SqL K H4 p4 (ds.map V.int) := .inl (.inl hp4)
    refine ⟨_, rfl, b, _, rfl, .inl (sC.seq hB), _, rfl, by omega, b62 (by rw [List.length_map]; omega), fun p5 np5 => ?_⟩
    rw [List.length_map, Int.toNat_natCast]
    refine lc_range (lo := 0) (n := bs.length) (fun i H5 => ∃ ys : List Int, ys.length = i ∧ (∀ y ∈ ys, y.natAbs ≤ mv) ∧ Same H4 H5 ∧ H5 p5 = some (.lst (ys.map V.int))) ⟨[], rfl, fun y hy => (by cases hy), same_upd np5, upd_same⟩ ?_ ?_
    · rintro i H5 hi ⟨ys, hyl, hyb, sm5, hp5⟩
      obtain ⟨d, gd, gda, gdb⟩ := hin.get (i := ws.length + i) (rep_get2 hi)
      refine ⟨rfl, tYes_of ?_⟩
      have hix : atI (ds.map V.int) (((ws.length : Nat) : Int) + ((0 : Int) + (i : Int))) = some (.int d) := by
        rw [show ((ws.length : Nat) : Int) + ((0 : Int) + (i : Int)) = ((ws.length + i : Nat) : Int) by omega]
        exact atI_nat gd
      refine ⟨_, rfl, _, rfl, p, _, rfl, .inl ((sC1.trans sm5).seq hS), _, rfl, _, _, rfl, rfl, p4, _, _, _, rfl, rfl, sm5.seq L4, hix, ?_⟩
      refine ⟨_, rfl, _, _, rfl, rfl, ?_⟩
      refine ⟨_, hp5, ?_, ys ++ [d - (mv : Int)], by rw [List.length_append, hyl]; rfl, fun y hy => ?_, same_mut sm5 np5, ?_⟩
      · rw [List.length_map]
        exact small1000 (by omega)
      · rcases List.mem_append.mp hy with hy | hy
        · exact hyb y hy
        · rw [List.mem_singleton.mp hy]
          omega
      · rw [upd_same, List.map_append]
        rfl
    rintro H5 ⟨ys, hyl, hyb, sm5, hp5⟩
    refine ⟨p5, _, rfl, .inl ⟨.inl (.inl hp5), fun bt nbt => ?_⟩⟩
    have sm6 := sm5.trans (same_upd (o := .tup (ys.map V.int)) nbt)
    have hbt : (upd H5 bt (.tup (ys.map V.int))) bt = some (.tup (ys.map V.int)) := upd_same
    generalize upd H5 bt (.tup (ys.map V.int)) = H6 at sm6 hbt ⊢
    have sD := sC.trans sm6
    have sD1 := sC1.trans sm6
    refine ⟨_, rfl, p, _, rfl, .inl (sD1.seq hS), _, rfl, by omega, b62 (by omega), fun p7 np7 => ?_⟩
    rw [Int.toNat_natCast]
    refine lc_range (lo := 0) (n := ws.length) (fun i H7 => ∃ (us : List V) (es : List Ent), es.length = i ∧ Same H6 H7 ∧ H7 p7 = some (.lst us) ∧ Ents H7 us es ∧ (∀ e ∈ es, e.1 ∈ ks) ∧ ∀ e ∈ es, e.2.natAbs ≤ rc) ⟨[], [], rfl, same_upd np7, upd_same, .nil, fun e he => (by cases he), fun e he => (by cases he)⟩ ?_ ?_
    · rintro i H7 hi ⟨us, es, hel, sm7, hp7, hU, hek, hen⟩
      obtain ⟨d, gd, gda, gdb⟩ := hin.get (i := i) (rep_get hi _)
      have hWs := hW.mono (sD1.trans sm7)
      obtain ⟨a, k, ea, hk, hak⟩ := hWs.get (List.getElem?_eq_getElem hi)
      have hix : atI ws ((0 : Int) + (i : Int)) = some (.ref a) := by
        rw [Int.zero_add, ← ea]
        exact atI_nat (List.getElem?_eq_getElem hi)
      have hid : atI (ds.map V.int) ((0 : Int) + (i : Int)) = some (.int d) := by
        rw [Int.zero_add]
        exact atI_nat gd
      refine ⟨rfl, tYes_of ?_⟩
      refine ⟨_, rfl, _, rfl, p, _, _, _, rfl, rfl, (sD1.trans sm7).seq hS, hix, _, rfl, _, rfl, p4, _, _, _, rfl, rfl, (sm6.trans sm7).seq L4, hid, _, rfl, _, _, rfl, rfl, (by show 2 ≤ sizeLine; decide), fun t nt => ?_⟩
      have smt : Same H7 (upd H7 t (.tup [.ref a, .int (d - (rc : Int))])) := same_upd nt
      have hv : EntAt (upd H7 t (.tup [.ref a, .int (d - (rc : Int))])) (.ref t) (k, d - (rc : Int)) := ⟨t, a, rfl, upd_same, smt _ _ hak⟩
      have hul := hU.len
      refine ⟨us, smt _ _ hp7, small1000 (by omega), us ++ [.ref t], es ++ [(k, d - (rc : Int))], by rw [List.length_append, hel]; rfl, same_mut (sm7.trans smt) np7, upd_same, ((hU.mono smt).app (.cons hv .nil)).updL (smt _ _ hp7), fun e he => ?_, fun e he => ?_⟩
      · rcases List.mem_append.mp he with he | he
        · exact hek e he
        · rw [List.mem_singleton.mp he]
          exact List.mem_of_getElem? hk
      · rcases List.mem_append.mp he with he | he
        · exact hen e he
        · rw [List.mem_singleton.mp he]
          show (d - (rc : Int)).natAbs ≤ rc
          omega
    rintro H7 ⟨us, es, hel, sm7, hp7, hU, hek, hen⟩
    have hel2 : es.length ≤ pr bs := by omega
    refine ⟨p7, us, es, rfl, ⟨.inl (.inl hp7), hU, small1000 (by omega)⟩, fun e he z => ?_, fun r p8 rws H8 hr sm8 np8 hp8 he8 => ?_⟩
    · have := hN.l e.1 (hek e he)
      rw [z] at this
      have h0 : (0 : Nat) = bs.length := this
      omega
    have hrl := hr.len
    have hrk : ∀ e ∈ r, e.1 ∈ ks := fun e he => by
      obtain ⟨x, hx, ex⟩ := hr.mem he
      rw [← ex]
      exact hek x hx
    have hrn := hr.bound hen
    have hle : ∀ e ∈ r, e.1.length ≤ ys.length := fun e he => by
      rw [hN.l _ (hrk e he), hyl]
      exact Nat.le_refl _
    refine ⟨_, rfl, p8, bt, rws, r, ys, rfl, ⟨.inl (.inl hp8), he8, small1000 (by omega)⟩, .inl (.inl ((sm7.trans sm8) _ _ hbt)), hle, by omega, fun p9 ws9 H9 sm9 np9 hp9 he9 => ?_⟩
    have sZ := sD.trans (sm7.trans sm8)
    refine q p9 ws9 (movL r ys) H9 (sZ.trans sm9) ?_ hp9 he9 ⟨movL_valid hr.v hle, ?_, fun e he => ?_, fun e he x hx => ?_, fun e he => ?_⟩
    · cases z : H p9 with
      | none => rfl
      | some o =>
        rw [sZ _ _ z] at np9
        cases np9
    · unfold movL
      rw [List.length_map]
      omega
    · obtain ⟨y, hy, rfl⟩ := List.mem_map.mp he
      show (plusP y.1 ys).length = _
      rw [plusP_len (hle y hy)]
      exact hN.l _ (hrk y hy)
    · obtain ⟨y, hy, rfl⟩ := List.mem_map.mp he
      obtain ⟨a, ha, b2, hb2, rfl⟩ := plusP_mem hx
      have h1 := hN.c _ (hrk y hy) a ha
      have h2 := hyb b2 hb2
      omega
    · obtain ⟨y, hy, rfl⟩ := List.mem_map.mp he
      exact Nat.le_trans (hrn y hy) (Nat.mul_le_mul_right _ hel2)
end
end OT

set_option Elab.async false
set_option linter.all false
set_option maxRecDepth 100000
set_option maxHeartbeats 2000000
namespace OT
open PySem PySem.Spec PyProof.Rows L2
def negP (k : Pl) : Pl := k.map fun x => -x
theorem negP_len (k : Pl) : (negP k).length = k.length := List.length_map _
def scaleL (es : List Ent) (f : Int) : List Ent := es.map fun e => (e.1, e.2 * f)
def mirL (es : List Ent) : List Ent := es.map fun e => (negP e.1, e.2)
section
variable {P : Program} {w : World} {K : PySem.W.Frag} {mg : Str → Option Value} {base : Heap}
def spBack (K : PySem.W.Frag) : Sp := fun vs H Q _ => ∃ (a : Addr) (ns : Pl), vs = [.ref a] ∧ SqT K H a (ns.map V.int) ∧ ns.length ≤ 1000 ∧ ∀ p H', Same H H' → H' p = some (.tup ((negP ns).map V.int)) → Q (.ref p) H'
theorem c__law_back {f : Addr} {fd : FuncData} (D : C8.Def K mg "_law_back" s__law_back f fd) (b : Binds K fd ["_law_place"] []) (T : Bi mg) : C8.Cal P w K mg base 1 "_law_back" (spBack K) [] := by
  refine C8.cal0 D b .nil sc__law_back (fun vs H Q E h => ?_) (fun cdv A outer s H vs Q E hr h => ?_)
  · obtain ⟨a, ns, rfl, _⟩ := h
    rfl
  · obtain ⟨a, ns, rfl, hS, hl, q⟩ := h
    refine ⟨_, (pss_one (ps_ret (pe_callTy call_tuple_of (by rfl) T.n_tuple OT.b_tuple (pa_cons (pe_lc (own := [("_law_x", 1)]) (g := (gName 1)) (tt := tYes) rfl sc__law_back.nd (pi_tup (pv 0)) (blkOk_by (N := ["_law_place", "_law_x"]) (sc := C8.fnScope s__law_back) (by decide +kernel)) (fun _ _ _ _ _ => (pg_name (i := 1) sc__law_back.nd rfl (Or.inl rfl))) (fun _ _ _ _ _ => pts_nil) (fun _ _ _ _ _ => (pe_un un_neg (pv 1)))) pa_nil)))), ?_⟩
    refine ⟨_, rfl, a, rfl, ⟨_, hS⟩, fun p np => ?_⟩
    refine lc_tup (K := K) (xs := ns.map V.int) (fun i H2 => Same H H2 ∧ H2 p = some (.lst ((ns.take i).map fun n => V.int (-n)))) ?_ ?_ ?_ ?_
    · exact ⟨same_upd np, upd_same⟩
    · rintro i H2 _ ⟨sm, _⟩
      exact same_t sm hS
    · rintro i x H2 hx ⟨sm, hp⟩
      obtain ⟨hi, rfl⟩ := getm hx
      refine ⟨rfl, tYes_of ?_⟩
      refine ⟨_, rfl, _, rfl, _, hp, ?_, same_mut sm np, ?_⟩
      · rw [List.length_map, List.length_take]
        exact small1000 (by omega)
      · rw [upd_same, take_map_succ (fun n => V.int (-n)) hi]
    · rintro H2 ⟨sm, hp⟩
      rw [List.length_map, List.take_length] at hp
      refine ⟨p, _, rfl, .inl ⟨.inl (.inl hp), fun l nl => ?_⟩⟩
      refine q l _ (sm.trans (same_upd nl)) ?_
      rw [upd_same]
      unfold negP
      rw [List.map_map]
      rfl
/-- a list of entries of places that are not empty -/
structure Lst (H : Hp) (a : Addr) (xs : List V) (es : List Ent) : Prop where
  l : H a = some (.lst xs)
  e : Ents H xs es
  z : es.length ≤ 1000
  p : ∀ e ∈ es, e.1 ≠ []
theorem Lst.mono {H H' : Hp} {a : Addr} {xs : List V} {es : List Ent} (s : Same H H') (h : Lst H a xs es) : Lst H' a xs es := ⟨s _ _ h.l, h.e.mono s, h.z, h.p⟩
theorem wantRow.mono {H H2 : Hp} {es : List Ent} {Q : VK} (sm : Same H H2) (q : wantRow H es Q) : wantRow H2 es Q := by
  intro r p ws H3 hr sm3 np hp he
  refine q r p ws H3 hr (sm.trans sm3) ?_ hp he
  cases z : H p with
  | none => rfl
  | some o =>
    rw [sm _ _ z] at np
    cases np
def spAdd : Sp := fun vs H Q _ => ∃ (a b : Addr) (xs ys : List V) (es fs : List Ent), vs = [.ref a, .ref b] ∧ Lst H a xs es ∧ Lst H b ys fs ∧ wantRow H (es ++ fs) Q
theorem c__law_add {f : Addr} {fd : FuncData} (D : C8.Def K mg "_law_add" s__law_add f fd) (b : Binds K fd ["_law_first", "_law_second"] []) (T : Bi mg) (c__law_row : C8.Cal P w K mg base 1 "_law_row" (spGather K) []) : C8.Cal P w K mg base 2 "_law_add" spAdd [] := by
  refine C8.cal0 D b .nil sc__law_add (fun vs H Q E h => ?_) (fun cdv A outer s H vs Q E hr h => ?_)
  · obtain ⟨a, b, xs, ys, es, fs, rfl, _⟩ := h
    rfl
  · obtain ⟨a, b, xs, ys, es, fs, rfl, hA, hB, q⟩ := h
    refine ⟨_, (pss_one (ps_ret (C8.pe_c c__law_row hr (by decide) (by rfl) (pa_cons (pe_op op_cat (pv 0) (pv 1)) pa_nil)))), ?_⟩
    have h1 := hA.e.len
    have h2 := hB.e.len
    have z1 := hA.z
    have z2 := hB.z
    refine ⟨_, rfl, _, rfl, a, b, _, _, rfl, rfl, hA.l, hB.l, Nat.le_of_lt (small100k (by omega)), fun p np => ?_⟩
    have s1 : Same H (upd H p (.lst (xs ++ ys))) := same_upd np
    refine ⟨p, xs ++ ys, es ++ fs, rfl, ⟨.inl (.inl upd_same), (hA.e.app hB.e).mono s1, by rw [List.length_append]; exact small100k (by omega)⟩, fun e he => ?_, q.mono s1⟩
    rcases List.mem_append.mp he with he | he
    · exact hA.p e he
    · exact hB.p e he
theorem take_snoc {es : List Ent} {i : Nat} {e : Ent} (h : es[i]? = some e) : es.take (i + 1) = es.take i ++ [e] := by
  rw [List.take_add_one, h]
  rfl
def spMir : Sp := fun vs H Q _ => ∃ (a : Addr) (xs : List V) (es : List Ent), vs = [.ref a] ∧ Lst H a xs es ∧ (∀ e ∈ es, e.1.length ≤ 1000) ∧ wantRow H (mirL es) Q
theorem c__law_mirror {f : Addr} {fd : FuncData} (D : C8.Def K mg "_law_mirror" s__law_mirror f fd) (b : Binds K fd ["_law_row_here"] []) (T : Bi mg) (c__law_row : C8.Cal P w K mg base 1 "_law_row" (spGather K) []) (c__law_back : C8.Cal P w K mg base 1 "_law_back" (spBack K) []) : C8.Cal P w K mg base 2 "_law_mirror" spMir [] := by
  refine C8.cal0 D b .nil sc__law_mirror (fun vs H Q E h => ?_) (fun cdv A outer s H vs Q E hr h => ?_)
  · obtain ⟨a, xs, es, rfl, _⟩ := h
    rfl
  · obtain ⟨a, xs, es, rfl, hA, hle, q⟩ := h
    refine ⟨_, (pss_one (ps_ret (C8.pe_c c__law_row hr (by decide) (by rfl) (pa_cons (pe_lc (own := [("_law_entry", 1)]) (g := (gName 1)) (tt := tYes) rfl sc__law_mirror.nd (pi_list (pv 0)) (blkOk_by (N := ["_law_row_here", "_law_entry"]) (sc := C8.fnScope s__law_mirror) (by decide +kernel)) (fun _ _ _ _ _ => (pg_name (i := 1) sc__law_mirror.nd rfl (Or.inl rfl))) (fun _ _ _ _ _ => pts_nil) (fun _ _ _ _ _ => (pe_tup (pa_cons (C8.pe_c c__law_back hr (by decide) (by rfl) (pa_cons (pe_ix (show IxR _ (rIxT K) from ix_tup) (pv 1) pe_int (fun _ _ => rfl)) pa_nil)) (pa_cons (pe_ix (show IxR _ (rIxT K) from ix_tup) (pv 1) pe_int (fun _ _ => rfl)) pa_nil))))) pa_nil)))), ?_⟩
    have hS : SqL K H a xs := .inl (.inl hA.l)
    have hx := hA.e.len
    have hz := hA.z
    refine ⟨_, rfl, a, rfl, ⟨_, hS⟩, fun p np => ?_⟩
    refine lc_list (K := K) (xs := xs) (fun i H2 => Same H H2 ∧ ∃ ws, H2 p = some (.lst ws) ∧ Ents H2 ws (mirL (es.take i))) ?_ ?_ ?_ ?_
    · exact ⟨same_upd np, [], upd_same, .nil⟩
    · rintro i H2 _ ⟨sm, _⟩
      exact sm.seq hS
    · rintro i x H2 hxi ⟨sm, ws, hp, hW⟩
      obtain ⟨e, he, t, pe, rfl, ht, hpe⟩ := (hA.e.mono sm).get hxi
      obtain ⟨hi, hee⟩ := List.getElem?_eq_some_iff.mp he
      have hm := List.mem_of_getElem? he
      have hT : SqT K H2 t [.ref pe, .int e.2] := .inl (.inl ht)
      refine ⟨rfl, tYes_of ?_⟩
      refine ⟨_, rfl, t, _, 0, _, rfl, rfl, hT, atI_nat (j := 0) rfl, pe, e.1, rfl, .inl (.inl hpe), hle e hm, fun p3 H3 sm3 hp3 => ?_⟩
      refine ⟨_, rfl, t, _, 1, _, rfl, rfl, same_t sm3 hT, atI_nat (j := 1) rfl, (by show 2 ≤ sizeLine; decide), fun t4 nt4 => ?_⟩
      have sm4 : Same H3 (upd H3 t4 (.tup [.ref p3, .int e.2])) := same_upd nt4
      have smA := sm3.trans sm4
      have hv : EntAt (upd H3 t4 (.tup [.ref p3, .int e.2])) (.ref t4) (negP e.1, e.2) := ⟨t4, p3, rfl, upd_same, sm4 _ _ hp3⟩
      have hD := smA _ _ hp
      have hwl := hW.len
      refine ⟨ws, hD, ?_, same_mut (sm.trans smA) np, ws ++ [.ref t4], upd_same, ?_⟩
      · unfold mirL at hwl
        rw [List.length_map, List.length_take] at hwl
        exact small100k (by omega)
      · unfold mirL
        rw [take_snoc he, List.map_append]
        exact ((hW.mono smA).app (.cons hv .nil)).updL hD
    · rintro H2 ⟨sm, ws, hp, hW⟩
      rw [hx, List.take_length] at hW
      refine ⟨p, ws, mirL es, rfl, ⟨.inl (.inl hp), hW, by unfold mirL; rw [List.length_map]; exact small100k (by omega)⟩, fun e he z => ?_, q.mono sm⟩
      obtain ⟨y, hy, rfl⟩ := List.mem_map.mp he
      have z2 : (negP y.1).length = 0 := by
        have z3 : negP y.1 = [] := z
        rw [z3]
        rfl
      rw [negP_len] at z2
      exact hA.p y hy (List.length_eq_zero_iff.mp z2)
end
end OT

set_option Elab.async false
set_option linter.all false
set_option maxRecDepth 100000
set_option maxHeartbeats 2000000
namespace OT
open PySem PySem.Spec PyProof.Rows L2
/-! mirrors and normal rows: the program's road and the law's lead to the same row -/
theorem RowIs.self {r : List Ent} (h : Valid r) : RowIs r r := ⟨h, fun _ => rfl⟩
theorem negP_lt : ∀ {a b : Pl}, a.length = b.length → HT.lexLt (negP b) (negP a) = HT.lexLt a b
  | [], [], _ => rfl
  | x :: a, y :: b, h => by
    show (if -y = -x then HT.lexLt (negP b) (negP a) else decide (-y < -x)) = if x = y then HT.lexLt a b else decide (x < y)
    rw [negP_lt (Nat.succ.inj h)]
    by_cases e : x = y
    · rw [if_pos e, if_pos (by rw [e])]
    · rw [if_neg e, if_neg (by omega)]
      by_cases c : x < y
      · rw [decide_eq_true c, decide_eq_true (by omega)]
      · rw [decide_eq_false c, decide_eq_false (by omega)]
theorem numAt_rev (es : List Ent) (q : Pl) : numAt es.reverse q = numAt es q := by
  induction es with
  | nil => rfl
  | cons e r ih =>
    rw [List.reverse_cons, numAt_app, ih]
    show numAt r q + ((if e.1 = q then e.2 else 0) + 0) = (if e.1 = q then e.2 else 0) + numAt r q
    omega
/-- the program's mirror -/
def mirP (es : List Ent) : List Ent := es.reverse.map fun e => (negP e.1, e.2)
theorem mirP_valid {es : List Ent} {n : Nat} (h : Valid es) (hn : ∀ e ∈ es, e.1.length = n) : Valid (mirP es) := by
  unfold mirP
  refine ⟨?_, fun e he => ?_⟩
  · rw [List.pairwise_map, List.pairwise_reverse]
    refine List.Pairwise.imp_of_mem (fun {x y} hx hy q => ?_) h.asc
    rw [negP_lt ((hn x hx).trans (hn y hy).symm)]
    exact q
  · obtain ⟨y, hy, rfl⟩ := List.mem_map.mp he
    exact h.nz y (List.mem_reverse.mp hy)
theorem mirP_is {es : List Ent} {n : Nat} (h : Valid es) (hn : ∀ e ∈ es, e.1.length = n) : RowIs (mirP es) (mirL es) := by
  refine ⟨mirP_valid h hn, fun q => ?_⟩
  have e : mirP es = (mirL es).reverse := by
    unfold mirP mirL
    rw [List.map_reverse]
  rw [e, numAt_rev]
/-- the dimension of a row -/
def dimE : List Ent → Nat
  | [] => 0
  | e :: _ => e.1.length
section
variable {P : Program} {w : World} {K : PySem.W.Frag} {mg : Str → Option Value} {base : Heap}
def spPLen (K : PySem.W.Frag) : Sp := fun vs H Q _ => ∃ (a : Addr) (xs : List V) (es : List Ent), vs = [.ref a] ∧ SqL K H a xs ∧ Ents H xs es ∧ Q (.int (dimE es : Nat)) H
theorem c_places_length {f : Addr} {fd : FuncData} (D : C8.Def K mg "places_length" s_places_length f fd) (b : Binds K fd ["row"] []) (T : Bi mg) : C8.Cal P w K mg base 1 "places_length" (spPLen K) [] := by
  refine C8.cal0 D b .nil sc_places_length (fun vs H Q E h => ?_) (fun cdv A outer s H vs Q E hr h => ?_)
  · obtain ⟨a, xs, es, rfl, _⟩ := h
    rfl
  · obtain ⟨a, xs, es, rfl, hS, hE, q⟩ := h
    refine ⟨_, (pss_one (ps_ret (pe_ifExp (pt_truth (pv 0) (by intro _; rfl)) (pe_callB call_len_seq (by rfl) T.n_len OT.b_len (pa_cons (pe_ix ix_tup (pe_ix ix_list (pv 0) pe_int (fun _ _ => rfl)) pe_int (fun _ _ => rfl)) pa_nil)) pe_int))), ?_⟩
    refine ⟨_, rfl, _, .inl ⟨xs, hS, rfl⟩, ?_⟩
    cases hE with
    | nil =>
      refine iteF ?_
      exact q
    | cons h1 h2 =>
      rename_i v e vs es
      obtain ⟨t, p, rfl, ht, hp⟩ := h1
      refine iteT ?_
      refine ⟨_, rfl, a, _, 0, _, rfl, rfl, hS, atI_nat (j := 0) rfl, t, _, 0, _, rfl, rfl, .inl (.inl ht), atI_nat (j := 0) rfl, p, _, rfl, .inr (.inl (.inl hp)), ?_⟩
      rw [List.length_map]
      exact q
end
end OT

set_option Elab.async false
set_option linter.all false
set_option maxRecDepth 100000
set_option maxHeartbeats 2000000
namespace OT
open PySem PySem.Spec PyProof.Rows L2
/-- some length is another than the first one -/
def mixL (ns : List Int) : Bool := (ns.map fun m => !decide (V.int m = V.int (ns.headD 0))).any id
def nz (n : Int) : Bool := decide (n ≠ 0)
section
variable {P : Program} {w : World} {K : PySem.W.Frag} {mg : Str → Option Value} {base : Heap}
/-! ### the errors' own __init__ -/
theorem ok_te {f : Addr} {fd : FuncData} (F : C8.Fun K "__init__" "TableError.__init__" s_TableError___init__ f fd) : FnOk P w K mg base L2.CX0 1 f fd ["self"] (spTE K) := by
  refine C8.fn0 F sc_TableError___init__ (fun vs H Q E h => ?_) (fun cdv A outer s H vs Q E hr h => ?_)
  · obtain ⟨a, C, nm, rfl, _⟩ := h
    rfl
  · obtain ⟨a, C, nm, rfl, ha, T, k⟩ := h
    refine ⟨_, pss_one (ps_ost (pv 0) (pe_otname (pv 0))), ?_⟩
    exact ⟨_, rfl, a, C, nm, rfl, ha, T.oc, T.on, _, rfl, a, C, rfl, T.ox, T.nw, Or.inl ⟨ha, fun d nd ne => k d nd ne⟩⟩
/-- what is known of an error of a class that tells an index -/
structure ErrI (K : PySem.W.Frag) (mg : Str → Option Value) (nm : Str) (C fI : Addr) : Prop where
  g : mg nm = some (.ref C)
  t : OtErr K C nm
  i : PySem.W.findIn K (.ref C) "__init__" = some (some (.ref fI))
  ty : PySem.W.typeIn K (.ref fI) = some (.type "function")
def errM : List (Str × V) := [("word", .str "MixedDimensions")]
def spSL (K : PySem.W.Frag) (M : Addr) : Sp := fun vs H Q E => ∃ (a : Addr) (ns : List Int), vs = [.ref a] ∧ SqL K H a (ns.map V.int) ∧ ns.length ≤ 100000 ∧
  (mixL (ns.filter nz) = true → ∀ d H', Same H H' → H' d = some (.xd errM) → E (.ref M) (some d) H') ∧ (mixL (ns.filter nz) = false → ∀ H', Same H H' → Q .non H')
theorem ok_same_lengths {f M fB : Addr} {fd fdB : FuncData} (D : C8.Def K mg "same_lengths" s_same_lengths f fd) (T : Bi mg) (X : ErrI K mg "MixedDimensions" M fB) (GB : FnOk P w K mg base L2.CX0 1 fB fdB ["self"] (spTE K)) (bB : Binds K fdB ["self"] []) :
    FnOk P w K mg base (L2N.CX P w) 3 f fd ["lengths"] (spSL K M) := by
  obtain ⟨oc, od, dV, kV, doc, pm, an, cdv, ct, osl, rfl, lk, hcd⟩ := D.fn.ex
  refine fn_of lk hcd sc_same_lengths (fun vs H Q E h => ?_) fun A outer s H vs Q E hr h => ?_
  · obtain ⟨a, ns, rfl, _⟩ := h
    rfl
  · obtain ⟨a, ns, rfl, hS, hz, qE, qN⟩ := h
    refine ⟨_, (pss_cons (ps_set (i := 1) sc_same_lengths.nd rfl (Or.inr rfl) (pe_lc (own := [("length", 2)]) (g := (gName 2)) rfl sc_same_lengths.nd (pi_list (pv 0)) (blkOk_by (N := ["lengths", "known", "length"]) (sc := C8.fnScope s_same_lengths) (by decide +kernel)) (fun _ _ _ _ _ => (pg_name (i := 2) sc_same_lengths.nd rfl (Or.inl rfl))) (fun _ _ _ _ _ => (pts_one (pt_cmpR op_ne (pv 2) pe_int (nomark _)))) (fun _ _ _ _ _ => (pv 2))))
  (pss_one (ps_if (pt_val (pe_callB (cr_any rfl) (by rfl) T.n_any OT.b_any (pa_cons (pe_lc (own := [("length", 2)]) (g := (gName 2)) (tt := tYes) rfl sc_same_lengths.nd (pi_list (pv 1)) (blkOk_by (N := ["lengths", "known", "length"]) (sc := C8.fnScope s_same_lengths) (by decide +kernel)) (fun _ _ _ _ _ => (pg_name (i := 2) sc_same_lengths.nd rfl (Or.inl rfl))) (fun _ _ _ _ _ => pts_nil) (fun _ _ _ _ _ => (pe_cmpR op_ne (pv 2) (pe_ix (show IxR _ (rIxL K) from ix_list) (pv 1) pe_int (fun _ _ => rfl)) (nomark _)))) pa_nil))) (pss_one (L2N.ps_raise rfl (L2N.takes_of rfl rfl rfl rfl) (HP.pmk_oex0N X.t.ox X.i X.ty GB hr bB pass0 (by rfl) X.g))) pss_nil))), ?_⟩
    refine ⟨_, rfl, a, rfl, ⟨_, hS⟩, fun p np => ?_⟩
    refine lc_list (K := K) (xs := ns.map V.int) (fun i H2 => Same H H2 ∧ H2 p = some (.lst (((ns.take i).filter nz).map V.int))) ?_ ?_ ?_ ?_
    · exact ⟨same_upd np, upd_same⟩
    · rintro i H2 _ ⟨sm, _⟩
      exact sm.seq hS
    · rintro i x H2 hx ⟨sm, hp⟩
      obtain ⟨hi, rfl⟩ := getm hx
      have htk : (ns.take (i + 1)).filter nz = (ns.take i).filter nz ++ (if nz ns[i] = true then [ns[i]] else []) := by
        rw [List.take_add_one, List.getElem?_eq_getElem hi, List.filter_append]
        show _ ++ (match nz ns[i] with | true => [ns[i]] | false => []) = _
        cases nz ns[i] <;> rfl
      refine ⟨rfl, _, rfl, rfl, _, rfl, iteND (fun hn => ?_) (fun h0 => ?_)⟩
      · have hnz : nz ns[i] = true := decide_eq_true fun z => hn (by rw [z])
        rw [htk, if_pos hnz]
        refine ⟨_, rfl, _, hp, ?_, same_mut sm np, ?_⟩
        · rw [List.length_map]
          have h1 := List.length_filter_le nz (ns.take i)
          rw [List.length_take] at h1
          exact Nat.lt_of_le_of_lt (show _ ≤ 100000 by omega) (by decide)
        · rw [upd_same, List.map_append]
          rfl
      · have hnz : ¬ nz ns[i] = true := fun z => of_decide_eq_true z (V.int.inj h0)
        rw [htk, if_neg hnz, List.append_nil]
        exact ⟨sm, hp⟩
    · rintro H2 ⟨sm, hp⟩
      rw [List.length_map, List.take_length] at hp
      have hz : (ns.filter nz).length ≤ 100000 := Nat.le_trans (List.length_filter_le _ _) hz
      generalize ns.filter nz = ns at hp hz qE qN
      have hP : SqL K H2 p (ns.map V.int) := .inl (.inl hp)
      refine ⟨_, rfl, p, rfl, ⟨_, hP⟩, fun p2 np2 => ?_⟩
      refine lc_list (K := K) (xs := ns.map V.int) (fun i H3 => Same H2 H3 ∧ H3 p2 = some (.lst ((ns.take i).map fun m => V.bl (!decide (V.int m = V.int (ns.headD 0)))))) ?_ ?_ ?_ ?_
      · exact ⟨same_upd np2, upd_same⟩
      · rintro i H3 _ ⟨sm3, _⟩
        exact sm3.seq hP
      · rintro i x H3 hx ⟨sm3, hp3⟩
        obtain ⟨hi, rfl⟩ := getm hx
        have h0 : (ns.map V.int)[0]? = some (.int (ns.headD 0)) := by
          cases ns with
          | nil => exact absurd hi (Nat.not_lt_zero _)
          | cons n r => rfl
        refine ⟨rfl, tYes_of ?_⟩
        refine ⟨_, rfl, _, rfl, p, _, 0, _, rfl, rfl, sm3.seq hP, atI_nat (j := 0) h0, rfl, _, hp3, ?_, same_mut sm3 np2, ?_⟩
        · rw [List.length_map, List.length_take]
          exact Nat.lt_of_le_of_lt (show min i ns.length ≤ 100000 by omega) (by decide)
        · rw [upd_same, take_map_succ (fun m => V.bl (!decide (V.int m = V.int (ns.headD 0)))) hi]
      · rintro H3 ⟨sm3, hp3⟩
        rw [List.length_map, List.take_length] at hp3
        have sA := sm.trans sm3
        refine ⟨p2, ns.map fun m => !decide (V.int m = V.int (ns.headD 0)), rfl, .inl (.inl ?_), _, rfl, ?_⟩
        · rw [hp3, List.map_map]
          rfl
        show if mixL ns = true then _ else _
        cases e : mixL ns with
        | true =>
          refine iteT ?_
          refine ⟨(by show 0 ≤ 1000; decide), fun a na => ⟨a, M, _, rfl, upd_same, X.t, fun d nd ne => ?_⟩⟩
          have nd3 : H3 d = none := by
            rw [upd_ne ne] at nd
            exact nd
          refine ⟨rfl, d, _, upd_same, ?_, nd3, qE e d _ ?_ upd_same⟩
          · rw [upd_ne ne, upd_same]
            rfl
          · intro b o hb
            have hb2 := sA b o hb
            have nba : b ≠ a := ne_of_none hb2 na
            have nbd : b ≠ d := ne_of_none hb2 nd3
            rw [upd_ne nbd, del_ne nba, upd_ne nba, upd_ne nbd, upd_ne nba]
            exact hb2
        | false =>
          refine iteF ?_
          exact qN e H3 sA
end
end OT

set_option Elab.async false
set_option linter.all false
set_option maxRecDepth 100000
set_option maxHeartbeats 2000000
namespace OT
open PySem PySem.Spec PyProof.Rows L2
/-- rows at addresses, in turn -/
inductive RowsAt (H : Hp) : List V → List (List Ent) → Prop
  | nil : RowsAt H [] []
  | cons {a : Addr} {xs : List V} {es : List Ent} {vs : List V} {ess : List (List Ent)} : H a = some (.lst xs) → Ents H xs es → RowsAt H vs ess → RowsAt H (.ref a :: vs) (es :: ess)
theorem RowsAt.len {H : Hp} {vs : List V} {ess : List (List Ent)} (h : RowsAt H vs ess) : vs.length = ess.length := by
  induction h with
  | nil => rfl
  | cons _ _ _ ih => rw [List.length_cons, List.length_cons, ih]
theorem RowsAt.mono {H H' : Hp} {vs : List V} {ess : List (List Ent)} (s : ∀ b o, H b = some o → H' b = some o) (h : RowsAt H vs ess) : RowsAt H' vs ess := by
  induction h with
  | nil => exact .nil
  | cons h1 h2 _ ih => exact .cons (s _ _ h1) (h2.mono s) ih
theorem RowsAt.get {H : Hp} {vs : List V} {ess : List (List Ent)} (h : RowsAt H vs ess) : ∀ {i : Nat} {v : V}, vs[i]? = some v → ∃ a xs es, v = .ref a ∧ ess[i]? = some es ∧ H a = some (.lst xs) ∧ Ents H xs es := by
  induction h with
  | nil => intro i v h; simp at h
  | cons h1 h2 _ ih =>
    intro i v hv
    cases i with
    | zero =>
      cases hv
      exact ⟨_, _, _, rfl, rfl, h1, h2⟩
    | succ i => exact ih (i := i) hv
def dims (ess : List (List Ent)) : List Int := ess.map fun es => ((dimE es : Nat) : Int)
def plens (ks : List Pl) : List Int := ks.map fun k => (k.length : Int)
theorem dims_snoc {ess : List (List Ent)} {i : Nat} {es : List Ent} (h : ess[i]? = some es) : (dims (ess.take (i + 1))).map V.int = (dims (ess.take i)).map V.int ++ [V.int ((dimE es : Nat) : Int)] := by
  rw [List.take_add_one, h]
  unfold dims
  rw [List.map_append, List.map_append]
  rfl
theorem plens_snoc {ks : List Pl} {i : Nat} {k : Pl} (h : ks[i]? = some k) : (plens (ks.take (i + 1))).map V.int = (plens (ks.take i)).map V.int ++ [V.int (k.length : Int)] := by
  rw [List.take_add_one, h]
  unfold plens
  rw [List.map_append, List.map_append]
  rfl
section
variable {P : Program} {w : World} {K : PySem.W.Frag} {mg : Str → Option Value} {base : Heap}
def spSD (K : PySem.W.Frag) (M : Addr) : Sp := fun vs H Q E => ∃ (a b : Addr) (us ws : List V) (ess : List (List Ent)) (ks : List Pl), vs = [.ref a, .ref b] ∧ SqL K H a us ∧ RowsAt H us ess ∧ SqL K H b ws ∧ Pls H ws ks ∧ ess.length ≤ 1000 ∧ ks.length ≤ 1000 ∧
  (mixL ((dims ess ++ plens ks).filter nz) = true → ∀ d H', Same H H' → H' d = some (.xd errM) → E (.ref M) (some d) H') ∧ (mixL ((dims ess ++ plens ks).filter nz) = false → ∀ H', Same H H' → Q .non H')
theorem ok_same_dimension {f M fS : Addr} {fd fdS : FuncData} (D : C8.Def K mg "same_dimension" s_same_dimension f fd) (T : Bi mg) (DS : C8.Def K mg "same_lengths" s_same_lengths fS fdS) (bS : Binds K fdS ["lengths"] []) (GS : FnOk P w K mg base (L2N.CX P w) 3 fS fdS ["lengths"] (spSL K M))
    (c_places_length : C8.Cal P w K mg base 1 "places_length" (spPLen K) []) : FnOk P w K mg base (L2N.CX P w) 4 f fd ["rows", "places"] (spSD K M) := by
  obtain ⟨oc, od, dV, kV, doc, pm, an, cdv, ct, osl, rfl, lk, hcd⟩ := D.fn.ex
  refine fn_of lk hcd sc_same_dimension (fun vs H Q E h => ?_) fun A outer s H vs Q E hr h => ?_
  · obtain ⟨a, b, us, ws, ess, ks, rfl, _⟩ := h
    rfl
  · obtain ⟨a, b, us, ws, ess, ks, rfl, ha, hR, hb, hP, z1, z2, qE, qN⟩ := h
    refine ⟨_, (pss_one (ps_expr (pe_callS GS hr rfl DS.mgf DS.kp bS (fun σ => L2N.passAt (L2N.takes_of rfl rfl rfl rfl) σ) (pa_cons (pe_op op_cat (pe_lc (own := [("row", 2)]) (g := (gName 2)) (tt := tYes) rfl sc_same_dimension.nd (pi_list (pv 0)) (blkOk_by (N := ["rows", "places", "row", "place"]) (sc := C8.fnScope s_same_dimension) (by decide +kernel)) (fun _ _ _ _ _ => (pg_name (i := 2) sc_same_dimension.nd rfl (Or.inl rfl))) (fun _ _ _ _ _ => pts_nil) (fun _ _ _ _ _ => (C8.pe_c c_places_length hr (by decide) (by rfl) (pa_cons (pv 2) pa_nil)))) (pe_lc (own := [("place", 3)]) (g := (gName 3)) (tt := tYes) rfl sc_same_dimension.nd (pi_list (pv 1)) (blkOk_by (N := ["rows", "places", "row", "place"]) (sc := C8.fnScope s_same_dimension) (by decide +kernel)) (fun _ _ _ _ _ => (pg_name (i := 3) sc_same_dimension.nd rfl (Or.inl rfl))) (fun _ _ _ _ _ => pts_nil) (fun _ _ _ _ _ => (pe_callB (show CallR _ _ (Evl.rLenS K) from call_len_seq) (by rfl) T.n_len OT.b_len (pa_cons (pv 3) pa_nil))))) pa_nil)))), ?_⟩
    have l1 := hR.len
    have l2 := hP.len
    refine ⟨_, rfl, a, rfl, ⟨_, ha⟩, fun p np => ?_⟩
    refine lc_list (K := K) (xs := us) (fun i H2 => Same H H2 ∧ H2 p = some (.lst ((dims (ess.take i)).map V.int))) ?_ ?_ ?_ ?_
    · exact ⟨same_upd np, upd_same⟩
    · rintro i H2 _ ⟨sm, _⟩
      exact sm.seq ha
    · rintro i x H2 hx ⟨sm, hp⟩
      obtain ⟨a1, xs, es, rfl, he, h1, h2⟩ := (hR.mono sm).get hx
      have hi := (List.getElem?_eq_some_iff.mp he).1
      refine ⟨rfl, tYes_of ?_⟩
      refine ⟨_, rfl, a1, xs, es, rfl, .inl (.inl h1), h2, _, hp, ?_, same_mut sm np, ?_⟩
      · unfold dims
        rw [List.length_map, List.length_map, List.length_take]
        exact small1000 (by omega)
      · rw [upd_same, dims_snoc he]
    · rintro H2 ⟨sm2, hp⟩
      rw [l1, List.take_length] at hp
      refine ⟨_, rfl, b, rfl, ⟨_, sm2.seq hb⟩, fun p3 np3 => ?_⟩
      refine lc_list (K := K) (xs := ws) (fun i H3 => Same H2 H3 ∧ H3 p3 = some (.lst ((plens (ks.take i)).map V.int))) ?_ ?_ ?_ ?_
      · exact ⟨same_upd np3, upd_same⟩
      · rintro i H3 _ ⟨sm, _⟩
        exact (sm2.trans sm).seq hb
      · rintro i x H3 hx ⟨sm, hp3⟩
        obtain ⟨q3, k, rfl, hk, hq3⟩ := (hP.mono (sm2.trans sm)).get hx
        have hi := (List.getElem?_eq_some_iff.mp hk).1
        refine ⟨rfl, tYes_of ?_⟩
        refine ⟨_, rfl, q3, _, rfl, .inr (.inl (.inl hq3)), _, hp3, ?_, same_mut sm np3, ?_⟩
        · unfold plens
          rw [List.length_map, List.length_map, List.length_take]
          exact small1000 (by omega)
        · rw [upd_same, plens_snoc hk, List.length_map]
      · rintro H3 ⟨sm3, hp3⟩
        rw [l2, List.take_length] at hp3
        have sA := sm2.trans sm3
        have d1 : (dims ess).length = ess.length := List.length_map _
        have d2 : (plens ks).length = ks.length := List.length_map _
        refine ⟨p, p3, _, _, rfl, rfl, sm3 _ _ hp, hp3, ?_, fun p4 np4 => ?_⟩
        · rw [List.length_map, List.length_map, d1, d2]
          exact Nat.le_of_lt (small100k (by omega))
        have s4 : Same H3 (upd H3 p4 (.lst ((dims ess).map V.int ++ (plens ks).map V.int))) := same_upd np4
        have sB := sA.trans s4
        refine ⟨p4, dims ess ++ plens ks, rfl, .inl (.inl ?_), ?_, fun hm d H5 sm5 hd => qE hm d H5 (sB.trans sm5) hd, fun hm H5 sm5 => qN hm H5 (sB.trans sm5)⟩
        · rw [upd_same, List.map_append]
        · rw [List.length_append, d1, d2]
          omega
end
end OT

set_option Elab.async false
set_option linter.all false
set_option maxRecDepth 100000
set_option maxHeartbeats 2000000
namespace OT
open PySem PySem.Spec PyProof.Rows L2
section
variable {P : Program} {w : World} {K : PySem.W.Frag} {mg : Str → Option Value} {base : Heap}
theorem c_row_of {f : Addr} {fd : FuncData} (D : C8.Def K mg "row_of" s_row_of f fd) (b : Binds K fd ["numbers"] []) (T : Bi mg) : C8.Cal P w K mg base 1 "row_of" (spRowOf K) [] := by
  refine C8.cal0 D b .nil sc_row_of (fun vs H Q E h => ?_) (fun cdv A outer s H vs Q E hr h => ?_)
  · obtain ⟨d, kvs, ks, es, rfl, _⟩ := h
    rfl
  · obtain ⟨d, kvs, ks, es, rfl, hd, hs, hne, hz, q⟩ := h
    refine ⟨_, (pss_one (ps_ret (pe_lc (own := [("place", 1)]) (g := (gName 1)) rfl sc_row_of.nd (pi_list (pe_callB (cr_sortedDT rfl) (by rfl) T.n_sorted OT.b_sorted (pa_cons (pv 0) pa_nil))) (blkOk_by (N := ["numbers", "place"]) (sc := C8.fnScope s_row_of) (by decide +kernel)) (fun _ _ _ _ _ => (pg_name (i := 1) sc_row_of.nd rfl (Or.inl rfl))) (fun _ _ _ _ _ => (pts_one (pt_cmpR op_ne (pe_dget (hu_of hr) (pv 0) (pv 1) (fun _ _ => rfl)) pe_int (nomark _)))) (fun _ _ _ _ _ => (pe_tup (pa_cons (pv 1) (pa_cons (pe_dget (hu_of hr) (pv 0) (pv 1) (fun _ _ => rfl)) pa_nil))))))), ?_⟩
    refine ⟨_, rfl, d, kvs, ks, rfl, .inl hd, hs.keys, fun _ => hne, fun out p perm pw nod held np => ?_⟩
    refine ⟨p, rfl, ⟨_, .inl (.inl upd_same)⟩, fun D nD => ?_⟩
    have hpD : p ≠ D := ne_of_none upd_same nD
    obtain ⟨hDn, _⟩ := none_of_upd nD
    have hkd : ∀ x ∈ out, x.2 ∈ ks := fun x hx => perm.mem_iff.mp (List.mem_map_of_mem hx)
    refine lc_list (K := K) (a := p) (xs := out.map fun x => V.ref x.1) (fun i H2 => Same H H2 ∧ H2 p = some (.lst (out.map fun x => V.ref x.1)) ∧ ∃ ws, H2 D = some (.lst ws) ∧ Ents H2 ws (mkR (numAt es) ((out.take i).map (·.2)))) ?_ ?_ ?_ ?_
    · refine ⟨(same_upd np).trans (same_upd nD), ?_, [], upd_same, .nil⟩
      rw [upd_ne hpD, upd_same]
    · rintro i H2 _ ⟨_, hp, _⟩
      exact .inl (.inl hp)
    · rintro i x H2 hx ⟨sm, hp, ws, hD, hE⟩
      obtain ⟨hi, rfl⟩ := getm hx
      have hm := List.getElem_mem hi
      have hk := sm _ _ (held _ hm)
      have hv := hs.get (hkd _ hm)
      have hd2 := sm _ _ hd
      refine ⟨rfl, _, rfl, _, rfl, d, _, rfl, dgetT hd2 hk hv, ?_⟩
      refine ⟨rfl, _, rfl, ?_⟩
      have htk : (out.take (i + 1)).map (·.2) = (out.take i).map (·.2) ++ [out[i].2] := take_map_succ (·.2) hi
      rw [htk, mkR_snoc]
      refine iteND (fun hn => ?_) (fun h0 => ?_)
      · have hn0 : numAt es out[i].2 ≠ 0 := fun z => hn (by rw [z])
        rw [if_neg hn0]
        refine ⟨_, rfl, _, rfl, _, rfl, d, _, rfl, dgetT hd2 hk hv, (by show 2 ≤ sizeLine; decide), fun t nt => ?_⟩
        have ntD : D ≠ t := ne_of_none hD nt
        have smt : Same H2 (upd H2 t (.tup [.ref out[i].1, .int (numAt es out[i].2)])) := same_upd nt
        have hD3 := smt _ _ hD
        refine ⟨ws, hD3, ?_, same_mut (sm.trans smt) hDn, ?_, ws ++ [.ref t], upd_same, ?_⟩
        · have h1 := hE.len
          have h2 := mkR_len (numAt es) ((out.take i).map (·.2))
          have h3 := perm.length_eq
          rw [List.length_map] at h2 h3
          rw [List.length_take] at h2
          omega
        · rw [upd_ne hpD]
          exact smt _ _ hp
        · refine ((hE.mono smt).updL hD3).app (.cons (EntAt.updL hD3 ⟨t, _, rfl, upd_same, ?_⟩) .nil)
          exact smt _ _ hk
      · have h0' : numAt es out[i].2 = 0 := V.int.inj h0
        rw [if_pos h0', List.append_nil]
        exact ⟨sm, hp, ws, hD, hE⟩
    · rintro H2 ⟨sm, hp, ws, hD, hE⟩
      rw [List.length_map, List.take_length] at hE
      exact q _ D ws H2 (row_sorted perm pw nod hs.out) sm hDn hD hE
theorem c_gather {f : Addr} {fd : FuncData} (D : C8.Def K mg "gather" s_gather f fd) (b : Binds K fd ["entries"] []) (T : Bi mg) (c_row_of : C8.Cal P w K mg base 1 "row_of" (spRowOf K) []) : C8.Cal P w K mg base 2 "gather" (spGather K) [] := by
  refine C8.cal0 D b .nil sc_gather (fun vs H Q E h => ?_) (fun cdv A outer s H vs Q E hr h => ?_)
  · obtain ⟨a, xs, es, rfl, _⟩ := h
    rfl
  · obtain ⟨a, xs, es, rfl, hE, hne, q⟩ := h
    refine ⟨_, (pss_cons (ps_set (i := 1) sc_gather.nd rfl (Or.inl rfl) pe_dnewT)
  (pss_cons (ps_for PassesOwn.never rfl (pi_list (pv 0)) (pg_tup rfl (pgs_cons (pg_name (i := 2) sc_gather.nd rfl (Or.inl rfl)) (pgs_cons (pg_name (i := 3) sc_gather.nd rfl (Or.inl rfl)) pgs_nil))) (pss_one (ps_dput (hu_of hr) (pv 1) (pv 2) (pe_op op_add (pe_dget2 (hu_of hr) (pv 1) (pv 2) pe_int ⟨rfl, rfl, rfl, rfl⟩) (pv 3)) rfl)))
  (pss_one (ps_ret (C8.pe_c c_row_of hr (by decide) (by rfl) (pa_cons (pv 1) pa_nil)))))), ?_⟩
    refine fun d nd => ?_
    have s1 : Same H (upd H d (.dT [])) := same_upd nd
    refine ⟨_, rfl, a, rfl, ⟨xs, s1.seq hE.l⟩, ?_⟩
    refine for_list (K := K) (xs := xs) (fun i σ H2 => ∃ (kvs : List (List Key × V)) (ks : List Pl) (y2 y3 : Option V), σ = [some (.ref a), some (.ref d), y2, y3] ∧ Same H H2 ∧ H2 d = some (.dT kvs) ∧ Sums kvs ks (numAt (es.take i)) ∧ (∀ k ∈ ks, k ≠ []) ∧ ks.length ≤ i) ?_ ?_ ?_ ?_
    · exact ⟨[], [], none, none, rfl, s1, upd_same, Sums.nil, fun k hk => (by cases hk), Nat.le_refl _⟩
    · rintro i σ H2 _ ⟨_, _, _, _, _, sm, _⟩
      exact sm.seq hE.l
    · rintro i x σ H2 hx ⟨kvs, ks, y2, y3, rfl, sm, hd, hs, hk, hl⟩
      obtain ⟨e, he, hv⟩ := (hE.e.mono sm).get hx
      obtain ⟨t, p, rfl, ht, hp⟩ := hv
      have hi := (List.getElem?_eq_some_iff.mp he).1
      have hm : e ∈ es := List.mem_of_getElem? he
      have hz := hE.z
      refine ⟨t, _, rfl, .inl (.inl ht), rfl, _, _, rfl, _, _, rfl, rfl, ?_⟩
      refine ⟨_, rfl, d, rfl, .inr ⟨kvs, .inl hd⟩, _, rfl, _, dgetT hd hp rfl, _, rfl, numAt (es.take i) e.1, e.2, hs.getD _, rfl, _, rfl, _, rfl, d, _, rfl, DPut.t hd (k := e.1.map Sum.inl) (by rw [kV_ints]; exact hp) ?_, ?_⟩
      · rw [hs.len]
        omega
      · exact ⟨_, _, _, _, rfl, same_mut sm nd, upd_same, hs.next he, put_keys_ne hk (hne e hm), put_keys_len hl⟩
    · rintro σ H2 ⟨kvs, ks, y2, y3, rfl, sm, hd, hs, hk, hl⟩
      have hz := hE.z
      have hlen := hE.e.len
      rw [hlen, List.take_length] at hs
      refine ⟨_, rfl, d, kvs, ks, es, rfl, hd, hs, hk, by omega, fun r p ws H3 hr sm3 np hp he => ?_⟩
      refine q r p ws H3 hr (sm.trans sm3) ?_ hp he
      cases z : H p with
      | none => rfl
      | some o =>
        rw [sm _ _ z] at np
        cases np
end
end OT

set_option Elab.async false
set_option linter.all false
set_option maxRecDepth 100000
set_option maxHeartbeats 2000000
namespace OT
open PySem PySem.Spec PyProof.Rows L2
/-- the products of all pairs of entries -/
def rowT (e : Ent) (fs : List Ent) : List Ent := fs.map fun g => (plusP e.1 g.1, e.2 * g.2)
def timesL (es fs : List Ent) : List Ent := es.flatMap fun e => rowT e fs
theorem timesL_snoc (es fs : List Ent) (e : Ent) : timesL (es ++ [e]) fs = timesL es fs ++ rowT e fs := by
  unfold timesL
  rw [List.flatMap_append]
  simp
theorem dimE_eq {es : List Ent} {n : Nat} (h : ∀ e ∈ es, e.1.length = n) (hp : es ≠ []) : dimE es = n := by
  cases es with
  | nil => exact absurd rfl hp
  | cons e r => exact h e List.mem_cons_self
theorem put_klen {ks : List Pl} {e : Pl} {i : Nat} (h : ks.length ≤ i) : (if e ∈ ks then ks else ks ++ [e]).length ≤ i + 1 := by
  by_cases m : e ∈ ks
  · rw [if_pos m]
    omega
  · rw [if_neg m, List.length_append, List.length_singleton]
    omega
section
variable {P : Program} {w : World} {K : PySem.W.Frag} {mg : Str → Option Value} {base : Heap}
def spSDT (K : PySem.W.Frag) (M : Addr) : Sp := fun vs H Q E => ∃ (a b : Addr) (us : List V) (ess : List (List Ent)), vs = [.ref a, .ref b] ∧ SqL K H a us ∧ RowsAt H us ess ∧ SqT K H b [] ∧ ess.length ≤ 1000 ∧
  (mixL ((dims ess).filter nz) = true → ∀ d H', Same H H' → H' d = some (.xd errM) → E (.ref M) (some d) H') ∧ (mixL ((dims ess).filter nz) = false → ∀ H', Same H H' → Q .non H')
theorem ok_same_dimensionT {f M fS : Addr} {fd fdS : FuncData} (D : C8.Def K mg "same_dimension" s_same_dimension f fd) (T : Bi mg) (DS : C8.Def K mg "same_lengths" s_same_lengths fS fdS) (bS : Binds K fdS ["lengths"] []) (GS : FnOk P w K mg base (L2N.CX P w) 3 fS fdS ["lengths"] (spSL K M))
    (c_places_length : C8.Cal P w K mg base 1 "places_length" (spPLen K) []) : FnOk P w K mg base (L2N.CX P w) 4 f fd ["rows", "places"] (spSDT K M) := by
  obtain ⟨oc, od, dV, kV, doc, pm, an, cdv, ct, osl, rfl, lk, hcd⟩ := D.fn.ex
  refine fn_of lk hcd sc_same_dimension (fun vs H Q E h => ?_) fun A outer s H vs Q E hr h => ?_
  · obtain ⟨a, b, us, ess, rfl, _⟩ := h
    rfl
  · obtain ⟨a, b, us, ess, rfl, ha, hR, hb, z1, qE, qN⟩ := h
    refine ⟨_, (pss_one (ps_expr (pe_callS GS hr rfl DS.mgf DS.kp bS (fun σ => L2N.passAt (L2N.takes_of rfl rfl rfl rfl) σ) (pa_cons (pe_op op_cat (pe_lc (own := [("row", 2)]) (g := (gName 2)) (tt := tYes) rfl sc_same_dimension.nd (pi_list (pv 0)) (blkOk_by (N := ["rows", "places", "row", "place"]) (sc := C8.fnScope s_same_dimension) (by decide +kernel)) (fun _ _ _ _ _ => (pg_name (i := 2) sc_same_dimension.nd rfl (Or.inl rfl))) (fun _ _ _ _ _ => pts_nil) (fun _ _ _ _ _ => (C8.pe_c c_places_length hr (by decide) (by rfl) (pa_cons (pv 2) pa_nil)))) (pe_lc (own := [("place", 3)]) (g := (gName 3)) (tt := tYes) rfl sc_same_dimension.nd (pi_tup (pv 1)) (blkOk_by (N := ["rows", "places", "row", "place"]) (sc := C8.fnScope s_same_dimension) (by decide +kernel)) (fun _ _ _ _ _ => (pg_name (i := 3) sc_same_dimension.nd rfl (Or.inl rfl))) (fun _ _ _ _ _ => pts_nil) (fun _ _ _ _ _ => (pe_callB (show CallR _ _ (Evl.rLenS K) from call_len_seq) (by rfl) T.n_len OT.b_len (pa_cons (pv 3) pa_nil))))) pa_nil)))), ?_⟩
    have l1 := hR.len
    refine ⟨_, rfl, a, rfl, ⟨_, ha⟩, fun p np => ?_⟩
    refine lc_list (K := K) (xs := us) (fun i H2 => Same H H2 ∧ H2 p = some (.lst ((dims (ess.take i)).map V.int))) ?_ ?_ ?_ ?_
    · exact ⟨same_upd np, upd_same⟩
    · rintro i H2 _ ⟨sm, _⟩
      exact sm.seq ha
    · rintro i x H2 hx ⟨sm, hp⟩
      obtain ⟨a1, xs, es, rfl, he, h1, h2⟩ := (hR.mono sm).get hx
      have hi := (List.getElem?_eq_some_iff.mp he).1
      refine ⟨rfl, tYes_of ?_⟩
      refine ⟨_, rfl, a1, xs, es, rfl, .inl (.inl h1), h2, _, hp, ?_, same_mut sm np, ?_⟩
      · unfold dims
        rw [List.length_map, List.length_map, List.length_take]
        exact small1000 (by omega)
      · rw [upd_same, dims_snoc he]
    · rintro H2 ⟨sm2, hp⟩
      rw [l1, List.take_length] at hp
      refine ⟨_, rfl, b, rfl, ⟨_, same_t sm2 hb⟩, fun p3 np3 => ?_⟩
      refine lc_tup (K := K) (xs := []) (fun i H3 => Same H2 H3 ∧ H3 p3 = some (.lst [])) ?_ ?_ ?_ ?_
      · exact ⟨same_upd np3, upd_same⟩
      · rintro i H3 _ ⟨sm, _⟩
        exact same_t (sm2.trans sm) hb
      · rintro i x H3 hx ⟨sm, hp3⟩
        cases hx
      · rintro H3 ⟨sm3, hp3⟩
        have sA := sm2.trans sm3
        have d1 : (dims ess).length = ess.length := List.length_map _
        refine ⟨p, p3, _, _, rfl, rfl, sm3 _ _ hp, hp3, ?_, fun p4 np4 => ?_⟩
        · rw [List.length_map, d1]
          exact Nat.le_of_lt (small100k (by show ess.length + 0 ≤ 100000; omega))
        have s4 : Same H3 (upd H3 p4 (.lst ((dims ess).map V.int ++ []))) := same_upd np4
        have sB := sA.trans s4
        refine ⟨p4, dims ess, rfl, .inl (.inl ?_), ?_, fun hm d H5 sm5 hd => qE hm d H5 (sB.trans sm5) hd, fun hm H5 sm5 => qN hm H5 (sB.trans sm5)⟩
        · rw [upd_same, List.append_nil]
        · rw [d1]
          omega
end
end OT

set_option Elab.async false
set_option linter.all false
set_option maxRecDepth 100000
set_option maxHeartbeats 2000000
namespace OT
open PySem PySem.Spec PyProof.Rows L2
/-- two rows of different dimensions other than 0 -/
def mixB (es fs : List Ent) : Bool := decide (dimE es ≠ 0 ∧ dimE fs ≠ 0 ∧ dimE es ≠ dimE fs)
theorem mixD (es fs : List Ent) : mixL ((dims [es, fs]).filter nz) = mixB es fs := by
  show mixL ([((dimE es : Nat) : Int), ((dimE fs : Nat) : Int)].filter nz) = mixB es fs
  unfold mixB
  generalize dimE es = x
  generalize dimE fs = y
  have nzT : ∀ {z : Nat}, z ≠ 0 → nz (z : Int) = true := fun h => decide_eq_true (by omega)
  have nzF : ∀ {z : Nat}, z = 0 → nz (z : Int) = false := fun h => decide_eq_false (by omega)
  by_cases hx : x = 0
  · rw [List.filter_cons, if_neg (by rw [nzF hx]; decide), decide_eq_false (fun h => h.1 hx)]
    by_cases hy : y = 0
    · rw [List.filter_cons, if_neg (by rw [nzF hy]; decide)]
      rfl
    · rw [List.filter_cons, if_pos (nzT hy)]
      simp [mixL]
  · rw [List.filter_cons, if_pos (nzT hx)]
    by_cases hy : y = 0
    · rw [List.filter_cons, if_neg (by rw [nzF hy]; decide), decide_eq_false (fun h => h.2.1 hy)]
      simp [mixL]
    · rw [List.filter_cons, if_pos (nzT hy)]
      by_cases h : x = y
      · subst h
        rw [decide_eq_false (fun h => h.2.2 rfl)]
        simp [mixL]
      · rw [decide_eq_true ⟨hx, hy, h⟩]
        have : ¬ ((y : Int) = (x : Int)) := fun z => h (by omega)
        simp [mixL, this]
theorem mixB_same {es fs : List Ent} {n m : Nat} (h : es ≠ [] → fs ≠ [] → n = m) (he : ∀ e ∈ es, e.1.length = n) (hf : ∀ e ∈ fs, e.1.length = m) : mixB es fs = false := by
  refine decide_eq_false fun z => ?_
  obtain ⟨z1, z2, z3⟩ := z
  have h1 : es ≠ [] := fun y => z1 (by rw [y]; rfl)
  have h2 : fs ≠ [] := fun y => z2 (by rw [y]; rfl)
  exact z3 (by rw [dimE_eq he h1, dimE_eq hf h2, h h1 h2])
theorem timesL_mem {es fs : List Ent} {x : Ent} (h : x ∈ timesL es fs) : ∃ e ∈ es, ∃ g ∈ fs, x = (plusP e.1 g.1, e.2 * g.2) := by
  unfold timesL rowT at h
  obtain ⟨e, he, h⟩ := List.mem_flatMap.mp h
  obtain ⟨g, hg, rfl⟩ := List.mem_map.mp h
  exact ⟨e, he, g, hg, rfl⟩
theorem timesL_len : ∀ (es fs : List Ent), (timesL es fs).length = es.length * fs.length
  | [], fs => by rw [List.length_nil, Nat.zero_mul]; rfl
  | e :: r, fs => by
    have ih := timesL_len r fs
    show (rowT e fs ++ timesL r fs).length = _
    rw [List.length_append, ih, show (rowT e fs).length = fs.length from List.length_map _, List.length_cons, Nat.succ_mul]
    omega
section
variable {P : Program} {w : World} {K : PySem.W.Frag} {mg : Str → Option Value} {base : Heap}
/-- the same, of the law -/
def spTimes (K : PySem.W.Frag) : Sp := fun vs H Q _ => ∃ (a b : Addr) (xs ys : List V) (es fs : List Ent), vs = [.ref a, .ref b] ∧ SqL K H a xs ∧ SqL K H b ys ∧ Ents H xs es ∧ Ents H ys fs ∧ es.length * fs.length ≤ 10000 ∧ (∀ e ∈ es, ∀ g ∈ fs, e.1.length = g.1.length) ∧ (∀ e ∈ es, e.1 ≠ [] ∧ e.1.length ≤ 1000) ∧ (∀ g ∈ fs, -(2 ^ 64) < g.2 ∧ g.2 < 2 ^ 64) ∧ wantRow H (timesL es fs) Q
theorem c__law_times {f : Addr} {fd : FuncData} (D : C8.Def K mg "_law_times" s__law_times f fd) (b : Binds K fd ["_law_first", "_law_second"] []) (T : Bi mg) (c__law_plus : C8.Cal P w K mg base 1 "_law_plus" (spPlus K) []) (c__law_row : C8.Cal P w K mg base 1 "_law_row" (spGather K) []) : C8.Cal P w K mg base 2 "_law_times" (spTimes K) [] := by
  refine C8.cal0 D b .nil sc__law_times (fun vs H Q E h => ?_) (fun cdv A outer s H vs Q E hr h => ?_)
  · obtain ⟨a, b, xs, ys, es, fs, rfl, _⟩ := h
    rfl
  · obtain ⟨a, b, xs, ys, es, fs, rfl, hS, hT, hE, hF, hz, hl, hne, hnum, q⟩ := h
    refine ⟨_, (pss_cons (ps_set (i := 2) sc__law_times.nd rfl (Or.inl rfl) (pe_lst pa_nil))
  (pss_cons (ps_for PassesOwn.never rfl (pi_list (pv 0)) (pg_tup rfl (pgs_cons (pg_name (i := 3) sc__law_times.nd rfl (Or.inl rfl)) (pgs_cons (pg_name (i := 4) sc__law_times.nd rfl (Or.inl rfl)) pgs_nil))) (pss_one (ps_for PassesOwn.never rfl (pi_list (pv 1)) (pg_tup rfl (pgs_cons (pg_name (i := 5) sc__law_times.nd rfl (Or.inl rfl)) (pgs_cons (pg_name (i := 6) sc__law_times.nd rfl (Or.inl rfl)) pgs_nil))) (pss_one (ps_expr (pe_bm PySem.F.plainAttrs_list PySem.F.slot_list_append PySem.F.type_list_append mt_append (pv 2) (pa_cons (pe_tup (pa_cons (C8.pe_c c__law_plus hr (by decide) (by rfl) (pa_cons (pv 3) (pa_cons (pv 5) pa_nil))) (pa_cons (pe_op op_mul (pv 4) (pv 6)) pa_nil))) pa_nil)))))))
  (pss_one (ps_ret (C8.pe_c c__law_row hr (by decide) (by rfl) (pa_cons (pv 2) pa_nil)))))), ?_⟩
    refine ⟨by decide, fun p np => ?_⟩
    have s1 : Same H (upd H p (.lst [])) := same_upd np
    refine ⟨_, rfl, a, rfl, ⟨_, s1.seq hS⟩, ?_⟩
    refine for_list (K := K) (xs := xs) (fun i σ H2 => ∃ (ws : List V) (y3 y4 y5 y6 : Option V), σ = [some (.ref a), some (.ref b), some (.ref p), y3, y4, y5, y6] ∧ Same H H2 ∧ H2 p = some (.lst ws) ∧ Ents H2 ws (timesL (es.take i) fs)) ⟨[], none, none, none, none, rfl, s1, upd_same, .nil⟩ ?_ ?_ ?_
    · rintro i σ H2 _ ⟨_, _, _, _, _, _, sm, _⟩
      exact sm.seq hS
    · rintro i x σ H2 hx ⟨ws, y3, y4, y5, y6, rfl, sm, hp, hW⟩
      obtain ⟨e, hee, t, pe, rfl, ht, hpe⟩ := hE.get hx
      have hi := (List.getElem?_eq_some_iff.mp hee).1
      have hem : e ∈ es := List.mem_of_getElem? hee
      refine ⟨t, _, rfl, .inl (.inl (sm _ _ ht)), rfl, _, _, rfl, _, _, rfl, rfl, ?_⟩
      refine ⟨_, rfl, b, rfl, ⟨_, sm.seq hT⟩, ?_⟩
      refine for_list (K := K) (xs := ys) (fun j σ H3 => ∃ (ws : List V) (y5 y6 : Option V), σ = [some (.ref a), some (.ref b), some (.ref p), some (.ref pe), some (.int e.2), y5, y6] ∧ Same H H3 ∧ H3 p = some (.lst ws) ∧ Ents H3 ws (timesL (es.take i) fs ++ rowT e (fs.take j))) ?_ ?_ ?_ ?_
      · refine ⟨ws, y5, y6, rfl, sm, hp, ?_⟩
        rw [show rowT e (fs.take 0) = [] from rfl, List.append_nil]
        exact hW
      · rintro j σ H3 _ ⟨_, _, _, _, sm, _⟩
        exact sm.seq hT
      · rintro j x σ H3 hx ⟨ws, y5, y6, rfl, sm, hp, hW⟩
        obtain ⟨z, hzz, t2, pz, rfl, ht2, hpz⟩ := hF.get hx
        have hj := (List.getElem?_eq_some_iff.mp hzz).1
        have hzm : z ∈ fs := List.mem_of_getElem? hzz
        refine ⟨t2, _, rfl, .inl (.inl (sm _ _ ht2)), rfl, _, _, rfl, _, _, rfl, rfl, ?_⟩
        have hle := hl e hem z hzm
        refine ⟨_, rfl, .inl ⟨rfl, _, .inl (.inl hp)⟩, _, rfl, _, rfl, pe, pz, e.1, z.1, rfl, .inl (.inl (sm _ _ hpe)), .inl (.inl (sm _ _ hpz)), Nat.le_of_eq hle, (hne e hem).2, fun p4 H4 s4 hp4 => ?_⟩
        refine ⟨_, rfl, _, rfl, _, _, rfl, rfl, .inr (hnum z hzm), (by show 2 ≤ sizeLine; decide), fun t5 nt5 => ?_⟩
        have s5 : Same H4 (upd H4 t5 (.tup [.ref p4, .int (e.2 * z.2)])) := same_upd nt5
        have s45 := s4.trans s5
        have hD := s45 _ _ hp
        have hwl := hW.len
        refine ⟨p, ws, _, rfl, rfl, hD, ?_, ?_⟩
        · rw [hwl, List.length_append, timesL_len, List.length_take, show (rowT e (fs.take j)).length = (fs.take j).length from List.length_map _, List.length_take, Nat.min_eq_left (Nat.le_of_lt hi), Nat.min_eq_left (Nat.le_of_lt hj)]
          have h1 : i * fs.length + fs.length ≤ es.length * fs.length := by
            rw [← Nat.succ_mul]
            exact Nat.mul_le_mul_right _ hi
          exact small100k (by omega)
        · refine ⟨ws ++ [.ref t5], _, _, rfl, same_mut (sm.trans s45) np, upd_same, ?_⟩
          have e1 : timesL (es.take i) fs ++ rowT e (fs.take (j + 1)) = (timesL (es.take i) fs ++ rowT e (fs.take j)) ++ [(plusP e.1 z.1, e.2 * z.2)] := by
            rw [take_snoc hzz]
            unfold rowT
            rw [List.map_append, List.append_assoc]
            rfl
          rw [e1]
          exact ((hW.mono s45).updL hD).app (.cons (EntAt.updL hD ⟨t5, p4, rfl, upd_same, s5 _ _ hp4⟩) .nil)
      · rintro σ H3 ⟨ws, y5, y6, rfl, sm, hp, hW⟩
        rw [hF.len, List.take_length] at hW
        refine ⟨ws, _, _, y5, y6, rfl, sm, hp, ?_⟩
        rw [take_snoc hee, timesL_snoc]
        exact hW
    · rintro σ H2 ⟨ws, y3, y4, y5, y6, rfl, sm, hp, hW⟩
      rw [hE.len, List.take_length] at hW
      refine ⟨_, rfl, p, ws, timesL es fs, rfl, ⟨.inl (.inl hp), hW, ?_⟩, fun x hx => ?_, wantRow.mono sm q⟩
      · rw [timesL_len]
        exact small100k (by omega)
      · obtain ⟨e, he, g, hg, rfl⟩ := timesL_mem hx
        intro h0
        have h1 := plusP_len (Nat.le_of_eq (hl e he g hg))
        have h2 : (plusP e.1 g.1).length = 0 := by
          show (plusP e.1 g.1).length = 0
          rw [show plusP e.1 g.1 = [] from h0]
          rfl
        exact (hne e he).1 (List.length_eq_zero_iff.mp (by omega))
end
end OT

set_option Elab.async false
set_option linter.all false
set_option maxRecDepth 100000
set_option maxHeartbeats 2000000
/-! dict comprehensions whose keys are tuples; xs[i] op= e; math.comb -/
namespace OK
open PySem PySem.Spec PyProof.Rows L2
/-- a store into the dict of a comprehension, the key a tuple -/
theorem put_tup {X : Cx} {pins : List (Addr × Obj)} {σ : L2.St} {G : Hp} {s : Shared} {E : Value → Shared → Prop} {d b : Addr} {kvs : List (List Key × V)} {k : List Key} {z : V} {u r : Value} {Q : Unit → Shared → Prop} (hu : X.A.units + 1 < cLine) (I : Inv X pins σ G s)
    (hd : G d = some (.dT kvs)) (hb : G b = some (.tup (k.map kV))) (hz : kvs.length < sizeLine) (ry : RelV (.ref b) u) (rv : RelV z r) (fin : ∀ s', Inv X pins σ (upd G d (.dT (putK kvs k z))) s' → Q () s') :
    wpAny (model X.prog X.w) X.A (dictSet d u r) Q E s := by
  obtain rfl : u = Value.ref b := ry
  obtain ⟨lz, ns, xs, rel, dd⟩ := dt_of I.hok hd
  have xz : xs.length ≤ sizeLine := Paired.length rel ▸ lz
  have nz : (putK kvs k z).length ≤ sizeLine := Nat.le_trans (length_putK kvs k z) hz
  refine wpAny_dictSet_heap (show X.A.units < cLine by omega) (key_of I.hok hb) dd (hsz := xz) fun g' d2 keep => fin _ ?_
  obtain ⟨ob, ents, ep, at1, at2, at3, at4, _, at5⟩ := d2
  have kt := (rel.put k hb rv).keeps (H' := upd G d (.dT (putK kvs k z))) fun c ys hc => by
    rw [upd_ne (ne_of hc hd (by intro q; cases q))]
    exact hc
  exact d_write I (by rw [hd]; trivial) keep ⟨ob, at1⟩ ⟨nz, ns, _, kt, ob, ents, ep, at1, at2, at3, at4, at5⟩
section
variable {X : Cx}
/-- what a dict comprehension with tuple keys asks: D the new dict -/
def tDct (wi : TI) (g : TG) (tt : TT) (tk tv : TE) (vs : List Nat) : TE := fun σ H Q => wi σ H fun J G => ∀ D, G D = none →
  ∃ W : Nat → Nat → Hp → Prop, (∃ m, W 0 m (upd G D (.dT []))) ∧ ∀ i m F, W i m F → (J.stop i F ∧ Q (.ref D) F) ∨
    (J.go i F ∧ ∃ Nx : Hp → Prop, (∀ F', Nx F' → ∃ m', m' < m ∧ W (i + 1) m' F') ∧ ∀ x F', J.yld i F x F' →
      g x (wipe σ vs) F' fun σ2 F2 => wipe σ2 vs = wipe σ vs ∧ tt σ2 F2 fun c F3 =>
        if c = true then tk σ2 F3 fun y F4 => tv σ2 F4 fun z F5 => ∃ kvs k b, y = .ref b ∧ F5 b = some (.tup (k.map kV)) ∧ F5 D = some (.dT kvs) ∧ kvs.length < sizeLine ∧ Nx (upd F5 D (.dT (putK kvs k z)))
        else Nx F3)
variable {kx vx tg iter : Expr} {ifs : List Expr} {scope : Scope} {own : List (Str × Nat)} {pos pos' : Pos} {wi : TI} {g : TG} {tt : TT} {tk tv : TE}
theorem dct_core {pins : List (Addr × Obj)} {s : Shared} {σ : L2.St} {H : Hp} {Q : VK} {use : Option (Value → Sem Unit)} {Qf : Value → Shared → Prop} (hc : X.calm = true) (hu : X.A.units + 1 < cLine) (hN : X.N.Nodup) (I : Inv X pins σ H s) (hi : PI X tg iter wi)
    (ok : BlkOk X.N X.env.scope scope own) (hg : ∀ r G C cl fp, PG (X.blk r G scope (compEnvC scope cl C X.env) fp) tg g) (ht : ∀ r G C cl fp, PTs (X.blk r G scope (compEnvC scope cl C X.env) fp) ifs tt)
    (hk : ∀ r G C cl fp, PE (X.blk r G scope (compEnvC scope cl C X.env) fp) kx tk) (he : ∀ r G C cl fp, PE (X.blk r G scope (compEnvC scope cl C X.env) fp) vx tv)
    (hs : ∀ x, foldedSetIterable iter X.env x = pure x) (h : tDct wi g tt tk tv (own.map (·.2)) σ H Q)
    (back : ∀ D C r m G, Inv X pins σ G r → Q (.ref D) G → r.heap.Ns C m → FpOk X pins G C → compPost (model X.prog X.w) X.A X.xe use Qf (.ref D) C (.ok .next) r) :
    wpAny (model X.prog X.w) X.A (comprehension (.DictComp kx vx [⟨tg, iter, ifs, 0⟩] scope pos) scope X.env pos' newDict false (eval iter X.env) use) Qf X.xe s := by
  have free : ∀ y ∈ scope.names, y.2 = .free → ∃ c, X.env.cells.lookup y.1 = some c := fun y hy e =>
    (ok.free y hy e).elim (fun k => I.ok.has _ (.inl k)) fun k => I.ok.has _ (.inr k)
  refine wpAny_comprehension_free (use := use) rfl hs (closure_ok free) ok.kind (fun y hy e => by rw [ok.uniq y hy, e]) (thn (hi.run pins s σ H _ I h) fun xv r1 hx => thn hx fun itv r2 h2 => ?_)
  obtain ⟨it, fp, tn, J, G2, rfl, I2, T, st2, f2, q⟩ := h2
  refine wpAny_newObj_type (newEnv_comp ?_)
  generalize hD : r2.heap.objs.size = D
  have hDn : G2 D = none := I2.hok.fresh (Nat.le_of_eq hD)
  obtain ⟨W, ⟨m0, w0⟩, turn⟩ := q D hDn
  generalize hr3 : ({ r2 with heap := r2.heap.push { cls := .type "dict", data := .dict #[] } } : Shared) = r3
  have hp3 : r3.heap = r2.heap.push { cls := .type "dict", data := .dict #[] } := by
    rw [← hr3]
  have I3 : Inv X pins σ (upd G2 D (.dT [])) r3 := by
    rw [← hr3]
    exact I2.laid (t' := r2.toks) (fun b o e => Heap.get?_push_of_some _ e) (Nat.le_of_eq hD) (by rw [← hD]; exact dt_empty r2.heap I2.big)
  have small : ∀ b ∈ fp, b < r2.heap.objs.size := fun b hb => let ⟨_, e, _⟩ := T.obj _ _ st2 b hb; Heap.lt_size e
  have f3 : ∀ b ∈ fp, FpOk X pins (upd G2 D (.dT [])) b ∧ b < r3.heap.objs.size := fun b hb => by
    have hlt := small b hb
    refine ⟨⟨?_, (f2 b hb).2⟩, by rw [hp3, Heap.size_push]; exact Nat.lt_succ_of_lt hlt⟩
    rw [upd_ne (fun z => Nat.ne_of_lt hlt (z.trans hD.symm))]
    exact (f2 b hb).1
  have st3 : tn 0 r3.heap := T.keep _ _ _ st2 fun b _ o e => by rw [hp3]; exact Heap.get?_push_of_some _ e
  have I4 := block_start I3 ok hN f3
  obtain ⟨C, hC⟩ : ∃ C, r3.heap.objs.size = C := ⟨_, rfl⟩
  rw [hC] at I4 f3
  obtain ⟨ce, hce⟩ : ∃ ce, compEnvC scope (cellsFrom (C + 1) scope.names (cloFrom X.env.cells scope.names [])) C X.env = ce := ⟨_, rfl⟩
  have bl : ce.locals = C := by rw [← hce]; rfl
  have pg := hg r3 (upd G2 D (.dT [])) C (cellsFrom (C + 1) scope.names (cloFrom X.env.cells scope.names [])) fp
  have pt := ht r3 (upd G2 D (.dT [])) C (cellsFrom (C + 1) scope.names (cloFrom X.env.cells scope.names [])) fp
  have pk := hk r3 (upd G2 D (.dT [])) C (cellsFrom (C + 1) scope.names (cloFrom X.env.cells scope.names [])) fp
  have pv := he r3 (upd G2 D (.dT [])) C (cellsFrom (C + 1) scope.names (cloFrom X.env.cells scope.names [])) fp
  rw [hce] at I4 pg pt pk pv
  have nfp : ∀ b ∈ fp, (upd G2 D (.dT [])) b = none := fun b hb => (f3 b hb).1.1
  obtain ⟨G3, hG3⟩ : ∃ G3, upd G2 D (.dT []) = G3 := ⟨_, rfl⟩
  rw [hG3] at I3 I4 pg pt pk pv w0 nfp f3
  show codeAny _ _ (.compStart (.DictComp kx vx [⟨tg, iter, ifs, 0⟩] scope pos) 0 (.ref it) (.ref D) (compEnvC scope (cellsFrom (r3.heap.objs.size + 1) scope.names (cloFrom X.env.cells scope.names [])) r3.heap.objs.size X.env))
    (compPost (model X.prog X.w) X.A X.xe use Qf (.ref D) r3.heap.objs.size) { r3 with heap := pushCells (r3.heap.push { cls := .type "dict", data := .dict #[] }) scope.names }
  rw [hC, hce]
  generalize hr4 : ({ r3 with heap := pushCells (r3.heap.push { cls := .type "dict", data := .dict #[] }) scope.names } : Shared) = r4 at I4 ⊢
  have st4 : tn 0 r4.heap := T.keep _ _ _ st3 fun b _ o e => by
    rw [← hr4]
    exact pushCells_keeps _ _ _ _ (Heap.get?_push_of_some _ e)
  have still : ∀ {τ : L2.St} {G : Hp} {r : Shared}, Inv (X.blk r3 G3 scope ce fp) [] τ G r → (∀ b ∈ fp, G b = none) → ∀ b ∈ fp, FpOk (X.blk r3 G3 scope ce fp) [] G b := fun J' none b hb =>
    ⟨none b hb, (J'.ok.exf b hb).1, J'.ok.exfs b hb, .inl hb, fun x c e => (J'.ok.exf b hb).2 x c e, fun p hp => (by cases hp)⟩
  have loop : codeAny (model X.prog X.w) X.A (.compLoop (.DictComp kx vx [⟨tg, iter, ifs, 0⟩] scope pos) 0 (.ref it) (.ref D) ce) (compPost (model X.prog X.w) X.A X.xe use Qf (.ref D) C) r4 := by
    refine compLoop_anyD (fun n r => ∃ i G, Inv (X.blk r3 G3 scope ce fp) [] (wipe σ (own.map (·.2))) G r ∧ tn i r.heap ∧ (∀ b ∈ fp, G b = none) ∧ W i n G) ?_ m0 ⟨0, G3, I4, st4, nfp, w0⟩
    rintro n r5 ⟨i, G5, I5, st5, n5, w5⟩
    rcases turn i n G5 w5 with ⟨stop, qq⟩ | ⟨go, Nx, hNx, step⟩
    · refine thnF (T.done (X.blk r3 G3 scope ce fp) rfl rfl rfl hc i [] r5 _ G5 (fun _ _ => False) I5 (still I5 n5) st5 stop) fun r r6 ⟨hr, I6⟩ => ?_
      subst hr
      have I7 : Inv X pins σ G5 r6 := I3.call' (ch := fp) I6.os I6.base I6.hok I6.bare fun b hb => let y := (f3 b hb).1.2; ⟨y.2.2.1, y.1, y.2.2.2.1, y.2.2.2.2⟩
      have nC : G5 C = none := bl ▸ (show G5 ce.locals = none from I6.free)
      obtain ⟨m, hn, _⟩ := I6.loc
      have hn' : r6.heap.Ns C m := bl ▸ (show r6.heap.Ns ce.locals m from hn)
      refine back D C r6 m G5 I7 qq hn' ?_
      rw [← hC] at nC ⊢
      exact I3.fpOk (Nat.le_refl _) nC
    · refine thnF (T.item (X.blk r3 G3 scope ce fp) rfl rfl rfl hc i [] r5 _ G5 (fun _ _ => False) I5 (still I5 n5) st5 go) fun r r6 ⟨u, hr, h6⟩ => ?_
      subst hr
      refine thnF h6 fun _ r7 ⟨x, G7, I7, e7, y7, st7, n7⟩ => ?_
      have P7 := I7.pinned (still I7 n7) (T.obj _ _ st7)
      refine thnF (pg.run _ r7 _ G7 x u _ P7 e7 (step x G7 y7)) fun _ r8 ⟨τ, G8, I8, hw, q8⟩ => ?_
      refine thnF (pt.run _ r8 τ G8 _ I8 q8) fun c r9 ⟨G9, I9, q9⟩ => ?_
      have fin : ∀ {r : Shared} {G : Hp}, Inv (X.blk r3 G3 scope ce fp) ([] ++ pinsAt fp r7.heap) τ G r → Nx G → ∃ m, m < n ∧ ∃ i G, Inv (X.blk r3 G3 scope ce fp) [] (wipe σ (own.map (·.2))) G r ∧ tn i r.heap ∧ (∀ b ∈ fp, G b = none) ∧ W i m G := fun {r G} J' nx => by
        obtain ⟨m', hm, w'⟩ := hNx G nx
        have pin : ∀ b ∈ fp, ∀ o, r7.heap.get? b = some o → r.heap.get? b = some o ∧ G b = none := fun b hb o e =>
          have z := J'.pin (b, o) (List.mem_append_right _ (List.mem_append_right _ (mem_pinsAt hb e)))
          ⟨z.1, z.2.1⟩
        refine ⟨m', hm, i + 1, G, (J'.unpinned (pins := [])).weak (by rw [← hw, wipe_length]) (fun j v e => ?_), T.keep _ _ _ st7 fun b hb o e => (pin b hb o e).1, fun b hb => ?_, w'⟩
        · exact (wipe_some (by rw [← hw] at e; exact e)).1
        · obtain ⟨o, e, _⟩ := T.obj _ _ st7 b hb
          exact (pin b hb o e).2
      cases c with
      | false => exact fin I9 q9
      | true =>
        refine thnF (pk.run _ r9 τ G9 _ I9 q9) fun z r10 ⟨yk, G10, I10, e10, q10⟩ => ?_
        refine thnF (pv.run _ r10 τ G10 _ I10 q10) fun z2 r11 ⟨yv, G11, I11, e11, kvs, k, b, ek, hb, hD11, hz, nx⟩ => ?_
        subst ek
        exact put_tup (X := X.blk r3 G3 scope ce fp) hu I11 hD11 hb hz e10 e11 fun r12 I12 => fin I12 nx
  exact codeAny_compStart_dict loop (T.self X.A 0 _ _ _ st4 loop)
/-- as a value -/
theorem pe_dct (hc : X.calm = true) (hu : X.A.units + 1 < cLine) (hN : X.N.Nodup) (hi : PI X tg iter wi) (ok : BlkOk X.N X.env.scope scope own) (hg : ∀ r G C cl fp, PG (X.blk r G scope (compEnvC scope cl C X.env) fp) tg g)
    (ht : ∀ r G C cl fp, PTs (X.blk r G scope (compEnvC scope cl C X.env) fp) ifs tt) (hk : ∀ r G C cl fp, PE (X.blk r G scope (compEnvC scope cl C X.env) fp) kx tk)
    (he : ∀ r G C cl fp, PE (X.blk r G scope (compEnvC scope cl C X.env) fp) vx tv) (hs : ∀ x, foldedSetIterable iter X.env x = pure x := by intro _; rfl) : PE X (.DictComp kx vx [⟨tg, iter, ifs, 0⟩] scope pos) (tDct wi g tt tk tv (own.map (·.2))) := by
  refine ⟨fun pins s σ H Q I h => ?_⟩
  rw [arm_eval_DictComp]
  refine dct_core hc hu hN I hi ok hg ht hk he hs h fun D C r m G J' q hn ⟨f0, f1, f2, f3, f4, f5⟩ => ⟨m, hn, fun h'' sb => ?_⟩
  exact ⟨.ref D, G, J'.turned (t' := r.toks) (fun b o hb e => (sb.2 b hb).trans e) f0 f1 f3 f4 f5, rfl, q⟩
/-- y = {..} -/
theorem ps_setDct {i : Nat} {y : Str} {py spos : Pos} (hc : X.calm = true) (hu : X.A.units + 1 < cLine) (hN : X.N.Nodup) (hy : X.N[i]? = some y) (hyl : X.env.scope.names.lookup y = some .local) (hsw : swapsWith (.DictComp kx vx [⟨tg, iter, ifs, 0⟩] scope pos) (some (.Name y py)) spos.line X.env = pure true)
    (hi : PI X tg iter wi) (ok : BlkOk X.N X.env.scope scope own) (hg : ∀ r G C cl fp, PG (X.blk r G scope (compEnvC scope cl C X.env) fp) tg g) (ht : ∀ r G C cl fp, PTs (X.blk r G scope (compEnvC scope cl C X.env) fp) ifs tt)
    (hk : ∀ r G C cl fp, PE (X.blk r G scope (compEnvC scope cl C X.env) fp) kx tk) (he : ∀ r G C cl fp, PE (X.blk r G scope (compEnvC scope cl C X.env) fp) vx tv) (hs : ∀ x, foldedSetIterable iter X.env x = pure x := by intro _; rfl) :
    PS X (.Assign [.Name y py] (.DictComp kx vx [⟨tg, iter, ifs, 0⟩] scope pos) spos) (tAsg (tDct wi g tt tk tv (own.map (·.2))) (gName i)) := by
  refine ⟨fun pins s σ H W I h => ?_⟩
  rw [exec_Assign_Name_used _ _ _ _ hsw]
  refine wpAny_bind (wpAny_standAt (wpAny_bind ?_))
  show wpAny _ X.A (do
    let _ ← comprehension (.DictComp kx vx [⟨tg, iter, ifs, 0⟩] scope pos) scope X.env (firstIterPos [⟨tg, iter, ifs, 0⟩] pos) newDict false (eval iter X.env) (some (assign (.Name y py) X.env))) _ _ s
  have h' : tDct wi g tt tk tv (own.map (·.2)) σ H fun x G => gName i x σ G W.nx := h
  refine wpAny_bind (thn (dct_core (Qf := fun _ r => SP X pins W .next r) hc hu hN I hi ok hg ht hk he hs h' fun D C r m G J' q hn f => ?_) fun _ r hq => wpAny_pure (wpAny_pure hq))
  show wpAny _ _ (assign (.Name y py) X.env (.ref D)) _ _ _
  refine wpAny_assign_Name (store_ok2 (v := V.ref D) J' hN hy (.inl hyl) rfl (fun r2 J2 ⟨c, sb, hc2⟩ => ?_) (.inr hyl))
  obtain ⟨f0, f1, f2, f3, f4, f5⟩ := f
  have ne : C ≠ c := hc2.elim (fun z => z ▸ f1) fun z e => f4 y c z e.symm
  exact ⟨m, hn.sameBut sb ne, fun h3 sb3 => ⟨_, G, J2.turned (t' := r2.toks) (fun b o hb e => (sb3.2 b hb).trans e) f0 f1 f3 f4 f5, q⟩⟩
theorem ps_setDck {i : Nat} {y : Str} {py spos : Pos} (hc : X.calm = true) (hN : X.N.Nodup) (hy : X.N[i]? = some y) (hyl : X.env.scope.names.lookup y = some .local) (hsw : swapsWith (.DictComp kx vx [⟨tg, iter, ifs, 0⟩] scope pos) (some (.Name y py)) spos.line X.env = pure true)
    (hi : PI X tg iter wi) (ok : BlkOk X.N X.env.scope scope own) (hg : ∀ r G C cl fp, PG (X.blk r G scope (compEnvC scope cl C X.env) fp) tg g) (ht : ∀ r G C cl fp, PTs (X.blk r G scope (compEnvC scope cl C X.env) fp) ifs tt)
    (hk : ∀ r G C cl fp, PE (X.blk r G scope (compEnvC scope cl C X.env) fp) kx tk) (he : ∀ r G C cl fp, PE (X.blk r G scope (compEnvC scope cl C X.env) fp) vx tv) (hs : ∀ x, foldedSetIterable iter X.env x = pure x := by intro _; rfl) :
    PS X (.Assign [.Name y py] (.DictComp kx vx [⟨tg, iter, ifs, 0⟩] scope pos) spos) (tAsg (tDc wi g tt tk tv (own.map (·.2))) (gName i)) := by
  refine ⟨fun pins s σ H W I h => ?_⟩
  rw [exec_Assign_Name_used _ _ _ _ hsw]
  refine wpAny_bind (wpAny_standAt (wpAny_bind ?_))
  show wpAny _ X.A (do
    let _ ← comprehension (.DictComp kx vx [⟨tg, iter, ifs, 0⟩] scope pos) scope X.env (firstIterPos [⟨tg, iter, ifs, 0⟩] pos) newDict false (eval iter X.env) (some (assign (.Name y py) X.env))) _ _ s
  have h' : tDc wi g tt tk tv (own.map (·.2)) σ H fun x G => gName i x σ G W.nx := h
  refine wpAny_bind (thn (dc_core (Qf := fun _ r => SP X pins W .next r) hc hN I hi ok hg ht hk he hs h' fun D C r m G J' q hn f => ?_) fun _ r hq => wpAny_pure (wpAny_pure hq))
  show wpAny _ _ (assign (.Name y py) X.env (.ref D)) _ _ _
  refine wpAny_assign_Name (store_ok2 (v := V.ref D) J' hN hy (.inl hyl) rfl (fun r2 J2 ⟨c, sb, hc2⟩ => ?_) (.inr hyl))
  obtain ⟨f0, f1, f2, f3, f4, f5⟩ := f
  have ne : C ≠ c := hc2.elim (fun z => z ▸ f1) fun z e => f4 y c z e.symm
  exact ⟨m, hn.sameBut sb ne, fun h3 sb3 => ⟨_, G, J2.turned (t' := r2.toks) (fun b o hb e => (sb3.2 b hb).trans e) f0 f1 f3 f4 f5, q⟩⟩
theorem sw_dict {gs : List Comprehension} {py : Pos} {y : Str} {l : Nat} {env : Env} (hk : env.scope.kind = .function) (hy : env.scope.names.lookup y = some .local) (hl : (py.line == pos.line) = true)
    (ha : (scope.names.any fun (n, k) => n == y && (k == .local || k == .cell)) = false) : swapsWith (.DictComp kx vx gs scope pos) (some (.Name y py)) l env = pure true := by
  have e1 : env.kindOf y = some .local := hy
  have e2 : env.blockKind = .function := by
    unfold Env.blockKind
    rw [hk]
    rfl
  unfold swapsWith
  simp only [e2, e1, ha, Expr.pos, hl]
  rfl
end
end OK

set_option Elab.async false
set_option linter.all false
set_option maxRecDepth 100000
set_option maxHeartbeats 2000000
/-! math.comb, xs[i] op= e, walks of dict comprehensions over lists -/
namespace OK
open PySem PySem.Spec PyProof.Rows L2
section
variable {X : Cx}
/-- comb(n, k) of small ints -/
def rComb : List V → Hp → VK → Prop := fun vs H Q => ∃ n k : Nat, vs = [.int (n : Int), .int (k : Int)] ∧ n ≤ 1000 ∧ Q (.int (PySem.W.mcComb n k)) H
theorem cr_comb : CallR X (.builtin "math.comb") rComb := by
  intro pins s σ H vs us Q I r h
  obtain ⟨n, k, rfl, hn, q⟩ := h
  obtain ⟨t, u, rfl⟩ := Vals.int2 r
  exact PySem.W.mc_comb (by omega) (by omega) (by omega) (.inr (by omega)) fun _ => ⟨.int _, H, I.tok _, ⟨_, rfl⟩, q⟩
/-- xs[i] read for xs[i] op= e -/
theorem get_list : PGet X (rIxL X.K) := by
  intro pins s σ H o i ov iv Q I ro ri h
  obtain ⟨p, xs, k, z, rfl, rfl, hq, he, q⟩ := h
  cases ro
  obtain ⟨t, rfl⟩ := ri
  obtain ⟨its, r, pl, hz⟩ := I.list hq
  obtain ⟨j, h1, h2, h3, h4, h5⟩ := atI_get he
  obtain ⟨u, eu, ru⟩ := r.get h2
  have hl := r.length
  have fin : EP X pins σ Q u s := ⟨z, H, I, ru, q⟩
  have bound := line63
  by_cases c : 0 ≤ k
  · have ej : k.toNat = j := Option.some.inj ((seqIndex_of c h5).symm.trans h1)
    exact wpAny_getItem_list pl.isList c (by omega) (by rw [ej]; simpa using eu) fin
  · have ej : (k + (its.toArray.size : Int)).toNat = j := by
      rw [List.size_toArray, ← hl]
      exact Option.some.inj ((seqIndex_neg (by omega) h4).symm.trans h1)
    exact wpAny_getItem_list_neg pl.isList (by omega) (by rw [List.size_toArray]; omega) (by omega) (by rw [ej]; simpa using eu) fin
end
/-- a dict comprehension with tuple keys over a list that stays -/
theorem dct_list {K : PySem.W.Frag} {a : Addr} {xs : List V} {g : TG} {tt : TT} {tk tv : TE} {vs : List Nat} {σ : L2.St} {G : Hp} {D : Addr} {Qd : Hp → Prop} (Pv : Nat → Hp → Prop) (h0 : Pv 0 (upd G D (.dT []))) (hl : ∀ i F, i ≤ xs.length → Pv i F → SqL K F a xs)
    (hs : ∀ i x F, xs[i]? = some x → Pv i F → g x (wipe σ vs) F fun σ2 F2 => wipe σ2 vs = wipe σ vs ∧ tt σ2 F2 fun c F3 =>
      if c = true then tk σ2 F3 fun y F4 => tv σ2 F4 fun z F5 => ∃ kvs k b, y = .ref b ∧ F5 b = some (.tup (k.map kV)) ∧ F5 D = some (.dT kvs) ∧ kvs.length < sizeLine ∧ Pv (i + 1) (upd F5 D (.dT (putK kvs k z)))
      else Pv (i + 1) F3) (hd : ∀ F, Pv xs.length F → Qd F) :
    ∃ W : Nat → Nat → Hp → Prop, (∃ m, W 0 m (upd G D (.dT []))) ∧ ∀ i m F, W i m F → ((Itl K a).stop i F ∧ Qd F) ∨
      ((Itl K a).go i F ∧ ∃ Nx : Hp → Prop, (∀ F', Nx F' → ∃ m', m' < m ∧ W (i + 1) m' F') ∧ ∀ x F', (Itl K a).yld i F x F' →
        g x (wipe σ vs) F' fun σ2 F2 => wipe σ2 vs = wipe σ vs ∧ tt σ2 F2 fun c F3 =>
          if c = true then tk σ2 F3 fun y F4 => tv σ2 F4 fun z F5 => ∃ kvs k b, y = .ref b ∧ F5 b = some (.tup (k.map kV)) ∧ F5 D = some (.dT kvs) ∧ kvs.length < sizeLine ∧ Nx (upd F5 D (.dT (putK kvs k z)))
          else Nx F3) := by
  refine ⟨fun i m F => m + i = xs.length ∧ Pv i F, ⟨xs.length, rfl, h0⟩, fun i m F ⟨hm, p⟩ => ?_⟩
  have q := hl i F (by omega) p
  cases m with
  | zero =>
    obtain rfl : i = xs.length := by omega
    exact .inl ⟨⟨xs, q, Nat.le_refl _⟩, hd F p⟩
  | succ m =>
    have hi : i < xs.length := by omega
    exact .inr ⟨⟨xs, xs[i], q, List.getElem?_eq_getElem hi⟩, Pv (i + 1), fun F' p' => ⟨m, by omega, by omega, p'⟩, fun x F' ⟨e, y⟩ => by
      subst e
      exact hs i x _ (y xs q) p⟩
/-- the same with keys that are ints or texts -/
theorem dc_list {K : PySem.W.Frag} {a : Addr} {xs : List V} {g : TG} {tt : TT} {tk tv : TE} {vs : List Nat} {σ : L2.St} {G : Hp} {D : Addr} {Qd : Hp → Prop} (Pv : Nat → Hp → Prop) (h0 : Pv 0 (upd G D (.dK []))) (hl : ∀ i F, i ≤ xs.length → Pv i F → SqL K F a xs)
    (hs : ∀ i x F, xs[i]? = some x → Pv i F → g x (wipe σ vs) F fun σ2 F2 => wipe σ2 vs = wipe σ vs ∧ tt σ2 F2 fun c F3 =>
      if c = true then tk σ2 F3 fun y F4 => tv σ2 F4 fun z F5 => ∃ kvs k, y = kV k ∧ F5 D = some (.dK kvs) ∧ kvs.length < sizeLine ∧ Pv (i + 1) (upd F5 D (.dK (putK kvs k z)))
      else Pv (i + 1) F3) (hd : ∀ F, Pv xs.length F → Qd F) :
    ∃ W : Nat → Nat → Hp → Prop, (∃ m, W 0 m (upd G D (.dK []))) ∧ ∀ i m F, W i m F → ((Itl K a).stop i F ∧ Qd F) ∨
      ((Itl K a).go i F ∧ ∃ Nx : Hp → Prop, (∀ F', Nx F' → ∃ m', m' < m ∧ W (i + 1) m' F') ∧ ∀ x F', (Itl K a).yld i F x F' →
        g x (wipe σ vs) F' fun σ2 F2 => wipe σ2 vs = wipe σ vs ∧ tt σ2 F2 fun c F3 =>
          if c = true then tk σ2 F3 fun y F4 => tv σ2 F4 fun z F5 => ∃ kvs k, y = kV k ∧ F5 D = some (.dK kvs) ∧ kvs.length < sizeLine ∧ Nx (upd F5 D (.dK (putK kvs k z)))
          else Nx F3) := by
  refine ⟨fun i m F => m + i = xs.length ∧ Pv i F, ⟨xs.length, rfl, h0⟩, fun i m F ⟨hm, p⟩ => ?_⟩
  have q := hl i F (by omega) p
  cases m with
  | zero =>
    obtain rfl : i = xs.length := by omega
    exact .inl ⟨⟨xs, q, Nat.le_refl _⟩, hd F p⟩
  | succ m =>
    have hi : i < xs.length := by omega
    exact .inr ⟨⟨xs, xs[i], q, List.getElem?_eq_getElem hi⟩, Pv (i + 1), fun F' p' => ⟨m, by omega, by omega, p'⟩, fun x F' ⟨e, y⟩ => by
      subst e
      exact hs i x _ (y xs q) p⟩
end OK

set_option Elab.async false
set_option linter.all false
set_option maxRecDepth 100000
set_option maxHeartbeats 2000000
/-! powers of x + 1/x: folding and unfolding of lists of numbers -/
namespace FO
open PySem
/-- Pascal's triangle -/
def C : Nat → Nat → Nat
  | 0, 0 => 1
  | 0, _ + 1 => 0
  | _ + 1, 0 => 1
  | n + 1, k + 1 => C n k + C n (k + 1)
theorem C_zero : ∀ n, C n 0 = 1
  | 0 => rfl
  | _ + 1 => rfl
theorem C_out : ∀ {n k : Nat}, n < k → C n k = 0
  | 0, k + 1, _ => rfl
  | n + 1, k + 1, h => by
    show C n k + C n (k + 1) = 0
    rw [C_out (by omega), C_out (by omega)]
/-- the number of (x + 1/x)^n at q -/
def B : Nat → Int → Int
  | 0, q => if q = 0 then 1 else 0
  | n + 1, q => B n (q - 1) + B n (q + 1)
theorem B_neg : ∀ (n : Nat) (q : Int), B n (-q) = B n q
  | 0, q => by
    show (if -q = 0 then (1 : Int) else 0) = if q = 0 then 1 else 0
    by_cases h : q = 0
    · rw [if_pos h, if_pos (by omega)]
    · rw [if_neg h, if_neg (by omega)]
  | n + 1, q => by
    show B n (-q - 1) + B n (-q + 1) = B n (q - 1) + B n (q + 1)
    rw [show -q - 1 = -(q + 1) by omega, show -q + 1 = -(q - 1) by omega, B_neg n, B_neg n]
    omega
theorem B_out : ∀ {n : Nat} {q : Int}, (n : Int) < q → B n q = 0
  | 0, q, h => by
    show (if q = 0 then (1 : Int) else 0) = 0
    rw [if_neg (by omega)]
  | n + 1, q, h => by
    show B n (q - 1) + B n (q + 1) = 0
    rw [B_out (by omega), B_out (by omega)]
    rfl
theorem B_step : ∀ (n s : Nat), s ≤ n → B n ((n : Int) - 2 * (s : Int)) = (C n s : Int)
  | 0, 0, _ => rfl
  | n + 1, 0, _ => by
    show B n (((n + 1 : Nat) : Int) - 2 * ((0 : Nat) : Int) - 1) + B n (((n + 1 : Nat) : Int) - 2 * ((0 : Nat) : Int) + 1) = 1
    rw [B_out (q := ((n + 1 : Nat) : Int) - 2 * ((0 : Nat) : Int) + 1) (by omega), show ((n + 1 : Nat) : Int) - 2 * ((0 : Nat) : Int) - 1 = (n : Int) - 2 * ((0 : Nat) : Int) by omega, B_step n 0 (by omega), C_zero]
    rfl
  | n + 1, s + 1, h => by
    show B n (((n + 1 : Nat) : Int) - 2 * ((s + 1 : Nat) : Int) - 1) + B n (((n + 1 : Nat) : Int) - 2 * ((s + 1 : Nat) : Int) + 1) = ((C n s + C n (s + 1) : Nat) : Int)
    rw [show ((n + 1 : Nat) : Int) - 2 * ((s + 1 : Nat) : Int) + 1 = (n : Int) - 2 * (s : Int) by omega, show ((n + 1 : Nat) : Int) - 2 * ((s + 1 : Nat) : Int) - 1 = (n : Int) - 2 * ((s + 1 : Nat) : Int) by omega, B_step n s (by omega)]
    by_cases c : s + 1 ≤ n
    · rw [B_step n (s + 1) c]
      omega
    · obtain rfl : s = n := by omega
      rw [C_out (n := s) (k := s + 1) (by omega), ← B_neg, B_out (by omega)]
      omega
theorem B_some : ∀ {n : Nat} {q : Int}, B n q ≠ 0 → ∃ s : Nat, s ≤ n ∧ q = (n : Int) - 2 * (s : Int)
  | 0, q, h => by
    by_cases c : q = 0
    · exact ⟨0, Nat.le_refl _, by omega⟩
    · exact absurd (show (if q = 0 then (1 : Int) else 0) = 0 by rw [if_neg c]) h
  | n + 1, q, h => by
    have h' : B n (q - 1) + B n (q + 1) ≠ 0 := h
    by_cases c : B n (q - 1) = 0
    · have : B n (q + 1) ≠ 0 := fun z => h' (by rw [c, z]; rfl)
      obtain ⟨s, h1, h2⟩ := B_some this
      exact ⟨s + 1, by omega, by omega⟩
    · obtain ⟨s, h1, h2⟩ := B_some c
      exact ⟨s, by omega, by omega⟩
theorem B_top (n : Nat) : B n n = 1 := by
  have := B_step n 0 (Nat.zero_le _)
  rw [C_zero, show (n : Int) - 2 * ((0 : Nat) : Int) = n by omega] at this
  exact this
/-- the numbers of the sum of t_k (x + 1/x)^(n + k) -/
def U : Nat → List Int → Int → Int
  | _, [], _ => 0
  | n, t :: r, q => t * B n q + U (n + 1) r q
theorem U_succ : ∀ (n : Nat) (t : List Int) (q : Int), U (n + 1) t q = U n t (q - 1) + U n t (q + 1)
  | n, [], q => rfl
  | n, t :: r, q => by
    show t * (B n (q - 1) + B n (q + 1)) + U (n + 2) r q = (t * B n (q - 1) + U (n + 1) r (q - 1)) + (t * B n (q + 1) + U (n + 1) r (q + 1))
    rw [U_succ (n + 1) r q, Int.mul_add]
    omega
theorem U_neg : ∀ (n : Nat) (t : List Int) (q : Int), U n t (-q) = U n t q
  | n, [], q => rfl
  | n, t :: r, q => by
    show t * B n (-q) + U (n + 1) r (-q) = _
    rw [B_neg, U_neg (n + 1) r q]
    rfl
theorem U_out : ∀ {n : Nat} {t : List Int} {q : Int}, ((n + t.length : Nat) : Int) ≤ q → U n t q = 0
  | n, [], q, _ => rfl
  | n, t :: r, q, h => by
    have h' : ((n + (r.length + 1) : Nat) : Int) ≤ q := h
    show t * B n q + U (n + 1) r q = 0
    rw [B_out (by omega), U_out (by omega), Int.mul_zero]
    rfl
theorem U_app : ∀ (n : Nat) (a b : List Int) (q : Int), U n (a ++ b) q = U n a q + U (n + a.length) b q
  | n, [], b, q => by
    show U n b q = 0 + U (n + 0) b q
    rw [Int.zero_add]
    rfl
  | n, t :: a, b, q => by
    show t * B n q + U (n + 1) (a ++ b) q = t * B n q + U (n + 1) a q + U (n + (a.length + 1)) b q
    rw [U_app (n + 1) a b q, show n + 1 + a.length = n + (a.length + 1) by omega]
    omega
theorem U_zeros : ∀ (n m : Nat) (q : Int), U n (List.replicate m 0) q = 0
  | n, 0, q => rfl
  | n, m + 1, q => by
    show 0 * B n q + U (n + 1) (List.replicate m 0) q = 0
    rw [U_zeros (n + 1) m q, Int.zero_mul]
    rfl
theorem U_take {t : List Int} {i : Nat} {x : Int} (h : t[i]? = some x) (q : Int) : U 0 (t.take (i + 1)) q = U 0 (t.take i) q + x * B i q := by
  have hi := (List.getElem?_eq_some_iff.mp h).1
  rw [List.take_add_one, h, U_app, List.length_take, Nat.min_eq_left (Nat.le_of_lt hi), Nat.zero_add]
  show _ + (x * B i q + 0) = _
  omega
/-- every symmetric function of bounded support is one of these sums -/
theorem tri : ∀ (L : Nat) (f : Int → Int), (∀ q, f (-q) = f q) → (∀ q, (L : Int) ≤ q → f q = 0) → ∃ t : List Int, t.length = L ∧ ∀ q, f q = U 0 t q
  | 0, f, sym, out => ⟨[], rfl, fun q => by
    show f q = 0
    by_cases h : 0 ≤ q
    · exact out q (by omega)
    · rw [← sym]
      exact out (-q) (by omega)⟩
  | L + 1, f, sym, out => by
    obtain ⟨t, h1, h2⟩ := tri L (fun q => f q - f L * B L q) (fun q => by rw [sym, B_neg]) (fun q hq => by
      by_cases c : q = (L : Int)
      · subst c
        rw [B_top, Int.mul_one]
        omega
      · show f q - f L * B L q = 0
        rw [out q (by omega), B_out (by omega), Int.mul_zero]
        rfl)
    refine ⟨t ++ [f L], by rw [List.length_append, h1]; rfl, fun q => ?_⟩
    have := h2 q
    rw [U_app, ← this, h1, Nat.zero_add]
    show f q = f q - f L * B L q + (f L * B L q + 0)
    omega
theorem U_uniq : ∀ {a b : List Int}, a.length = b.length → (∀ q, U 0 a q = U 0 b q) → a = b := by
  have key : ∀ (L : Nat) {a b : List Int}, a.length = L → b.length = L → (∀ q, U 0 a q = U 0 b q) → a = b := by
    intro L
    induction L with
    | zero =>
      intro a b ha hb _
      rw [List.length_eq_zero_iff.mp ha, List.length_eq_zero_iff.mp hb]
    | succ L ih =>
      intro a b ha hb h
      obtain ⟨a', x, rfl⟩ : ∃ a' x, a = a' ++ [x] := ⟨a.dropLast, a.getLast (by intro z; rw [z] at ha; cases ha), (List.dropLast_concat_getLast _).symm⟩
      obtain ⟨b', y, rfl⟩ : ∃ a' x, b = a' ++ [x] := ⟨b.dropLast, b.getLast (by intro z; rw [z] at hb; cases hb), (List.dropLast_concat_getLast _).symm⟩
      rw [List.length_append, List.length_singleton] at ha hb
      have ha' : a'.length = L := by omega
      have hb' : b'.length = L := by omega
      have e : ∀ q, U 0 a' q + x * B L q = U 0 b' q + y * B L q := fun q => by
        have := h q
        rw [U_app, U_app, ha', hb', Nat.zero_add] at this
        have k1 : U L [x] q = x * B L q := by show x * B L q + 0 = _; omega
        have k2 : U L [y] q = y * B L q := by show y * B L q + 0 = _; omega
        rw [k1, k2] at this
        exact this
      have exy : x = y := by
        have := e L
        rw [U_out (by rw [ha']; omega), U_out (by rw [hb']; omega), B_top] at this
        omega
      subst exy
      rw [ih ha' hb' fun q => by have := e q; omega]
  exact fun {a b} h k => key a.length rfl h.symm k
/-- the table of math.comb -/
theorem comb_small : ∀ n : Nat, n < 20 → ∀ s : Nat, s ≤ n → PySem.W.mcComb (n : Int) (s : Int) = (C n s : Int) := by decide +kernel
theorem C_small : ∀ n : Nat, n < 20 → ∀ s : Nat, s ≤ n → C n s < 1000000 := by decide +kernel
open OT
theorem at1_one (q x : Int) : at1 [q] [x] = if x = q then 1 else 0 := by
  show (if [x] = [q] then (1 : Int) else 0) = _
  by_cases h : x = q
  · rw [if_pos h, if_pos (by rw [h])]
  · rw [if_neg h, if_neg (fun z => h (List.cons.inj z).1)]
/-- the pairs of one power -/
def powL (n : Nat) (t : Int) (m : Nat) : List Ent := (List.range m).map fun (s : Nat) => ([(n : Int) - 2 * (s : Int)], t * PySem.W.mcComb (n : Int) (s : Int))
theorem powL_sum (n : Nat) (hn : n < 20) (t q : Int) : ∀ m, m ≤ n + 1 → sumW (at1 [q]) (powL n t m) = if (∃ s : Nat, s < m ∧ q = (n : Int) - 2 * (s : Int)) then t * B n q else 0
  | 0, _ => by
    rw [if_neg (fun ⟨s, h, _⟩ => Nat.not_lt_zero _ h)]
    rfl
  | m + 1, h => by
    have ih := powL_sum n hn t q m (by omega)
    unfold powL at ih ⊢
    rw [List.range_succ, List.map_append, sumW_app, ih]
    show _ + (t * PySem.W.mcComb (n : Int) (m : Int) * at1 [q] [(n : Int) - 2 * (m : Int)] + 0) = _
    rw [at1_one, comb_small n hn m (by omega)]
    by_cases c : q = (n : Int) - 2 * (m : Int)
    · rw [if_neg (fun ⟨s, h1, h2⟩ => by omega), if_pos (c := (n : Int) - 2 * (m : Int) = q) c.symm, if_pos ⟨m, Nat.lt_succ_self _, c⟩, c, B_step n m (by omega), Int.mul_one]
      omega
    · rw [if_neg (c := (n : Int) - 2 * (m : Int) = q) (fun z => c z.symm), Int.mul_zero]
      by_cases d : ∃ s : Nat, s < m ∧ q = (n : Int) - 2 * (s : Int)
      · obtain ⟨s, h1, h2⟩ := d
        rw [if_pos ⟨s, h1, h2⟩, if_pos ⟨s, by omega, h2⟩]
        omega
      · rw [if_neg d, if_neg]
        · rfl
        · rintro ⟨s, h1, h2⟩
          by_cases e : s = m
          · subst e
            exact c h2
          · exact d ⟨s, by omega, h2⟩
theorem powL_all (n : Nat) (hn : n < 20) (t q : Int) : sumW (at1 [q]) (powL n t (n + 1)) = t * B n q := by
  rw [powL_sum n hn t q (n + 1) (Nat.le_refl _)]
  by_cases c : B n q = 0
  · rw [c, Int.mul_zero]
    exact ite_self _
  · obtain ⟨s, h1, h2⟩ := B_some c
    rw [if_pos ⟨s, by omega, h2⟩]
/-- the pairs that unfold gathers -/
def unfL : Nat → List Int → List Ent
  | _, [] => []
  | n, t :: r => powL n t (n + 1) ++ unfL (n + 1) r
theorem unfL_num : ∀ (n : Nat) (t : List Int), n + t.length ≤ 20 → ∀ q, numAt (unfL n t) [q] = U n t q
  | n, [], _, q => rfl
  | n, t :: r, h, q => by
    have h' : n + (r.length + 1) ≤ 20 := h
    have ih := unfL_num (n + 1) r (by omega) q
    show numAt (powL n t (n + 1) ++ unfL (n + 1) r) [q] = t * B n q + U (n + 1) r q
    rw [numAt_app, ih, numAt_sumW, powL_all n (by omega)]
theorem unfL_app : ∀ (n : Nat) (a b : List Int), unfL n (a ++ b) = unfL n a ++ unfL (n + a.length) b
  | n, [], b => rfl
  | n, t :: a, b => by
    show powL n t (n + 1) ++ unfL (n + 1) (a ++ b) = (powL n t (n + 1) ++ unfL (n + 1) a) ++ unfL (n + (a.length + 1)) b
    rw [unfL_app, List.append_assoc, show n + 1 + a.length = n + (a.length + 1) by omega]
theorem unfL_dim : ∀ {n : Nat} {t : List Int} {e : Ent}, e ∈ unfL n t → e.1.length = 1
  | n, t :: r, e, h => by
    rcases List.mem_append.mp h with h | h
    · obtain ⟨s, _, rfl⟩ := List.mem_map.mp h
      rfl
    · exact unfL_dim h
theorem unfL_len : ∀ (n : Nat) (t : List Int), (unfL n t).length ≤ t.length * (n + t.length)
  | n, [] => by show 0 ≤ _; omega
  | n, t :: r => by
    have ih := unfL_len (n + 1) r
    show (powL n t (n + 1) ++ unfL (n + 1) r).length ≤ (r.length + 1) * (n + (r.length + 1))
    rw [List.length_append, show (powL n t (n + 1)).length = n + 1 by unfold powL; rw [List.length_map, List.length_range], Nat.add_mul, Nat.one_mul, show n + (r.length + 1) = n + 1 + r.length by omega]
    omega
/-- a row is the row of the powers -/
structure IsU (r : List Ent) (t : List Int) : Prop where
  v : Valid r
  d : ∀ e ∈ r, e.1.length = 1
  u : ∀ q, numAt r [q] = U 0 t q
theorem num_dim {r : List Ent} (h : ∀ e ∈ r, e.1.length = 1) {p : Pl} (hp : p.length ≠ 1) : numAt r p = 0 := numAt_out fun e he z => hp (by rw [← z]; exact h e he)
theorem pl_one {p : Pl} (h : p.length = 1) : ∃ q, p = [q] := by
  match p, h with
  | [q], _ => exact ⟨q, rfl⟩
theorem IsU.ext {r s : List Ent} {a b : List Int} (h : IsU r a) (k : IsU s b) (e : ∀ q, U 0 a q = U 0 b q) : r = s := h.v.ext k.v fun p => by
  by_cases c : p.length = 1
  · obtain ⟨q, rfl⟩ := pl_one c
    rw [h.u, k.u, e]
  · rw [num_dim h.d c, num_dim k.d c]
theorem IsU.sym {r : List Ent} {t : List Int} (h : IsU r t) (q : Int) : numAt r [-q] = numAt r [q] := by rw [h.u, h.u, U_neg]
/-- one more than the last place -/
def topL (r : List Ent) : Nat := match r.getLast? with
  | none => 0
  | some e => (e.1.headD 0 + 1).toNat
theorem topL_at {r : List Ent} (hr : r ≠ []) : ∃ e, r.getLast? = some e ∧ e ∈ r ∧ topL r = (e.1.headD 0 + 1).toNat := by
  cases h : r.getLast? with
  | none => exact absurd (List.getLast?_eq_none_iff.mp h) hr
  | some e =>
    refine ⟨e, rfl, List.mem_of_getLast? h, ?_⟩
    unfold topL
    rw [h]
theorem last_max {r : List Ent} (v : Valid r) {e : Ent} (h : r.getLast? = some e) : ∀ x ∈ r, x = e ∨ HT.lexLt x.1 e.1 = true := by
  obtain ⟨s, rfl⟩ : ∃ s, r = s ++ [e] := by
    have hr : r ≠ [] := by rintro rfl; cases h
    refine ⟨r.dropLast, ?_⟩
    have := List.getLast?_eq_some_getLast hr
    rw [h] at this
    rw [Option.some.inj this]
    exact (List.dropLast_concat_getLast hr).symm
  intro x hx
  rcases List.mem_append.mp hx with hx | hx
  · exact .inr ((List.pairwise_append.mp v.asc).2.2 x hx e List.mem_cons_self)
  · exact .inl (List.mem_singleton.mp hx)
theorem lex_one {x y : Int} : HT.lexLt [x] [y] = true ↔ x < y := by
  show (if x = y then HT.lexLt [] [] else decide (x < y)) = true ↔ x < y
  by_cases h : x = y
  · rw [if_pos h, HT.lexLt_nil_nil]
    constructor
    · intro z
      cases z
    · intro z
      omega
  · rw [if_neg h, decide_eq_true_iff]
end FO

set_option Elab.async false
set_option linter.all false
set_option maxRecDepth 100000
set_option maxHeartbeats 2000000
namespace OT
open PySem PySem.Spec PyProof.Rows L2
/-- a list of ints, told by a function -/
def colI (f : Nat → Int) (n : Nat) : List Int := (List.range n).map f
theorem colI_len (f : Nat → Int) (n : Nat) : (colI f n).length = n := by
  unfold colI
  rw [List.length_map, List.length_range]
theorem colI_get {f : Nat → Int} {n i : Nat} (h : i < n) : (colI f n)[i]? = some (f i) := by
  unfold colI
  rw [List.getElem?_map, List.getElem?_range h]
  rfl
theorem colI_set {f : Nat → Int} {n i : Nat} {x : Int} (h : i < n) : (colI f n).set i x = colI (fun j => if j = i then x else f j) n := by
  refine List.ext_getElem? fun k => ?_
  rw [List.getElem?_set]
  by_cases hk : k < n
  · rw [colI_get hk]
    by_cases e : i = k
    · subst e
      rw [if_pos rfl, colI_get hk, colI_len, if_pos h, if_pos rfl]
    · rw [if_neg e, colI_get hk, if_neg (fun z => e z.symm)]
  · have o : ∀ g : Nat → Int, (colI g n)[k]? = none := fun g => List.getElem?_eq_none (by rw [colI_len]; omega)
    rw [o, o, colI_len]
    by_cases e : i = k
    · omega
    · rw [if_neg e]
theorem colI_eq {f g : Nat → Int} {n : Nat} (h : ∀ i, i < n → f i = g i) : colI f n = colI g n := by
  unfold colI
  exact List.map_congr_left fun i hi => h i (List.mem_range.mp hi)
theorem colI_list (t : List Int) : colI (fun i => t.getD i 0) t.length = t := by
  refine List.ext_getElem? fun k => ?_
  by_cases hk : k < t.length
  · rw [colI_get hk, List.getD_eq_getElem?_getD, List.getElem?_eq_getElem hk]
    rfl
  · rw [List.getElem?_eq_none (by rw [colI_len]; omega), List.getElem?_eq_none (by omega)]
theorem Ents.unsnoc {H : Hp} : ∀ {fs : List Ent} {xs : List V} {e : Ent}, Ents H xs (fs ++ [e]) → ∃ us v, xs = us ++ [v] ∧ Ents H us fs ∧ EntAt H v e
  | [], xs, e, h => by
    cases h with
    | cons h1 h2 =>
      cases h2
      exact ⟨[], _, rfl, .nil, h1⟩
  | f :: fs, xs, e, h => by
    cases h with
    | cons h1 h2 =>
      obtain ⟨us, v, rfl, a, b⟩ := Ents.unsnoc (fs := fs) h2
      exact ⟨_ :: us, v, rfl, .cons h1 a, b⟩
theorem atI_lastN {xs : List V} {v : V} : atI (xs ++ [v]) (-1) = some v := by
  unfold atI ixN
  rw [if_neg (by decide), List.length_append, List.length_singleton, if_pos (by omega)]
  show (xs ++ [v])[(-1 + ((xs.length + 1 : Nat) : Int)).toNat]? = some v
  rw [show (-1 + ((xs.length + 1 : Nat) : Int)).toNat = xs.length by omega, List.getElem?_append_right (Nat.le_refl _), Nat.sub_self]
  rfl
theorem none_back {H H2 : Hp} {p : Addr} (s : Same H H2) (h : H2 p = none) : H p = none := by
  cases z : H p with
  | none => rfl
  | some o =>
    rw [s _ _ z] at h
    cases h
theorem topL_lt {es : List Ent} (v : Valid es) (hd : ∀ e ∈ es, e.1.length = 1) {e : Ent} (he : e ∈ es) (h0 : 0 ≤ e.1.headD 0) : (e.1.headD 0).toNat < FO.topL es := by
  have hne : es ≠ [] := by
    rintro rfl
    cases he
  obtain ⟨l, h1, h2, h3⟩ := FO.topL_at hne
  rw [h3]
  obtain ⟨x, hx⟩ := FO.pl_one (hd e he)
  obtain ⟨y, hy⟩ := FO.pl_one (hd l h2)
  rw [hx] at h0 ⊢
  rw [hy]
  have h0' : 0 ≤ x := h0
  show x.toNat < (y + 1).toNat
  rcases FO.last_max v h1 e he with rfl | h
  · rw [hx] at hy
    obtain ⟨rfl, _⟩ := List.cons.inj hy
    omega
  · rw [hx, hy, FO.lex_one] at h
    omega
theorem numAt_next {es : List Ent} (v : Valid es) {i : Nat} {e : Ent} (h : es[i]? = some e) (q : Pl) : numAt (es.take (i + 1)) q = if e.1 = q then e.2 else numAt (es.take i) q := by
  rw [List.take_add_one, h, numAt_app]
  show _ + ((if e.1 = q then e.2 else 0) + 0) = _
  by_cases c : e.1 = q
  · rw [if_pos c, if_pos c]
    obtain ⟨hi, rfl⟩ := List.getElem?_eq_some_iff.mp h
    rw [numAt_out fun x hx z => ?_]
    · omega
    · obtain ⟨j, hj, rfl⟩ := List.getElem_of_mem hx
      rw [List.length_take] at hj
      rw [List.getElem_take] at z
      exact lt_ne (asc_get v (by omega) hi (show j < i by omega)) (z.trans c.symm)
  · rw [if_neg c, if_neg c]
    omega
section
variable {P : Program} {w : World} {K : PySem.W.Frag} {mg : Str → Option Value} {base : Heap}
/-- the numbers of a row at 0, 1, .. -/
def spDense (K : PySem.W.Frag) : Sp := fun vs H Q _ => ∃ (a : Addr) (xs : List V) (es : List Ent), vs = [.ref a] ∧ SqL K H a xs ∧ Ents H xs es ∧ Valid es ∧ (∀ e ∈ es, e.1.length = 1) ∧ (∀ e ∈ es, 0 ≤ e.1.headD 0) ∧ FO.topL es ≤ 100000 ∧
  ∀ p H', Same H H' → H p = none → H' p = some (.lst ((colI (fun j => numAt es [(j : Int)]) (FO.topL es)).map V.int)) → Q (.ref p) H'
theorem c_dense {f : Addr} {fd : FuncData} (D : C8.Def K mg "dense" s_dense f fd) (b : Binds K fd ["row"] []) (T : Bi mg) : C8.Cal P w K mg base 1 "dense" (spDense K) [] := by
  refine C8.cal0 D b .nil sc_dense (fun vs H Q E h => ?_) (fun cdv A outer s H vs Q E hr h => ?_)
  · obtain ⟨a, xs, es, rfl, _⟩ := h
    rfl
  · obtain ⟨a, xs, es, rfl, hS, hE, hv, hd, h0, hz, q⟩ := h
    refine ⟨_, (C8.pss_cut (ps_set (i := 1) sc_dense.nd rfl (Or.inl rfl) (pe_ifExp (pt_truth (pv 0) (by intro _; rfl)) (pe_op op_rep (pe_lst (pa_cons pe_int pa_nil)) (pe_op op_add (pe_ix ix_tup (pe_ix ix_tup (pe_ix ix_list (pv 0) (pe_un un_neg pe_int) (fun _ _ => rfl)) pe_int (fun _ _ => rfl)) pe_int (fun _ _ => rfl)) pe_int)) (pe_lst pa_nil)))
  (pss_cons (ps_for PassesOwn.never rfl (pi_list (pv 0)) (pg_tup rfl (pgs_cons (pg_name (i := 2) sc_dense.nd rfl (Or.inl rfl)) (pgs_cons (pg_name (i := 3) sc_dense.nd rfl (Or.inl rfl)) pgs_nil))) (pss_one (ps_asg (pv 3) (pg_sub (pv 1) (pe_ix ix_tup (pv 2) pe_int (fun _ _ => rfl)) set_list))))
  (pss_one (ps_ret (pv 1))))), ?_⟩
    have hxl := hE.len
    refine ⟨fun σ H1 => ∃ p, σ = [some (.ref a), some (.ref p), none, none] ∧ Same H H1 ∧ H p = none ∧ H1 p = some (.lst ((colI (fun _ => 0) (FO.topL es)).map V.int)), ?_, ?_⟩
    · refine ⟨_, rfl, _, .inl ⟨xs, hS, rfl⟩, ?_⟩
      by_cases hn : es = []
      · subst hn
        obtain rfl : xs = [] := List.length_eq_zero_iff.mp hxl
        refine iteF ?_
        exact ⟨Nat.zero_le _, fun p np => ⟨p, rfl, same_upd np, np, upd_same⟩⟩
      · obtain ⟨fs, e, rfl⟩ : ∃ fs e, es = fs ++ [e] := ⟨es.dropLast, es.getLast hn, (List.dropLast_concat_getLast hn).symm⟩
        obtain ⟨us, v, rfl, _, t, pe, rfl, ht, hpe⟩ := hE.unsnoc
        have hem : e ∈ fs ++ [e] := List.mem_append_right _ List.mem_cons_self
        obtain ⟨k, hk⟩ := FO.pl_one (hd e hem)
        have hk0 := h0 e hem
        have htl : FO.topL (fs ++ [e]) = (k + 1).toNat := by
          unfold FO.topL
          rw [List.getLast?_concat]
          show (e.1.headD 0 + 1).toNat = _
          rw [hk]
          rfl
        rw [hk] at hk0 hpe
        have hk0' : 0 ≤ k := hk0
        rw [htl] at hz ⊢
        have hne : (us ++ [V.ref t]).isEmpty = false := by
          cases us <;> rfl
        rw [hne]
        refine iteT ?_
        refine ⟨(by show 1 ≤ sizeLine; decide), fun p0 np0 => ?_⟩
        have s0 : Same H (upd H p0 (.lst [.int 0])) := same_upd np0
        have k0 : (upd H p0 (.lst [.int 0])) p0 = some (.lst [.int 0]) := upd_same
        generalize upd H p0 (.lst [.int 0]) = H1 at s0 k0
        refine ⟨_, rfl, 1, rfl, a, _, -1, _, rfl, rfl, s0.seq hS, atI_lastN, t, _, 0, _, rfl, rfl, .inl (.inl (s0 _ _ ht)), atI_nat (j := 0) rfl, pe, _, 0, _, rfl, rfl, .inl (.inl (s0 _ _ hpe)), atI_nat (j := 0) rfl, _, _, rfl, rfl, p0, k + 1, _, rfl, rfl, k0, by omega, by omega, ?_, fun p np => ?_⟩
        · show 1 * (k + 1).toNat ≤ sizeLine
          exact Nat.le_of_lt (small100k (by omega))
        · refine ⟨p, rfl, s0.trans (same_upd np), none_back s0 np, ?_⟩
          rw [upd_same]
          congr 2
          unfold colI
          rw [show (fun _ : Nat => (0 : Int)) = Function.const Nat 0 from rfl, List.map_const, List.length_range, List.map_replicate]
          generalize (k + 1).toNat = n
          induction n with
          | zero => rfl
          | succ n ih =>
            rw [List.replicate_succ, List.replicate_succ, List.flatten_cons, ih]
            rfl
    rintro σ H1 ⟨p, rfl, s1, np, hp⟩
    refine ⟨_, rfl, a, rfl, ⟨_, s1.seq hS⟩, ?_⟩
    refine for_list (K := K) (xs := xs) (fun i σ H2 => ∃ y2 y3 : Option V, σ = [some (.ref a), some (.ref p), y2, y3] ∧ Same H H2 ∧ H2 p = some (.lst ((colI (fun j => numAt (es.take i) [(j : Int)]) (FO.topL es)).map V.int))) ⟨none, none, rfl, s1, hp⟩ ?_ ?_ ?_
    · rintro i σ H2 _ ⟨_, _, _, sm, _⟩
      exact sm.seq hS
    · rintro i x σ H2 hx ⟨y2, y3, rfl, sm, hp2⟩
      obtain ⟨e, he, t, pe, rfl, ht, hpe⟩ := (hE.mono sm).get hx
      have hem : e ∈ es := List.mem_of_getElem? he
      obtain ⟨k, hk⟩ := FO.pl_one (hd e hem)
      have hk0 := h0 e hem
      have hlt := topL_lt hv hd hem hk0
      rw [hk] at hk0 hlt hpe
      have hk0' : 0 ≤ k := hk0
      have hlt' : k.toNat < FO.topL es := hlt
      refine ⟨t, _, rfl, .inl (.inl ht), rfl, _, _, rfl, _, _, rfl, rfl, ?_⟩
      refine ⟨_, rfl, _, rfl, _, rfl, pe, _, 0, _, rfl, rfl, .inl (.inl hpe), atI_nat (j := 0) rfl, p, _, k, k.toNat, rfl, rfl, hp2, ?_, ?_⟩
      · rw [List.length_map, colI_len]
        have := ixN_nat (n := FO.topL es) (j := k.toNat) hlt'
        rwa [show ((k.toNat : Nat) : Int) = k by omega] at this
      · refine ⟨_, _, rfl, same_mut sm np, ?_⟩
        rw [upd_same, ← List.map_set, colI_set hlt']
        congr 3
        refine colI_eq fun j _ => ?_
        rw [numAt_next hv he, hk]
        by_cases c : j = k.toNat
        · rw [if_pos c, if_pos (by rw [c]; congr 1; omega)]
        · rw [if_neg c, if_neg (fun z => c (by have := (List.cons.inj z).1; omega))]
    · rintro σ H2 ⟨y2, y3, rfl, sm, hp2⟩
      rw [hxl, List.take_length] at hp2
      exact ⟨_, rfl, q p H2 sm np hp2⟩
end
end OT

set_option Elab.async false
set_option linter.all false
set_option maxRecDepth 100000
set_option maxHeartbeats 2000000
namespace OT
open PySem PySem.Spec PyProof.Rows L2
def errO (n : Nat) : List (Str × V) := [("dimension", .int (n : Nat)), ("word", .str "OneDirectionOnly")]
def errS (p : Addr) : List (Str × V) := [("place", .ref p), ("word", .str "NotSymmetric")]
/-- the first entry whose mirror has another number -/
def badE (es : List Ent) : Option Ent := es.find? fun e => decide (numAt es (negP e.1) ≠ e.2)
theorem badE_none {es : List Ent} (h : ∀ e ∈ es, numAt es (negP e.1) = e.2) : badE es = none := List.find?_eq_none.mpr fun e he => by
  rw [decide_eq_true_iff]
  exact fun z => z (h e he)
theorem find_split {α : Type} {p : α → Bool} : ∀ {l : List α} {i : Nat} {x : α}, l[i]? = some x → (∀ y ∈ l.take i, p y = false) → p x = true → l.find? p = some x
  | [], i, x, h, _, _ => by cases h
  | y :: l, 0, x, h, _, hx => by
    cases h
    rw [List.find?_cons_of_pos hx]
  | y :: l, i + 1, x, h, hp, hx => by
    rw [List.find?_cons_of_neg (by rw [hp y (by rw [List.take_succ_cons]; exact List.mem_cons_self)]; decide)]
    exact find_split (l := l) h (fun z hz => hp z (by rw [List.take_succ_cons]; exact List.mem_cons_of_mem _ hz)) hx
theorem find_out {α : Type} {p : α → Bool} {l : List α} (h : ∀ y ∈ l, p y = false) : l.find? p = none := List.find?_eq_none.mpr fun y hy => by
  rw [h y hy]
  decide
theorem map_take_fst {es : List Ent} {i : Nat} {e : Ent} (h : es[i]? = some e) : (es.take (i + 1)).map (·.1) = (es.take i).map (·.1) ++ [e.1] := by
  rw [List.take_add_one, h, List.map_append]
  rfl
section
variable {P : Program} {w : World} {K : PySem.W.Frag} {mg : Str → Option Value} {base : Heap}
/-- OneDirectionOnly.__init__ -/
def spOE (K : PySem.W.Frag) : Sp := fun vs H Q _ => ∃ (a C : Addr) (nm : Str) (v : V), vs = [.ref a, v] ∧ H a = some (exo a C none) ∧ OtErr K C nm ∧ PySem.W.findIn K (.ref C) "dimension" = some none ∧
  ∀ d, H d = none → d ≠ a → Q .non (upd (upd (upd H d (exd d [("word", .str nm)])) a (exo a C (some d))) d (exd d [("dimension", v), ("word", .str nm)]))
theorem ok_oe {f B fB : Addr} {fd fdB : FuncData} (F : C8.Fun K "__init__" "OneDirectionOnly.__init__" s_OneDirectionOnly___init__ f fd) (GB : FnOk P w K mg base L2.CX0 1 fB fdB ["self"] (spTE K)) (bB : Binds K fdB ["self"] []) (R : OtRead K B "__init__" fB) (gB : mg "TableError" = some (.ref B)) :
    FnOk P w K mg base L2.CX0 2 f fd ["self", "dimension"] (spOE K) := by
  refine C8.fn0 F sc_OneDirectionOnly___init__ (fun vs H Q E h => ?_) (fun cdv A outer s H vs Q E hr h => ?_)
  · obtain ⟨a, C, nm, x, rfl, _⟩ := h
    rfl
  · obtain ⟨a, C, nm, x, rfl, ha, T, hnd, k⟩ := h
    refine ⟨_, pss_cons (ps_expr (pe_otcall (pe_glob (v := .ref B) (by rfl) gB rfl) R GB hr bB pass0 (pa_cons (pv 0) pa_nil)))
      (pss_one (ps_ost (pv 0) (pv 1))), ?_⟩
    refine ⟨rfl, _, rfl, a, C, nm, rfl, ha, T, fun d nd ne => ?_⟩
    refine ⟨_, rfl, _, rfl, a, C, rfl, T.ox, hnd, Or.inr ⟨d, _, upd_same, ?_, (by show 1 ≤ 900; decide), k d nd ne⟩⟩
    rw [upd_ne ne, upd_same]
theorem mix1 (es : List Ent) : mixL ((dims [es]).filter nz) = false := by
  show mixL ([((dimE es : Nat) : Int)].filter nz) = false
  cases h : nz ((dimE es : Nat) : Int) with
  | true =>
    rw [List.filter_cons, if_pos h]
    simp [mixL]
  | false =>
    rw [List.filter_cons, if_neg (by rw [h]; decide)]
    rfl
def spOD (K : PySem.W.Frag) (O : Addr) : Sp := fun vs H Q E => ∃ (a r : Addr) (xs : List V) (es : List Ent), vs = [.ref a] ∧ H a = some (.lst [.ref r]) ∧ H r = some (.lst xs) ∧ Ents H xs es ∧
  (1 < dimE es → ∀ d H', Same H H' → H' d = some (.xd (errO (dimE es))) → E (.ref O) (some d) H') ∧ (dimE es ≤ 1 → ∀ H', Same H H' → Q .non H')
theorem ok_one_direction {f M O fI fD A0 : Addr} {fd fdI fdD : FuncData} {ds : List Value} (D : C8.Def K mg "one_direction" s_one_direction f fd) (T : Bi mg) (X : ErrI K mg "OneDirectionOnly" O fI) (hnd : PySem.W.findIn K (.ref O) "dimension" = some none) (GI : FnOk P w K mg base L2.CX0 2 fI fdI ["self", "dimension"] (spOE K)) (bI : Binds K fdI ["self", "dimension"] [])
    (DD : C8.Def K mg "same_dimension" s_same_dimension fD fdD) (bD : Binds K fdD ["rows", "places"] ds) (hdv : Vals [V.ref A0] ds) (hA0 : ∀ H, SqT K H A0 [])
    (GD : FnOk P w K mg base (L2N.CX P w) 4 fD fdD ["rows", "places"] (spSDT K M)) (c_places_length : C8.Cal P w K mg base 1 "places_length" (spPLen K) []) : FnOk P w K mg base (L2N.CX P w) 5 f fd ["rows"] (spOD K O) := by
  obtain ⟨oc, od, dV, kV, doc, pm, an, cdv, ct, osl, rfl, lk, hcd⟩ := D.fn.ex
  refine fn_of lk hcd sc_one_direction (fun vs H Q E h => ?_) fun A outer s H vs Q E hr h => ?_
  · obtain ⟨a, r, xs, es, rfl, _⟩ := h
    rfl
  · obtain ⟨a, r, xs, es, rfl, ha, hx, hE, qE, qN⟩ := h
    refine ⟨_, (pss_cons (ps_expr (pe_callSD GD hr rfl DD.mgf DD.kp bD hdv (fun σ => L2N.passAt (L2N.takes_of rfl rfl rfl rfl) σ) (pa_cons (pv 0) pa_nil)))
  (pss_one (ps_for (passes_of rfl) rfl (pi_list (pv 0)) (pg_name (i := 1) sc_one_direction.nd rfl (Or.inl rfl)) (pss_one (ps_if (pt_cmpR op_gt (C8.pe_c c_places_length hr (by decide) (by rfl) (pa_cons (pv 1) pa_nil)) pe_int (nomark _)) (pss_one (L2N.ps_raise rfl (L2N.takes_of rfl rfl rfl rfl) (HP.pmk_oexN X.t.ox X.i X.ty (GI.mono (by decide : 2 ≤ 3)) hr bI .nil pass0 (by rfl) X.g (pa_cons (C8.pe_c c_places_length hr (by decide) (by rfl) (pa_cons (pv 1) pa_nil)) pa_nil)))) pss_nil))))), ?_⟩
    refine ⟨_, rfl, a, A0, [.ref r], [es], rfl, .inl (.inl ha), .cons hx hE .nil, hA0 _, (by show 1 ≤ 1000; decide), fun hm => ?_, fun _ H3 sm3 => ?_⟩
    · rw [mix1] at hm
      cases hm
    refine ⟨_, rfl, a, rfl, ⟨_, sm3.seq (.inl (.inl ha))⟩, ?_⟩
    refine for_list (K := K) (xs := [V.ref r]) (fun i σ H2 => ∃ y1 : Option V, σ = [some (.ref a), y1] ∧ Same H H2 ∧ (i = 1 → dimE es ≤ 1)) ⟨none, rfl, sm3, fun z => by cases z⟩ ?_ ?_ ?_
    · rintro i σ H2 _ ⟨_, _, sm, _⟩
      exact sm.seq (.inl (.inl ha))
    · rintro i x σ H2 hx2 ⟨y1, rfl, sm, _⟩
      have hi0 : i = 0 := by
        have := (List.getElem?_eq_some_iff.mp hx2).1
        have : i < 1 := this
        omega
      subst hi0
      cases hx2
      refine ⟨_, rfl, r, xs, es, rfl, .inl (.inl (sm _ _ hx)), hE.mono sm, _, _, rfl, rfl, _, rfl, iteD (fun h => ?_) (fun h => ?_)⟩
      · have hd : 1 < dimE es := by omega
        refine ⟨_, rfl, r, xs, es, rfl, .inl (.inl (sm _ _ hx)), hE.mono sm, (by show 1 ≤ 1000; decide), fun a na => ⟨a, O, _, _, rfl, upd_same, X.t, hnd, fun d nd ne => ?_⟩⟩
        have nd2 : H2 d = none := by
          rw [upd_ne ne] at nd
          exact nd
        refine ⟨rfl, d, _, ?_, upd_same, nd2, qE hd d _ ?_ upd_same⟩
        · rw [upd_ne ne.symm, upd_same]
        · intro b o hb
          have hb2 := sm b o hb
          have nba : b ≠ a := ne_of_none hb2 na
          have nbd : b ≠ d := ne_of_none hb2 nd2
          rw [upd_ne nbd, del_ne nba, upd_ne nbd, upd_ne nba, upd_ne nbd, upd_ne nba]
          exact hb2
      · exact ⟨_, rfl, sm, fun _ => by omega⟩
    · rintro σ H2 ⟨y1, rfl, sm, h1⟩
      exact qN (h1 rfl) _ sm
/-- NotSymmetric.__init__ -/
def spSE (K : PySem.W.Frag) : Sp := fun vs H Q _ => ∃ (a C : Addr) (nm : Str) (v : V), vs = [.ref a, v] ∧ H a = some (exo a C none) ∧ OtErr K C nm ∧ PySem.W.findIn K (.ref C) "place" = some none ∧
  ∀ d, H d = none → d ≠ a → Q .non (upd (upd (upd H d (exd d [("word", .str nm)])) a (exo a C (some d))) d (exd d [("place", v), ("word", .str nm)]))
theorem ok_se {f B fB : Addr} {fd fdB : FuncData} (F : C8.Fun K "__init__" "NotSymmetric.__init__" s_NotSymmetric___init__ f fd) (GB : FnOk P w K mg base L2.CX0 1 fB fdB ["self"] (spTE K)) (bB : Binds K fdB ["self"] []) (R : OtRead K B "__init__" fB) (gB : mg "TableError" = some (.ref B)) :
    FnOk P w K mg base L2.CX0 2 f fd ["self", "place"] (spSE K) := by
  refine C8.fn0 F sc_NotSymmetric___init__ (fun vs H Q E h => ?_) (fun cdv A outer s H vs Q E hr h => ?_)
  · obtain ⟨a, C, nm, x, rfl, _⟩ := h
    rfl
  · obtain ⟨a, C, nm, x, rfl, ha, T, hnd, k⟩ := h
    refine ⟨_, pss_cons (ps_expr (pe_otcall (pe_glob (v := .ref B) (by rfl) gB rfl) R GB hr bB pass0 (pa_cons (pv 0) pa_nil)))
      (pss_one (ps_ost (pv 0) (pv 1))), ?_⟩
    refine ⟨rfl, _, rfl, a, C, nm, rfl, ha, T, fun d nd ne => ?_⟩
    refine ⟨_, rfl, _, rfl, a, C, rfl, T.ox, hnd, Or.inr ⟨d, _, upd_same, ?_, (by show 1 ≤ 900; decide), k d nd ne⟩⟩
    rw [upd_ne ne, upd_same]

def spUneq (K : PySem.W.Frag) : Sp := fun vs H Q _ => ∃ (a : Addr) (xs : List V) (es : List Ent), vs = [.ref a] ∧ SqL K H a xs ∧ Ents H xs es ∧ Valid es ∧ es.length ≤ 1000 ∧ (∀ e ∈ es, e.1.length ≤ 1000) ∧
  (badE es = none → ∀ H', Same H H' → Q .non H') ∧ (∀ e, badE es = some e → ∀ p H', Same H H' → H' p = some (.tup (e.1.map V.int)) → Q (.ref p) H')
theorem c_unequal_place {f : Addr} {fd : FuncData} (D : C8.Def K mg "unequal_place" s_unequal_place f fd) (b : Binds K fd ["row"] []) (T : Bi mg) : C8.Cal P w K mg base 1 "unequal_place" (spUneq K) [] := by
  refine C8.cal0 D b .nil sc_unequal_place (fun vs H Q E h => ?_) (fun cdv A outer s H vs Q E hr h => ?_)
  · obtain ⟨a, xs, es, rfl, _⟩ := h
    rfl
  · obtain ⟨a, xs, es, rfl, hS, hE, hv, hz, hd, qN, qS⟩ := h
    refine ⟨_, (pss_cons (OK.ps_setDct (i := 1) (own := [("place", 2), ("number", 3)]) (g := (gTup K 2 (gCons (gName 2) (gCons (gName 3) gNil)))) (tt := tYes) rfl (hu_of hr) sc_unequal_place.nd rfl rfl (OK.sw_dict rfl rfl rfl rfl) (pi_list (pv 0)) (blkOk_by (N := ["row", "numbers", "place", "number", "x"]) (sc := C8.fnScope s_unequal_place) (by decide +kernel)) (fun _ _ _ _ _ => (pg_tup rfl (pgs_cons (pg_name (i := 2) sc_unequal_place.nd rfl (Or.inl rfl)) (pgs_cons (pg_name (i := 3) sc_unequal_place.nd rfl (Or.inl rfl)) pgs_nil)))) (fun _ _ _ _ _ => pts_nil) (fun _ _ _ _ _ => (pv 2)) (fun _ _ _ _ _ => (pv 3)))
  (pss_cons (ps_for PassesOwn.never rfl (pi_list (pv 0)) (pg_tup rfl (pgs_cons (pg_name (i := 2) sc_unequal_place.nd rfl (Or.inl rfl)) (pgs_cons (pg_name (i := 3) sc_unequal_place.nd rfl (Or.inl rfl)) pgs_nil))) (pss_one (ps_if (pt_cmpR op_ne (pe_dget2 (hu_of hr) (pv 1) (pe_callTy call_tuple_of (by rfl) T.n_tuple OT.b_tuple (pa_cons (pe_lc (own := [("x", 4)]) (g := (gName 4)) (tt := tYes) rfl sc_unequal_place.nd (pi_tup (pv 2)) (blkOk_by (N := ["row", "numbers", "place", "number", "x"]) (sc := C8.fnScope s_unequal_place) (by decide +kernel)) (fun _ _ _ _ _ => (pg_name (i := 4) sc_unequal_place.nd rfl (Or.inl rfl))) (fun _ _ _ _ _ => pts_nil) (fun _ _ _ _ _ => (pe_un un_neg (pv 4)))) pa_nil)) pe_int ⟨rfl, rfl, rfl, rfl⟩) (pv 3) (nomark _)) (pss_one (ps_ret (pv 2))) pss_nil)))
  (pss_one (ps_ret pe_non)))), ?_⟩
    have hxl := hE.len
    refine ⟨_, rfl, a, rfl, ⟨_, hS⟩, fun D nD => ?_⟩
    refine OK.dct_list (K := K) (a := a) (xs := xs) (fun i F => Same H F ∧ ∃ kvs, F D = some (.dT kvs) ∧ Sums kvs ((es.take i).map (·.1)) (numAt (es.take i))) ⟨same_upd nD, [], upd_same, Sums.nil⟩ ?_ ?_ ?_
    · rintro i F _ ⟨sm, _⟩
      exact sm.seq hS
    · rintro i x F hx ⟨sm, kvs, hD, hs⟩
      obtain ⟨e, he, t, pe, rfl, ht, hpe⟩ := (hE.mono sm).get hx
      have hi := (List.getElem?_eq_some_iff.mp he).1
      have hnk : e.1 ∉ (es.take i).map (·.1) := fun z => by
        obtain ⟨x, hx1, hx2⟩ := List.mem_map.mp z
        obtain ⟨j, hj, rfl⟩ := List.getElem_of_mem hx1
        rw [List.length_take] at hj
        have hx3 : ((es.take i)[j]).1 = e.1 := hx2
        rw [List.getElem_take] at hx3
        obtain ⟨_, rfl⟩ := List.getElem?_eq_some_iff.mp he
        exact lt_ne (asc_get hv (by omega) hi (show j < i by omega)) hx3
      have hnx := hs.next he
      rw [if_neg hnk, hs.out _ hnk, Int.zero_add, ← map_take_fst he] at hnx
      refine ⟨t, _, rfl, .inl (.inl ht), rfl, _, _, rfl, _, _, rfl, rfl, rfl, tYes_of ?_⟩
      refine ⟨_, rfl, _, rfl, kvs, e.1.map Sum.inl, pe, rfl, by rw [kV_ints]; exact hpe, hD, ?_, same_mut sm nD, _, upd_same, hnx⟩
      rw [hs.len, List.length_map, List.length_take]
      exact small1000 (by omega)
    · rintro F ⟨sm, kvs, hD, hs⟩
      rw [hxl, List.take_length] at hs
      refine ⟨_, rfl, a, rfl, ⟨_, sm.seq hS⟩, ?_⟩
      have ok0 : ∀ y ∈ es.take 0, decide (numAt es (negP y.1) ≠ y.2) = false := fun y hy => by
        rw [List.take_zero] at hy
        cases hy
      refine for_list (K := K) (xs := xs) (fun i σ F2 => ∃ y2 y3 y4 : Option V, σ = [some (.ref a), some (.ref D), y2, y3, y4] ∧ Same H F2 ∧ F2 D = some (.dT kvs) ∧ ∀ y ∈ es.take i, decide (numAt es (negP y.1) ≠ y.2) = false) ⟨none, none, none, rfl, sm, hD, ok0⟩ ?_ ?_ ?_
      · rintro i σ F2 _ ⟨_, _, _, _, sm2, _⟩
        exact sm2.seq hS
      · rintro i x σ F2 hx ⟨y2, y3, y4, rfl, sm2, hD2, hok⟩
        obtain ⟨e, he, t, pe, rfl, ht, hpe⟩ := (hE.mono sm2).get hx
        have hem : e ∈ es := List.mem_of_getElem? he
        have hde := hd e hem
        refine ⟨t, _, rfl, .inl (.inl ht), rfl, _, _, rfl, _, _, rfl, rfl, ?_⟩
        have hT : SqT K F2 pe (e.1.map V.int) := .inl (.inl hpe)
        refine ⟨_, rfl, D, rfl, .inr ⟨kvs, .inl hD2⟩, _, rfl, pe, rfl, ⟨_, hT⟩, fun L nL => ?_⟩
        refine lc_tup (K := K) (xs := e.1.map V.int) (fun i F3 => Same F2 F3 ∧ F3 L = some (.lst ((e.1.take i).map fun n => V.int (-n)))) ⟨same_upd nL, upd_same⟩ ?_ ?_ ?_
        · rintro i F3 _ ⟨sm3, _⟩
          exact same_t sm3 hT
        · rintro i x F3 hx3 ⟨sm3, hL⟩
          obtain ⟨hi, rfl⟩ := getm hx3
          refine ⟨rfl, tYes_of ?_⟩
          refine ⟨_, rfl, _, rfl, _, hL, ?_, same_mut sm3 nL, ?_⟩
          · rw [List.length_map, List.length_take]
            exact small1000 (by omega)
          · rw [upd_same, take_map_succ (fun n => V.int (-n)) hi]
        · rintro F3 ⟨sm3, hL⟩
          rw [List.length_map, List.take_length] at hL
          refine ⟨L, _, rfl, .inl ⟨.inl (.inl hL), fun l nl => ?_⟩⟩
          have sm4 : Same F3 (upd F3 l (.tup (e.1.map fun n => V.int (-n)))) := same_upd nl
          have hl4 : (upd F3 l (.tup (e.1.map fun n => V.int (-n)))) l = some (.tup ((negP e.1).map V.int)) := by
            rw [upd_same]
            unfold negP
            rw [List.map_map]
            rfl
          generalize upd F3 l (.tup (e.1.map fun n => V.int (-n))) = F4 at sm4 hl4
          have sm24 := sm3.trans sm4
          refine ⟨_, dgetT (sm24 _ _ hD2) hl4 rfl, _, rfl, ?_⟩
          rw [hs.getD]
          refine ⟨rfl, _, rfl, iteND (fun hne => ?_) (fun heq => ?_)⟩
          · refine ⟨_, rfl, qS e ?_ pe _ (sm2.trans sm24) (sm24 _ _ hpe)⟩
            unfold badE
            exact find_split he hok (decide_eq_true fun z => hne (by rw [z]))
          · refine ⟨_, _, _, rfl, sm2.trans sm24, sm24 _ _ hD2, fun y hy => ?_⟩
            rw [take_snoc he] at hy
            rcases List.mem_append.mp hy with hy | hy
            · exact hok y hy
            · rw [List.mem_singleton.mp hy]
              exact decide_eq_false fun z => z (V.int.inj heq)
      · rintro σ F2 ⟨y2, y3, y4, rfl, sm2, hD2, hok⟩
        rw [hxl, List.take_length] at hok
        refine qN ?_ _ sm2
        unfold badE
        exact find_out hok
def spReqS (K : PySem.W.Frag) (S : Addr) : Sp := fun vs H Q E => ∃ (a : Addr) (xs : List V) (es : List Ent), vs = [.ref a] ∧ SqL K H a xs ∧ Ents H xs es ∧ Valid es ∧ es.length ≤ 1000 ∧ (∀ e ∈ es, e.1.length ≤ 1000) ∧
  (badE es = none → ∀ H', Same H H' → Q .non H') ∧ (∀ e, badE es = some e → ∀ p d H', Same H H' → H' p = some (.tup (e.1.map V.int)) → H' d = some (.xd (errS p)) → E (.ref S) (some d) H')
theorem ok_require_symmetric {f S fI : Addr} {fd fdI : FuncData} (D : C8.Def K mg "require_symmetric" s_require_symmetric f fd) (T : Bi mg) (X : ErrI K mg "NotSymmetric" S fI) (hnd : PySem.W.findIn K (.ref S) "place" = some none) (GI : FnOk P w K mg base L2.CX0 2 fI fdI ["self", "place"] (spSE K)) (bI : Binds K fdI ["self", "place"] [])
    (c_unequal_place : C8.Cal P w K mg base 1 "unequal_place" (spUneq K) []) : FnOk P w K mg base (L2N.CX P w) 4 f fd ["row"] (spReqS K S) := by
  obtain ⟨oc, od, dV, kV, doc, pm, an, cdv, ct, osl, rfl, lk, hcd⟩ := D.fn.ex
  refine fn_of lk hcd sc_require_symmetric (fun vs H Q E h => ?_) fun A outer s H vs Q E hr h => ?_
  · obtain ⟨a, xs, es, rfl, _⟩ := h
    rfl
  · obtain ⟨a, xs, es, rfl, hS, hE, hv, hz, hd, qN, qS⟩ := h
    refine ⟨_, (pss_cons (ps_set (i := 1) sc_require_symmetric.nd rfl (Or.inl rfl) (C8.pe_c c_unequal_place hr (by decide) (by rfl) (pa_cons (pv 0) pa_nil)))
  (pss_one (ps_if (pt_cmpR op_notN (pv 1) pe_non (nomark _)) (pss_one (L2N.ps_raise rfl (L2N.takes_of rfl rfl rfl rfl) (HP.pmk_oexN X.t.ox X.i X.ty GI hr bI .nil pass0 (by rfl) X.g (pa_cons (pv 1) pa_nil)))) pss_nil))), ?_⟩
    refine ⟨_, rfl, a, xs, es, rfl, hS, hE, hv, hz, hd, fun hn H1 s1 => ?_, fun e he p H1 s1 hp => ?_⟩
    · refine ⟨_, rfl, rfl, _, rfl, iteND (fun z => absurd rfl z) (fun _ => ?_)⟩
      exact qN hn _ s1
    · refine ⟨_, rfl, rfl, _, rfl, iteND (fun _ => ?_) (fun z => by cases z)⟩
      refine ⟨_, rfl, (by show 1 ≤ 1000; decide), fun b nb => ⟨b, S, _, _, rfl, upd_same, X.t, hnd, fun d nd ne => ?_⟩⟩
      have nd2 : H1 d = none := by
        rw [upd_ne ne] at nd
        exact nd
      have keep : ∀ {c o}, H1 c = some o → upd (del (upd (upd (upd (upd H1 b (exo b S none)) d (exd d [("word", .str "NotSymmetric")])) b (exo b S (some d))) d (exd d (errS p))) b) d (.xd (errS p)) c = some o := fun {c o} hc => by
        have nba : c ≠ b := ne_of_none hc nb
        have nbd : c ≠ d := ne_of_none hc nd2
        rw [upd_ne nbd, del_ne nba, upd_ne nbd, upd_ne nba, upd_ne nbd, upd_ne nba]
        exact hc
      refine ⟨rfl, d, _, ?_, upd_same, nd2, qS e he p d _ (fun c o hc => keep (s1 _ _ hc)) (keep hp) upd_same⟩
      rw [upd_ne ne.symm, upd_same]
end
end OT

set_option Elab.async false
set_option linter.all false
set_option maxRecDepth 100000
set_option maxHeartbeats 2000000
namespace OT
open PySem PySem.Spec PyProof.Rows L2
theorem lc2_itO {J : It} {n : Nat} {G : Hp → Prop} {Y : Nat → Hp → V → Hp → Prop} (w : Walk J n G Y) {g : TG} {tt : TT} {wi1 : TI} {g1 : TG} {tt1 : TT} {te : TE} {vs vs1 : List Nat} {σ : L2.St} {H1 : Hp} {D : Addr} {Qd : Hp → Prop} (Pv : Nat → Hp → Prop) (h0 : Pv 0 (upd H1 D (.lst []))) (hl : ∀ i H, i ≤ n → Pv i H → G H)
    (hs : ∀ i x H H', i < n → Pv i H → Y i H x H' → g x (wipe σ vs) H' fun σ2 H2 => wipe σ2 vs = wipe σ vs ∧ tt σ2 H2 fun b H3 =>
      if b = true then wi1 σ2 H3 fun J1 H4 => ∃ W1 : Nat → Nat → Hp → Prop, (∃ m, W1 0 m H4) ∧ ∀ j k H, W1 j k H →
        (J1.stop j H ∧ Pv (i + 1) H) ∨ (J1.go j H ∧ ∃ Nx1 : Hp → Prop, (∀ H', Nx1 H' → ∃ k', k' < k ∧ W1 (j + 1) k' H') ∧ ∀ x H', J1.yld j H x H' → g1 x (wipe σ2 vs1) H' fun σ3 H5 => wipe σ3 vs1 = wipe σ2 vs1 ∧ tt1 σ3 H5 fun b H6 =>
          if b = true then te σ3 H6 fun y H7 => ∃ acc, H7 D = some (.lst acc) ∧ acc.length < sizeLine ∧ Nx1 (upd H7 D (.lst (acc ++ [y]))) else Nx1 H6)
      else Pv (i + 1) H3) (hd : ∀ H, Pv n H → Qd H) :
    ∃ W : Nat → Nat → Hp → Prop, (∃ m, W 0 m (upd H1 D (.lst []))) ∧ ∀ i m H, W i m H →
      (J.stop i H ∧ Qd H) ∨ (J.go i H ∧ ∃ Nx : Hp → Prop, (∀ H', Nx H' → ∃ m', m' < m ∧ W (i + 1) m' H') ∧ ∀ x H', J.yld i H x H' → g x (wipe σ vs) H' fun σ2 H2 => wipe σ2 vs = wipe σ vs ∧ tt σ2 H2 fun b H3 =>
        if b = true then wi1 σ2 H3 fun J1 H4 => ∃ W1 : Nat → Nat → Hp → Prop, (∃ m, W1 0 m H4) ∧ ∀ j k H, W1 j k H →
          (J1.stop j H ∧ Nx H) ∨ (J1.go j H ∧ ∃ Nx1 : Hp → Prop, (∀ H', Nx1 H' → ∃ k', k' < k ∧ W1 (j + 1) k' H') ∧ ∀ x H', J1.yld j H x H' → g1 x (wipe σ2 vs1) H' fun σ3 H5 => wipe σ3 vs1 = wipe σ2 vs1 ∧ tt1 σ3 H5 fun b H6 =>
            if b = true then te σ3 H6 fun y H7 => ∃ acc, H7 D = some (.lst acc) ∧ acc.length < sizeLine ∧ Nx1 (upd H7 D (.lst (acc ++ [y]))) else Nx1 H6)
        else Nx H3) := by
  refine ⟨fun i m H => m = n - i ∧ i ≤ n ∧ Pv i H, ⟨n, by simp, Nat.zero_le _, h0⟩, ?_⟩
  rintro i m H ⟨rfl, hi, p⟩
  have q := hl i H hi p
  by_cases hlt : i < n
  · exact .inr ⟨w.goes i H hlt q, Pv (i + 1), fun H' p' => ⟨n - (i + 1), by omega, rfl, hlt, p'⟩, fun x H' y => hs i x H H' hlt p (w.yields i H x H' hlt q y)⟩
  · have e : i = n := by omega
    subst e
    exact .inl ⟨w.stops H q, hd H p⟩
/-- the inner one over any walk -/
theorem lc2_itI {J : It} {n : Nat} {G : Hp → Prop} {Y : Nat → Hp → V → Hp → Prop} (w : Walk J n G Y) {g1 : TG} {tt1 : TT} {te : TE} {vs1 : List Nat} {σ2 : L2.St} {H4 : Hp} {D : Addr} {Nx : Hp → Prop} (Pw : Nat → Hp → Prop) (h0 : Pw 0 H4) (hl : ∀ j H, j ≤ n → Pw j H → G H)
    (hs : ∀ j y H H', j < n → Pw j H → Y j H y H' → g1 y (wipe σ2 vs1) H' fun σ3 H5 => wipe σ3 vs1 = wipe σ2 vs1 ∧ tt1 σ3 H5 fun b H6 =>
      if b = true then te σ3 H6 fun y H7 => ∃ acc, H7 D = some (.lst acc) ∧ acc.length < sizeLine ∧ Pw (j + 1) (upd H7 D (.lst (acc ++ [y]))) else Pw (j + 1) H6) (hd : ∀ H, Pw n H → Nx H) :
    ∃ W1 : Nat → Nat → Hp → Prop, (∃ m, W1 0 m H4) ∧ ∀ j k H, W1 j k H →
      (J.stop j H ∧ Nx H) ∨ (J.go j H ∧ ∃ Nx1 : Hp → Prop, (∀ H', Nx1 H' → ∃ k', k' < k ∧ W1 (j + 1) k' H') ∧ ∀ x H', J.yld j H x H' → g1 x (wipe σ2 vs1) H' fun σ3 H5 => wipe σ3 vs1 = wipe σ2 vs1 ∧ tt1 σ3 H5 fun b H6 =>
        if b = true then te σ3 H6 fun y H7 => ∃ acc, H7 D = some (.lst acc) ∧ acc.length < sizeLine ∧ Nx1 (upd H7 D (.lst (acc ++ [y]))) else Nx1 H6) := by
  refine ⟨fun j k H => k = n - j ∧ j ≤ n ∧ Pw j H, ⟨n, by simp, Nat.zero_le _, h0⟩, ?_⟩
  rintro j k H ⟨rfl, hj, p⟩
  have q := hl j H hj p
  by_cases hlt : j < n
  · exact .inr ⟨w.goes j H hlt q, Pw (j + 1), fun H' p' => ⟨n - (j + 1), by omega, rfl, hlt, p'⟩, fun x H' y => hs j x H H' hlt p (w.yields j H x H' hlt q y)⟩
  · have e : j = n := by omega
    subst e
    exact .inl ⟨w.stops H q, hd H p⟩

/-- the half of a row at 0 and above -/
def upL (es : List Ent) : List Ent := es.filter fun e => decide (0 ≤ e.1.headD 0)
theorem upL_valid {es : List Ent} (h : Valid es) : Valid (upL es) := ⟨h.asc.sublist List.filter_sublist, fun e he => h.nz e (List.mem_filter.mp he).1⟩
theorem upL_num {es : List Ent} (hd : ∀ e ∈ es, e.1.length = 1) {q : Int} (hq : 0 ≤ q) : numAt (upL es) [q] = numAt es [q] := by
  induction es with
  | nil => rfl
  | cons e r ih =>
    have ih := ih fun x hx => hd x (List.mem_cons_of_mem _ hx)
    obtain ⟨x, hx⟩ := FO.pl_one (hd e List.mem_cons_self)
    unfold upL at ih ⊢
    by_cases c : 0 ≤ x
    · rw [List.filter_cons_of_pos (by rw [hx]; exact decide_eq_true c)]
      show _ + numAt _ [q] = _ + numAt r [q]
      rw [ih]
    · rw [List.filter_cons_of_neg (by rw [hx]; exact fun z => c (of_decide_eq_true z)), ih]
      show _ = (if e.1 = [q] then e.2 else 0) + numAt r [q]
      rw [if_neg (fun z => by rw [hx] at z; have := (List.cons.inj z).1; omega), Int.zero_add]
section
variable {P : Program} {w : World} {K : PySem.W.Frag} {mg : Str → Option Value} {base : Heap}
def spUpper (K : PySem.W.Frag) : Sp := fun vs H Q _ => ∃ (a : Addr) (xs : List V) (es : List Ent), vs = [.ref a] ∧ SqL K H a xs ∧ Ents H xs es ∧ Valid es ∧ es.length ≤ 1000 ∧ (∀ e ∈ es, e.1.length = 1) ∧ FO.topL (upL es) ≤ 100000 ∧
  ∀ p H', Same H H' → H p = none → H' p = some (.lst ((colI (fun j => numAt es [(j : Int)]) (FO.topL (upL es))).map V.int)) → Q (.ref p) H'
theorem c_upper_half {f : Addr} {fd : FuncData} (D : C8.Def K mg "upper_half" s_upper_half f fd) (b : Binds K fd ["row"] []) (T : Bi mg) (c_dense : C8.Cal P w K mg base 1 "dense" (spDense K) []) : C8.Cal P w K mg base 2 "upper_half" (spUpper K) [] := by
  refine C8.cal0 D b .nil sc_upper_half (fun vs H Q E h => ?_) (fun cdv A outer s H vs Q E hr h => ?_)
  · obtain ⟨a, xs, es, rfl, _⟩ := h
    rfl
  · obtain ⟨a, xs, es, rfl, hS, hE, hv, hz, hd, htz, q⟩ := h
    refine ⟨_, (pss_one (ps_ret (C8.pe_c c_dense hr (by decide) (by rfl) (pa_cons (pe_lc (own := [("place", 1), ("number", 2)]) (g := (gTup K 2 (gCons (gName 1) (gCons (gName 2) gNil)))) rfl sc_upper_half.nd (pi_list (pv 0)) (blkOk_by (N := ["row", "place", "number"]) (sc := C8.fnScope s_upper_half) (by decide +kernel)) (fun _ _ _ _ _ => (pg_tup rfl (pgs_cons (pg_name (i := 1) sc_upper_half.nd rfl (Or.inl rfl)) (pgs_cons (pg_name (i := 2) sc_upper_half.nd rfl (Or.inl rfl)) pgs_nil)))) (fun _ _ _ _ _ => (pts_one (pt_cmpR op_ge (pe_ix (show IxR _ (rIxT K) from ix_tup) (pv 1) pe_int (fun _ _ => rfl)) pe_int (nomark _)))) (fun _ _ _ _ _ => (pe_tup (pa_cons (pv 1) (pa_cons (pv 2) pa_nil))))) pa_nil)))), ?_⟩
    have hxl := hE.len
    refine ⟨_, rfl, a, rfl, ⟨_, hS⟩, fun D nD => ?_⟩
    refine lc_list (K := K) (xs := xs) (fun i F => Same H F ∧ ∃ ws, F D = some (.lst ws) ∧ Ents F ws (upL (es.take i))) ⟨same_upd nD, [], upd_same, .nil⟩ ?_ ?_ ?_
    · rintro i F _ ⟨sm, _⟩
      exact sm.seq hS
    · rintro i x F hx ⟨sm, ws, hD, hW⟩
      obtain ⟨e, he, t, pe, rfl, ht, hpe⟩ := (hE.mono sm).get hx
      have hem : e ∈ es := List.mem_of_getElem? he
      obtain ⟨k, hk⟩ := FO.pl_one (hd e hem)
      have hwl := hW.len
      have hul : (upL (es.take i)).length ≤ 1000 := Nat.le_trans (List.length_filter_le _ _) (by rw [List.length_take]; omega)
      have htk : upL (es.take (i + 1)) = upL (es.take i) ++ upL [e] := by
        rw [take_snoc he]
        unfold upL
        rw [List.filter_append]
      refine ⟨t, _, rfl, .inl (.inl ht), rfl, _, _, rfl, _, _, rfl, rfl, rfl, ?_⟩
      rw [hk] at hpe
      refine ⟨_, rfl, pe, _, 0, _, rfl, rfl, .inl (.inl hpe), atI_nat (j := 0) rfl, _, _, rfl, rfl, _, rfl, iteD (fun h0 => ?_) (fun h0 => ?_)⟩
      · refine ⟨_, rfl, _, rfl, (by show 2 ≤ sizeLine; decide), fun t2 nt2 => ?_⟩
        have s2 : Same F (upd F t2 (.tup [.ref pe, .int e.2])) := same_upd nt2
        have k2 : (upd F t2 (.tup [.ref pe, .int e.2])) t2 = some (.tup [.ref pe, .int e.2]) := upd_same
        generalize upd F t2 (.tup [.ref pe, .int e.2]) = F2 at s2 k2
        have hD2 := s2 _ _ hD
        refine ⟨ws, hD2, small100k (by omega), same_mut (sm.trans s2) nD, ws ++ [.ref t2], upd_same, ?_⟩
        have e1 : upL [e] = [e] := by
          unfold upL
          rw [List.filter_cons_of_pos (by rw [hk]; exact decide_eq_true h0)]
          rfl
        rw [htk, e1]
        exact ((hW.mono s2).app (.cons ⟨t2, pe, rfl, k2, by rw [hk]; exact s2 _ _ hpe⟩ .nil)).updL hD2
      · have e1 : upL [e] = [] := by
          unfold upL
          rw [List.filter_cons_of_neg (by rw [hk]; exact fun z => h0 (of_decide_eq_true z))]
          rfl
        rw [htk, e1, List.append_nil]
        exact ⟨sm, ws, hD, hW⟩
    · rintro F ⟨sm, ws, hD, hW⟩
      rw [hxl, List.take_length] at hW
      refine ⟨D, ws, upL es, rfl, .inl (.inl hD), hW, upL_valid hv, fun e he => hd e (List.mem_filter.mp he).1, fun e he => of_decide_eq_true (List.mem_filter.mp he).2, htz, fun p H' s' np hp => ?_⟩
      refine q p H' (sm.trans s') (none_back sm np) ?_
      rw [hp]
      congr 3
      exact colI_eq fun j _ => upL_num hd (by omega)
end
end OT

set_option Elab.async false
set_option linter.all false
set_option maxRecDepth 100000
set_option maxHeartbeats 4000000
namespace OT
open PySem PySem.Spec PyProof.Rows L2
theorem powL_snoc (n : Nat) (t : Int) (m : Nat) : FO.powL n t (m + 1) = FO.powL n t m ++ [([(n : Int) - 2 * (m : Int)], t * PySem.W.mcComb (n : Int) (m : Int))] := by
  unfold FO.powL
  rw [List.range_succ, List.map_append]
  rfl
theorem powL_len (n : Nat) (t : Int) (m : Nat) : (FO.powL n t m).length = m := by
  unfold FO.powL
  rw [List.length_map, List.length_range]
theorem unfL_snoc {ns : List Int} {i : Nat} (hi : i < ns.length) : FO.unfL 0 (ns.take (i + 1)) = FO.unfL 0 (ns.take i) ++ FO.powL i ns[i] (i + 1) := by
  rw [List.take_add_one, List.getElem?_eq_getElem hi, FO.unfL_app, List.length_take, Nat.min_eq_left (Nat.le_of_lt hi), Nat.zero_add]
  show _ ++ (FO.powL i ns[i] (i + 1) ++ []) = _
  rw [List.append_nil]
/-- the value of a list of numbers -/
def valL (at1 : Int) : List Int → Int
  | [] => 0
  | n :: r => valL at1 r * at1 + n
theorem comb_b64 {n s : Nat} (hn : n < 20) (hs : s ≤ n) : -(2 ^ 64) < PySem.W.mcComb (n : Int) (s : Int) ∧ PySem.W.mcComb (n : Int) (s : Int) < 2 ^ 64 := by
  rw [FO.comb_small n hn s hs]
  have := FO.C_small n hn s hs
  have e : (2 : Int) ^ 64 = 18446744073709551616 := by decide
  omega
/-- the list after i turns of fold -/
def foldG (t : List Int) (i j : Nat) : Int := if t.length - i ≤ j then t.getD j 0 else FO.U 0 (t.take (t.length - i)) (j : Int)
/-- and after m steps of the next turn -/
def foldS (t : List Int) (i top m j : Nat) : Int := foldG t i j - if j + 2 ≤ top ∧ (top - j) % 2 = 0 ∧ (top - j) / 2 ≤ m then t.getD top 0 * PySem.W.mcComb (top : Int) (((top - j) / 2 : Nat) : Int) else 0
theorem foldS_zero (t : List Int) (i top j : Nat) : foldS t i top 0 j = foldG t i j := by
  unfold foldS
  rw [if_neg (by omega)]
  omega
theorem foldG_top {t : List Int} {i top : Nat} (h : t.length = top + i + 1) : foldG t i top = t.getD top 0 := by
  unfold foldG
  have e : t[top]? = some (t.getD top 0) := by
    rw [List.getD_eq_getElem?_getD, List.getElem?_eq_getElem (by omega)]
    rfl
  rw [if_neg (by omega), show t.length - i = top + 1 by omega, FO.U_take e, FO.U_out (by rw [List.length_take]; omega), FO.B_top]
  omega
theorem foldS_top {t : List Int} {i top : Nat} (h : t.length = top + i + 1) (m : Nat) : foldS t i top m top = t.getD top 0 := by
  unfold foldS
  rw [if_neg (by omega), foldG_top h]
  omega
theorem foldS_step (t : List Int) (i : Nat) {top m : Nat} (hm : m < top / 2) (h2 : 2 * (m + 1) ≤ top) (j : Nat) :
    (if j = top - 2 * (m + 1) then foldS t i top m (top - 2 * (m + 1)) - t.getD top 0 * PySem.W.mcComb (top : Int) ((m + 1 : Nat) : Int) else foldS t i top m j) = foldS t i top (m + 1) j := by
  by_cases c : j = top - 2 * (m + 1)
  · rw [if_pos c, c]
    unfold foldS
    rw [if_neg (by omega), if_pos (by omega), show (top - (top - 2 * (m + 1))) / 2 = m + 1 by omega]
    omega
  · rw [if_neg c]
    unfold foldS
    by_cases d : j + 2 ≤ top ∧ (top - j) % 2 = 0 ∧ (top - j) / 2 ≤ m
    · rw [if_pos d, if_pos (by omega)]
    · rw [if_neg d, if_neg (by omega)]
theorem foldS_end {t : List Int} {i top : Nat} (h : t.length = top + i + 1) (h20 : top < 20) {j : Nat} (hj : j < t.length) : foldS t i top (top / 2) j = foldG t (i + 1) j := by
  have e : t[top]? = some (t.getD top 0) := by
    rw [List.getD_eq_getElem?_getD, List.getElem?_eq_getElem (by omega)]
    rfl
  have lo : ∀ {k : Nat}, j < t.length - k → foldG t k j = FO.U 0 (t.take (t.length - k)) (j : Int) := fun h => by
    unfold foldG
    rw [if_neg (by omega)]
  have hi : ∀ {k : Nat}, t.length - k ≤ j → foldG t k j = t.getD j 0 := fun h => by
    unfold foldG
    rw [if_pos h]
  rcases Nat.lt_trichotomy j top with c | c | c
  · unfold foldS
    rw [lo (k := i) (by omega), lo (k := i + 1) (by omega), show t.length - i = top + 1 by omega, show t.length - (i + 1) = top by omega, FO.U_take e]
    by_cases d : j + 2 ≤ top ∧ (top - j) % 2 = 0 ∧ (top - j) / 2 ≤ top / 2
    · rw [if_pos d, FO.comb_small top h20 _ (by omega)]
      have := FO.B_step top ((top - j) / 2) (by omega)
      rw [show (top : Int) - 2 * (((top - j) / 2 : Nat) : Int) = (j : Int) by omega] at this
      rw [this]
      omega
    · rw [if_neg d]
      have : FO.B top (j : Int) = 0 := by
        apply Classical.byContradiction
        intro z
        obtain ⟨s, h1, h2⟩ := FO.B_some z
        exact d (by omega)
      rw [this, Int.mul_zero]
      omega
  · subst c
    rw [foldS_top h, hi (by omega)]
  · unfold foldS
    rw [hi (k := i) (by omega), hi (k := i + 1) (by omega), if_neg (by omega)]
    omega
section
variable {P : Program} {w : World} {K : PySem.W.Frag} {mg : Str → Option Value} {base : Heap}
def spUnfold (K : PySem.W.Frag) : Sp := fun vs H Q _ => ∃ (a : Addr) (ns : List Int), vs = [.ref a] ∧ SqL K H a (ns.map V.int) ∧ ns.length ≤ 20 ∧ wantRow H (FO.unfL 0 ns) Q
theorem c_unfold {f : Addr} {fd : FuncData} (D : C8.Def K mg "unfold" s_unfold f fd) (b : Binds K fd ["numbers"] []) (T : Bi mg) (gComb : mg "comb" = some (.builtin "math.comb")) (c_gather : C8.Cal P w K mg base 2 "gather" (spGather K) []) : C8.Cal P w K mg base 3 "unfold" (spUnfold K) [] := by
  refine C8.cal0 D b .nil sc_unfold (fun vs H Q E h => ?_) (fun cdv A outer s H vs Q E hr h => ?_)
  · obtain ⟨a, ns, rfl, _⟩ := h
    rfl
  · obtain ⟨a, ns, rfl, hS, hz, q⟩ := h
    refine ⟨_, (pss_one (ps_ret (C8.pe_c c_gather hr (by decide) (by rfl) (pa_cons (pe_lc2 (own := [("top", 2), ("times", 3), ("step", 1)]) (vs1 := [1]) (g := (gTup K 2 (gCons (gName 2) (gCons (gName 3) gNil)))) (g1 := (gName 1)) (tt := tYes) (tt1 := tYes) rfl sc_unfold.nd (pi_enum (by rfl) T.n_enumerate (pa_cons (pv 0) pa_nil)) (blkOk_by (N := ["numbers", "step", "top", "times"]) (sc := C8.fnScope s_unfold) (by decide +kernel)) (by decide) (fun _ _ _ _ _ => (pg_tup rfl (pgs_cons (pg_name (i := 2) sc_unfold.nd rfl (Or.inl rfl)) (pgs_cons (pg_name (i := 3) sc_unfold.nd rfl (Or.inl rfl)) pgs_nil)))) (fun _ _ _ _ _ => pts_nil) (fun _ _ _ _ _ => (pi_range1 rfl T.n_range (pa_cons (pe_op op_add (pv 2) pe_int) pa_nil))) (fun _ _ _ _ _ => (pg_name (i := 1) sc_unfold.nd rfl (Or.inl rfl))) (fun _ _ _ _ _ => pts_nil) (fun _ _ _ _ _ => (pe_tup (pa_cons (pe_tup (pa_cons (pe_op op_sub (pv 2) (pe_op op_mul pe_int (pv 1))) pa_nil)) (pa_cons (pe_op op_mul (pv 3) (pe_callBfun OK.cr_comb (by rfl) gComb (pa_cons (pv 2) (pa_cons (pv 1) pa_nil)))) pa_nil))))) pa_nil)))), ?_⟩
    refine ⟨_, rfl, a, _, rfl, hS, fun D nD => ?_⟩
    refine lc2_itO (walk_enum (xs := ns.map V.int)) (fun i F => Same H F ∧ ∃ ws, F D = some (.lst ws) ∧ Ents F ws (FO.unfL 0 (ns.take i))) ⟨same_upd nD, [], upd_same, .nil⟩ ?_ ?_ ?_
    · rintro i F _ ⟨sm, _⟩
      exact sm.seq hS
    · rintro i x F F2 hi ⟨sm, ws, hD, hW⟩ ⟨t, x1, x2, rfl, nt, rfl, e1, e2⟩
      cases e1
      obtain ⟨hi2, rfl⟩ := getm e2
      have smt : Same F (upd F t (.tup [.int (i : Nat), .int ns[i]])) := same_upd nt
      have ht : (upd F t (.tup [.int (i : Nat), .int ns[i]])) t = some (.tup [.int (i : Nat), .int ns[i]]) := upd_same
      generalize upd F t (.tup [.int (i : Nat), .int ns[i]]) = F2 at smt ht
      refine ⟨t, _, rfl, .inl (.inl ht), rfl, _, _, rfl, _, _, rfl, rfl, rfl, tYes_of ?_⟩
      refine ⟨_, rfl, _, _, rfl, rfl, _, rfl, by omega, by omega, ?_⟩
      rw [show ((i : Int) + 1).toNat = i + 1 by omega]
      refine lc2_itI walk_range (fun j G => Same H G ∧ ∃ ws, G D = some (.lst ws) ∧ Ents G ws (FO.unfL 0 (ns.take i) ++ FO.powL i ns[i] j)) ⟨sm.trans smt, ws, smt _ _ hD, ?_⟩ (fun _ _ _ _ => trivial) ?_ ?_
      · show Ents F2 ws (FO.unfL 0 (ns.take i) ++ [])
        rw [List.append_nil]
        exact hW.mono smt
      · rintro j y G G2 hj ⟨sm2, ws, hD, hW⟩ ⟨rfl, rfl⟩
        refine ⟨rfl, tYes_of ?_⟩
        refine ⟨_, rfl, _, rfl, _, _, rfl, rfl, .inl ⟨by decide, by decide⟩, _, _, rfl, rfl, (by show 1 ≤ sizeLine; decide), fun t2 nt2 => ?_⟩
        have s2 : Same G2 (upd G2 t2 (.tup [.int ((i : Int) - 2 * ((0 : Int) + (j : Int)))])) := same_upd nt2
        have k2 : (upd G2 t2 (.tup [.int ((i : Int) - 2 * ((0 : Int) + (j : Int)))])) t2 = some (.tup [.int ((i : Int) - 2 * ((0 : Int) + (j : Int)))]) := upd_same
        generalize upd G2 t2 (.tup [.int ((i : Int) - 2 * ((0 : Int) + (j : Int)))]) = G3 at s2 k2
        rw [Int.zero_add] at k2
        refine ⟨_, rfl, _, rfl, _, rfl, i, j, (show [V.int (i : Int), V.int ((0 : Int) + (j : Int))] = [V.int ((i : Nat) : Int), V.int ((j : Nat) : Int)] by rw [Int.zero_add]), by omega, _, _, rfl, rfl, .inr (comb_b64 (by omega) (by omega)), (by show 2 ≤ sizeLine; decide), fun t3 nt3 => ?_⟩
        have s3 : Same G3 (upd G3 t3 (.tup [.ref t2, .int (ns[i] * PySem.W.mcComb (i : Int) (j : Int))])) := same_upd nt3
        have k3 : (upd G3 t3 (.tup [.ref t2, .int (ns[i] * PySem.W.mcComb (i : Int) (j : Int))])) t3 = some (.tup [.ref t2, .int (ns[i] * PySem.W.mcComb (i : Int) (j : Int))]) := upd_same
        generalize upd G3 t3 (.tup [.ref t2, .int (ns[i] * PySem.W.mcComb (i : Int) (j : Int))]) = G4 at s3 k3
        have s23 := s2.trans s3
        have hD4 := s23 _ _ hD
        have hwl := hW.len
        refine ⟨ws, hD4, ?_, same_mut (sm2.trans s23) nD, ws ++ [.ref t3], upd_same, ?_⟩
        · have h1 := FO.unfL_len 0 (ns.take i)
          have h2 : (ns.take i).length ≤ 20 := by rw [List.length_take]; omega
          have h3 := Nat.mul_le_mul h2 h2
          rw [Nat.zero_add] at h1
          rw [hwl, List.length_append, powL_len]
          exact small100k (by omega)
        · rw [powL_snoc, ← List.append_assoc]
          have ent : EntAt G4 (.ref t3) ([(i : Int) - 2 * (j : Int)], ns[i] * PySem.W.mcComb (i : Int) (j : Int)) := ⟨t3, t2, rfl, k3, s3 _ _ k2⟩
          exact ((hW.mono s23).app (.cons ent .nil)).updL hD4
      · rintro G ⟨sm2, ws, hD, hW⟩
        exact ⟨sm2, ws, hD, by rw [unfL_snoc hi2]; exact hW⟩
    · rintro F ⟨sm, ws, hD, hW⟩
      rw [List.length_map, List.take_length] at hW
      refine ⟨D, ws, FO.unfL 0 ns, rfl, ⟨.inl (.inl hD), hW, ?_⟩, fun e he z => ?_, wantRow.mono sm q⟩
      · refine small100k (Nat.le_trans (FO.unfL_len 0 ns) ?_)
        rw [Nat.zero_add]
        exact Nat.le_trans (Nat.mul_le_mul hz hz) (by decide)
      · have := FO.unfL_dim he
        rw [z] at this
        cases this
def spFoldV (K : PySem.W.Frag) : Sp := fun vs H Q _ => ∃ (a : Addr) (ns : List Int) (at1 : Int), vs = [.ref a, .int at1] ∧ SqL K H a (ns.map V.int) ∧ -(2 ^ 64) < at1 ∧ at1 < 2 ^ 64 ∧ ∀ H', Same H H' → Q (.int (valL at1 ns)) H'
theorem c_fold_value {f : Addr} {fd : FuncData} (D : C8.Def K mg "fold_value" s_fold_value f fd) (b : Binds K fd ["numbers", "at"] []) (T : Bi mg) : C8.Cal P w K mg base 1 "fold_value" (spFoldV K) [] := by
  refine C8.cal0 D b .nil sc_fold_value (fun vs H Q E h => ?_) (fun cdv A outer s H vs Q E hr h => ?_)
  · obtain ⟨a, ns, at1, rfl, _⟩ := h
    rfl
  · obtain ⟨a, ns, at1, rfl, hS, hlo, hhi, q⟩ := h
    refine ⟨_, (pss_cons (ps_set (i := 2) sc_fold_value.nd rfl (Or.inl rfl) pe_int)
  (pss_cons (ps_for PassesOwn.never rfl (pi_list (pe_revL (pv 0))) (pg_name (i := 3) sc_fold_value.nd rfl (Or.inl rfl)) (pss_one (ps_set (i := 2) sc_fold_value.nd rfl (Or.inl rfl) (pe_op op_add (pe_op op_mul (pv 2) (pv 1)) (pv 3)))))
  (pss_one (ps_ret (pv 2))))), ?_⟩
    refine ⟨_, rfl, a, _, rfl, hS, fun r nr => ?_⟩
    have s1 : Same H (upd H r (.lst (ns.map V.int).reverse)) := same_upd nr
    have k1 : (upd H r (.lst (ns.map V.int).reverse)) r = some (.lst (ns.reverse.map V.int)) := by rw [upd_same, List.map_reverse]
    generalize upd H r (.lst (ns.map V.int).reverse) = H1 at s1 k1
    have hR : SqL K H1 r (ns.reverse.map V.int) := .inl (.inl k1)
    refine ⟨r, rfl, ⟨_, hR⟩, ?_⟩
    refine for_list (K := K) (xs := ns.reverse.map V.int) (fun i σ F => ∃ y3 : Option V, σ = [some (.ref a), some (.int at1), some (.int (valL at1 (ns.reverse.take i).reverse)), y3] ∧ F = H1) ⟨none, rfl, rfl⟩ ?_ ?_ ?_
    · rintro i σ F _ ⟨_, _, rfl⟩
      exact hR
    · rintro i x σ F hx ⟨y3, rfl, rfl⟩
      obtain ⟨hi, rfl⟩ := getm hx
      refine ⟨_, rfl, _, rfl, _, _, rfl, rfl, .inr ⟨hlo, hhi⟩, _, rfl, _, _, rfl, rfl, some (V.int ns.reverse[i]), ?_, rfl⟩
      rw [List.take_add_one, List.getElem?_eq_getElem hi, List.reverse_append]
      rfl
    · rintro σ F ⟨y3, rfl, rfl⟩
      refine ⟨_, rfl, ?_⟩
      have := q _ s1
      rw [List.length_map, List.take_length, List.reverse_reverse]
      exact this
/-- what fold is asked: a row in one direction or not, symmetric or not -/
def spFold (K : PySem.W.Frag) (O S : Addr) : Sp := fun vs H Q E => ∃ (a : Addr) (xs : List V) (es : List Ent), vs = [.ref a] ∧ H a = some (.lst xs) ∧ Ents H xs es ∧ Valid es ∧ es.length ≤ 1000 ∧ (∀ e ∈ es, e.1.length = dimE es ∧ 1 ≤ e.1.length) ∧ dimE es ≤ 3 ∧
  (1 < dimE es → ∀ d H', Same H H' → H' d = some (.xd (errO (dimE es))) → E (.ref O) (some d) H') ∧
  (dimE es ≤ 1 → ∀ e, badE es = some e → ∀ p d H', Same H H' → H' p = some (.tup (e.1.map V.int)) → H' d = some (.xd (errS p)) → E (.ref S) (some d) H') ∧
  (dimE es ≤ 1 → badE es = none → ∃ t : List Int, t.length = FO.topL (upL es) ∧ t.length ≤ 20 ∧ (∀ q, numAt es [q] = FO.U 0 t q) ∧ ∀ p H', Same H H' → H p = none → H' p = some (.lst (t.map V.int)) → Q (.ref p) H')
theorem ok_fold {f O S fO fR : Addr} {fd fdO fdR : FuncData} (D : C8.Def K mg "fold" s_fold f fd) (T : Bi mg) (gComb : mg "comb" = some (.builtin "math.comb"))
    (DO : C8.Def K mg "one_direction" s_one_direction fO fdO) (bO : Binds K fdO ["rows"] []) (GO : FnOk P w K mg base (L2N.CX P w) 5 fO fdO ["rows"] (spOD K O))
    (DR : C8.Def K mg "require_symmetric" s_require_symmetric fR fdR) (bR : Binds K fdR ["row"] []) (GR : FnOk P w K mg base (L2N.CX P w) 4 fR fdR ["row"] (spReqS K S))
    (c_upper_half : C8.Cal P w K mg base 2 "upper_half" (spUpper K) []) : FnOk P w K mg base (L2N.CX P w) 6 f fd ["row"] (spFold K O S) := by
  obtain ⟨oc, od, dV, kV, doc, pm, an, cdv, ct, osl, rfl, lk, hcd⟩ := D.fn.ex
  refine fn_of lk hcd sc_fold (fun vs H Q E h => ?_) fun A outer s H vs Q E hr h => ?_
  · obtain ⟨a, xs, es, rfl, _⟩ := h
    rfl
  · obtain ⟨a, xs, es, rfl, ha, hE, hv, hz, hd, hd3, qO, qS, qT⟩ := h
    refine ⟨_, (pss_cons (ps_expr (pe_callS GO hr rfl DO.mgf DO.kp bO (fun σ => L2N.passAt (L2N.takes_of rfl rfl rfl rfl) σ) (pa_cons (pe_lst (pa_cons (pv 0) pa_nil)) pa_nil)))
  (pss_cons (ps_expr (pe_callS (GR.mono (by decide : 4 ≤ 5)) hr rfl DR.mgf DR.kp bR (fun σ => L2N.passAt (L2N.takes_of rfl rfl rfl rfl) σ) (pa_cons (pv 0) pa_nil)))
  (pss_cons (ps_set (i := 1) sc_fold.nd rfl (Or.inl rfl) (C8.pe_c c_upper_half hr (by decide) (by rfl) (pa_cons (pv 0) pa_nil)))
  (pss_cons (ps_for (passes_of rfl) rfl (pi_range3 rfl T.n_range (pa_cons (pe_op op_sub (pe_callB call_len_seq (by rfl) T.n_len OT.b_len (pa_cons (pv 1) pa_nil)) pe_int) (pa_cons (pe_un un_neg pe_int) (pa_cons (pe_un un_neg pe_int) pa_nil)))) (pg_name (i := 2) sc_fold.nd rfl (Or.inl rfl)) (pss_one (ps_for (passes_of rfl) rfl (pi_range2 rfl T.n_range (pa_cons pe_int (pa_cons (pe_op op_add (pe_op op_fdiv (pv 2) pe_int) pe_int) pa_nil))) (pg_name (i := 3) sc_fold.nd rfl (Or.inl rfl)) (pss_one (ps_augS (pv 1) (pe_op op_sub (pv 2) (pe_op op_mul pe_int (pv 3))) OK.get_list (pe_op op_mul (pe_ix ix_list (pv 1) (pv 2) (fun _ _ => rfl)) (pe_callBfun OK.cr_comb (by rfl) gComb (pa_cons (pv 2) (pa_cons (pv 3) pa_nil)))) ip_sub set_list)))))
  (pss_one (ps_ret (pv 1))))))), ?_⟩
    refine ⟨_, rfl, (by show 1 ≤ sizeLine; decide), fun l nl => ?_⟩
    have s1 : Same H (upd H l (.lst [.ref a])) := same_upd nl
    have k1 : (upd H l (.lst [.ref a])) l = some (.lst [.ref a]) := upd_same
    generalize upd H l (.lst [.ref a]) = H1 at s1 k1
    refine ⟨l, a, xs, es, rfl, k1, s1 _ _ ha, hE.mono s1, fun h1 d H2 s2 hdd => qO h1 d H2 (s1.trans s2) hdd, fun hle H2 s2 => ?_⟩
    have s12 := s1.trans s2
    have hd1 : ∀ e ∈ es, e.1.length = 1 := fun e he => by
      have := hd e he
      omega
    refine ⟨_, rfl, a, xs, es, rfl, s12.seq (.inl (.inl ha)), hE.mono s12, hv, hz, fun e he => by rw [hd1 e he]; decide, fun hn H3 s3 => ?_, fun e he p d H3 s3 hp hdd => qS hle e he p d H3 (s12.trans s3) hp hdd⟩
    obtain ⟨t, htl, ht20, hU, q⟩ := qT hle hn
    have s13 := s12.trans s3
    refine ⟨_, rfl, a, xs, es, rfl, s13.seq (.inl (.inl ha)), hE.mono s13, hv, hz, hd1, by omega, fun p H4 s4 np hp => ?_⟩
    have s14 := s13.trans s4
    have npH := none_back s13 np
    rw [← htl, show colI (fun j => numAt es [(j : Int)]) t.length = colI (fun j => FO.U 0 t (j : Int)) t.length from colI_eq fun j _ => hU j] at hp
    clear hE hd hd1 hv qO qS qT
    have hp0 : H4 p = some (.lst ((colI (foldG t 0) t.length).map V.int)) := by
      rw [hp]
      congr 3
      refine colI_eq fun j hj => ?_
      unfold foldG
      rw [Nat.sub_zero, if_neg (by omega), List.take_length]
    clear hp
    refine ⟨_, rfl, p, _, rfl, .inl (.inl (.inl hp0)), _, _, rfl, rfl, 1, rfl, 1, rfl, (t.length : Int) - 1, -1, -1, t.length, (by rw [List.length_map, colI_len]), ?_, ?_⟩
    · have := RgC.neg (i := (t.length : Int) - 1) (j := -1) (by omega) (by omega) (by decide) (by decide)
      rwa [show ((t.length : Int) - 1 - -1).toNat = t.length by omega] at this
    refine for_rangeC (lo := (t.length : Int) - 1) (c := -1) (n := t.length) (fun i σ F => ∃ y2 y3 : Option V, σ = [some (.ref a), some (.ref p), y2, y3] ∧ Same H F ∧ F p = some (.lst ((colI (foldG t i) t.length).map V.int))) ⟨none, none, rfl, s14, hp0⟩ ?_ ?_
    · rintro i σ F hi ⟨y2, y3, rfl, sm, hpF⟩
      obtain ⟨top, htop, hsum⟩ : ∃ top : Nat, (t.length : Int) - 1 + (i : Int) * -1 = (top : Int) ∧ t.length = top + i + 1 := ⟨t.length - 1 - i, by omega, by omega⟩
      have htl2 : top < t.length := by omega
      show gName 2 (V.int ((t.length : Int) - 1 + (i : Int) * -1)) _ F _
      rw [htop]
      refine ⟨_, rfl, _, _, rfl, rfl, ⟨by decide, by decide⟩, _, _, rfl, rfl, 1, (top : Int) / 2 + 1, rfl, ⟨by decide, by decide, by omega, by omega⟩, ?_⟩
      rw [show ((top : Int) / 2 + 1 - 1).toNat = top / 2 by omega]
      refine for_range (lo := 1) (n := top / 2) (fun m σ G => ∃ y3 : Option V, σ = [some (.ref a), some (.ref p), some (.int (top : Int)), y3] ∧ Same H G ∧ G p = some (.lst ((colI (foldS t i top m) t.length).map V.int))) ⟨y3, rfl, sm, ?_⟩ ?_ ?_
      · rw [hpF]
        congr 3
        exact colI_eq fun j _ => (foldS_zero t i top j).symm
      · rintro m σ G hm ⟨y3, rfl, sm2, hpG⟩
        obtain ⟨st, hst, hst2⟩ : ∃ st : Nat, (1 : Int) + (m : Int) = (st : Int) ∧ st = m + 1 := ⟨m + 1, by omega, rfl⟩
        show gName 3 (V.int ((1 : Int) + (m : Int))) _ G _
        rw [hst]
        have hS2 : SqL K G p ((colI (foldS t i top m) t.length).map V.int) := .inl (.inl hpG)
        have hj : top - 2 * st < t.length := by omega
        have hx1 : atI ((colI (foldS t i top m) t.length).map V.int) ((top : Int) - 2 * (st : Int)) = some (.int (foldS t i top m (top - 2 * st))) := by
          rw [show (top : Int) - 2 * (st : Int) = ((top - 2 * st : Nat) : Int) by omega]
          exact atI_nat (by rw [List.getElem?_map, colI_get hj]; rfl)
        have hx2 : atI ((colI (foldS t i top m) t.length).map V.int) (top : Int) = some (.int (t.getD top 0)) := by
          rw [← foldS_top hsum m]
          exact atI_nat (by rw [List.getElem?_map, colI_get htl2]; rfl)
        refine ⟨_, rfl, _, rfl, _, rfl, _, _, rfl, rfl, .inl ⟨by decide, by decide⟩, _, _, rfl, rfl, p, _, _, _, rfl, rfl, hS2, hx1, ?_⟩
        refine ⟨_, rfl, _, rfl, p, _, _, _, rfl, rfl, hS2, hx2, _, rfl, _, rfl, top, st, rfl, by omega, _, _, rfl, rfl, .inr (comb_b64 (by omega) (by omega)), _, _, rfl, rfl, p, _, _, top - 2 * st, rfl, rfl, hpG, ?_, ?_⟩
        · rw [List.length_map, colI_len, show (top : Int) - 2 * (st : Int) = ((top - 2 * st : Nat) : Int) by omega]
          exact ixN_nat hj
        · refine ⟨_, rfl, same_mut sm2 npH, ?_⟩
          rw [upd_same, ← List.map_set, colI_set hj]
          congr 3
          refine colI_eq fun j hjl => ?_
          subst hst2
          exact foldS_step t i hm (by omega) j
      · rintro σ G ⟨y3, rfl, sm2, hpG⟩
        refine ⟨_, _, rfl, sm2, ?_⟩
        rw [hpG]
        congr 3
        exact colI_eq fun j hj => foldS_end hsum (by omega) hj
    · rintro σ F ⟨y2, y3, rfl, sm, hpF⟩
      refine ⟨_, rfl, q p F sm npH ?_⟩
      rw [hpF]
      congr 2
      rw [← colI_list t, colI_len]
      congr 1
      refine colI_eq fun j hj => ?_
      rw [colI_list]
      unfold foldG
      rw [Nat.sub_self, if_pos (Nat.zero_le _)]
end
end OT

set_option Elab.async false
set_option linter.all false
set_option maxRecDepth 100000
set_option maxHeartbeats 4000000
namespace OT
open PySem PySem.Spec PyProof.Rows L2
local macro_rules | `(tactic| walk_at "sm") => `(tactic| first | assumption | ((with_reducible show Same _ (upd _ _ _)); (refine' AU.mutS ?s ?h; (case h => assumption); (case s => walk_at "sm"))) | fail)
local macro_rules | `(tactic| walk_at "le") => `(tactic| first | (refine Nat.le_of_lt (AU.line ?_); (try simp only [List.length_append, List.length_map, List.length_cons, List.length_nil, List.length_take, List.length_replicate]); omega) | fail)
local macro_rules | `(tactic| walk_at "ll") => `(tactic| first | (show 0 < sizeLine; decide) | (show 1 < sizeLine; decide) | (show 2 < sizeLine; decide) | (show 3 < sizeLine; decide) | (refine AU.line ?_; (try simp only [List.length_append, List.length_map, List.length_cons, List.length_nil, List.length_take, List.length_replicate]); omega) | fail)
local macro_rules | `(tactic| walk_at "hl") => `(tactic| first | assumption | exact upd_same | (refine' AU.climb ?s ?h; (case s => walk_at "sm"); (case h => walk_at "hl")) | fail)
local macro_rules | `(tactic| walk_at "sl") => `(tactic| first | assumption | (refine' AU.sqL ?h; (case h => walk_at "hl")) | (refine' AU.sqLS ?s ?h; (case s => walk_at "sm"); (case h => walk_at "sl")) | fail)
local macro_rules | `(tactic| walk_at "tl") => `(tactic| first | assumption | (refine' AU.sqT ?h; (case h => walk_at "hl")) | (refine' AU.sqTS ?s ?h; (case s => walk_at "sm"); (case h => walk_at "tl")) | fail)
local macro_rules | `(tactic| walk_at "sz") => `(tactic| first | (show 0 ≤ sizeLine; decide) | (show 1 ≤ sizeLine; decide) | (show 2 ≤ sizeLine; decide) | (show 3 ≤ sizeLine; decide) | (show 4 ≤ sizeLine; decide) | (show 5 ≤ sizeLine; decide) | (show 6 ≤ sizeLine; decide) | (show 7 ≤ sizeLine; decide) | (show 8 ≤ sizeLine; decide) | (show 9 ≤ sizeLine; decide) | (show 10 ≤ sizeLine; decide) | fail)
local macro_rules | `(tactic| walk_at "ci") => `(tactic| first | exact trivial | omega | (show (0 : Int) < _; omega) | (show CMul _ _; exact .inl ⟨by omega, by omega⟩) | (show CMul _ _; exact .inr ⟨by omega, by omega⟩) | (show CMul _ _; exact .inr (AU.b01 _)) | (show CMul _ _; exact .inl (AU.b01 _)) | (show CDiv _ _; exact ⟨by omega, by omega⟩) | (show _ ≠ (0 : Int); omega) | (show CDiv _ _; exact ⟨by decide, by decide⟩) | fail)
local macro_rules | `(tactic| walk_at "hh") => `(tactic| first | assumption | (refine' OT.HeldF.mono ?s ?h; (case s => walk_at "sm"); (case h => walk_at "hh")) | fail)
local macro_rules | `(tactic| walk_at "tyx") => `(tactic| first | exact .base (.int _) | exact .base (.bl _) | exact .base (.str _) | exact .base (.lst (by walk_at "hl")) | exact .base (.tup (by walk_at "hl")) | fail)
local macro_rules | `(tactic| walk_at "st1") => `(tactic| first | ((with_reducible show tSeq _ _ _ _ _); (try simp only [List.set_cons_zero, List.set_cons_succ]); refine AU.seq_ ?_) | ((with_reducible show tAsg _ _ _ _ _); refine AU.asg_ ?_) | ((with_reducible show gName _ _ _ _ _); refine AU.name_ ?_) | ((with_reducible show tDrop _ _ _ _); refine AU.drop_ ?_) | ((with_reducible show tRet _ _ _ _); refine AU.ret_ ?_) | ((with_reducible show tRetN _ _ _); refine AU.retN_ ?_) | ((with_reducible show tNext _ _ _); refine AU.next_ ?_) | ((with_reducible show tBreak _ _ _); refine AU.brk_ ?_) | ((with_reducible show tCont _ _ _); refine AU.cont_ ?_) | ((with_reducible show tIfS _ _ _ _ _ _); refine AU.ifs_ ?_) | ((with_reducible show tAug _ _ _ _ _ _); refine AU.aug_ rfl ?_) | ((with_reducible show Ends.nx (Ends.mk _ _ _ _) _ _); refine AU.nxm ?_) | ((with_reducible show Ends.rt (Ends.mk _ _ _ _) _ _); refine AU.rtm ?_) | ((with_reducible show Ends.bk (Ends.mk _ _ _ _) _ _); refine AU.bkm ?_) | ((with_reducible show Ends.ct (Ends.mk _ _ _ _) _ _); refine AU.ctm ?_) | ((with_reducible show tVar _ _ _ _); refine AU.var_ rfl ?_) | ((with_reducible show tC _ _ _ _); refine AU.c_ ?_) | ((with_reducible show tOp _ _ _ _ _ _); refine AU.op_ ?_) | ((with_reducible show tUn _ _ _ _ _); refine AU.un_ ?_) | ((with_reducible show rU _ _ _ _); refine AU.u_ ?_) | ((with_reducible show rI0 _ _ _ _ _); refine AU.i0_ ?_) | ((with_reducible show rI _ _ _ _ _ _); refine AU.i_ (by walk_at "ci") ?_) | ((with_reducible show rEq (V.int _) (V.int _) _ _); first | (with_reducible refine AU.eqr_ ?_) | refine AU.eqi_ ?_) | ((with_reducible show rEq (V.str _) (V.str _) _ _); (with_reducible refine AU.eqs_ ?_)) | ((with_reducible show rNe (V.int _) (V.int _) _ _); refine AU.nei_ ?_) | ((with_reducible show rEq _ _ _ _); refine AU.eq_ rfl ?_) | ((with_reducible show rNe _ _ _ _); refine AU.ne_ rfl ?_) | ((with_reducible show tTest _ _ _ _); refine AU.test_ ?_) | ((with_reducible show tB _ _ _ _); refine AU.b_ ?_) | ((with_reducible show tAnd _ _ _ _ _); refine AU.and_ ?_) | ((with_reducible show tOr _ _ _ _ _); refine AU.or_ ?_) | ((with_reducible show tNot _ _ _ _); refine AU.not_ ?_) | ((with_reducible show tAndV _ _ _ _ _); refine AU.andV_ ?_) | ((with_reducible show tOrV _ _ _ _ _); refine AU.orV_ ?_) | ((with_reducible show tNotV _ _ _ _); refine AU.notV_ ?_) | ((with_reducible show tIf _ _ _ _ _ _); refine AU.if_ ?_) | ((with_reducible show tNil _ _ _); refine AU.nil_ ?_) | ((with_reducible show tCons _ _ _ _ _); refine AU.cons_ ?_) | ((with_reducible show tLst _ _ _ _); refine AU.lst_ ?_) | ((with_reducible show tTup _ _ _ _); refine AU.tup_ ?_) | ((with_reducible show tCall _ _ _ _ _ _ _); refine AU.call_ ?_) | ((with_reducible show tCallS _ _ _ _ _ _); refine AU.callS_ ?_) | ((with_reducible show tCB _ _ _ _ _); refine AU.cb_ ?_) | ((with_reducible show tBM _ _ _ _ _ _ _ _); refine AU.bm_ ?_) | ((with_reducible show rIxL _ _ _ _ _); refine AU.ixL_ (by walk_at "sl") (by first | assumption | rfl) ?_) | ((with_reducible show rIxT _ _ _ _ _); refine AU.ixT_ (by walk_at "tl") (by first | assumption | rfl) ?_) | ((with_reducible show Evl.rLenS _ _ _ _); first | refine AU.lenL_ (by walk_at "sl") ?_ | refine AU.lenT_ (by walk_at "tl") ?_) | ((with_reducible show rAppend (V.ref _) [_] _ _); refine AU.app_ (by walk_at "hl") (by walk_at "ll") ?_) | ((with_reducible show tyV _ _ (V.ref _) _ ∧ _); refine AU.tyl_ (by walk_at "sl") ?_) | ((with_reducible show rCat (V.ref _) (V.ref _) _ _); refine AU.cat_ (by walk_at "hl") (by walk_at "hl") (by walk_at "le") ?_) | ((with_reducible show tFor _ _ _ _ _ _); refine AU.for_ ?_) | ((with_reducible show tLc _ _ _ _ _ _ _ _); refine AU.lc_ ?_) | ((with_reducible show iRng1 _ _ _ _); refine AU.rng1_ ?_) | ((with_reducible show iList _ _ _ _ _); refine AU.list_ ?_) | ((with_reducible show iTup _ _ _ _ _); refine AU.itup_ ?_) | ((with_reducible show (∃ i, [V.bl _] = [V.int i] ∧ _) ∨ _); refine AU.intb_ ?_) | ((with_reducible show (∃ i, [V.int _] = [V.int i] ∧ _) ∨ _); refine AU.inti_ ?_) | ((with_reducible show tYes _ _ _); refine AU.yes_ ?_) | ((with_reducible show ∃ p ys, [V.ref _] = [V.ref p] ∧ (SqL _ _ p ys ∨ SqT _ _ p ys) ∧ _); first | refine AU.listof_ (by walk_at "sl") ?_ | refine AU.listofT_ (by walk_at "tl") ?_) | ((with_reducible show ∃ p ys, [V.ref _] = [V.ref p] ∧ ((SqL _ _ p ys ∧ _) ∨ (SqT _ _ p ys ∧ _))); first | refine AU.tupleof_ (by walk_at "sl") ?_ | refine AU.tupleofT_ (by walk_at "tl") ?_) | ((with_reducible show V.non = V.non ∧ _); refine ⟨rfl, ?_⟩) | ((with_reducible show OT.rIsX _ _ _ _ [V.ref _, _] _ _); refine OT.isX_ (by walk_at "hh") (by first | exact .own _ | exact .ty _) (by assumption) ?_) | ((with_reducible show OT.tFA _ _ _ _ _ _ _ _ _); refine OT.fA_ ?_) | ((with_reducible show OT.tCallE _ _ _ _ _ _ _ _); refine OT.callE_ ?_) | ((with_reducible show rIsi _ [_, _] _ _); refine OT.isi_ (by first | exact .own _ | exact .ty _) (by walk_at "tyx") (by first | assumption | exact kit_ty OT.kq_int_int | exact kit_ty OT.kq_int_bool | exact kit_ty OT.kq_bool_bool | exact kit_ty OT.kq_bool_int | exact kit_ty OT.kq_str_str | exact kit_ty OT.kq_tuple_tuple | exact kit_ty OT.kq_list_list | exact kit_ty OT.kq_list_tuple | exact kit_ty OT.kq_tuple_list | exact kit_ty OT.kq_list_int | exact kit_ty OT.kq_tuple_int | exact kit_ty OT.kq_list_bool | exact kit_ty OT.kq_tuple_bool | exact kit_ty OT.kq_str_int | exact kit_ty OT.kq_int_str | exact kit_ty OT.kq_int_list | exact kit_ty OT.kq_int_tuple | exact kit_ty OT.kq_bool_list | exact kit_ty OT.kq_bool_tuple) ?_) | ((with_reducible show ∃ k, V.bl _ = V.bl k ∧ _); refine AU.bool_ ?_) | ((with_reducible show tSl _ _ _ _ _ _ _); refine AU.sl_ ?_) | ((with_reducible show tNoPart _ _ _); refine AU.npart_ ?_) | ((with_reducible show tPart _ _ _ _); refine AU.part_ ?_) | ((with_reducible show ∃ k, V.int _ = V.int k ∧ rSlL _ _ _ (some k) _ _); refine AU.int1_ ?_) | ((with_reducible show rSlL _ (V.ref _) _ _ _ _); refine AU.slL_ (by walk_at "sl") ?_) | ((with_reducible refine AU.trueT ?_)) | ((with_reducible refine AU.refNon ?_)) | ((with_reducible refine AU.nonNon ?_)) | ((with_reducible refine AU.trueN ?_)) | ((with_reducible refine AU.falseN ?_)) | ((with_reducible refine AU.falseF ?_)) | fail)
local macro_rules | `(tactic| walk_at "st") => `(tactic| repeat walk_at "st1")
section
variable {P : Program} {w : World} {K : PySem.W.Frag} {mg : Str → Option Value} {base : Heap}
def spErrE (K : PySem.W.Frag) (B : Addr) : SpE := fun a c d vs H Q _ => ∃ (C dd : Addr) (fs : List (Str × V)) (nm : Str), vs = [.ref a, .str nm] ∧ HeldF K H C dd c d fs ∧ PySem.W.findIn K (.ref C) "word" = some none ∧ fs.lookup ("word" : Str) = some (V.str nm) ∧
  PySem.W.kitOne K (.ref C) (.ref B) = some true ∧ PySem.W.kitOne K (.ref C) (.type "ValueError") = some true ∧ Q (.bl true) H
theorem h__law_is_error {f B : Addr} {fd : FuncData} (D : C8.Def K mg "_law_is_error" s__law_is_error f fd) (b : Binds K fd ["_law_e", "_law_word"] []) (T : Bi mg) (gB : mg "TableError" = some (.ref B)) (nV : mg "ValueError" = none) : HP.CalG P w K mg base 1 "_law_is_error" (spErrE K B) := by
  refine .mk D b (.of (fnE_of D.fn sc__law_is_error (fun a c d vs H Q E h => ?_) (fun cdv A outer s H vs Q p c d zc fld hr h => ?_)))
  · obtain ⟨C, dd, fs, nm, rfl, _⟩ := h
    rfl
  · obtain ⟨C, dd, fs, nm, rfl, hh, nw, lw, kB, kV, q⟩ := h
    have hp : p ∈ (L2H.cxH L2.CX0 P w K mg base ["_law_e", "_law_word"] "_law_is_error" (C8.fnScope s__law_is_error) f cdv A outer s H E0 p).pn := List.mem_cons_self
    refine ⟨_, (pss_one (ps_ret (pe_and (pe_callB (show CallR _ _ (rIsX K p.1 c d) from call_isX hp zc fld) (by rfl) T.n_isinstance OT.b_isinstance (pa_cons (pv 0) (pa_cons (pe_glob (v := .ref B) (by rfl) gB rfl) pa_nil))) (pe_and (pe_callB (show CallR _ _ (rIsX K p.1 c d) from call_isX hp zc fld) (by rfl) T.n_isinstance OT.b_isinstance (pa_cons (pv 0) (pa_cons (pe_bltn (v := .ty "ValueError") (by rfl) nV OT.b_ValueError rfl) pa_nil))) (pe_and (pe_callB call_isi (by rfl) T.n_isinstance OT.b_isinstance (pa_cons (show PE _ _ (tFA K p.1 c d _ _) from pe_fX hp zc fld (pv 0)) (pa_cons (pe_bltn (v := .ty "str") (by rfl) T.n_str OT.b_str rfl) pa_nil))) (pe_one (pe_cmpR op_eq (show PE _ _ (tFA K p.1 c d _ _) from pe_fX hp zc fld (pv 0)) (pv 1) (nomark _)))))))), ?_⟩
    walk_at "st"
    refine fB_ hh nw lw ?_
    walk_at "st"
    refine fB_ hh nw lw ?_
    walk_at "st"
    exact q
def spIntE : SpE := fun _ _ _ vs H Q _ => ∃ i : Int, vs = [.int i] ∧ Q (.bl true) H
theorem h__law_is_integer {f : Addr} {fd : FuncData} (D : C8.Def K mg "_law_is_integer" s__law_is_integer f fd) (b : Binds K fd ["_law_actual"] []) (T : Bi mg) : HP.CalG P w K mg base 1 "_law_is_integer" spIntE := by
  refine .mk D b (.of (fnE_of D.fn sc__law_is_integer (fun a c d vs H Q E h => ?_) (fun cdv A outer s H vs Q p c d zc fld hr h => ?_)))
  · obtain ⟨i, rfl, _⟩ := h
    rfl
  · obtain ⟨i, rfl, q⟩ := h
    refine ⟨_, (pss_one (ps_ret (pe_and (pe_callB call_isi (by rfl) T.n_isinstance OT.b_isinstance (pa_cons (pv 0) (pa_cons (pe_bltn (v := .ty "int") (by rfl) T.n_int OT.b_int rfl) pa_nil))) (pe_one (pe_not (pe_callB call_isi (by rfl) T.n_isinstance OT.b_isinstance (pa_cons (pv 0) (pa_cons (pe_bltn (v := .ty "bool") (by rfl) T.n_bool OT.b_bool rfl) pa_nil)))))))), ?_⟩
    walk_at "st"
    exact q
def spPlaceE (K : PySem.W.Frag) : SpE := fun _ _ _ vs H Q _ => ∃ (a : Addr) (ns : List Int), vs = [.ref a] ∧ H a = some (.tup (ns.map V.int)) ∧ 1 ≤ ns.length ∧ ns.length ≤ 3 ∧ Q (.bl true) H
theorem h__law_is_place {f : Addr} {fd : FuncData} (D : C8.Def K mg "_law_is_place" s__law_is_place f fd) (b : Binds K fd ["_law_actual"] []) (T : Bi mg) (h__law_is_integer : HP.CalG P w K mg base 1 "_law_is_integer" spIntE) : HP.CalG P w K mg base 2 "_law_is_place" (spPlaceE K) := by
  refine .mk D b (HP.fnG_of D.fn sc__law_is_place (fun a c d vs H Q E h => ?_) (fun cdv A outer s H vs Q p c d hot zc fld hr h => ?_))
  · obtain ⟨a, ns, rfl, _⟩ := h
    rfl
  · obtain ⟨a, ns, rfl, ha, h1, h3, q⟩ := h
    have hp : p ∈ (L2H.cxH L2.CX0 P w K mg base ["_law_actual", "_law_x"] "_law_is_place" (C8.fnScope s__law_is_place) f cdv A outer s H E0 p).pn := List.mem_cons_self
    refine ⟨_, (pss_cons (ps_if (PW.pt (pw_or (pt_not (pt_val (pe_callB call_isi (by rfl) T.n_isinstance OT.b_isinstance (pa_cons (pv 0) (pa_cons (pe_bltn (v := .ty "tuple") (by rfl) T.n_tuple OT.b_tuple rfl) pa_nil))))) (pw_or (pt_cmpR op_lt (pe_callB call_len_seq (by rfl) T.n_len OT.b_len (pa_cons (pv 0) pa_nil)) pe_int (nomark _)) (pw_or1 (pt_cmpR op_gt (pe_callB call_len_seq (by rfl) T.n_len OT.b_len (pa_cons (pv 0) pa_nil)) pe_int (nomark _)))))) (pss_one (ps_ret pe_bl)) pss_nil)
  (pss_cons (L2H.ps_forH (passes_of rfl) ⟨p, hot, hp⟩ (HP.pi_tupH (pv 0)) (pg_name (i := 1) sc__law_is_place.nd rfl (Or.inl rfl)) (pss_one (ps_if (pt_not (pt_val (HP.pe_ch h__law_is_integer hr (by decide) hot hp zc fld (by rfl) (pa_cons (pv 1) pa_nil)))) (pss_one (ps_ret pe_bl)) pss_nil)))
  (pss_one (ps_ret pe_bl)))), ?_⟩
    have hl : (ns.map V.int).length = ns.length := List.length_map _
    walk_at "st"
    refine iteD (fun z => ?_) (fun _ => ?_)
    · rw [List.length_map] at z
      omega
    walk_at "st"
    refine iteD (fun z => ?_) (fun _ => ?_)
    · rw [List.length_map] at z
      omega
    walk_at "st"
    refine ⟨_, rfl, ⟨_, AU.sqT ha⟩, ?_⟩
    refine for_tup (K := K) (xs := ns.map V.int) (fun i σ H2 => ∃ y, σ = [some (.ref a), y] ∧ H2 = H) ⟨none, rfl, rfl⟩ (fun i σ H2 _ ⟨_, _, e⟩ => by rw [e]; exact AU.sqT ha) ?_ ?_
    · rintro i x σ H2 hx ⟨y, rfl, rfl⟩
      obtain ⟨hi, rfl⟩ := getm hx
      walk_at "st"
      refine ⟨_, rfl, ?_⟩
      walk_at "st"
      exact ⟨_, rfl, rfl⟩
    · rintro σ H2 ⟨y, rfl, rfl⟩
      walk_at "st"
      exact q
end
end OT

set_option Elab.async false
set_option linter.all false
set_option maxRecDepth 100000
set_option maxHeartbeats 4000000
namespace OT
open PySem PySem.Spec PyProof.Rows L2
local macro_rules | `(tactic| walk_at "sm") => `(tactic| first | assumption | ((with_reducible show Same _ (upd _ _ _)); (refine' AU.mutS ?s ?h; (case h => assumption); (case s => walk_at "sm"))) | fail)
local macro_rules | `(tactic| walk_at "le") => `(tactic| first | (refine Nat.le_of_lt (AU.line ?_); (try simp only [List.length_append, List.length_map, List.length_cons, List.length_nil, List.length_take, List.length_replicate]); omega) | fail)
local macro_rules | `(tactic| walk_at "ll") => `(tactic| first | (show 0 < sizeLine; decide) | (show 1 < sizeLine; decide) | (show 2 < sizeLine; decide) | (show 3 < sizeLine; decide) | (refine AU.line ?_; (try simp only [List.length_append, List.length_map, List.length_cons, List.length_nil, List.length_take, List.length_replicate]); omega) | fail)
local macro_rules | `(tactic| walk_at "hl") => `(tactic| first | assumption | exact upd_same | (refine' AU.climb ?s ?h; (case s => walk_at "sm"); (case h => walk_at "hl")) | fail)
local macro_rules | `(tactic| walk_at "sl") => `(tactic| first | assumption | (refine' AU.sqL ?h; (case h => walk_at "hl")) | (refine' AU.sqLS ?s ?h; (case s => walk_at "sm"); (case h => walk_at "sl")) | fail)
local macro_rules | `(tactic| walk_at "tl") => `(tactic| first | assumption | (refine' AU.sqT ?h; (case h => walk_at "hl")) | (refine' AU.sqTS ?s ?h; (case s => walk_at "sm"); (case h => walk_at "tl")) | fail)
local macro_rules | `(tactic| walk_at "sz") => `(tactic| first | (show 0 ≤ sizeLine; decide) | (show 1 ≤ sizeLine; decide) | (show 2 ≤ sizeLine; decide) | (show 3 ≤ sizeLine; decide) | (show 4 ≤ sizeLine; decide) | (show 5 ≤ sizeLine; decide) | (show 6 ≤ sizeLine; decide) | (show 7 ≤ sizeLine; decide) | (show 8 ≤ sizeLine; decide) | (show 9 ≤ sizeLine; decide) | (show 10 ≤ sizeLine; decide) | fail)
local macro_rules | `(tactic| walk_at "ci") => `(tactic| first | exact trivial | omega | (show (0 : Int) < _; omega) | (show CMul _ _; exact .inl ⟨by omega, by omega⟩) | (show CMul _ _; exact .inr ⟨by omega, by omega⟩) | (show CMul _ _; exact .inr (AU.b01 _)) | (show CMul _ _; exact .inl (AU.b01 _)) | (show CDiv _ _; exact ⟨by omega, by omega⟩) | (show _ ≠ (0 : Int); omega) | (show CDiv _ _; exact ⟨by decide, by decide⟩) | fail)
local macro_rules | `(tactic| walk_at "hh") => `(tactic| first | assumption | (refine' OT.HeldF.mono ?s ?h; (case s => walk_at "sm"); (case h => walk_at "hh")) | fail)
local macro_rules | `(tactic| walk_at "tyx") => `(tactic| first | exact .base (.int _) | exact .base (.bl _) | exact .base (.str _) | exact .base (.lst (by walk_at "hl")) | exact .base (.tup (by walk_at "hl")) | fail)
local macro_rules | `(tactic| walk_at "st1") => `(tactic| first | ((with_reducible show tSeq _ _ _ _ _); (try simp only [List.set_cons_zero, List.set_cons_succ]); refine AU.seq_ ?_) | ((with_reducible show tAsg _ _ _ _ _); refine AU.asg_ ?_) | ((with_reducible show gName _ _ _ _ _); refine AU.name_ ?_) | ((with_reducible show tDrop _ _ _ _); refine AU.drop_ ?_) | ((with_reducible show tRet _ _ _ _); refine AU.ret_ ?_) | ((with_reducible show tRetN _ _ _); refine AU.retN_ ?_) | ((with_reducible show tNext _ _ _); refine AU.next_ ?_) | ((with_reducible show tBreak _ _ _); refine AU.brk_ ?_) | ((with_reducible show tCont _ _ _); refine AU.cont_ ?_) | ((with_reducible show tIfS _ _ _ _ _ _); refine AU.ifs_ ?_) | ((with_reducible show tAug _ _ _ _ _ _); refine AU.aug_ rfl ?_) | ((with_reducible show Ends.nx (Ends.mk _ _ _ _) _ _); refine AU.nxm ?_) | ((with_reducible show Ends.rt (Ends.mk _ _ _ _) _ _); refine AU.rtm ?_) | ((with_reducible show Ends.bk (Ends.mk _ _ _ _) _ _); refine AU.bkm ?_) | ((with_reducible show Ends.ct (Ends.mk _ _ _ _) _ _); refine AU.ctm ?_) | ((with_reducible show tVar _ _ _ _); refine AU.var_ rfl ?_) | ((with_reducible show tC _ _ _ _); refine AU.c_ ?_) | ((with_reducible show tOp _ _ _ _ _ _); refine AU.op_ ?_) | ((with_reducible show tUn _ _ _ _ _); refine AU.un_ ?_) | ((with_reducible show rU _ _ _ _); refine AU.u_ ?_) | ((with_reducible show rI0 _ _ _ _ _); refine AU.i0_ ?_) | ((with_reducible show rI _ _ _ _ _ _); refine AU.i_ (by walk_at "ci") ?_) | ((with_reducible show rEq (V.int _) (V.int _) _ _); first | (with_reducible refine AU.eqr_ ?_) | refine AU.eqi_ ?_) | ((with_reducible show rEq (V.str _) (V.str _) _ _); (with_reducible refine AU.eqs_ ?_)) | ((with_reducible show rNe (V.int _) (V.int _) _ _); refine AU.nei_ ?_) | ((with_reducible show rEq _ _ _ _); refine AU.eq_ rfl ?_) | ((with_reducible show rNe _ _ _ _); refine AU.ne_ rfl ?_) | ((with_reducible show tTest _ _ _ _); refine AU.test_ ?_) | ((with_reducible show tB _ _ _ _); refine AU.b_ ?_) | ((with_reducible show tAnd _ _ _ _ _); refine AU.and_ ?_) | ((with_reducible show tOr _ _ _ _ _); refine AU.or_ ?_) | ((with_reducible show tNot _ _ _ _); refine AU.not_ ?_) | ((with_reducible show tAndV _ _ _ _ _); refine AU.andV_ ?_) | ((with_reducible show tOrV _ _ _ _ _); refine AU.orV_ ?_) | ((with_reducible show tNotV _ _ _ _); refine AU.notV_ ?_) | ((with_reducible show tIf _ _ _ _ _ _); refine AU.if_ ?_) | ((with_reducible show tNil _ _ _); refine AU.nil_ ?_) | ((with_reducible show tCons _ _ _ _ _); refine AU.cons_ ?_) | ((with_reducible show tLst _ _ _ _); refine AU.lst_ ?_) | ((with_reducible show tTup _ _ _ _); refine AU.tup_ ?_) | ((with_reducible show tCall _ _ _ _ _ _ _); refine AU.call_ ?_) | ((with_reducible show tCallS _ _ _ _ _ _); refine AU.callS_ ?_) | ((with_reducible show tCB _ _ _ _ _); refine AU.cb_ ?_) | ((with_reducible show tBM _ _ _ _ _ _ _ _); refine AU.bm_ ?_) | ((with_reducible show rIxL _ _ _ _ _); refine AU.ixL_ (by walk_at "sl") (by first | assumption | rfl) ?_) | ((with_reducible show rIxT _ _ _ _ _); refine AU.ixT_ (by walk_at "tl") (by first | assumption | rfl) ?_) | ((with_reducible show Evl.rLenS _ _ _ _); first | refine AU.lenL_ (by walk_at "sl") ?_ | refine AU.lenT_ (by walk_at "tl") ?_) | ((with_reducible show rAppend (V.ref _) [_] _ _); refine AU.app_ (by walk_at "hl") (by walk_at "ll") ?_) | ((with_reducible show tyV _ _ (V.ref _) _ ∧ _); refine AU.tyl_ (by walk_at "sl") ?_) | ((with_reducible show rCat (V.ref _) (V.ref _) _ _); refine AU.cat_ (by walk_at "hl") (by walk_at "hl") (by walk_at "le") ?_) | ((with_reducible show tFor _ _ _ _ _ _); refine AU.for_ ?_) | ((with_reducible show tLc _ _ _ _ _ _ _ _); refine AU.lc_ ?_) | ((with_reducible show iRng1 _ _ _ _); refine AU.rng1_ ?_) | ((with_reducible show iList _ _ _ _ _); refine AU.list_ ?_) | ((with_reducible show iTup _ _ _ _ _); refine AU.itup_ ?_) | ((with_reducible show (∃ i, [V.bl _] = [V.int i] ∧ _) ∨ _); refine AU.intb_ ?_) | ((with_reducible show (∃ i, [V.int _] = [V.int i] ∧ _) ∨ _); refine AU.inti_ ?_) | ((with_reducible show tYes _ _ _); refine AU.yes_ ?_) | ((with_reducible show ∃ p ys, [V.ref _] = [V.ref p] ∧ (SqL _ _ p ys ∨ SqT _ _ p ys) ∧ _); first | refine AU.listof_ (by walk_at "sl") ?_ | refine AU.listofT_ (by walk_at "tl") ?_) | ((with_reducible show ∃ p ys, [V.ref _] = [V.ref p] ∧ ((SqL _ _ p ys ∧ _) ∨ (SqT _ _ p ys ∧ _))); first | refine AU.tupleof_ (by walk_at "sl") ?_ | refine AU.tupleofT_ (by walk_at "tl") ?_) | ((with_reducible show V.non = V.non ∧ _); refine ⟨rfl, ?_⟩) | ((with_reducible show OT.rIsX _ _ _ _ [V.ref _, _] _ _); refine OT.isX_ (by walk_at "hh") (by first | exact .own _ | exact .ty _) (by assumption) ?_) | ((with_reducible show OT.tFA _ _ _ _ _ _ _ _ _); refine OT.fA_ ?_) | ((with_reducible show OT.tCallE _ _ _ _ _ _ _ _); refine OT.callE_ ?_) | ((with_reducible show rIsi _ [_, _] _ _); refine OT.isi_ (by first | exact .own _ | exact .ty _) (by walk_at "tyx") (by first | assumption | exact kit_ty OT.kq_int_int | exact kit_ty OT.kq_int_bool | exact kit_ty OT.kq_bool_bool | exact kit_ty OT.kq_bool_int | exact kit_ty OT.kq_str_str | exact kit_ty OT.kq_tuple_tuple | exact kit_ty OT.kq_list_list | exact kit_ty OT.kq_list_tuple | exact kit_ty OT.kq_tuple_list | exact kit_ty OT.kq_list_int | exact kit_ty OT.kq_tuple_int | exact kit_ty OT.kq_list_bool | exact kit_ty OT.kq_tuple_bool | exact kit_ty OT.kq_str_int | exact kit_ty OT.kq_int_str | exact kit_ty OT.kq_int_list | exact kit_ty OT.kq_int_tuple | exact kit_ty OT.kq_bool_list | exact kit_ty OT.kq_bool_tuple) ?_) | ((with_reducible show ∃ k, V.bl _ = V.bl k ∧ _); refine AU.bool_ ?_) | ((with_reducible show tSl _ _ _ _ _ _ _); refine AU.sl_ ?_) | ((with_reducible show tNoPart _ _ _); refine AU.npart_ ?_) | ((with_reducible show tPart _ _ _ _); refine AU.part_ ?_) | ((with_reducible show ∃ k, V.int _ = V.int k ∧ rSlL _ _ _ (some k) _ _); refine AU.int1_ ?_) | ((with_reducible show rSlL _ (V.ref _) _ _ _ _); refine AU.slL_ (by walk_at "sl") ?_) | ((with_reducible refine AU.trueT ?_)) | ((with_reducible refine AU.refNon ?_)) | ((with_reducible refine AU.nonNon ?_)) | ((with_reducible refine AU.trueN ?_)) | ((with_reducible refine AU.falseN ?_)) | ((with_reducible refine AU.falseF ?_)) | fail)
local macro_rules | `(tactic| walk_at "st") => `(tactic| repeat walk_at "st1")
theorem eqv_cons (x y : PyData) (xs ys : List PyData) : PyData.eqvAll (x :: xs) (y :: ys) = (PyData.eqv x y && PyData.eqvAll xs ys) := by rw [PyData.eqvAll]
theorem eqv_ints : ∀ k l : Pl, PyData.eqvAll (k.map PyData.int) (l.map PyData.int) = decide (k = l)
  | [], [] => by simp [PyData.eqvAll]
  | [], y :: r => by simp [PyData.eqvAll]
  | x :: r, [] => by simp [PyData.eqvAll]
  | x :: r, y :: t => by
    rw [List.map_cons, List.map_cons, eqv_cons, eqv_ints r t, PyData.eqv]
    by_cases h : x = y
    · subst h
      simp
    · rw [show (x == y) = false from by simp [h], decide_eq_false (fun z => h (List.cons.inj z).1)]
      rfl
theorem eqv_ent (e f : Ent) : PyData.eqv (dEnt e) (dEnt f) = decide (e = f) := by
  unfold dEnt dPl
  obtain ⟨k, n⟩ := e
  obtain ⟨l, m⟩ := f
  show PyData.eqv (.tuple [.tuple (k.map .int), .int n]) (.tuple [.tuple (l.map .int), .int m]) = _
  have e1 : PyData.eqv (.tuple (k.map .int)) (.tuple (l.map .int)) = decide (k = l) := by rw [PyData.eqv, eqv_ints]
  have e2 : PyData.eqv (.int n) (.int m) = (n == m) := by rw [PyData.eqv]
  rw [PyData.eqv, eqv_cons, eqv_cons, e1, e2]
  by_cases h : k = l
  · subst h
    by_cases z : n = m
    · subst z
      simp [PyData.eqvAll]
    · rw [show (n == m) = false from by simp [z], decide_eq_false (fun q => z (Prod.mk.inj q).2)]
      simp
  · rw [decide_eq_false h, decide_eq_false (fun q => h (Prod.mk.inj q).1)]
    rfl
theorem eqv_row' : ∀ es fs : List Ent, PyData.eqvAll (es.map dEnt) (fs.map dEnt) = decide (es = fs)
  | [], [] => by simp [PyData.eqvAll]
  | [], y :: r => by simp [PyData.eqvAll]
  | x :: r, [] => by simp [PyData.eqvAll]
  | x :: r, y :: t => by
    rw [List.map_cons, List.map_cons, eqv_cons, eqv_row' r t, eqv_ent]
    by_cases h : x = y
    · subst h
      simp
    · rw [decide_eq_false h, decide_eq_false (fun z => h (List.cons.inj z).1)]
      rfl
theorem eqv_row (es fs : List Ent) : PyData.eqv (dRow es) (dRow fs) = decide (es = fs) := by
  unfold dRow
  rw [PyData.eqv, eqv_row']
theorem shaped_pl (k : Pl) : SeqAt.shaped (dPl k) = true := by
  unfold SeqAt.shaped
  have h1 : (dPl k).canLay0 = true := lay_ints k
  rw [h1, Bool.true_and]
  refine decide_eq_true ?_
  simp only [dPl, PyData.depth, depth_ints]
  decide
theorem eqv_pl (k : Pl) : PyData.eqv (dPl k) (dPl k) = true := SeqAt.eqv_refl _ (SeqAt.canLay_of_shaped (shaped_pl k))
theorem dp_pl {K : PySem.W.Frag} {H : Hp} {p : Addr} {k : Pl} (h : H p = some (.tup (k.map V.int))) : Dp K H (.ref p) (dPl k) := .tup (.inl (.inl h)) (dp_ints k)
theorem eqv_rows (es : List Ent) : PyData.eqv (dRow es) (dRow es) = true := SeqAt.eqv_refl _ (SeqAt.canLay_of_shaped (shaped_row es))
theorem eqv_pls (k l : Pl) : PyData.eqv (dPl k) (dPl l) = decide (k = l) := by
  unfold dPl
  rw [PyData.eqv, eqv_ints]
section
variable {P : Program} {w : World} {K : PySem.W.Frag} {mg : Str → Option Value} {base : Heap}
def spAtE (K : PySem.W.Frag) : SpE := fun _ _ _ vs H Q _ => ∃ (a b : Addr) (xs : List V) (es : List Ent) (l : Pl), vs = [.ref a, .ref b] ∧ SqL K H a xs ∧ Ents H xs es ∧ Valid es ∧ H b = some (.tup (l.map V.int)) ∧ Q (.int (numAt es l)) H
theorem h__law_at {f : Addr} {fd : FuncData} (D : C8.Def K mg "_law_at" s__law_at f fd) (b : Binds K fd ["_law_row_here", "_law_place"] []) (T : Bi mg) : HP.CalG P w K mg base 1 "_law_at" (spAtE K) := by
  refine .mk D b (HP.fnG_of D.fn sc__law_at (fun a c d vs H Q E h => ?_) (fun cdv A outer s H vs Q p c d hot zc fld hr h => ?_))
  · obtain ⟨a, b, xs, es, l, rfl, _⟩ := h
    rfl
  · obtain ⟨a, b, xs, es, l, rfl, hS3, hE, hV, hb, q⟩ := h
    have hp : p ∈ (L2H.cxH L2.CX0 P w K mg base ["_law_row_here", "_law_place", "_law_other", "_law_number"] "_law_at" (C8.fnScope s__law_at) f cdv A outer s H E0 p).pn := List.mem_cons_self
    refine ⟨_, (pss_cons (L2H.ps_forH (passes_of rfl) ⟨p, hot, hp⟩ (HP.pi_listH (pv 0)) (HP.pg_tupH ⟨p, hot, hp⟩ (pgs_cons (pg_name (i := 2) sc__law_at.nd rfl (Or.inl rfl)) (pgs_cons (pg_name (i := 3) sc__law_at.nd rfl (Or.inl rfl)) pgs_nil))) (pss_one (ps_if (pt_cmpR (op_eqD (HP.hu hr)) (pv 2) (pv 1) (nomark _)) (pss_one (ps_ret (pv 3))) pss_nil)))
  (pss_one (ps_ret pe_int))), ?_⟩
    walk_at "st"
    refine ⟨a, rfl, ⟨_, hS3⟩, ?_⟩
    refine for_list (K := K) (xs := xs) (fun i σ H4 => ∃ y2 y3 : Option V, σ = [some (.ref a), some (.ref b), y2, y3] ∧ H4 = H ∧ ∀ e ∈ es.take i, e.1 ≠ l) ⟨none, none, rfl, rfl, fun e he => by cases he⟩ ?_ ?_ ?_
    · rintro i σ H4 _ ⟨_, _, _, rfl, _⟩
      exact hS3
    · rintro i x σ H4 hx ⟨y2, y3, rfl, rfl, hno⟩
      obtain ⟨e, he, t, p2, rfl, ht, hp2⟩ := hE.get hx
      have hem : e ∈ es := List.mem_of_getElem? he
      refine ⟨t, _, rfl, .inl (.inl ht), rfl, _, _, rfl, _, _, rfl, rfl, ?_⟩
      refine ⟨_, rfl, _, rfl, dPl e.1, dPl l, dp_pl hp2, dp_pl hb, shaped_pl _, shaped_pl _, _, rfl, ?_⟩
      rw [eqv_pls]
      by_cases c : e.1 = l
      · rw [decide_eq_true c]
        refine iteT ?_
        refine ⟨_, rfl, ?_⟩
        have hv := hV.at e hem
        rw [c] at hv
        rw [← hv]
        exact q
      · rw [decide_eq_false c]
        refine iteF ?_
        refine ⟨_, _, rfl, rfl, fun e' he' => ?_⟩
        rw [take_snoc he] at he'
        rcases List.mem_append.mp he' with h | h
        · exact hno e' h
        · rw [List.mem_singleton.mp h]
          exact c
    · rintro σ H4 ⟨y2, y3, rfl, rfl, hno⟩
      rw [hE.len, List.take_length] at hno
      have : numAt es l = 0 := numAt_out hno
      rw [this] at q
      exact q
def spBackE (K : PySem.W.Frag) : SpE := fun _ _ _ vs H Q _ => ∃ (a : Addr) (ns : Pl), vs = [.ref a] ∧ SqT K H a (ns.map V.int) ∧ ns.length ≤ 1000 ∧ ∀ p H', Same H H' → H' p = some (.tup ((negP ns).map V.int)) → Q (.ref p) H'
theorem h__law_back {f : Addr} {fd : FuncData} (D : C8.Def K mg "_law_back" s__law_back f fd) (b : Binds K fd ["_law_place"] []) (T : Bi mg) : HP.CalG P w K mg base 1 "_law_back" (spBackE K) := by
  refine .mk D b (HP.fnG_of D.fn sc__law_back (fun a c d vs H Q E h => ?_) (fun cdv A outer s H vs Q p c d hot zc fld hr h => ?_))
  · obtain ⟨a, ns, rfl, _⟩ := h
    rfl
  · obtain ⟨a, ns, rfl, hS, hl, q⟩ := h
    have hp : p ∈ (L2H.cxH L2.CX0 P w K mg base ["_law_place"] "_law_back" (C8.fnScope s__law_back) f cdv A outer s H E0 p).pn := List.mem_cons_self
    refine ⟨_, (pss_one (ps_ret (pe_callTy call_tuple_of (by rfl) T.n_tuple OT.b_tuple (pa_cons (HP.pe_lcH (own := [("_law_x", 1)]) (g := (gName 1)) (tt := tYes) ⟨p, hot, hp⟩ sc__law_back.nd (HP.pi_tupH (pv 0)) (blkOk_by (N := ["_law_place", "_law_x"]) (sc := C8.fnScope s__law_back) (by decide +kernel)) (fun _ _ _ _ _ => (pg_name (i := 1) sc__law_back.nd rfl (Or.inl rfl))) (fun _ _ _ _ _ => pts_nil) (fun _ _ _ _ _ => (pe_un un_neg (pv 1)))) pa_nil)))), ?_⟩
    refine ⟨_, rfl, a, rfl, ⟨_, hS⟩, fun p2 np => ?_⟩
    refine lc_tup (K := K) (xs := ns.map V.int) (fun i H2 => Same H H2 ∧ H2 p2 = some (.lst ((ns.take i).map fun n => V.int (-n)))) ?_ ?_ ?_ ?_
    · exact ⟨same_upd np, upd_same⟩
    · rintro i H2 _ ⟨sm, _⟩
      exact same_t sm hS
    · rintro i x H2 hx ⟨sm, hp2⟩
      obtain ⟨hi, rfl⟩ := getm hx
      refine ⟨rfl, tYes_of ?_⟩
      refine ⟨_, rfl, _, rfl, _, hp2, ?_, same_mut sm np, ?_⟩
      · rw [List.length_map, List.length_take]
        exact small1000 (by omega)
      · rw [upd_same, take_map_succ (fun n => V.int (-n)) hi]
    · rintro H2 ⟨sm, hp2⟩
      rw [List.length_map, List.take_length] at hp2
      refine ⟨p2, _, rfl, .inl ⟨.inl (.inl hp2), fun l nl => ?_⟩⟩
      refine q l _ (sm.trans (same_upd nl)) ?_
      rw [upd_same]
      unfold negP
      rw [List.map_map]
      rfl
def spDiffE (K : PySem.W.Frag) : SpE := fun _ _ _ vs H Q _ => ∃ (a : Addr) (xs : List V) (es : List Ent) (e0 : Ent), vs = [.ref a] ∧ H a = some (.lst xs) ∧ Ents H xs es ∧ Valid es ∧ (∀ e ∈ es, e.1.length ≤ 1000) ∧ badE es = some e0 ∧ ∀ p H', Same H H' → H' p = some (.tup (e0.1.map V.int)) → Q (.ref p) H'
theorem h__law_first_difference {f : Addr} {fd : FuncData} (D : C8.Def K mg "_law_first_difference" s__law_first_difference f fd) (b : Binds K fd ["_law_row_here"] []) (T : Bi mg) (h__law_at : HP.CalG P w K mg base 1 "_law_at" (spAtE K)) (h__law_back : HP.CalG P w K mg base 1 "_law_back" (spBackE K)) : HP.CalG P w K mg base 2 "_law_first_difference" (spDiffE K) := by
  refine .mk D b (HP.fnG_of D.fn sc__law_first_difference (fun a c d vs H Q E h => ?_) (fun cdv A outer s H vs Q p c d hot zc fld hr h => ?_))
  · obtain ⟨a, xs, es, e0, rfl, _⟩ := h
    rfl
  · obtain ⟨a, xs, es, e0, rfl, ha, hE, hV, hd, hb, q⟩ := h
    have hp : p ∈ (L2H.cxH L2.CX0 P w K mg base ["_law_row_here", "_law_place", "_law_number"] "_law_first_difference" (C8.fnScope s__law_first_difference) f cdv A outer s H E0 p).pn := List.mem_cons_self
    refine ⟨_, (pss_cons (L2H.ps_forH (passes_of rfl) ⟨p, hot, hp⟩ (HP.pi_listH (pv 0)) (HP.pg_tupH ⟨p, hot, hp⟩ (pgs_cons (pg_name (i := 1) sc__law_first_difference.nd rfl (Or.inl rfl)) (pgs_cons (pg_name (i := 2) sc__law_first_difference.nd rfl (Or.inl rfl)) pgs_nil))) (pss_one (ps_if (pt_cmpR op_ne (HP.pe_ch h__law_at hr (by decide) hot hp zc fld (by rfl) (pa_cons (pv 0) (pa_cons (HP.pe_ch h__law_back hr (by decide) hot hp zc fld (by rfl) (pa_cons (pv 1) pa_nil)) pa_nil))) (pv 2) (nomark _)) (pss_one (ps_ret (pv 1))) pss_nil)))
  (pss_one (ps_ret pe_non))), ?_⟩
    walk_at "st"
    refine ⟨a, rfl, ⟨_, AU.sqL ha⟩, ?_⟩
    refine for_list (K := K) (xs := xs) (fun i σ H4 => ∃ y1 y2 : Option V, σ = [some (.ref a), y1, y2] ∧ Same H H4 ∧ ∀ y ∈ es.take i, decide (numAt es (negP y.1) ≠ y.2) = false) ⟨none, none, rfl, Same.refl _, fun e he => by cases he⟩ ?_ ?_ ?_
    · rintro i σ H4 _ ⟨_, _, _, sm, _⟩
      exact AU.sqL (sm _ _ ha)
    · rintro i x σ H4 hx ⟨y1, y2, rfl, sm, hno⟩
      obtain ⟨e, he, t, p2, rfl, ht, hp2⟩ := (hE.mono sm).get hx
      have hem : e ∈ es := List.mem_of_getElem? he
      refine ⟨t, _, rfl, .inl (.inl ht), rfl, _, _, rfl, _, _, rfl, rfl, ?_⟩
      walk_at "st"
      refine ⟨p2, e.1, rfl, AU.sqT hp2, hd e hem, fun p3 H5 s5 hp3 => ?_⟩
      walk_at "st"
      refine ⟨a, p3, xs, es, negP e.1, rfl, AU.sqL (by walk_at "hl"), (hE.mono sm).mono s5, hV, hp3, ?_⟩
      walk_at "st"
      refine iteND (fun z => ?_) (fun z => ?_)
      · have hbe := find_split (p := fun e => decide (numAt es (negP e.1) ≠ e.2)) he hno (decide_eq_true z)
        unfold badE at hb
        rw [hbe] at hb
        cases hb
        walk_at "st"
        exact q p2 H5 (sm.trans s5) (s5 _ _ hp2)
      · walk_at "st"
        refine ⟨_, _, rfl, sm.trans s5, fun y hy => ?_⟩
        rw [take_snoc he] at hy
        rcases List.mem_append.mp hy with h | h
        · exact hno y h
        · rw [List.mem_singleton.mp h]
          exact decide_eq_false fun k => k z
    · rintro σ H4 ⟨y1, y2, rfl, sm, hno⟩
      rw [hE.len, List.take_length] at hno
      unfold badE at hb
      rw [find_out hno] at hb
      cases hb
end
end OT

set_option Elab.async false
set_option linter.all false
set_option maxRecDepth 100000
set_option maxHeartbeats 4000000
namespace OT
open PySem PySem.Spec PyProof.Rows L2
/-- the length without the zeros at the end -/
def lastN : List Int → Nat
  | [] => 0
  | x :: r => if lastN r = 0 then (if x = 0 then 0 else 1) else lastN r + 1
theorem lastN_snoc (x : Int) : ∀ l : List Int, lastN (l ++ [x]) = if x = 0 then lastN l else l.length + 1
  | [] => rfl
  | y :: l => by
    show (if lastN (l ++ [x]) = 0 then (if y = 0 then 0 else 1) else lastN (l ++ [x]) + 1) = if x = 0 then (if lastN l = 0 then (if y = 0 then 0 else 1) else lastN l + 1) else l.length + 1 + 1
    rw [lastN_snoc x l]
    by_cases c : x = 0
    · rw [if_pos c, if_pos c]
    · rw [if_neg c, if_neg c, if_neg (by omega)]
theorem lastN_le : ∀ l : List Int, lastN l ≤ l.length
  | [] => Nat.le_refl _
  | x :: r => by
    have ih := lastN_le r
    show (if lastN r = 0 then (if x = 0 then 0 else 1) else lastN r + 1) ≤ r.length + 1
    by_cases c : lastN r = 0
    · rw [if_pos c]
      by_cases d : x = 0
      · rw [if_pos d]; omega
      · rw [if_neg d]; omega
    · rw [if_neg c]; omega
def stripL (l : List Int) : List Int := l.take (lastN l)
theorem stripL_snoc0 (l : List Int) : stripL (l ++ [0]) = stripL l := by
  unfold stripL
  rw [lastN_snoc, if_pos rfl, List.take_append_of_le_length (lastN_le l)]
theorem stripL_snoc {x : Int} (h : x ≠ 0) (l : List Int) : stripL (l ++ [x]) = l ++ [x] := by
  unfold stripL
  rw [lastN_snoc, if_neg h]
  exact List.take_of_length_le (by rw [List.length_append]; exact Nat.le_refl _)
theorem snoc_ind {P : List Int → Prop} (h0 : P []) (h1 : ∀ l x, P l → P (l ++ [x])) : ∀ l, P l := by
  intro l
  have : ∀ r : List Int, P r.reverse := fun r => by
    induction r with
    | nil => exact h0
    | cons x r ih =>
      rw [List.reverse_cons]
      exact h1 _ _ ih
  have := this l.reverse
  rwa [List.reverse_reverse] at this
theorem strip_norm (l : List Int) : lastN (stripL l) = (stripL l).length := by
  induction l using snoc_ind with
  | h0 => rfl
  | h1 l x ih =>
    by_cases c : x = 0
    · rw [c, stripL_snoc0]
      exact ih
    · rw [stripL_snoc c, lastN_snoc, if_neg c, List.length_append]
      rfl
theorem strip_U (l : List Int) (q : Int) : FO.U 0 (stripL l) q = FO.U 0 l q := by
  induction l using snoc_ind with
  | h0 => rfl
  | h1 l x ih =>
    by_cases c : x = 0
    · rw [c, stripL_snoc0, ih, FO.U_app]
      show _ = _ + (0 * FO.B (0 + l.length) q + 0)
      rw [Int.zero_mul]
      omega
    · rw [stripL_snoc c]
theorem strip_len (l : List Int) : (stripL l).length ≤ l.length := by
  unfold stripL
  rw [List.length_take]
  omega
theorem strip_mem {l : List Int} {x : Int} (h : x ∈ stripL l) : x ∈ l := List.mem_of_mem_take h
theorem valL_snoc (a x : Int) : ∀ l : List Int, valL a (l ++ [x]) = valL a l + x * a ^ l.length
  | [] => by
    show 0 * a + x = 0 + x * a ^ 0
    rw [Int.pow_zero]
    omega
  | y :: l => by
    show valL a (l ++ [x]) * a + y = valL a l * a + y + x * a ^ (l.length + 1)
    rw [valL_snoc a x l, Int.add_mul, Int.mul_assoc, Int.pow_succ]
    omega
theorem strip_val (a : Int) (l : List Int) : valL a (stripL l) = valL a l := by
  induction l using snoc_ind with
  | h0 => rfl
  | h1 l x ih =>
    by_cases c : x = 0
    · rw [c, stripL_snoc0, ih, valL_snoc, Int.zero_mul]
      omega
    · rw [stripL_snoc c]
/-- a row of powers is short -/
theorem IsU_len {r : List Ent} {t : List Int} (h : FO.IsU r t) : r.length ≤ 2 * t.length := by
  have := h.v.len (l := (List.range (2 * t.length)).map fun (i : Nat) => [(i : Int) - (t.length : Int)]) fun e he => by
    obtain ⟨q, hq⟩ := FO.pl_one (h.d e he)
    have hn := h.v.nz e he
    have ha := h.v.at e he
    rw [hq, h.u] at ha
    have h1 : ¬ ((0 + t.length : Nat) : Int) ≤ q := fun z => hn (by rw [← ha, FO.U_out z])
    have h2 : ¬ ((0 + t.length : Nat) : Int) ≤ -q := fun z => hn (by rw [← ha, ← FO.U_neg, FO.U_out z])
    refine List.mem_map.mpr ⟨(q + t.length).toNat, List.mem_range.mpr (by omega), ?_⟩
    rw [hq]
    congr 1
    omega
  rwa [List.length_map, List.length_range] at this
theorem IsU_co {r : List Ent} {t : List Int} (h : FO.IsU r t) {e : Ent} (he : e ∈ r) : ∃ q, e.1 = [q] ∧ q.natAbs < t.length := by
  obtain ⟨q, hq⟩ := FO.pl_one (h.d e he)
  have hn := h.v.nz e he
  have ha := h.v.at e he
  rw [hq, h.u] at ha
  have h1 : ¬ ((0 + t.length : Nat) : Int) ≤ q := fun z => hn (by rw [← ha, FO.U_out z])
  have h2 : ¬ ((0 + t.length : Nat) : Int) ≤ -q := fun z => hn (by rw [← ha, ← FO.U_neg, FO.U_out z])
  exact ⟨q, hq, by omega⟩
theorem IsU_nil : FO.IsU [] [] := ⟨⟨.nil, fun e h => (by cases h)⟩, fun e h => (by cases h), fun q => rfl⟩
def xx : List Ent := [([-1], 1), ([1], 1)]
theorem one_pl (e : Ent) (he : e.1.length = 1) (q k : Int) : (if plusP e.1 [k] = [q] then e.2 * 1 else 0) = if e.1 = [q - k] then e.2 else 0 := by
  obtain ⟨x, hx⟩ := FO.pl_one he
  rw [hx]
  show (if [x + k] = [q] then e.2 * 1 else 0) = _
  by_cases c : x + k = q
  · rw [if_pos (by rw [c]), if_pos (by rw [← c]; congr 1; omega), Int.mul_one]
  · rw [if_neg (fun z => c (List.cons.inj z).1), if_neg (fun z => c (by have := (List.cons.inj z).1; omega))]
theorem times_xx : ∀ {es : List Ent}, (∀ e ∈ es, e.1.length = 1) → ∀ q, numAt (timesL es xx) [q] = numAt es [q + 1] + numAt es [q - 1]
  | [], _, q => rfl
  | e :: es, h, q => by
    have ih := times_xx (es := es) (fun x hx => h x (List.mem_cons_of_mem _ hx)) q
    show numAt (rowT e xx ++ timesL es xx) [q] = ((if e.1 = [q + 1] then e.2 else 0) + numAt es [q + 1]) + ((if e.1 = [q - 1] then e.2 else 0) + numAt es [q - 1])
    rw [numAt_app, ih]
    show ((if plusP e.1 [-1] = [q] then e.2 * 1 else 0) + ((if plusP e.1 [1] = [q] then e.2 * 1 else 0) + 0)) + _ = _
    rw [one_pl e (h e List.mem_cons_self), one_pl e (h e List.mem_cons_self), show q - -1 = q + 1 by omega]
    omega
theorem timesxx_dim {es : List Ent} (h : ∀ e ∈ es, e.1.length = 1) {x : Ent} (hx : x ∈ timesL es xx) : x.1.length = 1 := by
  obtain ⟨e, he, g, hg, rfl⟩ := timesL_mem hx
  have : g.1.length = 1 := by
    rcases List.mem_cons.mp hg with rfl | hg
    · rfl
    · rw [List.mem_singleton.mp hg]
      rfl
  show (plusP e.1 g.1).length = 1
  rw [plusP_len (by rw [this, h e he]; exact Nat.le_refl _), h e he]
theorem dim_of {r es : List Ent} {n : Nat} (h : RowIs r es) (hd : ∀ e ∈ es, e.1.length = n) : ∀ e ∈ r, e.1.length = n := fun e he => by
  obtain ⟨x, hx, ex⟩ := h.mem he
  rw [← ex]
  exact hd x hx
/-- one step of unfolding -/
theorem IsU_times {r s : List Ent} {t : List Int} (h : FO.IsU r t) (k : RowIs s (timesL r xx)) : FO.IsU s (0 :: t) := by
  refine ⟨k.v, dim_of k fun e he => timesxx_dim h.d he, fun q => ?_⟩
  rw [k.s, times_xx h.d, h.u, h.u]
  show _ = 0 * FO.B 0 q + FO.U 1 t q
  rw [FO.U_succ]
  omega
theorem IsU_add {r s : List Ent} {t : List Int} {x : Int} (h : FO.IsU r (0 :: t)) (k : RowIs s (r ++ [([0], x)])) : FO.IsU s (x :: t) := by
  refine ⟨k.v, dim_of k fun e he => ?_, fun q => ?_⟩
  · rcases List.mem_append.mp he with he | he
    · exact h.d e he
    · rw [List.mem_singleton.mp he]
      rfl
  · rw [k.s, numAt_app, h.u]
    show 0 * FO.B 0 q + FO.U 1 t q + ((if [0] = [q] then x else 0) + 0) = x * (if q = 0 then 1 else 0) + FO.U 1 t q
    by_cases c : q = 0
    · subst c
      rw [if_pos rfl, if_pos rfl]
      omega
    · rw [if_neg c, if_neg (fun z => c (List.cons.inj z).1.symm)]
      omega
theorem IsU_unf {r : List Ent} {t : List Int} (ht : t.length ≤ 20) (k : RowIs r (FO.unfL 0 t)) : FO.IsU r t :=
  ⟨k.v, dim_of k fun e he => FO.unfL_dim he, fun q => by rw [k.s, FO.unfL_num 0 t (by omega)]⟩
theorem IsU_strip {r : List Ent} {t : List Int} (h : FO.IsU r t) : FO.IsU r (stripL t) := ⟨h.v, h.d, fun q => by rw [h.u, strip_U]⟩
theorem IsU_sym {r : List Ent} {t : List Int} (h : FO.IsU r t) : badE r = none := badE_none fun e he => by
  obtain ⟨q, hq⟩ := FO.pl_one (h.d e he)
  have := h.v.at e he
  rw [hq] at this ⊢
  rw [← this]
  exact h.sym q
theorem IsU_top {r : List Ent} {s : List Int} (h : FO.IsU r s) (hs : lastN s = s.length) : FO.topL (upL r) = s.length := by
  have mu : ∀ {e : Ent}, e ∈ upL r → e ∈ r ∧ 0 ≤ e.1.headD 0 := fun he => ⟨(List.mem_filter.mp he).1, of_decide_eq_true (List.mem_filter.mp he).2⟩
  induction s using snoc_ind with
  | h0 =>
    have : upL r = [] := by
      cases z : upL r with
      | nil => rfl
      | cons e l =>
        obtain ⟨_, _, hl⟩ := IsU_co h (mu (by rw [z]; exact List.mem_cons_self : e ∈ upL r)).1
        exact absurd hl (Nat.not_lt_zero _)
    rw [this]
    rfl
  | h1 l x _ =>
    have hx : x ≠ 0 := fun z => by
      rw [lastN_snoc, if_pos z, List.length_append] at hs
      have := lastN_le l
      have : [x].length = 1 := rfl
      omega
    have hU : numAt r [(l.length : Int)] = x := by
      rw [h.u, FO.U_app, FO.U_out (t := l) (by omega), Nat.zero_add]
      show 0 + (x * FO.B l.length l.length + 0) = x
      rw [FO.B_top]
      omega
    obtain ⟨e, he, hq⟩ : ∃ e ∈ r, e.1 = [(l.length : Int)] := Classical.byContradiction fun z => hx (by
      rw [← hU]
      exact numAt_out fun e he k => z ⟨e, he, k⟩)
    have hup : e ∈ upL r := List.mem_filter.mpr ⟨he, decide_eq_true (by rw [hq]; show (0 : Int) ≤ (l.length : Int); omega)⟩
    obtain ⟨g, hg, hgm, htop⟩ := FO.topL_at (r := upL r) (by intro z; rw [z] at hup; cases hup)
    have hgr := mu hgm
    obtain ⟨q, hgq, hlt⟩ := IsU_co h hgr.1
    rw [List.length_append] at hlt
    have l1 : [x].length = 1 := rfl
    have hge : (l.length : Int) ≤ q := by
      rcases FO.last_max (upL_valid h.v) hg e hup with z | z
      · rw [← z, hq] at hgq
        have := (List.cons.inj hgq).1
        omega
      · rw [hq, hgq] at z
        have := FO.lex_one.mp z
        omega
    have h0 := hgr.2
    rw [htop, hgq, List.length_append]
    rw [hgq] at h0
    have h0' : 0 ≤ q := h0
    show (q + 1).toNat = _
    omega
/-- a row of powers that is spoilt -/
theorem spoilt_bad {r s : List Ent} {t : List Int} {x y c z : Int} (h : FO.IsU r t) (k : RowIs s (r ++ [([x], c), ([y], z)])) (hx : x ≠ 0) (hc : c ≠ 0) (h1 : y ≠ x) (h2 : y ≠ -x) : (∀ e ∈ s, e.1.length = 1) ∧ ∃ e, badE s = some e := by
  have num : ∀ q, numAt s [q] = FO.U 0 t q + ((if x = q then c else 0) + ((if y = q then z else 0) + 0)) := fun q => by
    rw [k.s, numAt_app, h.u]
    show _ + ((if [x] = [q] then c else 0) + ((if [y] = [q] then z else 0) + 0)) = _
    simp only [List.cons.injEq, and_true]
  have hd : ∀ e ∈ s, e.1.length = 1 := dim_of k fun e he => by
    rcases List.mem_append.mp he with he | he
    · exact h.d e he
    · rcases List.mem_cons.mp he with rfl | he
      · rfl
      · rw [List.mem_singleton.mp he]
        rfl
  refine ⟨hd, ?_⟩
  cases hb : badE s with
  | some e => exact ⟨e, rfl⟩
  | none =>
    exfalso
    have sym : ∀ q, numAt s [q] ≠ 0 → numAt s [-q] = numAt s [q] := fun q hq => by
      obtain ⟨e, he, eq⟩ : ∃ e ∈ s, e.1 = [q] := Classical.byContradiction fun z => hq (numAt_out fun e he k => z ⟨e, he, k⟩)
      have := List.find?_eq_none.mp hb e he
      have e2 := k.v.at e he
      rw [eq] at e2
      rw [e2]
      have e3 : numAt s (negP e.1) = e.2 := Classical.byContradiction fun w => this (decide_eq_true w)
      rw [eq] at e3
      exact e3
    have hx1 := num x
    have hx2 := num (-x)
    rw [FO.U_neg, if_neg (by omega), if_neg (by omega)] at hx2
    rw [if_pos rfl, if_neg (by omega)] at hx1
    by_cases n0 : numAt s [x] = 0
    · have n1 : numAt s [-x] ≠ 0 := by omega
      have := sym (-x) n1
      rw [Int.neg_neg] at this
      omega
    · have := sym x n0
      omega
end OT

set_option Elab.async false
set_option linter.all false
set_option maxRecDepth 100000
set_option maxHeartbeats 4000000
namespace OT
open PySem PySem.Spec PyProof.Rows L2
local macro_rules | `(tactic| walk_at "sm") => `(tactic| first | assumption | ((with_reducible show Same _ (upd _ _ _)); (refine' AU.mutS ?s ?h; (case h => assumption); (case s => walk_at "sm"))) | fail)
local macro_rules | `(tactic| walk_at "le") => `(tactic| first | (refine Nat.le_of_lt (AU.line ?_); (try simp only [List.length_append, List.length_map, List.length_cons, List.length_nil, List.length_take, List.length_replicate]); omega) | fail)
local macro_rules | `(tactic| walk_at "ll") => `(tactic| first | (show 0 < sizeLine; decide) | (show 1 < sizeLine; decide) | (show 2 < sizeLine; decide) | (show 3 < sizeLine; decide) | (refine AU.line ?_; (try simp only [List.length_append, List.length_map, List.length_cons, List.length_nil, List.length_take, List.length_replicate]); omega) | fail)
local macro_rules | `(tactic| walk_at "hl") => `(tactic| first | assumption | exact upd_same | (refine' AU.climb ?s ?h; (case s => walk_at "sm"); (case h => walk_at "hl")) | fail)
local macro_rules | `(tactic| walk_at "sl") => `(tactic| first | assumption | (refine' AU.sqL ?h; (case h => walk_at "hl")) | (refine' AU.sqLS ?s ?h; (case s => walk_at "sm"); (case h => walk_at "sl")) | fail)
local macro_rules | `(tactic| walk_at "tl") => `(tactic| first | assumption | (refine' AU.sqT ?h; (case h => walk_at "hl")) | (refine' AU.sqTS ?s ?h; (case s => walk_at "sm"); (case h => walk_at "tl")) | fail)
local macro_rules | `(tactic| walk_at "sz") => `(tactic| first | (show 0 ≤ sizeLine; decide) | (show 1 ≤ sizeLine; decide) | (show 2 ≤ sizeLine; decide) | (show 3 ≤ sizeLine; decide) | (show 4 ≤ sizeLine; decide) | (show 5 ≤ sizeLine; decide) | (show 6 ≤ sizeLine; decide) | (show 7 ≤ sizeLine; decide) | (show 8 ≤ sizeLine; decide) | (show 9 ≤ sizeLine; decide) | (show 10 ≤ sizeLine; decide) | fail)
local macro_rules | `(tactic| walk_at "ci") => `(tactic| first | exact trivial | omega | (show (0 : Int) < _; omega) | (show CMul _ _; exact .inl ⟨by omega, by omega⟩) | (show CMul _ _; exact .inr ⟨by omega, by omega⟩) | (show CMul _ _; exact .inr (AU.b01 _)) | (show CMul _ _; exact .inl (AU.b01 _)) | (show CDiv _ _; exact ⟨by omega, by omega⟩) | (show _ ≠ (0 : Int); omega) | (show CDiv _ _; exact ⟨by decide, by decide⟩) | fail)
local macro_rules | `(tactic| walk_at "hh") => `(tactic| first | assumption | (refine' OT.HeldF.mono ?s ?h; (case s => walk_at "sm"); (case h => walk_at "hh")) | fail)
local macro_rules | `(tactic| walk_at "tyx") => `(tactic| first | exact .base (.int _) | exact .base (.bl _) | exact .base (.str _) | exact .base (.lst (by walk_at "hl")) | exact .base (.tup (by walk_at "hl")) | fail)
local macro_rules | `(tactic| walk_at "st1") => `(tactic| first | ((with_reducible show tSeq _ _ _ _ _); (try simp only [List.set_cons_zero, List.set_cons_succ]); refine AU.seq_ ?_) | ((with_reducible show tAsg _ _ _ _ _); refine AU.asg_ ?_) | ((with_reducible show gName _ _ _ _ _); refine AU.name_ ?_) | ((with_reducible show tDrop _ _ _ _); refine AU.drop_ ?_) | ((with_reducible show tRet _ _ _ _); refine AU.ret_ ?_) | ((with_reducible show tRetN _ _ _); refine AU.retN_ ?_) | ((with_reducible show tNext _ _ _); refine AU.next_ ?_) | ((with_reducible show tBreak _ _ _); refine AU.brk_ ?_) | ((with_reducible show tCont _ _ _); refine AU.cont_ ?_) | ((with_reducible show tIfS _ _ _ _ _ _); refine AU.ifs_ ?_) | ((with_reducible show tAug _ _ _ _ _ _); refine AU.aug_ rfl ?_) | ((with_reducible show Ends.nx (Ends.mk _ _ _ _) _ _); refine AU.nxm ?_) | ((with_reducible show Ends.rt (Ends.mk _ _ _ _) _ _); refine AU.rtm ?_) | ((with_reducible show Ends.bk (Ends.mk _ _ _ _) _ _); refine AU.bkm ?_) | ((with_reducible show Ends.ct (Ends.mk _ _ _ _) _ _); refine AU.ctm ?_) | ((with_reducible show tVar _ _ _ _); refine AU.var_ rfl ?_) | ((with_reducible show tC _ _ _ _); refine AU.c_ ?_) | ((with_reducible show tOp _ _ _ _ _ _); refine AU.op_ ?_) | ((with_reducible show tUn _ _ _ _ _); refine AU.un_ ?_) | ((with_reducible show rU _ _ _ _); refine AU.u_ ?_) | ((with_reducible show rI0 _ _ _ _ _); refine AU.i0_ ?_) | ((with_reducible show rI _ _ _ _ _ _); refine AU.i_ (by walk_at "ci") ?_) | ((with_reducible show rEq (V.int _) (V.int _) _ _); first | (with_reducible refine AU.eqr_ ?_) | refine AU.eqi_ ?_) | ((with_reducible show rEq (V.str _) (V.str _) _ _); (with_reducible refine AU.eqs_ ?_)) | ((with_reducible show rNe (V.int _) (V.int _) _ _); refine AU.nei_ ?_) | ((with_reducible show rEq _ _ _ _); refine AU.eq_ rfl ?_) | ((with_reducible show rNe _ _ _ _); refine AU.ne_ rfl ?_) | ((with_reducible show tTest _ _ _ _); refine AU.test_ ?_) | ((with_reducible show tB _ _ _ _); refine AU.b_ ?_) | ((with_reducible show tAnd _ _ _ _ _); refine AU.and_ ?_) | ((with_reducible show tOr _ _ _ _ _); refine AU.or_ ?_) | ((with_reducible show tNot _ _ _ _); refine AU.not_ ?_) | ((with_reducible show tAndV _ _ _ _ _); refine AU.andV_ ?_) | ((with_reducible show tOrV _ _ _ _ _); refine AU.orV_ ?_) | ((with_reducible show tNotV _ _ _ _); refine AU.notV_ ?_) | ((with_reducible show tIf _ _ _ _ _ _); refine AU.if_ ?_) | ((with_reducible show tNil _ _ _); refine AU.nil_ ?_) | ((with_reducible show tCons _ _ _ _ _); refine AU.cons_ ?_) | ((with_reducible show tLst _ _ _ _); refine AU.lst_ ?_) | ((with_reducible show tTup _ _ _ _); refine AU.tup_ ?_) | ((with_reducible show tCall _ _ _ _ _ _ _); refine AU.call_ ?_) | ((with_reducible show tCallS _ _ _ _ _ _); refine AU.callS_ ?_) | ((with_reducible show tCB _ _ _ _ _); refine AU.cb_ ?_) | ((with_reducible show tBM _ _ _ _ _ _ _ _); refine AU.bm_ ?_) | ((with_reducible show rIxL _ _ _ _ _); refine AU.ixL_ (by walk_at "sl") (by first | assumption | rfl) ?_) | ((with_reducible show rIxT _ _ _ _ _); refine AU.ixT_ (by walk_at "tl") (by first | assumption | rfl) ?_) | ((with_reducible show Evl.rLenS _ _ _ _); first | refine AU.lenL_ (by walk_at "sl") ?_ | refine AU.lenT_ (by walk_at "tl") ?_) | ((with_reducible show rAppend (V.ref _) [_] _ _); refine AU.app_ (by walk_at "hl") (by walk_at "ll") ?_) | ((with_reducible show tyV _ _ (V.ref _) _ ∧ _); refine AU.tyl_ (by walk_at "sl") ?_) | ((with_reducible show rCat (V.ref _) (V.ref _) _ _); refine AU.cat_ (by walk_at "hl") (by walk_at "hl") (by walk_at "le") ?_) | ((with_reducible show tFor _ _ _ _ _ _); refine AU.for_ ?_) | ((with_reducible show tLc _ _ _ _ _ _ _ _); refine AU.lc_ ?_) | ((with_reducible show iRng1 _ _ _ _); refine AU.rng1_ ?_) | ((with_reducible show iList _ _ _ _ _); refine AU.list_ ?_) | ((with_reducible show iTup _ _ _ _ _); refine AU.itup_ ?_) | ((with_reducible show (∃ i, [V.bl _] = [V.int i] ∧ _) ∨ _); refine AU.intb_ ?_) | ((with_reducible show (∃ i, [V.int _] = [V.int i] ∧ _) ∨ _); refine AU.inti_ ?_) | ((with_reducible show tYes _ _ _); refine AU.yes_ ?_) | ((with_reducible show ∃ p ys, [V.ref _] = [V.ref p] ∧ (SqL _ _ p ys ∨ SqT _ _ p ys) ∧ _); first | refine AU.listof_ (by walk_at "sl") ?_ | refine AU.listofT_ (by walk_at "tl") ?_) | ((with_reducible show ∃ p ys, [V.ref _] = [V.ref p] ∧ ((SqL _ _ p ys ∧ _) ∨ (SqT _ _ p ys ∧ _))); first | refine AU.tupleof_ (by walk_at "sl") ?_ | refine AU.tupleofT_ (by walk_at "tl") ?_) | ((with_reducible show V.non = V.non ∧ _); refine ⟨rfl, ?_⟩) | ((with_reducible show OT.rIsX _ _ _ _ [V.ref _, _] _ _); refine OT.isX_ (by walk_at "hh") (by first | exact .own _ | exact .ty _) (by assumption) ?_) | ((with_reducible show OT.tFA _ _ _ _ _ _ _ _ _); refine OT.fA_ ?_) | ((with_reducible show OT.tCallE _ _ _ _ _ _ _ _); refine OT.callE_ ?_) | ((with_reducible show rIsi _ [_, _] _ _); refine OT.isi_ (by first | exact .own _ | exact .ty _) (by walk_at "tyx") (by first | assumption | exact kit_ty OT.kq_int_int | exact kit_ty OT.kq_int_bool | exact kit_ty OT.kq_bool_bool | exact kit_ty OT.kq_bool_int | exact kit_ty OT.kq_str_str | exact kit_ty OT.kq_tuple_tuple | exact kit_ty OT.kq_list_list | exact kit_ty OT.kq_list_tuple | exact kit_ty OT.kq_tuple_list | exact kit_ty OT.kq_list_int | exact kit_ty OT.kq_tuple_int | exact kit_ty OT.kq_list_bool | exact kit_ty OT.kq_tuple_bool | exact kit_ty OT.kq_str_int | exact kit_ty OT.kq_int_str | exact kit_ty OT.kq_int_list | exact kit_ty OT.kq_int_tuple | exact kit_ty OT.kq_bool_list | exact kit_ty OT.kq_bool_tuple) ?_) | ((with_reducible show ∃ k, V.bl _ = V.bl k ∧ _); refine AU.bool_ ?_) | ((with_reducible show tSl _ _ _ _ _ _ _); refine AU.sl_ ?_) | ((with_reducible show tNoPart _ _ _); refine AU.npart_ ?_) | ((with_reducible show tPart _ _ _ _); refine AU.part_ ?_) | ((with_reducible show ∃ k, V.int _ = V.int k ∧ rSlL _ _ _ (some k) _ _); refine AU.int1_ ?_) | ((with_reducible show rSlL _ (V.ref _) _ _ _ _); refine AU.slL_ (by walk_at "sl") ?_) | ((with_reducible refine AU.trueT ?_)) | ((with_reducible refine AU.refNon ?_)) | ((with_reducible refine AU.nonNon ?_)) | ((with_reducible refine AU.trueN ?_)) | ((with_reducible refine AU.falseN ?_)) | ((with_reducible refine AU.falseF ?_)) | fail)
local macro_rules | `(tactic| walk_at "st") => `(tactic| repeat walk_at "st1")
theorem InR.at {ds zs : List Int} (h : InR ds zs) (i : Nat) {z : Int} (hz : zs[i]? = some z) : ∃ d, (ds.map V.int)[i]? = some (V.int d) ∧ 0 ≤ d ∧ d < z := by
  have hi := (List.getElem?_eq_some_iff.mp hz).1
  have hd : ds[i]? = some (ds[i]'(by rw [h.1]; exact hi)) := List.getElem?_eq_getElem _
  exact ⟨_, by rw [List.getElem?_map, hd]; rfl, h.2 i _ z hd hz⟩
section
variable {P : Program} {w : World} {K : PySem.W.Frag} {mg : Str → Option Value} {base : Heap}
def spNumbers : Sp := fun vs H Q _ => ∃ (a : Addr) (ns : List Int), vs = [.ref a] ∧ H a = some (.lst (ns.map V.int)) ∧ Q (.bl true) H
theorem c__law_is_numbers {f : Addr} {fd : FuncData} (D : C8.Def K mg "_law_is_numbers" s__law_is_numbers f fd) (b : Binds K fd ["_law_actual"] []) (T : Bi mg) (c__law_is_integer : C8.Cal P w K mg base 1 "_law_is_integer" spIsInt []) : C8.Cal P w K mg base 2 "_law_is_numbers" spNumbers [] := by
  refine C8.cal0 D b .nil sc__law_is_numbers (fun vs H Q E h => ?_) (fun cdv A outer s H vs Q E hr h => ?_)
  · obtain ⟨a, ns, rfl, _⟩ := h
    rfl
  · obtain ⟨a, ns, rfl, ha, q⟩ := h
    refine ⟨_, (pss_cons (ps_if (pt_not (pt_val (pe_callB call_isi (by rfl) T.n_isinstance OT.b_isinstance (pa_cons (pv 0) (pa_cons (pe_bltn (v := .ty "list") (by rfl) T.n_list OT.b_list rfl) pa_nil))))) (pss_one (ps_ret pe_bl)) pss_nil)
  (pss_cons (ps_for PassesOwn.never rfl (pi_list (pv 0)) (pg_name (i := 1) sc__law_is_numbers.nd rfl (Or.inl rfl)) (pss_one (ps_if (pt_not (pt_val (C8.pe_c c__law_is_integer hr (by decide) (by rfl) (pa_cons (pv 1) pa_nil)))) (pss_one (ps_ret pe_bl)) pss_nil)))
  (pss_one (ps_ret pe_bl)))), ?_⟩
    walk_at "st"
    refine ⟨a, rfl, ⟨_, AU.sqL ha⟩, ?_⟩
    refine for_list (K := K) (xs := ns.map V.int) (fun i σ H2 => ∃ y, σ = [some (.ref a), y] ∧ H2 = H) ⟨none, rfl, rfl⟩ (fun i σ H2 _ ⟨_, _, e⟩ => by rw [e]; exact AU.sqL ha) ?_ ?_
    · rintro i x σ H2 hx ⟨y, rfl, rfl⟩
      obtain ⟨hi, rfl⟩ := getm hx
      walk_at "st"
      refine ⟨_, rfl, ?_⟩
      walk_at "st"
      exact ⟨_, rfl, rfl⟩
    · rintro σ H2 ⟨y, rfl, rfl⟩
      walk_at "st"
      exact q
def spUnfd (K : PySem.W.Frag) : Sp := fun vs H Q _ => ∃ (a : Addr) (ns : List Int), vs = [.ref a] ∧ SqL K H a (ns.map V.int) ∧ ns.length ≤ 20 ∧ ∀ p ws r H', Same H H' → H' p = some (.lst ws) → Ents H' ws r → FO.IsU r ns → Q (.ref p) H'
theorem c__law_unfolded {f : Addr} {fd : FuncData} (D : C8.Def K mg "_law_unfolded" s__law_unfolded f fd) (b : Binds K fd ["_law_numbers"] []) (T : Bi mg) (c__law_add : C8.Cal P w K mg base 2 "_law_add" spAdd []) (c__law_times : C8.Cal P w K mg base 2 "_law_times" (spTimes K) []) : C8.Cal P w K mg base 3 "_law_unfolded" (spUnfd K) [] := by
  refine C8.cal0 D b .nil sc__law_unfolded (fun vs H Q E h => ?_) (fun cdv A outer s H vs Q E hr h => ?_)
  · obtain ⟨a, ns, rfl, _⟩ := h
    rfl
  · obtain ⟨a, ns, rfl, hS, hz, q⟩ := h
    refine ⟨_, (pss_cons (ps_set (i := 1) sc__law_unfolded.nd rfl (Or.inl rfl) (pe_lst pa_nil))
  (pss_cons (ps_for PassesOwn.never rfl (pi_range1 rfl T.n_range (pa_cons (pe_callB call_len_seq (by rfl) T.n_len OT.b_len (pa_cons (pv 0) pa_nil)) pa_nil)) (pg_name (i := 2) sc__law_unfolded.nd rfl (Or.inl rfl)) (pss_cons (ps_set (i := 3) sc__law_unfolded.nd rfl (Or.inl rfl) (pe_ix ix_list (pv 0) (pe_op op_sub (pe_op op_sub (pe_callB call_len_seq (by rfl) T.n_len OT.b_len (pa_cons (pv 0) pa_nil)) pe_int) (pv 2)) (fun _ _ => rfl)))
  (pss_one (ps_set (i := 1) sc__law_unfolded.nd rfl (Or.inl rfl) (C8.pe_c c__law_add hr (by decide) (by rfl) (pa_cons (C8.pe_c c__law_times hr (by decide) (by rfl) (pa_cons (pv 1) (pa_cons (pe_lst (pa_cons (pe_tup (pa_cons (pe_tup (pa_cons (pe_un un_neg pe_int) pa_nil)) (pa_cons pe_int pa_nil))) (pa_cons (pe_tup (pa_cons (pe_tup (pa_cons pe_int pa_nil)) (pa_cons pe_int pa_nil))) pa_nil))) pa_nil))) (pa_cons (pe_lst (pa_cons (pe_tup (pa_cons (pe_tup (pa_cons pe_int pa_nil)) (pa_cons (pv 3) pa_nil))) pa_nil)) pa_nil)))))))
  (pss_one (ps_ret (pv 1))))), ?_⟩
    walk_at "st"
    refine ⟨by walk_at "sz", fun l1 nl1 => ?_⟩; generalize eH1 : upd _ l1 _ = H1; have s1 := AU.newS nl1 eH1; have hl1 := AU.newH eH1; clear eH1
    walk_at "st"
    have hm : (ns.map V.int).length = ns.length := List.length_map _
    have hS1 := s1.seq hS
    refine ⟨_, rfl, by omega, by omega, ?_⟩
    rw [Int.toNat_natCast, hm]
    refine for_range (lo := 0) (n := ns.length) (fun i σ H2 => ∃ (p : Addr) (ws : List V) (r : List Ent) (y2 y3 : Option V), σ = [some (.ref a), some (.ref p), y2, y3] ∧ Same H1 H2 ∧ H2 p = some (.lst ws) ∧ Ents H2 ws r ∧ FO.IsU r (ns.drop (ns.length - i))) ⟨l1, [], [], none, none, rfl, Same.refl _, hl1, .nil, ?_⟩ ?_ ?_
    · rw [Nat.sub_zero, List.drop_length]
      exact IsU_nil
    · rintro i σ H2 hi ⟨p, ws, r, y2, y3, rfl, sm, hp, hE, hU⟩
      have hj : ns.length - 1 - i < ns.length := by omega
      have hat : atI (ns.map V.int) ((ns.length : Int) - 1 - (0 + (i : Int))) = some (.int ns[ns.length - 1 - i]) := AU.atN (j := ns.length - 1 - i) (by omega) (by rw [List.getElem?_map, List.getElem?_eq_getElem hj]; rfl)
      have hdr : ns.drop (ns.length - (i + 1)) = ns[ns.length - 1 - i] :: ns.drop (ns.length - i) := by
        rw [show ns.length - (i + 1) = ns.length - 1 - i by omega, drop_cons hj, show ns.length - 1 - i + 1 = ns.length - i by omega]
      have hrl := IsU_len hU
      rw [List.length_drop] at hrl
      walk_at "st"
      rw [hm]
      walk_at "st"
      refine ⟨by walk_at "sz", fun t1 nt1 => ?_⟩; generalize eH3 : upd _ t1 _ = H3; have s3 := AU.newS nt1 eH3; have ht1 := AU.newH eH3; clear eH3
      walk_at "st"
      refine ⟨by walk_at "sz", fun t2 nt2 => ?_⟩; generalize eH4 : upd _ t2 _ = H4; have s4 := AU.newS nt2 eH4; have ht2 := AU.newH eH4; clear eH4
      walk_at "st"
      refine ⟨by walk_at "sz", fun t3 nt3 => ?_⟩; generalize eH5 : upd _ t3 _ = H5; have s5 := AU.newS nt3 eH5; have ht3 := AU.newH eH5; clear eH5
      walk_at "st"
      refine ⟨by walk_at "sz", fun t4 nt4 => ?_⟩; generalize eH6 : upd _ t4 _ = H6; have s6 := AU.newS nt4 eH6; have ht4 := AU.newH eH6; clear eH6
      walk_at "st"
      refine ⟨by walk_at "sz", fun l7 nl7 => ?_⟩; generalize eH7 : upd _ l7 _ = H7; have s7 := AU.newS nl7 eH7; have hl7 := AU.newH eH7; clear eH7
      walk_at "st"
      have hX : Ents H7 [.ref t2, .ref t4] xx := .cons ⟨t2, t1, rfl, by walk_at "hl", by walk_at "hl"⟩ (.cons ⟨t4, t3, rfl, by walk_at "hl", by walk_at "hl"⟩ .nil)
      have s37 := (s3.trans (s4.trans (s5.trans (s6.trans s7))))
      refine ⟨p, l7, ws, _, r, xx, rfl, AU.sqL (s37 _ _ hp), AU.sqL hl7, hE.mono s37, hX, by show r.length * 2 ≤ 10000; omega, fun e he g hg => ?_, fun e he => ⟨fun z => ?_, by rw [hU.d e he]; decide⟩, fun g hg => ?_, ?_⟩
      · rw [hU.d e he]
        rcases List.mem_cons.mp hg with rfl | hg
        · rfl
        · rw [List.mem_singleton.mp hg]
          rfl
      · have := hU.d e he
        rw [z] at this
        cases this
      · rcases List.mem_cons.mp hg with rfl | hg
        · exact ⟨by decide, by decide⟩
        · rw [List.mem_singleton.mp hg]
          exact ⟨by decide, by decide⟩
      intro m p8 ws8 H8 hm8 s8 np8 hp8 hE8
      have hU8 := IsU_times hU hm8
      have hl8 := IsU_len hU8
      rw [List.length_cons, List.length_drop] at hl8
      have s28 := s37.trans s8
      walk_at "st"
      refine ⟨by walk_at "sz", fun t9 nt9 => ?_⟩; generalize eH9 : upd _ t9 _ = H9; have s9 := AU.newS nt9 eH9; have ht9 := AU.newH eH9; clear eH9
      walk_at "st"
      refine ⟨by walk_at "sz", fun t10 nt10 => ?_⟩; generalize eH10 : upd _ t10 _ = H10; have s10 := AU.newS nt10 eH10; have ht10 := AU.newH eH10; clear eH10
      walk_at "st"
      refine ⟨by walk_at "sz", fun l11 nl11 => ?_⟩; generalize eH11 : upd _ l11 _ = H11; have s11 := AU.newS nl11 eH11; have hl11 := AU.newH eH11; clear eH11
      walk_at "st"
      have hX2 : Ents H11 [.ref t10] [([0], ns[ns.length - 1 - i])] := .cons ⟨t10, t9, rfl, by walk_at "hl", by walk_at "hl"⟩ .nil
      have s811 := s9.trans (s10.trans s11)
      refine ⟨p8, l11, ws8, _, m, _, rfl, ⟨s811 _ _ hp8, hE8.mono s811, by omega, fun e he z => ?_⟩, ⟨hl11, hX2, (by show 1 ≤ 1000; decide), fun e he z => ?_⟩, ?_⟩
      · have := hU8.d e he
        rw [z] at this
        cases this
      · rw [List.mem_singleton.mp he] at z
        cases z
      intro r2 p12 ws12 H12 hr12 s12 np12 hp12 hE12
      walk_at "st"
      refine ⟨p12, ws12, r2, _, _, rfl, (sm.trans s28).trans (s811.trans s12), hp12, hE12, ?_⟩
      rw [hdr]
      exact IsU_add hU8 hr12
    · rintro σ H2 ⟨p, ws, r, y2, y3, rfl, sm, hp, hE, hU⟩
      rw [Nat.sub_self, List.drop_zero] at hU
      walk_at "st"
      exact q p ws r H2 (s1.trans sm) hp hE hU
end
end OT

set_option Elab.async false
set_option linter.all false
set_option maxRecDepth 100000
set_option maxHeartbeats 4000000
namespace OT
open PySem PySem.Spec PyProof.Rows L2
local macro_rules | `(tactic| walk_at "sm") => `(tactic| first | assumption | ((with_reducible show Same _ (upd _ _ _)); (refine' AU.mutS ?s ?h; (case h => assumption); (case s => walk_at "sm"))) | fail)
local macro_rules | `(tactic| walk_at "le") => `(tactic| first | (refine Nat.le_of_lt (AU.line ?_); (try simp only [List.length_append, List.length_map, List.length_cons, List.length_nil, List.length_take, List.length_replicate]); omega) | fail)
local macro_rules | `(tactic| walk_at "ll") => `(tactic| first | (show 0 < sizeLine; decide) | (show 1 < sizeLine; decide) | (show 2 < sizeLine; decide) | (show 3 < sizeLine; decide) | (refine AU.line ?_; (try simp only [List.length_append, List.length_map, List.length_cons, List.length_nil, List.length_take, List.length_replicate]); omega) | fail)
local macro_rules | `(tactic| walk_at "hl") => `(tactic| first | assumption | exact upd_same | (refine' AU.climb ?s ?h; (case s => walk_at "sm"); (case h => walk_at "hl")) | fail)
local macro_rules | `(tactic| walk_at "sl") => `(tactic| first | assumption | (refine' AU.sqL ?h; (case h => walk_at "hl")) | (refine' AU.sqLS ?s ?h; (case s => walk_at "sm"); (case h => walk_at "sl")) | fail)
local macro_rules | `(tactic| walk_at "tl") => `(tactic| first | assumption | (refine' AU.sqT ?h; (case h => walk_at "hl")) | (refine' AU.sqTS ?s ?h; (case s => walk_at "sm"); (case h => walk_at "tl")) | fail)
local macro_rules | `(tactic| walk_at "sz") => `(tactic| first | (show 0 ≤ sizeLine; decide) | (show 1 ≤ sizeLine; decide) | (show 2 ≤ sizeLine; decide) | (show 3 ≤ sizeLine; decide) | (show 4 ≤ sizeLine; decide) | (show 5 ≤ sizeLine; decide) | (show 6 ≤ sizeLine; decide) | (show 7 ≤ sizeLine; decide) | (show 8 ≤ sizeLine; decide) | (show 9 ≤ sizeLine; decide) | (show 10 ≤ sizeLine; decide) | fail)
local macro_rules | `(tactic| walk_at "ci") => `(tactic| first | exact trivial | omega | (show (0 : Int) < _; omega) | (show CMul _ _; exact .inl ⟨by omega, by omega⟩) | (show CMul _ _; exact .inr ⟨by omega, by omega⟩) | (show CMul _ _; exact .inr (AU.b01 _)) | (show CMul _ _; exact .inl (AU.b01 _)) | (show CDiv _ _; exact ⟨by omega, by omega⟩) | (show _ ≠ (0 : Int); omega) | (show CDiv _ _; exact ⟨by decide, by decide⟩) | fail)
local macro_rules | `(tactic| walk_at "hh") => `(tactic| first | assumption | (refine' OT.HeldF.mono ?s ?h; (case s => walk_at "sm"); (case h => walk_at "hh")) | fail)
local macro_rules | `(tactic| walk_at "tyx") => `(tactic| first | exact .base (.int _) | exact .base (.bl _) | exact .base (.str _) | exact .base (.lst (by walk_at "hl")) | exact .base (.tup (by walk_at "hl")) | fail)
local macro_rules | `(tactic| walk_at "st1") => `(tactic| first | ((with_reducible show tSeq _ _ _ _ _); (try simp only [List.set_cons_zero, List.set_cons_succ]); refine AU.seq_ ?_) | ((with_reducible show tAsg _ _ _ _ _); refine AU.asg_ ?_) | ((with_reducible show gName _ _ _ _ _); refine AU.name_ ?_) | ((with_reducible show tDrop _ _ _ _); refine AU.drop_ ?_) | ((with_reducible show tRet _ _ _ _); refine AU.ret_ ?_) | ((with_reducible show tRetN _ _ _); refine AU.retN_ ?_) | ((with_reducible show tNext _ _ _); refine AU.next_ ?_) | ((with_reducible show tBreak _ _ _); refine AU.brk_ ?_) | ((with_reducible show tCont _ _ _); refine AU.cont_ ?_) | ((with_reducible show tIfS _ _ _ _ _ _); refine AU.ifs_ ?_) | ((with_reducible show tAug _ _ _ _ _ _); refine AU.aug_ rfl ?_) | ((with_reducible show Ends.nx (Ends.mk _ _ _ _) _ _); refine AU.nxm ?_) | ((with_reducible show Ends.rt (Ends.mk _ _ _ _) _ _); refine AU.rtm ?_) | ((with_reducible show Ends.bk (Ends.mk _ _ _ _) _ _); refine AU.bkm ?_) | ((with_reducible show Ends.ct (Ends.mk _ _ _ _) _ _); refine AU.ctm ?_) | ((with_reducible show tVar _ _ _ _); refine AU.var_ rfl ?_) | ((with_reducible show tC _ _ _ _); refine AU.c_ ?_) | ((with_reducible show tOp _ _ _ _ _ _); refine AU.op_ ?_) | ((with_reducible show tUn _ _ _ _ _); refine AU.un_ ?_) | ((with_reducible show rU _ _ _ _); refine AU.u_ ?_) | ((with_reducible show rI0 _ _ _ _ _); refine AU.i0_ ?_) | ((with_reducible show rI _ _ _ _ _ _); refine AU.i_ (by walk_at "ci") ?_) | ((with_reducible show rEq (V.int _) (V.int _) _ _); first | (with_reducible refine AU.eqr_ ?_) | refine AU.eqi_ ?_) | ((with_reducible show rEq (V.str _) (V.str _) _ _); (with_reducible refine AU.eqs_ ?_)) | ((with_reducible show rNe (V.int _) (V.int _) _ _); refine AU.nei_ ?_) | ((with_reducible show rEq _ _ _ _); refine AU.eq_ rfl ?_) | ((with_reducible show rNe _ _ _ _); refine AU.ne_ rfl ?_) | ((with_reducible show tTest _ _ _ _); refine AU.test_ ?_) | ((with_reducible show tB _ _ _ _); refine AU.b_ ?_) | ((with_reducible show tAnd _ _ _ _ _); refine AU.and_ ?_) | ((with_reducible show tOr _ _ _ _ _); refine AU.or_ ?_) | ((with_reducible show tNot _ _ _ _); refine AU.not_ ?_) | ((with_reducible show tAndV _ _ _ _ _); refine AU.andV_ ?_) | ((with_reducible show tOrV _ _ _ _ _); refine AU.orV_ ?_) | ((with_reducible show tNotV _ _ _ _); refine AU.notV_ ?_) | ((with_reducible show tIf _ _ _ _ _ _); refine AU.if_ ?_) | ((with_reducible show tNil _ _ _); refine AU.nil_ ?_) | ((with_reducible show tCons _ _ _ _ _); refine AU.cons_ ?_) | ((with_reducible show tLst _ _ _ _); refine AU.lst_ ?_) | ((with_reducible show tTup _ _ _ _); refine AU.tup_ ?_) | ((with_reducible show tCall _ _ _ _ _ _ _); refine AU.call_ ?_) | ((with_reducible show tCallS _ _ _ _ _ _); refine AU.callS_ ?_) | ((with_reducible show tCB _ _ _ _ _); refine AU.cb_ ?_) | ((with_reducible show tBM _ _ _ _ _ _ _ _); refine AU.bm_ ?_) | ((with_reducible show rIxL _ _ _ _ _); refine AU.ixL_ (by walk_at "sl") (by first | assumption | rfl) ?_) | ((with_reducible show rIxT _ _ _ _ _); refine AU.ixT_ (by walk_at "tl") (by first | assumption | rfl) ?_) | ((with_reducible show Evl.rLenS _ _ _ _); first | refine AU.lenL_ (by walk_at "sl") ?_ | refine AU.lenT_ (by walk_at "tl") ?_) | ((with_reducible show rAppend (V.ref _) [_] _ _); refine AU.app_ (by walk_at "hl") (by walk_at "ll") ?_) | ((with_reducible show tyV _ _ (V.ref _) _ ∧ _); refine AU.tyl_ (by walk_at "sl") ?_) | ((with_reducible show rCat (V.ref _) (V.ref _) _ _); refine AU.cat_ (by walk_at "hl") (by walk_at "hl") (by walk_at "le") ?_) | ((with_reducible show tFor _ _ _ _ _ _); refine AU.for_ ?_) | ((with_reducible show tLc _ _ _ _ _ _ _ _); refine AU.lc_ ?_) | ((with_reducible show iRng1 _ _ _ _); refine AU.rng1_ ?_) | ((with_reducible show iList _ _ _ _ _); refine AU.list_ ?_) | ((with_reducible show iTup _ _ _ _ _); refine AU.itup_ ?_) | ((with_reducible show (∃ i, [V.bl _] = [V.int i] ∧ _) ∨ _); refine AU.intb_ ?_) | ((with_reducible show (∃ i, [V.int _] = [V.int i] ∧ _) ∨ _); refine AU.inti_ ?_) | ((with_reducible show tYes _ _ _); refine AU.yes_ ?_) | ((with_reducible show ∃ p ys, [V.ref _] = [V.ref p] ∧ (SqL _ _ p ys ∨ SqT _ _ p ys) ∧ _); first | refine AU.listof_ (by walk_at "sl") ?_ | refine AU.listofT_ (by walk_at "tl") ?_) | ((with_reducible show ∃ p ys, [V.ref _] = [V.ref p] ∧ ((SqL _ _ p ys ∧ _) ∨ (SqT _ _ p ys ∧ _))); first | refine AU.tupleof_ (by walk_at "sl") ?_ | refine AU.tupleofT_ (by walk_at "tl") ?_) | ((with_reducible show V.non = V.non ∧ _); refine ⟨rfl, ?_⟩) | ((with_reducible show OT.rIsX _ _ _ _ [V.ref _, _] _ _); refine OT.isX_ (by walk_at "hh") (by first | exact .own _ | exact .ty _) (by assumption) ?_) | ((with_reducible show OT.tFA _ _ _ _ _ _ _ _ _); refine OT.fA_ ?_) | ((with_reducible show OT.tCallE _ _ _ _ _ _ _ _); refine OT.callE_ ?_) | ((with_reducible show rIsi _ [_, _] _ _); refine OT.isi_ (by first | exact .own _ | exact .ty _) (by walk_at "tyx") (by first | assumption | exact kit_ty OT.kq_int_int | exact kit_ty OT.kq_int_bool | exact kit_ty OT.kq_bool_bool | exact kit_ty OT.kq_bool_int | exact kit_ty OT.kq_str_str | exact kit_ty OT.kq_tuple_tuple | exact kit_ty OT.kq_list_list | exact kit_ty OT.kq_list_tuple | exact kit_ty OT.kq_tuple_list | exact kit_ty OT.kq_list_int | exact kit_ty OT.kq_tuple_int | exact kit_ty OT.kq_list_bool | exact kit_ty OT.kq_tuple_bool | exact kit_ty OT.kq_str_int | exact kit_ty OT.kq_int_str | exact kit_ty OT.kq_int_list | exact kit_ty OT.kq_int_tuple | exact kit_ty OT.kq_bool_list | exact kit_ty OT.kq_bool_tuple) ?_) | ((with_reducible show ∃ k, V.bl _ = V.bl k ∧ _); refine AU.bool_ ?_) | ((with_reducible show tSl _ _ _ _ _ _ _); refine AU.sl_ ?_) | ((with_reducible show tNoPart _ _ _); refine AU.npart_ ?_) | ((with_reducible show tPart _ _ _ _); refine AU.part_ ?_) | ((with_reducible show ∃ k, V.int _ = V.int k ∧ rSlL _ _ _ (some k) _ _); refine AU.int1_ ?_) | ((with_reducible show rSlL _ (V.ref _) _ _ _ _); refine AU.slL_ (by walk_at "sl") ?_) | ((with_reducible refine AU.trueT ?_)) | ((with_reducible refine AU.refNon ?_)) | ((with_reducible refine AU.nonNon ?_)) | ((with_reducible refine AU.trueN ?_)) | ((with_reducible refine AU.falseN ?_)) | ((with_reducible refine AU.falseF ?_)) | fail)
local macro_rules | `(tactic| walk_at "st") => `(tactic| repeat walk_at "st1")
def zeros (n : Nat) : Pl := List.replicate n 0
section
variable {P : Program} {w : World} {K : PySem.W.Frag} {mg : Str → Option Value} {base : Heap}
def spStrip (K : PySem.W.Frag) : Sp := fun vs H Q _ => ∃ (a : Addr) (ns : List Int), vs = [.ref a] ∧ SqL K H a (ns.map V.int) ∧ ns.length ≤ 1000 ∧ ∀ p H', Same H H' → H p = none → H' p = some (.lst ((stripL ns).map V.int)) → Q (.ref p) H'
theorem c__law_stripped {f : Addr} {fd : FuncData} (D : C8.Def K mg "_law_stripped" s__law_stripped f fd) (b : Binds K fd ["_law_numbers"] []) (T : Bi mg) : C8.Cal P w K mg base 1 "_law_stripped" (spStrip K) [] := by
  refine C8.cal0 D b .nil sc__law_stripped (fun vs H Q E h => ?_) (fun cdv A outer s H vs Q E hr h => ?_)
  · obtain ⟨a, ns, rfl, _⟩ := h
    rfl
  · obtain ⟨a, ns, rfl, hS, hz, q⟩ := h
    refine ⟨_, (pss_cons (ps_set (i := 1) sc__law_stripped.nd rfl (Or.inl rfl) pe_int)
  (pss_cons (ps_for PassesOwn.never rfl (pi_range1 rfl T.n_range (pa_cons (pe_callB call_len_seq (by rfl) T.n_len OT.b_len (pa_cons (pv 0) pa_nil)) pa_nil)) (pg_name (i := 2) sc__law_stripped.nd rfl (Or.inl rfl)) (pss_one (ps_if (pt_cmpR op_ne (pe_ix ix_list (pv 0) (pv 2) (fun _ _ => rfl)) pe_int (nomark _)) (pss_one (ps_set (i := 1) sc__law_stripped.nd rfl (Or.inl rfl) (pe_op op_add (pv 2) pe_int))) pss_nil)))
  (pss_one (ps_ret (pe_slice sl_list (pv 0) po_none (po_some (pv 1))))))), ?_⟩
    have hm : (ns.map V.int).length = ns.length := List.length_map _
    walk_at "st"
    refine ⟨_, rfl, by omega, by omega, ?_⟩
    rw [Int.toNat_natCast, hm]
    refine for_range (lo := 0) (n := ns.length) (fun i σ H2 => ∃ y2, σ = [some (.ref a), some (.int (lastN (ns.take i) : Nat)), y2] ∧ H2 = H) ⟨none, rfl, rfl⟩ ?_ ?_
    · rintro i σ H2 hi ⟨y2, rfl, rfl⟩
      have hat : atI (ns.map V.int) (0 + (i : Int)) = some (.int ns[i]) := AU.atN (j := i) (by omega) (by rw [List.getElem?_map, List.getElem?_eq_getElem hi]; rfl)
      have htk : lastN (ns.take (i + 1)) = if ns[i] = 0 then lastN (ns.take i) else i + 1 := by
        rw [List.take_add_one, List.getElem?_eq_getElem hi]
        show lastN (ns.take i ++ [ns[i]]) = _
        rw [lastN_snoc, List.length_take, Nat.min_eq_left (by omega)]
      walk_at "st"
      refine iteND (fun z => ?_) (fun z => ?_)
      · rw [if_neg z] at htk
        walk_at "st"
        refine ⟨some (V.int (0 + (i : Int))), ?_, rfl⟩
        rw [htk]
        show [_, some (V.int (0 + (i : Int) + 1)), _] = [_, some (V.int ((i + 1 : Nat) : Int)), _]
        rw [show (0 : Int) + (i : Int) + 1 = ((i + 1 : Nat) : Int) by omega]
      · rw [if_pos z] at htk
        walk_at "st"
        rw [htk]
        exact ⟨_, rfl, rfl⟩
    · rintro σ H2 ⟨y2, rfl, rfl⟩
      rw [List.take_length]
      walk_at "st"
      intro p np
      have hcut : cutV (ns.map V.int) none (some ((lastN ns : Nat) : Int)) = (stripL ns).map V.int := AU.cut_takeA _
      exact q p _ (same_upd np) np (by rw [upd_same, hcut])
def spValue (K : PySem.W.Frag) : Sp := fun vs H Q _ => ∃ (a : Addr) (ns : List Int) (x : Int), vs = [.ref a, .int x] ∧ SqL K H a (ns.map V.int) ∧ (∀ i, i ≤ ns.length → (x ^ i).natAbs < 2 ^ 64) ∧ x.natAbs ≤ 1000000000 ∧ Q (.int (valL x ns)) H
theorem c__law_value {f : Addr} {fd : FuncData} (D : C8.Def K mg "_law_value" s__law_value f fd) (b : Binds K fd ["_law_numbers", "_law_at_here"] []) (T : Bi mg) : C8.Cal P w K mg base 1 "_law_value" (spValue K) [] := by
  refine C8.cal0 D b .nil sc__law_value (fun vs H Q E h => ?_) (fun cdv A outer s H vs Q E hr h => ?_)
  · obtain ⟨a, ns, x, rfl, _⟩ := h
    rfl
  · obtain ⟨a, ns, x, rfl, hS, hn, hx, q⟩ := h
    refine ⟨_, (pss_cons (ps_set (i := 2) sc__law_value.nd rfl (Or.inl rfl) pe_int)
  (pss_cons (ps_set (i := 3) sc__law_value.nd rfl (Or.inl rfl) pe_int)
  (pss_cons (ps_for PassesOwn.never rfl (pi_list (pv 0)) (pg_name (i := 4) sc__law_value.nd rfl (Or.inl rfl)) (pss_cons (ps_set (i := 2) sc__law_value.nd rfl (Or.inl rfl) (pe_op op_add (pv 2) (pe_op op_mul (pv 4) (pv 3))))
  (pss_one (ps_set (i := 3) sc__law_value.nd rfl (Or.inl rfl) (pe_op op_mul (pv 3) (pv 1))))))
  (pss_one (ps_ret (pv 2)))))), ?_⟩
    walk_at "st"
    refine ⟨a, rfl, ⟨_, hS⟩, ?_⟩
    refine for_list (K := K) (xs := ns.map V.int) (fun i σ H2 => ∃ y4, σ = [some (.ref a), some (.int x), some (.int (valL x (ns.take i))), some (.int (x ^ i)), y4] ∧ H2 = H) ⟨none, by rw [Int.pow_zero]; rfl, rfl⟩ (fun i σ H2 _ ⟨_, _, e⟩ => by rw [e]; exact hS) ?_ ?_
    · rintro i v σ H2 hxi ⟨y4, rfl, rfl⟩
      obtain ⟨hi, rfl⟩ := getm hxi
      have hni := hn i (Nat.le_of_lt hi)
      have p64 : (2 : Int) ^ 64 = 18446744073709551616 := by decide
      have p64n : (2 : Nat) ^ 64 = 18446744073709551616 := by decide
      have cm1 : CMul ns[i] (x ^ i) := .inr ⟨by omega, by omega⟩
      have cm2 : CMul (x ^ i) x := .inr ⟨by omega, by omega⟩
      have htk : valL x (ns.take (i + 1)) = valL x (ns.take i) + ns[i] * x ^ i := by
        rw [List.take_add_one, List.getElem?_eq_getElem hi]
        show valL x (ns.take i ++ [ns[i]]) = _
        rw [valL_snoc, List.length_take, Nat.min_eq_left (by omega)]
      walk_at "st"
      refine ⟨some (V.int ns[i]), ?_, rfl⟩
      rw [htk, Int.pow_succ]
      rfl
    · rintro σ H2 ⟨y4, rfl, rfl⟩
      rw [List.length_map, List.take_length]
      walk_at "st"
      exact q
def spZero : Sp := fun vs H Q _ => ∃ n : Nat, vs = [.int (n : Int)] ∧ n ≤ 3 ∧ ∀ p H', Same H H' → H' p = some (.tup ((zeros n).map V.int)) → Q (.ref p) H'
theorem c__law_zero {f : Addr} {fd : FuncData} (D : C8.Def K mg "_law_zero" s__law_zero f fd) (b : Binds K fd ["_law_count"] []) (T : Bi mg) : C8.Cal P w K mg base 1 "_law_zero" spZero [] := by
  refine C8.cal0 D b .nil sc__law_zero (fun vs H Q E h => ?_) (fun cdv A outer s H vs Q E hr h => ?_)
  · obtain ⟨n, rfl, _⟩ := h
    rfl
  · obtain ⟨n, rfl, h3, q⟩ := h
    refine ⟨_, (pss_one (ps_ret (pe_callTy call_tuple_of (by rfl) T.n_tuple OT.b_tuple (pa_cons (pe_lc (own := [("_law_k", 1)]) (g := (gName 1)) (tt := tYes) rfl sc__law_zero.nd (pi_range1 rfl T.n_range (pa_cons (pv 0) pa_nil)) (blkOk_by (N := ["_law_count", "_law_k"]) (sc := C8.fnScope s__law_zero) (by decide +kernel)) (fun _ _ _ _ _ => (pg_name (i := 1) sc__law_zero.nd rfl (Or.inl rfl))) (fun _ _ _ _ _ => pts_nil) (fun _ _ _ _ _ => pe_int)) pa_nil)))), ?_⟩
    refine ⟨_, rfl, _, rfl, by omega, by omega, fun p np => ?_⟩
    rw [Int.toNat_natCast]
    refine lc_range (lo := 0) (n := n) (fun i H3 => Same H H3 ∧ H3 p = some (.lst (List.replicate i (V.int 0)))) ⟨same_upd np, upd_same⟩ ?_ ?_
    · rintro i H3 hi ⟨sm, hD⟩
      refine ⟨rfl, tYes_of ?_⟩
      refine ⟨_, hD, ?_, same_mut sm np, ?_⟩
      · rw [List.length_replicate]
        exact small1000 (by omega)
      · rw [upd_same, List.replicate_succ']
    · rintro H3 ⟨sm, hD⟩
      refine ⟨p, _, rfl, .inl ⟨.inl (.inl hD), fun l nl => ?_⟩⟩
      refine q l _ (sm.trans (same_upd nl)) ?_
      rw [upd_same]
      unfold zeros
      rw [List.map_replicate]
/-- what a row of several directions is -/
structure WideR (H : Hp) (a : Addr) (xs : List V) (r : List Ent) (n : Nat) : Prop where
  a : H a = some (.lst xs)
  e : Ents H xs r
  v : Valid r
  nn : r ≠ []
  d : ∀ e ∈ r, e.1.length = n
  n2 : 2 ≤ n
  n3 : n ≤ 3
  z : r.length ≤ 100
end
end OT

set_option Elab.async false
set_option linter.all false
set_option maxRecDepth 100000
set_option maxHeartbeats 4000000
namespace OT
open PySem PySem.Spec PyProof.Rows L2
local macro_rules | `(tactic| walk_at "sm") => `(tactic| first | assumption | ((with_reducible show Same _ (upd _ _ _)); (refine' AU.mutS ?s ?h; (case h => assumption); (case s => walk_at "sm"))) | fail)
local macro_rules | `(tactic| walk_at "le") => `(tactic| first | (refine Nat.le_of_lt (AU.line ?_); (try simp only [List.length_append, List.length_map, List.length_cons, List.length_nil, List.length_take, List.length_replicate]); omega) | fail)
local macro_rules | `(tactic| walk_at "ll") => `(tactic| first | (show 0 < sizeLine; decide) | (show 1 < sizeLine; decide) | (show 2 < sizeLine; decide) | (show 3 < sizeLine; decide) | (refine AU.line ?_; (try simp only [List.length_append, List.length_map, List.length_cons, List.length_nil, List.length_take, List.length_replicate]); omega) | fail)
local macro_rules | `(tactic| walk_at "hl") => `(tactic| first | assumption | exact upd_same | (refine' AU.climb ?s ?h; (case s => walk_at "sm"); (case h => walk_at "hl")) | fail)
local macro_rules | `(tactic| walk_at "sl") => `(tactic| first | assumption | (refine' AU.sqL ?h; (case h => walk_at "hl")) | (refine' AU.sqLS ?s ?h; (case s => walk_at "sm"); (case h => walk_at "sl")) | fail)
local macro_rules | `(tactic| walk_at "tl") => `(tactic| first | assumption | (refine' AU.sqT ?h; (case h => walk_at "hl")) | (refine' AU.sqTS ?s ?h; (case s => walk_at "sm"); (case h => walk_at "tl")) | fail)
local macro_rules | `(tactic| walk_at "sz") => `(tactic| first | (show 0 ≤ sizeLine; decide) | (show 1 ≤ sizeLine; decide) | (show 2 ≤ sizeLine; decide) | (show 3 ≤ sizeLine; decide) | (show 4 ≤ sizeLine; decide) | (show 5 ≤ sizeLine; decide) | (show 6 ≤ sizeLine; decide) | (show 7 ≤ sizeLine; decide) | (show 8 ≤ sizeLine; decide) | (show 9 ≤ sizeLine; decide) | (show 10 ≤ sizeLine; decide) | fail)
local macro_rules | `(tactic| walk_at "ci") => `(tactic| first | exact trivial | omega | (show (0 : Int) < _; omega) | (show CMul _ _; exact .inl ⟨by omega, by omega⟩) | (show CMul _ _; exact .inr ⟨by omega, by omega⟩) | (show CMul _ _; exact .inr (AU.b01 _)) | (show CMul _ _; exact .inl (AU.b01 _)) | (show CDiv _ _; exact ⟨by omega, by omega⟩) | (show _ ≠ (0 : Int); omega) | (show CDiv _ _; exact ⟨by decide, by decide⟩) | fail)
local macro_rules | `(tactic| walk_at "hh") => `(tactic| first | assumption | (refine' OT.HeldF.mono ?s ?h; (case s => walk_at "sm"); (case h => walk_at "hh")) | fail)
local macro_rules | `(tactic| walk_at "tyx") => `(tactic| first | exact .base (.int _) | exact .base (.bl _) | exact .base (.str _) | exact .base (.lst (by walk_at "hl")) | exact .base (.tup (by walk_at "hl")) | fail)
local macro_rules | `(tactic| walk_at "st1") => `(tactic| first | ((with_reducible show tSeq _ _ _ _ _); (try simp only [List.set_cons_zero, List.set_cons_succ]); refine AU.seq_ ?_) | ((with_reducible show tAsg _ _ _ _ _); refine AU.asg_ ?_) | ((with_reducible show gName _ _ _ _ _); refine AU.name_ ?_) | ((with_reducible show tDrop _ _ _ _); refine AU.drop_ ?_) | ((with_reducible show tRet _ _ _ _); refine AU.ret_ ?_) | ((with_reducible show tRetN _ _ _); refine AU.retN_ ?_) | ((with_reducible show tNext _ _ _); refine AU.next_ ?_) | ((with_reducible show tBreak _ _ _); refine AU.brk_ ?_) | ((with_reducible show tCont _ _ _); refine AU.cont_ ?_) | ((with_reducible show tIfS _ _ _ _ _ _); refine AU.ifs_ ?_) | ((with_reducible show tAug _ _ _ _ _ _); refine AU.aug_ rfl ?_) | ((with_reducible show Ends.nx (Ends.mk _ _ _ _) _ _); refine AU.nxm ?_) | ((with_reducible show Ends.rt (Ends.mk _ _ _ _) _ _); refine AU.rtm ?_) | ((with_reducible show Ends.bk (Ends.mk _ _ _ _) _ _); refine AU.bkm ?_) | ((with_reducible show Ends.ct (Ends.mk _ _ _ _) _ _); refine AU.ctm ?_) | ((with_reducible show tVar _ _ _ _); refine AU.var_ rfl ?_) | ((with_reducible show tC _ _ _ _); refine AU.c_ ?_) | ((with_reducible show tOp _ _ _ _ _ _); refine AU.op_ ?_) | ((with_reducible show tUn _ _ _ _ _); refine AU.un_ ?_) | ((with_reducible show rU _ _ _ _); refine AU.u_ ?_) | ((with_reducible show rI0 _ _ _ _ _); refine AU.i0_ ?_) | ((with_reducible show rI _ _ _ _ _ _); refine AU.i_ (by walk_at "ci") ?_) | ((with_reducible show rEq (V.int _) (V.int _) _ _); first | (with_reducible refine AU.eqr_ ?_) | refine AU.eqi_ ?_) | ((with_reducible show rEq (V.str _) (V.str _) _ _); (with_reducible refine AU.eqs_ ?_)) | ((with_reducible show rNe (V.int _) (V.int _) _ _); refine AU.nei_ ?_) | ((with_reducible show rEq _ _ _ _); refine AU.eq_ rfl ?_) | ((with_reducible show rNe _ _ _ _); refine AU.ne_ rfl ?_) | ((with_reducible show tTest _ _ _ _); refine AU.test_ ?_) | ((with_reducible show tB _ _ _ _); refine AU.b_ ?_) | ((with_reducible show tAnd _ _ _ _ _); refine AU.and_ ?_) | ((with_reducible show tOr _ _ _ _ _); refine AU.or_ ?_) | ((with_reducible show tNot _ _ _ _); refine AU.not_ ?_) | ((with_reducible show tAndV _ _ _ _ _); refine AU.andV_ ?_) | ((with_reducible show tOrV _ _ _ _ _); refine AU.orV_ ?_) | ((with_reducible show tNotV _ _ _ _); refine AU.notV_ ?_) | ((with_reducible show tIf _ _ _ _ _ _); refine AU.if_ ?_) | ((with_reducible show tNil _ _ _); refine AU.nil_ ?_) | ((with_reducible show tCons _ _ _ _ _); refine AU.cons_ ?_) | ((with_reducible show tLst _ _ _ _); refine AU.lst_ ?_) | ((with_reducible show tTup _ _ _ _); refine AU.tup_ ?_) | ((with_reducible show tCall _ _ _ _ _ _ _); refine AU.call_ ?_) | ((with_reducible show tCallS _ _ _ _ _ _); refine AU.callS_ ?_) | ((with_reducible show tCB _ _ _ _ _); refine AU.cb_ ?_) | ((with_reducible show tBM _ _ _ _ _ _ _ _); refine AU.bm_ ?_) | ((with_reducible show rIxL _ _ _ _ _); refine AU.ixL_ (by walk_at "sl") (by first | assumption | rfl) ?_) | ((with_reducible show rIxT _ _ _ _ _); refine AU.ixT_ (by walk_at "tl") (by first | assumption | rfl) ?_) | ((with_reducible show Evl.rLenS _ _ _ _); first | refine AU.lenL_ (by walk_at "sl") ?_ | refine AU.lenT_ (by walk_at "tl") ?_) | ((with_reducible show rAppend (V.ref _) [_] _ _); refine AU.app_ (by walk_at "hl") (by walk_at "ll") ?_) | ((with_reducible show tyV _ _ (V.ref _) _ ∧ _); refine AU.tyl_ (by walk_at "sl") ?_) | ((with_reducible show rCat (V.ref _) (V.ref _) _ _); refine AU.cat_ (by walk_at "hl") (by walk_at "hl") (by walk_at "le") ?_) | ((with_reducible show tFor _ _ _ _ _ _); refine AU.for_ ?_) | ((with_reducible show tLc _ _ _ _ _ _ _ _); refine AU.lc_ ?_) | ((with_reducible show iRng1 _ _ _ _); refine AU.rng1_ ?_) | ((with_reducible show iList _ _ _ _ _); refine AU.list_ ?_) | ((with_reducible show iTup _ _ _ _ _); refine AU.itup_ ?_) | ((with_reducible show (∃ i, [V.bl _] = [V.int i] ∧ _) ∨ _); refine AU.intb_ ?_) | ((with_reducible show (∃ i, [V.int _] = [V.int i] ∧ _) ∨ _); refine AU.inti_ ?_) | ((with_reducible show tYes _ _ _); refine AU.yes_ ?_) | ((with_reducible show ∃ p ys, [V.ref _] = [V.ref p] ∧ (SqL _ _ p ys ∨ SqT _ _ p ys) ∧ _); first | refine AU.listof_ (by walk_at "sl") ?_ | refine AU.listofT_ (by walk_at "tl") ?_) | ((with_reducible show ∃ p ys, [V.ref _] = [V.ref p] ∧ ((SqL _ _ p ys ∧ _) ∨ (SqT _ _ p ys ∧ _))); first | refine AU.tupleof_ (by walk_at "sl") ?_ | refine AU.tupleofT_ (by walk_at "tl") ?_) | ((with_reducible show V.non = V.non ∧ _); refine ⟨rfl, ?_⟩) | ((with_reducible show OT.rIsX _ _ _ _ [V.ref _, _] _ _); refine OT.isX_ (by walk_at "hh") (by first | exact .own _ | exact .ty _) (by assumption) ?_) | ((with_reducible show OT.tFA _ _ _ _ _ _ _ _ _); refine OT.fA_ ?_) | ((with_reducible show OT.tCallE _ _ _ _ _ _ _ _); refine OT.callE_ ?_) | ((with_reducible show rIsi _ [_, _] _ _); refine OT.isi_ (by first | exact .own _ | exact .ty _) (by walk_at "tyx") (by first | assumption | exact kit_ty OT.kq_int_int | exact kit_ty OT.kq_int_bool | exact kit_ty OT.kq_bool_bool | exact kit_ty OT.kq_bool_int | exact kit_ty OT.kq_str_str | exact kit_ty OT.kq_tuple_tuple | exact kit_ty OT.kq_list_list | exact kit_ty OT.kq_list_tuple | exact kit_ty OT.kq_tuple_list | exact kit_ty OT.kq_list_int | exact kit_ty OT.kq_tuple_int | exact kit_ty OT.kq_list_bool | exact kit_ty OT.kq_tuple_bool | exact kit_ty OT.kq_str_int | exact kit_ty OT.kq_int_str | exact kit_ty OT.kq_int_list | exact kit_ty OT.kq_int_tuple | exact kit_ty OT.kq_bool_list | exact kit_ty OT.kq_bool_tuple) ?_) | ((with_reducible show ∃ k, V.bl _ = V.bl k ∧ _); refine AU.bool_ ?_) | ((with_reducible show tSl _ _ _ _ _ _ _); refine AU.sl_ ?_) | ((with_reducible show tNoPart _ _ _); refine AU.npart_ ?_) | ((with_reducible show tPart _ _ _ _); refine AU.part_ ?_) | ((with_reducible show ∃ k, V.int _ = V.int k ∧ rSlL _ _ _ (some k) _ _); refine AU.int1_ ?_) | ((with_reducible show rSlL _ (V.ref _) _ _ _ _); refine AU.slL_ (by walk_at "sl") ?_) | ((with_reducible refine AU.trueT ?_)) | ((with_reducible refine AU.refNon ?_)) | ((with_reducible refine AU.nonNon ?_)) | ((with_reducible refine AU.trueN ?_)) | ((with_reducible refine AU.falseN ?_)) | ((with_reducible refine AU.falseF ?_)) | fail)
local macro_rules | `(tactic| walk_at "st") => `(tactic| repeat walk_at "st1")
def dLs (k : List Int) : PyData := .list (k.map .int)
theorem shaped_ls (k : List Int) : SeqAt.shaped (dLs k) = true := by
  unfold SeqAt.shaped
  have h1 : (dLs k).canLay0 = true := lay_ints k
  rw [h1, Bool.true_and]
  refine decide_eq_true ?_
  simp only [dLs, PyData.depth, depth_ints]
  decide
theorem eqv_ls (k : List Int) : PyData.eqv (dLs k) (dLs k) = true := SeqAt.eqv_refl _ (SeqAt.canLay_of_shaped (shaped_ls k))
section
variable {K : PySem.W.Frag} {H : Hp} {Q : VK} {a b : Addr}
theorem eqLs_ {ns : List Int} (h1 : H a = some (.lst (ns.map V.int))) (h2 : H b = some (.lst (ns.map V.int))) (q : Q (.bl true) H) : rEqD K (.ref a) (.ref b) H Q :=
  AU.eqD_ (.lst (AU.sqL h1) (dp_ints ns)) (.lst (AU.sqL h2) (dp_ints ns)) (shaped_ls ns) (shaped_ls ns) (by rw [show PyData.eqv (.list (ns.map PyData.int)) (.list (ns.map PyData.int)) = true from eqv_ls ns]; exact q)
theorem neLs_ {ns : List Int} (h1 : H a = some (.lst (ns.map V.int))) (h2 : H b = some (.lst (ns.map V.int))) (q : Q (.bl false) H) : rNeD K (.ref a) (.ref b) H Q :=
  AU.neD_ (.lst (AU.sqL h1) (dp_ints ns)) (.lst (AU.sqL h2) (dp_ints ns)) (shaped_ls ns) (shaped_ls ns) (by rw [show PyData.eqv (.list (ns.map PyData.int)) (.list (ns.map PyData.int)) = true from eqv_ls ns]; exact q)
theorem eqRow_ {xs ys : List V} {es : List Ent} (h1 : H a = some (.lst xs)) (g1 : Ents H xs es) (h2 : H b = some (.lst ys)) (g2 : Ents H ys es) (q : Q (.bl true) H) : rEqD K (.ref a) (.ref b) H Q :=
  AU.eqD_ (g1.dp (AU.sqL h1)) (g2.dp (AU.sqL h2)) (shaped_row es) (shaped_row es) (by rw [eqv_rows]; exact q)
theorem neRow_ {xs ys : List V} {es : List Ent} (h1 : H a = some (.lst xs)) (g1 : Ents H xs es) (h2 : H b = some (.lst ys)) (g2 : Ents H ys es) (q : Q (.bl false) H) : rNeD K (.ref a) (.ref b) H Q :=
  AU.neD_ (g1.dp (AU.sqL h1)) (g2.dp (AU.sqL h2)) (shaped_row es) (shaped_row es) (by rw [eqv_rows]; exact q)
end
section
variable {P : Program} {w : World} {K : PySem.W.Frag} {mg : Str → Option Value} {base : Heap}
def spUnfIs : Sp := fun vs H Q _ => ∃ (a b : Addr) (ns : List Int) (ws : List V) (r : List Ent), vs = [.ref a, .ref b] ∧ H a = some (.lst (ns.map V.int)) ∧ ns.length ≤ 20 ∧ H b = some (.lst ws) ∧ Ents H ws r ∧ FO.IsU r ns ∧ ∀ H', Same H H' → Q (.bl true) H'
theorem c__law_unfold_is {f : Addr} {fd : FuncData} (D : C8.Def K mg "_law_unfold_is" s__law_unfold_is f fd) (b : Binds K fd ["_law_numbers", "_law_expected"] []) (T : Bi mg) (c_unfold : C8.Cal P w K mg base 3 "unfold" (spUnfold K) []) (c__law_same : C8.Cal P w K mg base 4 "_law_same" (spSame K) []) : C8.Cal P w K mg base 5 "_law_unfold_is" spUnfIs [] := by
  refine C8.cal0 D b .nil sc__law_unfold_is (fun vs H Q E h => ?_) (fun cdv A outer s H vs Q E hr h => ?_)
  · obtain ⟨a, b, ns, ws, r, rfl, _⟩ := h
    rfl
  · obtain ⟨a, b, ns, ws, r, rfl, ha, hz, hb, hE, hU, q⟩ := h
    refine ⟨_, (pss_cons (ps_set (i := 2) sc__law_unfold_is.nd rfl (Or.inl rfl) (pe_callTy call_list_of (by rfl) T.n_list OT.b_list (pa_cons (pv 0) pa_nil)))
  (pss_cons (ps_set (i := 3) sc__law_unfold_is.nd rfl (Or.inl rfl) (C8.pe_c c_unfold hr (by decide) (by rfl) (pa_cons (pv 2) pa_nil)))
  (pss_cons (ps_if (PW.pt (pw_or (pt_not (pt_val (C8.pe_c c__law_same hr (by decide) (by rfl) (pa_cons (pv 3) (pa_cons (pv 1) pa_nil))))) (pw_or1 (pt_cmpR (op_neD hr.units) (pv 2) (pv 0) (nomark _))))) (pss_one (ps_ret pe_bl)) pss_nil)
  (pss_cons (ps_expr (pe_bm PySem.F.plainAttrs_list PySem.F.slot_list_append PySem.F.type_list_append mt_append (pv 3) (pa_cons (pe_tup (pa_cons (pe_tup (pa_cons pe_int pa_nil)) (pa_cons pe_int pa_nil))) pa_nil)))
  (pss_cons (ps_if (pt_cmpR (op_neD hr.units) (pv 2) (pv 0) (nomark _)) (pss_one (ps_ret pe_bl)) pss_nil)
  (pss_cons (ps_expr (pe_bm PySem.F.plainAttrs_list PySem.F.slot_list_append PySem.F.type_list_append mt_append (pv 2) (pa_cons pe_int pa_nil)))
  (pss_one (ps_ret (C8.pe_c c__law_same hr (by decide) (by rfl) (pa_cons (C8.pe_c c_unfold hr (by decide) (by rfl) (pa_cons (pe_callTy call_list_of (by rfl) T.n_list OT.b_list (pa_cons (pv 0) pa_nil)) pa_nil)) (pa_cons (pv 1) pa_nil))))))))))), ?_⟩
    have row : RowN 1 r := ⟨hU.v, by decide, by decide, hU.d⟩
    have hrl := IsU_len hU
    walk_at "st"
    intro l1 nl1; generalize eH1 : upd _ l1 _ = H1; have s1 := AU.newS nl1 eH1; have hl1 := AU.newH eH1; clear eH1
    walk_at "st"
    refine ⟨l1, ns, rfl, AU.sqL hl1, hz, fun r2 p ws2 H2 hr2 s2 np hp hE2 => ?_⟩
    have e2 : r2 = r := (IsU_unf hz hr2).ext hU fun q => rfl
    subst e2
    have hw2 := hE2.len
    have s02 := s1.trans s2
    walk_at "st"
    refine ⟨p, b, ws2, ws, _, 1, rfl, hp, hE2, s02 _ _ hb, hE.mono s02, row, by omega, ?_⟩
    walk_at "st"
    refine neLs_ (s2 _ _ hl1) (s02 _ _ ha) ?_
    clear s02
    walk_at "st"
    refine ⟨by walk_at "sz", fun t3 nt3 => ?_⟩; generalize eH3 : upd _ t3 _ = H3; have s3 := AU.newS nt3 eH3; have ht3 := AU.newH eH3; clear eH3
    walk_at "st"
    refine ⟨by walk_at "sz", fun t4 nt4 => ?_⟩; generalize eH4 : upd _ t4 _ = H4; have s4 := AU.newS nt4 eH4; have ht4 := AU.newH eH4; clear eH4
    walk_at "st"
    have s5 : Same H1 (upd H4 p (.lst (ws2 ++ [.ref t4]))) := AU.mutS (s2.trans (s3.trans s4)) np
    generalize upd H4 p (.lst (ws2 ++ [.ref t4])) = H5 at s5 ⊢
    have s05 := s1.trans s5
    refine neLs_ (s5 _ _ hl1) (s05 _ _ ha) ?_
    clear s2 s3 s4 s05 hp ht3 ht4 nt3 nt4 np
    walk_at "st"
    have s6 : Same H (upd H5 l1 (.lst (ns.map V.int ++ [.int 1]))) := AU.mutS (s1.trans s5) nl1
    generalize upd H5 l1 (.lst (ns.map V.int ++ [.int 1])) = H6 at s6 ⊢
    clear s1 s5 hl1 nl1
    walk_at "st"
    intro l7 nl7; generalize eH7 : upd _ l7 _ = H7; have s7 := AU.newS nl7 eH7; have hl7 := AU.newH eH7; clear eH7
    walk_at "st"
    refine ⟨l7, ns, rfl, AU.sqL hl7, hz, fun r8 p8 ws8 H8 hr8 s8 np8 hp8 hE8 => ?_⟩
    have e8 : r8 = _ := (IsU_unf hz hr8).ext hU fun q => rfl
    subst e8
    have s68 := (s6.trans s7).trans s8
    walk_at "st"
    refine ⟨p8, b, ws8, ws, _, 1, rfl, hp8, hE8, s68 _ _ hb, hE.mono s68, row, by omega, ?_⟩
    walk_at "st"
    exact q _ s68
/-- what fold is asked here -/
def spFoldC : Sp := fun vs H Q _ => ∃ (a : Addr) (xs : List V) (es : List Ent) (t : List Int), vs = [.ref a] ∧ H a = some (.lst xs) ∧ Ents H xs es ∧ FO.IsU es t ∧ lastN t = t.length ∧ t.length ≤ 20 ∧ ∀ p H', Same H H' → H p = none → H' p = some (.lst (t.map V.int)) → Q (.ref p) H'
theorem dimE_one {es : List Ent} (h : ∀ e ∈ es, e.1.length = 1) : dimE es ≤ 1 ∧ ∀ e ∈ es, e.1.length = dimE es ∧ 1 ≤ e.1.length := by
  cases es with
  | nil => exact ⟨Nat.zero_le _, fun e he => by cases he⟩
  | cons x r =>
    have := dimE_eq h (by intro z; cases z)
    exact ⟨by omega, fun e he => by rw [h e he]; omega⟩
theorem foldC {O S : Addr} : ∀ vs H Q E, spFoldC vs H Q E → spFold K O S vs H Q E0 := fun vs H Q E ⟨a, xs, es, t, e, ha, hE, hU, hn, hz, q⟩ => by
  obtain ⟨d1, d2⟩ := dimE_one hU.d
  have hl := IsU_len hU
  refine ⟨a, xs, es, e, ha, hE, hU.v, by omega, d2, by omega, fun h => ?_, fun _ e he => ?_, fun _ _ => ⟨t, (IsU_top hU hn).symm, hz, hU.u, q⟩⟩
  · omega
  · rw [IsU_sym hU] at he
    cases he
end
end OT

set_option Elab.async false
set_option linter.all false
set_option maxRecDepth 100000
set_option maxHeartbeats 4000000
namespace OT
open PySem PySem.Spec PyProof.Rows L2
local macro_rules | `(tactic| walk_at "sm") => `(tactic| first | assumption | ((with_reducible show Same _ (upd _ _ _)); (refine' AU.mutS ?s ?h; (case h => assumption); (case s => walk_at "sm"))) | fail)
local macro_rules | `(tactic| walk_at "le") => `(tactic| first | (refine Nat.le_of_lt (AU.line ?_); (try simp only [List.length_append, List.length_map, List.length_cons, List.length_nil, List.length_take, List.length_replicate]); omega) | fail)
local macro_rules | `(tactic| walk_at "ll") => `(tactic| first | (show 0 < sizeLine; decide) | (show 1 < sizeLine; decide) | (show 2 < sizeLine; decide) | (show 3 < sizeLine; decide) | (refine AU.line ?_; (try simp only [List.length_append, List.length_map, List.length_cons, List.length_nil, List.length_take, List.length_replicate]); omega) | fail)
local macro_rules | `(tactic| walk_at "hl") => `(tactic| first | assumption | exact upd_same | (refine' AU.climb ?s ?h; (case s => walk_at "sm"); (case h => walk_at "hl")) | fail)
local macro_rules | `(tactic| walk_at "sl") => `(tactic| first | assumption | (refine' AU.sqL ?h; (case h => walk_at "hl")) | (refine' AU.sqLS ?s ?h; (case s => walk_at "sm"); (case h => walk_at "sl")) | fail)
local macro_rules | `(tactic| walk_at "tl") => `(tactic| first | assumption | (refine' AU.sqT ?h; (case h => walk_at "hl")) | (refine' AU.sqTS ?s ?h; (case s => walk_at "sm"); (case h => walk_at "tl")) | fail)
local macro_rules | `(tactic| walk_at "sz") => `(tactic| first | (show 0 ≤ sizeLine; decide) | (show 1 ≤ sizeLine; decide) | (show 2 ≤ sizeLine; decide) | (show 3 ≤ sizeLine; decide) | (show 4 ≤ sizeLine; decide) | (show 5 ≤ sizeLine; decide) | (show 6 ≤ sizeLine; decide) | (show 7 ≤ sizeLine; decide) | (show 8 ≤ sizeLine; decide) | (show 9 ≤ sizeLine; decide) | (show 10 ≤ sizeLine; decide) | fail)
local macro_rules | `(tactic| walk_at "ci") => `(tactic| first | exact trivial | omega | (show (0 : Int) < _; omega) | (show CMul _ _; exact .inl ⟨by omega, by omega⟩) | (show CMul _ _; exact .inr ⟨by omega, by omega⟩) | (show CMul _ _; exact .inr (AU.b01 _)) | (show CMul _ _; exact .inl (AU.b01 _)) | (show CDiv _ _; exact ⟨by omega, by omega⟩) | (show _ ≠ (0 : Int); omega) | (show CDiv _ _; exact ⟨by decide, by decide⟩) | fail)
local macro_rules | `(tactic| walk_at "hh") => `(tactic| first | assumption | (refine' OT.HeldF.mono ?s ?h; (case s => walk_at "sm"); (case h => walk_at "hh")) | fail)
local macro_rules | `(tactic| walk_at "tyx") => `(tactic| first | exact .base (.int _) | exact .base (.bl _) | exact .base (.str _) | exact .base (.lst (by walk_at "hl")) | exact .base (.tup (by walk_at "hl")) | fail)
local macro_rules | `(tactic| walk_at "st1") => `(tactic| first | ((with_reducible show tSeq _ _ _ _ _); (try simp only [List.set_cons_zero, List.set_cons_succ]); refine AU.seq_ ?_) | ((with_reducible show tAsg _ _ _ _ _); refine AU.asg_ ?_) | ((with_reducible show gName _ _ _ _ _); refine AU.name_ ?_) | ((with_reducible show tDrop _ _ _ _); refine AU.drop_ ?_) | ((with_reducible show tRet _ _ _ _); refine AU.ret_ ?_) | ((with_reducible show tRetN _ _ _); refine AU.retN_ ?_) | ((with_reducible show tNext _ _ _); refine AU.next_ ?_) | ((with_reducible show tBreak _ _ _); refine AU.brk_ ?_) | ((with_reducible show tCont _ _ _); refine AU.cont_ ?_) | ((with_reducible show tIfS _ _ _ _ _ _); refine AU.ifs_ ?_) | ((with_reducible show tAug _ _ _ _ _ _); refine AU.aug_ rfl ?_) | ((with_reducible show Ends.nx (Ends.mk _ _ _ _) _ _); refine AU.nxm ?_) | ((with_reducible show Ends.rt (Ends.mk _ _ _ _) _ _); refine AU.rtm ?_) | ((with_reducible show Ends.bk (Ends.mk _ _ _ _) _ _); refine AU.bkm ?_) | ((with_reducible show Ends.ct (Ends.mk _ _ _ _) _ _); refine AU.ctm ?_) | ((with_reducible show tVar _ _ _ _); refine AU.var_ rfl ?_) | ((with_reducible show tC _ _ _ _); refine AU.c_ ?_) | ((with_reducible show tOp _ _ _ _ _ _); refine AU.op_ ?_) | ((with_reducible show tUn _ _ _ _ _); refine AU.un_ ?_) | ((with_reducible show rU _ _ _ _); refine AU.u_ ?_) | ((with_reducible show rI0 _ _ _ _ _); refine AU.i0_ ?_) | ((with_reducible show rI _ _ _ _ _ _); refine AU.i_ (by walk_at "ci") ?_) | ((with_reducible show rEq (V.int _) (V.int _) _ _); first | (with_reducible refine AU.eqr_ ?_) | refine AU.eqi_ ?_) | ((with_reducible show rEq (V.str _) (V.str _) _ _); (with_reducible refine AU.eqs_ ?_)) | ((with_reducible show rNe (V.int _) (V.int _) _ _); refine AU.nei_ ?_) | ((with_reducible show rEq _ _ _ _); refine AU.eq_ rfl ?_) | ((with_reducible show rNe _ _ _ _); refine AU.ne_ rfl ?_) | ((with_reducible show tTest _ _ _ _); refine AU.test_ ?_) | ((with_reducible show tB _ _ _ _); refine AU.b_ ?_) | ((with_reducible show tAnd _ _ _ _ _); refine AU.and_ ?_) | ((with_reducible show tOr _ _ _ _ _); refine AU.or_ ?_) | ((with_reducible show tNot _ _ _ _); refine AU.not_ ?_) | ((with_reducible show tAndV _ _ _ _ _); refine AU.andV_ ?_) | ((with_reducible show tOrV _ _ _ _ _); refine AU.orV_ ?_) | ((with_reducible show tNotV _ _ _ _); refine AU.notV_ ?_) | ((with_reducible show tIf _ _ _ _ _ _); refine AU.if_ ?_) | ((with_reducible show tNil _ _ _); refine AU.nil_ ?_) | ((with_reducible show tCons _ _ _ _ _); refine AU.cons_ ?_) | ((with_reducible show tLst _ _ _ _); refine AU.lst_ ?_) | ((with_reducible show tTup _ _ _ _); refine AU.tup_ ?_) | ((with_reducible show tCall _ _ _ _ _ _ _); refine AU.call_ ?_) | ((with_reducible show tCallS _ _ _ _ _ _); refine AU.callS_ ?_) | ((with_reducible show tCB _ _ _ _ _); refine AU.cb_ ?_) | ((with_reducible show tBM _ _ _ _ _ _ _ _); refine AU.bm_ ?_) | ((with_reducible show rIxL _ _ _ _ _); refine AU.ixL_ (by walk_at "sl") (by first | assumption | rfl) ?_) | ((with_reducible show rIxT _ _ _ _ _); refine AU.ixT_ (by walk_at "tl") (by first | assumption | rfl) ?_) | ((with_reducible show Evl.rLenS _ _ _ _); first | refine AU.lenL_ (by walk_at "sl") ?_ | refine AU.lenT_ (by walk_at "tl") ?_) | ((with_reducible show rAppend (V.ref _) [_] _ _); refine AU.app_ (by walk_at "hl") (by walk_at "ll") ?_) | ((with_reducible show tyV _ _ (V.ref _) _ ∧ _); refine AU.tyl_ (by walk_at "sl") ?_) | ((with_reducible show rCat (V.ref _) (V.ref _) _ _); refine AU.cat_ (by walk_at "hl") (by walk_at "hl") (by walk_at "le") ?_) | ((with_reducible show tFor _ _ _ _ _ _); refine AU.for_ ?_) | ((with_reducible show tLc _ _ _ _ _ _ _ _); refine AU.lc_ ?_) | ((with_reducible show iRng1 _ _ _ _); refine AU.rng1_ ?_) | ((with_reducible show iList _ _ _ _ _); refine AU.list_ ?_) | ((with_reducible show iTup _ _ _ _ _); refine AU.itup_ ?_) | ((with_reducible show (∃ i, [V.bl _] = [V.int i] ∧ _) ∨ _); refine AU.intb_ ?_) | ((with_reducible show (∃ i, [V.int _] = [V.int i] ∧ _) ∨ _); refine AU.inti_ ?_) | ((with_reducible show tYes _ _ _); refine AU.yes_ ?_) | ((with_reducible show ∃ p ys, [V.ref _] = [V.ref p] ∧ (SqL _ _ p ys ∨ SqT _ _ p ys) ∧ _); first | refine AU.listof_ (by walk_at "sl") ?_ | refine AU.listofT_ (by walk_at "tl") ?_) | ((with_reducible show ∃ p ys, [V.ref _] = [V.ref p] ∧ ((SqL _ _ p ys ∧ _) ∨ (SqT _ _ p ys ∧ _))); first | refine AU.tupleof_ (by walk_at "sl") ?_ | refine AU.tupleofT_ (by walk_at "tl") ?_) | ((with_reducible show V.non = V.non ∧ _); refine ⟨rfl, ?_⟩) | ((with_reducible show OT.rIsX _ _ _ _ [V.ref _, _] _ _); refine OT.isX_ (by walk_at "hh") (by first | exact .own _ | exact .ty _) (by assumption) ?_) | ((with_reducible show OT.tFA _ _ _ _ _ _ _ _ _); refine OT.fA_ ?_) | ((with_reducible show OT.tCallE _ _ _ _ _ _ _ _); refine OT.callE_ ?_) | ((with_reducible show rIsi _ [_, _] _ _); refine OT.isi_ (by first | exact .own _ | exact .ty _) (by walk_at "tyx") (by first | assumption | exact kit_ty OT.kq_int_int | exact kit_ty OT.kq_int_bool | exact kit_ty OT.kq_bool_bool | exact kit_ty OT.kq_bool_int | exact kit_ty OT.kq_str_str | exact kit_ty OT.kq_tuple_tuple | exact kit_ty OT.kq_list_list | exact kit_ty OT.kq_list_tuple | exact kit_ty OT.kq_tuple_list | exact kit_ty OT.kq_list_int | exact kit_ty OT.kq_tuple_int | exact kit_ty OT.kq_list_bool | exact kit_ty OT.kq_tuple_bool | exact kit_ty OT.kq_str_int | exact kit_ty OT.kq_int_str | exact kit_ty OT.kq_int_list | exact kit_ty OT.kq_int_tuple | exact kit_ty OT.kq_bool_list | exact kit_ty OT.kq_bool_tuple) ?_) | ((with_reducible show ∃ k, V.bl _ = V.bl k ∧ _); refine AU.bool_ ?_) | ((with_reducible show tSl _ _ _ _ _ _ _); refine AU.sl_ ?_) | ((with_reducible show tNoPart _ _ _); refine AU.npart_ ?_) | ((with_reducible show tPart _ _ _ _); refine AU.part_ ?_) | ((with_reducible show ∃ k, V.int _ = V.int k ∧ rSlL _ _ _ (some k) _ _); refine AU.int1_ ?_) | ((with_reducible show rSlL _ (V.ref _) _ _ _ _); refine AU.slL_ (by walk_at "sl") ?_) | ((with_reducible refine AU.trueT ?_)) | ((with_reducible refine AU.refNon ?_)) | ((with_reducible refine AU.nonNon ?_)) | ((with_reducible refine AU.trueN ?_)) | ((with_reducible refine AU.falseN ?_)) | ((with_reducible refine AU.falseF ?_)) | fail)
local macro_rules | `(tactic| walk_at "st") => `(tactic| repeat walk_at "st1")
structure ErrK (K : PySem.W.Frag) (B S O Z M C : Addr) (nm : String) (bS bO : Bool) : Prop where
  t : OtErr K C nm
  x : PySem.W.exmOne K (.ref C) (.ref B) = some true
  b : PySem.W.kitOne K (.ref C) (.ref B) = some true
  v : PySem.W.kitOne K (.ref C) (.type "ValueError") = some true
  s : PySem.W.kitOne K (.ref C) (.ref S) = some bS
  o : PySem.W.kitOne K (.ref C) (.ref O) = some bO
  z : PySem.W.kitOne K (.ref C) (.ref Z) = some false
  m : PySem.W.kitOne K (.ref C) (.ref M) = some false
section
variable {P : Program} {w : World} {K : PySem.W.Frag} {mg : Str → Option Value} {base : Heap}
def spNotSym : Sp := fun vs H Q _ => ∃ (a : Addr) (xs : List V) (es : List Ent) (e0 : Ent), vs = [.ref a] ∧ H a = some (.lst xs) ∧ Ents H xs es ∧ Valid es ∧ (∀ e ∈ es, e.1.length = 1) ∧ es.length ≤ 100 ∧ badE es = some e0 ∧ ∀ H', Same H H' → Q (.bl true) H'
theorem c__law_not_symmetric {f B S O Z M fF : Addr} {fd fdF : FuncData} (D : C8.Def K mg "_law_not_symmetric" s__law_not_symmetric f fd) (b : Binds K fd ["_law_row_here"] []) (T : Bi mg) (gB : mg "TableError" = some (.ref B)) (gS : mg "NotSymmetric" = some (.ref S)) (gO : mg "OneDirectionOnly" = some (.ref O)) (gZ : mg "ZeroRow" = some (.ref Z)) (gM : mg "MixedDimensions" = some (.ref M))
    (xS : ErrK K B S O Z M S "NotSymmetric" true false) (hnp : PySem.W.findIn K (.ref S) "place" = some none)
    (DF : C8.Def K mg "fold" s_fold fF fdF) (bF : Binds K fdF ["row"] []) (GF : FnOk P w K mg base (L2N.CX P w) 6 fF fdF ["row"] (spFold K O S))
    (h__law_is_error : HP.CalG P w K mg base 1 "_law_is_error" (spErrE K B)) (h__law_is_place : HP.CalG P w K mg base 2 "_law_is_place" (spPlaceE K)) (h__law_first_difference : HP.CalG P w K mg base 2 "_law_first_difference" (spDiffE K)) : C8.Cal P w K mg base 7 "_law_not_symmetric" spNotSym [] := by
  refine C8.cal0 D b .nil sc__law_not_symmetric (fun vs H Q E h => ?_) (fun cdv A outer s H vs Q E hr h => ?_)
  · obtain ⟨a, xs, es, e0, rfl, _⟩ := h
    rfl
  · obtain ⟨a, xs, es, e0, rfl, ha, hE, hv, hd, hz, he, q⟩ := h
    refine ⟨_, (pss_cons (ps_set (i := 1) sc__law_not_symmetric.nd rfl (Or.inl rfl) (pe_callTy call_list_of (by rfl) T.n_list OT.b_list (pa_cons (pv 0) pa_nil)))
  (pss_cons (L2N.ps_try_as (i := 2) (tb := fun W => _) (ts := fun a cls d => _) (Wout := fun _ _ _ _ => False) rfl rfl sc__law_not_symmetric.nd rfl rfl ⟨rfl, by decide, Or.inl gB⟩ HP.takes0N (fun W pn xe tk _ => (pss_one (ps_expr (pe_callS GF hr rfl DF.mgf DF.kp bF (fun σ => L2N.passAt tk σ) (pa_cons (pv 1) pa_nil))))) (fun a oe cls d pn hz hf => by exact (pss_cons (ps_if (PW.pt (pw_or (pt_not (pt_val (by exact HP.pe_chs h__law_is_error hr (by decide) hz hf (by rfl) (pa_cons (pv 2) (pa_cons pe_str pa_nil))))) (pw_or1 (pt_not (pt_val (pe_callB (show CallR _ _ (rIsX K a cls d) from call_isA List.mem_cons_self hz.zc hf) (by rfl) T.n_isinstance OT.b_isinstance (pa_cons (pv 2) (pa_cons (pe_glob (v := .ref S) (by rfl) gS rfl) pa_nil)))))))) (pss_one (ps_ret pe_bl)) pss_nil)   (pss_cons (ps_if (PW.pt (pw_or (pt_val (pe_callB (show CallR _ _ (rIsX K a cls d) from call_isA List.mem_cons_self hz.zc hf) (by rfl) T.n_isinstance OT.b_isinstance (pa_cons (pv 2) (pa_cons (pe_glob (v := .ref O) (by rfl) gO rfl) pa_nil)))) (pw_or (pt_val (pe_callB (show CallR _ _ (rIsX K a cls d) from call_isA List.mem_cons_self hz.zc hf) (by rfl) T.n_isinstance OT.b_isinstance (pa_cons (pv 2) (pa_cons (pe_glob (v := .ref Z) (by rfl) gZ rfl) pa_nil)))) (pw_or1 (pt_val (pe_callB (show CallR _ _ (rIsX K a cls d) from call_isA List.mem_cons_self hz.zc hf) (by rfl) T.n_isinstance OT.b_isinstance (pa_cons (pv 2) (pa_cons (pe_glob (v := .ref M) (by rfl) gM rfl) pa_nil)))))))) (pss_one (ps_ret pe_bl)) pss_nil)   (pss_one (ps_ret (pe_and (by exact HP.pe_chs h__law_is_place hr (by decide) hz hf (by rfl) (pa_cons (show PE _ _ (tFA K a cls d _ _) from pe_fA List.mem_cons_self hz.zc hf (pv 2)) pa_nil)) (pe_and (by exact (pe_cmpR (show OpR _ _ (rEqD K) from op_eqD hr.units) (show PE _ _ (tFA K a cls d _ _) from pe_fA List.mem_cons_self hz.zc hf (pv 2)) (by exact HP.pe_chs h__law_first_difference hr (by decide) hz hf (by rfl) (pa_cons (pv 0) pa_nil)) (nomark _))) (pe_one (by exact (pe_cmpR (show OpR _ _ (rEqD K) from op_eqD hr.units) (pv 1) (pv 0) (nomark _))))))))))))
  (pss_one (ps_ret pe_bl)))), ?_⟩
    obtain ⟨d1, d2⟩ := dimE_one hd
    have hem : e0 ∈ es := List.mem_of_find?_eq_some he
    walk_at "st"
    intro l1 nl1; generalize eH1 : upd _ l1 _ = H1; have s1 := AU.newS nl1 eH1; have hl1 := AU.newH eH1; clear eH1
    walk_at "st"
    refine ⟨l1, xs, es, rfl, hl1, hE.mono s1, hv, by omega, d2, by omega, fun h => absurd h (by omega), fun _ e he2 p d H2 s2 hp hdd => ?_, fun _ h => ?_⟩
    · rw [he] at he2
      cases he2
      refine AU.wAs_ xS.x fun ea nea => ?_
      have hh : HeldF K H2 S d (.ref S) (some d) (errS p) := ⟨rfl, rfl, xS.t.oc, hdd⟩
      have lw : (errS p).lookup ("word" : Str) = some (V.str "NotSymmetric") := rfl
      have lp : (errS p).lookup ("place" : Str) = some (V.ref p) := rfl
      have k1 := xS.s
      have k2 := xS.o
      have k3 := xS.z
      have k4 := xS.m
      walk_at "st"
      refine ⟨S, d, _, _, rfl, hh, xS.t.nw, lw, xS.b, xS.v, ?_⟩
      walk_at "st"
      refine fB_ (by walk_at "hh") hnp lp ?_
      walk_at "st"
      refine ⟨p, e0.1, rfl, hp, by rw [hd e0 hem]; decide, by rw [hd e0 hem]; decide, ?_⟩
      walk_at "st"
      refine fB_ (by walk_at "hh") hnp lp ?_
      walk_at "st"
      have s02 := s1.trans s2
      refine ⟨a, xs, es, e0, rfl, s02 _ _ ha, hE.mono s02, hv, fun e he => by rw [hd e he]; decide, he, fun p3 H3 s3 hp3 => ?_⟩
      walk_at "st"
      refine AU.eqD_ (dp_pl (s3 _ _ hp)) (dp_pl hp3) (shaped_pl _) (shaped_pl _) ?_
      rw [eqv_pl]
      walk_at "st"
      have s13 := s2.trans s3
      have s03 := s1.trans s13
      refine eqRow_ (s13 _ _ hl1) (hE.mono s03) (s03 _ _ ha) (hE.mono s03) ?_
      walk_at "st"
      exact q _ s03
    · rw [he] at h
      cases h
def spOneDir : Sp := fun vs H Q _ => ∃ (a : Addr) (xs : List V) (es : List Ent) (n : Nat), vs = [.ref a] ∧ WideR H a xs es n ∧ ∀ H', Same H H' → Q (.bl true) H'
theorem c__law_one_direction_only {f B S O Z M fF : Addr} {fd fdF : FuncData} (D : C8.Def K mg "_law_one_direction_only" s__law_one_direction_only f fd) (b : Binds K fd ["_law_row_here"] []) (T : Bi mg) (gB : mg "TableError" = some (.ref B)) (gS : mg "NotSymmetric" = some (.ref S)) (gO : mg "OneDirectionOnly" = some (.ref O)) (gZ : mg "ZeroRow" = some (.ref Z)) (gM : mg "MixedDimensions" = some (.ref M))
    (xO : ErrK K B S O Z M O "OneDirectionOnly" false true) (hnd : PySem.W.findIn K (.ref O) "dimension" = some none)
    (DF : C8.Def K mg "fold" s_fold fF fdF) (bF : Binds K fdF ["row"] []) (GF : FnOk P w K mg base (L2N.CX P w) 6 fF fdF ["row"] (spFold K O S))
    (h__law_is_error : HP.CalG P w K mg base 1 "_law_is_error" (spErrE K B)) (h__law_is_integer : HP.CalG P w K mg base 1 "_law_is_integer" spIntE) : C8.Cal P w K mg base 7 "_law_one_direction_only" spOneDir [] := by
  refine C8.cal0 D b .nil sc__law_one_direction_only (fun vs H Q E h => ?_) (fun cdv A outer s H vs Q E hr h => ?_)
  · obtain ⟨a, xs, es, n, rfl, _⟩ := h
    rfl
  · obtain ⟨a, xs, es, n, rfl, hW, q⟩ := h
    refine ⟨_, (pss_cons (ps_set (i := 1) sc__law_one_direction_only.nd rfl (Or.inl rfl) (pe_callTy call_list_of (by rfl) T.n_list OT.b_list (pa_cons (pv 0) pa_nil)))
  (pss_cons (L2N.ps_try_as (i := 2) (tb := fun W => _) (ts := fun a cls d => _) (Wout := fun _ _ _ _ => False) rfl rfl sc__law_one_direction_only.nd rfl rfl ⟨rfl, by decide, Or.inl gB⟩ HP.takes0N (fun W pn xe tk _ => (pss_one (ps_expr (pe_callS GF hr rfl DF.mgf DF.kp bF (fun σ => L2N.passAt tk σ) (pa_cons (pv 1) pa_nil))))) (fun a oe cls d pn hz hf => by exact (pss_cons (ps_if (PW.pt (pw_or (pt_not (pt_val (by exact HP.pe_chs h__law_is_error hr (by decide) hz hf (by rfl) (pa_cons (pv 2) (pa_cons pe_str pa_nil))))) (pw_or1 (pt_not (pt_val (pe_callB (show CallR _ _ (rIsX K a cls d) from call_isA List.mem_cons_self hz.zc hf) (by rfl) T.n_isinstance OT.b_isinstance (pa_cons (pv 2) (pa_cons (pe_glob (v := .ref O) (by rfl) gO rfl) pa_nil)))))))) (pss_one (ps_ret pe_bl)) pss_nil)   (pss_cons (ps_if (PW.pt (pw_or (pt_val (pe_callB (show CallR _ _ (rIsX K a cls d) from call_isA List.mem_cons_self hz.zc hf) (by rfl) T.n_isinstance OT.b_isinstance (pa_cons (pv 2) (pa_cons (pe_glob (v := .ref S) (by rfl) gS rfl) pa_nil)))) (pw_or (pt_val (pe_callB (show CallR _ _ (rIsX K a cls d) from call_isA List.mem_cons_self hz.zc hf) (by rfl) T.n_isinstance OT.b_isinstance (pa_cons (pv 2) (pa_cons (pe_glob (v := .ref Z) (by rfl) gZ rfl) pa_nil)))) (pw_or1 (pt_val (pe_callB (show CallR _ _ (rIsX K a cls d) from call_isA List.mem_cons_self hz.zc hf) (by rfl) T.n_isinstance OT.b_isinstance (pa_cons (pv 2) (pa_cons (pe_glob (v := .ref M) (by rfl) gM rfl) pa_nil)))))))) (pss_one (ps_ret pe_bl)) pss_nil)   (pss_one (ps_ret (pe_and (by exact HP.pe_chs h__law_is_integer hr (by decide) hz hf (by rfl) (pa_cons (show PE _ _ (tFA K a cls d _ _) from pe_fA List.mem_cons_self hz.zc hf (pv 2)) pa_nil)) (pe_and (by exact (pe_cmpR op_eq (show PE _ _ (tFA K a cls d _ _) from pe_fA List.mem_cons_self hz.zc hf (pv 2)) (pe_callB (show CallR _ _ (Evl.rLenS K) from call_len_seq) (by rfl) T.n_len OT.b_len (pa_cons (pe_ix (show IxR _ (rIxT K) from ix_tup) (pe_ix (show IxR _ (rIxL K) from ix_list) (pv 0) pe_int (fun _ _ => rfl)) pe_int (fun _ _ => rfl)) pa_nil)) (nomark _))) (pe_one (by exact (pe_cmpR (show OpR _ _ (rEqD K) from op_eqD hr.units) (pv 1) (pv 0) (nomark _))))))))))))
  (pss_one (ps_ret pe_bl)))), ?_⟩
    have ha := hW.a
    have hE := hW.e
    have hdm := dimE_eq hW.d hW.nn
    have n2 := hW.n2
    have n3 := hW.n3
    have hz := hW.z
    walk_at "st"
    intro l1 nl1; generalize eH1 : upd _ l1 _ = H1; have s1 := AU.newS nl1 eH1; have hl1 := AU.newH eH1; clear eH1
    walk_at "st"
    refine ⟨l1, xs, es, rfl, hl1, hE.mono s1, hW.v, by omega, fun e he => by rw [hW.d e he]; omega, by omega, fun h d H2 s2 hdd => ?_, fun h => absurd h (by omega), fun h => absurd h (by omega)⟩
    refine AU.wAs_ xO.x fun ea nea => ?_
    have hh : HeldF K H2 O d (.ref O) (some d) (errO (dimE es)) := ⟨rfl, rfl, xO.t.oc, hdd⟩
    have lw : (errO (dimE es)).lookup ("word" : Str) = some (V.str "OneDirectionOnly") := rfl
    have lp : (errO (dimE es)).lookup ("dimension" : Str) = some (V.int (dimE es : Nat)) := rfl
    have k1 := xO.s
    have k2 := xO.o
    have k3 := xO.z
    have k4 := xO.m
    have s02 := s1.trans s2
    obtain ⟨e0, r0, hes⟩ : ∃ e0 r0, es = e0 :: r0 := by
      cases hc : es with
      | nil => exact absurd hc hW.nn
      | cons e r => exact ⟨e, r, rfl⟩
    subst hes
    have hE2 := hE.mono s02
    have ha2 := s02 _ _ ha
    have hl2 := s2 _ _ hl1
    obtain ⟨v0, xs0, rfl⟩ : ∃ v0 xs0, xs = v0 :: xs0 := by cases hE2; exact ⟨_, _, rfl⟩
    obtain ⟨t0, p0, rfl, ht0, hp0⟩ : EntAt H2 v0 e0 := by cases hE2; assumption
    have at0 : atI (V.ref t0 :: xs0) 0 = some (.ref t0) := AU.atN (j := 0) rfl rfl
    have at1 : atI [V.ref p0, V.int e0.2] 0 = some (.ref p0) := AU.atN (j := 0) rfl rfl
    clear s02
    walk_at "st"
    refine ⟨O, d, _, _, rfl, hh, xO.t.nw, lw, xO.b, xO.v, ?_⟩
    walk_at "st"
    refine fB_ (by walk_at "hh") hnd lp ?_
    walk_at "st"
    refine ⟨_, rfl, ?_⟩
    walk_at "st"
    refine fB_ (by walk_at "hh") hnd lp ?_
    walk_at "st"
    have dq : (((dimE (e0 :: r0) : Nat) : Int) = ((e0.1.map V.int).length : Int)) := by
      rw [List.length_map]
      rfl
    rw [decide_eq_true dq]
    walk_at "st"
    refine eqRow_ hl2 hE2 ha2 hE2 ?_
    walk_at "st"
    exact q _ (s1.trans s2)
end
end OT

set_option Elab.async false
set_option linter.all false
set_option maxRecDepth 100000
set_option maxHeartbeats 4000000
namespace OT
open PySem PySem.Spec PyProof.Rows L2
/-! products, sums and values of the folded rows -/
/-- the sum of s_i (x + 1/x)^(n + i) t -/
def PL : Nat → List Int → List Int → Int → Int
  | _, [], _, _ => 0
  | n, x :: s, t, q => x * FO.U n t q + PL (n + 1) s t q
theorem PL_nil : ∀ (n : Nat) (s : List Int) (q : Int), PL n s [] q = 0
  | n, [], q => rfl
  | n, x :: s, q => by
    show x * 0 + PL (n + 1) s [] q = 0
    rw [PL_nil, Int.mul_zero]
    rfl
theorem PL_cons (y : Int) (t : List Int) (q : Int) : ∀ (n : Nat) (s : List Int), PL n s (y :: t) q = y * FO.U n s q + PL (n + 1) s t q
  | n, [] => by
    show 0 = y * 0 + 0
    rw [Int.mul_zero]
    rfl
  | n, x :: s => by
    show x * (y * FO.B n q + FO.U (n + 1) t q) + PL (n + 1) s (y :: t) q = y * (x * FO.B n q + FO.U (n + 1) s q) + (x * FO.U (n + 1) t q + PL (n + 1 + 1) s t q)
    rw [PL_cons y t q (n + 1) s, Int.mul_add, Int.mul_add, Int.mul_left_comm x y]
    omega
theorem PL_snoc (x : Int) (t : List Int) (q : Int) : ∀ (n : Nat) (s : List Int), PL n (s ++ [x]) t q = PL n s t q + x * FO.U (n + s.length) t q
  | n, [] => by
    show x * FO.U n t q + 0 = 0 + x * FO.U (n + 0) t q
    rw [Nat.add_zero]
    omega
  | n, y :: s => by
    show y * FO.U n t q + PL (n + 1) (s ++ [x]) t q = y * FO.U n t q + PL (n + 1) s t q + x * FO.U (n + (s.length + 1)) t q
    rw [PL_snoc x t q (n + 1) s, show n + 1 + s.length = n + (s.length + 1) by omega]
    omega
def cnv (es : List Ent) (g : Int → Int) (q : Int) : Int := sumW (fun k => g (q - k.headD 0)) es
theorem cnv_cons (e : Ent) (es : List Ent) (g : Int → Int) (q : Int) : cnv (e :: es) g q = e.2 * g (q - e.1.headD 0) + cnv es g q := rfl
theorem cnv_add (g h : Int → Int) (q : Int) : ∀ es : List Ent, cnv es (fun z => g z + h z) q = cnv es g q + cnv es h q
  | [] => rfl
  | e :: es => by
    rw [cnv_cons, cnv_cons, cnv_cons, cnv_add g h q es, Int.mul_add]
    omega
theorem cnv_mul (c : Int) (g : Int → Int) (q : Int) : ∀ es : List Ent, cnv es (fun z => c * g z) q = c * cnv es g q
  | [] => (Int.mul_zero c).symm
  | e :: es => by
    rw [cnv_cons, cnv_cons, cnv_mul c g q es, Int.mul_add, Int.mul_left_comm]
theorem cnv_zero (q : Int) : ∀ es : List Ent, cnv es (fun _ => 0) q = 0
  | [] => rfl
  | e :: es => by
    rw [cnv_cons, cnv_zero q es, Int.mul_zero]
    rfl
theorem cnv_shift (k : Int) (g : Int → Int) (q : Int) : ∀ es : List Ent, cnv es (fun z => g (z + k)) q = cnv es g (q + k)
  | [] => rfl
  | e :: es => by
    rw [cnv_cons, cnv_cons, cnv_shift k g q es, show q - e.1.headD 0 + k = q + k - e.1.headD 0 by omega]
theorem cnv_at {es : List Ent} (h : ∀ e ∈ es, e.1.length = 1) (q : Int) : cnv es (FO.B 0) q = numAt es [q] := by
  induction es with
  | nil => rfl
  | cons e es ih =>
    rw [cnv_cons, ih fun x hx => h x (List.mem_cons_of_mem _ hx)]
    obtain ⟨x, hx⟩ := FO.pl_one (h e List.mem_cons_self)
    show e.2 * (if q - e.1.headD 0 = 0 then 1 else 0) + _ = (if e.1 = [q] then e.2 else 0) + _
    rw [hx]
    show e.2 * (if q - x = 0 then 1 else 0) + _ = _
    by_cases c : q - x = 0
    · rw [if_pos c, if_pos (by congr 1; omega), Int.mul_one]
    · rw [if_neg c, if_neg (fun z => c (by have := (List.cons.inj z).1; omega)), Int.mul_zero]
theorem row_cnv {e : Ent} {x : Int} (hx : e.1 = [x]) (q : Int) : ∀ {fs : List Ent}, (∀ g ∈ fs, g.1.length = 1) → numAt (rowT e fs) [q] = e.2 * numAt fs [q - x]
  | [], _ => (Int.mul_zero _).symm
  | g :: fs, h => by
    have ih := row_cnv hx q (fs := fs) fun y hy => h y (List.mem_cons_of_mem _ hy)
    obtain ⟨y, hy⟩ := FO.pl_one (h g List.mem_cons_self)
    show (if plusP e.1 g.1 = [q] then e.2 * g.2 else 0) + numAt (rowT e fs) [q] = e.2 * ((if g.1 = [q - x] then g.2 else 0) + numAt fs [q - x])
    rw [ih, Int.mul_add, hx, hy]
    show (if [x + y] = [q] then e.2 * g.2 else 0) + _ = _
    by_cases c : x + y = q
    · rw [if_pos (by rw [c]), if_pos (by congr 1; omega)]
    · rw [if_neg (fun z => c (List.cons.inj z).1), if_neg (fun z => c (by have := (List.cons.inj z).1; omega)), Int.mul_zero]
theorem times_cnv {fs : List Ent} (hf : ∀ g ∈ fs, g.1.length = 1) (q : Int) : ∀ {es : List Ent}, (∀ e ∈ es, e.1.length = 1) → numAt (timesL es fs) [q] = cnv es (fun z => numAt fs [z]) q
  | [], _ => rfl
  | e :: es, h => by
    have ih := times_cnv hf q (es := es) fun y hy => h y (List.mem_cons_of_mem _ hy)
    obtain ⟨x, hx⟩ := FO.pl_one (h e List.mem_cons_self)
    show numAt (rowT e fs ++ timesL es fs) [q] = _
    rw [numAt_app, ih, row_cnv hx q hf, cnv_cons, hx]
    rfl
theorem cnv_B {r : List Ent} {s : List Int} (h : FO.IsU r s) : ∀ (n : Nat) (q : Int), cnv r (FO.B n) q = FO.U n s q
  | 0, q => (cnv_at h.d q).trans (h.u q)
  | n + 1, q => by
    have e : FO.B (n + 1) = fun z => FO.B n (z + -1) + FO.B n (z + 1) := rfl
    rw [e, cnv_add, cnv_shift, cnv_shift, cnv_B h n, cnv_B h n, FO.U_succ]
    rfl
theorem cnv_U {r : List Ent} {s : List Int} (h : FO.IsU r s) (q : Int) : ∀ (t : List Int) (n : Nat), cnv r (FO.U n t) q = PL n s t q
  | [], n => by
    have e : FO.U n [] = fun _ => 0 := rfl
    rw [e, cnv_zero, PL_nil]
  | y :: t, n => by
    have e : FO.U n (y :: t) = fun z => y * FO.B n z + FO.U (n + 1) t z := rfl
    have e2 : cnv r (fun z => y * FO.B n z) q = y * cnv r (FO.B n) q := cnv_mul y (FO.B n) q r
    rw [e, cnv_add, e2, cnv_B h, cnv_U h q t (n + 1), PL_cons]
theorem times_dim1 {es fs : List Ent} (h : ∀ e ∈ es, e.1.length = 1) (k : ∀ e ∈ fs, e.1.length = 1) {x : Ent} (hx : x ∈ timesL es fs) : x.1.length = 1 := by
  obtain ⟨e, he, g, hg, rfl⟩ := timesL_mem hx
  show (plusP e.1 g.1).length = 1
  rw [plusP_len (by rw [h e he, k g hg]; exact Nat.le_refl _), h e he]
/-- the row of a product -/
theorem IsU_mul {r r2 p : List Ent} {s t m : List Int} (h : FO.IsU r s) (k : FO.IsU r2 t) (hp : RowIs p (timesL r r2)) (hm : ∀ q, FO.U 0 m q = PL 0 s t q) : FO.IsU p m := by
  refine ⟨hp.v, dim_of hp fun e he => times_dim1 h.d k.d he, fun q => ?_⟩
  have e : (fun z => numAt r2 [z]) = FO.U 0 t := funext k.u
  rw [hp.s, times_cnv k.d q h.d, e, cnv_U h, hm]
theorem IsU_sum {r r2 p : List Ent} {s t m : List Int} (h : FO.IsU r s) (k : FO.IsU r2 t) (hp : RowIs p (r ++ r2)) (hm : ∀ q, FO.U 0 m q = FO.U 0 s q + FO.U 0 t q) : FO.IsU p m := by
  refine ⟨hp.v, dim_of hp fun e he => ?_, fun q => ?_⟩
  · rcases List.mem_append.mp he with he | he
    · exact h.d e he
    · exact k.d e he
  · rw [hp.s, numAt_app, h.u, k.u, hm]
/-- one entry of a list -/
theorem U_set (z q : Int) : ∀ (n : Nat) (l : List Int) (j : Nat), j < l.length → FO.U n (l.set j (l.getD j 0 + z)) q = FO.U n l q + z * FO.B (n + j) q
  | n, [], j, h => absurd h (Nat.not_lt_zero _)
  | n, x :: l, 0, _ => by
    show (x + z) * FO.B n q + FO.U (n + 1) l q = x * FO.B n q + FO.U (n + 1) l q + z * FO.B (n + 0) q
    rw [Int.add_mul, show n + 0 = n from rfl]
    omega
  | n, x :: l, j + 1, h => by
    show x * FO.B n q + FO.U (n + 1) (l.set j (l.getD j 0 + z)) q = x * FO.B n q + FO.U (n + 1) l q + z * FO.B (n + (j + 1)) q
    rw [U_set z q (n + 1) l j (Nat.lt_of_succ_lt_succ h), show n + 1 + j = n + (j + 1) by omega]
    omega
theorem U_snocN (x q : Int) : ∀ (n : Nat) (l : List Int), FO.U n (l ++ [x]) q = FO.U n l q + x * FO.B (n + l.length) q := fun n l => by
  rw [FO.U_app]
  show _ + (x * FO.B (n + l.length) q + 0) = _
  omega
/-- the last place of a folded row -/
theorem IsU_last {r : List Ent} {s : List Int} (h : FO.IsU r s) (hs : lastN s = s.length) (hr : r ≠ []) : ∃ us e, r = us ++ [e] ∧ e.1 = [(s.length : Int) - 1] := by
  induction s using snoc_ind with
  | h0 =>
    cases r with
    | nil => exact absurd rfl hr
    | cons e l =>
      obtain ⟨_, _, hl⟩ := IsU_co h (e := e) List.mem_cons_self
      exact absurd hl (Nat.not_lt_zero _)
  | h1 l x _ =>
    have hx : x ≠ 0 := fun z => by
      rw [lastN_snoc, if_pos z, List.length_append] at hs
      have := lastN_le l
      have : [x].length = 1 := rfl
      omega
    have hU : numAt r [(l.length : Int)] = x := by
      rw [h.u, FO.U_app, FO.U_out (t := l) (by omega), Nat.zero_add]
      show 0 + (x * FO.B l.length l.length + 0) = x
      rw [FO.B_top]
      omega
    obtain ⟨e, he, hq⟩ : ∃ e ∈ r, e.1 = [(l.length : Int)] := Classical.byContradiction fun z => hx (by
      rw [← hU]
      exact numAt_out fun e he k => z ⟨e, he, k⟩)
    obtain ⟨us, g, rfl⟩ : ∃ us g, r = us ++ [g] := ⟨r.dropLast, r.getLast hr, (List.dropLast_concat_getLast hr).symm⟩
    refine ⟨us, g, rfl, ?_⟩
    obtain ⟨q, hgq, hlt⟩ := IsU_co h (e := g) (List.mem_append_right _ List.mem_cons_self)
    rw [List.length_append] at hlt ⊢
    have l1 : [x].length = 1 := rfl
    have hge : (l.length : Int) ≤ q := by
      rcases List.mem_append.mp he with he | he
      · have z := (List.pairwise_append.mp h.v.asc).2.2 e he g List.mem_cons_self
        rw [hq, hgq] at z
        have := FO.lex_one.mp z
        omega
      · rw [List.mem_singleton.mp he, hgq] at hq
        have := (List.cons.inj hq).1
        omega
    rw [hgq]
    congr 1
    omega
theorem norm_last {l : List Int} {x : Int} (h : x ≠ 0) : lastN (l ++ [x]) = (l ++ [x]).length := by
  rw [lastN_snoc, if_neg h, List.length_append]
  rfl
/-- two lists without zeros at the end that fold one row -/
theorem IsU_norm {r : List Ent} {s t : List Int} (h : FO.IsU r s) (k : FO.IsU r t) (hs : lastN s = s.length) (ht : lastN t = t.length) : s = t :=
  FO.U_uniq (by rw [← IsU_top h hs, ← IsU_top k ht]) fun q => by rw [← h.u, ← k.u]
/-- values -/
def alt (c : Int) (k : Pl) : Int := if c = -1 ∧ k.headD 0 % 2 = 1 then -1 else 1
theorem alt_one (x : Int) : alt 1 [x] = 1 := if_neg fun h => absurd h.1 (by decide)
theorem alt_odd {x : Int} (h : x % 2 = 1) : alt (-1) [x] = -1 := if_pos ⟨rfl, h⟩
theorem alt_even {x : Int} (h : ¬ x % 2 = 1) : alt (-1) [x] = 1 := if_neg fun z => h z.2
theorem alt_step {c : Int} (hc : c = 1 ∨ c = -1) (x : Int) : alt c [x + -1] = c * alt c [x] ∧ alt c [x + 1] = c * alt c [x] := by
  rcases hc with rfl | rfl
  · rw [alt_one, alt_one, alt_one]
    exact ⟨rfl, rfl⟩
  · by_cases p : x % 2 = 1
    · rw [alt_odd p, alt_even (by omega), alt_even (by omega)]
      exact ⟨rfl, rfl⟩
    · rw [alt_even p, alt_odd (by omega), alt_odd (by omega)]
      exact ⟨rfl, rfl⟩
def TR : List Int → List Ent
  | [] => []
  | x :: t => timesL (TR t) xx ++ [([0], x)]
theorem TR_dim : ∀ t : List Int, ∀ e ∈ TR t, e.1.length = 1
  | [], e, h => by cases h
  | x :: t, e, h => by
    rcases List.mem_append.mp h with h | h
    · exact timesxx_dim (TR_dim t) h
    · rw [List.mem_singleton.mp h]
      rfl
theorem TR_u : ∀ (t : List Int) (q : Int), numAt (TR t) [q] = FO.U 0 t q
  | [], q => rfl
  | x :: t, q => by
    show numAt (timesL (TR t) xx ++ [([0], x)]) [q] = x * (if q = 0 then 1 else 0) + FO.U 1 t q
    rw [numAt_app, times_xx (TR_dim t), TR_u, TR_u, FO.U_succ]
    show _ + ((if [0] = [q] then x else 0) + 0) = _
    by_cases c : q = 0
    · subst c
      rw [if_pos rfl, if_pos rfl]
      omega
    · rw [if_neg c, if_neg (fun z => c (List.cons.inj z).1.symm)]
      omega
theorem alt_times {c : Int} (hc : c = 1 ∨ c = -1) : ∀ {es : List Ent}, (∀ e ∈ es, e.1.length = 1) → sumW (alt c) (timesL es xx) = sumW (alt c) es * (2 * c)
  | [], _ => (Int.zero_mul _).symm
  | e :: es, h => by
    have ih := alt_times hc (es := es) fun y hy => h y (List.mem_cons_of_mem _ hy)
    obtain ⟨x, hx⟩ := FO.pl_one (h e List.mem_cons_self)
    obtain ⟨a1, a2⟩ := alt_step hc x
    show sumW (alt c) (rowT e xx ++ timesL es xx) = (e.2 * alt c e.1 + sumW (alt c) es) * (2 * c)
    rw [sumW_app, ih]
    show (e.2 * 1) * alt c (plusP e.1 [-1]) + ((e.2 * 1) * alt c (plusP e.1 [1]) + 0) + _ = _
    rw [hx]
    show (e.2 * 1) * alt c [x + -1] + ((e.2 * 1) * alt c [x + 1] + 0) + _ = _
    rw [a1, a2, Int.mul_one, Int.add_mul, Int.mul_assoc e.2 (alt c [x]), Int.mul_comm (alt c [x]) (2 * c), Int.mul_assoc 2 c]
    have : e.2 * (2 * (c * alt c [x])) = e.2 * (c * alt c [x]) + e.2 * (c * alt c [x]) := by
      rw [show 2 * (c * alt c [x]) = c * alt c [x] + c * alt c [x] by omega, Int.mul_add]
    omega
theorem TR_val {c : Int} (hc : c = 1 ∨ c = -1) : ∀ t : List Int, sumW (alt c) (TR t) = valL (2 * c) t
  | [] => rfl
  | x :: t => by
    show sumW (alt c) (timesL (TR t) xx ++ [([0], x)]) = valL (2 * c) t * (2 * c) + x
    rw [sumW_app, alt_times hc (TR_dim t), TR_val hc t]
    have : alt c [0] = 1 := by
      rcases hc with rfl | rfl
      · exact alt_one 0
      · exact alt_even (by decide)
    show _ + (x * alt c [0] + 0) = _
    rw [this]
    omega
theorem IsU_total {r : List Ent} {t : List Int} (h : FO.IsU r t) {c : Int} (hc : c = 1 ∨ c = -1) : sumW (alt c) r = valL (2 * c) t := by
  rw [← TR_val hc]
  refine sumW_eq _ fun p => ?_
  by_cases z : p.length = 1
  · obtain ⟨q, rfl⟩ := FO.pl_one z
    rw [h.u, TR_u]
  · rw [FO.num_dim h.d z, FO.num_dim (TR_dim t) z]
/-- bounds -/
theorem B_abs : ∀ (n : Nat) (q : Int), (FO.B n q).natAbs ≤ 2 ^ n
  | 0, q => by
    show (if q = 0 then (1 : Int) else 0).natAbs ≤ 1
    by_cases c : q = 0
    · rw [if_pos c]; decide
    · rw [if_neg c]; decide
  | n + 1, q => by
    have h1 := B_abs n (q - 1)
    have h2 := B_abs n (q + 1)
    show (FO.B n (q - 1) + FO.B n (q + 1)).natAbs ≤ 2 ^ (n + 1)
    rw [Nat.pow_succ]
    omega
theorem U_abs {M : Nat} (q : Int) : ∀ (t : List Int) (n : Nat), (∀ z ∈ t, z.natAbs ≤ M) → (FO.U n t q).natAbs + M * 2 ^ n ≤ M * 2 ^ (n + t.length)
  | [], n, _ => by
    show 0 + M * 2 ^ n ≤ M * 2 ^ (n + 0)
    rw [Nat.zero_add]
    exact Nat.le_refl _
  | x :: t, n, h => by
    have h1 := U_abs (M := M) q t (n + 1) fun z hz => h z (List.mem_cons_of_mem _ hz)
    have h2 := Nat.mul_le_mul (h x List.mem_cons_self) (B_abs n q)
    rw [← Int.natAbs_mul] at h2
    show (x * FO.B n q + FO.U (n + 1) t q).natAbs + M * 2 ^ n ≤ M * 2 ^ (n + (t.length + 1))
    have e1 : n + 1 + t.length = n + (t.length + 1) := by omega
    rw [e1, Nat.pow_succ, ← Nat.mul_assoc] at h1
    have h3 := Int.natAbs_add_le (x * FO.B n q) (FO.U (n + 1) t q)
    omega
theorem valL_abs {x : Int} {M : Nat} (hx : x.natAbs ≤ 9) : ∀ l : List Int, (∀ z ∈ l, z.natAbs ≤ M) → (valL x l).natAbs + M ≤ M * 10 ^ l.length + M
  | [], _ => by
    show 0 + M ≤ _
    omega
  | n :: l, h => by
    have h1 := valL_abs hx l fun z hz => h z (List.mem_cons_of_mem _ hz)
    have h2 := h n List.mem_cons_self
    have h3 := Int.natAbs_add_le (valL x l * x) n
    have h4 := Nat.mul_le_mul_left (valL x l).natAbs hx
    rw [← Int.natAbs_mul] at h4
    have h5 : M * 10 ^ (l.length + 1) = M * 10 ^ l.length * 10 := by rw [Nat.pow_succ, Nat.mul_assoc]
    have h6 : 0 < 10 ^ l.length := Nat.pow_pos (by decide)
    have h7 : M ≤ M * 10 ^ l.length := Nat.le_mul_of_pos_right _ h6
    show (valL x l * x + n).natAbs + M ≤ M * 10 ^ (l.length + 1) + M
    omega
end OT

set_option Elab.async false
set_option linter.all false
set_option maxRecDepth 100000
set_option maxHeartbeats 4000000
namespace OT
open PySem PySem.Spec PyProof.Rows L2
local macro_rules | `(tactic| walk_at "sm") => `(tactic| first | assumption | ((with_reducible show Same _ (upd _ _ _)); (refine' AU.mutS ?s ?h; (case h => assumption); (case s => walk_at "sm"))) | fail)
local macro_rules | `(tactic| walk_at "le") => `(tactic| first | (refine Nat.le_of_lt (AU.line ?_); (try simp only [List.length_append, List.length_map, List.length_cons, List.length_nil, List.length_take, List.length_replicate]); omega) | fail)
local macro_rules | `(tactic| walk_at "ll") => `(tactic| first | (show 0 < sizeLine; decide) | (show 1 < sizeLine; decide) | (show 2 < sizeLine; decide) | (show 3 < sizeLine; decide) | (refine AU.line ?_; (try simp only [List.length_append, List.length_map, List.length_cons, List.length_nil, List.length_take, List.length_replicate]); omega) | fail)
local macro_rules | `(tactic| walk_at "hl") => `(tactic| first | assumption | exact upd_same | (refine' AU.climb ?s ?h; (case s => walk_at "sm"); (case h => walk_at "hl")) | fail)
local macro_rules | `(tactic| walk_at "sl") => `(tactic| first | assumption | (refine' AU.sqL ?h; (case h => walk_at "hl")) | (refine' AU.sqLS ?s ?h; (case s => walk_at "sm"); (case h => walk_at "sl")) | fail)
local macro_rules | `(tactic| walk_at "tl") => `(tactic| first | assumption | (refine' AU.sqT ?h; (case h => walk_at "hl")) | (refine' AU.sqTS ?s ?h; (case s => walk_at "sm"); (case h => walk_at "tl")) | fail)
local macro_rules | `(tactic| walk_at "sz") => `(tactic| first | (show 0 ≤ sizeLine; decide) | (show 1 ≤ sizeLine; decide) | (show 2 ≤ sizeLine; decide) | (show 3 ≤ sizeLine; decide) | (show 4 ≤ sizeLine; decide) | (show 5 ≤ sizeLine; decide) | (show 6 ≤ sizeLine; decide) | (show 7 ≤ sizeLine; decide) | (show 8 ≤ sizeLine; decide) | (show 9 ≤ sizeLine; decide) | (show 10 ≤ sizeLine; decide) | fail)
local macro_rules | `(tactic| walk_at "ci") => `(tactic| first | exact trivial | omega | (show (0 : Int) < _; omega) | (show CMul _ _; exact .inl ⟨by omega, by omega⟩) | (show CMul _ _; exact .inr ⟨by omega, by omega⟩) | (show CMul _ _; exact .inr (AU.b01 _)) | (show CMul _ _; exact .inl (AU.b01 _)) | (show CDiv _ _; exact ⟨by omega, by omega⟩) | (show _ ≠ (0 : Int); omega) | (show CDiv _ _; exact ⟨by decide, by decide⟩) | fail)
local macro_rules | `(tactic| walk_at "hh") => `(tactic| first | assumption | (refine' OT.HeldF.mono ?s ?h; (case s => walk_at "sm"); (case h => walk_at "hh")) | fail)
local macro_rules | `(tactic| walk_at "tyx") => `(tactic| first | exact .base (.int _) | exact .base (.bl _) | exact .base (.str _) | exact .base (.lst (by walk_at "hl")) | exact .base (.tup (by walk_at "hl")) | fail)
local macro_rules | `(tactic| walk_at "st1") => `(tactic| first | ((with_reducible show tSeq _ _ _ _ _); (try simp only [List.set_cons_zero, List.set_cons_succ]); refine AU.seq_ ?_) | ((with_reducible show tAsg _ _ _ _ _); refine AU.asg_ ?_) | ((with_reducible show gName _ _ _ _ _); refine AU.name_ ?_) | ((with_reducible show tDrop _ _ _ _); refine AU.drop_ ?_) | ((with_reducible show tRet _ _ _ _); refine AU.ret_ ?_) | ((with_reducible show tRetN _ _ _); refine AU.retN_ ?_) | ((with_reducible show tNext _ _ _); refine AU.next_ ?_) | ((with_reducible show tBreak _ _ _); refine AU.brk_ ?_) | ((with_reducible show tCont _ _ _); refine AU.cont_ ?_) | ((with_reducible show tIfS _ _ _ _ _ _); refine AU.ifs_ ?_) | ((with_reducible show tAug _ _ _ _ _ _); refine AU.aug_ rfl ?_) | ((with_reducible show Ends.nx (Ends.mk _ _ _ _) _ _); refine AU.nxm ?_) | ((with_reducible show Ends.rt (Ends.mk _ _ _ _) _ _); refine AU.rtm ?_) | ((with_reducible show Ends.bk (Ends.mk _ _ _ _) _ _); refine AU.bkm ?_) | ((with_reducible show Ends.ct (Ends.mk _ _ _ _) _ _); refine AU.ctm ?_) | ((with_reducible show tVar _ _ _ _); refine AU.var_ rfl ?_) | ((with_reducible show tC _ _ _ _); refine AU.c_ ?_) | ((with_reducible show tOp _ _ _ _ _ _); refine AU.op_ ?_) | ((with_reducible show tUn _ _ _ _ _); refine AU.un_ ?_) | ((with_reducible show rU _ _ _ _); refine AU.u_ ?_) | ((with_reducible show rI0 _ _ _ _ _); refine AU.i0_ ?_) | ((with_reducible show rI _ _ _ _ _ _); refine AU.i_ (by walk_at "ci") ?_) | ((with_reducible show rEq (V.int _) (V.int _) _ _); first | (with_reducible refine AU.eqr_ ?_) | refine AU.eqi_ ?_) | ((with_reducible show rEq (V.str _) (V.str _) _ _); (with_reducible refine AU.eqs_ ?_)) | ((with_reducible show rNe (V.int _) (V.int _) _ _); refine AU.nei_ ?_) | ((with_reducible show rEq _ _ _ _); refine AU.eq_ rfl ?_) | ((with_reducible show rNe _ _ _ _); refine AU.ne_ rfl ?_) | ((with_reducible show tTest _ _ _ _); refine AU.test_ ?_) | ((with_reducible show tB _ _ _ _); refine AU.b_ ?_) | ((with_reducible show tAnd _ _ _ _ _); refine AU.and_ ?_) | ((with_reducible show tOr _ _ _ _ _); refine AU.or_ ?_) | ((with_reducible show tNot _ _ _ _); refine AU.not_ ?_) | ((with_reducible show tAndV _ _ _ _ _); refine AU.andV_ ?_) | ((with_reducible show tOrV _ _ _ _ _); refine AU.orV_ ?_) | ((with_reducible show tNotV _ _ _ _); refine AU.notV_ ?_) | ((with_reducible show tIf _ _ _ _ _ _); refine AU.if_ ?_) | ((with_reducible show tNil _ _ _); refine AU.nil_ ?_) | ((with_reducible show tCons _ _ _ _ _); refine AU.cons_ ?_) | ((with_reducible show tLst _ _ _ _); refine AU.lst_ ?_) | ((with_reducible show tTup _ _ _ _); refine AU.tup_ ?_) | ((with_reducible show tCall _ _ _ _ _ _ _); refine AU.call_ ?_) | ((with_reducible show tCallS _ _ _ _ _ _); refine AU.callS_ ?_) | ((with_reducible show tCB _ _ _ _ _); refine AU.cb_ ?_) | ((with_reducible show tBM _ _ _ _ _ _ _ _); refine AU.bm_ ?_) | ((with_reducible show rIxL _ _ _ _ _); refine AU.ixL_ (by walk_at "sl") (by first | assumption | rfl) ?_) | ((with_reducible show rIxT _ _ _ _ _); refine AU.ixT_ (by walk_at "tl") (by first | assumption | rfl) ?_) | ((with_reducible show Evl.rLenS _ _ _ _); first | refine AU.lenL_ (by walk_at "sl") ?_ | refine AU.lenT_ (by walk_at "tl") ?_) | ((with_reducible show rAppend (V.ref _) [_] _ _); refine AU.app_ (by walk_at "hl") (by walk_at "ll") ?_) | ((with_reducible show tyV _ _ (V.ref _) _ ∧ _); refine AU.tyl_ (by walk_at "sl") ?_) | ((with_reducible show rCat (V.ref _) (V.ref _) _ _); refine AU.cat_ (by walk_at "hl") (by walk_at "hl") (by walk_at "le") ?_) | ((with_reducible show tFor _ _ _ _ _ _); refine AU.for_ ?_) | ((with_reducible show tLc _ _ _ _ _ _ _ _); refine AU.lc_ ?_) | ((with_reducible show iRng1 _ _ _ _); refine AU.rng1_ ?_) | ((with_reducible show iList _ _ _ _ _); refine AU.list_ ?_) | ((with_reducible show iTup _ _ _ _ _); refine AU.itup_ ?_) | ((with_reducible show (∃ i, [V.bl _] = [V.int i] ∧ _) ∨ _); refine AU.intb_ ?_) | ((with_reducible show (∃ i, [V.int _] = [V.int i] ∧ _) ∨ _); refine AU.inti_ ?_) | ((with_reducible show tYes _ _ _); refine AU.yes_ ?_) | ((with_reducible show ∃ p ys, [V.ref _] = [V.ref p] ∧ (SqL _ _ p ys ∨ SqT _ _ p ys) ∧ _); first | refine AU.listof_ (by walk_at "sl") ?_ | refine AU.listofT_ (by walk_at "tl") ?_) | ((with_reducible show ∃ p ys, [V.ref _] = [V.ref p] ∧ ((SqL _ _ p ys ∧ _) ∨ (SqT _ _ p ys ∧ _))); first | refine AU.tupleof_ (by walk_at "sl") ?_ | refine AU.tupleofT_ (by walk_at "tl") ?_) | ((with_reducible show V.non = V.non ∧ _); refine ⟨rfl, ?_⟩) | ((with_reducible show OT.rIsX _ _ _ _ [V.ref _, _] _ _); refine OT.isX_ (by walk_at "hh") (by first | exact .own _ | exact .ty _) (by assumption) ?_) | ((with_reducible show OT.tFA _ _ _ _ _ _ _ _ _); refine OT.fA_ ?_) | ((with_reducible show OT.tCallE _ _ _ _ _ _ _ _); refine OT.callE_ ?_) | ((with_reducible show rIsi _ [_, _] _ _); refine OT.isi_ (by first | exact .own _ | exact .ty _) (by walk_at "tyx") (by first | assumption | exact kit_ty OT.kq_int_int | exact kit_ty OT.kq_int_bool | exact kit_ty OT.kq_bool_bool | exact kit_ty OT.kq_bool_int | exact kit_ty OT.kq_str_str | exact kit_ty OT.kq_tuple_tuple | exact kit_ty OT.kq_list_list | exact kit_ty OT.kq_list_tuple | exact kit_ty OT.kq_tuple_list | exact kit_ty OT.kq_list_int | exact kit_ty OT.kq_tuple_int | exact kit_ty OT.kq_list_bool | exact kit_ty OT.kq_tuple_bool | exact kit_ty OT.kq_str_int | exact kit_ty OT.kq_int_str | exact kit_ty OT.kq_int_list | exact kit_ty OT.kq_int_tuple | exact kit_ty OT.kq_bool_list | exact kit_ty OT.kq_bool_tuple) ?_) | ((with_reducible show ∃ k, V.bl _ = V.bl k ∧ _); refine AU.bool_ ?_) | ((with_reducible show tSl _ _ _ _ _ _ _); refine AU.sl_ ?_) | ((with_reducible show tNoPart _ _ _); refine AU.npart_ ?_) | ((with_reducible show tPart _ _ _ _); refine AU.part_ ?_) | ((with_reducible show ∃ k, V.int _ = V.int k ∧ rSlL _ _ _ (some k) _ _); refine AU.int1_ ?_) | ((with_reducible show rSlL _ (V.ref _) _ _ _ _); refine AU.slL_ (by walk_at "sl") ?_) | ((with_reducible refine AU.trueT ?_)) | ((with_reducible refine AU.refNon ?_)) | ((with_reducible refine AU.nonNon ?_)) | ((with_reducible refine AU.trueN ?_)) | ((with_reducible refine AU.falseN ?_)) | ((with_reducible refine AU.falseF ?_)) | fail)
local macro_rules | `(tactic| walk_at "st") => `(tactic| repeat walk_at "st1")
theorem PL_out : ∀ (n : Nat) (s t : List Int) (q : Int), ((n + s.length + t.length : Nat) : Int) ≤ q + 1 → PL n s t q = 0
  | n, [], t, q, _ => rfl
  | n, x :: s, t, q, h => by
    rw [List.length_cons] at h
    show x * FO.U n t q + PL (n + 1) s t q = 0
    rw [FO.U_out (by omega), PL_out (n + 1) s t q (by omega), Int.mul_zero]
    rfl
theorem norm_snoc {s : List Int} (h : lastN s = s.length) (hs : s ≠ []) : ∃ u x, s = u ++ [x] ∧ x ≠ 0 := by
  obtain ⟨u, x, rfl⟩ : ∃ us g, s = us ++ [g] := ⟨s.dropLast, s.getLast hs, (List.dropLast_concat_getLast hs).symm⟩
  refine ⟨u, x, rfl, fun z => ?_⟩
  rw [lastN_snoc, if_pos z, List.length_append, List.length_singleton] at h
  have := lastN_le u
  omega
theorem prod_norm {s t m : List Int} (hs : lastN s = s.length) (ht : lastN t = t.length) (ns : s ≠ []) (nt : t ≠ []) (hl : m.length = s.length + t.length - 1) (hm : ∀ q, FO.U 0 m q = PL 0 s t q) : lastN m = m.length := by
  obtain ⟨u, x, rfl, hx⟩ := norm_snoc hs ns
  obtain ⟨v, y, rfl, hy⟩ := norm_snoc ht nt
  rw [List.length_append, List.length_append, List.length_singleton, List.length_singleton] at hl
  have e : PL 0 (u ++ [x]) (v ++ [y]) ((u.length + v.length : Nat) : Int) = x * y := by
    rw [PL_snoc, PL_out _ _ _ _ (by rw [List.length_append, List.length_singleton]; omega), U_snocN, FO.U_out (by omega)]
    rw [show 0 + u.length + v.length = u.length + v.length by omega, FO.B_top]
    rw [Int.mul_one, Int.zero_add, Int.zero_add]
  have le := lastN_le m
  apply Classical.byContradiction
  intro z
  have k := hm ((u.length + v.length : Nat) : Int)
  rw [e, ← strip_U, FO.U_out (by unfold stripL; rw [List.length_take]; omega)] at k
  exact Int.mul_ne_zero hx hy k.symm
section
variable {P : Program} {w : World} {K : PySem.W.Frag} {mg : Str → Option Value} {base : Heap}
def spProd : Sp := fun vs H Q _ => ∃ (a b : Addr) (s t : List Int), vs = [.ref a, .ref b] ∧ H a = some (.lst (s.map V.int)) ∧ H b = some (.lst (t.map V.int)) ∧ s.length ≤ 100 ∧ t.length ≤ 100 ∧ (∀ z ∈ s, z.natAbs ≤ 1000000) ∧ lastN s = s.length ∧ lastN t = t.length ∧
  ∀ p m H', Same H H' → H' p = some (.lst (m.map V.int)) → (∀ q, FO.U 0 m q = PL 0 s t q) → lastN m = m.length → Q (.ref p) H'
theorem getD_at {l : List Int} {j : Nat} (h : j < l.length) : (l.map V.int)[j]? = some (V.int (l.getD j 0)) := by
  rw [List.getElem?_map, List.getD_eq_getElem?_getD, List.getElem?_eq_getElem h]
  rfl
theorem U_zs (n : Nat) (zs : List Int) (h : ∀ z ∈ zs, z = 0) (q : Int) : FO.U n zs q = 0 := by
  have : zs = List.replicate zs.length 0 := List.eq_replicate_iff.mpr ⟨rfl, h⟩
  rw [this, FO.U_zeros]
theorem ints_mem {zs : List Int} {R : Int → Prop} (h : ∀ (k : Nat) (z : Int), zs[k]? = some z → R z) : ∀ z ∈ zs, R z := fun z hz => by
  obtain ⟨k, hk⟩ := List.getElem?_of_mem hz
  exact h k z hk
theorem c__law_list_product {f : Addr} {fd : FuncData} (D : C8.Def K mg "_law_list_product" s__law_list_product f fd) (b : Binds K fd ["_law_one", "_law_two"] []) (T : Bi mg) : C8.Cal P w K mg base 1 "_law_list_product" spProd [] := by
  refine C8.cal0 D b .nil sc__law_list_product (fun vs H Q E h => ?_) (fun cdv A outer s0 H vs Q E hr h => ?_)
  · obtain ⟨a, b, s, t, rfl, _⟩ := h
    rfl
  · obtain ⟨a, b, s, t, rfl, ha, hb, hsz, htz, hsb, ns, nt, q⟩ := h
    refine ⟨_, (pss_cons (ps_if (PW.pt (pw_or (pt_cmpR op_eq (pe_callB call_len_seq (by rfl) T.n_len OT.b_len (pa_cons (pv 0) pa_nil)) pe_int (nomark _)) (pw_or1 (pt_cmpR op_eq (pe_callB call_len_seq (by rfl) T.n_len OT.b_len (pa_cons (pv 1) pa_nil)) pe_int (nomark _))))) (pss_one (ps_ret (pe_lst pa_nil))) pss_nil)
  (pss_cons (ps_setLc (i := 2) (own := [("_law_k", 4)]) (g := (gName 4)) (tt := tYes) rfl sc__law_list_product.nd rfl rfl (sw_true rfl rfl rfl rfl) (pi_range1 rfl T.n_range (pa_cons (pe_op op_sub (pe_op op_add (pe_callB call_len_seq (by rfl) T.n_len OT.b_len (pa_cons (pv 0) pa_nil)) (pe_callB call_len_seq (by rfl) T.n_len OT.b_len (pa_cons (pv 1) pa_nil))) pe_int) pa_nil)) (blkOk_by (N := ["_law_one", "_law_two", "_law_numbers", "_law_i", "_law_k"]) (sc := C8.fnScope s__law_list_product) (by decide +kernel)) (fun _ _ _ _ _ => (pg_name (i := 4) sc__law_list_product.nd rfl (Or.inl rfl))) (fun _ _ _ _ _ => pts_nil) (fun _ _ _ _ _ => pe_int))
  (pss_cons (ps_for PassesOwn.never rfl (pi_range1 rfl T.n_range (pa_cons (pe_callB call_len_seq (by rfl) T.n_len OT.b_len (pa_cons (pv 0) pa_nil)) pa_nil)) (pg_name (i := 3) sc__law_list_product.nd rfl (Or.inl rfl)) (pss_one (ps_for PassesOwn.never rfl (pi_range1 rfl T.n_range (pa_cons (pe_callB call_len_seq (by rfl) T.n_len OT.b_len (pa_cons (pv 1) pa_nil)) pa_nil)) (pg_name (i := 4) sc__law_list_product.nd rfl (Or.inl rfl)) (pss_one (ps_asg (pe_op op_add (pe_ix ix_list (pv 2) (pe_op op_add (pv 3) (pv 4)) (fun _ _ => rfl)) (pe_op op_mul (pe_ix ix_list (pv 0) (pv 3) (fun _ _ => rfl)) (pe_ix ix_list (pv 1) (pv 4) (fun _ _ => rfl)))) (pg_sub (pv 2) (pe_op op_add (pv 3) (pv 4)) set_list))))))
  (pss_one (ps_ret (pv 2)))))), ?_⟩
    have lm : ∀ l : List Int, (l.map V.int).length = l.length := fun l => List.length_map _
    walk_at "st"
    rw [lm]
    refine iteD (fun z => ?_) (fun z => ?_)
    · walk_at "st"
      refine ⟨by walk_at "sz", fun p np => ?_⟩; generalize eH1 : upd _ p _ = H1; have s1 := AU.newS np eH1; have hp := AU.newH eH1; clear eH1
      walk_at "st"
      have : s = [] := List.length_eq_zero_iff.mp (by omega)
      subst this
      exact q p [] H1 s1 hp (fun _ => rfl) rfl
    walk_at "st"
    rw [lm]
    refine iteD (fun z2 => ?_) (fun z2 => ?_)
    · walk_at "st"
      refine ⟨by walk_at "sz", fun p np => ?_⟩; generalize eH1 : upd _ p _ = H1; have s1 := AU.newS np eH1; have hp := AU.newH eH1; clear eH1
      walk_at "st"
      have : t = [] := List.length_eq_zero_iff.mp (by omega)
      subst this
      exact q p [] H1 s1 hp (fun _ => (PL_nil _ _ _).symm) rfl
    have hs0 : s ≠ [] := fun z3 => z (by rw [z3]; rfl)
    have ht0 : t ≠ [] := fun z3 => z2 (by rw [z3]; rfl)
    have hs1 : 1 ≤ s.length := List.length_pos_iff.mpr hs0
    walk_at "st"
    rw [lm, lm]
    obtain ⟨L, hL⟩ : ∃ L : Nat, (s.length : Int) + (t.length : Int) - 1 = (L : Int) := ⟨s.length + t.length - 1, by omega⟩
    rw [hL]
    refine ⟨_, rfl, by omega, by omega, fun D1 nD1 => ?_⟩
    rw [Int.toNat_natCast]
    refine lc_range (lo := 0) (n := L) (AU.IntsAt H D1 fun k z => z = 0) (AU.IntsAt.start nD1) ?_ ?_
    · intro i H4 hi hP
      walk_at "st"
      refine ⟨rfl, ?_⟩
      walk_at "st"
      exact hP.step nD1 (Same.refl _) (by omega) rfl
    rintro H1 ⟨s1, zs, hzs, hzl, hzb⟩
    have hzb := ints_mem (R := fun z => z = 0) hzb
    walk_at "st"
    rw [lm]
    refine ⟨_, rfl, by omega, by omega, ?_⟩
    rw [Int.toNat_natCast]
    refine for_range (lo := 0) (n := s.length) (fun i σ H2 => ∃ (m : List Int) (y3 y4 : Option V), σ = [some (.ref a), some (.ref b), some (.ref D1), y3, y4] ∧ Same H H2 ∧ H2 D1 = some (.lst (m.map V.int)) ∧ m.length = L ∧ ∀ q, FO.U 0 m q = PL 0 (s.take i) t q) ⟨zs, none, none, rfl, s1, hzs, hzl, fun q => U_zs 0 zs hzb q⟩ ?_ ?_
    · rintro i σ H2 hi ⟨m, y3, y4, rfl, s2, hm, hml, hU⟩
      walk_at "st"
      rw [lm]
      refine ⟨_, rfl, by omega, by omega, ?_⟩
      rw [Int.toNat_natCast]
      refine for_range (lo := 0) (n := t.length) (fun k σ H3 => ∃ (m : List Int) (y4 : Option V), σ = [some (.ref a), some (.ref b), some (.ref D1), some (.int ((0 : Int) + (i : Int))), y4] ∧ Same H H3 ∧ H3 D1 = some (.lst (m.map V.int)) ∧ m.length = L ∧ ∀ q, FO.U 0 m q = PL 0 (s.take i) t q + s[i] * FO.U i (t.take k) q) ⟨m, y4, rfl, s2, hm, hml, fun q => by rw [hU]; show _ = _ + s[i] * 0; omega⟩ ?_ ?_
      · rintro k σ H3 hk ⟨m, y4, rfl, s3, hm, hml, hU⟩
        have hj : i + k < m.length := by omega
        have at1 : atI (m.map V.int) ((0 : Int) + (i : Int) + ((0 : Int) + (k : Int))) = some (.int (m.getD (i + k) 0)) := AU.atN (j := i + k) (by omega) (getD_at hj)
        have at2 : atI (s.map V.int) ((0 : Int) + (i : Int)) = some (.int s[i]) := AU.atN (j := i) (by omega) (by rw [List.getElem?_map, List.getElem?_eq_getElem hi]; rfl)
        have at3 : atI (t.map V.int) ((0 : Int) + (k : Int)) = some (.int t[k]) := AU.atN (j := k) (by omega) (by rw [List.getElem?_map, List.getElem?_eq_getElem hk]; rfl)
        have hsi := hsb s[i] (List.getElem_mem hi)
        have p64 : (2 : Int) ^ 64 = 18446744073709551616 := by decide
        walk_at "st"
        refine ⟨_, rfl, _, rfl, _, rfl, _, _, rfl, rfl, D1, m.map V.int, _, i + k, rfl, rfl, hm, by rw [lm, show (0 : Int) + (i : Int) + ((0 : Int) + (k : Int)) = ((i + k : Nat) : Int) by omega]; exact ixN_nat hj, ?_⟩
        refine ⟨m.set (i + k) (m.getD (i + k) 0 + s[i] * t[k]), _, rfl, same_mut s3 nD1, by rw [upd_same, List.map_set], by rw [List.length_set]; exact hml, fun q => ?_⟩
        rw [U_set _ _ _ _ _ hj, hU, List.take_add_one, List.getElem?_eq_getElem hk]
        show _ = _ + s[i] * FO.U i (t.take k ++ [t[k]]) q
        rw [U_snocN, List.length_take, Nat.min_eq_left (by omega), Int.mul_add, Int.mul_assoc, Nat.zero_add]
        omega
      · rintro σ H3 ⟨m, y4, rfl, s3, hm, hml, hU⟩
        refine ⟨m, _, _, rfl, s3, hm, hml, fun q => ?_⟩
        rw [hU, List.take_length, List.take_add_one, List.getElem?_eq_getElem hi]
        show _ = PL 0 (s.take i ++ [s[i]]) t q
        rw [PL_snoc, List.length_take, Nat.min_eq_left (by omega), Nat.zero_add]
    · rintro σ H2 ⟨m, y3, y4, rfl, s2, hm, hml, hU⟩
      rw [List.take_length] at hU
      walk_at "st"
      exact q D1 m H2 s2 hm hU (prod_norm ns nt hs0 ht0 (by omega) hU)
def spSum : Sp := fun vs H Q _ => ∃ (a b : Addr) (s t : List Int), vs = [.ref a, .ref b] ∧ H a = some (.lst (s.map V.int)) ∧ H b = some (.lst (t.map V.int)) ∧ s.length ≤ 100 ∧ t.length ≤ 100 ∧
  ∀ p m H', Same H H' → H' p = some (.lst (m.map V.int)) → (∀ q, FO.U 0 m q = FO.U 0 s q + FO.U 0 t q) → lastN m = m.length → Q (.ref p) H'
theorem c__law_list_sum {f : Addr} {fd : FuncData} (D : C8.Def K mg "_law_list_sum" s__law_list_sum f fd) (b : Binds K fd ["_law_one", "_law_two"] []) (T : Bi mg) (c__law_stripped : C8.Cal P w K mg base 1 "_law_stripped" (spStrip K) []) : C8.Cal P w K mg base 2 "_law_list_sum" spSum [] := by
  refine C8.cal0 D b .nil sc__law_list_sum (fun vs H Q E h => ?_) (fun cdv A outer s0 H vs Q E hr h => ?_)
  · obtain ⟨a, b, s, t, rfl, _⟩ := h
    rfl
  · obtain ⟨a, b, s, t, rfl, ha, hb, hsz, htz, q⟩ := h
    refine ⟨_, (pss_cons (ps_setLc (i := 2) (own := [("_law_k", 3)]) (g := (gName 3)) (tt := tYes) rfl sc__law_list_sum.nd rfl rfl (sw_true rfl rfl rfl rfl) (pi_range1 rfl T.n_range (pa_cons (pe_callB (call_max2 rfl) (by rfl) T.n_max OT.b_max (pa_cons (pe_callB call_len_seq (by rfl) T.n_len OT.b_len (pa_cons (pv 0) pa_nil)) (pa_cons (pe_callB call_len_seq (by rfl) T.n_len OT.b_len (pa_cons (pv 1) pa_nil)) pa_nil))) pa_nil)) (blkOk_by (N := ["_law_one", "_law_two", "_law_numbers", "_law_k"]) (sc := C8.fnScope s__law_list_sum) (by decide +kernel)) (fun _ _ _ _ _ => (pg_name (i := 3) sc__law_list_sum.nd rfl (Or.inl rfl))) (fun _ _ _ _ _ => pts_nil) (fun _ _ _ _ _ => pe_int))
  (pss_cons (ps_for PassesOwn.never rfl (pi_range1 rfl T.n_range (pa_cons (pe_callB call_len_seq (by rfl) T.n_len OT.b_len (pa_cons (pv 0) pa_nil)) pa_nil)) (pg_name (i := 3) sc__law_list_sum.nd rfl (Or.inl rfl)) (pss_one (ps_asg (pe_op op_add (pe_ix ix_list (pv 2) (pv 3) (fun _ _ => rfl)) (pe_ix ix_list (pv 0) (pv 3) (fun _ _ => rfl))) (pg_sub (pv 2) (pv 3) set_list))))
  (pss_cons (ps_for PassesOwn.never rfl (pi_range1 rfl T.n_range (pa_cons (pe_callB call_len_seq (by rfl) T.n_len OT.b_len (pa_cons (pv 1) pa_nil)) pa_nil)) (pg_name (i := 3) sc__law_list_sum.nd rfl (Or.inl rfl)) (pss_one (ps_asg (pe_op op_add (pe_ix ix_list (pv 2) (pv 3) (fun _ _ => rfl)) (pe_ix ix_list (pv 1) (pv 3) (fun _ _ => rfl))) (pg_sub (pv 2) (pv 3) set_list))))
  (pss_one (ps_ret (C8.pe_c c__law_stripped hr (by decide) (by rfl) (pa_cons (pv 2) pa_nil))))))), ?_⟩
    have lm : ∀ l : List Int, (l.map V.int).length = l.length := fun l => List.length_map _
    walk_at "st"
    rw [lm, lm]
    refine ⟨_, _, rfl, ?_⟩
    obtain ⟨L, hL, hLs, hLt, hLz⟩ : ∃ L : Nat, (if (t.length : Int) > (s.length : Int) then (t.length : Int) else (s.length : Int)) = (L : Int) ∧ s.length ≤ L ∧ t.length ≤ L ∧ L ≤ 100 := by
      by_cases c : (t.length : Int) > (s.length : Int)
      · rw [if_pos c]
        exact ⟨t.length, rfl, by omega, by omega, htz⟩
      · rw [if_neg c]
        exact ⟨s.length, rfl, by omega, by omega, hsz⟩
    rw [hL]
    walk_at "st"
    refine ⟨_, rfl, by omega, by omega, fun D1 nD1 => ?_⟩
    rw [Int.toNat_natCast]
    refine lc_range (lo := 0) (n := L) (AU.IntsAt H D1 fun k z => z = 0) (AU.IntsAt.start nD1) ?_ ?_
    · intro i H4 hi hP
      walk_at "st"
      refine ⟨rfl, ?_⟩
      walk_at "st"
      exact hP.step nD1 (Same.refl _) (by omega) rfl
    rintro H1 ⟨s1, zs, hzs, hzl, hzb⟩
    have hzb := ints_mem (R := fun z => z = 0) hzb
    walk_at "st"
    rw [lm]
    refine ⟨_, rfl, by omega, by omega, ?_⟩
    rw [Int.toNat_natCast]
    refine for_range (lo := 0) (n := s.length) (fun i σ H2 => ∃ (m : List Int) (y3 : Option V), σ = [some (.ref a), some (.ref b), some (.ref D1), y3] ∧ Same H H2 ∧ H2 D1 = some (.lst (m.map V.int)) ∧ m.length = L ∧ ∀ q, FO.U 0 m q = FO.U 0 (s.take i) q) ⟨zs, none, rfl, s1, hzs, hzl, fun q => U_zs 0 zs hzb q⟩ ?_ ?_
    · rintro i σ H2 hi ⟨m, y3, rfl, s2, hm, hml, hU⟩
      have hj : i < m.length := by omega
      have at1 : atI (m.map V.int) ((0 : Int) + (i : Int)) = some (.int (m.getD i 0)) := AU.atN (j := i) (by omega) (getD_at hj)
      have at2 : atI (s.map V.int) ((0 : Int) + (i : Int)) = some (.int s[i]) := AU.atN (j := i) (by omega) (by rw [List.getElem?_map, List.getElem?_eq_getElem hi]; rfl)
      walk_at "st"
      refine ⟨_, rfl, _, rfl, D1, m.map V.int, _, i, rfl, rfl, hm, by rw [lm, show (0 : Int) + (i : Int) = ((i : Nat) : Int) by omega]; exact ixN_nat hj, ?_⟩
      refine ⟨m.set i (m.getD i 0 + s[i]), _, rfl, same_mut s2 nD1, by rw [upd_same, List.map_set], by rw [List.length_set]; exact hml, fun q => ?_⟩
      rw [U_set _ _ _ _ _ hj, hU, FO.U_take (List.getElem?_eq_getElem hi), Nat.zero_add]
    rintro σ H2 ⟨m, y3, rfl, s2, hm, hml, hU⟩
    rw [List.take_length] at hU
    walk_at "st"
    rw [lm]
    refine ⟨_, rfl, by omega, by omega, ?_⟩
    rw [Int.toNat_natCast]
    refine for_range (lo := 0) (n := t.length) (fun i σ H2 => ∃ (m : List Int) (y3 : Option V), σ = [some (.ref a), some (.ref b), some (.ref D1), y3] ∧ Same H H2 ∧ H2 D1 = some (.lst (m.map V.int)) ∧ m.length = L ∧ ∀ q, FO.U 0 m q = FO.U 0 s q + FO.U 0 (t.take i) q) ⟨m, _, rfl, s2, hm, hml, fun q => by rw [hU]; show _ = _ + (0 : Int); omega⟩ ?_ ?_
    · rintro i σ H3 hi ⟨m, y3, rfl, s3, hm, hml, hU⟩
      have hj : i < m.length := by omega
      have at1 : atI (m.map V.int) ((0 : Int) + (i : Int)) = some (.int (m.getD i 0)) := AU.atN (j := i) (by omega) (getD_at hj)
      have at2 : atI (t.map V.int) ((0 : Int) + (i : Int)) = some (.int t[i]) := AU.atN (j := i) (by omega) (by rw [List.getElem?_map, List.getElem?_eq_getElem hi]; rfl)
      walk_at "st"
      refine ⟨_, rfl, _, rfl, D1, m.map V.int, _, i, rfl, rfl, hm, by rw [lm, show (0 : Int) + (i : Int) = ((i : Nat) : Int) by omega]; exact ixN_nat hj, ?_⟩
      refine ⟨m.set i (m.getD i 0 + t[i]), _, rfl, same_mut s3 nD1, by rw [upd_same, List.map_set], by rw [List.length_set]; exact hml, fun q => ?_⟩
      rw [U_set _ _ _ _ _ hj, hU, FO.U_take (List.getElem?_eq_getElem hi), Nat.zero_add]
      omega
    rintro σ H3 ⟨m, y3, rfl, s3, hm, hml, hU⟩
    rw [List.take_length] at hU
    walk_at "st"
    refine ⟨D1, m, rfl, AU.sqL hm, by omega, fun p H4 s4 np hp => ?_⟩
    walk_at "st"
    exact q p (stripL m) H4 (s3.trans s4) hp (fun q => by rw [strip_U, hU]) (strip_norm m)
end
end OT

set_option Elab.async false
set_option linter.all false
set_option maxRecDepth 100000
set_option maxHeartbeats 4000000
namespace OT
open PySem PySem.Spec PyProof.Rows L2
local macro_rules | `(tactic| walk_at "sm") => `(tactic| first | assumption | ((with_reducible show Same _ (upd _ _ _)); (refine' AU.mutS ?s ?h; (case h => assumption); (case s => walk_at "sm"))) | fail)
local macro_rules | `(tactic| walk_at "le") => `(tactic| first | (refine Nat.le_of_lt (AU.line ?_); (try simp only [List.length_append, List.length_map, List.length_cons, List.length_nil, List.length_take, List.length_replicate]); omega) | fail)
local macro_rules | `(tactic| walk_at "ll") => `(tactic| first | (show 0 < sizeLine; decide) | (show 1 < sizeLine; decide) | (show 2 < sizeLine; decide) | (show 3 < sizeLine; decide) | (refine AU.line ?_; (try simp only [List.length_append, List.length_map, List.length_cons, List.length_nil, List.length_take, List.length_replicate]); omega) | fail)
local macro_rules | `(tactic| walk_at "hl") => `(tactic| first | assumption | exact upd_same | (refine' AU.climb ?s ?h; (case s => walk_at "sm"); (case h => walk_at "hl")) | fail)
local macro_rules | `(tactic| walk_at "sl") => `(tactic| first | assumption | (refine' AU.sqL ?h; (case h => walk_at "hl")) | (refine' AU.sqLS ?s ?h; (case s => walk_at "sm"); (case h => walk_at "sl")) | fail)
local macro_rules | `(tactic| walk_at "tl") => `(tactic| first | assumption | (refine' AU.sqT ?h; (case h => walk_at "hl")) | (refine' AU.sqTS ?s ?h; (case s => walk_at "sm"); (case h => walk_at "tl")) | fail)
local macro_rules | `(tactic| walk_at "sz") => `(tactic| first | (show 0 ≤ sizeLine; decide) | (show 1 ≤ sizeLine; decide) | (show 2 ≤ sizeLine; decide) | (show 3 ≤ sizeLine; decide) | (show 4 ≤ sizeLine; decide) | (show 5 ≤ sizeLine; decide) | (show 6 ≤ sizeLine; decide) | (show 7 ≤ sizeLine; decide) | (show 8 ≤ sizeLine; decide) | (show 9 ≤ sizeLine; decide) | (show 10 ≤ sizeLine; decide) | fail)
local macro_rules | `(tactic| walk_at "ci") => `(tactic| first | exact trivial | omega | (show (0 : Int) < _; omega) | (show CMul _ _; exact .inl ⟨by omega, by omega⟩) | (show CMul _ _; exact .inr ⟨by omega, by omega⟩) | (show CMul _ _; exact .inr (AU.b01 _)) | (show CMul _ _; exact .inl (AU.b01 _)) | (show CDiv _ _; exact ⟨by omega, by omega⟩) | (show _ ≠ (0 : Int); omega) | (show CDiv _ _; exact ⟨by decide, by decide⟩) | fail)
local macro_rules | `(tactic| walk_at "hh") => `(tactic| first | assumption | (refine' OT.HeldF.mono ?s ?h; (case s => walk_at "sm"); (case h => walk_at "hh")) | fail)
local macro_rules | `(tactic| walk_at "tyx") => `(tactic| first | exact .base (.int _) | exact .base (.bl _) | exact .base (.str _) | exact .base (.lst (by walk_at "hl")) | exact .base (.tup (by walk_at "hl")) | fail)
local macro_rules | `(tactic| walk_at "st1") => `(tactic| first | ((with_reducible show tSeq _ _ _ _ _); (try simp only [List.set_cons_zero, List.set_cons_succ]); refine AU.seq_ ?_) | ((with_reducible show tAsg _ _ _ _ _); refine AU.asg_ ?_) | ((with_reducible show gName _ _ _ _ _); refine AU.name_ ?_) | ((with_reducible show tDrop _ _ _ _); refine AU.drop_ ?_) | ((with_reducible show tRet _ _ _ _); refine AU.ret_ ?_) | ((with_reducible show tRetN _ _ _); refine AU.retN_ ?_) | ((with_reducible show tNext _ _ _); refine AU.next_ ?_) | ((with_reducible show tBreak _ _ _); refine AU.brk_ ?_) | ((with_reducible show tCont _ _ _); refine AU.cont_ ?_) | ((with_reducible show tIfS _ _ _ _ _ _); refine AU.ifs_ ?_) | ((with_reducible show tAug _ _ _ _ _ _); refine AU.aug_ rfl ?_) | ((with_reducible show Ends.nx (Ends.mk _ _ _ _) _ _); refine AU.nxm ?_) | ((with_reducible show Ends.rt (Ends.mk _ _ _ _) _ _); refine AU.rtm ?_) | ((with_reducible show Ends.bk (Ends.mk _ _ _ _) _ _); refine AU.bkm ?_) | ((with_reducible show Ends.ct (Ends.mk _ _ _ _) _ _); refine AU.ctm ?_) | ((with_reducible show tVar _ _ _ _); refine AU.var_ rfl ?_) | ((with_reducible show tC _ _ _ _); refine AU.c_ ?_) | ((with_reducible show tOp _ _ _ _ _ _); refine AU.op_ ?_) | ((with_reducible show tUn _ _ _ _ _); refine AU.un_ ?_) | ((with_reducible show rU _ _ _ _); refine AU.u_ ?_) | ((with_reducible show rI0 _ _ _ _ _); refine AU.i0_ ?_) | ((with_reducible show rI _ _ _ _ _ _); refine AU.i_ (by walk_at "ci") ?_) | ((with_reducible show rEq (V.int _) (V.int _) _ _); first | (with_reducible refine AU.eqr_ ?_) | refine AU.eqi_ ?_) | ((with_reducible show rEq (V.str _) (V.str _) _ _); (with_reducible refine AU.eqs_ ?_)) | ((with_reducible show rNe (V.int _) (V.int _) _ _); refine AU.nei_ ?_) | ((with_reducible show rEq _ _ _ _); refine AU.eq_ rfl ?_) | ((with_reducible show rNe _ _ _ _); refine AU.ne_ rfl ?_) | ((with_reducible show tTest _ _ _ _); refine AU.test_ ?_) | ((with_reducible show tB _ _ _ _); refine AU.b_ ?_) | ((with_reducible show tAnd _ _ _ _ _); refine AU.and_ ?_) | ((with_reducible show tOr _ _ _ _ _); refine AU.or_ ?_) | ((with_reducible show tNot _ _ _ _); refine AU.not_ ?_) | ((with_reducible show tAndV _ _ _ _ _); refine AU.andV_ ?_) | ((with_reducible show tOrV _ _ _ _ _); refine AU.orV_ ?_) | ((with_reducible show tNotV _ _ _ _); refine AU.notV_ ?_) | ((with_reducible show tIf _ _ _ _ _ _); refine AU.if_ ?_) | ((with_reducible show tNil _ _ _); refine AU.nil_ ?_) | ((with_reducible show tCons _ _ _ _ _); refine AU.cons_ ?_) | ((with_reducible show tLst _ _ _ _); refine AU.lst_ ?_) | ((with_reducible show tTup _ _ _ _); refine AU.tup_ ?_) | ((with_reducible show tCall _ _ _ _ _ _ _); refine AU.call_ ?_) | ((with_reducible show tCallS _ _ _ _ _ _); refine AU.callS_ ?_) | ((with_reducible show tCB _ _ _ _ _); refine AU.cb_ ?_) | ((with_reducible show tBM _ _ _ _ _ _ _ _); refine AU.bm_ ?_) | ((with_reducible show rIxL _ _ _ _ _); refine AU.ixL_ (by walk_at "sl") (by first | assumption | rfl) ?_) | ((with_reducible show rIxT _ _ _ _ _); refine AU.ixT_ (by walk_at "tl") (by first | assumption | rfl) ?_) | ((with_reducible show Evl.rLenS _ _ _ _); first | refine AU.lenL_ (by walk_at "sl") ?_ | refine AU.lenT_ (by walk_at "tl") ?_) | ((with_reducible show rAppend (V.ref _) [_] _ _); refine AU.app_ (by walk_at "hl") (by walk_at "ll") ?_) | ((with_reducible show tyV _ _ (V.ref _) _ ∧ _); refine AU.tyl_ (by walk_at "sl") ?_) | ((with_reducible show rCat (V.ref _) (V.ref _) _ _); refine AU.cat_ (by walk_at "hl") (by walk_at "hl") (by walk_at "le") ?_) | ((with_reducible show tFor _ _ _ _ _ _); refine AU.for_ ?_) | ((with_reducible show tLc _ _ _ _ _ _ _ _); refine AU.lc_ ?_) | ((with_reducible show iRng1 _ _ _ _); refine AU.rng1_ ?_) | ((with_reducible show iList _ _ _ _ _); refine AU.list_ ?_) | ((with_reducible show iTup _ _ _ _ _); refine AU.itup_ ?_) | ((with_reducible show (∃ i, [V.bl _] = [V.int i] ∧ _) ∨ _); refine AU.intb_ ?_) | ((with_reducible show (∃ i, [V.int _] = [V.int i] ∧ _) ∨ _); refine AU.inti_ ?_) | ((with_reducible show tYes _ _ _); refine AU.yes_ ?_) | ((with_reducible show ∃ p ys, [V.ref _] = [V.ref p] ∧ (SqL _ _ p ys ∨ SqT _ _ p ys) ∧ _); first | refine AU.listof_ (by walk_at "sl") ?_ | refine AU.listofT_ (by walk_at "tl") ?_) | ((with_reducible show ∃ p ys, [V.ref _] = [V.ref p] ∧ ((SqL _ _ p ys ∧ _) ∨ (SqT _ _ p ys ∧ _))); first | refine AU.tupleof_ (by walk_at "sl") ?_ | refine AU.tupleofT_ (by walk_at "tl") ?_) | ((with_reducible show V.non = V.non ∧ _); refine ⟨rfl, ?_⟩) | ((with_reducible show OT.rIsX _ _ _ _ [V.ref _, _] _ _); refine OT.isX_ (by walk_at "hh") (by first | exact .own _ | exact .ty _) (by assumption) ?_) | ((with_reducible show OT.tFA _ _ _ _ _ _ _ _ _); refine OT.fA_ ?_) | ((with_reducible show OT.tCallE _ _ _ _ _ _ _ _); refine OT.callE_ ?_) | ((with_reducible show rIsi _ [_, _] _ _); refine OT.isi_ (by first | exact .own _ | exact .ty _) (by walk_at "tyx") (by first | assumption | exact kit_ty OT.kq_int_int | exact kit_ty OT.kq_int_bool | exact kit_ty OT.kq_bool_bool | exact kit_ty OT.kq_bool_int | exact kit_ty OT.kq_str_str | exact kit_ty OT.kq_tuple_tuple | exact kit_ty OT.kq_list_list | exact kit_ty OT.kq_list_tuple | exact kit_ty OT.kq_tuple_list | exact kit_ty OT.kq_list_int | exact kit_ty OT.kq_tuple_int | exact kit_ty OT.kq_list_bool | exact kit_ty OT.kq_tuple_bool | exact kit_ty OT.kq_str_int | exact kit_ty OT.kq_int_str | exact kit_ty OT.kq_int_list | exact kit_ty OT.kq_int_tuple | exact kit_ty OT.kq_bool_list | exact kit_ty OT.kq_bool_tuple) ?_) | ((with_reducible show ∃ k, V.bl _ = V.bl k ∧ _); refine AU.bool_ ?_) | ((with_reducible show tSl _ _ _ _ _ _ _); refine AU.sl_ ?_) | ((with_reducible show tNoPart _ _ _); refine AU.npart_ ?_) | ((with_reducible show tPart _ _ _ _); refine AU.part_ ?_) | ((with_reducible show ∃ k, V.int _ = V.int k ∧ rSlL _ _ _ (some k) _ _); refine AU.int1_ ?_) | ((with_reducible show rSlL _ (V.ref _) _ _ _ _); refine AU.slL_ (by walk_at "sl") ?_) | ((with_reducible refine AU.trueT ?_)) | ((with_reducible refine AU.refNon ?_)) | ((with_reducible refine AU.nonNon ?_)) | ((with_reducible refine AU.trueN ?_)) | ((with_reducible refine AU.falseN ?_)) | ((with_reducible refine AU.falseF ?_)) | fail)
local macro_rules | `(tactic| walk_at "st") => `(tactic| repeat walk_at "st1")
theorem nil_len {r : List Ent} (h : ¬ (r.length : Int) > 0) : r = [] := List.length_eq_zero_iff.mp (by omega)
theorem IsU_nil_len {s : List Int} (h : FO.IsU [] s) (hs : lastN s = s.length) : s = [] := IsU_norm h IsU_nil hs rfl
section
variable {P : Program} {w : World} {K : PySem.W.Frag} {mg : Str → Option Value} {base : Heap}
/-- a row that folds -/
structure FoR (H : Hp) (a : Addr) (r : List Ent) (t : List Int) : Prop where
  ex : ∃ xs, H a = some (.lst xs) ∧ Ents H xs r
  u : FO.IsU r t
  n : lastN t = t.length
theorem FoR.mono {H H' : Hp} {a : Addr} {r : List Ent} {t : List Int} (s : Same H H') (h : FoR H a r t) : FoR H' a r t := by
  obtain ⟨xs, h1, h2⟩ := h.ex
  exact { h with ex := ⟨xs, s _ _ h1, h2.mono s⟩ }
def spFolded : Sp := fun vs H Q _ => ∃ (a : Addr) (r : List Ent) (t : List Int), vs = [.ref a] ∧ FoR H a r t ∧ t.length ≤ 20 ∧ ∀ p H', Same H H' → H' p = some (.lst (t.map V.int)) → Q (.ref p) H'
theorem c__law_folded {f : Addr} {fd : FuncData} (D : C8.Def K mg "_law_folded" s__law_folded f fd) (b : Binds K fd ["_law_row_here"] []) (T : Bi mg) (c_fold : C8.Cal P w K mg base 6 "fold" spFoldC []) (c__law_is_numbers : C8.Cal P w K mg base 2 "_law_is_numbers" spNumbers []) (c__law_unfolded : C8.Cal P w K mg base 3 "_law_unfolded" (spUnfd K) []) : C8.Cal P w K mg base 7 "_law_folded" spFolded [] := by
  refine C8.cal0 D b .nil sc__law_folded (fun vs H Q E h => ?_) (fun cdv A outer s H vs Q E hr h => ?_)
  · obtain ⟨a, r, t, rfl, _⟩ := h
    rfl
  · obtain ⟨a, r, t, rfl, ⟨⟨xs, ha, hE⟩, hU, hn⟩, hz, q⟩ := h
    refine ⟨_, (pss_cons (ps_set (i := 1) sc__law_folded.nd rfl (Or.inl rfl) pe_int)
  (C8.pss_cut (ps_if (pt_cmpR op_gt (pe_callB call_len_seq (by rfl) T.n_len OT.b_len (pa_cons (pv 0) pa_nil)) pe_int (nomark _)) (pss_one (ps_set (i := 1) sc__law_folded.nd rfl (Or.inl rfl) (pe_op op_add (pe_ix ix_tup (pe_ix ix_tup (pe_ix ix_list (pv 0) (pe_un un_neg pe_int) (fun _ _ => rfl)) pe_int (fun _ _ => rfl)) pe_int (fun _ _ => rfl)) pe_int))) pss_nil)
  (pss_cons (ps_set (i := 2) sc__law_folded.nd rfl (Or.inl rfl) (pe_callTy call_list_of (by rfl) T.n_list OT.b_list (pa_cons (pv 0) pa_nil)))
  (pss_cons (ps_set (i := 3) sc__law_folded.nd rfl (Or.inl rfl) (C8.pe_c c_fold hr (by decide) (by rfl) (pa_cons (pv 2) pa_nil)))
  (pss_cons (ps_if (PW.pt (pw_or (pt_not (pt_val (C8.pe_c c__law_is_numbers hr (by decide) (by rfl) (pa_cons (pv 3) pa_nil)))) (pw_or (pt_cmpR op_ne (pe_callB call_len_seq (by rfl) T.n_len OT.b_len (pa_cons (pv 3) pa_nil)) (pv 1) (nomark _)) (pw_or (pt_cmpR (op_neD hr.units) (pv 2) (pv 0) (nomark _)) (pw_or1 (pt_cmpR (op_neD hr.units) (C8.pe_c c__law_unfolded hr (by decide) (by rfl) (pa_cons (pv 3) pa_nil)) (pv 0) (nomark _))))))) (pss_one (ps_ret pe_non)) pss_nil)
  (pss_cons (ps_set (i := 4) sc__law_folded.nd rfl (Or.inl rfl) (pe_callTy call_list_of (by rfl) T.n_list OT.b_list (pa_cons (pv 3) pa_nil)))
  (pss_cons (ps_expr (pe_bm PySem.F.plainAttrs_list PySem.F.slot_list_append PySem.F.type_list_append mt_append (pv 3) (pa_cons pe_int pa_nil)))
  (pss_cons (ps_if (pt_cmpR (op_neD hr.units) (pv 2) (pv 0) (nomark _)) (pss_one (ps_ret pe_non)) pss_nil)
  (pss_cons (ps_expr (pe_bm PySem.F.plainAttrs_list PySem.F.slot_list_append PySem.F.type_list_append mt_append (pv 2) (pa_cons (pe_tup (pa_cons (pe_tup (pa_cons pe_int pa_nil)) (pa_cons pe_int pa_nil))) pa_nil)))
  (pss_cons (ps_set (i := 5) sc__law_folded.nd rfl (Or.inl rfl) (C8.pe_c c_fold hr (by decide) (by rfl) (pa_cons (pe_callTy call_list_of (by rfl) T.n_list OT.b_list (pa_cons (pv 0) pa_nil)) pa_nil)))
  (pss_cons (ps_if (PW.pt (pw_or (pt_not (pt_val (C8.pe_c c__law_is_numbers hr (by decide) (by rfl) (pa_cons (pv 5) pa_nil)))) (pw_or1 (pt_cmpR (op_neD hr.units) (pv 5) (pv 4) (nomark _))))) (pss_one (ps_ret pe_non)) pss_nil)
  (pss_one (ps_ret (pv 4)))))))))))))), ?_⟩
    have hrl := IsU_len hU
    have hxl := hE.len
    have lm : (t.map V.int).length = t.length := List.length_map _
    walk_at "st"
    refine ⟨fun σ' H' => σ' = [some (.ref a), some (.int (t.length : Int)), none, none, none, none] ∧ H' = H, ?_, ?_⟩
    · walk_at "st"
      refine iteD (fun z => ?_) (fun z => ?_)
      · obtain ⟨us, e, rfl, he⟩ := IsU_last hU hn (fun k => by rw [k] at hxl; rw [hxl] at z; exact absurd z (by decide))
        obtain ⟨us2, v, rfl, _, hv⟩ := Ents.unsnoc hE
        obtain ⟨t0, p0, rfl, ht0, hp0⟩ := hv
        rw [he] at hp0
        have at0 : atI (us2 ++ [V.ref t0]) (-1) = some (.ref t0) := atI_lastN
        have at1 : atI [V.ref p0, V.int e.2] 0 = some (.ref p0) := AU.atN (j := 0) rfl rfl
        have at2 : atI (([(t.length : Int) - 1] : List Int).map V.int) 0 = some (.int ((t.length : Int) - 1)) := AU.atN (j := 0) rfl rfl
        walk_at "st"
        refine ⟨?_, rfl⟩
        rw [show (t.length : Int) - 1 + 1 = (t.length : Int) by omega]
        rfl
      · have hr0 : r = [] := nil_len (by rw [← hxl]; exact z)
        subst hr0
        have := IsU_nil_len hU hn
        subst this
        walk_at "st"
        exact ⟨rfl, rfl⟩
    rintro σ' H' ⟨rfl, rfl⟩
    walk_at "st"
    intro l1 nl1; generalize eH1 : upd _ l1 _ = H1; have s1 := AU.newS nl1 eH1; have hl1 := AU.newH eH1; clear eH1
    walk_at "st"
    refine ⟨l1, xs, r, t, rfl, hl1, hE.mono s1, hU, hn, hz, fun p H2 s2 np hp => ?_⟩
    walk_at "st"
    refine ⟨p, t, rfl, hp, ?_⟩
    walk_at "st"
    refine iteND (fun k => absurd (by rw [lm]) k) (fun _ => ?_)
    walk_at "st"
    refine neRow_ (s2 _ _ hl1) ((hE.mono s1).mono s2) (by walk_at "hl") ((hE.mono s1).mono s2) ?_
    walk_at "st"
    refine ⟨p, t, rfl, AU.sqL hp, hz, fun p3 ws3 r3 H3 s3 hp3 hE3 hU3 => ?_⟩
    have e3 : r3 = r := hU3.ext hU fun q => rfl
    subst e3
    walk_at "st"
    refine neRow_ hp3 hE3 (by walk_at "hl") (((hE.mono s1).mono s2).mono s3) ?_
    walk_at "st"
    intro l4 nl4; generalize eH4 : upd _ l4 _ = H4; have s4 := AU.newS nl4 eH4; have hl4 := AU.newH eH4; clear eH4
    walk_at "st"
    have hp3' : H3 p = some (.lst (t.map V.int)) := s3 _ _ hp
    have h13 : H3 l1 = some (.lst xs) := (s2.trans s3) _ _ hl1
    have n4p : l4 ≠ p := (ne_of_none hp3' nl4).symm
    have n41 : l4 ≠ l1 := (ne_of_none h13 nl4).symm
    have s5 : Same H1 (upd H4 p (.lst (t.map V.int ++ [.int 1]))) := AU.mutS (s2.trans (s3.trans s4)) np
    have hk5 : (upd H4 p (.lst (t.map V.int ++ [.int 1]))) l4 = some (.lst (t.map V.int)) := by rw [upd_ne n4p]; exact hl4
    generalize upd H4 p (.lst (t.map V.int ++ [.int 1])) = H5 at s5 hk5 ⊢
    have s05 := s1.trans s5
    refine neRow_ (s5 _ _ hl1) (hE.mono s05) (s05 _ _ ha) (hE.mono s05) ?_
    clear s2 s3 s4 hp np hl4 nl4 hp3 hE3 s05 hp3' h13 n4p
    walk_at "st"
    refine ⟨by walk_at "sz", fun t6 nt6 => ?_⟩; generalize eH6 : upd _ t6 _ = H6; have s6 := AU.newS nt6 eH6; have ht6 := AU.newH eH6; clear eH6
    walk_at "st"
    refine ⟨by walk_at "sz", fun t7 nt7 => ?_⟩; generalize eH7 : upd _ t7 _ = H7; have s7 := AU.newS nt7 eH7; have ht7 := AU.newH eH7; clear eH7
    walk_at "st"
    have s8 : Same H' (upd H7 l1 (.lst (xs ++ [.ref t7]))) := AU.mutS (s1.trans (s5.trans (s6.trans s7))) nl1
    have hk8 : (upd H7 l1 (.lst (xs ++ [.ref t7]))) l4 = some (.lst (t.map V.int)) := by rw [upd_ne n41]; exact s7 _ _ (s6 _ _ hk5)
    generalize upd H7 l1 (.lst (xs ++ [.ref t7])) = H8 at s8 hk8 ⊢
    clear s1 s5 s6 s7 hl1 nl1 nt6 nt7 ht6 ht7 hk5
    walk_at "st"
    intro l9 nl9; generalize eH9 : upd _ l9 _ = H9; have s9 := AU.newS nl9 eH9; have hl9 := AU.newH eH9; clear eH9
    walk_at "st"
    have s89 := s8.trans s9
    refine ⟨l9, xs, _, t, rfl, hl9, hE.mono s89, hU, hn, hz, fun p10 H10 s10 np10 hp10 => ?_⟩
    walk_at "st"
    refine ⟨p10, t, rfl, hp10, ?_⟩
    walk_at "st"
    have hk10 := s10 _ _ (s9 _ _ hk8)
    refine neLs_ hp10 hk10 ?_
    walk_at "st"
    exact q l4 H10 (s89.trans s10) hk10
def spValIs : Sp := fun vs H Q _ => ∃ (a : Addr) (ns : List Int) (x z : Int), vs = [.ref a, .int x, .int z] ∧ H a = some (.lst (ns.map V.int)) ∧ ns.length ≤ 20 ∧ x.natAbs ≤ 1000000000 ∧ z = valL x ns ∧ ∀ H', Same H H' → Q (.bl true) H'
theorem c__law_value_is {f : Addr} {fd : FuncData} (D : C8.Def K mg "_law_value_is" s__law_value_is f fd) (b : Binds K fd ["_law_numbers", "_law_at_here", "_law_expected"] []) (T : Bi mg) (c_fold_value : C8.Cal P w K mg base 1 "fold_value" (spFoldV K) []) (c__law_is_integer : C8.Cal P w K mg base 1 "_law_is_integer" spIsInt []) : C8.Cal P w K mg base 2 "_law_value_is" spValIs [] := by
  refine C8.cal0 D b .nil sc__law_value_is (fun vs H Q E h => ?_) (fun cdv A outer s H vs Q E hr h => ?_)
  · obtain ⟨a, ns, x, z, rfl, _⟩ := h
    rfl
  · obtain ⟨a, ns, x, z, rfl, ha, hz, hx, rfl, q⟩ := h
    refine ⟨_, (pss_cons (ps_set (i := 3) sc__law_value_is.nd rfl (Or.inl rfl) (pe_callTy call_list_of (by rfl) T.n_list OT.b_list (pa_cons (pv 0) pa_nil)))
  (pss_cons (ps_set (i := 4) sc__law_value_is.nd rfl (Or.inl rfl) (C8.pe_c c_fold_value hr (by decide) (by rfl) (pa_cons (pv 3) (pa_cons (pv 1) pa_nil))))
  (pss_cons (ps_if (PW.pt (pw_or (pt_not (pt_val (C8.pe_c c__law_is_integer hr (by decide) (by rfl) (pa_cons (pv 4) pa_nil)))) (pw_or (pt_cmpR op_ne (pv 4) (pv 2) (nomark _)) (pw_or1 (pt_cmpR (op_neD hr.units) (pv 3) (pv 0) (nomark _)))))) (pss_one (ps_ret pe_bl)) pss_nil)
  (pss_cons (ps_expr (pe_bm PySem.F.plainAttrs_list PySem.F.slot_list_append PySem.F.type_list_append mt_append (pv 3) (pa_cons pe_int pa_nil)))
  (pss_cons (ps_set (i := 5) sc__law_value_is.nd rfl (Or.inl rfl) (C8.pe_c c_fold_value hr (by decide) (by rfl) (pa_cons (pe_callTy call_list_of (by rfl) T.n_list OT.b_list (pa_cons (pv 0) pa_nil)) (pa_cons (pv 1) pa_nil))))
  (pss_one (ps_ret (pe_and (C8.pe_c c__law_is_integer hr (by decide) (by rfl) (pa_cons (pv 5) pa_nil)) (pe_one (pe_cmpR op_eq (pv 5) (pv 2) (nomark _))))))))))), ?_⟩
    have p64 : (2 : Int) ^ 64 = 18446744073709551616 := by decide
    walk_at "st"
    intro l1 nl1; generalize eH1 : upd _ l1 _ = H1; have s1 := AU.newS nl1 eH1; have hl1 := AU.newH eH1; clear eH1
    walk_at "st"
    refine ⟨l1, ns, x, rfl, AU.sqL hl1, by omega, by omega, fun H2 s2 => ?_⟩
    walk_at "st"
    refine ⟨_, rfl, ?_⟩
    walk_at "st"
    refine iteND (fun z => absurd rfl z) (fun _ => ?_)
    walk_at "st"
    refine neLs_ (s2 _ _ hl1) (by walk_at "hl") ?_
    walk_at "st"
    have s3 : Same H (upd H2 l1 (.lst (ns.map V.int ++ [.int 1]))) := AU.mutS (s1.trans s2) nl1
    generalize upd H2 l1 (.lst (ns.map V.int ++ [.int 1])) = H3 at s3 ⊢
    clear s1 s2 hl1 nl1
    walk_at "st"
    intro l4 nl4; generalize eH4 : upd _ l4 _ = H4; have s4 := AU.newS nl4 eH4; have hl4 := AU.newH eH4; clear eH4
    walk_at "st"
    refine ⟨l4, ns, x, rfl, AU.sqL hl4, by omega, by omega, fun H5 s5 => ?_⟩
    walk_at "st"
    refine ⟨_, rfl, ?_⟩
    walk_at "st"
    exact q _ (s3.trans (s4.trans s5))
def spTotal (K : PySem.W.Frag) : Sp := fun vs H Q _ => ∃ (a : Addr) (xs : List V) (r : List Ent) (c : Int), vs = [.ref a, .int (if c = -1 then 1 else 0)] ∧ SqL K H a xs ∧ Ents H xs r ∧ (∀ e ∈ r, e.1.length = 1) ∧ (c = 1 ∨ c = -1) ∧ Q (.int (sumW (alt c) r)) H
theorem c__law_total {f : Addr} {fd : FuncData} (D : C8.Def K mg "_law_total" s__law_total f fd) (b : Binds K fd ["_law_row_here", "_law_turned"] []) (T : Bi mg) : C8.Cal P w K mg base 1 "_law_total" (spTotal K) [] := by
  refine C8.cal0 D b .nil sc__law_total (fun vs H Q E h => ?_) (fun cdv A outer s H vs Q E hr h => ?_)
  · obtain ⟨a, xs, r, c, rfl, _⟩ := h
    rfl
  · obtain ⟨a, xs, r, c, rfl, hS, hE, hd, hc, q⟩ := h
    refine ⟨_, (pss_cons (ps_set (i := 2) sc__law_total.nd rfl (Or.inl rfl) pe_int)
  (pss_cons (ps_for PassesOwn.never rfl (pi_list (pv 0)) (pg_tup rfl (pgs_cons (pg_name (i := 3) sc__law_total.nd rfl (Or.inl rfl)) (pgs_cons (pg_name (i := 4) sc__law_total.nd rfl (Or.inl rfl)) pgs_nil))) (pss_one (ps_if (PW.pt (pw_and (pt_cmpR op_eq (pv 1) pe_int (nomark _)) (pw_and1 (pt_cmpR op_eq (pe_op op_mod (pe_callTy call_int1 (by rfl) T.n_int OT.b_int (pa_cons (pe_ix ix_tup (pv 3) pe_int (fun _ _ => rfl)) pa_nil)) pe_int) pe_int (nomark _))))) (pss_one (ps_set (i := 2) sc__law_total.nd rfl (Or.inl rfl) (pe_op op_sub (pv 2) (pv 4)))) (pss_one (ps_set (i := 2) sc__law_total.nd rfl (Or.inl rfl) (pe_op op_add (pv 2) (pv 4)))))))
  (pss_one (ps_ret (pv 2))))), ?_⟩
    obtain ⟨tn, htn⟩ : ∃ tn : Int, (if c = -1 then 1 else 0) = tn := ⟨_, rfl⟩
    rw [htn]
    walk_at "st"
    refine ⟨a, rfl, ⟨_, hS⟩, ?_⟩
    refine for_list (K := K) (xs := xs) (fun i σ H2 => ∃ y3 y4 : Option V, σ = [some (.ref a), some (.int tn), some (.int (sumW (alt c) (r.take i))), y3, y4] ∧ H2 = H) ⟨none, none, rfl, rfl⟩ (fun i σ H2 _ ⟨_, _, _, e⟩ => by rw [e]; exact hS) ?_ ?_
    · rintro i v σ H2 hx ⟨y3, y4, rfl, rfl⟩
      obtain ⟨e, he, t, p, rfl, ht, hp⟩ := hE.get hx
      obtain ⟨k, hk⟩ := FO.pl_one (hd e (List.mem_of_getElem? he))
      rw [hk] at hp
      have at0 : atI (([k] : List Int).map V.int) 0 = some (.int k) := AU.atN (j := 0) rfl rfl
      have htk : sumW (alt c) (r.take (i + 1)) = sumW (alt c) (r.take i) + e.2 * alt c [k] := by
        rw [take_snoc he, sumW_app, ← hk]
        show _ + (e.2 * alt c e.1 + 0) = _
        omega
      refine ⟨t, _, rfl, .inl (.inl ht), rfl, _, _, rfl, _, _, rfl, rfl, ?_⟩
      walk_at "st"
      refine iteD (fun z => ?_) (fun z => ?_)
      · have hc1 : c = -1 := by
          apply Classical.byContradiction
          intro z2
          rw [if_neg z2] at htn
          omega
        subst hc1
        walk_at "st"
        refine iteD (fun z2 => ?_) (fun z2 => ?_)
        · rw [alt_odd z2] at htk
          walk_at "st"
          refine ⟨some (.ref p), some (.int e.2), ?_, rfl⟩
          rw [htk, show sumW (alt (-1)) (r.take i) + e.2 * -1 = sumW (alt (-1)) (r.take i) - e.2 by omega]
          rfl
        · rw [alt_even z2] at htk
          walk_at "st"
          refine ⟨some (.ref p), some (.int e.2), ?_, rfl⟩
          rw [htk, Int.mul_one]
          rfl
      · have hc1 : c = 1 := by
          rcases hc with h | h
          · exact h
          · rw [if_pos h] at htn
            omega
        subst hc1
        rw [alt_one] at htk
        walk_at "st"
        refine ⟨some (.ref p), some (.int e.2), ?_, rfl⟩
        rw [htk, Int.mul_one]
        rfl
    · rintro σ H2 ⟨y3, y4, rfl, rfl⟩
      rw [hE.len, List.take_length]
      walk_at "st"
      exact q
def spValues : Sp := fun vs H Q _ => ∃ (a b : Addr) (r : List Ent) (t : List Int) (x : Int), vs = [.ref a, .ref b, .int x] ∧ FoR H a r t ∧ H b = some (.lst (t.map V.int)) ∧ t.length ≤ 16 ∧ x.natAbs ≤ 9 ∧ ∀ H', Same H H' → Q (.bl true) H'
theorem pow_abs {x : Int} (hx : x.natAbs ≤ 9) : ∀ i, i ≤ 16 → (x ^ i).natAbs < 2 ^ 64 := by
  have key : ∀ i : Nat, (x ^ i).natAbs ≤ 9 ^ i := fun i => by
    induction i with
    | zero => rw [Int.pow_zero]; decide
    | succ i ih =>
      rw [Int.pow_succ, Int.natAbs_mul, Nat.pow_succ]
      exact Nat.mul_le_mul ih hx
  intro i hi
  have h1 := key i
  have h2 : 9 ^ i ≤ 9 ^ 16 := Nat.pow_le_pow_right (by decide) hi
  have h3 : (9 : Nat) ^ 16 < 2 ^ 64 := by decide
  omega
theorem c__law_values {f : Addr} {fd : FuncData} (D : C8.Def K mg "_law_values" s__law_values f fd) (b : Binds K fd ["_law_row_here", "_law_numbers", "_law_at_here"] []) (T : Bi mg) (c__law_value_is : C8.Cal P w K mg base 2 "_law_value_is" spValIs []) (c__law_total : C8.Cal P w K mg base 1 "_law_total" (spTotal K) []) (c__law_value : C8.Cal P w K mg base 1 "_law_value" (spValue K) []) : C8.Cal P w K mg base 3 "_law_values" spValues [] := by
  refine C8.cal0 D b .nil sc__law_values (fun vs H Q E h => ?_) (fun cdv A outer s H vs Q E hr h => ?_)
  · obtain ⟨a, b, r, t, x, rfl, _⟩ := h
    rfl
  · obtain ⟨a, b, r, t, x, rfl, ⟨⟨xs, ha, hE⟩, hU, hn⟩, hb, hz, hx, q⟩ := h
    refine ⟨_, (pss_cons (ps_if (PW.pt (pw_or (pt_not (pt_val (C8.pe_c c__law_value_is hr (by decide) (by rfl) (pa_cons (pv 1) (pa_cons pe_int (pa_cons (C8.pe_c c__law_total hr (by decide) (by rfl) (pa_cons (pv 0) (pa_cons pe_int pa_nil))) pa_nil)))))) (pw_or1 (pt_not (pt_val (C8.pe_c c__law_value_is hr (by decide) (by rfl) (pa_cons (pv 1) (pa_cons (pe_un un_neg pe_int) (pa_cons (C8.pe_c c__law_total hr (by decide) (by rfl) (pa_cons (pv 0) (pa_cons pe_int pa_nil))) pa_nil))))))))) (pss_one (ps_ret pe_bl)) pss_nil)
  (pss_one (ps_ret (C8.pe_c c__law_value_is hr (by decide) (by rfl) (pa_cons (pv 1) (pa_cons (pv 2) (pa_cons (C8.pe_c c__law_value hr (by decide) (by rfl) (pa_cons (pv 1) (pa_cons (pv 2) pa_nil))) pa_nil))))))), ?_⟩
    walk_at "st"
    refine ⟨a, xs, r, 1, rfl, AU.sqL ha, hE, hU.d, .inl rfl, ?_⟩
    walk_at "st"
    refine ⟨b, t, 2, _, rfl, hb, by omega, by decide, IsU_total hU (c := 1) (.inl rfl), fun H1 s1 => ?_⟩
    walk_at "st"
    refine ⟨a, xs, r, -1, rfl, AU.sqL (s1 _ _ ha), hE.mono s1, hU.d, .inr rfl, ?_⟩
    walk_at "st"
    refine ⟨b, t, -2, _, rfl, s1 _ _ hb, by omega, by decide, IsU_total hU (c := -1) (.inr rfl), fun H2 s2 => ?_⟩
    walk_at "st"
    refine ⟨b, t, x, rfl, AU.sqL (by walk_at "hl"), fun i hi => pow_abs hx i (by omega), by omega, ?_⟩
    walk_at "st"
    refine ⟨b, t, x, _, rfl, by walk_at "hl", by omega, by omega, rfl, fun H3 s3 => ?_⟩
    walk_at "st"
    exact q _ (s1.trans (s2.trans s3))
end
end OT

set_option Elab.async false
set_option linter.all false
set_option maxRecDepth 100000
set_option maxHeartbeats 4000000
namespace OT
open PySem PySem.Spec PyProof.Rows L2
local macro_rules | `(tactic| walk_at "sm") => `(tactic| first | assumption | ((with_reducible show Same _ (upd _ _ _)); (refine' AU.mutS ?s ?h; (case h => assumption); (case s => walk_at "sm"))) | fail)
local macro_rules | `(tactic| walk_at "le") => `(tactic| first | (refine Nat.le_of_lt (AU.line ?_); (try simp only [List.length_append, List.length_map, List.length_cons, List.length_nil, List.length_take, List.length_replicate]); omega) | fail)
local macro_rules | `(tactic| walk_at "ll") => `(tactic| first | (show 0 < sizeLine; decide) | (show 1 < sizeLine; decide) | (show 2 < sizeLine; decide) | (show 3 < sizeLine; decide) | (refine AU.line ?_; (try simp only [List.length_append, List.length_map, List.length_cons, List.length_nil, List.length_take, List.length_replicate]); omega) | fail)
local macro_rules | `(tactic| walk_at "hl") => `(tactic| first | assumption | exact upd_same | (refine' AU.climb ?s ?h; (case s => walk_at "sm"); (case h => walk_at "hl")) | fail)
local macro_rules | `(tactic| walk_at "sl") => `(tactic| first | assumption | (refine' AU.sqL ?h; (case h => walk_at "hl")) | (refine' AU.sqLS ?s ?h; (case s => walk_at "sm"); (case h => walk_at "sl")) | fail)
local macro_rules | `(tactic| walk_at "tl") => `(tactic| first | assumption | (refine' AU.sqT ?h; (case h => walk_at "hl")) | (refine' AU.sqTS ?s ?h; (case s => walk_at "sm"); (case h => walk_at "tl")) | fail)
local macro_rules | `(tactic| walk_at "sz") => `(tactic| first | (show 0 ≤ sizeLine; decide) | (show 1 ≤ sizeLine; decide) | (show 2 ≤ sizeLine; decide) | (show 3 ≤ sizeLine; decide) | (show 4 ≤ sizeLine; decide) | (show 5 ≤ sizeLine; decide) | (show 6 ≤ sizeLine; decide) | (show 7 ≤ sizeLine; decide) | (show 8 ≤ sizeLine; decide) | (show 9 ≤ sizeLine; decide) | (show 10 ≤ sizeLine; decide) | fail)
local macro_rules | `(tactic| walk_at "ci") => `(tactic| first | exact trivial | omega | (show (0 : Int) < _; omega) | (show CMul _ _; exact .inl ⟨by omega, by omega⟩) | (show CMul _ _; exact .inr ⟨by omega, by omega⟩) | (show CMul _ _; exact .inr (AU.b01 _)) | (show CMul _ _; exact .inl (AU.b01 _)) | (show CDiv _ _; exact ⟨by omega, by omega⟩) | (show _ ≠ (0 : Int); omega) | (show CDiv _ _; exact ⟨by decide, by decide⟩) | fail)
local macro_rules | `(tactic| walk_at "hh") => `(tactic| first | assumption | (refine' OT.HeldF.mono ?s ?h; (case s => walk_at "sm"); (case h => walk_at "hh")) | fail)
local macro_rules | `(tactic| walk_at "tyx") => `(tactic| first | exact .base (.int _) | exact .base (.bl _) | exact .base (.str _) | exact .base (.lst (by walk_at "hl")) | exact .base (.tup (by walk_at "hl")) | fail)
local macro_rules | `(tactic| walk_at "st1") => `(tactic| first | ((with_reducible show tSeq _ _ _ _ _); (try simp only [List.set_cons_zero, List.set_cons_succ]); refine AU.seq_ ?_) | ((with_reducible show tAsg _ _ _ _ _); refine AU.asg_ ?_) | ((with_reducible show gName _ _ _ _ _); refine AU.name_ ?_) | ((with_reducible show tDrop _ _ _ _); refine AU.drop_ ?_) | ((with_reducible show tRet _ _ _ _); refine AU.ret_ ?_) | ((with_reducible show tRetN _ _ _); refine AU.retN_ ?_) | ((with_reducible show tNext _ _ _); refine AU.next_ ?_) | ((with_reducible show tBreak _ _ _); refine AU.brk_ ?_) | ((with_reducible show tCont _ _ _); refine AU.cont_ ?_) | ((with_reducible show tIfS _ _ _ _ _ _); refine AU.ifs_ ?_) | ((with_reducible show tAug _ _ _ _ _ _); refine AU.aug_ rfl ?_) | ((with_reducible show Ends.nx (Ends.mk _ _ _ _) _ _); refine AU.nxm ?_) | ((with_reducible show Ends.rt (Ends.mk _ _ _ _) _ _); refine AU.rtm ?_) | ((with_reducible show Ends.bk (Ends.mk _ _ _ _) _ _); refine AU.bkm ?_) | ((with_reducible show Ends.ct (Ends.mk _ _ _ _) _ _); refine AU.ctm ?_) | ((with_reducible show tVar _ _ _ _); refine AU.var_ rfl ?_) | ((with_reducible show tC _ _ _ _); refine AU.c_ ?_) | ((with_reducible show tOp _ _ _ _ _ _); refine AU.op_ ?_) | ((with_reducible show tUn _ _ _ _ _); refine AU.un_ ?_) | ((with_reducible show rU _ _ _ _); refine AU.u_ ?_) | ((with_reducible show rI0 _ _ _ _ _); refine AU.i0_ ?_) | ((with_reducible show rI _ _ _ _ _ _); refine AU.i_ (by walk_at "ci") ?_) | ((with_reducible show rEq (V.int _) (V.int _) _ _); first | (with_reducible refine AU.eqr_ ?_) | refine AU.eqi_ ?_) | ((with_reducible show rEq (V.str _) (V.str _) _ _); (with_reducible refine AU.eqs_ ?_)) | ((with_reducible show rNe (V.int _) (V.int _) _ _); refine AU.nei_ ?_) | ((with_reducible show rEq _ _ _ _); refine AU.eq_ rfl ?_) | ((with_reducible show rNe _ _ _ _); refine AU.ne_ rfl ?_) | ((with_reducible show tTest _ _ _ _); refine AU.test_ ?_) | ((with_reducible show tB _ _ _ _); refine AU.b_ ?_) | ((with_reducible show tAnd _ _ _ _ _); refine AU.and_ ?_) | ((with_reducible show tOr _ _ _ _ _); refine AU.or_ ?_) | ((with_reducible show tNot _ _ _ _); refine AU.not_ ?_) | ((with_reducible show tAndV _ _ _ _ _); refine AU.andV_ ?_) | ((with_reducible show tOrV _ _ _ _ _); refine AU.orV_ ?_) | ((with_reducible show tNotV _ _ _ _); refine AU.notV_ ?_) | ((with_reducible show tIf _ _ _ _ _ _); refine AU.if_ ?_) | ((with_reducible show tNil _ _ _); refine AU.nil_ ?_) | ((with_reducible show tCons _ _ _ _ _); refine AU.cons_ ?_) | ((with_reducible show tLst _ _ _ _); refine AU.lst_ ?_) | ((with_reducible show tTup _ _ _ _); refine AU.tup_ ?_) | ((with_reducible show tCall _ _ _ _ _ _ _); refine AU.call_ ?_) | ((with_reducible show tCallS _ _ _ _ _ _); refine AU.callS_ ?_) | ((with_reducible show tCB _ _ _ _ _); refine AU.cb_ ?_) | ((with_reducible show tBM _ _ _ _ _ _ _ _); refine AU.bm_ ?_) | ((with_reducible show rIxL _ _ _ _ _); refine AU.ixL_ (by walk_at "sl") (by first | assumption | rfl) ?_) | ((with_reducible show rIxT _ _ _ _ _); refine AU.ixT_ (by walk_at "tl") (by first | assumption | rfl) ?_) | ((with_reducible show Evl.rLenS _ _ _ _); first | refine AU.lenL_ (by walk_at "sl") ?_ | refine AU.lenT_ (by walk_at "tl") ?_) | ((with_reducible show rAppend (V.ref _) [_] _ _); refine AU.app_ (by walk_at "hl") (by walk_at "ll") ?_) | ((with_reducible show tyV _ _ (V.ref _) _ ∧ _); refine AU.tyl_ (by walk_at "sl") ?_) | ((with_reducible show rCat (V.ref _) (V.ref _) _ _); refine AU.cat_ (by walk_at "hl") (by walk_at "hl") (by walk_at "le") ?_) | ((with_reducible show tFor _ _ _ _ _ _); refine AU.for_ ?_) | ((with_reducible show tLc _ _ _ _ _ _ _ _); refine AU.lc_ ?_) | ((with_reducible show iRng1 _ _ _ _); refine AU.rng1_ ?_) | ((with_reducible show iList _ _ _ _ _); refine AU.list_ ?_) | ((with_reducible show iTup _ _ _ _ _); refine AU.itup_ ?_) | ((with_reducible show (∃ i, [V.bl _] = [V.int i] ∧ _) ∨ _); refine AU.intb_ ?_) | ((with_reducible show (∃ i, [V.int _] = [V.int i] ∧ _) ∨ _); refine AU.inti_ ?_) | ((with_reducible show tYes _ _ _); refine AU.yes_ ?_) | ((with_reducible show ∃ p ys, [V.ref _] = [V.ref p] ∧ (SqL _ _ p ys ∨ SqT _ _ p ys) ∧ _); first | refine AU.listof_ (by walk_at "sl") ?_ | refine AU.listofT_ (by walk_at "tl") ?_) | ((with_reducible show ∃ p ys, [V.ref _] = [V.ref p] ∧ ((SqL _ _ p ys ∧ _) ∨ (SqT _ _ p ys ∧ _))); first | refine AU.tupleof_ (by walk_at "sl") ?_ | refine AU.tupleofT_ (by walk_at "tl") ?_) | ((with_reducible show V.non = V.non ∧ _); refine ⟨rfl, ?_⟩) | ((with_reducible show OT.rIsX _ _ _ _ [V.ref _, _] _ _); refine OT.isX_ (by walk_at "hh") (by first | exact .own _ | exact .ty _) (by assumption) ?_) | ((with_reducible show OT.tFA _ _ _ _ _ _ _ _ _); refine OT.fA_ ?_) | ((with_reducible show OT.tCallE _ _ _ _ _ _ _ _); refine OT.callE_ ?_) | ((with_reducible show rIsi _ [_, _] _ _); refine OT.isi_ (by first | exact .own _ | exact .ty _) (by walk_at "tyx") (by first | assumption | exact kit_ty OT.kq_int_int | exact kit_ty OT.kq_int_bool | exact kit_ty OT.kq_bool_bool | exact kit_ty OT.kq_bool_int | exact kit_ty OT.kq_str_str | exact kit_ty OT.kq_tuple_tuple | exact kit_ty OT.kq_list_list | exact kit_ty OT.kq_list_tuple | exact kit_ty OT.kq_tuple_list | exact kit_ty OT.kq_list_int | exact kit_ty OT.kq_tuple_int | exact kit_ty OT.kq_list_bool | exact kit_ty OT.kq_tuple_bool | exact kit_ty OT.kq_str_int | exact kit_ty OT.kq_int_str | exact kit_ty OT.kq_int_list | exact kit_ty OT.kq_int_tuple | exact kit_ty OT.kq_bool_list | exact kit_ty OT.kq_bool_tuple) ?_) | ((with_reducible show ∃ k, V.bl _ = V.bl k ∧ _); refine AU.bool_ ?_) | ((with_reducible show tSl _ _ _ _ _ _ _); refine AU.sl_ ?_) | ((with_reducible show tNoPart _ _ _); refine AU.npart_ ?_) | ((with_reducible show tPart _ _ _ _); refine AU.part_ ?_) | ((with_reducible show ∃ k, V.int _ = V.int k ∧ rSlL _ _ _ (some k) _ _); refine AU.int1_ ?_) | ((with_reducible show rSlL _ (V.ref _) _ _ _ _); refine AU.slL_ (by walk_at "sl") ?_) | ((with_reducible refine AU.trueT ?_)) | ((with_reducible refine AU.refNon ?_)) | ((with_reducible refine AU.nonNon ?_)) | ((with_reducible refine AU.trueN ?_)) | ((with_reducible refine AU.falseN ?_)) | ((with_reducible refine AU.falseF ?_)) | fail)
local macro_rules | `(tactic| walk_at "st") => `(tactic| repeat walk_at "st1")
theorem tri_bound {t : List Int} (ht : t.length = 8) (h : ∀ q, (FO.U 0 t q).natAbs ≤ 96) : ∀ z ∈ t, z.natAbs ≤ 30000 := by
  match t, ht with
  | [t0, t1, t2, t3, t4, t5, t6, t7], _ =>
    have e7 : FO.U 0 [t0, t1, t2, t3, t4, t5, t6, t7] 7 = t0 * 0 + (t1 * 0 + (t2 * 0 + (t3 * 0 + (t4 * 0 + (t5 * 0 + (t6 * 0 + (t7 * 1 + 0))))))) := rfl
    have e6 : FO.U 0 [t0, t1, t2, t3, t4, t5, t6, t7] 6 = t0 * 0 + (t1 * 0 + (t2 * 0 + (t3 * 0 + (t4 * 0 + (t5 * 0 + (t6 * 1 + (t7 * 0 + 0))))))) := rfl
    have e5 : FO.U 0 [t0, t1, t2, t3, t4, t5, t6, t7] 5 = t0 * 0 + (t1 * 0 + (t2 * 0 + (t3 * 0 + (t4 * 0 + (t5 * 1 + (t6 * 0 + (t7 * 7 + 0))))))) := rfl
    have e4 : FO.U 0 [t0, t1, t2, t3, t4, t5, t6, t7] 4 = t0 * 0 + (t1 * 0 + (t2 * 0 + (t3 * 0 + (t4 * 1 + (t5 * 0 + (t6 * 6 + (t7 * 0 + 0))))))) := rfl
    have e3 : FO.U 0 [t0, t1, t2, t3, t4, t5, t6, t7] 3 = t0 * 0 + (t1 * 0 + (t2 * 0 + (t3 * 1 + (t4 * 0 + (t5 * 5 + (t6 * 0 + (t7 * 21 + 0))))))) := rfl
    have e2 : FO.U 0 [t0, t1, t2, t3, t4, t5, t6, t7] 2 = t0 * 0 + (t1 * 0 + (t2 * 1 + (t3 * 0 + (t4 * 4 + (t5 * 0 + (t6 * 15 + (t7 * 0 + 0))))))) := rfl
    have e1 : FO.U 0 [t0, t1, t2, t3, t4, t5, t6, t7] 1 = t0 * 0 + (t1 * 1 + (t2 * 0 + (t3 * 3 + (t4 * 0 + (t5 * 10 + (t6 * 0 + (t7 * 35 + 0))))))) := rfl
    have e0 : FO.U 0 [t0, t1, t2, t3, t4, t5, t6, t7] 0 = t0 * 1 + (t1 * 0 + (t2 * 2 + (t3 * 0 + (t4 * 6 + (t5 * 0 + (t6 * 20 + (t7 * 0 + 0))))))) := rfl
    have h7 := h 7
    have h6 := h 6
    have h5 := h 5
    have h4 := h 4
    have h3 := h 3
    have h2 := h 2
    have h1 := h 1
    have h0 := h 0
    rw [e7] at h7
    rw [e6] at h6
    rw [e5] at h5
    rw [e4] at h4
    rw [e3] at h3
    rw [e2] at h2
    rw [e1] at h1
    rw [e0] at h0
    intro z hz
    clear e0 e1 e2 e3 e4 e5 e6 e7 h
    have b7 : t7.natAbs ≤ 96 := by omega
    have b6 : t6.natAbs ≤ 96 := by omega
    have b5 : t5.natAbs ≤ 768 := by omega
    have b4 : t4.natAbs ≤ 672 := by omega
    have b3 : t3.natAbs ≤ 5952 := by omega
    have b2 : t2.natAbs ≤ 4224 := by omega
    have b1 : t1.natAbs ≤ 29000 := by omega
    have b0 : t0.natAbs ≤ 29000 := by omega
    clear h0 h1 h2 h3 h4 h5 h6 h7
    simp only [List.mem_cons, List.not_mem_nil, or_false] at hz
    rcases hz with rfl | rfl | rfl | rfl | rfl | rfl | rfl | rfl <;> omega
theorem mir_num : ∀ {es : List Ent}, (∀ e ∈ es, e.1.length = 1) → ∀ q, numAt (mirL es) [q] = numAt es [-q]
  | [], _, q => rfl
  | e :: es, h, q => by
    have ih := mir_num (es := es) (fun y hy => h y (List.mem_cons_of_mem _ hy)) q
    obtain ⟨x, hx⟩ := FO.pl_one (h e List.mem_cons_self)
    show (if negP e.1 = [q] then e.2 else 0) + numAt (mirL es) [q] = (if e.1 = [-q] then e.2 else 0) + numAt es [-q]
    rw [ih, hx]
    show (if [-x] = [q] then e.2 else 0) + _ = _
    by_cases c : -x = q
    · rw [if_pos (by rw [c]), if_pos (by rw [← c, Int.neg_neg])]
    · rw [if_neg (fun z => c (List.cons.inj z).1), if_neg (fun z => c (by have := (List.cons.inj z).1; omega))]
/-- a row and its mirror fold -/
theorem IsU_mir {R m r : List Ent} (hR : DrawnR 1 4 (4 + 3) (4 * 3) R) (hm : RowIs m (mirL R)) (hr : RowIs r (R ++ m)) : ∃ t, FO.IsU r t ∧ lastN t = t.length ∧ t.length ≤ 8 ∧ ∀ z ∈ t, z.natAbs ≤ 30000 := by
  have num : ∀ q, numAt r [q] = numAt R [q] + numAt R [-q] := fun q => by rw [hr.s, numAt_app, hm.s, mir_num hR.n]
  have out : ∀ q : Int, 8 ≤ q.natAbs → numAt R [q] = 0 := fun q hq => numAt_out fun e he z => by
    have := hR.c e he q (by rw [z]; exact List.mem_cons_self)
    omega
  have bnd : ∀ q : Int, (numAt R [q]).natAbs ≤ 48 := fun q => by
    have h1 := numAt_bound hR.u [q]
    have h2 := hR.m
    exact Nat.le_trans h1 (Nat.mul_le_mul_right _ h2)
  obtain ⟨t, ht, hU⟩ := FO.tri 8 (fun q => numAt r [q]) (fun q => by
    show numAt r [-q] = numAt r [q]
    rw [num, num, Int.neg_neg]
    omega) (fun q hq => by
    show numAt r [q] = 0
    rw [num, out q (by omega), out (-q) (by omega)]
    rfl)
  have dR : ∀ e ∈ r, e.1.length = 1 := dim_of hr fun e he => by
    rcases List.mem_append.mp he with he | he
    · exact hR.n e he
    · exact dim_of hm (fun e he => by
        obtain ⟨x, hx, rfl⟩ := List.mem_map.mp he
        show (negP x.1).length = 1
        rw [negP_len, hR.n x hx]) e he
  have hIs : FO.IsU r t := ⟨hr.v, dR, hU⟩
  refine ⟨stripL t, IsU_strip hIs, strip_norm t, by have := strip_len t; omega, fun z hz => tri_bound ht (fun q => ?_) z (strip_mem hz)⟩
  rw [← hU]
  show (numAt r [q]).natAbs ≤ 96
  rw [num]
  have h1 := bnd q
  have h2 := bnd (-q)
  omega
theorem WideR.mono {H H' : Hp} {a : Addr} {xs : List V} {r : List Ent} {n : Nat} (s : Same H H') (h : WideR H a xs r n) : WideR H' a xs r n := { h with a := s _ _ h.a, e := h.e.mono s }
section
variable {P : Program} {w : World} {K : PySem.W.Frag} {mg : Str → Option Value} {base : Heap}
def spSymRow : Sp := fun vs H Q _ => ∃ k c : Int, vs = [.int k, .int c] ∧ ∀ p r t H', Same H H' → FoR H' p r t → t.length ≤ 8 → (∀ z ∈ t, z.natAbs ≤ 30000) → Q (.ref p) H'
theorem c__law_symmetric_row {f : Addr} {fd : FuncData} (D : C8.Def K mg "_law_symmetric_row" s__law_symmetric_row f fd) (b : Binds K fd ["_law_kind", "_law_cell_here"] []) (T : Bi mg) (c__law_draws : C8.Cal P w K mg base 1 "_law_draws" (spDraws K) []) (c__law_unfolded : C8.Cal P w K mg base 3 "_law_unfolded" (spUnfd K) []) (c__law_drawn : C8.Cal P w K mg base 3 "_law_drawn" (spDrawn K) [])
    (c__law_add : C8.Cal P w K mg base 2 "_law_add" spAdd []) (c__law_mirror : C8.Cal P w K mg base 2 "_law_mirror" spMir []) : C8.Cal P w K mg base 4 "_law_symmetric_row" spSymRow [] := by
  refine C8.cal0 D b .nil sc__law_symmetric_row (fun vs H Q E h => ?_) (fun cdv A outer s H vs Q E hr h => ?_)
  · obtain ⟨k, c, rfl, _⟩ := h
    rfl
  · obtain ⟨k, c, rfl, q⟩ := h
    refine ⟨_, (pss_cons (ps_if (pt_cmpR op_eq (pv 0) pe_int (nomark _)) (pss_cons (ps_set (i := 3) sc__law_symmetric_row.nd rfl (Or.inr rfl) (C8.pe_c c__law_draws hr (by decide) (by rfl) (pa_cons (pv 1) (pa_cons (pe_lst (pa_cons pe_int (pa_cons pe_int (pa_cons pe_int (pa_cons pe_int (pa_cons pe_int (pa_cons pe_int (pa_cons pe_int (pa_cons pe_int pa_nil))))))))) pa_nil))))
  (pss_one (ps_ret (C8.pe_c c__law_unfolded hr (by decide) (by rfl) (pa_cons (pe_lc (own := [("_law_k", 4)]) (g := (gName 4)) (tt := tYes) rfl sc__law_symmetric_row.nd (pi_range1 rfl T.n_range (pa_cons (pe_ix ix_list (pv 3) pe_int (fun _ _ => rfl)) pa_nil)) (blkOk_by (N := ["_law_kind", "_law_cell_here", "_law_row_here", "_law_draws_here", "_law_k"]) (sc := C8.fnScope s__law_symmetric_row) (by decide +kernel)) (fun _ _ _ _ _ => (pg_name (i := 4) sc__law_symmetric_row.nd rfl (Or.inl rfl))) (fun _ _ _ _ _ => pts_nil) (fun _ _ _ _ _ => (pe_op op_sub (pe_ix (show IxR _ (rIxL K) from ix_list) (pv 3) (pe_op op_add (pv 4) pe_int) (fun _ _ => rfl)) pe_int))) pa_nil))))) pss_nil)
  (pss_cons (ps_set (i := 2) sc__law_symmetric_row.nd rfl (Or.inl rfl) (C8.pe_c c__law_drawn hr (by decide) (by rfl) (pa_cons (pv 1) (pa_cons (pe_lst (pa_cons pe_int pa_nil)) (pa_cons pe_int (pa_cons pe_int pa_nil))))))
  (pss_one (ps_ret (C8.pe_c c__law_add hr (by decide) (by rfl) (pa_cons (pv 2) (pa_cons (C8.pe_c c__law_mirror hr (by decide) (by rfl) (pa_cons (pv 2) pa_nil)) pa_nil))))))), ?_⟩
    walk_at "st"
    refine iteD (fun z => ?_) (fun z => ?_)
    · walk_at "st"
      refine ⟨by walk_at "sz", fun l1 nl1 => ?_⟩; generalize eH1 : upd _ l1 _ = H1; have s1 := AU.newS nl1 eH1; have hl1 := AU.newH eH1; clear eH1
      walk_at "st"
      refine ⟨l1, [8, 9, 9, 9, 9, 9, 9, 9], c, rfl, AU.sqL hl1, by decide, by decide, fun ds H2 dp hin s2 ndp hdp => ?_⟩
      obtain ⟨d0, g0, a0, b0⟩ := hin.at 0 rfl
      have at0 : atI (ds.map V.int) 0 = some (.int d0) := AU.atN (j := 0) rfl g0
      obtain ⟨n, rfl⟩ := Int.eq_ofNat_of_zero_le a0
      walk_at "st"
      refine ⟨_, rfl, by omega, by omega, fun D3 nD3 => ?_⟩
      rw [Int.toNat_natCast]
      refine lc_range (lo := 0) (n := n) (AU.IntsAt H2 D3 fun k z => z.natAbs ≤ 4) (AU.IntsAt.start nD3) ?_ ?_
      · intro i H4 hi hP
        have nine : ∀ i : Nat, i < 7 → ([8, 9, 9, 9, 9, 9, 9, 9] : List Int)[i + 1]? = some 9 := by decide
        obtain ⟨d, g, a1, b1⟩ := hin.at (i + 1) (nine i (by omega))
        have at1 : atI (ds.map V.int) ((0 : Int) + (i : Int) + 1) = some (.int d) := AU.atN (j := i + 1) (by omega) g
        have sP := hP.1
        walk_at "st"
        refine ⟨rfl, ?_⟩
        walk_at "st"
        exact hP.step nD3 (Same.refl _) (by omega) (by omega)
      rintro H4 ⟨s4, zs, hzs, hzl, hzb⟩
      have hzb := ints_mem (R := fun z => z.natAbs ≤ 4) hzb
      walk_at "st"
      refine ⟨D3, zs, rfl, AU.sqL hzs, by omega, fun p ws r H5 s5 hp hE hU => ?_⟩
      walk_at "st"
      exact q p r (stripL zs) H5 ((s1.trans s2).trans (s4.trans s5)) ⟨⟨ws, hp, hE⟩, IsU_strip hU, strip_norm zs⟩ (by have := strip_len zs; omega) fun z hz => by have := hzb z (strip_mem hz); omega
    · walk_at "st"
      refine ⟨by walk_at "sz", fun l1 nl1 => ?_⟩; generalize eH1 : upd _ l1 _ = H1; have s1 := AU.newS nl1 eH1; have hl1 := AU.newH eH1; clear eH1
      walk_at "st"
      have ok : BoxOk 4 [4] := ⟨by decide, by decide, fun i => by
        have : ∀ i : Nat, i ≤ 1 → pr (([4] : List Nat).take i) ≤ 64000 := by decide
        by_cases c : i ≤ 1
        · exact this i c
        · rw [List.take_of_length_le (by show 1 ≤ i; omega)]
          exact this 1 (Nat.le_refl _)⟩
      refine ⟨c, l1, [4], 3, 3, 4, rfl, AU.sqL hl1, ok, by decide, by decide, by decide, by decide, by decide, fun p ws R H2 s2 np hp hE hD => ?_⟩
      have hD1 : DrawnR 1 4 (4 + 3) (4 * 3) R := hD
      have hA : Lst H2 p ws R := ⟨hp, hE, by have := hD1.m; omega, fun e he z => by
        have := hD1.n e he
        rw [z] at this
        cases this⟩
      walk_at "st"
      refine ⟨p, ws, R, rfl, hA, fun e he => by rw [hD1.n e he]; decide, fun m p3 ws3 H3 hm s3 np3 hp3 hE3 => ?_⟩
      have dm : ∀ e ∈ m, e.1.length = 1 := dim_of hm fun e he => by
        obtain ⟨x, hx, rfl⟩ := List.mem_map.mp he
        show (negP x.1).length = 1
        rw [negP_len, hD1.n x hx]
      have lmm : m.length ≤ 4 := by
        have h1 := hm.len
        unfold mirL at h1
        rw [List.length_map] at h1
        have := hD1.m
        omega
      walk_at "st"
      refine ⟨p, p3, ws, ws3, R, m, rfl, hA.mono s3, ⟨hp3, hE3, by omega, fun e he z => ?_⟩, fun r p4 ws4 H4 hr4 s4 np4 hp4 hE4 => ?_⟩
      · have := dm e he
        rw [z] at this
        cases this
      obtain ⟨t, hU, hn, hl, hb⟩ := IsU_mir hD1 hm hr4
      walk_at "st"
      exact q p4 r t H4 ((s1.trans s2).trans (s3.trans s4)) ⟨⟨ws4, hp4, hE4⟩, hU, hn⟩ hl hb
def spRefus : Sp := fun vs H Q _ => ∃ (a d : Addr) (c : Int) (r : List Ent) (t ds : List Int), vs = [.ref a, .ref d, .int c] ∧ FoR H a r t ∧ t.length ≤ 20 ∧ H d = some (.lst (ds.map V.int)) ∧ InR ds [8, 2, 2, 19, 16, 2] ∧ ∀ H', Same H H' → Q (.bl true) H'
theorem c__law_refusals {f : Addr} {fd : FuncData} (D : C8.Def K mg "_law_refusals" s__law_refusals f fd) (b : Binds K fd ["_law_first", "_law_draws_here", "_law_cell_here"] []) (T : Bi mg) (c__law_row : C8.Cal P w K mg base 1 "_law_row" (spGather K) []) (c__law_not_symmetric : C8.Cal P w K mg base 7 "_law_not_symmetric" spNotSym []) (c__law_drawn : C8.Cal P w K mg base 3 "_law_drawn" (spDrawn K) [])
    (c__law_box : C8.Cal P w K mg base 1 "_law_box" (spBox K) []) (c__law_zero : C8.Cal P w K mg base 1 "_law_zero" spZero []) (c__law_one_direction_only : C8.Cal P w K mg base 7 "_law_one_direction_only" spOneDir []) : C8.Cal P w K mg base 8 "_law_refusals" spRefus [] := by
  refine C8.cal0 D b .nil sc__law_refusals (fun vs H Q E h => ?_) (fun cdv A outer s H vs Q E hr h => ?_)
  · obtain ⟨a, d, c, r, t, ds, rfl, _⟩ := h
    rfl
  · obtain ⟨a, d, c, r, t, ds, rfl, ⟨⟨xs, ha, hE⟩, hU, hn⟩, hz, hd, hin, q⟩ := h
    refine ⟨_, (pss_cons (ps_if (pt_cmpR op_eq (pe_ix ix_list (pv 1) pe_int (fun _ _ => rfl)) pe_int (nomark _)) (pss_cons (ps_set (i := 3) sc__law_refusals.nd rfl (Or.inl rfl) (pe_op op_add (pe_op op_sub (pe_ix ix_list (pv 1) pe_int (fun _ _ => rfl)) pe_int) (pe_callTy call_int1 (by rfl) T.n_int OT.b_int (pa_cons (pe_cmpR op_ge (pe_ix ix_list (pv 1) pe_int (fun _ _ => rfl)) pe_int (nomark _)) pa_nil))))
  (pss_cons (ps_set (i := 4) sc__law_refusals.nd rfl (Or.inl rfl) (C8.pe_c c__law_row hr (by decide) (by rfl) (pa_cons (pe_op op_cat (pv 0) (pe_lst (pa_cons (pe_tup (pa_cons (pe_tup (pa_cons (pv 3) pa_nil)) (pa_cons (pe_op op_sub (pe_op op_mul pe_int (pe_ix ix_list (pv 1) pe_int (fun _ _ => rfl))) pe_int) pa_nil))) pa_nil))) pa_nil)))
  (pss_one (ps_ret (pe_and (C8.pe_c c__law_not_symmetric hr (by decide) (by rfl) (pa_cons (pv 4) pa_nil)) (pe_one (C8.pe_c c__law_not_symmetric hr (by decide) (by rfl) (pa_cons (pv 4) pa_nil)))))))) pss_nil)
  (pss_cons (ps_if (pt_cmpR op_eq (pe_ix ix_list (pv 1) pe_int (fun _ _ => rfl)) pe_int (nomark _)) (pss_cons (ps_set (i := 5) sc__law_refusals.nd rfl (Or.inl rfl) (C8.pe_c c__law_drawn hr (by decide) (by rfl) (pa_cons (pv 2) (pa_cons (C8.pe_c c__law_box hr (by decide) (by rfl) (pa_cons (pe_op op_add pe_int (pe_ix ix_list (pv 1) pe_int (fun _ _ => rfl))) (pa_cons pe_int pa_nil))) (pa_cons pe_int (pa_cons pe_int pa_nil))))))
  (C8.pss_cut (ps_if (pt_cmpR op_eq (pe_callB call_len_seq (by rfl) T.n_len OT.b_len (pa_cons (pv 5) pa_nil)) pe_int (nomark _)) (pss_one (ps_set (i := 5) sc__law_refusals.nd rfl (Or.inl rfl) (pe_lst (pa_cons (pe_tup (pa_cons (C8.pe_c c__law_zero hr (by decide) (by rfl) (pa_cons (pe_op op_add pe_int (pe_ix ix_list (pv 1) pe_int (fun _ _ => rfl))) pa_nil)) (pa_cons pe_int pa_nil))) pa_nil)))) pss_nil)
  (pss_one (ps_ret (pe_and (C8.pe_c c__law_one_direction_only hr (by decide) (by rfl) (pa_cons (pv 5) pa_nil)) (pe_one (C8.pe_c c__law_one_direction_only hr (by decide) (by rfl) (pa_cons (pv 5) pa_nil)))))))) pss_nil)
  (pss_one (ps_ret pe_bl)))), ?_⟩
    obtain ⟨d0, g0, a0, b0⟩ := hin.at 0 rfl
    obtain ⟨d4, g4, a4, b4⟩ := hin.at 4 rfl
    obtain ⟨d5, g5, a5, b5⟩ := hin.at 5 rfl
    have at0 : atI (ds.map V.int) 0 = some (.int d0) := AU.atN (j := 0) rfl g0
    have at4 : atI (ds.map V.int) 4 = some (.int d4) := AU.atN (j := 4) rfl g4
    have at5 : atI (ds.map V.int) 5 = some (.int d5) := AU.atN (j := 5) rfl g5
    obtain ⟨k, rfl⟩ := Int.eq_ofNat_of_zero_le a5
    have hrl := IsU_len hU
    have hxl := hE.len
    walk_at "st"
    refine iteD (fun z => ?_) (fun z => ?_)
    · obtain ⟨x, hx, hx0, hx8⟩ : ∃ x : Int, d4 - 8 + (if decide (8 ≤ d4) = true then 1 else 0) = x ∧ x ≠ 0 ∧ x.natAbs ≤ 8 := by
        refine ⟨_, rfl, ?_⟩
        by_cases z : 8 ≤ d4
        · rw [decide_eq_true z, if_pos rfl]; omega
        · rw [decide_eq_false z, if_neg (by decide)]; omega
      walk_at "st"
      rw [hx]
      walk_at "st"
      refine ⟨by walk_at "sz", fun t3 nt3 => ?_⟩; generalize eH3 : upd _ t3 _ = H3; have s3 := AU.newS nt3 eH3; have ht3 := AU.newH eH3; clear eH3
      walk_at "st"
      refine ⟨by walk_at "sz", fun t4 nt4 => ?_⟩; generalize eH4 : upd _ t4 _ = H4; have s4 := AU.newS nt4 eH4; have ht4 := AU.newH eH4; clear eH4
      walk_at "st"
      refine ⟨by walk_at "sz", fun l7 nl7 => ?_⟩; generalize eH7 : upd _ l7 _ = H7; have s7 := AU.newS nl7 eH7; have hl7 := AU.newH eH7; clear eH7
      walk_at "st"
      intro l8 nl8; generalize eH8 : upd _ l8 _ = H8; have s8 := AU.newS nl8 eH8; have hl8 := AU.newH eH8; clear eH8
      walk_at "st"
      have hX : Ents H8 [.ref t4] [([x], 2 * (k : Int) - 1)] := .cons ⟨t4, t3, rfl, by walk_at "hl", by walk_at "hl"⟩ .nil
      have s08 := s3.trans (s4.trans (s7.trans s8))
      refine ⟨l8, _, r ++ [([x], 2 * (k : Int) - 1)], rfl, ⟨AU.sqL hl8, (hE.mono s08).app hX, ?_⟩, fun e he z => ?_, ?_⟩
      · rw [List.length_append]
        exact small100k (by show r.length + 1 ≤ 100000; omega)
      · rcases List.mem_append.mp he with he | he
        · have := hU.d e he
          rw [z] at this
          cases this
        · rw [List.mem_singleton.mp he] at z
          cases z
      intro sp p ws H9 hs s9 np9 hp9 hE9
      have hs2 : RowIs sp (r ++ [([x], 2 * (k : Int) - 1), ([100], 0)]) := ⟨hs.v, fun q => by
        rw [hs.s, numAt_app, numAt_app]
        show _ + (_ + 0) = _ + (_ + ((if [100] = q then (0 : Int) else 0) + 0))
        rw [ite_self]
        rfl⟩
      obtain ⟨k1, e0, k2⟩ := spoilt_bad hU hs2 hx0 (by omega) (by omega) (by omega)
      have := hs.len
      rw [List.length_append, List.length_singleton] at this
      walk_at "st"
      refine ⟨p, ws, sp, e0, rfl, hp9, hE9, hs.v, k1, by omega, k2, fun H12 s12 => ?_⟩
      walk_at "st"
      refine ⟨p, ws, sp, e0, rfl, s12 _ _ hp9, hE9.mono s12, hs.v, k1, by omega, k2, fun H13 s13 => ?_⟩
      walk_at "st"
      exact q _ ((s08.trans s9).trans (s12.trans s13))
    walk_at "st"
    refine iteD (fun z2 => ?_) (fun z2 => ?_)
    · walk_at "st"
      refine ⟨k + 1, 2, (by rw [show ((k + 1 : Nat) : Int) = 1 + (k : Int) by omega]; rfl), by omega, fun pb bs H3 hbs hbl s3 hpb => ?_⟩
      have ok : BoxOk 2 bs ∧ pr bs ≤ 8 := by
        have small : ∀ bs : List Nat, (bs.length ≤ 3 ∧ ∀ n ∈ bs, n ≤ 2) → (∀ i, i ≤ bs.length → pr (bs.take i) ≤ 64000) → BoxOk 2 bs := fun bs h hp => ⟨h.1, h.2, fun i => by
          by_cases c : i ≤ bs.length
          · exact hp i c
          · have := hp bs.length (Nat.le_refl _)
            rw [List.take_length] at this
            rw [List.take_of_length_le (by omega)]
            exact this⟩
        rcases hbs with rfl | rfl | rfl
        · exact ⟨small [2] (by decide) (by decide), by decide⟩
        · exact ⟨small [2, 2] (by decide) (by decide), by decide⟩
        · exact ⟨small [2, 2, 2] (by decide) (by decide), by decide⟩
      walk_at "st"
      refine ⟨c, pb, bs, 3, 4, 2, rfl, AU.sqL hpb, ok.1, by decide, by omega, by omega, by decide, by decide, fun p ws R H4 s4 np hp hER hD => ?_⟩
      have hn2 : bs.length = k + 2 := by omega
      have dn : ∀ e ∈ R, e.1.length = k + 2 := by have := hD.n; rwa [hn2] at this
      have hwl := hER.len
      have hd4 := (s3.trans s4) _ _ hd
      walk_at "st"
      refine ⟨fun σ' H' => ∃ p xs R, σ' = [some (.ref a), some (.ref d), some (.int c), none, none, some (.ref p)] ∧ Same H4 H' ∧ WideR H' p xs R (k + 2), ?_, ?_⟩
      · walk_at "st"
        refine iteD (fun h0 => ?_) (fun h0 => ?_)
        · walk_at "st"
          refine ⟨k + 2, (by rw [show ((k + 2 : Nat) : Int) = 2 + (k : Int) by omega]; rfl), by omega, fun pz H6 s6 hpz => ?_⟩
          walk_at "st"
          refine ⟨by walk_at "sz", fun t nt => ?_⟩; generalize eH7 : upd _ t _ = H7; have s7 := AU.newS nt eH7; have ht := AU.newH eH7; clear eH7
          walk_at "st"
          refine ⟨by walk_at "sz", fun l nl => ?_⟩; generalize eH8 : upd _ l _ = H8; have s8 := AU.newS nl eH8; have hl := AU.newH eH8; clear eH8
          walk_at "st"
          have zl : (zeros (k + 2)).length = k + 2 := List.length_replicate
          exact ⟨l, _, [(zeros (k + 2), 1)], rfl, s6.trans (s7.trans s8), ⟨hl, .cons ⟨t, pz, rfl, s8 _ _ ht, s8 _ _ (s7 _ _ hpz)⟩ .nil, ⟨List.pairwise_singleton _ _, fun e he => by rw [List.mem_singleton.mp he]; show (1 : Int) ≠ 0; decide⟩, (by intro z; cases z), fun e he => by rw [List.mem_singleton.mp he]; exact zl, by omega, by omega, (by show 1 ≤ 100; decide)⟩⟩
        · walk_at "st"
          exact ⟨p, ws, R, rfl, Same.refl _, ⟨hp, hER, hD.v, fun z => h0 (by rw [hwl, z]; rfl), dn, by omega, by omega, by have := hD.m; omega⟩⟩
      rintro σ' H5 ⟨p5, xs5, R5, rfl, s5, hW⟩
      walk_at "st"
      refine ⟨p5, xs5, R5, _, rfl, hW, fun H16 s16 => ?_⟩
      walk_at "st"
      refine ⟨p5, xs5, R5, _, rfl, hW.mono s16, fun H17 s17 => ?_⟩
      walk_at "st"
      exact q _ ((s3.trans s4).trans (s5.trans (s16.trans s17)))
    · walk_at "st"
      exact q _ (Same.refl _)
end
end OT

set_option Elab.async false
set_option linter.all false
set_option maxRecDepth 100000
set_option maxHeartbeats 8000000
namespace OT
open PySem PySem.Spec PyProof.Rows L2
local macro_rules | `(tactic| walk_at "sm") => `(tactic| first | assumption | ((with_reducible show Same _ (upd _ _ _)); (refine' AU.mutS ?s ?h; (case h => assumption); (case s => walk_at "sm"))) | fail)
local macro_rules | `(tactic| walk_at "le") => `(tactic| first | (refine Nat.le_of_lt (AU.line ?_); (try simp only [List.length_append, List.length_map, List.length_cons, List.length_nil, List.length_take, List.length_replicate]); omega) | fail)
local macro_rules | `(tactic| walk_at "ll") => `(tactic| first | (show 0 < sizeLine; decide) | (show 1 < sizeLine; decide) | (show 2 < sizeLine; decide) | (show 3 < sizeLine; decide) | (refine AU.line ?_; (try simp only [List.length_append, List.length_map, List.length_cons, List.length_nil, List.length_take, List.length_replicate]); omega) | fail)
local macro_rules | `(tactic| walk_at "hl") => `(tactic| first | assumption | exact upd_same | (refine' AU.climb ?s ?h; (case s => walk_at "sm"); (case h => walk_at "hl")) | fail)
local macro_rules | `(tactic| walk_at "sl") => `(tactic| first | assumption | (refine' AU.sqL ?h; (case h => walk_at "hl")) | (refine' AU.sqLS ?s ?h; (case s => walk_at "sm"); (case h => walk_at "sl")) | fail)
local macro_rules | `(tactic| walk_at "tl") => `(tactic| first | assumption | (refine' AU.sqT ?h; (case h => walk_at "hl")) | (refine' AU.sqTS ?s ?h; (case s => walk_at "sm"); (case h => walk_at "tl")) | fail)
local macro_rules | `(tactic| walk_at "sz") => `(tactic| first | (show 0 ≤ sizeLine; decide) | (show 1 ≤ sizeLine; decide) | (show 2 ≤ sizeLine; decide) | (show 3 ≤ sizeLine; decide) | (show 4 ≤ sizeLine; decide) | (show 5 ≤ sizeLine; decide) | (show 6 ≤ sizeLine; decide) | (show 7 ≤ sizeLine; decide) | (show 8 ≤ sizeLine; decide) | (show 9 ≤ sizeLine; decide) | (show 10 ≤ sizeLine; decide) | fail)
local macro_rules | `(tactic| walk_at "ci") => `(tactic| first | exact trivial | omega | (show (0 : Int) < _; omega) | (show CMul _ _; exact .inl ⟨by omega, by omega⟩) | (show CMul _ _; exact .inr ⟨by omega, by omega⟩) | (show CMul _ _; exact .inr (AU.b01 _)) | (show CMul _ _; exact .inl (AU.b01 _)) | (show CDiv _ _; exact ⟨by omega, by omega⟩) | (show _ ≠ (0 : Int); omega) | (show CDiv _ _; exact ⟨by decide, by decide⟩) | fail)
local macro_rules | `(tactic| walk_at "hh") => `(tactic| first | assumption | (refine' OT.HeldF.mono ?s ?h; (case s => walk_at "sm"); (case h => walk_at "hh")) | fail)
local macro_rules | `(tactic| walk_at "tyx") => `(tactic| first | exact .base (.int _) | exact .base (.bl _) | exact .base (.str _) | exact .base (.lst (by walk_at "hl")) | exact .base (.tup (by walk_at "hl")) | fail)
local macro_rules | `(tactic| walk_at "st1") => `(tactic| first | ((with_reducible show tSeq _ _ _ _ _); (try simp only [List.set_cons_zero, List.set_cons_succ]); refine AU.seq_ ?_) | ((with_reducible show tAsg _ _ _ _ _); refine AU.asg_ ?_) | ((with_reducible show gName _ _ _ _ _); refine AU.name_ ?_) | ((with_reducible show tDrop _ _ _ _); refine AU.drop_ ?_) | ((with_reducible show tRet _ _ _ _); refine AU.ret_ ?_) | ((with_reducible show tRetN _ _ _); refine AU.retN_ ?_) | ((with_reducible show tNext _ _ _); refine AU.next_ ?_) | ((with_reducible show tBreak _ _ _); refine AU.brk_ ?_) | ((with_reducible show tCont _ _ _); refine AU.cont_ ?_) | ((with_reducible show tIfS _ _ _ _ _ _); refine AU.ifs_ ?_) | ((with_reducible show tAug _ _ _ _ _ _); refine AU.aug_ rfl ?_) | ((with_reducible show Ends.nx (Ends.mk _ _ _ _) _ _); refine AU.nxm ?_) | ((with_reducible show Ends.rt (Ends.mk _ _ _ _) _ _); refine AU.rtm ?_) | ((with_reducible show Ends.bk (Ends.mk _ _ _ _) _ _); refine AU.bkm ?_) | ((with_reducible show Ends.ct (Ends.mk _ _ _ _) _ _); refine AU.ctm ?_) | ((with_reducible show tVar _ _ _ _); refine AU.var_ rfl ?_) | ((with_reducible show tC _ _ _ _); refine AU.c_ ?_) | ((with_reducible show tOp _ _ _ _ _ _); refine AU.op_ ?_) | ((with_reducible show tUn _ _ _ _ _); refine AU.un_ ?_) | ((with_reducible show rU _ _ _ _); refine AU.u_ ?_) | ((with_reducible show rI0 _ _ _ _ _); refine AU.i0_ ?_) | ((with_reducible show rI _ _ _ _ _ _); refine AU.i_ (by walk_at "ci") ?_) | ((with_reducible show rEq (V.int _) (V.int _) _ _); first | (with_reducible refine AU.eqr_ ?_) | refine AU.eqi_ ?_) | ((with_reducible show rEq (V.str _) (V.str _) _ _); (with_reducible refine AU.eqs_ ?_)) | ((with_reducible show rNe (V.int _) (V.int _) _ _); refine AU.nei_ ?_) | ((with_reducible show rEq _ _ _ _); refine AU.eq_ rfl ?_) | ((with_reducible show rNe _ _ _ _); refine AU.ne_ rfl ?_) | ((with_reducible show tTest _ _ _ _); refine AU.test_ ?_) | ((with_reducible show tB _ _ _ _); refine AU.b_ ?_) | ((with_reducible show tAnd _ _ _ _ _); refine AU.and_ ?_) | ((with_reducible show tOr _ _ _ _ _); refine AU.or_ ?_) | ((with_reducible show tNot _ _ _ _); refine AU.not_ ?_) | ((with_reducible show tAndV _ _ _ _ _); refine AU.andV_ ?_) | ((with_reducible show tOrV _ _ _ _ _); refine AU.orV_ ?_) | ((with_reducible show tNotV _ _ _ _); refine AU.notV_ ?_) | ((with_reducible show tIf _ _ _ _ _ _); refine AU.if_ ?_) | ((with_reducible show tNil _ _ _); refine AU.nil_ ?_) | ((with_reducible show tCons _ _ _ _ _); refine AU.cons_ ?_) | ((with_reducible show tLst _ _ _ _); refine AU.lst_ ?_) | ((with_reducible show tTup _ _ _ _); refine AU.tup_ ?_) | ((with_reducible show tCall _ _ _ _ _ _ _); refine AU.call_ ?_) | ((with_reducible show tCallS _ _ _ _ _ _); refine AU.callS_ ?_) | ((with_reducible show tCB _ _ _ _ _); refine AU.cb_ ?_) | ((with_reducible show tBM _ _ _ _ _ _ _ _); refine AU.bm_ ?_) | ((with_reducible show rIxL _ _ _ _ _); refine AU.ixL_ (by walk_at "sl") (by first | assumption | rfl) ?_) | ((with_reducible show rIxT _ _ _ _ _); refine AU.ixT_ (by walk_at "tl") (by first | assumption | rfl) ?_) | ((with_reducible show Evl.rLenS _ _ _ _); first | refine AU.lenL_ (by walk_at "sl") ?_ | refine AU.lenT_ (by walk_at "tl") ?_) | ((with_reducible show rAppend (V.ref _) [_] _ _); refine AU.app_ (by walk_at "hl") (by walk_at "ll") ?_) | ((with_reducible show tyV _ _ (V.ref _) _ ∧ _); refine AU.tyl_ (by walk_at "sl") ?_) | ((with_reducible show rCat (V.ref _) (V.ref _) _ _); refine AU.cat_ (by walk_at "hl") (by walk_at "hl") (by walk_at "le") ?_) | ((with_reducible show tFor _ _ _ _ _ _); refine AU.for_ ?_) | ((with_reducible show tLc _ _ _ _ _ _ _ _); refine AU.lc_ ?_) | ((with_reducible show iRng1 _ _ _ _); refine AU.rng1_ ?_) | ((with_reducible show iList _ _ _ _ _); refine AU.list_ ?_) | ((with_reducible show iTup _ _ _ _ _); refine AU.itup_ ?_) | ((with_reducible show (∃ i, [V.bl _] = [V.int i] ∧ _) ∨ _); refine AU.intb_ ?_) | ((with_reducible show (∃ i, [V.int _] = [V.int i] ∧ _) ∨ _); refine AU.inti_ ?_) | ((with_reducible show tYes _ _ _); refine AU.yes_ ?_) | ((with_reducible show ∃ p ys, [V.ref _] = [V.ref p] ∧ (SqL _ _ p ys ∨ SqT _ _ p ys) ∧ _); first | refine AU.listof_ (by walk_at "sl") ?_ | refine AU.listofT_ (by walk_at "tl") ?_) | ((with_reducible show ∃ p ys, [V.ref _] = [V.ref p] ∧ ((SqL _ _ p ys ∧ _) ∨ (SqT _ _ p ys ∧ _))); first | refine AU.tupleof_ (by walk_at "sl") ?_ | refine AU.tupleofT_ (by walk_at "tl") ?_) | ((with_reducible show V.non = V.non ∧ _); refine ⟨rfl, ?_⟩) | ((with_reducible show OT.rIsX _ _ _ _ [V.ref _, _] _ _); refine OT.isX_ (by walk_at "hh") (by first | exact .own _ | exact .ty _) (by assumption) ?_) | ((with_reducible show OT.tFA _ _ _ _ _ _ _ _ _); refine OT.fA_ ?_) | ((with_reducible show OT.tCallE _ _ _ _ _ _ _ _); refine OT.callE_ ?_) | ((with_reducible show rIsi _ [_, _] _ _); refine OT.isi_ (by first | exact .own _ | exact .ty _) (by walk_at "tyx") (by first | assumption | exact kit_ty OT.kq_int_int | exact kit_ty OT.kq_int_bool | exact kit_ty OT.kq_bool_bool | exact kit_ty OT.kq_bool_int | exact kit_ty OT.kq_str_str | exact kit_ty OT.kq_tuple_tuple | exact kit_ty OT.kq_list_list | exact kit_ty OT.kq_list_tuple | exact kit_ty OT.kq_tuple_list | exact kit_ty OT.kq_list_int | exact kit_ty OT.kq_tuple_int | exact kit_ty OT.kq_list_bool | exact kit_ty OT.kq_tuple_bool | exact kit_ty OT.kq_str_int | exact kit_ty OT.kq_int_str | exact kit_ty OT.kq_int_list | exact kit_ty OT.kq_int_tuple | exact kit_ty OT.kq_bool_list | exact kit_ty OT.kq_bool_tuple) ?_) | ((with_reducible show ∃ k, V.bl _ = V.bl k ∧ _); refine AU.bool_ ?_) | ((with_reducible show tSl _ _ _ _ _ _ _); refine AU.sl_ ?_) | ((with_reducible show tNoPart _ _ _); refine AU.npart_ ?_) | ((with_reducible show tPart _ _ _ _); refine AU.part_ ?_) | ((with_reducible show ∃ k, V.int _ = V.int k ∧ rSlL _ _ _ (some k) _ _); refine AU.int1_ ?_) | ((with_reducible show rSlL _ (V.ref _) _ _ _ _); refine AU.slL_ (by walk_at "sl") ?_) | ((with_reducible refine AU.trueT ?_)) | ((with_reducible refine AU.refNon ?_)) | ((with_reducible refine AU.nonNon ?_)) | ((with_reducible refine AU.trueN ?_)) | ((with_reducible refine AU.falseN ?_)) | ((with_reducible refine AU.falseF ?_)) | fail)
local macro_rules | `(tactic| walk_at "st") => `(tactic| repeat walk_at "st1")
local macro_rules | `(tactic| walk_at "fr") => `(tactic| first | assumption | (refine' FoR.mono ?s ?h; (case s => walk_at "sm"); (case h => walk_at "fr")) | fail)
local macro_rules | `(tactic| walk_at "en") => `(tactic| first | assumption | (refine' Ents.mono ?s ?h; (case s => assumption); (case h => walk_at "en")) | fail)
def addL : List Int → List Int → List Int
  | [], b => b
  | x :: a, [] => x :: a
  | x :: a, y :: b => (x + y) :: addL a b
theorem addL_nil (a : List Int) : addL a [] = a := by
  cases a <;> rfl
theorem addL_U (q : Int) : ∀ (n : Nat) (a b : List Int), FO.U n (addL a b) q = FO.U n a q + FO.U n b q
  | n, [], b => by
    show FO.U n b q = 0 + FO.U n b q
    omega
  | n, x :: a, [] => by
    show _ = _ + (0 : Int)
    rw [addL_nil]
    omega
  | n, x :: a, y :: b => by
    show (x + y) * FO.B n q + FO.U (n + 1) (addL a b) q = (x * FO.B n q + FO.U (n + 1) a q) + (y * FO.B n q + FO.U (n + 1) b q)
    rw [addL_U q (n + 1) a b, Int.add_mul]
    omega
theorem addL_val (c : Int) : ∀ a b : List Int, valL c (addL a b) = valL c a + valL c b
  | [], b => by
    show valL c b = 0 + valL c b
    omega
  | x :: a, [] => by
    show _ = _ + (0 : Int)
    rw [addL_nil]
    omega
  | x :: a, y :: b => by
    show valL c (addL a b) * c + (x + y) = (valL c a * c + x) + (valL c b * c + y)
    rw [addL_val c a b, Int.add_mul]
    omega
theorem addL_len : ∀ (a b : List Int) (n : Nat), a.length ≤ n → b.length ≤ n → (addL a b).length ≤ n
  | [], b, n, _, h => h
  | x :: a, [], n, h, _ => h
  | x :: a, y :: b, n, h, k => by
    rw [List.length_cons] at h k
    have := addL_len a b (n - 1) (by omega) (by omega)
    show (addL a b).length + 1 ≤ n
    omega
theorem map_U (x q : Int) : ∀ (n : Nat) (t : List Int), FO.U n (t.map (x * ·)) q = x * FO.U n t q
  | n, [] => (Int.mul_zero x).symm
  | n, y :: t => by
    show x * y * FO.B n q + FO.U (n + 1) (t.map (x * ·)) q = x * (y * FO.B n q + FO.U (n + 1) t q)
    rw [map_U x q (n + 1) t, Int.mul_add, Int.mul_assoc]
theorem map_val (x c : Int) : ∀ t : List Int, valL c (t.map (x * ·)) = x * valL c t
  | [] => (Int.mul_zero x).symm
  | y :: t => by
    show valL c (t.map (x * ·)) * c + x * y = x * (valL c t * c + y)
    rw [map_val x c t, Int.mul_add, Int.mul_assoc]
def mulL : List Int → List Int → List Int
  | [], _ => []
  | x :: s, t => addL (t.map (x * ·)) (0 :: mulL s t)
theorem mulL_U (t : List Int) (q : Int) : ∀ (n : Nat) (s : List Int), FO.U n (mulL s t) q = PL n s t q
  | n, [] => rfl
  | n, x :: s => by
    show FO.U n (addL (t.map (x * ·)) (0 :: mulL s t)) q = x * FO.U n t q + PL (n + 1) s t q
    rw [addL_U, map_U]
    show _ + (0 * FO.B n q + FO.U (n + 1) (mulL s t) q) = _
    rw [mulL_U t q (n + 1) s, Int.zero_mul]
    omega
theorem mulL_val (t : List Int) (c : Int) : ∀ s : List Int, valL c (mulL s t) = valL c s * valL c t
  | [] => (Int.zero_mul _).symm
  | x :: s => by
    show valL c (addL (t.map (x * ·)) (0 :: mulL s t)) = (valL c s * c + x) * valL c t
    rw [addL_val, map_val]
    show _ + (valL c (mulL s t) * c + 0) = _
    rw [mulL_val t c s, Int.add_mul, Int.mul_assoc, Int.mul_comm (valL c t) c, ← Int.mul_assoc]
    omega
theorem mulL_len (t : List Int) : ∀ s : List Int, (mulL s t).length ≤ s.length + t.length
  | [] => Nat.zero_le _
  | x :: s => by
    have := mulL_len t s
    rw [List.length_cons]
    refine addL_len _ _ _ ?_ ?_
    · rw [List.length_map]
      omega
    · rw [List.length_cons]
      omega
theorem IsU_num {r : List Ent} {t : List Int} (h : FO.IsU r t) (hl : t.length ≤ 8) (hb : ∀ z ∈ t, z.natAbs ≤ 30000) : ∀ g ∈ r, -(2 ^ 64) < g.2 ∧ g.2 < 2 ^ 64 := fun g hg => by
  obtain ⟨q, hq⟩ := FO.pl_one (h.d g hg)
  have h1 := h.v.at g hg
  rw [hq, h.u] at h1
  have h2 := U_abs (M := 30000) q t 0 hb
  have h3 : (2 : Nat) ^ (0 + t.length) ≤ 2 ^ 8 := Nat.pow_le_pow_right (by decide) (by omega)
  have h4 : (2 : Nat) ^ 8 = 256 := by decide
  have p64 : (2 : Int) ^ 64 = 18446744073709551616 := by decide
  omega
theorem val_bound {x : Int} (hx : x.natAbs ≤ 9) {t : List Int} (hl : t.length ≤ 8) (hb : ∀ z ∈ t, z.natAbs ≤ 30000) : -(2 ^ 64) < valL x t ∧ valL x t < 2 ^ 64 := by
  have h2 := valL_abs (M := 30000) hx t hb
  have h3 : (10 : Nat) ^ t.length ≤ 10 ^ 8 := Nat.pow_le_pow_right (by decide) hl
  have h4 : (10 : Nat) ^ 8 = 100000000 := by decide
  have p64 : (2 : Int) ^ 64 = 18446744073709551616 := by decide
  omega
theorem IsU_app0 {r : List Ent} {t : List Int} (h : FO.IsU r t) : FO.IsU r (t ++ [0]) := ⟨h.v, h.d, fun q => by rw [h.u, U_snocN, Int.zero_mul]; omega⟩
section
variable {P : Program} {w : World} {K : PySem.W.Frag} {mg : Str → Option Value} {base : Heap}
def spLaw (K : PySem.W.Frag) : Sp := fun vs H Q _ => ∃ (a : Addr) (ns : List Int), vs = [.ref a] ∧ SqL K H a (ns.map V.int) ∧ ns.length ≤ 63 ∧ ∀ H', Q (.bl true) H'
theorem c_law {f : Addr} {fd : FuncData} (D : C8.Def K mg "law" s_law f fd) (b : Binds K fd ["_law_script"] []) (T : Bi mg) (c__law_cell : C8.Cal P w K mg base 1 "_law_cell" (spCell K) []) (c__law_draws : C8.Cal P w K mg base 1 "_law_draws" (spDraws K) []) (c__law_symmetric_row : C8.Cal P w K mg base 4 "_law_symmetric_row" spSymRow [])
    (c__law_folded : C8.Cal P w K mg base 7 "_law_folded" spFolded []) (c__law_times : C8.Cal P w K mg base 2 "_law_times" (spTimes K) []) (c__law_list_product : C8.Cal P w K mg base 1 "_law_list_product" spProd []) (c__law_add : C8.Cal P w K mg base 2 "_law_add" spAdd []) (c__law_list_sum : C8.Cal P w K mg base 2 "_law_list_sum" spSum [])
    (c__law_unfold_is : C8.Cal P w K mg base 5 "_law_unfold_is" spUnfIs []) (c__law_values : C8.Cal P w K mg base 3 "_law_values" spValues []) (c__law_value_is : C8.Cal P w K mg base 2 "_law_value_is" spValIs []) (c__law_value : C8.Cal P w K mg base 1 "_law_value" (spValue K) []) (c__law_refusals : C8.Cal P w K mg base 8 "_law_refusals" spRefus []) : FnOk P w K mg base L2.CX0 9 f fd ["_law_script"] (spLaw K) := by
  refine C8.fn0 D.fn sc_law (fun vs H Q E h => ?_) (fun cdv A outer s H vs Q E hr h => ?_)
  · obtain ⟨a, ns, rfl, _⟩ := h
    rfl
  · obtain ⟨a, ns, rfl, hS, hl, q⟩ := h
    refine ⟨_, (pss_cons (ps_set (i := 1) sc_law.nd rfl (Or.inl rfl) (C8.pe_c c__law_draws hr (by decide) (by rfl) (pa_cons (C8.pe_c c__law_cell hr (by decide) (by rfl) (pa_cons (pv 0) (pa_cons pe_int pa_nil))) (pa_cons (pe_lst (pa_cons pe_int (pa_cons pe_int (pa_cons pe_int (pa_cons pe_int (pa_cons pe_int (pa_cons pe_int pa_nil))))))) pa_nil))))
  (pss_cons (ps_set (i := 2) sc_law.nd rfl (Or.inl rfl) (pe_op op_sub (pe_ix ix_list (pv 1) pe_int (fun _ _ => rfl)) pe_int))
  (pss_cons (ps_set (i := 3) sc_law.nd rfl (Or.inl rfl) (C8.pe_c c__law_symmetric_row hr (by decide) (by rfl) (pa_cons (pe_ix ix_list (pv 1) pe_int (fun _ _ => rfl)) (pa_cons (C8.pe_c c__law_cell hr (by decide) (by rfl) (pa_cons (pv 0) (pa_cons pe_int pa_nil))) pa_nil))))
  (pss_cons (ps_set (i := 4) sc_law.nd rfl (Or.inl rfl) (C8.pe_c c__law_symmetric_row hr (by decide) (by rfl) (pa_cons (pe_ix ix_list (pv 1) pe_int (fun _ _ => rfl)) (pa_cons (C8.pe_c c__law_cell hr (by decide) (by rfl) (pa_cons (pv 0) (pa_cons pe_int pa_nil))) pa_nil))))
  (pss_cons (ps_set (i := 5) sc_law.nd rfl (Or.inl rfl) (C8.pe_c c__law_folded hr (by decide) (by rfl) (pa_cons (pv 3) pa_nil)))
  (pss_cons (ps_set (i := 6) sc_law.nd rfl (Or.inl rfl) (C8.pe_c c__law_folded hr (by decide) (by rfl) (pa_cons (pv 4) pa_nil)))
  (pss_cons (ps_if (PW.pt (pw_or (pt_cmpR op_isN (pv 5) pe_non (nomark _)) (pw_or1 (pt_cmpR op_isN (pv 6) pe_non (nomark _))))) (pss_one (ps_ret pe_bl)) pss_nil)
  (pss_cons (ps_set (i := 7) sc_law.nd rfl (Or.inl rfl) (C8.pe_c c__law_times hr (by decide) (by rfl) (pa_cons (pv 3) (pa_cons (pv 4) pa_nil))))
  (pss_cons (ps_set (i := 8) sc_law.nd rfl (Or.inl rfl) (C8.pe_c c__law_folded hr (by decide) (by rfl) (pa_cons (pv 7) pa_nil)))
  (pss_cons (ps_if (PW.pt (pw_or (pt_cmpR op_isN (pv 8) pe_non (nomark _)) (pw_or1 (pt_cmpR (op_neD hr.units) (pv 8) (C8.pe_c c__law_list_product hr (by decide) (by rfl) (pa_cons (pv 5) (pa_cons (pv 6) pa_nil))) (nomark _))))) (pss_one (ps_ret pe_bl)) pss_nil)
  (pss_cons (ps_set (i := 9) sc_law.nd rfl (Or.inl rfl) (C8.pe_c c__law_add hr (by decide) (by rfl) (pa_cons (pv 3) (pa_cons (pv 4) pa_nil))))
  (pss_cons (ps_set (i := 10) sc_law.nd rfl (Or.inl rfl) (C8.pe_c c__law_folded hr (by decide) (by rfl) (pa_cons (pv 9) pa_nil)))
  (pss_cons (ps_if (PW.pt (pw_or (pt_cmpR op_isN (pv 10) pe_non (nomark _)) (pw_or1 (pt_cmpR (op_neD hr.units) (pv 10) (C8.pe_c c__law_list_sum hr (by decide) (by rfl) (pa_cons (pv 5) (pa_cons (pv 6) pa_nil))) (nomark _))))) (pss_one (ps_ret pe_bl)) pss_nil)
  (pss_cons (ps_if (PW.pt (pw_or (pt_not (pt_val (C8.pe_c c__law_unfold_is hr (by decide) (by rfl) (pa_cons (pv 5) (pa_cons (pv 3) pa_nil))))) (pw_or (pt_not (pt_val (C8.pe_c c__law_unfold_is hr (by decide) (by rfl) (pa_cons (pv 8) (pa_cons (pv 7) pa_nil))))) (pw_or1 (pt_not (pt_val (C8.pe_c c__law_unfold_is hr (by decide) (by rfl) (pa_cons (pe_op op_cat (pv 6) (pe_lst (pa_cons pe_int pa_nil))) (pa_cons (pv 4) pa_nil))))))))) (pss_one (ps_ret pe_bl)) pss_nil)
  (pss_cons (ps_if (PW.pt (pw_or (pt_not (pt_val (C8.pe_c c__law_values hr (by decide) (by rfl) (pa_cons (pv 3) (pa_cons (pv 5) (pa_cons (pv 2) pa_nil)))))) (pw_or1 (pt_not (pt_val (C8.pe_c c__law_values hr (by decide) (by rfl) (pa_cons (pv 4) (pa_cons (pv 6) (pa_cons (pv 2) pa_nil))))))))) (pss_one (ps_ret pe_bl)) pss_nil)
  (pss_cons (ps_if (PW.pt (pw_or (pt_not (pt_val (C8.pe_c c__law_values hr (by decide) (by rfl) (pa_cons (pv 7) (pa_cons (pv 8) (pa_cons (pv 2) pa_nil)))))) (pw_or1 (pt_not (pt_val (C8.pe_c c__law_values hr (by decide) (by rfl) (pa_cons (pv 9) (pa_cons (pv 10) (pa_cons (pv 2) pa_nil))))))))) (pss_one (ps_ret pe_bl)) pss_nil)
  (pss_cons (ps_if (pt_not (pt_val (C8.pe_c c__law_value_is hr (by decide) (by rfl) (pa_cons (pv 8) (pa_cons (pv 2) (pa_cons (pe_op op_mul (C8.pe_c c__law_value hr (by decide) (by rfl) (pa_cons (pv 5) (pa_cons (pv 2) pa_nil))) (C8.pe_c c__law_value hr (by decide) (by rfl) (pa_cons (pv 6) (pa_cons (pv 2) pa_nil)))) pa_nil)))))) (pss_one (ps_ret pe_bl)) pss_nil)
  (pss_cons (ps_if (pt_not (pt_val (C8.pe_c c__law_value_is hr (by decide) (by rfl) (pa_cons (pv 10) (pa_cons (pv 2) (pa_cons (pe_op op_add (C8.pe_c c__law_value hr (by decide) (by rfl) (pa_cons (pv 5) (pa_cons (pv 2) pa_nil))) (C8.pe_c c__law_value hr (by decide) (by rfl) (pa_cons (pv 6) (pa_cons (pv 2) pa_nil)))) pa_nil)))))) (pss_one (ps_ret pe_bl)) pss_nil)
  (pss_one (ps_ret (pe_and (C8.pe_c c__law_refusals hr (by decide) (by rfl) (pa_cons (pv 3) (pa_cons (pv 1) (pa_cons (C8.pe_c c__law_cell hr (by decide) (by rfl) (pa_cons (pv 0) (pa_cons pe_int pa_nil))) pa_nil)))) (pe_one (pe_cmpR (op_eqD hr.units) (C8.pe_c c__law_folded hr (by decide) (by rfl) (pa_cons (pv 3) pa_nil)) (pv 5) (nomark _)))))))))))))))))))))))), ?_⟩
    walk_at "st"
    refine ⟨a, ns, 0, rfl, hS, by decide, fun c0 => ?_⟩
    walk_at "st"
    refine ⟨by walk_at "sz", fun l1 nl1 => ?_⟩; generalize eH1 : upd _ l1 _ = H1; have s1 := AU.newS nl1 eH1; have hl1 := AU.newH eH1; clear eH1
    walk_at "st"
    refine ⟨l1, [8, 2, 2, 19, 16, 2], c0, rfl, AU.sqL hl1, by decide, by decide, fun ds H2 da hin s2 nda hda => ?_⟩
    obtain ⟨d1, g1, a1, b1⟩ := hin.at 1 rfl
    obtain ⟨d2, g2, a2, b2⟩ := hin.at 2 rfl
    obtain ⟨d3, g3, a3, b3⟩ := hin.at 3 rfl
    have at1 : atI (ds.map V.int) 1 = some (.int d1) := AU.atN (j := 1) rfl g1
    have at2 : atI (ds.map V.int) 2 = some (.int d2) := AU.atN (j := 2) rfl g2
    have at3 : atI (ds.map V.int) 3 = some (.int d3) := AU.atN (j := 3) rfl g3
    have hS2 := (s1.trans s2).seq hS
    clear g1 g2 g3 nl1 nda hl1 hS s1 s2
    walk_at "st"
    obtain ⟨x, hx, hx9⟩ : ∃ x : Int, d3 - 9 = x ∧ x.natAbs ≤ 9 := ⟨_, rfl, by omega⟩
    rw [hx]
    refine ⟨a, ns, 1, rfl, by walk_at "sl", by decide, fun c1 => ?_⟩
    walk_at "st"
    refine ⟨d1, c1, rfl, fun p1 r1 t1 H3 s3 F1 z1 m1 => ?_⟩
    walk_at "st"
    refine ⟨a, ns, 2, rfl, by walk_at "sl", by decide, fun c2 => ?_⟩
    walk_at "st"
    refine ⟨d2, c2, rfl, fun p2 r2 t2 H4 s4 F2 z2 m2 => ?_⟩
    walk_at "st"
    refine ⟨p1, r1, t1, rfl, by walk_at "fr", by omega, fun o1 H5 s5 ho1 => ?_⟩
    walk_at "st"
    refine ⟨p2, r2, t2, rfl, by walk_at "fr", by omega, fun o2 H6 s6 ho2 => ?_⟩
    have G1 : FoR H6 p1 r1 t1 := by walk_at "fr"
    have G2 : FoR H6 p2 r2 t2 := by walk_at "fr"
    have hda6 : H6 da = some (.lst (ds.map V.int)) := by walk_at "hl"
    have ho1 : H6 o1 = some (.lst (t1.map V.int)) := by walk_at "hl"
    have hS6 : SqL K H6 a (ns.map V.int) := by walk_at "sl"
    clear F1 F2 hS2 hda s3 s4 s5 s6
    obtain ⟨⟨xs1, hp1, hE1⟩, hU1, hn1⟩ := id G1
    obtain ⟨⟨xs2, hp2, hE2⟩, hU2, hn2⟩ := id G2
    have len1 := IsU_len hU1
    have len2 := IsU_len hU2
    walk_at "st"
    refine ⟨p1, p2, xs1, xs2, r1, r2, rfl, AU.sqL hp1, AU.sqL hp2, hE1, hE2, Nat.le_trans (Nat.mul_le_mul (by omega : r1.length ≤ 16) (by omega : r2.length ≤ 16)) (by decide), fun e he g hg => by rw [hU1.d e he, hU2.d g hg], fun e he => ⟨fun z => ?_, by rw [hU1.d e he]; decide⟩, IsU_num hU2 z2 m2, fun rp pp wsp H7 hrp s7 np7 hpp hEp => ?_⟩
    · have := hU1.d e he
      rw [z] at this
      cases this
    obtain ⟨tp, htp⟩ : ∃ tp, stripL (mulL t1 t2) = tp := ⟨_, rfl⟩
    have hUp : FO.IsU rp tp := by rw [← htp]; exact IsU_strip (IsU_mul hU1 hU2 hrp fun q => mulL_U t2 q 0 t1)
    have hnp : lastN tp = tp.length := by rw [← htp]; exact strip_norm _
    have zp : tp.length ≤ 16 := by
      have h1 := strip_len (mulL t1 t2)
      have h2 := mulL_len t2 t1
      rw [← htp]
      omega
    have vp : valL x tp = valL x t1 * valL x t2 := by rw [← htp, strip_val, mulL_val]
    clear htp
    have Fp : FoR H7 pp rp tp := ⟨⟨wsp, hpp, hEp⟩, hUp, hnp⟩
    walk_at "st"
    refine ⟨pp, rp, tp, rfl, Fp, by omega, fun o3 H8 s8 ho3 => ?_⟩
    walk_at "st"
    refine ⟨o1, o2, t1, t2, rfl, by walk_at "hl", by walk_at "hl", by omega, by omega, fun z hz => by have := m1 z hz; omega, hn1, hn2, fun pm m H9 s9 hpm hUm hnm => ?_⟩
    have em : m = tp := IsU_norm (IsU_mul hU1 hU2 hrp hUm) hUp hnm hnp
    subst em
    walk_at "st"
    refine neLs_ (s9 _ _ ho3) hpm ?_
    clear hpm hUm
    walk_at "st"
    refine ⟨p1, p2, xs1, xs2, r1, r2, rfl, ⟨by walk_at "hl", by walk_at "en", by omega, fun e he z => ?_⟩, ⟨by walk_at "hl", by walk_at "en", by omega, fun e he z => ?_⟩, fun rb pb wsb H10 hrb s10 npb hpb hEb => ?_⟩
    · have := hU1.d e he
      rw [z] at this
      cases this
    · have := hU2.d e he
      rw [z] at this
      cases this
    obtain ⟨tb, htb⟩ : ∃ tb, stripL (addL t1 t2) = tb := ⟨_, rfl⟩
    have hUb : FO.IsU rb tb := by rw [← htb]; exact IsU_strip (IsU_sum hU1 hU2 hrb fun q => addL_U q 0 t1 t2)
    have hnb : lastN tb = tb.length := by rw [← htb]; exact strip_norm _
    have zb : tb.length ≤ 8 := by
      have h1 := strip_len (addL t1 t2)
      have h2 := addL_len t1 t2 8 z1 z2
      rw [← htb]
      omega
    have vb : valL x tb = valL x t1 + valL x t2 := by rw [← htb, strip_val, addL_val]
    clear htb
    have Fb : FoR H10 pb rb tb := ⟨⟨wsb, hpb, hEb⟩, hUb, hnb⟩
    walk_at "st"
    refine ⟨pb, rb, tb, rfl, Fb, by omega, fun o4 H11 s11 ho4 => ?_⟩
    walk_at "st"
    refine ⟨o1, o2, t1, t2, rfl, by walk_at "hl", by walk_at "hl", by omega, by omega, fun pm m3 H12 s12 hpm hUm hnm2 => ?_⟩
    have em : m3 = tb := IsU_norm (IsU_sum hU1 hU2 hrb hUm) hUb hnm2 hnb
    subst em
    walk_at "st"
    refine neLs_ (s12 _ _ ho4) hpm ?_
    clear hpm hUm
    walk_at "st"
    refine ⟨o1, p1, t1, xs1, r1, rfl, by walk_at "hl", by omega, by walk_at "hl", by walk_at "en", hU1, fun H13 s13 => ?_⟩
    walk_at "st"
    refine ⟨o3, pp, _, wsp, rp, rfl, by walk_at "hl", by omega, by walk_at "hl", by walk_at "en", hUp, fun H14 s14 => ?_⟩
    walk_at "st"
    refine ⟨by walk_at "sz", fun l15 nl15 => ?_⟩; generalize eH15 : upd _ l15 _ = H15; have s15 := AU.newS nl15 eH15; have hl15 := AU.newH eH15; clear eH15
    walk_at "st"
    intro l16 nl16; generalize eH16 : upd _ l16 _ = H16; have s16 := AU.newS nl16 eH16; have hl16 := AU.newH eH16; clear eH16
    have hl16' : H16 l16 = some (.lst ((t2 ++ [0]).map V.int)) := by rw [hl16, List.map_append]; rfl
    walk_at "st"
    refine ⟨l16, p2, t2 ++ [0], xs2, r2, rfl, hl16', by rw [List.length_append]; show t2.length + 1 ≤ 20; omega, by walk_at "hl", by walk_at "en", IsU_app0 hU2, fun H17 s17 => ?_⟩
    walk_at "st"
    refine ⟨p1, o1, r1, t1, x, rfl, by walk_at "fr", by walk_at "hl", by omega, hx9, fun H18 s18 => ?_⟩
    walk_at "st"
    refine ⟨p2, o2, r2, t2, x, rfl, by walk_at "fr", by walk_at "hl", by omega, hx9, fun H19 s19 => ?_⟩
    walk_at "st"
    refine ⟨pp, o3, rp, _, x, rfl, by walk_at "fr", by walk_at "hl", by omega, hx9, fun H20 s20 => ?_⟩
    walk_at "st"
    refine ⟨pb, o4, rb, _, x, rfl, by walk_at "fr", by walk_at "hl", by omega, hx9, fun H21 s21 => ?_⟩
    walk_at "st"
    refine ⟨o1, t1, x, rfl, AU.sqL (by walk_at "hl"), fun i hi => pow_abs hx9 i (by omega), by omega, ?_⟩
    walk_at "st"
    refine ⟨o2, t2, x, rfl, AU.sqL (by walk_at "hl"), fun i hi => pow_abs hx9 i (by omega), by omega, ?_⟩
    walk_at "st"
    refine AU.i_ (.inl (val_bound hx9 z1 m1)) ?_
    walk_at "st"
    refine ⟨o3, _, x, _, rfl, by walk_at "hl", by omega, by omega, vp.symm, fun H22 s22 => ?_⟩
    walk_at "st"
    refine ⟨o1, t1, x, rfl, AU.sqL (by walk_at "hl"), fun i hi => pow_abs hx9 i (by omega), by omega, ?_⟩
    walk_at "st"
    refine ⟨o2, t2, x, rfl, AU.sqL (by walk_at "hl"), fun i hi => pow_abs hx9 i (by omega), by omega, ?_⟩
    walk_at "st"
    refine ⟨o4, _, x, _, rfl, by walk_at "hl", by omega, by omega, vb.symm, fun H23 s23 => ?_⟩
    walk_at "st"
    refine ⟨a, ns, 3, rfl, by walk_at "sl", by decide, fun c3 => ?_⟩
    walk_at "st"
    refine ⟨p1, da, c3, r1, t1, ds, rfl, by walk_at "fr", by omega, by walk_at "hl", hin, fun H24 s24 => ?_⟩
    walk_at "st"
    refine ⟨p1, r1, t1, rfl, by walk_at "fr", by omega, fun o5 H25 s25 ho5 => ?_⟩
    walk_at "st"
    refine eqLs_ ho5 (by walk_at "hl") ?_
    walk_at "st"
    exact q H25
end
end OT

set_option Elab.async false
set_option linter.all false
set_option maxRecDepth 100000
set_option maxHeartbeats 4000000
namespace OT
open PySem PySem.Spec PyProof.Rows L2
/-- a def that may raise, where it does not -/
theorem quietN0 {P : Program} {w : World} {K : PySem.W.Frag} {mg : Str → Option Value} {base : Heap} {k : Nat} {f : Addr} {fd : FuncData} {ps : List Str} {sp sp' : Sp} (F : FnOk P w K mg base (L2N.CX P w) k f fd ps sp') (h : ∀ vs H Q E, sp vs H Q E → sp' vs H Q E0) : FnOk P w K mg base CX0 k f fd ps sp := by
  refine ⟨fun vs H Q E q => F.len _ _ _ _ (h _ _ _ _ q), fun A outer s H args us vs Q E hr he hb hv q => ?_⟩
  refine codeAny_mono (F.run A outer s H args us vs Q E0 hr he hb hv (h _ _ _ _ q)) fun r s' z => ?_
  cases r with
  | ok fl => cases fl with
    | ret u => exact z
    | next => exact z
    | brk => exact z
    | cont => exact z
  | error e =>
    obtain ⟨_, _, _, _, _, _, _, _, _, _, _, _, q⟩ := z
    exact q.elim
theorem quietN {P : Program} {w : World} {K : PySem.W.Frag} {mg : Str → Option Value} {base : Heap} {k : Nat} {x : Str} {st : Stmt} {f : Addr} {fd : FuncData} {ps : List Str} {ds : List Value} {dvs : List V} {sp sp' : Sp} (D : C8.Def K mg x st f fd) (b : Binds K fd ps ds) (hd : Vals dvs ds) (F : FnOk P w K mg base (L2N.CX P w) k f fd ps sp') (h : ∀ vs H Q E, sp vs H Q E → sp' vs H Q E0) : C8.Cal P w K mg base k x sp dvs :=
  ⟨f, fd, ps, ds, quietN0 F h, D.mgf, D.kp, b, hd⟩
theorem all_mk {l : PySem.W.OpenLaw} {w : World} {K : PySem.W.Frag} {h : Heap} {mg : Str → Option Value} {fa : Addr} {f_places_length f_same_lengths f_same_dimension f_one_direction f_row_of f_gather f_dense f_unequal_place f_require_symmetric f_upper_half f_fold f_unfold f_fold_value f__law_cell f__law_draws f__law_is_integer f__law_is_place f__law_is_row f__law_same f__law_plus f__law_back f__law_row f__law_add f__law_times f__law_mirror f__law_moved f__law_at f__law_zero f__law_places f__law_drawn f__law_box f__law_is_error f__law_is_numbers f__law_unfolded f__law_stripped f__law_value f__law_list_product f__law_list_sum f__law_folded f__law_unfold_is f__law_value_is f__law_total f__law_symmetric_row f__law_first_difference f__law_not_symmetric f__law_one_direction_only f__law_refusals f__law_values f_law f_te f_oe f_se B M Z O S : Addr} (X : K.In h) (G : h.Ns mainGlobals mg) (hfa : mg "law" = some (.ref fa))
    {od_places_length an_places_length : Option Addr} {sl_places_length : Array (Option Value)} {oc_places_length kV_places_length dc_places_length pm_places_length cd_places_length ct_places_length : Value}
    {od_same_lengths an_same_lengths : Option Addr} {sl_same_lengths : Array (Option Value)} {oc_same_lengths kV_same_lengths dc_same_lengths pm_same_lengths cd_same_lengths ct_same_lengths : Value}
    {od_same_dimension an_same_dimension : Option Addr} {sl_same_dimension : Array (Option Value)} {oc_same_dimension kV_same_dimension dc_same_dimension pm_same_dimension cd_same_dimension ct_same_dimension : Value}
    {TD_same_dimension A0_same_dimension : Addr} {to_same_dimension uo_same_dimension : Option Addr} {tn_same_dimension un_same_dimension : Nat} {ts_same_dimension us_same_dimension : Array (Option Value)}
    {tc_same_dimension : Value}
    {od_one_direction an_one_direction : Option Addr} {sl_one_direction : Array (Option Value)} {oc_one_direction kV_one_direction dc_one_direction pm_one_direction cd_one_direction ct_one_direction : Value}
    {od_row_of an_row_of : Option Addr} {sl_row_of : Array (Option Value)} {oc_row_of kV_row_of dc_row_of pm_row_of cd_row_of ct_row_of : Value}
    {od_gather an_gather : Option Addr} {sl_gather : Array (Option Value)} {oc_gather kV_gather dc_gather pm_gather cd_gather ct_gather : Value}
    {od_dense an_dense : Option Addr} {sl_dense : Array (Option Value)} {oc_dense kV_dense dc_dense pm_dense cd_dense ct_dense : Value}
    {od_unequal_place an_unequal_place : Option Addr} {sl_unequal_place : Array (Option Value)} {oc_unequal_place kV_unequal_place dc_unequal_place pm_unequal_place cd_unequal_place ct_unequal_place : Value}
    {od_require_symmetric an_require_symmetric : Option Addr} {sl_require_symmetric : Array (Option Value)} {oc_require_symmetric kV_require_symmetric dc_require_symmetric pm_require_symmetric cd_require_symmetric ct_require_symmetric : Value}
    {od_upper_half an_upper_half : Option Addr} {sl_upper_half : Array (Option Value)} {oc_upper_half kV_upper_half dc_upper_half pm_upper_half cd_upper_half ct_upper_half : Value}
    {od_fold an_fold : Option Addr} {sl_fold : Array (Option Value)} {oc_fold kV_fold dc_fold pm_fold cd_fold ct_fold : Value}
    {od_unfold an_unfold : Option Addr} {sl_unfold : Array (Option Value)} {oc_unfold kV_unfold dc_unfold pm_unfold cd_unfold ct_unfold : Value}
    {od_fold_value an_fold_value : Option Addr} {sl_fold_value : Array (Option Value)} {oc_fold_value kV_fold_value dc_fold_value pm_fold_value cd_fold_value ct_fold_value : Value}
    {od__law_cell an__law_cell : Option Addr} {sl__law_cell : Array (Option Value)} {oc__law_cell kV__law_cell dc__law_cell pm__law_cell cd__law_cell ct__law_cell : Value}
    {od__law_draws an__law_draws : Option Addr} {sl__law_draws : Array (Option Value)} {oc__law_draws kV__law_draws dc__law_draws pm__law_draws cd__law_draws ct__law_draws : Value}
    {od__law_is_integer an__law_is_integer : Option Addr} {sl__law_is_integer : Array (Option Value)} {oc__law_is_integer kV__law_is_integer dc__law_is_integer pm__law_is_integer cd__law_is_integer ct__law_is_integer : Value}
    {od__law_is_place an__law_is_place : Option Addr} {sl__law_is_place : Array (Option Value)} {oc__law_is_place kV__law_is_place dc__law_is_place pm__law_is_place cd__law_is_place ct__law_is_place : Value}
    {od__law_is_row an__law_is_row : Option Addr} {sl__law_is_row : Array (Option Value)} {oc__law_is_row kV__law_is_row dc__law_is_row pm__law_is_row cd__law_is_row ct__law_is_row : Value}
    {od__law_same an__law_same : Option Addr} {sl__law_same : Array (Option Value)} {oc__law_same kV__law_same dc__law_same pm__law_same cd__law_same ct__law_same : Value}
    {od__law_plus an__law_plus : Option Addr} {sl__law_plus : Array (Option Value)} {oc__law_plus kV__law_plus dc__law_plus pm__law_plus cd__law_plus ct__law_plus : Value}
    {od__law_back an__law_back : Option Addr} {sl__law_back : Array (Option Value)} {oc__law_back kV__law_back dc__law_back pm__law_back cd__law_back ct__law_back : Value}
    {od__law_row an__law_row : Option Addr} {sl__law_row : Array (Option Value)} {oc__law_row kV__law_row dc__law_row pm__law_row cd__law_row ct__law_row : Value}
    {od__law_add an__law_add : Option Addr} {sl__law_add : Array (Option Value)} {oc__law_add kV__law_add dc__law_add pm__law_add cd__law_add ct__law_add : Value}
    {od__law_times an__law_times : Option Addr} {sl__law_times : Array (Option Value)} {oc__law_times kV__law_times dc__law_times pm__law_times cd__law_times ct__law_times : Value}
    {od__law_mirror an__law_mirror : Option Addr} {sl__law_mirror : Array (Option Value)} {oc__law_mirror kV__law_mirror dc__law_mirror pm__law_mirror cd__law_mirror ct__law_mirror : Value}
    {od__law_moved an__law_moved : Option Addr} {sl__law_moved : Array (Option Value)} {oc__law_moved kV__law_moved dc__law_moved pm__law_moved cd__law_moved ct__law_moved : Value}
    {od__law_at an__law_at : Option Addr} {sl__law_at : Array (Option Value)} {oc__law_at kV__law_at dc__law_at pm__law_at cd__law_at ct__law_at : Value}
    {od__law_zero an__law_zero : Option Addr} {sl__law_zero : Array (Option Value)} {oc__law_zero kV__law_zero dc__law_zero pm__law_zero cd__law_zero ct__law_zero : Value}
    {od__law_places an__law_places : Option Addr} {sl__law_places : Array (Option Value)} {oc__law_places kV__law_places dc__law_places pm__law_places cd__law_places ct__law_places : Value}
    {od__law_drawn an__law_drawn : Option Addr} {sl__law_drawn : Array (Option Value)} {oc__law_drawn kV__law_drawn dc__law_drawn pm__law_drawn cd__law_drawn ct__law_drawn : Value}
    {od__law_box an__law_box : Option Addr} {sl__law_box : Array (Option Value)} {oc__law_box kV__law_box dc__law_box pm__law_box cd__law_box ct__law_box : Value}
    {od__law_is_error an__law_is_error : Option Addr} {sl__law_is_error : Array (Option Value)} {oc__law_is_error kV__law_is_error dc__law_is_error pm__law_is_error cd__law_is_error ct__law_is_error : Value}
    {od__law_is_numbers an__law_is_numbers : Option Addr} {sl__law_is_numbers : Array (Option Value)} {oc__law_is_numbers kV__law_is_numbers dc__law_is_numbers pm__law_is_numbers cd__law_is_numbers ct__law_is_numbers : Value}
    {od__law_unfolded an__law_unfolded : Option Addr} {sl__law_unfolded : Array (Option Value)} {oc__law_unfolded kV__law_unfolded dc__law_unfolded pm__law_unfolded cd__law_unfolded ct__law_unfolded : Value}
    {od__law_stripped an__law_stripped : Option Addr} {sl__law_stripped : Array (Option Value)} {oc__law_stripped kV__law_stripped dc__law_stripped pm__law_stripped cd__law_stripped ct__law_stripped : Value}
    {od__law_value an__law_value : Option Addr} {sl__law_value : Array (Option Value)} {oc__law_value kV__law_value dc__law_value pm__law_value cd__law_value ct__law_value : Value}
    {od__law_list_product an__law_list_product : Option Addr} {sl__law_list_product : Array (Option Value)} {oc__law_list_product kV__law_list_product dc__law_list_product pm__law_list_product cd__law_list_product ct__law_list_product : Value}
    {od__law_list_sum an__law_list_sum : Option Addr} {sl__law_list_sum : Array (Option Value)} {oc__law_list_sum kV__law_list_sum dc__law_list_sum pm__law_list_sum cd__law_list_sum ct__law_list_sum : Value}
    {od__law_folded an__law_folded : Option Addr} {sl__law_folded : Array (Option Value)} {oc__law_folded kV__law_folded dc__law_folded pm__law_folded cd__law_folded ct__law_folded : Value}
    {od__law_unfold_is an__law_unfold_is : Option Addr} {sl__law_unfold_is : Array (Option Value)} {oc__law_unfold_is kV__law_unfold_is dc__law_unfold_is pm__law_unfold_is cd__law_unfold_is ct__law_unfold_is : Value}
    {od__law_value_is an__law_value_is : Option Addr} {sl__law_value_is : Array (Option Value)} {oc__law_value_is kV__law_value_is dc__law_value_is pm__law_value_is cd__law_value_is ct__law_value_is : Value}
    {od__law_total an__law_total : Option Addr} {sl__law_total : Array (Option Value)} {oc__law_total kV__law_total dc__law_total pm__law_total cd__law_total ct__law_total : Value}
    {od__law_symmetric_row an__law_symmetric_row : Option Addr} {sl__law_symmetric_row : Array (Option Value)} {oc__law_symmetric_row kV__law_symmetric_row dc__law_symmetric_row pm__law_symmetric_row cd__law_symmetric_row ct__law_symmetric_row : Value}
    {od__law_first_difference an__law_first_difference : Option Addr} {sl__law_first_difference : Array (Option Value)} {oc__law_first_difference kV__law_first_difference dc__law_first_difference pm__law_first_difference cd__law_first_difference ct__law_first_difference : Value}
    {od__law_not_symmetric an__law_not_symmetric : Option Addr} {sl__law_not_symmetric : Array (Option Value)} {oc__law_not_symmetric kV__law_not_symmetric dc__law_not_symmetric pm__law_not_symmetric cd__law_not_symmetric ct__law_not_symmetric : Value}
    {od__law_one_direction_only an__law_one_direction_only : Option Addr} {sl__law_one_direction_only : Array (Option Value)} {oc__law_one_direction_only kV__law_one_direction_only dc__law_one_direction_only pm__law_one_direction_only cd__law_one_direction_only ct__law_one_direction_only : Value}
    {od__law_refusals an__law_refusals : Option Addr} {sl__law_refusals : Array (Option Value)} {oc__law_refusals kV__law_refusals dc__law_refusals pm__law_refusals cd__law_refusals ct__law_refusals : Value}
    {od__law_values an__law_values : Option Addr} {sl__law_values : Array (Option Value)} {oc__law_values kV__law_values dc__law_values pm__law_values cd__law_values ct__law_values : Value}
    {od_law an_law : Option Addr} {sl_law : Array (Option Value)} {oc_law kV_law dc_law pm_law cd_law ct_law : Value}
    {od_te an_te : Option Addr} {sl_te : Array (Option Value)} {oc_te kV_te dc_te pm_te cd_te ct_te : Value}
    {od_oe an_oe : Option Addr} {sl_oe : Array (Option Value)} {oc_oe kV_oe dc_oe pm_oe cd_oe ct_oe : Value}
    {od_se an_se : Option Addr} {sl_se : Array (Option Value)} {oc_se kV_se dc_se pm_se cd_se ct_se : Value}
    {nm_M q_M : Str} {N_M : Addr} {bs_M bm_M : List Value} {sn_M : List Str} {sub_M : List Value} {ab_M : Bool} {col_M : Option Bool} {dd_M : Option Addr} {m0_M m1_M m3_M m5_M : Option Value} {tk_M : Tok}
    {nm_O q_O : Str} {N_O : Addr} {bs_O bm_O : List Value} {sn_O : List Str} {sub_O : List Value} {ab_O : Bool} {col_O : Option Bool} {dd_O : Option Addr} {m0_O m1_O m3_O m5_O : Option Value} {tk_O : Tok}
    {nm_S q_S : Str} {N_S : Addr} {bs_S bm_S : List Value} {sn_S : List Str} {sub_S : List Value} {ab_S : Bool} {col_S : Option Bool} {dd_S : Option Addr} {m0_S m1_S m3_S m5_S : Option Value} {tk_S : Tok}
    (z_len : PySem.W.nsIn K mainGlobals "len" = some none)
    (z_int : PySem.W.nsIn K mainGlobals "int" = some none)
    (z_str : PySem.W.nsIn K mainGlobals "str" = some none)
    (z_bool : PySem.W.nsIn K mainGlobals "bool" = some none)
    (z_list : PySem.W.nsIn K mainGlobals "list" = some none)
    (z_tuple : PySem.W.nsIn K mainGlobals "tuple" = some none)
    (z_range : PySem.W.nsIn K mainGlobals "range" = some none)
    (z_enumerate : PySem.W.nsIn K mainGlobals "enumerate" = some none)
    (z_isinstance : PySem.W.nsIn K mainGlobals "isinstance" = some none)
    (z_sorted : PySem.W.nsIn K mainGlobals "sorted" = some none)
    (z_abs : PySem.W.nsIn K mainGlobals "abs" = some none)
    (z_any : PySem.W.nsIn K mainGlobals "any" = some none)
    (z_sum : PySem.W.nsIn K mainGlobals "sum" = some none)
    (z_min : PySem.W.nsIn K mainGlobals "min" = some none)
    (z_max : PySem.W.nsIn K mainGlobals "max" = some none)
    (z_zip : PySem.W.nsIn K mainGlobals "zip" = some none)
    (z_ValueError : PySem.W.nsIn K mainGlobals "ValueError" = some none)
    (a_places_length : PySem.W.nsIn K mainGlobals "places_length" = some (some (.ref f_places_length)))
    (l_places_length : K.lookup f_places_length = some ⟨oc_places_length, od_places_length, .func (PySem.W.fnOf "places_length" "places_length" (C8.fnArgs s_places_length) (C8.fnBody s_places_length) (C8.fnScope s_places_length) .none kV_places_length dc_places_length pm_places_length an_places_length cd_places_length ct_places_length), sl_places_length⟩)
    (co_places_length : PySem.W.codeIn K cd_places_length "places_length" = true)
    (k_places_length : PySem.W.keepIn K (.ref f_places_length) = true)
    (a_same_lengths : PySem.W.nsIn K mainGlobals "same_lengths" = some (some (.ref f_same_lengths)))
    (l_same_lengths : K.lookup f_same_lengths = some ⟨oc_same_lengths, od_same_lengths, .func (PySem.W.fnOf "same_lengths" "same_lengths" (C8.fnArgs s_same_lengths) (C8.fnBody s_same_lengths) (C8.fnScope s_same_lengths) .none kV_same_lengths dc_same_lengths pm_same_lengths an_same_lengths cd_same_lengths ct_same_lengths), sl_same_lengths⟩)
    (co_same_lengths : PySem.W.codeIn K cd_same_lengths "same_lengths" = true)
    (k_same_lengths : PySem.W.keepIn K (.ref f_same_lengths) = true)
    (a_same_dimension : PySem.W.nsIn K mainGlobals "same_dimension" = some (some (.ref f_same_dimension)))
    (l_same_dimension : K.lookup f_same_dimension = some ⟨oc_same_dimension, od_same_dimension, .func (PySem.W.fnOf "same_dimension" "same_dimension" (C8.fnArgs s_same_dimension) (C8.fnBody s_same_dimension) (C8.fnScope s_same_dimension) (.ref TD_same_dimension) kV_same_dimension dc_same_dimension pm_same_dimension an_same_dimension cd_same_dimension ct_same_dimension), sl_same_dimension⟩)
    (lt_same_dimension : K.lookup TD_same_dimension = some ⟨tc_same_dimension, to_same_dimension, .seq #[.ref A0_same_dimension] tn_same_dimension, ts_same_dimension⟩)
    (lu_same_dimension : K.lookup A0_same_dimension = some ⟨.type "tuple", uo_same_dimension, .seq #[] un_same_dimension, us_same_dimension⟩)
    (co_same_dimension : PySem.W.codeIn K cd_same_dimension "same_dimension" = true)
    (k_same_dimension : PySem.W.keepIn K (.ref f_same_dimension) = true)
    (a_one_direction : PySem.W.nsIn K mainGlobals "one_direction" = some (some (.ref f_one_direction)))
    (l_one_direction : K.lookup f_one_direction = some ⟨oc_one_direction, od_one_direction, .func (PySem.W.fnOf "one_direction" "one_direction" (C8.fnArgs s_one_direction) (C8.fnBody s_one_direction) (C8.fnScope s_one_direction) .none kV_one_direction dc_one_direction pm_one_direction an_one_direction cd_one_direction ct_one_direction), sl_one_direction⟩)
    (co_one_direction : PySem.W.codeIn K cd_one_direction "one_direction" = true)
    (k_one_direction : PySem.W.keepIn K (.ref f_one_direction) = true)
    (a_row_of : PySem.W.nsIn K mainGlobals "row_of" = some (some (.ref f_row_of)))
    (l_row_of : K.lookup f_row_of = some ⟨oc_row_of, od_row_of, .func (PySem.W.fnOf "row_of" "row_of" (C8.fnArgs s_row_of) (C8.fnBody s_row_of) (C8.fnScope s_row_of) .none kV_row_of dc_row_of pm_row_of an_row_of cd_row_of ct_row_of), sl_row_of⟩)
    (co_row_of : PySem.W.codeIn K cd_row_of "row_of" = true)
    (k_row_of : PySem.W.keepIn K (.ref f_row_of) = true)
    (a_gather : PySem.W.nsIn K mainGlobals "gather" = some (some (.ref f_gather)))
    (l_gather : K.lookup f_gather = some ⟨oc_gather, od_gather, .func (PySem.W.fnOf "gather" "gather" (C8.fnArgs s_gather) (C8.fnBody s_gather) (C8.fnScope s_gather) .none kV_gather dc_gather pm_gather an_gather cd_gather ct_gather), sl_gather⟩)
    (co_gather : PySem.W.codeIn K cd_gather "gather" = true)
    (k_gather : PySem.W.keepIn K (.ref f_gather) = true)
    (a_dense : PySem.W.nsIn K mainGlobals "dense" = some (some (.ref f_dense)))
    (l_dense : K.lookup f_dense = some ⟨oc_dense, od_dense, .func (PySem.W.fnOf "dense" "dense" (C8.fnArgs s_dense) (C8.fnBody s_dense) (C8.fnScope s_dense) .none kV_dense dc_dense pm_dense an_dense cd_dense ct_dense), sl_dense⟩)
    (co_dense : PySem.W.codeIn K cd_dense "dense" = true)
    (k_dense : PySem.W.keepIn K (.ref f_dense) = true)
    (a_unequal_place : PySem.W.nsIn K mainGlobals "unequal_place" = some (some (.ref f_unequal_place)))
    (l_unequal_place : K.lookup f_unequal_place = some ⟨oc_unequal_place, od_unequal_place, .func (PySem.W.fnOf "unequal_place" "unequal_place" (C8.fnArgs s_unequal_place) (C8.fnBody s_unequal_place) (C8.fnScope s_unequal_place) .none kV_unequal_place dc_unequal_place pm_unequal_place an_unequal_place cd_unequal_place ct_unequal_place), sl_unequal_place⟩)
    (co_unequal_place : PySem.W.codeIn K cd_unequal_place "unequal_place" = true)
    (k_unequal_place : PySem.W.keepIn K (.ref f_unequal_place) = true)
    (a_require_symmetric : PySem.W.nsIn K mainGlobals "require_symmetric" = some (some (.ref f_require_symmetric)))
    (l_require_symmetric : K.lookup f_require_symmetric = some ⟨oc_require_symmetric, od_require_symmetric, .func (PySem.W.fnOf "require_symmetric" "require_symmetric" (C8.fnArgs s_require_symmetric) (C8.fnBody s_require_symmetric) (C8.fnScope s_require_symmetric) .none kV_require_symmetric dc_require_symmetric pm_require_symmetric an_require_symmetric cd_require_symmetric ct_require_symmetric), sl_require_symmetric⟩)
    (co_require_symmetric : PySem.W.codeIn K cd_require_symmetric "require_symmetric" = true)
    (k_require_symmetric : PySem.W.keepIn K (.ref f_require_symmetric) = true)
    (a_upper_half : PySem.W.nsIn K mainGlobals "upper_half" = some (some (.ref f_upper_half)))
    (l_upper_half : K.lookup f_upper_half = some ⟨oc_upper_half, od_upper_half, .func (PySem.W.fnOf "upper_half" "upper_half" (C8.fnArgs s_upper_half) (C8.fnBody s_upper_half) (C8.fnScope s_upper_half) .none kV_upper_half dc_upper_half pm_upper_half an_upper_half cd_upper_half ct_upper_half), sl_upper_half⟩)
    (co_upper_half : PySem.W.codeIn K cd_upper_half "upper_half" = true)
    (k_upper_half : PySem.W.keepIn K (.ref f_upper_half) = true)
    (a_fold : PySem.W.nsIn K mainGlobals "fold" = some (some (.ref f_fold)))
    (l_fold : K.lookup f_fold = some ⟨oc_fold, od_fold, .func (PySem.W.fnOf "fold" "fold" (C8.fnArgs s_fold) (C8.fnBody s_fold) (C8.fnScope s_fold) .none kV_fold dc_fold pm_fold an_fold cd_fold ct_fold), sl_fold⟩)
    (co_fold : PySem.W.codeIn K cd_fold "fold" = true)
    (k_fold : PySem.W.keepIn K (.ref f_fold) = true)
    (a_unfold : PySem.W.nsIn K mainGlobals "unfold" = some (some (.ref f_unfold)))
    (l_unfold : K.lookup f_unfold = some ⟨oc_unfold, od_unfold, .func (PySem.W.fnOf "unfold" "unfold" (C8.fnArgs s_unfold) (C8.fnBody s_unfold) (C8.fnScope s_unfold) .none kV_unfold dc_unfold pm_unfold an_unfold cd_unfold ct_unfold), sl_unfold⟩)
    (co_unfold : PySem.W.codeIn K cd_unfold "unfold" = true)
    (k_unfold : PySem.W.keepIn K (.ref f_unfold) = true)
    (a_fold_value : PySem.W.nsIn K mainGlobals "fold_value" = some (some (.ref f_fold_value)))
    (l_fold_value : K.lookup f_fold_value = some ⟨oc_fold_value, od_fold_value, .func (PySem.W.fnOf "fold_value" "fold_value" (C8.fnArgs s_fold_value) (C8.fnBody s_fold_value) (C8.fnScope s_fold_value) .none kV_fold_value dc_fold_value pm_fold_value an_fold_value cd_fold_value ct_fold_value), sl_fold_value⟩)
    (co_fold_value : PySem.W.codeIn K cd_fold_value "fold_value" = true)
    (k_fold_value : PySem.W.keepIn K (.ref f_fold_value) = true)
    (a__law_cell : PySem.W.nsIn K mainGlobals "_law_cell" = some (some (.ref f__law_cell)))
    (l__law_cell : K.lookup f__law_cell = some ⟨oc__law_cell, od__law_cell, .func (PySem.W.fnOf "_law_cell" "_law_cell" (C8.fnArgs s__law_cell) (C8.fnBody s__law_cell) (C8.fnScope s__law_cell) .none kV__law_cell dc__law_cell pm__law_cell an__law_cell cd__law_cell ct__law_cell), sl__law_cell⟩)
    (co__law_cell : PySem.W.codeIn K cd__law_cell "_law_cell" = true)
    (k__law_cell : PySem.W.keepIn K (.ref f__law_cell) = true)
    (a__law_draws : PySem.W.nsIn K mainGlobals "_law_draws" = some (some (.ref f__law_draws)))
    (l__law_draws : K.lookup f__law_draws = some ⟨oc__law_draws, od__law_draws, .func (PySem.W.fnOf "_law_draws" "_law_draws" (C8.fnArgs s__law_draws) (C8.fnBody s__law_draws) (C8.fnScope s__law_draws) .none kV__law_draws dc__law_draws pm__law_draws an__law_draws cd__law_draws ct__law_draws), sl__law_draws⟩)
    (co__law_draws : PySem.W.codeIn K cd__law_draws "_law_draws" = true)
    (k__law_draws : PySem.W.keepIn K (.ref f__law_draws) = true)
    (a__law_is_integer : PySem.W.nsIn K mainGlobals "_law_is_integer" = some (some (.ref f__law_is_integer)))
    (l__law_is_integer : K.lookup f__law_is_integer = some ⟨oc__law_is_integer, od__law_is_integer, .func (PySem.W.fnOf "_law_is_integer" "_law_is_integer" (C8.fnArgs s__law_is_integer) (C8.fnBody s__law_is_integer) (C8.fnScope s__law_is_integer) .none kV__law_is_integer dc__law_is_integer pm__law_is_integer an__law_is_integer cd__law_is_integer ct__law_is_integer), sl__law_is_integer⟩)
    (co__law_is_integer : PySem.W.codeIn K cd__law_is_integer "_law_is_integer" = true)
    (k__law_is_integer : PySem.W.keepIn K (.ref f__law_is_integer) = true)
    (a__law_is_place : PySem.W.nsIn K mainGlobals "_law_is_place" = some (some (.ref f__law_is_place)))
    (l__law_is_place : K.lookup f__law_is_place = some ⟨oc__law_is_place, od__law_is_place, .func (PySem.W.fnOf "_law_is_place" "_law_is_place" (C8.fnArgs s__law_is_place) (C8.fnBody s__law_is_place) (C8.fnScope s__law_is_place) .none kV__law_is_place dc__law_is_place pm__law_is_place an__law_is_place cd__law_is_place ct__law_is_place), sl__law_is_place⟩)
    (co__law_is_place : PySem.W.codeIn K cd__law_is_place "_law_is_place" = true)
    (k__law_is_place : PySem.W.keepIn K (.ref f__law_is_place) = true)
    (a__law_is_row : PySem.W.nsIn K mainGlobals "_law_is_row" = some (some (.ref f__law_is_row)))
    (l__law_is_row : K.lookup f__law_is_row = some ⟨oc__law_is_row, od__law_is_row, .func (PySem.W.fnOf "_law_is_row" "_law_is_row" (C8.fnArgs s__law_is_row) (C8.fnBody s__law_is_row) (C8.fnScope s__law_is_row) .none kV__law_is_row dc__law_is_row pm__law_is_row an__law_is_row cd__law_is_row ct__law_is_row), sl__law_is_row⟩)
    (co__law_is_row : PySem.W.codeIn K cd__law_is_row "_law_is_row" = true)
    (k__law_is_row : PySem.W.keepIn K (.ref f__law_is_row) = true)
    (a__law_same : PySem.W.nsIn K mainGlobals "_law_same" = some (some (.ref f__law_same)))
    (l__law_same : K.lookup f__law_same = some ⟨oc__law_same, od__law_same, .func (PySem.W.fnOf "_law_same" "_law_same" (C8.fnArgs s__law_same) (C8.fnBody s__law_same) (C8.fnScope s__law_same) .none kV__law_same dc__law_same pm__law_same an__law_same cd__law_same ct__law_same), sl__law_same⟩)
    (co__law_same : PySem.W.codeIn K cd__law_same "_law_same" = true)
    (k__law_same : PySem.W.keepIn K (.ref f__law_same) = true)
    (a__law_plus : PySem.W.nsIn K mainGlobals "_law_plus" = some (some (.ref f__law_plus)))
    (l__law_plus : K.lookup f__law_plus = some ⟨oc__law_plus, od__law_plus, .func (PySem.W.fnOf "_law_plus" "_law_plus" (C8.fnArgs s__law_plus) (C8.fnBody s__law_plus) (C8.fnScope s__law_plus) .none kV__law_plus dc__law_plus pm__law_plus an__law_plus cd__law_plus ct__law_plus), sl__law_plus⟩)
    (co__law_plus : PySem.W.codeIn K cd__law_plus "_law_plus" = true)
    (k__law_plus : PySem.W.keepIn K (.ref f__law_plus) = true)
    (a__law_back : PySem.W.nsIn K mainGlobals "_law_back" = some (some (.ref f__law_back)))
    (l__law_back : K.lookup f__law_back = some ⟨oc__law_back, od__law_back, .func (PySem.W.fnOf "_law_back" "_law_back" (C8.fnArgs s__law_back) (C8.fnBody s__law_back) (C8.fnScope s__law_back) .none kV__law_back dc__law_back pm__law_back an__law_back cd__law_back ct__law_back), sl__law_back⟩)
    (co__law_back : PySem.W.codeIn K cd__law_back "_law_back" = true)
    (k__law_back : PySem.W.keepIn K (.ref f__law_back) = true)
    (a__law_row : PySem.W.nsIn K mainGlobals "_law_row" = some (some (.ref f__law_row)))
    (l__law_row : K.lookup f__law_row = some ⟨oc__law_row, od__law_row, .func (PySem.W.fnOf "_law_row" "_law_row" (C8.fnArgs s__law_row) (C8.fnBody s__law_row) (C8.fnScope s__law_row) .none kV__law_row dc__law_row pm__law_row an__law_row cd__law_row ct__law_row), sl__law_row⟩)
    (co__law_row : PySem.W.codeIn K cd__law_row "_law_row" = true)
    (k__law_row : PySem.W.keepIn K (.ref f__law_row) = true)
    (a__law_add : PySem.W.nsIn K mainGlobals "_law_add" = some (some (.ref f__law_add)))
    (l__law_add : K.lookup f__law_add = some ⟨oc__law_add, od__law_add, .func (PySem.W.fnOf "_law_add" "_law_add" (C8.fnArgs s__law_add) (C8.fnBody s__law_add) (C8.fnScope s__law_add) .none kV__law_add dc__law_add pm__law_add an__law_add cd__law_add ct__law_add), sl__law_add⟩)
    (co__law_add : PySem.W.codeIn K cd__law_add "_law_add" = true)
    (k__law_add : PySem.W.keepIn K (.ref f__law_add) = true)
    (a__law_times : PySem.W.nsIn K mainGlobals "_law_times" = some (some (.ref f__law_times)))
    (l__law_times : K.lookup f__law_times = some ⟨oc__law_times, od__law_times, .func (PySem.W.fnOf "_law_times" "_law_times" (C8.fnArgs s__law_times) (C8.fnBody s__law_times) (C8.fnScope s__law_times) .none kV__law_times dc__law_times pm__law_times an__law_times cd__law_times ct__law_times), sl__law_times⟩)
    (co__law_times : PySem.W.codeIn K cd__law_times "_law_times" = true)
    (k__law_times : PySem.W.keepIn K (.ref f__law_times) = true)
    (a__law_mirror : PySem.W.nsIn K mainGlobals "_law_mirror" = some (some (.ref f__law_mirror)))
    (l__law_mirror : K.lookup f__law_mirror = some ⟨oc__law_mirror, od__law_mirror, .func (PySem.W.fnOf "_law_mirror" "_law_mirror" (C8.fnArgs s__law_mirror) (C8.fnBody s__law_mirror) (C8.fnScope s__law_mirror) .none kV__law_mirror dc__law_mirror pm__law_mirror an__law_mirror cd__law_mirror ct__law_mirror), sl__law_mirror⟩)
    (co__law_mirror : PySem.W.codeIn K cd__law_mirror "_law_mirror" = true)
    (k__law_mirror : PySem.W.keepIn K (.ref f__law_mirror) = true)
    (a__law_moved : PySem.W.nsIn K mainGlobals "_law_moved" = some (some (.ref f__law_moved)))
    (l__law_moved : K.lookup f__law_moved = some ⟨oc__law_moved, od__law_moved, .func (PySem.W.fnOf "_law_moved" "_law_moved" (C8.fnArgs s__law_moved) (C8.fnBody s__law_moved) (C8.fnScope s__law_moved) .none kV__law_moved dc__law_moved pm__law_moved an__law_moved cd__law_moved ct__law_moved), sl__law_moved⟩)
    (co__law_moved : PySem.W.codeIn K cd__law_moved "_law_moved" = true)
    (k__law_moved : PySem.W.keepIn K (.ref f__law_moved) = true)
    (a__law_at : PySem.W.nsIn K mainGlobals "_law_at" = some (some (.ref f__law_at)))
    (l__law_at : K.lookup f__law_at = some ⟨oc__law_at, od__law_at, .func (PySem.W.fnOf "_law_at" "_law_at" (C8.fnArgs s__law_at) (C8.fnBody s__law_at) (C8.fnScope s__law_at) .none kV__law_at dc__law_at pm__law_at an__law_at cd__law_at ct__law_at), sl__law_at⟩)
    (co__law_at : PySem.W.codeIn K cd__law_at "_law_at" = true)
    (k__law_at : PySem.W.keepIn K (.ref f__law_at) = true)
    (a__law_zero : PySem.W.nsIn K mainGlobals "_law_zero" = some (some (.ref f__law_zero)))
    (l__law_zero : K.lookup f__law_zero = some ⟨oc__law_zero, od__law_zero, .func (PySem.W.fnOf "_law_zero" "_law_zero" (C8.fnArgs s__law_zero) (C8.fnBody s__law_zero) (C8.fnScope s__law_zero) .none kV__law_zero dc__law_zero pm__law_zero an__law_zero cd__law_zero ct__law_zero), sl__law_zero⟩)
    (co__law_zero : PySem.W.codeIn K cd__law_zero "_law_zero" = true)
    (k__law_zero : PySem.W.keepIn K (.ref f__law_zero) = true)
    (a__law_places : PySem.W.nsIn K mainGlobals "_law_places" = some (some (.ref f__law_places)))
    (l__law_places : K.lookup f__law_places = some ⟨oc__law_places, od__law_places, .func (PySem.W.fnOf "_law_places" "_law_places" (C8.fnArgs s__law_places) (C8.fnBody s__law_places) (C8.fnScope s__law_places) .none kV__law_places dc__law_places pm__law_places an__law_places cd__law_places ct__law_places), sl__law_places⟩)
    (co__law_places : PySem.W.codeIn K cd__law_places "_law_places" = true)
    (k__law_places : PySem.W.keepIn K (.ref f__law_places) = true)
    (a__law_drawn : PySem.W.nsIn K mainGlobals "_law_drawn" = some (some (.ref f__law_drawn)))
    (l__law_drawn : K.lookup f__law_drawn = some ⟨oc__law_drawn, od__law_drawn, .func (PySem.W.fnOf "_law_drawn" "_law_drawn" (C8.fnArgs s__law_drawn) (C8.fnBody s__law_drawn) (C8.fnScope s__law_drawn) .none kV__law_drawn dc__law_drawn pm__law_drawn an__law_drawn cd__law_drawn ct__law_drawn), sl__law_drawn⟩)
    (co__law_drawn : PySem.W.codeIn K cd__law_drawn "_law_drawn" = true)
    (k__law_drawn : PySem.W.keepIn K (.ref f__law_drawn) = true)
    (a__law_box : PySem.W.nsIn K mainGlobals "_law_box" = some (some (.ref f__law_box)))
    (l__law_box : K.lookup f__law_box = some ⟨oc__law_box, od__law_box, .func (PySem.W.fnOf "_law_box" "_law_box" (C8.fnArgs s__law_box) (C8.fnBody s__law_box) (C8.fnScope s__law_box) .none kV__law_box dc__law_box pm__law_box an__law_box cd__law_box ct__law_box), sl__law_box⟩)
    (co__law_box : PySem.W.codeIn K cd__law_box "_law_box" = true)
    (k__law_box : PySem.W.keepIn K (.ref f__law_box) = true)
    (a__law_is_error : PySem.W.nsIn K mainGlobals "_law_is_error" = some (some (.ref f__law_is_error)))
    (l__law_is_error : K.lookup f__law_is_error = some ⟨oc__law_is_error, od__law_is_error, .func (PySem.W.fnOf "_law_is_error" "_law_is_error" (C8.fnArgs s__law_is_error) (C8.fnBody s__law_is_error) (C8.fnScope s__law_is_error) .none kV__law_is_error dc__law_is_error pm__law_is_error an__law_is_error cd__law_is_error ct__law_is_error), sl__law_is_error⟩)
    (co__law_is_error : PySem.W.codeIn K cd__law_is_error "_law_is_error" = true)
    (k__law_is_error : PySem.W.keepIn K (.ref f__law_is_error) = true)
    (a__law_is_numbers : PySem.W.nsIn K mainGlobals "_law_is_numbers" = some (some (.ref f__law_is_numbers)))
    (l__law_is_numbers : K.lookup f__law_is_numbers = some ⟨oc__law_is_numbers, od__law_is_numbers, .func (PySem.W.fnOf "_law_is_numbers" "_law_is_numbers" (C8.fnArgs s__law_is_numbers) (C8.fnBody s__law_is_numbers) (C8.fnScope s__law_is_numbers) .none kV__law_is_numbers dc__law_is_numbers pm__law_is_numbers an__law_is_numbers cd__law_is_numbers ct__law_is_numbers), sl__law_is_numbers⟩)
    (co__law_is_numbers : PySem.W.codeIn K cd__law_is_numbers "_law_is_numbers" = true)
    (k__law_is_numbers : PySem.W.keepIn K (.ref f__law_is_numbers) = true)
    (a__law_unfolded : PySem.W.nsIn K mainGlobals "_law_unfolded" = some (some (.ref f__law_unfolded)))
    (l__law_unfolded : K.lookup f__law_unfolded = some ⟨oc__law_unfolded, od__law_unfolded, .func (PySem.W.fnOf "_law_unfolded" "_law_unfolded" (C8.fnArgs s__law_unfolded) (C8.fnBody s__law_unfolded) (C8.fnScope s__law_unfolded) .none kV__law_unfolded dc__law_unfolded pm__law_unfolded an__law_unfolded cd__law_unfolded ct__law_unfolded), sl__law_unfolded⟩)
    (co__law_unfolded : PySem.W.codeIn K cd__law_unfolded "_law_unfolded" = true)
    (k__law_unfolded : PySem.W.keepIn K (.ref f__law_unfolded) = true)
    (a__law_stripped : PySem.W.nsIn K mainGlobals "_law_stripped" = some (some (.ref f__law_stripped)))
    (l__law_stripped : K.lookup f__law_stripped = some ⟨oc__law_stripped, od__law_stripped, .func (PySem.W.fnOf "_law_stripped" "_law_stripped" (C8.fnArgs s__law_stripped) (C8.fnBody s__law_stripped) (C8.fnScope s__law_stripped) .none kV__law_stripped dc__law_stripped pm__law_stripped an__law_stripped cd__law_stripped ct__law_stripped), sl__law_stripped⟩)
    (co__law_stripped : PySem.W.codeIn K cd__law_stripped "_law_stripped" = true)
    (k__law_stripped : PySem.W.keepIn K (.ref f__law_stripped) = true)
    (a__law_value : PySem.W.nsIn K mainGlobals "_law_value" = some (some (.ref f__law_value)))
    (l__law_value : K.lookup f__law_value = some ⟨oc__law_value, od__law_value, .func (PySem.W.fnOf "_law_value" "_law_value" (C8.fnArgs s__law_value) (C8.fnBody s__law_value) (C8.fnScope s__law_value) .none kV__law_value dc__law_value pm__law_value an__law_value cd__law_value ct__law_value), sl__law_value⟩)
    (co__law_value : PySem.W.codeIn K cd__law_value "_law_value" = true)
    (k__law_value : PySem.W.keepIn K (.ref f__law_value) = true)
    (a__law_list_product : PySem.W.nsIn K mainGlobals "_law_list_product" = some (some (.ref f__law_list_product)))
    (l__law_list_product : K.lookup f__law_list_product = some ⟨oc__law_list_product, od__law_list_product, .func (PySem.W.fnOf "_law_list_product" "_law_list_product" (C8.fnArgs s__law_list_product) (C8.fnBody s__law_list_product) (C8.fnScope s__law_list_product) .none kV__law_list_product dc__law_list_product pm__law_list_product an__law_list_product cd__law_list_product ct__law_list_product), sl__law_list_product⟩)
    (co__law_list_product : PySem.W.codeIn K cd__law_list_product "_law_list_product" = true)
    (k__law_list_product : PySem.W.keepIn K (.ref f__law_list_product) = true)
    (a__law_list_sum : PySem.W.nsIn K mainGlobals "_law_list_sum" = some (some (.ref f__law_list_sum)))
    (l__law_list_sum : K.lookup f__law_list_sum = some ⟨oc__law_list_sum, od__law_list_sum, .func (PySem.W.fnOf "_law_list_sum" "_law_list_sum" (C8.fnArgs s__law_list_sum) (C8.fnBody s__law_list_sum) (C8.fnScope s__law_list_sum) .none kV__law_list_sum dc__law_list_sum pm__law_list_sum an__law_list_sum cd__law_list_sum ct__law_list_sum), sl__law_list_sum⟩)
    (co__law_list_sum : PySem.W.codeIn K cd__law_list_sum "_law_list_sum" = true)
    (k__law_list_sum : PySem.W.keepIn K (.ref f__law_list_sum) = true)
    (a__law_folded : PySem.W.nsIn K mainGlobals "_law_folded" = some (some (.ref f__law_folded)))
    (l__law_folded : K.lookup f__law_folded = some ⟨oc__law_folded, od__law_folded, .func (PySem.W.fnOf "_law_folded" "_law_folded" (C8.fnArgs s__law_folded) (C8.fnBody s__law_folded) (C8.fnScope s__law_folded) .none kV__law_folded dc__law_folded pm__law_folded an__law_folded cd__law_folded ct__law_folded), sl__law_folded⟩)
    (co__law_folded : PySem.W.codeIn K cd__law_folded "_law_folded" = true)
    (k__law_folded : PySem.W.keepIn K (.ref f__law_folded) = true)
    (a__law_unfold_is : PySem.W.nsIn K mainGlobals "_law_unfold_is" = some (some (.ref f__law_unfold_is)))
    (l__law_unfold_is : K.lookup f__law_unfold_is = some ⟨oc__law_unfold_is, od__law_unfold_is, .func (PySem.W.fnOf "_law_unfold_is" "_law_unfold_is" (C8.fnArgs s__law_unfold_is) (C8.fnBody s__law_unfold_is) (C8.fnScope s__law_unfold_is) .none kV__law_unfold_is dc__law_unfold_is pm__law_unfold_is an__law_unfold_is cd__law_unfold_is ct__law_unfold_is), sl__law_unfold_is⟩)
    (co__law_unfold_is : PySem.W.codeIn K cd__law_unfold_is "_law_unfold_is" = true)
    (k__law_unfold_is : PySem.W.keepIn K (.ref f__law_unfold_is) = true)
    (a__law_value_is : PySem.W.nsIn K mainGlobals "_law_value_is" = some (some (.ref f__law_value_is)))
    (l__law_value_is : K.lookup f__law_value_is = some ⟨oc__law_value_is, od__law_value_is, .func (PySem.W.fnOf "_law_value_is" "_law_value_is" (C8.fnArgs s__law_value_is) (C8.fnBody s__law_value_is) (C8.fnScope s__law_value_is) .none kV__law_value_is dc__law_value_is pm__law_value_is an__law_value_is cd__law_value_is ct__law_value_is), sl__law_value_is⟩)
    (co__law_value_is : PySem.W.codeIn K cd__law_value_is "_law_value_is" = true)
    (k__law_value_is : PySem.W.keepIn K (.ref f__law_value_is) = true)
    (a__law_total : PySem.W.nsIn K mainGlobals "_law_total" = some (some (.ref f__law_total)))
    (l__law_total : K.lookup f__law_total = some ⟨oc__law_total, od__law_total, .func (PySem.W.fnOf "_law_total" "_law_total" (C8.fnArgs s__law_total) (C8.fnBody s__law_total) (C8.fnScope s__law_total) .none kV__law_total dc__law_total pm__law_total an__law_total cd__law_total ct__law_total), sl__law_total⟩)
    (co__law_total : PySem.W.codeIn K cd__law_total "_law_total" = true)
    (k__law_total : PySem.W.keepIn K (.ref f__law_total) = true)
    (a__law_symmetric_row : PySem.W.nsIn K mainGlobals "_law_symmetric_row" = some (some (.ref f__law_symmetric_row)))
    (l__law_symmetric_row : K.lookup f__law_symmetric_row = some ⟨oc__law_symmetric_row, od__law_symmetric_row, .func (PySem.W.fnOf "_law_symmetric_row" "_law_symmetric_row" (C8.fnArgs s__law_symmetric_row) (C8.fnBody s__law_symmetric_row) (C8.fnScope s__law_symmetric_row) .none kV__law_symmetric_row dc__law_symmetric_row pm__law_symmetric_row an__law_symmetric_row cd__law_symmetric_row ct__law_symmetric_row), sl__law_symmetric_row⟩)
    (co__law_symmetric_row : PySem.W.codeIn K cd__law_symmetric_row "_law_symmetric_row" = true)
    (k__law_symmetric_row : PySem.W.keepIn K (.ref f__law_symmetric_row) = true)
    (a__law_first_difference : PySem.W.nsIn K mainGlobals "_law_first_difference" = some (some (.ref f__law_first_difference)))
    (l__law_first_difference : K.lookup f__law_first_difference = some ⟨oc__law_first_difference, od__law_first_difference, .func (PySem.W.fnOf "_law_first_difference" "_law_first_difference" (C8.fnArgs s__law_first_difference) (C8.fnBody s__law_first_difference) (C8.fnScope s__law_first_difference) .none kV__law_first_difference dc__law_first_difference pm__law_first_difference an__law_first_difference cd__law_first_difference ct__law_first_difference), sl__law_first_difference⟩)
    (co__law_first_difference : PySem.W.codeIn K cd__law_first_difference "_law_first_difference" = true)
    (k__law_first_difference : PySem.W.keepIn K (.ref f__law_first_difference) = true)
    (a__law_not_symmetric : PySem.W.nsIn K mainGlobals "_law_not_symmetric" = some (some (.ref f__law_not_symmetric)))
    (l__law_not_symmetric : K.lookup f__law_not_symmetric = some ⟨oc__law_not_symmetric, od__law_not_symmetric, .func (PySem.W.fnOf "_law_not_symmetric" "_law_not_symmetric" (C8.fnArgs s__law_not_symmetric) (C8.fnBody s__law_not_symmetric) (C8.fnScope s__law_not_symmetric) .none kV__law_not_symmetric dc__law_not_symmetric pm__law_not_symmetric an__law_not_symmetric cd__law_not_symmetric ct__law_not_symmetric), sl__law_not_symmetric⟩)
    (co__law_not_symmetric : PySem.W.codeIn K cd__law_not_symmetric "_law_not_symmetric" = true)
    (k__law_not_symmetric : PySem.W.keepIn K (.ref f__law_not_symmetric) = true)
    (a__law_one_direction_only : PySem.W.nsIn K mainGlobals "_law_one_direction_only" = some (some (.ref f__law_one_direction_only)))
    (l__law_one_direction_only : K.lookup f__law_one_direction_only = some ⟨oc__law_one_direction_only, od__law_one_direction_only, .func (PySem.W.fnOf "_law_one_direction_only" "_law_one_direction_only" (C8.fnArgs s__law_one_direction_only) (C8.fnBody s__law_one_direction_only) (C8.fnScope s__law_one_direction_only) .none kV__law_one_direction_only dc__law_one_direction_only pm__law_one_direction_only an__law_one_direction_only cd__law_one_direction_only ct__law_one_direction_only), sl__law_one_direction_only⟩)
    (co__law_one_direction_only : PySem.W.codeIn K cd__law_one_direction_only "_law_one_direction_only" = true)
    (k__law_one_direction_only : PySem.W.keepIn K (.ref f__law_one_direction_only) = true)
    (a__law_refusals : PySem.W.nsIn K mainGlobals "_law_refusals" = some (some (.ref f__law_refusals)))
    (l__law_refusals : K.lookup f__law_refusals = some ⟨oc__law_refusals, od__law_refusals, .func (PySem.W.fnOf "_law_refusals" "_law_refusals" (C8.fnArgs s__law_refusals) (C8.fnBody s__law_refusals) (C8.fnScope s__law_refusals) .none kV__law_refusals dc__law_refusals pm__law_refusals an__law_refusals cd__law_refusals ct__law_refusals), sl__law_refusals⟩)
    (co__law_refusals : PySem.W.codeIn K cd__law_refusals "_law_refusals" = true)
    (k__law_refusals : PySem.W.keepIn K (.ref f__law_refusals) = true)
    (a__law_values : PySem.W.nsIn K mainGlobals "_law_values" = some (some (.ref f__law_values)))
    (l__law_values : K.lookup f__law_values = some ⟨oc__law_values, od__law_values, .func (PySem.W.fnOf "_law_values" "_law_values" (C8.fnArgs s__law_values) (C8.fnBody s__law_values) (C8.fnScope s__law_values) .none kV__law_values dc__law_values pm__law_values an__law_values cd__law_values ct__law_values), sl__law_values⟩)
    (co__law_values : PySem.W.codeIn K cd__law_values "_law_values" = true)
    (k__law_values : PySem.W.keepIn K (.ref f__law_values) = true)
    (a_law : PySem.W.nsIn K mainGlobals "law" = some (some (.ref f_law)))
    (l_law : K.lookup f_law = some ⟨oc_law, od_law, .func (PySem.W.fnOf "law" "law" (C8.fnArgs s_law) (C8.fnBody s_law) (C8.fnScope s_law) .none kV_law dc_law pm_law an_law cd_law ct_law), sl_law⟩)
    (co_law : PySem.W.codeIn K cd_law "law" = true)
    (k_law : PySem.W.keepIn K (.ref f_law) = true)
    (a_te : PySem.W.findIn K (.ref B) "__init__" = some (some (.ref f_te)))
    (l_te : K.lookup f_te = some ⟨oc_te, od_te, .func (PySem.W.fnOf "__init__" "TableError.__init__" (C8.fnArgs s_TableError___init__) (C8.fnBody s_TableError___init__) (C8.fnScope s_TableError___init__) .none kV_te dc_te pm_te an_te cd_te ct_te), sl_te⟩)
    (co_te : PySem.W.codeIn K cd_te "TableError.__init__" = true)
    (k_te : PySem.W.keepIn K (.ref f_te) = true)
    (a_oe : PySem.W.findIn K (.ref O) "__init__" = some (some (.ref f_oe)))
    (l_oe : K.lookup f_oe = some ⟨oc_oe, od_oe, .func (PySem.W.fnOf "__init__" "OneDirectionOnly.__init__" (C8.fnArgs s_OneDirectionOnly___init__) (C8.fnBody s_OneDirectionOnly___init__) (C8.fnScope s_OneDirectionOnly___init__) .none kV_oe dc_oe pm_oe an_oe cd_oe ct_oe), sl_oe⟩)
    (co_oe : PySem.W.codeIn K cd_oe "OneDirectionOnly.__init__" = true)
    (k_oe : PySem.W.keepIn K (.ref f_oe) = true)
    (a_se : PySem.W.findIn K (.ref S) "__init__" = some (some (.ref f_se)))
    (l_se : K.lookup f_se = some ⟨oc_se, od_se, .func (PySem.W.fnOf "__init__" "NotSymmetric.__init__" (C8.fnArgs s_NotSymmetric___init__) (C8.fnBody s_NotSymmetric___init__) (C8.fnScope s_NotSymmetric___init__) .none kV_se dc_se pm_se an_se cd_se ct_se), sl_se⟩)
    (co_se : PySem.W.codeIn K cd_se "NotSymmetric.__init__" = true)
    (k_se : PySem.W.keepIn K (.ref f_se) = true)
    (g_B : PySem.W.nsIn K mainGlobals "TableError" = some (some (.ref B)))
    (g_M : PySem.W.nsIn K mainGlobals "MixedDimensions" = some (some (.ref M)))
    (g_Z : PySem.W.nsIn K mainGlobals "ZeroRow" = some (some (.ref Z)))
    (g_O : PySem.W.nsIn K mainGlobals "OneDirectionOnly" = some (some (.ref O)))
    (g_S : PySem.W.nsIn K mainGlobals "NotSymmetric" = some (some (.ref S)))
    (xl_M : K.lookup M = some (excClassObj nm_M q_M M N_M bs_M bm_M true sn_M sub_M ab_M col_M dd_M m0_M m1_M (some (.str "MixedDimensions" tk_M)) m3_M m5_M "ValueError.__new__"))
    (vb_M : PySem.HandSPX.refsVE bm_M = true)
    (sa_M : PySem.W.findIn K (.ref M) "__setattr__" = some (some (.builtin "object.__setattr__")))
    (ex_M : PySem.W.subIn K (.ref M) (.type "BaseException") = some true)
    (ty_M : PySem.W.typeIn K (.ref M) = some (.type "type"))
    (kc_M : PySem.W.keepIn K (.ref M) = true)
    (ga_M : PySem.W.findIn K (.ref M) "__getattribute__" = some (some (.builtin "BaseException.__getattribute__")))
    (gg_M : PySem.W.findIn K (.ref M) "__getattr__" = some none)
    (hd_M : PySem.W.hasDictIn K M = true)
    (ha_M : PySem.W.findIn K (.ref M) "__class__" = some (some (.builtin "object.__class__")))
    (mr_M : PySem.W.mroIn K M (.type "object") = some true)
    (rd_M : PySem.W.readsIn K M (.type "type") = true)
    (fn_M : PySem.W.findCls K (.ref M) (.type "type") "__name__" = some (.get (.builtin "getset_descriptor.__get__") (.builtin "type.__name__") (.ref M) (.type "type")))
    (nw_M : PySem.W.findIn K (.ref M) "word" = some none)
    (ni_M : PySem.W.findIn K (.ref M) "index" = some none)
    (in_M : PySem.W.findIn K (.ref M) "__init__" = some (some (.ref f_te)))
    (xl_O : K.lookup O = some (excClassObj nm_O q_O O N_O bs_O bm_O true sn_O sub_O ab_O col_O dd_O m0_O m1_O (some (.str "OneDirectionOnly" tk_O)) m3_O m5_O "ValueError.__new__"))
    (vb_O : PySem.HandSPX.refsVE bm_O = true)
    (sa_O : PySem.W.findIn K (.ref O) "__setattr__" = some (some (.builtin "object.__setattr__")))
    (ex_O : PySem.W.subIn K (.ref O) (.type "BaseException") = some true)
    (ty_O : PySem.W.typeIn K (.ref O) = some (.type "type"))
    (kc_O : PySem.W.keepIn K (.ref O) = true)
    (ga_O : PySem.W.findIn K (.ref O) "__getattribute__" = some (some (.builtin "BaseException.__getattribute__")))
    (gg_O : PySem.W.findIn K (.ref O) "__getattr__" = some none)
    (hd_O : PySem.W.hasDictIn K O = true)
    (ha_O : PySem.W.findIn K (.ref O) "__class__" = some (some (.builtin "object.__class__")))
    (mr_O : PySem.W.mroIn K O (.type "object") = some true)
    (rd_O : PySem.W.readsIn K O (.type "type") = true)
    (fn_O : PySem.W.findCls K (.ref O) (.type "type") "__name__" = some (.get (.builtin "getset_descriptor.__get__") (.builtin "type.__name__") (.ref O) (.type "type")))
    (nw_O : PySem.W.findIn K (.ref O) "word" = some none)
    (ni_O : PySem.W.findIn K (.ref O) "index" = some none)
    (in_O : PySem.W.findIn K (.ref O) "__init__" = some (some (.ref f_oe)))
    (xl_S : K.lookup S = some (excClassObj nm_S q_S S N_S bs_S bm_S true sn_S sub_S ab_S col_S dd_S m0_S m1_S (some (.str "NotSymmetric" tk_S)) m3_S m5_S "ValueError.__new__"))
    (vb_S : PySem.HandSPX.refsVE bm_S = true)
    (sa_S : PySem.W.findIn K (.ref S) "__setattr__" = some (some (.builtin "object.__setattr__")))
    (ex_S : PySem.W.subIn K (.ref S) (.type "BaseException") = some true)
    (ty_S : PySem.W.typeIn K (.ref S) = some (.type "type"))
    (kc_S : PySem.W.keepIn K (.ref S) = true)
    (ga_S : PySem.W.findIn K (.ref S) "__getattribute__" = some (some (.builtin "BaseException.__getattribute__")))
    (gg_S : PySem.W.findIn K (.ref S) "__getattr__" = some none)
    (hd_S : PySem.W.hasDictIn K S = true)
    (ha_S : PySem.W.findIn K (.ref S) "__class__" = some (some (.builtin "object.__class__")))
    (mr_S : PySem.W.mroIn K S (.type "object") = some true)
    (rd_S : PySem.W.readsIn K S (.type "type") = true)
    (fn_S : PySem.W.findCls K (.ref S) (.type "type") "__name__" = some (.get (.builtin "getset_descriptor.__get__") (.builtin "type.__name__") (.ref S) (.type "type")))
    (nw_S : PySem.W.findIn K (.ref S) "word" = some none)
    (ni_S : PySem.W.findIn K (.ref S) "index" = some none)
    (in_S : PySem.W.findIn K (.ref S) "__init__" = some (some (.ref f_se)))
    (hn : PySem.W.specialIn K (.builtin "object.__class__") "__get__" = some (some (.builtin "getset_descriptor.__get__")))
    (ht : PySem.W.takesIn K (.builtin "object.__class__") = some true)
    (ti_te : PySem.W.typeIn K (.ref f_te) = some (.type "function"))
    (ti_oe : PySem.W.typeIn K (.ref f_oe) = some (.type "function"))
    (ti_se : PySem.W.typeIn K (.ref f_se) = some (.type "function"))
    (rB : PySem.W.readsIn K B (.type "type") = true)
    (sB : PySem.W.specialIn K (.ref B) "__getattribute__" = some (some (.builtin "type.__getattribute__")))
    (fB : PySem.W.findCls K (.ref B) (.type "type") "__init__" = some (.val (.ref f_te)))
    (nd : PySem.W.findIn K (.ref O) "dimension" = some none)
    (np : PySem.W.findIn K (.ref S) "place" = some none)
    (xS : PySem.W.exmOne K (.ref S) (.ref B) = some true)
    (xO : PySem.W.exmOne K (.ref O) (.ref B) = some true)
    (kBS : PySem.W.kitOne K (.ref S) (.ref B) = some true)
    (kVS : PySem.W.kitOne K (.ref S) (.type "ValueError") = some true)
    (kBO : PySem.W.kitOne K (.ref O) (.ref B) = some true)
    (kVO : PySem.W.kitOne K (.ref O) (.type "ValueError") = some true)
    (k1 : PySem.W.kitOne K (.ref S) (.ref S) = some true)
    (k2 : PySem.W.kitOne K (.ref S) (.ref O) = some false)
    (k3 : PySem.W.kitOne K (.ref S) (.ref Z) = some false)
    (k4 : PySem.W.kitOne K (.ref S) (.ref M) = some false)
    (k5 : PySem.W.kitOne K (.ref O) (.ref S) = some false)
    (k6 : PySem.W.kitOne K (.ref O) (.ref O) = some true)
    (k7 : PySem.W.kitOne K (.ref O) (.ref Z) = some false)
    (k8 : PySem.W.kitOne K (.ref O) (.ref M) = some false)
    (hcomb : PySem.W.nsIn K mainGlobals "comb" = some (some (.builtin "math.comb"))) :
    ∃ fd : FuncData, (∀ (s : Shared) (v : Value), BindsTo s fd ⟨[v], []⟩ [("_law_script", v)]) ∧ ∀ base : Heap, K.In base → base.Ns mainGlobals mg → FnOk l.prog w K mg base L2.CX0 9 fa fd ["_law_script"] (spLaw K) := by
  have e := hfa.symm.trans (PySem.W.mg_of X G a_law)
  cases e
  have T : Bi mg := ⟨PySem.W.mg_none_of X G z_len, PySem.W.mg_none_of X G z_int, PySem.W.mg_none_of X G z_str, PySem.W.mg_none_of X G z_bool, PySem.W.mg_none_of X G z_list, PySem.W.mg_none_of X G z_tuple, PySem.W.mg_none_of X G z_range, PySem.W.mg_none_of X G z_enumerate, PySem.W.mg_none_of X G z_isinstance, PySem.W.mg_none_of X G z_sorted, PySem.W.mg_none_of X G z_abs, PySem.W.mg_none_of X G z_any, PySem.W.mg_none_of X G z_sum, PySem.W.mg_none_of X G z_min, PySem.W.mg_none_of X G z_max, PySem.W.mg_none_of X G z_zip⟩
  have D_places_length : C8.Def K mg "places_length" s_places_length f_places_length _ := ⟨⟨⟨_, _, _, _, _, _, _, _, _, _, rfl, l_places_length, co_places_length⟩⟩, PySem.W.mg_of X G a_places_length, k_places_length⟩
  have b_places_length := D_places_length.fn.binds (ps := ["row"]) rfl fun _ _ _ _ _ _ us hl => match us, hl with | [_], _ => rfl
  have D_same_lengths : C8.Def K mg "same_lengths" s_same_lengths f_same_lengths _ := ⟨⟨⟨_, _, _, _, _, _, _, _, _, _, rfl, l_same_lengths, co_same_lengths⟩⟩, PySem.W.mg_of X G a_same_lengths, k_same_lengths⟩
  have b_same_lengths := D_same_lengths.fn.binds (ps := ["lengths"]) rfl fun _ _ _ _ _ _ us hl => match us, hl with | [_], _ => rfl
  have D_same_dimension : C8.Def K mg "same_dimension" s_same_dimension f_same_dimension _ := ⟨⟨⟨_, _, _, _, _, _, _, _, _, _, rfl, l_same_dimension, co_same_dimension⟩⟩, PySem.W.mg_of X G a_same_dimension, k_same_dimension⟩
  have D_one_direction : C8.Def K mg "one_direction" s_one_direction f_one_direction _ := ⟨⟨⟨_, _, _, _, _, _, _, _, _, _, rfl, l_one_direction, co_one_direction⟩⟩, PySem.W.mg_of X G a_one_direction, k_one_direction⟩
  have b_one_direction := D_one_direction.fn.binds (ps := ["rows"]) rfl fun _ _ _ _ _ _ us hl => match us, hl with | [_], _ => rfl
  have D_row_of : C8.Def K mg "row_of" s_row_of f_row_of _ := ⟨⟨⟨_, _, _, _, _, _, _, _, _, _, rfl, l_row_of, co_row_of⟩⟩, PySem.W.mg_of X G a_row_of, k_row_of⟩
  have b_row_of := D_row_of.fn.binds (ps := ["numbers"]) rfl fun _ _ _ _ _ _ us hl => match us, hl with | [_], _ => rfl
  have D_gather : C8.Def K mg "gather" s_gather f_gather _ := ⟨⟨⟨_, _, _, _, _, _, _, _, _, _, rfl, l_gather, co_gather⟩⟩, PySem.W.mg_of X G a_gather, k_gather⟩
  have b_gather := D_gather.fn.binds (ps := ["entries"]) rfl fun _ _ _ _ _ _ us hl => match us, hl with | [_], _ => rfl
  have D_dense : C8.Def K mg "dense" s_dense f_dense _ := ⟨⟨⟨_, _, _, _, _, _, _, _, _, _, rfl, l_dense, co_dense⟩⟩, PySem.W.mg_of X G a_dense, k_dense⟩
  have b_dense := D_dense.fn.binds (ps := ["row"]) rfl fun _ _ _ _ _ _ us hl => match us, hl with | [_], _ => rfl
  have D_unequal_place : C8.Def K mg "unequal_place" s_unequal_place f_unequal_place _ := ⟨⟨⟨_, _, _, _, _, _, _, _, _, _, rfl, l_unequal_place, co_unequal_place⟩⟩, PySem.W.mg_of X G a_unequal_place, k_unequal_place⟩
  have b_unequal_place := D_unequal_place.fn.binds (ps := ["row"]) rfl fun _ _ _ _ _ _ us hl => match us, hl with | [_], _ => rfl
  have D_require_symmetric : C8.Def K mg "require_symmetric" s_require_symmetric f_require_symmetric _ := ⟨⟨⟨_, _, _, _, _, _, _, _, _, _, rfl, l_require_symmetric, co_require_symmetric⟩⟩, PySem.W.mg_of X G a_require_symmetric, k_require_symmetric⟩
  have b_require_symmetric := D_require_symmetric.fn.binds (ps := ["row"]) rfl fun _ _ _ _ _ _ us hl => match us, hl with | [_], _ => rfl
  have D_upper_half : C8.Def K mg "upper_half" s_upper_half f_upper_half _ := ⟨⟨⟨_, _, _, _, _, _, _, _, _, _, rfl, l_upper_half, co_upper_half⟩⟩, PySem.W.mg_of X G a_upper_half, k_upper_half⟩
  have b_upper_half := D_upper_half.fn.binds (ps := ["row"]) rfl fun _ _ _ _ _ _ us hl => match us, hl with | [_], _ => rfl
  have D_fold : C8.Def K mg "fold" s_fold f_fold _ := ⟨⟨⟨_, _, _, _, _, _, _, _, _, _, rfl, l_fold, co_fold⟩⟩, PySem.W.mg_of X G a_fold, k_fold⟩
  have b_fold := D_fold.fn.binds (ps := ["row"]) rfl fun _ _ _ _ _ _ us hl => match us, hl with | [_], _ => rfl
  have D_unfold : C8.Def K mg "unfold" s_unfold f_unfold _ := ⟨⟨⟨_, _, _, _, _, _, _, _, _, _, rfl, l_unfold, co_unfold⟩⟩, PySem.W.mg_of X G a_unfold, k_unfold⟩
  have b_unfold := D_unfold.fn.binds (ps := ["numbers"]) rfl fun _ _ _ _ _ _ us hl => match us, hl with | [_], _ => rfl
  have D_fold_value : C8.Def K mg "fold_value" s_fold_value f_fold_value _ := ⟨⟨⟨_, _, _, _, _, _, _, _, _, _, rfl, l_fold_value, co_fold_value⟩⟩, PySem.W.mg_of X G a_fold_value, k_fold_value⟩
  have b_fold_value := D_fold_value.fn.binds (ps := ["numbers", "at"]) rfl fun _ _ _ _ _ _ us hl => match us, hl with | [_, _], _ => rfl
  have D__law_cell : C8.Def K mg "_law_cell" s__law_cell f__law_cell _ := ⟨⟨⟨_, _, _, _, _, _, _, _, _, _, rfl, l__law_cell, co__law_cell⟩⟩, PySem.W.mg_of X G a__law_cell, k__law_cell⟩
  have b__law_cell := D__law_cell.fn.binds (ps := ["_law_script", "_law_k"]) rfl fun _ _ _ _ _ _ us hl => match us, hl with | [_, _], _ => rfl
  have D__law_draws : C8.Def K mg "_law_draws" s__law_draws f__law_draws _ := ⟨⟨⟨_, _, _, _, _, _, _, _, _, _, rfl, l__law_draws, co__law_draws⟩⟩, PySem.W.mg_of X G a__law_draws, k__law_draws⟩
  have b__law_draws := D__law_draws.fn.binds (ps := ["_law_cell_here", "_law_sizes"]) rfl fun _ _ _ _ _ _ us hl => match us, hl with | [_, _], _ => rfl
  have D__law_is_integer : C8.Def K mg "_law_is_integer" s__law_is_integer f__law_is_integer _ := ⟨⟨⟨_, _, _, _, _, _, _, _, _, _, rfl, l__law_is_integer, co__law_is_integer⟩⟩, PySem.W.mg_of X G a__law_is_integer, k__law_is_integer⟩
  have b__law_is_integer := D__law_is_integer.fn.binds (ps := ["_law_actual"]) rfl fun _ _ _ _ _ _ us hl => match us, hl with | [_], _ => rfl
  have D__law_is_place : C8.Def K mg "_law_is_place" s__law_is_place f__law_is_place _ := ⟨⟨⟨_, _, _, _, _, _, _, _, _, _, rfl, l__law_is_place, co__law_is_place⟩⟩, PySem.W.mg_of X G a__law_is_place, k__law_is_place⟩
  have b__law_is_place := D__law_is_place.fn.binds (ps := ["_law_actual"]) rfl fun _ _ _ _ _ _ us hl => match us, hl with | [_], _ => rfl
  have D__law_is_row : C8.Def K mg "_law_is_row" s__law_is_row f__law_is_row _ := ⟨⟨⟨_, _, _, _, _, _, _, _, _, _, rfl, l__law_is_row, co__law_is_row⟩⟩, PySem.W.mg_of X G a__law_is_row, k__law_is_row⟩
  have b__law_is_row := D__law_is_row.fn.binds (ps := ["_law_actual"]) rfl fun _ _ _ _ _ _ us hl => match us, hl with | [_], _ => rfl
  have D__law_same : C8.Def K mg "_law_same" s__law_same f__law_same _ := ⟨⟨⟨_, _, _, _, _, _, _, _, _, _, rfl, l__law_same, co__law_same⟩⟩, PySem.W.mg_of X G a__law_same, k__law_same⟩
  have b__law_same := D__law_same.fn.binds (ps := ["_law_actual", "_law_expected"]) rfl fun _ _ _ _ _ _ us hl => match us, hl with | [_, _], _ => rfl
  have D__law_plus : C8.Def K mg "_law_plus" s__law_plus f__law_plus _ := ⟨⟨⟨_, _, _, _, _, _, _, _, _, _, rfl, l__law_plus, co__law_plus⟩⟩, PySem.W.mg_of X G a__law_plus, k__law_plus⟩
  have b__law_plus := D__law_plus.fn.binds (ps := ["_law_place", "_law_other"]) rfl fun _ _ _ _ _ _ us hl => match us, hl with | [_, _], _ => rfl
  have D__law_back : C8.Def K mg "_law_back" s__law_back f__law_back _ := ⟨⟨⟨_, _, _, _, _, _, _, _, _, _, rfl, l__law_back, co__law_back⟩⟩, PySem.W.mg_of X G a__law_back, k__law_back⟩
  have b__law_back := D__law_back.fn.binds (ps := ["_law_place"]) rfl fun _ _ _ _ _ _ us hl => match us, hl with | [_], _ => rfl
  have D__law_row : C8.Def K mg "_law_row" s__law_row f__law_row _ := ⟨⟨⟨_, _, _, _, _, _, _, _, _, _, rfl, l__law_row, co__law_row⟩⟩, PySem.W.mg_of X G a__law_row, k__law_row⟩
  have b__law_row := D__law_row.fn.binds (ps := ["_law_pairs"]) rfl fun _ _ _ _ _ _ us hl => match us, hl with | [_], _ => rfl
  have D__law_add : C8.Def K mg "_law_add" s__law_add f__law_add _ := ⟨⟨⟨_, _, _, _, _, _, _, _, _, _, rfl, l__law_add, co__law_add⟩⟩, PySem.W.mg_of X G a__law_add, k__law_add⟩
  have b__law_add := D__law_add.fn.binds (ps := ["_law_first", "_law_second"]) rfl fun _ _ _ _ _ _ us hl => match us, hl with | [_, _], _ => rfl
  have D__law_times : C8.Def K mg "_law_times" s__law_times f__law_times _ := ⟨⟨⟨_, _, _, _, _, _, _, _, _, _, rfl, l__law_times, co__law_times⟩⟩, PySem.W.mg_of X G a__law_times, k__law_times⟩
  have b__law_times := D__law_times.fn.binds (ps := ["_law_first", "_law_second"]) rfl fun _ _ _ _ _ _ us hl => match us, hl with | [_, _], _ => rfl
  have D__law_mirror : C8.Def K mg "_law_mirror" s__law_mirror f__law_mirror _ := ⟨⟨⟨_, _, _, _, _, _, _, _, _, _, rfl, l__law_mirror, co__law_mirror⟩⟩, PySem.W.mg_of X G a__law_mirror, k__law_mirror⟩
  have b__law_mirror := D__law_mirror.fn.binds (ps := ["_law_row_here"]) rfl fun _ _ _ _ _ _ us hl => match us, hl with | [_], _ => rfl
  have D__law_moved : C8.Def K mg "_law_moved" s__law_moved f__law_moved _ := ⟨⟨⟨_, _, _, _, _, _, _, _, _, _, rfl, l__law_moved, co__law_moved⟩⟩, PySem.W.mg_of X G a__law_moved, k__law_moved⟩
  have b__law_moved := D__law_moved.fn.binds (ps := ["_law_row_here", "_law_by"]) rfl fun _ _ _ _ _ _ us hl => match us, hl with | [_, _], _ => rfl
  have D__law_at : C8.Def K mg "_law_at" s__law_at f__law_at _ := ⟨⟨⟨_, _, _, _, _, _, _, _, _, _, rfl, l__law_at, co__law_at⟩⟩, PySem.W.mg_of X G a__law_at, k__law_at⟩
  have b__law_at := D__law_at.fn.binds (ps := ["_law_row_here", "_law_place"]) rfl fun _ _ _ _ _ _ us hl => match us, hl with | [_, _], _ => rfl
  have D__law_zero : C8.Def K mg "_law_zero" s__law_zero f__law_zero _ := ⟨⟨⟨_, _, _, _, _, _, _, _, _, _, rfl, l__law_zero, co__law_zero⟩⟩, PySem.W.mg_of X G a__law_zero, k__law_zero⟩
  have b__law_zero := D__law_zero.fn.binds (ps := ["_law_count"]) rfl fun _ _ _ _ _ _ us hl => match us, hl with | [_], _ => rfl
  have D__law_places : C8.Def K mg "_law_places" s__law_places f__law_places _ := ⟨⟨⟨_, _, _, _, _, _, _, _, _, _, rfl, l__law_places, co__law_places⟩⟩, PySem.W.mg_of X G a__law_places, k__law_places⟩
  have b__law_places := D__law_places.fn.binds (ps := ["_law_box_here"]) rfl fun _ _ _ _ _ _ us hl => match us, hl with | [_], _ => rfl
  have D__law_drawn : C8.Def K mg "_law_drawn" s__law_drawn f__law_drawn _ := ⟨⟨⟨_, _, _, _, _, _, _, _, _, _, rfl, l__law_drawn, co__law_drawn⟩⟩, PySem.W.mg_of X G a__law_drawn, k__law_drawn⟩
  have b__law_drawn := D__law_drawn.fn.binds (ps := ["_law_cell_here", "_law_box_here", "_law_reach", "_law_moves"]) rfl fun _ _ _ _ _ _ us hl => match us, hl with | [_, _, _, _], _ => rfl
  have D__law_box : C8.Def K mg "_law_box" s__law_box f__law_box _ := ⟨⟨⟨_, _, _, _, _, _, _, _, _, _, rfl, l__law_box, co__law_box⟩⟩, PySem.W.mg_of X G a__law_box, k__law_box⟩
  have b__law_box := D__law_box.fn.binds (ps := ["_law_kind", "_law_wide"]) rfl fun _ _ _ _ _ _ us hl => match us, hl with | [_, _], _ => rfl
  have D__law_is_error : C8.Def K mg "_law_is_error" s__law_is_error f__law_is_error _ := ⟨⟨⟨_, _, _, _, _, _, _, _, _, _, rfl, l__law_is_error, co__law_is_error⟩⟩, PySem.W.mg_of X G a__law_is_error, k__law_is_error⟩
  have b__law_is_error := D__law_is_error.fn.binds (ps := ["_law_e", "_law_word"]) rfl fun _ _ _ _ _ _ us hl => match us, hl with | [_, _], _ => rfl
  have D__law_is_numbers : C8.Def K mg "_law_is_numbers" s__law_is_numbers f__law_is_numbers _ := ⟨⟨⟨_, _, _, _, _, _, _, _, _, _, rfl, l__law_is_numbers, co__law_is_numbers⟩⟩, PySem.W.mg_of X G a__law_is_numbers, k__law_is_numbers⟩
  have b__law_is_numbers := D__law_is_numbers.fn.binds (ps := ["_law_actual"]) rfl fun _ _ _ _ _ _ us hl => match us, hl with | [_], _ => rfl
  have D__law_unfolded : C8.Def K mg "_law_unfolded" s__law_unfolded f__law_unfolded _ := ⟨⟨⟨_, _, _, _, _, _, _, _, _, _, rfl, l__law_unfolded, co__law_unfolded⟩⟩, PySem.W.mg_of X G a__law_unfolded, k__law_unfolded⟩
  have b__law_unfolded := D__law_unfolded.fn.binds (ps := ["_law_numbers"]) rfl fun _ _ _ _ _ _ us hl => match us, hl with | [_], _ => rfl
  have D__law_stripped : C8.Def K mg "_law_stripped" s__law_stripped f__law_stripped _ := ⟨⟨⟨_, _, _, _, _, _, _, _, _, _, rfl, l__law_stripped, co__law_stripped⟩⟩, PySem.W.mg_of X G a__law_stripped, k__law_stripped⟩
  have b__law_stripped := D__law_stripped.fn.binds (ps := ["_law_numbers"]) rfl fun _ _ _ _ _ _ us hl => match us, hl with | [_], _ => rfl
  have D__law_value : C8.Def K mg "_law_value" s__law_value f__law_value _ := ⟨⟨⟨_, _, _, _, _, _, _, _, _, _, rfl, l__law_value, co__law_value⟩⟩, PySem.W.mg_of X G a__law_value, k__law_value⟩
  have b__law_value := D__law_value.fn.binds (ps := ["_law_numbers", "_law_at_here"]) rfl fun _ _ _ _ _ _ us hl => match us, hl with | [_, _], _ => rfl
  have D__law_list_product : C8.Def K mg "_law_list_product" s__law_list_product f__law_list_product _ := ⟨⟨⟨_, _, _, _, _, _, _, _, _, _, rfl, l__law_list_product, co__law_list_product⟩⟩, PySem.W.mg_of X G a__law_list_product, k__law_list_product⟩
  have b__law_list_product := D__law_list_product.fn.binds (ps := ["_law_one", "_law_two"]) rfl fun _ _ _ _ _ _ us hl => match us, hl with | [_, _], _ => rfl
  have D__law_list_sum : C8.Def K mg "_law_list_sum" s__law_list_sum f__law_list_sum _ := ⟨⟨⟨_, _, _, _, _, _, _, _, _, _, rfl, l__law_list_sum, co__law_list_sum⟩⟩, PySem.W.mg_of X G a__law_list_sum, k__law_list_sum⟩
  have b__law_list_sum := D__law_list_sum.fn.binds (ps := ["_law_one", "_law_two"]) rfl fun _ _ _ _ _ _ us hl => match us, hl with | [_, _], _ => rfl
  have D__law_folded : C8.Def K mg "_law_folded" s__law_folded f__law_folded _ := ⟨⟨⟨_, _, _, _, _, _, _, _, _, _, rfl, l__law_folded, co__law_folded⟩⟩, PySem.W.mg_of X G a__law_folded, k__law_folded⟩
  have b__law_folded := D__law_folded.fn.binds (ps := ["_law_row_here"]) rfl fun _ _ _ _ _ _ us hl => match us, hl with | [_], _ => rfl
  have D__law_unfold_is : C8.Def K mg "_law_unfold_is" s__law_unfold_is f__law_unfold_is _ := ⟨⟨⟨_, _, _, _, _, _, _, _, _, _, rfl, l__law_unfold_is, co__law_unfold_is⟩⟩, PySem.W.mg_of X G a__law_unfold_is, k__law_unfold_is⟩
  have b__law_unfold_is := D__law_unfold_is.fn.binds (ps := ["_law_numbers", "_law_expected"]) rfl fun _ _ _ _ _ _ us hl => match us, hl with | [_, _], _ => rfl
  have D__law_value_is : C8.Def K mg "_law_value_is" s__law_value_is f__law_value_is _ := ⟨⟨⟨_, _, _, _, _, _, _, _, _, _, rfl, l__law_value_is, co__law_value_is⟩⟩, PySem.W.mg_of X G a__law_value_is, k__law_value_is⟩
  have b__law_value_is := D__law_value_is.fn.binds (ps := ["_law_numbers", "_law_at_here", "_law_expected"]) rfl fun _ _ _ _ _ _ us hl => match us, hl with | [_, _, _], _ => rfl
  have D__law_total : C8.Def K mg "_law_total" s__law_total f__law_total _ := ⟨⟨⟨_, _, _, _, _, _, _, _, _, _, rfl, l__law_total, co__law_total⟩⟩, PySem.W.mg_of X G a__law_total, k__law_total⟩
  have b__law_total := D__law_total.fn.binds (ps := ["_law_row_here", "_law_turned"]) rfl fun _ _ _ _ _ _ us hl => match us, hl with | [_, _], _ => rfl
  have D__law_symmetric_row : C8.Def K mg "_law_symmetric_row" s__law_symmetric_row f__law_symmetric_row _ := ⟨⟨⟨_, _, _, _, _, _, _, _, _, _, rfl, l__law_symmetric_row, co__law_symmetric_row⟩⟩, PySem.W.mg_of X G a__law_symmetric_row, k__law_symmetric_row⟩
  have b__law_symmetric_row := D__law_symmetric_row.fn.binds (ps := ["_law_kind", "_law_cell_here"]) rfl fun _ _ _ _ _ _ us hl => match us, hl with | [_, _], _ => rfl
  have D__law_first_difference : C8.Def K mg "_law_first_difference" s__law_first_difference f__law_first_difference _ := ⟨⟨⟨_, _, _, _, _, _, _, _, _, _, rfl, l__law_first_difference, co__law_first_difference⟩⟩, PySem.W.mg_of X G a__law_first_difference, k__law_first_difference⟩
  have b__law_first_difference := D__law_first_difference.fn.binds (ps := ["_law_row_here"]) rfl fun _ _ _ _ _ _ us hl => match us, hl with | [_], _ => rfl
  have D__law_not_symmetric : C8.Def K mg "_law_not_symmetric" s__law_not_symmetric f__law_not_symmetric _ := ⟨⟨⟨_, _, _, _, _, _, _, _, _, _, rfl, l__law_not_symmetric, co__law_not_symmetric⟩⟩, PySem.W.mg_of X G a__law_not_symmetric, k__law_not_symmetric⟩
  have b__law_not_symmetric := D__law_not_symmetric.fn.binds (ps := ["_law_row_here"]) rfl fun _ _ _ _ _ _ us hl => match us, hl with | [_], _ => rfl
  have D__law_one_direction_only : C8.Def K mg "_law_one_direction_only" s__law_one_direction_only f__law_one_direction_only _ := ⟨⟨⟨_, _, _, _, _, _, _, _, _, _, rfl, l__law_one_direction_only, co__law_one_direction_only⟩⟩, PySem.W.mg_of X G a__law_one_direction_only, k__law_one_direction_only⟩
  have b__law_one_direction_only := D__law_one_direction_only.fn.binds (ps := ["_law_row_here"]) rfl fun _ _ _ _ _ _ us hl => match us, hl with | [_], _ => rfl
  have D__law_refusals : C8.Def K mg "_law_refusals" s__law_refusals f__law_refusals _ := ⟨⟨⟨_, _, _, _, _, _, _, _, _, _, rfl, l__law_refusals, co__law_refusals⟩⟩, PySem.W.mg_of X G a__law_refusals, k__law_refusals⟩
  have b__law_refusals := D__law_refusals.fn.binds (ps := ["_law_first", "_law_draws_here", "_law_cell_here"]) rfl fun _ _ _ _ _ _ us hl => match us, hl with | [_, _, _], _ => rfl
  have D__law_values : C8.Def K mg "_law_values" s__law_values f__law_values _ := ⟨⟨⟨_, _, _, _, _, _, _, _, _, _, rfl, l__law_values, co__law_values⟩⟩, PySem.W.mg_of X G a__law_values, k__law_values⟩
  have b__law_values := D__law_values.fn.binds (ps := ["_law_row_here", "_law_numbers", "_law_at_here"]) rfl fun _ _ _ _ _ _ us hl => match us, hl with | [_, _, _], _ => rfl
  have D_law : C8.Def K mg "law" s_law fa _ := ⟨⟨⟨_, _, _, _, _, _, _, _, _, _, rfl, l_law, co_law⟩⟩, hfa, k_law⟩
  have b_law := D_law.fn.binds (ps := ["_law_script"]) rfl fun _ _ _ _ _ _ us hl => match us, hl with | [_], _ => rfl
  have D_te : C8.Fun K "__init__" "TableError.__init__" s_TableError___init__ f_te _ := ⟨⟨_, _, _, _, _, _, _, _, _, _, rfl, l_te, co_te⟩⟩
  have b_te := D_te.binds (ps := ["self"]) rfl fun _ _ _ _ _ _ us hl => match us, hl with | [_], _ => rfl
  have D_oe : C8.Fun K "__init__" "OneDirectionOnly.__init__" s_OneDirectionOnly___init__ f_oe _ := ⟨⟨_, _, _, _, _, _, _, _, _, _, rfl, l_oe, co_oe⟩⟩
  have b_oe := D_oe.binds (ps := ["self", "dimension"]) rfl fun _ _ _ _ _ _ us hl => match us, hl with | [_, _], _ => rfl
  have D_se : C8.Fun K "__init__" "NotSymmetric.__init__" s_NotSymmetric___init__ f_se _ := ⟨⟨_, _, _, _, _, _, _, _, _, _, rfl, l_se, co_se⟩⟩
  have b_se := D_se.binds (ps := ["self", "place"]) rfl fun _ _ _ _ _ _ us hl => match us, hl with | [_, _], _ => rfl
  have oc_M : PySem.W.OtCls K M := ⟨ga_M, gg_M, ex_M, hd_M, ha_M, hn, ht, mr_M⟩
  have er_M : OtErr K M "MixedDimensions" := ⟨⟨⟨_, _, _, _, _, _, _, _, _, _, _, _, _, _, _, xl_M, vb_M⟩, sa_M, ex_M, ty_M, kc_M⟩, oc_M, ⟨⟨_, _, _, _, _, xl_M, rfl⟩, rd_M, ty_M, fn_M⟩, nw_M, ni_M⟩
  have ei_M : ErrI K mg "MixedDimensions" M f_te := ⟨PySem.W.mg_of X G g_M, er_M, in_M, ti_te⟩
  have oc_O : PySem.W.OtCls K O := ⟨ga_O, gg_O, ex_O, hd_O, ha_O, hn, ht, mr_O⟩
  have er_O : OtErr K O "OneDirectionOnly" := ⟨⟨⟨_, _, _, _, _, _, _, _, _, _, _, _, _, _, _, xl_O, vb_O⟩, sa_O, ex_O, ty_O, kc_O⟩, oc_O, ⟨⟨_, _, _, _, _, xl_O, rfl⟩, rd_O, ty_O, fn_O⟩, nw_O, ni_O⟩
  have ei_O : ErrI K mg "OneDirectionOnly" O f_oe := ⟨PySem.W.mg_of X G g_O, er_O, in_O, ti_oe⟩
  have oc_S : PySem.W.OtCls K S := ⟨ga_S, gg_S, ex_S, hd_S, ha_S, hn, ht, mr_S⟩
  have er_S : OtErr K S "NotSymmetric" := ⟨⟨⟨_, _, _, _, _, _, _, _, _, _, _, _, _, _, _, xl_S, vb_S⟩, sa_S, ex_S, ty_S, kc_S⟩, oc_S, ⟨⟨_, _, _, _, _, xl_S, rfl⟩, rd_S, ty_S, fn_S⟩, nw_S, ni_S⟩
  have ei_S : ErrI K mg "NotSymmetric" S f_se := ⟨PySem.W.mg_of X G g_S, er_S, in_S, ti_se⟩
  refine ⟨PySem.W.fnOf "law" "law" (C8.fnArgs s_law) (C8.fnBody s_law) (C8.fnScope s_law) .none kV_law dc_law pm_law an_law cd_law ct_law, fun s v => .of_eq rfl, fun base _ _ => ?_⟩
  have FD : FunD K "same_dimension" "same_dimension" (C8.fnArgs s_same_dimension) (C8.fnBody s_same_dimension) (C8.fnScope s_same_dimension) [V.ref A0_same_dimension] [] f_same_dimension _ := ⟨⟨_, _, _, _, _, _, _, _, _, _, rfl, l_same_dimension, co_same_dimension, .inr ⟨by simp, TD_same_dimension, _, [.ref A0_same_dimension], _, rfl, lt_same_dimension, rfl, .cons rfl .nil⟩, .inl rfl⟩, k_same_dimension⟩
  obtain ⟨ds1, vd1, bD1⟩ := FD.binds1 (ps := ["rows", "places"]) 1 0 (by simp) rfl fun T kV doc pm an cdv ct us its h1 h2 => match us, its, h1, h2 with | [_], [_], _, _ => ⟨_, rfl, rfl⟩
  have hA0 : ∀ H, SqT K H A0_same_dimension [] := fun H => .inr (⟨_, _, _, lu_same_dimension, rfl, rfl, Nat.zero_le _, .nil⟩)
  have GT : FnOk l.prog w K mg base L2.CX0 1 f_te _ ["self"] (spTE K) := ok_te D_te
  have gB := PySem.W.mg_of X G g_B
  have gZ := PySem.W.mg_of X G g_Z
  have gM := PySem.W.mg_of X G g_M
  have gO := PySem.W.mg_of X G g_O
  have gS := PySem.W.mg_of X G g_S
  have gComb := PySem.W.mg_of X G hcomb
  have RB : OtRead K B "__init__" f_te := ⟨rB, sB, fB, k_te⟩
  have GOe := ok_oe D_oe GT b_te RB gB
  have GSe := ok_se D_se GT b_te RB gB
  have c1 := c__law_cell (P := l.prog) (w := w) (base := base) D__law_cell b__law_cell T
  have c2 : C8.Cal l.prog w K mg base 1 "_law_draws" (spDraws K) [] := c__law_draws D__law_draws b__law_draws T
  have c3 := c__law_is_integer (P := l.prog) (w := w) (base := base) D__law_is_integer b__law_is_integer T
  have c4 := c__law_is_place D__law_is_place b__law_is_place T c3
  have c5 := c__law_is_row D__law_is_row b__law_is_row T c4 c3
  have c6 := c__law_same D__law_same b__law_same T c5
  have c7 := c__law_back (P := l.prog) (w := w) (base := base) D__law_back b__law_back T
  have c8 := c__law_row (P := l.prog) (w := w) (base := base) D__law_row b__law_row T
  have c9 := c__law_plus (P := l.prog) (w := w) (base := base) D__law_plus b__law_plus T
  have c10 := c__law_places (P := l.prog) (w := w) (base := base) D__law_places b__law_places T
  have c11 := c__law_box (P := l.prog) (w := w) (base := base) D__law_box b__law_box T
  have c12 := c__law_moved D__law_moved b__law_moved T c9
  have c13 := c__law_drawn D__law_drawn b__law_drawn T c10 c2 c8 c12
  have c14 := c__law_add D__law_add b__law_add T c8
  have c15 := c__law_times D__law_times b__law_times T c9 c8
  have c16 := c__law_mirror D__law_mirror b__law_mirror T c8 c7
  have d1 := c_places_length (P := l.prog) (w := w) (base := base) D_places_length b_places_length T
  have d2 := c_row_of (P := l.prog) (w := w) (base := base) D_row_of b_row_of T
  have d3 := c_gather D_gather b_gather T d2
  have d4 := c_dense (P := l.prog) (w := w) (base := base) D_dense b_dense T
  have d5 := c_upper_half D_upper_half b_upper_half T d4
  have d6 := c_unequal_place (P := l.prog) (w := w) (base := base) D_unequal_place b_unequal_place T
  have d7 := c_unfold D_unfold b_unfold T gComb d3
  have d8 := c_fold_value (P := l.prog) (w := w) (base := base) D_fold_value b_fold_value T
  have GSL := ok_same_lengths D_same_lengths T ei_M GT b_te
  have GDT := ok_same_dimensionT D_same_dimension T D_same_lengths b_same_lengths GSL d1
  have GOD := ok_one_direction D_one_direction T ei_O nd GOe b_oe D_same_dimension bD1 vd1 hA0 GDT d1
  have GRS := ok_require_symmetric D_require_symmetric T ei_S np GSe b_se d6
  have GF := ok_fold D_fold T gComb D_one_direction b_one_direction GOD D_require_symmetric b_require_symmetric GRS d5
  have d9 := quietN D_fold b_fold .nil GF foldC
  have xcS : ErrK K B S O Z M S "NotSymmetric" true false := ⟨er_S, xS, kBS, kVS, k1, k2, k3, k4⟩
  have xcO : ErrK K B S O Z M O "OneDirectionOnly" false true := ⟨er_O, xO, kBO, kVO, k5, k6, k7, k8⟩
  have h1 := h__law_is_error (P := l.prog) (w := w) (base := base) D__law_is_error b__law_is_error T gB (PySem.W.mg_none_of X G z_ValueError)
  have h2 := h__law_is_integer (P := l.prog) (w := w) (base := base) D__law_is_integer b__law_is_integer T
  have h3 := h__law_is_place D__law_is_place b__law_is_place T h2
  have h4 := h__law_at (P := l.prog) (w := w) (base := base) D__law_at b__law_at T
  have h5 := h__law_back (P := l.prog) (w := w) (base := base) D__law_back b__law_back T
  have h6 := h__law_first_difference D__law_first_difference b__law_first_difference T h4 h5
  have c20 := c__law_is_numbers D__law_is_numbers b__law_is_numbers T c3
  have c22 := c__law_unfolded D__law_unfolded b__law_unfolded T c14 c15
  have c23 := c__law_stripped (P := l.prog) (w := w) (base := base) D__law_stripped b__law_stripped T
  have c24 := c__law_value (P := l.prog) (w := w) (base := base) D__law_value b__law_value T
  have c25 := c__law_zero (P := l.prog) (w := w) (base := base) D__law_zero b__law_zero T
  have c28 := c__law_unfold_is D__law_unfold_is b__law_unfold_is T d7 c6
  have c31 := c__law_not_symmetric D__law_not_symmetric b__law_not_symmetric T gB gS gO gZ gM xcS np D_fold b_fold GF h1 h3 h6
  have c32 := c__law_one_direction_only D__law_one_direction_only b__law_one_direction_only T gB gS gO gZ gM xcO nd D_fold b_fold GF h1 h2
  have c33 := c__law_list_product (P := l.prog) (w := w) (base := base) D__law_list_product b__law_list_product T
  have c34 := c__law_list_sum D__law_list_sum b__law_list_sum T c23
  have c35 := c__law_folded D__law_folded b__law_folded T d9 c20 c22
  have c36 := c__law_value_is D__law_value_is b__law_value_is T d8 c3
  have c37 := c__law_total (P := l.prog) (w := w) (base := base) D__law_total b__law_total T
  have c38 := c__law_values D__law_values b__law_values T c36 c37 c24
  have c39 := c__law_symmetric_row D__law_symmetric_row b__law_symmetric_row T c2 c22 c13 c14 c16
  have c40 := c__law_refusals D__law_refusals b__law_refusals T c8 c31 c13 c11 c25 c32
  exact c_law D_law b_law T c1 c2 c39 c35 c15 c33 c14 c34 c28 c38 c36 c24 c40
theorem walk {l : PySem.W.OpenLaw} {q : Program} {loose : List Str} {XP : (Str → Option Value) → Heap → Prop} {YP : World → Heap → Prop} {d : DefRec} {K : Params → PySem.W.Frag} (hn : l.most = some 63) (hdf : d.params.defaults = [])
    (hY : ∀ (w : World) (h : Heap), YP w h → (K w.params).In h)
    (F : ∀ (w : World) (mg : Str → Option Value) (fa : Addr) (h : Heap), (K w.params).In h → h.Ns mainGlobals mg → mg d.name = some (.ref fa) →
      ∃ fd : FuncData, (∀ (s : Shared) (u : Value), BindsTo s fd ⟨[u], []⟩ [("_law_script", u)]) ∧ ∀ base : Heap, (K w.params).In base → base.Ns mainGlobals mg → FnOk l.prog w (K w.params) mg base L2.CX0 9 fa fd ["_law_script"] (spLaw (K w.params))) :
    PySem.W.WalkO q loose XP YP l.row.toRowW d [] (fun f vs => PySem.call f vs) :=
  L2.walk_ofK (n := 63) (k := 9) (x := "_law_script") (CX := L2.CX0) (sp := spLaw) hn (by decide) hdf ⟨rfl, by decide, by decide⟩ hY F (fun _ _ a ns hl _ hS => ⟨a, ns, rfl, hS, hl, fun _ => rfl⟩) fun _ _ _ _ z => z
end OT
open PySem PySem.W PyProof.Rows
set_option maxRecDepth 100000 in
set_option maxHeartbeats 0 in
theorem PySem.Challenge.cw_owntables_k38_whole_folds_holds : PySem.Challenge.rw_owntables_k38_whole_folds.Holds := by
  w_on; o_law; k_head; (case hw => w_witness2)
  k_fill
  refine OT.walk (l := PySem.Challenge.rw_owntables_k38_whole_folds) rfl rfl (fun w h Y => PySem.W.kIn_of Y) ?F
  case F =>
    intro w mg fa h KX G hmg
    refine' OT.all_mk KX G hmg ?z_len ?z_int ?z_str ?z_bool ?z_list ?z_tuple ?z_range ?z_enumerate ?z_isinstance ?z_sorted ?z_abs ?z_any ?z_sum ?z_min ?z_max ?z_zip ?z_ValueError ?a_places_length ?l_places_length ?co_places_length ?k_places_length ?a_same_lengths ?l_same_lengths ?co_same_lengths ?k_same_lengths ?a_same_dimension ?l_same_dimension ?lt_same_dimension ?lu_same_dimension ?co_same_dimension ?k_same_dimension ?a_one_direction ?l_one_direction ?co_one_direction ?k_one_direction ?a_row_of ?l_row_of ?co_row_of ?k_row_of ?a_gather ?l_gather ?co_gather ?k_gather ?a_dense ?l_dense ?co_dense ?k_dense ?a_unequal_place ?l_unequal_place ?co_unequal_place ?k_unequal_place ?a_require_symmetric ?l_require_symmetric ?co_require_symmetric ?k_require_symmetric ?a_upper_half ?l_upper_half ?co_upper_half ?k_upper_half ?a_fold ?l_fold ?co_fold ?k_fold ?a_unfold ?l_unfold ?co_unfold ?k_unfold ?a_fold_value ?l_fold_value ?co_fold_value ?k_fold_value ?a__law_cell ?l__law_cell ?co__law_cell ?k__law_cell ?a__law_draws ?l__law_draws ?co__law_draws ?k__law_draws ?a__law_is_integer ?l__law_is_integer ?co__law_is_integer ?k__law_is_integer ?a__law_is_place ?l__law_is_place ?co__law_is_place ?k__law_is_place ?a__law_is_row ?l__law_is_row ?co__law_is_row ?k__law_is_row ?a__law_same ?l__law_same ?co__law_same ?k__law_same ?a__law_plus ?l__law_plus ?co__law_plus ?k__law_plus ?a__law_back ?l__law_back ?co__law_back ?k__law_back ?a__law_row ?l__law_row ?co__law_row ?k__law_row ?a__law_add ?l__law_add ?co__law_add ?k__law_add ?a__law_times ?l__law_times ?co__law_times ?k__law_times ?a__law_mirror ?l__law_mirror ?co__law_mirror ?k__law_mirror ?a__law_moved ?l__law_moved ?co__law_moved ?k__law_moved ?a__law_at ?l__law_at ?co__law_at ?k__law_at ?a__law_zero ?l__law_zero ?co__law_zero ?k__law_zero ?a__law_places ?l__law_places ?co__law_places ?k__law_places ?a__law_drawn ?l__law_drawn ?co__law_drawn ?k__law_drawn ?a__law_box ?l__law_box ?co__law_box ?k__law_box ?a__law_is_error ?l__law_is_error ?co__law_is_error ?k__law_is_error ?a__law_is_numbers ?l__law_is_numbers ?co__law_is_numbers ?k__law_is_numbers ?a__law_unfolded ?l__law_unfolded ?co__law_unfolded ?k__law_unfolded ?a__law_stripped ?l__law_stripped ?co__law_stripped ?k__law_stripped ?a__law_value ?l__law_value ?co__law_value ?k__law_value ?a__law_list_product ?l__law_list_product ?co__law_list_product ?k__law_list_product ?a__law_list_sum ?l__law_list_sum ?co__law_list_sum ?k__law_list_sum ?a__law_folded ?l__law_folded ?co__law_folded ?k__law_folded ?a__law_unfold_is ?l__law_unfold_is ?co__law_unfold_is ?k__law_unfold_is ?a__law_value_is ?l__law_value_is ?co__law_value_is ?k__law_value_is ?a__law_total ?l__law_total ?co__law_total ?k__law_total ?a__law_symmetric_row ?l__law_symmetric_row ?co__law_symmetric_row ?k__law_symmetric_row ?a__law_first_difference ?l__law_first_difference ?co__law_first_difference ?k__law_first_difference ?a__law_not_symmetric ?l__law_not_symmetric ?co__law_not_symmetric ?k__law_not_symmetric ?a__law_one_direction_only ?l__law_one_direction_only ?co__law_one_direction_only ?k__law_one_direction_only ?a__law_refusals ?l__law_refusals ?co__law_refusals ?k__law_refusals ?a__law_values ?l__law_values ?co__law_values ?k__law_values ?a_law ?l_law ?co_law ?k_law ?a_te ?l_te ?co_te ?k_te ?a_oe ?l_oe ?co_oe ?k_oe ?a_se ?l_se ?co_se ?k_se ?g_B ?g_M ?g_Z ?g_O ?g_S ?xl_M ?vb_M ?sa_M ?ex_M ?ty_M ?kc_M ?ga_M ?gg_M ?hd_M ?ha_M ?mr_M ?rd_M ?fn_M ?nw_M ?ni_M ?in_M ?xl_O ?vb_O ?sa_O ?ex_O ?ty_O ?kc_O ?ga_O ?gg_O ?hd_O ?ha_O ?mr_O ?rd_O ?fn_O ?nw_O ?ni_O ?in_O ?xl_S ?vb_S ?sa_S ?ex_S ?ty_S ?kc_S ?ga_S ?gg_S ?hd_S ?ha_S ?mr_S ?rd_S ?fn_S ?nw_S ?ni_S ?in_S ?hn ?ht ?ti_te ?ti_oe ?ti_se ?rB ?sB ?fB ?nd ?np ?xS ?xO ?kBS ?kVS ?kBO ?kVO ?k1 ?k2 ?k3 ?k4 ?k5 ?k6 ?k7 ?k8 ?hcomb
    (case g_B => k_is)
    (case g_M => k_is)
    (case g_Z => k_is)
    (case g_O => k_is)
    (case g_S => k_is)
    (case a_places_length => k_is)
    (case a_same_lengths => k_is)
    (case a_same_dimension => k_is)
    (case a_one_direction => k_is)
    (case a_row_of => k_is)
    (case a_gather => k_is)
    (case a_dense => k_is)
    (case a_unequal_place => k_is)
    (case a_require_symmetric => k_is)
    (case a_upper_half => k_is)
    (case a_fold => k_is)
    (case a_unfold => k_is)
    (case a_fold_value => k_is)
    (case a__law_cell => k_is)
    (case a__law_draws => k_is)
    (case a__law_is_integer => k_is)
    (case a__law_is_place => k_is)
    (case a__law_is_row => k_is)
    (case a__law_same => k_is)
    (case a__law_plus => k_is)
    (case a__law_back => k_is)
    (case a__law_row => k_is)
    (case a__law_add => k_is)
    (case a__law_times => k_is)
    (case a__law_mirror => k_is)
    (case a__law_moved => k_is)
    (case a__law_at => k_is)
    (case a__law_zero => k_is)
    (case a__law_places => k_is)
    (case a__law_drawn => k_is)
    (case a__law_box => k_is)
    (case a__law_is_error => k_is)
    (case a__law_is_numbers => k_is)
    (case a__law_unfolded => k_is)
    (case a__law_stripped => k_is)
    (case a__law_value => k_is)
    (case a__law_list_product => k_is)
    (case a__law_list_sum => k_is)
    (case a__law_folded => k_is)
    (case a__law_unfold_is => k_is)
    (case a__law_value_is => k_is)
    (case a__law_total => k_is)
    (case a__law_symmetric_row => k_is)
    (case a__law_first_difference => k_is)
    (case a__law_not_symmetric => k_is)
    (case a__law_one_direction_only => k_is)
    (case a__law_refusals => k_is)
    (case a__law_values => k_is)
    (case a_law => k_is)
    (case a_te => k_is)
    (case a_oe => k_is)
    (case a_se => k_is)
    (case xl_M => k_is)
    (case in_M => k_is)
    (case xl_O => k_is)
    (case in_O => k_is)
    (case xl_S => k_is)
    (case in_S => k_is)
    (case z_len => k_is)
    (case z_int => k_is)
    (case z_str => k_is)
    (case z_bool => k_is)
    (case z_list => k_is)
    (case z_tuple => k_is)
    (case z_range => k_is)
    (case z_enumerate => k_is)
    (case z_isinstance => k_is)
    (case z_sorted => k_is)
    (case z_abs => k_is)
    (case z_any => k_is)
    (case z_sum => k_is)
    (case z_min => k_is)
    (case z_max => k_is)
    (case z_zip => k_is)
    (case z_ValueError => k_is)
    (case l_places_length => k_is)
    (case co_places_length => k_is)
    (case k_places_length => k_is)
    (case l_same_lengths => k_is)
    (case co_same_lengths => k_is)
    (case k_same_lengths => k_is)
    (case l_same_dimension => k_is)
    (case lt_same_dimension => first | rfl | k_is)
    (case lu_same_dimension => first | rfl | k_is)
    (case co_same_dimension => k_is)
    (case k_same_dimension => k_is)
    (case l_one_direction => k_is)
    (case co_one_direction => k_is)
    (case k_one_direction => k_is)
    (case l_row_of => k_is)
    (case co_row_of => k_is)
    (case k_row_of => k_is)
    (case l_gather => k_is)
    (case co_gather => k_is)
    (case k_gather => k_is)
    (case l_dense => k_is)
    (case co_dense => k_is)
    (case k_dense => k_is)
    (case l_unequal_place => k_is)
    (case co_unequal_place => k_is)
    (case k_unequal_place => k_is)
    (case l_require_symmetric => k_is)
    (case co_require_symmetric => k_is)
    (case k_require_symmetric => k_is)
    (case l_upper_half => k_is)
    (case co_upper_half => k_is)
    (case k_upper_half => k_is)
    (case l_fold => k_is)
    (case co_fold => k_is)
    (case k_fold => k_is)
    (case l_unfold => k_is)
    (case co_unfold => k_is)
    (case k_unfold => k_is)
    (case l_fold_value => k_is)
    (case co_fold_value => k_is)
    (case k_fold_value => k_is)
    (case l__law_cell => k_is)
    (case co__law_cell => k_is)
    (case k__law_cell => k_is)
    (case l__law_draws => k_is)
    (case co__law_draws => k_is)
    (case k__law_draws => k_is)
    (case l__law_is_integer => k_is)
    (case co__law_is_integer => k_is)
    (case k__law_is_integer => k_is)
    (case l__law_is_place => k_is)
    (case co__law_is_place => k_is)
    (case k__law_is_place => k_is)
    (case l__law_is_row => k_is)
    (case co__law_is_row => k_is)
    (case k__law_is_row => k_is)
    (case l__law_same => k_is)
    (case co__law_same => k_is)
    (case k__law_same => k_is)
    (case l__law_plus => k_is)
    (case co__law_plus => k_is)
    (case k__law_plus => k_is)
    (case l__law_back => k_is)
    (case co__law_back => k_is)
    (case k__law_back => k_is)
    (case l__law_row => k_is)
    (case co__law_row => k_is)
    (case k__law_row => k_is)
    (case l__law_add => k_is)
    (case co__law_add => k_is)
    (case k__law_add => k_is)
    (case l__law_times => k_is)
    (case co__law_times => k_is)
    (case k__law_times => k_is)
    (case l__law_mirror => k_is)
    (case co__law_mirror => k_is)
    (case k__law_mirror => k_is)
    (case l__law_moved => k_is)
    (case co__law_moved => k_is)
    (case k__law_moved => k_is)
    (case l__law_at => k_is)
    (case co__law_at => k_is)
    (case k__law_at => k_is)
    (case l__law_zero => k_is)
    (case co__law_zero => k_is)
    (case k__law_zero => k_is)
    (case l__law_places => k_is)
    (case co__law_places => k_is)
    (case k__law_places => k_is)
    (case l__law_drawn => k_is)
    (case co__law_drawn => k_is)
    (case k__law_drawn => k_is)
    (case l__law_box => k_is)
    (case co__law_box => k_is)
    (case k__law_box => k_is)
    (case l__law_is_error => k_is)
    (case co__law_is_error => k_is)
    (case k__law_is_error => k_is)
    (case l__law_is_numbers => k_is)
    (case co__law_is_numbers => k_is)
    (case k__law_is_numbers => k_is)
    (case l__law_unfolded => k_is)
    (case co__law_unfolded => k_is)
    (case k__law_unfolded => k_is)
    (case l__law_stripped => k_is)
    (case co__law_stripped => k_is)
    (case k__law_stripped => k_is)
    (case l__law_value => k_is)
    (case co__law_value => k_is)
    (case k__law_value => k_is)
    (case l__law_list_product => k_is)
    (case co__law_list_product => k_is)
    (case k__law_list_product => k_is)
    (case l__law_list_sum => k_is)
    (case co__law_list_sum => k_is)
    (case k__law_list_sum => k_is)
    (case l__law_folded => k_is)
    (case co__law_folded => k_is)
    (case k__law_folded => k_is)
    (case l__law_unfold_is => k_is)
    (case co__law_unfold_is => k_is)
    (case k__law_unfold_is => k_is)
    (case l__law_value_is => k_is)
    (case co__law_value_is => k_is)
    (case k__law_value_is => k_is)
    (case l__law_total => k_is)
    (case co__law_total => k_is)
    (case k__law_total => k_is)
    (case l__law_symmetric_row => k_is)
    (case co__law_symmetric_row => k_is)
    (case k__law_symmetric_row => k_is)
    (case l__law_first_difference => k_is)
    (case co__law_first_difference => k_is)
    (case k__law_first_difference => k_is)
    (case l__law_not_symmetric => k_is)
    (case co__law_not_symmetric => k_is)
    (case k__law_not_symmetric => k_is)
    (case l__law_one_direction_only => k_is)
    (case co__law_one_direction_only => k_is)
    (case k__law_one_direction_only => k_is)
    (case l__law_refusals => k_is)
    (case co__law_refusals => k_is)
    (case k__law_refusals => k_is)
    (case l__law_values => k_is)
    (case co__law_values => k_is)
    (case k__law_values => k_is)
    (case l_law => k_is)
    (case co_law => k_is)
    (case k_law => k_is)
    (case l_te => k_is)
    (case co_te => k_is)
    (case k_te => k_is)
    (case l_oe => k_is)
    (case co_oe => k_is)
    (case k_oe => k_is)
    (case l_se => k_is)
    (case co_se => k_is)
    (case k_se => k_is)
    (case vb_M => decide +kernel)
    (case sa_M => k_is)
    (case ex_M => k_is)
    (case ty_M => k_is)
    (case kc_M => k_is)
    (case ga_M => k_is)
    (case gg_M => k_is)
    (case hd_M => k_is)
    (case ha_M => k_is)
    (case mr_M => k_is)
    (case rd_M => k_is)
    (case fn_M => k_is)
    (case nw_M => k_is)
    (case ni_M => k_is)
    (case vb_O => decide +kernel)
    (case sa_O => k_is)
    (case ex_O => k_is)
    (case ty_O => k_is)
    (case kc_O => k_is)
    (case ga_O => k_is)
    (case gg_O => k_is)
    (case hd_O => k_is)
    (case ha_O => k_is)
    (case mr_O => k_is)
    (case rd_O => k_is)
    (case fn_O => k_is)
    (case nw_O => k_is)
    (case ni_O => k_is)
    (case vb_S => decide +kernel)
    (case sa_S => k_is)
    (case ex_S => k_is)
    (case ty_S => k_is)
    (case kc_S => k_is)
    (case ga_S => k_is)
    (case gg_S => k_is)
    (case hd_S => k_is)
    (case ha_S => k_is)
    (case mr_S => k_is)
    (case rd_S => k_is)
    (case fn_S => k_is)
    (case nw_S => k_is)
    (case ni_S => k_is)
    (case hn => k_is)
    (case ht => k_is)
    (case ti_te => k_is)
    (case ti_oe => k_is)
    (case ti_se => k_is)
    (case rB => k_is)
    (case sB => k_is)
    (case fB => k_is)
    (case nd => k_is)
    (case np => k_is)
    (case xS => first | rfl | k_is)
    (case xO => first | rfl | k_is)
    (case kBS => first | rfl | k_is)
    (case kVS => first | rfl | k_is)
    (case kBO => first | rfl | k_is)
    (case kVO => first | rfl | k_is)
    (case k1 => first | rfl | k_is)
    (case k2 => first | rfl | k_is)
    (case k3 => first | rfl | k_is)
    (case k4 => first | rfl | k_is)
    (case k5 => first | rfl | k_is)
    (case k6 => first | rfl | k_is)
    (case k7 => first | rfl | k_is)
    (case k8 => first | rfl | k_is)
    (case hcomb => k_is)

