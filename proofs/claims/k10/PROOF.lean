import PyProof.Rows.All
import Wide.All
import OpenK.AllK
import Wide.FinOn
import KE.KTypeName
import HandS.ForMost
import HandS.ForExc
import HandS.ExcInit
import HandS.ExcIs
import HandS.ExcField
import HandS.IsInst
import HandS.HotCalls
import HandS.Codes
import HandS.StrMore
import HandS.TupAny
import HandS.Walk
import HandS.TupSets
import HandS.DictTup
import HandS.FStr
import KE.KExcIs
import HandS.SortKw
import KE.KSortTupG
import HandS.Conv
import HandS.More
import HandS.Evl
import HandS.SetFor
import PyProof.TupleIter
import PyProof.Rows.TupIter
import HandS.ExcCtx
import HandS.ExcInitHot
import HandS.Zip
import HandS.Star
import KE.DatumOrd
import HandS.SortInts
import HandS.List
import KE.GoesNew
import KE.GoesMore
import KE.KTurns
import HandS.Style
import KE.KRevSl
import HandS.WideBits
import HandS.Iter
import HandS.Wide
import HandS.CallSlots
import HandS.Flow
import KE.IntBitsLaws
import HandS.Deep
import HandS.Defaults
import PyProof.EqAt
import PyProof.EqKinds
import PyProof.TupleCall
import PySem.Challenge.RW_owntables_k10_on_one_line
set_option Elab.async false
set_option linter.all false
set_option maxRecDepth 100000
set_option maxHeartbeats 2000000
/-! Own errors of the package: word, index, made and told. -/
namespace PySem.W
open PySem PySem.Calls PyProof.Rows Builtin Builtin.ObjectAttr Builtin.Getset_descriptor
section
variable {prog : Program} {w : World} {A : Around} {E : Value → Shared → Prop} {s : Shared} {K : Frag} {x D : Addr} {ox : Obj}
/-- what a class says of the attribute «class» of its instances -/
structure OtCls (K : Frag) (D : Addr) : Prop where
  hga : findIn K (.ref D) "__getattribute__" = some (some (.builtin "BaseException.__getattribute__"))
  hgt : findIn K (.ref D) "__getattr__" = some none
  hsub : subIn K (.ref D) (.type "BaseException") = some true
  hdct : hasDictIn K D = true
  ha : findIn K (.ref D) "__class__" = some (some (.builtin "object.__class__"))
  hn : specialIn K (.builtin "object.__class__") "__get__" = some (some (.builtin "getset_descriptor.__get__"))
  htk : takesIn K (.builtin "object.__class__") = some true
  hm : mroIn K D (.type "object") = some true
theorem ot_class {expr : Bool} {Q : Value → Shared → Prop} (T : OtCls K D) (X : K.In s.heap) (I : InstAt s.heap x ox D none)
    (h : Q (.ref D) { s with toks := s.toks + 1 }) : wpAny (model prog w) A (getAttr (.ref x) "__class__" expr) Q E s := by
  obtain ⟨hga, hgt, hsub, hdct, ha, hn, htk, hm⟩ := T
  have found : findObj K D none "__class__" = some (.bind (.builtin "getset_descriptor.__get__") (.builtin "object.__class__")) :=
    findObj_dataN (by obtain ⟨cd, q, _⟩ := any_some hdct; rw [q]; rfl) ha hn htk
  obtain ⟨hp, gens, dr, tk, os⟩ := s
  have ty := I.type (M := model prog w)
  have l1 := looks_findIn (M := model prog w) X hga
  have l2 := looks_findIn (M := model prog w) X hgt
  have l3 := looks_find (M := model prog w) X I found
  have isx : Looks (model prog w) hp (isInstance (.ref x) (.type "BaseException")) true := ty.andThen (looks_subIn X hsub)
  have e0 : (Value.builtin "BaseException.__getattribute__" == Value.builtin "object.__getattribute__") = false := by decide +kernel
  unfold getAttr getAttrBy
  apply wpAny_bind; apply wpAny_mkText; apply wpAny_holding
  apply wpAny_bind; apply ty.at
  apply wpAny_bind; apply l1.at
  show wpAny _ _ (if (onTheHeap (Value.ref D) && _) = true then _ else _) _ _ _
  rw [e0, Bool.and_false, if_neg Bool.false_ne_true]
  unfold getAttrByItsOwn hookBefore
  apply wpAny_bind
  rw [if_pos (show onTheHeap (Value.ref D) = true from rfl)]
  apply l2.at
  apply wpAny_bind; apply wpAny_attempt; apply wpAny_holding
  unfold callGetattribute
  rw [(by cases expr <;> rfl : (expr && onTheHeap (Value.builtin "BaseException.__getattribute__")) = false), if_neg Bool.false_ne_true]
  unfold boundAndCalled
  rw [PySem.F.excAttr_ValueError.ga.bind (.ref x)]
  apply wpAny_bind; apply wpAny_pure
  show wpAny _ _ (call (.builtin "BaseException.__getattribute__") [.ref x, .str "__class__" tk]) _ _ _
  apply wpAny_call
  apply codeAny_call_builtin PySem.F.excAttr_ValueError.ga.plain PySem.F.entry_bexc_ga
  apply @check_slot (model prog w) _ _ ⟨hp, gens, dr, tk + 1, os⟩ "BaseException.__getattribute__" "BaseException" "__getattribute__" (.ref x) [.str "__class__" tk] [] _ (by decide +kernel) (by decide +kernel) isx (PySem.F.args_bexc_ga (.ref x) (.str "__class__" tk))
  unfold Builtin.«object.__getattribute__»
  refine wpAny_bind (wpAny_of_eq (a := ((Value.ref x : Value), [Value.str "__class__" tk])) (by first | rfl | (simp only [slotArgs]; rfl)) ?_)
  apply wpAny_bind; apply wpAny_pure
  apply wpAny_bind; apply ty.at
  apply wpAny_bind; apply l3.at
  show wpAny _ _ (holding [Value.builtin "object.__class__"] (call _ [.builtin "object.__class__", .ref x, .ref D]) >>= ret) _ _ _
  apply wpAny_bind; apply wpAny_holding; apply wpAny_call
  refine class_get (s := ⟨hp, gens, dr, tk + 1, os⟩) (ox := ox) (od := none) X I hm ?_
  apply wpAny_pure
  show wpAny _ _ (handedOut (.ref D)) _ _ _
  rw [handedOut_of (v := .ref D) rfl]
  exact wpAny_pure h
/-- the written part's class at C keeps its name nm -/
structure OtName (K : Frag) (C : Addr) (nm : Str) : Prop where
  keeps : ∃ (c : Value) (dd : Option Addr) (dat : Data) (sl : Array (Option Value)) (tk : Tok), K.lookup C = some ⟨c, dd, dat, sl⟩ ∧ sl[2]? = some (some (.str nm tk))
  reads : readsIn K C (.type "type") = true
  ty : typeIn K (.ref C) = some (.type "type")
  found : findCls K (.ref C) (.type "type") "__name__" = some (.get (.builtin "getset_descriptor.__get__") (.builtin "type.__name__") (.ref C) (.type "type"))
theorem ot_dga (d tp : Value) (C : Addr) : descrGetArgs ⟨[d, .ref C, tp], []⟩ = pure (d, some (.ref C), given tp) := by kernel_rfl
theorem ot_name {expr : Bool} {nm : Str} {Q : Value → Shared → Prop} (T : OtName K D nm) (X : K.In s.heap)
    (h : ∀ tk u, Q (.str nm tk) { s with toks := u }) : wpAny (model prog w) A (getAttr (.ref D) "__name__" expr) Q E s := by
  obtain ⟨⟨c, dd, dat, sl, tk, hk, hsl⟩, hr, ty, hf⟩ := T
  refine cls_bind X hr hf ?_
  obtain ⟨hp, gens, dr, tks, os⟩ := s
  have t0 : Looks (model prog w) hp (typeOf (.ref D)) (.type "type") := looks_typeIn X ty
  have t1 : Looks (model prog w) hp (isSubtype (.type "type") (.type "type")) true := Looks.of_pure (by rw [isSubtype_type]; kernel_rfl)
  refine wpAny_call (codeAny_call_builtin KF.slot_gs.plain KF.entry_gs (KF.slot_gs.check _ _ _ _ _ _ _ _ ktyn_type (KF.args_gs _ _ _) ?_))
  unfold Builtin.«getset_descriptor.__get__» descrGet
  rw [ot_dga]
  apply wpAny_bind
  apply wpAny_pure
  unfold descrGetter descrCheckInstance descrNameAndClass isInstance
  simp only [ktyn_owner]
  repeat lk
  refine ⟨Code.quiet_builtin _ (by decide +kernel), codeAny_builtin ktyn_entry ?_⟩
  unfold Builtin.«type.__name__» keptObject slotAt
  dsimp only
  refine wpAny_bind (wpAny_bind (wpAny_loadPart (X _ _ hk) (wpAny_pure ?_)))
  dsimp only
  rw [hsl]
  exact wpAny_pure (handed_on rfl (h _ _))
end
end PySem.W
namespace L2
open PySem PySem.Spec PyProof.Rows
/-! ### an exception's own __init__ -/
section
variable {X : Cx} {pos p1 p2 : Pos} {e : Expr} {es : List Expr} {te : TE} {ta : TA}
/-- e.__class__.__name__, e an exception that is being made, without a field so far -/
def tOtName (K : PySem.W.Frag) (te : TE) : TE := fun σ H Q => te σ H fun x H1 => ∃ (a C : Addr) (nm : Str), x = .ref a ∧ H1 a = some (exo a C none) ∧ PySem.W.OtCls K C ∧ PySem.W.OtName K C nm ∧ Q (.str nm) H1
theorem pe_otname (he : PE X e te) (hb : attributeBase e "__class__" X.env (eval e X.env) = eval e X.env := by rfl)
    (hb2 : attributeBase (.Attribute e "__class__" p1) "__name__" X.env (eval (.Attribute e "__class__" p1) X.env) = eval (.Attribute e "__class__" p1) X.env := by rfl) :
    PE X (.Attribute (.Attribute e "__class__" p1) "__name__" pos) (tOtName X.K te) := by
  refine ⟨fun pins s σ H Q I h => ?_⟩
  refine attr_of hb2 (attr_of hb (thn (he.run pins s σ H _ I h) fun u s1 hh => ?_))
  obtain ⟨x, H1, I1, rx, a, C, nm, ex, ea, tc, tn, q⟩ := hh
  subst ex
  obtain rfl : u = Value.ref a := rx
  obtain ⟨t1, ho⟩ := exo_at I1.hok ea
  have J : PySem.W.InstAt s1.heap a _ C none := ⟨ho, rfl, rfl, True.intro⟩
  refine PySem.W.ot_class tc I1.kIn J ?_
  refine PySem.W.ot_name tn I1.kIn fun tk u => ?_
  exact ⟨.str nm, H1, I1.tok u, ⟨tk, rfl⟩, q⟩
/-- a class of the text, its attributes read by the type's own way -/
structure OtRead (K : PySem.W.Frag) (C : Addr) (m : Str) (f : Addr) : Prop where
  rd : PySem.W.readsIn K C (.type "type") = true
  ga : PySem.W.specialIn K (.ref C) "__getattribute__" = some (some (.builtin "type.__getattribute__"))
  at_ : PySem.W.findCls K (.ref C) (.type "type") m = some (.val (.ref f))
  kp : PySem.W.keepIn K (.ref f) = true
/-- B.m(e, ..), B a class of the text, m a def of it -/
theorem pe_otcall {CX : CXT} {k : Nat} {f C : Addr} {fd : FuncData} {ps : List Str} {sp : Sp} {E : XK} {o : Expr} {to : TE} {m : Str} {pl : Sem Bool} (ho : PE X o to) (R : OtRead X.K C m f) (F : FnOk X.prog X.w X.K X.mg X.base CX k f fd ps sp) (hr : Room k X.A) (hb : Binds X.K fd ps []) (hx : Passes CX X E) (ha : PA X (e :: es) ta)
    (hc : eval (.Call (.Attribute o m p2) (e :: es) [] pos) X.env = (do
      let ov ← eval o X.env
      standAt p2.atName
      let (f, first) ← holding [ov] (getMethod ov m pl)
      callWith pos f first (backTo pos (starEach (e :: es) X.env)) (backToKw pos (keywordEach [] X.env))) := by rfl)
    (he : starEach (e :: es) X.env = (false, eval e X.env) :: starEach es X.env := by rfl) (hpl : (backTo pos (starEach es X.env)).any (·.1) = false := by rfl) :
    PE X (.Call (.Attribute o m p2) (e :: es) [] pos) (fun σ H Q => to σ H fun x H1 => x = .ref C ∧ ta σ H1 fun vs H2 => sp vs H2 Q E) := by
  refine ⟨fun pins s σ H Q I h => ?_⟩
  refine PySem.W.methodCall_KW (thn (ho.run pins s σ H _ I h) fun u s1 hh => ?_) hc
  obtain ⟨x, H1, I1, rx, ex, q⟩ := hh
  subst ex
  obtain rfl : u = Value.ref C := rx
  refine PySem.W.method_cls I1.kIn R.ga (PySem.W.cls_value I1.kIn R.rd R.at_ rfl ?_)
  have I2 := I1.tok (s1.toks + 1)
  show wpAny _ _ (callWith pos (Value.ref f) [] (backTo pos (starEach (e :: es) X.env)) []) _ _ _
  refine PySem.W.callWith_K (h₀ := X.base) I2.ok.mod.kin R.kp (thn (ha.run pos pins _ σ H1 _ I2 q) fun us s2 hh2 => ?_) he hpl
  obtain ⟨vs, H2, I3, r3, q3⟩ := hh2
  exact ⟨I3.kIn, run_fn F hr hb .nil hx I3 r3 (by rw [List.append_nil]; exact q3)⟩
end
end L2

namespace L2
open PySem PySem.Spec PyProof.Rows
/-- all that is asked of an own class of error, its name nm -/
structure OtErr (K : PySem.W.Frag) (C : Addr) (nm : Str) : Prop where
  ox : OexC K C
  oc : PySem.W.OtCls K C
  on : PySem.W.OtName K C nm
  nw : PySem.W.findIn K (.ref C) "word" = some none
  ni : PySem.W.findIn K (.ref C) "index" = some none
section
variable {P : Program} {w : World} {K : PySem.W.Frag} {mg : Str → Option Value} {base : Heap}
/-- TableError.__init__ -/
def spTE (K : PySem.W.Frag) : Sp := fun vs H Q _ => ∃ (a C : Addr) (nm : Str), vs = [.ref a] ∧ H a = some (exo a C none) ∧ OtErr K C nm ∧
  ∀ d, H d = none → d ≠ a → Q .non (upd (upd H d (exd d [("word", .str nm)])) a (exo a C (some d)))
theorem ok_te {q : Str} {st : Stmt} {f : Addr} {fd : FuncData} {p1 p2 p3 p4 p5 p6 : Pos} (F : Fun K "__init__" q st f fd) (S : FnScope ["self"] ["self"] (defScope st))
    (v : Vis (defScope st) "self") (hb : defBody st = [.Assign [.Attribute (.Name "self" p1) "word" p2] (.Attribute (.Attribute (.Name "self" p3) "__class__" p4) "__name__" p5) p6]) :
    FnOk P w K mg base CX0 1 f fd ["self"] (spTE K) := by
  refine F.ok S (fun vs H Q E h => ?_) (fun cdv A outer s H vs Q E hr h => ?_)
  · obtain ⟨a, C, nm, rfl, _⟩ := h
    rfl
  · obtain ⟨a, C, nm, rfl, ha, T, k⟩ := h
    rw [hb]
    refine ⟨_, pss_one (ps_ost (pv 0 rfl v) (pe_otname (pv 0 rfl v))), ?_⟩
    refine ⟨_, rfl, a, C, nm, rfl, ha, T.oc, T.on, _, rfl, a, C, rfl, T.ox, T.nw, Or.inl ⟨ha, fun d nd ne => ?_⟩⟩
    exact k d nd ne
/-- IndexedError.__init__ -/
def spIE (K : PySem.W.Frag) : Sp := fun vs H Q _ => ∃ (a C : Addr) (nm : Str) (v : V), vs = [.ref a, v] ∧ H a = some (exo a C none) ∧ OtErr K C nm ∧
  ∀ d, H d = none → d ≠ a → Q .non (upd (upd (upd H d (exd d [("word", .str nm)])) a (exo a C (some d))) d (exd d [("index", v), ("word", .str nm)]))
end
end L2

/-! ### defs that are handed the error that an except suite holds -/
namespace L2
open PySem PySem.Spec PyProof.Rows
/-- a promise that knows the held error: where it stands, its class, its dict -/
abbrev SpE := Addr → Value → Option Addr → Sp
structure FnE (P : Program) (w : World) (K : PySem.W.Frag) (mg : Str → Option Value) (base : Heap) (k : Nat) (f : Addr) (fd : FuncData) (ps : List Str) (sp : SpE) : Prop where
  len : ∀ a c d vs H Q E, sp a c d vs H Q E → vs.length = ps.length
  run : ∀ (A : Around) (outer : List Env) (s : Shared) (H : Hp) (args : Args) (us : List Value) (vs : List V) (Q : VK) (p : Addr × Obj) (c : Value) (d : Option Addr), L2H.RoomH k A → L2H.PinOk outer H s p → Zc c d p.2 → (∃ fs, p.2.data = .fields fs) →
    Env0 P w K mg base A outer s H → BindsTo s fd args (ps.zip us) → Vals vs us → sp p.1 c d vs H Q E0 → codeAny (model P w) A (.call (.ref f) args) (CR CX0 outer P w H s Q E0) s
theorem fnE_of {P : Program} {w : World} {K : PySem.W.Frag} {mg : Str → Option Value} {base : Heap} {k : Nat} {x : Str} {st : Stmt} {f : Addr} {fd : FuncData} {N ps : List Str} {sp : SpE} (F : C8.Fun K x x st f fd) (S : FnScope N ps (C8.fnScope st))
    (len : ∀ a c d vs H Q E, sp a c d vs H Q E → vs.length = ps.length)
    (body : ∀ (cdv : Value) (A : Around) (outer : List Env) (s : Shared) (H : Hp) (vs : List V) (Q : VK) (p : Addr × Obj) (c : Value) (d : Option Addr), Zc c d p.2 → (∃ fs, p.2.data = .fields fs) → L2H.RoomH k (A.deeper (envOfC x (C8.fnScope st) s.heap.objs.size f cdv)) → sp p.1 c d vs H Q E0 →
      ∃ t, PSs (L2H.cxH CX0 P w K mg base N x (C8.fnScope st) f cdv A outer s H E0 p) (C8.fnBody st) t ∧ t { nx := fun _ H' => Q .non H', rt := Q } (L2.start N vs) H) :
    FnE P w K mg base (k + 1) f fd ps sp := by
  obtain ⟨oc, od, dV, kV, doc, pm, an, cdv, ct, osl, rfl, lk, hcd⟩ := F.ex
  constructor
  · exact len
  intro A outer s H args us vs Q p c d room pin zc fld env binds rel want
  have size := len _ _ _ _ _ _ _ want
  have old : ∀ b o, base.get? b = some o → s.heap.get? b = some o := fun b o z => (env.bs b o z).1
  have inK : K.In s.heap := env.mod.kin.keeps old
  have kinds : ∀ y ∈ ps.zip us, (C8.fnScope st).names.lookup y.1 = some .local ∨
      ((C8.fnScope st).names.lookup y.1 = some .cell ∧ ((cellsFrom (s.heap.objs.size + 1) (C8.fnScope st).names []).lookup y.1).isSome = true) := by
    intro y hy
    have my := (List.of_mem_zip (a := y.1) (b := y.2) hy).1
    exact (S.par y.1 my).imp id fun z => ⟨z, PySem.W.cellsFrom_some _ _ _ (Or.inl z)⟩
  apply codeAny_call_function room.depth (inK _ _ lk) rfl S.co S.gen rfl (PySem.W.codeRec_of inK hcd)
  apply binds
  apply wpAny_newFunctionEnv_cells S.kind kinds
  intro env1 he s1 called
  subst he
  refine ⟨(env.mod.nolimit.keeps old).keeps called.toInCall.keep, codeAny_func ?_⟩
  obtain ⟨t, ht, read⟩ := body cdv A outer s H vs Q p c d zc fld (room.deeper _) want
  have I0 : Inv (L2H.cxH CX0 P w K mg base N x (C8.fnScope st) f cdv A outer s H E0 p) [] (L2.start N vs) H s1 := L2H.inv_startH S pin env size rel called
  refine wpAny_mono (ht.run [] s1 (L2.start N vs) H _ I0 read) (fun fl s2 q => ?_) fun _ _ q => q
  cases fl with
  | ret u =>
    obtain ⟨v, σ2, H2, J, rv, z⟩ := q
    exact ⟨v, H2, J.os, J.bare, J.base, J.hok, rv, z⟩
  | next =>
    obtain ⟨σ2, H2, J, z⟩ := q
    exact ⟨.non, H2, J.os, J.bare, J.base, J.hok, rfl, z⟩
  | brk =>
    obtain ⟨_, _, _, z⟩ := q
    exact z.elim
  | cont =>
    obtain ⟨_, _, _, z⟩ := q
    exact z.elim
section
variable {X : Cx} {p : Addr × Obj} {c : Value} {d : Option Addr} {k : Nat} {f : Addr} {fd : FuncData} {ps : List Str} {sp : SpE} {x : Str} {q pos : Pos} {e : Expr} {es : List Expr} {t : TA} {te : TE}
/-- f(e, ..) where the error is held -/
theorem pe_callE (F : FnE X.prog X.w X.K X.mg X.base k f fd ps sp) (hr : L2H.RoomH k X.A) (hp : p ∈ X.pn) (zc : Zc c d p.2) (fld : ∃ fs, p.2.data = .fields fs) (hg : Gl X x) (hm : X.mg x = some (.ref f)) (hk : PySem.W.keepIn X.K (.ref f) = true) (hb : Binds X.K fd ps [])
    (ha : PA X (e :: es) t) (hdb : (x == ("__debug__" : Str)) = false := by decide) (he : starEach (e :: es) X.env = (false, eval e X.env) :: starEach es X.env := by rfl) (hpl : (backTo pos (starEach es X.env)).any (·.1) = false := by rfl) :
    PE X (.Call (.Name x q) (e :: es) [] pos) (fun σ H Q => t σ H fun vs H1 => sp p.1 c d vs H1 Q E0) := by
  constructor
  intro pins s σ H Q I want
  apply wpAny_Call_Name_kw
  refine ld_glob I hg hm ?_ hdb
  refine PySem.W.callWith_K (h₀ := X.base) I.ok.mod.kin hk (thn (ha.run pos pins s σ H _ I want) ?_) he hpl
  rintro us s1 ⟨vs, H1, J, rel, z⟩
  refine ⟨J.kIn, ?_⟩
  have size : us.length = ps.length := by
    rw [← rel.length]
    exact F.len _ _ _ _ _ _ _ z
  have bind := hb s1 us J.kIn (by rw [List.append_nil]; exact size)
  rw [List.append_nil] at bind
  obtain ⟨p1, p2, p3, p4, p5⟩ := J.pin p (List.mem_append_left _ hp)
  have pin : L2H.PinOk X.stack H1 s1 p := ⟨p1, p2, fun z => (List.mem_cons.mp (J.stkSub p.1 z)).elim p3 p4, p5⟩
  refine wpAny_call (codeAny_mono (F.run X.A X.stack s1 H1 ⟨us, []⟩ us vs Q p c d hr pin zc fld J.env0 bind rel z) ?_)
  intro r s2 got
  cases r with
  | error er => exact got.elim
  | ok fl =>
    cases fl with
    | ret u => exact J.after got
    | next => exact got.elim
    | brk => exact got.elim
    | cont => exact got.elim
/-- the held error is an instance of its class -/
theorem heldAt {pins : List (Addr × Obj)} {σ : L2.St} {H : Hp} {s : Shared} {C dd : Addr} {fs : List (Str × V)} (I : Inv X pins σ H s) (hp : p ∈ X.pn) (zc : Zc (.ref C) (some dd) p.2) (fld : ∃ fs, p.2.data = .fields fs) (hd : H dd = some (.xd fs)) :
    ∃ od, PySem.W.InstAt s.heap p.1 p.2 C (some od) ∧ ∀ n v, fs.lookup n = some v → ∃ u, RelV v u ∧ PySem.W.lookIn n od = some (some u) := by
  obtain ⟨at1, _⟩ := I.pin p (List.mem_append_left _ hp)
  obtain ⟨vs, hdat⟩ := fld
  obtain ⟨mA, hns, hr⟩ := (show ObjOk X.prog X.w H s.heap dd (.xd fs) from I.hok dd _ hd)
  obtain ⟨od, ho, hl⟩ := lookIn_ns hns
  refine ⟨od, ⟨at1, zc.1, by unfold PySem.W.notCls; rw [hdat] <;> rfl, by rw [zc.2]; exact ho⟩, fun n v l => ?_⟩
  obtain ⟨u, hu, ru⟩ := RelO.some_of (v := v) (o := mA n) (by rw [← l]; exact hr n)
  exact ⟨u, ru, by rw [hl, hu]⟩
/-- isinstance(e, T), e the held error -/
theorem call_isX (hp : p ∈ X.pn) (zc : Zc c d p.2) (fld : ∃ fs, p.2.data = .fields fs) : CallR X (.builtin "isinstance") (fun xs H Q => ∃ (C dd : Addr) (fs : List (Str × V)) (y : V) (u : Value) (b : Bool),
    xs = [.ref p.1, y] ∧ c = .ref C ∧ d = some dd ∧ PySem.W.OtCls X.K C ∧ H dd = some (.xd fs) ∧ ClsV y u ∧ PySem.W.kitOne X.K (.ref C) u = some b ∧ Q (.bl b) H) := by
  rintro pins s σ H xs us Q I rel ⟨C, dd, fs, y, u, b, rfl, rfl, rfl, T, hd, hy, hb, z⟩
  obtain ⟨u1, u2, rfl, r1, r2⟩ := vals2 rel
  cases (show u1 = Value.ref p.1 from r1)
  cases hy.eq r2
  obtain ⟨od, J, _⟩ := heldAt I hp zc fld hd
  have isC : (PySem.W.clsIn X.K C).isSome = true := by
    obtain ⟨cd, q, _⟩ := PySem.W.any_some T.hdct
    rw [q]
    rfl
  exact PySem.W.kia_one (PySem.W.kitx_exc isC T.hga T.hgt T.hsub T.ha T.hn T.htk T.hm) I.kIn J hb (fun z => nomatch z) fun tk => ⟨.bl b, H, I.tok tk, rfl, z⟩
/-- e.n, e the held error, n a field of its own -/
theorem pe_fX {n : Str} (hp : p ∈ X.pn) (zc : Zc c d p.2) (fld : ∃ fs, p.2.data = .fields fs) (he : PE X e te) (hb : attributeBase e n X.env (eval e X.env) = eval e X.env := by rfl) :
    PE X (.Attribute e n pos) (fun σ H Q => te σ H fun y H1 => ∃ (C dd : Addr) (fs : List (Str × V)) (v : V), y = .ref p.1 ∧ c = .ref C ∧ d = some dd ∧ PySem.W.OtCls X.K C ∧ PySem.W.findIn X.K (.ref C) n = some none ∧ H1 dd = some (.xd fs) ∧ fs.lookup n = some v ∧ Q v H1) := by
  constructor
  intro pins s σ H Q I want
  refine attr_of hb (thn (he.run pins s σ H _ I want) ?_)
  rintro u s1 ⟨y, H1, J1, ry, C, dd, fs, v, rfl, rfl, rfl, T, hno, hd, hl, z⟩
  obtain rfl : u = Value.ref p.1 := ry
  obtain ⟨od, J, look⟩ := heldAt J1 hp zc fld hd
  obtain ⟨w1, rw1, lw⟩ := look n v hl
  exact HandSPX.exc_get J1.kIn J T.hga T.hgt T.hsub (PySem.W.findObj_own T.hdct hno rfl lw) (handed_of rw1) ⟨v, H1, J1.tok _, rw1, z⟩
end
end L2

namespace OT
open PySem
theorem b_int : bootBuiltins "int" = some (.type "int") := by decide +kernel
theorem b_str : bootBuiltins "str" = some (.type "str") := by decide +kernel
theorem b_bool : bootBuiltins "bool" = some (.type "bool") := by decide +kernel
theorem b_list : bootBuiltins "list" = some (.type "list") := by decide +kernel
theorem b_tuple : bootBuiltins "tuple" = some (.type "tuple") := by decide +kernel
theorem b_len : bootBuiltins "len" = some (.builtin "len") := by decide +kernel
theorem b_isinstance : bootBuiltins "isinstance" = some (.builtin "isinstance") := by decide +kernel
theorem b_any : bootBuiltins "any" = some (.builtin "any") := by decide +kernel
theorem b_all : bootBuiltins "all" = some (.builtin "all") := by decide +kernel
theorem b_sum : bootBuiltins "sum" = some (.builtin "sum") := by decide +kernel
theorem b_min : bootBuiltins "min" = some (.builtin "min") := by decide +kernel
theorem b_max : bootBuiltins "max" = some (.builtin "max") := by decide +kernel
theorem b_sorted : bootBuiltins "sorted" = some (.builtin "sorted") := by decide +kernel
theorem b_abs : bootBuiltins "abs" = some (.builtin "abs") := by decide +kernel
theorem b_ValueError : bootBuiltins "ValueError" = some (.type "ValueError") := by decide +kernel
end OT

set_option Elab.async false
set_option linter.all false
set_option maxRecDepth 100000
set_option maxHeartbeats 2000000
/-! Rows: sorted keys of a dict whose keys are tuples of ints; valid rows. -/
namespace L2
open PySem PySem.Spec PyProof.Rows
section
/-- what a sort leaves: the same values, ascending by their keys -/
theorem sort_left {κ : KeyKind} {vs : List Value} {a : Array Keyed} (perm : a.Perm (pairsOf vs)) (srt : SortedToK κ a (pairsOf vs).size) :
    (a.toList.map (·.2)).Perm vs ∧ (a.toList.map (·.2)).Pairwise fun x y => ∀ k l, κ.keyOf x = some k → κ.keyOf y = some l → κ.kle k l := by
  have pl : a.toList.Perm (vs.zip vs) := by
    rw [← pairsOf_toList]
    exact Array.perm_iff_toList_perm.mp perm
  have diag : ∀ p ∈ a.toList, p.1 = p.2 := fun p hp => (mem_zip_self (pl.mem_iff.mp hp)).1
  constructor
  · have e : (vs.zip vs).map (·.2) = vs := by
      rw [List.map_snd_zip]
      exact Nat.le_refl _
    have q := pl.map (·.2)
    rw [e] at q
    exact q
  · rw [List.pairwise_map, List.pairwise_iff_getElem]
    intro i j hi hj hij k l hk hl
    have hn : a.size = (pairsOf vs).size := perm.size_eq
    rw [Array.length_toList] at hi hj
    have s := srt i j (Nat.le_of_lt hij) (by omega)
    have at_ : ∀ n (h : n < a.size), ∀ m, κ.keyOf a.toList[n].2 = some m → KK κ a n = m := fun n h m hm => by
      unfold KK
      rw [Array.getElem?_eq_getElem h]
      have d := diag a.toList[n] (List.getElem_mem _)
      rw [← d] at hm
      rw [Array.getElem_toList] at hm
      dsimp only
      rw [hm]
      rfl
    rw [at_ i hi k hk, at_ j hj l hl] at s
    exact s
theorem lexLt_inl : ∀ k l : List Int, PyProof.Rows.lexLt itemOrd (k.map Sum.inl) (l.map Sum.inl) = HT.lexLt k l
  | [], [] => rfl
  | [], _ :: _ => rfl
  | _ :: _, [] => rfl
  | x :: r, y :: t => by
    rw [List.map_cons, List.map_cons, PyProof.Rows.lex_cons, lexLt_inl r t, HT.lexLt_cons]
    show (decide (x < y) || (!decide (y < x) && HT.lexLt r t)) = _
    by_cases h : x = y
    · rw [if_pos h, decide_eq_false (by omega), decide_eq_false (by omega)]
      rfl
    · rw [if_neg h]
      by_cases h2 : x < y
      · rw [decide_eq_true h2]
        rfl
      · rw [decide_eq_false h2, decide_eq_true (show y < x by omega)]
        rfl
theorem tupItems_ints : ∀ (ns : List Int) (us : List Value) (i : Nat), Vals (ns.map V.int) us → tupItems (fun _ => false) i us = some (ns.map Sum.inl)
  | [], _, _, .nil => rfl
  | n :: ns, _ :: us, i, .cons r t => by
    obtain ⟨tk, rfl⟩ := (show ∃ tk, _ = Value.int n tk from r)
    show (if (false : Bool) = true then none else (tupItems (fun _ => false) (i + 1) us).map (Sum.inl n :: ·)) = _
    rw [if_neg Bool.false_ne_true, tupItems_ints ns us (i + 1) t]
    rfl
theorem ints_inj : ∀ {k l : List Int}, k.map V.int = l.map V.int → k = l
  | [], [], _ => rfl
  | [], _ :: _, h => by cases h
  | _ :: _, [], h => by cases h
  | x :: r, y :: t, h => by
    rw [List.map_cons, List.map_cons] at h
    obtain ⟨e, h⟩ := List.cons.inj h
    rw [V.int.inj e, ints_inj h]
theorem vals_refs' : ∀ out : List (Addr × List Int), Vals (out.map fun x => V.ref x.1) (out.map fun x => Value.ref x.1)
  | [] => .nil
  | _ :: r => .cons rfl (vals_refs' r)
variable {X : Cx}
/-- sorted(d), the keys of d tuples of ints -/
theorem cr_sortedDT (hcalm : X.calm = true) : CallR X (.builtin "sorted") (fun xs H Q => ∃ (d : Addr) (kvs : List (List Key × V)) (ks : List (List Int)), xs = [.ref d] ∧ Rd H d (.dT kvs) ∧ kvs.map (·.1) = ks.map (fun k => k.map Sum.inl) ∧ (2 ≤ ks.length → ∀ k ∈ ks, k ≠ []) ∧
    ∀ (out : List (Addr × List Int)) (p : Addr), (out.map (·.2)).Perm ks → (out.map (·.2)).Pairwise (fun a b => HT.lexLt b a = false) → ks.Nodup → (∀ x ∈ out, H x.1 = some (.tup (x.2.map V.int))) → H p = none → Q (.ref p) (upd H p (.lst (out.map fun x => V.ref x.1)))) := by
  rintro pins s σ H xs us Q I rel ⟨d, kvs, ks, rfl, hd, hks, hne, want⟩
  obtain ⟨u, rfl, rx⟩ := rel.one
  cases rx
  obtain ⟨z, hs, xs, pr, o, es, ep, ho, hx, hdt, he, hn⟩ := (show ObjOk X.prog X.w H s.heap d (.dT kvs) from hd.ok I.hok)
  have l1 : es.size = xs.length := size_of_entries he
  have l2 : kvs.length = xs.length := Paired.length pr
  -- the keys' addresses
  have keyed : ∀ (kvs : List (List Key × V)) (xs : List (List Key × Addr × Value)) (ks : List (List Int)), Paired (fun (p : List Key × V) (q : List Key × Addr × Value) => p.1 = q.1 ∧ H q.2.1 = some (.tup (p.1.map kV)) ∧ RelV p.2 q.2.2) kvs xs → kvs.map (·.1) = ks.map (fun k => k.map Sum.inl) →
      xs.map (·.1) = ks.map (fun k => k.map Sum.inl) ∧ ∀ x ∈ (xs.map (·.2.1)).zip ks, H x.1 = some (.tup (x.2.map V.int)) := by
    intro kvs
    induction kvs with
    | nil =>
      intro xs ks pr hks
      cases pr
      cases ks with
      | nil => exact ⟨rfl, fun x hx => by cases hx⟩
      | cons k r => cases hks
    | cons a r ih =>
      intro xs ks pr hks
      cases pr with
      | cons h t =>
        rename_i q xs'
        cases ks with
        | nil => cases hks
        | cons k ks' =>
          obtain ⟨e1', e2⟩ := List.cons.inj hks
          have e1 : a.1 = k.map Sum.inl := e1'
          obtain ⟨i1, i2⟩ := ih _ _ t e2
          obtain ⟨h1, h2, _⟩ := h
          refine ⟨?_, fun x hx => ?_⟩
          · rw [List.map_cons, List.map_cons, i1, ← h1, e1]
          · rw [List.map_cons, List.zip_cons_cons] at hx
            rcases List.mem_cons.mp hx with e | hx
            · rw [e]
              show H q.2.1 = _
              rw [h2, e1, List.map_map]
              rfl
            · exact i2 x hx
  obtain ⟨kx, held⟩ := keyed kvs xs ks pr hks
  have lk : xs.length = ks.length := by
    have := congrArg List.length kx
    rwa [List.length_map, List.length_map] at this
  have nod : ks.Nodup := by
    rw [kx] at hn
    exact nodup_of_map hn
  apply Calls.call_function_entry kind_sorted plain_sorted entry_sorted (args_sorted1 (.ref d))
  unfold Builtin.«sorted»
  apply wpAny_bind (m := checkCount "sorted" 1 1 _)
  apply wpAny_pure
  refine wpAny_bind (PySem.W.kdu_collect (A := X.A.in1) (kdl_raw hs hx hdt) (I.ok.hd hcalm) ho (by omega) fun h' tk got hk hacc => ?_)
  have ea : got.toList = (xs.map (·.2.1)).map Value.ref := by
    have hl : got.toList.length = xs.length := by rw [Array.length_toList, hacc.1]; exact l1
    apply List.ext_getElem
    · rw [hl, List.length_map, List.length_map]
    · intro j hj1 hj2
      have g1 : got[j]? = some got.toList[j] := by
        rw [← Array.getElem?_toList]
        exact List.getElem?_eq_getElem hj1
      obtain ⟨en, hen, hv⟩ := hacc.2 j _ g1
      have qe := entry_at he j
      have hjx : j < xs.length := by omega
      rw [hen, List.getElem?_eq_getElem hjx] at qe
      have e2 := Option.some.inj qe
      rw [hv, e2, List.getElem_map, List.getElem_map]
      rfl
  have J1 : Inv X pins σ H { s with heap := h', toks := tk } := I.kept hk
  have gotk : got.toList.length = ks.length := by rw [ea, List.length_map, List.length_map, lk]
  have fits : got.toList.length ≤ sizeLine := by omega
  apply wpAny_bind
  refine wpAny_newList ?_ fits
  have atL : (h'.push (seqObj "list" got.toList.toArray 0)).get? h'.objs.size = some (seqObj "list" got.toList.toArray 0) := Heap.get?_push_size _ rfl
  show wpAny _ _ _ _ _ { s with heap := h'.push (seqObj "list" got.toList.toArray 0), toks := tk }
  -- each key stands in the heap
  have stands : ∀ (a : Addr) (k : List Int), H a = some (.tup (k.map V.int)) → ∃ its : List Value, Vals (k.map V.int) its ∧ IsTup h' a its.toArray := fun a k e => by
    obtain ⟨_, its, rv, it⟩ := (show ObjOk X.prog X.w H h' a (.tup (k.map V.int)) from J1.hok a _ e)
    exact ⟨its, rv, it⟩
  have keyOf : ∀ (a : Addr) (k : List Int), H a = some (.tup (k.map V.int)) → PyProof.Rows.G.tupKeyC (h'.push (seqObj "list" got.toList.toArray 0)) (fun _ => false) (.ref a) = some (k.map Sum.inl) := fun a k e => by
    obtain ⟨its, rv, ob, h1, h2, n, h3⟩ := stands a k e
    have g : (h'.push (seqObj "list" got.toList.toArray 0)).get? a = some ob := Heap.get?_push_of_some _ h1
    have it : PyProof.Rows.G.isTupObj (h'.push (seqObj "list" got.toList.toArray 0)) (.ref a) = true := by
      simp only [PyProof.Rows.G.isTupObj, g, h2]
      rfl
    unfold PyProof.Rows.G.tupKeyC
    rw [if_pos it]
    unfold tupKey
    dsimp only
    rw [g]
    dsimp only
    rw [h3]
    dsimp only
    exact tupItems_ints k its 0 rv
  have zipped : ∀ v ∈ got.toList, ∃ a k, v = Value.ref a ∧ k ∈ ks ∧ H a = some (.tup (k.map V.int)) := fun v hv => by
    obtain ⟨j, hj, e⟩ := List.getElem_of_mem hv
    have hjk : j < ks.length := by omega
    have hjx : j < (xs.map (·.2.1)).length := by rw [List.length_map]; omega
    have ev : v = Value.ref (xs.map (·.2.1))[j] := by
      rw [← e]
      simp only [ea, List.getElem_map]
    refine ⟨_, ks[j], ev, List.getElem_mem _, held ((xs.map (·.2.1))[j], ks[j]) ?_⟩
    rw [List.mem_iff_getElem]
    refine ⟨j, by rw [List.length_zip]; omega, ?_⟩
    rw [List.getElem_zip]
  have keys : KeysOf (PyProof.Rows.G.tupKindC (h'.push (seqObj "list" got.toList.toArray 0)) fun _ => false) (pairsOf got.toList) := PyProof.Rows.G.tupKeys fun v hv => by
    obtain ⟨a, k, rfl, _, hk⟩ := zipped v hv
    exact ⟨_, keyOf a k hk⟩
  have k6 := PyProof.Rows.G.keeps_sort6 (vs := got.toList) atL
  have tups : 2 ≤ got.toList.length → ∃ fs, 0 < fs.length ∧ TupsOf (h'.push (seqObj "list" got.toList.toArray 0)) (fun _ => false) got.toList fs := fun h2 => by
    have each : ∀ l : List Value, (∀ v ∈ l, ∃ a k, v = Value.ref a ∧ k ∈ ks ∧ H a = some (.tup (k.map V.int))) → ∃ fs, fs.length = l.length ∧ TupsOf (h'.push (seqObj "list" got.toList.toArray 0)) (fun _ => false) l fs := by
      intro l
      induction l with
      | nil => exact fun _ => ⟨[], rfl, .nil⟩
      | cons v r ih =>
        intro hv
        obtain ⟨fs, hl, ht⟩ := ih fun y hy => hv y (List.mem_cons_of_mem _ hy)
        obtain ⟨a, k, rfl, hm, hk⟩ := hv v List.mem_cons_self
        obtain ⟨its, rv, ob, h1, h2', n, h3⟩ := stands a k hk
        cases k with
        | nil => exact absurd rfl (hne (by omega) [] hm)
        | cons i k =>
          cases rv with
          | @cons _ u0 _ ur r0 rt =>
            obtain ⟨tk0, rfl⟩ := (show ∃ tk, u0 = Value.int i tk from r0)
            exact ⟨.int i tk0 :: fs, by rw [List.length_cons, List.length_cons, hl], .cons ⟨a, ob, _, n, rfl, Heap.get?_push_of_some _ h1, h2', h3, rfl, fun _ => ⟨i, tk0, rfl⟩, fun z => by cases z⟩ ht⟩
    obtain ⟨fs, hl, ht⟩ := each got.toList zipped
    exact ⟨fs, by omega, ht⟩
  refine wpAny_bind (wpAny_holding (wpAny_call_entry PyProof.Rows.slot_list_sort ⟨_, atL, rfl⟩ PyProof.Rows.entry_list_sort
    (PyProof.Rows.G.list_sort_treeG (κ := PyProof.Rows.G.tupKindC (h'.push (seqObj "list" got.toList.toArray 0)) fun _ => false) (kd := tuples' true) (s := { s with heap := h'.push (seqObj "list" got.toList.toArray 0), toks := tk }) atL keys
      (PyProof.Rows.G.tupC_ltAt true k6) (fun h2 R hq => ?kind) fits fun st' a1 a2 a3 => ⟨_, rfl, ?ret⟩) (PyProof.Rows.args_list_sort _)))
  case kind =>
    obtain ⟨fs, hl, ht⟩ := tups h2
    exact tup_kind hl (PyProof.Rows.G.TupsOf.keep k6 ht) hq
  case ret =>
    obtain ⟨o1, o2⟩ := sort_left a1 a2
    have out : ∃ out : List (Addr × List Int), (arrOf st').toList.map (·.2) = out.map (fun x => Value.ref x.1) ∧ ∀ x ∈ out, H x.1 = some (.tup (x.2.map V.int)) := by
      have each : ∀ l : List Value, (∀ v ∈ l, v ∈ got.toList) → ∃ out : List (Addr × List Int), l = out.map (fun x => Value.ref x.1) ∧ ∀ x ∈ out, H x.1 = some (.tup (x.2.map V.int)) := by
        intro l
        induction l with
        | nil => exact fun _ => ⟨[], rfl, fun x hx => by cases hx⟩
        | cons v r ih =>
          intro hv
          obtain ⟨out, e, ho'⟩ := ih fun y hy => hv y (List.mem_cons_of_mem _ hy)
          obtain ⟨a, k, rfl, _, hk⟩ := zipped v (hv v List.mem_cons_self)
          refine ⟨(a, k) :: out, by rw [List.map_cons, e], fun x hx => ?_⟩
          rcases List.mem_cons.mp hx with e' | hx
          · rw [e']
            exact hk
          · exact ho' x hx
      exact each _ fun v hv => o1.mem_iff.mp hv
    obtain ⟨out, eo, ho'⟩ := out
    obtain ⟨ep', he'⟩ := PyProof.Rows.sortedHeap_at (vs := got.toList) (out := (arrOf st').map (·.2)) atL
    have oz : out.length ≤ sizeLine := by
      have e1 := congrArg List.length eo
      have e2 := o1.length_eq
      rw [List.length_map] at e1 e2
      rw [List.length_map] at e1
      omega
    have inj : ∀ (a : Addr) (k l : List Int), H a = some (.tup (k.map V.int)) → H a = some (.tup (l.map V.int)) → k = l := fun a k l h1 h2 => by
      rw [h1] at h2
      exact ints_inj (HO.tup.inj (Option.some.inj h2))
    refine wpAny_pure ⟨_, rfl, .ref h'.objs.size, upd H h'.objs.size (.lst (out.map fun x => V.ref x.1)), J1.laid (t' := tk) (fun b u q => ?old) (Nat.le_refl _) ⟨by rw [List.length_map]; exact oz, ((arrOf st').map (·.2)).toList, ep', ?vals, he'⟩, rfl, want out _ ?perm ?pw nod ho' (J1.hok.fresh (Nat.le_refl _))⟩
    case old =>
      rw [PyProof.Rows.sortedHeap_old (Nat.ne_of_lt (Heap.lt_size q)) (Nat.lt_of_lt_of_le (Heap.lt_size q) (by rw [size_push']; exact Nat.le_succ _))]
      exact Heap.get?_push_of_some _ q
    case vals =>
      rw [Array.toList_map, eo]
      exact vals_refs' out
    case perm =>
      have p1 : (out.map (fun x => Value.ref x.1)).Perm got.toList := by rw [← eo]; exact o1
      have rd : ∀ v : Value, ∃ k : List Int, ∀ (a : Addr) (l : List Int), v = .ref a → H a = some (.tup (l.map V.int)) → k = l := fun v => by
        by_cases h : ∃ (a : Addr) (l : List Int), v = .ref a ∧ H a = some (.tup (l.map V.int))
        · obtain ⟨a, l, e, h⟩ := h
          refine ⟨l, fun a' l' e' h' => ?_⟩
          cases e.symm.trans e'
          exact inj _ _ _ h h'
        · exact ⟨[], fun a l e h' => absurd ⟨a, l, e, h'⟩ h⟩
      have p2 := p1.map fun v => (rd v).choose
      rw [List.map_map] at p2
      have e1 : out.map (((fun v => (rd v).choose)) ∘ fun x => Value.ref x.1) = out.map (·.2) := List.map_congr_left fun x hx => (rd (.ref x.1)).choose_spec _ _ rfl (ho' x hx)
      have e2 : got.toList.map (fun v => (rd v).choose) = ks := by
        apply List.ext_getElem
        · rw [List.length_map]; exact gotk
        · intro j h1 h2
          have h3 : j < (xs.map (·.2.1)).length := by rw [List.length_map]; omega
          rw [List.getElem_map]
          have ev : got.toList[j]'(by omega) = Value.ref (xs.map (·.2.1))[j] := by simp only [ea, List.getElem_map]
          refine (rd _).choose_spec _ _ ev (held ((xs.map (·.2.1))[j], ks[j]) ?_)
          rw [List.mem_iff_getElem]
          refine ⟨j, by rw [List.length_zip]; omega, ?_⟩
          rw [List.getElem_zip]
      rw [e1, e2] at p2
      exact p2
    case pw =>
      rw [eo, List.pairwise_map] at o2
      rw [List.pairwise_map]
      refine List.Pairwise.imp_of_mem (fun {x y} hx hy h => ?_) o2
      have hle := h _ _ (keyOf x.1 x.2 (ho' x hx)) (keyOf y.1 y.2 (ho' y hy))
      rw [← lexLt_inl]
      exact hle
end
end L2

set_option Elab.async false
set_option linter.all false
set_option maxRecDepth 100000
set_option maxHeartbeats 2000000
/-! rows: what a list of entries sums to, and the one row of the sums -/
namespace OT
open PySem PySem.Spec PyProof.Rows L2
abbrev Pl := List Int
abbrev Ent := List Int × Int
def numAt : List Ent → Pl → Int
  | [], _ => 0
  | e :: r, q => (if e.1 = q then e.2 else 0) + numAt r q
theorem numAt_app : ∀ (a b : List Ent) (q : Pl), numAt (a ++ b) q = numAt a q + numAt b q
  | [], b, q => by
    show numAt b q = 0 + numAt b q
    omega
  | e :: r, b, q => by
    show (if e.1 = q then e.2 else 0) + numAt (r ++ b) q = (if e.1 = q then e.2 else 0) + numAt r q + numAt b q
    rw [numAt_app r b q]
    omega
theorem numAt_out {es : List Ent} {q : Pl} (h : ∀ e ∈ es, e.1 ≠ q) : numAt es q = 0 := by
  induction es with
  | nil => rfl
  | cons e r ih =>
    show (if e.1 = q then e.2 else 0) + numAt r q = 0
    rw [if_neg (h e List.mem_cons_self), ih fun x hx => h x (List.mem_cons_of_mem _ hx)]
    rfl
theorem lt_irr (k : Pl) : HT.lexLt k k = false := by
  rw [← lexLt_inl]
  exact PyProof.Rows.lex_irrefl _
theorem lt_trans {a b c : Pl} (h1 : HT.lexLt a b = true) (h2 : HT.lexLt b c = true) : HT.lexLt a c = true := by
  rw [← lexLt_inl] at *
  exact PyProof.Rows.lex_trans _ _ _ h1 h2
theorem inl_inj {β : Type} : ∀ {a b : Pl}, a.map (Sum.inl : Int → Int ⊕ β) = b.map Sum.inl → a = b
  | [], [], _ => rfl
  | [], _ :: _, h => by cases h
  | _ :: _, [], h => by cases h
  | x :: r, y :: t, h => by
    rw [List.map_cons, List.map_cons] at h
    obtain ⟨e, h⟩ := List.cons.inj h
    rw [Sum.inl.inj e, inl_inj h]
theorem lt_tot {a b : Pl} (h1 : HT.lexLt a b = false) (h2 : HT.lexLt b a = false) : a = b := by
  rw [← lexLt_inl] at *
  exact inl_inj (PyProof.Rows.lex_total _ _ h1 h2)
theorem lt_ne {a b : Pl} (h : HT.lexLt a b = true) : a ≠ b := by
  rintro rfl
  rw [lt_irr] at h
  cases h
structure Valid (r : List Ent) : Prop where
  asc : r.Pairwise fun a b => HT.lexLt a.1 b.1 = true
  nz : ∀ e ∈ r, e.2 ≠ 0
theorem Valid.tail {e : Ent} {r : List Ent} (h : Valid (e :: r)) : Valid r := ⟨(List.pairwise_cons.mp h.asc).2, fun x hx => h.nz x (List.mem_cons_of_mem _ hx)⟩
theorem Valid.head_out {e : Ent} {r : List Ent} (h : Valid (e :: r)) {q : Pl} (hq : q = e.1 ∨ HT.lexLt q e.1 = true) : numAt r q = 0 := by
  refine numAt_out fun x hx z => ?_
  have h1 := (List.pairwise_cons.mp h.asc).1 x hx
  rcases hq with rfl | hq
  · exact lt_ne h1 z.symm
  · exact lt_ne (lt_trans hq h1) z.symm
theorem Valid.head_at {e : Ent} {r : List Ent} (h : Valid (e :: r)) : numAt (e :: r) e.1 = e.2 := by
  show (if e.1 = e.1 then e.2 else 0) + numAt r e.1 = e.2
  rw [if_pos rfl, h.head_out (.inl rfl)]
  omega
theorem Valid.low {e : Ent} {r : List Ent} (h : Valid (e :: r)) {q : Pl} (hq : HT.lexLt q e.1 = true) : numAt (e :: r) q = 0 := by
  show (if e.1 = q then e.2 else 0) + numAt r q = 0
  rw [if_neg (fun z => lt_ne hq z.symm), h.head_out (.inr hq)]
  rfl
theorem Valid.ext : ∀ {r t : List Ent}, Valid r → Valid t → (∀ q, numAt r q = numAt t q) → r = t
  | [], [], _, _, _ => rfl
  | [], e :: t, _, ht, h => by
    have h1 := h e.1
    rw [ht.head_at] at h1
    exact absurd h1.symm (ht.nz e List.mem_cons_self)
  | e :: r, [], hr, _, h => by
    have h1 := h e.1
    rw [hr.head_at] at h1
    exact absurd h1 (hr.nz e List.mem_cons_self)
  | e :: r, f :: t, hr, ht, h => by
    have k : e.1 = f.1 := by
      refine lt_tot ?_ ?_
      · cases z : HT.lexLt e.1 f.1 with
        | false => rfl
        | true =>
          have h1 := h e.1
          rw [hr.head_at, ht.low z] at h1
          exact absurd h1 (hr.nz e List.mem_cons_self)
      · cases z : HT.lexLt f.1 e.1 with
        | false => rfl
        | true =>
          have h1 := h f.1
          rw [ht.head_at, hr.low z] at h1
          exact absurd h1.symm (ht.nz f List.mem_cons_self)
    have n : e.2 = f.2 := by
      have h1 := h e.1
      rw [hr.head_at, k, ht.head_at] at h1
      exact h1
    have ef : e = f := Prod.ext k n
    subst ef
    refine congrArg _ (Valid.ext hr.tail ht.tail fun q => ?_)
    have h1 := h q
    have h2 : (if e.1 = q then e.2 else 0) + numAt r q = (if e.1 = q then e.2 else 0) + numAt t q := h1
    omega
/-- the row of the sums -/
structure RowIs (r es : List Ent) : Prop where
  v : Valid r
  s : ∀ q, numAt r q = numAt es q
theorem RowIs.one {r t es : List Ent} (h1 : RowIs r es) (h2 : RowIs t es) : r = t := h1.v.ext h2.v fun q => (h1.s q).trans (h2.s q).symm
theorem Valid.at : ∀ {r : List Ent}, Valid r → ∀ e ∈ r, numAt r e.1 = e.2
  | f :: t, h, e, he => by
    rcases List.mem_cons.mp he with rfl | he
    · exact h.head_at
    · show (if f.1 = e.1 then f.2 else 0) + numAt t e.1 = e.2
      rw [if_neg (lt_ne ((List.pairwise_cons.mp h.asc).1 e he)), Valid.at h.tail e he]
      omega
theorem RowIs.mem {r es : List Ent} (h : RowIs r es) {e : Ent} (he : e ∈ r) : ∃ x ∈ es, x.1 = e.1 := by
  have h1 := h.v.at e he
  rw [h.s] at h1
  by_cases z : ∃ x ∈ es, x.1 = e.1
  · exact z
  · rw [numAt_out fun x hx y => z ⟨x, hx, y⟩] at h1
    exact absurd h1.symm (h.v.nz e he)
theorem Valid.len : ∀ {r : List Ent} {l : List Pl}, Valid r → (∀ e ∈ r, e.1 ∈ l) → r.length ≤ l.length
  | [], _, _, _ => Nat.zero_le _
  | e :: t, l, h, k => by
    have h1 := k e List.mem_cons_self
    have ih := Valid.len (l := l.erase e.1) h.tail fun x hx => (List.mem_erase_of_ne (lt_ne ((List.pairwise_cons.mp h.asc).1 x hx)).symm).mpr (k x (List.mem_cons_of_mem _ hx))
    rw [List.length_erase_of_mem h1] at ih
    have h2 := List.length_pos_of_mem h1
    rw [List.length_cons]
    omega
theorem RowIs.len {r es : List Ent} (h : RowIs r es) : r.length ≤ es.length := by
  have := h.v.len (l := es.map (·.1)) fun e he => by
    obtain ⟨x, hx, ex⟩ := h.mem he
    rw [← ex]
    exact List.mem_map_of_mem hx
  rwa [List.length_map] at this
/-- the entries of the keys in turn -/
def mkR (f : Pl → Int) : List Pl → List Ent
  | [] => []
  | k :: r => if f k = 0 then mkR f r else (k, f k) :: mkR f r
theorem mkR_snoc (f : Pl → Int) (k : Pl) : ∀ ks : List Pl, mkR f (ks ++ [k]) = mkR f ks ++ (if f k = 0 then [] else [(k, f k)])
  | [] => by
    show (if f k = 0 then [] else [(k, f k)]) = [] ++ _
    rw [List.nil_append]
  | x :: r => by
    show (if f x = 0 then mkR f (r ++ [k]) else (x, f x) :: mkR f (r ++ [k])) = (if f x = 0 then mkR f r else (x, f x) :: mkR f r) ++ _
    rw [mkR_snoc f k r]
    by_cases h : f x = 0
    · rw [if_pos h, if_pos h]
    · rw [if_neg h, if_neg h]
      rfl
theorem mkR_mem {f : Pl → Int} {e : Ent} : ∀ {ks : List Pl}, e ∈ mkR f ks → e.1 ∈ ks ∧ e.2 = f e.1 ∧ e.2 ≠ 0
  | k :: r, h => by
    have h' : e ∈ (if f k = 0 then mkR f r else (k, f k) :: mkR f r) := h
    by_cases z : f k = 0
    · rw [if_pos z] at h'
      obtain ⟨h1, h2⟩ := mkR_mem h'
      exact ⟨List.mem_cons_of_mem _ h1, h2⟩
    · rw [if_neg z] at h'
      rcases List.mem_cons.mp h' with rfl | h'
      · exact ⟨List.mem_cons_self, rfl, z⟩
      · obtain ⟨h1, h2⟩ := mkR_mem h'
        exact ⟨List.mem_cons_of_mem _ h1, h2⟩
theorem mkR_valid {f : Pl → Int} : ∀ {ks : List Pl}, ks.Pairwise (fun a b => HT.lexLt a b = true) → Valid (mkR f ks)
  | [], _ => ⟨.nil, fun e h => by cases h⟩
  | k :: r, h => by
    obtain ⟨h1, h2⟩ := List.pairwise_cons.mp h
    have ih := mkR_valid (f := f) h2
    show Valid (if f k = 0 then mkR f r else (k, f k) :: mkR f r)
    by_cases z : f k = 0
    · rw [if_pos z]
      exact ih
    · rw [if_neg z]
      refine ⟨List.pairwise_cons.mpr ⟨fun e he => h1 _ (mkR_mem he).1, ih.asc⟩, fun e he => ?_⟩
      rcases List.mem_cons.mp he with rfl | he
      · exact z
      · exact ih.nz e he
theorem mkR_sum {f : Pl → Int} : ∀ {ks : List Pl}, ks.Nodup → ∀ q, numAt (mkR f ks) q = if q ∈ ks then f q else 0
  | [], _, q => rfl
  | k :: r, h, q => by
    obtain ⟨h1, h2⟩ := List.nodup_cons.mp h
    have ih := mkR_sum (f := f) h2 q
    show numAt (if f k = 0 then mkR f r else (k, f k) :: mkR f r) q = _
    have key : numAt (if f k = 0 then mkR f r else (k, f k) :: mkR f r) q = (if k = q then f k else 0) + numAt (mkR f r) q := by
      by_cases z : f k = 0
      · rw [if_pos z, z, ite_self]
        omega
      · rw [if_neg z]
        rfl
    rw [key, ih]
    by_cases e : k = q
    · subst e
      rw [if_pos rfl, if_neg h1, if_pos List.mem_cons_self]
      omega
    · rw [if_neg e]
      by_cases m : q ∈ r
      · rw [if_pos m, if_pos (List.mem_cons_of_mem _ m)]
        omega
      · rw [if_neg m, if_neg]
        · rfl
        · intro hq
          rcases List.mem_cons.mp hq with rfl | hq
          · exact e rfl
          · exact m hq
/-- a dict of sums: its keys are ks, at k it holds f k -/
structure Sums (kvs : List (List Key × V)) (ks : List Pl) (f : Pl → Int) : Prop where
  keys : kvs.map (·.1) = ks.map fun k => k.map Sum.inl
  val : ∀ k : Pl, valV kvs (k.map Sum.inl) = if k ∈ ks then some (V.int (f k)) else none
  out : ∀ k, k ∉ ks → f k = 0
theorem Sums.nil : Sums [] [] (fun _ => 0) := ⟨rfl, fun k => rfl, fun _ _ => rfl⟩
theorem Sums.len {kvs : List (List Key × V)} {ks : List Pl} {f : Pl → Int} (h : Sums kvs ks f) : kvs.length = ks.length := by
  have := congrArg List.length h.keys
  rwa [List.length_map, List.length_map] at this
theorem putK_keys {κ : Type} [DecidableEq κ] {kvs : List (κ × V)} {k : κ} {v : V} (h : (valV kvs k).isSome = true) : (putK kvs k v).map (·.1) = kvs.map (·.1) := by
  unfold putK
  rw [valV_any, if_pos h, List.map_map]
  refine List.map_congr_left fun x _ => ?_
  show (if x.1 = k then (x.1, v) else x).1 = x.1
  by_cases e : x.1 = k
  · rw [if_pos e]
  · rw [if_neg e]
theorem Sums.put {kvs : List (List Key × V)} {ks : List Pl} {f : Pl → Int} (h : Sums kvs ks f) (k : Pl) (n : Int) :
    Sums (putK kvs (k.map Sum.inl) (.int (f k + n))) (if k ∈ ks then ks else ks ++ [k]) (fun q => f q + if k = q then n else 0) := by
  have hv := h.val k
  refine ⟨?_, fun q => ?_, fun q hq => ?_⟩
  · by_cases m : k ∈ ks
    · rw [if_pos m] at hv ⊢
      rw [putK_keys (by rw [hv]; rfl), h.keys]
    · rw [if_neg m] at hv ⊢
      rw [putK_new _ hv, List.map_append, List.map_append, h.keys]
      rfl
  · rw [valV_put, h.val]
    by_cases e : q = k
    · subst e
      rw [if_pos rfl, if_pos rfl, if_pos]
      by_cases m : q ∈ ks
      · rw [if_pos m]
        exact m
      · rw [if_neg m]
        exact List.mem_append_right _ List.mem_cons_self
    · have ne1 : ¬ (q.map (Sum.inl : Int → Key) = k.map Sum.inl) := fun z => e (inl_inj z)
      have ne2 : ¬ (k = q) := fun z => e z.symm
      rw [if_neg ne1, if_neg ne2]
      have mm : (q ∈ if k ∈ ks then ks else ks ++ [k]) ↔ q ∈ ks := by
        by_cases m : k ∈ ks
        · rw [if_pos m]
        · rw [if_neg m, List.mem_append, List.mem_singleton]
          exact ⟨fun z => z.elim id fun z => absurd z e, .inl⟩
      by_cases m : q ∈ ks
      · rw [if_pos m, if_pos (mm.mpr m), Int.add_zero]
      · rw [if_neg m, if_neg (fun z => m (mm.mp z))]
  · have hq2 : q ∉ ks ∧ k ≠ q := by
      by_cases m : k ∈ ks
      · rw [if_pos m] at hq
        exact ⟨hq, fun z => hq (z ▸ m)⟩
      · rw [if_neg m] at hq
        exact ⟨fun z => hq (List.mem_append_left _ z), fun z => hq (List.mem_append_right _ (z ▸ List.mem_cons_self))⟩
    show f q + (if k = q then n else 0) = 0
    rw [if_neg hq2.2, h.out q hq2.1]
    rfl
theorem Sums.next {kvs : List (List Key × V)} {ks : List Pl} {es : List Ent} {i : Nat} {e : Ent} (hi : es[i]? = some e) (h : Sums kvs ks (numAt (es.take i))) :
    Sums (putK kvs (e.1.map Sum.inl) (.int (numAt (es.take i) e.1 + e.2))) (if e.1 ∈ ks then ks else ks ++ [e.1]) (numAt (es.take (i + 1))) := by
  have he : es.take (i + 1) = es.take i ++ [e] := by
    obtain ⟨h1, h2⟩ := List.getElem?_eq_some_iff.mp hi
    rw [List.take_add_one, hi]
    rfl
  have hf : numAt (es.take (i + 1)) = fun q => numAt (es.take i) q + if e.1 = q then e.2 else 0 := by
    funext q
    rw [he, numAt_app]
    show _ + ((if e.1 = q then e.2 else 0) + 0) = _
    omega
  rw [hf]
  exact h.put e.1 e.2
theorem Sums.get {kvs : List (List Key × V)} {ks : List Pl} {f : Pl → Int} (h : Sums kvs ks f) {k : Pl} (m : k ∈ ks) : valV kvs (k.map Sum.inl) = some (.int (f k)) := by
  rw [h.val, if_pos m]
theorem Sums.getD {kvs : List (List Key × V)} {ks : List Pl} {f : Pl → Int} (h : Sums kvs ks f) (k : Pl) : (valV kvs (k.map Sum.inl)).getD (.int 0) = .int (f k) := by
  rw [h.val]
  by_cases m : k ∈ ks
  · rw [if_pos m]
    rfl
  · rw [if_neg m, h.out k m]
    rfl
/-- sorted keys' entries are the row -/
theorem row_sorted {es : List Ent} {ks out : List Pl} (perm : out.Perm ks) (pw : out.Pairwise fun a b => HT.lexLt b a = false) (nod : ks.Nodup) (all : ∀ q, q ∉ ks → numAt es q = 0) : RowIs (mkR (numAt es) out) es := by
  have no : out.Nodup := perm.nodup_iff.mpr nod
  have asc : out.Pairwise fun a b => HT.lexLt a b = true := by
    have both := List.pairwise_and_iff.mpr ⟨pw, no⟩
    refine both.imp fun {a b} h => ?_
    cases z : HT.lexLt a b with
    | true => rfl
    | false => exact absurd (lt_tot z h.1) h.2
  refine ⟨mkR_valid asc, fun q => ?_⟩
  rw [mkR_sum no]
  by_cases m : q ∈ out
  · rw [if_pos m]
  · rw [if_neg m, all q fun z => m (perm.mem_iff.mpr z)]
/-! ### rows in the heap -/
def EntAt (H : Hp) (v : V) (e : Ent) : Prop := ∃ t p, v = .ref t ∧ H t = some (.tup [.ref p, .int e.2]) ∧ H p = some (.tup (e.1.map V.int))
inductive Ents (H : Hp) : List V → List Ent → Prop
  | nil : Ents H [] []
  | cons {v : V} {e : Ent} {vs : List V} {es : List Ent} : EntAt H v e → Ents H vs es → Ents H (v :: vs) (e :: es)
theorem Ents.len {H : Hp} {vs : List V} {es : List Ent} (h : Ents H vs es) : vs.length = es.length := by
  induction h with
  | nil => rfl
  | cons _ _ ih => rw [List.length_cons, List.length_cons, ih]
theorem EntAt.mono {H H' : Hp} {v : V} {e : Ent} (s : ∀ b o, H b = some o → H' b = some o) (h : EntAt H v e) : EntAt H' v e := by
  obtain ⟨t, p, rfl, h1, h2⟩ := h
  exact ⟨t, p, rfl, s _ _ h1, s _ _ h2⟩
theorem Ents.mono {H H' : Hp} {vs : List V} {es : List Ent} (s : ∀ b o, H b = some o → H' b = some o) (h : Ents H vs es) : Ents H' vs es := by
  induction h with
  | nil => exact .nil
  | cons h1 _ ih => exact .cons (h1.mono s) ih
theorem Ents.app {H : Hp} {vs ws : List V} {es fs : List Ent} (h : Ents H vs es) (g : Ents H ws fs) : Ents H (vs ++ ws) (es ++ fs) := by
  induction h with
  | nil => exact g
  | cons h1 _ ih => exact .cons h1 ih
theorem Ents.get {H : Hp} {vs : List V} {es : List Ent} (h : Ents H vs es) : ∀ {i : Nat} {v : V}, vs[i]? = some v → ∃ e, es[i]? = some e ∧ EntAt H v e := by
  induction h with
  | nil => intro i v h; simp at h
  | cons h1 _ ih =>
    intro i v hv
    cases i with
    | zero =>
      cases hv
      exact ⟨_, rfl, h1⟩
    | succ i => exact ih (i := i) hv
theorem Ents.at {H : Hp} {vs : List V} {es : List Ent} (h : Ents H vs es) {i : Nat} (hi : i < es.length) : ∃ v, vs[i]? = some v ∧ EntAt H v es[i] := by
  have h2 : i < vs.length := by rw [h.len]; exact hi
  obtain ⟨e, h3, h4⟩ := h.get (List.getElem?_eq_getElem h2)
  rw [List.getElem?_eq_getElem hi] at h3
  cases h3
  exact ⟨_, List.getElem?_eq_getElem h2, h4⟩
theorem Ents.set {H : Hp} {vs : List V} {es : List Ent} {v : V} {e : Ent} (h : Ents H vs es) (h1 : EntAt H v e) : ∀ i, Ents H (vs.set i v) (es.set i e) := by
  induction h with
  | nil => intro i; exact .nil
  | cons a b ih =>
    intro i
    cases i with
    | zero => exact .cons h1 b
    | succ i => exact .cons a (ih i)
/-- as data -/
def dPl (k : Pl) : PyData := .tuple (k.map .int)
def dEnt (e : Ent) : PyData := .tuple [dPl e.1, .int e.2]
def dRow (es : List Ent) : PyData := .list (es.map dEnt)
theorem dp_ints {K : PySem.W.Frag} {H : Hp} : ∀ k : Pl, DpAll K H (k.map V.int) (k.map PyData.int)
  | [] => .nil
  | n :: r => .cons (.int n) (dp_ints r)
theorem EntAt.dp {K : PySem.W.Frag} {H : Hp} {v : V} {e : Ent} (h : EntAt H v e) : Dp K H v (dEnt e) := by
  obtain ⟨t, p, rfl, h1, h2⟩ := h
  exact .tup (.inl (.inl h1)) (.cons (.tup (.inl (.inl h2)) (dp_ints _)) (.cons (.int _) .nil))
theorem Ents.dpAll {K : PySem.W.Frag} {H : Hp} {vs : List V} {es : List Ent} (h : Ents H vs es) : DpAll K H vs (es.map dEnt) := by
  induction h with
  | nil => exact .nil
  | cons h1 _ ih => exact .cons h1.dp ih
theorem Ents.dp {K : PySem.W.Frag} {H : Hp} {a : Addr} {vs : List V} {es : List Ent} (ha : SqL K H a vs) (h : Ents H vs es) : Dp K H (.ref a) (dRow es) := .lst ha h.dpAll
theorem lay_ints : ∀ k : Pl, PyData.canLayAll0 (k.map PyData.int) = true
  | [] => rfl
  | n :: r => by
    show (PyData.canLay0 (.int n) && PyData.canLayAll0 (r.map PyData.int)) = true
    rw [lay_ints r]
    rfl
theorem lay_row : ∀ es : List Ent, PyData.canLayAll0 (es.map dEnt) = true
  | [] => rfl
  | e :: r => by
    show (PyData.canLay0 (dEnt e) && PyData.canLayAll0 (r.map dEnt)) = true
    rw [lay_row r]
    show ((PyData.canLayAll0 (e.1.map PyData.int) && (PyData.canLay0 (.int e.2) && true)) && true) = true
    rw [lay_ints]
    rfl
end OT

set_option Elab.async false
set_option linter.all false
set_option maxRecDepth 100000
set_option maxHeartbeats 4000000
/-! raise C(), an own class whose __init__ takes no argument but the error itself -/
namespace L2
open PySem PySem.Spec PyProof.Rows PySem.W PySem.Calls PySem.HandSPX
section
variable {X : Cx} {p pos : Pos} {pins : List (Addr × Obj)} {σ : St} {H : Hp} {st : Shared}
/-- the heap with the bare error and its empty arguments behind the old objects -/
def bareHeap (C : Addr) (h : Heap) : Heap := (h.push (kdv_tup [])).push (excO C h.objs.size)
theorem bare_grows {C : Addr} {h : Heap} (b : Addr) (o : Obj) (e : h.get? b = some o) : (bareHeap C h).get? b = some o := Heap.get?_push_of_some _ (Heap.get?_push_of_some _ e)
theorem bare_there {C : Addr} {h : Heap} : (bareHeap C h).get? (h.objs.size + 1) = some (excO C h.objs.size) := by
  show ((h.push (kdv_tup [])).push (excO C h.objs.size)).get? (h.objs.size + 1) = _
  heap_get
theorem bare_inv {C : Addr} (I : Inv X pins σ H st) : H (st.heap.objs.size + 1) = none ∧ Inv X pins σ (upd H (st.heap.objs.size + 1) (exo (st.heap.objs.size + 1) C none)) ⟨bareHeap C st.heap, st.gens, st.drawn, st.toks, st.os⟩ :=
  ⟨I.hok.fresh (Nat.le_succ _), I.laid (t' := st.toks) (a := st.heap.objs.size + 1) (h' := bareHeap C st.heap) (o := exo (st.heap.objs.size + 1) C none) bare_grows (Nat.le_succ _) (exo_ok bare_there)⟩
theorem pmk_oex0 {CX : CXT} {x : Str} {C fI : Addr} {k : Nat} {fd : FuncData} {ps : List Str} {sp : Sp} (T : OexC X.K C) (iC : findIn X.K (.ref C) "__init__" = some (some (.ref fI))) (tI : typeIn X.K (.ref fI) = some (.type "function"))
    (G : FnOk X.prog X.w X.K X.mg X.base CX k fI fd ps sp) (hr : Room (k + 1) X.A) (bi : Binds X.K fd ps []) (no : Passes CX X fun _ _ _ => False) (hg : Gl X x) (hm : X.mg x = some (.ref C)) (nd : (x == ("__debug__" : Str)) = false := by decide) :
    PMk X (.Call (.Name x p) [] [] pos) (tMkO C sp [] tNil) := by
  intro pins σ0 σ H Q I want
  rcases σ0 with ⟨h, gs, dw, ts, os⟩
  obtain ⟨_, _, _, _, bm, _, _, _, _, _, _, _, _, _, _, stands, vb⟩ := T.cls
  obtain ⟨_, ask⟩ := want
  obtain ⟨free, J⟩ := bare_inv (C := C) I
  have promise := ask (h.objs.size + 1) free
  have one : ([Value.ref (h.objs.size + 1)] : List Value).length = ps.length := (G.len _ _ _ _ promise).symm ▸ rfl
  have body := G.run (X.A.under (.builtin "type.__call__" ⟨[.ref C], []⟩)) X.stack _ _ ⟨[.ref (h.objs.size + 1)], []⟩ [.ref (h.objs.size + 1)] _ _ (fun _ _ _ => False) (hr.make C [] []) (J.env0.make C [] []) (bi _ [.ref (h.objs.size + 1)] J.kIn one) (show Vals [V.ref (h.objs.size + 1)] [Value.ref (h.objs.size + 1)] from .cons rfl .nil) promise
  refine wpAny_Call_Name_kw (ld_glob I hg hm (callWith_K0 I.kIn T.kC ?_) nd)
  refine wpAny_call (call_own (rest := []) F.excBase_ValueError (fun Y => refsVE_contains Y bm vb) (I.kIn _ _ stands) (looks_findIn I.kIn iC) (fun me => bind_fn I.kIn me tI) (Nat.zero_le _) (codeAny_mono body ?_))
  rintro (er | fl) s2 end_
  · exact no pins σ _ _ er s2 J end_
  · cases fl with
    | ret u =>
      rcases s2 with ⟨h2, gs2, dw2, ts2, os2⟩
      obtain ⟨_, H2, same, bare, un, ok2, rel, rfl, d, fs, at_a, at_d, new, q⟩ := end_
      exact ⟨rel, mk_end (raises_own T.exC T.tyC) I (Nat.le_succ _) bare_grows un ok2 same bare at_a at_d new q⟩
    | next => cases end_
    | brk => cases end_
    | cont => cases end_
end
end L2

set_option Elab.async false
set_option linter.all false
set_option maxRecDepth 100000
set_option maxHeartbeats 4000000
/-! steps of a reading, one lemma for each form -/
namespace AU
open PySem PySem.Spec PyProof.Rows L2
section
variable {K : PySem.W.Frag} {σ : L2.St} {H : Hp} {Q : VK} {D : Ends}
theorem climb {H1 H2 : Hp} {a : Addr} {o : HO} (s : Same H1 H2) (h : H1 a = some o) : H2 a = some o := s _ _ h
theorem sqL {a : Addr} {xs : List V} (h : H a = some (.lst xs)) : SqL K H a xs := .inl (.inl h)
theorem sqT {a : Addr} {xs : List V} (h : H a = some (.tup xs)) : SqT K H a xs := .inl (.inl h)
theorem newS {H H2 : Hp} {p : Addr} {o : HO} (h : H p = none) (e : upd H p o = H2) : Same H H2 := fun b x z => by
  rw [← e, upd_ne (ne_of_none z h)]
  exact z
theorem newH {H H2 : Hp} {p : Addr} {o : HO} (e : upd H p o = H2) : H2 p = some o := by rw [← e]; exact upd_same
theorem back {H H2 : Hp} {p : Addr} (s : Same H H2) (h : H2 p = none) : H p = none := by
  cases h1 : H p with
  | none => rfl
  | some o =>
    rw [s p o h1] at h
    cases h
theorem trueT {A B : Prop} (h : A) : if true = true then A else B := by rw [if_pos rfl]; exact h
theorem falseF {A B : Prop} (h : B) : if false = true then A else B := by rw [if_neg (by decide)]; exact h
theorem trueN {A B : Prop} (h : B) : if (!true) = true then A else B := by rw [if_neg (by decide)]; exact h
theorem falseN {A B : Prop} (h : A) : if (!false) = true then A else B := by rw [if_pos (by decide)]; exact h
theorem mutS {H H1 : Hp} {p : Addr} {o : HO} (e : Same H H1) (h : H p = none) : Same H (upd H1 p o) := fun b x z => by
  rw [upd_ne (ne_of_none z h)]
  exact e b x z
theorem sqLS {H1 H2 : Hp} {a : Addr} {xs : List V} (s : Same H1 H2) (h : SqL K H1 a xs) : SqL K H2 a xs := s.seq h
theorem sqTS {H1 H2 : Hp} {a : Addr} {xs : List V} (e : Same H1 H2) (h : SqT K H1 a xs) : SqT K H2 a xs := by
  rcases h with (h | ⟨o, h⟩) | h
  · exact .inl (.inl (e _ _ h))
  · exact .inl (.inr ⟨o, e _ _ h⟩)
  · exact .inr h
/- statements -/
theorem seq_ {t u : TS} (h : t { D with nx := u D } σ H) : tSeq t u D σ H := h
theorem asg_ {te : TE} {g : TG} (h : te σ H fun x H1 => g x σ H1 D.nx) : tAsg te g D σ H := h
theorem name_ {i : Nat} {v : V} {W : L2.St → Hp → Prop} (h : W (σ.set i (some v)) H) : gName i v σ H W := h
theorem drop_ {te : TE} (h : te σ H fun _ H1 => D.nx σ H1) : tDrop te D σ H := h
theorem ret_ {te : TE} (h : te σ H D.rt) : tRet te D σ H := h
theorem retN_ (h : D.rt .non H) : tRetN D σ H := h
theorem next_ (h : D.nx σ H) : tNext D σ H := h
theorem brk_ (h : D.bk σ H) : tBreak D σ H := h
theorem cont_ (h : D.ct σ H) : tCont D σ H := h
theorem ifs_ {c : TT} {t u : TS} (h : c σ H fun b H1 => if b = true then t D σ H1 else u D σ H1) : tIfS c t u D σ H := h
theorem aug_ {i : Nat} {te : TE} {ti : TIp} {x : V} (e : σ[i]? = some (some x)) (h : te σ H fun y H1 => ti x y H1 fun z H2 => D.nx (σ.set i (some z)) H2) : tAug i te ti D σ H := ⟨x, e, h⟩
theorem nxm {nx : L2.St → Hp → Prop} {rt : VK} {bk ct : L2.St → Hp → Prop} (h : nx σ H) : (Ends.mk nx rt bk ct).nx σ H := h
theorem rtm {nx : L2.St → Hp → Prop} {rt : VK} {bk ct : L2.St → Hp → Prop} {v : V} (h : rt v H) : (Ends.mk nx rt bk ct).rt v H := h
theorem bkm {nx : L2.St → Hp → Prop} {rt : VK} {bk ct : L2.St → Hp → Prop} (h : bk σ H) : (Ends.mk nx rt bk ct).bk σ H := h
theorem ctm {nx : L2.St → Hp → Prop} {rt : VK} {bk ct : L2.St → Hp → Prop} (h : ct σ H) : (Ends.mk nx rt bk ct).ct σ H := h
/- expressions -/
theorem var_ {i : Nat} {v : V} (e : σ[i]? = some (some v)) (q : Q v H) : tVar i σ H Q := ⟨v, e, q⟩
theorem c_ {v : V} (q : Q v H) : tC v σ H Q := q
theorem op_ {r : R2} {ta tb : TE} (h : ta σ H fun x H1 => tb σ H1 fun y H2 => r x y H2 Q) : tOp r ta tb σ H Q := h
theorem un_ {r : V → Hp → VK → Prop} {ta : TE} (h : ta σ H fun x H1 => r x H1 Q) : tUn r ta σ H Q := h
theorem u_ {g : Int → V} {i : Int} (q : Q (g i) H) : rU g (.int i) H Q := ⟨i, rfl, q⟩
theorem i0_ {g : Int → Int → V} {i j : Int} (q : Q (g i j) H) : rI0 g (.int i) (.int j) H Q := ⟨i, j, rfl, rfl, q⟩
theorem i_ {C : Int → Int → Prop} {g : Int → Int → V} {i j : Int} (c : C i j) (q : Q (g i j) H) : rI C g (.int i) (.int j) H Q := ⟨i, j, rfl, rfl, c, q⟩
theorem eq_ {x y : V} (c : scal x y = true) (q : Q (.bl (decide (x = y))) H) : rEq x y H Q := ⟨c, q⟩
theorem eqr_ {i : Int} (q : Q (.bl true) H) : rEq (.int i) (.int i) H Q := ⟨rfl, by
  rw [decide_eq_true rfl]; exact q⟩
theorem eqs_ {i : Str} (q : Q (.bl true) H) : rEq (.str i) (.str i) H Q := ⟨rfl, by
  rw [decide_eq_true rfl]; exact q⟩
theorem eqi_ {i j : Int} (q : Q (.bl (decide (i = j))) H) : rEq (.int i) (.int j) H Q := ⟨rfl, by
  have : decide (V.int i = V.int j) = decide (i = j) := decide_eq_decide.mpr ⟨fun h => by cases h; rfl, fun h => by rw [h]⟩
  rw [this]; exact q⟩
theorem nei_ {i j : Int} (q : Q (.bl (!decide (i = j))) H) : rNe (.int i) (.int j) H Q := ⟨rfl, by
  have : decide (V.int i = V.int j) = decide (i = j) := decide_eq_decide.mpr ⟨fun h => by cases h; rfl, fun h => by rw [h]⟩
  rw [this]; exact q⟩
theorem ne_ {x y : V} (c : scal x y = true) (q : Q (.bl (!decide (x = y))) H) : rNe x y H Q := ⟨c, q⟩
theorem test_ {t : TE} {R : Bool → Hp → Prop} (h : t σ H fun x H' => ∃ k, x = .bl k ∧ R k H') : tTest t σ H R := h
theorem sl_ {r : V → Option Int → Option Int → Hp → VK → Prop} {te : TE} {tl th : TO} (h : te σ H fun x H1 => tl σ H1 fun l H2 => th σ H2 fun u H3 => r x l u H3 Q) : tSl r te tl th σ H Q := h
theorem npart_ {R : Option Int → Hp → Prop} (h : R none H) : tNoPart σ H R := h
theorem part_ {te : TE} {R : Option Int → Hp → Prop} (h : te σ H fun x H1 => ∃ i, x = .int i ∧ R (some i) H1) : tPart te σ H R := h
theorem int1_ {i : Int} {A : Int → Prop} (h : A i) : ∃ k, V.int i = .int k ∧ A k := ⟨i, rfl, h⟩
theorem int2_ {i : Int} {A : Int → Prop} (h : A i) : ∃ k, [V.int i] = [V.int k] ∧ A k := ⟨i, rfl, h⟩
theorem slL_ {a : Addr} {xs : List V} {lo hi : Option Int} (s : SqL K H a xs) (h : ∀ p, H p = none → Q (.ref p) (upd H p (.lst (cutV xs lo hi)))) : rSlL K (.ref a) lo hi H Q := ⟨a, xs, rfl, s, h⟩
theorem cut_takeA {xs : List Int} (n : Nat) : cutV (xs.map V.int) none (some (n : Int)) = (xs.take n).map V.int := by
  unfold cutV
  rw [HT.sIx_none, HT.sIx_nat, List.length_map, List.drop_zero, Nat.sub_zero, List.map_take]
  by_cases h : n ≤ xs.length
  · rw [Nat.min_eq_left h]
  · rw [Nat.min_eq_right (by omega), List.take_of_length_le (by rw [List.length_map]; omega), List.take_of_length_le (by rw [List.length_map]; omega)]
theorem bool_ {b : Bool} {A : Bool → Prop} (h : A b) : ∃ k, V.bl b = .bl k ∧ A k := ⟨b, rfl, h⟩
theorem b_ {t : TE} {R : Bool → Hp → Prop} (h : t σ H fun x H' => ∃ k, x = .bl k ∧ R k H') : tB t σ H R := h
theorem and_ {t u : TT} {R : Bool → Hp → Prop} (h : t σ H fun c H1 => if c = true then u σ H1 R else R false H1) : tAnd t u σ H R := h
theorem or_ {t u : TT} {R : Bool → Hp → Prop} (h : t σ H fun c H1 => if c = true then R true H1 else u σ H1 R) : tOr t u σ H R := h
theorem not_ {t : TT} {R : Bool → Hp → Prop} (h : t σ H fun c H1 => R (!c) H1) : tNot t σ H R := h
theorem andV_ {ta tb : TE} (h : ta σ H fun x H1 => ∃ c, x = .bl c ∧ if c = true then tb σ H1 Q else Q (.bl false) H1) : tAndV ta tb σ H Q := h
theorem orV_ {ta tb : TE} (h : ta σ H fun x H1 => ∃ c, x = .bl c ∧ if c = true then Q (.bl true) H1 else tb σ H1 Q) : tOrV ta tb σ H Q := h
theorem notV_ {ta : TE} (h : ta σ H fun x H1 => ∃ c, x = .bl c ∧ Q (.bl (!c)) H1) : tNotV ta σ H Q := h
theorem if_ {t : TT} {ta tb : TE} (h : t σ H fun c H1 => if c = true then ta σ H1 Q else tb σ H1 Q) : tIf t ta tb σ H Q := h
theorem nil_ {R : List V → Hp → Prop} (h : R [] H) : tNil σ H R := h
theorem cons_ {ta : TE} {tr : TA} {R : List V → Hp → Prop} (h : ta σ H fun x H1 => tr σ H1 fun xs H2 => R (x :: xs) H2) : tCons ta tr σ H R := h
theorem lst_ {t : TA} (h : t σ H fun xs H1 => xs.length ≤ sizeLine ∧ ∀ p, H1 p = none → Q (.ref p) (upd H1 p (.lst xs))) : tLst t σ H Q := h
theorem tup_ {t : TA} (h : t σ H fun xs H1 => xs.length ≤ sizeLine ∧ ∀ p, H1 p = none → Q (.ref p) (upd H1 p (.tup xs))) : tTup t σ H Q := h
theorem call_ {sp : Sp} {dvs : List V} {E : XK} {t : TA} (h : t σ H fun vs H1 => sp (vs ++ dvs) H1 Q E) : tCall sp dvs E t σ H Q := h
theorem callS_ {sp : Sp} {E : L2.St → XK} {t : TA} (h : t σ H fun vs H1 => sp vs H1 Q (E σ)) : tCallS sp E t σ H Q := h
theorem cb_ {r : List V → Hp → VK → Prop} {t : TA} (h : t σ H fun vs H1 => r vs H1 Q) : tCB r t σ H Q := h
theorem bm_ {T : String} {r : V → List V → Hp → VK → Prop} {to : TE} {t : TA} (h : to σ H fun x H1 => tyV K T x H1 ∧ t σ H1 fun xs H2 => r x xs H2 Q) : tBM K T r to t σ H Q := h
theorem ixL_ {p : Addr} {xs : List V} {i : Int} {v : V} (h : SqL K H p xs) (e : atI xs i = some v) (q : Q v H) : rIxL K (.ref p) (.int i) H Q := ⟨p, xs, i, v, rfl, rfl, h, e, q⟩
theorem ixT_ {p : Addr} {xs : List V} {i : Int} {v : V} (h : SqT K H p xs) (e : atI xs i = some v) (q : Q v H) : rIxT K (.ref p) (.int i) H Q := ⟨p, xs, i, v, rfl, rfl, h, e, q⟩
theorem lenL_ {p : Addr} {xs : List V} (h : SqL K H p xs) (q : Q (.int xs.length) H) : _root_.Evl.rLenS K [.ref p] H Q := ⟨p, xs, rfl, .inl h, q⟩
theorem lenT_ {p : Addr} {xs : List V} (h : SqT K H p xs) (q : Q (.int xs.length) H) : _root_.Evl.rLenS K [.ref p] H Q := ⟨p, xs, rfl, .inr h, q⟩
theorem app_ {l : Addr} {xs : List V} {y : V} (h : H l = some (.lst xs)) (z : xs.length < sizeLine) (q : Q .non (upd H l (.lst (xs ++ [y])))) : rAppend (.ref l) [y] H Q := ⟨l, xs, y, rfl, rfl, h, z, q⟩
theorem listof_ {p : Addr} {ys : List V} {A : List V → Prop} (h : SqL K H p ys) (q : A ys) : ∃ p' ys', [V.ref p] = [.ref p'] ∧ (SqL K H p' ys' ∨ SqT K H p' ys') ∧ A ys' := ⟨p, ys, rfl, .inl h, q⟩
theorem listofT_ {p : Addr} {ys : List V} {A : List V → Prop} (h : SqT K H p ys) (q : A ys) : ∃ p' ys', [V.ref p] = [.ref p'] ∧ (SqL K H p' ys' ∨ SqT K H p' ys') ∧ A ys' := ⟨p, ys, rfl, .inr h, q⟩
theorem tupleofT_ {p : Addr} {ys : List V} {A : List V → Prop} {B : Addr → Prop} (h : SqT K H p ys) (q : B p) : ∃ p' ys', [V.ref p] = [.ref p'] ∧ ((SqL K H p' ys' ∧ A ys') ∨ (SqT K H p' ys' ∧ B p')) := ⟨p, ys, rfl, .inr ⟨h, q⟩⟩
theorem eqD_ {x y : V} {d e : PyData} (hx : Dp K H x d) (hy : Dp K H y e) (hd : SeqAt.shaped d = true) (he : SeqAt.shaped e = true) (q : Q (.bl (PyData.eqv d e)) H) : rEqD K x y H Q := ⟨d, e, hx, hy, hd, he, q⟩
theorem neD_ {x y : V} {d e : PyData} (hx : Dp K H x d) (hy : Dp K H y e) (hd : SeqAt.shaped d = true) (he : SeqAt.shaped e = true) (q : Q (.bl (!PyData.eqv d e)) H) : rNeD K x y H Q := ⟨d, e, hx, hy, hd, he, q⟩
theorem wAs_ {c cls : Value} {i : Nat} {ts : Addr → Value → Option Addr → TS} {Wout : WX} {d : Option Addr} (e : PySem.W.exmOne K cls c = some true) (h : ∀ a, H a = none → ts a cls d { nx := fun σ' H' => D.nx (σ'.set i none) H', rt := D.rt, bk := fun σ' H' => D.bk (σ'.set i none) H', ct := fun σ' H' => D.ct (σ'.set i none) H' } (σ.set i (some (.ref a))) H) : wAs K c i ts Wout D cls d σ H := ⟨true, e, fun _ => h, fun z => by cases z⟩
theorem cat_ {l b : Addr} {xs zs : List V} (h : H l = some (.lst xs)) (k : H b = some (.lst zs)) (z : xs.length + zs.length ≤ sizeLine) (q : ∀ p, H p = none → Q (.ref p) (upd H p (.lst (xs ++ zs)))) : rCat (.ref l) (.ref b) H Q := ⟨l, b, xs, zs, rfl, rfl, h, k, z, q⟩
theorem intb_ {b : Bool} {A : Int → Prop} {B : Bool → Prop} (q : B b) : (∃ i, [V.bl b] = [.int i] ∧ A i) ∨ ∃ k, [V.bl b] = [.bl k] ∧ B k := .inr ⟨b, rfl, q⟩
theorem inti_ {i : Int} {A : Int → Prop} {B : Prop} (q : A i) : (∃ i', [V.int i] = [.int i'] ∧ A i') ∨ B := .inl ⟨i, rfl, q⟩
theorem b01 (b : Bool) : -(2 ^ 64) < (if b = true then (1 : Int) else 0) ∧ (if b = true then (1 : Int) else 0) < 2 ^ 64 := by cases b <;> decide
theorem rng1_ {ta : TA} {R : It → Hp → Prop} (h : ta σ H fun vs H1 => ∃ j : Int, vs = [.int j] ∧ -(2 ^ 62) ≤ j ∧ j < 2 ^ 62 ∧ R (Itr 0 j.toNat) H1) : iRng1 ta σ H R := h
theorem list_ {tl : TE} {R : It → Hp → Prop} (h : tl σ H fun x H1 => ∃ a, x = .ref a ∧ (∃ xs, SqL K H1 a xs) ∧ R (Itl K a) H1) : iList K tl σ H R := h
theorem itup_ {tl : TE} {R : It → Hp → Prop} (h : tl σ H fun x H1 => ∃ a, x = .ref a ∧ (∃ xs, SqT K H1 a xs) ∧ R (Itt K a) H1) : iTup K tl σ H R := h
theorem for_ {wi : TI} {g : TG} {tb : TS} (h : wi σ H fun J H1 => ∃ W : Nat → Nat → L2.St → Hp → Prop, (∃ m, W 0 m σ H1) ∧ ∀ i m σ H, W i m σ H →
  (J.stop i H ∧ D.nx σ H) ∨ (J.go i H ∧ ∃ N : L2.St → Hp → Prop, (∀ σ' H', N σ' H' → ∃ m', m' < m ∧ W (i + 1) m' σ' H') ∧ ∀ x H', J.yld i H x H' → g x σ H' fun σ2 H2 => tb { D with nx := N, ct := N, bk := D.nx } σ2 H2)) : tFor wi g tb D σ H := h
theorem lc_ {wi : TI} {g : TG} {tt : TT} {te : TE} {vs : List Nat} (h : wi σ H fun J H1 => ∀ D, H1 D = none → ∃ W : Nat → Nat → Hp → Prop, (∃ m, W 0 m (upd H1 D (.lst []))) ∧ ∀ i m H, W i m H →
  (J.stop i H ∧ Q (.ref D) H) ∨ (J.go i H ∧ ∃ Nx : Hp → Prop, (∀ H', Nx H' → ∃ m', m' < m ∧ W (i + 1) m' H') ∧ ∀ x H', J.yld i H x H' → g x (wipe σ vs) H' fun σ2 H2 => wipe σ2 vs = wipe σ vs ∧ tt σ2 H2 fun b H3 =>
    if b = true then te σ2 H3 fun y H4 => ∃ acc, H4 D = some (.lst acc) ∧ acc.length < sizeLine ∧ Nx (upd H4 D (.lst (acc ++ [y]))) else Nx H3)) : tLc wi g tt te vs σ H Q := h
theorem yes_ {A B : Hp → Prop} (h : A H) : tYes σ H (fun b H3 => if b = true then A H3 else B H3) := by
  show (if true = true then A H else B H)
  rw [if_pos rfl]
  exact h
theorem refNon {p : Addr} {A B : Prop} (h : B) : if decide (V.ref p = V.non) = true then A else B := by rw [if_neg (by intro z; have := of_decide_eq_true z; cases this)]; exact h
theorem nonNon {A B : Prop} (h : A) : if decide (V.non = V.non) = true then A else B := by rw [if_pos (decide_eq_true rfl)]; exact h
theorem line {n : Nat} (h : n ≤ 20000) : n < sizeLine := Nat.lt_of_lt_of_le (Nat.lt_of_le_of_lt h (by decide : 20000 < 100000)) (by decide)
theorem tyl_ {p : Addr} {xs : List V} {A : Prop} (h : SqL K H p xs) (q : A) : tyV K "list" (.ref p) H ∧ A := ⟨.inl ⟨rfl, xs, h⟩, q⟩
theorem tupleof_ {p : Addr} {ys : List V} {A : List V → Prop} {B : Addr → List V → Prop} (h : SqL K H p ys) (q : A ys) : ∃ p' ys', [V.ref p] = [.ref p'] ∧ ((SqL K H p' ys' ∧ A ys') ∨ B p' ys') := ⟨p, ys, rfl, .inl ⟨h, q⟩⟩
/-- a list of ints that grows at D, H0 without D -/
def IntsAt (H0 : Hp) (D : Addr) (Pr : Nat → Int → Prop) (i : Nat) (H : Hp) : Prop := Same H0 H ∧ ∃ zs : List Int, H D = some (.lst (zs.map V.int)) ∧ zs.length = i ∧ ∀ (k : Nat) (z : Int), zs[k]? = some z → Pr k z
theorem IntsAt.start {H0 : Hp} {D : Addr} {Pr : Nat → Int → Prop} (nD : H0 D = none) : IntsAt H0 D Pr 0 (upd H0 D (.lst [])) := ⟨newS nD rfl, [], upd_same, rfl, fun k z h => by simp at h⟩
theorem IntsAt.step {H0 H H4 : Hp} {D : Addr} {Pr : Nat → Int → Prop} {i : Nat} {z : Int} (nD : H0 D = none) (h : IntsAt H0 D Pr i H) (s : Same H H4) (hi : i < 10000) (pz : Pr i z) : ∃ acc, H4 D = some (.lst acc) ∧ acc.length < sizeLine ∧ IntsAt H0 D Pr (i + 1) (upd H4 D (.lst (acc ++ [.int z]))) := by
  obtain ⟨s0, zs, hD, hl, hp⟩ := h
  refine ⟨_, s _ _ hD, by rw [List.length_map]; exact line (by omega), mutS (s0.trans s) nD, zs ++ [z], by rw [upd_same, List.map_append]; rfl, by rw [List.length_append, hl]; rfl, fun k x hk => ?_⟩
  by_cases c : k < zs.length
  · rw [List.getElem?_append_left c] at hk
    exact hp k x hk
  · have hkl := (List.getElem?_eq_some_iff.mp hk).1
    rw [List.length_append, List.length_singleton] at hkl
    obtain rfl : k = zs.length := by omega
    rw [List.getElem?_append_right (Nat.le_refl _), Nat.sub_self] at hk
    cases hk
    rw [hl]
    exact pz
/-- entries that grow at D, H0 without D -/
def EntsG (H0 : Hp) (D : Addr) (Pe : Nat → OT.Ent → Prop) (i : Nat) (H : Hp) : Prop := Same H0 H ∧ ∃ (ws : List V) (es : List OT.Ent), H D = some (.lst ws) ∧ OT.Ents H ws es ∧ es.length = i ∧ ∀ (k : Nat) (e : OT.Ent), es[k]? = some e → Pe k e
theorem EntsG.start {H0 : Hp} {D : Addr} {Pe : Nat → OT.Ent → Prop} (nD : H0 D = none) : EntsG H0 D Pe 0 (upd H0 D (.lst [])) := ⟨newS nD rfl, [], [], upd_same, .nil, rfl, fun k z h => by simp at h⟩
theorem ne_ltup {a D : Addr} {xs l : List V} (h : H a = some (.tup xs)) (hD : H D = some (.lst l)) : a ≠ D := fun e => by
  rw [e, hD] at h
  cases h
theorem ents_upd {H : Hp} {D : Addr} {l l' : List V} {vs : List V} {es : List OT.Ent} (hD : H D = some (.lst l)) (h : OT.Ents H vs es) : OT.Ents (upd H D (.lst l')) vs es := by
  induction h with
  | nil => exact .nil
  | cons h1 _ ih =>
    obtain ⟨t, p, rfl, ht, hp⟩ := h1
    refine .cons ⟨t, p, rfl, ?_, ?_⟩ ih
    · rw [upd_ne (ne_ltup ht hD)]; exact ht
    · rw [upd_ne (ne_ltup hp hD)]; exact hp
theorem EntsG.step {H0 H H4 : Hp} {D : Addr} {Pe : Nat → OT.Ent → Prop} {i : Nat} {v : V} {e : OT.Ent} (nD : H0 D = none) (h : EntsG H0 D Pe i H) (s : Same H H4) (hi : i < 10000) (hv : OT.EntAt H4 v e) (pz : Pe i e) : ∃ acc, H4 D = some (.lst acc) ∧ acc.length < sizeLine ∧ EntsG H0 D Pe (i + 1) (upd H4 D (.lst (acc ++ [v]))) := by
  obtain ⟨s0, ws, es, hD, hE, hl, hp⟩ := h
  have hw := hE.len
  refine ⟨_, s _ _ hD, line (by omega), mutS (s0.trans s) nD, ws ++ [v], es ++ [e], upd_same, ents_upd (s _ _ hD) ((hE.mono s).app (.cons hv .nil)), by rw [List.length_append, hl]; rfl, fun k x hk => ?_⟩
  by_cases c : k < es.length
  · rw [List.getElem?_append_left c] at hk
    exact hp k x hk
  · have hkl := (List.getElem?_eq_some_iff.mp hk).1
    rw [List.length_append, List.length_singleton] at hkl
    obtain rfl : k = es.length := by omega
    rw [List.getElem?_append_right (Nat.le_refl _), Nat.sub_self] at hk
    cases hk
    rw [hl]
    exact pz
theorem atN {xs : List V} {k : Int} {j : Nat} {v : V} (e : k = (j : Int)) (h : xs[j]? = some v) : atI xs k = some v := by rw [e]; exact atI_nat h
end
end AU

set_option Elab.async false
set_option linter.all false
set_option maxRecDepth 100000
set_option maxHeartbeats 4000000
/-! xs.count(y) of a list of flat items -/
namespace OA
open PySem PySem.Spec PyProof.Rows PySem.W PySem.Calls L2
theorem count_vals {y : V} : ∀ {ys : List V} {its : List Value}, Vals ys its → ys.all flatV = true → its.countP (eqU y) = ys.countP fun z => eqV z y
  | [], _, .nil, _ => rfl
  | z :: r, _, .cons rz rt, f => by
    rw [List.all_cons, Bool.and_eq_true] at f
    rw [List.countP_cons, List.countP_cons, count_vals rt f.2, eqU_of rz f.1]
section
variable {X : Cx}
def rCntV (K : PySem.W.Frag) : V → List V → Hp → VK → Prop := fun x xs H Q => ∃ (p : Addr) (ys : List V) (y : V), x = .ref p ∧ xs = [y] ∧ SqL K H p ys ∧ flatV y = true ∧ ys.all flatV = true ∧ Q (.int ((ys.countP fun z => eqV z y : Nat) : Int)) H
theorem mt_lcountV : MtR X "list.count" (rCntV X.K) := by
  intro pins s σ H x xs v us Q I rx rxs h
  obtain ⟨p, ys, y, rfl, rfl, hs, fy, fys, q⟩ := h
  cases rx
  cases rxs with
  | cons ry rt =>
    rename_i uy ut
    cases rt
    obtain ⟨its, rv, ⟨⟨cls, dd, data, sl⟩, n, ho, hc, hdn, hd⟩, hlen⟩ := I.list hs
    simp only at hc hd
    subst hc hd
    refine call_meets PySem.F.slot_list_count ⟨_, ho, rfl⟩ PySem.F.entry_list_count (PySem.F.args_list_count_2 _ _)
      (SeqAt.list_countAt p its.toArray n dd sl uy (eqU y)) ⟨ho, fun u' hu' => mem_eqAt ry fy rv fys u' (by simpa using hu'), ?_⟩
    refine ⟨.int ((ys.countP fun z => eqV z y : Nat) : Int), H, I.tok _, ⟨s.toks, ?_⟩, q⟩
    show Value.int ((its.toArray.toList.countP (eqU y) : Nat) : Int) s.toks = Value.int ((ys.countP fun z => eqV z y : Nat) : Int) s.toks
    have e : its.toArray.toList = its := rfl
    rw [e, count_vals rv fys]
end
end OA

set_option Elab.async false
set_option linter.all false
set_option maxRecDepth 100000
set_option maxHeartbeats 2000000
/-! data in the heap: kept where the heap grows; what is shaped -/
namespace OT
open PySem PySem.Spec PyProof.Rows L2
theorem same_tD {K : PySem.W.Frag} {H H' : Hp} {a : Addr} {xs : List V} (e : Same H H') (h : SqT K H a xs) : SqT K H' a xs := by
  rcases h with (h | ⟨o, h⟩) | h
  · exact .inl (.inl (e _ _ h))
  · exact .inl (.inr ⟨o, e _ _ h⟩)
  · exact .inr h
mutual
theorem Dp.mono {K : PySem.W.Frag} {H H' : Hp} (s : Same H H') : ∀ {v : V} {d : PyData}, Dp K H v d → Dp K H' v d
  | _, _, .non => .non
  | _, _, .bl b => .bl b
  | _, _, .int i => .int i
  | _, _, .str x => .str x
  | _, _, .lst h1 h2 => .lst (s.seq h1) (DpAll.mono s h2)
  | _, _, .tup h1 h2 => .tup (same_tD s h1) (DpAll.mono s h2)
theorem DpAll.mono {K : PySem.W.Frag} {H H' : Hp} (s : Same H H') : ∀ {vs : List V} {ds : List PyData}, DpAll K H vs ds → DpAll K H' vs ds
  | _, _, .nil => .nil
  | _, _, .cons h1 h2 => .cons (Dp.mono s h1) (DpAll.mono s h2)
end
theorem DpAll.len {K : PySem.W.Frag} {H : Hp} {vs : List V} {ds : List PyData} (h : DpAll K H vs ds) : vs.length = ds.length := by
  induction vs generalizing ds with
  | nil =>
    cases h
    rfl
  | cons v r ih =>
    cases h with
    | cons _ h2 => rw [List.length_cons, List.length_cons, ih h2]
theorem DpAll.snoc {K : PySem.W.Frag} {H : Hp} {v : V} {d : PyData} : ∀ {vs : List V} {ds : List PyData}, DpAll K H vs ds → Dp K H v d → DpAll K H (vs ++ [v]) (ds ++ [d])
  | [], _, h, k => by
    cases h
    exact .cons k .nil
  | _ :: r, _, h, k => by
    cases h with
    | cons h1 h2 => exact .cons h1 (DpAll.snoc h2 k)
/-- data that is shaped, of a depth -/
structure DOk (n : Nat) (d : PyData) : Prop where
  lay : d.canLay0 = true
  dep : d.depth ≤ n
theorem DOk.le {n m : Nat} {d : PyData} (h : DOk n d) (k : n ≤ m) : DOk m d := ⟨h.lay, Nat.le_trans h.dep k⟩
theorem layAll {ds : List PyData} {n : Nat} : (∀ d ∈ ds, DOk n d) → PyData.canLayAll0 ds = true ∧ PyData.depthAll ds ≤ n := by
  induction ds with
  | nil =>
    intro _
    exact ⟨by simp only [PyData.canLayAll0], by simp only [PyData.depthAll]; omega⟩
  | cons d r ih =>
    intro h
    obtain ⟨h1, h2⟩ := ih fun x hx => h x (List.mem_cons_of_mem _ hx)
    have hd := h d List.mem_cons_self
    refine ⟨?_, ?_⟩
    · simp only [PyData.canLayAll0, hd.lay, h1, Bool.and_self]
    · have := hd.dep
      simp only [PyData.depthAll]
      omega
theorem DOk.list {n : Nat} {ds : List PyData} (h : ∀ d ∈ ds, DOk n d) : DOk (n + 1) (.list ds) := by
  obtain ⟨h1, h2⟩ := layAll h
  exact ⟨h1, by simp only [PyData.depth]; omega⟩
theorem DOk.tuple {n : Nat} {ds : List PyData} (h : ∀ d ∈ ds, DOk n d) : DOk (n + 1) (.tuple ds) := by
  obtain ⟨h1, h2⟩ := layAll h
  exact ⟨h1, by simp only [PyData.depth]; omega⟩
theorem DOk.int (i : Int) : DOk 1 (.int i) := ⟨rfl, by simp only [PyData.depth]; omega⟩
theorem DOk.shaped {n : Nat} {d : PyData} (h : DOk n d) (hn : n ≤ 64) : SeqAt.shaped d = true := by
  unfold SeqAt.shaped
  rw [h.lay, Bool.true_and]
  exact decide_eq_true (Nat.le_trans h.dep hn)
theorem eqvD {d : PyData} (h : SeqAt.shaped d = true) : PyData.eqv d d = true := SeqAt.eqv_refl _ (SeqAt.canLay_of_shaped h)
theorem DOk.pl (k : Pl) : DOk 2 (.tuple (k.map PyData.int)) := DOk.tuple fun d hd => by
  obtain ⟨x, _, rfl⟩ := List.mem_map.mp hd
  exact DOk.int x
theorem DOk.ent (e : Ent) : DOk 3 (dEnt e) := DOk.tuple (n := 2) fun d hd => by
  rcases List.mem_cons.mp hd with rfl | hd
  · exact DOk.pl e.1
  · rcases List.mem_cons.mp hd with rfl | hd
    · exact (DOk.int _).le (by decide)
    · cases hd
theorem DOk.row (es : List Ent) : DOk 4 (dRow es) := DOk.list fun d hd => by
  obtain ⟨x, _, rfl⟩ := List.mem_map.mp hd
  exact DOk.ent x
/-- places as data -/
def dMat (M : List Pl) : PyData := .list (M.map fun l => .tuple (l.map PyData.int))
theorem DOk.mat (M : List Pl) : DOk 3 (dMat M) := DOk.list fun d hd => by
  obtain ⟨x, _, rfl⟩ := List.mem_map.mp hd
  exact DOk.pl x
theorem DOk.ints (ns : List Int) : DOk 2 (.list (ns.map PyData.int)) := DOk.list fun d hd => by
  obtain ⟨x, _, rfl⟩ := List.mem_map.mp hd
  exact DOk.int x
end OT

set_option Elab.async false
set_option linter.all false
set_option maxRecDepth 100000
set_option maxHeartbeats 2000000
/-! sums over entries with weights: they depend on the sums at the places alone -/
namespace OT
open PySem PySem.Spec PyProof.Rows L2
def sumW (w : Pl → Int) : List Ent → Int
  | [] => 0
  | e :: r => e.2 * w e.1 + sumW w r
theorem sumW_app (w : Pl → Int) : ∀ a b : List Ent, sumW w (a ++ b) = sumW w a + sumW w b
  | [], b => by show sumW w b = 0 + sumW w b; omega
  | e :: r, b => by
    show e.2 * w e.1 + sumW w (r ++ b) = e.2 * w e.1 + sumW w r + sumW w b
    rw [sumW_app w r b]
    omega
/-- 1 at the place -/
def at1 (q : Pl) : Pl → Int := fun k => if k = q then 1 else 0
theorem numAt_sumW (q : Pl) : ∀ es : List Ent, numAt es q = sumW (at1 q) es
  | [] => rfl
  | e :: r => by
    show (if e.1 = q then e.2 else 0) + numAt r q = e.2 * (if e.1 = q then 1 else 0) + sumW (at1 q) r
    rw [numAt_sumW q r]
    by_cases h : e.1 = q
    · rw [if_pos h, if_pos h, Int.mul_one]
    · rw [if_neg h, if_neg h, Int.mul_zero]
def negs (es : List Ent) : List Ent := es.map fun e => (e.1, -e.2)
theorem numAt_negs (q : Pl) : ∀ es : List Ent, numAt (negs es) q = - numAt es q
  | [] => rfl
  | e :: r => by
    have ih := numAt_negs q r
    show (if e.1 = q then -e.2 else 0) + numAt (negs r) q = -((if e.1 = q then e.2 else 0) + numAt r q)
    rw [ih]
    by_cases h : e.1 = q
    · rw [if_pos h, if_pos h]; omega
    · rw [if_neg h, if_neg h]; omega
theorem sumW_negs (w : Pl → Int) : ∀ es : List Ent, sumW w (negs es) = - sumW w es
  | [] => rfl
  | e :: r => by
    have ih := sumW_negs w r
    show -e.2 * w e.1 + sumW w (negs r) = -(e.2 * w e.1 + sumW w r)
    rw [ih, Int.neg_mul]
    omega
def off (k : Pl) (es : List Ent) : List Ent := es.filter fun e => decide (e.1 ≠ k)
theorem sumW_off (w : Pl → Int) (k : Pl) : ∀ es : List Ent, sumW w es = numAt es k * w k + sumW w (off k es)
  | [] => by show (0 : Int) = 0 * w k + 0; rw [Int.zero_mul]; rfl
  | e :: r => by
    have ih := sumW_off w k r
    show e.2 * w e.1 + sumW w r = ((if e.1 = k then e.2 else 0) + numAt r k) * w k + sumW w (off k (e :: r))
    unfold off at ih ⊢
    rw [List.filter_cons]
    by_cases h : e.1 = k
    · rw [if_pos h, if_neg (by simp [h]), ih, Int.add_mul, h]
      omega
    · rw [if_neg h, if_pos (decide_eq_true h), ih]
      show e.2 * w e.1 + _ = (0 + numAt r k) * w k + (e.2 * w e.1 + _)
      rw [Int.zero_add]
      omega
theorem numAt_off (k q : Pl) (es : List Ent) : numAt (off k es) q = if q = k then 0 else numAt es q := by
  by_cases h : q = k
  · subst h
    rw [if_pos rfl]
    refine numAt_out fun e he => ?_
    exact of_decide_eq_true (List.mem_filter.mp he).2
  · rw [if_neg h]
    have h1 := sumW_off (at1 q) k es
    rw [← numAt_sumW, ← numAt_sumW] at h1
    have : at1 q k = 0 := if_neg fun z => h z.symm
    rw [this, Int.mul_zero] at h1
    omega
theorem off_len {k : Pl} : ∀ {es : List Ent}, (∃ e ∈ es, e.1 = k) → (off k es).length < es.length := by
  intro es ⟨e, he, hk⟩
  unfold off
  refine List.length_filter_lt_length_iff_exists.mpr ⟨e, he, ?_⟩
  simp [hk]
theorem sumW_zero (w : Pl → Int) : ∀ (n : Nat) (es : List Ent), es.length ≤ n → (∀ q, numAt es q = 0) → sumW w es = 0
  | _, [], _, _ => rfl
  | 0, e :: r, h, _ => by simp at h
  | n + 1, e :: r, h, z => by
    rw [sumW_off w e.1, z e.1, Int.zero_mul, Int.zero_add]
    refine sumW_zero w n _ ?_ fun q => ?_
    · have := off_len (k := e.1) (es := e :: r) ⟨e, List.mem_cons_self, rfl⟩
      omega
    · rw [numAt_off]
      by_cases hq : q = e.1
      · rw [if_pos hq]
      · rw [if_neg hq]
        exact z q
/-- the key: sums with weights depend on the sums at the places alone -/
theorem sumW_eq (w : Pl → Int) {a b : List Ent} (h : ∀ q, numAt a q = numAt b q) : sumW w a = sumW w b := by
  have z := sumW_zero w _ (a ++ negs b) (Nat.le_refl _) fun q => by
    rw [numAt_app, numAt_negs, h q]
    omega
  rw [sumW_app, sumW_negs] at z
  omega
theorem RowIs.sum {r es : List Ent} (h : RowIs r es) (w : Pl → Int) : sumW w r = sumW w es := sumW_eq w h.s
/-- places moved by a function -/
def mapF (f : Pl → Pl) (es : List Ent) : List Ent := es.map fun e => (f e.1, e.2)
theorem sumW_mapF (w : Pl → Int) (f : Pl → Pl) : ∀ es : List Ent, sumW w (mapF f es) = sumW (fun k => w (f k)) es
  | [] => rfl
  | e :: r => by
    have ih := sumW_mapF w f r
    show e.2 * w (f e.1) + sumW w (mapF f r) = e.2 * w (f e.1) + sumW (fun k => w (f k)) r
    rw [ih]
theorem sumW_congr {w v : Pl → Int} : ∀ {es : List Ent}, (∀ e ∈ es, w e.1 = v e.1) → sumW w es = sumW v es
  | [], _ => rfl
  | e :: r, h => by
    show e.2 * w e.1 + sumW w r = e.2 * v e.1 + sumW v r
    rw [h e List.mem_cons_self, sumW_congr fun x hx => h x (List.mem_cons_of_mem _ hx)]
theorem numAt_mapF_eq (f : Pl → Pl) {a b : List Ent} (h : ∀ q, numAt a q = numAt b q) (q : Pl) : numAt (mapF f a) q = numAt (mapF f b) q := by
  rw [numAt_sumW, numAt_sumW, sumW_mapF, sumW_mapF]
  exact sumW_eq _ h
/-- the row of what is moved from a row -/
theorem RowIs.mapped {r es g : List Ent} {f : Pl → Pl} (h : RowIs r es) (hg : RowIs g (mapF f r)) : RowIs g (mapF f es) := ⟨hg.v, fun q => (hg.s q).trans (numAt_mapF_eq f h.s q)⟩
theorem RowIs.congr {r a b : List Ent} (h : RowIs r a) (e : ∀ q, numAt a q = numAt b q) : RowIs r b := ⟨h.v, fun q => (h.s q).trans (e q)⟩
theorem RowIs.app {r s a b c : List Ent} (h : RowIs r a) (k : RowIs s b) (g : RowIs c (r ++ s)) : RowIs c (a ++ b) := ⟨g.v, fun q => by
  rw [g.s, numAt_app, numAt_app, h.s, k.s]⟩
/-- products by pairs, with any sum of places -/
def prodL (op : Pl → Pl → Pl) (es fs : List Ent) : List Ent := es.flatMap fun e => fs.map fun g => (op e.1 g.1, e.2 * g.2)
theorem sumW_row (w : Pl → Int) (op : Pl → Pl → Pl) (e : Ent) : ∀ fs : List Ent, sumW w (fs.map fun g => (op e.1 g.1, e.2 * g.2)) = e.2 * sumW (fun l => w (op e.1 l)) fs
  | [] => by show (0 : Int) = e.2 * 0; rw [Int.mul_zero]
  | g :: r => by
    have ih := sumW_row w op e r
    show e.2 * g.2 * w (op e.1 g.1) + sumW w (r.map _) = e.2 * (g.2 * w (op e.1 g.1) + sumW _ r)
    rw [ih, Int.mul_add, Int.mul_assoc]
theorem sumW_prodL (w : Pl → Int) (op : Pl → Pl → Pl) : ∀ es fs : List Ent, sumW w (prodL op es fs) = sumW (fun k => sumW (fun l => w (op k l)) fs) es
  | [], fs => rfl
  | e :: r, fs => by
    have ih := sumW_prodL w op r fs
    show sumW w ((fs.map fun g => (op e.1 g.1, e.2 * g.2)) ++ prodL op r fs) = e.2 * sumW (fun l => w (op e.1 l)) fs + _
    rw [sumW_app, sumW_row, ih]
theorem numAt_prodL_eq (op : Pl → Pl → Pl) {a b c d : List Ent} (h : ∀ q, numAt a q = numAt b q) (k : ∀ q, numAt c q = numAt d q) (q : Pl) : numAt (prodL op a c) q = numAt (prodL op b d) q := by
  rw [numAt_sumW, numAt_sumW, sumW_prodL, sumW_prodL, sumW_eq _ h]
  refine sumW_congr fun e _ => sumW_eq _ k
end OT

set_option Elab.async false
set_option linter.all false
set_option maxRecDepth 100000
set_option maxHeartbeats 4000000
/-! a held error: isinstance, fields, calls with it -/
namespace OT
open PySem PySem.Spec PyProof.Rows L2
def rIsX (K : PySem.W.Frag) (a : Addr) (c : Value) (d : Option Addr) : List V → Hp → VK → Prop := fun xs H Q => ∃ (C dd : Addr) (fs : List (Str × V)) (y : V) (u : Value) (b : Bool),
    xs = [.ref a, y] ∧ c = .ref C ∧ d = some dd ∧ PySem.W.OtCls K C ∧ H dd = some (.xd fs) ∧ ClsV y u ∧ PySem.W.kitOne K (.ref C) u = some b ∧ Q (.bl b) H
theorem call_isA {X : Cx} {a : Addr} {oe : Obj} {c : Value} {d : Option Addr} (hp : (a, oe) ∈ X.pn) (zc : Zc c d oe) (fld : ∃ fs, oe.data = .fields fs) : CallR X (.builtin "isinstance") (rIsX X.K a c d) := call_isX (p := (a, oe)) hp zc fld
def tCallE (sp : SpE) (a : Addr) (c : Value) (d : Option Addr) (t : TA) : TE := fun σ H Q => t σ H fun vs H1 => sp a c d vs H1 Q E0
theorem pe_callA {X : Cx} {a : Addr} {oe : Obj} {c : Value} {d : Option Addr} {k : Nat} {f : Addr} {fd : FuncData} {ps : List Str} {sp : SpE} {x : Str} {q pos : Pos} {e : Expr} {es : List Expr} {t : TA} (F : FnE X.prog X.w X.K X.mg X.base k f fd ps sp) (hr : L2H.RoomH k X.A) (hp : (a, oe) ∈ X.pn) (zc : Zc c d oe) (fld : ∃ fs, oe.data = .fields fs) (hg : Gl X x) (hm : X.mg x = some (.ref f)) (hk : PySem.W.keepIn X.K (.ref f) = true) (hb : Binds X.K fd ps [])
    (ha : PA X (e :: es) t) (hdb : (x == ("__debug__" : Str)) = false := by decide) (he : starEach (e :: es) X.env = (false, eval e X.env) :: starEach es X.env := by rfl) (hpl : (backTo pos (starEach es X.env)).any (·.1) = false := by rfl) :
    PE X (.Call (.Name x q) (e :: es) [] pos) (tCallE sp a c d t) := pe_callE (p := (a, oe)) F hr hp zc fld hg hm hk hb ha hdb he hpl
def tFA (K : PySem.W.Frag) (a : Addr) (c : Value) (d : Option Addr) (n : Str) (te : TE) : TE := fun σ H Q => te σ H fun y H1 => ∃ (C dd : Addr) (fs : List (Str × V)) (v : V), y = .ref a ∧ c = .ref C ∧ d = some dd ∧ PySem.W.OtCls K C ∧ PySem.W.findIn K (.ref C) n = some none ∧ H1 dd = some (.xd fs) ∧ fs.lookup n = some v ∧ Q v H1
theorem pe_fA {X : Cx} {a : Addr} {oe : Obj} {c : Value} {d : Option Addr} {n : Str} {e : Expr} {te : TE} {pos : Pos} (hp : (a, oe) ∈ X.pn) (zc : Zc c d oe) (fld : ∃ fs, oe.data = .fields fs) (he : PE X e te) (hb : attributeBase e n X.env (eval e X.env) = eval e X.env := by rfl) :
    PE X (.Attribute e n pos) (tFA X.K a c d n te) := pe_fX (p := (a, oe)) hp zc fld he hb
structure HeldF (K : PySem.W.Frag) (H : Hp) (C dd : Addr) (c : Value) (d : Option Addr) (fs : List (Str × V)) : Prop where
  c : c = .ref C
  d : d = some dd
  t : PySem.W.OtCls K C
  h : H dd = some (.xd fs)
structure KitE (K : PySem.W.Frag) (B C : Addr) : Prop where
  b : PySem.W.kitOne K (.ref C) (.ref B) = some true
  v : PySem.W.kitOne K (.ref C) (.type "ValueError") = some true
theorem roomH_m {k : Nat} {A : Around} {v : Option Value} (r : Room k A) : L2H.RoomH k (A.mark v) := ⟨r.dp, r.un⟩
theorem HeldF.mono {K : PySem.W.Frag} {H H' : Hp} {C dd : Addr} {c : Value} {d : Option Addr} {fs : List (Str × V)} (s : Same H H') (h : HeldF K H C dd c d fs) : HeldF K H' C dd c d fs := { h with h := s _ _ h.h }
theorem isX_ {K : PySem.W.Frag} {a : Addr} {c : Value} {d : Option Addr} {H : Hp} {Q : VK} {C dd : Addr} {fs : List (Str × V)} {y : V} {u : Value} {b : Bool} (h : HeldF K H C dd c d fs) (v : ClsV y u) (k : PySem.W.kitOne K (.ref C) u = some b) (q : Q (.bl b) H) : rIsX K a c d [.ref a, y] H Q := ⟨C, dd, fs, y, u, b, rfl, h.c, h.d, h.t, h.h, v, k, q⟩
theorem fA_ {K : PySem.W.Frag} {a : Addr} {c : Value} {d : Option Addr} {n : Str} {te : TE} {σ : L2.St} {H : Hp} {Q : VK} (h : te σ H fun y H1 => ∃ (C dd : Addr) (fs : List (Str × V)) (v : V), y = .ref a ∧ c = .ref C ∧ d = some dd ∧ PySem.W.OtCls K C ∧ PySem.W.findIn K (.ref C) n = some none ∧ H1 dd = some (.xd fs) ∧ fs.lookup n = some v ∧ Q v H1) : tFA K a c d n te σ H Q := h
theorem fB_ {K : PySem.W.Frag} {a : Addr} {c : Value} {d : Option Addr} {n : Str} {H : Hp} {A : V → Prop} {C dd : Addr} {fs : List (Str × V)} {v : V} (h : HeldF K H C dd c d fs) (f : PySem.W.findIn K (.ref C) n = some none) (l : fs.lookup n = some v) (q : A v) : ∃ (C dd : Addr) (fs : List (Str × V)) (v : V), V.ref a = .ref a ∧ c = .ref C ∧ d = some dd ∧ PySem.W.OtCls K C ∧ PySem.W.findIn K (.ref C) n = some none ∧ H dd = some (.xd fs) ∧ fs.lookup n = some v ∧ A v := ⟨C, dd, fs, v, rfl, h.c, h.d, h.t, f, h.h, l, q⟩
theorem callE_ {sp : SpE} {a : Addr} {c : Value} {d : Option Addr} {t : TA} {σ : L2.St} {H : Hp} {Q : VK} (h : t σ H fun vs H1 => sp a c d vs H1 Q E0) : tCallE sp a c d t σ H Q := h
theorem isi_ {K : PySem.W.Frag} {H : Hp} {Q : VK} {x c : V} {t u : Value} {b : Bool} (hc : ClsV c u) (hx : TyX K H x t) (hk : PySem.W.kitOne K t u = some b) (q : Q (.bl b) H) : rIsi K [x, c] H Q := ⟨x, c, t, u, b, rfl, hc, hx, hk, q⟩
theorem isin_ {K : PySem.W.Frag} {H : Hp} {Q : VK} {x c : V} {t u : Value} {b : Bool} (hc : ClsV c u) (hx : TyX K H x t) (hk : PySem.W.kitOne K t u = some b) (q : Q (.bl b) H) : ∃ (x' c' : V) (t' u' : Value) (b' : Bool), [x, c] = [x', c'] ∧ ClsV c' u' ∧ TyX K H x' t' ∧ PySem.W.kitOne K t' u' = some b' ∧ Q (.bl b') H := ⟨x, c, t, u, b, rfl, hc, hx, hk, q⟩
theorem kt {K : PySem.W.Frag} {a b : String} {r : Bool} (h : kitB a b = some r) : PySem.W.kitOne K (.type a) (.type b) = some r := kit_ty h
theorem kq_int_int : kitB "int" "int" = some true := by decide +kernel
theorem kq_int_bool : kitB "int" "bool" = some false := by decide +kernel
theorem kq_bool_bool : kitB "bool" "bool" = some true := by decide +kernel
theorem kq_bool_int : kitB "bool" "int" = some true := by decide +kernel
theorem kq_str_str : kitB "str" "str" = some true := by decide +kernel
theorem kq_tuple_tuple : kitB "tuple" "tuple" = some true := by decide +kernel
theorem kq_list_list : kitB "list" "list" = some true := by decide +kernel
theorem kq_list_tuple : kitB "list" "tuple" = some false := by decide +kernel
theorem kq_tuple_list : kitB "tuple" "list" = some false := by decide +kernel
theorem kq_list_int : kitB "list" "int" = some false := by decide +kernel
theorem kq_tuple_int : kitB "tuple" "int" = some false := by decide +kernel
theorem kq_list_bool : kitB "list" "bool" = some false := by decide +kernel
theorem kq_tuple_bool : kitB "tuple" "bool" = some false := by decide +kernel
theorem kq_str_int : kitB "str" "int" = some false := by decide +kernel
theorem kq_int_str : kitB "int" "str" = some false := by decide +kernel
theorem kq_int_list : kitB "int" "list" = some false := by decide +kernel
theorem kq_int_tuple : kitB "int" "tuple" = some false := by decide +kernel
theorem kq_bool_list : kitB "bool" "list" = some false := by decide +kernel
theorem kq_bool_tuple : kitB "bool" "tuple" = some false := by decide +kernel
end OT

set_option Elab.async false
set_option linter.all false
set_option maxRecDepth 100000
set_option maxHeartbeats 4000000
/-! loops, unpacking and comprehensions while an error is held -/
namespace HP
open PySem PySem.Spec PyProof.Rows L2 HotX
section
variable {prog : Program} {w : World} {A : Around} {E : Value → Shared → Prop} {s : Shared}
theorem hot_ne {x1 it : Addr} {h : Heap} {o : Obj} {u v : Value} (hot : HotAt A x1 h) (ho : h.get? it = some o) (hd : o.data = .fields #[u, v]) : x1 ≠ it := by
  rintro rfl
  obtain ⟨_, o1, vs, h1, d1, c1⟩ := hot
  rw [h1] at ho; cases ho
  rw [d1] at hd; cases hd
  simp at c1
theorem hot_upd {x1 it : Addr} {h : Heap} {f : Obj → Obj} (hot : HotAt A x1 h) (hne : x1 ≠ it) : HotAt A x1 (h.update it f) := by
  obtain ⟨hh, o1, vs, h1, d1, c1⟩ := hot
  exact ⟨hh, o1, vs, by rw [Heap.get?_update_other _ _ hne.symm]; exact h1, d1, c1⟩
theorem hot_push {x1 : Addr} {h : Heap} {o : Obj} (hot : HotAt A x1 h) : HotAt A x1 (h.push o) := by
  obtain ⟨hh, o1, vs, h1, d1, c1⟩ := hot
  exact ⟨hh, o1, vs, Heap.get?_push_of_some _ h1, d1, c1⟩
theorem hot_lt {x1 : Addr} {h : Heap} (hot : HotAt A x1 h) : x1 < h.objs.size := by
  obtain ⟨_, o1, vs, h1, _, _⟩ := hot
  exact Heap.lt_size h1
theorem grown {it a : Addr} {h : Heap} {o1 o2 : Obj} {f g : Obj → Obj} (b : Addr) (o : Obj) (hb : b ≠ it) (ha : a = ((h.update it f).push o1).objs.size) (e : h.get? b = some o) : ((((h.update it f).push o1).push o2).update a g).get? b = some o := by
  have e1 : (h.update it f).get? b = some o := by rw [Heap.get?_update_other _ _ hb.symm]; exact e
  have e2 := Heap.get?_push_of_some o1 e1
  rw [Heap.get?_update_other _ _ (by rw [ha]; exact Nat.ne_of_gt (Heap.lt_size e2))]
  exact Heap.get?_push_of_some _ e2
theorem list_end_hot {it l x1 : Addr} {i : Nat} {items : Array Value} {Q : Option Value → Shared → Prop} (hot : HotAt A x1 s.heap) (hit : s.heap.IsListIter it l i) (hl : s.heap.IsList l items) (hx : items[i]? = none)
    (hQ : ∀ h', Heap.ExtBut it s.heap h' → Q none { s with heap := h' }) : wpAny (model prog w) A (pyNext (.ref it)) Q E s := by
  obtain ⟨o, ho, hc, hd⟩ := id hit; obtain ⟨ol, hol, _, nl, hdl⟩ := hl
  have hne := hot_ne hot ho hd
  unfold pyNext
  refine wpAny_bind (wpAny_attempt (wpAny_callSpecial?_slot (name := Str.ofString "__next__") hit.typeIs slot_listiter_next (wpAny_call_entry slot_listiter_next hit.typeIs entry_listiter_next ?_ (args_listiter_next _))))
  show wpAny _ _ (field (.ref it) 0 >>= _) _ _ s; refine wpAny_bind (wpAny_field ho hd (x := .ref l) rfl ?_)
  show wpAny _ _ (if (Value.ref l == Value.none) = true then _ else _) _ _ s; rw [if_neg (show ¬ ((Value.ref l == Value.none) = true) from Bool.false_ne_true)]
  show wpAny _ _ (field (.ref it) 1 >>= _) _ _ s; refine wpAny_bind (wpAny_field ho hd (x := .int i 0) rfl ?_)
  show wpAny _ _ (seqItems? (.ref l) >>= _) _ _ s; refine wpAny_bind (wpAny_seqItems hol hdl ?_)
  simp only [Int.toNat_natCast, hx]; refine wpAny_bind (wpAny_rule (wpAny_bind (wpAny_setField ho hd (by simp) ?_)))
  show wpAny _ _ (newExc (.type "StopIteration") [] >>= _) _ _ _; refine wpAny_bind ?_; simp only [newExc, newTuple]
  refine wpAny_bind (wpAny_newObj_type ?_ (by size_fits)); refine wpAny_bind (m := firstArgMember _ _) (wpAny_of_eq (a := Value.none) (by first | rfl | (simp only [firstArgMember]; rfl)) ?_)
  refine wpAny_newObj_type ?_ (by size_fits); refine raiseNew_hot (x1 := x1) (hot_push (hot_push (hot_upd ⟨hot.1, hot.2⟩ hne))) (Nat.ne_of_lt (hot_lt (hot_push (hot_upd hot hne)))) (Heap.get?_push_size _ rfl) rfl (by first | (simp; done) | (simp; omega) | (simp only [Array.size_append]; simp; omega)) ?_
  refine wpAny_bind (wpAny_isInstance (T := "StopIteration") (b := true) ⟨_, Heap.get?_update_self _ (Heap.get?_push_size _ rfl) rfl, rfl⟩ isSubtype_stop ?_)
  exact wpAny_pure (hQ _ fun b o hb e => grown b o hb rfl e)
theorem tuple_end_hot {it l x1 : Addr} {i : Nat} {items : Array Value} {Q : Option Value → Shared → Prop} (hot : HotAt A x1 s.heap) (hit : s.heap.IsTupleIter it l i) (hl : s.heap.IsTuple l items) (hx : items[i]? = none)
    (hQ : ∀ h', Heap.ExtBut it s.heap h' → Q none { s with heap := h' }) : wpAny (model prog w) A (pyNext (.ref it)) Q E s := by
  obtain ⟨o, ho, hc, hd⟩ := id hit; obtain ⟨ol, hol, _, nl, hdl⟩ := hl
  have hne := hot_ne hot ho hd
  unfold pyNext
  refine wpAny_bind (wpAny_attempt (wpAny_callSpecial?_slot (name := Str.ofString "__next__") hit.typeIs F.slot_tuple_iterator_next (wpAny_call_entry F.slot_tuple_iterator_next hit.typeIs F.entry_tuple_iterator_next ?_ (F.args_tuple_iterator_next_1 _))))
  show wpAny _ _ (field (.ref it) 0 >>= _) _ _ s; refine wpAny_bind (wpAny_field ho hd (x := .ref l) rfl ?_)
  show wpAny _ _ (if (Value.ref l == Value.none) = true then _ else _) _ _ s; rw [if_neg (show ¬ ((Value.ref l == Value.none) = true) from Bool.false_ne_true)]
  show wpAny _ _ (field (.ref it) 1 >>= _) _ _ s; refine wpAny_bind (wpAny_field ho hd (x := .int i 0) rfl ?_)
  show wpAny _ _ (seqItems? (.ref l) >>= _) _ _ s; refine wpAny_bind (wpAny_seqItems hol hdl ?_)
  simp only [Int.toNat_natCast, hx]; refine wpAny_bind (wpAny_rule (wpAny_bind (wpAny_setField ho hd (by simp) ?_)))
  show wpAny _ _ (newExc (.type "StopIteration") [] >>= _) _ _ _; refine wpAny_bind ?_; simp only [newExc, newTuple]
  refine wpAny_bind (wpAny_newObj_type ?_ (by size_fits)); refine wpAny_bind (m := firstArgMember _ _) (wpAny_of_eq (a := Value.none) (by first | rfl | (simp only [firstArgMember]; rfl)) ?_)
  refine wpAny_newObj_type ?_ (by size_fits); refine raiseNew_hot (x1 := x1) (hot_push (hot_push (hot_upd ⟨hot.1, hot.2⟩ hne))) (Nat.ne_of_lt (hot_lt (hot_push (hot_upd hot hne)))) (Heap.get?_push_size _ rfl) rfl (by first | (simp; done) | (simp; omega) | (simp only [Array.size_append]; simp; omega)) ?_
  refine wpAny_bind (wpAny_isInstance (T := "StopIteration") (b := true) ⟨_, Heap.get?_update_self _ (Heap.get?_push_size _ rfl) rfl, rfl⟩ isSubtype_stop ?_)
  exact wpAny_pure (hQ _ fun b o hb e => grown b o hb rfl e)
/-- a tuple taken apart -/
theorem unpack_hot {t x1 : Addr} {items : Array Value} {Q : List Value → Shared → Prop} (hot : HotAt A x1 s.heap) (ht : IsTup s.heap t items)
    (hQ : ∀ h', Heap.ExtBut s.heap.objs.size s.heap h' → Q items.toList { s with heap := h' }) : wpAny (model prog w) A (unpackItems (.ref t) items.size none) Q E s := by
  have hlt : t ≠ s.heap.objs.size := by
    obtain ⟨o, ho, _⟩ := ht
    exact Nat.ne_of_lt (Heap.lt_size ho)
  unfold unpackItems notIterableAtAll
  refine wpAny_bind (wpAny_bind (wpAny_specialOf ht.typeIs slot_tuple_iter.lookup (wpAny_pure ?_)))
  simp only [Bool.false_eq_true, if_false]; refine wpAny_bind (wpAny_holding (iter_tuple ht (wpAny_bind (wpAny_holding (draw_tuple hlt items.size 0 _ _ ⟨_, Heap.get?_push_size _ rfl, rfl, rfl⟩ (ht.push _) (by omega) fun h₁ hit₁ hs₁ => ?_)))))
  have hall : List.take items.size (List.drop 0 items.toList) = items.toList := by
    rw [List.drop_zero, List.take_of_length_le (by simp)]
  rw [hall, if_neg (by simp)]
  have hot1 : HotAt A x1 h₁ := by
    obtain ⟨hh, o1, vs, g1, d1, c1⟩ := hot_push (o := { cls := .type "tuple_iterator", data := .fields #[.ref t, .int 0 0] }) hot
    exact ⟨hh, o1, vs, hs₁.extBut x1 o1 (Nat.ne_of_lt (hot_lt hot)) g1, d1, c1⟩
  refine wpAny_bind (wpAny_holding (tuple_end_hot hot1 hit₁ ((ht.push _).extBut hs₁.extBut hlt) (by simp) fun h₂ he₂ => ?_))
  simp only [Option.isSome_none, Bool.false_eq_true, if_false]; exact wpAny_pure (hQ h₂ fun b o hb e => he₂ b o hb (hs₁.extBut b o hb (Heap.get?_push_of_some _ e)))
end
section
variable {X : Cx} {tg : Expr}
theorem pg_tupH {es : List Expr} {k n : Nat} {t : TGs} {pos : Pos} (hc : L2H.HotC X) (h : PGs X es t) (hn : (assignEach es X.env).length = n := by rfl) (hst : (assignEach es X.env).findIdx? (·.1) = none := by rfl) : PG X (.Tuple es k pos) (gTup X.K n t) := by
  refine ⟨fun pins s σ H v u Q I r hw => ?_⟩
  obtain ⟨a, xs, rfl, hq, hl, hw⟩ := hw
  cases r
  obtain ⟨its, rv, ht, hz⟩ := I.tuple hq
  obtain ⟨x1, hot⟩ := hc.at I
  have hlen : (assignEach es X.env).length = its.toArray.size := by simp [hn, ← hl, rv.length]
  rw [assign_Tuple]
  refine wpAny_bind (wpAny_standAt ?_)
  unfold unpack
  rw [hlen, hst]
  refine wpAny_bind (wpAny_holding (unpack_hot hot ht fun h' hx => ?_))
  exact h.run pins _ σ H xs _ Q (I.kept (t' := s.toks) fun b o e => hx b o (Nat.ne_of_lt (Heap.lt_size e)) e) (by simpa using rv) hw
theorem turn_listH {P : Program} {w : World} {K : PySem.W.Frag} (a it : Addr) : L2H.TurnH P w K tg (Itl K a) [it] it (fun i h => h.IsListIter it a i) := by
  have C := turn_list (P := P) (w := w) (K := K) (tg := tg) a it
  refine ⟨C.mem, C.obj, C.keep, ?_, ?_, C.self⟩
  · rintro X rfl rfl rfl _ i pins s σ H E I hf st ⟨xs, x, hq, hx⟩
    obtain ⟨its, rv, p, hz⟩ := I.list hq
    obtain ⟨u, hu, ru⟩ := rv.get hx
    have f := hf it List.mem_cons_self
    refine wpAny_pyNext_list_item st p.isList (x := u) (by simpa using hu) fun h' st' sb => ?_
    obtain ⟨o, e, c, d⟩ := id st'
    refine ⟨u, rfl, go_of (s := { s with heap := h' }) e c d (by decide) ⟨x, H, I.turned (t' := s.toks) (fun b o hb e => (sb.2 b hb).trans e) f.1 f.2.1 f.2.2.2.1 f.2.2.2.2.1 f.2.2.2.2.2, ru, ⟨rfl, fun ys hy => ?_⟩, st', fun b hb => (hf b hb).1⟩⟩
    rw [I.list_inj hy hq]; exact hx
  · rintro X rfl rfl rfl hc i pins s σ H E I hf st ⟨xs, hq, hx⟩
    obtain ⟨its, rv, p, hz⟩ := I.list hq
    obtain ⟨x1, hot⟩ := hc.at I
    have f := hf it List.mem_cons_self
    have hl := rv.length
    exact list_end_hot hot st p.isList (by simp; omega) fun h' eb => ⟨rfl, I.turned (t' := s.toks) (fun b o hb e => eb b o hb e) f.1 f.2.1 f.2.2.2.1 f.2.2.2.2.1 f.2.2.2.2.2⟩
theorem turn_tupleH {P : Program} {w : World} {K : PySem.W.Frag} (a it : Addr) : L2H.TurnH P w K tg (Itt K a) [it] it (fun i h => h.IsTupleIter it a i) := by
  have C := turn_tuple (P := P) (w := w) (K := K) (tg := tg) a it
  refine ⟨C.mem, C.obj, C.keep, ?_, ?_, C.self⟩
  · rintro X rfl rfl rfl _ i pins s σ H E I hf st ⟨xs, x, hq, hx⟩
    obtain ⟨its, rv, p, hz⟩ := I.tuple hq
    obtain ⟨u, hu, ru⟩ := rv.get hx
    have f := hf it List.mem_cons_self
    refine wpAny_pyNext_tuple_item st (show s.heap.IsTuple a its.toArray from p) (x := u) (by simpa using hu) fun h' st' sb => ?_
    obtain ⟨o, e, c, d⟩ := id st'
    refine ⟨u, rfl, go_of (s := { s with heap := h' }) e c d (by decide) ⟨x, H, I.turned (t' := s.toks) (fun b o hb e => (sb.2 b hb).trans e) f.1 f.2.1 f.2.2.2.1 f.2.2.2.2.1 f.2.2.2.2.2, ru, ⟨rfl, fun ys hy => ?_⟩, st', fun b hb => (hf b hb).1⟩⟩
    rw [I.tuple_inj hy hq]; exact hx
  · rintro X rfl rfl rfl hc i pins s σ H E I hf st ⟨xs, hq, hx⟩
    obtain ⟨its, rv, p, hz⟩ := I.tuple hq
    obtain ⟨x1, hot⟩ := hc.at I
    have f := hf it List.mem_cons_self
    have hl := rv.length
    exact tuple_end_hot hot st (show s.heap.IsTuple a its.toArray from p) (by simp; omega) fun h' eb => ⟨rfl, I.turned (t' := s.toks) (fun b o hb e => eb b o hb e) f.1 f.2.1 f.2.2.2.1 f.2.2.2.2.1 f.2.2.2.2.2⟩
theorem pi_listH {l : Expr} {tl : TE} (hl : PE X l tl) : L2H.PIH X tg l (iList X.K tl) := by
  refine ⟨fun pins s σ H R I h => thn (hl.run pins s σ H _ I h) fun v s1 ⟨x, H1, I1, r1, q1⟩ => ?_⟩
  obtain ⟨a, rfl, ⟨xs, hq⟩, q⟩ := q1
  cases r1
  obtain ⟨its, rv, p, hz⟩ := I1.list hq
  refine wpAny_pyIter_list p.isList ⟨s1.heap.objs.size, [s1.heap.objs.size], _, _, H1, rfl, I1.kept (t' := s1.toks) fun b o e => Heap.get?_push_of_some _ e, turn_listH a _, ⟨_, Heap.get?_push_size _ rfl, rfl, rfl⟩, fun b hb => ?_, q⟩
  rw [List.mem_singleton.mp hb]
  exact I1.fpOk (Nat.le_refl _) (I1.hok.fresh (Nat.le_refl _))
theorem pi_tupH {l : Expr} {tl : TE} (hl : PE X l tl) : L2H.PIH X tg l (iTup X.K tl) := by
  refine ⟨fun pins s σ H R I h => thn (hl.run pins s σ H _ I h) fun v s1 ⟨x, H1, I1, r1, q1⟩ => ?_⟩
  obtain ⟨a, rfl, ⟨xs, hq⟩, q⟩ := q1
  cases r1
  obtain ⟨its, rv, p, hz⟩ := I1.tuple hq
  refine wpAny_pyIter_tuple (show s1.heap.IsTuple a its.toArray from p) ⟨s1.heap.objs.size, [s1.heap.objs.size], _, _, H1, rfl, I1.kept (t' := s1.toks) fun b o e => Heap.get?_push_of_some _ e, turn_tupleH a _, ⟨_, Heap.get?_push_size _ rfl, rfl, rfl⟩, fun b hb => ?_, q⟩
  rw [List.mem_singleton.mp hb]
  exact I1.fpOk (Nat.le_refl _) (I1.hok.fresh (Nat.le_refl _))
/-- a comprehension's block, the held error borne on -/
abbrev blkH (X : Cx) (s : Shared) (H : Hp) (scope : Scope) (cenv : Env) (fp : List Addr) : Cx := { X.blk s H scope cenv fp with pn := X.pn }
theorem blk_hot {s : Shared} {H : Hp} {scope : Scope} {cenv : Env} {fp : List Addr} (h : L2H.HotC X) : L2H.HotC (blkH X s H scope cenv fp) := h
theorem block_hot {pins : List (Addr × Obj)} {σ : L2.St} {H : Hp} {s : Shared} {scope : Scope} {own : List (Str × Nat)} {fp : List Addr} (I : Inv X pins σ H s) (ok : BlkOk X.N X.env.scope scope own) (hN : X.N.Nodup) (hfp : ∀ b ∈ fp, FpOk X pins H b ∧ b < s.heap.objs.size) :
    Inv (blkH X s H scope (compEnvC scope (cellsFrom (s.heap.objs.size + 1) scope.names (cloFrom X.env.cells scope.names [])) s.heap.objs.size X.env) fp) [] (wipe σ (own.map (·.2))) H { s with heap := pushCells (s.heap.push { cls := .type "dict", data := .dict #[] }) scope.names } := by
  have B := block_start I ok hN hfp
  have k := B.ok
  refine ⟨⟨k.mod, k.kind, k.glob, k.blt, k.above, k.inj, k.has, k.cab, k.hd, k.frames, k.stk, k.exf, k.bs, k.bsz, k.noex, k.exfs, k.funs, k.frf⟩, B.os, B.bare, B.base, B.loc, B.cell, B.free, B.freeC, fun p hp => ?_, B.hok, B.len⟩
  have hp' : p ∈ X.pn ++ pins := by
    rcases List.mem_append.mp hp with h | h
    · exact List.mem_append_left _ h
    · cases h
  obtain ⟨p1, p2, p3, p4, p5⟩ := I.pin p hp'
  refine ⟨pushCells_keeps _ _ _ _ (Heap.get?_push_of_some _ p1), p2, Nat.ne_of_lt (Heap.lt_size p1), fun z => ?_, p5⟩
  rcases List.mem_cons.mp (I.stkSub p.1 z) with e | e
  · exact p3 e
  · exact p4 e
/-- one comprehension over a list while an error is held -/
theorem lc_hot {pins : List (Addr × Obj)} {s : Shared} {σ : L2.St} {H : Hp} {Q : VK} {elt iter : Expr} {ifs : List Expr} {scope : Scope} {own : List (Str × Nat)} {pos pos' : Pos} {wi : TI} {g : TG} {tt : TT} {te : TE} {use : Option (Value → Sem Unit)} {Qf : Value → Shared → Prop}
    (hc : L2H.HotC X) (hN : X.N.Nodup) (I : Inv X pins σ H s) (hi : L2H.PIH X tg iter wi) (ok : BlkOk X.N X.env.scope scope own) (hs : ∀ x, foldedSetIterable iter X.env x = pure x)
    (hb : ∀ (s : Shared) (H : Hp) (C : Addr) (cl : List (Str × Addr)) (fp : List Addr), PG (blkH X s H scope (compEnvC scope cl C X.env) fp) tg g ∧ PTs (blkH X s H scope (compEnvC scope cl C X.env) fp) ifs tt ∧ PE (blkH X s H scope (compEnvC scope cl C X.env) fp) elt te)
    (h : tLc wi g tt te (own.map (·.2)) σ H Q)
    (hRR : ∀ D C s' m H', Inv X pins σ H' s' → Q (.ref D) H' → s'.heap.Ns C m → FpOk X pins H' C → compPost (model X.prog X.w) X.A X.xe use Qf (.ref D) C (.ok .next) s') :
    wpAny (model X.prog X.w) X.A (comprehension (.ListComp elt [⟨tg, iter, ifs, 0⟩] scope pos) scope X.env pos' (newList []) false (eval iter X.env) use) Qf X.xe s := by
  have cl0 : ∀ y ∈ scope.names, y.2 = .free → ∃ c, X.env.cells.lookup y.1 = some c := fun y hy e => I.ok.has _ (ok.free y hy e)
  refine wpAny_comprehension_free (use := use) rfl hs (closure_ok cl0) ok.kind (fun y hy e => by rw [ok.uniq y hy, e]) (thn (hi.run pins s σ H _ I h) fun xv s1 hx => thn hx fun itv s2 ⟨it, fp, tn, J, H2, e0, I2, T, st2, f2, q⟩ => ?_)
  subst e0
  refine wpAny_newObj_type (newEnv_comp ?_) (by show 0 ≤ sizeLine; decide)
  obtain ⟨D, hD⟩ : ∃ D, D = s2.heap.objs.size := ⟨_, rfl⟩
  have hDn : H2 D = none := I2.hok.fresh (Nat.le_of_eq hD.symm)
  obtain ⟨W, ⟨m0, w0⟩, turn⟩ := q D hDn
  obtain ⟨s3, hs3⟩ : ∃ s3 : Shared, s3 = { s2 with heap := s2.heap.push { cls := .type "list", data := .seq ([] : List Value).toArray } } := ⟨_, rfl⟩
  have kp : ∀ b o, s2.heap.get? b = some o → s3.heap.get? b = some o := fun b o e => by rw [hs3]; exact Heap.get?_push_of_some _ e
  have I3 : Inv X pins σ (upd H2 D (.lst [])) s3 := by
    rw [hs3]
    refine I2.laid (t' := s2.toks) (fun b o e => Heap.get?_push_of_some _ e) (Nat.le_of_eq hD.symm) ⟨Nat.zero_le _, [], 0, .nil, ?_⟩
    rw [hD]; exact Heap.get?_push_size _ rfl
  have f3 : ∀ b ∈ fp, FpOk X pins (upd H2 D (.lst [])) b ∧ b < s3.heap.objs.size := fun b hb => by
    obtain ⟨o, e, _⟩ := T.obj _ _ st2 b hb
    have hlt := Heap.lt_size e
    refine ⟨⟨?_, (f2 b hb).2⟩, Heap.lt_size (kp b o e)⟩
    rw [upd_ne (by rw [hD]; exact Nat.ne_of_lt hlt)]; exact (f2 b hb).1
  have B := block_hot I3 ok hN f3
  obtain ⟨pg, pt, pe⟩ := hb s3 (upd H2 D (.lst [])) s3.heap.objs.size (cellsFrom (s3.heap.objs.size + 1) scope.names (cloFrom X.env.cells scope.names [])) fp
  rw [← hD, ← hs3]
  show codeAny (model X.prog X.w) X.A (.compStart (.ListComp elt [⟨tg, iter, ifs, 0⟩] scope pos) 0 (.ref it) (.ref D) (compEnvC scope (cellsFrom (s3.heap.objs.size + 1) scope.names (cloFrom X.env.cells scope.names [])) s3.heap.objs.size X.env)) (compPost (model X.prog X.w) X.A X.xe use Qf (.ref D) s3.heap.objs.size) { s3 with heap := pushCells (s3.heap.push { cls := .type "dict", data := .dict #[] }) scope.names }
  obtain ⟨ce, hce⟩ : ∃ ce, ce = compEnvC scope (cellsFrom (s3.heap.objs.size + 1) scope.names (cloFrom X.env.cells scope.names [])) s3.heap.objs.size X.env := ⟨_, rfl⟩
  rw [← hce] at B pg pt pe ⊢
  have cL : ce.locals = s3.heap.objs.size := by rw [hce]; rfl
  obtain ⟨s4, hs4⟩ : ∃ s4 : Shared, s4 = { s3 with heap := pushCells (s3.heap.push { cls := .type "dict", data := .dict #[] }) scope.names } := ⟨_, rfl⟩
  rw [← hs4] at B ⊢
  have st4 : tn 0 s4.heap := T.keep _ _ _ st2 fun b _ o e => by rw [hs4]; exact pushCells_keeps _ _ _ _ (Heap.get?_push_of_some _ (kp b o e))
  obtain ⟨H3, hH3⟩ : ∃ H3, H3 = upd H2 D (.lst []) := ⟨_, rfl⟩
  rw [← hH3] at I3 B pg pt pe w0 f3
  have hot : L2H.HotC (blkH X s3 H3 scope ce fp) := hc
  have own_ok : ∀ {σ' : L2.St} {H' : Hp} {s' : Shared}, Inv (blkH X s3 H3 scope ce fp) [] σ' H' s' → (∀ b ∈ fp, H' b = none) → ∀ b ∈ fp, FpOk (blkH X s3 H3 scope ce fp) [] H' b := fun {σ' H' s'} I' hn b hb => by
    refine ⟨hn b hb, (I'.ok.exf b hb).1, I'.ok.exfs b hb, .inl hb, fun x c e => (I'.ok.exf b hb).2 x c e, fun p hp => ?_⟩
    rcases List.mem_append.mp hp with z | z
    · exact (f3 b hb).1.2.2.2.2.2 p (List.mem_append_left _ z)
    · cases z
  refine codeAny_compStart_list (compLoop_any (fun n s' => ∃ i H', Inv (blkH X s3 H3 scope ce fp) [] (wipe σ (own.map (·.2))) H' s' ∧ tn i s'.heap ∧ (∀ b ∈ fp, H' b = none) ∧ W i n H') ?_ m0 ⟨0, H3, B, st4, fun b hb => (f3 b hb).1.1, w0⟩) (T.self X.A 0 _ _ _ st4 (compLoop_any (fun n s' => ∃ i H', Inv (blkH X s3 H3 scope ce fp) [] (wipe σ (own.map (·.2))) H' s' ∧ tn i s'.heap ∧ (∀ b ∈ fp, H' b = none) ∧ W i n H') ?_ m0 ⟨0, H3, B, st4, fun b hb => (f3 b hb).1.1, w0⟩))
  all_goals
    rintro n s5 ⟨i, H5, I5, st5, n5, w5⟩
    rcases turn i n H5 w5 with ⟨stop, qq⟩ | ⟨go, Nx, hNx, step⟩
    · refine thnF (T.done (blkH X s3 H3 scope ce fp) rfl rfl rfl hot i [] s5 _ H5 (fun _ _ => False) I5 (own_ok I5 n5) st5 stop) fun r s6 ⟨hr, I6⟩ => ?_
      subst hr
      have nC : H5 ce.locals = none := I6.free
      obtain ⟨m, hn, _⟩ := I6.loc
      rw [cL] at nC
      have hn : s6.heap.Ns s3.heap.objs.size m := by rw [← cL]; exact hn
      exact hRR D s3.heap.objs.size s6 m H5 (I3.call' (ch := fp) I6.os I6.base I6.hok I6.bare fun b hb => ⟨(f3 b hb).1.2.2.2.1, (f3 b hb).1.2.1, (f3 b hb).1.2.2.2.2.1, (f3 b hb).1.2.2.2.2.2⟩) qq hn (I3.fpOk (Nat.le_refl _) nC)
    · refine thnF (T.item (blkH X s3 H3 scope ce fp) rfl rfl rfl hot i [] s5 _ H5 (fun _ _ => False) I5 (own_ok I5 n5) st5 go) fun r s6 ⟨u, hr, h6⟩ => ?_
      subst hr
      refine thnF h6 fun _ s7 ⟨x, H7, I7, r7, y7, st7, n7⟩ => thnF (pg.run _ s7 _ H7 x u _ (I7.pinned (own_ok I7 n7) (T.obj _ _ st7)) r7 (step x H7 y7)) fun _ s8 ⟨σ8, H8, I8, hw8, q8⟩ => thnF (pt.run _ s8 σ8 H8 _ I8 q8) fun b s9 ⟨H9, I9, q9⟩ => ?_
      have next : ∀ {s' : Shared} {H' : Hp}, Inv (blkH X s3 H3 scope ce fp) ([] ++ pinsAt fp s7.heap) σ8 H' s' → Nx H' → ∃ m, m < n ∧ ∃ i H', Inv (blkH X s3 H3 scope ce fp) [] (wipe σ (own.map (·.2))) H' s' ∧ tn i s'.heap ∧ (∀ b ∈ fp, H' b = none) ∧ W i m H' := fun {s' H'} I' nx => by
        obtain ⟨m', hm, w'⟩ := hNx H' nx
        have pn : ∀ b ∈ fp, ∀ o, s7.heap.get? b = some o → s'.heap.get? b = some o ∧ H' b = none := fun b hb o e => by
          have z := I'.pin (b, o) (List.mem_append_right _ (List.mem_append_right _ (mem_pinsAt hb e)))
          exact ⟨z.1, z.2.1⟩
        refine ⟨m', hm, i + 1, H', (I'.unpinned (pins := [])).weak (by rw [← hw8, wipe_length]) (fun j v e => by rw [← hw8] at e; exact (wipe_some e).1), T.keep _ _ _ st7 fun b hb o e => (pn b hb o e).1, fun b hb => ?_, w'⟩
        obtain ⟨o, e, _⟩ := T.obj _ _ st7 b hb
        exact (pn b hb o e).2
      cases b with
      | false =>
        simp only [Bool.false_eq_true, if_false] at q9 ⊢; exact next I9 q9
      | true =>
        simp only [if_true] at q9 ⊢; refine thnF (pe.run _ s9 σ8 H9 _ I9 q9) fun z s10 ⟨yv, H10, I10, r10, acc, hD10, hz10, nx⟩ => ?_
        exact app_ok (X := blkH X s3 H3 scope ce fp) I10 hD10 hz10 r10 fun s11 I11 => next I11 nx
theorem pe_lcH {elt iter : Expr} {ifs : List Expr} {scope : Scope} {own : List (Str × Nat)} {pos : Pos} {wi : TI} {g : TG} {tt : TT} {te : TE} (hc : L2H.HotC X) (hN : X.N.Nodup) (hi : L2H.PIH X tg iter wi) (ok : BlkOk X.N X.env.scope scope own)
    (hg : ∀ (s : Shared) (H : Hp) (C : Addr) (cl : List (Str × Addr)) (fp : List Addr), PG (blkH X s H scope (compEnvC scope cl C X.env) fp) tg g) (ht : ∀ (s : Shared) (H : Hp) (C : Addr) (cl : List (Str × Addr)) (fp : List Addr), PTs (blkH X s H scope (compEnvC scope cl C X.env) fp) ifs tt)
    (he : ∀ (s : Shared) (H : Hp) (C : Addr) (cl : List (Str × Addr)) (fp : List Addr), PE (blkH X s H scope (compEnvC scope cl C X.env) fp) elt te) (hs : ∀ x, foldedSetIterable iter X.env x = pure x := by intro _; rfl) :
    PE X (.ListComp elt [⟨tg, iter, ifs, 0⟩] scope pos) (tLc wi g tt te (own.map (·.2))) := by
  refine ⟨fun pins s σ H Q I h => ?_⟩
  rw [eval_ListComp]
  refine lc_hot hc hN I hi ok hs (fun s H C cl fp => ⟨hg s H C cl fp, ht s H C cl fp, he s H C cl fp⟩) h fun D C s' m H' I' q hn f => ⟨m, hn, fun h'' sb => ?_⟩
  exact ⟨.ref D, H', I'.turned (t' := s'.toks) (fun b o hb e => (sb.2 b hb).trans e) f.1 f.2.1 f.2.2.2.1 f.2.2.2.2.1 f.2.2.2.2.2, rfl, q⟩
end
end HP

set_option Elab.async false
set_option linter.all false
set_option maxRecDepth 100000
set_option maxHeartbeats 4000000
/-! own errors whose context is known to be None; defs called while they are held -/
namespace HP
open PySem PySem.Spec PyProof.Rows L2 PySem.W PySem.Calls PySem.HandSPX
section
variable {X : Cx} {p pos : Pos} {pins : List (Addr × Obj)} {σ : L2.St} {H : Hp}
theorem mkN {H1 H2 : Hp} {Q : XK} {hp hp2 h2 : Heap} {g1 g2 : Array GenState} {d1 d2 : Drawn} {t1 t2 : Nat} {os1 os2 : OsState} {a C d : Addr} {fs : List (Str × V)} (T : Raises X (.ref C)) (I1 : Inv X pins σ H1 ⟨hp, g1, d1, t1, os1⟩) (ha : hp.objs.size ≤ a) (k : ∀ b o, hp.get? b = some o → hp2.get? b = some o)
    (un : Un (frs X.stack) [] (upd H1 a (exo a C none)) H2 hp2 h2) (hok : HOk X.prog X.w H2 h2) (ho : os2 = os1) (hb : AllBare g2) (ea : H2 a = some (exo a C (some d))) (ed : H2 d = some (exd d fs)) (hd1 : H1 d = none) (q : Q (.ref C) (some d) (upd (del H2 a) d (.xd fs))) : L2N.MkP X pins σ Q (.ref a) ⟨h2, g2, d2, t2, os2⟩ := by
  obtain ⟨t0, G, J, kG, ge, hoe, na⟩ := mk_end0 (d2 := d2) (t2 := t2) I1 ha k un hok ho hb ea ed hd1
  exact ⟨a, _, _, ⟨G, g2, d2, t2, os2⟩, _, .ref C, some d, rfl, J, kG, ge, hoe, ⟨rfl, rfl, fun vs hv => by cases hv; rfl⟩, rfl, rfl, na, rfl, hb, T, q⟩
theorem pmk_oex0N {CX : CXT} {x : Str} {C fI : Addr} {k : Nat} {fd : FuncData} {ps : List Str} {sp : Sp} (T : OexC X.K C) (iC : findIn X.K (.ref C) "__init__" = some (some (.ref fI))) (tI : typeIn X.K (.ref fI) = some (.type "function"))
    (G : FnOk X.prog X.w X.K X.mg X.base CX k fI fd ps sp) (hr : Room (k + 1) X.A) (bi : Binds X.K fd ps []) (no : Passes CX X fun _ _ _ => False) (hg : Gl X x) (hm : X.mg x = some (.ref C)) (nd : (x == ("__debug__" : Str)) = false := by decide) : L2N.PMk X (.Call (.Name x p) [] [] pos) (tMkO C sp [] tNil) := by
  intro pins σ0 σ H Q I want
  rcases σ0 with ⟨h, gs, dw, ts, os⟩
  obtain ⟨_, _, _, _, bm, _, _, _, _, _, _, _, _, _, _, stands, vb⟩ := T.cls
  obtain ⟨_, ask⟩ := want
  obtain ⟨free, J⟩ := bare_inv (C := C) I
  have promise := ask (h.objs.size + 1) free
  have one : ([Value.ref (h.objs.size + 1)] : List Value).length = ps.length := (G.len _ _ _ _ promise).symm ▸ rfl
  have body := G.run (X.A.under (.builtin "type.__call__" ⟨[.ref C], []⟩)) X.stack _ _ ⟨[.ref (h.objs.size + 1)], []⟩ [.ref (h.objs.size + 1)] _ _ (fun _ _ _ => False) (hr.make C [] []) (J.env0.make C [] []) (bi _ [.ref (h.objs.size + 1)] J.kIn one) (show Vals [V.ref (h.objs.size + 1)] [Value.ref (h.objs.size + 1)] from .cons rfl .nil) promise
  refine wpAny_Call_Name_kw (ld_glob I hg hm (callWith_K0 I.kIn T.kC ?_) nd)
  refine wpAny_call (call_own (rest := []) F.excBase_ValueError (fun Y => refsVE_contains Y bm vb) (I.kIn _ _ stands) (looks_findIn I.kIn iC) (fun me => bind_fn I.kIn me tI) (Nat.zero_le _) (codeAny_mono body ?_))
  rintro (er | fl) s2 end_
  · exact no pins σ _ _ er s2 J end_
  · cases fl with
    | ret u =>
      rcases s2 with ⟨h2, gs2, dw2, ts2, os2⟩
      obtain ⟨_, H2, same, bare, un, ok2, rel, rfl, d, fs, at_a, at_d, new, q⟩ := end_
      exact ⟨rel, mkN (raises_own T.exC T.tyC) I (Nat.le_succ _) bare_grows un ok2 same bare at_a at_d new q⟩
    | next => cases end_
    | brk => cases end_
    | cont => cases end_
/-- the heap with the bare error and its arguments behind the old objects -/
def bareA (C : Addr) (us : List Value) (h : Heap) : Heap := (h.push (kdv_tup us)).push (excO C h.objs.size)
theorem bareA_grows {C : Addr} {us : List Value} {h : Heap} (b : Addr) (o : Obj) (e : h.get? b = some o) : (bareA C us h).get? b = some o := Heap.get?_push_of_some _ (Heap.get?_push_of_some _ e)
theorem bareA_there {C : Addr} {us : List Value} {h : Heap} : (bareA C us h).get? (h.objs.size + 1) = some (excO C h.objs.size) := by
  show ((h.push (kdv_tup us)).push (excO C h.objs.size)).get? (h.objs.size + 1) = _
  heap_get
theorem bareA_inv {C : Addr} {us : List Value} {st : Shared} (I : Inv X pins σ H st) : H (st.heap.objs.size + 1) = none ∧ Inv X pins σ (upd H (st.heap.objs.size + 1) (exo (st.heap.objs.size + 1) C none)) ⟨bareA C us st.heap, st.gens, st.drawn, st.toks, st.os⟩ :=
  ⟨I.hok.fresh (Nat.le_succ _), I.laid (t' := st.toks) (a := st.heap.objs.size + 1) (h' := bareA C us st.heap) (o := exo (st.heap.objs.size + 1) C none) bareA_grows (Nat.le_succ _) (exo_ok bareA_there)⟩
theorem pmk_oexN {CX : CXT} {x : Str} {e : Expr} {es : List Expr} {ta : TA} {C fI : Addr} {k : Nat} {fd : FuncData} {ps : List Str} {sp : Sp} (T : OexC X.K C) (iC : findIn X.K (.ref C) "__init__" = some (some (.ref fI))) (tI : typeIn X.K (.ref fI) = some (.type "function"))
    (G : FnOk X.prog X.w X.K X.mg X.base CX k fI fd ps sp) (hr : Room (k + 1) X.A) (bi : Binds X.K fd ps []) (_hd : Vals [] []) (no : Passes CX X fun _ _ _ => False) (hg : Gl X x) (hm : X.mg x = some (.ref C)) (ha : PA X (e :: es) ta) (nd : (x == ("__debug__" : Str)) = false := by decide)
    (he : starEach (e :: es) X.env = (false, eval e X.env) :: starEach es X.env := by rfl) (hpl : (backTo pos (starEach es X.env)).any (·.1) = false := by rfl) : L2N.PMk X (.Call (.Name x p) (e :: es) [] pos) (tMkO C sp [] ta) := by
  intro pins s σ H Q I want
  obtain ⟨_, _, _, _, bm, _, _, _, _, _, _, _, _, _, _, stands, vb⟩ := T.cls
  refine wpAny_Call_Name_kw (ld_glob I hg hm ?_ nd)
  refine callWith_K (h₀ := X.base) I.ok.mod.kin T.kC (thn (ha.run pos pins s σ H _ I want) fun us s1 ⟨vs, H1, I1, rv, few, ask⟩ => ⟨I1.kIn, ?_⟩) he hpl
  show wpAny _ _ (call (.ref C) us) _ _ _
  rcases s1 with ⟨h, gs, dw, ts, os⟩
  obtain ⟨free, J⟩ := bareA_inv (C := C) (us := us) I1
  have promise := ask (h.objs.size + 1) free
  rw [List.append_nil] at promise
  have rv2 : Vals (V.ref (h.objs.size + 1) :: vs) (Value.ref (h.objs.size + 1) :: us) := .cons rfl rv
  have one : (Value.ref (h.objs.size + 1) :: us ++ []).length = ps.length := by rw [List.append_nil, ← rv2.length]; exact G.len _ _ _ _ promise
  have few2 : us.length ≤ sizeLine := by rw [← Paired.length rv]; exact Nat.le_of_lt (AU.line (by omega))
  have bind := bi _ (Value.ref (h.objs.size + 1) :: us) J.kIn one
  rw [List.append_nil] at bind
  have body := G.run (X.A.under (.builtin "type.__call__" ⟨.ref C :: us, []⟩)) X.stack _ _ ⟨Value.ref (h.objs.size + 1) :: us, []⟩ (Value.ref (h.objs.size + 1) :: us) _ _ (fun _ _ _ => False) (hr.make C us []) (J.env0.make C us []) bind rv2 promise
  refine wpAny_call (call_own F.excBase_ValueError (fun Y => refsVE_contains Y bm vb) (I1.kIn _ _ stands) (looks_findIn I1.kIn iC) (fun me => bind_fn I1.kIn me tI) few2 (codeAny_mono body ?_))
  rintro (er | fl) s2 end_
  · exact no pins σ _ _ er s2 J end_
  · cases fl with
    | ret u =>
      rcases s2 with ⟨h2, gs2, dw2, ts2, os2⟩
      obtain ⟨_, H2, same, bare, un, ok2, rel, rfl, d, fs, at_a, at_d, new, q⟩ := end_
      exact ⟨rel, mkN (raises_own T.exC T.tyC) I1 (Nat.le_succ _) bareA_grows un ok2 same bare at_a at_d new q⟩
    | next => cases end_
    | brk => cases end_
    | cont => cases end_
end
end HP

set_option Elab.async false
set_option linter.all false
set_option maxRecDepth 100000
set_option maxHeartbeats 4000000
namespace HP
open PySem PySem.Spec PyProof.Rows L2
/-- a def called while an error is held whose context is None -/
structure FnG (P : Program) (w : World) (K : PySem.W.Frag) (mg : Str → Option Value) (base : Heap) (k : Nat) (f : Addr) (fd : FuncData) (ps : List Str) (sp : SpE) : Prop where
  len : ∀ a c d vs H Q E, sp a c d vs H Q E → vs.length = ps.length
  run : ∀ (A : Around) (outer : List Env) (s : Shared) (H : Hp) (args : Args) (us : List Value) (vs : List V) (Q : VK) (p : Addr × Obj) (c : Value) (d : Option Addr), L2H.RoomH k A → L2H.Hot1 A p → L2H.PinOk outer H s p → Zc c d p.2 → (∃ fs, p.2.data = .fields fs) →
    Env0 P w K mg base A outer s H → BindsTo s fd args (ps.zip us) → Vals vs us → sp p.1 c d vs H Q E0 → codeAny (model P w) A (.call (.ref f) args) (CR CX0 outer P w H s Q E0) s
theorem FnG.of {P : Program} {w : World} {K : PySem.W.Frag} {mg : Str → Option Value} {base : Heap} {k : Nat} {f : Addr} {fd : FuncData} {ps : List Str} {sp : SpE} (h : FnE P w K mg base k f fd ps sp) : FnG P w K mg base k f fd ps sp :=
  ⟨h.len, fun A outer s H args us vs Q p c d r _ => h.run A outer s H args us vs Q p c d r⟩
theorem fnG_of {P : Program} {w : World} {K : PySem.W.Frag} {mg : Str → Option Value} {base : Heap} {k : Nat} {x : Str} {st : Stmt} {f : Addr} {fd : FuncData} {N ps : List Str} {sp : SpE} (F : C8.Fun K x x st f fd) (S : FnScope N ps (C8.fnScope st))
    (len : ∀ a c d vs H Q E, sp a c d vs H Q E → vs.length = ps.length)
    (body : ∀ (cdv : Value) (A : Around) (outer : List Env) (s : Shared) (H : Hp) (vs : List V) (Q : VK) (p : Addr × Obj) (c : Value) (d : Option Addr), L2H.Hot1 (A.deeper (envOfC x (C8.fnScope st) s.heap.objs.size f cdv)) p → Zc c d p.2 → (∃ fs, p.2.data = .fields fs) → L2H.RoomH k (A.deeper (envOfC x (C8.fnScope st) s.heap.objs.size f cdv)) → sp p.1 c d vs H Q E0 →
      ∃ t, PSs (L2H.cxH CX0 P w K mg base N x (C8.fnScope st) f cdv A outer s H E0 p) (C8.fnBody st) t ∧ t { nx := fun _ H' => Q .non H', rt := Q } (L2.start N vs) H) :
    FnG P w K mg base (k + 1) f fd ps sp := by
  obtain ⟨oc, od, dV, kV, doc, pm, an, cdv, ct, osl, rfl, lk, hcd⟩ := F.ex
  constructor
  · exact len
  intro A outer s H args us vs Q p c d room hot pin zc fld env binds rel want
  have size := len _ _ _ _ _ _ _ want
  have old : ∀ b o, base.get? b = some o → s.heap.get? b = some o := fun b o z => (env.bs b o z).1
  have inK : K.In s.heap := env.mod.kin.keeps old
  have kinds : ∀ y ∈ ps.zip us, (C8.fnScope st).names.lookup y.1 = some .local ∨
      ((C8.fnScope st).names.lookup y.1 = some .cell ∧ ((cellsFrom (s.heap.objs.size + 1) (C8.fnScope st).names []).lookup y.1).isSome = true) := by
    intro y hy
    have my := (List.of_mem_zip (a := y.1) (b := y.2) hy).1
    exact (S.par y.1 my).imp id fun z => ⟨z, PySem.W.cellsFrom_some _ _ _ (Or.inl z)⟩
  apply codeAny_call_function room.depth (inK _ _ lk) rfl S.co S.gen rfl (PySem.W.codeRec_of inK hcd)
  apply binds
  apply wpAny_newFunctionEnv_cells S.kind kinds
  intro env1 he s1 called
  subst he
  refine ⟨(env.mod.nolimit.keeps old).keeps called.toInCall.keep, codeAny_func ?_⟩
  obtain ⟨t, ht, read⟩ := body cdv A outer s H vs Q p c d ⟨hot.1, hot.2⟩ zc fld (room.deeper _) want
  have I0 : Inv (L2H.cxH CX0 P w K mg base N x (C8.fnScope st) f cdv A outer s H E0 p) [] (L2.start N vs) H s1 := L2H.inv_startH S pin env size rel called
  refine wpAny_mono (ht.run [] s1 (L2.start N vs) H _ I0 read) (fun fl s2 q => ?_) fun _ _ q => q
  cases fl with
  | ret u =>
    obtain ⟨v, σ2, H2, J, rv, z⟩ := q
    exact ⟨v, H2, J.os, J.bare, J.base, J.hok, rv, z⟩
  | next =>
    obtain ⟨σ2, H2, J, z⟩ := q
    exact ⟨.non, H2, J.os, J.bare, J.base, J.hok, rfl, z⟩
  | brk =>
    obtain ⟨_, _, _, z⟩ := q
    exact z.elim
  | cont =>
    obtain ⟨_, _, _, z⟩ := q
    exact z.elim
/-- such a def by its name -/
def CalG (P : Program) (w : World) (K : PySem.W.Frag) (mg : Str → Option Value) (base : Heap) (k : Nat) (x : Str) (sp : SpE) : Prop :=
  ∃ f fd ps, FnG P w K mg base k f fd ps sp ∧ mg x = some (.ref f) ∧ PySem.W.keepIn K (.ref f) = true ∧ Binds K fd ps []
theorem CalG.mk {P : Program} {w : World} {K : PySem.W.Frag} {mg : Str → Option Value} {base : Heap} {k : Nat} {x : Str} {st : Stmt} {f : Addr} {fd : FuncData} {ps : List Str} {sp : SpE} (D : C8.Def K mg x st f fd) (b : Binds K fd ps []) (F : FnG P w K mg base k f fd ps sp) : CalG P w K mg base k x sp := ⟨f, fd, ps, F, D.mgf, D.kp, b⟩
theorem hu {k : Nat} {A : Around} (r : L2H.RoomH k A) : A.units + 64 < cLine := by have := r.un; omega
theorem takes0N {X : Cx} : L2N.Takes X (fun _ _ _ _ => False) := fun _ _ x => by
  obtain ⟨_, _, _, _, _, _, _, _, _, _, _, _, _, _, _, _, z⟩ := x
  exact z.elim
section
variable {X : Cx} {p : Addr × Obj} {c : Value} {d : Option Addr} {k j : Nat} {sp : SpE} {x : Str} {q pos : Pos} {e : Expr} {es : List Expr} {t : TA} {te : TE}
theorem pe_ch (F : CalG X.prog X.w X.K X.mg X.base k x sp) (hr : L2H.RoomH j X.A) (hj : k ≤ j) (hot : L2H.Hot1 X.A p) (hp : p ∈ X.pn) (zc : Zc c d p.2) (fld : ∃ fs, p.2.data = .fields fs) (hg : Gl X x)
    (ha : PA X (e :: es) t) (hdb : (x == ("__debug__" : Str)) = false := by decide) (he : starEach (e :: es) X.env = (false, eval e X.env) :: starEach es X.env := by rfl) (hpl : (backTo pos (starEach es X.env)).any (·.1) = false := by rfl) :
    PE X (.Call (.Name x q) (e :: es) [] pos) (OT.tCallE sp p.1 c d t) := by
  obtain ⟨f, fd, ps, F, hm, hk, hb⟩ := F
  constructor
  intro pins s σ H Q I want
  apply wpAny_Call_Name_kw
  refine ld_glob I hg hm ?_ hdb
  refine PySem.W.callWith_K (h₀ := X.base) I.ok.mod.kin hk (thn (ha.run pos pins s σ H _ I want) ?_) he hpl
  rintro us s1 ⟨vs, H1, J, rel, z⟩
  refine ⟨J.kIn, ?_⟩
  have size : us.length = ps.length := by
    rw [← rel.length]
    exact F.len _ _ _ _ _ _ _ z
  have bind := hb s1 us J.kIn (by rw [List.append_nil]; exact size)
  rw [List.append_nil] at bind
  obtain ⟨p1, p2, p3, p4, p5⟩ := J.pin p (List.mem_append_left _ hp)
  have pin : L2H.PinOk X.stack H1 s1 p := ⟨p1, p2, fun z => (List.mem_cons.mp (J.stkSub p.1 z)).elim p3 p4, p5⟩
  refine wpAny_call (codeAny_mono (F.run X.A X.stack s1 H1 ⟨us, []⟩ us vs Q p c d (hr.mono hj) hot pin zc fld J.env0 bind rel z) ?_)
  intro r s2 got
  cases r with
  | error er => exact got.elim
  | ok fl =>
    cases fl with
    | ret u => exact J.after got
    | next => exact got.elim
    | brk => exact got.elim
    | cont => exact got.elim
/-- in an except suite -/
theorem pe_chs {a : Addr} {oe : Obj} {cls : Value} {pn : List (Addr × Obj)} (F : CalG X.prog X.w X.K X.mg X.base k x sp) (hr : Room j X.A) (hj : k ≤ j) (hz : L2N.Zn cls d oe) (hf : ∃ fs, oe.data = .fields fs) (hg : Gl (X.suite a ((a, oe) :: pn)) x)
    (ha : PA (X.suite a ((a, oe) :: pn)) (e :: es) t) (hdb : (x == ("__debug__" : Str)) = false := by decide) (he : starEach (e :: es) X.env = (false, eval e X.env) :: starEach es X.env := by rfl) (hpl : (backTo pos (starEach es X.env)).any (·.1) = false := by rfl) :
    PE (X.suite a ((a, oe) :: pn)) (.Call (.Name x q) (e :: es) [] pos) (OT.tCallE sp a cls d t) := by
  obtain ⟨vs, hv⟩ := hf
  exact pe_ch (X := X.suite a ((a, oe) :: pn)) (p := (a, oe)) F (OT.roomH_m hr) hj ⟨rfl, vs, hv, hz.2.2 vs hv⟩ List.mem_cons_self hz.zc ⟨vs, hv⟩ hg ha hdb he hpl
end
end HP

set_option Elab.async false
set_option linter.all false
set_option maxRecDepth 100000
set_option maxHeartbeats 2000000
/-! zip(*xs) of any number of tuples of one length; the target a name -/
namespace OZ
open PySem
open PySem.Sem (wp)
theorem tc (args : List Value) : checkTypeCall "zip" ⟨args, []⟩ = pure () := by kernel_rfl
theorem nc (a : Value) (args : List Value) : checkBuiltinCall "zip.__new__" ⟨.type "zip" :: a :: args, []⟩ = pure () := by kernel_rfl
theorem oi (args : List Value) : argsOk "object.__init__" ⟨args, []⟩ := by
  unfold argsOk; rw [signature?_of (id := "object.__init__") (n := ['_', '_', 't', 'i', 'n', 'i', '_', '_']) (o := ['t', 'c', 'e', 'j', 'b', 'o']) (by kernel_rfl) F.owner_object]; kernel_rfl
abbrev IsZipF (h : Heap) (z TI TO : Addr) (f0 f1 : Value) : Prop :=
  h.get? z = some { cls := .type "zip", dict := none, data := .fields #[f0, f1, .bool false, .ref TI, .ref TO], slots := #[] }
abbrev IsTup (h : Heap) (T : Addr) (vs : List Value) : Prop := h.get? T = some { cls := .type "tuple", data := .seq vs.toArray }
structure ZAp (z TI TO : Addr) (its as : List Addr) : Prop where
  TIz : TI ≠ z
  TOz : TO ≠ z
  TITO : TI ≠ TO
  zi : z ∉ its
  TIi : TI ∉ its
  TOi : TO ∉ its
  nd : its.Nodup
  za : z ∉ as
  TOa : TO ∉ as
  ia : ∀ t ∈ its, t ∉ as
  len : its.length = as.length
section
variable {prog : Program} {w : World} {A : Around} {E : Value → Shared → Prop} {s : Shared}
theorem wp_forIn {M : Model} {α β : Type} {l : List α} {f : α → β → Sem (ForInStep β)} {Q : β → Shared → Prop} (I : Nat → β → Shared → Prop)
    (step : ∀ i x b s, l[i]? = some x → I i b s → wpAny M A (f x b) (fun r s' => ∃ b', r = .yield b' ∧ I (i + 1) b' s') E s)
    (hend : ∀ b s, I l.length b s → Q b s) {b : β} (h0 : I 0 b s) : wpAny M A (forIn l b f) Q E s := by
  have key : ∀ n i b s, n + i = l.length → I i b s → wpAny M A (forIn (l.drop i) b f) Q E s := by
    intro n
    induction n with
    | zero =>
      intro i b s hn hI
      rw [List.drop_eq_nil_of_le (by omega)]
      have : i = l.length := by omega
      subst this
      rw [List.forIn_nil]
      exact wpAny_pure (hend b s hI)
    | succ n ih =>
      intro i b s hn hI
      have hi : i < l.length := by omega
      rw [List.drop_eq_getElem_cons hi, List.forIn_cons]
      refine wpAny_bind (wpAny_mono (step i _ b s (List.getElem?_eq_getElem hi) hI) (fun r s' h => ?_) fun _ _ x => x)
      obtain ⟨b', rfl, h⟩ := h
      exact ih (i + 1) b' s' (by omega) h
  have := key l.length 0 b s (by omega) h0
  rwa [List.drop_zero] at this
/-- what all objects but the zip's own keep -/
abbrev Kp (z TO : Addr) (its : List Addr) (h h' : Heap) : Prop := ∀ c o, c ≠ z → c ≠ TO → c ∉ its → h.get? c = some o → h'.get? c = some o
structure Lp (h0 : Heap) (z TI TO : Addr) (its as : List Addr) (ys : List Value) (i : Nat) (f1 : Value) (j : Nat) (h : Heap) (us : List Value) : Prop where
  zz : IsZipF h z TI TO .ellipsis f1
  tt : IsTup h TO us
  len : us.length = its.length
  y : ∀ m < j, us[m]? = ys[m]?
  it : ∀ (m : Nat) (t a : Addr), its[m]? = some t → as[m]? = some a → h.IsTupleIter t a (if m < j then i + 1 else i)
  sz : h.objs.size = h0.objs.size
  k : Kp z TO its h0 h
theorem next_free {z TI TO : Addr} {its as : List Addr} {i : Nat} {f1 : Value} {vs ys : List Value} {Q : Value → Shared → Prop} (D : ZAp z TI TO its as) (hk : its ≠ []) (hz8 : its.length ≤ 100000)
    (free : ∀ R : Bool → Shared → Prop, R true s → wpAny (model prog w) A (Builtin.SmallTypes.ownedTupleIsFree (.ref z)) R E s)
    {f0 : Value} (hz : IsZipF s.heap z TI TO f0 f1) (hTI : IsTup s.heap TI (its.map Value.ref)) (hTO : IsTup s.heap TO vs) (hv : vs.length = its.length)
    (hit : ∀ (j : Nat) (t a : Addr), its[j]? = some t → as[j]? = some a → s.heap.IsTupleIter t a i) (hy : ys.length = its.length)
    (hit2 : ∀ (j : Nat) (a : Addr), as[j]? = some a → ∃ items, s.heap.IsTuple a items ∧ items[i]? = ys[j]?)
    (hQ : ∀ h', IsZipF h' z TI TO (rawInt s.heap.objs.size) (.bool false) → IsTup h' TI (its.map Value.ref) → IsTup h' TO ys → (∀ (j : Nat) (t a : Addr), its[j]? = some t → as[j]? = some a → h'.IsTupleIter t a (i + 1)) → IsTup h' s.heap.objs.size ys → h'.objs.size = s.heap.objs.size + 1 →
      Kp z TO its s.heap h' → Q (.ref s.heap.objs.size) { s with heap := h' }) :
    wpAny (model prog w) A (Builtin.«zip.__next__» ⟨[.ref z], []⟩) (fun fin s' => ∃ v, fin = .done (.ret v) ∧ Q v s') E s := by
  show wpAny _ _ (field (.ref z) 2 >>= _) _ _ _
  refine wpAny_bind (wpAny_field hz rfl (x := .bool false) rfl ?_)
  show wpAny _ _ (field (.ref z) 3 >>= _) _ _ _
  refine wpAny_bind (wpAny_field hz rfl (x := .ref TI) rfl ?_)
  refine wpAny_bind (wpAny_seqItems hTI rfl ?_)
  have hne : (its.map Value.ref).toArray.isEmpty = false := by
    cases its with
    | nil => exact absurd rfl hk
    | cons x r => rfl
  simp only [hne, Bool.false_eq_true, if_false]
  refine wpAny_bind (free _ ?_)
  simp only [if_true]
  refine wpAny_bind (wpAny_rule ?_)
  refine wpAny_bind (wpAny_field hz rfl (x := .ref TO) rfl ?_)
  refine wpAny_bind (wpAny_setField_rec hz (by simp) fun h₁ hz₁ hs₁ => ?_)
  replace hz₁ : IsZipF h₁ z TI TO .ellipsis f1 := hz₁
  have hsz1 : h₁.objs.size = s.heap.objs.size := hs₁.1
  refine wpAny_bind (wp_forIn (fun j b s' => b = (none, PUnit.unit) ∧ ∃ h' us, s' = { s with heap := h' } ∧ Lp s.heap z TI TO its as ys i f1 j h' us) ?_ ?_ ?_)
  · rintro j ⟨v, jj⟩ b s' hx ⟨rfl, h', us, rfl, L⟩
    rw [List.getElem?_zipIdx, List.getElem?_map] at hx
    obtain ⟨t, ht, hx⟩ : ∃ t, its[j]? = some t ∧ (Value.ref t, 0 + j) = (v, jj) := by
      cases e : its[j]? with
      | none => rw [e] at hx; cases hx
      | some t => rw [e] at hx; exact ⟨t, rfl, Option.some.inj hx⟩
    cases hx
    have hj : j < its.length := (List.getElem?_eq_some_iff.mp ht).1
    have hja : j < as.length := by rw [← D.len]; exact hj
    have ha : as[j]? = some as[j] := List.getElem?_eq_getElem hja
    have htm : t ∈ its := List.mem_of_getElem? ht
    have ham : as[j] ∈ as := List.getElem_mem hja
    obtain ⟨items, hI, hyj⟩ := hit2 j _ ha
    have hjy : j < ys.length := by rw [hy]; exact hj
    rw [List.getElem?_eq_getElem hjy] at hyj
    have hIt := L.it j t _ ht ha
    rw [if_neg (Nat.lt_irrefl j)] at hIt
    have hI' : h'.IsTuple as[j] items := by
      obtain ⟨o, ho, r⟩ := hI
      exact ⟨o, L.k _ _ (fun z => D.za (z ▸ ham)) (fun z => D.TOa (z ▸ ham)) (fun z => D.ia _ z ham) ho, r⟩
    refine wpAny_bind (wpAny_onRaise ?_)
    show wpAny _ _ (Builtin.SmallTypes.nextOf (.ref t) >>= _) _ _ _
    refine wpAny_bind (RZ.nextOf_tuple_item (s := { s with heap := h' }) hIt hI' hyj fun h₂ h1₂ hs₂ => wpAny_pure ?_)
    have tTO : t ≠ TO := fun z => D.TOi (z ▸ htm)
    have tz : t ≠ z := fun z => D.zi (z ▸ htm)
    have hTO₂ : IsTup h₂ TO us := hs₂.extBut _ _ tTO.symm L.tt
    refine wpAny_bind (wpAny_seqItems hTO₂ rfl ?_)
    refine wpAny_bind (wpAny_updateSeq hTO₂ rfl ?_ (by show us.toArray.size ≤ sizeLine; rw [List.size_toArray, L.len]; exact Nat.le_trans hz8 (by decide)) (by show (us.toArray.setIfInBounds _ _).size ≤ sizeLine + 1; rw [Array.size_setIfInBounds, List.size_toArray, L.len]; exact Nat.le_trans hz8 (by decide)))
    have hs₃ : Heap.SameBut TO h₂ (h₂.update TO (Obj.mapSeq (·.setIfInBounds (0 + j) ys[j]))) := Heap.SameBut.update ..
    have hTO₃ : IsTup (h₂.update TO (Obj.mapSeq (·.setIfInBounds (0 + j) ys[j]))) TO (us.set j ys[j]) := by
      show (h₂.update TO (Obj.mapSeq (·.setIfInBounds (0 + j) ys[j]))).get? TO = _
      rw [Heap.get?_update_self _ hTO₂ rfl]
      simp [Obj.mapSeq]
    generalize h₂.update TO (Obj.mapSeq (·.setIfInBounds (0 + j) ys[j])) = h₃ at hs₃ hTO₃ ⊢
    refine wpAny_bind (wpAny_letGo (wpAny_pure ⟨_, rfl, rfl, h₃, us.set j ys[j], rfl, ?_⟩))
    refine ⟨hs₃.extBut _ _ D.TOz.symm (hs₂.extBut _ _ tz.symm L.zz), hTO₃, by rw [List.length_set]; exact L.len, fun m hm => ?_, fun m t' a' h1 h2 => ?_, by rw [hs₃.1, hs₂.1]; exact L.sz, fun c o c1 c2 c3 e => hs₃.extBut _ _ c2 (hs₂.extBut _ _ (fun z => c3 (z ▸ htm)) (L.k c o c1 c2 c3 e))⟩
    · by_cases e : m = j
      · subst e
        rw [List.getElem?_set_self (by rw [L.len]; exact hj), List.getElem?_eq_getElem hjy]
      · rw [List.getElem?_set_ne (fun z => e z.symm)]
        exact L.y m (by omega)
    · by_cases e : m = j
      · subst e
        rw [ht] at h1
        cases h1
        rw [ha] at h2
        cases h2
        rw [if_pos (Nat.lt_succ_self _)]
        exact h1₂.extBut hs₃.extBut tTO
      · have hne2 : t' ≠ t := fun z => by
          subst z
          have q1 := (List.getElem?_eq_some_iff.mp h1)
          have q2 := (List.getElem?_eq_some_iff.mp ht)
          obtain ⟨b1, e1⟩ := q1
          obtain ⟨b2, e2⟩ := q2
          exact e ((List.getElem_inj D.nd).mp (e1.trans e2.symm))
        have q := L.it m t' a' h1 h2
        have tm' : t' ∈ its := List.mem_of_getElem? h1
        have q2 := (q.extBut hs₂.extBut hne2).extBut hs₃.extBut (fun z => D.TOi (z ▸ tm'))
        by_cases c : m < j
        · rw [if_pos c] at q2
          rw [if_pos (by omega)]
          exact q2
        · rw [if_neg c] at q2
          rw [if_neg (by omega)]
          exact q2
  · rintro b s' ⟨rfl, h₅, us, rfl, L⟩
    have hus : us = ys := by
      have hn : ((List.map Value.ref its).zipIdx).length = its.length := by rw [List.length_zipIdx, List.length_map]
      rw [hn] at L
      refine List.ext_getElem? fun m => ?_
      by_cases hm : m < its.length
      · exact L.y m hm
      · rw [List.getElem?_eq_none (by rw [L.len]; omega), List.getElem?_eq_none (by rw [hy]; omega)]
    subst hus
    refine wpAny_bind (wpAny_seqItems L.tt rfl ?_)
    have hla : us.toArray.toList = us := by simp
    refine wpAny_bind (wpAny_newTuple ?_ (by rw [hla, hy]; exact Nat.le_trans hz8 (by decide)))
    have hz₅ := L.zz
    have hzlt : z < h₅.objs.size := Heap.lt_size hz₅
    have hsz : h₅.objs.size = s.heap.objs.size := L.sz
    show wpAny _ _ (Builtin.SmallTypes.ownedTupleHandOut (.ref z) (.ref h₅.objs.size) >>= _) _ _ _
    refine wpAny_bind ?_
    unfold Builtin.SmallTypes.ownedTupleHandOut
    have hz₆ : IsZipF (h₅.push { cls := .type "tuple", data := .seq us.toArray.toList.toArray }) z TI TO .ellipsis f1 := Heap.get?_push_of_some _ hz₅
    refine wpAny_bind (wpAny_setField_rec hz₆ (by simp) fun h₇ hz₇ hs₇ => ?_)
    replace hz₇ : IsZipF h₇ z TI TO (rawInt h₅.objs.size) f1 := hz₇
    refine wpAny_setField_rec hz₇ (by simp) fun h₈ hz₈ hs₈ => ?_
    replace hz₈ : IsZipF h₈ z TI TO (rawInt h₅.objs.size) (.bool false) := hz₈
    have up : ∀ c o, c ≠ z → h₅.get? c = some o → h₈.get? c = some o := fun c o c1 e => hs₈.extBut _ _ c1 (hs₇.extBut _ _ c1 (Heap.get?_push_of_some _ e))
    have hT₈ : IsTup h₈ h₅.objs.size us := by
      have q : IsTup (h₅.push { cls := .type "tuple", data := .seq us.toArray.toList.toArray }) h₅.objs.size us := by
        have q2 : (h₅.push { cls := .type "tuple", data := .seq us.toArray.toList.toArray }).get? h₅.objs.size = some { cls := .type "tuple", data := .seq us.toArray.toList.toArray } := Heap.get?_push_size _ rfl
        rw [hla] at q2 ⊢
        exact q2
      exact hs₈.extBut _ _ (Nat.ne_of_gt hzlt) (hs₇.extBut _ _ (Nat.ne_of_gt hzlt) q)
    have hz8' : h₈.objs.size = h₅.objs.size + 1 := by rw [hs₈.1, hs₇.1, Heap.size_push]
    rw [hsz] at hz₈ hT₈ hz8'
    refine wpAny_pure ⟨_, rfl, ?_⟩
    show Q (.ref h₅.objs.size) _
    rw [hsz]
    have hn : ((List.map Value.ref its).zipIdx).length = its.length := by rw [List.length_zipIdx, List.length_map]
    rw [hn] at L
    refine hQ h₈ hz₈ (up _ _ D.TIz (L.k _ _ D.TIz D.TITO D.TIi hTI)) (up _ _ D.TOz L.tt) (fun j t a h1 h2 => ?_) hT₈ hz8' fun c o c1 c2 c3 e => up c o c1 (L.k c o c1 c2 c3 e)
    have q := L.it j t a h1 h2
    rw [if_pos (List.getElem?_eq_some_iff.mp h1).1] at q
    exact q.at fun o e => up _ o (fun z => D.zi (z ▸ List.mem_of_getElem? h1)) e
  · refine ⟨rfl, h₁, vs, rfl, hz₁, hs₁.extBut _ _ D.TOz hTO, hv, fun m hm => absurd hm (Nat.not_lt_zero _), fun m t a h1 h2 => ?_, hsz1, fun c o c1 _ _ e => hs₁.extBut _ _ c1 e⟩
    rw [if_neg (Nat.not_lt_zero _)]
    exact (hit m t a h1 h2).extBut hs₁.extBut (fun z => D.zi (z ▸ List.mem_of_getElem? h1))
structure Lh (h0 : Heap) (z TI TO : Addr) (its as : List Addr) (i : Nat) (f0 f1 : Value) (j : Nat) (h : Heap) : Prop where
  zz : IsZipF h z TI TO f0 f1
  it : ∀ (m : Nat) (t a : Addr), its[m]? = some t → as[m]? = some a → h.IsTupleIter t a (if m < j then i + 1 else i)
  sz : h.objs.size = h0.objs.size
  k : ∀ c o, c ≠ z → c ∉ its → h0.get? c = some o → h.get? c = some o
theorem next_held {z TI TO : Addr} {its as : List Addr} {i : Nat} {f0 f1 : Value} {ys : List Value} {Q : Value → Shared → Prop} (D : ZAp z TI TO its as) (hk : its ≠ []) (hz8 : its.length ≤ 100000)
    (hz : IsZipF s.heap z TI TO f0 f1)
    (held : ∀ R : Bool → Shared → Prop, (∀ h', IsZipF h' z TI TO f0 (.bool true) → Heap.SameBut z s.heap h' → R false { s with heap := h' }) → wpAny (model prog w) A (Builtin.SmallTypes.ownedTupleIsFree (.ref z)) R E s)
    (hTI : IsTup s.heap TI (its.map Value.ref))
    (hit : ∀ (j : Nat) (t a : Addr), its[j]? = some t → as[j]? = some a → s.heap.IsTupleIter t a i) (hy : ys.length = its.length)
    (hit2 : ∀ (j : Nat) (a : Addr), as[j]? = some a → ∃ items, s.heap.IsTuple a items ∧ items[i]? = ys[j]?)
    (hQ : ∀ h', IsZipF h' z TI TO f0 (.bool true) → (∀ (j : Nat) (t a : Addr), its[j]? = some t → as[j]? = some a → h'.IsTupleIter t a (i + 1)) → IsTup h' s.heap.objs.size ys → h'.objs.size = s.heap.objs.size + 1 →
      (∀ c o, c ≠ z → c ∉ its → s.heap.get? c = some o → h'.get? c = some o) → Q (.ref s.heap.objs.size) { s with heap := h' }) :
    wpAny (model prog w) A (Builtin.«zip.__next__» ⟨[.ref z], []⟩) (fun fin s' => ∃ v, fin = .done (.ret v) ∧ Q v s') E s := by
  show wpAny _ _ (field (.ref z) 2 >>= _) _ _ _
  refine wpAny_bind (wpAny_field hz rfl (x := .bool false) rfl ?_)
  show wpAny _ _ (field (.ref z) 3 >>= _) _ _ _
  refine wpAny_bind (wpAny_field hz rfl (x := .ref TI) rfl ?_)
  refine wpAny_bind (wpAny_seqItems hTI rfl ?_)
  have hne : (its.map Value.ref).toArray.isEmpty = false := by
    cases its with
    | nil => exact absurd rfl hk
    | cons x r => rfl
  simp only [hne, Bool.false_eq_true, if_false]
  refine wpAny_bind (held _ fun h₁ hz₁ hs₁ => ?_)
  simp only [Bool.false_eq_true, if_false]
  refine wpAny_bind ?_
  rw [← Array.forIn_toList]
  refine wp_forIn (fun j b s' => b = (none, (ys.take j).toArray) ∧ ∃ h', s' = { s with heap := h' } ∧ Lh s.heap z TI TO its as i f0 (.bool true) j h') ?_ ?_ ?_
  · rintro j v b s' hx ⟨rfl, h', rfl, L⟩
    have hx : (its.map Value.ref)[j]? = some v := hx
    rw [List.getElem?_map] at hx
    obtain ⟨t, ht, rfl⟩ : ∃ t, its[j]? = some t ∧ Value.ref t = v := by
      cases e : its[j]? with
      | none => rw [e] at hx; cases hx
      | some t => rw [e] at hx; exact ⟨t, rfl, Option.some.inj hx⟩
    have hj : j < its.length := (List.getElem?_eq_some_iff.mp ht).1
    have hja : j < as.length := by rw [← D.len]; exact hj
    have ha : as[j]? = some as[j] := List.getElem?_eq_getElem hja
    have htm : t ∈ its := List.mem_of_getElem? ht
    have ham : as[j] ∈ as := List.getElem_mem hja
    obtain ⟨items, hI, hyj⟩ := hit2 j _ ha
    have hjy : j < ys.length := by rw [hy]; exact hj
    rw [List.getElem?_eq_getElem hjy] at hyj
    have hIt := L.it j t _ ht ha
    rw [if_neg (Nat.lt_irrefl j)] at hIt
    have hI' : h'.IsTuple as[j] items := by
      obtain ⟨o, ho, r⟩ := hI
      exact ⟨o, L.k _ _ (fun z => D.za (z ▸ ham)) (fun z => D.ia _ z ham) ho, r⟩
    refine wpAny_bind (wpAny_holding ?_)
    show wpAny _ _ (Builtin.SmallTypes.nextOf (.ref t) >>= _) _ _ _
    refine wpAny_bind (RZ.nextOf_tuple_item (s := { s with heap := h' }) hIt hI' hyj fun h₂ h1₂ hs₂ => wpAny_pure ?_)
    have tz : t ≠ z := fun z => D.zi (z ▸ htm)
    refine wpAny_pure ⟨_, rfl, ?_, h₂, rfl, ?_⟩
    · show (none, (ys.take j).toArray.push ys[j]) = _
      rw [List.take_add_one, List.getElem?_eq_getElem hjy]
      simp
    refine ⟨hs₂.extBut _ _ tz.symm L.zz, fun m t' a' h1 h2 => ?_, by rw [hs₂.1]; exact L.sz, fun c o c1 c3 e => hs₂.extBut _ _ (fun z => c3 (z ▸ htm)) (L.k c o c1 c3 e)⟩
    by_cases e : m = j
    · subst e
      rw [ht] at h1
      cases h1
      rw [ha] at h2
      cases h2
      rw [if_pos (Nat.lt_succ_self _)]
      exact h1₂
    · have hne2 : t' ≠ t := fun z => by
        subst z
        have q1 := (List.getElem?_eq_some_iff.mp h1)
        have q2 := (List.getElem?_eq_some_iff.mp ht)
        obtain ⟨b1, e1⟩ := q1
        obtain ⟨b2, e2⟩ := q2
        exact e ((List.getElem_inj D.nd).mp (e1.trans e2.symm))
      have q2 := (L.it m t' a' h1 h2).extBut hs₂.extBut hne2
      by_cases c : m < j
      · rw [if_pos c] at q2
        rw [if_pos (by omega)]
        exact q2
      · rw [if_neg c] at q2
        rw [if_neg (by omega)]
        exact q2
  · rintro b s' ⟨rfl, h₅, rfl, L⟩
    have hn : (List.map Value.ref its).toArray.toList.length = ys.length := by
      show (List.map Value.ref its).length = _
      rw [List.length_map, hy]
    rw [hn, List.take_length]
    have hla : ys.toArray.toList = ys := by simp
    show wpAny _ _ (newTuple ys.toArray.toList >>= _) _ _ _
    refine wpAny_bind (wpAny_newTuple ?_ (by rw [hla, hy]; exact Nat.le_trans hz8 (by decide)))
    have hsz : h₅.objs.size = s.heap.objs.size := L.sz
    have hT : IsTup (h₅.push { cls := .type "tuple", data := .seq ys.toArray.toList.toArray }) h₅.objs.size ys := by
      have q2 : (h₅.push { cls := .type "tuple", data := .seq ys.toArray.toList.toArray }).get? h₅.objs.size = some { cls := .type "tuple", data := .seq ys.toArray.toList.toArray } := Heap.get?_push_size _ rfl
      rw [hla] at q2 ⊢
      exact q2
    have hz8' : (h₅.push { cls := .type "tuple", data := .seq ys.toArray.toList.toArray }).objs.size = h₅.objs.size + 1 := Heap.size_push ..
    refine wpAny_pure ⟨_, rfl, ?_⟩
    show Q (.ref h₅.objs.size) _
    rw [hn] at L
    rw [hsz] at hT hz8' ⊢
    refine hQ _ (Heap.get?_push_of_some _ L.zz) (fun j t a h1 h2 => ?_) hT hz8' fun c o c1 c3 e => Heap.get?_push_of_some _ (L.k c o c1 c3 e)
    have q := L.it j t a h1 h2
    rw [if_pos (by rw [hy]; exact (List.getElem?_eq_some_iff.mp h1).1)] at q
    exact q.at fun o e => Heap.get?_push_of_some _ e
  · refine ⟨rfl, h₁, rfl, hz₁, fun m t a h1 h2 => ?_, hs₁.1, fun c o c1 _ e => hs₁.extBut _ _ c1 e⟩
    rw [if_neg (Nat.not_lt_zero _)]
    exact (hit m t a h1 h2).extBut hs₁.extBut (fun z => D.zi (z ▸ List.mem_of_getElem? h1))
theorem end_free {z TI TO t a0 : Addr} {its as : List Addr} {i : Nat} {f0 f1 : Value} {items : Array Value} {Q : Fin → Shared → Prop} (hh : A.handled = none) (D : ZAp z TI TO (t :: its) (a0 :: as))
    (free : ∀ R : Bool → Shared → Prop, R true s → wpAny (model prog w) A (Builtin.SmallTypes.ownedTupleIsFree (.ref z)) R E s)
    (hz : IsZipF s.heap z TI TO f0 f1) (hTI : IsTup s.heap TI ((t :: its).map Value.ref))
    (hit : s.heap.IsTupleIter t a0 i) (hI : s.heap.IsTuple a0 items) (hx : items[i]? = none)
    (hE : ∀ h' e, (∀ c o, c ≠ z → c ≠ t → s.heap.get? c = some o → h'.get? c = some o) → (∃ o, h'.get? e = some o ∧ o.cls = .type "StopIteration") → E (.ref e) { s with heap := h' })
    (hTO : ∃ us, IsTup s.heap TO us) :
    wpAny (model prog w) A (Builtin.«zip.__next__» ⟨[.ref z], []⟩) Q E s := by
  obtain ⟨us, hTO⟩ := hTO
  show wpAny _ _ (field (.ref z) 2 >>= _) _ _ _
  refine wpAny_bind (wpAny_field hz rfl (x := .bool false) rfl ?_)
  show wpAny _ _ (field (.ref z) 3 >>= _) _ _ _
  refine wpAny_bind (wpAny_field hz rfl (x := .ref TI) rfl ?_)
  refine wpAny_bind (wpAny_seqItems hTI rfl ?_)
  have hne : ((t :: its).map Value.ref).toArray.isEmpty = false := rfl
  simp only [hne, Bool.false_eq_true, if_false]
  refine wpAny_bind (free _ ?_)
  simp only [if_true]
  refine wpAny_bind (wpAny_rule ?_)
  refine wpAny_bind (wpAny_field hz rfl (x := .ref TO) rfl ?_)
  refine wpAny_bind (wpAny_setField_rec hz (by simp) fun h₁ hz₁ hs₁ => ?_)
  replace hz₁ : IsZipF h₁ z TI TO .ellipsis f1 := hz₁
  refine wpAny_bind ?_
  simp only [List.map_cons, List.zipIdx_cons, List.forIn_cons]
  refine wpAny_bind (wpAny_bind (wpAny_onRaise ?_))
  show wpAny _ _ (Builtin.SmallTypes.nextOf (.ref t) >>= _) _ _ _
  have tz : t ≠ z := fun q => D.zi (q ▸ List.mem_cons_self)
  have az : a0 ≠ z := fun q => D.za (q ▸ List.mem_cons_self)
  have hI1 : h₁.IsTuple a0 items := hI.extBut hs₁.extBut az
  refine wpAny_bind (RZ.nextOf_tuple_end (s := { s with heap := h₁ }) hh (hit.extBut hs₁.extBut tz) hI1 hx fun h₂ e hs₂ he => ?_)
  obtain ⟨oe, hoe, hce⟩ := he
  have hz₂ : IsZipF h₂ z TI TO .ellipsis f1 := hs₂ _ _ tz.symm hz₁
  have hez : e ≠ z := fun x => by subst x; rw [hz₂] at hoe; cases hoe; simp at hce
  refine wpAny_setField_rec hz₂ (by simp) fun h₃ _ hs₃ => hE h₃ e (fun c o c1 c3 x => hs₃.extBut _ _ c1 (hs₂ _ _ c3 (hs₁.extBut _ _ c1 x))) ⟨oe, hs₃.extBut _ _ hez hoe, hce⟩
theorem end_held {z TI TO t a0 : Addr} {its as : List Addr} {i : Nat} {f0 f1 : Value} {items : Array Value} {Q : Fin → Shared → Prop} (hh : A.handled = none) (D : ZAp z TI TO (t :: its) (a0 :: as))
    (hz : IsZipF s.heap z TI TO f0 f1)
    (held : ∀ R : Bool → Shared → Prop, (∀ h', IsZipF h' z TI TO f0 (.bool true) → Heap.SameBut z s.heap h' → R false { s with heap := h' }) → wpAny (model prog w) A (Builtin.SmallTypes.ownedTupleIsFree (.ref z)) R E s)
    (hTI : IsTup s.heap TI ((t :: its).map Value.ref))
    (hit : s.heap.IsTupleIter t a0 i) (hI : s.heap.IsTuple a0 items) (hx : items[i]? = none)
    (hE : ∀ h' e, (∀ c o, c ≠ z → c ≠ t → s.heap.get? c = some o → h'.get? c = some o) → (∃ o, h'.get? e = some o ∧ o.cls = .type "StopIteration") → E (.ref e) { s with heap := h' }) :
    wpAny (model prog w) A (Builtin.«zip.__next__» ⟨[.ref z], []⟩) Q E s := by
  show wpAny _ _ (field (.ref z) 2 >>= _) _ _ _
  refine wpAny_bind (wpAny_field hz rfl (x := .bool false) rfl ?_)
  show wpAny _ _ (field (.ref z) 3 >>= _) _ _ _
  refine wpAny_bind (wpAny_field hz rfl (x := .ref TI) rfl ?_)
  refine wpAny_bind (wpAny_seqItems hTI rfl ?_)
  have hne : ((t :: its).map Value.ref).toArray.isEmpty = false := rfl
  simp only [hne, Bool.false_eq_true, if_false]
  refine wpAny_bind (held _ fun h₁ hz₁ hs₁ => ?_)
  simp only [Bool.false_eq_true, if_false]
  refine wpAny_bind ?_
  rw [← Array.forIn_toList]
  simp only [List.map_cons, List.forIn_cons]
  refine wpAny_bind (wpAny_bind (wpAny_holding ?_))
  show wpAny _ _ (Builtin.SmallTypes.nextOf (.ref t) >>= _) _ _ _
  have tz : t ≠ z := fun q => D.zi (q ▸ List.mem_cons_self)
  have az : a0 ≠ z := fun q => D.za (q ▸ List.mem_cons_self)
  have hI1 : h₁.IsTuple a0 items := hI.extBut hs₁.extBut az
  refine wpAny_bind (RZ.nextOf_tuple_end (s := { s with heap := h₁ }) hh (hit.extBut hs₁.extBut tz) hI1 hx fun h₂ e hs₂ he => ?_)
  exact hE h₂ e (fun c o c1 c3 x => hs₂ _ _ c3 (hs₁.extBut _ _ c1 x)) he
/-- the zip at turn i -/
structure ZSt (h : Heap) (z TI TO : Addr) (its as : List Addr) (i : Nat) : Prop where
  zz : ∃ f0 f1, IsZipF h z TI TO f0 f1 ∧ (f0 = .none ∨ ∃ T : Addr, f0 = rawInt T) ∧ ∃ b, f1 = .bool b
  ti : IsTup h TI (its.map Value.ref)
  tt : ∃ us, us.length = its.length ∧ IsTup h TO us
  it : ∀ (j : Nat) (t a : Addr), its[j]? = some t → as[j]? = some a → h.IsTupleIter t a i
theorem alive_is {a : Addr} {Q : Option Obj → Shared → Prop} (h : Q (s.heap.get? a) s) : wpAny (model prog w) A (loadIfAlive a) Q E s := fun _ _ _ => h
/-- free or held -/
theorem asked {z TI TO : Addr} {f0 f1 : Value} (hz : IsZipF s.heap z TI TO f0 f1) (h0 : f0 = .none ∨ ∃ T : Addr, f0 = rawInt T) (h1 : ∃ b, f1 = .bool b) :
    (∀ R : Bool → Shared → Prop, R true s → wpAny (model prog w) A (Builtin.SmallTypes.ownedTupleIsFree (.ref z)) R E s) ∨
    (∀ R : Bool → Shared → Prop, (∀ h', IsZipF h' z TI TO f0 (.bool true) → Heap.SameBut z s.heap h' → R false { s with heap := h' }) → wpAny (model prog w) A (Builtin.SmallTypes.ownedTupleIsFree (.ref z)) R E s) := by
  obtain ⟨b, rfl⟩ := h1
  rcases h0 with rfl | ⟨T, rfl⟩
  · left
    intro R h
    unfold Builtin.SmallTypes.ownedTupleIsFree
    exact wpAny_bind (wpAny_field hz rfl (x := .none) rfl (wpAny_pure h))
  · cases hT : s.heap.get? T with
    | none =>
      left
      intro R h
      unfold Builtin.SmallTypes.ownedTupleIsFree
      refine wpAny_bind (wpAny_field hz rfl (x := rawInt T) rfl ?_)
      show wpAny _ _ (loadIfAlive ((T : Int).toNat) >>= _) _ _ _
      rw [Int.toNat_natCast]
      refine wpAny_bind (alive_is ?_)
      rw [hT]
      simp only [Option.isNone_none, if_true]
      exact wpAny_pure h
    | some o =>
      right
      intro R h
      unfold Builtin.SmallTypes.ownedTupleIsFree
      refine wpAny_bind (wpAny_field hz rfl (x := rawInt T) rfl ?_)
      show wpAny _ _ (loadIfAlive ((T : Int).toNat) >>= _) _ _ _
      rw [Int.toNat_natCast]
      refine wpAny_bind (alive_is ?_)
      rw [hT]
      simp only [Option.isNone_some, Bool.false_eq_true, if_false]
      refine wpAny_bind (wpAny_field hz rfl (x := .bool b) rfl ?_)
      cases b with
      | true =>
        rw [if_neg (show ¬ ((Value.bool true != Value.bool true) = true) from Bool.false_ne_true)]
        exact wpAny_pure (h s.heap hz (Heap.SameBut.refl _ _))
      | false =>
        rw [if_pos (show (Value.bool false != Value.bool true) = true from rfl)]
        exact wpAny_bind (wpAny_setField_rec hz (by simp) fun h₁ hz₁ hs₁ => wpAny_pure (h h₁ hz₁ hs₁))
end
end OZ

set_option Elab.async false
set_option linter.all false
set_option maxRecDepth 100000
set_option maxHeartbeats 2000000
namespace OZ
open PySem
open PySem.Sem (wp)
section
variable {prog : Program} {w : World} {A : Around} {E : Value → Shared → Prop} {s : Shared}
theorem pyNext_item {z TI TO : Addr} {its as : List Addr} {i : Nat} {ys : List Value} {Q : Option Value → Shared → Prop} (D : ZAp z TI TO its as) (hk : its ≠ []) (hz8 : its.length ≤ 100000) (st : ZSt s.heap z TI TO its as i) (hy : ys.length = its.length)
    (hit2 : ∀ (j : Nat) (a : Addr), as[j]? = some a → ∃ items, s.heap.IsTuple a items ∧ items[i]? = ys[j]?)
    (hQ : ∀ h', ZSt h' z TI TO its as (i + 1) → IsTup h' s.heap.objs.size ys → h'.objs.size = s.heap.objs.size + 1 → Kp z TO its s.heap h' → Q (some (.ref s.heap.objs.size)) { s with heap := h' }) :
    wpAny (model prog w) A (pyNext (.ref z)) Q E s := by
  obtain ⟨⟨f0, f1, hz, h0, h1⟩, hTI, ⟨us, hus, hTO⟩, hit⟩ := st
  have hT : s.TypeIs (.ref z) "zip" := ⟨_, hz, rfl⟩
  unfold pyNext
  refine wpAny_bind (wpAny_attempt (wpAny_callSpecial?_slot (name := Str.ofString "__next__") hT F.slot_zip_next
    (wpAny_call_entry F.slot_zip_next hT F.entry_zip_next ?_ (F.args_zip_next_1 _))))
  rcases asked hz h0 h1 with free | held
  · exact next_free D hk hz8 free hz hTI hTO hus hit hy hit2 fun h' z1 t1 t2 i1 T1 s1 k1 => wpAny_pure (hQ h' ⟨⟨_, _, z1, .inr ⟨_, rfl⟩, _, rfl⟩, t1, ⟨ys, hy, t2⟩, i1⟩ T1 s1 k1)
  · exact next_held D hk hz8 hz held hTI hit hy hit2 fun h' z1 i1 T1 s1 k1 => wpAny_pure (hQ h' ⟨⟨_, _, z1, h0, _, rfl⟩, k1 _ _ D.TIz D.TIi hTI, ⟨us, hus, k1 _ _ D.TOz D.TOi hTO⟩, i1⟩ T1 s1 fun c o c1 _ c3 e => k1 c o c1 c3 e)
theorem pyNext_end {z TI TO : Addr} {its as : List Addr} {i : Nat} {Q : Option Value → Shared → Prop} (hh : A.handled = none) (D : ZAp z TI TO its as) (hk : its ≠ []) (st : ZSt s.heap z TI TO its as i)
    (hit2 : ∀ a ∈ as, ∃ items : Array Value, s.heap.IsTuple a items ∧ items[i]? = none)
    (hQ : ∀ h', Kp z TO its s.heap h' → Q none { s with heap := h' }) :
    wpAny (model prog w) A (pyNext (.ref z)) Q E s := by
  obtain ⟨⟨f0, f1, hz, h0, h1⟩, hTI, ⟨us, hus, hTO⟩, hit⟩ := st
  have hT : s.TypeIs (.ref z) "zip" := ⟨_, hz, rfl⟩
  cases its with
  | nil => exact absurd rfl hk
  | cons t its =>
  cases as with
  | nil => exact absurd D.len (by simp)
  | cons a0 as =>
  obtain ⟨items, hI, hx⟩ := hit2 a0 List.mem_cons_self
  have fin : ∀ h' e, (∀ c o, c ≠ z → c ≠ t → s.heap.get? c = some o → h'.get? c = some o) → (∃ o, h'.get? e = some o ∧ o.cls = .type "StopIteration") → wpAny (model prog w) A (do
        if ← isInstance (.ref e) (.type "StopIteration") then pure none else throw (.ref e)) Q E { s with heap := h' } := fun h' e hkk he => by
    obtain ⟨o, ho, hc⟩ := he
    refine wpAny_bind (wpAny_isInstance (T := "StopIteration") (b := true) ⟨o, ho, hc⟩ isSubtype_stop ?_)
    exact wpAny_pure (hQ _ fun c o c1 _ c3 x => hkk c o c1 (fun q => c3 (q ▸ List.mem_cons_self)) x)
  unfold pyNext
  refine wpAny_bind (wpAny_attempt (wpAny_callSpecial?_slot (name := Str.ofString "__next__") hT F.slot_zip_next
    (wpAny_call_entry F.slot_zip_next hT F.entry_zip_next ?_ (F.args_zip_next_1 _))))
  rcases asked hz h0 h1 with free | held
  · exact end_free hh D free hz hTI (hit 0 t a0 rfl rfl) hI hx (fun h' e a b => fin h' e a b) ⟨us, hTO⟩
  · exact end_held hh D hz held hTI (hit 0 t a0 rfl rfl) hI hx fun h' e a b => fin h' e a b
structure NewOk (h0 h' : Heap) (as : List Addr) : Prop where
  st : ZSt h' (h0.objs.size + as.length + 2) (h0.objs.size + as.length) (h0.objs.size + as.length + 1) (List.range' h0.objs.size as.length) as 0
  sz : h'.objs.size = h0.objs.size + as.length + 3
  k : ∀ c o, h0.get? c = some o → h'.get? c = some o
theorem newClass_zip {rest : List Value} {Q : Value × List Value → Shared → Prop} (h : Q (.type "zip", rest) s) : wpAny (model prog w) A (Builtin.SmallTypes.newClass "zip" ⟨.type "zip" :: rest, []⟩) Q E s := by
  obtain ⟨hp, g, d, tk, os⟩ := s
  have hsub := sub_zip
  unfold Builtin.SmallTypes.newClass
  repeat (any_goals (first | assumption | wp_step))
structure Li (h0 h : Heap) (as : List Addr) (j : Nat) : Prop where
  it : ∀ (m : Nat) (a : Addr), m < j → as[m]? = some a → h.IsTupleIter (h0.objs.size + m) a 0
  sz : h.objs.size = h0.objs.size + j
  k : ∀ c o, h0.get? c = some o → h.get? c = some o
theorem iterAll_ok {as : List Addr} {Q : List Value → Shared → Prop} (hI : ∀ a ∈ as, ∃ items, s.heap.IsTuple a items) (hQ : ∀ h', Li s.heap h' as as.length → Q ((List.range' s.heap.objs.size as.length).map Value.ref) { s with heap := h' }) :
    wpAny (model prog w) A (Builtin.SmallTypes.iterAll (as.map Value.ref)) Q E s := by
  unfold Builtin.SmallTypes.iterAll
  refine wpAny_bind ?_
  refine wp_forIn (fun j b s' => b = ((List.range' s.heap.objs.size j).map Value.ref).toArray ∧ ∃ h', s' = { s with heap := h' } ∧ Li s.heap h' as j) ?_ ?_ ?_
  · rintro j v b s' hx ⟨rfl, h', rfl, L⟩
    rw [List.getElem?_map] at hx
    obtain ⟨a, ha, rfl⟩ : ∃ a, as[j]? = some a ∧ Value.ref a = v := by
      cases e : as[j]? with
      | none => rw [e] at hx; cases hx
      | some t => rw [e] at hx; exact ⟨t, rfl, Option.some.inj hx⟩
    obtain ⟨items, o, ho, r⟩ := hI a (List.mem_of_getElem? ha)
    have hT : h'.IsTuple a items := ⟨o, L.k _ _ ho, r⟩
    refine wpAny_bind (wpAny_holding (wpAny_pyIter_tuple (s := { s with heap := h' }) hT ?_))
    refine wpAny_pure ⟨_, rfl, ?_, _, rfl, ?_⟩
    · show ((List.range' s.heap.objs.size j).map Value.ref).toArray.push (.ref h'.objs.size) = _
      rw [L.sz, List.range'_concat]
      simp
    · refine ⟨fun m a' hm h1 => ?_, ?_, fun c o e => Heap.get?_push_of_some _ (L.k _ _ e)⟩
      · by_cases e : m = j
        · subst e
          rw [ha] at h1
          cases h1
          refine ⟨{ cls := .type "tuple_iterator", data := .fields #[.ref a, .int 0 0] }, ?_, rfl, rfl⟩
          have q2 : (h'.push { cls := .type "tuple_iterator", data := .fields #[.ref a, .int 0 0] }).get? h'.objs.size = some { cls := .type "tuple_iterator", data := .fields #[.ref a, .int 0 0] } := Heap.get?_push_size _ rfl
          rw [L.sz] at q2
          exact q2
        · exact (L.it m a' (by omega) h1).at fun o e => Heap.get?_push_of_some _ e
      · show (h'.push _).objs.size = _
        rw [Heap.size_push, L.sz]
        rfl
  · rintro b s' ⟨rfl, h', rfl, L⟩
    rw [List.length_map] at L ⊢
    refine wpAny_pure ?_
    have e : ((List.range' s.heap.objs.size as.length).map Value.ref).toArray.toList = (List.range' s.heap.objs.size as.length).map Value.ref := by simp
    show Q (((List.range' s.heap.objs.size as.length).map Value.ref).toArray.toList) _
    rw [e]
    exact hQ h' L
  · exact ⟨rfl, s.heap, rfl, fun m a hm => absurd hm (Nat.not_lt_zero _), rfl, fun c o e => e⟩
theorem meets_new (as : List Addr) :
    Meets (Builtin.«zip.__new__» ⟨.type "zip" :: as.map Value.ref, []⟩) (fun _ R s => (∀ a ∈ as, ∃ items, s.heap.IsTuple a items) ∧ as.length ≤ 100000 ∧ ∀ h', NewOk s.heap h' as → R (.ok (.ret (.ref (s.heap.objs.size + as.length + 2)))) { s with heap := h' }) :=
  .of_wp fun prog w A R s h => by
    obtain ⟨hI, hl, h⟩ := h
    unfold Builtin.«zip.__new__»
    refine wpAny_bind (newClass_zip ?_)
    show wpAny _ _ (Builtin.SmallTypes.iterAll (as.map Value.ref) >>= _) _ _ _
    refine wpAny_bind (iterAll_ok hI fun h1 L => ?_)
    have n1 : ((List.range' s.heap.objs.size as.length).map Value.ref).length = as.length := by rw [List.length_map, List.length_range']
    refine wpAny_bind (wpAny_newTuple (s := { s with heap := h1 }) ?_ (by rw [n1]; exact Nat.le_trans hl (by decide)))
    refine wpAny_bind (wpAny_newTuple ?_ (by rw [List.length_map, n1]; exact Nat.le_trans hl (by decide)))
    refine wpAny_bind ?_
    have hs1 : h1.objs.size = s.heap.objs.size + as.length := L.sz
    have hs2 : (h1.push { cls := .type "tuple", data := .seq (List.map Value.ref (List.range' s.heap.objs.size as.length)).toArray }).objs.size = s.heap.objs.size + as.length + 1 := by rw [Heap.size_push, hs1]
    have q2 : (h1.push { cls := .type "tuple", data := .seq (List.map Value.ref (List.range' s.heap.objs.size as.length)).toArray }).get? h1.objs.size = some { cls := .type "tuple", data := .seq (List.map Value.ref (List.range' s.heap.objs.size as.length)).toArray } := Heap.get?_push_size _ rfl
    have k2 : ∀ c o, h1.get? c = some o → (h1.push { cls := .type "tuple", data := .seq (List.map Value.ref (List.range' s.heap.objs.size as.length)).toArray }).get? c = some o := fun c o e => Heap.get?_push_of_some _ e
    show wpAny _ _ (newObj (.type "zip") (.fields #[.none, .bool false, .bool false, .ref h1.objs.size, .ref (h1.push { cls := .type "tuple", data := .seq (List.map Value.ref (List.range' s.heap.objs.size as.length)).toArray }).objs.size])) _ _ _
    generalize h1.push { cls := .type "tuple", data := .seq (List.map Value.ref (List.range' s.heap.objs.size as.length)).toArray } = h2 at hs2 q2 k2 ⊢
    have hs3 : (h2.push { cls := .type "tuple", data := .seq (List.map (fun x => Value.none) (List.map Value.ref (List.range' s.heap.objs.size as.length))).toArray }).objs.size = s.heap.objs.size + as.length + 2 := by rw [Heap.size_push, hs2]
    have q3 : (h2.push { cls := .type "tuple", data := .seq (List.map (fun x => Value.none) (List.map Value.ref (List.range' s.heap.objs.size as.length))).toArray }).get? h2.objs.size = some { cls := .type "tuple", data := .seq (List.map (fun x => Value.none) (List.map Value.ref (List.range' s.heap.objs.size as.length))).toArray } := Heap.get?_push_size _ rfl
    have k3 : ∀ c o, h2.get? c = some o → (h2.push { cls := .type "tuple", data := .seq (List.map (fun x => Value.none) (List.map Value.ref (List.range' s.heap.objs.size as.length))).toArray }).get? c = some o := fun c o e => Heap.get?_push_of_some _ e
    refine wpAny_newObj_type ?_
    show wpAny _ _ (ret (.ref (h2.push { cls := .type "tuple", data := .seq (List.map (fun x => Value.none) (List.map Value.ref (List.range' s.heap.objs.size as.length))).toArray }).objs.size)) _ _ { s with heap := (h2.push { cls := .type "tuple", data := .seq (List.map (fun x => Value.none) (List.map Value.ref (List.range' s.heap.objs.size as.length))).toArray }).push { cls := .type "zip", data := .fields #[.none, .bool false, .bool false, .ref h1.objs.size, .ref h2.objs.size] } }
    generalize h2.push { cls := .type "tuple", data := .seq (List.map (fun x => Value.none) (List.map Value.ref (List.range' s.heap.objs.size as.length))).toArray } = h3 at hs3 q3 k3 ⊢
    have q4 : (h3.push { cls := .type "zip", data := .fields #[.none, .bool false, .bool false, .ref h1.objs.size, .ref h2.objs.size] }).get? h3.objs.size = some { cls := .type "zip", data := .fields #[.none, .bool false, .bool false, .ref h1.objs.size, .ref h2.objs.size] } := Heap.get?_push_size _ rfl
    have k4 : ∀ c o, h3.get? c = some o → (h3.push { cls := .type "zip", data := .fields #[.none, .bool false, .bool false, .ref h1.objs.size, .ref h2.objs.size] }).get? c = some o := fun c o e => Heap.get?_push_of_some _ e
    have hs4 : (h3.push { cls := .type "zip", data := .fields #[.none, .bool false, .bool false, .ref h1.objs.size, .ref h2.objs.size] }).objs.size = s.heap.objs.size + as.length + 3 := by rw [Heap.size_push, hs3]
    generalize h3.push { cls := .type "zip", data := .fields #[.none, .bool false, .bool false, .ref h1.objs.size, .ref h2.objs.size] } = h4 at q4 k4 hs4 ⊢
    rw [hs3] at q4 ⊢
    rw [hs1] at q4 q2
    rw [hs2] at q4 q3
    refine wpAny_pure ⟨_, rfl, h h4 ⟨⟨⟨_, _, q4, .inl rfl, _, rfl⟩, k4 _ _ (k3 _ _ q2), ⟨_, ?_, k4 _ _ q3⟩, fun j t a h1' h2' => ?_⟩, hs4, fun c o e => k4 _ _ (k3 _ _ (k2 _ _ (L.k _ _ e)))⟩⟩
    · rw [List.length_map, List.length_map]
    · have hj : j < as.length := (List.getElem?_eq_some_iff.mp h2').1
      have et : t = s.heap.objs.size + j := by
        rw [List.getElem?_range' hj] at h1'
        have q := Option.some.inj h1'
        rw [Nat.one_mul] at q
        exact q.symm
      subst et
      exact (L.it j a hj h2').at fun o e => k4 _ _ (k3 _ _ (k2 _ _ e))
theorem call_zipN {a : Addr} {as : List Addr} {Q : Value → Shared → Prop} (hI : ∀ b ∈ a :: as, ∃ items, s.heap.IsTuple b items) (hl : (a :: as).length ≤ 100000)
    (h : ∀ h', NewOk s.heap h' (a :: as) → Q (.ref (s.heap.objs.size + (a :: as).length + 2)) { s with heap := h' }) :
    wpAny (model prog w) A (call (.type "zip") ((a :: as).map Value.ref)) Q E s := by
  refine callType_new F.called_zip (by decide) (tc _) (nc _ _) (fun obj => oi _) F.entry_zip_new (meets_new (a :: as)) ⟨hI, hl, fun h' n => ?_⟩
  refine ⟨?_, h h' n⟩
  obtain ⟨⟨f0, f1, hz, _⟩, _⟩ := n.st
  exact ⟨_, hz, rfl⟩
end
end OZ

set_option Elab.async false
set_option linter.all false
set_option maxRecDepth 100000
set_option maxHeartbeats 2000000
namespace OZ
open PySem PySem.Spec PyProof.Rows L2
/-- all of them tuples of n items -/
def Cols (K : PySem.W.Frag) (H : Hp) (as : List Addr) (n : Nat) : Prop := ∀ a ∈ as, ∃ xs : List V, SqT K H a xs ∧ xs.length = n
/-- the tuples in turn: at turn i a new tuple of their i-th items -/
def ItzN (K : PySem.W.Frag) (as : List Addr) (n : Nat) : It :=
  ⟨fun i H => i < n ∧ Cols K H as n,
    fun i H v H' => ∃ T ys, v = .ref T ∧ H T = none ∧ H' = upd H T (.tup ys) ∧ ys.length = as.length ∧ ∀ (j : Nat) (a : Addr) (xs : List V), as[j]? = some a → SqT K H a xs → xs[i]? = ys[j]?,
    fun i H => n ≤ i ∧ Cols K H as n⟩
theorem cols_at {X : Cx} {pins : List (Addr × Obj)} {σ : L2.St} {H : Hp} {s : Shared} {n i : Nat} (I : Inv X pins σ H s) (hi : i < n) : ∀ {as : List Addr}, Cols X.K H as n →
    ∃ (ys : List V) (us : List Value), Vals ys us ∧ ys.length = as.length ∧ us.length = as.length ∧
      (∀ (j : Nat) (a : Addr), as[j]? = some a → ∃ items, s.heap.IsTuple a items ∧ items[i]? = us[j]?) ∧ (∀ (j : Nat) (a : Addr), as[j]? = some a → ∃ xs : List V, SqT X.K H a xs ∧ xs[i]? = ys[j]?)
  | [], _ => ⟨[], [], .nil, rfl, rfl, fun j a h => by simp at h, fun j a h => by simp at h⟩
  | a :: as, C => by
    obtain ⟨xs, hq, hn⟩ := C a List.mem_cons_self
    obtain ⟨ys, us, v, l1, l2, p1, p2⟩ := cols_at I hi (as := as) fun b hb => C b (List.mem_cons_of_mem _ hb)
    obtain ⟨its, rv, p, _⟩ := I.tuple hq
    have hx : xs[i]? = some xs[i] := List.getElem?_eq_getElem (by omega)
    obtain ⟨u, hu, ru⟩ := rv.get hx
    refine ⟨xs[i] :: ys, u :: us, .cons ru v, by rw [List.length_cons, List.length_cons, l1], by rw [List.length_cons, List.length_cons, l2], fun j b h => ?_, fun j b h => ?_⟩
    · cases j with
      | zero =>
        cases h
        exact ⟨_, p, by simpa using hu⟩
      | succ j => exact p1 j b h
    · cases j with
      | zero =>
        cases h
        exact ⟨xs, hq, hx⟩
      | succ j => exact p2 j b h
theorem turn_zipN {P : Program} {w : World} {K : PySem.W.Frag} {nm : Str} {npos : Pos} {z TI TO : Addr} {its as : List Addr} {n : Nat} (D : ZAp z TI TO its as) (hk : its ≠ []) (hz8 : its.length ≤ 100000) :
    Turn P w K (.Name nm npos) (ItzN K as n) (z :: TI :: TO :: its) z (fun i h => ZSt h z TI TO its as i) where
  mem := List.mem_cons_self
  obj := fun i h st c hc => by
    obtain ⟨⟨f0, f1, hz, _⟩, hTI, ⟨us, _, hTO⟩, hit⟩ := st
    rcases List.mem_cons.mp hc with rfl | hc
    · exact ⟨_, hz, fun v q => nomatch q⟩
    rcases List.mem_cons.mp hc with rfl | hc
    · exact ⟨_, hTI, fun v q => nomatch q⟩
    rcases List.mem_cons.mp hc with rfl | hc
    · exact ⟨_, hTO, fun v q => nomatch q⟩
    obtain ⟨j, hj, rfl⟩ := List.mem_iff_getElem.mp hc
    have hja : j < as.length := by rw [← D.len]; exact hj
    obtain ⟨o, e, _, d⟩ := hit j _ _ (List.getElem?_eq_getElem hj) (List.getElem?_eq_getElem hja)
    exact ⟨o, e, fun v q => by rw [d] at q; cases q⟩
  keep := fun i h h' st k => by
    obtain ⟨⟨f0, f1, hz, a, b⟩, hTI, ⟨us, hu, hTO⟩, hit⟩ := st
    refine ⟨⟨f0, f1, k z (by simp) _ hz, a, b⟩, k TI (by simp) _ hTI, ⟨us, hu, k TO (by simp) _ hTO⟩, fun j t a h1 h2 => ?_⟩
    exact (hit j t a h1 h2).at fun o q => k t (by simp [List.mem_of_getElem? h1]) o q
  item := by
    intro X hP hw hK hc i pins s σ H E I hf st hg
    subst hP hw hK
    obtain ⟨hi, C⟩ := hg
    obtain ⟨ys, us, rv, l1, l2, p1, p2⟩ := cols_at I hi C
    have hzl : z < s.heap.objs.size := by
      obtain ⟨⟨f0, f1, hz, _⟩, _⟩ := st
      exact Heap.lt_size hz
    refine pyNext_item D hk hz8 st (by rw [l2, D.len]) p1 fun h' st' hT hsz hkp => ?_
    refine ⟨_, rfl, ?_⟩
    show wpAny _ _ (pure ()) _ _ _
    refine wpAny_pure ?_
    have new : ObjOk X.prog X.w (upd H s.heap.objs.size (.tup ys)) h' s.heap.objs.size (.tup ys) :=
      ⟨by show ys.length ≤ sizeLine; rw [l1, ← D.len]; exact Nat.le_trans hz8 (by decide), us, rv, ⟨_, hT, rfl, _, rfl⟩⟩
    have I1 : Inv X pins σ (upd H s.heap.objs.size (.tup ys)) { s with heap := h' } :=
      I.turnedNew (t' := s.toks) (ch := z :: TI :: TO :: its) (fun c o hb q => by
        simp only [List.mem_cons, not_or] at hb
        exact hkp c o hb.1 hb.2.2.1 hb.2.2.2 q) hf (Nat.le_refl _) new
    refine ⟨.ref s.heap.objs.size, _, I1, rfl, ⟨_, ys, rfl, I.hok.fresh (Nat.le_refl _), rfl, l1, fun j a xs ha hq => ?_⟩, st', fun c hcm => ?_⟩
    · obtain ⟨xs', hq', e⟩ := p2 j a ha
      rw [I.tuple_inj hq hq']
      exact e
    · have hlt : c < s.heap.objs.size := by
        obtain ⟨⟨f0, f1, hz, _⟩, hTI, ⟨us, _, hTO⟩, hit⟩ := st
        rcases List.mem_cons.mp hcm with rfl | hc
        · exact Heap.lt_size hz
        rcases List.mem_cons.mp hc with rfl | hc
        · exact Heap.lt_size hTI
        rcases List.mem_cons.mp hc with rfl | hc
        · exact Heap.lt_size hTO
        obtain ⟨j, hj, rfl⟩ := List.mem_iff_getElem.mp hc
        have hja : j < as.length := by rw [← D.len]; exact hj
        obtain ⟨o, e, _, d⟩ := hit j _ _ (List.getElem?_eq_getElem hj) (List.getElem?_eq_getElem hja)
        exact Heap.lt_size e
      rw [upd_ne (Nat.ne_of_lt hlt)]
      exact (hf c hcm).1
  done := by
    intro X hP hw hK hc i pins s σ H E I hf st hg
    subst hP hw hK
    obtain ⟨hi, C⟩ := hg
    refine pyNext_end (I.ok.hd hc) D hk st (fun a ha => ?_) fun h' hkp => ⟨rfl, I.turnedL (t' := s.toks) (ch := z :: TI :: TO :: its) (fun c o hb q => ?_) hf⟩
    · obtain ⟨xs, hq, hn⟩ := C a ha
      obtain ⟨its, rv, p, _⟩ := I.tuple hq
      have := rv.length
      exact ⟨_, p, by simp; omega⟩
    · simp only [List.mem_cons, not_or] at hb
      exact hkp c o hb.1 hb.2.2.1 hb.2.2.2 q
  self := fun A i s Q E st h => by
    obtain ⟨⟨f0, f1, hz, _⟩, _⟩ := st
    have hT : s.TypeIs (.ref z) "zip" := ⟨_, hz, rfl⟩
    refine wpAny_pyIter_slot hT F.slot_zip_iter (wpAny_call_entry F.slot_zip_iter hT F.entry_zip_iter ?_ (F.args_zip_iter_1 _))
    show wpAny _ _ (ret (.ref z)) _ _ s
    exact wpAny_pure ⟨_, rfl, "zip", _, hT, F.slot_zip_next.lookup, h⟩
def iZipN (K : PySem.W.Frag) (te : TE) : TI := fun σ H R => te σ H fun x H1 => ∃ (l : Addr) (as : List Addr) (n : Nat), x = .ref l ∧ SqL K H1 l (as.map V.ref) ∧ as ≠ [] ∧ as.length ≤ 100000 ∧ Cols K H1 as n ∧ R (ItzN K as n) H1
theorem vals_refs : ∀ {as : List Addr} {us : List Value}, Vals (as.map V.ref) us → us = as.map Value.ref
  | [], us, h => by
    cases h
    rfl
  | a :: as, us, h => by
    cases h with
    | cons r rr =>
      have := vals_refs rr
      subst this
      cases r
      rfl
theorem pi_zipS {X : Cx} {e : Expr} {te : TE} {p sp pos npos : Pos} {nm : Str} (hg : Gl X "zip") (hm : X.mg "zip" = none) (he : PE X e te)
    (hst : starEach [.Starred e sp] X.env = [(true, eval e X.env)] := by rfl) :
    PI X (.Name nm npos) (.Call (.Name "zip" p) [.Starred e sp] [] pos) (iZipN X.K te) := by
  refine ⟨fun pins s σ H R I h => ?_⟩
  refine Call_ (ld_blt I hg hm PyProof.Rows.boot_zip ?_)
  rw [hst]
  refine PySem.W.ks_call (P := fun _ => True) rfl (fun h _ => ⟨.machine, .inr (.inl rfl), PySem.W.Looks.of_pure rfl⟩) (PySem.W.ks_lone (thn (he.run pins s σ H _ I h) fun v s1 ⟨y, H1, I1, ry, l, as, n, ey, hq, hne, hl, C, q⟩ => ?_))
  subst ey
  obtain rfl : v = Value.ref l := ry
  refine StX.star_lst I1 hq fun us s2 I2 rv => ⟨trivial, ?_⟩
  have hus := vals_refs rv
  subst hus
  cases as with
  | nil => exact absurd rfl hne
  | cons a as =>
  have hI : ∀ b ∈ a :: as, ∃ items, s2.heap.IsTuple b items := fun b hb => by
    obtain ⟨xs, hq, _⟩ := C b hb
    obtain ⟨its, rv, p, _⟩ := I2.tuple hq
    exact ⟨_, p⟩
  have hlt : ∀ b ∈ a :: as, b < s2.heap.objs.size := fun b hb => by
    obtain ⟨items, o, ho, _⟩ := hI b hb
    exact Heap.lt_size ho
  show wpAny _ _ (call (.type "zip") ((a :: as).map Value.ref)) _ _ _
  refine call_zipN hI hl fun h' N => ?_
  have D : ZAp (s2.heap.objs.size + (a :: as).length + 2) (s2.heap.objs.size + (a :: as).length) (s2.heap.objs.size + (a :: as).length + 1) (List.range' s2.heap.objs.size (a :: as).length) (a :: as) := by
    have mr : ∀ t : Nat, t ∈ List.range' (s2.heap.objs.size : Nat) (a :: as).length → (s2.heap.objs.size : Nat) ≤ t ∧ t < (s2.heap.objs.size : Nat) + (a :: as).length := fun t ht => List.mem_range'_1.mp ht
    have hlt' : ∀ b : Nat, b ∈ (show List Nat from a :: as) → b < (s2.heap.objs.size : Nat) := hlt
    have n1 : ∀ x k : Nat, x + k ≠ x + k + 2 := fun x k => by omega
    have n2 : ∀ x k : Nat, x + k + 1 ≠ x + k + 2 := fun x k => by omega
    have n3 : ∀ x k : Nat, x + k ≠ x + k + 1 := fun x k => by omega
    refine ⟨n1 _ _, n2 _ _, n3 _ _, fun q => ?_, fun q => ?_, fun q => ?_, List.nodup_range', fun q => ?_, fun q => ?_, fun t ht q => ?_, by rw [List.length_range']⟩
    · have := mr _ q; omega
    · have := mr _ q; omega
    · have := mr _ q; omega
    · have := hlt' _ q; omega
    · have := hlt' _ q; omega
    · have := hlt' _ q; have := mr _ ht; omega
  have I3 : Inv X pins σ H1 { s2 with heap := h' } := I2.kept (t' := s2.toks) N.k
  obtain ⟨⟨f0, f1, hz, hf⟩, r⟩ := id N.st
  have hT : Shared.TypeIs { s2 with heap := h' } (.ref (s2.heap.objs.size + (a :: as).length + 2)) "zip" := ⟨_, hz, rfl⟩
  have T : Turn X.prog X.w X.K (.Name nm npos) (ItzN X.K (a :: as) n) _ _ _ := turn_zipN (n := n) D (by rw [← List.length_pos_iff, List.length_range']; exact Nat.succ_pos _) (by rw [List.length_range']; exact hl)
  refine T.self _ 0 { s2 with heap := h' } _ _ N.st ?_
  refine ⟨_, _, _, _, H1, rfl, I3, T, N.st, fun c hcm => ?_, q⟩
  have hle : s2.heap.objs.size ≤ c := by
    rcases List.mem_cons.mp hcm with rfl | hc
    · omega
    rcases List.mem_cons.mp hc with rfl | hc
    · omega
    rcases List.mem_cons.mp hc with rfl | hc
    · omega
    exact (List.mem_range'_1.mp hc).1
  exact I2.fpOk hle (I2.hok.fresh hle)
end OZ

set_option Elab.async false
set_option linter.all false
set_option maxRecDepth 100000
set_option maxHeartbeats 2000000
/-! min, max of a tuple of ints -/
namespace OZ
open PySem PySem.Spec PyProof.Rows L2
section
variable {prog : Program} {w : World} {A : Around} {E : Value → Shared → Prop} {s : Shared} {l : Addr}
theorem iter_intTup {xs : Array (Int × Tok)} {Q : Value → Shared → Prop} (hl : s.heap.IsTuple l (intItems xs))
    (h : ∀ s₂ : Shared, s₂ = { s with heap := s.heap.push { cls := .type "tuple_iterator", data := .fields #[.ref l, .int 0 0] } } →
      (s₂.heap.IsTupleIter s.heap.objs.size l 0 ∧ s₂.heap.IsTuple l (intItems xs)) → (∀ b ∈ [s.heap.objs.size, l], b < s₂.heap.objs.size) → l ≠ s.heap.objs.size → Q (.ref s.heap.objs.size) s₂) :
    wpAny (model prog w) A (pyIter (.ref l)) Q E s := by
  have hlt : l < s.heap.objs.size := by obtain ⟨_, e, _⟩ := hl; exact Heap.lt_size e
  refine wpAny_pyIter_tuple hl (h _ rfl ⟨⟨_, Heap.get?_push_size _ rfl, rfl, rfl⟩, hl.push _⟩ (fun b hb => ?_) (Nat.ne_of_lt hlt))
  show b < (s.heap.push _).objs.size
  rw [Heap.size_push]
  rcases List.mem_cons.mp hb with rfl | hb
  · exact Nat.lt_succ_self _
  · rcases List.mem_cons.mp hb with rfl | hb
    · exact Nat.lt_succ_of_lt hlt
    · cases hb
theorem old_keptT {h' : Heap} {o0 : Obj} (hk : ∀ c o, c ∉ [s.heap.objs.size] → (s.heap.push o0).get? c = some o → h'.get? c = some o) : ∀ c o, s.heap.get? c = some o → h'.get? c = some o := fun c o e => by
  refine hk c o (fun hm => ?_) (Heap.get?_push_of_some _ e)
  rcases List.mem_cons.mp hm with e1 | hm
  · have := Heap.lt_size e
    rw [e1] at this
    exact Nat.lt_irrefl _ this
  · cases hm
theorem max_intTup {xs : Array (Int × Tok)} {Q : Value → Shared → Prop} (hh : A.handled = none) (hl : s.heap.IsTuple l (intItems xs)) (hne : 0 < xs.size)
    (h : ∀ v h' tk, (intItems xs)[argBest (fun i j => decide (numAt xs i > numAt xs j)) (xs.size - 1)]? = some v → (∀ b o, s.heap.get? b = some o → h'.get? b = some o) → Q v { s with heap := h', toks := tk }) :
    wpAny (model prog w) A (call (.builtin "max") [.ref l]) Q E s := by
  refine call_max_walk (iter_intTup hl fun s₂ e st hfp hlI => ?_)
  subst e
  refine ⟨_, _, _, _, _, _, _, rfl, Walks.tuple (A := A.in1) hh _ l hlI (intItems xs), st, hfp, by simpa [intItems] using hne, CmpOf.ints_gt (numAt xs) (fun _ _ => intItems_at), fun v h' tk hP hk => ?_⟩
  exact h v h' tk (by simpa [intItems] using hP) (old_keptT hk)
theorem min_intTup {xs : Array (Int × Tok)} {Q : Value → Shared → Prop} (hh : A.handled = none) (hl : s.heap.IsTuple l (intItems xs)) (hne : 0 < xs.size)
    (h : ∀ v h' tk, (intItems xs)[argBest (fun i j => decide (numAt xs i < numAt xs j)) (xs.size - 1)]? = some v → (∀ b o, s.heap.get? b = some o → h'.get? b = some o) → Q v { s with heap := h', toks := tk }) :
    wpAny (model prog w) A (call (.builtin "min") [.ref l]) Q E s := by
  refine call_min_walk (iter_intTup hl fun s₂ e st hfp hlI => ?_)
  subst e
  refine ⟨_, _, _, _, _, _, _, rfl, Walks.tuple (A := A.in1) hh _ l hlI (intItems xs), st, hfp, by simpa [intItems] using hne, CmpOf.ints_lt (numAt xs) (fun _ _ => intItems_at), fun v h' tk hP hk => ?_⟩
  exact h v h' tk (by simpa [intItems] using hP) (old_keptT hk)
variable {its : List Value} {ns : List Int} {Q : Value → Shared → Prop}
theorem maxT_raw (hh : A.handled = none) (hl : s.heap.IsTuple l its.toArray) (hi : IntsAre its ns) (hne : 0 < ns.length)
    (h : ∀ h' tk M t', (∀ b o, s.heap.get? b = some o → h'.get? b = some o) → M ∈ ns → (∀ a, a ∈ ns → a ≤ M) → Q (.int M t') { s with heap := h', toks := tk }) : wpAny (model prog w) A (call (.builtin "max") [.ref l]) Q E s := by
  obtain ⟨xs, e⟩ := hi.allInts.items
  have hn : numsOf (intItems xs).toList = ns := by rw [← e]; exact hi.numsOf
  rw [nums_intItems] at hn
  subst hn
  rw [e] at hl
  have hsz : 0 < xs.size := by simpa using hne
  refine max_intTup hh hl hsz fun v h' tk hv hk => ?_
  obtain ⟨t, rfl⟩ := intItems_at hv
  obtain ⟨h1, h2⟩ := argBest_gt (numAt xs) (xs.size - 1)
  refine h h' tk _ t hk ?_ fun a ha => ?_
  · rw [numAt_eq]; exact PySem.getD_mem (by rw [List.length_map, Array.length_toList]; omega)
  · obtain ⟨j, hj, rfl⟩ := mem_getD ha
    rw [List.length_map, Array.length_toList] at hj
    rw [← numAt_eq]; exact h2 j (by omega)
theorem minT_raw (hh : A.handled = none) (hl : s.heap.IsTuple l its.toArray) (hi : IntsAre its ns) (hne : 0 < ns.length)
    (h : ∀ h' tk M t', (∀ b o, s.heap.get? b = some o → h'.get? b = some o) → M ∈ ns → (∀ a, a ∈ ns → M ≤ a) → Q (.int M t') { s with heap := h', toks := tk }) : wpAny (model prog w) A (call (.builtin "min") [.ref l]) Q E s := by
  obtain ⟨xs, e⟩ := hi.allInts.items
  have hn : numsOf (intItems xs).toList = ns := by rw [← e]; exact hi.numsOf
  rw [nums_intItems] at hn
  subst hn
  rw [e] at hl
  have hsz : 0 < xs.size := by simpa using hne
  refine min_intTup hh hl hsz fun v h' tk hv hk => ?_
  obtain ⟨t, rfl⟩ := intItems_at hv
  obtain ⟨h1, h2⟩ := argBest_lt (numAt xs) (xs.size - 1)
  refine h h' tk _ t hk ?_ fun a ha => ?_
  · rw [numAt_eq]; exact PySem.getD_mem (by rw [List.length_map, Array.length_toList]; omega)
  · obtain ⟨j, hj, rfl⟩ := mem_getD ha
    rw [List.length_map, Array.length_toList] at hj
    rw [← numAt_eq]; exact h2 j (by omega)
end
section
variable {X : Cx}
/-- max(t), min(t) of a tuple of ints -/
def rMaxT (K : PySem.W.Frag) : List V → Hp → VK → Prop := fun vs H Q => ∃ (a : Addr) (ns : List Int), vs = [V.ref a] ∧ SqT K H a (ns.map V.int) ∧ 0 < ns.length ∧ ∀ m, m ∈ ns → (∀ y, y ∈ ns → y ≤ m) → Q (.int m) H
def rMinT (K : PySem.W.Frag) : List V → Hp → VK → Prop := fun vs H Q => ∃ (a : Addr) (ns : List Int), vs = [V.ref a] ∧ SqT K H a (ns.map V.int) ∧ 0 < ns.length ∧ ∀ m, m ∈ ns → (∀ y, y ∈ ns → m ≤ y) → Q (.int m) H
theorem cr_maxT (hc : X.calm = true) : CallR X (.builtin "max") (rMaxT X.K) := by
  intro pins s σ H vs us Q I r h
  obtain ⟨a, ns, rfl, hs, hne, q⟩ := h
  obtain ⟨its, rv, hl, _⟩ := I.tuple hs
  rw [Vals.ref1 r]
  exact maxT_raw (I.ok.hd hc) hl rv.ints hne fun h' tk m t' hk h1 h2 => ⟨.int _, H, I.kept hk, ⟨_, rfl⟩, q m h1 h2⟩
theorem cr_minT (hc : X.calm = true) : CallR X (.builtin "min") (rMinT X.K) := by
  intro pins s σ H vs us Q I r h
  obtain ⟨a, ns, rfl, hs, hne, q⟩ := h
  obtain ⟨its, rv, hl, _⟩ := I.tuple hs
  rw [Vals.ref1 r]
  exact minT_raw (I.ok.hd hc) hl rv.ints hne fun h' tk m t' hk h1 h2 => ⟨.int _, H, I.kept hk, ⟨_, rfl⟩, q m h1 h2⟩
end
end OZ

set_option Elab.async false
set_option linter.all false
set_option maxRecDepth 100000
set_option maxHeartbeats 2000000
/-! max(xs, default=d) of a list of ints. -/
namespace OW
open PySem PySem.Spec PyProof.Rows L2
theorem maxOf_ints : ∀ (ns : List Int) (x : Int), (PySem.W.maxOf x ns = x ∨ PySem.W.maxOf x ns ∈ ns) ∧ x ≤ PySem.W.maxOf x ns ∧ ∀ y ∈ ns, y ≤ PySem.W.maxOf x ns
  | [], x => ⟨.inl rfl, Int.le_refl _, fun y h => by cases h⟩
  | n :: ns, x => by
    have e : PySem.W.maxOf x (n :: ns) = PySem.W.maxOf (if decide (x < n) = true then n else x) ns := rfl
    rw [e]
    by_cases h : x < n
    · rw [if_pos (decide_eq_true h)]
      obtain ⟨h1, h2, h3⟩ := maxOf_ints ns n
      refine ⟨.inr (h1.elim (fun z => by rw [z]; exact List.mem_cons_self) (List.mem_cons_of_mem _)), by omega, fun y hy => ?_⟩
      rcases List.mem_cons.mp hy with rfl | hy
      · exact h2
      · exact h3 y hy
    · rw [if_neg (by rw [decide_eq_false h]; decide)]
      obtain ⟨h1, h2, h3⟩ := maxOf_ints ns x
      refine ⟨h1.imp_right (List.mem_cons_of_mem _), h2, fun y hy => ?_⟩
      rcases List.mem_cons.mp hy with rfl | hy
      · omega
      · exact h3 y hy
variable {X : Cx}
/-- max(xs, default=d), d an int -/
def rMaxDf (K : PySem.W.Frag) : List V → List V → Hp → VK → Prop := fun vs zs H Q => ∃ (a : Addr) (ns : List Int) (d : Int), vs = [V.ref a] ∧ zs = [V.int d] ∧ SqL K H a (ns.map V.int) ∧ (ns = [] → Q (.int d) H) ∧ ∀ m, m ∈ ns → (∀ y, y ∈ ns → y ≤ m) → Q (.int m) H
theorem cr_maxDf (hc : X.calm = true) (hu : X.A.units + 64 < cLine) : CallRK X (.builtin "max") [Str.ofString "default"] (rMaxDf X.K) := by
  intro pins s σ H vs zs us ws Q I r rz h
  obtain ⟨a, ns, d, rfl, rfl, hs, q0, q⟩ := h
  obtain ⟨its, rv, hl, _⟩ := I.list hs
  obtain rfl := Vals.ref1 r
  obtain ⟨w1, rfl, e1⟩ := vals1 rz
  obtain ⟨tk1, rfl⟩ := (show ∃ tk, w1 = Value.int d tk from e1)
  have hi := rv.ints
  refine PySem.W.max_list_datum_default (α := Int) (xs := ns) (I.ok.hd hc) hl.isList ?_ ?_ (fun e h' tk hk => ?_) fun y ys i v h' tk e hi' hv hk => ?_
  · exact PySem.W.HoldAll.of_ints hi
  · show X.A.units + 1 + 0 < cLine
    omega
  · exact ⟨.int d, H, I.kept hk, ⟨_, rfl⟩, q0 e⟩
  · subst e
    obtain ⟨h1, h2, h3⟩ := maxOf_ints ys y
    obtain ⟨t2, rfl⟩ : ∃ t, v = .int (PySem.W.maxOf y ys) t := PySem.W.int_of_holds hv
    refine ⟨.int _, H, I.kept hk, ⟨_, rfl⟩, q _ (h1.elim (fun z => by rw [z]; exact List.mem_cons_self) (List.mem_cons_of_mem _)) fun z hz => ?_⟩
    rcases List.mem_cons.mp hz with rfl | hz
    · exact h2
    · exact h3 z hz
end OW

set_option Elab.async false
set_option linter.all false
set_option maxRecDepth 100000
set_option maxHeartbeats 2000000
/-! sorted(d), the keys of d ints, any number of them. -/
namespace OW
open PySem PySem.Spec PyProof.Rows L2
variable {X : Cx}
theorem cr_sortedDI (hcalm : X.calm = true) : CallR X (.builtin "sorted") (fun xs H Q => ∃ (a : Addr) (kvs : List (Key × V)) (ks : List Int), xs = [.ref a] ∧ Rd H a (.dK kvs) ∧ kvs.map (·.1) = ks.map Sum.inl ∧
    ∀ (ys : List Int) (p : Addr), ys.Perm ks → ys.Pairwise (· ≤ ·) → H p = none → Q (.ref p) (upd H p (.lst (ys.map V.int)))) := by
  intro pins s σ H xs us Q I r q
  obtain ⟨a, kvs, ks, ex, hd, hks, q⟩ := q
  subst ex
  obtain ⟨u, eu, rx⟩ := vals1 r
  subst eu
  cases rx
  obtain ⟨z, lo, vs, rel, dd⟩ := dk_rd I.hok hd
  obtain ⟨ep, hat⟩ := dd.dictAt
  have hkeys : vs.map (·.1) = ks.map Sum.inl := rel.keys.symm.trans hks
  have hl : vs.length = ks.length := by
    have e := congrArg List.length hkeys
    rw [List.length_map, List.length_map] at e
    exact e
  have hkl : kvs.length = ks.length := by
    have e := congrArg List.length hks
    rw [List.length_map, List.length_map] at e
    exact e
  have h16 : vs.length ≤ sizeLine := by omega
  refine Calls.call_function_entry PyProof.Rows.kind_sorted PyProof.Rows.plain_sorted PyProof.Rows.entry_sorted (PyProof.Rows.args_sorted1 _) ?_
  unfold Builtin.«sorted»
  refine wpAny_bind (m := checkCount "sorted" 1 1 _) (wpAny_pure ?_)
  refine wpAny_bind (PySem.W.kdu_collect (A := X.A.in1) (PySem.W.kdl_dict (knd := mixKind X.prog X.w) (kvs := vs) (ep := ep) lo) (I.ok.hd hcalm) hat h16 fun h' tk acc hk hacc => ?_)
  have hal : acc.toList.length = ks.length := by rw [Array.length_toList, hacc.1, hl]
  have hS : IntsAre acc.toList ks := ints_each hal fun j v e => by
    obtain ⟨k, x, e1, e2⟩ := hacc.2 j v (by rw [← Array.getElem?_toList]; exact e)
    have e3 : (vs.map (·.1))[j]? = some k := by rw [List.getElem?_map, e1]; rfl
    rw [hkeys, List.getElem?_map] at e3
    cases e4 : ks[j]? with
    | none => rw [e4] at e3; cases e3
    | some y =>
      rw [e4] at e3
      have e5 : Sum.inl y = k := Option.some.inj e3
      subst e5
      rcases keyIs_shape (show keyIs (Sum.inl y) v = true from e2) with ⟨i, t, ek, ev⟩ | ⟨z, t, ek, ev⟩
      · cases ek
        exact ⟨y, t, rfl, ev⟩
      · cases ek
  have I1 : Inv X pins σ H { s with heap := h', toks := tk } := I.kept hk
  refine wpAny_bind (wpAny_newList ?_ (by omega))
  have hoL : (h'.push (seqObj "list" acc.toList.toArray 0)).get? h'.objs.size = some (seqObj "list" acc.toList.toArray 0) := Heap.get?_push_size _ rfl
  show wpAny _ _ _ _ _ { s with heap := h'.push (seqObj "list" acc.toList.toArray 0), toks := tk }
  refine wpAny_bind (wpAny_holding (wpAny_call_entry PyProof.Rows.slot_list_sort ⟨_, hoL, rfl⟩ PyProof.Rows.entry_list_sort
    (SrtO.list_sort_ord (s := { s with heap := h'.push (seqObj "list" acc.toList.toArray 0), toks := tk }) SrtO.swo_int hoL (by omega) (fun h2 => SrtO.ints_sortable hS h2) fun out h1 h2 => ⟨_, rfl, ?_⟩) (PyProof.Rows.args_list_sort _)))
  obtain ⟨g1, g2, g3⟩ := SrtO.ints_out hS h1 h2
  obtain ⟨e', he'⟩ := PyProof.Rows.sortedHeap_at (vs := acc.toList) (out := out.toArray) hoL
  have hlen : ((out.map SrtO.iv).map V.int).length ≤ sizeLine := by
    rw [List.length_map, g2.length_eq]
    omega
  refine wpAny_pure ⟨_, rfl, .ref h'.objs.size, upd H h'.objs.size (.lst ((out.map SrtO.iv).map V.int)), I1.laid (t' := tk) (fun b u e => ?_) (Nat.le_refl _)
    (show ObjOk X.prog X.w _ _ _ (.lst ((out.map SrtO.iv).map V.int)) from ⟨hlen, out, e', vals_of_ints g1, he'⟩), rfl, q _ _ g2 g3 (I1.hok.fresh (Nat.le_refl _))⟩
  have hb : b < h'.objs.size := Heap.lt_size e
  rw [PyProof.Rows.sortedHeap_old (Nat.ne_of_lt hb) (by rw [size_push']; exact Nat.lt_succ_of_lt hb)]
  exact Heap.get?_push_of_some _ e
end OW

set_option Elab.async false
set_option linter.all false
set_option maxRecDepth 100000
set_option maxHeartbeats 2000000
/-! products of lists of entries: order, brackets, maps -/
namespace OT
open PySem PySem.Spec PyProof.Rows L2
theorem sumW_zero_w : ∀ es : List Ent, sumW (fun _ => 0) es = 0
  | [] => rfl
  | e :: r => by
    show e.2 * 0 + sumW _ r = 0
    rw [sumW_zero_w r, Int.mul_zero]
    rfl
theorem sumW_lin (c : Int) (w v : Pl → Int) : ∀ es : List Ent, sumW (fun l => c * w l + v l) es = c * sumW w es + sumW v es
  | [] => by show (0 : Int) = c * 0 + 0; rw [Int.mul_zero]; rfl
  | e :: r => by
    have ih := sumW_lin c w v r
    show e.2 * (c * w e.1 + v e.1) + sumW _ r = c * (e.2 * w e.1 + sumW w r) + (e.2 * v e.1 + sumW v r)
    rw [ih, Int.mul_add, Int.mul_add, Int.mul_left_comm e.2 c]
    omega
theorem sumW_swap (w : Pl → Pl → Int) (b : List Ent) : ∀ a : List Ent, sumW (fun k => sumW (fun l => w k l) b) a = sumW (fun l => sumW (fun k => w k l) a) b
  | [] => by
    show (0 : Int) = sumW (fun _ => 0) b
    rw [sumW_zero_w]
  | e :: r => by
    have ih := sumW_swap w b r
    show e.2 * sumW (fun l => w e.1 l) b + sumW _ r = sumW (fun l => e.2 * w e.1 l + sumW (fun k => w k l) r) b
    rw [ih, sumW_lin]
theorem prodL_comm {op : Pl → Pl → Pl} (h : ∀ k l, op k l = op l k) (a b : List Ent) (q : Pl) : numAt (prodL op a b) q = numAt (prodL op b a) q := by
  rw [numAt_sumW, numAt_sumW, sumW_prodL, sumW_prodL, sumW_swap]
  refine sumW_congr fun e _ => sumW_congr fun g _ => ?_
  rw [h]
theorem prodL_app (op : Pl → Pl → Pl) (a b c : List Ent) : prodL op (a ++ b) c = prodL op a c ++ prodL op b c := List.flatMap_append
theorem prodL_row {op : Pl → Pl → Pl} (h : ∀ k l m, op (op k l) m = op k (op l m)) (e : Ent) (c : List Ent) : ∀ b : List Ent, prodL op (b.map fun g => (op e.1 g.1, e.2 * g.2)) c = (prodL op b c).map fun g => (op e.1 g.1, e.2 * g.2)
  | [] => rfl
  | g :: r => by
    have ih := prodL_row h e c r
    show (c.map fun x => (op (op e.1 g.1) x.1, e.2 * g.2 * x.2)) ++ prodL op (r.map _) c = ((c.map fun x => (op g.1 x.1, g.2 * x.2)) ++ prodL op r c).map _
    rw [ih, List.map_append, List.map_map]
    refine congrArg (· ++ _) (List.map_congr_left fun x _ => ?_)
    show (op (op e.1 g.1) x.1, e.2 * g.2 * x.2) = (op e.1 (op g.1 x.1), e.2 * (g.2 * x.2))
    rw [h, Int.mul_assoc]
theorem prodL_assoc {op : Pl → Pl → Pl} (h : ∀ k l m, op (op k l) m = op k (op l m)) (b c : List Ent) : ∀ a : List Ent, prodL op (prodL op a b) c = prodL op a (prodL op b c)
  | [] => rfl
  | e :: r => by
    have ih := prodL_assoc h b c r
    show prodL op ((b.map fun g => (op e.1 g.1, e.2 * g.2)) ++ prodL op r b) c = ((prodL op b c).map fun g => (op e.1 g.1, e.2 * g.2)) ++ prodL op r (prodL op b c)
    rw [prodL_app, ih, prodL_row h]
theorem prodL_map {op : Pl → Pl → Pl} {f : Pl → Pl} (h : ∀ k l, f (op k l) = op (f k) (f l)) (b : List Ent) : ∀ a : List Ent, mapF f (prodL op a b) = prodL op (mapF f a) (mapF f b)
  | [] => rfl
  | e :: r => by
    have ih := prodL_map h b r
    show ((b.map fun g => (op e.1 g.1, e.2 * g.2)) ++ prodL op r b).map _ = ((mapF f b).map fun g : Ent => (op (f e.1) g.1, e.2 * g.2)) ++ prodL op (mapF f r) (mapF f b)
    rw [List.map_append, show (prodL op r b).map (fun e => (f e.1, e.2)) = mapF f (prodL op r b) from rfl, ih, List.map_map, show mapF f b = b.map (fun e => (f e.1, e.2)) from rfl, List.map_map]
    refine congrArg (· ++ _) (List.map_congr_left fun g _ => ?_)
    show (f (op e.1 g.1), e.2 * g.2) = (op (f e.1) (f g.1), e.2 * g.2)
    rw [h]
/-- (a b)(c d) is (a c)(b d) -/
theorem prodL_four {op : Pl → Pl → Pl} (hc : ∀ k l, op k l = op l k) (ha : ∀ k l m, op (op k l) m = op k (op l m)) (a b c d : List Ent) (q : Pl) : numAt (prodL op (prodL op a b) (prodL op c d)) q = numAt (prodL op (prodL op a c) (prodL op b d)) q := by
  rw [prodL_assoc ha, prodL_assoc ha]
  refine numAt_prodL_eq op (fun _ => rfl) (fun q => ?_) q
  rw [← prodL_assoc ha, ← prodL_assoc ha]
  exact numAt_prodL_eq op (prodL_comm hc b c) (fun _ => rfl) q
end OT

set_option Elab.async false
set_option linter.all false
/- numbers joined into one great number, and taken apart again -/
namespace CP
def val (B : Int) : List Int → Int
  | [] => 0
  | a :: r => a + B * val B r
def pairUp (B : Int) : List Int → List Int
  | [] => []
  | [a] => [a + 0 * B]
  | a :: b :: r => (a + b * B) :: pairUp B r
theorem val_pairUp (B : Int) : ∀ ds : List Int, val (B * B) (pairUp B ds) = val B ds
  | [] => rfl
  | [a] => by simp [pairUp, val]
  | a :: b :: r => by
    simp only [pairUp, val]
    rw [val_pairUp B r, Int.mul_add, Int.mul_comm b B, ← Int.mul_assoc, Int.add_assoc]
theorem pairUp_len (B : Int) : ∀ ds : List Int, (pairUp B ds).length = (ds.length + 1) / 2
  | [] => rfl
  | [a] => by simp [pairUp]
  | a :: b :: r => by
    simp only [pairUp, List.length_cons]
    rw [pairUp_len B r]
    omega
theorem val_one (B a : Int) : val B [a] = a := by simp [val]
/-- the sum of the first n -/
def sumTo : Nat → (Nat → Int) → Int
  | 0, _ => 0
  | n + 1, g => sumTo n g + g n
theorem sumTo_congr {g h : Nat → Int} : ∀ {n : Nat}, (∀ i, i < n → g i = h i) → sumTo n g = sumTo n h
  | 0, _ => rfl
  | n + 1, e => by
    show sumTo n g + g n = sumTo n h + h n
    rw [sumTo_congr fun i hi => e i (by omega), e n (by omega)]
theorem sumTo_add (m : Nat) (g : Nat → Int) : ∀ n : Nat, sumTo (m + n) g = sumTo m g + sumTo n fun t => g (m + t)
  | 0 => (Int.add_zero _).symm
  | n + 1 => by
    show sumTo (m + n) g + g (m + n) = sumTo m g + (sumTo n (fun t => g (m + t)) + g (m + n))
    rw [sumTo_add m g n, Int.add_assoc]
theorem sumTo_mul (c : Int) (g : Nat → Int) : ∀ n : Nat, c * sumTo n g = sumTo n fun t => c * g t
  | 0 => Int.mul_zero c
  | n + 1 => by
    show c * (sumTo n g + g n) = sumTo n (fun t => c * g t) + c * g n
    rw [Int.mul_add, sumTo_mul c g n]
theorem sumTo_zero {g : Nat → Int} : ∀ {n : Nat}, (∀ i, i < n → g i = 0) → sumTo n g = 0
  | 0, _ => rfl
  | n + 1, e => by
    show sumTo n g + g n = 0
    rw [sumTo_zero fun i hi => e i (by omega), e n (by omega)]
    rfl
theorem val_sum (B : Int) : ∀ ds : List Int, val B ds = sumTo ds.length fun i => ds.getD i 0 * B ^ i
  | [] => rfl
  | a :: r => by
    show a + B * val B r = sumTo (r.length + 1) _
    rw [Nat.add_comm, sumTo_add, val_sum B r, sumTo_mul]
    show _ = (0 + a * B ^ 0) + _
    rw [Int.pow_zero, Int.mul_one, Int.zero_add]
    refine congrArg (a + ·) (sumTo_congr fun i _ => ?_)
    show B * (r.getD i 0 * B ^ i) = (a :: r).getD (1 + i) 0 * B ^ (1 + i)
    rw [Nat.add_comm 1 i, Int.pow_succ, List.getD_cons_succ, Int.mul_left_comm, Int.mul_comm B]
/-- chunk i of level j -/
def V (B : Int) (f : Nat → Int) : Nat → Nat → Int
  | 0, i => f i
  | j + 1, i => V B f j (2 * i) + B ^ (2 ^ j) * V B f j (2 * i + 1)
theorem V_sum (B : Int) (f : Nat → Int) : ∀ j i : Nat, V B f j i = sumTo (2 ^ j) fun t => f (i * 2 ^ j + t) * B ^ t
  | 0, i => by
    show f i = 0 + f (i * 1 + 0) * B ^ 0
    rw [Int.pow_zero, Int.mul_one, Int.zero_add, Nat.mul_one, Nat.add_zero]
  | j + 1, i => by
    show V B f j (2 * i) + B ^ (2 ^ j) * V B f j (2 * i + 1) = _
    rw [V_sum B f j, V_sum B f j, Nat.pow_succ, Nat.mul_two, sumTo_add, sumTo_mul]
    refine congr (congrArg _ (sumTo_congr fun t _ => ?_)) (sumTo_congr fun t _ => ?_)
    · rw [show 2 * i * 2 ^ j + t = i * (2 ^ j + 2 ^ j) + t by rw [Nat.mul_add, Nat.mul_assoc, Nat.two_mul]]
    · rw [show (2 * i + 1) * 2 ^ j + t = i * (2 ^ j + 2 ^ j) + (2 ^ j + t) by rw [Nat.add_mul, Nat.mul_add, Nat.mul_assoc, Nat.two_mul, Nat.one_mul, Nat.add_assoc], Int.pow_add, Int.mul_left_comm]
theorem V_top (B : Int) (f : Nat → Int) {k n : Nat} (hn : n ≤ 2 ^ k) (hf : ∀ i, n ≤ i → f i = 0) : V B f k 0 = sumTo n fun t => f t * B ^ t := by
  rw [V_sum, show 2 ^ k = n + (2 ^ k - n) by omega, sumTo_add]
  have h1 : (sumTo (2 ^ k - n) fun t => f (0 * (n + (2 ^ k - n)) + (n + t)) * B ^ (n + t)) = 0 := sumTo_zero fun i _ => by
    rw [hf _ (by omega), Int.zero_mul]
  rw [h1, Int.add_zero]
  exact sumTo_congr fun i _ => by rw [Nat.zero_mul, Nat.zero_add]
/-- what a level's chunks are below -/
theorem V_bound {B : Int} (hB : 2 ≤ B) {f : Nat → Int} (hf : ∀ i, -(B - 2) ≤ 2 * f i ∧ 2 * f i ≤ B - 2) : ∀ j i : Nat, -(B ^ (2 ^ j) - 2) ≤ 2 * V B f j i ∧ 2 * V B f j i ≤ B ^ (2 ^ j) - 2
  | 0, i => by
    rw [show B ^ (2 ^ 0) = B from Int.pow_succ B 0 |>.trans (by rw [Int.pow_zero, Int.one_mul])]
    exact hf i
  | j + 1, i => by
    have h1 := V_bound hB hf j (2 * i)
    have h2 := V_bound hB hf j (2 * i + 1)
    have hX : 2 ≤ B ^ (2 ^ j) := by omega
    have eV : V B f (j + 1) i = V B f j (2 * i) + B ^ (2 ^ j) * V B f j (2 * i + 1) := rfl
    rw [eV, Nat.pow_succ, Nat.mul_two, Int.pow_add]
    generalize V B f j (2 * i) = a at h1
    generalize V B f j (2 * i + 1) = b at h2
    generalize B ^ (2 ^ j) = X at h1 h2 hX
    have e : 2 * (a + X * b) = 2 * a + X * (2 * b) := by
      rw [Int.mul_add, Int.mul_left_comm]
    rw [e]
    have h3 : X * (2 * b) ≤ X * (X - 2) := Int.mul_le_mul_of_nonneg_left h2.2 (by omega)
    have h4 : X * (-(X - 2)) ≤ X * (2 * b) := Int.mul_le_mul_of_nonneg_left h2.1 (by omega)
    rw [Int.mul_neg, Int.mul_sub] at h4
    rw [Int.mul_sub] at h3
    generalize X * (2 * b) = y at h3 h4
    generalize X * X = z at h3 h4
    omega
/-- the balanced low digit -/
def low (X n : Int) : Int := (n + X / 2) % X - X / 2
theorem low_of {X a b : Int} (hX : 2 ≤ X) (he : X % 2 = 0) (h1 : -(X - 2) ≤ 2 * a) (h2 : 2 * a ≤ X - 2) : low X (a + X * b) = a ∧ (a + X * b - a) / X = b := by
  constructor
  · unfold low
    rw [show a + X * b + X / 2 = (a + X / 2) + X * b by omega, Int.add_mul_emod_self_left, Int.emod_eq_of_lt (by omega) (by omega)]
    omega
  · rw [show a + X * b - a = X * b by omega, Int.mul_ediv_cancel_left _ (by omega)]
theorem range_two {α : Type} (g : Nat → α) : ∀ m : Nat, ((List.range m).flatMap fun i => [g (2 * i), g (2 * i + 1)]) = (List.range (2 * m)).map g
  | 0 => rfl
  | m + 1 => by
    rw [List.range_succ, List.flatMap_append, range_two g m, show 2 * (m + 1) = 2 * m + 1 + 1 by omega, List.range_succ, List.range_succ, List.map_append, List.map_append, List.append_assoc]
    rfl
/-- a level taken apart -/
theorem split_step {B : Int} (hB : 2 ≤ B) (he : B % 2 = 0) {f : Nat → Int} (hf : ∀ i, -(B - 2) ≤ 2 * f i ∧ 2 * f i ≤ B - 2) (j m : Nat) :
    (((List.range m).map (V B f (j + 1))).flatMap fun d => [low (B ^ (2 ^ j)) d, (d - low (B ^ (2 ^ j)) d) / B ^ (2 ^ j)]) = (List.range (2 * m)).map (V B f j) := by
  rw [← range_two, List.flatMap_map]
  refine congrArg (List.flatMap · (List.range m)) (funext fun i => ?_) |>.trans rfl
  have h := V_bound hB hf j (2 * i)
  have hX : 2 ≤ B ^ (2 ^ j) := by
    have := V_bound hB hf j 0
    omega
  have hev : B ^ (2 ^ j) % 2 = 0 := by
    have : 0 < 2 ^ j := Nat.pow_pos (by decide)
    obtain ⟨t, ht⟩ : ∃ t, 2 ^ j = t + 1 := ⟨2 ^ j - 1, by omega⟩
    rw [ht, Int.pow_succ, Int.mul_emod, he, Int.mul_zero]
    rfl
  obtain ⟨e1, e2⟩ := low_of (b := V B f j (2 * i + 1)) hX hev h.1 h.2
  have eV : V B f (j + 1) i = V B f j (2 * i) + B ^ (2 ^ j) * V B f j (2 * i + 1) := rfl
  show [low (B ^ 2 ^ j) (V B f (j + 1) i), (V B f (j + 1) i - low (B ^ 2 ^ j) (V B f (j + 1) i)) / B ^ 2 ^ j] = _
  rw [eV, e1, e2]
end CP

set_option Elab.async false
set_option linter.all false
set_option maxRecDepth 100000
set_option maxHeartbeats 2000000
namespace OT
open PySem PySem.Spec PyProof.Rows L2
/-- the place within the box -/
inductive InD : Pl → Pl → Pl → Prop
  | nil : InD [] [] []
  | cons {x l s : Int} {p ls ss : Pl} : l ≤ x → x < l + s → InD p ls ss → InD (x :: p) (l :: ls) (s :: ss)
/-- digit_at -/
def dgA : Int → Pl → Pl → Pl → Int
  | acc, x :: p, l :: ls, s :: ss => dgA (acc * s + x - l) p ls ss
  | acc, _, _, _ => acc
/-- place_at, from the last coordinate on -/
def plR : Int → Pl → Pl → Pl
  | i, l :: ls, s :: ss => (l + i % s) :: plR (i / s) ls ss
  | _, _, _ => []
/-- how many places -/
def boxN2 : Pl → Int
  | [] => 1
  | s :: ss => s * boxN2 ss
theorem InD.len {p ls ss : Pl} (h : InD p ls ss) : p.length = ls.length ∧ ls.length = ss.length := by
  induction h with
  | nil => exact ⟨rfl, rfl⟩
  | cons _ _ _ ih => exact ⟨congrArg (· + 1) ih.1, congrArg (· + 1) ih.2⟩
theorem dg_snoc {p ls ss : Pl} (h : InD p ls ss) (x l s : Int) : ∀ acc, dgA acc (p ++ [x]) (ls ++ [l]) (ss ++ [s]) = dgA acc p ls ss * s + x - l := by
  induction h with
  | nil => intro acc; rfl
  | cons _ _ _ ih => intro acc; exact ih _
theorem dg_lt {p q ls ss : Pl} (h : InD p ls ss) (g : InD q ls ss) : ∀ {a b : Int}, a < b → dgA a p ls ss < dgA b q ls ss := by
  induction h generalizing q with
  | nil =>
    cases g
    intro a b h
    exact h
  | cons h1 h2 h3 ih =>
    rename_i x l s p ls ss
    cases g with
    | cons g1 g2 g3 =>
      rename_i y
      intro a b hab
      refine ih g3 ?_
      have e1 : (a + 1) * s ≤ b * s := Int.mul_le_mul_of_nonneg_right (by omega) (by omega)
      rw [Int.add_mul, Int.one_mul] at e1
      omega
theorem dg_mono {p q ls ss : Pl} (h : InD p ls ss) (g : InD q ls ss) : ∀ {a : Int}, HT.lexLt p q = true → dgA a p ls ss < dgA a q ls ss := by
  induction h generalizing q with
  | nil =>
    cases g
    intro a h
    cases h
  | cons h1 h2 h3 ih =>
    rename_i x l s p ls ss
    cases g with
    | cons g1 g2 g3 =>
      rename_i y q
      intro a hlt
      rw [HT.lexLt_cons] at hlt
      by_cases c : x = y
      · rw [if_pos c] at hlt
        subst c
        exact ih g3 hlt
      · rw [if_neg c] at hlt
        have c2 : x < y := of_decide_eq_true hlt
        exact dg_lt h3 g3 (by omega)
theorem dg_low {p ls ss : Pl} (h : InD p ls ss) : ∀ {a : Int}, 0 ≤ a → 0 ≤ dgA a p ls ss := by
  induction h with
  | nil => intro a h; exact h
  | cons h1 h2 h3 ih =>
    rename_i x l s p ls ss
    intro a ha
    refine ih ?_
    have : 0 ≤ a * s := Int.mul_nonneg ha (by omega)
    omega
theorem dg_high {p ls ss : Pl} (h : InD p ls ss) : ∀ {a : Int}, dgA a p ls ss < (a + 1) * boxN2 ss := by
  induction h with
  | nil => intro a; show a < (a + 1) * 1; omega
  | cons h1 h2 h3 ih =>
    rename_i x l s p ls ss
    intro a
    refine Int.lt_of_lt_of_le ih ?_
    show (a * s + x - l + 1) * boxN2 ss ≤ (a + 1) * (s * boxN2 ss)
    rw [← Int.mul_assoc]
    refine Int.mul_le_mul_of_nonneg_right ?_ ?_
    · rw [Int.add_mul]
      omega
    · clear ih
      induction h3 with
      | nil => decide
      | cons k1 k2 k3 ih2 =>
        exact Int.mul_nonneg (by omega) ih2
theorem dg_plus {ss : Pl} : ∀ {p q ls ms : Pl} {a b : Int}, p.length = ss.length → q.length = ss.length → ls.length = ss.length → ms.length = ss.length → dgA a p ls ss + dgA b q ms ss = dgA (a + b) (List.zipWith (· + ·) p q) (List.zipWith (· + ·) ls ms) ss := by
  induction ss with
  | nil =>
    intro p q ls ms a b h1 h2 h3 h4
    obtain rfl := List.length_eq_zero_iff.mp h1
    obtain rfl := List.length_eq_zero_iff.mp h2
    obtain rfl := List.length_eq_zero_iff.mp h3
    obtain rfl := List.length_eq_zero_iff.mp h4
    rfl
  | cons s ss ih =>
    intro p q ls ms a b h1 h2 h3 h4
    obtain ⟨x, p, rfl⟩ : ∃ x p', p = x :: p' := List.exists_cons_of_length_eq_add_one h1
    obtain ⟨y, q, rfl⟩ : ∃ x p', q = x :: p' := List.exists_cons_of_length_eq_add_one h2
    obtain ⟨l, ls, rfl⟩ : ∃ x p', ls = x :: p' := List.exists_cons_of_length_eq_add_one h3
    obtain ⟨k, ms, rfl⟩ : ∃ x p', ms = x :: p' := List.exists_cons_of_length_eq_add_one h4
    show dgA (a * s + x - l) p ls ss + dgA (b * s + y - k) q ms ss = dgA ((a + b) * s + (x + y) - (l + k)) (List.zipWith (· + ·) p q) (List.zipWith (· + ·) ls ms) ss
    rw [ih (Nat.succ.inj h1) (Nat.succ.inj h2) (Nat.succ.inj h3) (Nat.succ.inj h4), Int.add_mul]
    congr 1
    omega
theorem InD.append {p ls ss q ms ts : Pl} (h : InD p ls ss) (g : InD q ms ts) : InD (p ++ q) (ls ++ ms) (ss ++ ts) := by
  induction h with
  | nil => exact g
  | cons h1 h2 _ ih => exact .cons h1 h2 ih
theorem InD.rev {p ls ss : Pl} (h : InD p ls ss) : InD p.reverse ls.reverse ss.reverse := by
  induction h with
  | nil => exact .nil
  | cons h1 h2 _ ih =>
    rw [List.reverse_cons, List.reverse_cons, List.reverse_cons]
    exact ih.append (.cons h1 h2 .nil)
/-- digit_at of turned lists -/
def dgR : Pl → Pl → Pl → Int
  | x :: p, l :: ls, s :: ss => dgR p ls ss * s + x - l
  | _, _, _ => 0
theorem dg_rev {p ls ss : Pl} (h : InD p ls ss) : dgA 0 p.reverse ls.reverse ss.reverse = dgR p ls ss := by
  induction h with
  | nil => rfl
  | cons h1 h2 h3 ih =>
    rw [List.reverse_cons, List.reverse_cons, List.reverse_cons, dg_snoc h3.rev, ih]
    rfl
theorem plR_dg {p ls ss : Pl} (h : InD p ls ss) : plR (dgR p ls ss) ls ss = p := by
  induction h with
  | nil => rfl
  | cons h1 h2 h3 ih =>
    rename_i x l s p ls ss
    show (l + (dgR p ls ss * s + x - l) % s) :: plR ((dgR p ls ss * s + x - l) / s) ls ss = x :: p
    rw [show dgR p ls ss * s + x - l = (x - l) + s * dgR p ls ss by rw [Int.mul_comm]; omega, Int.add_mul_emod_self_left, Int.emod_eq_of_lt (by omega) (by omega), Int.add_mul_ediv_left _ _ (by omega), Int.ediv_eq_zero_of_lt (by omega) (by omega), Int.zero_add, ih]
    congr 1
    omega
theorem plR_in : ∀ {ls ss : Pl} {i : Int}, ls.length = ss.length → (∀ s ∈ ss, 0 < s) → 0 ≤ i → i < boxN2 ss → InD (plR i ls ss) ls ss ∧ dgR (plR i ls ss) ls ss = i
  | [], [], i, _, _, h0, h1 => ⟨.nil, by
    have h1 : i < 1 := h1
    show 0 = i
    omega⟩
  | l :: ls, s :: ss, i, hl, hp, h0, h1 => by
    have hs := hp s List.mem_cons_self
    have h1 : i < s * boxN2 ss := h1
    have e1 := Int.emod_nonneg i (show s ≠ 0 by omega)
    have e2 := Int.emod_lt_of_pos i hs
    have e3 := Int.mul_ediv_add_emod i s
    have hq : 0 ≤ i / s := Int.ediv_nonneg h0 (by omega)
    have hq2 : i / s < boxN2 ss := Int.ediv_lt_of_lt_mul hs (by rw [Int.mul_comm]; exact h1)
    obtain ⟨k1, k2⟩ := plR_in (Nat.succ.inj hl) (fun x hx => hp x (List.mem_cons_of_mem _ hx)) hq hq2
    refine ⟨.cons (by omega) (by omega) k1, ?_⟩
    show dgR (plR (i / s) ls ss) ls ss * s + (l + i % s) - l = i
    rw [k2, Int.mul_comm]
    omega
theorem boxN2_rev : ∀ ss : Pl, boxN2 ss.reverse = boxN2 ss := by
  have app : ∀ a b : Pl, boxN2 (a ++ b) = boxN2 a * boxN2 b := fun a b => by
    induction a with
    | nil => exact (Int.one_mul _).symm
    | cons s a ih =>
      show s * boxN2 (a ++ b) = s * boxN2 a * boxN2 b
      rw [ih, Int.mul_assoc]
  intro ss
  induction ss with
  | nil => rfl
  | cons s ss ih =>
    rw [List.reverse_cons, app, ih]
    show boxN2 ss * (s * 1) = s * boxN2 ss
    rw [Int.mul_one, Int.mul_comm]
/-- place_at -/
def plA (i : Int) (ls ss : Pl) : Pl := (plR i ls.reverse ss.reverse).reverse
theorem plA_dg {p ls ss : Pl} (h : InD p ls ss) : plA (dgA 0 p ls ss) ls ss = p := by
  have h1 := plR_dg h.rev
  have h2 := dg_rev h.rev
  rw [List.reverse_reverse, List.reverse_reverse, List.reverse_reverse] at h2
  unfold plA
  rw [h2, h1, List.reverse_reverse]
theorem plA_in {ls ss : Pl} {i : Int} (hl : ls.length = ss.length) (hp : ∀ s ∈ ss, 0 < s) (h0 : 0 ≤ i) (h1 : i < boxN2 ss) : InD (plA i ls ss) ls ss ∧ dgA 0 (plA i ls ss) ls ss = i := by
  obtain ⟨k1, k2⟩ := plR_in (ls := ls.reverse) (ss := ss.reverse) (by rw [List.length_reverse, List.length_reverse, hl]) (fun s hs => hp s (List.mem_reverse.mp hs)) h0 (by rw [boxN2_rev]; exact h1)
  have k3 := k1.rev
  rw [List.reverse_reverse, List.reverse_reverse] at k3
  refine ⟨k3, ?_⟩
  have h2 := dg_rev k1
  rw [List.reverse_reverse, List.reverse_reverse, k2] at h2
  exact h2
/-- in order -/
theorem plA_lt {ls ss : Pl} {i j : Int} (hl : ls.length = ss.length) (hp : ∀ s ∈ ss, 0 < s) (h0 : 0 ≤ i) (hij : i < j) (h1 : j < boxN2 ss) : HT.lexLt (plA i ls ss) (plA j ls ss) = true := by
  obtain ⟨a1, a2⟩ := plA_in hl hp h0 (show i < boxN2 ss by omega)
  obtain ⟨b1, b2⟩ := plA_in hl hp (show 0 ≤ j by omega) h1
  cases c : HT.lexLt (plA i ls ss) (plA j ls ss) with
  | true => rfl
  | false =>
    cases d : HT.lexLt (plA j ls ss) (plA i ls ss) with
    | true =>
      have := dg_mono b1 a1 (a := 0) d
      omega
    | false =>
      have e := lt_tot c d
      rw [e, b2] at a2
      omega
end OT

set_option Elab.async false
set_option linter.all false
set_option maxRecDepth 100000
set_option maxHeartbeats 4000000
/-! sum of a list of ints while an error is held -/
namespace HP
open PySem PySem.Spec PyProof.Rows L2 HotX
theorem walks_listHot {prog : Program} {w : World} {A : Around} (hh : A.handled = some (.ref x1)) (I ax : Addr) (hne : ax ≠ I) (items : Array Value) :
    Walks prog w A I [I, ax, x1] [I] items.size (fun i v => items[i]? = some v) (fun i h => h.IsListIter I ax i ∧ h.IsList ax items ∧ HotAt A x1 h) where
  sub := fun b hb => by simp at hb; simp [hb]
  frame := fun _ _ _ st hk => ⟨st.1.at fun o e => hk I (by simp) o e, st.2.1.at fun o e => hk ax (by simp) o e, by
    obtain ⟨h1, o, vs, h2, h3, h4⟩ := st.2.2
    exact ⟨h1, o, vs, hk x1 (by simp) o h2, h3, h4⟩⟩
  item := fun i s Q E hi st hQ => by
    have hx : x1 ≠ I := by
      obtain ⟨o, ho, hc, hd⟩ := id st.1
      exact hot_ne st.2.2 ho hd
    refine wpAny_pyNext_list_item st.1 st.2.1 (x := items[i]) (by simp [hi]) fun h' hit' hs' => ?_
    refine hQ _ h' s.toks (by simp [hi]) ⟨hit', st.2.1.extBut hs'.extBut hne, ?_⟩ fun b o hb e => hs'.extBut b o (fun h => hb (by simp [h])) e
    obtain ⟨h1, o, vs, h2, h3, h4⟩ := st.2.2
    exact ⟨h1, o, vs, hs'.extBut x1 o hx h2, h3, h4⟩
  done := fun s Q E st hQ => list_end_hot st.2.2 st.1 st.2.1 (by simp) fun h' he' => hQ h' s.toks fun b o hb e => he' b o (fun h => hb (by simp [h])) e
  self := fun _ _ _ _ st hQ => wpAny_pyIter_listiter st.1 hQ
section
variable {prog : Program} {w : World} {A : Around} {E : Value → Shared → Prop} {s : Shared} {l x1 : Addr}
theorem sum_hot {xs : Array (Int × Tok)} {Q : Value → Shared → Prop} (hot : HotAt A x1 s.heap) (hl : s.heap.IsList l (intItems xs))
    (h : ∀ h' tk t', (∀ b o, s.heap.get? b = some o → h'.get? b = some o) → Q (.int (preSum (numAt xs) xs.size) t') { s with heap := h', toks := tk }) :
    wpAny (model prog w) A (call (.builtin "sum") [.ref l]) Q E s := by
  refine call_sum_walkG (iter_intList hl fun s₂ e st hfp hlI => ?_)
  subst e
  refine ⟨_, _, _, _, _, _, numAt xs, rfl, walks_listHot (A := A.in1) hot.1 _ l hlI (intItems xs), ⟨st.1, st.2, hot_push ⟨hot.1, hot.2⟩⟩, fun b hb => ?_, (fun _ _ => intItems_at), fun h' tk t' hk => ?_⟩
  · rcases List.mem_cons.mp hb with rfl | hb
    · exact hfp _ (by simp)
    rcases List.mem_cons.mp hb with rfl | hb
    · exact hfp _ (by simp)
    rw [List.mem_singleton.mp hb]
    exact hot_lt (hot_push hot)
  have := h h' tk t' (old_kept hk)
  simpa [intItems] using this
theorem sum_rawH {its : List Value} {ns : List Int} {Q : Value → Shared → Prop} (hot : HotAt A x1 s.heap) (hl : s.heap.IsList l its.toArray) (hi : IntsAre its ns)
    (h : ∀ h' tk t', (∀ b o, s.heap.get? b = some o → h'.get? b = some o) → Q (.int ns.sum t') { s with heap := h', toks := tk }) : wpAny (model prog w) A (call (.builtin "sum") [.ref l]) Q E s := by
  obtain ⟨xs, e⟩ := hi.allInts.items
  have hn : numsOf (intItems xs).toList = ns := by rw [← e]; exact hi.numsOf
  rw [nums_intItems] at hn
  rw [e] at hl
  refine sum_hot hot hl fun h' tk t' hk => ?_
  have := h h' tk t' hk
  rw [preSum_eq, List.take_of_length_le (by simp), hn]; exact this
end
section
variable {X : Cx}
theorem cr_sumH (hc : L2H.HotC X) : CallR X (.builtin "sum") (rSum X.K) := by
  intro pins s σ H vs us Q I r h
  obtain ⟨a, ns, rfl, hs, q⟩ := h
  obtain ⟨its, rv, hl, _⟩ := I.list hs
  obtain ⟨x1, hot⟩ := hc.at I
  rw [Vals.ref1 r]
  exact sum_rawH hot hl.isList rv.ints fun h' tk t' hk => ⟨.int _, H, I.kept hk, ⟨_, rfl⟩, q⟩
end
end HP

set_option Elab.async false
set_option linter.all false
set_option maxRecDepth 100000
set_option maxHeartbeats 2000000
/-! zip of three, lists and tuples in any mix -/
namespace Z3
open PySem PySem.Spec PyProof.Rows L2
def SqB (K : PySem.W.Frag) (k : Bool) (H : Hp) (a : Addr) (xs : List V) : Prop := match k with | true => SqT K H a xs | false => SqL K H a xs
def itB (k : Bool) (h : Heap) (it a : Addr) (i : Nat) : Prop := match k with | true => h.IsTupleIter it a i | false => h.IsListIter it a i
def isB (k : Bool) (h : Heap) (a : Addr) (us : Array Value) : Prop := match k with | true => h.IsTuple a us | false => h.IsList a us
def objB (k : Bool) (a : Addr) : Obj := match k with | true => { cls := .type "tuple_iterator", data := .fields #[.ref a, .int 0 0] } | false => { cls := .type "list_iterator", data := .fields #[.ref a, .int 0 0] }
theorem drawsB {prog : Program} {w : World} {A : Around} (hh : A.handled = none) (k : Bool) (it a : Addr) (hne : a ≠ it) (us : Array Value) : Draws prog w A it [it, a] us.size (fun i v => us[i]? = some v) (fun i h => itB k h it a i ∧ isB k h a us) := by
  cases k
  · exact Draws.list hh it a hne us
  · exact Draws.tuple hh it a hne us
theorem beginsB (k : Bool) (a : Addr) (us : Array Value) : Begins (.ref a) (objB k a) (fun h => isB k h a us) := by
  cases k
  · exact begins_list a us
  · exact begins_tuple a us
theorem itB_obj {k : Bool} {h : Heap} {it a : Addr} {i : Nat} (p : itB k h it a i) : ∃ o, h.get? it = some o ∧ ∀ v, o.data ≠ .cell v := by
  cases k <;> (obtain ⟨o, e, _, d⟩ := p; exact ⟨o, e, fun v q => by rw [d] at q; cases q⟩)
theorem itB_keep {k : Bool} {h g : Heap} {it a : Addr} {i : Nat} (p : itB k h it a i) (q : ∀ o, h.get? it = some o → g.get? it = some o) : itB k g it a i := by
  cases k
  · exact Heap.IsListIter.at p fun o e => q o e
  · exact Heap.IsTupleIter.at p fun o e => q o e
theorem itB_start (k : Bool) {h : Heap} {it a : Addr} (p : h.get? it = some (objB k a)) : itB k h it a 0 := by
  cases k
  · exact ⟨_, p, rfl, rfl⟩
  · exact ⟨_, p, rfl, rfl⟩
section
variable {X : Cx} {pins : List (Addr × Obj)} {σ : L2.St} {H : Hp} {s : Shared}
theorem invB (I : Inv X pins σ H s) {k : Bool} {a : Addr} {xs : List V} (h : SqB X.K k H a xs) : ∃ us : List Value, Vals xs us ∧ isB k s.heap a us.toArray ∧ a < s.heap.objs.size := by
  cases k
  · obtain ⟨us, r, p, _⟩ := I.list h
    exact ⟨us, r, p.isList, p.lt⟩
  · obtain ⟨us, r, p, _⟩ := I.tuple h
    obtain ⟨o, e, _⟩ := id p
    exact ⟨us, r, p, Heap.lt_size e⟩
theorem injB (I : Inv X pins σ H s) {k : Bool} {a : Addr} {xs ys : List V} (h : SqB X.K k H a xs) (g : SqB X.K k H a ys) : xs = ys := by
  cases k
  · exact I.list_inj h g
  · exact I.tuple_inj h g
end
def It3 (K : PySem.W.Frag) (k1 k2 k3 : Bool) (a b c : Addr) : It :=
  ⟨fun i H => ∃ xs ys zs x y z, SqB K k1 H a xs ∧ SqB K k2 H b ys ∧ SqB K k3 H c zs ∧ xs[i]? = some x ∧ ys[i]? = some y ∧ zs[i]? = some z,
   fun i H v H' => ∃ T x y z, v = .ref T ∧ H T = none ∧ H' = upd H T (.tup [x, y, z]) ∧ (∀ xs, SqB K k1 H a xs → xs[i]? = some x) ∧ (∀ ys, SqB K k2 H b ys → ys[i]? = some y) ∧ ∀ zs, SqB K k3 H c zs → zs[i]? = some z,
   fun i H => ∃ xs ys zs, SqB K k1 H a xs ∧ SqB K k2 H b ys ∧ SqB K k3 H c zs ∧ i = min (min xs.length ys.length) zs.length⟩
theorem mem6 {c z TI TO i1 i2 i3 : Addr} (h : c ∈ [z, TI, TO, i1, i2, i3]) : c = z ∨ c = TI ∨ c = TO ∨ c = i1 ∨ c = i2 ∨ c = i3 := by simpa using h
theorem sub56 {d z TI TO i1 i2 i3 : Addr} (h : d ∈ [z, TO, i1, i2, i3]) : d ∈ [z, TI, TO, i1, i2, i3] := by
  rcases List.mem_cons.mp h with rfl | h
  · exact List.mem_cons_self
  · exact List.mem_cons_of_mem _ (List.mem_cons_of_mem _ h)
theorem turn_zip3 {P : Program} {w : World} {K : PySem.W.Frag} {elts : List Expr} {kk : Nat} {tpos : Pos} {k1 k2 k3 : Bool} {a b c z TI TO i1 i2 i3 : Addr} (S : ZipSep3 z TI TO i1 i2 i3 [i1, a] [i2, b] [i3, c]) (n1 : a ≠ i1) (n2 : b ≠ i2) (n3 : c ≠ i3) :
    Turn P w K (.Tuple elts kk tpos) (It3 K k1 k2 k3 a b c) [z, TI, TO, i1, i2, i3] z (fun i h => IsZip h z TI TO .none ∧ IsTupOf3 h TI (.ref i1) (.ref i2) (.ref i3) ∧ (∃ x y u, IsTupOf3 h TO x y u) ∧ itB k1 h i1 a i ∧ itB k2 h i2 b i ∧ itB k3 h i3 c i) := by
  refine ⟨by simp, fun i h st d hd => ?_, fun i h g st k => ?_, ?_, ?_, fun A i s Q E st h => wpAny_pyIter_zip st.1 h⟩
  · obtain ⟨hz, hI, ⟨x, y, u, hO⟩, h1, h2, h3⟩ := st
    rcases mem6 hd with rfl | rfl | rfl | rfl | rfl | rfl
    · exact ⟨_, hz, fun v q => nomatch q⟩
    · exact ⟨_, hI, fun v q => nomatch q⟩
    · exact ⟨_, hO, fun v q => nomatch q⟩
    · exact itB_obj h1
    · exact itB_obj h2
    · exact itB_obj h3
  · obtain ⟨hz, hI, ⟨x, y, u, hO⟩, h1, h2, h3⟩ := st
    exact ⟨k z (by simp) _ hz, k TI (by simp) _ hI, ⟨x, y, u, k TO (by simp) _ hO⟩, itB_keep h1 fun o q => k i1 (by simp) o q, itB_keep h2 fun o q => k i2 (by simp) o q, itB_keep h3 fun o q => k i3 (by simp) o q⟩
  · intro X hP hw hK hc i pins s σ H E I hf st hg
    subst hP hw hK
    obtain ⟨hz, hI, hO, h1, h2, h3⟩ := st
    obtain ⟨xs, ys, zs, x, y, u, qa, qb, qc, hx, hy, hu⟩ := hg
    obtain ⟨us1, ra, pa, _⟩ := invB I qa
    obtain ⟨us2, rb, pb, _⟩ := invB I qb
    obtain ⟨us3, rc, pc, _⟩ := invB I qc
    obtain ⟨v1, e1, r1⟩ := ra.get hx
    obtain ⟨v2, e2, r2⟩ := rb.get hy
    obtain ⟨v3, e3, r3⟩ := rc.get hu
    have l1 := (List.getElem?_eq_some_iff.mp e1).1
    have l2 := (List.getElem?_eq_some_iff.mp e2).1
    have l3 := (List.getElem?_eq_some_iff.mp e3).1
    have hh : X.A.in1.handled = none := I.ok.hd hc
    have W := GoesN.zip3 (elts := elts) (x1 := kk) (pos := tpos) S (drawsB (prog := X.prog) (w := X.w) hh k1 i1 a n1 us1.toArray) (drawsB (prog := X.prog) (w := X.w) hh k2 i2 b n2 us2.toArray) (drawsB (prog := X.prog) (w := X.w) hh k3 i3 c n3 us3.toArray)
    refine W.goes i s _ E (by simp; omega) ⟨hz, hI, hO, ⟨h1, pa⟩, ⟨h2, pb⟩, ⟨h3, pc⟩⟩ fun v h' tk hY st' hk htk => ?_
    obtain ⟨T, w1, w2, w3, rfl, hT, a1, a2, a3, hTT⟩ := hY
    obtain ⟨hz', hI', hO', ⟨h1', _⟩, ⟨h2', _⟩, ⟨h3', _⟩⟩ := st'
    have b1 : w1 = v1 := by rw [List.getElem?_toArray, e1] at a1; exact (Option.some.inj a1).symm
    have b2 : w2 = v2 := by rw [List.getElem?_toArray, e2] at a2; exact (Option.some.inj a2).symm
    have b3 : w3 = v3 := by rw [List.getElem?_toArray, e3] at a3; exact (Option.some.inj a3).symm
    subst b1 b2 b3
    have new : ObjOk X.prog X.w (upd H T (.tup [x, y, u])) h' T (.tup [x, y, u]) := ⟨by show 3 ≤ sizeLine; decide, [w1, w2, w3], .cons r1 (.cons r2 (.cons r3 .nil)), hTT⟩
    have I1 : Inv X pins σ (upd H T (.tup [x, y, u])) { s with heap := h', toks := tk } := I.turnedNew (t' := tk) (ch := [z, TO, i1, i2, i3]) hk (fun d hd => hf d (sub56 hd)) hT new
    refine ⟨.ref T, _, I1, rfl, ⟨T, x, y, u, rfl, I.hok.fresh hT, rfl, fun l hl => by rw [injB I hl qa]; exact hx, fun l hl => by rw [injB I hl qb]; exact hy, fun l hl => by rw [injB I hl qc]; exact hu⟩, ⟨hz', hI', hO', h1', h2', h3'⟩, fun d hd => ?_⟩
    have lt : d < s.heap.objs.size := by
      rcases mem6 hd with rfl | rfl | rfl | rfl | rfl | rfl
      · exact Heap.lt_size hz
      · exact Heap.lt_size hI
      · obtain ⟨_, _, _, e⟩ := hO
        exact Heap.lt_size e
      · obtain ⟨_, e, _⟩ := itB_obj h1
        exact Heap.lt_size e
      · obtain ⟨_, e, _⟩ := itB_obj h2
        exact Heap.lt_size e
      · obtain ⟨_, e, _⟩ := itB_obj h3
        exact Heap.lt_size e
    rw [upd_ne (Nat.ne_of_lt (Nat.lt_of_lt_of_le lt hT))]
    exact (hf d hd).1
  · intro X hP hw hK hc i pins s σ H E I hf st hg
    subst hP hw hK
    obtain ⟨hz, hI, hO, h1, h2, h3⟩ := st
    obtain ⟨xs, ys, zs, qa, qb, qc, fin⟩ := hg
    obtain ⟨us1, ra, pa, _⟩ := invB I qa
    obtain ⟨us2, rb, pb, _⟩ := invB I qb
    obtain ⟨us3, rc, pc, _⟩ := invB I qc
    have l1 := ra.length
    have l2 := rb.length
    have l3 := rc.length
    have hh : X.A.in1.handled = none := I.ok.hd hc
    have W := GoesN.zip3 (elts := elts) (x1 := kk) (pos := tpos) S (drawsB (prog := X.prog) (w := X.w) hh k1 i1 a n1 us1.toArray) (drawsB (prog := X.prog) (w := X.w) hh k2 i2 b n2 us2.toArray) (drawsB (prog := X.prog) (w := X.w) hh k3 i3 c n3 us3.toArray)
    have en : i = min (min us1.toArray.size us2.toArray.size) us3.toArray.size := by simp; omega
    subst en
    refine W.stops s (fun s1 => Inv X pins σ H s1) E ⟨hz, hI, hO, ⟨h1, pa⟩, ⟨h2, pb⟩, ⟨h3, pc⟩⟩ fun h' tk hk htk => ?_
    exact I.turnedL (t' := tk) (ch := [z, TO, i1, i2, i3]) hk fun d hd => hf d (sub56 hd)
def iZip3 (K : PySem.W.Frag) (ta : TA) : TI := fun σ H R => ta σ H fun vs G => ∃ k1 k2 k3 a b c xs ys zs, vs = [.ref a, .ref b, .ref c] ∧ SqB K k1 G a xs ∧ SqB K k2 G b ys ∧ SqB K k3 G c zs ∧ R (It3 K k1 k2 k3 a b c) G
theorem zip3_ {K : PySem.W.Frag} {ta : TA} {σ : L2.St} {H : Hp} {R : It → Hp → Prop} (h : ta σ H fun vs G => ∃ k1 k2 k3 a b c xs ys zs, vs = [.ref a, .ref b, .ref c] ∧ SqB K k1 G a xs ∧ SqB K k2 G b ys ∧ SqB K k3 G c zs ∧ R (It3 K k1 k2 k3 a b c) G) : iZip3 K ta σ H R := h
theorem pi_zip3 {X : Cx} {e e2 e3 : Expr} {ta : TA} {p pos tpos : Pos} {elts : List Expr} {kk : Nat} (hg : Gl X "zip") (hm : X.mg "zip" = none) (ha : PA X [e, e2, e3] ta) (hs : starEach [e, e2, e3] X.env = (false, eval e X.env) :: starEach [e2, e3] X.env := by rfl)
    (hpl : (backTo pos (starEach [e2, e3] X.env)).any (·.1) = false := by rfl) : PI X (.Tuple elts kk tpos) (.Call (.Name "zip" p) [e, e2, e3] [] pos) (iZip3 X.K ta) := by
  refine ⟨fun pins s σ H R I h => ?_⟩
  refine Call_ (ld_blt I hg hm PyProof.Rows.boot_zip (PyProof.Rows.callWith_type1 (thn (ha.run pos pins s σ H _ I h) fun us s1 ⟨vs, G, J, r, k1, k2, k3, a, b, c, xs, ys, zs, ex, qa, qb, qc, q⟩ => ?_) hs hpl))
  subst ex
  cases r with
  | cons r1 rr =>
  cases rr with
  | cons r2 rr =>
  cases rr with
  | cons r3 rr =>
  cases rr
  cases r1
  cases r2
  cases r3
  obtain ⟨us1, _, pa, la⟩ := invB J qa
  obtain ⟨us2, _, pb, lb⟩ := invB J qb
  obtain ⟨us3, _, pc, lc⟩ := invB J qc
  refine zip_begins3 (beginsB k1 a us1.toArray) (beginsB k2 b us2.toArray) (beginsB k3 c us3.toArray) pa pb pc fun g hz hI hO h1 h2 h3 _ hk => wpAny_pyIter_zip hz ?_
  have J2 : Inv X pins σ G { s1 with heap := g } := J.kept (t' := s1.toks) hk
  refine ⟨s1.heap.objs.size + 5, [s1.heap.objs.size + 5, s1.heap.objs.size + 3, s1.heap.objs.size + 4, s1.heap.objs.size, s1.heap.objs.size + 1, s1.heap.objs.size + 2], _, _, G, rfl, J2, turn_zip3 (zip_sep3 (fun d hd => by rw [List.mem_singleton.mp hd]; exact la) (fun d hd => by rw [List.mem_singleton.mp hd]; exact lb) fun d hd => by rw [List.mem_singleton.mp hd]; exact lc) (Nat.ne_of_lt la) (Nat.ne_of_lt (Nat.lt_succ_of_lt lb)) (Nat.ne_of_lt (Nat.lt_succ_of_lt (Nat.lt_succ_of_lt lc))), ⟨hz, hI, ⟨_, _, _, hO⟩, itB_start k1 h1, itB_start k2 h2, itB_start k3 h3⟩, fun d hd => ?_, q⟩
  have le : s1.heap.objs.size ≤ d := by
    rcases mem6 hd with rfl | rfl | rfl | rfl | rfl | rfl <;> omega
  exact J.fpOk le (J.hok.fresh le)
/-- what a turn gives -/
def Y3 (f g h : Nat → Option V) : Nat → Hp → V → Hp → Prop := fun i H v H' => ∃ T x y z, v = .ref T ∧ H T = none ∧ H' = upd H T (.tup [x, y, z]) ∧ f i = some x ∧ g i = some y ∧ h i = some z
theorem walk_zip3 {K : PySem.W.Frag} {k1 k2 k3 : Bool} {a b c : Addr} {xs ys zs : List V} : Walk (It3 K k1 k2 k3 a b c) (min (min xs.length ys.length) zs.length) (fun H => SqB K k1 H a xs ∧ SqB K k2 H b ys ∧ SqB K k3 H c zs) (Y3 (fun i => xs[i]?) (fun i => ys[i]?) fun i => zs[i]?) where
  goes := fun i _ hi q => ⟨xs, ys, zs, xs[i]'(by omega), ys[i]'(by omega), zs[i]'(by omega), q.1, q.2.1, q.2.2, List.getElem?_eq_getElem (by omega), List.getElem?_eq_getElem (by omega), List.getElem?_eq_getElem (by omega)⟩
  stops := fun _ q => ⟨xs, ys, zs, q.1, q.2.1, q.2.2, rfl⟩
  yields := fun i H v H' _ q ⟨T, x, y, z, h1, h2, h3, h4, h5, h6⟩ => ⟨T, x, y, z, h1, h2, h3, h4 xs q.1, h5 ys q.2.1, h6 zs q.2.2⟩
end Z3

set_option Elab.async false
set_option linter.all false
set_option maxRecDepth 100000
set_option maxHeartbeats 2000000
/-! xs[::2] and xs[1::2] of a list -/
namespace S2
open PySem PySem.Spec PyProof.Rows L2
def ev {α : Type} : List α → List α
  | [] => []
  | [a] => [a]
  | a :: _ :: r => a :: ev r
def od {α : Type} : List α → List α
  | [] => []
  | [_] => []
  | _ :: b :: r => b :: od r
theorem ev_pick {α : Type} : ∀ xs : List α, ((List.range ((xs.length + 1) / 2)).map fun k => 2 * k).filterMap (xs[·]?) = ev xs
  | [] => by simp [ev]
  | [a] => by simp [ev]
  | a :: b :: r => by
    have ih := ev_pick r
    rw [show ((a :: b :: r).length + 1) / 2 = (r.length + 1) / 2 + 1 by rw [List.length_cons, List.length_cons]; omega, List.range_succ_eq_map, List.map_cons, List.map_map]
    show a :: List.filterMap _ _ = a :: ev r
    rw [← ih, List.filterMap_map, List.filterMap_map]
    refine congrArg (a :: ·) (congrArg (List.filterMap · _) (funext fun k => ?_))
    show (a :: b :: r)[2 * (k + 1)]? = r[2 * k]?
    rw [show 2 * (k + 1) = 2 * k + 1 + 1 by omega, List.getElem?_cons_succ, List.getElem?_cons_succ]
theorem od_pick {α : Type} : ∀ xs : List α, ((List.range (xs.length / 2)).map fun k => 1 + 2 * k).filterMap (xs[·]?) = od xs
  | [] => by simp [od]
  | [a] => by simp [od]
  | a :: b :: r => by
    have ih := od_pick r
    rw [show (a :: b :: r).length / 2 = r.length / 2 + 1 by rw [List.length_cons, List.length_cons]; omega, List.range_succ_eq_map, List.map_cons, List.map_map]
    show b :: List.filterMap _ _ = b :: od r
    rw [← ih, List.filterMap_map, List.filterMap_map]
    refine congrArg (b :: ·) (congrArg (List.filterMap · _) (funext fun k => ?_))
    show (a :: b :: r)[1 + 2 * (k + 1)]? = r[1 + 2 * k]?
    rw [show 1 + 2 * (k + 1) = 1 + 2 * k + 1 + 1 by omega, List.getElem?_cons_succ, List.getElem?_cons_succ]
theorem ev_len {α : Type} : ∀ xs : List α, (ev xs).length = (xs.length + 1) / 2
  | [] => by simp [ev]
  | [a] => by simp [ev]
  | a :: b :: r => by
    show (ev r).length + 1 = (r.length + 1 + 1 + 1) / 2
    rw [ev_len r]
    omega
theorem od_len {α : Type} : ∀ xs : List α, (od xs).length = xs.length / 2
  | [] => by simp [od]
  | [a] => by simp [od]
  | a :: b :: r => by
    show (od r).length + 1 = (r.length + 1 + 1) / 2
    rw [od_len r]
    omega
theorem vals_ev : ∀ {xs : List V} {its : List Value}, Vals xs its → Vals (ev xs) (ev its)
  | _, _, .nil => .nil
  | _, _, .cons h .nil => .cons h .nil
  | _, _, .cons h (.cons _ r) => .cons h (vals_ev r)
theorem vals_od : ∀ {xs : List V} {its : List Value}, Vals xs its → Vals (od xs) (od its)
  | _, _, .nil => .nil
  | _, _, .cons _ .nil => .nil
  | _, _, .cons _ (.cons h r) => .cons h (vals_od r)
theorem pickEv (items : Array Value) : slicePick items none none (some 2) = (ev items.toList).toArray := by
  unfold slicePick
  rw [← ev_pick]
  have e : sliceRange (sliceBounds none none (some 2) items.size).1 (sliceBounds none none (some 2) items.size).2.1 (sliceBounds none none (some 2) items.size).2.2 = (List.range ((items.toList.length + 1) / 2)).map fun k => 2 * k := by
    show sliceRange 0 (items.size : Int) 2 = _
    unfold sliceRange
    rw [Array.length_toList]
    by_cases h : (0 : Int) < items.size
    · rw [if_pos (by decide), if_pos h]
      show List.map _ (List.range (((items.size : Int) - 0 + 2 - 1) / 2).toNat) = _
      rw [show (((items.size : Int) - 0 + 2 - 1) / 2).toNat = (items.size + 1) / 2 by omega]
      exact List.map_congr_left fun k _ => by omega
    · rw [if_pos (by decide), if_neg h, show items.size = 0 by omega]
      rfl
  rw [e]
  exact congrArg List.toArray (congrArg (List.filterMap · _) (funext fun k => (Array.getElem?_toList).symm))
theorem pickOd (items : Array Value) : slicePick items (some 1) none (some 2) = (od items.toList).toArray := by
  unfold slicePick
  rw [← od_pick]
  have e : sliceRange (sliceBounds (some 1) none (some 2) items.size).1 (sliceBounds (some 1) none (some 2) items.size).2.1 (sliceBounds (some 1) none (some 2) items.size).2.2 = (List.range (items.toList.length / 2)).map fun k => 1 + 2 * k := by
    show sliceRange (max 0 (min 1 (items.size : Int))) (items.size : Int) 2 = _
    unfold sliceRange
    rw [Array.length_toList]
    by_cases h : (1 : Int) < items.size
    · rw [if_pos (by decide), show max 0 (min 1 (items.size : Int)) = 1 by omega, if_pos h]
      show List.map _ (List.range (((items.size : Int) - 1 + 2 - 1) / 2).toNat) = _
      rw [show (((items.size : Int) - 1 + 2 - 1) / 2).toNat = items.size / 2 by omega]
      exact List.map_congr_left fun k _ => by omega
    · rw [if_pos (by decide), if_neg (by omega), show items.size / 2 = 0 by omega]
      rfl
  rw [e]
  exact congrArg List.toArray (congrArg (List.filterMap · _) (funext fun k => (Array.getElem?_toList).symm))
section
variable {X : Cx}
def tEv (K : PySem.W.Frag) (te : TE) : TE := fun σ H Q => te σ H fun x H1 => ∃ a xs, x = .ref a ∧ SqL K H1 a xs ∧ ∀ p, H1 p = none → Q (.ref p) (upd H1 p (.lst (ev xs)))
def tOd (K : PySem.W.Frag) (te : TE) : TE := fun σ H Q => te σ H fun x H1 => ∃ a xs, x = .ref a ∧ SqL K H1 a xs ∧ ∀ p, H1 p = none → Q (.ref p) (upd H1 p (.lst (od xs)))
theorem pe_evL {e : Expr} {te : TE} {k : Nat} {p1 p3 pos : Pos} (he : PE X e te) : PE X (.Subscript e (.Slice none none (some (.Constant (.int 2) k p1)) p3) pos) (tEv X.K te) := by
  refine ⟨fun pins s σ H Q I h => ?_⟩
  refine Subscript_ (thn (he.run pins s σ H _ I h) fun v s1 ⟨x, H1, I1, r1, q1⟩ => ?_)
  obtain ⟨a, xs, ex, hx, q⟩ := q1
  subst ex
  cases r1
  have hst : PO X (some (.Constant (.int 2) k p1)) (tPart (tC (.int 2))) := po_some pe_int
  refine wpAny_Slice (thn (po_none.run pins s1 σ H1 (fun o H2 => o = none ∧ H2 = H1) I1 ⟨rfl, rfl⟩) fun vl s2 ⟨l, H2, I2, pl, el, e2⟩ => ?_)
  subst el e2
  refine thn (po_none.run pins s2 σ H2 (fun o H3 => o = none ∧ H3 = H2) I2 ⟨rfl, rfl⟩) fun vu s3 ⟨u, H3, I3, pu, eu, e3⟩ => ?_
  subst eu e3
  refine thn (hst.run pins s3 σ H3 (fun o H4 => o = some 2 ∧ H4 = H3) I3 ⟨2, rfl, rfl, rfl⟩) fun vs s4 ⟨o, H4, I4, ps, eo, e4⟩ => ?_
  subst eo e4
  have I5 : Inv X pins σ H4 { s4 with heap := s4.heap.push { cls := .type "slice", data := .fields #[vl, vu, vs] } } := I4.kept (t' := s4.toks) fun b ob q => Heap.get?_push_of_some _ q
  obtain ⟨its, r, ht, hz⟩ := I5.list hx
  have hlen := r.length
  show wpAny (model X.prog X.w) X.A (subscriptTail e (.Slice none none (some (.Constant (.int 2) k p1)) p3) (.ref a) (.ref s4.heap.objs.size)) (EP X pins σ Q) X.xe { s4 with heap := s4.heap.push { cls := .type "slice", data := .fields #[vl, vu, vs] } }
  refine tail_any (ops := [.ref a, .ref s4.heap.objs.size]) ht.isList.typeIs (PySem.slot_list_getitem.lookup) ?_ (by with_unfolding_all rfl)
  refine wpAny_getItem_list_slice ht.isList (Heap.IsSliceOf.new _ vl vu vs) pl pu ps (by decide) ?_ (by rw [List.size_toArray]; omega)
  rw [pickEv]
  refine ⟨.ref _, _, I5.laid (t' := s4.toks) (o := .lst (ev xs)) (fun b ob q => Heap.get?_push_of_some _ q) (Nat.le_refl _) ?_, rfl, q _ (I5.hok.fresh (Nat.le_refl _))⟩
  exact ⟨by rw [ev_len]; omega, _, 0, vals_ev r, Heap.get?_push_size _ rfl⟩
theorem pe_odL {e : Expr} {te : TE} {k k0 : Nat} {p0 p1 p3 pos : Pos} (he : PE X e te) : PE X (.Subscript e (.Slice (some (.Constant (.int 1) k0 p0)) none (some (.Constant (.int 2) k p1)) p3) pos) (tOd X.K te) := by
  refine ⟨fun pins s σ H Q I h => ?_⟩
  refine Subscript_ (thn (he.run pins s σ H _ I h) fun v s1 ⟨x, H1, I1, r1, q1⟩ => ?_)
  obtain ⟨a, xs, ex, hx, q⟩ := q1
  subst ex
  cases r1
  have hst : PO X (some (.Constant (.int 2) k p1)) (tPart (tC (.int 2))) := po_some pe_int
  have hlo : PO X (some (.Constant (.int 1) k0 p0)) (tPart (tC (.int 1))) := po_some pe_int
  refine wpAny_Slice (thn (hlo.run pins s1 σ H1 (fun o H2 => o = some 1 ∧ H2 = H1) I1 ⟨1, rfl, rfl, rfl⟩) fun vl s2 ⟨l, H2, I2, pl, el, e2⟩ => ?_)
  subst el e2
  refine thn (po_none.run pins s2 σ H2 (fun o H3 => o = none ∧ H3 = H2) I2 ⟨rfl, rfl⟩) fun vu s3 ⟨u, H3, I3, pu, eu, e3⟩ => ?_
  subst eu e3
  refine thn (hst.run pins s3 σ H3 (fun o H4 => o = some 2 ∧ H4 = H3) I3 ⟨2, rfl, rfl, rfl⟩) fun vs s4 ⟨o, H4, I4, ps, eo, e4⟩ => ?_
  subst eo e4
  have I5 : Inv X pins σ H4 { s4 with heap := s4.heap.push { cls := .type "slice", data := .fields #[vl, vu, vs] } } := I4.kept (t' := s4.toks) fun b ob q => Heap.get?_push_of_some _ q
  obtain ⟨its, r, ht, hz⟩ := I5.list hx
  have hlen := r.length
  show wpAny (model X.prog X.w) X.A (subscriptTail e (.Slice (some (.Constant (.int 1) k0 p0)) none (some (.Constant (.int 2) k p1)) p3) (.ref a) (.ref s4.heap.objs.size)) (EP X pins σ Q) X.xe { s4 with heap := s4.heap.push { cls := .type "slice", data := .fields #[vl, vu, vs] } }
  refine tail_any (ops := [.ref a, .ref s4.heap.objs.size]) ht.isList.typeIs (PySem.slot_list_getitem.lookup) ?_ (by with_unfolding_all rfl)
  refine wpAny_getItem_list_slice ht.isList (Heap.IsSliceOf.new _ vl vu vs) pl pu ps (by decide) ?_ (by rw [List.size_toArray]; omega)
  rw [pickOd]
  refine ⟨.ref _, _, I5.laid (t' := s4.toks) (o := .lst (od xs)) (fun b ob q => Heap.get?_push_of_some _ q) (Nat.le_refl _) ?_, rfl, q _ (I5.hok.fresh (Nat.le_refl _))⟩
  exact ⟨by rw [od_len]; omega, _, 0, vals_od r, Heap.get?_push_size _ rfl⟩
end
end S2

set_option Elab.async false
set_option linter.all false
set_option maxRecDepth 100000
set_option maxHeartbeats 4000000
/-! more steps of a reading -/
namespace AU
open PySem PySem.Spec PyProof.Rows L2
section
variable {K : PySem.W.Frag} {σ : L2.St} {H : Hp} {Q : VK} {D : Ends}
theorem gsub_ {to ti : TE} {t : TSet} {v : V} {Q : L2.St → Hp → Prop} (h : to σ H fun o H1 => ti σ H1 fun i H2 => t o i v H2 fun H3 => Q σ H3) : gSub to ti t v σ H Q := h
theorem setL_ {p : Addr} {xs : List V} {k : Int} {j : Nat} {v : V} {Q : Hp → Prop} (h : H p = some (.lst xs)) (e : ixN xs.length k = some j) (q : Q (upd H p (.lst (xs.set j v)))) : rSetL (.ref p) (.int k) v H Q := ⟨p, xs, k, j, rfl, rfl, h, e, q⟩
theorem zipL_ {ta : TA} {R : It → Hp → Prop} (h : ta σ H fun vs H1 => ∃ a b xs ys, vs = [.ref a, .ref b] ∧ SqL K H1 a xs ∧ SqL K H1 b ys ∧ R (Itz K a b) H1) : iZip K ta σ H R := h
theorem revL_ {te : TE} (h : te σ H fun x H1 => ∃ a xs, x = .ref a ∧ SqL K H1 a xs ∧ ∀ p, H1 p = none → Q (.ref p) (upd H1 p (.lst xs.reverse))) : tRevL K te σ H Q := h
theorem bits_ {to : TE} (h : to σ H fun x H1 => ∃ i, x = .int i ∧ Q (.int (Builtin.Int.intBits i : Nat)) H1) : tBits to σ H Q := h
theorem while_ {c : TT} {tb : TS} (h : ∃ W : Nat → L2.St → Hp → Prop, (∃ m, W m σ H) ∧ ∀ m σ H, W m σ H → c σ H fun b H1 => if b = true then ∃ N : L2.St → Hp → Prop, (∀ σ' H', N σ' H' → ∃ m', m' < m ∧ W m' σ' H') ∧ tb { D with nx := N, ct := N, bk := D.nx } σ H1 else D.nx σ H1) : tWhile c tb D σ H := h
end
theorem lc2_itO {J : It} {n : Nat} {G : Hp → Prop} {Y : Nat → Hp → V → Hp → Prop} (w : Walk J n G Y) {g : TG} {tt : TT} {wi1 : TI} {g1 : TG} {tt1 : TT} {te : TE} {vs vs1 : List Nat} {σ : L2.St} {H1 : Hp} {D : Addr} {Qd : Hp → Prop} (Pv : Nat → Hp → Prop) (h0 : Pv 0 (upd H1 D (.lst []))) (hl : ∀ i H, i ≤ n → Pv i H → G H)
    (hs : ∀ i x H H', i < n → Pv i H → Y i H x H' → g x (wipe σ vs) H' fun σ2 H2 => wipe σ2 vs = wipe σ vs ∧ tt σ2 H2 fun b H3 =>
      if b = true then wi1 σ2 H3 fun J1 H4 => ∃ W1 : Nat → Nat → Hp → Prop, (∃ m, W1 0 m H4) ∧ ∀ j k H, W1 j k H →
        (J1.stop j H ∧ Pv (i + 1) H) ∨ (J1.go j H ∧ ∃ Nx1 : Hp → Prop, (∀ H', Nx1 H' → ∃ k', k' < k ∧ W1 (j + 1) k' H') ∧ ∀ x H', J1.yld j H x H' → g1 x (wipe σ2 vs1) H' fun σ3 H5 => wipe σ3 vs1 = wipe σ2 vs1 ∧ tt1 σ3 H5 fun b H6 =>
          if b = true then te σ3 H6 fun y H7 => ∃ acc, H7 D = some (.lst acc) ∧ acc.length < sizeLine ∧ Nx1 (upd H7 D (.lst (acc ++ [y]))) else Nx1 H6)
      else Pv (i + 1) H3) (hd : ∀ H, Pv n H → Qd H) :
    ∃ W : Nat → Nat → Hp → Prop, (∃ m, W 0 m (upd H1 D (.lst []))) ∧ ∀ i m H, W i m H →
      (J.stop i H ∧ Qd H) ∨ (J.go i H ∧ ∃ Nx : Hp → Prop, (∀ H', Nx H' → ∃ m', m' < m ∧ W (i + 1) m' H') ∧ ∀ x H', J.yld i H x H' → g x (wipe σ vs) H' fun σ2 H2 => wipe σ2 vs = wipe σ vs ∧ tt σ2 H2 fun b H3 =>
        if b = true then wi1 σ2 H3 fun J1 H4 => ∃ W1 : Nat → Nat → Hp → Prop, (∃ m, W1 0 m H4) ∧ ∀ j k H, W1 j k H →
          (J1.stop j H ∧ Nx H) ∨ (J1.go j H ∧ ∃ Nx1 : Hp → Prop, (∀ H', Nx1 H' → ∃ k', k' < k ∧ W1 (j + 1) k' H') ∧ ∀ x H', J1.yld j H x H' → g1 x (wipe σ2 vs1) H' fun σ3 H5 => wipe σ3 vs1 = wipe σ2 vs1 ∧ tt1 σ3 H5 fun b H6 =>
            if b = true then te σ3 H6 fun y H7 => ∃ acc, H7 D = some (.lst acc) ∧ acc.length < sizeLine ∧ Nx1 (upd H7 D (.lst (acc ++ [y]))) else Nx1 H6)
        else Nx H3) := by
  refine ⟨fun i m H => m = n - i ∧ i ≤ n ∧ Pv i H, ⟨n, by simp, Nat.zero_le _, h0⟩, ?_⟩
  rintro i m H ⟨rfl, hi, p⟩
  have q := hl i H hi p
  by_cases hlt : i < n
  · exact .inr ⟨w.goes i H hlt q, Pv (i + 1), fun H' p' => ⟨n - (i + 1), by omega, rfl, hlt, p'⟩, fun x H' y => hs i x H H' hlt p (w.yields i H x H' hlt q y)⟩
  · have e : i = n := by omega
    subst e
    exact .inl ⟨w.stops H q, hd H p⟩
/-- the inner one over any walk -/
theorem lc2_itI {J : It} {n : Nat} {G : Hp → Prop} {Y : Nat → Hp → V → Hp → Prop} (w : Walk J n G Y) {g1 : TG} {tt1 : TT} {te : TE} {vs1 : List Nat} {σ2 : L2.St} {H4 : Hp} {D : Addr} {Nx : Hp → Prop} (Pw : Nat → Hp → Prop) (h0 : Pw 0 H4) (hl : ∀ j H, j ≤ n → Pw j H → G H)
    (hs : ∀ j y H H', j < n → Pw j H → Y j H y H' → g1 y (wipe σ2 vs1) H' fun σ3 H5 => wipe σ3 vs1 = wipe σ2 vs1 ∧ tt1 σ3 H5 fun b H6 =>
      if b = true then te σ3 H6 fun y H7 => ∃ acc, H7 D = some (.lst acc) ∧ acc.length < sizeLine ∧ Pw (j + 1) (upd H7 D (.lst (acc ++ [y]))) else Pw (j + 1) H6) (hd : ∀ H, Pw n H → Nx H) :
    ∃ W1 : Nat → Nat → Hp → Prop, (∃ m, W1 0 m H4) ∧ ∀ j k H, W1 j k H →
      (J.stop j H ∧ Nx H) ∨ (J.go j H ∧ ∃ Nx1 : Hp → Prop, (∀ H', Nx1 H' → ∃ k', k' < k ∧ W1 (j + 1) k' H') ∧ ∀ x H', J.yld j H x H' → g1 x (wipe σ2 vs1) H' fun σ3 H5 => wipe σ3 vs1 = wipe σ2 vs1 ∧ tt1 σ3 H5 fun b H6 =>
        if b = true then te σ3 H6 fun y H7 => ∃ acc, H7 D = some (.lst acc) ∧ acc.length < sizeLine ∧ Nx1 (upd H7 D (.lst (acc ++ [y]))) else Nx1 H6) := by
  refine ⟨fun j k H => k = n - j ∧ j ≤ n ∧ Pw j H, ⟨n, by simp, Nat.zero_le _, h0⟩, ?_⟩
  rintro j k H ⟨rfl, hj, p⟩
  have q := hl j H hj p
  by_cases hlt : j < n
  · exact .inr ⟨w.goes j H hlt q, Pw (j + 1), fun H' p' => ⟨n - (j + 1), by omega, rfl, hlt, p'⟩, fun x H' y => hs j x H H' hlt p (w.yields j H x H' hlt q y)⟩
  · have e : j = n := by omega
    subst e
    exact .inl ⟨w.stops H q, hd H p⟩
theorem cut_take2 (xs : List V) (k : Nat) : cutV xs none (some (k : Int)) = xs.take k := by
  unfold cutV
  rw [HT.sIx_none, HT.sIx_nat, List.drop_zero, Nat.sub_zero]
  by_cases h : k ≤ xs.length
  · rw [Nat.min_eq_left h]
  · rw [Nat.min_eq_right (by omega), List.take_of_length_le (Nat.le_refl _), List.take_of_length_le (by omega)]
theorem cut_drop2 (xs : List V) (k : Nat) : cutV xs (some (k : Int)) none = xs.drop k := by
  unfold cutV
  rw [HT.sIx_none, HT.sIx_nat]
  by_cases h : k ≤ xs.length
  · rw [Nat.min_eq_left h, List.take_of_length_le (by rw [List.length_drop]; exact Nat.le_refl _)]
  · rw [Nat.min_eq_right (by omega), List.drop_eq_nil_of_le (by omega), List.drop_eq_nil_of_le (by omega), List.take_nil]
theorem cut_mid2 (xs : List V) (a k : Nat) : cutV xs (some (a : Int)) (some ((a + k : Nat) : Int)) = (xs.drop a).take k := by
  unfold cutV
  rw [HT.sIx_nat, HT.sIx_nat]
  by_cases h : a ≤ xs.length
  · rw [Nat.min_eq_left h]
    by_cases h2 : a + k ≤ xs.length
    · rw [Nat.min_eq_left h2, Nat.add_sub_cancel_left]
    · rw [Nat.min_eq_right (by omega), List.take_of_length_le (by rw [List.length_drop]; omega), List.take_of_length_le (by rw [List.length_drop]; omega)]
  · rw [Nat.min_eq_right (by omega), List.drop_eq_nil_of_le (by omega), List.drop_eq_nil_of_le (by omega), List.take_nil, List.take_nil]
/-- the greatest of a list of ints is one -/
theorem max_one {ns : List Int} {m n : Int} (h1 : m ∈ ns) (h2 : ∀ y, y ∈ ns → y ≤ m) (k1 : n ∈ ns) (k2 : ∀ y, y ∈ ns → y ≤ n) : m = n := by
  have := h2 n k1
  have := k2 m h1
  omega
/-- an item set in a list that is a range's image -/
theorem set_fun {f : Nat → Int} {n j : Nat} {v : Int} : (((List.range n).map fun i => V.int (f i)).set j (.int v)) = (List.range n).map fun i => V.int (if i = j then v else f i) := by
  refine List.ext_getElem? fun k => ?_
  rw [List.getElem?_set]
  by_cases c : j = k
  · subst c
    by_cases d : j < n
    · rw [if_pos rfl, List.length_map, List.length_range, if_pos d, List.getElem?_map, List.getElem?_range d]
      show _ = some (V.int (if j = j then v else f j))
      rw [if_pos rfl]
    · rw [if_pos rfl, List.length_map, List.length_range, if_neg d, List.getElem?_eq_none (by rw [List.length_map, List.length_range]; omega)]
  · rw [if_neg c, List.getElem?_map, List.getElem?_map]
    by_cases d : k < n
    · rw [List.getElem?_range d]
      show some (V.int (f k)) = some (V.int (if k = j then v else f k))
      rw [if_neg (fun z => c z.symm)]
    · rw [List.getElem?_eq_none (by rw [List.length_range]; omega)]
      rfl
end AU

set_option Elab.async false
set_option linter.all false
set_option maxRecDepth 100000
set_option maxHeartbeats 2000000
namespace OT
open PySem PySem.Spec PyProof.Rows L2
def topS (i : Nat) : Stmt := PySem.Challenge.pw_owntables_k10_on_one_line.main.body.getD i (.Pass ⟨0, 0, 0, 0⟩)
abbrev s_TableError___init__ : Stmt := inClass (topS 1) 0
theorem sc_TableError___init__ : FnScope ["self"] ["self"] (C8.fnScope s_TableError___init__) := C8.fnScope_by (by decide +kernel)
abbrev s_OneDirectionOnly___init__ : Stmt := inClass (topS 2) 0
theorem sc_OneDirectionOnly___init__ : FnScope ["self", "dimension"] ["self", "dimension"] (C8.fnScope s_OneDirectionOnly___init__) := C8.fnScope_by (by decide +kernel)
abbrev s_places_length : Stmt := topS 6
theorem sc_places_length : FnScope ["row"] ["row"] (C8.fnScope s_places_length) := C8.fnScope_by (by decide +kernel)
abbrev s_same_lengths : Stmt := topS 7
theorem sc_same_lengths : FnScope ["lengths", "known", "length"] ["lengths"] (C8.fnScope s_same_lengths) := C8.fnScope_by (by decide +kernel)
abbrev s_same_dimension : Stmt := topS 8
theorem sc_same_dimension : FnScope ["rows", "places", "row", "place"] ["rows", "places"] (C8.fnScope s_same_dimension) := C8.fnScope_by (by decide +kernel)
abbrev s_bounds : Stmt := topS 10
theorem sc_bounds : FnScope ["row", "places", "column", "place", "number"] ["row"] (C8.fnScope s_bounds) := C8.fnScope_by (by decide +kernel)
abbrev s_product_sizes : Stmt := topS 13
theorem sc_product_sizes : FnScope ["first", "second", "low", "high", "other_low", "other_high"] ["first", "second"] (C8.fnScope s_product_sizes) := C8.fnScope_by (by decide +kernel)
abbrev s_longest : Stmt := topS 14
theorem sc_longest : FnScope ["row", "place", "number"] ["row"] (C8.fnScope s_longest) := C8.fnScope_by (by decide +kernel)
abbrev s_digit_bits : Stmt := topS 15
theorem sc_digit_bits : FnScope ["first", "second", "many"] ["first", "second"] (C8.fnScope s_digit_bits) := C8.fnScope_by (by decide +kernel)
abbrev s_is_crowded : Stmt := topS 16
theorem sc_is_crowded : FnScope ["first", "second", "many", "length", "size"] ["first", "second"] (C8.fnScope s_is_crowded) := C8.fnScope_by (by decide +kernel)
abbrev s_digit_at : Stmt := topS 17
theorem sc_digit_at : FnScope ["place", "lows", "sizes", "index", "x", "low", "size"] ["place", "lows", "sizes"] (C8.fnScope s_digit_at) := C8.fnScope_by (by decide +kernel)
abbrev s_place_at : Stmt := topS 18
theorem sc_place_at : FnScope ["index", "lows", "sizes", "coordinates", "low", "size"] ["index", "lows", "sizes"] (C8.fnScope s_place_at) := C8.fnScope_by (by decide +kernel)
abbrev s_joined_digits : Stmt := topS 19
theorem sc_joined_digits : FnScope ["digits", "bits", "padded", "low", "high"] ["digits", "bits"] (C8.fnScope s_joined_digits) := C8.fnScope_by (by decide +kernel)
abbrev s_low_digit : Stmt := topS 20
theorem sc_low_digit : FnScope ["number", "bits", "half"] ["number", "bits"] (C8.fnScope s_low_digit) := C8.fnScope_by (by decide +kernel)
abbrev s_split_digits : Stmt := topS 21
theorem sc_split_digits : FnScope ["number", "bits", "many", "digits", "width", "lows", "digit", "part", "low"] ["number", "bits", "many"] (C8.fnScope s_split_digits) := C8.fnScope_by (by decide +kernel)
abbrev s_great_integer : Stmt := topS 22
theorem sc_great_integer : FnScope ["row", "sizes", "bits", "lows", "digits", "place", "number", "low", "high"] ["row", "sizes", "bits"] (C8.fnScope s_great_integer) := C8.fnScope_by (by decide +kernel)
abbrev s_crowded_product : Stmt := topS 23
theorem sc_crowded_product : FnScope ["first", "second", "sizes", "bits", "lows", "number", "many", "digits", "index", "digit", "low", "high", "other", "top", "size"] ["first", "second"] (C8.fnScope s_crowded_product) := C8.fnScope_by (by decide +kernel)
abbrev s_row_of : Stmt := topS 25
theorem sc_row_of : FnScope ["numbers", "place"] ["numbers"] (C8.fnScope s_row_of) := C8.fnScope_by (by decide +kernel)
abbrev s_gather : Stmt := topS 26
theorem sc_gather : FnScope ["entries", "numbers", "place", "number"] ["entries"] (C8.fnScope s_gather) := C8.fnScope_by (by decide +kernel)
abbrev s_reach : Stmt := topS 27
theorem sc_reach : FnScope ["row", "x", "place", "number"] ["row"] (C8.fnScope s_reach) := C8.fnScope_by (by decide +kernel)
abbrev s_key_base : Stmt := topS 28
theorem sc_key_base : FnScope ["first", "second"] ["first", "second"] (C8.fnScope s_key_base) := C8.fnScope_by (by decide +kernel)
abbrev s_key_of : Stmt := topS 29
theorem sc_key_of : FnScope ["place", "base", "key", "x"] ["place", "base"] (C8.fnScope s_key_of) := C8.fnScope_by (by decide +kernel)
abbrev s_place_of : Stmt := topS 30
theorem sc_place_of : FnScope ["key", "base", "length", "half", "coordinates", "step", "x"] ["key", "base", "length"] (C8.fnScope s_place_of) := C8.fnScope_by (by decide +kernel)
abbrev s_keyed : Stmt := topS 31
theorem sc_keyed : FnScope ["row", "base", "place", "number"] ["row", "base"] (C8.fnScope s_keyed) := C8.fnScope_by (by decide +kernel)
abbrev s_unkeyed : Stmt := topS 32
theorem sc_unkeyed : FnScope ["numbers", "base", "length", "key"] ["numbers", "base", "length"] (C8.fnScope s_unkeyed) := C8.fnScope_by (by decide +kernel)
abbrev s_add : Stmt := topS 33
theorem sc_add : FnScope ["first", "second"] ["first", "second"] (C8.fnScope s_add) := C8.fnScope_by (by decide +kernel)
abbrev s_subtract : Stmt := topS 34
theorem sc_subtract : FnScope ["first", "second"] ["first", "second"] (C8.fnScope s_subtract) := C8.fnScope_by (by decide +kernel)
abbrev s_negate : Stmt := topS 35
theorem sc_negate : FnScope ["row"] ["row"] (C8.fnScope s_negate) := C8.fnScope_by (by decide +kernel)
abbrev s_scale : Stmt := topS 36
theorem sc_scale : FnScope ["row", "factor", "place", "number"] ["row", "factor"] (C8.fnScope s_scale) := C8.fnScope_by (by decide +kernel)
abbrev s_multiply : Stmt := topS 37
theorem sc_multiply : FnScope ["first", "second", "base", "right", "sums", "key", "number", "other", "times"] ["first", "second"] (C8.fnScope s_multiply) := C8.fnScope_by (by decide +kernel)
abbrev s_mirror : Stmt := topS 38
theorem sc_mirror : FnScope ["row", "place", "number", "x"] ["row"] (C8.fnScope s_mirror) := C8.fnScope_by (by decide +kernel)
abbrev s_is_symmetric : Stmt := topS 40
theorem sc_is_symmetric : FnScope ["row"] ["row"] (C8.fnScope s_is_symmetric) := C8.fnScope_by (by decide +kernel)
abbrev s_cross_table : Stmt := topS 42
theorem sc_cross_table : FnScope ["first", "second"] ["first", "second"] (C8.fnScope s_cross_table) := C8.fnScope_by (by decide +kernel)
abbrev s_on_one_line : Stmt := topS 44
theorem sc_on_one_line : FnScope ["first", "second", "third"] ["first", "second", "third"] (C8.fnScope s_on_one_line) := C8.fnScope_by (by decide +kernel)
abbrev s_raises_rank : Stmt := topS 45
theorem sc_raises_rank : FnScope ["known", "reference"] ["known", "reference"] (C8.fnScope s_raises_rank) := C8.fnScope_by (by decide +kernel)
abbrev s_basis : Stmt := topS 46
theorem sc_basis : FnScope ["references", "found", "index", "reference", "k"] ["references"] (C8.fnScope s_basis) := C8.fnScope_by (by decide +kernel)
abbrev s_rank : Stmt := topS 47
theorem sc_rank : FnScope ["references"] ["references"] (C8.fnScope s_rank) := C8.fnScope_by (by decide +kernel)
abbrev s__law_cell : Stmt := topS 49
theorem sc__law_cell : FnScope ["_law_script", "_law_k"] ["_law_script", "_law_k"] (C8.fnScope s__law_cell) := C8.fnScope_by (by decide +kernel)
abbrev s__law_draws : Stmt := topS 50
theorem sc__law_draws : FnScope ["_law_cell_here", "_law_sizes", "_law_draws_here", "_law_rest", "_law_k", "_law_mixed_here"] ["_law_cell_here", "_law_sizes"] (C8.fnScope s__law_draws) := C8.fnScope_by (by decide +kernel)
abbrev s__law_is_integer : Stmt := topS 51
theorem sc__law_is_integer : FnScope ["_law_actual"] ["_law_actual"] (C8.fnScope s__law_is_integer) := C8.fnScope_by (by decide +kernel)
abbrev s__law_plus : Stmt := topS 52
theorem sc__law_plus : FnScope ["_law_place", "_law_other", "_law_k"] ["_law_place", "_law_other"] (C8.fnScope s__law_plus) := C8.fnScope_by (by decide +kernel)
abbrev s__law_back : Stmt := topS 53
theorem sc__law_back : FnScope ["_law_place", "_law_x"] ["_law_place"] (C8.fnScope s__law_back) := C8.fnScope_by (by decide +kernel)
abbrev s__law_row : Stmt := topS 54
theorem sc__law_row : FnScope ["_law_pairs", "_law_sums", "_law_place", "_law_number"] ["_law_pairs"] (C8.fnScope s__law_row) := C8.fnScope_by (by decide +kernel)
abbrev s__law_add : Stmt := topS 55
theorem sc__law_add : FnScope ["_law_first", "_law_second"] ["_law_first", "_law_second"] (C8.fnScope s__law_add) := C8.fnScope_by (by decide +kernel)
abbrev s__law_scaled : Stmt := topS 56
theorem sc__law_scaled : FnScope ["_law_row_here", "_law_factor", "_law_entry"] ["_law_row_here", "_law_factor"] (C8.fnScope s__law_scaled) := C8.fnScope_by (by decide +kernel)
abbrev s__law_minus : Stmt := topS 57
theorem sc__law_minus : FnScope ["_law_first", "_law_second"] ["_law_first", "_law_second"] (C8.fnScope s__law_minus) := C8.fnScope_by (by decide +kernel)
abbrev s__law_times : Stmt := topS 58
theorem sc__law_times : FnScope ["_law_first", "_law_second", "_law_pairs", "_law_place", "_law_number", "_law_other", "_law_factor"] ["_law_first", "_law_second"] (C8.fnScope s__law_times) := C8.fnScope_by (by decide +kernel)
abbrev s__law_mirror : Stmt := topS 59
theorem sc__law_mirror : FnScope ["_law_row_here", "_law_entry"] ["_law_row_here"] (C8.fnScope s__law_mirror) := C8.fnScope_by (by decide +kernel)
abbrev s__law_moved : Stmt := topS 60
theorem sc__law_moved : FnScope ["_law_row_here", "_law_by", "_law_entry"] ["_law_row_here", "_law_by"] (C8.fnScope s__law_moved) := C8.fnScope_by (by decide +kernel)
abbrev s__law_cross : Stmt := topS 61
theorem sc__law_cross : FnScope ["_law_first", "_law_second"] ["_law_first", "_law_second"] (C8.fnScope s__law_cross) := C8.fnScope_by (by decide +kernel)
abbrev s__law_is_error : Stmt := topS 62
theorem sc__law_is_error : FnScope ["_law_e", "_law_word"] ["_law_e", "_law_word"] (C8.fnScope s__law_is_error) := C8.fnScope_by (by decide +kernel)
abbrev s__law_sparse : Stmt := topS 63
theorem sc__law_sparse : FnScope ["_law_cell_here", "_law_count", "_law_many", "_law_reach", "_law_wide", "_law_moves", "_law_sizes", "_law_k", "_law_draws_here", "_law_pairs", "_law_by", "_law_at", "_law_j"] ["_law_cell_here", "_law_count", "_law_many", "_law_reach", "_law_wide", "_law_moves"] (C8.fnScope s__law_sparse) := C8.fnScope_by (by decide +kernel)
abbrev s__law_turned : Stmt := topS 64
theorem sc__law_turned : FnScope ["_law_row_here", "_law_sign", "_law_by"] ["_law_row_here", "_law_sign", "_law_by"] (C8.fnScope s__law_turned) := C8.fnScope_by (by decide +kernel)
abbrev s__law_mixed : Stmt := topS 65
theorem sc__law_mixed : FnScope ["_law_rows", "_law_sizes", "_law_size", "_law_row_here"] ["_law_rows"] (C8.fnScope s__law_mixed) := C8.fnScope_by (by decide +kernel)
abbrev s__law_is_mixed : Stmt := topS 66
theorem sc__law_is_mixed : FnScope ["_law_e", "_law_other"] ["_law_e"] (C8.fnScope s__law_is_mixed) := C8.fnScope_by (by decide +kernel)
abbrev s__law_far : Stmt := topS 67
theorem sc__law_far : FnScope ["_law_cell_here", "_law_count", "_law_draws_here", "_law_x", "_law_k"] ["_law_cell_here", "_law_count"] (C8.fnScope s__law_far) := C8.fnScope_by (by decide +kernel)
abbrev s__law_changed : Stmt := topS 68
theorem sc__law_changed : FnScope ["_law_row_here", "_law_at"] ["_law_row_here", "_law_at"] (C8.fnScope s__law_changed) := C8.fnScope_by (by decide +kernel)
abbrev s__law_three : Stmt := topS 69
theorem sc__law_three : FnScope ["_law_script", "_law_kinds", "_law_count", "_law_sizes", "_law_moves", "_law_reach", "_law_start", "_law_factor", "_law_by", "_law_first", "_law_second", "_law_sign", "_law_other", "_law_rows", "_law_far_here", "_law_k", "_law_row_here", "_law_x", "_law_j"] ["_law_script", "_law_kinds"] (C8.fnScope s__law_three) := C8.fnScope_by (by decide +kernel)
abbrev s__law_line_told : Stmt := topS 70
theorem sc__law_line_told : FnScope ["_law_rows", "_law_handed", "_law_code", "_law_e", "_law_told", "_law_row_here"] ["_law_rows"] (C8.fnScope s__law_line_told) := C8.fnScope_by (by decide +kernel)
abbrev s__law_rank_told : Stmt := topS 71
theorem sc__law_rank_told : FnScope ["_law_rows", "_law_handed", "_law_code", "_law_e", "_law_told", "_law_row_here"] ["_law_rows"] (C8.fnScope s__law_rank_told) := C8.fnScope_by (by decide +kernel)
abbrev s_law : Stmt := topS 72
theorem sc_law : FnScope ["_law_script", "_law_kinds", "_law_rows", "_law_line", "_law_due", "_law_order", "_law_cross_here", "_law_asked", "_law_same", "_law_told", "_law_k"] ["_law_script"] (C8.fnScope s_law) := C8.fnScope_by (by decide +kernel)
theorem iteD {c A B : Prop} [Decidable c] (h1 : c → A) (h2 : ¬ c → B) : if decide c = true then A else B := by
  by_cases h : c
  · rw [decide_eq_true h]
    exact iteT (h1 h)
  · rw [decide_eq_false h]
    exact iteF (h2 h)
theorem iteND {c A B : Prop} [Decidable c] (h1 : ¬ c → A) (h2 : c → B) : if (!decide c) = true then A else B := by
  by_cases h : c
  · rw [decide_eq_true h]
    exact iteF (h2 h)
  · rw [decide_eq_false h]
    exact iteT (h1 h)
theorem iteB {c : Bool} {A B : Prop} (h1 : c = true → A) (h2 : c = false → B) : if c = true then A else B := by
  cases c with
  | true => exact iteT (h1 rfl)
  | false => exact iteF (h2 rfl)
theorem atI_int {ns : List Int} {k : Int} (h0 : 0 ≤ k) (h1 : k < (ns.length : Int)) : ∃ c, atI (ns.map V.int) k = some (.int c) ∧ ns[k.toNat]? = some c := by
  obtain ⟨j, rfl⟩ := Int.eq_ofNat_of_zero_le h0
  have hj : j < ns.length := by omega
  refine ⟨ns[j], atI_nat ?_, ?_⟩
  · rw [List.getElem?_map, List.getElem?_eq_getElem hj]
    rfl
  · rw [Int.toNat_natCast, List.getElem?_eq_getElem hj]
theorem same_upd {H : Hp} {p : Addr} {o : HO} (h : H p = none) : Same H (upd H p o) := fun b x e => by
  rw [upd_ne (ne_of_none e h)]
  exact e
theorem same_mut {H H' : Hp} {p : Addr} {o : HO} (e : Same H H') (h : H p = none) : Same H (upd H' p o) := fun b x z => by
  rw [upd_ne (ne_of_none z h)]
  exact e b x z
theorem same_t {K : PySem.W.Frag} {H H' : Hp} {a : Addr} {xs : List V} (e : Same H H') (h : SqT K H a xs) : SqT K H' a xs := by
  rcases h with (h | ⟨o, h⟩) | h
  · exact .inl (.inl (e _ _ h))
  · exact .inl (.inr ⟨o, e _ _ h⟩)
  · exact .inr h
/-- the module's names that stay the built-in ones -/
structure Bi (mg : Str → Option Value) : Prop where
  n_len : mg "len" = none
  n_int : mg "int" = none
  n_str : mg "str" = none
  n_bool : mg "bool" = none
  n_list : mg "list" = none
  n_tuple : mg "tuple" = none
  n_range : mg "range" = none
  n_enumerate : mg "enumerate" = none
  n_isinstance : mg "isinstance" = none
  n_sorted : mg "sorted" = none
  n_abs : mg "abs" = none
  n_any : mg "any" = none
  n_all : mg "all" = none
  n_sum : mg "sum" = none
  n_min : mg "min" = none
  n_max : mg "max" = none
  n_zip : mg "zip" = none
  n_set : mg "set" = none
section
variable {P : Program} {w : World} {K : PySem.W.Frag} {mg : Str → Option Value} {base : Heap}
/-! ### a cell of the script -/
def spCell (K : PySem.W.Frag) : Sp := fun vs H Q _ => ∃ (a : Addr) (ns : List Int) (k : Int), vs = [.ref a, .int k] ∧ SqL K H a (ns.map V.int) ∧ 0 ≤ k ∧ ∀ c : Int, Q (.int c) H
theorem c__law_cell {f : Addr} {fd : FuncData} (D : C8.Def K mg "_law_cell" s__law_cell f fd) (b : Binds K fd ["_law_script", "_law_k"] []) (T : Bi mg) : C8.Cal P w K mg base 1 "_law_cell" (spCell K) [] := by
  refine C8.cal0 D b .nil sc__law_cell (fun vs H Q E h => ?_) (fun cdv A outer s H vs Q E hr h => ?_)
  · obtain ⟨a, ns, k, rfl, _⟩ := h
    rfl
  · obtain ⟨a, ns, k, rfl, hS, hk, q⟩ := h
    refine ⟨_, (pss_cons (ps_if (pt_cmpR op_lt (pv 1) (pe_callB call_len_seq (by rfl) T.n_len OT.b_len (pa_cons (pv 0) pa_nil)) (nomark _)) (pss_one (ps_ret (pe_ix ix_list (pv 0) (pv 1) (fun _ _ => rfl)))) pss_nil)
  (pss_cons (ps_if (pt_cmpR op_eq (pe_callB call_len_seq (by rfl) T.n_len OT.b_len (pa_cons (pv 0) pa_nil)) pe_int (nomark _)) (pss_one (ps_ret (pe_op op_add (pe_op op_mul pe_int (pv 1)) pe_int))) pss_nil)
  (pss_one (ps_ret (pe_op op_mod (pe_callTy call_int1 (by rfl) T.n_int OT.b_int (pa_cons (pe_op op_add (pe_op op_add (pe_op op_mul (pe_ix ix_list (pv 0) (pe_op op_mod (pe_callTy call_int1 (by rfl) T.n_int OT.b_int (pa_cons (pv 1) pa_nil)) (pe_callB call_len_seq (by rfl) T.n_len OT.b_len (pa_cons (pv 0) pa_nil))) (fun _ _ => rfl)) pe_int) (pe_op op_mul pe_int (pv 1))) pe_int) pa_nil)) pe_int))))), ?_⟩
    refine ⟨_, rfl, _, rfl, a, _, rfl, .inl hS, _, _, rfl, rfl, _, rfl, ?_⟩
    refine iteD (fun h1 => ?_) (fun h1 => ?_)
    · rw [List.length_map] at h1
      obtain ⟨c, hc, _⟩ := atI_int hk h1
      exact ⟨_, rfl, _, rfl, a, _, _, _, rfl, rfl, hS, hc, q c⟩
    · refine ⟨_, rfl, a, _, rfl, .inl hS, rfl, _, rfl, ?_⟩
      refine iteD (fun h2 => ?_) (fun h2 => ?_)
      · exact ⟨_, rfl, _, _, rfl, rfl, .inl ⟨by decide, by decide⟩, _, _, rfl, rfl, q _⟩
      · have hp : 0 < ns.length := by
          have h3 : ¬ (V.int ((ns.map V.int).length : Int) = V.int 0) := h2
          rw [List.length_map] at h3
          cases ns with
          | nil => exact absurd rfl h3
          | cons x r => exact Nat.succ_pos _
        have hm : 0 ≤ k % (ns.length : Int) := Int.emod_nonneg _ (by omega)
        have hm2 : k % (ns.length : Int) < ns.length := Int.emod_lt_of_pos _ (by omega)
        obtain ⟨c, hc, _⟩ := atI_int hm hm2
        refine ⟨_, rfl, _, rfl, .inl ⟨k, rfl, _, rfl, a, _, rfl, .inl hS, k, _, rfl, rfl, ?_, a, _, _, _, rfl, rfl, hS, ?_, c, _, rfl, rfl, .inr ⟨by decide, by decide⟩, _, rfl, _, _, rfl, rfl, .inl ⟨by decide, by decide⟩, _, _, rfl, rfl, _, _, rfl, rfl, .inl ⟨_, rfl, _, _, rfl, rfl, by show (0 : Int) < 2147483647; decide, q _⟩⟩⟩
        · rw [List.length_map]
          show (0 : Int) < (ns.length : Int)
          omega
        · rw [List.length_map]
          exact hc
/-! ### draws -/
theorem cmul_m1 (x y : Int) : CMul (x % 2147483647) y := by
  refine .inl ?_
  have h1 := Int.emod_nonneg x (show (2147483647 : Int) ≠ 0 by decide)
  have h2 := Int.emod_lt_of_pos x (show (0 : Int) < 2147483647 by decide)
  have h3 : (2 : Int) ^ 64 = 18446744073709551616 := by decide
  omega
theorem cmul_m2 (x y : Int) : CMul (x % 2147483629) y := by
  refine .inl ?_
  have h1 := Int.emod_nonneg x (show (2147483629 : Int) ≠ 0 by decide)
  have h2 := Int.emod_lt_of_pos x (show (0 : Int) < 2147483629 by decide)
  have h3 : (2 : Int) ^ 64 = 18446744073709551616 := by decide
  omega

theorem small64 {z : Int} (h1 : 0 < z) (h2 : z < 1000000000000000) : z.natAbs < 2 ^ 64 := by
  have : (2 : Nat) ^ 64 = 18446744073709551616 := by decide
  omega
def InR (ds zs : List Int) : Prop := ds.length = zs.length ∧ ∀ (i : Nat) (d z : Int), ds[i]? = some d → zs[i]? = some z → 0 ≤ d ∧ d < z
def spDraws (K : PySem.W.Frag) : Sp := fun vs H Q _ => ∃ (a : Addr) (zs : List Int) (c : Int), vs = [.int c, .ref a] ∧ SqL K H a (zs.map V.int) ∧ zs.length ≤ 1000 ∧ (∀ z ∈ zs, 0 < z ∧ z < 1000000000000000) ∧
  ∀ (ds : List Int) H' p, InR ds zs → Same H H' → H p = none → H' p = some (.lst (ds.map V.int)) → Q (.ref p) H'
theorem c__law_draws {f : Addr} {fd : FuncData} (D : C8.Def K mg "_law_draws" s__law_draws f fd) (b : Binds K fd ["_law_cell_here", "_law_sizes"] []) (T : Bi mg) : C8.Cal P w K mg base 1 "_law_draws" (spDraws K) [] := by
  refine C8.cal0 D b .nil sc__law_draws (fun vs H Q E h => ?_) (fun cdv A outer s H vs Q E hr h => ?_)
  · obtain ⟨a, zs, c, rfl, _⟩ := h
    rfl
  · obtain ⟨a, zs, c, rfl, hS, hl, hz, q⟩ := h
    refine ⟨_, (pss_cons (ps_set (i := 2) sc__law_draws.nd rfl (Or.inl rfl) (pe_lst pa_nil))
  (pss_cons (ps_set (i := 3) sc__law_draws.nd rfl (Or.inl rfl) (pe_op op_sub (pv 0) (pe_op op_pow pe_int pe_int)))
  (pss_cons (ps_for PassesOwn.never rfl (pi_range1 rfl T.n_range (pa_cons (pe_callB call_len_seq (by rfl) T.n_len OT.b_len (pa_cons (pv 1) pa_nil)) pa_nil)) (pg_name (i := 4) sc__law_draws.nd rfl (Or.inl rfl)) (pss_one (ps_if (pt_cmpR op_ge (pv 0) (pe_op op_pow pe_int pe_int) (nomark _)) (pss_cons (ps_expr (pe_bm PySem.F.plainAttrs_list PySem.F.slot_list_append PySem.F.type_list_append mt_append (pv 2) (pa_cons (pe_op op_mod (pe_callTy call_int1 (by rfl) T.n_int OT.b_int (pa_cons (pv 3) pa_nil)) (pe_ix ix_list (pv 1) (pv 4) (fun _ _ => rfl))) pa_nil)))
  (pss_one (ps_set (i := 3) sc__law_draws.nd rfl (Or.inl rfl) (pe_op op_fdivW (pv 3) (pe_ix ix_list (pv 1) (pv 4) (fun _ _ => rfl)))))) (pss_cons (ps_set (i := 5) sc__law_draws.nd rfl (Or.inl rfl) (pe_op op_mod (pe_callTy call_int1 (by rfl) T.n_int OT.b_int (pa_cons (pe_op op_add (pe_op op_add (pv 0) (pe_op op_mul pe_int (pv 4))) pe_int) pa_nil)) pe_int))
  (pss_cons (ps_set (i := 5) sc__law_draws.nd rfl (Or.inl rfl) (pe_op op_mod (pe_callTy call_int1 (by rfl) T.n_int OT.b_int (pa_cons (pe_op op_mul (pv 5) (pe_op op_add (pv 5) pe_int)) pa_nil)) pe_int))
  (pss_cons (ps_set (i := 5) sc__law_draws.nd rfl (Or.inl rfl) (pe_op op_mod (pe_callTy call_int1 (by rfl) T.n_int OT.b_int (pa_cons (pe_op op_add (pe_op op_mul (pv 5) (pe_op op_add (pv 5) pe_int)) (pe_op op_mul pe_int (pv 4))) pa_nil)) pe_int))
  (pss_one (ps_expr (pe_bm PySem.F.plainAttrs_list PySem.F.slot_list_append PySem.F.type_list_append mt_append (pv 2) (pa_cons (pe_op op_mod (pe_callTy call_int1 (by rfl) T.n_int OT.b_int (pa_cons (pe_op op_fdiv (pv 5) pe_int) pa_nil)) (pe_ix ix_list (pv 1) (pv 4) (fun _ _ => rfl))) pa_nil))))))))))
  (pss_one (ps_ret (pv 2)))))), ?_⟩
    refine ⟨Nat.zero_le _, fun p np => ?_⟩
    have s1 : Same H (upd H p (.lst [])) := same_upd np
    refine ⟨_, rfl, 10, 18, rfl, rfl, ?cp, _, _, rfl, rfl, ?_⟩
    case cp => exact ⟨by decide, by decide⟩
    refine ⟨_, rfl, a, _, rfl, .inl (s1.seq hS), _, rfl, ?_, ?_, ?_⟩
    · rw [List.length_map]
      omega
    · rw [List.length_map]
      have : (2 : Int) ^ 62 = 4611686018427387904 := by decide
      omega
    rw [List.length_map, Int.toNat_natCast]
    refine for_range (fun i σ H2 => ∃ (ds : List Int) (r : Int) (y4 y5 : Option V), σ = [some (.int c), some (.ref a), some (.ref p), some (.int r), y4, y5] ∧ Same H H2 ∧ H2 p = some (.lst (ds.map V.int)) ∧ InR ds (zs.take i)) ?_ ?_ ?_
    · exact ⟨[], _, none, none, rfl, s1, upd_same, rfl, fun i d z h => by simp at h⟩
    · rintro i σ H2 hi ⟨ds, r, y4, y5, rfl, sm, hp, hr2⟩
      have hzi : zs[i]? = some zs[i] := List.getElem?_eq_getElem hi
      obtain ⟨z1, z2⟩ := hz zs[i] (List.getElem_mem hi)
      have hix : atI (zs.map V.int) ((0 : Int) + (i : Int)) = some (.int zs[i]) := by
        rw [Int.zero_add]
        exact atI_nat (by rw [List.getElem?_map, hzi]; rfl)
      have hS2 := sm.seq hS
      have hlen : ds.length = i := by
        rw [hr2.1, List.length_take]
        omega
      have hlt : (ds.map V.int).length < sizeLine := by
        rw [List.length_map]
        exact small1000 (by omega)
      have more : ∀ x : Int, InR (ds ++ [x % zs[i]]) (zs.take (i + 1)) := fun x => by
        refine ⟨?_, fun j d z h1 h2 => ?_⟩
        · rw [List.length_append, List.length_take, hlen]
          simp
          omega
        · by_cases hj : j < i
          · rw [List.getElem?_append_left (by omega)] at h1
            rw [List.getElem?_take_of_lt (by omega)] at h2
            exact hr2.2 j d z h1 (by rw [List.getElem?_take_of_lt hj]; exact h2)
          · by_cases ej : j = i
            · subst ej
              rw [List.getElem?_append_right (by omega), hlen, Nat.sub_self] at h1
              rw [List.getElem?_take_of_lt (by omega), hzi] at h2
              have e1 : x % zs[j] = d := Option.some.inj h1
              have e2 : zs[j] = z := Option.some.inj h2
              rw [← e1, ← e2]
              exact ⟨Int.emod_nonneg _ (by omega), Int.emod_lt_of_pos _ z1⟩
            · rw [List.getElem?_eq_none (by rw [List.length_take]; omega)] at h2
              cases h2
      have fin : ∀ (x r' : Int) (y4 y5 : Option V), ∃ (ds2 : List Int) (r2 : Int) (z4 z5 : Option V), [some (.int c), some (.ref a), some (.ref p), some (.int r'), y4, y5] = [some (.int c), some (.ref a), some (.ref p), some (.int r2), z4, z5] ∧
          Same H (upd H2 p (.lst (ds.map V.int ++ [V.int (x % zs[i])]))) ∧ (upd H2 p (.lst (ds.map V.int ++ [V.int (x % zs[i])]))) p = some (.lst (ds2.map V.int)) ∧ InR ds2 (zs.take (i + 1)) := fun x r' y4 y5 => by
        refine ⟨ds ++ [x % zs[i]], r', y4, y5, rfl, same_mut sm np, ?_, more x⟩
        rw [upd_same, List.map_append]
        rfl
      refine ⟨_, rfl, 10, 18, rfl, rfl, ⟨by decide, by decide⟩, _, _, rfl, rfl, _, rfl, ?_⟩
      refine iteD (fun _ => ?_) (fun _ => ?_)
      · refine ⟨_, rfl, .inl ⟨rfl, _, .inl (.inl hp)⟩, _, rfl, .inl ⟨r, rfl, _, rfl, _, rfl, a, _, _, _, rfl, rfl, hS2, hix, _, _, rfl, rfl, z1, p, _, _, rfl, rfl, hp, hlt, ?_⟩⟩
        have sm3 : Same H (upd H2 p (.lst (ds.map V.int ++ [V.int (r % zs[i])]))) := same_mut sm np
        refine ⟨_, rfl, _, rfl, _, rfl, a, _, _, _, rfl, rfl, sm3.seq hS, hix, _, _, rfl, rfl, wide_div z1 (b := 64) (small64 z1 z2) (by decide) (by decide), ?_⟩
        exact fin _ _ _ _
      · refine ⟨_, rfl, _, rfl, _, _, rfl, rfl, .inl ⟨by decide, by decide⟩, _, _, rfl, rfl, _, _, rfl, rfl, .inl ⟨_, rfl, _, _, rfl, rfl, by show (0 : Int) < 2147483647; decide, ?_⟩⟩
        refine ⟨_, rfl, _, rfl, _, _, rfl, rfl, _, _, rfl, rfl, cmul_m1 _ _, .inl ⟨_, rfl, _, _, rfl, rfl, by show (0 : Int) < 2147483629; decide, ?_⟩⟩
        refine ⟨_, rfl, _, rfl, _, _, rfl, rfl, _, _, rfl, rfl, cmul_m2 _ _, _, rfl, _, _, rfl, rfl, .inl ⟨by decide, by decide⟩, _, _, rfl, rfl, .inl ⟨_, rfl, _, _, rfl, rfl, by show (0 : Int) < 2147483647; decide, ?_⟩⟩
        refine ⟨_, rfl, .inl ⟨rfl, _, .inl (.inl hp)⟩, _, rfl, _, _, rfl, rfl, ⟨by decide, by decide⟩, .inl ⟨_, rfl, _, rfl, _, rfl, a, _, _, _, rfl, rfl, hS2, hix, _, _, rfl, rfl, z1, p, _, _, rfl, rfl, hp, hlt, ?_⟩⟩
        exact fin _ _ _ _
    · rintro σ H2 ⟨ds, r, y4, y5, rfl, sm, hp, hr2⟩
      rw [List.take_length] at hr2
      exact ⟨_, rfl, q ds H2 p hr2 sm np hp⟩
end

set_option Elab.async false
set_option linter.all false
set_option maxRecDepth 100000
set_option maxHeartbeats 2000000
theorem take_map_succ {α β : Type} {l : List α} {i : Nat} (f : α → β) (h : i < l.length) : (l.take (i + 1)).map f = (l.take i).map f ++ [f l[i]] := by
  rw [List.take_add_one, List.getElem?_eq_getElem h, List.map_append]
  rfl
theorem getm {α β : Type} {l : List α} {i : Nat} {f : α → β} {x : β} (h : (l.map f)[i]? = some x) : ∃ hi : i < l.length, x = f l[i] := by
  rw [List.getElem?_map] at h
  cases e : l[i]? with
  | none =>
    rw [e] at h
    cases h
  | some z =>
    rw [e] at h
    obtain ⟨hi, hz⟩ := List.getElem?_eq_some_iff.mp e
    exact ⟨hi, by rw [hz]; exact (Option.some.inj h).symm⟩
theorem tYes_of {A B : Hp → Prop} {σ : L2.St} {H : Hp} (h : A H) : tYes σ H (fun b H3 => if b = true then A H3 else B H3) := by
  show (if true = true then A H else B H)
  rw [if_pos rfl]
  exact h
theorem drop_cons {α : Type} {l : List α} {i : Nat} (h : i < l.length) : l.drop i = l[i] :: l.drop (i + 1) := List.drop_eq_getElem_cons h
theorem kb_ii : kitB "int" "int" = some true := by decide +kernel
theorem kb_ib : kitB "int" "bool" = some false := by decide +kernel
theorem kb_tt : kitB "tuple" "tuple" = some true := by decide +kernel
theorem kb_ss : kitB "str" "str" = some true := by decide +kernel
theorem kb_ll : kitB "list" "list" = some true := by decide +kernel
theorem depth_ints : ∀ ns : List Int, PyData.depthAll (ns.map PyData.int) = 0
  | [] => by simp only [List.map_nil, PyData.depthAll]
  | n :: r => by simp only [List.map_cons, PyData.depthAll, PyData.depth, depth_ints r, Nat.max_self]
theorem depth_row : ∀ es : List Ent, PyData.depthAll (es.map dEnt) ≤ 3
  | [] => by simp only [List.map_nil, PyData.depthAll]; decide
  | e :: r => by
    have ih := depth_row r
    simp only [List.map_cons, PyData.depthAll, dEnt, dPl, PyData.depth, depth_ints] at ih ⊢
    omega
theorem shaped_row (es : List Ent) : SeqAt.shaped (dRow es) = true := by
  unfold SeqAt.shaped
  have h1 : (dRow es).canLay0 = true := lay_row es
  rw [h1, Bool.true_and]
  refine decide_eq_true ?_
  have := depth_row es
  simp only [dRow, PyData.depth]
  omega
section
variable {P : Program} {w : World} {K : PySem.W.Frag} {mg : Str → Option Value} {base : Heap}
def spIsInt : Sp := fun vs H Q _ => ∃ i : Int, vs = [.int i] ∧ Q (.bl true) H
theorem c__law_is_integer {f : Addr} {fd : FuncData} (D : C8.Def K mg "_law_is_integer" s__law_is_integer f fd) (b : Binds K fd ["_law_actual"] []) (T : Bi mg) : C8.Cal P w K mg base 1 "_law_is_integer" spIsInt [] := by
  refine C8.cal0 D b .nil sc__law_is_integer (fun vs H Q E h => ?_) (fun cdv A outer s H vs Q E hr h => ?_)
  · obtain ⟨i, rfl, _⟩ := h
    rfl
  · obtain ⟨i, rfl, q⟩ := h
    refine ⟨_, (pss_one (ps_ret (pe_and (pe_callB call_isi (by rfl) T.n_isinstance OT.b_isinstance (pa_cons (pv 0) (pa_cons (pe_bltn (v := .ty "int") (by rfl) T.n_int OT.b_int rfl) pa_nil))) (pe_one (pe_not (pe_callB call_isi (by rfl) T.n_isinstance OT.b_isinstance (pa_cons (pv 0) (pa_cons (pe_bltn (v := .ty "bool") (by rfl) T.n_bool OT.b_bool rfl) pa_nil)))))))), ?_⟩
    refine ⟨_, rfl, _, _, _, _, _, rfl, .ty _, .base (.int i), kit_ty kb_ii, _, rfl, ?_⟩
    refine iteT ?_
    exact ⟨_, rfl, _, _, _, _, _, rfl, .ty _, .base (.int i), kit_ty kb_ib, _, rfl, q⟩
def spIsPlace (K : PySem.W.Frag) : Sp := fun vs H Q _ => ∃ (a : Addr) (ns : List Int), vs = [.ref a] ∧ H a = some (.tup (ns.map V.int)) ∧ 1 ≤ ns.length ∧ ns.length ≤ 3 ∧ Q (.bl true) H
end

set_option Elab.async false
set_option linter.all false
set_option maxRecDepth 100000
set_option maxHeartbeats 2000000
theorem kV_ints (k : Pl) : (k.map (Sum.inl : Int → Key)).map kV = k.map V.int := by
  rw [List.map_map]
  rfl
theorem dgetT {H : Hp} {d b : Addr} {kvs : List (List Key × V)} {k : Pl} {o : Option V} (e : H d = some (.dT kvs)) (eb : H b = some (.tup (k.map V.int))) (h : valV kvs (k.map Sum.inl) = o) : DGet H d (.ref b) o := by
  rw [← h]
  exact DGet.t e (by rw [kV_ints]; exact eb)
theorem ne_lst {H : Hp} {a D : Addr} {xs l : List V} (h : H a = some (.tup xs)) (hD : H D = some (.lst l)) : a ≠ D := fun e => by
  rw [e, hD] at h
  cases h
theorem EntAt.updL {H : Hp} {D : Addr} {l l' : List V} {v : V} {e : Ent} (hD : H D = some (.lst l)) (h : EntAt H v e) : EntAt (upd H D (.lst l')) v e := by
  obtain ⟨t, p, rfl, h1, h2⟩ := h
  exact ⟨t, p, rfl, by rw [upd_ne (ne_lst h1 hD)]; exact h1, by rw [upd_ne (ne_lst h2 hD)]; exact h2⟩
theorem Ents.updL {H : Hp} {D : Addr} {l l' : List V} {vs : List V} {es : List Ent} (hD : H D = some (.lst l)) (h : Ents H vs es) : Ents (upd H D (.lst l')) vs es := by
  induction h with
  | nil => exact .nil
  | cons h1 _ ih => exact .cons (h1.updL hD) ih
theorem mkR_len (f : Pl → Int) : ∀ ks : List Pl, (mkR f ks).length ≤ ks.length
  | [] => Nat.le_refl _
  | k :: r => by
    have ih := mkR_len f r
    show (if f k = 0 then mkR f r else (k, f k) :: mkR f r).length ≤ r.length + 1
    by_cases h : f k = 0
    · rw [if_pos h]
      omega
    · rw [if_neg h, List.length_cons]
      omega
theorem none_of_upd {H : Hp} {p D : Addr} {o : HO} (h : upd H p o D = none) : H D = none ∧ p ≠ D := by
  have ne : p ≠ D := ne_of_none upd_same h
  exact ⟨by rw [upd_ne ne.symm] at h; exact h, ne⟩
section
variable {P : Program} {w : World} {K : PySem.W.Frag} {mg : Str → Option Value} {base : Heap}
def wantRow (H : Hp) (es : List Ent) (Q : VK) : Prop := ∀ (r : List Ent) (p : Addr) (ws : List V) (H' : Hp), RowIs r es → Same H H' → H p = none → H' p = some (.lst ws) → Ents H' ws r → Q (.ref p) H'
def spRowOf (K : PySem.W.Frag) : Sp := fun vs H Q _ => ∃ (d : Addr) (kvs : List (List Key × V)) (ks : List Pl) (es : List Ent), vs = [.ref d] ∧ H d = some (.dT kvs) ∧ Sums kvs ks (numAt es) ∧ (∀ k ∈ ks, k ≠ []) ∧ ks.length < sizeLine ∧ wantRow H es Q
end

set_option Elab.async false
set_option linter.all false
set_option maxRecDepth 100000
set_option maxHeartbeats 2000000
section
variable {P : Program} {w : World} {K : PySem.W.Frag} {mg : Str → Option Value} {base : Heap}
theorem put_keys_ne {ks : List Pl} {e : Pl} (h : ∀ k ∈ ks, k ≠ []) (he : e ≠ []) : ∀ k ∈ (if e ∈ ks then ks else ks ++ [e]), k ≠ [] := by
  by_cases m : e ∈ ks
  · rw [if_pos m]
    exact h
  · rw [if_neg m]
    intro k hk
    rcases List.mem_append.mp hk with hk | hk
    · exact h k hk
    · rw [List.mem_singleton.mp hk]
      exact he
theorem put_keys_len {ks : List Pl} {e : Pl} {i : Nat} (h : ks.length ≤ i) : (if e ∈ ks then ks else ks ++ [e]).length ≤ i + 1 := by
  by_cases m : e ∈ ks
  · rw [if_pos m]
    omega
  · rw [if_neg m, List.length_append, List.length_singleton]
    omega
theorem Ents.updD {H : Hp} {D : Addr} {l l' : List (List Key × V)} {vs : List V} {es : List Ent} (hD : H D = some (.dT l)) (h : Ents H vs es) : Ents (upd H D (.dT l')) vs es := by
  have ne : ∀ {a : Addr} {xs : List V}, H a = some (.tup xs) → a ≠ D := fun {a xs} h e => by
    rw [e, hD] at h
    cases h
  induction h with
  | nil => exact .nil
  | cons h1 _ ih =>
    obtain ⟨t, p, rfl, h1, h2⟩ := h1
    exact .cons ⟨t, p, rfl, by rw [upd_ne (ne h1)]; exact h1, by rw [upd_ne (ne h2)]; exact h2⟩ ih
theorem seq_upd {H : Hp} {D a : Addr} {o : HO} {xs : List V} (h : SqL K H a xs) (ne : a ≠ D) : SqL K (upd H D o) a xs := by
  rcases h with (h | ⟨o', h⟩) | h
  · exact .inl (.inl (by rw [upd_ne ne]; exact h))
  · exact .inl (.inr ⟨o', by rw [upd_ne ne]; exact h⟩)
  · exact .inr h
/-- what a list of entries asks -/
structure InEnts (K : PySem.W.Frag) (H : Hp) (a : Addr) (vs : List V) (es : List Ent) : Prop where
  l : SqL K H a vs
  e : Ents H vs es
  z : es.length < sizeLine
theorem InEnts.mono {H H' : Hp} {a : Addr} {vs : List V} {es : List Ent} (s : Same H H') (h : InEnts K H a vs es) : InEnts K H' a vs es := ⟨s.seq h.l, h.e.mono s, h.z⟩
def spGather (K : PySem.W.Frag) : Sp := fun vs H Q _ => ∃ (a : Addr) (xs : List V) (es : List Ent), vs = [.ref a] ∧ InEnts K H a xs es ∧ (∀ e ∈ es, e.1 ≠ []) ∧ wantRow H es Q
theorem c__law_row {f : Addr} {fd : FuncData} (D : C8.Def K mg "_law_row" s__law_row f fd) (b : Binds K fd ["_law_pairs"] []) (T : Bi mg) : C8.Cal P w K mg base 1 "_law_row" (spGather K) [] := by
  refine C8.cal0 D b .nil sc__law_row (fun vs H Q E h => ?_) (fun cdv A outer s H vs Q E hr h => ?_)
  · obtain ⟨a, xs, es, rfl, _⟩ := h
    rfl
  · obtain ⟨a, xs, es, rfl, hE, hne, q⟩ := h
    refine ⟨_, (pss_cons (ps_set (i := 1) sc__law_row.nd rfl (Or.inr rfl) pe_dnewT)
  (pss_cons (ps_for PassesOwn.never rfl (pi_list (pv 0)) (pg_tup rfl (pgs_cons (pg_name (i := 2) sc__law_row.nd rfl (Or.inl rfl)) (pgs_cons (pg_name (i := 3) sc__law_row.nd rfl (Or.inl rfl)) pgs_nil))) (pss_one (ps_dput (hu_of hr) (pv 1) (pv 2) (pe_op op_add (pe_dget2 (hu_of hr) (pv 1) (pv 2) pe_int ⟨rfl, rfl, rfl, rfl⟩) (pv 3)) rfl)))
  (pss_one (ps_ret (pe_lc (own := [("_law_place", 2)]) (g := (gName 2)) rfl sc__law_row.nd (pi_list (pe_callB (cr_sortedDT rfl) (by rfl) T.n_sorted OT.b_sorted (pa_cons (pv 1) pa_nil))) (blkOk_by (N := ["_law_pairs", "_law_sums", "_law_place", "_law_number"]) (sc := C8.fnScope s__law_row) (by decide +kernel)) (fun _ _ _ _ _ => (pg_name (i := 2) sc__law_row.nd rfl (Or.inl rfl))) (fun _ _ _ _ _ => (pts_one (pt_cmpR op_ne (pe_dget (hu_of hr) (pv 1) (pv 2) (fun _ _ => rfl)) pe_int (nomark _)))) (fun _ _ _ _ _ => (pe_tup (pa_cons (pv 2) (pa_cons (pe_dget (hu_of hr) (pv 1) (pv 2) (fun _ _ => rfl)) pa_nil))))))))), ?_⟩
    refine fun d nd => ?_
    have s1 : Same H (upd H d (.dT [])) := same_upd nd
    refine ⟨_, rfl, a, rfl, ⟨xs, s1.seq hE.l⟩, ?_⟩
    refine for_list (K := K) (xs := xs) (fun i σ H2 => ∃ (kvs : List (List Key × V)) (ks : List Pl) (y2 y3 : Option V), σ = [some (.ref a), some (.ref d), y2, y3] ∧ Same H H2 ∧ H2 d = some (.dT kvs) ∧ Sums kvs ks (numAt (es.take i)) ∧ (∀ k ∈ ks, k ≠ []) ∧ ks.length ≤ i) ?_ ?_ ?_ ?_
    · exact ⟨[], [], none, none, rfl, s1, upd_same, Sums.nil, fun k hk => (by cases hk), Nat.le_refl _⟩
    · rintro i σ H2 _ ⟨_, _, _, _, _, sm, _⟩
      exact sm.seq hE.l
    · rintro i x σ H2 hx ⟨kvs, ks, y2, y3, rfl, sm, hd, hs, hk, hl⟩
      obtain ⟨e, he, hv⟩ := (hE.e.mono sm).get hx
      obtain ⟨t, p, rfl, ht, hp⟩ := hv
      have hi := (List.getElem?_eq_some_iff.mp he).1
      have hm : e ∈ es := List.mem_of_getElem? he
      have hz := hE.z
      refine ⟨t, _, rfl, .inl (.inl ht), rfl, _, _, rfl, _, _, rfl, rfl, ?_⟩
      refine ⟨_, rfl, d, rfl, .inr ⟨kvs, .inl hd⟩, _, rfl, _, dgetT hd hp rfl, _, rfl, numAt (es.take i) e.1, e.2, hs.getD _, rfl, _, rfl, _, rfl, d, _, rfl, DPut.t hd (k := e.1.map Sum.inl) (by rw [kV_ints]; exact hp) ?_, ?_⟩
      · rw [hs.len]
        omega
      · exact ⟨_, _, _, _, rfl, same_mut sm nd, upd_same, hs.next he, put_keys_ne hk (hne e hm), put_keys_len hl⟩
    · rintro σ H2 ⟨kvs, ks, y2, y3, rfl, sm, hd, hs, hk, hl⟩
      have hz := hE.z
      have hlen := hE.e.len
      rw [hlen, List.take_length] at hs
      have hkz : ks.length < sizeLine := by omega
      refine ⟨_, rfl, d, kvs, ks, rfl, .inl hd, hs.keys, fun _ => hk, fun out p perm pw nod held np => ?_⟩
      refine ⟨p, rfl, ⟨_, .inl (.inl upd_same)⟩, fun D nD => ?_⟩
      have hpD : p ≠ D := ne_of_none upd_same nD
      obtain ⟨hDn, _⟩ := none_of_upd nD
      have hkd : ∀ x ∈ out, x.2 ∈ ks := fun x hx => perm.mem_iff.mp (List.mem_map_of_mem hx)
      refine lc_list (K := K) (a := p) (xs := out.map fun x => V.ref x.1) (fun i H3 => Same H2 H3 ∧ H3 p = some (.lst (out.map fun x => V.ref x.1)) ∧ ∃ ws, H3 D = some (.lst ws) ∧ Ents H3 ws (mkR (numAt es) ((out.take i).map (·.2)))) ?_ ?_ ?_ ?_
      · refine ⟨(same_upd np).trans (same_upd nD), ?_, [], upd_same, .nil⟩
        rw [upd_ne hpD, upd_same]
      · rintro i H3 _ ⟨_, hp, _⟩
        exact .inl (.inl hp)
      · rintro i x H3 hx ⟨sm3, hp, ws, hD, hE3⟩
        obtain ⟨hi, rfl⟩ := getm hx
        have hm := List.getElem_mem hi
        have hk3 := sm3 _ _ (held _ hm)
        have hv := hs.get (hkd _ hm)
        have hd2 := sm3 _ _ hd
        refine ⟨rfl, _, rfl, _, rfl, d, _, rfl, dgetT hd2 hk3 hv, ?_⟩
        refine ⟨rfl, _, rfl, ?_⟩
        have htk : (out.take (i + 1)).map (·.2) = (out.take i).map (·.2) ++ [out[i].2] := take_map_succ (·.2) hi
        rw [htk, mkR_snoc]
        refine iteND (fun hn => ?_) (fun h0 => ?_)
        · have hn0 : numAt es out[i].2 ≠ 0 := fun z => hn (by rw [z])
          rw [if_neg hn0]
          refine ⟨_, rfl, _, rfl, _, rfl, d, _, rfl, dgetT hd2 hk3 hv, (by show 2 ≤ sizeLine; decide), fun t nt => ?_⟩
          have ntD : D ≠ t := ne_of_none hD nt
          have smt : Same H3 (upd H3 t (.tup [.ref out[i].1, .int (numAt es out[i].2)])) := same_upd nt
          have hD3 := smt _ _ hD
          refine ⟨ws, hD3, ?_, same_mut (sm3.trans smt) hDn, ?_, ws ++ [.ref t], upd_same, ?_⟩
          · have h1 := hE3.len
            have h2 := mkR_len (numAt es) ((out.take i).map (·.2))
            have h3 := perm.length_eq
            rw [List.length_map] at h2 h3
            rw [List.length_take] at h2
            omega
          · rw [upd_ne hpD]
            exact smt _ _ hp
          · refine ((hE3.mono smt).updL hD3).app (.cons (EntAt.updL hD3 ⟨t, _, rfl, upd_same, ?_⟩) .nil)
            exact smt _ _ hk3
        · have h0' : numAt es out[i].2 = 0 := V.int.inj h0
          rw [if_pos h0', List.append_nil]
          exact ⟨sm3, hp, ws, hD, hE3⟩
      · rintro H3 ⟨sm3, hp, ws, hD, hE3⟩
        rw [List.length_map, List.take_length] at hE3
        refine q _ D ws H3 (row_sorted perm pw nod hs.out) (sm.trans sm3) ?_ hD hE3
        cases z : H D with
        | none => rfl
        | some o =>
          rw [sm _ _ z] at hDn
          cases hDn
end

set_option Elab.async false
set_option linter.all false
set_option maxRecDepth 100000
set_option maxHeartbeats 2000000
section
variable {P : Program} {w : World} {K : PySem.W.Frag} {mg : Str → Option Value} {base : Heap}
/-- a row of places of n coordinates -/
structure RowN (n : Nat) (r : List Ent) : Prop where
  v : Valid r
  n1 : 1 ≤ n
  n3 : n ≤ 3
  at_ : ∀ e ∈ r, e.1.length = n
theorem asc_get {r : List Ent} (h : Valid r) {i j : Nat} (hi : i < r.length) (hj : j < r.length) (hij : i < j) : HT.lexLt r[i].1 r[j].1 = true := List.pairwise_iff_getElem.mp h.asc i j hi hj hij
def spIsRow (K : PySem.W.Frag) : Sp := fun vs H Q _ => ∃ (a : Addr) (ws : List V) (r : List Ent) (n : Nat), vs = [.ref a] ∧ H a = some (.lst ws) ∧ Ents H ws r ∧ RowN n r ∧ r.length ≤ 100000 ∧ Q (.bl true) H
def spSame (K : PySem.W.Frag) : Sp := fun vs H Q _ => ∃ (a c : Addr) (ws us : List V) (r : List Ent) (n : Nat), vs = [.ref a, .ref c] ∧ H a = some (.lst ws) ∧ Ents H ws r ∧ H c = some (.lst us) ∧ Ents H us r ∧ RowN n r ∧ r.length ≤ 100000 ∧ Q (.bl true) H
end

set_option Elab.async false
set_option linter.all false
set_option maxRecDepth 100000
set_option maxHeartbeats 2000000
/-! ### places -/
def plusP (k l : Pl) : Pl := List.zipWith (· + ·) k l
theorem plusP_len {k l : Pl} (h : k.length ≤ l.length) : (plusP k l).length = k.length := by
  unfold plusP
  rw [List.length_zipWith, Nat.min_eq_left h]
theorem plusP_get {k l : Pl} {i : Nat} (h : i < (plusP k l).length) (h1 : i < k.length) (h2 : i < l.length) : (plusP k l)[i] = k[i] + l[i] := by
  unfold plusP
  exact List.getElem_zipWith ..
theorem plusP_mem {k l : Pl} {x : Int} (h : x ∈ plusP k l) : ∃ a ∈ k, ∃ b ∈ l, x = a + b := by
  obtain ⟨i, hi, rfl⟩ := List.getElem_of_mem h
  have hk : i < k.length := by
    unfold plusP at hi
    rw [List.length_zipWith] at hi
    omega
  have hl : i < l.length := by
    unfold plusP at hi
    rw [List.length_zipWith] at hi
    omega
  exact ⟨_, List.getElem_mem hk, _, List.getElem_mem hl, plusP_get hi hk hl⟩
theorem plusP_lt : ∀ {a b l : Pl}, a.length ≤ l.length → b.length ≤ l.length → HT.lexLt (plusP a l) (plusP b l) = HT.lexLt a b
  | [], [], _, _, _ => rfl
  | [], _ :: _, _ :: _, _, _ => rfl
  | _ :: _, [], _ :: _, _, _ => rfl
  | x :: a, y :: b, z :: l, h1, h2 => by
    show (if x + z = y + z then HT.lexLt (plusP a l) (plusP b l) else decide (x + z < y + z)) = if x = y then HT.lexLt a b else decide (x < y)
    rw [plusP_lt (Nat.le_of_succ_le_succ h1) (Nat.le_of_succ_le_succ h2)]
    by_cases e : x = y
    · rw [if_pos e, if_pos (by rw [e])]
    · rw [if_neg e, if_neg (by omega)]
      by_cases h : x < y
      · rw [decide_eq_true h, decide_eq_true (by omega)]
      · rw [decide_eq_false h, decide_eq_false (by omega)]
def movL (es : List Ent) (l : Pl) : List Ent := es.map fun e => (plusP e.1 l, e.2)
theorem movL_valid {es : List Ent} {l : Pl} (h : Valid es) (hl : ∀ e ∈ es, e.1.length ≤ l.length) : Valid (movL es l) := by
  refine ⟨?_, fun e he => ?_⟩
  · unfold movL
    rw [List.pairwise_map]
    refine List.Pairwise.imp_of_mem (fun {x y} hx hy q => ?_) h.asc
    rw [plusP_lt (hl x hx) (hl y hy)]
    exact q
  · obtain ⟨x, hx, rfl⟩ := List.mem_map.mp he
    exact h.nz x hx
theorem numAt_bound {es : List Ent} {m : Nat} (h : ∀ e ∈ es, e.2.natAbs ≤ m) (q : Pl) : (numAt es q).natAbs ≤ es.length * m := by
  induction es with
  | nil => exact Nat.zero_le _
  | cons e r ih =>
    have h1 := h e List.mem_cons_self
    have h2 := ih fun x hx => h x (List.mem_cons_of_mem _ hx)
    show ((if e.1 = q then e.2 else 0) + numAt r q).natAbs ≤ (r.length + 1) * m
    rw [Nat.succ_mul]
    by_cases c : e.1 = q
    · rw [if_pos c]
      omega
    · rw [if_neg c]
      omega
theorem RowIs.bound {r es : List Ent} {m : Nat} (h : RowIs r es) (hb : ∀ e ∈ es, e.2.natAbs ≤ m) : ∀ e ∈ r, e.2.natAbs ≤ es.length * m := fun e he => by
  have h1 := h.v.at e he
  rw [h.s] at h1
  rw [← h1]
  exact numAt_bound hb _
/-- tuples of ints, in turn -/
inductive Pls (H : Hp) : List V → List Pl → Prop
  | nil : Pls H [] []
  | cons {p : Addr} {k : Pl} {vs : List V} {ks : List Pl} : H p = some (.tup (k.map V.int)) → Pls H vs ks → Pls H (.ref p :: vs) (k :: ks)
theorem Pls.len {H : Hp} {vs : List V} {ks : List Pl} (h : Pls H vs ks) : vs.length = ks.length := by
  induction h with
  | nil => rfl
  | cons _ _ ih => rw [List.length_cons, List.length_cons, ih]
theorem Pls.mono {H H' : Hp} {vs : List V} {ks : List Pl} (s : ∀ b o, H b = some o → H' b = some o) (h : Pls H vs ks) : Pls H' vs ks := by
  induction h with
  | nil => exact .nil
  | cons h1 _ ih => exact .cons (s _ _ h1) ih
theorem Pls.app {H : Hp} {vs ws : List V} {ks ls : List Pl} (h : Pls H vs ks) (g : Pls H ws ls) : Pls H (vs ++ ws) (ks ++ ls) := by
  induction h with
  | nil => exact g
  | cons h1 _ ih => exact .cons h1 ih
theorem Pls.updL {H : Hp} {D : Addr} {l l' : List V} {vs : List V} {ks : List Pl} (hD : H D = some (.lst l)) (h : Pls H vs ks) : Pls (upd H D (.lst l')) vs ks := by
  induction h with
  | nil => exact .nil
  | cons h1 _ ih => exact .cons (by rw [upd_ne (ne_lst h1 hD)]; exact h1) ih
theorem Pls.get {H : Hp} {vs : List V} {ks : List Pl} (h : Pls H vs ks) : ∀ {i : Nat} {v : V}, vs[i]? = some v → ∃ p k, v = .ref p ∧ ks[i]? = some k ∧ H p = some (.tup (k.map V.int)) := by
  induction h with
  | nil => intro i v h; simp at h
  | cons h1 _ ih =>
    intro i v hv
    cases i with
    | zero =>
      cases hv
      exact ⟨_, _, rfl, rfl, h1⟩
    | succ i => exact ih (i := i) hv
section
variable {P : Program} {w : World} {K : PySem.W.Frag} {mg : Str → Option Value} {base : Heap}
theorem small100k {n : Nat} (h : n ≤ 100000) : n < sizeLine := Nat.lt_of_le_of_lt h (by decide)
theorem b62 {n : Nat} (h : n ≤ 100000) : (n : Int) < 2 ^ 62 := by
  have : (2 : Int) ^ 62 = 4611686018427387904 := by decide
  omega
def spPlus (K : PySem.W.Frag) : Sp := fun vs H Q _ => ∃ (a b : Addr) (k l : Pl), vs = [.ref a, .ref b] ∧ SqT K H a (k.map V.int) ∧ SqT K H b (l.map V.int) ∧ k.length ≤ l.length ∧ k.length ≤ 1000 ∧ ∀ p H', Same H H' → H' p = some (.tup ((plusP k l).map V.int)) → Q (.ref p) H'
theorem c__law_plus {f : Addr} {fd : FuncData} (D : C8.Def K mg "_law_plus" s__law_plus f fd) (b : Binds K fd ["_law_place", "_law_other"] []) (T : Bi mg) : C8.Cal P w K mg base 1 "_law_plus" (spPlus K) [] := by
  refine C8.cal0 D b .nil sc__law_plus (fun vs H Q E h => ?_) (fun cdv A outer s H vs Q E hr h => ?_)
  · obtain ⟨a, b, k, l, rfl, _⟩ := h
    rfl
  · obtain ⟨a, b, k, l, rfl, hk, hl, hkl, hz, q⟩ := h
    refine ⟨_, (pss_one (ps_ret (pe_callTy call_tuple_of (by rfl) T.n_tuple OT.b_tuple (pa_cons (pe_lc (own := [("_law_k", 2)]) (g := (gName 2)) (tt := tYes) rfl sc__law_plus.nd (pi_range1 rfl T.n_range (pa_cons (pe_callB call_len_seq (by rfl) T.n_len OT.b_len (pa_cons (pv 0) pa_nil)) pa_nil)) (blkOk_by (N := ["_law_place", "_law_other", "_law_k"]) (sc := C8.fnScope s__law_plus) (by decide +kernel)) (fun _ _ _ _ _ => (pg_name (i := 2) sc__law_plus.nd rfl (Or.inl rfl))) (fun _ _ _ _ _ => pts_nil) (fun _ _ _ _ _ => (pe_op op_add (pe_ix (show IxR _ (rIxT K) from ix_tup) (pv 0) (pv 2) (fun _ _ => rfl)) (pe_ix (show IxR _ (rIxT K) from ix_tup) (pv 1) (pv 2) (fun _ _ => rfl))))) pa_nil)))), ?_⟩
    have hpl := plusP_len hkl
    refine ⟨_, rfl, a, _, rfl, .inr hk, _, rfl, by omega, b62 (by rw [List.length_map]; omega), fun p np => ?_⟩
    rw [List.length_map, Int.toNat_natCast]
    refine lc_range (lo := 0) (n := k.length) (fun i H2 => Same H H2 ∧ H2 p = some (.lst (((plusP k l).take i).map V.int))) ⟨same_upd np, upd_same⟩ ?_ ?_
    · rintro i H2 hi ⟨sm, hp⟩
      have hil : i < l.length := by omega
      have hip : i < (plusP k l).length := by omega
      have gk : atI (k.map V.int) ((0 : Int) + (i : Int)) = some (.int k[i]) := by
        rw [Int.zero_add]
        exact atI_nat (by rw [List.getElem?_map, List.getElem?_eq_getElem hi]; rfl)
      have gl : atI (l.map V.int) ((0 : Int) + (i : Int)) = some (.int l[i]) := by
        rw [Int.zero_add]
        exact atI_nat (by rw [List.getElem?_map, List.getElem?_eq_getElem hil]; rfl)
      refine ⟨rfl, tYes_of ?_⟩
      refine ⟨_, rfl, _, rfl, a, _, _, _, rfl, rfl, same_t sm hk, gk, _, rfl, _, rfl, b, _, _, _, rfl, rfl, same_t sm hl, gl, _, _, rfl, rfl, _, hp, ?_, same_mut sm np, ?_⟩
      · rw [List.length_map, List.length_take]
        exact small1000 (by omega)
      · rw [upd_same, take_map_succ V.int hip, plusP_get hip hi hil]
    · rintro H2 ⟨sm, hp⟩
      rw [← hpl, List.take_length] at hp
      exact ⟨p, _, rfl, .inl ⟨.inl (.inl hp), fun t nt => q t _ (sm.trans (same_upd nt)) upd_same⟩⟩
def spMoved (K : PySem.W.Frag) : Sp := fun vs H Q _ => ∃ (a b : Addr) (xs : List V) (es : List Ent) (l : Pl), vs = [.ref a, .ref b] ∧ InEnts K H a xs es ∧ SqT K H b (l.map V.int) ∧ (∀ e ∈ es, e.1.length ≤ l.length) ∧ l.length ≤ 1000 ∧
  ∀ p ws H', Same H H' → H p = none → H' p = some (.lst ws) → Ents H' ws (movL es l) → Q (.ref p) H'
theorem c__law_moved {f : Addr} {fd : FuncData} (D : C8.Def K mg "_law_moved" s__law_moved f fd) (b : Binds K fd ["_law_row_here", "_law_by"] []) (T : Bi mg) (c__law_plus : C8.Cal P w K mg base 1 "_law_plus" (spPlus K) []) : C8.Cal P w K mg base 2 "_law_moved" (spMoved K) [] := by
  refine C8.cal0 D b .nil sc__law_moved (fun vs H Q E h => ?_) (fun cdv A outer s H vs Q E hr h => ?_)
  · obtain ⟨a, b, xs, es, l, rfl, _⟩ := h
    rfl
  · obtain ⟨a, b, xs, es, l, rfl, hE, hl, hle, hz, q⟩ := h
    refine ⟨_, (pss_one (ps_ret (pe_lc (own := [("_law_entry", 2)]) (g := (gName 2)) (tt := tYes) rfl sc__law_moved.nd (pi_list (pv 0)) (blkOk_by (N := ["_law_row_here", "_law_by", "_law_entry"]) (sc := C8.fnScope s__law_moved) (by decide +kernel)) (fun _ _ _ _ _ => (pg_name (i := 2) sc__law_moved.nd rfl (Or.inl rfl))) (fun _ _ _ _ _ => pts_nil) (fun _ _ _ _ _ => (pe_tup (pa_cons (C8.pe_c c__law_plus hr (by decide) (by rfl) (pa_cons (pe_ix (show IxR _ (rIxT K) from ix_tup) (pv 2) pe_int (fun _ _ => rfl)) (pa_cons (pv 1) pa_nil))) (pa_cons (pe_ix (show IxR _ (rIxT K) from ix_tup) (pv 2) pe_int (fun _ _ => rfl)) pa_nil))))))), ?_⟩
    have hx := hE.e.len
    have hez := hE.z
    refine ⟨_, rfl, a, rfl, ⟨_, hE.l⟩, fun p np => ?_⟩
    refine lc_list (K := K) (xs := xs) (fun i H2 => Same H H2 ∧ ∃ ws, H2 p = some (.lst ws) ∧ Ents H2 ws (movL (es.take i) l)) ?_ ?_ ?_ ?_
    · exact ⟨same_upd np, [], upd_same, .nil⟩
    · rintro i H2 _ ⟨sm, _⟩
      exact sm.seq hE.l
    · rintro i x H2 hxi ⟨sm, ws, hp, hW⟩
      obtain ⟨e, he, t, pe, rfl, ht, hpe⟩ := (hE.e.mono sm).get hxi
      obtain ⟨hi, hee⟩ := List.getElem?_eq_some_iff.mp he
      have hm := List.mem_of_getElem? he
      have hT : SqT K H2 t [.ref pe, .int e.2] := .inl (.inl ht)
      refine ⟨rfl, tYes_of ?_⟩
      refine ⟨_, rfl, t, _, 0, _, rfl, rfl, hT, atI_nat (j := 0) rfl, _, rfl, pe, b, e.1, l, rfl, .inl (.inl hpe), same_t sm hl, hle e hm, Nat.le_trans (hle e hm) hz, fun p3 H3 sm3 hp3 => ?_⟩
      refine ⟨_, rfl, t, _, 1, _, rfl, rfl, same_t sm3 hT, atI_nat (j := 1) rfl, (by show 2 ≤ sizeLine; decide), fun t4 nt4 => ?_⟩
      have sm4 : Same H3 (upd H3 t4 (.tup [.ref p3, .int e.2])) := same_upd nt4
      have smA := sm3.trans sm4
      have hv : EntAt (upd H3 t4 (.tup [.ref p3, .int e.2])) (.ref t4) (plusP e.1 l, e.2) := ⟨t4, p3, rfl, upd_same, sm4 _ _ hp3⟩
      have hD := smA _ _ hp
      have hwl := hW.len
      refine ⟨ws, hD, ?_, same_mut (sm.trans smA) np, ws ++ [.ref t4], upd_same, ?_⟩
      · unfold movL at hwl
        rw [List.length_map, List.length_take] at hwl
        omega
      · have ht1 : es.take (i + 1) = es.take i ++ [e] := by
          rw [List.take_add_one, he]
          rfl
        unfold movL
        rw [ht1, List.map_append]
        exact ((hW.mono smA).app (.cons hv .nil)).updL hD
    · rintro H2 ⟨sm, ws, hp, hW⟩
      rw [hx, List.take_length] at hW
      exact q p ws H2 sm np hp hW
end

set_option Elab.async false
set_option linter.all false
set_option maxRecDepth 100000
set_option maxHeartbeats 2000000
def negP (k : Pl) : Pl := k.map fun x => -x
theorem negP_len (k : Pl) : (negP k).length = k.length := List.length_map _
def scaleL (es : List Ent) (f : Int) : List Ent := es.map fun e => (e.1, e.2 * f)
def mirL (es : List Ent) : List Ent := es.map fun e => (negP e.1, e.2)
section
variable {P : Program} {w : World} {K : PySem.W.Frag} {mg : Str → Option Value} {base : Heap}
def spBack (K : PySem.W.Frag) : Sp := fun vs H Q _ => ∃ (a : Addr) (ns : Pl), vs = [.ref a] ∧ SqT K H a (ns.map V.int) ∧ ns.length ≤ 1000 ∧ ∀ p H', Same H H' → H' p = some (.tup ((negP ns).map V.int)) → Q (.ref p) H'
theorem c__law_back {f : Addr} {fd : FuncData} (D : C8.Def K mg "_law_back" s__law_back f fd) (b : Binds K fd ["_law_place"] []) (T : Bi mg) : C8.Cal P w K mg base 1 "_law_back" (spBack K) [] := by
  refine C8.cal0 D b .nil sc__law_back (fun vs H Q E h => ?_) (fun cdv A outer s H vs Q E hr h => ?_)
  · obtain ⟨a, ns, rfl, _⟩ := h
    rfl
  · obtain ⟨a, ns, rfl, hS, hl, q⟩ := h
    refine ⟨_, (pss_one (ps_ret (pe_callTy call_tuple_of (by rfl) T.n_tuple OT.b_tuple (pa_cons (pe_lc (own := [("_law_x", 1)]) (g := (gName 1)) (tt := tYes) rfl sc__law_back.nd (pi_tup (pv 0)) (blkOk_by (N := ["_law_place", "_law_x"]) (sc := C8.fnScope s__law_back) (by decide +kernel)) (fun _ _ _ _ _ => (pg_name (i := 1) sc__law_back.nd rfl (Or.inl rfl))) (fun _ _ _ _ _ => pts_nil) (fun _ _ _ _ _ => (pe_un un_neg (pv 1)))) pa_nil)))), ?_⟩
    refine ⟨_, rfl, a, rfl, ⟨_, hS⟩, fun p np => ?_⟩
    refine lc_tup (K := K) (xs := ns.map V.int) (fun i H2 => Same H H2 ∧ H2 p = some (.lst ((ns.take i).map fun n => V.int (-n)))) ?_ ?_ ?_ ?_
    · exact ⟨same_upd np, upd_same⟩
    · rintro i H2 _ ⟨sm, _⟩
      exact same_t sm hS
    · rintro i x H2 hx ⟨sm, hp⟩
      obtain ⟨hi, rfl⟩ := getm hx
      refine ⟨rfl, tYes_of ?_⟩
      refine ⟨_, rfl, _, rfl, _, hp, ?_, same_mut sm np, ?_⟩
      · rw [List.length_map, List.length_take]
        exact small1000 (by omega)
      · rw [upd_same, take_map_succ (fun n => V.int (-n)) hi]
    · rintro H2 ⟨sm, hp⟩
      rw [List.length_map, List.take_length] at hp
      refine ⟨p, _, rfl, .inl ⟨.inl (.inl hp), fun l nl => ?_⟩⟩
      refine q l _ (sm.trans (same_upd nl)) ?_
      rw [upd_same]
      unfold negP
      rw [List.map_map]
      rfl
/-- a list of entries of places that are not empty -/
structure Lst (H : Hp) (a : Addr) (xs : List V) (es : List Ent) : Prop where
  l : H a = some (.lst xs)
  e : Ents H xs es
  z : es.length ≤ 5000
  p : ∀ e ∈ es, e.1 ≠ []
theorem Lst.mono {H H' : Hp} {a : Addr} {xs : List V} {es : List Ent} (s : Same H H') (h : Lst H a xs es) : Lst H' a xs es := ⟨s _ _ h.l, h.e.mono s, h.z, h.p⟩
theorem wantRow.mono {H H2 : Hp} {es : List Ent} {Q : VK} (sm : Same H H2) (q : wantRow H es Q) : wantRow H2 es Q := by
  intro r p ws H3 hr sm3 np hp he
  refine q r p ws H3 hr (sm.trans sm3) ?_ hp he
  cases z : H p with
  | none => rfl
  | some o =>
    rw [sm _ _ z] at np
    cases np
def spAdd : Sp := fun vs H Q _ => ∃ (a b : Addr) (xs ys : List V) (es fs : List Ent), vs = [.ref a, .ref b] ∧ Lst H a xs es ∧ Lst H b ys fs ∧ wantRow H (es ++ fs) Q
theorem c__law_add {f : Addr} {fd : FuncData} (D : C8.Def K mg "_law_add" s__law_add f fd) (b : Binds K fd ["_law_first", "_law_second"] []) (T : Bi mg) (c__law_row : C8.Cal P w K mg base 1 "_law_row" (spGather K) []) : C8.Cal P w K mg base 2 "_law_add" spAdd [] := by
  refine C8.cal0 D b .nil sc__law_add (fun vs H Q E h => ?_) (fun cdv A outer s H vs Q E hr h => ?_)
  · obtain ⟨a, b, xs, ys, es, fs, rfl, _⟩ := h
    rfl
  · obtain ⟨a, b, xs, ys, es, fs, rfl, hA, hB, q⟩ := h
    refine ⟨_, (pss_one (ps_ret (C8.pe_c c__law_row hr (by decide) (by rfl) (pa_cons (pe_op op_cat (pv 0) (pv 1)) pa_nil)))), ?_⟩
    have h1 := hA.e.len
    have h2 := hB.e.len
    have z1 := hA.z
    have z2 := hB.z
    refine ⟨_, rfl, _, rfl, a, b, _, _, rfl, rfl, hA.l, hB.l, Nat.le_of_lt (small100k (by omega)), fun p np => ?_⟩
    have s1 : Same H (upd H p (.lst (xs ++ ys))) := same_upd np
    refine ⟨p, xs ++ ys, es ++ fs, rfl, ⟨.inl (.inl upd_same), (hA.e.app hB.e).mono s1, by rw [List.length_append]; exact small100k (by omega)⟩, fun e he => ?_, q.mono s1⟩
    rcases List.mem_append.mp he with he | he
    · exact hA.p e he
    · exact hB.p e he
def spScaled : Sp := fun vs H Q _ => ∃ (a : Addr) (xs : List V) (es : List Ent) (m : Int), vs = [.ref a, .int m] ∧ Lst H a xs es ∧ (-(2 ^ 64) < m ∧ m < 2 ^ 64) ∧ wantRow H (scaleL es m) Q
theorem take_snoc {es : List Ent} {i : Nat} {e : Ent} (h : es[i]? = some e) : es.take (i + 1) = es.take i ++ [e] := by
  rw [List.take_add_one, h]
  rfl
theorem c__law_scaled {f : Addr} {fd : FuncData} (D : C8.Def K mg "_law_scaled" s__law_scaled f fd) (b : Binds K fd ["_law_row_here", "_law_factor"] []) (T : Bi mg) (c__law_row : C8.Cal P w K mg base 1 "_law_row" (spGather K) []) : C8.Cal P w K mg base 2 "_law_scaled" spScaled [] := by
  refine C8.cal0 D b .nil sc__law_scaled (fun vs H Q E h => ?_) (fun cdv A outer s H vs Q E hr h => ?_)
  · obtain ⟨a, xs, es, m, rfl, _⟩ := h
    rfl
  · obtain ⟨a, xs, es, m, rfl, hA, hm, q⟩ := h
    refine ⟨_, (pss_one (ps_ret (C8.pe_c c__law_row hr (by decide) (by rfl) (pa_cons (pe_lc (own := [("_law_entry", 2)]) (g := (gName 2)) (tt := tYes) rfl sc__law_scaled.nd (pi_list (pv 0)) (blkOk_by (N := ["_law_row_here", "_law_factor", "_law_entry"]) (sc := C8.fnScope s__law_scaled) (by decide +kernel)) (fun _ _ _ _ _ => (pg_name (i := 2) sc__law_scaled.nd rfl (Or.inl rfl))) (fun _ _ _ _ _ => pts_nil) (fun _ _ _ _ _ => (pe_tup (pa_cons (pe_ix (show IxR _ (rIxT K) from ix_tup) (pv 2) pe_int (fun _ _ => rfl)) (pa_cons (pe_op op_mul (pe_ix (show IxR _ (rIxT K) from ix_tup) (pv 2) pe_int (fun _ _ => rfl)) (pv 1)) pa_nil))))) pa_nil)))), ?_⟩
    have hS : SqL K H a xs := .inl (.inl hA.l)
    have hx := hA.e.len
    have hz := hA.z
    refine ⟨_, rfl, a, rfl, ⟨_, hS⟩, fun p np => ?_⟩
    refine lc_list (K := K) (xs := xs) (fun i H2 => Same H H2 ∧ ∃ ws, H2 p = some (.lst ws) ∧ Ents H2 ws (scaleL (es.take i) m)) ?_ ?_ ?_ ?_
    · exact ⟨same_upd np, [], upd_same, .nil⟩
    · rintro i H2 _ ⟨sm, _⟩
      exact sm.seq hS
    · rintro i x H2 hxi ⟨sm, ws, hp, hW⟩
      obtain ⟨e, he, t, pe, rfl, ht, hpe⟩ := (hA.e.mono sm).get hxi
      obtain ⟨hi, hee⟩ := List.getElem?_eq_some_iff.mp he
      have hT : SqT K H2 t [.ref pe, .int e.2] := .inl (.inl ht)
      refine ⟨rfl, tYes_of ?_⟩
      refine ⟨_, rfl, t, _, 0, _, rfl, rfl, hT, atI_nat (j := 0) rfl, _, rfl, t, _, 1, _, rfl, rfl, hT, atI_nat (j := 1) rfl, _, rfl, _, _, rfl, rfl, .inr hm, (by show 2 ≤ sizeLine; decide), fun t4 nt4 => ?_⟩
      have sm4 : Same H2 (upd H2 t4 (.tup [.ref pe, .int (e.2 * m)])) := same_upd nt4
      have hv : EntAt (upd H2 t4 (.tup [.ref pe, .int (e.2 * m)])) (.ref t4) (e.1, e.2 * m) := ⟨t4, pe, rfl, upd_same, sm4 _ _ hpe⟩
      have hD := sm4 _ _ hp
      have hwl := hW.len
      refine ⟨ws, hD, ?_, same_mut (sm.trans sm4) np, ws ++ [.ref t4], upd_same, ?_⟩
      · unfold scaleL at hwl
        rw [List.length_map, List.length_take] at hwl
        exact small100k (by omega)
      · unfold scaleL
        rw [take_snoc he, List.map_append]
        exact ((hW.mono sm4).app (.cons hv .nil)).updL hD
    · rintro H2 ⟨sm, ws, hp, hW⟩
      rw [hx, List.take_length] at hW
      refine ⟨p, ws, scaleL es m, rfl, ⟨.inl (.inl hp), hW, by unfold scaleL; rw [List.length_map]; exact small100k (by omega)⟩, fun e he => ?_, q.mono sm⟩
      obtain ⟨y, hy, rfl⟩ := List.mem_map.mp he
      exact hA.p y hy
end

set_option Elab.async false
set_option linter.all false
set_option maxRecDepth 100000
set_option maxHeartbeats 2000000
/-! mirrors and normal rows: the program's road and the law's lead to the same row -/
theorem RowIs.self {r : List Ent} (h : Valid r) : RowIs r r := ⟨h, fun _ => rfl⟩
theorem negP_lt : ∀ {a b : Pl}, a.length = b.length → HT.lexLt (negP b) (negP a) = HT.lexLt a b
  | [], [], _ => rfl
  | x :: a, y :: b, h => by
    show (if -y = -x then HT.lexLt (negP b) (negP a) else decide (-y < -x)) = if x = y then HT.lexLt a b else decide (x < y)
    rw [negP_lt (Nat.succ.inj h)]
    by_cases e : x = y
    · rw [if_pos e, if_pos (by rw [e])]
    · rw [if_neg e, if_neg (by omega)]
      by_cases c : x < y
      · rw [decide_eq_true c, decide_eq_true (by omega)]
      · rw [decide_eq_false c, decide_eq_false (by omega)]
theorem numAt_rev (es : List Ent) (q : Pl) : numAt es.reverse q = numAt es q := by
  induction es with
  | nil => rfl
  | cons e r ih =>
    rw [List.reverse_cons, numAt_app, ih]
    show numAt r q + ((if e.1 = q then e.2 else 0) + 0) = (if e.1 = q then e.2 else 0) + numAt r q
    omega
/-- the program's mirror -/
def mirP (es : List Ent) : List Ent := es.reverse.map fun e => (negP e.1, e.2)
theorem mirP_valid {es : List Ent} {n : Nat} (h : Valid es) (hn : ∀ e ∈ es, e.1.length = n) : Valid (mirP es) := by
  unfold mirP
  refine ⟨?_, fun e he => ?_⟩
  · rw [List.pairwise_map, List.pairwise_reverse]
    refine List.Pairwise.imp_of_mem (fun {x y} hx hy q => ?_) h.asc
    rw [negP_lt ((hn x hx).trans (hn y hy).symm)]
    exact q
  · obtain ⟨y, hy, rfl⟩ := List.mem_map.mp he
    exact h.nz y (List.mem_reverse.mp hy)
theorem mirP_is {es : List Ent} {n : Nat} (h : Valid es) (hn : ∀ e ∈ es, e.1.length = n) : RowIs (mirP es) (mirL es) := by
  refine ⟨mirP_valid h hn, fun q => ?_⟩
  have e : mirP es = (mirL es).reverse := by
    unfold mirP mirL
    rw [List.map_reverse]
  rw [e, numAt_rev]
/-- the dimension of a row -/
def dimE : List Ent → Nat
  | [] => 0
  | e :: _ => e.1.length
section
variable {P : Program} {w : World} {K : PySem.W.Frag} {mg : Str → Option Value} {base : Heap}
def spPLen (K : PySem.W.Frag) : Sp := fun vs H Q _ => ∃ (a : Addr) (xs : List V) (es : List Ent), vs = [.ref a] ∧ SqL K H a xs ∧ Ents H xs es ∧ Q (.int (dimE es : Nat)) H
theorem c_places_length {f : Addr} {fd : FuncData} (D : C8.Def K mg "places_length" s_places_length f fd) (b : Binds K fd ["row"] []) (T : Bi mg) : C8.Cal P w K mg base 1 "places_length" (spPLen K) [] := by
  refine C8.cal0 D b .nil sc_places_length (fun vs H Q E h => ?_) (fun cdv A outer s H vs Q E hr h => ?_)
  · obtain ⟨a, xs, es, rfl, _⟩ := h
    rfl
  · obtain ⟨a, xs, es, rfl, hS, hE, q⟩ := h
    refine ⟨_, (pss_one (ps_ret (pe_ifExp (pt_truth (pv 0) (by intro _; rfl)) (pe_callB call_len_seq (by rfl) T.n_len OT.b_len (pa_cons (pe_ix ix_tup (pe_ix ix_list (pv 0) pe_int (fun _ _ => rfl)) pe_int (fun _ _ => rfl)) pa_nil)) pe_int))), ?_⟩
    refine ⟨_, rfl, _, .inl ⟨xs, hS, rfl⟩, ?_⟩
    cases hE with
    | nil =>
      refine iteF ?_
      exact q
    | cons h1 h2 =>
      rename_i v e vs es
      obtain ⟨t, p, rfl, ht, hp⟩ := h1
      refine iteT ?_
      refine ⟨_, rfl, a, _, 0, _, rfl, rfl, hS, atI_nat (j := 0) rfl, t, _, 0, _, rfl, rfl, .inl (.inl ht), atI_nat (j := 0) rfl, p, _, rfl, .inr (.inl (.inl hp)), ?_⟩
      rw [List.length_map]
      exact q
end

set_option Elab.async false
set_option linter.all false
set_option maxRecDepth 100000
set_option maxHeartbeats 2000000
/-- some length is another than the first one -/
def mixL (ns : List Int) : Bool := (ns.map fun m => !decide (V.int m = V.int (ns.headD 0))).any id
def nz (n : Int) : Bool := decide (n ≠ 0)
section
variable {P : Program} {w : World} {K : PySem.W.Frag} {mg : Str → Option Value} {base : Heap}
/-! ### the errors' own __init__ -/
theorem ok_te {f : Addr} {fd : FuncData} (F : C8.Fun K "__init__" "TableError.__init__" s_TableError___init__ f fd) : FnOk P w K mg base L2.CX0 1 f fd ["self"] (spTE K) := by
  refine C8.fn0 F sc_TableError___init__ (fun vs H Q E h => ?_) (fun cdv A outer s H vs Q E hr h => ?_)
  · obtain ⟨a, C, nm, rfl, _⟩ := h
    rfl
  · obtain ⟨a, C, nm, rfl, ha, T, k⟩ := h
    refine ⟨_, pss_one (ps_ost (pv 0) (pe_otname (pv 0))), ?_⟩
    exact ⟨_, rfl, a, C, nm, rfl, ha, T.oc, T.on, _, rfl, a, C, rfl, T.ox, T.nw, Or.inl ⟨ha, fun d nd ne => k d nd ne⟩⟩
/-- what is known of an error of a class that tells an index -/
structure ErrI (K : PySem.W.Frag) (mg : Str → Option Value) (nm : Str) (C fI : Addr) : Prop where
  g : mg nm = some (.ref C)
  t : OtErr K C nm
  i : PySem.W.findIn K (.ref C) "__init__" = some (some (.ref fI))
  ty : PySem.W.typeIn K (.ref fI) = some (.type "function")
def errM : List (Str × V) := [("word", .str "MixedDimensions")]
def spSL (K : PySem.W.Frag) (M : Addr) : Sp := fun vs H Q E => ∃ (a : Addr) (ns : List Int), vs = [.ref a] ∧ SqL K H a (ns.map V.int) ∧ ns.length ≤ 100000 ∧
  (mixL (ns.filter nz) = true → ∀ d H', Same H H' → H' d = some (.xd errM) → E (.ref M) (some d) H') ∧ (mixL (ns.filter nz) = false → ∀ H', Same H H' → Q .non H')
theorem ok_same_lengths {f M fB : Addr} {fd fdB : FuncData} (D : C8.Def K mg "same_lengths" s_same_lengths f fd) (T : Bi mg) (X : ErrI K mg "MixedDimensions" M fB) (GB : FnOk P w K mg base L2.CX0 1 fB fdB ["self"] (spTE K)) (bB : Binds K fdB ["self"] []) :
    FnOk P w K mg base (L2N.CX P w) 3 f fd ["lengths"] (spSL K M) := by
  obtain ⟨oc, od, dV, kV, doc, pm, an, cdv, ct, osl, rfl, lk, hcd⟩ := D.fn.ex
  refine fn_of lk hcd sc_same_lengths (fun vs H Q E h => ?_) fun A outer s H vs Q E hr h => ?_
  · obtain ⟨a, ns, rfl, _⟩ := h
    rfl
  · obtain ⟨a, ns, rfl, hS, hz, qE, qN⟩ := h
    refine ⟨_, (pss_cons (ps_set (i := 1) sc_same_lengths.nd rfl (Or.inr rfl) (pe_lc (own := [("length", 2)]) (g := (gName 2)) rfl sc_same_lengths.nd (pi_list (pv 0)) (blkOk_by (N := ["lengths", "known", "length"]) (sc := C8.fnScope s_same_lengths) (by decide +kernel)) (fun _ _ _ _ _ => (pg_name (i := 2) sc_same_lengths.nd rfl (Or.inl rfl))) (fun _ _ _ _ _ => (pts_one (pt_cmpR op_ne (pv 2) pe_int (nomark _)))) (fun _ _ _ _ _ => (pv 2))))
  (pss_one (ps_if (pt_val (pe_callB (cr_any rfl) (by rfl) T.n_any OT.b_any (pa_cons (pe_lc (own := [("length", 2)]) (g := (gName 2)) (tt := tYes) rfl sc_same_lengths.nd (pi_list (pv 1)) (blkOk_by (N := ["lengths", "known", "length"]) (sc := C8.fnScope s_same_lengths) (by decide +kernel)) (fun _ _ _ _ _ => (pg_name (i := 2) sc_same_lengths.nd rfl (Or.inl rfl))) (fun _ _ _ _ _ => pts_nil) (fun _ _ _ _ _ => (pe_cmpR op_ne (pv 2) (pe_ix (show IxR _ (rIxL K) from ix_list) (pv 1) pe_int (fun _ _ => rfl)) (nomark _)))) pa_nil))) (pss_one (L2N.ps_raise rfl (L2N.takes_of rfl rfl rfl rfl) (HP.pmk_oex0N X.t.ox X.i X.ty GB hr bB pass0 (by rfl) X.g))) pss_nil))), ?_⟩
    refine ⟨_, rfl, a, rfl, ⟨_, hS⟩, fun p np => ?_⟩
    refine lc_list (K := K) (xs := ns.map V.int) (fun i H2 => Same H H2 ∧ H2 p = some (.lst (((ns.take i).filter nz).map V.int))) ?_ ?_ ?_ ?_
    · exact ⟨same_upd np, upd_same⟩
    · rintro i H2 _ ⟨sm, _⟩
      exact sm.seq hS
    · rintro i x H2 hx ⟨sm, hp⟩
      obtain ⟨hi, rfl⟩ := getm hx
      have htk : (ns.take (i + 1)).filter nz = (ns.take i).filter nz ++ (if nz ns[i] = true then [ns[i]] else []) := by
        rw [List.take_add_one, List.getElem?_eq_getElem hi, List.filter_append]
        show _ ++ (match nz ns[i] with | true => [ns[i]] | false => []) = _
        cases nz ns[i] <;> rfl
      refine ⟨rfl, _, rfl, rfl, _, rfl, iteND (fun hn => ?_) (fun h0 => ?_)⟩
      · have hnz : nz ns[i] = true := decide_eq_true fun z => hn (by rw [z])
        rw [htk, if_pos hnz]
        refine ⟨_, rfl, _, hp, ?_, same_mut sm np, ?_⟩
        · rw [List.length_map]
          have h1 := List.length_filter_le nz (ns.take i)
          rw [List.length_take] at h1
          exact Nat.lt_of_le_of_lt (show _ ≤ 100000 by omega) (by decide)
        · rw [upd_same, List.map_append]
          rfl
      · have hnz : ¬ nz ns[i] = true := fun z => of_decide_eq_true z (V.int.inj h0)
        rw [htk, if_neg hnz, List.append_nil]
        exact ⟨sm, hp⟩
    · rintro H2 ⟨sm, hp⟩
      rw [List.length_map, List.take_length] at hp
      have hz : (ns.filter nz).length ≤ 100000 := Nat.le_trans (List.length_filter_le _ _) hz
      generalize ns.filter nz = ns at hp hz qE qN
      have hP : SqL K H2 p (ns.map V.int) := .inl (.inl hp)
      refine ⟨_, rfl, p, rfl, ⟨_, hP⟩, fun p2 np2 => ?_⟩
      refine lc_list (K := K) (xs := ns.map V.int) (fun i H3 => Same H2 H3 ∧ H3 p2 = some (.lst ((ns.take i).map fun m => V.bl (!decide (V.int m = V.int (ns.headD 0)))))) ?_ ?_ ?_ ?_
      · exact ⟨same_upd np2, upd_same⟩
      · rintro i H3 _ ⟨sm3, _⟩
        exact sm3.seq hP
      · rintro i x H3 hx ⟨sm3, hp3⟩
        obtain ⟨hi, rfl⟩ := getm hx
        have h0 : (ns.map V.int)[0]? = some (.int (ns.headD 0)) := by
          cases ns with
          | nil => exact absurd hi (Nat.not_lt_zero _)
          | cons n r => rfl
        refine ⟨rfl, tYes_of ?_⟩
        refine ⟨_, rfl, _, rfl, p, _, 0, _, rfl, rfl, sm3.seq hP, atI_nat (j := 0) h0, rfl, _, hp3, ?_, same_mut sm3 np2, ?_⟩
        · rw [List.length_map, List.length_take]
          exact Nat.lt_of_le_of_lt (show min i ns.length ≤ 100000 by omega) (by decide)
        · rw [upd_same, take_map_succ (fun m => V.bl (!decide (V.int m = V.int (ns.headD 0)))) hi]
      · rintro H3 ⟨sm3, hp3⟩
        rw [List.length_map, List.take_length] at hp3
        have sA := sm.trans sm3
        refine ⟨p2, ns.map fun m => !decide (V.int m = V.int (ns.headD 0)), rfl, .inl (.inl ?_), _, rfl, ?_⟩
        · rw [hp3, List.map_map]
          rfl
        show if mixL ns = true then _ else _
        cases e : mixL ns with
        | true =>
          refine iteT ?_
          refine ⟨(by show 0 ≤ 1000; decide), fun a na => ⟨a, M, _, rfl, upd_same, X.t, fun d nd ne => ?_⟩⟩
          have nd3 : H3 d = none := by
            rw [upd_ne ne] at nd
            exact nd
          refine ⟨rfl, d, _, upd_same, ?_, nd3, qE e d _ ?_ upd_same⟩
          · rw [upd_ne ne, upd_same]
            rfl
          · intro b o hb
            have hb2 := sA b o hb
            have nba : b ≠ a := ne_of_none hb2 na
            have nbd : b ≠ d := ne_of_none hb2 nd3
            rw [upd_ne nbd, del_ne nba, upd_ne nba, upd_ne nbd, upd_ne nba]
            exact hb2
        | false =>
          refine iteF ?_
          exact qN e H3 sA
end

set_option Elab.async false
set_option linter.all false
set_option maxRecDepth 100000
set_option maxHeartbeats 2000000
/-- rows at addresses, in turn -/
inductive RowsAt (H : Hp) : List V → List (List Ent) → Prop
  | nil : RowsAt H [] []
  | cons {a : Addr} {xs : List V} {es : List Ent} {vs : List V} {ess : List (List Ent)} : H a = some (.lst xs) → Ents H xs es → RowsAt H vs ess → RowsAt H (.ref a :: vs) (es :: ess)
theorem RowsAt.len {H : Hp} {vs : List V} {ess : List (List Ent)} (h : RowsAt H vs ess) : vs.length = ess.length := by
  induction h with
  | nil => rfl
  | cons _ _ _ ih => rw [List.length_cons, List.length_cons, ih]
theorem RowsAt.mono {H H' : Hp} {vs : List V} {ess : List (List Ent)} (s : ∀ b o, H b = some o → H' b = some o) (h : RowsAt H vs ess) : RowsAt H' vs ess := by
  induction h with
  | nil => exact .nil
  | cons h1 h2 _ ih => exact .cons (s _ _ h1) (h2.mono s) ih
theorem RowsAt.get {H : Hp} {vs : List V} {ess : List (List Ent)} (h : RowsAt H vs ess) : ∀ {i : Nat} {v : V}, vs[i]? = some v → ∃ a xs es, v = .ref a ∧ ess[i]? = some es ∧ H a = some (.lst xs) ∧ Ents H xs es := by
  induction h with
  | nil => intro i v h; simp at h
  | cons h1 h2 _ ih =>
    intro i v hv
    cases i with
    | zero =>
      cases hv
      exact ⟨_, _, _, rfl, rfl, h1, h2⟩
    | succ i => exact ih (i := i) hv
def dims (ess : List (List Ent)) : List Int := ess.map fun es => ((dimE es : Nat) : Int)
def plens (ks : List Pl) : List Int := ks.map fun k => (k.length : Int)
theorem dims_snoc {ess : List (List Ent)} {i : Nat} {es : List Ent} (h : ess[i]? = some es) : (dims (ess.take (i + 1))).map V.int = (dims (ess.take i)).map V.int ++ [V.int ((dimE es : Nat) : Int)] := by
  rw [List.take_add_one, h]
  unfold dims
  rw [List.map_append, List.map_append]
  rfl
theorem plens_snoc {ks : List Pl} {i : Nat} {k : Pl} (h : ks[i]? = some k) : (plens (ks.take (i + 1))).map V.int = (plens (ks.take i)).map V.int ++ [V.int (k.length : Int)] := by
  rw [List.take_add_one, h]
  unfold plens
  rw [List.map_append, List.map_append]
  rfl
section
variable {P : Program} {w : World} {K : PySem.W.Frag} {mg : Str → Option Value} {base : Heap}
def spSD (K : PySem.W.Frag) (M : Addr) : Sp := fun vs H Q E => ∃ (a b : Addr) (us ws : List V) (ess : List (List Ent)) (ks : List Pl), vs = [.ref a, .ref b] ∧ SqL K H a us ∧ RowsAt H us ess ∧ SqL K H b ws ∧ Pls H ws ks ∧ ess.length ≤ 1000 ∧ ks.length ≤ 1000 ∧
  (mixL ((dims ess ++ plens ks).filter nz) = true → ∀ d H', Same H H' → H' d = some (.xd errM) → E (.ref M) (some d) H') ∧ (mixL ((dims ess ++ plens ks).filter nz) = false → ∀ H', Same H H' → Q .non H')
theorem ok_same_dimension {f M fS : Addr} {fd fdS : FuncData} (D : C8.Def K mg "same_dimension" s_same_dimension f fd) (T : Bi mg) (DS : C8.Def K mg "same_lengths" s_same_lengths fS fdS) (bS : Binds K fdS ["lengths"] []) (GS : FnOk P w K mg base (L2N.CX P w) 3 fS fdS ["lengths"] (spSL K M))
    (c_places_length : C8.Cal P w K mg base 1 "places_length" (spPLen K) []) : FnOk P w K mg base (L2N.CX P w) 4 f fd ["rows", "places"] (spSD K M) := by
  obtain ⟨oc, od, dV, kV, doc, pm, an, cdv, ct, osl, rfl, lk, hcd⟩ := D.fn.ex
  refine fn_of lk hcd sc_same_dimension (fun vs H Q E h => ?_) fun A outer s H vs Q E hr h => ?_
  · obtain ⟨a, b, us, ws, ess, ks, rfl, _⟩ := h
    rfl
  · obtain ⟨a, b, us, ws, ess, ks, rfl, ha, hR, hb, hP, z1, z2, qE, qN⟩ := h
    refine ⟨_, (pss_one (ps_expr (pe_callS GS hr rfl DS.mgf DS.kp bS (fun σ => L2N.passAt (L2N.takes_of rfl rfl rfl rfl) σ) (pa_cons (pe_op op_cat (pe_lc (own := [("row", 2)]) (g := (gName 2)) (tt := tYes) rfl sc_same_dimension.nd (pi_list (pv 0)) (blkOk_by (N := ["rows", "places", "row", "place"]) (sc := C8.fnScope s_same_dimension) (by decide +kernel)) (fun _ _ _ _ _ => (pg_name (i := 2) sc_same_dimension.nd rfl (Or.inl rfl))) (fun _ _ _ _ _ => pts_nil) (fun _ _ _ _ _ => (C8.pe_c c_places_length hr (by decide) (by rfl) (pa_cons (pv 2) pa_nil)))) (pe_lc (own := [("place", 3)]) (g := (gName 3)) (tt := tYes) rfl sc_same_dimension.nd (pi_list (pv 1)) (blkOk_by (N := ["rows", "places", "row", "place"]) (sc := C8.fnScope s_same_dimension) (by decide +kernel)) (fun _ _ _ _ _ => (pg_name (i := 3) sc_same_dimension.nd rfl (Or.inl rfl))) (fun _ _ _ _ _ => pts_nil) (fun _ _ _ _ _ => (pe_callB (show CallR _ _ (Evl.rLenS K) from call_len_seq) (by rfl) T.n_len OT.b_len (pa_cons (pv 3) pa_nil))))) pa_nil)))), ?_⟩
    have l1 := hR.len
    have l2 := hP.len
    refine ⟨_, rfl, a, rfl, ⟨_, ha⟩, fun p np => ?_⟩
    refine lc_list (K := K) (xs := us) (fun i H2 => Same H H2 ∧ H2 p = some (.lst ((dims (ess.take i)).map V.int))) ?_ ?_ ?_ ?_
    · exact ⟨same_upd np, upd_same⟩
    · rintro i H2 _ ⟨sm, _⟩
      exact sm.seq ha
    · rintro i x H2 hx ⟨sm, hp⟩
      obtain ⟨a1, xs, es, rfl, he, h1, h2⟩ := (hR.mono sm).get hx
      have hi := (List.getElem?_eq_some_iff.mp he).1
      refine ⟨rfl, tYes_of ?_⟩
      refine ⟨_, rfl, a1, xs, es, rfl, .inl (.inl h1), h2, _, hp, ?_, same_mut sm np, ?_⟩
      · unfold dims
        rw [List.length_map, List.length_map, List.length_take]
        exact small1000 (by omega)
      · rw [upd_same, dims_snoc he]
    · rintro H2 ⟨sm2, hp⟩
      rw [l1, List.take_length] at hp
      refine ⟨_, rfl, b, rfl, ⟨_, sm2.seq hb⟩, fun p3 np3 => ?_⟩
      refine lc_list (K := K) (xs := ws) (fun i H3 => Same H2 H3 ∧ H3 p3 = some (.lst ((plens (ks.take i)).map V.int))) ?_ ?_ ?_ ?_
      · exact ⟨same_upd np3, upd_same⟩
      · rintro i H3 _ ⟨sm, _⟩
        exact (sm2.trans sm).seq hb
      · rintro i x H3 hx ⟨sm, hp3⟩
        obtain ⟨q3, k, rfl, hk, hq3⟩ := (hP.mono (sm2.trans sm)).get hx
        have hi := (List.getElem?_eq_some_iff.mp hk).1
        refine ⟨rfl, tYes_of ?_⟩
        refine ⟨_, rfl, q3, _, rfl, .inr (.inl (.inl hq3)), _, hp3, ?_, same_mut sm np3, ?_⟩
        · unfold plens
          rw [List.length_map, List.length_map, List.length_take]
          exact small1000 (by omega)
        · rw [upd_same, plens_snoc hk, List.length_map]
      · rintro H3 ⟨sm3, hp3⟩
        rw [l2, List.take_length] at hp3
        have sA := sm2.trans sm3
        have d1 : (dims ess).length = ess.length := List.length_map _
        have d2 : (plens ks).length = ks.length := List.length_map _
        refine ⟨p, p3, _, _, rfl, rfl, sm3 _ _ hp, hp3, ?_, fun p4 np4 => ?_⟩
        · rw [List.length_map, List.length_map, d1, d2]
          exact Nat.le_of_lt (small100k (by omega))
        have s4 : Same H3 (upd H3 p4 (.lst ((dims ess).map V.int ++ (plens ks).map V.int))) := same_upd np4
        have sB := sA.trans s4
        refine ⟨p4, dims ess ++ plens ks, rfl, .inl (.inl ?_), ?_, fun hm d H5 sm5 hd => qE hm d H5 (sB.trans sm5) hd, fun hm H5 sm5 => qN hm H5 (sB.trans sm5)⟩
        · rw [upd_same, List.map_append]
        · rw [List.length_append, d1, d2]
          omega
end

set_option Elab.async false
set_option linter.all false
set_option maxRecDepth 100000
set_option maxHeartbeats 2000000
/-- the products of all pairs of entries -/
def rowT (e : Ent) (fs : List Ent) : List Ent := fs.map fun g => (plusP e.1 g.1, e.2 * g.2)
def timesL (es fs : List Ent) : List Ent := es.flatMap fun e => rowT e fs
theorem timesL_snoc (es fs : List Ent) (e : Ent) : timesL (es ++ [e]) fs = timesL es fs ++ rowT e fs := by
  unfold timesL
  rw [List.flatMap_append]
  simp
theorem dimE_eq {es : List Ent} {n : Nat} (h : ∀ e ∈ es, e.1.length = n) (hp : es ≠ []) : dimE es = n := by
  cases es with
  | nil => exact absurd rfl hp
  | cons e r => exact h e List.mem_cons_self
theorem put_klen {ks : List Pl} {e : Pl} {i : Nat} (h : ks.length ≤ i) : (if e ∈ ks then ks else ks ++ [e]).length ≤ i + 1 := by
  by_cases m : e ∈ ks
  · rw [if_pos m]
    omega
  · rw [if_neg m, List.length_append, List.length_singleton]
    omega
section
variable {P : Program} {w : World} {K : PySem.W.Frag} {mg : Str → Option Value} {base : Heap}
def spSDT (K : PySem.W.Frag) (M : Addr) : Sp := fun vs H Q E => ∃ (a b : Addr) (us : List V) (ess : List (List Ent)), vs = [.ref a, .ref b] ∧ SqL K H a us ∧ RowsAt H us ess ∧ SqT K H b [] ∧ ess.length ≤ 1000 ∧
  (mixL ((dims ess).filter nz) = true → ∀ d H', Same H H' → H' d = some (.xd errM) → E (.ref M) (some d) H') ∧ (mixL ((dims ess).filter nz) = false → ∀ H', Same H H' → Q .non H')
theorem ok_same_dimensionT {f M fS : Addr} {fd fdS : FuncData} (D : C8.Def K mg "same_dimension" s_same_dimension f fd) (T : Bi mg) (DS : C8.Def K mg "same_lengths" s_same_lengths fS fdS) (bS : Binds K fdS ["lengths"] []) (GS : FnOk P w K mg base (L2N.CX P w) 3 fS fdS ["lengths"] (spSL K M))
    (c_places_length : C8.Cal P w K mg base 1 "places_length" (spPLen K) []) : FnOk P w K mg base (L2N.CX P w) 4 f fd ["rows", "places"] (spSDT K M) := by
  obtain ⟨oc, od, dV, kV, doc, pm, an, cdv, ct, osl, rfl, lk, hcd⟩ := D.fn.ex
  refine fn_of lk hcd sc_same_dimension (fun vs H Q E h => ?_) fun A outer s H vs Q E hr h => ?_
  · obtain ⟨a, b, us, ess, rfl, _⟩ := h
    rfl
  · obtain ⟨a, b, us, ess, rfl, ha, hR, hb, z1, qE, qN⟩ := h
    refine ⟨_, (pss_one (ps_expr (pe_callS GS hr rfl DS.mgf DS.kp bS (fun σ => L2N.passAt (L2N.takes_of rfl rfl rfl rfl) σ) (pa_cons (pe_op op_cat (pe_lc (own := [("row", 2)]) (g := (gName 2)) (tt := tYes) rfl sc_same_dimension.nd (pi_list (pv 0)) (blkOk_by (N := ["rows", "places", "row", "place"]) (sc := C8.fnScope s_same_dimension) (by decide +kernel)) (fun _ _ _ _ _ => (pg_name (i := 2) sc_same_dimension.nd rfl (Or.inl rfl))) (fun _ _ _ _ _ => pts_nil) (fun _ _ _ _ _ => (C8.pe_c c_places_length hr (by decide) (by rfl) (pa_cons (pv 2) pa_nil)))) (pe_lc (own := [("place", 3)]) (g := (gName 3)) (tt := tYes) rfl sc_same_dimension.nd (pi_tup (pv 1)) (blkOk_by (N := ["rows", "places", "row", "place"]) (sc := C8.fnScope s_same_dimension) (by decide +kernel)) (fun _ _ _ _ _ => (pg_name (i := 3) sc_same_dimension.nd rfl (Or.inl rfl))) (fun _ _ _ _ _ => pts_nil) (fun _ _ _ _ _ => (pe_callB (show CallR _ _ (Evl.rLenS K) from call_len_seq) (by rfl) T.n_len OT.b_len (pa_cons (pv 3) pa_nil))))) pa_nil)))), ?_⟩
    have l1 := hR.len
    refine ⟨_, rfl, a, rfl, ⟨_, ha⟩, fun p np => ?_⟩
    refine lc_list (K := K) (xs := us) (fun i H2 => Same H H2 ∧ H2 p = some (.lst ((dims (ess.take i)).map V.int))) ?_ ?_ ?_ ?_
    · exact ⟨same_upd np, upd_same⟩
    · rintro i H2 _ ⟨sm, _⟩
      exact sm.seq ha
    · rintro i x H2 hx ⟨sm, hp⟩
      obtain ⟨a1, xs, es, rfl, he, h1, h2⟩ := (hR.mono sm).get hx
      have hi := (List.getElem?_eq_some_iff.mp he).1
      refine ⟨rfl, tYes_of ?_⟩
      refine ⟨_, rfl, a1, xs, es, rfl, .inl (.inl h1), h2, _, hp, ?_, same_mut sm np, ?_⟩
      · unfold dims
        rw [List.length_map, List.length_map, List.length_take]
        exact small1000 (by omega)
      · rw [upd_same, dims_snoc he]
    · rintro H2 ⟨sm2, hp⟩
      rw [l1, List.take_length] at hp
      refine ⟨_, rfl, b, rfl, ⟨_, same_t sm2 hb⟩, fun p3 np3 => ?_⟩
      refine lc_tup (K := K) (xs := []) (fun i H3 => Same H2 H3 ∧ H3 p3 = some (.lst [])) ?_ ?_ ?_ ?_
      · exact ⟨same_upd np3, upd_same⟩
      · rintro i H3 _ ⟨sm, _⟩
        exact same_t (sm2.trans sm) hb
      · rintro i x H3 hx ⟨sm, hp3⟩
        cases hx
      · rintro H3 ⟨sm3, hp3⟩
        have sA := sm2.trans sm3
        have d1 : (dims ess).length = ess.length := List.length_map _
        refine ⟨p, p3, _, _, rfl, rfl, sm3 _ _ hp, hp3, ?_, fun p4 np4 => ?_⟩
        · rw [List.length_map, d1]
          exact Nat.le_of_lt (small100k (by show ess.length + 0 ≤ 100000; omega))
        have s4 : Same H3 (upd H3 p4 (.lst ((dims ess).map V.int ++ []))) := same_upd np4
        have sB := sA.trans s4
        refine ⟨p4, dims ess, rfl, .inl (.inl ?_), ?_, fun hm d H5 sm5 hd => qE hm d H5 (sB.trans sm5) hd, fun hm H5 sm5 => qN hm H5 (sB.trans sm5)⟩
        · rw [upd_same, List.append_nil]
        · rw [d1]
          omega
end

set_option Elab.async false
set_option linter.all false
set_option maxRecDepth 100000
set_option maxHeartbeats 2000000
/-- two rows of different dimensions other than 0 -/
def mixB (es fs : List Ent) : Bool := decide (dimE es ≠ 0 ∧ dimE fs ≠ 0 ∧ dimE es ≠ dimE fs)
theorem mixD (es fs : List Ent) : mixL ((dims [es, fs]).filter nz) = mixB es fs := by
  show mixL ([((dimE es : Nat) : Int), ((dimE fs : Nat) : Int)].filter nz) = mixB es fs
  unfold mixB
  generalize dimE es = x
  generalize dimE fs = y
  have nzT : ∀ {z : Nat}, z ≠ 0 → nz (z : Int) = true := fun h => decide_eq_true (by omega)
  have nzF : ∀ {z : Nat}, z = 0 → nz (z : Int) = false := fun h => decide_eq_false (by omega)
  by_cases hx : x = 0
  · rw [List.filter_cons, if_neg (by rw [nzF hx]; decide), decide_eq_false (fun h => h.1 hx)]
    by_cases hy : y = 0
    · rw [List.filter_cons, if_neg (by rw [nzF hy]; decide)]
      rfl
    · rw [List.filter_cons, if_pos (nzT hy)]
      simp [mixL]
  · rw [List.filter_cons, if_pos (nzT hx)]
    by_cases hy : y = 0
    · rw [List.filter_cons, if_neg (by rw [nzF hy]; decide), decide_eq_false (fun h => h.2.1 hy)]
      simp [mixL]
    · rw [List.filter_cons, if_pos (nzT hy)]
      by_cases h : x = y
      · subst h
        rw [decide_eq_false (fun h => h.2.2 rfl)]
        simp [mixL]
      · rw [decide_eq_true ⟨hx, hy, h⟩]
        have : ¬ ((y : Int) = (x : Int)) := fun z => h (by omega)
        simp [mixL, this]
theorem mixB_same {es fs : List Ent} {n m : Nat} (h : es ≠ [] → fs ≠ [] → n = m) (he : ∀ e ∈ es, e.1.length = n) (hf : ∀ e ∈ fs, e.1.length = m) : mixB es fs = false := by
  refine decide_eq_false fun z => ?_
  obtain ⟨z1, z2, z3⟩ := z
  have h1 : es ≠ [] := fun y => z1 (by rw [y]; rfl)
  have h2 : fs ≠ [] := fun y => z2 (by rw [y]; rfl)
  exact z3 (by rw [dimE_eq he h1, dimE_eq hf h2, h h1 h2])
theorem timesL_mem {es fs : List Ent} {x : Ent} (h : x ∈ timesL es fs) : ∃ e ∈ es, ∃ g ∈ fs, x = (plusP e.1 g.1, e.2 * g.2) := by
  unfold timesL rowT at h
  obtain ⟨e, he, h⟩ := List.mem_flatMap.mp h
  obtain ⟨g, hg, rfl⟩ := List.mem_map.mp h
  exact ⟨e, he, g, hg, rfl⟩
theorem timesL_len : ∀ (es fs : List Ent), (timesL es fs).length = es.length * fs.length
  | [], fs => by rw [List.length_nil, Nat.zero_mul]; rfl
  | e :: r, fs => by
    have ih := timesL_len r fs
    show (rowT e fs ++ timesL r fs).length = _
    rw [List.length_append, ih, show (rowT e fs).length = fs.length from List.length_map _, List.length_cons, Nat.succ_mul]
    omega
section
variable {P : Program} {w : World} {K : PySem.W.Frag} {mg : Str → Option Value} {base : Heap}
/-- the same, of the law -/
def spTimes (K : PySem.W.Frag) : Sp := fun vs H Q _ => ∃ (a b : Addr) (xs ys : List V) (es fs : List Ent), vs = [.ref a, .ref b] ∧ SqL K H a xs ∧ SqL K H b ys ∧ Ents H xs es ∧ Ents H ys fs ∧ es.length * fs.length ≤ 10000 ∧ (∀ e ∈ es, ∀ g ∈ fs, e.1.length = g.1.length) ∧ (∀ e ∈ es, e.1 ≠ [] ∧ e.1.length ≤ 1000) ∧ (∀ g ∈ fs, -(2 ^ 64) < g.2 ∧ g.2 < 2 ^ 64) ∧ wantRow H (timesL es fs) Q
theorem c__law_times {f : Addr} {fd : FuncData} (D : C8.Def K mg "_law_times" s__law_times f fd) (b : Binds K fd ["_law_first", "_law_second"] []) (T : Bi mg) (c__law_plus : C8.Cal P w K mg base 1 "_law_plus" (spPlus K) []) (c__law_row : C8.Cal P w K mg base 1 "_law_row" (spGather K) []) : C8.Cal P w K mg base 2 "_law_times" (spTimes K) [] := by
  refine C8.cal0 D b .nil sc__law_times (fun vs H Q E h => ?_) (fun cdv A outer s H vs Q E hr h => ?_)
  · obtain ⟨a, b, xs, ys, es, fs, rfl, _⟩ := h
    rfl
  · obtain ⟨a, b, xs, ys, es, fs, rfl, hS, hT, hE, hF, hz, hl, hne, hnum, q⟩ := h
    refine ⟨_, (pss_cons (ps_set (i := 2) sc__law_times.nd rfl (Or.inl rfl) (pe_lst pa_nil))
  (pss_cons (ps_for PassesOwn.never rfl (pi_list (pv 0)) (pg_tup rfl (pgs_cons (pg_name (i := 3) sc__law_times.nd rfl (Or.inl rfl)) (pgs_cons (pg_name (i := 4) sc__law_times.nd rfl (Or.inl rfl)) pgs_nil))) (pss_one (ps_for PassesOwn.never rfl (pi_list (pv 1)) (pg_tup rfl (pgs_cons (pg_name (i := 5) sc__law_times.nd rfl (Or.inl rfl)) (pgs_cons (pg_name (i := 6) sc__law_times.nd rfl (Or.inl rfl)) pgs_nil))) (pss_one (ps_expr (pe_bm PySem.F.plainAttrs_list PySem.F.slot_list_append PySem.F.type_list_append mt_append (pv 2) (pa_cons (pe_tup (pa_cons (C8.pe_c c__law_plus hr (by decide) (by rfl) (pa_cons (pv 3) (pa_cons (pv 5) pa_nil))) (pa_cons (pe_op op_mul (pv 4) (pv 6)) pa_nil))) pa_nil)))))))
  (pss_one (ps_ret (C8.pe_c c__law_row hr (by decide) (by rfl) (pa_cons (pv 2) pa_nil)))))), ?_⟩
    refine ⟨by decide, fun p np => ?_⟩
    have s1 : Same H (upd H p (.lst [])) := same_upd np
    refine ⟨_, rfl, a, rfl, ⟨_, s1.seq hS⟩, ?_⟩
    refine for_list (K := K) (xs := xs) (fun i σ H2 => ∃ (ws : List V) (y3 y4 y5 y6 : Option V), σ = [some (.ref a), some (.ref b), some (.ref p), y3, y4, y5, y6] ∧ Same H H2 ∧ H2 p = some (.lst ws) ∧ Ents H2 ws (timesL (es.take i) fs)) ⟨[], none, none, none, none, rfl, s1, upd_same, .nil⟩ ?_ ?_ ?_
    · rintro i σ H2 _ ⟨_, _, _, _, _, _, sm, _⟩
      exact sm.seq hS
    · rintro i x σ H2 hx ⟨ws, y3, y4, y5, y6, rfl, sm, hp, hW⟩
      obtain ⟨e, hee, t, pe, rfl, ht, hpe⟩ := hE.get hx
      have hi := (List.getElem?_eq_some_iff.mp hee).1
      have hem : e ∈ es := List.mem_of_getElem? hee
      refine ⟨t, _, rfl, .inl (.inl (sm _ _ ht)), rfl, _, _, rfl, _, _, rfl, rfl, ?_⟩
      refine ⟨_, rfl, b, rfl, ⟨_, sm.seq hT⟩, ?_⟩
      refine for_list (K := K) (xs := ys) (fun j σ H3 => ∃ (ws : List V) (y5 y6 : Option V), σ = [some (.ref a), some (.ref b), some (.ref p), some (.ref pe), some (.int e.2), y5, y6] ∧ Same H H3 ∧ H3 p = some (.lst ws) ∧ Ents H3 ws (timesL (es.take i) fs ++ rowT e (fs.take j))) ?_ ?_ ?_ ?_
      · refine ⟨ws, y5, y6, rfl, sm, hp, ?_⟩
        rw [show rowT e (fs.take 0) = [] from rfl, List.append_nil]
        exact hW
      · rintro j σ H3 _ ⟨_, _, _, _, sm, _⟩
        exact sm.seq hT
      · rintro j x σ H3 hx ⟨ws, y5, y6, rfl, sm, hp, hW⟩
        obtain ⟨z, hzz, t2, pz, rfl, ht2, hpz⟩ := hF.get hx
        have hj := (List.getElem?_eq_some_iff.mp hzz).1
        have hzm : z ∈ fs := List.mem_of_getElem? hzz
        refine ⟨t2, _, rfl, .inl (.inl (sm _ _ ht2)), rfl, _, _, rfl, _, _, rfl, rfl, ?_⟩
        have hle := hl e hem z hzm
        refine ⟨_, rfl, .inl ⟨rfl, _, .inl (.inl hp)⟩, _, rfl, _, rfl, pe, pz, e.1, z.1, rfl, .inl (.inl (sm _ _ hpe)), .inl (.inl (sm _ _ hpz)), Nat.le_of_eq hle, (hne e hem).2, fun p4 H4 s4 hp4 => ?_⟩
        refine ⟨_, rfl, _, rfl, _, _, rfl, rfl, .inr (hnum z hzm), (by show 2 ≤ sizeLine; decide), fun t5 nt5 => ?_⟩
        have s5 : Same H4 (upd H4 t5 (.tup [.ref p4, .int (e.2 * z.2)])) := same_upd nt5
        have s45 := s4.trans s5
        have hD := s45 _ _ hp
        have hwl := hW.len
        refine ⟨p, ws, _, rfl, rfl, hD, ?_, ?_⟩
        · rw [hwl, List.length_append, timesL_len, List.length_take, show (rowT e (fs.take j)).length = (fs.take j).length from List.length_map _, List.length_take, Nat.min_eq_left (Nat.le_of_lt hi), Nat.min_eq_left (Nat.le_of_lt hj)]
          have h1 : i * fs.length + fs.length ≤ es.length * fs.length := by
            rw [← Nat.succ_mul]
            exact Nat.mul_le_mul_right _ hi
          exact small100k (by omega)
        · refine ⟨ws ++ [.ref t5], _, _, rfl, same_mut (sm.trans s45) np, upd_same, ?_⟩
          have e1 : timesL (es.take i) fs ++ rowT e (fs.take (j + 1)) = (timesL (es.take i) fs ++ rowT e (fs.take j)) ++ [(plusP e.1 z.1, e.2 * z.2)] := by
            rw [take_snoc hzz]
            unfold rowT
            rw [List.map_append, List.append_assoc]
            rfl
          rw [e1]
          exact ((hW.mono s45).updL hD).app (.cons (EntAt.updL hD ⟨t5, p4, rfl, upd_same, s5 _ _ hp4⟩) .nil)
      · rintro σ H3 ⟨ws, y5, y6, rfl, sm, hp, hW⟩
        rw [hF.len, List.take_length] at hW
        refine ⟨ws, _, _, y5, y6, rfl, sm, hp, ?_⟩
        rw [take_snoc hee, timesL_snoc]
        exact hW
    · rintro σ H2 ⟨ws, y3, y4, y5, y6, rfl, sm, hp, hW⟩
      rw [hE.len, List.take_length] at hW
      refine ⟨_, rfl, p, ws, timesL es fs, rfl, ⟨.inl (.inl hp), hW, ?_⟩, fun x hx => ?_, wantRow.mono sm q⟩
      · rw [timesL_len]
        exact small100k (by omega)
      · obtain ⟨e, he, g, hg, rfl⟩ := timesL_mem hx
        intro h0
        have h1 := plusP_len (Nat.le_of_eq (hl e he g hg))
        have h2 : (plusP e.1 g.1).length = 0 := by
          show (plusP e.1 g.1).length = 0
          rw [show plusP e.1 g.1 = [] from h0]
          rfl
        exact (hne e he).1 (List.length_eq_zero_iff.mp (by omega))
end

set_option Elab.async false
set_option linter.all false
set_option maxRecDepth 100000
set_option maxHeartbeats 2000000
/-- the least numbers of the places, direction by direction -/
def IsLow (es : List Ent) (l : Pl) : Prop := ∀ (k : Nat) (y : Int), l[k]? = some y → (∃ e ∈ es, e.1[k]? = some y) ∧ ∀ e ∈ es, ∀ x, e.1[k]? = some x → y ≤ x
def IsTop (es : List Ent) (l : Pl) : Prop := ∀ (k : Nat) (y : Int), l[k]? = some y → (∃ e ∈ es, e.1[k]? = some y) ∧ ∀ e ∈ es, ∀ x, e.1[k]? = some x → x ≤ y
theorem IsLow.one {es : List Ent} {l m : Pl} (hl : l.length = m.length) (h1 : IsLow es l) (h2 : IsLow es m) : l = m := by
  refine List.ext_getElem? fun k => ?_
  by_cases c : k < l.length
  · have d : k < m.length := by omega
    rw [List.getElem?_eq_getElem c, List.getElem?_eq_getElem d]
    obtain ⟨⟨e, he, hk⟩, a1⟩ := h1 k _ (List.getElem?_eq_getElem c)
    obtain ⟨⟨f, hf, hk2⟩, a2⟩ := h2 k _ (List.getElem?_eq_getElem d)
    have := a1 f hf _ hk2
    have := a2 e he _ hk
    exact congrArg some (by omega)
  · rw [List.getElem?_eq_none (by omega), List.getElem?_eq_none (by omega)]
theorem IsTop.one {es : List Ent} {l m : Pl} (hl : l.length = m.length) (h1 : IsTop es l) (h2 : IsTop es m) : l = m := by
  refine List.ext_getElem? fun k => ?_
  by_cases c : k < l.length
  · have d : k < m.length := by omega
    rw [List.getElem?_eq_getElem c, List.getElem?_eq_getElem d]
    obtain ⟨⟨e, he, hk⟩, a1⟩ := h1 k _ (List.getElem?_eq_getElem c)
    obtain ⟨⟨f, hf, hk2⟩, a2⟩ := h2 k _ (List.getElem?_eq_getElem d)
    have := a1 f hf _ hk2
    have := a2 e he _ hk
    exact congrArg some (by omega)
  · rw [List.getElem?_eq_none (by omega), List.getElem?_eq_none (by omega)]
section
variable {P : Program} {w : World} {K : PySem.W.Frag} {mg : Str → Option Value} {base : Heap}
def spExt (K : PySem.W.Frag) (IS : List Ent → Pl → Prop) : Sp := fun vs H Q _ => ∃ (a : Addr) (xs : List V) (es : List Ent) (n : Nat), vs = [.ref a] ∧ SqL K H a xs ∧ Ents H xs es ∧ 0 < es.length ∧ es.length ≤ 1000 ∧ (∀ e ∈ es, e.1.length = n) ∧ n ≤ 3 ∧ ∀ p H' (l : Pl), l.length = n → IS es l → Same H H' → H' p = some (.tup (l.map V.int)) → Q (.ref p) H'
end

set_option Elab.async false
set_option linter.all false
set_option maxRecDepth 100000
set_option maxHeartbeats 2000000
/-! places as one number -/
def keyP (b : Int) : Pl → Int
  | [] => 0
  | x :: r => x * b ^ r.length + keyP b r
theorem keyP_snoc (b x : Int) : ∀ p : Pl, keyP b (p ++ [x]) = keyP b p * b + x
  | [] => by
    show x * b ^ 0 + 0 = 0 * b + x
    rw [Int.pow_zero]
    omega
  | y :: r => by
    show y * b ^ (r ++ [x]).length + keyP b (r ++ [x]) = (y * b ^ r.length + keyP b r) * b + x
    rw [keyP_snoc b x r, List.length_append, List.length_singleton, Int.pow_succ, Int.add_mul, ← Int.mul_assoc, Int.add_assoc]
theorem keyP_plus (b : Int) : ∀ {p q : Pl}, p.length = q.length → keyP b (plusP p q) = keyP b p + keyP b q
  | [], [], _ => rfl
  | [], _ :: _, h => by cases h
  | _ :: _, [], h => by cases h
  | x :: r, y :: t, h => by
    have hl : r.length = t.length := Nat.succ.inj h
    have ih := keyP_plus b hl
    have lp : (plusP r t).length = r.length := plusP_len (Nat.le_of_eq hl)
    show (x + y) * b ^ (plusP r t).length + keyP b (plusP r t) = (x * b ^ r.length + keyP b r) + (y * b ^ t.length + keyP b t)
    rw [ih, lp, hl, Int.add_mul]
    omega
/-- the numbers of a place stay within h -/
def Within (h : Nat) (p : Pl) : Prop := ∀ x ∈ p, x.natAbs ≤ h
theorem Within.tail {h : Nat} {x : Int} {r : Pl} (w : Within h (x :: r)) : Within h r := fun y hy => w y (List.mem_cons_of_mem _ hy)
theorem pow_pos' {b : Int} (hb : 0 < b) (n : Nat) : 0 < b ^ n := Int.pow_pos hb
theorem keyP_bound {h : Nat} {b : Int} (hb : b = 2 * (h : Int) + 1) : ∀ {p : Pl}, Within h p → 2 * keyP b p < b ^ p.length ∧ -(b ^ p.length) < 2 * keyP b p
  | [], _ => by
    show 2 * (0 : Int) < b ^ 0 ∧ -(b ^ 0) < 2 * (0 : Int)
    rw [Int.pow_zero]
    decide
  | x :: r, w => by
    obtain ⟨h1, h2⟩ := keyP_bound hb w.tail
    have hx := w x List.mem_cons_self
    have hp := pow_pos' (show 0 < b by omega) r.length
    show 2 * (x * b ^ r.length + keyP b r) < b ^ (r.length + 1) ∧ -(b ^ (r.length + 1)) < 2 * (x * b ^ r.length + keyP b r)
    rw [Int.pow_succ]
    generalize b ^ r.length = B at h1 h2 hp ⊢
    generalize keyP b r = k at h1 h2 ⊢
    subst hb
    have e1 : x * B ≤ (h : Int) * B := Int.mul_le_mul_of_nonneg_right (by omega) (by omega)
    have e2 : -(h : Int) * B ≤ x * B := Int.mul_le_mul_of_nonneg_right (by omega) (by omega)
    have e3 : B * (2 * (h : Int) + 1) = 2 * ((h : Int) * B) + B := by
      rw [Int.mul_add, Int.mul_one, Int.mul_comm B (2 * (h : Int)), Int.mul_assoc]
    have e4 : -(h : Int) * B = -((h : Int) * B) := Int.neg_mul _ _
    omega
theorem keyP_lt {h : Nat} {b : Int} (hb : b = 2 * (h : Int) + 1) : ∀ {p q : Pl}, p.length = q.length → Within h p → Within h q → HT.lexLt p q = true → keyP b p < keyP b q
  | [], [], _, _, _, e => by cases e
  | [], _ :: _, h, _, _, _ => by cases h
  | _ :: _, [], h, _, _, _ => by cases h
  | x :: r, y :: t, hl, w1, w2, e => by
    have hl' : r.length = t.length := Nat.succ.inj hl
    rw [HT.lexLt_cons] at e
    show x * b ^ r.length + keyP b r < y * b ^ t.length + keyP b t
    rw [hl']
    by_cases z : x = y
    · rw [if_pos z] at e
      have := keyP_lt hb hl' w1.tail w2.tail e
      rw [z]
      omega
    · rw [if_neg z] at e
      have z2 : x < y := of_decide_eq_true e
      obtain ⟨a1, a2⟩ := keyP_bound hb w1.tail
      obtain ⟨b1, b2⟩ := keyP_bound hb w2.tail
      rw [hl'] at a1 a2
      have hp := pow_pos' (show 0 < b by omega) t.length
      generalize b ^ t.length = B at a1 a2 b1 b2 hp ⊢
      have e1 : (x + 1) * B ≤ y * B := Int.mul_le_mul_of_nonneg_right (by omega) (by omega)
      rw [Int.add_mul, Int.one_mul] at e1
      omega
theorem lex_tri : ∀ {p q : Pl}, p.length = q.length → HT.lexLt p q = true ∨ p = q ∨ HT.lexLt q p = true
  | [], [], _ => .inr (.inl rfl)
  | [], _ :: _, h => by cases h
  | _ :: _, [], h => by cases h
  | x :: r, y :: t, hl => by
    rw [HT.lexLt_cons, HT.lexLt_cons]
    by_cases z : x = y
    · subst z
      rw [if_pos rfl, if_pos rfl]
      rcases lex_tri (Nat.succ.inj hl : r.length = t.length) with h | h | h
      · exact .inl h
      · exact .inr (.inl (by rw [h]))
      · exact .inr (.inr h)
    · rw [if_neg z, if_neg (fun e => z e.symm)]
      by_cases c : x < y
      · exact .inl (decide_eq_true c)
      · exact .inr (.inr (decide_eq_true (by omega)))
theorem keyP_inj {h : Nat} {b : Int} (hb : b = 2 * (h : Int) + 1) {p q : Pl} (hl : p.length = q.length) (w1 : Within h p) (w2 : Within h q) (e : keyP b p = keyP b q) : p = q := by
  rcases lex_tri hl with z | z | z
  · have := keyP_lt hb hl w1 w2 z
    omega
  · exact z
  · have := keyP_lt hb hl.symm w2 w1 z
    omega
theorem keyP_le {h : Nat} {b : Int} (hb : b = 2 * (h : Int) + 1) {p q : Pl} (hl : p.length = q.length) (w1 : Within h p) (w2 : Within h q) (e : keyP b p ≤ keyP b q) : HT.lexLt q p = false := by
  cases z : HT.lexLt q p with
  | false => rfl
  | true =>
    have := keyP_lt hb hl.symm w2 w1 z
    omega
/-- the last number of a place, from its key -/
theorem digit {h : Nat} {b k x : Int} (hb : b = 2 * (h : Int) + 1) (hx : x.natAbs ≤ h) : (k * b + x + h) % b - h = x ∧ (k * b + x - x) / b = k := by
  have hpos : 0 < b := by omega
  have e1 : (k * b + x + h) % b = x + h := by
    rw [show k * b + x + (h : Int) = x + h + k * b by omega, Int.add_mul_emod_self_right]
    exact Int.emod_eq_of_lt (by omega) (by omega)
  refine ⟨by omega, ?_⟩
  rw [show k * b + x - x = k * b by omega, Int.mul_ediv_cancel _ (by omega)]

set_option Elab.async false
set_option linter.all false
set_option maxRecDepth 100000
set_option maxHeartbeats 2000000
/-- two fors: the outer one over a list -/
theorem lc2_out {K : PySem.W.Frag} {a : Addr} {xs : List V} {g : TG} {tt : TT} {wi1 : TI} {g1 : TG} {tt1 : TT} {te : TE} {vs vs1 : List Nat} {σ : L2.St} {H1 : Hp} {D : Addr} {Qd : Hp → Prop} (Pv : Nat → Hp → Prop) (h0 : Pv 0 (upd H1 D (.lst []))) (hl : ∀ i H, i ≤ xs.length → Pv i H → SqL K H a xs)
    (hs : ∀ i x H, xs[i]? = some x → Pv i H → g x (wipe σ vs) H fun σ2 H2 => wipe σ2 vs = wipe σ vs ∧ tt σ2 H2 fun b H3 =>
      if b = true then wi1 σ2 H3 fun J1 H4 => ∃ W1 : Nat → Nat → Hp → Prop, (∃ m, W1 0 m H4) ∧ ∀ j k H, W1 j k H →
        (J1.stop j H ∧ Pv (i + 1) H) ∨ (J1.go j H ∧ ∃ Nx1 : Hp → Prop, (∀ H', Nx1 H' → ∃ k', k' < k ∧ W1 (j + 1) k' H') ∧ ∀ x H', J1.yld j H x H' → g1 x (wipe σ2 vs1) H' fun σ3 H5 => wipe σ3 vs1 = wipe σ2 vs1 ∧ tt1 σ3 H5 fun b H6 =>
          if b = true then te σ3 H6 fun y H7 => ∃ acc, H7 D = some (.lst acc) ∧ acc.length < sizeLine ∧ Nx1 (upd H7 D (.lst (acc ++ [y]))) else Nx1 H6)
      else Pv (i + 1) H3) (hd : ∀ H, Pv xs.length H → Qd H) :
    ∃ W : Nat → Nat → Hp → Prop, (∃ m, W 0 m (upd H1 D (.lst []))) ∧ ∀ i m H, W i m H →
      ((Itl K a).stop i H ∧ Qd H) ∨ ((Itl K a).go i H ∧ ∃ Nx : Hp → Prop, (∀ H', Nx H' → ∃ m', m' < m ∧ W (i + 1) m' H') ∧ ∀ x H', (Itl K a).yld i H x H' → g x (wipe σ vs) H' fun σ2 H2 => wipe σ2 vs = wipe σ vs ∧ tt σ2 H2 fun b H3 =>
        if b = true then wi1 σ2 H3 fun J1 H4 => ∃ W1 : Nat → Nat → Hp → Prop, (∃ m, W1 0 m H4) ∧ ∀ j k H, W1 j k H →
          (J1.stop j H ∧ Nx H) ∨ (J1.go j H ∧ ∃ Nx1 : Hp → Prop, (∀ H', Nx1 H' → ∃ k', k' < k ∧ W1 (j + 1) k' H') ∧ ∀ x H', J1.yld j H x H' → g1 x (wipe σ2 vs1) H' fun σ3 H5 => wipe σ3 vs1 = wipe σ2 vs1 ∧ tt1 σ3 H5 fun b H6 =>
            if b = true then te σ3 H6 fun y H7 => ∃ acc, H7 D = some (.lst acc) ∧ acc.length < sizeLine ∧ Nx1 (upd H7 D (.lst (acc ++ [y]))) else Nx1 H6)
        else Nx H3) := by
  refine ⟨fun i m H => m = xs.length - i ∧ i ≤ xs.length ∧ Pv i H, ⟨xs.length, by simp, Nat.zero_le _, h0⟩, ?_⟩
  rintro i m H ⟨rfl, hi, p⟩
  have q := hl i H hi p
  by_cases hlt : i < xs.length
  · refine .inr ⟨⟨xs, xs[i], q, by simp [hlt]⟩, Pv (i + 1), fun H' p' => ⟨xs.length - (i + 1), by omega, rfl, hlt, p'⟩, fun x H' y => ?_⟩
    obtain ⟨e, y⟩ := y
    subst e
    exact hs i x _ (y xs q) p
  · have e : i = xs.length := by omega
    subst e
    exact .inl ⟨⟨xs, q, Nat.le_refl _⟩, hd H p⟩
/-- the inner one over a tuple -/
theorem lc2_tup {K : PySem.W.Frag} {a : Addr} {ys : List V} {g1 : TG} {tt1 : TT} {te : TE} {vs1 : List Nat} {σ2 : L2.St} {H4 : Hp} {D : Addr} {Nx : Hp → Prop} (Pw : Nat → Hp → Prop) (h0 : Pw 0 H4) (hl : ∀ j H, j ≤ ys.length → Pw j H → SqT K H a ys)
    (hs : ∀ j y H, ys[j]? = some y → Pw j H → g1 y (wipe σ2 vs1) H fun σ3 H5 => wipe σ3 vs1 = wipe σ2 vs1 ∧ tt1 σ3 H5 fun b H6 =>
      if b = true then te σ3 H6 fun y H7 => ∃ acc, H7 D = some (.lst acc) ∧ acc.length < sizeLine ∧ Pw (j + 1) (upd H7 D (.lst (acc ++ [y]))) else Pw (j + 1) H6) (hd : ∀ H, Pw ys.length H → Nx H) :
    ∃ W1 : Nat → Nat → Hp → Prop, (∃ m, W1 0 m H4) ∧ ∀ j k H, W1 j k H →
      ((Itt K a).stop j H ∧ Nx H) ∨ ((Itt K a).go j H ∧ ∃ Nx1 : Hp → Prop, (∀ H', Nx1 H' → ∃ k', k' < k ∧ W1 (j + 1) k' H') ∧ ∀ x H', (Itt K a).yld j H x H' → g1 x (wipe σ2 vs1) H' fun σ3 H5 => wipe σ3 vs1 = wipe σ2 vs1 ∧ tt1 σ3 H5 fun b H6 =>
        if b = true then te σ3 H6 fun y H7 => ∃ acc, H7 D = some (.lst acc) ∧ acc.length < sizeLine ∧ Nx1 (upd H7 D (.lst (acc ++ [y]))) else Nx1 H6) := by
  refine ⟨fun j k H => k = ys.length - j ∧ j ≤ ys.length ∧ Pw j H, ⟨ys.length, by simp, Nat.zero_le _, h0⟩, ?_⟩
  rintro j k H ⟨rfl, hj, p⟩
  have q := hl j H hj p
  by_cases hlt : j < ys.length
  · refine .inr ⟨⟨ys, ys[j], q, by simp [hlt]⟩, Pw (j + 1), fun H' p' => ⟨ys.length - (j + 1), by omega, rfl, hlt, p'⟩, fun x H' y => ?_⟩
    obtain ⟨e, y⟩ := y
    subst e
    exact hs j x _ (y ys q) p
  · have e : j = ys.length := by omega
    subst e
    exact .inl ⟨⟨ys, q, Nat.le_refl _⟩, hd H p⟩
section
variable {P : Program} {w : World} {K : PySem.W.Frag} {mg : Str → Option Value} {base : Heap}
/-- the greatest absolute coordinate -/
def ReachIs (es : List Ent) (h : Nat) : Prop := (∀ e ∈ es, Within h e.1) ∧ ∀ C : Nat, (∀ e ∈ es, Within C e.1) → h ≤ C
def absP (p : Pl) : List Int := p.map fun x => if x < 0 then -x else x
def coords (es : List Ent) : List Int := es.flatMap fun e => absP e.1
theorem coords_len : ∀ {es : List Ent}, (∀ e ∈ es, e.1.length ≤ 3) → (coords es).length ≤ 3 * es.length
  | [], _ => Nat.le_refl _
  | e :: r, h => by
    have ih := coords_len (es := r) fun x hx => h x (List.mem_cons_of_mem _ hx)
    have h1 := h e List.mem_cons_self
    show (absP e.1 ++ coords r).length ≤ 3 * (r.length + 1)
    rw [List.length_append, show (absP e.1).length = e.1.length from List.length_map _]
    omega
theorem coords_mem {es : List Ent} {n : Int} : n ∈ coords es ↔ ∃ e ∈ es, ∃ x ∈ e.1, n = (x.natAbs : Int) := by
  unfold coords absP
  rw [List.mem_flatMap]
  constructor
  · rintro ⟨e, he, h⟩
    obtain ⟨x, hx, rfl⟩ := List.mem_map.mp h
    refine ⟨e, he, x, hx, ?_⟩
    by_cases z : x < 0
    · rw [if_pos z]
      omega
    · rw [if_neg z]
      omega
  · rintro ⟨e, he, x, hx, rfl⟩
    refine ⟨e, he, List.mem_map.mpr ⟨x, hx, ?_⟩⟩
    by_cases z : x < 0
    · rw [if_pos z]
      omega
    · rw [if_neg z]
      omega
theorem reach_nil {es : List Ent} (h : coords es = []) : ReachIs es 0 := by
  refine ⟨fun e he x hx => ?_, fun C _ => Nat.zero_le _⟩
  have : (x.natAbs : Int) ∈ coords es := coords_mem.mpr ⟨e, he, x, hx, rfl⟩
  rw [h] at this
  cases this
theorem reach_max {es : List Ent} {m : Int} (hm : m ∈ coords es) (hb : ∀ y ∈ coords es, y ≤ m) : ∃ h : Nat, m = (h : Int) ∧ ReachIs es h := by
  obtain ⟨e, he, x, hx, rfl⟩ := coords_mem.mp hm
  refine ⟨x.natAbs, rfl, fun e' he' x' hx' => ?_, fun C h => h e he x hx⟩
  have := hb _ (coords_mem.mpr ⟨e', he', x', hx', rfl⟩)
  omega
def spReach (K : PySem.W.Frag) : Sp := fun vs H Q _ => ∃ (a : Addr) (xs : List V) (es : List Ent), vs = [.ref a] ∧ SqL K H a xs ∧ Ents H xs es ∧ es.length ≤ 1000 ∧ (∀ e ∈ es, e.1.length ≤ 3) ∧ ∀ h H', ReachIs es h → Same H H' → Q (.int (h : Nat)) H'
theorem c_reach {f : Addr} {fd : FuncData} (D : C8.Def K mg "reach" s_reach f fd) (b : Binds K fd ["row"] []) (T : Bi mg) : C8.Cal P w K mg base 1 "reach" (spReach K) [] := by
  refine C8.cal0 D b .nil sc_reach (fun vs H Q E h => ?_) (fun cdv A outer s H vs Q E hr h => ?_)
  · obtain ⟨a, xs, es, rfl, _⟩ := h
    rfl
  · obtain ⟨a, xs, es, rfl, hS, hE, hz, hd, q⟩ := h
    refine ⟨_, (pss_one (ps_ret (pe_callBK (show CallRK _ _ _ (OW.rMaxDf K) from OW.cr_maxDf rfl hr.units) (by rfl) T.n_max OT.b_max (pa_cons (pe_lc2 (own := [("place", 2), ("number", 3), ("x", 1)]) (vs1 := [1]) (g := (gTup K 2 (gCons (gName 2) (gCons (gName 3) gNil)))) (g1 := (gName 1)) (tt := tYes) (tt1 := tYes) rfl sc_reach.nd (pi_list (pv 0)) (blkOk_by (N := ["row", "x", "place", "number"]) (sc := C8.fnScope s_reach) (by decide +kernel)) (by decide) (fun _ _ _ _ _ => (pg_tup rfl (pgs_cons (pg_name (i := 2) sc_reach.nd rfl (Or.inl rfl)) (pgs_cons (pg_name (i := 3) sc_reach.nd rfl (Or.inl rfl)) pgs_nil)))) (fun _ _ _ _ _ => pts_nil) (fun _ _ _ _ _ => (show PI _ _ _ (iTup K (tVar 2)) from pi_tup (pe_var (i := 2) rfl (.inl rfl)))) (fun _ _ _ _ _ => (pg_name (i := 1) sc_reach.nd rfl (Or.inl rfl))) (fun _ _ _ _ _ => pts_nil) (fun _ _ _ _ _ => (pe_callB call_abs (by rfl) T.n_abs OT.b_abs (pa_cons (pv 1) pa_nil)))) pa_nil) (pk_cons pe_int pk_nil)))), ?_⟩
    refine ⟨_, rfl, a, rfl, ⟨_, hS⟩, fun D nD => ?_⟩
    refine lc2_out (K := K) (xs := xs) (fun i H2 => Same H H2 ∧ H2 D = some (.lst ((coords (es.take i)).map V.int))) ⟨same_upd nD, upd_same⟩ ?_ ?_ ?_
    · rintro i H2 _ ⟨sm, _⟩
      exact sm.seq hS
    · rintro i v H2 hv ⟨sm, hp⟩
      obtain ⟨e, he, t, p, rfl, ht, hpe⟩ := hE.get hv
      have hie := (List.getElem?_eq_some_iff.mp he).1
      have hem : e ∈ es := List.mem_of_getElem? he
      have h3 := hd e hem
      have hc1 := coords_len (es := es.take i) fun x hx => hd x (List.mem_of_mem_take hx)
      rw [List.length_take] at hc1
      refine ⟨t, _, rfl, .inl (.inl (sm _ _ ht)), rfl, _, _, rfl, _, _, rfl, rfl, rfl, tYes_of ?_⟩
      have hT : SqT K H2 p (e.1.map V.int) := .inl (.inl (sm _ _ hpe))
      refine ⟨_, rfl, p, rfl, ⟨_, hT⟩, ?_⟩
      refine lc2_tup (K := K) (ys := e.1.map V.int) (fun j H3 => Same H H3 ∧ H3 D = some (.lst ((coords (es.take i) ++ absP (e.1.take j)).map V.int))) ⟨sm, ?_⟩ ?_ ?_ ?_
      · rw [hp, show absP (e.1.take 0) = [] from rfl, List.append_nil]
      · rintro j H3 _ ⟨sm3, _⟩
        exact .inl (.inl (sm3 _ _ hpe))
      · rintro j y H3 hy ⟨sm3, hp3⟩
        obtain ⟨hj, rfl⟩ := getm hy
        refine ⟨rfl, tYes_of ?_⟩
        refine ⟨_, rfl, e.1[j], rfl, _, hp3, ?_, same_mut sm3 nD, ?_⟩
        · have hj3 := h3
          rw [List.length_map, List.length_append, show (absP (e.1.take j)).length = (e.1.take j).length from List.length_map _, List.length_take]
          exact small100k (by omega)
        · rw [upd_same, List.take_add_one, List.getElem?_eq_getElem hj]
          show some (HO.lst _) = some (HO.lst (List.map V.int (coords (es.take i) ++ List.map _ (e.1.take j ++ [e.1[j]]))))
          rw [List.map_append (l₂ := [e.1[j]]), ← List.append_assoc, List.map_append (l₂ := List.map _ [e.1[j]])]
          rfl
      · rintro H3 ⟨sm3, hp3⟩
        refine ⟨sm3, ?_⟩
        rw [List.length_map, List.take_length] at hp3
        rw [hp3, take_snoc he]
        show _ = some (HO.lst (List.map V.int (List.flatMap _ (es.take i ++ [e]))))
        rw [List.flatMap_append]
        simp [coords]
    · rintro H2 ⟨sm, hp⟩
      rw [hE.len, List.take_length] at hp
      refine ⟨D, coords es, 0, rfl, rfl, .inl (.inl hp), fun h0 => q 0 H2 (reach_nil h0) sm, fun m hm hb => ?_⟩
      obtain ⟨h, rfl, hR⟩ := reach_max hm hb
      exact q h H2 hR sm
end

set_option Elab.async false
set_option linter.all false
set_option maxRecDepth 100000
set_option maxHeartbeats 2000000
section
variable {P : Program} {w : World} {K : PySem.W.Frag} {mg : Str → Option Value} {base : Heap}
structure RowL (K : PySem.W.Frag) (H : Hp) (a : Addr) (xs : List V) (es : List Ent) : Prop where
  l : SqL K H a xs
  e : Ents H xs es
  z : es.length ≤ 1000
  d : ∀ e ∈ es, e.1.length ≤ 3
theorem RowL.mono {H H' : Hp} {a : Addr} {xs : List V} {es : List Ent} (s : Same H H') (h : RowL K H a xs es) : RowL K H' a xs es := ⟨s.seq h.l, h.e.mono s, h.z, h.d⟩
def spKB (K : PySem.W.Frag) : Sp := fun vs H Q _ => ∃ (a b : Addr) (xs ys : List V) (es fs : List Ent), vs = [.ref a, .ref b] ∧ RowL K H a xs es ∧ RowL K H b ys fs ∧ ∀ h g H', ReachIs es h → ReachIs fs g → Same H H' → Q (.int (2 * ((h + g : Nat) : Int) + 1)) H'
theorem c_key_base {f : Addr} {fd : FuncData} (D : C8.Def K mg "key_base" s_key_base f fd) (b : Binds K fd ["first", "second"] []) (T : Bi mg) (c_reach : C8.Cal P w K mg base 1 "reach" (spReach K) []) : C8.Cal P w K mg base 2 "key_base" (spKB K) [] := by
  refine C8.cal0 D b .nil sc_key_base (fun vs H Q E h => ?_) (fun cdv A outer s H vs Q E hr h => ?_)
  · obtain ⟨a, b, xs, ys, es, fs, rfl, _⟩ := h
    rfl
  · obtain ⟨a, b, xs, ys, es, fs, rfl, hR, hS, q⟩ := h
    refine ⟨_, (pss_one (ps_ret (pe_op op_add (pe_op op_mul pe_int (pe_op op_add (C8.pe_c c_reach hr (by decide) (by rfl) (pa_cons (pv 0) pa_nil)) (C8.pe_c c_reach hr (by decide) (by rfl) (pa_cons (pv 1) pa_nil)))) pe_int))), ?_⟩
    refine ⟨_, rfl, a, xs, es, rfl, hR.l, hR.e, hR.z, hR.d, fun h H2 hh s2 => ?_⟩
    have hS2 := hS.mono s2
    refine ⟨_, rfl, b, ys, fs, rfl, hS2.l, hS2.e, hS2.z, hS2.d, fun g H3 hg s3 => ?_⟩
    refine ⟨_, _, rfl, rfl, _, _, rfl, rfl, .inl ⟨by decide, by decide⟩, _, _, rfl, rfl, ?_⟩
    have e : (2 : Int) * ((h : Int) + (g : Int)) + 1 = 2 * ((h + g : Nat) : Int) + 1 := by omega
    show Q (.int ((2 : Int) * ((h : Int) + (g : Int)) + 1)) H3
    rw [e]
    exact q h g H3 hh hg (s2.trans s3)
def spKO (K : PySem.W.Frag) : Sp := fun vs H Q _ => ∃ (a : Addr) (p : Pl) (b : Int), vs = [.ref a, .int b] ∧ SqT K H a (p.map V.int) ∧ (-(2 ^ 64) < b ∧ b < 2 ^ 64) ∧ Q (.int (keyP b p)) H
theorem c_key_of {f : Addr} {fd : FuncData} (D : C8.Def K mg "key_of" s_key_of f fd) (b : Binds K fd ["place", "base"] []) (T : Bi mg) : C8.Cal P w K mg base 1 "key_of" (spKO K) [] := by
  refine C8.cal0 D b .nil sc_key_of (fun vs H Q E h => ?_) (fun cdv A outer s H vs Q E hr h => ?_)
  · obtain ⟨a, p, b, rfl, _⟩ := h
    rfl
  · obtain ⟨a, p, b, rfl, hS, hb, q⟩ := h
    refine ⟨_, (pss_cons (ps_set (i := 2) sc_key_of.nd rfl (Or.inl rfl) pe_int)
  (pss_cons (ps_for PassesOwn.never rfl (pi_tup (pv 0)) (pg_name (i := 3) sc_key_of.nd rfl (Or.inl rfl)) (pss_one (ps_set (i := 2) sc_key_of.nd rfl (Or.inl rfl) (pe_op op_add (pe_op op_mul (pv 2) (pv 1)) (pv 3)))))
  (pss_one (ps_ret (pv 2))))), ?_⟩
    refine ⟨_, rfl, a, rfl, ⟨_, hS⟩, ?_⟩
    refine for_tup (K := K) (xs := p.map V.int) (fun i σ H2 => ∃ y, σ = [some (.ref a), some (.int b), some (.int (keyP b (p.take i))), y] ∧ H2 = H) ⟨none, rfl, rfl⟩ ?_ ?_ ?_
    · rintro i σ H2 _ ⟨_, _, rfl⟩
      exact hS
    · rintro i x σ H2 hx ⟨y, rfl, rfl⟩
      obtain ⟨hi, rfl⟩ := getm hx
      refine ⟨_, rfl, _, rfl, _, _, rfl, rfl, .inr hb, _, rfl, _, _, rfl, rfl, ?_⟩
      refine ⟨some (V.int p[i]), ?_, rfl⟩
      rw [List.take_add_one, List.getElem?_eq_getElem hi]
      show _ = [some (V.ref a), some (V.int b), some (V.int (keyP b (p.take i ++ [p[i]]))), _]
      rw [keyP_snoc]
      rfl
    · rintro σ H2 ⟨y, rfl, rfl⟩
      rw [List.length_map, List.take_length]
      exact ⟨_, rfl, q⟩
def spPO : Sp := fun vs H Q _ => ∃ (p : Pl) (h : Nat), vs = [.int (keyP (2 * (h : Int) + 1) p), .int (2 * (h : Int) + 1), .int (p.length : Int)] ∧ Within h p ∧ p.length ≤ 1000 ∧ h ≤ 100000000 ∧ ∀ q H', Same H H' → H' q = some (.tup (p.map V.int)) → Q (.ref q) H'
theorem c_place_of {f : Addr} {fd : FuncData} (D : C8.Def K mg "place_of" s_place_of f fd) (b : Binds K fd ["key", "base", "length"] []) (T : Bi mg) : C8.Cal P w K mg base 1 "place_of" spPO [] := by
  refine C8.cal0 D b .nil sc_place_of (fun vs H Q E h => ?_) (fun cdv A outer s H vs Q E hr h => ?_)
  · obtain ⟨p, h, rfl, _⟩ := h
    rfl
  · obtain ⟨p, h, rfl, hw, hl, hh, q⟩ := h
    refine ⟨_, (pss_cons (ps_set (i := 3) sc_place_of.nd rfl (Or.inl rfl) (pe_op op_fdiv (pv 1) pe_int))
  (pss_cons (ps_set (i := 4) sc_place_of.nd rfl (Or.inl rfl) (pe_lst pa_nil))
  (pss_cons (ps_for PassesOwn.never rfl (pi_range1 rfl T.n_range (pa_cons (pv 2) pa_nil)) (pg_name (i := 5) sc_place_of.nd rfl (Or.inl rfl)) (pss_cons (ps_set (i := 6) sc_place_of.nd rfl (Or.inl rfl) (pe_op op_sub (pe_op op_mod (pe_op op_add (pv 0) (pv 3)) (pv 1)) (pv 3)))
  (pss_cons (ps_expr (pe_bm PySem.F.plainAttrs_list PySem.F.slot_list_append PySem.F.type_list_append mt_append (pv 4) (pa_cons (pv 6) pa_nil)))
  (pss_one (ps_set (i := 0) sc_place_of.nd rfl (Or.inl rfl) (pe_op op_fdiv (pe_op op_sub (pv 0) (pv 6)) (pv 1)))))))
  (pss_one (ps_ret (pe_callTy call_tuple_of (by rfl) T.n_tuple OT.b_tuple (pa_cons (pe_revL (pv 4)) pa_nil))))))), ?_⟩
    refine ⟨_, rfl, _, _, rfl, rfl, ⟨by decide, by decide⟩, ?_⟩
    have e1 : (2 * (h : Int) + 1) / 2 = (h : Int) := by omega
    refine ⟨by decide, fun c nc => ?_⟩
    refine ⟨_, rfl, (p.length : Int), rfl, by omega, by omega, ?_⟩
    rw [Int.toNat_natCast]
    refine for_range (lo := 0) (n := p.length) (fun i σ H2 => ∃ y5 y6 : Option V, σ = [some (.int (keyP (2 * (h : Int) + 1) (p.take (p.length - i)))), some (.int (2 * (h : Int) + 1)), some (.int (p.length : Int)), some (.int (h : Int)), some (.ref c), y5, y6] ∧ Same H H2 ∧ H2 c = some (.lst ((p.reverse.take i).map V.int))) ?_ ?_ ?_
    · refine ⟨none, none, ?_, same_upd nc, upd_same⟩
      rw [Nat.sub_zero, List.take_length]
      show [_, _, _, some (V.int ((2 * (h : Int) + 1) / 2)), _, _, _] = _
      rw [e1]
    · rintro i σ H2 hi ⟨y5, y6, rfl, sm, hc⟩
      have hn : p.length - (i + 1) < p.length := by omega
      have hs : p.take (p.length - i) = p.take (p.length - (i + 1)) ++ [p[p.length - (i + 1)]] := by
        rw [show p.length - i = p.length - (i + 1) + 1 by omega, List.take_add_one, List.getElem?_eq_getElem hn]
        rfl
      have hr : p.reverse[i]? = some (p[p.length - (i + 1)]) := by
        rw [List.getElem?_reverse hi, List.getElem?_eq_getElem (by omega)]
        congr 2
        omega
      have hx := hw _ (List.getElem_mem hn)
      rw [hs, keyP_snoc]
      generalize p[p.length - (i + 1)] = x at hr hx ⊢
      generalize hk : keyP (2 * (h : Int) + 1) (p.take (p.length - (i + 1))) = k
      obtain ⟨d1, d2⟩ := digit (b := 2 * (h : Int) + 1) (k := k) rfl hx
      refine ⟨_, rfl, _, rfl, _, _, rfl, rfl, _, rfl, _, _, rfl, rfl, (by show (0 : Int) < 2 * (h : Int) + 1; omega), _, rfl, _, _, rfl, rfl, ?_⟩
      refine ⟨_, rfl, .inl ⟨rfl, _, .inl (.inl hc)⟩, _, rfl, c, _, _, rfl, rfl, hc, ?_, ?_⟩
      · rw [List.length_map, List.length_take]
        exact small1000 (by omega)
      · refine ⟨_, rfl, _, rfl, _, _, rfl, rfl, _, rfl, _, _, rfl, rfl, ⟨by omega, by omega⟩, ?_⟩
        refine ⟨some (V.int (0 + (i : Int))), some (V.int x), ?_, same_mut sm nc, ?_⟩
        · show [some (V.int ((k * (2 * (h : Int) + 1) + x - ((k * (2 * (h : Int) + 1) + x + (h : Int)) % (2 * (h : Int) + 1) - (h : Int))) / (2 * (h : Int) + 1))), _, _, _, _, _, some (V.int ((k * (2 * (h : Int) + 1) + x + (h : Int)) % (2 * (h : Int) + 1) - (h : Int)))] = _
          rw [d1, d2]
        · rw [upd_same, List.take_add_one, hr]
          show some (HO.lst (_ ++ [V.int ((k * (2 * (h : Int) + 1) + x + (h : Int)) % (2 * (h : Int) + 1) - (h : Int))])) = _
          rw [d1, List.map_append]
          rfl
    · rintro σ H2 ⟨y5, y6, rfl, sm, hc⟩
      rw [← List.length_reverse, List.take_length] at hc
      refine ⟨_, rfl, c, _, rfl, .inl (.inl hc), fun r nr => ?_⟩
      refine ⟨r, _, rfl, .inl ⟨.inl (.inl upd_same), fun l nl => ?_⟩⟩
      refine q l _ ((sm.trans (same_upd nr)).trans (same_upd nl)) ?_
      rw [upd_same, ← List.map_reverse, List.reverse_reverse]
end

set_option Elab.async false
set_option linter.all false
set_option maxRecDepth 100000
set_option maxHeartbeats 2000000
/-- pairs of a key and a number in the heap -/
def KpAt (H : Hp) (v : V) (e : Int × Int) : Prop := ∃ t, v = .ref t ∧ H t = some (.tup [.int e.1, .int e.2])
inductive Kps (H : Hp) : List V → List (Int × Int) → Prop
  | nil : Kps H [] []
  | cons {v : V} {e : Int × Int} {vs : List V} {es : List (Int × Int)} : KpAt H v e → Kps H vs es → Kps H (v :: vs) (e :: es)
theorem Kps.len {H : Hp} {vs : List V} {es : List (Int × Int)} (h : Kps H vs es) : vs.length = es.length := by
  induction h with
  | nil => rfl
  | cons _ _ ih => rw [List.length_cons, List.length_cons, ih]
theorem KpAt.mono {H H' : Hp} {v : V} {e : Int × Int} (s : Same H H') (h : KpAt H v e) : KpAt H' v e := by
  obtain ⟨t, rfl, h1⟩ := h
  exact ⟨t, rfl, s _ _ h1⟩
theorem Kps.mono {H H' : Hp} {vs : List V} {es : List (Int × Int)} (s : Same H H') (h : Kps H vs es) : Kps H' vs es := by
  induction h with
  | nil => exact .nil
  | cons h1 _ ih => exact .cons (h1.mono s) ih
theorem Kps.app {H : Hp} {vs ws : List V} {es fs : List (Int × Int)} (h : Kps H vs es) (g : Kps H ws fs) : Kps H (vs ++ ws) (es ++ fs) := by
  induction h with
  | nil => exact g
  | cons h1 _ ih => exact .cons h1 ih
theorem Kps.get {H : Hp} {vs : List V} {es : List (Int × Int)} (h : Kps H vs es) : ∀ {i : Nat} {v : V}, vs[i]? = some v → ∃ e, es[i]? = some e ∧ KpAt H v e := by
  induction h with
  | nil => intro i v h; simp at h
  | cons h1 _ ih =>
    intro i v hv
    cases i with
    | zero =>
      cases hv
      exact ⟨_, rfl, h1⟩
    | succ i => exact ih (i := i) hv
theorem KpAt.updL {H : Hp} {D : Addr} {l l' : List V} {v : V} {e : Int × Int} (hD : H D = some (.lst l)) (h : KpAt H v e) : KpAt (upd H D (.lst l')) v e := by
  obtain ⟨t, rfl, h1⟩ := h
  exact ⟨t, rfl, by rw [upd_ne (ne_lst h1 hD)]; exact h1⟩
theorem Kps.updL {H : Hp} {D : Addr} {l l' : List V} {vs : List V} {es : List (Int × Int)} (hD : H D = some (.lst l)) (h : Kps H vs es) : Kps (upd H D (.lst l')) vs es := by
  induction h with
  | nil => exact .nil
  | cons h1 _ ih => exact .cons (h1.updL hD) ih
/-- a dict of sums, its keys places as numbers -/
structure KSums (b : Int) (G : Pl → Prop) (kvs : List (Key × V)) (ks : List Pl) (f : Pl → Int) : Prop where
  keys : kvs.map (·.1) = ks.map fun k => (Sum.inl (keyP b k) : Key)
  val : ∀ k : Pl, G k → valV kvs (Sum.inl (keyP b k)) = if k ∈ ks then some (V.int (f k)) else none
  out : ∀ k, k ∉ ks → f k = 0
  gd : ∀ k ∈ ks, G k
  nod : ks.Nodup
theorem KSums.nil {b : Int} {G : Pl → Prop} : KSums b G [] [] (fun _ => 0) := ⟨rfl, fun k _ => rfl, fun _ _ => rfl, fun k h => (by cases h), .nil⟩
theorem KSums.len {b : Int} {G : Pl → Prop} {kvs : List (Key × V)} {ks : List Pl} {f : Pl → Int} (h : KSums b G kvs ks f) : kvs.length = ks.length := by
  have := congrArg List.length h.keys
  rwa [List.length_map, List.length_map] at this
theorem KSums.put {b : Int} {G : Pl → Prop} (inj : ∀ k l, G k → G l → keyP b k = keyP b l → k = l) {kvs : List (Key × V)} {ks : List Pl} {f : Pl → Int} (h : KSums b G kvs ks f) (k : Pl) (hk : G k) (n : Int) :
    KSums b G (putK kvs (Sum.inl (keyP b k)) (.int (f k + n))) (if k ∈ ks then ks else ks ++ [k]) (fun q => f q + if k = q then n else 0) := by
  have hv := h.val k hk
  refine ⟨?_, fun q hg => ?_, fun q hq => ?_, ?_, ?_⟩
  · by_cases m : k ∈ ks
    · rw [if_pos m] at hv ⊢
      rw [putK_keys (by rw [hv]; rfl), h.keys]
    · rw [if_neg m] at hv ⊢
      rw [putK_new _ hv, List.map_append, List.map_append, h.keys]
      rfl
  · rw [valV_put, h.val q hg]
    by_cases e : q = k
    · subst e
      rw [if_pos rfl, if_pos rfl, if_pos]
      by_cases m : q ∈ ks
      · rw [if_pos m]
        exact m
      · rw [if_neg m]
        exact List.mem_append_right _ List.mem_cons_self
    · have ne1 : ¬ ((Sum.inl (keyP b q) : Key) = Sum.inl (keyP b k)) := fun z => e (inj q k hg hk (Sum.inl.inj z))
      have ne2 : ¬ (k = q) := fun z => e z.symm
      rw [if_neg ne1, if_neg ne2]
      have mm : (q ∈ if k ∈ ks then ks else ks ++ [k]) ↔ q ∈ ks := by
        by_cases m : k ∈ ks
        · rw [if_pos m]
        · rw [if_neg m, List.mem_append, List.mem_singleton]
          exact ⟨fun z => z.elim id fun z => absurd z e, .inl⟩
      by_cases m : q ∈ ks
      · rw [if_pos m, if_pos (mm.mpr m), Int.add_zero]
      · rw [if_neg m, if_neg (fun z => m (mm.mp z))]
  · have hq2 : q ∉ ks ∧ k ≠ q := by
      by_cases m : k ∈ ks
      · rw [if_pos m] at hq
        exact ⟨hq, fun z => hq (z ▸ m)⟩
      · rw [if_neg m] at hq
        exact ⟨fun z => hq (List.mem_append_left _ z), fun z => hq (List.mem_append_right _ (z ▸ List.mem_cons_self))⟩
    show f q + (if k = q then n else 0) = 0
    rw [if_neg hq2.2, h.out q hq2.1]
    rfl
  · intro q hq
    by_cases m : k ∈ ks
    · rw [if_pos m] at hq
      exact h.gd q hq
    · rw [if_neg m] at hq
      rcases List.mem_append.mp hq with z | z
      · exact h.gd q z
      · rw [List.mem_singleton.mp z]
        exact hk
  · by_cases m : k ∈ ks
    · rw [if_pos m]
      exact h.nod
    · rw [if_neg m]
      exact List.nodup_append.mpr ⟨h.nod, List.nodup_cons.mpr ⟨fun z => (by cases z), .nil⟩, fun x hx y hy z => m (by rw [← List.mem_singleton.mp hy, ← z]; exact hx)⟩
theorem KSums.getD {b : Int} {G : Pl → Prop} {kvs : List (Key × V)} {ks : List Pl} {f : Pl → Int} (h : KSums b G kvs ks f) (k : Pl) (hk : G k) : (valV kvs (Sum.inl (keyP b k))).getD (.int 0) = .int (f k) := by
  rw [h.val k hk]
  by_cases m : k ∈ ks
  · rw [if_pos m]
    rfl
  · rw [if_neg m, h.out k m]
    rfl
theorem perm_map {f : Pl → Int} {ys zs : List Int} (h : ys.Perm zs) : ∀ ks : List Pl, zs = ks.map f → ∃ out : List Pl, ys = out.map f ∧ out.Perm ks := by
  induction h with
  | nil =>
    intro ks e
    cases ks with
    | nil => exact ⟨[], rfl, .nil⟩
    | cons k r => cases e
  | cons x _ ih =>
    intro ks e
    cases ks with
    | nil => cases e
    | cons k r =>
      obtain ⟨e1, e2⟩ := List.cons.inj e
      obtain ⟨out, o1, o2⟩ := ih r e2
      exact ⟨k :: out, by rw [List.map_cons, ← e1, ← o1], .cons k o2⟩
  | swap x y l =>
    intro ks e
    match ks, e with
    | [], e => cases e
    | [_], e => cases e
    | k :: k2 :: r, e =>
      obtain ⟨e1, e2⟩ := List.cons.inj e
      obtain ⟨e3, e4⟩ := List.cons.inj e2
      exact ⟨k2 :: k :: r, by rw [List.map_cons, List.map_cons, ← e1, ← e3, ← e4], .swap _ _ _⟩
  | trans _ _ ih1 ih2 =>
    intro ks e
    obtain ⟨o2, e2, p2⟩ := ih2 ks e
    obtain ⟨o1, e1, p1⟩ := ih1 o2 e2
    exact ⟨o1, e1, p1.trans p2⟩
section
variable {P : Program} {w : World} {K : PySem.W.Frag} {mg : Str → Option Value} {base : Heap}
def keyL (b : Int) (es : List Ent) : List (Int × Int) := es.map fun e => (keyP b e.1, e.2)
def spKeyed (K : PySem.W.Frag) : Sp := fun vs H Q _ => ∃ (a : Addr) (xs : List V) (es : List Ent) (b : Int), vs = [.ref a, .int b] ∧ SqL K H a xs ∧ Ents H xs es ∧ es.length ≤ 1000 ∧ (-(2 ^ 64) < b ∧ b < 2 ^ 64) ∧ ∀ p ws H', Same H H' → H p = none → H' p = some (.lst ws) → Kps H' ws (keyL b es) → Q (.ref p) H'
theorem c_keyed {f : Addr} {fd : FuncData} (D : C8.Def K mg "keyed" s_keyed f fd) (b : Binds K fd ["row", "base"] []) (T : Bi mg) (c_key_of : C8.Cal P w K mg base 1 "key_of" (spKO K) []) : C8.Cal P w K mg base 2 "keyed" (spKeyed K) [] := by
  refine C8.cal0 D b .nil sc_keyed (fun vs H Q E h => ?_) (fun cdv A outer s H vs Q E hr h => ?_)
  · obtain ⟨a, xs, es, b, rfl, _⟩ := h
    rfl
  · obtain ⟨a, xs, es, b, rfl, hS, hE, hz, hb, q⟩ := h
    refine ⟨_, (pss_one (ps_ret (pe_lc (own := [("place", 2), ("number", 3)]) (g := (gTup K 2 (gCons (gName 2) (gCons (gName 3) gNil)))) (tt := tYes) rfl sc_keyed.nd (pi_list (pv 0)) (blkOk_by (N := ["row", "base", "place", "number"]) (sc := C8.fnScope s_keyed) (by decide +kernel)) (fun _ _ _ _ _ => (pg_tup rfl (pgs_cons (pg_name (i := 2) sc_keyed.nd rfl (Or.inl rfl)) (pgs_cons (pg_name (i := 3) sc_keyed.nd rfl (Or.inl rfl)) pgs_nil)))) (fun _ _ _ _ _ => pts_nil) (fun _ _ _ _ _ => (pe_tup (pa_cons (C8.pe_c c_key_of hr (by decide) (by rfl) (pa_cons (pv 2) (pa_cons (pv 1) pa_nil))) (pa_cons (pv 3) pa_nil))))))), ?_⟩
    have hx := hE.len
    refine ⟨_, rfl, a, rfl, ⟨_, hS⟩, fun p np => ?_⟩
    refine lc_list (K := K) (xs := xs) (fun i H2 => Same H H2 ∧ ∃ ws, H2 p = some (.lst ws) ∧ Kps H2 ws (keyL b (es.take i))) ?_ ?_ ?_ ?_
    · exact ⟨same_upd np, [], upd_same, .nil⟩
    · rintro i H2 _ ⟨sm, _⟩
      exact sm.seq hS
    · rintro i x H2 hxi ⟨sm, ws, hp, hW⟩
      obtain ⟨e, he, t, pe, rfl, ht, hpe⟩ := (hE.mono sm).get hxi
      obtain ⟨hi, hee⟩ := List.getElem?_eq_some_iff.mp he
      refine ⟨t, _, rfl, .inl (.inl ht), rfl, _, _, rfl, _, _, rfl, rfl, rfl, tYes_of ?_⟩
      refine ⟨_, rfl, _, rfl, pe, e.1, b, rfl, .inl (.inl hpe), hb, ?_⟩
      refine ⟨_, rfl, (by show 2 ≤ sizeLine; decide), fun t4 nt4 => ?_⟩
      have sm4 : Same H2 (upd H2 t4 (.tup [.int (keyP b e.1), .int e.2])) := same_upd nt4
      have hv : KpAt (upd H2 t4 (.tup [.int (keyP b e.1), .int e.2])) (.ref t4) (keyP b e.1, e.2) := ⟨t4, rfl, upd_same⟩
      have hD := sm4 _ _ hp
      have hwl := hW.len
      refine ⟨ws, hD, ?_, same_mut (sm.trans sm4) np, ws ++ [.ref t4], upd_same, ?_⟩
      · unfold keyL at hwl
        rw [List.length_map, List.length_take] at hwl
        exact small100k (by omega)
      · unfold keyL
        rw [take_snoc he, List.map_append]
        exact ((hW.mono sm4).app (.cons hv .nil)).updL hD
    · rintro H2 ⟨sm, ws, hp, hW⟩
      rw [hx, List.take_length] at hW
      exact q p ws H2 sm np hp hW
def Gd (h n : Nat) (k : Pl) : Prop := k.length = n ∧ Within h k
def spUnk : Sp := fun vs H Q _ => ∃ (d : Addr) (h n : Nat) (kvs : List (Key × V)) (ks : List Pl) (es : List Ent), vs = [.ref d, .int (2 * (h : Int) + 1), .int (n : Int)] ∧ H d = some (.dK kvs) ∧ KSums (2 * (h : Int) + 1) (Gd h n) kvs ks (numAt es) ∧ ks.length ≤ 10000 ∧ n ≤ 1000 ∧ h ≤ 100000000 ∧ wantRow H es Q
theorem c_unkeyed {f : Addr} {fd : FuncData} (D : C8.Def K mg "unkeyed" s_unkeyed f fd) (b : Binds K fd ["numbers", "base", "length"] []) (T : Bi mg) (c_place_of : C8.Cal P w K mg base 1 "place_of" spPO []) : C8.Cal P w K mg base 2 "unkeyed" spUnk [] := by
  refine C8.cal0 D b .nil sc_unkeyed (fun vs H Q E h => ?_) (fun cdv A outer s H vs Q E hr h => ?_)
  · obtain ⟨d, h, n, kvs, ks, es, rfl, _⟩ := h
    rfl
  · obtain ⟨d, h, n, kvs, ks, es, rfl, hd, hs, hkl, hn, hh, q⟩ := h
    refine ⟨_, (pss_one (ps_ret (pe_lc (own := [("key", 3)]) (g := (gName 3)) rfl sc_unkeyed.nd (pi_list (pe_callB (OW.cr_sortedDI rfl) (by rfl) T.n_sorted OT.b_sorted (pa_cons (pv 0) pa_nil))) (blkOk_by (N := ["numbers", "base", "length", "key"]) (sc := C8.fnScope s_unkeyed) (by decide +kernel)) (fun _ _ _ _ _ => (pg_name (i := 3) sc_unkeyed.nd rfl (Or.inl rfl))) (fun _ _ _ _ _ => (pts_one (pt_cmpR op_ne (pe_dget (hu_of hr) (pv 0) (pv 3) (fun _ _ => rfl)) pe_int (nomark _)))) (fun _ _ _ _ _ => (pe_tup (pa_cons (C8.pe_c c_place_of hr (by decide) (by rfl) (pa_cons (pv 3) (pa_cons (pv 1) (pa_cons (pv 2) pa_nil)))) (pa_cons (pe_dget (hu_of hr) (pv 0) (pv 3) (fun _ _ => rfl)) pa_nil))))))), ?_⟩
    refine ⟨_, rfl, d, kvs, ks.map (keyP (2 * (h : Int) + 1)), rfl, .inl hd, ?_, fun ys p perm pw np => ?_⟩
    · rw [hs.keys, List.map_map]
      rfl
    obtain ⟨out, rfl, perm2⟩ := perm_map perm ks rfl
    have hgd : ∀ k ∈ out, Gd h n k := fun k hk => hs.gd k (perm2.mem_iff.mp hk)
    have pw2 : out.Pairwise fun a b => HT.lexLt b a = false := by
      refine List.Pairwise.imp_of_mem (fun {a b} ha hb hab => ?_) (List.pairwise_map.mp pw)
      exact keyP_le rfl ((hgd a ha).1.trans (hgd b hb).1.symm) (hgd a ha).2 (hgd b hb).2 hab
    refine ⟨p, rfl, ⟨_, .inl (.inl upd_same)⟩, fun D nD => ?_⟩
    have hpD : p ≠ D := ne_of_none upd_same nD
    obtain ⟨hDn, _⟩ := none_of_upd nD
    have hlo : out.length = ks.length := perm2.length_eq
    refine lc_list (K := K) (a := p) (xs := (out.map (keyP (2 * (h : Int) + 1))).map V.int) (fun i H2 => Same H H2 ∧ H2 p = some (.lst ((out.map (keyP (2 * (h : Int) + 1))).map V.int)) ∧ ∃ ws, H2 D = some (.lst ws) ∧ Ents H2 ws (mkR (numAt es) (out.take i))) ?_ ?_ ?_ ?_
    · refine ⟨(same_upd np).trans (same_upd nD), ?_, [], upd_same, .nil⟩
      rw [upd_ne hpD, upd_same]
    · rintro i H2 _ ⟨_, hp, _⟩
      exact .inl (.inl hp)
    · rintro i x H2 hx ⟨sm, hp, ws, hD, hE⟩
      rw [List.map_map] at hx
      obtain ⟨hi, rfl⟩ := getm hx
      have hm := List.getElem_mem hi
      have hg := hgd _ hm
      have hv := hs.val _ hg
      rw [if_pos (perm2.mem_iff.mp hm)] at hv
      have hd2 := sm _ _ hd
      have hget : DGet H2 d (.int (keyP (2 * (h : Int) + 1) out[i])) (some (.int (numAt es out[i]))) := by
        rw [← hv]
        exact DGet.k (k := Sum.inl (keyP (2 * (h : Int) + 1) out[i])) hd2
      refine ⟨rfl, _, rfl, _, rfl, d, _, rfl, hget, ?_⟩
      refine ⟨rfl, _, rfl, ?_⟩
      have htk : out.take (i + 1) = out.take i ++ [out[i]] := by
        rw [List.take_add_one, List.getElem?_eq_getElem hi]
        rfl
      rw [htk, mkR_snoc]
      refine iteND (fun hn' => ?_) (fun h0 => ?_)
      · have hn0 : numAt es out[i] ≠ 0 := fun z => hn' (by rw [z])
        rw [if_neg hn0]
        refine ⟨_, rfl, _, rfl, _, rfl, out[i], h, ?_, hg.2, by rw [hg.1]; exact hn, hh, fun q2 H3 sm3 hq2 => ?_⟩
        · rw [hg.1]
          rfl
        have hd3 := sm3 _ _ hd2
        have hget3 : DGet H3 d (.int (keyP (2 * (h : Int) + 1) out[i])) (some (.int (numAt es out[i]))) := by
          rw [← hv]
          exact DGet.k (k := Sum.inl (keyP (2 * (h : Int) + 1) out[i])) hd3
        refine ⟨_, rfl, _, rfl, d, _, rfl, hget3, (by show 2 ≤ sizeLine; decide), fun t nt => ?_⟩
        have smt : Same H3 (upd H3 t (.tup [.ref q2, .int (numAt es out[i])])) := same_upd nt
        have smA := sm3.trans smt
        have hD3 := smA _ _ hD
        refine ⟨ws, hD3, ?_, same_mut (sm.trans smA) hDn, ?_, ws ++ [.ref t], upd_same, ?_⟩
        · have h1 := hE.len
          have h2 := mkR_len (numAt es) (out.take i)
          rw [List.length_take] at h2
          exact small100k (by omega)
        · rw [upd_ne hpD]
          exact smA _ _ hp
        · refine ((hE.mono smA).updL hD3).app (.cons (EntAt.updL hD3 ⟨t, _, rfl, upd_same, ?_⟩) .nil)
          exact smt _ _ hq2
      · have h0' : numAt es out[i] = 0 := V.int.inj h0
        rw [if_pos h0', List.append_nil]
        exact ⟨sm, hp, ws, hD, hE⟩
    · rintro H2 ⟨sm, hp, ws, hD, hE⟩
      rw [List.length_map, List.length_map, List.take_length] at hE
      exact q _ D ws H2 (row_sorted perm2 pw2 hs.nod hs.out) sm hDn hD hE
end

set_option Elab.async false
set_option linter.all false
set_option maxRecDepth 100000
set_option maxHeartbeats 2000000
/-! products of rows: the first entry, no zero divisors, the box; the one quotient -/
theorem plusP_com : ∀ k l : Pl, plusP k l = plusP l k
  | [], [] => rfl
  | [], _ :: _ => rfl
  | _ :: _, [] => rfl
  | x :: k, y :: l => by
    show (x + y) :: plusP k l = (y + x) :: plusP l k
    rw [plusP_com k l, Int.add_comm]
theorem timesL_app2 (es a b : List Ent) (q : Pl) : numAt (timesL es (a ++ b)) q = numAt (timesL es a) q + numAt (timesL es b) q := by
  induction es with
  | nil => rfl
  | cons e r ih =>
    show numAt (rowT e (a ++ b) ++ timesL r (a ++ b)) q = numAt (rowT e a ++ timesL r a) q + numAt (rowT e b ++ timesL r b) q
    rw [numAt_app, numAt_app, numAt_app, ih]
    unfold rowT
    rw [List.map_append, numAt_app]
    omega
theorem timesL_neg2 (es a : List Ent) (q : Pl) : numAt (timesL es (negs a)) q = -numAt (timesL es a) q := by
  have h : ∀ e : Ent, rowT e (negs a) = negs (rowT e a) := fun e => by
    unfold rowT negs
    rw [List.map_map, List.map_map]
    refine List.map_congr_left fun x _ => ?_
    show (plusP e.1 x.1, e.2 * -x.2) = (plusP e.1 x.1, -(e.2 * x.2))
    rw [Int.mul_neg]
  induction es with
  | nil => rfl
  | cons e r ih =>
    show numAt (rowT e (negs a) ++ timesL r (negs a)) q = -numAt (rowT e a ++ timesL r a) q
    rw [numAt_app, numAt_app, ih, h, numAt_negs]
    omega
theorem timesL_eq2 (es : List Ent) {a b : List Ent} (h : ∀ q, numAt a q = numAt b q) (q : Pl) : numAt (timesL es a) q = numAt (timesL es b) q := numAt_prodL_eq plusP (fun _ => rfl) h q
theorem timesL_eq1 {a b : List Ent} (es : List Ent) (h : ∀ q, numAt a q = numAt b q) (q : Pl) : numAt (timesL a es) q = numAt (timesL b es) q := numAt_prodL_eq plusP h (fun _ => rfl) q
/-- all places have n numbers -/
def DimN (n : Nat) (es : List Ent) : Prop := ∀ e ∈ es, e.1.length = n
theorem DimN.app {n : Nat} {a b : List Ent} (h : DimN n a) (k : DimN n b) : DimN n (a ++ b) := fun e he => (List.mem_append.mp he).elim (h e) (k e)
theorem DimN.negs {n : Nat} {a : List Ent} (h : DimN n a) : DimN n (negs a) := fun e he => by
  obtain ⟨x, hx, rfl⟩ := List.mem_map.mp he
  exact h x hx
theorem DimN.times {n : Nat} {a b : List Ent} (h : DimN n a) (k : DimN n b) : DimN n (timesL a b) := fun e he => by
  obtain ⟨x, hx, g, hg, rfl⟩ := timesL_mem he
  show (plusP x.1 g.1).length = n
  rw [plusP_len (by rw [h x hx, k g hg]; exact Nat.le_refl _), h x hx]
theorem DimN.of {n : Nat} {r es : List Ent} (h : RowIs r es) (k : DimN n es) : DimN n r := fun e he => by
  obtain ⟨x, hx, e1⟩ := h.mem he
  rw [← e1]
  exact k x hx
theorem DimN.num {n : Nat} {es : List Ent} (h : DimN n es) {q : Pl} (hq : q.length ≠ n) : numAt es q = 0 := numAt_out fun e he z => hq (by rw [← z]; exact h e he)
/-- one entry put into a row -/
def addE (e : Ent) : List Ent → List Ent
  | [] => if e.2 = 0 then [] else [e]
  | f :: r => if HT.lexLt e.1 f.1 = true then (if e.2 = 0 then f :: r else e :: f :: r) else if e.1 = f.1 then (if e.2 + f.2 = 0 then r else (f.1, e.2 + f.2) :: r) else f :: addE e r
theorem addE_num (e : Ent) (q : Pl) : ∀ r : List Ent, numAt (addE e r) q = (if e.1 = q then e.2 else 0) + numAt r q
  | [] => by
    unfold addE
    by_cases h : e.2 = 0
    · rw [if_pos h, h]
      show 0 = (if e.1 = q then (0 : Int) else 0) + 0
      rw [ite_self]
      rfl
    · rw [if_neg h]
      rfl
  | f :: r => by
    have ih := addE_num e q r
    unfold addE
    by_cases c : HT.lexLt e.1 f.1 = true
    · rw [if_pos c]
      by_cases h : e.2 = 0
      · rw [if_pos h, h, ite_self]
        omega
      · rw [if_neg h]
        rfl
    · rw [if_neg c]
      by_cases d : e.1 = f.1
      · rw [if_pos d]
        by_cases h : e.2 + f.2 = 0
        · rw [if_pos h]
          show _ = (if e.1 = q then e.2 else 0) + ((if f.1 = q then f.2 else 0) + numAt r q)
          rw [d]
          by_cases k : f.1 = q
          · rw [if_pos k, if_pos k]
            omega
          · rw [if_neg k, if_neg k]
            omega
        · rw [if_neg h]
          show (if f.1 = q then e.2 + f.2 else 0) + numAt r q = (if e.1 = q then e.2 else 0) + ((if f.1 = q then f.2 else 0) + numAt r q)
          rw [d]
          by_cases k : f.1 = q
          · rw [if_pos k, if_pos k, if_pos k]
            omega
          · rw [if_neg k, if_neg k, if_neg k]
            omega
      · rw [if_neg d]
        show (if f.1 = q then f.2 else 0) + numAt (addE e r) q = _ + ((if f.1 = q then f.2 else 0) + numAt r q)
        rw [ih]
        omega
theorem addE_mem {e x : Ent} : ∀ {r : List Ent}, x ∈ addE e r → x.1 = e.1 ∨ ∃ y ∈ r, y.1 = x.1
  | [], h => by
    unfold addE at h
    by_cases c : e.2 = 0
    · rw [if_pos c] at h
      cases h
    · rw [if_neg c] at h
      exact .inl (by rw [List.mem_singleton.mp h])
  | f :: r, h => by
    unfold addE at h
    by_cases c : HT.lexLt e.1 f.1 = true
    · rw [if_pos c] at h
      by_cases k : e.2 = 0
      · rw [if_pos k] at h
        exact .inr ⟨x, h, rfl⟩
      · rw [if_neg k] at h
        rcases List.mem_cons.mp h with rfl | h
        · exact .inl rfl
        · exact .inr ⟨x, h, rfl⟩
    · rw [if_neg c] at h
      by_cases d : e.1 = f.1
      · rw [if_pos d] at h
        by_cases k : e.2 + f.2 = 0
        · rw [if_pos k] at h
          exact .inr ⟨x, List.mem_cons_of_mem _ h, rfl⟩
        · rw [if_neg k] at h
          rcases List.mem_cons.mp h with rfl | h
          · exact .inl d.symm
          · exact .inr ⟨x, List.mem_cons_of_mem _ h, rfl⟩
      · rw [if_neg d] at h
        rcases List.mem_cons.mp h with rfl | h
        · exact .inr ⟨x, List.mem_cons_self, rfl⟩
        · rcases addE_mem h with h | ⟨y, hy, h⟩
          · exact .inl h
          · exact .inr ⟨y, List.mem_cons_of_mem _ hy, h⟩
theorem addE_valid (e : Ent) : ∀ {r : List Ent}, Valid r → Valid (addE e r)
  | [], _ => by
    unfold addE
    by_cases c : e.2 = 0
    · rw [if_pos c]
      exact ⟨.nil, fun x h => by cases h⟩
    · rw [if_neg c]
      exact ⟨List.pairwise_singleton _ _, fun x h => by rw [List.mem_singleton.mp h]; exact c⟩
  | f :: r, v => by
    obtain ⟨p1, p2⟩ := List.pairwise_cons.mp v.asc
    unfold addE
    by_cases c : HT.lexLt e.1 f.1 = true
    · rw [if_pos c]
      by_cases k : e.2 = 0
      · rw [if_pos k]
        exact v
      · rw [if_neg k]
        refine ⟨List.pairwise_cons.mpr ⟨fun x hx => ?_, v.asc⟩, fun x hx => ?_⟩
        · rcases List.mem_cons.mp hx with rfl | hx
          · exact c
          · exact lt_trans c (p1 x hx)
        · rcases List.mem_cons.mp hx with rfl | hx
          · exact k
          · exact v.nz x hx
    · rw [if_neg c]
      by_cases d : e.1 = f.1
      · rw [if_pos d]
        by_cases k : e.2 + f.2 = 0
        · rw [if_pos k]
          exact v.tail
        · rw [if_neg k]
          refine ⟨List.pairwise_cons.mpr ⟨p1, p2⟩, fun x hx => ?_⟩
          rcases List.mem_cons.mp hx with rfl | hx
          · exact k
          · exact v.nz x (List.mem_cons_of_mem _ hx)
      · rw [if_neg d]
        have ih := addE_valid e v.tail
        refine ⟨List.pairwise_cons.mpr ⟨fun x hx => ?_, ih.asc⟩, fun x hx => ?_⟩
        · rcases addE_mem hx with h | ⟨y, hy, h⟩
          · rw [h]
            cases z : HT.lexLt f.1 e.1 with
            | true => rfl
            | false => exact absurd (lt_tot (by cases w : HT.lexLt e.1 f.1 with | true => exact absurd w c | false => rfl) z) d
          · rw [← h]
            exact p1 y hy
        · rcases List.mem_cons.mp hx with rfl | hx
          · exact v.nz x List.mem_cons_self
          · exact ih.nz x hx
/-- the row of any list of entries -/
def rowOf (es : List Ent) : List Ent := es.foldr addE []
theorem rowOf_is : ∀ es : List Ent, RowIs (rowOf es) es
  | [] => ⟨⟨.nil, fun x h => by cases h⟩, fun _ => rfl⟩
  | e :: r => by
    have ih := rowOf_is r
    refine ⟨addE_valid e ih.v, fun q => ?_⟩
    show numAt (addE e (rowOf r)) q = (if e.1 = q then e.2 else 0) + numAt r q
    rw [addE_num, ih.s]
/-- the first entry of a product -/
theorem lead_at {n : Nat} {f g : Ent} {F G : List Ent} (vF : Valid (f :: F)) (vG : Valid (g :: G)) (dF : DimN n (f :: F)) (dG : DimN n (g :: G)) :
    numAt (timesL (f :: F) (g :: G)) (plusP f.1 g.1) = f.2 * g.2 ∧ ∀ q, HT.lexLt q (plusP f.1 g.1) = true → numAt (timesL (f :: F) (g :: G)) q = 0 := by
  have hf := dF f List.mem_cons_self
  have hg := dG g List.mem_cons_self
  have big : ∀ x ∈ rowT f G ++ timesL F (g :: G), HT.lexLt (plusP f.1 g.1) x.1 = true := fun x hx => by
    rcases List.mem_append.mp hx with hx | hx
    · obtain ⟨y, hy, rfl⟩ := List.mem_map.mp hx
      have h1 := (List.pairwise_cons.mp vG.asc).1 y hy
      have h2 := dG y (List.mem_cons_of_mem _ hy)
      show HT.lexLt (plusP f.1 g.1) (plusP f.1 y.1) = true
      rw [plusP_com f.1 g.1, plusP_com f.1 y.1, plusP_lt (by omega) (by omega)]
      exact h1
    · obtain ⟨e, he, y, hy, rfl⟩ := timesL_mem hx
      have h1 := (List.pairwise_cons.mp vF.asc).1 e he
      have h2 := dG y hy
      have h3 := dF e (List.mem_cons_of_mem _ he)
      show HT.lexLt (plusP f.1 g.1) (plusP e.1 y.1) = true
      have a1 : HT.lexLt (plusP f.1 y.1) (plusP e.1 y.1) = true := by
        rw [plusP_lt (by omega) (by omega)]
        exact h1
      rcases List.mem_cons.mp hy with rfl | hy
      · exact a1
      · refine lt_trans ?_ a1
        rw [plusP_com f.1 g.1, plusP_com f.1 y.1, plusP_lt (by omega) (by omega)]
        exact (List.pairwise_cons.mp vG.asc).1 y hy
  have e0 : timesL (f :: F) (g :: G) = (plusP f.1 g.1, f.2 * g.2) :: (rowT f G ++ timesL F (g :: G)) := rfl
  refine ⟨?_, fun q hq => ?_⟩
  · rw [e0]
    show (if plusP f.1 g.1 = plusP f.1 g.1 then f.2 * g.2 else 0) + numAt (rowT f G ++ timesL F (g :: G)) (plusP f.1 g.1) = _
    rw [if_pos rfl, numAt_out fun x hx z => lt_ne (big x hx) z.symm]
    omega
  · rw [e0]
    refine numAt_out fun x hx z => ?_
    rcases List.mem_cons.mp hx with rfl | hx
    · exact lt_ne hq z.symm
    · exact lt_ne (lt_trans hq (big x hx)) z.symm
theorem no_zero {n : Nat} {F G : List Ent} (vF : Valid F) (vG : Valid G) (dF : DimN n F) (dG : DimN n G) (hF : F ≠ []) (hG : G ≠ []) : ∃ q, numAt (timesL F G) q ≠ 0 := by
  cases F with
  | nil => exact absurd rfl hF
  | cons f F =>
  cases G with
  | nil => exact absurd rfl hG
  | cons g G =>
  refine ⟨plusP f.1 g.1, ?_⟩
  rw [(lead_at vF vG dF dG).1]
  exact Int.mul_ne_zero (vF.nz f List.mem_cons_self) (vG.nz g List.mem_cons_self)
/-- the one quotient -/
theorem quot_one {n : Nat} {F G H : List Ent} (vF : Valid F) (vG : Valid G) (vH : Valid H) (dF : DimN n F) (dG : DimN n G) (dH : DimN n H) (hF : F ≠ []) (e : ∀ q, numAt (timesL F G) q = numAt (timesL F H) q) : G = H := by
  refine vG.ext vH fun q => ?_
  have rr := rowOf_is (G ++ negs H)
  have dr : DimN n (rowOf (G ++ negs H)) := DimN.of rr (dG.app dH.negs)
  have z : rowOf (G ++ negs H) = [] := by
    apply Classical.byContradiction
    intro c
    obtain ⟨p, hp⟩ := no_zero vF rr.v dF dr hF c
    apply hp
    rw [timesL_eq2 F rr.s, timesL_app2, timesL_neg2, e]
    omega
  have := rr.s q
  rw [z, numAt_app, numAt_negs] at this
  have h0 : numAt ([] : List Ent) q = 0 := rfl
  omega
theorem exists_min (φ : Pl → Int) : ∀ {G : List Ent}, G ≠ [] → ∃ g ∈ G, ∀ x ∈ G, φ g.1 ≤ φ x.1
  | [], h => absurd rfl h
  | [g], _ => ⟨g, List.mem_cons_self, fun x hx => by rw [List.mem_singleton.mp hx]; exact Int.le_refl _⟩
  | g :: y :: r, _ => by
    obtain ⟨m, hm, h⟩ := exists_min φ (G := y :: r) (by intro z; cases z)
    by_cases c : φ g.1 ≤ φ m.1
    · refine ⟨g, List.mem_cons_self, fun x hx => ?_⟩
      rcases List.mem_cons.mp hx with rfl | hx
      · exact Int.le_refl _
      · exact Int.le_trans c (h x hx)
    · refine ⟨m, List.mem_cons_of_mem _ hm, fun x hx => ?_⟩
      rcases List.mem_cons.mp hx with rfl | hx
      · omega
      · exact h x hx
theorem num_mem {es : List Ent} {q : Pl} (h : numAt es q ≠ 0) : ∃ e ∈ es, e.1 = q := by
  apply Classical.byContradiction
  intro z
  exact h (numAt_out fun e he y => z ⟨e, he, y⟩)
def on (φ : Pl → Int) (A : Int) (es : List Ent) : List Ent := es.filter fun e => decide (φ e.1 = A)
theorem on_valid {φ : Pl → Int} {A : Int} {es : List Ent} (h : Valid es) : Valid (on φ A es) := ⟨h.asc.sublist List.filter_sublist, fun e he => h.nz e (List.mem_filter.mp he).1⟩
theorem on_row {φ : Pl → Int} {n : Nat} (add : ∀ p q : Pl, p.length = n → q.length = n → φ (plusP p q) = φ p + φ q) {B : Int} {e : Ent} (he : e.1.length = n) {q : Pl} (hq : φ q = φ e.1 + B) : ∀ {G : List Ent}, DimN n G → numAt (rowT e G) q = numAt (rowT e (on φ B G)) q
  | [], _ => rfl
  | g :: G, dG => by
    have ih := on_row add he hq (G := G) fun x hx => dG x (List.mem_cons_of_mem _ hx)
    have hg := dG g List.mem_cons_self
    by_cases c : φ g.1 = B
    · have : on φ B (g :: G) = g :: on φ B G := List.filter_cons_of_pos (decide_eq_true c)
      rw [this]
      show _ + numAt (rowT e G) q = _ + numAt (rowT e (on φ B G)) q
      rw [ih]
    · have : on φ B (g :: G) = on φ B G := List.filter_cons_of_neg (fun z => c (of_decide_eq_true z))
      rw [this, ← ih]
      show (if plusP e.1 g.1 = q then e.2 * g.2 else 0) + numAt (rowT e G) q = _
      rw [if_neg (fun z => c (by have := add e.1 g.1 he hg; rw [z] at this; omega))]
      omega
theorem on_times {φ : Pl → Int} {n : Nat} (add : ∀ p q : Pl, p.length = n → q.length = n → φ (plusP p q) = φ p + φ q) {A B : Int} {G : List Ent} (dG : DimN n G) (mG : ∀ g ∈ G, B ≤ φ g.1) {q : Pl} (hq : φ q = A + B) : ∀ {F : List Ent}, DimN n F → (∀ f ∈ F, A ≤ φ f.1) → numAt (timesL F G) q = numAt (timesL (on φ A F) (on φ B G)) q
  | [], _, _ => rfl
  | f :: F, dF, mF => by
    have ih := on_times add dG mG hq (F := F) (fun x hx => dF x (List.mem_cons_of_mem _ hx)) fun x hx => mF x (List.mem_cons_of_mem _ hx)
    have hf := dF f List.mem_cons_self
    show numAt (rowT f G ++ timesL F G) q = _
    rw [numAt_app, ih]
    by_cases c : φ f.1 = A
    · have : on φ A (f :: F) = f :: on φ A F := List.filter_cons_of_pos (decide_eq_true c)
      rw [this]
      show _ = numAt (rowT f (on φ B G) ++ timesL (on φ A F) (on φ B G)) q
      rw [numAt_app, on_row add hf (by rw [hq, c]) dG]
    · have : on φ A (f :: F) = on φ A F := List.filter_cons_of_neg (fun z => c (of_decide_eq_true z))
      rw [this]
      have z : numAt (rowT f G) q = 0 := numAt_out fun x hx y => by
        obtain ⟨g, hg, rfl⟩ := List.mem_map.mp hx
        have h1 := add f.1 g.1 hf (dG g hg)
        have h2 : plusP f.1 g.1 = q := y
        rw [h2] at h1
        have h3 := mF f List.mem_cons_self
        have h4 := mG g hg
        omega
      rw [z]
      omega
/-- the least value of an additive function on a product is the sum of the least values -/
theorem edge {φ : Pl → Int} {n : Nat} (add : ∀ p q : Pl, p.length = n → q.length = n → φ (plusP p q) = φ p + φ q) {F G : List Ent} (vF : Valid F) (vG : Valid G) (dF : DimN n F) (dG : DimN n G) {f g : Ent} (hf : f ∈ F) (mF : ∀ x ∈ F, φ f.1 ≤ φ x.1) (hg : g ∈ G) (mG : ∀ x ∈ G, φ g.1 ≤ φ x.1) :
    ∃ q, φ q = φ f.1 + φ g.1 ∧ numAt (timesL F G) q ≠ 0 := by
  have dF' : DimN n (on φ (φ f.1) F) := fun x hx => dF x (List.mem_filter.mp hx).1
  have dG' : DimN n (on φ (φ g.1) G) := fun x hx => dG x (List.mem_filter.mp hx).1
  obtain ⟨q, hq⟩ := no_zero (on_valid (φ := φ) (A := φ f.1) vF) (on_valid (φ := φ) (A := φ g.1) vG) dF' dG' (List.ne_nil_of_mem (List.mem_filter.mpr ⟨hf, decide_eq_true rfl⟩)) (List.ne_nil_of_mem (List.mem_filter.mpr ⟨hg, decide_eq_true rfl⟩))
  obtain ⟨x, hx, e⟩ := num_mem hq
  obtain ⟨a, ha, b, hb, rfl⟩ := timesL_mem hx
  have h1 : φ q = φ f.1 + φ g.1 := by
    rw [← e]
    show φ (plusP a.1 b.1) = _
    rw [add _ _ (dF' a ha) (dG' b hb), of_decide_eq_true (List.mem_filter.mp ha).2, of_decide_eq_true (List.mem_filter.mp hb).2]
  refine ⟨q, h1, ?_⟩
  rw [on_times add dG mG h1 dF mF]
  exact hq
/-- within a box -/
def InB (lo hi t : Pl) : Prop := ∀ (k : Nat) (x y z : Int), t[k]? = some x → lo[k]? = some y → hi[k]? = some z → y ≤ x ∧ x ≤ z
def subP (k l : Pl) : Pl := List.zipWith (fun x y => x - y) k l
theorem subP_len {k l : Pl} (h : k.length = l.length) : (subP k l).length = k.length := by
  unfold subP
  rw [List.length_zipWith]
  omega
theorem subP_get {k l : Pl} {i : Nat} {z : Int} (h : (subP k l)[i]? = some z) : ∃ x y, k[i]? = some x ∧ l[i]? = some y ∧ z = x - y := by
  unfold subP at h
  rw [List.getElem?_zipWith] at h
  cases hk : k[i]? with
  | none =>
    rw [hk] at h
    cases h
  | some x =>
    cases hl : l[i]? with
    | none =>
      rw [hk, hl] at h
      cases h
    | some y =>
      rw [hk, hl] at h
      exact ⟨x, y, rfl, rfl, (Option.some.inj h).symm⟩
theorem plusP_sub : ∀ {p f : Pl}, p.length = f.length → plusP f (subP p f) = p
  | [], [], _ => rfl
  | [], _ :: _, h => by cases h
  | _ :: _, [], h => by cases h
  | x :: p, y :: f, h => by
    show (y + (x - y)) :: plusP f (subP p f) = x :: p
    rw [plusP_sub (Nat.succ.inj h), show y + (x - y) = x by omega]
theorem sub_plusP : ∀ {t f : Pl}, t.length = f.length → subP (plusP f t) f = t
  | [], [], _ => rfl
  | [], _ :: _, h => by cases h
  | _ :: _, [], h => by cases h
  | x :: t, y :: f, h => by
    show (y + x - y) :: subP (plusP f t) f = x :: t
    rw [sub_plusP (Nat.succ.inj h), show y + x - y = x by omega]
theorem coord_add {n k : Nat} (p q : Pl) (hp : p.length = n) (hq : q.length = n) : (plusP p q).getD k 0 = p.getD k 0 + q.getD k 0 := by
  by_cases h : k < n
  · have e : (plusP p q)[k]? = some (p[k] + q[k]) := by
      unfold plusP
      rw [List.getElem?_zipWith, List.getElem?_eq_getElem (by omega), List.getElem?_eq_getElem (by omega)]
    rw [List.getD_eq_getElem?_getD, List.getD_eq_getElem?_getD, List.getD_eq_getElem?_getD, e, List.getElem?_eq_getElem (by omega), List.getElem?_eq_getElem (by omega)]
    rfl
  · have z : ∀ l : Pl, l.length = n → l.getD k 0 = 0 := fun l hl => by
      rw [List.getD_eq_getElem?_getD, List.getElem?_eq_none (by omega)]
      rfl
    rw [z p hp, z q hq, z _ (by rw [plusP_len (by omega), hp])]
    rfl
theorem getD_some {l : Pl} {k : Nat} {x : Int} (h : l[k]? = some x) : l.getD k 0 = x := by
  rw [List.getD_eq_getElem?_getD, h]
  rfl
/-- a quotient lies in the quotient box -/
theorem quot_box {n : Nat} {F R S : List Ent} {rl rh fl fh : Pl} (vF : Valid F) (vS : Valid S) (dF : DimN n F) (dR : DimN n R) (dS : DimN n S) (hF : F ≠ []) (lR : IsLow R rl) (hR : IsTop R rh) (lF : IsLow F fl) (hF2 : IsTop F fh)
    (nr : rl.length = n) (nh : rh.length = n) (nf : fl.length = n) (ng : fh.length = n) (e : ∀ q, numAt R q = numAt (timesL F S) q) : ∀ s ∈ S, InB (subP rl fl) (subP rh fh) s.1 := by
  intro s hs k x y z hx hy hz
  obtain ⟨r1, f1, hr1, hf1, rfl⟩ := subP_get hy
  obtain ⟨r2, f2, hr2, hf2, rfl⟩ := subP_get hz
  have hS : S ≠ [] := List.ne_nil_of_mem hs
  have hk : k < n := by
    have := (List.getElem?_eq_some_iff.mp hr1).1
    omega
  have at1 : ∀ {es : List Ent}, DimN n es → ∀ a ∈ es, ∃ v, a.1[k]? = some v := fun d a ha => ⟨_, List.getElem?_eq_getElem (by rw [d a ha]; exact hk)⟩
  constructor
  · obtain ⟨g, hg, mG⟩ := exists_min (fun p => p.getD k 0) hS
    obtain ⟨⟨f, hf, ef⟩, mf⟩ := lF k f1 hf1
    obtain ⟨q, hq1, hq2⟩ := edge (φ := fun p => p.getD k 0) (n := n) (fun p q hp hq => coord_add p q hp hq) vF vS dF dS hf (fun a ha => by
      obtain ⟨v, hv⟩ := at1 dF a ha
      show f.1.getD k 0 ≤ a.1.getD k 0
      rw [getD_some ef, getD_some hv]
      exact mf a ha v hv) hg mG
    rw [← e] at hq2
    obtain ⟨r, hr, er⟩ := num_mem hq2
    obtain ⟨v, hv⟩ := at1 dR r hr
    have h1 := (lR k r1 hr1).2 r hr v hv
    have h2 := mG s hs
    have hq1' : q.getD k 0 = f.1.getD k 0 + g.1.getD k 0 := hq1
    have h2' : g.1.getD k 0 ≤ s.1.getD k 0 := h2
    rw [← er, getD_some hv, getD_some ef] at hq1'
    rw [getD_some hx] at h2'
    omega
  · obtain ⟨g, hg, mG⟩ := exists_min (fun p => -(p.getD k 0)) hS
    obtain ⟨⟨f, hf, ef⟩, mf⟩ := hF2 k f2 hf2
    obtain ⟨q, hq1, hq2⟩ := edge (φ := fun p => -(p.getD k 0)) (n := n) (fun p q hp hq => by
      show -((plusP p q).getD k 0) = -(p.getD k 0) + -(q.getD k 0)
      rw [coord_add p q hp hq]
      omega) vF vS dF dS hf (fun a ha => by
      obtain ⟨v, hv⟩ := at1 dF a ha
      show -(f.1.getD k 0) ≤ -(a.1.getD k 0)
      rw [getD_some ef, getD_some hv]
      have := mf a ha v hv
      omega) hg mG
    rw [← e] at hq2
    obtain ⟨r, hr, er⟩ := num_mem hq2
    obtain ⟨v, hv⟩ := at1 dR r hr
    have h1 := (hR k r2 hr2).2 r hr v hv
    have h2 := mG s hs
    have hq1' : -(q.getD k 0) = -(f.1.getD k 0) + -(g.1.getD k 0) := hq1
    have h2' : -(g.1.getD k 0) ≤ -(s.1.getD k 0) := h2
    rw [← er, getD_some hv, getD_some ef] at hq1'
    rw [getD_some hx] at h2'
    omega
/-- where division is stuck there is no quotient -/
theorem stuck {n : Nat} {f : Ent} {F R PL S : List Ent} {rl rh fl fh p : Pl} (vF : Valid (f :: F)) (dF : DimN n (f :: F)) (dR : DimN n R) (dP : DimN n PL) (dS : DimN n S) (lR : IsLow R rl) (hR : IsTop R rh) (lF : IsLow (f :: F) fl) (hF2 : IsTop (f :: F) fh)
    (nr : rl.length = n) (nh : rh.length = n) (nf : fl.length = n) (ng : fh.length = n) (bP : ∀ e ∈ PL, InB (subP rl fl) (subP rh fh) e.1) (hp : p.length = n) (h0 : numAt (R ++ negs (timesL (f :: F) PL)) p ≠ 0) (low : ∀ q, HT.lexLt q p = true → numAt (R ++ negs (timesL (f :: F) PL)) q = 0)
    (bad : ¬ f.2 ∣ numAt (R ++ negs (timesL (f :: F) PL)) p ∨ ¬ InB (subP rl fl) (subP rh fh) (subP p f.1)) (e : ∀ q, numAt R q = numAt (timesL (f :: F) S) q) : False := by
  have rS := rowOf_is S
  have eS : ∀ q, numAt R q = numAt (timesL (f :: F) (rowOf S)) q := fun q => by rw [e, timesL_eq2 _ (fun q => (rS.s q).symm)]
  have bS := quot_box vF rS.v dF dR (DimN.of rS dS) (by intro z; cases z) lR hR lF hF2 nr nh nf ng eS
  have rT := rowOf_is (rowOf S ++ negs PL)
  have dT : DimN n (rowOf (rowOf S ++ negs PL)) := DimN.of rT ((DimN.of rS dS).app dP.negs)
  have eT : ∀ q, numAt (R ++ negs (timesL (f :: F) PL)) q = numAt (timesL (f :: F) (rowOf (rowOf S ++ negs PL))) q := fun q => by
    rw [timesL_eq2 _ rT.s, timesL_app2, timesL_neg2, numAt_app, numAt_negs, eS]
  have bT : ∀ t ∈ rowOf (rowOf S ++ negs PL), InB (subP rl fl) (subP rh fh) t.1 := fun t ht => by
    obtain ⟨x, hx, ex⟩ := rT.mem ht
    rw [← ex]
    rcases List.mem_append.mp hx with hx | hx
    · exact bS x hx
    · obtain ⟨y, hy, rfl⟩ := List.mem_map.mp hx
      exact bP y hy
  cases hT : rowOf (rowOf S ++ negs PL) with
  | nil =>
    rw [eT, hT] at h0
    apply h0
    refine numAt_out fun x hx => ?_
    obtain ⟨_, _, g, hg, _⟩ := timesL_mem hx
    cases hg
  | cons t T =>
    rw [hT] at eT bT dT
    have vT : Valid (t :: T) := by rw [← hT]; exact rT.v
    obtain ⟨l1, l2⟩ := lead_at vF vT dF dT
    have hf := dF f List.mem_cons_self
    have ht := dT t List.mem_cons_self
    have hl : (plusP f.1 t.1).length = p.length := by rw [plusP_len (by omega)]; omega
    have ep : plusP f.1 t.1 = p := by
      rcases lex_tri hl with z | z | z
      · have := low _ z
        rw [eT, l1] at this
        exact absurd this (Int.mul_ne_zero (vF.nz f List.mem_cons_self) (vT.nz t List.mem_cons_self))
      · exact z
      · have := l2 p z
        rw [eT] at h0
        exact absurd this h0
    rcases bad with b | b
    · apply b
      rw [eT, ← ep, l1]
      exact ⟨t.2, rfl⟩
    · apply b
      rw [← ep, sub_plusP (by omega)]
      exact bT t List.mem_cons_self

set_option Elab.async false
set_option linter.all false
set_option maxRecDepth 100000
set_option maxHeartbeats 2000000
/-- a weighted sum of the entries -/
def wS (w : Pl → Int) : List Ent → Int
  | [] => 0
  | e :: r => e.2 * w e.1 + wS w r
theorem wS_app (w : Pl → Int) : ∀ a b : List Ent, wS w (a ++ b) = wS w a + wS w b
  | [], b => (Int.zero_add _).symm
  | e :: a, b => by
    show e.2 * w e.1 + wS w (a ++ b) = e.2 * w e.1 + wS w a + wS w b
    rw [wS_app w a b, Int.add_assoc]
theorem wS_congr {w v : Pl → Int} : ∀ {es : List Ent}, (∀ e ∈ es, w e.1 = v e.1) → wS w es = wS v es
  | [], _ => rfl
  | e :: r, h => by
    show e.2 * w e.1 + wS w r = e.2 * v e.1 + wS v r
    rw [h e List.mem_cons_self, wS_congr fun x hx => h x (List.mem_cons_of_mem _ hx)]
theorem wS_mul (w : Pl → Int) (c : Int) : ∀ es : List Ent, c * wS w es = wS (fun p => c * w p) es
  | [] => Int.mul_zero c
  | e :: r => by
    show c * (e.2 * w e.1 + wS w r) = e.2 * (c * w e.1) + wS (fun p => c * w p) r
    rw [Int.mul_add, wS_mul w c r, Int.mul_left_comm]
/-- the product of two sums -/
theorem wS_times {w1 w2 w : Pl → Int} : ∀ {es fs : List Ent}, (∀ e ∈ es, ∀ g ∈ fs, w (plusP e.1 g.1) = w1 e.1 * w2 g.1) → wS w1 es * wS w2 fs = wS w (timesL es fs)
  | [], _, _ => Int.zero_mul _
  | e :: es, fs, h => by
    have row : ∀ gs : List Ent, (∀ g ∈ gs, w (plusP e.1 g.1) = w1 e.1 * w2 g.1) → e.2 * w1 e.1 * wS w2 gs = wS w (rowT e gs) := fun gs => by
      induction gs with
      | nil => intro _; exact Int.mul_zero _
      | cons g gs ih =>
        intro hg
        show e.2 * w1 e.1 * (g.2 * w2 g.1 + wS w2 gs) = e.2 * g.2 * w (plusP e.1 g.1) + wS w (rowT e gs)
        rw [Int.mul_add, ih fun x hx => hg x (List.mem_cons_of_mem _ hx), hg g List.mem_cons_self]
        congr 1
        rw [Int.mul_assoc, Int.mul_assoc, Int.mul_left_comm (w1 e.1)]
    show (e.2 * w1 e.1 + wS w1 es) * wS w2 fs = wS w (rowT e fs ++ timesL es fs)
    rw [Int.add_mul, row fs (h e List.mem_cons_self), wS_times fun x hx => h x (List.mem_cons_of_mem _ hx), wS_app]
theorem sum_one {n : Nat} {c : Int} {k : Nat} (hk : k < n) (g : Nat → Int) : CP.sumTo n (fun i => if i = k then c * g i else 0) = c * g k := by
  induction n with
  | zero => omega
  | succ n ih =>
    show CP.sumTo n _ + (if n = k then c * g n else 0) = _
    by_cases h : n = k
    · subst h
      rw [if_pos rfl, CP.sumTo_zero fun i hi => if_neg (by omega), Int.zero_add]
    · rw [if_neg h, ih (by omega), Int.add_zero]
theorem sumTo_plus {g h : Nat → Int} : ∀ n : Nat, CP.sumTo n (fun i => g i + h i) = CP.sumTo n g + CP.sumTo n h
  | 0 => rfl
  | n + 1 => by
    show CP.sumTo n _ + (g n + h n) = CP.sumTo n g + g n + (CP.sumTo n h + h n)
    rw [sumTo_plus n]
    omega
/-- the numbers at the places of a box, in a row -/
theorem wS_box {ls ss : Pl} {n : Nat} {B : Int} (hl : ls.length = ss.length) (hp : ∀ s ∈ ss, 0 < s) (hn : (n : Int) = boxN2 ss) : ∀ {es : List Ent}, (∀ e ∈ es, InD e.1 ls ss) →
    wS (fun p => B ^ (dgA 0 p ls ss).toNat) es = CP.sumTo n fun i => numAt es (plA (i : Int) ls ss) * B ^ i
  | [], _ => (CP.sumTo_zero fun i _ => Int.zero_mul _).symm
  | e :: r, h => by
    have ih := wS_box (B := B) hl hp hn (es := r) fun x hx => h x (List.mem_cons_of_mem _ hx)
    have he := h e List.mem_cons_self
    have h0 := dg_low he (a := 0) (by decide)
    have h1 := dg_high he (a := 0)
    rw [Int.zero_add, Int.one_mul] at h1
    obtain ⟨k, hk⟩ := Int.eq_ofNat_of_zero_le h0
    show e.2 * B ^ (dgA 0 e.1 ls ss).toNat + wS _ r = _
    rw [ih, hk]
    have e1 : CP.sumTo n (fun i => numAt (e :: r) (plA (i : Int) ls ss) * B ^ i) = CP.sumTo n fun i => (if i = k then e.2 * B ^ i else 0) + numAt r (plA (i : Int) ls ss) * B ^ i := CP.sumTo_congr fun i hi => by
      show ((if e.1 = plA (i : Int) ls ss then e.2 else 0) + numAt r (plA (i : Int) ls ss)) * B ^ i = _
      rw [Int.add_mul]
      congr 1
      by_cases c : i = k
      · subst c
        have e2 := plA_dg he
        rw [hk] at e2
        rw [if_pos rfl, e2, if_pos rfl]
      · rw [if_neg c, if_neg, Int.zero_mul]
        intro z
        have e2 := (plA_in hl hp (i := (i : Int)) (by omega) (by omega)).2
        rw [← z, hk] at e2
        omega
    rw [e1, sumTo_plus, sum_one (by omega)]
    rfl
/-- the row of the product from its numbers in the box -/
theorem crowd_row {ls ss : Pl} {n : Nat} (hl : ls.length = ss.length) (hp : ∀ s ∈ ss, 0 < s) (hn : (n : Int) = boxN2 ss) {es : List Ent} (h : ∀ e ∈ es, InD e.1 ls ss) : RowIs (mkR (numAt es) ((List.range n).map fun (i : Nat) => plA (i : Int) ls ss)) es := by
  have asc : ((List.range n).map fun i : Nat => plA (i : Int) ls ss).Pairwise fun a b => HT.lexLt a b = true := by
    refine List.pairwise_map.mpr ?_
    refine List.pairwise_iff_getElem.mpr fun i j hi hj hij => ?_
    rw [List.length_range] at hi hj
    rw [List.getElem_range, List.getElem_range]
    exact plA_lt hl hp (by omega) (by omega) (by omega)
  refine row_sorted (.refl _) (asc.imp fun {a b} hab => ?_) (asc.imp fun {a b} hab => lt_ne hab) fun q hq => ?_
  · cases c : HT.lexLt b a with
    | false => rfl
    | true =>
      have := lt_trans hab c
      rw [lt_irr] at this
      cases this
  · refine numAt_out fun e he z => hq ?_
    have hi := h e he
    have h0 := dg_low hi (a := 0) (by decide)
    have h1 := dg_high hi (a := 0)
    rw [Int.zero_add, Int.one_mul] at h1
    obtain ⟨k, hk⟩ := Int.eq_ofNat_of_zero_le h0
    refine List.mem_map.mpr ⟨k, List.mem_range.mpr (by omega), ?_⟩
    have e2 := plA_dg hi
    rw [hk] at e2
    rw [e2, z]

set_option Elab.async false
set_option linter.all false
set_option maxRecDepth 100000
set_option maxHeartbeats 2000000
/-- a def that may raise, where it does not -/
theorem quiet {P : Program} {w : World} {K : PySem.W.Frag} {mg : Str → Option Value} {base : Heap} {k : Nat} {f : Addr} {fd : FuncData} {ps : List Str} {sp sp' : Sp} (F : FnOk P w K mg base (L2N.CX P w) k f fd ps sp') (h : ∀ vs H Q E, sp vs H Q E → sp' vs H Q E0) : FnOk P w K mg base CX0 k f fd ps sp := by
  refine ⟨fun vs H Q E q => F.len _ _ _ _ (h _ _ _ _ q), fun A outer s H args us vs Q E hr he hb hv q => ?_⟩
  refine codeAny_mono (F.run A outer s H args us vs Q E0 hr he hb hv (h _ _ _ _ q)) fun r s' z => ?_
  cases r with
  | ok fl => cases fl with
    | ret u => exact z
    | next => exact z
    | brk => exact z
    | cont => exact z
  | error e =>
    obtain ⟨_, _, _, _, _, _, _, _, _, _, _, _, q⟩ := z
    exact q.elim
theorem quietC {P : Program} {w : World} {K : PySem.W.Frag} {mg : Str → Option Value} {base : Heap} {k : Nat} {x : Str} {st : Stmt} {f : Addr} {fd : FuncData} {ps : List Str} {ds : List Value} {dvs : List V} {sp sp' : Sp} (D : C8.Def K mg x st f fd) (b : Binds K fd ps ds) (hd : Vals dvs ds) (F : FnOk P w K mg base (L2N.CX P w) k f fd ps sp') (h : ∀ vs H Q E, sp vs H Q E → sp' vs H Q E0) : C8.Cal P w K mg base k x sp dvs :=
  ⟨f, fd, ps, ds, quiet F h, D.mgf, D.kp, b, hd⟩
section
variable {P : Program} {w : World} {K : PySem.W.Frag} {mg : Str → Option Value} {base : Heap}
theorem dimE_eq' {es : List Ent} {n : Nat} (h : DimN n es) (hp : es ≠ []) : dimE es = n := by
  cases es with
  | nil => exact absurd rfl hp
  | cons e r => exact h e List.mem_cons_self
theorem none_back {H H' : Hp} {p : Addr} (s : Same H H') (h : H' p = none) : H p = none := by
  cases z : H p with
  | none => rfl
  | some o =>
    rw [s _ _ z] at h
    cases h
theorem ents_nil {H : Hp} {xs : List V} {es : List Ent} (h : Ents H xs es) : xs = [] ↔ es = [] := by
  have := h.len
  constructor
  · rintro rfl
    exact List.length_eq_zero_iff.mp this.symm
  · rintro rfl
    exact List.length_eq_zero_iff.mp this
end

set_option Elab.async false
set_option linter.all false
set_option maxRecDepth 100000
set_option maxHeartbeats 2000000
/-- a def that is never reached -/
def spNo : Sp := fun _ _ _ _ => False
section
variable {P : Program} {w : World} {K : PySem.W.Frag} {mg : Str → Option Value} {base : Heap}
theorem c_no {k : Nat} {x : Str} {st : Stmt} {f : Addr} {fd : FuncData} {ps : List Str} (D : C8.Def K mg x st f fd) (b : Binds K fd ps []) : C8.Cal P w K mg base k x spNo [] :=
  ⟨f, fd, ps, [], ⟨fun _ _ _ _ h => h.elim, fun _ _ _ _ _ _ _ _ _ _ _ _ _ h => h.elim⟩, D.mgf, D.kp, b, .nil⟩
/-- few pairs of entries: not crowded -/
def spFew : Sp := fun vs H Q _ => ∃ (a b : Addr) (xs ys : List V), vs = [.ref a, .ref b] ∧ H a = some (.lst xs) ∧ H b = some (.lst ys) ∧ xs.length ≤ 1000 ∧ xs.length * ys.length < 2000 ∧ Q (.bl false) H
theorem c_is_crowded {f : Addr} {fd : FuncData} {tk : Tok} (D : C8.Def K mg "is_crowded" s_is_crowded f fd) (b : Binds K fd ["first", "second"] []) (T : Bi mg) (gF : mg "FEW_PAIRS" = some (.int 2000 tk)) (c_digit_bits : C8.Cal P w K mg base 1 "digit_bits" spNo []) (c_product_sizes : C8.Cal P w K mg base 1 "product_sizes" spNo []) : C8.Cal P w K mg base 2 "is_crowded" spFew [] := by
  refine C8.cal0 D b .nil sc_is_crowded (fun vs H Q E h => ?_) (fun cdv A outer s H vs Q E hr h => ?_)
  · obtain ⟨a, b, xs, ys, rfl, _⟩ := h
    rfl
  · obtain ⟨a, b, xs, ys, rfl, ha, hb, hx, hz, q⟩ := h
    refine ⟨_, (pss_cons (ps_set (i := 2) sc_is_crowded.nd rfl (Or.inl rfl) (pe_op op_mul (pe_callB call_len_seq (by rfl) T.n_len OT.b_len (pa_cons (pv 0) pa_nil)) (pe_callB call_len_seq (by rfl) T.n_len OT.b_len (pa_cons (pv 1) pa_nil))))
  (pss_cons (ps_if (pt_cmpR op_lt (pv 2) (pe_glob (v := .int 2000) (by rfl) gF ⟨_, rfl⟩) (nomark _)) (pss_one (ps_ret pe_bl)) pss_nil)
  (pss_cons (ps_set (i := 3) sc_is_crowded.nd rfl (Or.inl rfl) (C8.pe_c c_digit_bits hr (by decide) (by rfl) (pa_cons (pv 0) (pa_cons (pv 1) pa_nil))))
  (pss_cons (ps_for PassesOwn.never rfl (pi_list (C8.pe_c c_product_sizes hr (by decide) (by rfl) (pa_cons (pv 0) (pa_cons (pv 1) pa_nil)))) (pg_name (i := 4) sc_is_crowded.nd rfl (Or.inl rfl)) (pss_one (ps_set (i := 3) sc_is_crowded.nd rfl (Or.inl rfl) (pe_op op_mul (pv 3) (pv 4)))))
  (pss_one (ps_ret (pe_cmpR op_lt (pv 3) (pe_op op_mul pe_int (pv 2)) (nomark _)))))))), ?_⟩
    refine ⟨_, rfl, a, _, rfl, .inl (.inl (.inl ha)), _, rfl, b, _, rfl, .inl (.inl (.inl hb)), _, _, rfl, rfl, .inl (by constructor <;> omega), ?_⟩
    refine ⟨_, rfl, _, _, rfl, rfl, _, rfl, ?_⟩
    refine iteD (fun _ => q) (fun z => absurd ?_ z)
    show (xs.length : Int) * (ys.length : Int) < 2000
    rw [← Int.natCast_mul]
    omega
end

set_option Elab.async false
set_option linter.all false
set_option maxRecDepth 100000
set_option maxHeartbeats 2000000
theorem Kps.updK {H : Hp} {D : Addr} {l l' : List (Key × V)} {vs : List V} {es : List (Int × Int)} (hD : H D = some (.dK l)) (h : Kps H vs es) : Kps (upd H D (.dK l')) vs es := by
  induction h with
  | nil => exact .nil
  | cons h1 _ ih =>
    obtain ⟨t, rfl, h1⟩ := h1
    refine .cons ⟨t, rfl, ?_⟩ ih
    rw [upd_ne (fun z => by rw [z, hD] at h1; cases h1)]
    exact h1
theorem reach_le {es : List Ent} {h C : Nat} (hr : ReachIs es h) (hc : ∀ e ∈ es, ∀ x ∈ e.1, x.natAbs ≤ C) : h ≤ C := hr.2 C fun e he x hx => hc e he x hx
section
variable {P : Program} {w : World} {K : PySem.W.Frag} {mg : Str → Option Value} {base : Heap}
/-- two rows that are handed to a def of two rows -/
structure TwoR (K : PySem.W.Frag) (H : Hp) (a b : Addr) (xs ys : List V) (es fs : List Ent) (n m C : Nat) : Prop where
  ha : H a = some (.lst xs)
  hb : H b = some (.lst ys)
  e : Ents H xs es
  f : Ents H ys fs
  ze : es.length ≤ 1000
  zf : fs.length ≤ 1000
  de : ∀ e ∈ es, e.1.length = n
  df : ∀ e ∈ fs, e.1.length = m
  n3 : n ≤ 3
  m3 : m ≤ 3
  ce : ∀ e ∈ es, ∀ x ∈ e.1, x.natAbs ≤ C
  cf : ∀ e ∈ fs, ∀ x ∈ e.1, x.natAbs ≤ C
  c : C ≤ 1000000
theorem TwoR.mono {H H' : Hp} {a b : Addr} {xs ys : List V} {es fs : List Ent} {n m C : Nat} (s : Same H H') (h : TwoR K H a b xs ys es fs n m C) : TwoR K H' a b xs ys es fs n m C :=
  ⟨s _ _ h.ha, s _ _ h.hb, h.e.mono s, h.f.mono s, h.ze, h.zf, h.de, h.df, h.n3, h.m3, h.ce, h.cf, h.c⟩
def spMul (K : PySem.W.Frag) (M : Addr) : Sp := fun vs H Q E => ∃ (a b : Addr) (xs ys : List V) (es fs : List Ent) (n m C : Nat), vs = [.ref a, .ref b] ∧ TwoR K H a b xs ys es fs n m C ∧ es.length * fs.length < 2000 ∧ (∀ g ∈ fs, -(2 ^ 64) < g.2 ∧ g.2 < 2 ^ 64) ∧
  (mixL ((dims [es, fs]).filter nz) = true → ∀ d H', Same H H' → H' d = some (.xd errM) → E (.ref M) (some d) H') ∧
  (mixL ((dims [es, fs]).filter nz) = false → (es ≠ [] → fs ≠ [] → n = m) ∧ wantRow H (timesL es fs) Q)
theorem ok_multiply {f M fD A0 : Addr} {fd fdD : FuncData} {ds : List Value} (D : C8.Def K mg "multiply" s_multiply f fd) (T : Bi mg) (DD : C8.Def K mg "same_dimension" s_same_dimension fD fdD) (bD : Binds K fdD ["rows", "places"] ds) (hdv : Vals [V.ref A0] ds) (hA0 : ∀ H, SqT K H A0 [])
    (GD : FnOk P w K mg base (L2N.CX P w) 4 fD fdD ["rows", "places"] (spSDT K M)) (c_key_base : C8.Cal P w K mg base 2 "key_base" (spKB K) []) (c_keyed : C8.Cal P w K mg base 2 "keyed" (spKeyed K) []) (c_unkeyed : C8.Cal P w K mg base 2 "unkeyed" spUnk []) (c_places_length : C8.Cal P w K mg base 1 "places_length" (spPLen K) []) (c_is_crowded : C8.Cal P w K mg base 2 "is_crowded" spFew []) (c_crowded_product : C8.Cal P w K mg base 1 "crowded_product" spNo []) : FnOk P w K mg base (L2N.CX P w) 5 f fd ["first", "second"] (spMul K M) := by
  obtain ⟨oc, od, dV, kV, doc, pm, an, cdv, ct, osl, rfl, lk, hcd⟩ := D.fn.ex
  refine fn_of lk hcd sc_multiply (fun vs H Q E h => ?_) fun A outer s H vs Q E hr h => ?_
  · obtain ⟨a, b, xs, ys, es, fs, n, m, C, rfl, _⟩ := h
    rfl
  · obtain ⟨a, b, xs, ys, es, fs, n, m, C, rfl, R, hz, hnum, qE, qN⟩ := h
    refine ⟨_, (pss_cons (ps_expr (pe_callSD GD hr rfl DD.mgf DD.kp bD hdv (fun σ => L2N.passAt (L2N.takes_of rfl rfl rfl rfl) σ) (pa_cons (pe_lst (pa_cons (pv 0) (pa_cons (pv 1) pa_nil))) pa_nil)))
  (pss_cons (ps_if (pt_val (C8.pe_c c_is_crowded hr (by decide) (by rfl) (pa_cons (pv 0) (pa_cons (pv 1) pa_nil)))) (pss_one (ps_ret (C8.pe_c c_crowded_product hr (by decide) (by rfl) (pa_cons (pv 0) (pa_cons (pv 1) pa_nil))))) pss_nil)
  (pss_cons (ps_set (i := 2) sc_multiply.nd rfl (Or.inl rfl) (C8.pe_c c_key_base hr (by decide) (by rfl) (pa_cons (pv 0) (pa_cons (pv 1) pa_nil))))
  (pss_cons (ps_set (i := 3) sc_multiply.nd rfl (Or.inl rfl) (C8.pe_c c_keyed hr (by decide) (by rfl) (pa_cons (pv 1) (pa_cons (pv 2) pa_nil))))
  (pss_cons (ps_set (i := 4) sc_multiply.nd rfl (Or.inl rfl) pe_dnewK)
  (pss_cons (ps_for (passes_of rfl) rfl (pi_list (C8.pe_c c_keyed hr (by decide) (by rfl) (pa_cons (pv 0) (pa_cons (pv 2) pa_nil)))) (pg_tup rfl (pgs_cons (pg_name (i := 5) sc_multiply.nd rfl (Or.inl rfl)) (pgs_cons (pg_name (i := 6) sc_multiply.nd rfl (Or.inl rfl)) pgs_nil))) (pss_one (ps_for (passes_of rfl) rfl (pi_list (pv 3)) (pg_tup rfl (pgs_cons (pg_name (i := 7) sc_multiply.nd rfl (Or.inl rfl)) (pgs_cons (pg_name (i := 8) sc_multiply.nd rfl (Or.inl rfl)) pgs_nil))) (pss_one (ps_dput (hu_of hr) (pv 4) (pe_op op_add (pv 5) (pv 7)) (pe_op op_add (pe_dget2 (hu_of hr) (pv 4) (pe_op op_add (pv 5) (pv 7)) pe_int ⟨rfl, rfl, rfl, rfl⟩) (pe_op op_mul (pv 6) (pv 8))) rfl)))))
  (pss_one (ps_ret (C8.pe_c c_unkeyed hr (by decide) (by rfl) (pa_cons (pv 4) (pa_cons (pv 2) (pa_cons (C8.pe_c c_places_length hr (by decide) (by rfl) (pa_cons (pv 0) pa_nil)) pa_nil)))))))))))), ?_⟩
    refine ⟨_, rfl, _, rfl, (by show 2 ≤ sizeLine; decide), fun p1 np1 => ?_⟩
    have s1 : Same H (upd H p1 (.lst [.ref a, .ref b])) := same_upd np1
    refine ⟨p1, A0, [.ref a, .ref b], [es, fs], rfl, .inl (.inl upd_same), .cons (s1 _ _ R.ha) (R.e.mono s1) (.cons (s1 _ _ R.hb) (R.f.mono s1) .nil), hA0 _, (by show 2 ≤ 1000; decide), fun hm d H3 sm hd => qE hm d H3 (s1.trans sm) hd, fun hm H3 sm3 => ?_⟩
    have sA := s1.trans sm3
    obtain ⟨hnm, q⟩ := qN hm
    have R3 := R.mono sA
    clear hm qE qN
    refine ⟨_, rfl, _, rfl, a, b, xs, ys, rfl, R3.ha, R3.hb, by rw [R3.e.len]; exact R3.ze, by rw [R3.e.len, R3.f.len]; exact hz, _, rfl, ?_⟩
    refine iteF ?_
    refine ⟨_, rfl, _, rfl, a, b, xs, ys, es, fs, rfl, ⟨.inl (.inl R3.ha), R3.e, R3.ze, fun e he => by rw [R3.de e he]; exact R3.n3⟩, ⟨.inl (.inl R3.hb), R3.f, R3.zf, fun e he => by rw [R3.df e he]; exact R3.m3⟩, fun h g H4 hh hg s4 => ?_⟩
    have hN : h + g ≤ 2000000 := by
      have := reach_le hh R.ce
      have := reach_le hg R.cf
      have := R.c
      omega
    have hG : ∀ e ∈ es, ∀ z ∈ fs, Gd (h + g) (dimE es) (plusP e.1 z.1) ∧ e.1.length = z.1.length := fun e he z hz' => by
      have hne : es ≠ [] := fun y => by rw [y] at he; cases he
      have hnf : fs ≠ [] := fun y => by rw [y] at hz'; cases hz'
      have l1 := R.de e he
      have l2 := R.df z hz'
      have hl : e.1.length = z.1.length := l1.trans ((hnm hne hnf).trans l2.symm)
      refine ⟨⟨?_, fun x hx => ?_⟩, hl⟩
      · rw [plusP_len (Nat.le_of_eq hl), l1, dimE_eq R.de hne]
      · obtain ⟨u, hu, v, hv, rfl⟩ := plusP_mem hx
        have := hh.1 e he u hu
        have := hg.1 z hz' v hv
        omega
    have hd3 : dimE es ≤ 1000 := by
      by_cases hne : es = []
      · rw [hne]
        exact Nat.zero_le _
      · rw [dimE_eq R.de hne]
        have := R.n3
        omega
    have inj : ∀ k l, Gd (h + g) (dimE es) k → Gd (h + g) (dimE es) l → keyP (2 * ((h + g : Nat) : Int) + 1) k = keyP (2 * ((h + g : Nat) : Int) + 1) l → k = l := fun k l hk hl e => keyP_inj rfl (hk.1.trans hl.1.symm) hk.2 hl.2 e
    have hb64 : -(2 ^ 64) < 2 * ((h + g : Nat) : Int) + 1 ∧ 2 * ((h + g : Nat) : Int) + 1 < 2 ^ 64 := by
      have e1 : (2 : Int) ^ 64 = 18446744073709551616 := by decide
      omega
    clear hh hg
    have R4 := R3.mono s4
    have sB := sA.trans s4
    refine ⟨_, rfl, _, rfl, b, ys, fs, _, rfl, .inl (.inl R4.hb), R4.f, R4.zf, hb64, fun r ws2 H5 s5 nr hr5 hK2 => ?_⟩
    have R5 := R4.mono s5
    have sC := sB.trans s5
    refine fun d nd => ?_
    have s6 : Same H5 (upd H5 d (.dK [])) := same_upd nd
    have hd6 : (upd H5 d (.dK [])) d = some (.dK []) := upd_same
    generalize upd H5 d (.dK []) = H6 at s6 hd6 ⊢
    have R6 := R5.mono s6
    refine ⟨_, rfl, _, rfl, a, xs, es, _, rfl, .inl (.inl R6.ha), R6.e, R6.ze, hb64, fun p7 ws1 H7 s7 np7 hp7 hK1 => ?_⟩
    have s57 := s6.trans s7
    have hd7 := s7 _ _ hd6
    generalize hB : (2 * ((h + g : Nat) : Int) + 1) = B at inj hK1 hK2 hb64 ⊢
    have pne : p7 ≠ d := fun z => by
      rw [z, hd7] at hp7
      cases hp7
    refine ⟨p7, rfl, ⟨_, .inl (.inl hp7)⟩, ?_⟩
    refine for_list (K := K) (xs := ws1) (fun i σ H8 => ∃ (kvs : List (Key × V)) (ks : List Pl) (y5 y6 y7 y8 : Option V), σ = [some (.ref a), some (.ref b), some (.int B), some (.ref r), some (.ref d), y5, y6, y7, y8] ∧ Same H5 H8 ∧ H8 p7 = some (.lst ws1) ∧ Kps H8 ws1 (keyL B es) ∧ H8 d = some (.dK kvs) ∧ KSums B (Gd (h + g) (dimE es)) kvs ks (numAt (timesL (es.take i) fs)) ∧ ks.length ≤ i * fs.length) ?_ ?_ ?_ ?_
    · exact ⟨[], [], none, none, none, none, rfl, s57, hp7, hK1, hd7, KSums.nil, Nat.zero_le _⟩
    · rintro i σ H8 _ ⟨_, _, _, _, _, _, _, _, hp, _⟩
      exact .inl (.inl hp)
    · rintro i x σ H8 hx ⟨kvs, ks, y5, y6, y7, y8, rfl, sm, hp8, hK8, hd8, hs, hl⟩
      obtain ⟨ke, he', t, rfl, ht⟩ := hK8.get hx
      have hi : i < es.length := by
        have := (List.getElem?_eq_some_iff.mp he').1
        unfold keyL at this
        rwa [List.length_map] at this
      obtain ⟨e, hee⟩ : ∃ e, es[i]? = some e := ⟨_, List.getElem?_eq_getElem hi⟩
      have hem : e ∈ es := List.mem_of_getElem? hee
      have hke : ke = (keyP B e.1, e.2) := by
        unfold keyL at he'
        rw [List.getElem?_map, hee] at he'
        exact (Option.some.inj he').symm
      subst hke
      refine ⟨t, _, rfl, .inl (.inl ht), rfl, _, _, rfl, _, _, rfl, rfl, ?_⟩
      refine ⟨_, rfl, r, rfl, ⟨_, .inl (.inl (sm _ _ hr5))⟩, ?_⟩
      refine for_list (K := K) (xs := ws2) (fun j σ H9 => ∃ (kvs : List (Key × V)) (ks : List Pl) (y7 y8 : Option V), σ = [some (.ref a), some (.ref b), some (.int B), some (.ref r), some (.ref d), some (.int (keyP B e.1)), some (.int e.2), y7, y8] ∧ Same H5 H9 ∧ H9 p7 = some (.lst ws1) ∧ Kps H9 ws1 (keyL B es) ∧ H9 d = some (.dK kvs) ∧ KSums B (Gd (h + g) (dimE es)) kvs ks (numAt (timesL (es.take i) fs ++ rowT e (fs.take j))) ∧ ks.length ≤ i * fs.length + j) ?_ ?_ ?_ ?_
      · refine ⟨kvs, ks, y7, y8, rfl, sm, hp8, hK8, hd8, ?_, hl⟩
        rw [show rowT e (fs.take 0) = [] from rfl, List.append_nil]
        exact hs
      · rintro j σ H9 _ ⟨_, _, _, _, _, sm9, _⟩
        exact .inl (.inl (sm9 _ _ hr5))
      · rintro j x σ H9 hx ⟨kvs, ks, y7, y8, rfl, sm9, hp9, hK9, hd9, hs9, hl9⟩
        obtain ⟨kg, hg', t2, rfl, ht2⟩ := (hK2.mono sm9).get hx
        have hj : j < fs.length := by
          have := (List.getElem?_eq_some_iff.mp hg').1
          unfold keyL at this
          rwa [List.length_map] at this
        obtain ⟨z, hzz⟩ : ∃ z, fs[j]? = some z := ⟨_, List.getElem?_eq_getElem hj⟩
        have hzm : z ∈ fs := List.mem_of_getElem? hzz
        have hkg : kg = (keyP B z.1, z.2) := by
          unfold keyL at hg'
          rw [List.getElem?_map, hzz] at hg'
          exact (Option.some.inj hg').symm
        subst hkg
        obtain ⟨gd, gl⟩ := hG e hem z hzm
        have hk : keyP B (plusP e.1 z.1) = keyP B e.1 + keyP B z.1 := keyP_plus B gl
        have hget : DGet H9 d (.int (keyP B e.1 + keyP B z.1)) (valV kvs (Sum.inl (keyP B (plusP e.1 z.1)))) := by
          rw [← hk]
          exact DGet.k (k := Sum.inl (keyP B (plusP e.1 z.1))) hd9
        have hlt : kvs.length < sizeLine := by
          rw [hs9.len]
          have h1 : i * fs.length + fs.length ≤ es.length * fs.length := by
            rw [← Nat.succ_mul]
            exact Nat.mul_le_mul_right _ hi
          exact small100k (by omega)
        have hput : DPut H9 d (.int (keyP B e.1 + keyP B z.1)) (.int (numAt (timesL (es.take i) fs ++ rowT e (fs.take j)) (plusP e.1 z.1) + e.2 * z.2)) (upd H9 d (.dK (putK kvs (Sum.inl (keyP B (plusP e.1 z.1))) (.int (numAt (timesL (es.take i) fs ++ rowT e (fs.take j)) (plusP e.1 z.1) + e.2 * z.2))))) := by
          rw [← hk]
          exact DPut.k (k := Sum.inl (keyP B (plusP e.1 z.1))) hd9 hlt
        refine ⟨t2, _, rfl, .inl (.inl ht2), rfl, _, _, rfl, _, _, rfl, rfl, ?_⟩
        refine ⟨_, rfl, d, rfl, .inl ⟨kvs, .inl hd9⟩, _, rfl, _, rfl, _, _, rfl, rfl, _, hget, _, rfl, _, rfl, _, _, rfl, rfl, .inr (hnum z hzm), _, _, hs9.getD _ gd, rfl, _, rfl, _, rfl, _, rfl, _, _, rfl, rfl, d, _, rfl, hput, ?_⟩
        refine ⟨_, _, _, _, rfl, same_mut sm9 nd, ?_, hK9.updK hd9, upd_same, ?_, put_klen (e := plusP e.1 z.1) hl9⟩
        · rw [upd_ne pne]
          exact hp9
        · have hf : numAt (timesL (es.take i) fs ++ rowT e (fs.take (j + 1))) = fun q => numAt (timesL (es.take i) fs ++ rowT e (fs.take j)) q + if plusP e.1 z.1 = q then e.2 * z.2 else 0 := by
            funext q
            rw [take_snoc hzz]
            show numAt (timesL (es.take i) fs ++ List.map _ (fs.take j ++ [z])) q = _
            rw [List.map_append, ← List.append_assoc, numAt_app]
            show _ + ((if plusP e.1 z.1 = q then e.2 * z.2 else 0) + 0) = _
            rw [Int.add_zero]
            rfl
          rw [hf]
          exact hs9.put inj _ gd _
      · rintro σ H9 ⟨kvs, ks, y7, y8, rfl, sm9, hp9, hK9, hd9, hs9, hl9⟩
        have hw2 : ws2.length = fs.length := by
          have := hK2.len
          unfold keyL at this
          rwa [List.length_map] at this
        rw [hw2, List.take_length] at hs9
        refine ⟨kvs, ks, _, _, y7, y8, rfl, sm9, hp9, hK9, hd9, ?_, ?_⟩
        · rw [take_snoc hee, timesL_snoc]
          exact hs9
        · rw [hw2] at hl9
          rw [Nat.succ_mul]
          exact hl9
    · rintro σ H8 ⟨kvs, ks, y5, y6, y7, y8, rfl, sm, hp8, hK8, hd8, hs, hl⟩
      have hw1 : ws1.length = es.length := by
        have := hK1.len
        unfold keyL at this
        rwa [List.length_map] at this
      rw [hw1] at hs hl
      rw [List.take_length] at hs
      have R8 := R5.mono sm
      subst hB
      refine ⟨_, rfl, _, rfl, _, rfl, a, xs, es, rfl, .inl (.inl R8.ha), R8.e, d, h + g, dimE es, kvs, ks, timesL es fs, rfl, hd8, hs, by omega, hd3, by omega, ?_⟩
      exact wantRow.mono (sC.trans sm) q
end

set_option Elab.async false
set_option linter.all false
set_option maxRecDepth 100000
set_option maxHeartbeats 2000000
theorem Ents.rev {H : Hp} {vs : List V} {es : List Ent} (h : Ents H vs es) : Ents H vs.reverse es.reverse := by
  induction h with
  | nil => exact .nil
  | cons h1 _ ih =>
    rw [List.reverse_cons, List.reverse_cons]
    exact ih.app (.cons h1 .nil)
/-- tuple(xs) -/
def rTupOf (K : PySem.W.Frag) : List V → Hp → VK → Prop := fun args H Q => ∃ (b : Addr) (items : List V), args = [.ref b] ∧ ((SqL K H b items ∧ ∀ l, H l = none → Q (.ref l) (upd H l (.tup items))) ∨ (SqT K H b items ∧ Q (.ref b) H))
section
variable {P : Program} {w : World} {K : PySem.W.Frag} {mg : Str → Option Value} {base : Heap}
def spMirror : Sp := fun vs H Q _ => ∃ (a : Addr) (xs : List V) (es : List Ent), vs = [.ref a] ∧ H a = some (.lst xs) ∧ Ents H xs es ∧ es.length ≤ 10000 ∧ (∀ e ∈ es, e.1.length ≤ 1000) ∧ ∀ p ws H', Same H H' → H p = none → H' p = some (.lst ws) → Ents H' ws (mirP es) → Q (.ref p) H'
theorem c_mirror {f : Addr} {fd : FuncData} (D : C8.Def K mg "mirror" s_mirror f fd) (b : Binds K fd ["row"] []) (T : Bi mg) : C8.Cal P w K mg base 1 "mirror" spMirror [] := by
  refine C8.cal0 D b .nil sc_mirror (fun vs H Q E h => ?_) (fun cdv A outer s H vs Q E hr h => ?_)
  · obtain ⟨a, xs, es, rfl, _⟩ := h
    rfl
  · obtain ⟨a, xs, es, rfl, ha, hE, hz, hle, q⟩ := h
    refine ⟨_, (pss_one (ps_ret (pe_lc (own := [("place", 1), ("number", 2)]) (g := (gTup K 2 (gCons (gName 1) (gCons (gName 2) gNil)))) (tt := tYes) rfl sc_mirror.nd (pi_list (pe_revL (pv 0))) (blkOk_by (N := ["row", "place", "number", "x"]) (sc := C8.fnScope s_mirror) (by decide +kernel)) (fun _ _ _ _ _ => (pg_tup rfl (pgs_cons (pg_name (i := 1) sc_mirror.nd rfl (Or.inl rfl)) (pgs_cons (pg_name (i := 2) sc_mirror.nd rfl (Or.inl rfl)) pgs_nil)))) (fun _ _ _ _ _ => pts_nil) (fun _ _ _ _ _ => (pe_tup (pa_cons (pe_callTy (show CallR _ _ (rTupOf K) from call_tuple_of) (by rfl) T.n_tuple OT.b_tuple (pa_cons (pe_lc (own := [("x", 3)]) (g := (gName 3)) (tt := tYes) rfl sc_mirror.nd (show PI _ _ _ (iTup K (tVar 1)) from pi_tup (pe_var (i := 1) rfl (.inl rfl))) (blkOk_by (N := ["row", "place", "number", "x"]) (sc := { kind := .function, names := [(".0", .local), ("place", .local), ("number", .local), ("tuple", .globalImplicit)], isGenerator := false, isCoroutine := false }) (by decide +kernel)) (fun _ _ _ _ _ => (pg_name (i := 3) sc_mirror.nd rfl (Or.inl rfl))) (fun _ _ _ _ _ => pts_nil) (fun _ _ _ _ _ => (pe_un un_neg (pv 3)))) pa_nil)) (pa_cons (pv 2) pa_nil))))))), ?_⟩
    have hS : SqL K H a xs := .inl (.inl ha)
    have hx := hE.len
    refine ⟨_, rfl, a, xs, rfl, hS, fun ra nra => ?_⟩
    have s1 : Same H (upd H ra (.lst xs.reverse)) := same_upd nra
    have hra : (upd H ra (.lst xs.reverse)) ra = some (.lst xs.reverse) := upd_same
    generalize upd H ra (.lst xs.reverse) = H1 at s1 hra ⊢
    refine ⟨ra, rfl, ⟨_, .inl (.inl hra)⟩, fun p np => ?_⟩
    have hE1 : Ents H1 xs.reverse es.reverse := (hE.mono s1).rev
    refine lc_list (K := K) (xs := xs.reverse) (fun i H2 => Same H1 H2 ∧ ∃ ws, H2 p = some (.lst ws) ∧ Ents H2 ws ((es.reverse.take i).map fun e => (negP e.1, e.2))) ?_ ?_ ?_ ?_
    · exact ⟨same_upd np, [], upd_same, .nil⟩
    · rintro i H2 _ ⟨sm, _⟩
      exact .inl (.inl (sm _ _ hra))
    · rintro i x H2 hxi ⟨sm, ws, hp, hW⟩
      obtain ⟨e, he, t, pe, rfl, ht, hpe⟩ := (hE1.mono sm).get hxi
      obtain ⟨hi, hee⟩ := List.getElem?_eq_some_iff.mp he
      have hm := List.mem_reverse.mp (List.mem_of_getElem? he)
      rw [List.length_reverse] at hi
      refine ⟨t, _, rfl, .inl (.inl ht), rfl, _, _, rfl, _, _, rfl, rfl, rfl, tYes_of ?_⟩
      refine ⟨_, rfl, pe, rfl, ⟨_, .inl (.inl hpe)⟩, fun p3 np3 => ?_⟩
      refine lc_tup (K := K) (xs := e.1.map V.int) (fun j H3 => Same H2 H3 ∧ H3 p3 = some (.lst ((e.1.take j).map fun n => V.int (-n)))) ?_ ?_ ?_ ?_
      · exact ⟨same_upd np3, upd_same⟩
      · rintro j H3 _ ⟨sm3, _⟩
        exact .inl (.inl (sm3 _ _ hpe))
      · rintro j y H3 hy ⟨sm3, hp3⟩
        obtain ⟨hj, rfl⟩ := getm hy
        refine ⟨rfl, tYes_of ?_⟩
        refine ⟨_, rfl, _, rfl, _, hp3, ?_, same_mut sm3 np3, ?_⟩
        · rw [List.length_map, List.length_take]
          have := hle e hm
          exact small100k (by omega)
        · rw [upd_same, take_map_succ (fun n => V.int (-n)) hj]
      · rintro H3 ⟨sm3, hp3⟩
        rw [List.length_map, List.take_length] at hp3
        refine ⟨p3, _, rfl, .inl ⟨.inl (.inl hp3), fun l4 nl4 => ?_⟩⟩
        have sm4 : Same H3 (upd H3 l4 (.tup (e.1.map fun n => V.int (-n)))) := same_upd nl4
        have hl4 : (upd H3 l4 (.tup (e.1.map fun n => V.int (-n)))) l4 = some (.tup ((negP e.1).map V.int)) := by
          rw [upd_same]
          unfold negP
          rw [List.map_map]
          rfl
        generalize upd H3 l4 (.tup (e.1.map fun n => V.int (-n))) = H4 at sm4 hl4 ⊢
        refine ⟨_, rfl, (by show 2 ≤ sizeLine; decide), fun t6 nt6 => ?_⟩
        have sm6 : Same H4 (upd H4 t6 (.tup [.ref l4, .int e.2])) := same_upd nt6
        have smX := (sm3.trans sm4).trans sm6
        have hv : EntAt (upd H4 t6 (.tup [.ref l4, .int e.2])) (.ref t6) (negP e.1, e.2) := ⟨t6, l4, rfl, upd_same, sm6 _ _ hl4⟩
        have hD := smX _ _ hp
        have hwl := hW.len
        refine ⟨ws, hD, ?_, same_mut (sm.trans smX) np, ws ++ [.ref t6], upd_same, ?_⟩
        · rw [List.length_map, List.length_take, List.length_reverse] at hwl
          exact small100k (by omega)
        · rw [take_snoc he, List.map_append]
          exact ((hW.mono smX).app (.cons hv .nil)).updL hD
    · rintro H2 ⟨sm, ws, hp, hW⟩
      rw [List.length_reverse, hx, ← List.length_reverse, List.take_length] at hW
      refine q p ws H2 (s1.trans sm) ?_ hp hW
      cases z : H p with
      | none => rfl
      | some o =>
        rw [s1 _ _ z] at np
        cases np
end

set_option Elab.async false
set_option linter.all false
set_option maxRecDepth 100000
set_option maxHeartbeats 4000000
local macro_rules | `(tactic| walk_at "sm") => `(tactic| first | assumption | ((with_reducible show Same _ (upd _ _ _)); (refine' AU.mutS ?s ?h; (case h => assumption); (case s => walk_at "sm"))) | fail)
local macro_rules | `(tactic| walk_at "le") => `(tactic| first | (refine Nat.le_of_lt (AU.line ?_); (try simp only [List.length_append, List.length_map, List.length_cons, List.length_nil, List.length_take, List.length_replicate]); omega) | fail)
local macro_rules | `(tactic| walk_at "ll") => `(tactic| first | (show 0 < sizeLine; decide) | (show 1 < sizeLine; decide) | (show 2 < sizeLine; decide) | (show 3 < sizeLine; decide) | (refine AU.line ?_; (try simp only [List.length_append, List.length_map, List.length_cons, List.length_nil, List.length_take, List.length_replicate]); omega) | fail)
local macro_rules | `(tactic| walk_at "hl") => `(tactic| first | assumption | exact upd_same | (refine' AU.climb ?s ?h; (case s => walk_at "sm"); (case h => walk_at "hl")) | fail)
local macro_rules | `(tactic| walk_at "sl") => `(tactic| first | assumption | (refine' AU.sqL ?h; (case h => walk_at "hl")) | (refine' AU.sqLS ?s ?h; (case s => walk_at "sm"); (case h => walk_at "sl")) | fail)
local macro_rules | `(tactic| walk_at "tl") => `(tactic| first | assumption | (refine' AU.sqT ?h; (case h => walk_at "hl")) | (refine' AU.sqTS ?s ?h; (case s => walk_at "sm"); (case h => walk_at "tl")) | fail)
local macro_rules | `(tactic| walk_at "sz") => `(tactic| first | (show 0 ≤ sizeLine; decide) | (show 1 ≤ sizeLine; decide) | (show 2 ≤ sizeLine; decide) | (show 3 ≤ sizeLine; decide) | (show 4 ≤ sizeLine; decide) | (show 5 ≤ sizeLine; decide) | (show 6 ≤ sizeLine; decide) | (show 7 ≤ sizeLine; decide) | (show 8 ≤ sizeLine; decide) | (show 9 ≤ sizeLine; decide) | (show 10 ≤ sizeLine; decide) | fail)
local macro_rules | `(tactic| walk_at "ci") => `(tactic| first | exact trivial | omega | (show (0 : Int) < _; omega) | (show CMul _ _; exact .inl ⟨by omega, by omega⟩) | (show CMul _ _; exact .inr ⟨by omega, by omega⟩) | (show CMul _ _; exact .inr (AU.b01 _)) | (show CMul _ _; exact .inl (AU.b01 _)) | (show CDiv _ _; exact ⟨by omega, by omega⟩) | (show _ ≠ (0 : Int); omega) | (show CDiv _ _; exact ⟨by decide, by decide⟩) | fail)
local macro_rules | `(tactic| walk_at "hh") => `(tactic| first | assumption | (refine' OT.HeldF.mono ?s ?h; (case s => walk_at "sm"); (case h => walk_at "hh")) | fail)
local macro_rules | `(tactic| walk_at "tyx") => `(tactic| first | exact .base (.int _) | exact .base (.bl _) | exact .base (.str _) | exact .base (.lst (by walk_at "hl")) | exact .base (.tup (by walk_at "hl")) | fail)
local macro_rules | `(tactic| walk_at "st1") => `(tactic| first | ((with_reducible show tSeq _ _ _ _ _); (try simp only [List.set_cons_zero, List.set_cons_succ]); refine AU.seq_ ?_) | ((with_reducible show tAsg _ _ _ _ _); refine AU.asg_ ?_) | ((with_reducible show gName _ _ _ _ _); refine AU.name_ ?_) | ((with_reducible show tDrop _ _ _ _); refine AU.drop_ ?_) | ((with_reducible show tRet _ _ _ _); refine AU.ret_ ?_) | ((with_reducible show tRetN _ _ _); refine AU.retN_ ?_) | ((with_reducible show tNext _ _ _); refine AU.next_ ?_) | ((with_reducible show tBreak _ _ _); refine AU.brk_ ?_) | ((with_reducible show tCont _ _ _); refine AU.cont_ ?_) | ((with_reducible show tIfS _ _ _ _ _ _); refine AU.ifs_ ?_) | ((with_reducible show tAug _ _ _ _ _ _); refine AU.aug_ rfl ?_) | ((with_reducible show Ends.nx (Ends.mk _ _ _ _) _ _); refine AU.nxm ?_) | ((with_reducible show Ends.rt (Ends.mk _ _ _ _) _ _); refine AU.rtm ?_) | ((with_reducible show Ends.bk (Ends.mk _ _ _ _) _ _); refine AU.bkm ?_) | ((with_reducible show Ends.ct (Ends.mk _ _ _ _) _ _); refine AU.ctm ?_) | ((with_reducible show tVar _ _ _ _); refine AU.var_ rfl ?_) | ((with_reducible show tC _ _ _ _); refine AU.c_ ?_) | ((with_reducible show tOp _ _ _ _ _ _); refine AU.op_ ?_) | ((with_reducible show tUn _ _ _ _ _); refine AU.un_ ?_) | ((with_reducible show rU _ _ _ _); refine AU.u_ ?_) | ((with_reducible show rI0 _ _ _ _ _); refine AU.i0_ ?_) | ((with_reducible show rI _ _ _ _ _ _); refine AU.i_ (by walk_at "ci") ?_) | ((with_reducible show rEq (V.int _) (V.int _) _ _); first | (with_reducible refine AU.eqr_ ?_) | refine AU.eqi_ ?_) | ((with_reducible show rEq (V.str _) (V.str _) _ _); (with_reducible refine AU.eqs_ ?_)) | ((with_reducible show rNe (V.int _) (V.int _) _ _); refine AU.nei_ ?_) | ((with_reducible show rEq _ _ _ _); refine AU.eq_ rfl ?_) | ((with_reducible show rNe _ _ _ _); refine AU.ne_ rfl ?_) | ((with_reducible show tTest _ _ _ _); refine AU.test_ ?_) | ((with_reducible show tB _ _ _ _); refine AU.b_ ?_) | ((with_reducible show tAnd _ _ _ _ _); refine AU.and_ ?_) | ((with_reducible show tOr _ _ _ _ _); refine AU.or_ ?_) | ((with_reducible show tNot _ _ _ _); refine AU.not_ ?_) | ((with_reducible show tAndV _ _ _ _ _); refine AU.andV_ ?_) | ((with_reducible show tOrV _ _ _ _ _); refine AU.orV_ ?_) | ((with_reducible show tNotV _ _ _ _); refine AU.notV_ ?_) | ((with_reducible show tIf _ _ _ _ _ _); refine AU.if_ ?_) | ((with_reducible show tNil _ _ _); refine AU.nil_ ?_) | ((with_reducible show tCons _ _ _ _ _); refine AU.cons_ ?_) | ((with_reducible show tLst _ _ _ _); refine AU.lst_ ?_) | ((with_reducible show tTup _ _ _ _); refine AU.tup_ ?_) | ((with_reducible show tCall _ _ _ _ _ _ _); refine AU.call_ ?_) | ((with_reducible show tCallS _ _ _ _ _ _); refine AU.callS_ ?_) | ((with_reducible show tCB _ _ _ _ _); refine AU.cb_ ?_) | ((with_reducible show tBM _ _ _ _ _ _ _ _); refine AU.bm_ ?_) | ((with_reducible show rIxL _ _ _ _ _); refine AU.ixL_ (by walk_at "sl") (by first | assumption | rfl) ?_) | ((with_reducible show rIxT _ _ _ _ _); refine AU.ixT_ (by walk_at "tl") (by first | assumption | rfl) ?_) | ((with_reducible show Evl.rLenS _ _ _ _); first | refine AU.lenL_ (by walk_at "sl") ?_ | refine AU.lenT_ (by walk_at "tl") ?_) | ((with_reducible show rAppend (V.ref _) [_] _ _); refine AU.app_ (by walk_at "hl") (by walk_at "ll") ?_) | ((with_reducible show tyV _ _ (V.ref _) _ ∧ _); refine AU.tyl_ (by walk_at "sl") ?_) | ((with_reducible show rCat (V.ref _) (V.ref _) _ _); refine AU.cat_ (by walk_at "hl") (by walk_at "hl") (by walk_at "le") ?_) | ((with_reducible show tFor _ _ _ _ _ _); refine AU.for_ ?_) | ((with_reducible show tLc _ _ _ _ _ _ _ _); refine AU.lc_ ?_) | ((with_reducible show iRng1 _ _ _ _); refine AU.rng1_ ?_) | ((with_reducible show iList _ _ _ _ _); refine AU.list_ ?_) | ((with_reducible show iTup _ _ _ _ _); refine AU.itup_ ?_) | ((with_reducible show (∃ i, [V.bl _] = [V.int i] ∧ _) ∨ _); refine AU.intb_ ?_) | ((with_reducible show (∃ i, [V.int _] = [V.int i] ∧ _) ∨ _); refine AU.inti_ ?_) | ((with_reducible show tYes _ _ _); refine AU.yes_ ?_) | ((with_reducible show ∃ p ys, [V.ref _] = [V.ref p] ∧ (SqL _ _ p ys ∨ SqT _ _ p ys) ∧ _); first | refine AU.listof_ (by walk_at "sl") ?_ | refine AU.listofT_ (by walk_at "tl") ?_) | ((with_reducible show ∃ p ys, [V.ref _] = [V.ref p] ∧ ((SqL _ _ p ys ∧ _) ∨ (SqT _ _ p ys ∧ _))); first | refine AU.tupleof_ (by walk_at "sl") ?_ | refine AU.tupleofT_ (by walk_at "tl") ?_) | ((with_reducible show V.non = V.non ∧ _); refine ⟨rfl, ?_⟩) | ((with_reducible show OT.rIsX _ _ _ _ [V.ref _, _] _ _); refine OT.isX_ (by walk_at "hh") (by first | exact .own _ | exact .ty _) (by assumption) ?_) | ((with_reducible show OT.tFA _ _ _ _ _ _ _ _ _); refine OT.fA_ ?_) | ((with_reducible show OT.tCallE _ _ _ _ _ _ _ _); refine OT.callE_ ?_) | ((with_reducible show rIsi _ [_, _] _ _); refine OT.isi_ (by first | exact .own _ | exact .ty _) (by walk_at "tyx") (by first | assumption | exact kit_ty OT.kq_int_int | exact kit_ty OT.kq_int_bool | exact kit_ty OT.kq_bool_bool | exact kit_ty OT.kq_bool_int | exact kit_ty OT.kq_str_str | exact kit_ty OT.kq_tuple_tuple | exact kit_ty OT.kq_list_list | exact kit_ty OT.kq_list_tuple | exact kit_ty OT.kq_tuple_list | exact kit_ty OT.kq_list_int | exact kit_ty OT.kq_tuple_int | exact kit_ty OT.kq_list_bool | exact kit_ty OT.kq_tuple_bool | exact kit_ty OT.kq_str_int | exact kit_ty OT.kq_int_str | exact kit_ty OT.kq_int_list | exact kit_ty OT.kq_int_tuple | exact kit_ty OT.kq_bool_list | exact kit_ty OT.kq_bool_tuple) ?_) | ((with_reducible show ∃ k, V.bl _ = V.bl k ∧ _); refine AU.bool_ ?_) | ((with_reducible show tSl _ _ _ _ _ _ _); refine AU.sl_ ?_) | ((with_reducible show tNoPart _ _ _); refine AU.npart_ ?_) | ((with_reducible show tPart _ _ _ _); refine AU.part_ ?_) | ((with_reducible show ∃ k, V.int _ = V.int k ∧ rSlL _ _ _ (some k) _ _); refine AU.int1_ ?_) | ((with_reducible show ∃ k, V.int _ = V.int k ∧ tPart _ _ _ _); refine AU.int1_ ?_) | ((with_reducible show ∃ k, V.int _ = V.int k ∧ tNoPart _ _ _); refine AU.int1_ ?_) | ((with_reducible show rSlL _ (V.ref _) _ _ _ _); refine AU.slL_ (by walk_at "sl") ?_) | ((with_reducible refine AU.trueT ?_)) | ((with_reducible refine AU.refNon ?_)) | ((with_reducible refine AU.nonNon ?_)) | ((with_reducible refine AU.trueN ?_)) | ((with_reducible refine AU.falseN ?_)) | ((with_reducible refine AU.falseF ?_)) | fail)
local macro_rules | `(tactic| walk_at "st") => `(tactic| repeat walk_at "st1")
/-- a quotient that is there -/
structure QS (R FF S : List Ent) (m : Nat) : Prop where
  v : Valid S
  d : DimN m S
  e : ∀ q, numAt R q = numAt (timesL FF S) q
  z : FF.length * S.length < 2000
  l : S.length ≤ 1000
  nb : ∀ g ∈ S, -(2 ^ 64) < g.2 ∧ g.2 < 2 ^ 64
  c : ∀ e ∈ S, ∀ x ∈ e.1, x.natAbs ≤ 1000000
theorem mirP_dim {n : Nat} {es : List Ent} (h : DimN n es) : DimN n (mirP es) := fun e he => by
  obtain ⟨y, hy, rfl⟩ := List.mem_map.mp he
  show (negP y.1).length = n
  rw [negP_len, h y (List.mem_reverse.mp hy)]
theorem mirP_len (es : List Ent) : (mirP es).length = es.length := by
  unfold mirP
  rw [List.length_map, List.length_reverse]
theorem mirP_c {C : Nat} {es : List Ent} (h : ∀ e ∈ es, ∀ x ∈ e.1, x.natAbs ≤ C) : ∀ e ∈ mirP es, ∀ x ∈ e.1, x.natAbs ≤ C := fun e he x hx => by
  obtain ⟨y, hy, rfl⟩ := List.mem_map.mp he
  obtain ⟨z, hz, rfl⟩ := List.mem_map.mp hx
  have := h y (List.mem_reverse.mp hy) z hz
  omega
theorem mirP_u {P : Int → Prop} {es : List Ent} (h : ∀ e ∈ es, P e.2) : ∀ e ∈ mirP es, P e.2 := fun e he => by
  obtain ⟨y, hy, rfl⟩ := List.mem_map.mp he
  exact h y (List.mem_reverse.mp hy)
theorem mirP_nil {es : List Ent} : mirP es = [] ↔ es = [] := by
  unfold mirP
  rw [List.map_eq_nil_iff, List.reverse_eq_nil_iff]
section
variable {P : Program} {w : World} {K : PySem.W.Frag} {mg : Str → Option Value} {base : Heap}
end

set_option Elab.async false
set_option linter.all false
set_option maxRecDepth 100000
set_option maxHeartbeats 4000000
section
variable {P : Program} {w : World} {K : PySem.W.Frag} {mg : Str → Option Value} {base : Heap}
/-- a list of entries, a longer one -/
structure LstM (H : Hp) (a : Addr) (xs : List V) (es : List Ent) : Prop where
  l : H a = some (.lst xs)
  e : Ents H xs es
  z : es.length ≤ 10000
  p : ∀ e ∈ es, e.1 ≠ []
theorem Lst.m {H : Hp} {a : Addr} {xs : List V} {es : List Ent} (h : Lst H a xs es) : LstM H a xs es := ⟨h.l, h.e, Nat.le_trans h.z (by decide), h.p⟩
def spMir : Sp := fun vs H Q _ => ∃ (a : Addr) (xs : List V) (es : List Ent), vs = [.ref a] ∧ LstM H a xs es ∧ (∀ e ∈ es, e.1.length ≤ 1000) ∧ wantRow H (mirL es) Q
theorem c__law_mirror {f : Addr} {fd : FuncData} (D : C8.Def K mg "_law_mirror" s__law_mirror f fd) (b : Binds K fd ["_law_row_here"] []) (T : Bi mg) (c__law_row : C8.Cal P w K mg base 1 "_law_row" (spGather K) []) (c__law_back : C8.Cal P w K mg base 1 "_law_back" (spBack K) []) : C8.Cal P w K mg base 2 "_law_mirror" spMir [] := by
  refine C8.cal0 D b .nil sc__law_mirror (fun vs H Q E h => ?_) (fun cdv A outer s H vs Q E hr h => ?_)
  · obtain ⟨a, xs, es, rfl, _⟩ := h
    rfl
  · obtain ⟨a, xs, es, rfl, hA, hle, q⟩ := h
    refine ⟨_, (pss_one (ps_ret (C8.pe_c c__law_row hr (by decide) (by rfl) (pa_cons (pe_lc (own := [("_law_entry", 1)]) (g := (gName 1)) (tt := tYes) rfl sc__law_mirror.nd (pi_list (pv 0)) (blkOk_by (N := ["_law_row_here", "_law_entry"]) (sc := C8.fnScope s__law_mirror) (by decide +kernel)) (fun _ _ _ _ _ => (pg_name (i := 1) sc__law_mirror.nd rfl (Or.inl rfl))) (fun _ _ _ _ _ => pts_nil) (fun _ _ _ _ _ => (pe_tup (pa_cons (C8.pe_c c__law_back hr (by decide) (by rfl) (pa_cons (pe_ix (show IxR _ (rIxT K) from ix_tup) (pv 1) pe_int (fun _ _ => rfl)) pa_nil)) (pa_cons (pe_ix (show IxR _ (rIxT K) from ix_tup) (pv 1) pe_int (fun _ _ => rfl)) pa_nil))))) pa_nil)))), ?_⟩
    have hS : SqL K H a xs := .inl (.inl hA.l)
    have hx := hA.e.len
    have hz := hA.z
    refine ⟨_, rfl, a, rfl, ⟨_, hS⟩, fun p np => ?_⟩
    refine lc_list (K := K) (xs := xs) (fun i H2 => Same H H2 ∧ ∃ ws, H2 p = some (.lst ws) ∧ Ents H2 ws (mirL (es.take i))) ?_ ?_ ?_ ?_
    · exact ⟨same_upd np, [], upd_same, .nil⟩
    · rintro i H2 _ ⟨sm, _⟩
      exact sm.seq hS
    · rintro i x H2 hxi ⟨sm, ws, hp, hW⟩
      obtain ⟨e, he, t, pe, rfl, ht, hpe⟩ := (hA.e.mono sm).get hxi
      obtain ⟨hi, hee⟩ := List.getElem?_eq_some_iff.mp he
      have hm := List.mem_of_getElem? he
      have hT : SqT K H2 t [.ref pe, .int e.2] := .inl (.inl ht)
      refine ⟨rfl, tYes_of ?_⟩
      refine ⟨_, rfl, t, _, 0, _, rfl, rfl, hT, atI_nat (j := 0) rfl, pe, e.1, rfl, .inl (.inl hpe), hle e hm, fun p3 H3 sm3 hp3 => ?_⟩
      refine ⟨_, rfl, t, _, 1, _, rfl, rfl, same_t sm3 hT, atI_nat (j := 1) rfl, (by show 2 ≤ sizeLine; decide), fun t4 nt4 => ?_⟩
      have sm4 : Same H3 (upd H3 t4 (.tup [.ref p3, .int e.2])) := same_upd nt4
      have smA := sm3.trans sm4
      have hv : EntAt (upd H3 t4 (.tup [.ref p3, .int e.2])) (.ref t4) (negP e.1, e.2) := ⟨t4, p3, rfl, upd_same, sm4 _ _ hp3⟩
      have hD := smA _ _ hp
      have hwl := hW.len
      refine ⟨ws, hD, ?_, same_mut (sm.trans smA) np, ws ++ [.ref t4], upd_same, ?_⟩
      · unfold mirL at hwl
        rw [List.length_map, List.length_take] at hwl
        exact small100k (by omega)
      · unfold mirL
        rw [take_snoc he, List.map_append]
        exact ((hW.mono smA).app (.cons hv .nil)).updL hD
    · rintro H2 ⟨sm, ws, hp, hW⟩
      rw [hx, List.take_length] at hW
      refine ⟨p, ws, mirL es, rfl, ⟨.inl (.inl hp), hW, by unfold mirL; rw [List.length_map]; exact small100k (by omega)⟩, fun e he z => ?_, q.mono sm⟩
      obtain ⟨y, hy, rfl⟩ := List.mem_map.mp he
      have z2 : (negP y.1).length = 0 := by
        have z3 : negP y.1 = [] := z
        rw [z3]
        rfl
      rw [negP_len] at z2
      exact hA.p y hy (List.length_eq_zero_iff.mp z2)
def spCross (K : PySem.W.Frag) : Sp := fun vs H Q _ => ∃ (a b : Addr) (xs ys : List V) (es fs : List Ent) (n : Nat), vs = [.ref a, .ref b] ∧ Lst H a xs es ∧ Lst H b ys fs ∧ Valid fs ∧ DimN n es ∧ DimN n fs ∧ n ≤ 1000 ∧ es.length * fs.length ≤ 10000 ∧ (∀ g ∈ fs, -(2 ^ 64) < g.2 ∧ g.2 < 2 ^ 64) ∧ wantRow H (timesL es (mirL fs)) Q
theorem c__law_cross {f : Addr} {fd : FuncData} (D : C8.Def K mg "_law_cross" s__law_cross f fd) (b : Binds K fd ["_law_first", "_law_second"] []) (T : Bi mg) (c__law_times : C8.Cal P w K mg base 2 "_law_times" (spTimes K) []) (c__law_mirror : C8.Cal P w K mg base 2 "_law_mirror" spMir []) : C8.Cal P w K mg base 3 "_law_cross" (spCross K) [] := by
  refine C8.cal0 D b .nil sc__law_cross (fun vs H Q E h => ?_) (fun cdv A outer s H vs Q E hr h => ?_)
  · obtain ⟨a, b, xs, ys, es, fs, n, rfl, _⟩ := h
    rfl
  · obtain ⟨a, b, xs, ys, es, fs, n, rfl, R, S, vS, dR, dS, hn, hl, hb, q⟩ := h
    refine ⟨_, (pss_one (ps_ret (C8.pe_c c__law_times hr (by decide) (by rfl) (pa_cons (pv 0) (pa_cons (C8.pe_c c__law_mirror hr (by decide) (by rfl) (pa_cons (pv 1) pa_nil)) pa_nil))))), ?_⟩
    walk_at "st"
    refine ⟨b, ys, fs, rfl, S.m, fun e he => by rw [dS e he]; exact hn, fun m p ws H2 hm s2 np hp hE => ?_⟩
    have hmm : m = mirP fs := hm.one (mirP_is vS dS)
    walk_at "st"
    refine ⟨a, p, xs, ws, es, m, rfl, .inl (.inl (s2 _ _ R.l)), .inl (.inl hp), R.e.mono s2, hE, by rw [hmm, mirP_len]; exact hl, fun e he g hg => ?_, fun e he => ⟨R.p e he, by rw [dR e he]; exact hn⟩, by rw [hmm]; exact mirP_u (P := fun z => -(2 ^ 64) < z ∧ z < 2 ^ 64) hb, ?_⟩
    · rw [hmm] at hg
      rw [dR e he, mirP_dim dS g hg]
    · intro r p3 ws3 H3 hr s3 np3 hp3 hE3
      exact q r p3 ws3 H3 ⟨hr.v, fun k => by rw [hr.s, timesL_eq2 es hm.s]⟩ (s2.trans s3) (AU.back s2 np3) hp3 hE3
end

set_option Elab.async false
set_option linter.all false
set_option maxRecDepth 100000
set_option maxHeartbeats 4000000
section
variable {P : Program} {w : World} {K : PySem.W.Frag} {mg : Str → Option Value} {base : Heap}
def spErrE (K : PySem.W.Frag) (B : Addr) : SpE := fun a c d vs H Q _ => ∃ (C dd : Addr) (fs : List (Str × V)) (nm : Str), vs = [.ref a, .str nm] ∧ HeldF K H C dd c d fs ∧ PySem.W.findIn K (.ref C) "word" = some none ∧ fs.lookup ("word" : Str) = some (V.str nm) ∧
  PySem.W.kitOne K (.ref C) (.ref B) = some true ∧ PySem.W.kitOne K (.ref C) (.type "ValueError") = some true ∧ Q (.bl true) H
theorem h__law_is_error {f B : Addr} {fd : FuncData} (D : C8.Def K mg "_law_is_error" s__law_is_error f fd) (b : Binds K fd ["_law_e", "_law_word"] []) (T : Bi mg) (gB : mg "TableError" = some (.ref B)) (nV : mg "ValueError" = none) : HP.CalG P w K mg base 1 "_law_is_error" (spErrE K B) := by
  refine .mk D b (.of (fnE_of D.fn sc__law_is_error (fun a c d vs H Q E h => ?_) (fun cdv A outer s H vs Q p c d zc fld hr h => ?_)))
  · obtain ⟨C, dd, fs, nm, rfl, _⟩ := h
    rfl
  · obtain ⟨C, dd, fs, nm, rfl, hh, nw, lw, kB, kV, q⟩ := h
    have hp : p ∈ (L2H.cxH L2.CX0 P w K mg base ["_law_e", "_law_word"] "_law_is_error" (C8.fnScope s__law_is_error) f cdv A outer s H E0 p).pn := List.mem_cons_self
    refine ⟨_, (pss_one (ps_ret (pe_and (pe_callB (show CallR _ _ (rIsX K p.1 c d) from call_isX hp zc fld) (by rfl) T.n_isinstance OT.b_isinstance (pa_cons (pv 0) (pa_cons (pe_glob (v := .ref B) (by rfl) gB rfl) pa_nil))) (pe_and (pe_callB (show CallR _ _ (rIsX K p.1 c d) from call_isX hp zc fld) (by rfl) T.n_isinstance OT.b_isinstance (pa_cons (pv 0) (pa_cons (pe_bltn (v := .ty "ValueError") (by rfl) nV OT.b_ValueError rfl) pa_nil))) (pe_and (pe_callB call_isi (by rfl) T.n_isinstance OT.b_isinstance (pa_cons (show PE _ _ (tFA K p.1 c d _ _) from pe_fX hp zc fld (pv 0)) (pa_cons (pe_bltn (v := .ty "str") (by rfl) T.n_str OT.b_str rfl) pa_nil))) (pe_one (pe_cmpR op_eq (show PE _ _ (tFA K p.1 c d _ _) from pe_fX hp zc fld (pv 0)) (pv 1) (nomark _)))))))), ?_⟩
    walk_at "st"
    refine fB_ hh nw lw ?_
    walk_at "st"
    refine fB_ hh nw lw ?_
    walk_at "st"
    exact q
def spIntE : SpE := fun _ _ _ vs H Q _ => ∃ i : Int, vs = [.int i] ∧ Q (.bl true) H
theorem h__law_is_integer {f : Addr} {fd : FuncData} (D : C8.Def K mg "_law_is_integer" s__law_is_integer f fd) (b : Binds K fd ["_law_actual"] []) (T : Bi mg) : HP.CalG P w K mg base 1 "_law_is_integer" spIntE := by
  refine .mk D b (.of (fnE_of D.fn sc__law_is_integer (fun a c d vs H Q E h => ?_) (fun cdv A outer s H vs Q p c d zc fld hr h => ?_)))
  · obtain ⟨i, rfl, _⟩ := h
    rfl
  · obtain ⟨i, rfl, q⟩ := h
    refine ⟨_, (pss_one (ps_ret (pe_and (pe_callB call_isi (by rfl) T.n_isinstance OT.b_isinstance (pa_cons (pv 0) (pa_cons (pe_bltn (v := .ty "int") (by rfl) T.n_int OT.b_int rfl) pa_nil))) (pe_one (pe_not (pe_callB call_isi (by rfl) T.n_isinstance OT.b_isinstance (pa_cons (pv 0) (pa_cons (pe_bltn (v := .ty "bool") (by rfl) T.n_bool OT.b_bool rfl) pa_nil)))))))), ?_⟩
    walk_at "st"
    exact q
end

set_option Elab.async false
set_option linter.all false
set_option maxRecDepth 100000
set_option maxHeartbeats 4000000
/-! ### the algebra of products -/
theorem timesL_prod (es fs : List Ent) : timesL es fs = prodL plusP es fs := rfl
theorem mirL_map (es : List Ent) : mirL es = mapF negP es := rfl
theorem plusP_comm : ∀ k l : Pl, plusP k l = plusP l k
  | [], [] => rfl
  | [], _ :: _ => rfl
  | _ :: _, [] => rfl
  | x :: k, y :: l => by
    show (x + y) :: plusP k l = (y + x) :: plusP l k
    rw [plusP_comm k l, Int.add_comm]
theorem plusP_assoc : ∀ k l m : Pl, plusP (plusP k l) m = plusP k (plusP l m)
  | [], l, m => by cases l <;> cases m <;> rfl
  | _ :: _, [], m => by cases m <;> rfl
  | _ :: _, _ :: _, [] => rfl
  | x :: k, y :: l, z :: m => by
    show (x + y + z) :: plusP (plusP k l) m = (x + (y + z)) :: plusP k (plusP l m)
    rw [plusP_assoc k l m, Int.add_assoc]
theorem negP_plus : ∀ k l : Pl, negP (plusP k l) = plusP (negP k) (negP l)
  | [], l => by cases l <;> rfl
  | _ :: _, [] => rfl
  | x :: k, y :: l => by
    show (-(x + y)) :: negP (plusP k l) = (-x + -y) :: plusP (negP k) (negP l)
    rw [negP_plus k l, Int.neg_add]
theorem negP_neg : ∀ k : Pl, negP (negP k) = k
  | [] => rfl
  | x :: k => by
    show (- -x) :: negP (negP k) = x :: k
    rw [negP_neg k, Int.neg_neg]
theorem mirL_mir (es : List Ent) : mirL (mirL es) = es := by
  show (es.map _).map _ = es
  rw [List.map_map]
  have : es.map id = es := List.map_id es
  conv => rhs; rw [← this]
  refine List.map_congr_left fun e _ => ?_
  show (negP (negP e.1), e.2) = e
  rw [negP_neg]
theorem mirL_times (es fs : List Ent) : mirL (timesL es fs) = timesL (mirL es) (mirL fs) := prodL_map negP_plus fs es
theorem times_comm (es fs : List Ent) (q : Pl) : numAt (timesL es fs) q = numAt (timesL fs es) q := prodL_comm plusP_comm es fs q
theorem times_congr {a b c d : List Ent} (h : ∀ q, numAt a q = numAt b q) (k : ∀ q, numAt c q = numAt d q) (q : Pl) : numAt (timesL a c) q = numAt (timesL b d) q := numAt_prodL_eq plusP h k q
theorem mir_congr {a b : List Ent} (h : ∀ q, numAt a q = numAt b q) (q : Pl) : numAt (mirL a) q = numAt (mirL b) q := numAt_mapF_eq negP h q
/-- sums of products: the cross table -/
def crossL (es fs : List Ent) : List Ent := timesL es (mirL fs)
theorem cross_congr {a b c d : List Ent} (h : ∀ q, numAt a q = numAt b q) (k : ∀ q, numAt c q = numAt d q) (q : Pl) : numAt (crossL a c) q = numAt (crossL b d) q := times_congr h (mir_congr k) q
/-- the mirror of a cross table is the other one -/
theorem cross_mir (es fs : List Ent) (q : Pl) : numAt (mirL (crossL es fs)) q = numAt (crossL fs es) q := by
  unfold crossL
  rw [mirL_times, mirL_mir]
  exact times_comm _ _ q
theorem own_mir (es : List Ent) (q : Pl) : numAt (crossL (mirL es) (mirL es)) q = numAt (crossL es es) q := by
  unfold crossL
  rw [mirL_mir]
  exact times_comm _ _ q
theorem own_times (a b : List Ent) (q : Pl) : numAt (crossL (timesL a b) (timesL a b)) q = numAt (timesL (crossL a a) (crossL b b)) q := by
  unfold crossL
  rw [mirL_times]
  exact prodL_four plusP_comm plusP_assoc a b (mirL a) (mirL b) q
theorem own_flip (F S : List Ent) {R EX : List Ent} (hR : ∀ q, numAt R q = numAt (timesL F S) q) (hE : ∀ q, numAt EX q = numAt (timesL (mirL F) S) q) (q : Pl) : numAt (crossL EX EX) q = numAt (crossL R R) q := by
  rw [cross_congr hE hE, cross_congr hR hR, own_times, own_times]
  exact times_congr (own_mir F) (fun _ => rfl) q

set_option Elab.async false
set_option linter.all false
set_option maxRecDepth 100000
set_option maxHeartbeats 4000000
section
variable {P : Program} {w : World} {K : PySem.W.Frag} {mg : Str → Option Value} {base : Heap}
def spCr (K : PySem.W.Frag) (M : Addr) : Sp := fun vs H Q E => ∃ (a b : Addr) (xs ys : List V) (es fs : List Ent) (n m C : Nat), vs = [.ref a, .ref b] ∧ TwoR K H a b xs ys es fs n m C ∧ es.length * fs.length < 2000 ∧ (∀ g ∈ fs, -(2 ^ 64) < g.2 ∧ g.2 < 2 ^ 64) ∧
  (mixB es fs = true → ∀ d H', Same H H' → H' d = some (.xd errM) → E (.ref M) (some d) H') ∧
  (mixB es fs = false → (es ≠ [] → fs ≠ [] → n = m) ∧ wantRow H (timesL es (mirP fs)) Q)
theorem dimE_mir {n : Nat} {es : List Ent} (h : ∀ e ∈ es, e.1.length = n) : dimE (mirP es) = dimE es := by
  by_cases c : es = []
  · subst c
    rfl
  · rw [dimE_eq (mirP_dim h) (fun z => c (mirP_nil.mp z)), dimE_eq h c]
theorem ok_cross_table {f M fM : Addr} {fd fdM : FuncData} (D : C8.Def K mg "cross_table" s_cross_table f fd) (T : Bi mg) (DM : C8.Def K mg "multiply" s_multiply fM fdM) (bM : Binds K fdM ["first", "second"] []) (GM : FnOk P w K mg base (L2N.CX P w) 5 fM fdM ["first", "second"] (spMul K M))
    (c_mirror : C8.Cal P w K mg base 1 "mirror" spMirror []) : FnOk P w K mg base (L2N.CX P w) 6 f fd ["first", "second"] (spCr K M) := by
  obtain ⟨oc, od, dV, kV, doc, pm, an, cdv, ct, osl, rfl, lk, hcd⟩ := D.fn.ex
  refine fn_of lk hcd sc_cross_table (fun vs H Q E h => ?_) fun A outer s H vs Q E hr h => ?_
  · obtain ⟨a, b, xs, ys, es, fs, n, m, C, rfl, _⟩ := h
    rfl
  · obtain ⟨a, b, xs, ys, es, fs, n, m, C, rfl, R, hz, hnb, qE, qN⟩ := h
    refine ⟨_, (pss_one (ps_ret (pe_callS GM hr rfl DM.mgf DM.kp bM (fun σ => L2N.passAt (L2N.takes_of rfl rfl rfl rfl) σ) (pa_cons (pv 0) (pa_cons (C8.pe_c c_mirror hr (by decide) (by rfl) (pa_cons (pv 1) pa_nil)) pa_nil))))), ?_⟩
    have m3 := R.m3
    refine ⟨_, rfl, _, rfl, b, ys, fs, rfl, R.hb, R.f, Nat.le_trans R.zf (by decide), fun e he => by rw [R.df e he]; omega, fun p ws H2 s2 np hp hW => ?_⟩
    have R2 := R.mono s2
    have T2 : TwoR K H2 a p xs ws es (mirP fs) n m C := ⟨R2.ha, hp, R2.e, hW, R2.ze, by rw [mirP_len]; exact R2.zf, R2.de, mirP_dim R2.df, R2.n3, R2.m3, R2.ce, mirP_c R2.cf, R2.c⟩
    have hdm : mixL ((dims [es, mirP fs]).filter nz) = mixB es fs := by
      rw [mixD]
      unfold mixB
      rw [dimE_mir R.df]
    refine ⟨a, p, xs, ws, es, mirP fs, n, m, C, rfl, T2, by rw [mirP_len]; exact hz, mirP_u (P := fun z => -(2 ^ 64) < z ∧ z < 2 ^ 64) hnb, fun hm d H3 s3 hd => ?_, fun hm => ?_⟩
    · rw [hdm] at hm
      exact qE hm d H3 (s2.trans s3) hd
    · rw [hdm] at hm
      obtain ⟨h1, h2⟩ := qN hm
      refine ⟨fun z1 z2 => h1 z1 fun z => z2 (by rw [z]; rfl), wantRow.mono s2 h2⟩
def spCrC (K : PySem.W.Frag) : Sp := fun vs H Q _ => ∃ (a b : Addr) (xs ys : List V) (es fs : List Ent) (n C : Nat), vs = [.ref a, .ref b] ∧ TwoR K H a b xs ys es fs n n C ∧ es.length * fs.length < 2000 ∧ (∀ g ∈ fs, -(2 ^ 64) < g.2 ∧ g.2 < 2 ^ 64) ∧ wantRow H (timesL es (mirP fs)) Q
theorem crossC {M : Addr} : ∀ vs H Q E, spCrC K vs H Q E → spCr K M vs H Q E0 := fun vs H Q E ⟨a, b, xs, ys, es, fs, n, C, e, R, hz, hb, q⟩ =>
  ⟨a, b, xs, ys, es, fs, n, n, C, e, R, hz, hb, fun hm => (by rw [mixB_same (fun _ _ => rfl) R.de R.df] at hm; cases hm), fun _ => ⟨fun _ _ => rfl, q⟩⟩
end






set_option Elab.async false
set_option linter.all false
set_option maxRecDepth 100000
set_option maxHeartbeats 2000000
section
variable {P : Program} {w : World} {K : PySem.W.Frag} {mg : Str → Option Value} {base : Heap}
/-- a list of entries of places that are not empty -/
def spMinus : Sp := fun vs H Q _ => ∃ (a b : Addr) (xs ys : List V) (es fs : List Ent), vs = [.ref a, .ref b] ∧ Lst H a xs es ∧ Lst H b ys fs ∧ ∀ g, RowIs g (scaleL fs (-1)) → ∀ H2, Same H H2 → wantRow H2 (es ++ g) Q
theorem c__law_minus {f : Addr} {fd : FuncData} (D : C8.Def K mg "_law_minus" s__law_minus f fd) (b : Binds K fd ["_law_first", "_law_second"] []) (T : Bi mg) (c__law_row : C8.Cal P w K mg base 1 "_law_row" (spGather K) []) (c__law_scaled : C8.Cal P w K mg base 2 "_law_scaled" spScaled []) : C8.Cal P w K mg base 3 "_law_minus" spMinus [] := by
  refine C8.cal0 D b .nil sc__law_minus (fun vs H Q E h => ?_) (fun cdv A outer s H vs Q E hr h => ?_)
  · obtain ⟨a, b, xs, ys, es, fs, rfl, _⟩ := h
    rfl
  · obtain ⟨a, b, xs, ys, es, fs, rfl, hA, hB, q⟩ := h
    refine ⟨_, (pss_one (ps_ret (C8.pe_c c__law_row hr (by decide) (by rfl) (pa_cons (pe_op op_cat (pv 0) (C8.pe_c c__law_scaled hr (by decide) (by rfl) (pa_cons (pv 1) (pa_cons (pe_un un_neg pe_int) pa_nil)))) pa_nil)))), ?_⟩
    have z1 := hA.z
    have z2 := hB.z
    refine ⟨_, rfl, _, rfl, 1, rfl, b, ys, fs, -1, rfl, hB, ⟨by decide, by decide⟩, fun g p ws H2 hg sm np hp he => ?_⟩
    have hgl := hg.len
    unfold scaleL at hgl
    rw [List.length_map] at hgl
    have h1 := hA.e.len
    have h2 := he.len
    refine ⟨a, p, _, _, rfl, rfl, sm _ _ hA.l, hp, Nat.le_of_lt (small100k (by omega)), fun p3 np3 => ?_⟩
    have s3 : Same H2 (upd H2 p3 (.lst (xs ++ ws))) := same_upd np3
    refine ⟨p3, xs ++ ws, es ++ g, rfl, ⟨.inl (.inl upd_same), ((hA.e.mono sm).app he).mono s3, by rw [List.length_append]; exact small100k (by omega)⟩, fun e he2 => ?_, (q g hg H2 sm).mono s3⟩
    rcases List.mem_append.mp he2 with he2 | he2
    · exact hA.p e he2
    · obtain ⟨y, hy, ey⟩ := hg.mem he2
      obtain ⟨u, hu, rfl⟩ := List.mem_map.mp hy
      rw [← ey]
      exact hB.p u hu
end

set_option Elab.async false
set_option linter.all false
set_option maxRecDepth 100000
set_option maxHeartbeats 2000000
theorem walk_zipT' {K : PySem.W.Frag} {a b : Addr} {xs ys : List V} : Walk (RZ.ItzT K a b) (min xs.length ys.length) (fun H => SqT K H a xs ∧ SqT K H b ys) (YPair (fun i => xs[i]?) (fun i => ys[i]?)) := by
  refine ⟨fun i _ hi q => ?_, fun _ q => ⟨xs, ys, q.1, q.2, by omega⟩, fun i H v H' _ q y => ?_⟩
  · exact ⟨xs, ys, xs[i]'(by omega), ys[i]'(by omega), q.1, q.2, List.getElem?_eq_getElem _, List.getElem?_eq_getElem _⟩
  · obtain ⟨t, x, z, e, n, h, k1, k2⟩ := y
    exact ⟨t, x, z, e, n, h, k1 xs q.1, k2 ys q.2⟩
section
variable {P : Program} {w : World} {K : PySem.W.Frag} {mg : Str → Option Value} {base : Heap}
/-- the entries times a factor; none, if it is 0 -/
def scaleP (es : List Ent) (f : Int) : List Ent := if f = 0 then [] else scaleL es f
theorem scaleP_valid {es : List Ent} {f : Int} (h : Valid es) : Valid (scaleP es f) := by
  unfold scaleP
  by_cases z : f = 0
  · rw [if_pos z]
    exact ⟨.nil, fun e he => by cases he⟩
  · rw [if_neg z]
    refine ⟨?_, fun e he => ?_⟩
    · unfold scaleL
      rw [List.pairwise_map]
      exact h.asc
    · obtain ⟨y, hy, rfl⟩ := List.mem_map.mp he
      exact fun c => (Int.mul_eq_zero.mp c).elim (h.nz y hy) z
theorem scaleL_sum (es : List Ent) (f : Int) (q : Pl) : numAt (scaleL es f) q = numAt es q * f := by
  induction es with
  | nil =>
    show (0 : Int) = 0 * f
    rw [Int.zero_mul]
  | cons e r ih =>
    show (if e.1 = q then e.2 * f else 0) + numAt (scaleL r f) q = ((if e.1 = q then e.2 else 0) + numAt r q) * f
    rw [ih, Int.add_mul]
    by_cases c : e.1 = q
    · rw [if_pos c, if_pos c]
    · rw [if_neg c, if_neg c, Int.zero_mul]
theorem scaleP_is {es : List Ent} {f : Int} (h : Valid es) : RowIs (scaleP es f) (scaleL es f) := by
  refine ⟨scaleP_valid h, fun q => ?_⟩
  unfold scaleP
  by_cases z : f = 0
  · rw [if_pos z, scaleL_sum, z, Int.mul_zero]
    rfl
  · rw [if_neg z]
def spScale : Sp := fun vs H Q _ => ∃ (a : Addr) (xs : List V) (es : List Ent) (m : Int), vs = [.ref a, .int m] ∧ H a = some (.lst xs) ∧ Ents H xs es ∧ es.length ≤ 1000 ∧ (-(2 ^ 64) < m ∧ m < 2 ^ 64) ∧ ∀ p ws H', Same H H' → H p = none → H' p = some (.lst ws) → Ents H' ws (scaleP es m) → Q (.ref p) H'
theorem c_scale {f : Addr} {fd : FuncData} (D : C8.Def K mg "scale" s_scale f fd) (b : Binds K fd ["row", "factor"] []) (T : Bi mg) : C8.Cal P w K mg base 1 "scale" spScale [] := by
  refine C8.cal0 D b .nil sc_scale (fun vs H Q E h => ?_) (fun cdv A outer s H vs Q E hr h => ?_)
  · obtain ⟨a, xs, es, m, rfl, _⟩ := h
    rfl
  · obtain ⟨a, xs, es, m, rfl, ha, hE, hz, hm, q⟩ := h
    refine ⟨_, (pss_one (ps_ret (pe_lc (own := [("place", 2), ("number", 3)]) (g := (gTup K 2 (gCons (gName 2) (gCons (gName 3) gNil)))) rfl sc_scale.nd (pi_list (pv 0)) (blkOk_by (N := ["row", "factor", "place", "number"]) (sc := C8.fnScope s_scale) (by decide +kernel)) (fun _ _ _ _ _ => (pg_tup rfl (pgs_cons (pg_name (i := 2) sc_scale.nd rfl (Or.inl rfl)) (pgs_cons (pg_name (i := 3) sc_scale.nd rfl (Or.inl rfl)) pgs_nil)))) (fun _ _ _ _ _ => (pts_one (pt_cmpR op_ne (pv 1) pe_int (nomark _)))) (fun _ _ _ _ _ => (pe_tup (pa_cons (pv 2) (pa_cons (pe_op op_mul (pv 3) (pv 1)) pa_nil))))))), ?_⟩
    have hS : SqL K H a xs := .inl (.inl ha)
    have hx := hE.len
    refine ⟨_, rfl, a, rfl, ⟨_, hS⟩, fun p np => ?_⟩
    refine lc_list (K := K) (xs := xs) (fun i H2 => Same H H2 ∧ ∃ ws, H2 p = some (.lst ws) ∧ Ents H2 ws (scaleP (es.take i) m)) ?_ ?_ ?_ ?_
    · refine ⟨same_upd np, [], upd_same, ?_⟩
      have : scaleP (es.take 0) m = [] := by
        unfold scaleP
        by_cases z : m = 0
        · rw [if_pos z]
        · rw [if_neg z]
          rfl
      rw [this]
      exact .nil
    · rintro i H2 _ ⟨sm, _⟩
      exact sm.seq hS
    · rintro i x H2 hxi ⟨sm, ws, hp, hW⟩
      obtain ⟨e, he, t, pe, rfl, ht, hpe⟩ := (hE.mono sm).get hxi
      obtain ⟨hi, hee⟩ := List.getElem?_eq_some_iff.mp he
      refine ⟨t, _, rfl, .inl (.inl ht), rfl, _, _, rfl, _, _, rfl, rfl, rfl, ?_⟩
      refine ⟨_, rfl, rfl, _, rfl, iteND (fun h0 => ?_) (fun h0 => ?_)⟩
      · have hm0 : m ≠ 0 := fun z => h0 (by rw [z])
        refine ⟨_, rfl, _, rfl, _, rfl, _, _, rfl, rfl, .inr hm, (by show 2 ≤ sizeLine; decide), fun t4 nt4 => ?_⟩
        have sm4 : Same H2 (upd H2 t4 (.tup [.ref pe, .int (e.2 * m)])) := same_upd nt4
        have hv : EntAt (upd H2 t4 (.tup [.ref pe, .int (e.2 * m)])) (.ref t4) (e.1, e.2 * m) := ⟨t4, pe, rfl, upd_same, sm4 _ _ hpe⟩
        have hD := sm4 _ _ hp
        have hwl := hW.len
        unfold scaleP at hW hwl ⊢
        rw [if_neg hm0] at hW hwl ⊢
        refine ⟨ws, hD, ?_, same_mut (sm.trans sm4) np, ws ++ [.ref t4], upd_same, ?_⟩
        · unfold scaleL at hwl
          rw [List.length_map, List.length_take] at hwl
          exact small100k (by omega)
        · unfold scaleL
          rw [take_snoc he, List.map_append]
          exact ((hW.mono sm4).app (.cons hv .nil)).updL hD
      · have hm0 : m = 0 := V.int.inj h0
        refine ⟨sm, ws, hp, ?_⟩
        unfold scaleP at hW ⊢
        rw [if_pos hm0] at hW ⊢
        exact hW
    · rintro H2 ⟨sm, ws, hp, hW⟩
      rw [hx, List.take_length] at hW
      exact q p ws H2 sm np hp hW
end

set_option Elab.async false
set_option linter.all false
set_option maxRecDepth 100000
set_option maxHeartbeats 2000000
section
variable {P : Program} {w : World} {K : PySem.W.Frag} {mg : Str → Option Value} {base : Heap}
theorem c_row_of {f : Addr} {fd : FuncData} (D : C8.Def K mg "row_of" s_row_of f fd) (b : Binds K fd ["numbers"] []) (T : Bi mg) : C8.Cal P w K mg base 1 "row_of" (spRowOf K) [] := by
  refine C8.cal0 D b .nil sc_row_of (fun vs H Q E h => ?_) (fun cdv A outer s H vs Q E hr h => ?_)
  · obtain ⟨d, kvs, ks, es, rfl, _⟩ := h
    rfl
  · obtain ⟨d, kvs, ks, es, rfl, hd, hs, hne, hz, q⟩ := h
    refine ⟨_, (pss_one (ps_ret (pe_lc (own := [("place", 1)]) (g := (gName 1)) rfl sc_row_of.nd (pi_list (pe_callB (cr_sortedDT rfl) (by rfl) T.n_sorted OT.b_sorted (pa_cons (pv 0) pa_nil))) (blkOk_by (N := ["numbers", "place"]) (sc := C8.fnScope s_row_of) (by decide +kernel)) (fun _ _ _ _ _ => (pg_name (i := 1) sc_row_of.nd rfl (Or.inl rfl))) (fun _ _ _ _ _ => (pts_one (pt_cmpR op_ne (pe_dget (hu_of hr) (pv 0) (pv 1) (fun _ _ => rfl)) pe_int (nomark _)))) (fun _ _ _ _ _ => (pe_tup (pa_cons (pv 1) (pa_cons (pe_dget (hu_of hr) (pv 0) (pv 1) (fun _ _ => rfl)) pa_nil))))))), ?_⟩
    refine ⟨_, rfl, d, kvs, ks, rfl, .inl hd, hs.keys, fun _ => hne, fun out p perm pw nod held np => ?_⟩
    refine ⟨p, rfl, ⟨_, .inl (.inl upd_same)⟩, fun D nD => ?_⟩
    have hpD : p ≠ D := ne_of_none upd_same nD
    obtain ⟨hDn, _⟩ := none_of_upd nD
    have hkd : ∀ x ∈ out, x.2 ∈ ks := fun x hx => perm.mem_iff.mp (List.mem_map_of_mem hx)
    refine lc_list (K := K) (a := p) (xs := out.map fun x => V.ref x.1) (fun i H2 => Same H H2 ∧ H2 p = some (.lst (out.map fun x => V.ref x.1)) ∧ ∃ ws, H2 D = some (.lst ws) ∧ Ents H2 ws (mkR (numAt es) ((out.take i).map (·.2)))) ?_ ?_ ?_ ?_
    · refine ⟨(same_upd np).trans (same_upd nD), ?_, [], upd_same, .nil⟩
      rw [upd_ne hpD, upd_same]
    · rintro i H2 _ ⟨_, hp, _⟩
      exact .inl (.inl hp)
    · rintro i x H2 hx ⟨sm, hp, ws, hD, hE⟩
      obtain ⟨hi, rfl⟩ := getm hx
      have hm := List.getElem_mem hi
      have hk := sm _ _ (held _ hm)
      have hv := hs.get (hkd _ hm)
      have hd2 := sm _ _ hd
      refine ⟨rfl, _, rfl, _, rfl, d, _, rfl, dgetT hd2 hk hv, ?_⟩
      refine ⟨rfl, _, rfl, ?_⟩
      have htk : (out.take (i + 1)).map (·.2) = (out.take i).map (·.2) ++ [out[i].2] := take_map_succ (·.2) hi
      rw [htk, mkR_snoc]
      refine iteND (fun hn => ?_) (fun h0 => ?_)
      · have hn0 : numAt es out[i].2 ≠ 0 := fun z => hn (by rw [z])
        rw [if_neg hn0]
        refine ⟨_, rfl, _, rfl, _, rfl, d, _, rfl, dgetT hd2 hk hv, (by show 2 ≤ sizeLine; decide), fun t nt => ?_⟩
        have ntD : D ≠ t := ne_of_none hD nt
        have smt : Same H2 (upd H2 t (.tup [.ref out[i].1, .int (numAt es out[i].2)])) := same_upd nt
        have hD3 := smt _ _ hD
        refine ⟨ws, hD3, ?_, same_mut (sm.trans smt) hDn, ?_, ws ++ [.ref t], upd_same, ?_⟩
        · have h1 := hE.len
          have h2 := mkR_len (numAt es) ((out.take i).map (·.2))
          have h3 := perm.length_eq
          rw [List.length_map] at h2 h3
          rw [List.length_take] at h2
          omega
        · rw [upd_ne hpD]
          exact smt _ _ hp
        · refine ((hE.mono smt).updL hD3).app (.cons (EntAt.updL hD3 ⟨t, _, rfl, upd_same, ?_⟩) .nil)
          exact smt _ _ hk
      · have h0' : numAt es out[i].2 = 0 := V.int.inj h0
        rw [if_pos h0', List.append_nil]
        exact ⟨sm, hp, ws, hD, hE⟩
    · rintro H2 ⟨sm, hp, ws, hD, hE⟩
      rw [List.length_map, List.take_length] at hE
      exact q _ D ws H2 (row_sorted perm pw nod hs.out) sm hDn hD hE
theorem c_gather {f : Addr} {fd : FuncData} (D : C8.Def K mg "gather" s_gather f fd) (b : Binds K fd ["entries"] []) (T : Bi mg) (c_row_of : C8.Cal P w K mg base 1 "row_of" (spRowOf K) []) : C8.Cal P w K mg base 2 "gather" (spGather K) [] := by
  refine C8.cal0 D b .nil sc_gather (fun vs H Q E h => ?_) (fun cdv A outer s H vs Q E hr h => ?_)
  · obtain ⟨a, xs, es, rfl, _⟩ := h
    rfl
  · obtain ⟨a, xs, es, rfl, hE, hne, q⟩ := h
    refine ⟨_, (pss_cons (ps_set (i := 1) sc_gather.nd rfl (Or.inl rfl) pe_dnewT)
  (pss_cons (ps_for PassesOwn.never rfl (pi_list (pv 0)) (pg_tup rfl (pgs_cons (pg_name (i := 2) sc_gather.nd rfl (Or.inl rfl)) (pgs_cons (pg_name (i := 3) sc_gather.nd rfl (Or.inl rfl)) pgs_nil))) (pss_one (ps_dput (hu_of hr) (pv 1) (pv 2) (pe_op op_add (pe_dget2 (hu_of hr) (pv 1) (pv 2) pe_int ⟨rfl, rfl, rfl, rfl⟩) (pv 3)) rfl)))
  (pss_one (ps_ret (C8.pe_c c_row_of hr (by decide) (by rfl) (pa_cons (pv 1) pa_nil)))))), ?_⟩
    refine fun d nd => ?_
    have s1 : Same H (upd H d (.dT [])) := same_upd nd
    refine ⟨_, rfl, a, rfl, ⟨xs, s1.seq hE.l⟩, ?_⟩
    refine for_list (K := K) (xs := xs) (fun i σ H2 => ∃ (kvs : List (List Key × V)) (ks : List Pl) (y2 y3 : Option V), σ = [some (.ref a), some (.ref d), y2, y3] ∧ Same H H2 ∧ H2 d = some (.dT kvs) ∧ Sums kvs ks (numAt (es.take i)) ∧ (∀ k ∈ ks, k ≠ []) ∧ ks.length ≤ i) ?_ ?_ ?_ ?_
    · exact ⟨[], [], none, none, rfl, s1, upd_same, Sums.nil, fun k hk => (by cases hk), Nat.le_refl _⟩
    · rintro i σ H2 _ ⟨_, _, _, _, _, sm, _⟩
      exact sm.seq hE.l
    · rintro i x σ H2 hx ⟨kvs, ks, y2, y3, rfl, sm, hd, hs, hk, hl⟩
      obtain ⟨e, he, hv⟩ := (hE.e.mono sm).get hx
      obtain ⟨t, p, rfl, ht, hp⟩ := hv
      have hi := (List.getElem?_eq_some_iff.mp he).1
      have hm : e ∈ es := List.mem_of_getElem? he
      have hz := hE.z
      refine ⟨t, _, rfl, .inl (.inl ht), rfl, _, _, rfl, _, _, rfl, rfl, ?_⟩
      refine ⟨_, rfl, d, rfl, .inr ⟨kvs, .inl hd⟩, _, rfl, _, dgetT hd hp rfl, _, rfl, numAt (es.take i) e.1, e.2, hs.getD _, rfl, _, rfl, _, rfl, d, _, rfl, DPut.t hd (k := e.1.map Sum.inl) (by rw [kV_ints]; exact hp) ?_, ?_⟩
      · rw [hs.len]
        omega
      · exact ⟨_, _, _, _, rfl, same_mut sm nd, upd_same, hs.next he, put_keys_ne hk (hne e hm), put_keys_len hl⟩
    · rintro σ H2 ⟨kvs, ks, y2, y3, rfl, sm, hd, hs, hk, hl⟩
      have hz := hE.z
      have hlen := hE.e.len
      rw [hlen, List.take_length] at hs
      refine ⟨_, rfl, d, kvs, ks, es, rfl, hd, hs, hk, by omega, fun r p ws H3 hr sm3 np hp he => ?_⟩
      refine q r p ws H3 hr (sm.trans sm3) ?_ hp he
      cases z : H p with
      | none => rfl
      | some o =>
        rw [sm _ _ z] at np
        cases np
end

set_option Elab.async false
set_option linter.all false
set_option maxRecDepth 100000
set_option maxHeartbeats 2000000
section
variable {P : Program} {w : World} {K : PySem.W.Frag} {mg : Str → Option Value} {base : Heap}
def spNeg : Sp := fun vs H Q _ => ∃ (a : Addr) (xs : List V) (es : List Ent), vs = [.ref a] ∧ H a = some (.lst xs) ∧ Ents H xs es ∧ es.length ≤ 1000 ∧ ∀ p ws H', Same H H' → H p = none → H' p = some (.lst ws) → Ents H' ws (scaleP es (-1)) → Q (.ref p) H'
theorem c_negate {f : Addr} {fd : FuncData} (D : C8.Def K mg "negate" s_negate f fd) (b : Binds K fd ["row"] []) (T : Bi mg) (c_scale : C8.Cal P w K mg base 1 "scale" spScale []) : C8.Cal P w K mg base 2 "negate" spNeg [] := by
  refine C8.cal0 D b .nil sc_negate (fun vs H Q E h => ?_) (fun cdv A outer s H vs Q E hr h => ?_)
  · obtain ⟨a, xs, es, rfl, _⟩ := h
    rfl
  · obtain ⟨a, xs, es, rfl, ha, hE, hz, q⟩ := h
    refine ⟨_, (pss_one (ps_ret (C8.pe_c c_scale hr (by decide) (by rfl) (pa_cons (pv 0) (pa_cons (pe_un un_neg pe_int) pa_nil))))), ?_⟩
    exact ⟨_, rfl, 1, rfl, a, xs, es, -1, rfl, ha, hE, hz, by decide, q⟩
def spSum (K : PySem.W.Frag) (M : Addr) : Sp := fun vs H Q E => ∃ (a b : Addr) (xs ys : List V) (es fs : List Ent), vs = [.ref a, .ref b] ∧ H a = some (.lst xs) ∧ H b = some (.lst ys) ∧ Ents H xs es ∧ Ents H ys fs ∧ es.length ≤ 1000 ∧ fs.length ≤ 1000 ∧ (∀ e ∈ es ++ fs, e.1 ≠ []) ∧
  (mixL ((dims [es, fs]).filter nz) = true → ∀ d H', Same H H' → H' d = some (.xd errM) → E (.ref M) (some d) H') ∧
  (mixL ((dims [es, fs]).filter nz) = false → wantRow H (es ++ fs) Q)
theorem ok_add {f M fD A0 : Addr} {fd fdD : FuncData} {ds : List Value} (D : C8.Def K mg "add" s_add f fd) (T : Bi mg) (DD : C8.Def K mg "same_dimension" s_same_dimension fD fdD) (bD : Binds K fdD ["rows", "places"] ds) (hdv : Vals [V.ref A0] ds) (hA0 : ∀ H, SqT K H A0 [])
    (GD : FnOk P w K mg base (L2N.CX P w) 4 fD fdD ["rows", "places"] (spSDT K M)) (c_gather : C8.Cal P w K mg base 2 "gather" (spGather K) []) : FnOk P w K mg base (L2N.CX P w) 5 f fd ["first", "second"] (spSum K M) := by
  obtain ⟨oc, od, dV, kV, doc, pm, an, cdv, ct, osl, rfl, lk, hcd⟩ := D.fn.ex
  refine fn_of lk hcd sc_add (fun vs H Q E h => ?_) fun A outer s H vs Q E hr h => ?_
  · obtain ⟨a, b, xs, ys, es, fs, rfl, _⟩ := h
    rfl
  · obtain ⟨a, b, xs, ys, es, fs, rfl, ha, hb, hE, hF, ze, zf, hne, qE, qN⟩ := h
    refine ⟨_, (pss_cons (ps_expr (pe_callSD GD hr rfl DD.mgf DD.kp bD hdv (fun σ => L2N.passAt (L2N.takes_of rfl rfl rfl rfl) σ) (pa_cons (pe_lst (pa_cons (pv 0) (pa_cons (pv 1) pa_nil))) pa_nil)))
  (pss_one (ps_ret (C8.pe_c c_gather hr (by decide) (by rfl) (pa_cons (pe_lst (StX.pa_star (pv 0) (StX.pa_star (pv 1) pa_nil))) pa_nil))))), ?_⟩
    refine ⟨_, rfl, _, rfl, (by show 2 ≤ sizeLine; decide), fun p1 np1 => ?_⟩
    have s1 : Same H (upd H p1 (.lst [.ref a, .ref b])) := same_upd np1
    refine ⟨p1, A0, [.ref a, .ref b], [es, fs], rfl, .inl (.inl upd_same), .cons (s1 _ _ ha) (hE.mono s1) (.cons (s1 _ _ hb) (hF.mono s1) .nil), hA0 _, (by show 2 ≤ 1000; decide), fun hm d H3 sm hd => qE hm d H3 (s1.trans sm) hd, fun hm H3 sm3 => ?_⟩
    have sA := s1.trans sm3
    have q := qN hm
    have hE3 := hE.mono sA
    have hF3 := hF.mono sA
    have l1 := hE3.len
    have l2 := hF3.len
    refine ⟨_, rfl, a, xs, rfl, .inr (.inl (.inl (sA _ _ ha))), _, rfl, b, ys, rfl, .inr (.inl (.inl (sA _ _ hb))), ?_, fun p4 np4 => ?_⟩
    · rw [List.append_nil, List.length_append]
      exact Nat.le_of_lt (small100k (by omega))
    have s4 : Same H3 (upd H3 p4 (.lst (xs ++ (ys ++ [])))) := same_upd np4
    refine ⟨p4, xs ++ ys, es ++ fs, rfl, ⟨.inl (.inl (by rw [upd_same, List.append_nil])), (hE3.mono s4).app (hF3.mono s4), ?_⟩, hne, wantRow.mono (sA.trans s4) q⟩
    · rw [List.length_append]
      exact small100k (by omega)
def spDif (K : PySem.W.Frag) (M : Addr) : Sp := fun vs H Q E => ∃ (a b : Addr) (xs ys : List V) (es fs : List Ent), vs = [.ref a, .ref b] ∧ H a = some (.lst xs) ∧ H b = some (.lst ys) ∧ Ents H xs es ∧ Ents H ys fs ∧ es.length ≤ 1000 ∧ fs.length ≤ 1000 ∧ (∀ e ∈ es ++ fs, e.1 ≠ []) ∧
  (mixL ((dims [es, fs]).filter nz) = true → ∀ d H', Same H H' → H' d = some (.xd errM) → E (.ref M) (some d) H') ∧
  (mixL ((dims [es, fs]).filter nz) = false → wantRow H (es ++ scaleP fs (-1)) Q)
theorem dimE_scale {es : List Ent} {s : Int} (hs : s ≠ 0) : dimE (scaleP es s) = dimE es := by
  unfold scaleP
  rw [if_neg hs]
  cases es <;> rfl
theorem ok_subtract {f M fA : Addr} {fd fdA : FuncData} (D : C8.Def K mg "subtract" s_subtract f fd) (T : Bi mg) (DA : C8.Def K mg "add" s_add fA fdA) (bA : Binds K fdA ["first", "second"] []) (GA : FnOk P w K mg base (L2N.CX P w) 5 fA fdA ["first", "second"] (spSum K M))
    (c_negate : C8.Cal P w K mg base 2 "negate" spNeg []) : FnOk P w K mg base (L2N.CX P w) 6 f fd ["first", "second"] (spDif K M) := by
  obtain ⟨oc, od, dV, kV, doc, pm, an, cdv, ct, osl, rfl, lk, hcd⟩ := D.fn.ex
  refine fn_of lk hcd sc_subtract (fun vs H Q E h => ?_) fun A outer s H vs Q E hr h => ?_
  · obtain ⟨a, b, xs, ys, es, fs, rfl, _⟩ := h
    rfl
  · obtain ⟨a, b, xs, ys, es, fs, rfl, ha, hb, hE, hF, ze, zf, hne, qE, qN⟩ := h
    refine ⟨_, (pss_one (ps_ret (pe_callS GA hr rfl DA.mgf DA.kp bA (fun σ => L2N.passAt (L2N.takes_of rfl rfl rfl rfl) σ) (pa_cons (pv 0) (pa_cons (C8.pe_c c_negate hr (by decide) (by rfl) (pa_cons (pv 1) pa_nil)) pa_nil))))), ?_⟩
    refine ⟨_, rfl, _, rfl, b, ys, fs, rfl, hb, hF, zf, fun p2 ws H2 s2 np2 hp2 hW => ?_⟩
    have hdm : dims [es, scaleP fs (-1)] = dims [es, fs] := by
      show [((dimE es : Nat) : Int), ((dimE (scaleP fs (-1)) : Nat) : Int)] = _
      rw [dimE_scale (by decide)]
      rfl
    have hln : (scaleP fs (-1)).length = fs.length := by
      unfold scaleP
      rw [if_neg (by decide)]
      exact List.length_map _
    refine ⟨a, p2, xs, ws, es, scaleP fs (-1), rfl, s2 _ _ ha, hp2, hE.mono s2, hW, ze, by omega, fun e he => ?_, fun hm d H3 s3 hd => ?_, fun hm => ?_⟩
    · rcases List.mem_append.mp he with he | he
      · exact hne e (List.mem_append_left _ he)
      · unfold scaleP at he
        rw [if_neg (by decide)] at he
        obtain ⟨x, hx, rfl⟩ := List.mem_map.mp he
        exact hne x (List.mem_append_right _ hx)
    · rw [hdm] at hm
      exact qE hm d H3 (s2.trans s3) hd
    · rw [hdm] at hm
      exact wantRow.mono s2 (qN hm)
end

set_option Elab.async false
set_option linter.all false
set_option maxRecDepth 100000
set_option maxHeartbeats 2000000
theorem plus_cancel {n : Nat} {a b l : Pl} (ha : a.length = n) (hb : b.length = n) (hl : l.length = n) (h : plusP l a = plusP l b) : a = b := by
  rw [plusP_comm l a, plusP_comm l b] at h
  have h1 := plusP_lt (a := a) (b := b) (l := l) (by omega) (by omega)
  have h2 := plusP_lt (a := b) (b := a) (l := l) (by omega) (by omega)
  rw [h, lt_irr] at h1
  rw [h, lt_irr] at h2
  exact lt_tot h1.symm h2.symm
theorem rowT_bound {n M : Nat} {e : Ent} (he : e.1.length = n) (q : Pl) : ∀ {G : List Ent}, Valid G → (∀ g ∈ G, g.1.length = n) → (∀ g ∈ G, g.2.natAbs ≤ M) → (numAt (rowT e G) q).natAbs ≤ e.2.natAbs * M
  | [], _, _, _ => Nat.zero_le _
  | g :: G, v, hd, hM => by
    have ih := rowT_bound he q v.tail (fun x hx => hd x (List.mem_cons_of_mem _ hx)) fun x hx => hM x (List.mem_cons_of_mem _ hx)
    show ((if plusP e.1 g.1 = q then e.2 * g.2 else 0) + numAt (rowT e G) q).natAbs ≤ _
    by_cases c : plusP e.1 g.1 = q
    · have z : numAt (rowT e G) q = 0 := numAt_out fun x hx y => by
        obtain ⟨g2, hg2, rfl⟩ := List.mem_map.mp hx
        have y2 : plusP e.1 g2.1 = q := y
        rw [← c] at y2
        have e1 := plus_cancel (hd g2 (List.mem_cons_of_mem _ hg2)) (hd g List.mem_cons_self) he y2
        have h1 := (List.pairwise_cons.mp v.asc).1 g2 hg2
        rw [e1, lt_irr] at h1
        cases h1
      rw [if_pos c, z, Int.add_zero, Int.natAbs_mul]
      exact Nat.mul_le_mul_left _ (hM g List.mem_cons_self)
    · rw [if_neg c, Int.zero_add]
      exact ih
theorem times_bound1 {n M1 M2 : Nat} {G : List Ent} (vG : Valid G) (dG : DimN n G) (hG : ∀ g ∈ G, g.2.natAbs ≤ M2) (q : Pl) : ∀ {F : List Ent}, DimN n F → (∀ e ∈ F, e.2.natAbs ≤ M1) → (numAt (timesL F G) q).natAbs ≤ F.length * (M1 * M2)
  | [], _, _ => Nat.zero_le _
  | e :: F, dF, hF => by
    have ih := times_bound1 vG dG hG q (F := F) (fun x hx => dF x (List.mem_cons_of_mem _ hx)) fun x hx => hF x (List.mem_cons_of_mem _ hx)
    have h1 := rowT_bound (dF e List.mem_cons_self) q vG dG hG
    have h2 : e.2.natAbs * M2 ≤ M1 * M2 := Nat.mul_le_mul_right _ (hF e List.mem_cons_self)
    show (numAt (rowT e G ++ timesL F G) q).natAbs ≤ (F.length + 1) * (M1 * M2)
    rw [numAt_app, Nat.succ_mul]
    have h3 := Int.natAbs_add_le (numAt (rowT e G) q) (numAt (timesL F G) q)
    omega
/-- a number of the product -/
theorem times_bound {n M1 M2 : Nat} {F G : List Ent} (vF : Valid F) (vG : Valid G) (dF : DimN n F) (dG : DimN n G) (hF : ∀ e ∈ F, e.2.natAbs ≤ M1) (hG : ∀ g ∈ G, g.2.natAbs ≤ M2) (q : Pl) : (numAt (timesL F G) q).natAbs ≤ min F.length G.length * (M1 * M2) := by
  have h1 := times_bound1 vG dG hG q dF hF
  have h2 := times_bound1 vF dF hF q dG hG
  rw [times_comm G F q, Nat.mul_comm M2 M1] at h2
  rcases Nat.le_total F.length G.length with h | h
  · rw [Nat.min_eq_left h]
    exact h1
  · rw [Nat.min_eq_right h]
    exact h2
/-- the bits are enough -/
theorem bits_ok {l1 l2 lm : Nat} {x : Int} {a b m : Nat} (ha : a < 2 ^ l1) (hb : b < 2 ^ l2) (hm : m < 2 ^ lm) (h : x.natAbs ≤ m * (a * b)) : -(2 ^ (l1 + l2 + lm + 1) - 2) ≤ 2 * x ∧ 2 * x ≤ (2 : Int) ^ (l1 + l2 + lm + 1) - 2 := by
  have h1 : m * (a * b) < 2 ^ (l1 + l2 + lm) := by
    rw [Nat.pow_add, Nat.pow_add, Nat.mul_comm]
    have p1 : 0 < 2 ^ l1 := Nat.pow_pos (by decide)
    have p2 : 0 < 2 ^ l2 := Nat.pow_pos (by decide)
    have h2 : a * b ≤ 2 ^ l1 * 2 ^ l2 := Nat.mul_le_mul (Nat.le_of_lt ha) (Nat.le_of_lt hb)
    refine Nat.lt_of_le_of_lt (Nat.mul_le_mul_right m h2) ?_
    exact Nat.mul_lt_mul_of_pos_left hm (Nat.mul_pos p1 p2)
  have h3 : x.natAbs + 1 ≤ 2 ^ (l1 + l2 + lm) := by omega
  have h4 : ((2 ^ (l1 + l2 + lm) : Nat) : Int) = (2 : Int) ^ (l1 + l2 + lm) := Int.natCast_pow 2 _
  rw [Int.pow_succ]
  generalize (2 : Int) ^ (l1 + l2 + lm) = X at h4
  omega

set_option Elab.async false
set_option linter.all false
set_option maxRecDepth 100000
set_option maxHeartbeats 2000000
theorem InD.take {p ls ss : Pl} (h : InD p ls ss) : ∀ i, InD (p.take i) (ls.take i) (ss.take i) := by
  induction h with
  | nil => intro i; rw [List.take_nil]; exact .nil
  | cons h1 h2 _ ih =>
    intro i
    match i with
    | 0 => exact .nil
    | i + 1 => exact .cons h1 h2 (ih i)
theorem InD.pos {p ls ss : Pl} (h : InD p ls ss) : ∀ s ∈ ss, 0 < s := by
  induction h with
  | nil => intro s hs; cases hs
  | cons h1 h2 _ ih =>
    intro s hs
    rcases List.mem_cons.mp hs with rfl | hs
    · omega
    · exact ih s hs
theorem box_pos : ∀ {ss : Pl}, (∀ s ∈ ss, 0 < s) → 0 < boxN2 ss
  | [], _ => by decide
  | s :: ss, h => Int.mul_pos (h s List.mem_cons_self) (box_pos fun x hx => h x (List.mem_cons_of_mem _ hx))
theorem box_take : ∀ {ss : Pl}, (∀ s ∈ ss, 0 < s) → ∀ i, boxN2 (ss.take i) ≤ boxN2 ss
  | [], _, i => by rw [List.take_nil]; exact Int.le_refl _
  | s :: ss, h, 0 => box_pos h
  | s :: ss, h, i + 1 => Int.mul_le_mul_of_nonneg_left (box_take (fun x hx => h x (List.mem_cons_of_mem _ hx)) i) (Int.le_of_lt (h s List.mem_cons_self))
theorem box_mem {s : Int} : ∀ {ss : Pl}, (∀ s ∈ ss, 0 < s) → s ∈ ss → s ≤ boxN2 ss
  | t :: ss, h, hs => by
    have h1 := box_pos fun x hx => h x (List.mem_cons_of_mem t hx)
    have ht := h t List.mem_cons_self
    show s ≤ t * boxN2 ss
    rcases List.mem_cons.mp hs with rfl | hs
    · have := Int.mul_le_mul_of_nonneg_left (show 1 ≤ boxN2 ss by omega) (show 0 ≤ s by omega)
      rw [Int.mul_one] at this
      exact this
    · have h2 := box_mem (fun x hx => h x (List.mem_cons_of_mem t hx)) hs
      have := Int.mul_le_mul_of_nonneg_right (show 1 ≤ t by omega) (show 0 ≤ boxN2 ss by omega)
      rw [Int.one_mul] at this
      omega
theorem sqB_mono {K : PySem.W.Frag} {H H' : Hp} {k : Bool} {a : Addr} {xs : List V} (s : Same H H') (h : Z3.SqB K k H a xs) : Z3.SqB K k H' a xs := by
  cases k
  · exact AU.sqLS s h
  · exact AU.sqTS s h
theorem take_snocI {α : Type} {l : List α} {i : Nat} {x : α} (h : l[i]? = some x) : l.take (i + 1) = l.take i ++ [x] := by
  rw [List.take_add_one, h]
  rfl
theorem int_at {l : List Int} {i : Nat} {v : V} (h : (l.map V.int)[i]? = some v) : ∃ z, v = .int z ∧ l[i]? = some z ∧ z ∈ l := by
  rw [List.getElem?_map] at h
  cases e : l[i]? with
  | none => rw [e] at h; cases h
  | some z => rw [e] at h; exact ⟨z, (Option.some.inj h).symm, rfl, List.mem_of_getElem? e⟩
section
variable {P : Program} {w : World} {K : PySem.W.Frag} {mg : Str → Option Value} {base : Heap}
def spDigAt (K : PySem.W.Frag) : Sp := fun vs H Q _ => ∃ (k : Bool) (a b c : Addr) (p ls ss : Pl), vs = [.ref a, .ref b, .ref c] ∧ Z3.SqB K k H a (p.map V.int) ∧ SqL K H b (ls.map V.int) ∧ SqL K H c (ss.map V.int) ∧ InD p ls ss ∧ boxN2 ss ≤ 1000000000 ∧ (∀ x ∈ p, x.natAbs ≤ 1000000000) ∧ (∀ x ∈ ls, x.natAbs ≤ 1000000000) ∧ ∀ H', Same H H' → Q (.int (dgA 0 p ls ss)) H'
theorem c_digit_at {f : Addr} {fd : FuncData} (D : C8.Def K mg "digit_at" s_digit_at f fd) (b : Binds K fd ["place", "lows", "sizes"] []) (T : Bi mg) : C8.Cal P w K mg base 1 "digit_at" (spDigAt K) [] := by
  refine C8.cal0 D b .nil sc_digit_at (fun vs H Q E h => ?_) (fun cdv A outer s H vs Q E hr h => ?_)
  · obtain ⟨k, a, b, c, p, ls, ss, rfl, _⟩ := h
    rfl
  · obtain ⟨k, a, b, c, p, ls, ss, rfl, ha, hb, hc, hin, hz, hp, hl, q⟩ := h
    refine ⟨_, (pss_cons (ps_set (i := 3) sc_digit_at.nd rfl (Or.inl rfl) pe_int)
  (pss_cons (ps_for PassesOwn.never rfl (Z3.pi_zip3 (by rfl) T.n_zip (pa_cons (pv 0) (pa_cons (pv 1) (pa_cons (pv 2) pa_nil)))) (pg_tup rfl (pgs_cons (pg_name (i := 4) sc_digit_at.nd rfl (Or.inl rfl)) (pgs_cons (pg_name (i := 5) sc_digit_at.nd rfl (Or.inl rfl)) (pgs_cons (pg_name (i := 6) sc_digit_at.nd rfl (Or.inl rfl)) pgs_nil)))) (pss_one (ps_set (i := 3) sc_digit_at.nd rfl (Or.inl rfl) (pe_op op_sub (pe_op op_add (pe_op op_mul (pv 3) (pv 6)) (pv 4)) (pv 5)))))
  (pss_one (ps_ret (pv 3))))), ?_⟩
    obtain ⟨l1, l2⟩ := hin.len
    walk_at "st"
    refine Z3.zip3_ ?_
    walk_at "st"
    refine ⟨k, false, false, a, b, c, _, _, _, rfl, ha, hb, hc, ?_⟩
    refine for_it (Z3.walk_zip3 (xs := p.map V.int) (ys := ls.map V.int) (zs := ss.map V.int)) (fun i σ G => ∃ y4 y5 y6 : Option V, Same H G ∧ σ = [some (.ref a), some (.ref b), some (.ref c), some (.int (dgA 0 (p.take i) (ls.take i) (ss.take i))), y4, y5, y6]) ⟨none, none, none, Same.refl _, rfl⟩ ?_ ?_ ?_
    · rintro i σ G _ ⟨_, _, _, sG, _⟩
      exact ⟨sqB_mono sG ha, sG.seq hb, sG.seq hc⟩
    · rintro i x σ G G2 hi ⟨y4, y5, y6, sG, rfl⟩ ⟨T, x, y, z, rfl, nT, rfl, ex, ey, ez⟩
      obtain ⟨xi, rfl, hx, hxm⟩ := int_at ex
      obtain ⟨yi, rfl, hy, hym⟩ := int_at ey
      obtain ⟨zi, rfl, hz2, hzm⟩ := int_at ez
      have sT : Same G (upd G T (.tup [.int xi, .int yi, .int zi])) := same_upd nT
      have hT : (upd G T (.tup [.int xi, .int yi, .int zi])) T = some (.tup [.int xi, .int yi, .int zi]) := upd_same
      generalize (upd G T (.tup [.int xi, .int yi, .int zi])) = G2 at sT hT ⊢
      have hp1 := hp xi hxm
      have hl1 := hl yi hym
      have hpos := hin.pos
      have hz1 := box_mem hpos hzm
      have hz0 := hpos zi hzm
      have hI := hin.take i
      have d0 := dg_low hI (a := 0) (by decide)
      have d1 := dg_high hI (a := 0)
      have d2 := box_take hpos i
      have e := dg_snoc hI xi yi zi 0
      generalize dgA 0 (p.take i) (ls.take i) (ss.take i) = d at d0 d1 e
      refine ⟨T, _, rfl, .inl (.inl hT), rfl, _, _, rfl, _, _, rfl, _, _, rfl, rfl, ?_⟩
      walk_at "st"
      refine ⟨some (.int xi), some (.int yi), some (.int zi), sG.trans sT, ?_⟩
      rw [take_snocI hx, take_snocI hy, take_snocI hz2, e]
      rfl
    · rintro σ G ⟨y4, y5, y6, sG, rfl⟩
      rw [List.length_map, List.length_map, List.length_map, List.take_of_length_le (by omega), List.take_of_length_le (by omega), List.take_of_length_le (by omega)]
      walk_at "st"
      exact q G sG
end

set_option Elab.async false
set_option linter.all false
set_option maxRecDepth 100000
set_option maxHeartbeats 2000000
theorem revL_ {K : PySem.W.Frag} {te : TE} {σ : L2.St} {H : Hp} {Q : V → Hp → Prop} (h : te σ H fun x H1 => ∃ a xs, x = .ref a ∧ SqL K H1 a xs ∧ ∀ p, H1 p = none → Q (.ref p) (upd H1 p (.lst xs.reverse))) : tRevL K te σ H Q := h
theorem zipA_ {K : PySem.W.Frag} {ta : TA} {σ : L2.St} {H : Hp} {R : It → Hp → Prop} (h : ta σ H fun vs H1 => ∃ a b xs ys, vs = [.ref a, .ref b] ∧ ((SqL K H1 a xs ∧ SqL K H1 b ys ∧ R (Itz K a b) H1) ∨ (SqT K H1 a xs ∧ SqT K H1 b ys ∧ R (RZ.ItzT K a b) H1))) : RZ.iZipA K ta σ H R := h
/-- what is left of the index -/
def dv : Int → Pl → Int
  | i, [] => i
  | i, s :: ss => dv (i / s) ss
theorem dv_snoc (s : Int) : ∀ (ss : Pl) (i : Int), dv i (ss ++ [s]) = dv i ss / s
  | [], i => rfl
  | t :: ss, i => dv_snoc s ss (i / t)
theorem plR_snoc (l s : Int) : ∀ {ls ss : Pl} {i : Int}, ls.length = ss.length → plR i (ls ++ [l]) (ss ++ [s]) = plR i ls ss ++ [l + dv i ss % s]
  | [], [], i, _ => rfl
  | a :: ls, b :: ss, i, h => by
    show (a + i % b) :: plR (i / b) (ls ++ [l]) (ss ++ [s]) = (a + i % b) :: (plR (i / b) ls ss ++ [l + dv (i / b) ss % s])
    rw [plR_snoc l s (Nat.succ.inj h)]
theorem dv_bound : ∀ {ss : Pl} {i : Int}, (∀ s ∈ ss, 0 < s) → 0 ≤ i → 0 ≤ dv i ss ∧ dv i ss ≤ i
  | [], i, _, h => ⟨h, Int.le_refl _⟩
  | s :: ss, i, hs, h => by
    have h1 := hs s List.mem_cons_self
    have h2 : 0 ≤ i / s := Int.ediv_nonneg h (by omega)
    obtain ⟨k1, k2⟩ := dv_bound (ss := ss) (i := i / s) (fun x hx => hs x (List.mem_cons_of_mem _ hx)) h2
    exact ⟨k1, Int.le_trans k2 (Int.ediv_le_self s h)⟩
theorem plR_len : ∀ {ls ss : Pl} {i : Int}, ls.length = ss.length → (plR i ls ss).length = ls.length
  | [], [], _, _ => rfl
  | a :: ls, b :: ss, i, h => congrArg (· + 1) (plR_len (i := i / b) (Nat.succ.inj h))
section
variable {P : Program} {w : World} {K : PySem.W.Frag} {mg : Str → Option Value} {base : Heap}
def spPlaceAt (K : PySem.W.Frag) : Sp := fun vs H Q _ => ∃ (b c : Addr) (i : Int) (ls ss : Pl), vs = [.int i, .ref b, .ref c] ∧ SqL K H b (ls.map V.int) ∧ SqL K H c (ss.map V.int) ∧ ls.length = ss.length ∧ ls.length ≤ 3 ∧ (∀ s ∈ ss, 0 < s ∧ s ≤ 1000000000) ∧ (∀ x ∈ ls, x.natAbs ≤ 1000000000) ∧ 0 ≤ i ∧ i ≤ 1000000000 ∧ ∀ p H', Same H H' → H' p = some (.tup ((plA i ls ss).map V.int)) → Q (.ref p) H'
theorem c_place_at {f : Addr} {fd : FuncData} (D : C8.Def K mg "place_at" s_place_at f fd) (b : Binds K fd ["index", "lows", "sizes"] []) (T : Bi mg) : C8.Cal P w K mg base 1 "place_at" (spPlaceAt K) [] := by
  refine C8.cal0 D b .nil sc_place_at (fun vs H Q E h => ?_) (fun cdv A outer s H vs Q E hr h => ?_)
  · obtain ⟨b, c, i, ls, ss, rfl, _⟩ := h
    rfl
  · obtain ⟨b, c, i0, ls, ss, rfl, hb, hc, hl, h3, hs, hlo, hi0, hi1, q⟩ := h
    refine ⟨_, (pss_cons (ps_set (i := 3) sc_place_at.nd rfl (Or.inl rfl) (pe_lst pa_nil))
  (pss_cons (ps_for PassesOwn.never rfl (RZ.pi_zipA (by rfl) T.n_zip (pa_cons (pe_revL (pv 1)) (pa_cons (pe_revL (pv 2)) pa_nil))) (pg_tup rfl (pgs_cons (pg_name (i := 4) sc_place_at.nd rfl (Or.inl rfl)) (pgs_cons (pg_name (i := 5) sc_place_at.nd rfl (Or.inl rfl)) pgs_nil))) (pss_cons (ps_expr (pe_bm PySem.F.plainAttrs_list PySem.F.slot_list_append PySem.F.type_list_append mt_append (pv 3) (pa_cons (pe_op op_add (pv 4) (pe_op op_mod (pv 0) (pv 5))) pa_nil)))
  (pss_one (ps_set (i := 0) sc_place_at.nd rfl (Or.inl rfl) (pe_op op_fdiv (pv 0) (pv 5))))))
  (pss_one (ps_ret (pe_callTy call_tuple_of (by rfl) T.n_tuple OT.b_tuple (pa_cons (pe_revL (pv 3)) pa_nil)))))), ?_⟩
    walk_at "st"
    refine ⟨by walk_at "sz", fun D1 nD1 => ?_⟩; generalize eH1 : upd _ D1 _ = H1; have s1 := AU.newS nD1 eH1; have hD1 := AU.newH eH1; clear eH1
    have hb1 := s1.seq hb
    have hc1 := s1.seq hc
    walk_at "st"
    refine zipA_ ?_
    walk_at "st"
    refine revL_ ?_
    walk_at "st"
    refine ⟨b, _, rfl, hb1, fun p2 np2 => ?_⟩
    have s2 : Same H1 (upd H1 p2 (.lst (ls.map V.int).reverse)) := same_upd np2
    have h2 : (upd H1 p2 (.lst (ls.map V.int).reverse)) p2 = some (.lst (ls.map V.int).reverse) := upd_same
    generalize (upd H1 p2 (.lst (ls.map V.int).reverse)) = H2 at s2 h2 ⊢
    have hc2 := s2.seq hc1
    walk_at "st"
    refine revL_ ?_
    walk_at "st"
    refine ⟨c, _, rfl, hc2, fun p3 np3 => ?_⟩
    have s3 : Same H2 (upd H2 p3 (.lst (ss.map V.int).reverse)) := same_upd np3
    have h3' : (upd H2 p3 (.lst (ss.map V.int).reverse)) p3 = some (.lst (ss.map V.int).reverse) := upd_same
    generalize (upd H2 p3 (.lst (ss.map V.int).reverse)) = H3 at s3 h3' ⊢
    have hp2 := s3 _ _ h2
    have hD3 := s3 _ _ (s2 _ _ hD1)
    have s03 := s1.trans (s2.trans s3)
    rw [← List.map_reverse] at hp2 h3'
    have hlr : ls.reverse.length = ss.reverse.length := by rw [List.length_reverse, List.length_reverse, hl]
    have hsr : ∀ s ∈ ss.reverse, 0 < s ∧ s ≤ 1000000000 := fun s h => hs s (List.mem_reverse.mp h)
    have hlor : ∀ x ∈ ls.reverse, x.natAbs ≤ 1000000000 := fun x h => hlo x (List.mem_reverse.mp h)
    have h3r : ls.reverse.length ≤ 3 := by rw [List.length_reverse]; exact h3
    have npD : p2 ≠ D1 ∧ p3 ≠ D1 := ⟨fun e => (by rw [e, hD1] at np2; cases np2), fun e => (by rw [e, s2 _ _ hD1] at np3; cases np3)⟩
    show ∃ a b xs ys, _
    refine ⟨p2, p3, _, _, rfl, .inl ⟨AU.sqL hp2, AU.sqL h3', ?_⟩⟩
    unfold plA at q
    generalize hrl : ls.reverse = rl at hp2 hlr hlor h3r q
    generalize hrs : ss.reverse = rs at h3' hlr hsr q
    refine for_it (walk_zip (xs := rl.map V.int) (ys := rs.map V.int) rfl) (fun i σ G => ∃ y4 y5 : Option V, Same H G ∧ G p2 = some (.lst (rl.map V.int)) ∧ G p3 = some (.lst (rs.map V.int)) ∧ G D1 = some (.lst ((plR i0 (rl.take i) (rs.take i)).map V.int)) ∧ σ = [some (.int (dv i0 (rs.take i))), some (.ref b), some (.ref c), some (.ref D1), y4, y5]) ⟨none, none, s03, hp2, h3', hD3, rfl⟩ ?_ ?_ ?_
    · rintro i σ G _ ⟨_, _, _, k1, k2, _⟩
      exact ⟨AU.sqL k1, AU.sqL k2⟩
    · rintro i x σ G G2 hi ⟨y4, y5, sG, k1, k2, k3, rfl⟩ ⟨T, x, y, rfl, nT, rfl, ex, ey⟩
      obtain ⟨xi, rfl, hx, hxm⟩ := int_at ex
      obtain ⟨yi, rfl, hy, hym⟩ := int_at ey
      have sT : Same G (upd G T (.tup [.int xi, .int yi])) := same_upd nT
      have hT : (upd G T (.tup [.int xi, .int yi])) T = some (.tup [.int xi, .int yi]) := upd_same
      generalize (upd G T (.tup [.int xi, .int yi])) = G2 at sT hT ⊢
      have h1 := hlor xi hxm
      obtain ⟨h20, h21⟩ := hsr yi hym
      obtain ⟨d0, d1⟩ := dv_bound (ss := rs.take i) (i := i0) (fun s hs => (hsr s (List.mem_of_mem_take hs)).1) hi0
      have e1 := dv_snoc yi (rs.take i) i0
      have hil := (List.getElem?_eq_some_iff.mp hx).1
      have e2 := plR_snoc xi yi (ls := rl.take i) (ss := rs.take i) (i := i0) (by rw [List.length_take, List.length_take, hlr])
      have hpl := plR_len (ls := rl.take i) (ss := rs.take i) (i := i0) (by rw [List.length_take, List.length_take, hlr])
      rw [List.length_take] at hpl
      have k32 := sT _ _ k3
      refine ⟨T, _, rfl, .inl (.inl hT), rfl, _, _, rfl, _, _, rfl, rfl, ?_⟩
      walk_at "st"
      refine ⟨some (.int xi), some (.int yi), same_mut (sG.trans sT) nD1, ?_, ?_, ?_, ?_⟩
      · rw [upd_ne npD.1]
        exact sT _ _ k1
      · rw [upd_ne npD.2]
        exact sT _ _ k2
      · rw [upd_same, take_snocI hx, take_snocI hy, e2, List.map_append]
        rfl
      · rw [take_snocI hy, e1]
        rfl
    · rintro σ G ⟨y4, y5, sG, k1, k2, k3, rfl⟩
      rw [List.length_map, List.length_map, hlr, Nat.min_self, List.take_of_length_le (by omega), List.take_of_length_le (Nat.le_refl _)] at k3
      walk_at "st"
      refine revL_ ?_
      walk_at "st"
      refine ⟨D1, _, rfl, AU.sqL k3, fun p7 np7 => ?_⟩
      have s7 : Same G (upd G p7 (.lst ((plR i0 rl rs).map V.int).reverse)) := same_upd np7
      have h7 : (upd G p7 (.lst ((plR i0 rl rs).map V.int).reverse)) p7 = some (.lst ((plR i0 rl rs).map V.int).reverse) := upd_same
      generalize (upd G p7 (.lst ((plR i0 rl rs).map V.int).reverse)) = G7 at s7 h7 ⊢
      rw [← List.map_reverse] at h7
      walk_at "st"
      intro p8 np8
      refine q p8 _ (sG.trans (s7.trans (same_upd np8))) ?_
      rw [upd_same]
end

set_option Elab.async false
set_option linter.all false
set_option maxRecDepth 100000
set_option maxHeartbeats 2000000
section
variable {P : Program} {w : World} {K : PySem.W.Frag} {mg : Str → Option Value} {base : Heap}
def spLow : Sp := fun vs H Q _ => ∃ (n : Int) (w : Nat), vs = [.int n, .int (w : Int)] ∧ 1 ≤ w ∧ w ≤ 1000000 ∧ Q (.int (CP.low ((2 : Int) ^ w) n)) H
theorem c_low_digit {f : Addr} {fd : FuncData} (D : C8.Def K mg "low_digit" s_low_digit f fd) (b : Binds K fd ["number", "bits"] []) (T : Bi mg) : C8.Cal P w K mg base 1 "low_digit" spLow [] := by
  refine C8.cal0 D b .nil sc_low_digit (fun vs H Q E h => ?_) (fun cdv A outer s H vs Q E hr h => ?_)
  · obtain ⟨n, w, rfl, _⟩ := h
    rfl
  · obtain ⟨n, w, rfl, h1, h2, q⟩ := h
    refine ⟨_, (pss_cons (ps_set (i := 2) sc_low_digit.nd rfl (Or.inl rfl) (pe_op op_shl pe_int (pe_op op_sub (pv 1) pe_int)))
  (pss_one (ps_ret (pe_op op_sub (pe_op op_andM (pe_op op_add (pv 0) (pv 2)) (pe_op op_sub (pe_op op_shl pe_int (pv 1)) pe_int)) (pv 2))))), ?_⟩
    obtain ⟨m, rfl⟩ : ∃ m, w = m + 1 := ⟨w - 1, by omega⟩
    have e1 : (1 : Int) * 2 ^ (((m + 1 : Nat) : Int) - 1).toNat = 2 ^ m := by rw [Int.one_mul, show (((m + 1 : Nat) : Int) - 1).toNat = m by omega]
    have e2 : (1 : Int) * 2 ^ ((m + 1 : Nat) : Int).toNat = 2 ^ (m + 1) := by rw [Int.one_mul, Int.toNat_natCast]
    have e3 : (2 : Int) ^ (m + 1) / 2 = 2 ^ m := by rw [Int.pow_succ, Int.mul_ediv_cancel _ (by decide)]
    unfold CP.low at q
    rw [e3] at q
    walk_at "st"
    refine ⟨_, _, rfl, rfl, ⟨by omega, by omega, by decide⟩, ?_⟩
    simp only [e1]
    walk_at "st"
    refine ⟨_, _, rfl, rfl, ⟨by omega, by omega, by decide⟩, ?_⟩
    simp only [e2]
    walk_at "st"
    refine ⟨_, m + 1, rfl, rfl, ?_⟩
    walk_at "st"
    exact q
end

set_option Elab.async false
set_option linter.all false
set_option maxRecDepth 100000
set_option maxHeartbeats 2000000
theorem ev_ {K : PySem.W.Frag} {te : TE} {σ : L2.St} {H : Hp} {Q : V → Hp → Prop} (h : te σ H fun x H1 => ∃ a xs, x = .ref a ∧ SqL K H1 a xs ∧ ∀ p, H1 p = none → Q (.ref p) (upd H1 p (.lst (S2.ev xs)))) : S2.tEv K te σ H Q := h
theorem od_ {K : PySem.W.Frag} {te : TE} {σ : L2.St} {H : Hp} {Q : V → Hp → Prop} (h : te σ H fun x H1 => ∃ a xs, x = .ref a ∧ SqL K H1 a xs ∧ ∀ p, H1 p = none → Q (.ref p) (upd H1 p (.lst (S2.od xs)))) : S2.tOd K te σ H Q := h
theorem zipL_ {K : PySem.W.Frag} {ta : TA} {σ : L2.St} {H : Hp} {R : It → Hp → Prop} (h : ta σ H fun vs H1 => ∃ a b xs ys, vs = [.ref a, .ref b] ∧ SqL K H1 a xs ∧ SqL K H1 b ys ∧ R (Itz K a b) H1) : iZip K ta σ H R := h
theorem od_mem {α : Type} {x : α} : ∀ {l : List α}, x ∈ S2.od l → x ∈ l
  | [], h => h
  | [a], h => by cases h
  | a :: b :: r, h => by
    rcases List.mem_cons.mp h with rfl | h
    · exact List.mem_cons_of_mem _ List.mem_cons_self
    · exact List.mem_cons_of_mem _ (List.mem_cons_of_mem _ (od_mem h))
theorem pair_zip (B : Int) : ∀ ds : List Int, List.zipWith (fun l h => l + h * B) (S2.ev (ds ++ List.replicate (ds.length % 2) 0)) (S2.od (ds ++ List.replicate (ds.length % 2) 0)) = CP.pairUp B ds
  | [] => rfl
  | [a] => rfl
  | a :: b :: r => by
    have ih := pair_zip B r
    rw [show (a :: b :: r).length % 2 = r.length % 2 by rw [List.length_cons, List.length_cons]; omega]
    show (a + b * B) :: List.zipWith _ (S2.ev (r ++ List.replicate (r.length % 2) 0)) (S2.od (r ++ List.replicate (r.length % 2) 0)) = (a + b * B) :: CP.pairUp B r
    rw [ih]
theorem map_ev (l : List Int) : S2.ev (l.map V.int) = (S2.ev l).map V.int := by
  induction l using S2.ev.induct with
  | case1 => rfl
  | case2 a => rfl
  | case3 a b r ih => exact congrArg (V.int a :: ·) ih
theorem map_od (l : List Int) : S2.od (l.map V.int) = (S2.od l).map V.int := by
  induction l using S2.od.induct with
  | case1 => rfl
  | case2 a => rfl
  | case3 a b r ih => exact congrArg (V.int b :: ·) ih
theorem pairUp_bound {n : Nat} : ∀ {ds : List Int}, (∀ d ∈ ds, d.natAbs < 2 ^ n) → ∀ d ∈ CP.pairUp ((2 : Int) ^ n) ds, d.natAbs < 2 ^ (n + n)
  | [], _, d, h => by cases h
  | [a], h, d, hd => by
    have h1 := h a List.mem_cons_self
    rw [List.mem_singleton.mp hd, Int.zero_mul, Int.add_zero]
    exact Nat.lt_of_lt_of_le h1 (Nat.pow_le_pow_right (by decide) (by omega))
  | a :: b :: r, h, d, hd => by
    rcases List.mem_cons.mp hd with rfl | hd
    · have h1 := h a List.mem_cons_self
      have h2 := h b (List.mem_cons_of_mem _ List.mem_cons_self)
      have h3 := Int.natAbs_add_le a (b * 2 ^ n)
      have e : ((2 : Int) ^ n).natAbs = 2 ^ n := by rw [Int.natAbs_pow]; rfl
      rw [Int.natAbs_mul, e] at h3
      have h4 : (b.natAbs + 1) * 2 ^ n ≤ 2 ^ n * 2 ^ n := Nat.mul_le_mul_right _ h2
      rw [Nat.add_mul, Nat.one_mul] at h4
      rw [Nat.pow_add]
      omega
    · exact pairUp_bound (fun x hx => h x (List.mem_cons_of_mem _ (List.mem_cons_of_mem _ hx))) d hd
section
variable {P : Program} {w : World} {K : PySem.W.Frag} {mg : Str → Option Value} {base : Heap}
def spJoin (K : PySem.W.Frag) : Sp := fun vs H Q _ => ∃ (a : Addr) (ds : List Int) (n : Nat), vs = [.ref a, .int (n : Int)] ∧ H a = some (.lst (ds.map V.int)) ∧ ds ≠ [] ∧ ds.length ≤ 19000 ∧ 1 ≤ n ∧ n * ds.length ≤ 10000000 ∧ (∀ d ∈ ds, d.natAbs < 2 ^ n) ∧ ∀ H', Same H H' → Q (.int (CP.val ((2 : Int) ^ n) ds)) H'
theorem c_joined_digits {f : Addr} {fd : FuncData} (D : C8.Def K mg "joined_digits" s_joined_digits f fd) (b : Binds K fd ["digits", "bits"] []) (T : Bi mg) : C8.Cal P w K mg base 1 "joined_digits" (spJoin K) [] := by
  refine C8.cal0 D b .nil sc_joined_digits (fun vs H Q E h => ?_) (fun cdv A outer s H vs Q E hr h => ?_)
  · obtain ⟨a, ds, n, rfl, _⟩ := h
    rfl
  · obtain ⟨a, ds, n, rfl, ha, hne, hz, hn, hnz, hd, q⟩ := h
    refine ⟨_, (pss_cons (ps_while PassesOwn.never (pt_cmpR op_gt (pe_callB call_len_seq (by rfl) T.n_len OT.b_len (pa_cons (pv 0) pa_nil)) pe_int (nomark _)) (pss_cons (ps_set (i := 2) sc_joined_digits.nd rfl (Or.inl rfl) (pe_op op_cat (pv 0) (pe_op op_rep (pe_lst (pa_cons pe_int pa_nil)) (pe_op op_mod (pe_callB call_len_seq (by rfl) T.n_len OT.b_len (pa_cons (pv 0) pa_nil)) pe_int))))
  (pss_cons (ps_setLc (i := 0) (own := [("low", 3), ("high", 4)]) (g := (gTup K 2 (gCons (gName 3) (gCons (gName 4) gNil)))) (tt := tYes) rfl sc_joined_digits.nd rfl rfl (sw_true rfl rfl rfl rfl) (pi_zip (by rfl) T.n_zip (pa_cons (S2.pe_evL (pv 2)) (pa_cons (S2.pe_odL (pv 2)) pa_nil))) (blkOk_by (N := ["digits", "bits", "padded", "low", "high"]) (sc := C8.fnScope s_joined_digits) (by decide +kernel)) (fun _ _ _ _ _ => (pg_tup rfl (pgs_cons (pg_name (i := 3) sc_joined_digits.nd rfl (Or.inl rfl)) (pgs_cons (pg_name (i := 4) sc_joined_digits.nd rfl (Or.inl rfl)) pgs_nil)))) (fun _ _ _ _ _ => pts_nil) (fun _ _ _ _ _ => (pe_op op_add (pv 3) (pe_op op_shlW (pv 4) (pv 1)))))
  (pss_one (ps_set (i := 1) sc_joined_digits.nd rfl (Or.inr rfl) (pe_op op_mul (pv 1) pe_int))))))
  (pss_one (ps_ret (pe_ix ix_list (pv 0) pe_int (fun _ _ => rfl))))), ?_⟩
    walk_at "st"
    refine ⟨fun m σ G => ∃ (a' : Addr) (ds' : List Int) (n' : Nat) (y2 y3 y4 : Option V), m = ds'.length ∧ σ = [some (.ref a'), some (.int (n' : Int)), y2, y3, y4] ∧ Same H G ∧ G a' = some (.lst (ds'.map V.int)) ∧ ds' ≠ [] ∧ ds'.length ≤ 19000 ∧ 1 ≤ n' ∧ n' * (ds'.length - 1) ≤ 10000000 ∧ (∀ d ∈ ds', d.natAbs < 2 ^ n') ∧ CP.val ((2 : Int) ^ n') ds' = CP.val ((2 : Int) ^ n) ds, ⟨_, a, ds, n, none, none, none, rfl, rfl, Same.refl _, ha, hne, hz, hn, Nat.le_trans (Nat.mul_le_mul_left _ (Nat.sub_le _ _)) hnz, hd, rfl⟩, ?_⟩
    rintro m σ G ⟨a', ds', n', y2, y3, y4, rfl, rfl, sG, ha', hne', hz', hn', hnz', hd', hv⟩
    have hpos : 0 < ds'.length := List.length_pos_iff.mpr hne'
    walk_at "st"
    rw [List.length_map]
    refine iteD (fun z => ?_) (fun z => ?_)
    · refine ⟨_, fun _ _ h => h, ?_⟩
      have ha1 := ha'
      walk_at "st"
      refine ⟨by walk_at "sz", fun l1 nl1 => ?_⟩; generalize eG1 : upd _ l1 _ = G1; have s1 := AU.newS nl1 eG1; have hl1 := AU.newH eG1; clear eG1
      have ha1 := s1 _ _ ha'
      walk_at "st"
      have em : ((ds'.map V.int).length : Int) % 2 = ((ds'.length % 2 : Nat) : Int) := by rw [List.length_map]; omega
      rw [em]
      refine ⟨l1, _, _, rfl, rfl, hl1, by omega, by omega, Nat.le_of_lt (AU.line (by rw [Int.toNat_natCast]; show 1 * _ ≤ 20000; omega)), fun p2 np2 => ?_⟩
      rw [Int.toNat_natCast]
      have er : (List.replicate (ds'.length % 2) [V.int 0]).flatten = (List.replicate (ds'.length % 2) (0 : Int)).map V.int := by
        rcases Nat.mod_two_eq_zero_or_one ds'.length with h | h <;> rw [h] <;> rfl
      rw [er]
      have s2 : Same G1 (upd G1 p2 (.lst ((List.replicate (ds'.length % 2) (0 : Int)).map V.int))) := same_upd np2
      have h2 : (upd G1 p2 (.lst ((List.replicate (ds'.length % 2) (0 : Int)).map V.int))) p2 = some (.lst ((List.replicate (ds'.length % 2) (0 : Int)).map V.int)) := upd_same
      generalize (upd G1 p2 (.lst ((List.replicate (ds'.length % 2) (0 : Int)).map V.int))) = G2 at s2 h2 ⊢
      have ha2 := s2 _ _ ha1
      walk_at "st"
      rw [← List.map_append]
      intro p3 np3
      have s3 : Same G2 (upd G2 p3 (.lst ((ds' ++ List.replicate (ds'.length % 2) 0).map V.int))) := same_upd np3
      have h3 : (upd G2 p3 (.lst ((ds' ++ List.replicate (ds'.length % 2) 0).map V.int))) p3 = some (.lst ((ds' ++ List.replicate (ds'.length % 2) 0).map V.int)) := upd_same
      generalize (upd G2 p3 (.lst ((ds' ++ List.replicate (ds'.length % 2) 0).map V.int))) = G3 at s3 h3 ⊢
      walk_at "st"
      refine zipL_ ?_
      walk_at "st"
      refine ev_ ?_
      walk_at "st"
      refine ⟨p3, _, rfl, AU.sqL h3, fun p4 np4 => ?_⟩
      rw [map_ev]
      have s4 : Same G3 (upd G3 p4 (.lst ((S2.ev (ds' ++ List.replicate (ds'.length % 2) 0)).map V.int))) := same_upd np4
      have h4 : (upd G3 p4 (.lst ((S2.ev (ds' ++ List.replicate (ds'.length % 2) 0)).map V.int))) p4 = some (.lst ((S2.ev (ds' ++ List.replicate (ds'.length % 2) 0)).map V.int)) := upd_same
      generalize (upd G3 p4 (.lst ((S2.ev (ds' ++ List.replicate (ds'.length % 2) 0)).map V.int))) = G4 at s4 h4 ⊢
      have h34 := s4 _ _ h3
      walk_at "st"
      refine od_ ?_
      walk_at "st"
      refine ⟨p3, _, rfl, AU.sqL h34, fun p5 np5 => ?_⟩
      rw [map_od]
      have s5 : Same G4 (upd G4 p5 (.lst ((S2.od (ds' ++ List.replicate (ds'.length % 2) 0)).map V.int))) := same_upd np5
      have h5 : (upd G4 p5 (.lst ((S2.od (ds' ++ List.replicate (ds'.length % 2) 0)).map V.int))) p5 = some (.lst ((S2.od (ds' ++ List.replicate (ds'.length % 2) 0)).map V.int)) := upd_same
      generalize (upd G4 p5 (.lst ((S2.od (ds' ++ List.replicate (ds'.length % 2) 0)).map V.int))) = G5 at s5 h5 ⊢
      have h45 := s5 _ _ h4
      have hn7 : n' ≤ 10000000 := Nat.le_trans (Nat.le_mul_of_pos_right n' (by omega)) hnz'
      have hpz := pair_zip ((2 : Int) ^ n') ds'
      have hpl := CP.pairUp_len ((2 : Int) ^ n') ds'
      have hpb := pairUp_bound hd'
      have hod : ∀ h ∈ S2.od (ds' ++ List.replicate (ds'.length % 2) 0), h.natAbs < 2 ^ n' := fun h hh => by
        rcases List.mem_append.mp (od_mem hh) with k | k
        · exact hd' h k
        · rw [List.eq_of_mem_replicate k]
          exact Nat.pow_pos (by decide)
      have hlen : min ((S2.ev (ds' ++ List.replicate (ds'.length % 2) 0)).map V.int).length ((S2.od (ds' ++ List.replicate (ds'.length % 2) 0)).map V.int).length = (ds'.length + 1) / 2 := by
        rw [List.length_map, List.length_map, S2.ev_len, S2.od_len, List.length_append, List.length_replicate]
        omega
      have s05 := (s1.trans (s2.trans s3)).trans (s4.trans s5)
      walk_at "st"
      refine ⟨p4, p5, _, _, rfl, AU.sqL h45, AU.sqL h5, fun D6 nD6 => ?_⟩
      refine lc_it (walk_zip (xs := (S2.ev (ds' ++ List.replicate (ds'.length % 2) 0)).map V.int) (ys := (S2.od (ds' ++ List.replicate (ds'.length % 2) 0)).map V.int) hlen.symm) (fun i F => Same G5 F ∧ F D6 = some (.lst (((CP.pairUp ((2 : Int) ^ n') ds').take i).map V.int))) ⟨same_upd nD6, upd_same⟩ ?_ ?_ ?_
      · rintro i F _ ⟨sF, _⟩
        exact ⟨AU.sqL (sF _ _ h45), AU.sqL (sF _ _ h5)⟩
      · rintro i x F F2 hi ⟨sF, hF⟩ ⟨T, x, y, rfl, nT, rfl, ex, ey⟩
        obtain ⟨xi, rfl, hx, _⟩ := int_at ex
        obtain ⟨yi, rfl, hy, hym⟩ := int_at ey
        have sT : Same F (upd F T (.tup [.int xi, .int yi])) := same_upd nT
        have hT : (upd F T (.tup [.int xi, .int yi])) T = some (.tup [.int xi, .int yi]) := upd_same
        generalize (upd F T (.tup [.int xi, .int yi])) = F2 at sT hT ⊢
        have hF2 := sT _ _ hF
        have hel : (CP.pairUp ((2 : Int) ^ n') ds')[i]? = some (xi + yi * 2 ^ n') := by
          rw [← hpz, List.getElem?_zipWith, hx, hy]
        have hil := (List.getElem?_eq_some_iff.mp hel).1
        have hshl := shl_ok (j := n') (hod yi hym) (by omega)
        refine ⟨T, _, rfl, .inl (.inl hT), rfl, _, _, rfl, _, _, rfl, rfl, rfl, ?_⟩
        show tYes [some (.ref a'), some (.int (n' : Int)), some (.ref p3), some (.int xi), some (.int yi)] F2 _
        walk_at "st"
        simp only [Int.toNat_natCast]
        refine ⟨_, hF2, AU.line (by rw [List.length_map, List.length_take]; omega), same_mut (sF.trans sT) nD6, ?_⟩
        rw [upd_same, take_snocI hel, List.map_append]
        rfl
      · rintro F ⟨sF, hF⟩
        rw [List.take_of_length_le (by omega)] at hF
        walk_at "st"
        refine ⟨(ds'.length + 1) / 2, by omega, D6, CP.pairUp ((2 : Int) ^ n') ds', n' + n', some (.ref p3), y3, y4, hpl.symm, ?_, sG.trans (s05.trans sF), hF, ?_, by omega, by omega, ?_, hpb, ?_⟩
        · rw [show (n' : Int) * 2 = ((n' + n' : Nat) : Int) by omega]
          rfl
        · intro e
          rw [e] at hpl
          have : 0 = (ds'.length + 1) / 2 := hpl
          omega
        · rw [hpl]
          refine Nat.le_trans ?_ hnz'
          rw [← Nat.two_mul, Nat.mul_assoc, Nat.mul_left_comm]
          exact Nat.mul_le_mul_left _ (by omega)
        · rw [Int.pow_add, CP.val_pairUp]
          exact hv
    · obtain ⟨d0, rfl⟩ : ∃ d0, ds' = [d0] := by
        match ds', hpos, z with
        | [d0], _, _ => exact ⟨d0, rfl⟩
        | _ :: _ :: _, _, z => exact absurd (show ((_ :: _ :: _ : List Int).length : Int) > 1 by simp; omega) z
      have at0 : atI ([d0].map V.int) 0 = some (.int d0) := AU.atN (j := 0) rfl rfl
      rw [CP.val_one] at hv
      rw [← hv] at q
      walk_at "st"
      exact q G sG
end

set_option Elab.async false
set_option linter.all false
set_option maxRecDepth 100000
set_option maxHeartbeats 2000000
def YN (K : PySem.W.Frag) (as : List Addr) (i : Nat) (H : Hp) (v : V) (H' : Hp) : Prop := ∃ T ys, v = .ref T ∧ H T = none ∧ H' = upd H T (.tup ys) ∧ ys.length = as.length ∧ ∀ (j : Nat) (a : Addr) (xs : List V), as[j]? = some a → SqT K H a xs → xs[i]? = ys[j]?
theorem walk_zipN {K : PySem.W.Frag} {as : List Addr} {n : Nat} : Walk (OZ.ItzN K as n) n (fun H => OZ.Cols K H as n) (YN K as) := by
  refine ⟨fun i _ hi q => ⟨hi, q⟩, fun _ q => ⟨Nat.le_refl _, q⟩, fun i H v H' _ q y => y⟩
/-- a list of pairs -/
structure Prs (H : Hp) (ws : List V) (lo hi : Pl) : Prop where
  l1 : ws.length = lo.length
  l2 : lo.length = hi.length
  at_ : ∀ (k : Nat) (v : V), ws[k]? = some v → ∃ t x y, v = .ref t ∧ lo[k]? = some x ∧ hi[k]? = some y ∧ H t = some (.tup [.int x, .int y])
theorem Prs.mono {H H' : Hp} {ws : List V} {lo hi : Pl} (s : ∀ b o, H b = some o → H' b = some o) (h : Prs H ws lo hi) : Prs H' ws lo hi :=
  ⟨h.l1, h.l2, fun k v e => by
    obtain ⟨t, x, y, a, b, c, d⟩ := h.at_ k v e
    exact ⟨t, x, y, a, b, c, s _ _ d⟩⟩
theorem Prs.updL {H : Hp} {D : Addr} {l l' : List V} {ws : List V} {lo hi : Pl} (hD : H D = some (.lst l)) (h : Prs H ws lo hi) : Prs (upd H D (.lst l')) ws lo hi :=
  ⟨h.l1, h.l2, fun k v e => by
    obtain ⟨t, x, y, a, b, c, d⟩ := h.at_ k v e
    exact ⟨t, x, y, a, b, c, by rw [upd_ne (ne_lst d hD)]; exact d⟩⟩
theorem Prs.snoc {H : Hp} {ws : List V} {lo hi : Pl} {t : Addr} {x y : Int} (h : Prs H ws lo hi) (ht : H t = some (.tup [.int x, .int y])) : Prs H (ws ++ [.ref t]) (lo ++ [x]) (hi ++ [y]) := by
  have l1 := h.l1
  have l2 := h.l2
  refine ⟨by rw [List.length_append, List.length_append, l1]; rfl, by rw [List.length_append, List.length_append, l2]; rfl, fun k v e => ?_⟩
  by_cases c : k < ws.length
  · rw [List.getElem?_append_left c] at e
    obtain ⟨t, x, y, a, b, c', d⟩ := h.at_ k v e
    exact ⟨t, x, y, a, by rw [List.getElem?_append_left (by omega)]; exact b, by rw [List.getElem?_append_left (by omega)]; exact c', d⟩
  · by_cases q : k = ws.length
    · subst q
      rw [List.getElem?_append_right (by omega), Nat.sub_self] at e
      cases e
      refine ⟨t, x, y, rfl, ?_, ?_, ht⟩
      · rw [List.getElem?_append_right (by omega), ← l1, Nat.sub_self]
        rfl
      · rw [List.getElem?_append_right (by omega), ← l2, ← l1, Nat.sub_self]
        rfl
    · rw [List.getElem?_eq_none (by rw [List.length_append]; show ws.length + 1 ≤ k; omega)] at e
      cases e
theorem ext_snoc {es : List Ent} {ls : Pl} {n i : Nat} {m : Int} (hll : ls.length = i) (hi : i < n) (hn : ∀ e ∈ es, e.1.length = n) (R : Int → Int → Prop) (h : ∀ (k : Nat) (y : Int), ls[k]? = some y → (∃ e ∈ es, e.1[k]? = some y) ∧ ∀ e ∈ es, ∀ x, e.1[k]? = some x → R y x)
    (h1 : m ∈ es.map fun e => e.1.getD i 0) (h2 : ∀ y ∈ es.map (fun e => e.1.getD i 0), R m y) : ∀ (k : Nat) (y : Int), (ls ++ [m])[k]? = some y → (∃ e ∈ es, e.1[k]? = some y) ∧ ∀ e ∈ es, ∀ x, e.1[k]? = some x → R y x := by
  intro k y hk
  have getD_some : ∀ e ∈ es, ∀ z, e.1[i]? = some z ↔ e.1.getD i 0 = z := fun e he z => by
    have hil : i < e.1.length := by rw [hn e he]; exact hi
    rw [List.getD_eq_getElem?_getD, List.getElem?_eq_getElem hil]
    exact ⟨fun h => Option.some.inj h, fun h => congrArg some h⟩
  by_cases hki : k < i
  · rw [List.getElem?_append_left (by omega)] at hk
    exact h k y hk
  · by_cases e : k = i
    · subst e
      rw [List.getElem?_append_right (by omega), hll, Nat.sub_self] at hk
      have hk : m = y := Option.some.inj hk
      subst hk
      obtain ⟨e, he, hem⟩ := List.mem_map.mp h1
      refine ⟨⟨e, he, (getD_some e he m).mpr hem⟩, fun e' he' x hx' => ?_⟩
      have := h2 _ (List.mem_map_of_mem (f := fun e : Ent => e.1.getD k 0) he')
      rw [← (getD_some e' he' x).mp hx']
      exact this
    · rw [List.getElem?_eq_none (by rw [List.length_append, hll]; show i + 1 ≤ k; omega)] at hk
      cases hk
section
variable {P : Program} {w : World} {K : PySem.W.Frag} {mg : Str → Option Value} {base : Heap}
def spBounds (K : PySem.W.Frag) : Sp := fun vs H Q _ => ∃ (a : Addr) (xs : List V) (es : List Ent) (n : Nat), vs = [.ref a] ∧ SqL K H a xs ∧ Ents H xs es ∧ 0 < es.length ∧ es.length ≤ 1000 ∧ (∀ e ∈ es, e.1.length = n) ∧ n ≤ 1000 ∧ ∀ p ws H' (lo hi : Pl), lo.length = n → IsLow es lo → IsTop es hi → Same H H' → H' p = some (.lst ws) → Prs H' ws lo hi → Q (.ref p) H'
theorem c_bounds {f : Addr} {fd : FuncData} (D : C8.Def K mg "bounds" s_bounds f fd) (b : Binds K fd ["row"] []) (T : Bi mg) : C8.Cal P w K mg base 1 "bounds" (spBounds K) [] := by
  refine C8.cal0 D b .nil sc_bounds (fun vs H Q E h => ?_) (fun cdv A outer s H vs Q E hr h => ?_)
  · obtain ⟨a, xs, es, n, rfl, _⟩ := h
    rfl
  · obtain ⟨a, xs, es, n, rfl, hSL, hE, hpos, hz, hn, hn3, q⟩ := h
    refine ⟨_, (pss_cons (ps_setLc (i := 1) (own := [("place", 3), ("number", 4)]) (g := (gTup K 2 (gCons (gName 3) (gCons (gName 4) gNil)))) (tt := tYes) rfl sc_bounds.nd rfl rfl (sw_true rfl rfl rfl rfl) (pi_list (pv 0)) (blkOk_by (N := ["row", "places", "column", "place", "number"]) (sc := C8.fnScope s_bounds) (by decide +kernel)) (fun _ _ _ _ _ => (pg_tup rfl (pgs_cons (pg_name (i := 3) sc_bounds.nd rfl (Or.inl rfl)) (pgs_cons (pg_name (i := 4) sc_bounds.nd rfl (Or.inl rfl)) pgs_nil)))) (fun _ _ _ _ _ => pts_nil) (fun _ _ _ _ _ => (pv 3)))
  (pss_one (ps_ret (pe_lc (own := [("column", 2)]) (g := (gName 2)) (tt := tYes) rfl sc_bounds.nd (OZ.pi_zipS (by rfl) T.n_zip (pv 1)) (blkOk_by (N := ["row", "places", "column", "place", "number"]) (sc := C8.fnScope s_bounds) (by decide +kernel)) (fun _ _ _ _ _ => (pg_name (i := 2) sc_bounds.nd rfl (Or.inl rfl))) (fun _ _ _ _ _ => pts_nil) (fun _ _ _ _ _ => (pe_tup (pa_cons (pe_callB (show CallR _ _ (OZ.rMinT K) from OZ.cr_minT rfl) (by rfl) T.n_min OT.b_min (pa_cons (pv 2) pa_nil)) (pa_cons (pe_callB (show CallR _ _ (OZ.rMaxT K) from OZ.cr_maxT rfl) (by rfl) T.n_max OT.b_max (pa_cons (pv 2) pa_nil)) pa_nil)))))))), ?_⟩
    have hx := hE.len
    refine ⟨_, rfl, a, rfl, ⟨_, hSL⟩, fun p np => ?_⟩
    refine lc_list (K := K) (xs := xs) (fun i H2 => Same H H2 ∧ ∃ as : List Addr, as.length = i ∧ H2 p = some (.lst (as.map V.ref)) ∧ ∀ (j : Nat) (a : Addr), as[j]? = some a → ∃ e, es[j]? = some e ∧ H a = some (.tup (e.1.map V.int))) ?_ ?_ ?_ ?_
    · exact ⟨same_upd np, [], rfl, upd_same, fun j a h => by simp at h⟩
    · rintro i H2 _ ⟨sm, _⟩
      exact sm.seq hSL
    · rintro i x H2 hxi ⟨sm, as, hal, hp, hA⟩
      obtain ⟨e, he, t, pe, rfl, ht, hpe⟩ := hE.get hxi
      obtain ⟨hi, hee⟩ := List.getElem?_eq_some_iff.mp he
      refine ⟨t, _, rfl, .inl (.inl (sm _ _ ht)), rfl, _, _, rfl, _, _, rfl, rfl, rfl, tYes_of ?_⟩
      refine ⟨_, rfl, _, hp, ?_, same_mut sm np, as ++ [pe], by rw [List.length_append, hal]; rfl, ?_, fun j a' h => ?_⟩
      · rw [List.length_map]
        exact small1000 (by omega)
      · rw [upd_same, List.map_append]
        rfl
      · by_cases c : j < as.length
        · rw [List.getElem?_append_left c] at h
          exact hA j a' h
        · by_cases d : j = as.length
          · subst d
            rw [List.getElem?_append_right (by omega), Nat.sub_self] at h
            cases h
            rw [hal]
            exact ⟨e, he, hpe⟩
          · rw [List.getElem?_eq_none (by rw [List.length_append]; show as.length + 1 ≤ j; omega)] at h
            cases h
    · rintro H2 ⟨sm, as, hal, hp, hA⟩
      rw [hx] at hal
      have hcol : ∀ H3, Same H H3 → OZ.Cols K H3 as n := fun H3 s3 a' ha' => by
        obtain ⟨j, hj, rfl⟩ := List.mem_iff_getElem.mp ha'
        obtain ⟨e, he, q⟩ := hA j _ (List.getElem?_eq_getElem hj)
        exact ⟨e.1.map V.int, .inl (.inl (s3 _ _ q)), by rw [List.length_map]; exact hn e (List.mem_of_getElem? he)⟩
      refine ⟨_, rfl, p, as, n, rfl, .inl (.inl hp), ?_, by omega, hcol H2 sm, fun p2 np2 => ?_⟩
      · intro z
        rw [z] at hal
        exact absurd hal (by simp; omega)
      refine lc_it (walk_zipN (K := K) (as := as) (n := n)) (fun i H3 => Same H2 H3 ∧ ∃ (ws : List V) (lo hi : Pl), lo.length = i ∧ IsLow es lo ∧ IsTop es hi ∧ H3 p2 = some (.lst ws) ∧ Prs H3 ws lo hi) ?_ ?_ ?_ ?_
      · exact ⟨same_upd np2, [], [], [], rfl, fun k y h => by simp at h, fun k y h => by simp at h, upd_same, rfl, rfl, fun k v h => by simp at h⟩
      · rintro i H3 _ ⟨sm3, _⟩
        exact hcol H3 (sm.trans sm3)
      · rintro i x H3 H4 hi ⟨sm3, ws, lo, hi2, hl, hlo, hhi, hp2, hW⟩ ⟨T1, ys, rfl, nT, rfl, hyl, hy⟩
        have hys : ys = (es.map fun e => e.1.getD i 0).map V.int := by
          refine List.ext_getElem? fun j => ?_
          by_cases c : j < as.length
          · obtain ⟨e, he, q⟩ := hA j _ (List.getElem?_eq_getElem c)
            have q2 := hy j _ (e.1.map V.int) (List.getElem?_eq_getElem c) (.inl (.inl (sm3 _ _ (sm _ _ q))))
            have hil : i < e.1.length := by rw [hn e (List.mem_of_getElem? he)]; exact hi
            rw [← q2, List.getElem?_map, List.getElem?_map, List.getElem?_map, he, List.getElem?_eq_getElem hil]
            show _ = some (V.int (e.1.getD i 0))
            rw [List.getD_eq_getElem?_getD, List.getElem?_eq_getElem hil]
            rfl
          · rw [List.getElem?_eq_none (by omega), List.getElem?_eq_none (by rw [List.length_map, List.length_map]; omega)]
        subst hys
        have sT : Same H3 (upd H3 T1 (.tup ((es.map fun e => e.1.getD i 0).map V.int))) := same_upd nT
        have hT : (upd H3 T1 (.tup ((es.map fun e => e.1.getD i 0).map V.int))) T1 = some (.tup ((es.map fun e => e.1.getD i 0).map V.int)) := upd_same
        generalize upd H3 T1 (.tup ((es.map fun e => e.1.getD i 0).map V.int)) = H4 at sT hT ⊢
        have hpos2 : 0 < (es.map fun e => e.1.getD i 0).length := by rw [List.length_map]; exact hpos
        refine ⟨rfl, tYes_of ?_⟩
        refine ⟨_, rfl, T1, _, rfl, .inl (.inl hT), hpos2, fun m hm1 hm2 => ⟨_, rfl, T1, _, rfl, .inl (.inl hT), hpos2, fun M hM1 hM2 => ⟨(by show 2 ≤ sizeLine; decide), fun t5 nt5 => ?_⟩⟩⟩
        have s5 : Same H4 (upd H4 t5 (.tup [.int m, .int M])) := same_upd nt5
        have ht5 : (upd H4 t5 (.tup [.int m, .int M])) t5 = some (.tup [.int m, .int M]) := upd_same
        generalize upd H4 t5 (.tup [.int m, .int M]) = H5 at s5 ht5 ⊢
        have sX := sT.trans s5
        have hD := sX _ _ hp2
        have hwl := hW.l1
        have hl2 := hW.l2
        refine ⟨ws, hD, small100k (by omega), same_mut (sm3.trans sX) np2, ws ++ [.ref t5], lo ++ [m], hi2 ++ [M], by rw [List.length_append, hl]; rfl, ?_, ?_, upd_same, ?_⟩
        · exact ext_snoc hl hi hn (fun y x => y ≤ x) hlo hm1 hm2
        · exact ext_snoc (hl2.symm.trans hl) hi hn (fun y x => x ≤ y) hhi hM1 hM2
        · exact ((hW.mono sX).snoc ht5).updL hD
      · rintro H3 ⟨sm3, ws, lo, hi2, hl, hlo, hhi, hp2, hW⟩
        exact q p2 ws H3 lo hi2 hl hlo hhi (sm.trans sm3) hp2 hW
end

set_option Elab.async false
set_option linter.all false
set_option maxRecDepth 100000
set_option maxHeartbeats 2000000
/-- the sizes of the box of a product -/
def szP (rl rh fl fh : Pl) : Pl := List.zipWith (fun a b => a + b + 1) (subP rh rl) (subP fh fl)
theorem subP_at {k l : Pl} {i : Nat} {x y : Int} (hx : k[i]? = some x) (hy : l[i]? = some y) : (subP k l)[i]? = some (x - y) := by
  unfold subP
  rw [List.getElem?_zipWith, hx, hy]
theorem szP_at {rl rh fl fh : Pl} {i : Nat} {a b c d : Int} (h1 : rl[i]? = some a) (h2 : rh[i]? = some b) (h3 : fl[i]? = some c) (h4 : fh[i]? = some d) : (szP rl rh fl fh)[i]? = some (b - a + d - c + 1) := by
  unfold szP
  rw [List.getElem?_zipWith, subP_at h2 h1, subP_at h4 h3]
  show some (b - a + (d - c) + 1) = _
  congr 1
  omega
theorem szP_len {rl rh fl fh : Pl} {n : Nat} (h1 : rl.length = n) (h2 : rh.length = n) (h3 : fl.length = n) (h4 : fh.length = n) : (szP rl rh fl fh).length = n := by
  unfold szP subP
  simp only [List.length_zipWith]
  omega
/-- the number of bits of a greatest number -/
def IsMx (es : List Ent) (l : Nat) : Prop := (∃ e ∈ es, Builtin.Int.intBits e.2 = l) ∧ ∀ e ∈ es, Builtin.Int.intBits e.2 ≤ l
theorem IsMx.one {es : List Ent} {l m : Nat} (h : IsMx es l) (k : IsMx es m) : l = m := by
  obtain ⟨⟨e, he, rfl⟩, h2⟩ := h
  obtain ⟨⟨g, hg, rfl⟩, k2⟩ := k
  exact Nat.le_antisymm (k2 e he) (h2 g hg)
theorem bits_lt {x : Int} {m : Nat} (h : Builtin.Int.intBits x ≤ m) : x.natAbs < 2 ^ m := PySem.intBits_le_iff.mp h
section
variable {P : Program} {w : World} {K : PySem.W.Frag} {mg : Str → Option Value} {base : Heap}
def spPS (K : PySem.W.Frag) : Sp := fun vs H Q _ => ∃ (a b : Addr) (xs ys : List V) (es fs : List Ent) (n : Nat), vs = [.ref a, .ref b] ∧ SqL K H a xs ∧ SqL K H b ys ∧ Ents H xs es ∧ Ents H ys fs ∧ 0 < es.length ∧ 0 < fs.length ∧ es.length ≤ 1000 ∧ fs.length ≤ 1000 ∧ DimN n es ∧ DimN n fs ∧ n ≤ 1000 ∧
  ∀ p H' (rl rh fl fh : Pl), rl.length = n → rh.length = n → fl.length = n → fh.length = n → IsLow es rl → IsTop es rh → IsLow fs fl → IsTop fs fh → Same H H' → H' p = some (.lst ((szP rl rh fl fh).map V.int)) → Q (.ref p) H'
theorem take_sz {rl rh fl fh : Pl} {i : Nat} {a b c d : Int} (h1 : rl[i]? = some a) (h2 : rh[i]? = some b) (h3 : fl[i]? = some c) (h4 : fh[i]? = some d) : (szP rl rh fl fh).take (i + 1) = (szP rl rh fl fh).take i ++ [b - a + d - c + 1] := by
  rw [List.take_add_one, szP_at h1 h2 h3 h4]
  rfl
theorem c_product_sizes {f : Addr} {fd : FuncData} (D : C8.Def K mg "product_sizes" s_product_sizes f fd) (b : Binds K fd ["first", "second"] []) (T : Bi mg) (c_bounds : C8.Cal P w K mg base 1 "bounds" (spBounds K) []) : C8.Cal P w K mg base 2 "product_sizes" (spPS K) [] := by
  refine C8.cal0 D b .nil sc_product_sizes (fun vs H Q E h => ?_) (fun cdv A outer s H vs Q E hr h => ?_)
  · obtain ⟨a, b, xs, ys, es, fs, n, rfl, _⟩ := h
    rfl
  · obtain ⟨a, b, xs, ys, es, fs, n, rfl, hS, hT, hE, hF, z1, z2, z3, z4, d1, d2, hn, q⟩ := h
    refine ⟨_, (pss_one (ps_ret (pe_lc (own := [("low", 2), ("high", 3), ("other_low", 4), ("other_high", 5)]) (g := (gTup K 2 (gCons (gTup K 2 (gCons (gName 2) (gCons (gName 3) gNil))) (gCons (gTup K 2 (gCons (gName 4) (gCons (gName 5) gNil))) gNil)))) (tt := tYes) rfl sc_product_sizes.nd (pi_zip (by rfl) T.n_zip (pa_cons (C8.pe_c c_bounds hr (by decide) (by rfl) (pa_cons (pv 0) pa_nil)) (pa_cons (C8.pe_c c_bounds hr (by decide) (by rfl) (pa_cons (pv 1) pa_nil)) pa_nil))) (blkOk_by (N := ["first", "second", "low", "high", "other_low", "other_high"]) (sc := C8.fnScope s_product_sizes) (by decide +kernel)) (fun _ _ _ _ _ => (pg_tup rfl (pgs_cons (pg_tup rfl (pgs_cons (pg_name (i := 2) sc_product_sizes.nd rfl (Or.inl rfl)) (pgs_cons (pg_name (i := 3) sc_product_sizes.nd rfl (Or.inl rfl)) pgs_nil))) (pgs_cons (pg_tup rfl (pgs_cons (pg_name (i := 4) sc_product_sizes.nd rfl (Or.inl rfl)) (pgs_cons (pg_name (i := 5) sc_product_sizes.nd rfl (Or.inl rfl)) pgs_nil))) pgs_nil)))) (fun _ _ _ _ _ => pts_nil) (fun _ _ _ _ _ => (pe_op op_add (pe_op op_sub (pe_op op_add (pe_op op_sub (pv 3) (pv 2)) (pv 5)) (pv 4)) pe_int))))), ?_⟩
    refine ⟨_, rfl, a, xs, es, n, rfl, hS, hE, z1, z3, d1, hn, fun p1 ws1 H1 rl rh n1 lR hR s1 hp1 hW1 => ?_⟩
    refine ⟨_, rfl, b, ys, fs, n, rfl, s1.seq hT, hF.mono s1, z2, z4, d2, hn, fun p2 ws2 H2 fl fh n2 lF hF2 s2 hp2 hW2 => ?_⟩
    have l1 := hW1.l1
    have l2 := hW2.l1
    have l3 := hW1.l2
    have l4 := hW2.l2
    have s12 := s1.trans s2
    have hP1 : SqL K H2 p1 ws1 := .inl (.inl (s2 _ _ hp1))
    have hP2 : SqL K H2 p2 ws2 := .inl (.inl hp2)
    have hsz := szP_len (rl := rl) (rh := rh) (fl := fl) (fh := fh) (n := n) n1 (by omega) n2 (by omega)
    refine ⟨p1, p2, _, _, rfl, hP1, hP2, fun D nD => ?_⟩
    refine lc_it (walk_zip (xs := ws1) (ys := ws2) (n := n) (by omega)) (fun i F => Same H2 F ∧ F D = some (.lst (((szP rl rh fl fh).take i).map V.int))) ⟨same_upd nD, upd_same⟩ ?_ ?_ ?_
    · rintro i F _ ⟨sm, _⟩
      exact ⟨sm.seq hP1, sm.seq hP2⟩
    · rintro i x F F2 hi ⟨sm, hD⟩ ⟨t, x1, x2, rfl, nt, rfl, e1, e2⟩
      obtain ⟨t1, a1, a2, rfl, q1, q2, ht1⟩ := (hW1.mono s2).at_ i x1 e1
      obtain ⟨t2, b1, b2, rfl, r1, r2, ht2⟩ := hW2.at_ i x2 e2
      have smt : Same F (upd F t (.tup [.ref t1, .ref t2])) := same_upd nt
      have ht : (upd F t (.tup [.ref t1, .ref t2])) t = some (.tup [.ref t1, .ref t2]) := upd_same
      generalize upd F t (.tup [.ref t1, .ref t2]) = F2 at smt ht
      have sm2 := sm.trans smt
      refine ⟨t, _, rfl, .inl (.inl ht), rfl, _, _, rfl, ?_⟩
      refine ⟨t1, _, rfl, .inl (.inl (sm2 _ _ ht1)), rfl, _, _, rfl, _, _, rfl, rfl, ?_⟩
      refine ⟨_, _, rfl, t2, _, rfl, .inl (.inl (sm2 _ _ ht2)), rfl, _, _, rfl, _, _, rfl, rfl, rfl, rfl, tYes_of ?_⟩
      have hD2 := smt _ _ hD
      walk_at "st"
      refine ⟨_, hD2, AU.line (by rw [List.length_map, List.length_take]; omega), same_mut (sm.trans smt) nD, ?_⟩
      rw [upd_same, take_sz q1 q2 r1 r2, List.map_append]
      rfl
    · rintro F ⟨sm, hD⟩
      rw [List.take_of_length_le (by omega)] at hD
      walk_at "st"
      exact q D F rl rh fl fh n1 (by omega) n2 (by omega) lR hR lF hF2 (s12.trans sm) hD
def spLg (K : PySem.W.Frag) : Sp := fun vs H Q _ => ∃ (a : Addr) (xs : List V) (es : List Ent), vs = [.ref a] ∧ SqL K H a xs ∧ Ents H xs es ∧ 0 < es.length ∧ es.length ≤ 1000 ∧ ∀ l H', IsMx es l → Same H H' → Q (.int (l : Nat)) H'
theorem c_longest {f : Addr} {fd : FuncData} (D : C8.Def K mg "longest" s_longest f fd) (b : Binds K fd ["row"] []) (T : Bi mg) : C8.Cal P w K mg base 1 "longest" (spLg K) [] := by
  refine C8.cal0 D b .nil sc_longest (fun vs H Q E h => ?_) (fun cdv A outer s H vs Q E hr h => ?_)
  · obtain ⟨a, xs, es, rfl, _⟩ := h
    rfl
  · obtain ⟨a, xs, es, rfl, hS, hE, z1, z2, q⟩ := h
    refine ⟨_, (pss_one (ps_ret (pe_callB (cr_max rfl) (by rfl) T.n_max OT.b_max (pa_cons (pe_lc (own := [("place", 1), ("number", 2)]) (g := (gTup K 2 (gCons (gName 1) (gCons (gName 2) gNil)))) (tt := tYes) rfl sc_longest.nd (pi_list (pv 0)) (blkOk_by (N := ["row", "place", "number"]) (sc := C8.fnScope s_longest) (by decide +kernel)) (fun _ _ _ _ _ => (pg_tup rfl (pgs_cons (pg_name (i := 1) sc_longest.nd rfl (Or.inl rfl)) (pgs_cons (pg_name (i := 2) sc_longest.nd rfl (Or.inl rfl)) pgs_nil)))) (fun _ _ _ _ _ => pts_nil) (fun _ _ _ _ _ => (pe_bits (pv 2)))) pa_nil)))), ?_⟩
    have hx := hE.len
    walk_at "st"
    refine ⟨a, rfl, ⟨_, hS⟩, fun D nD => ?_⟩
    refine lc_list (K := K) (xs := xs) (fun i F => Same H F ∧ F D = some (.lst ((es.take i).map fun e => V.int ((Builtin.Int.intBits e.2 : Nat) : Int)))) ⟨same_upd nD, upd_same⟩ ?_ ?_ ?_
    · rintro i F _ ⟨sF, _⟩
      exact sF.seq hS
    · rintro i x F hxi ⟨sF, hD⟩
      obtain ⟨e, he, t, pe, rfl, ht, hpe⟩ := (hE.mono sF).get hxi
      have hi := (List.getElem?_eq_some_iff.mp he).1
      refine ⟨t, _, rfl, .inl (.inl ht), rfl, _, _, rfl, _, _, rfl, rfl, rfl, tYes_of ?_⟩
      refine AU.bits_ ?_
      walk_at "st"
      refine ⟨_, rfl, _, hD, AU.line (by rw [List.length_map, List.length_take]; omega), same_mut sF nD, ?_⟩
      rw [upd_same, take_snoc he, List.map_append]
      rfl
    · rintro F ⟨sF, hD⟩
      rw [hx, List.take_length] at hD
      have hD2 : SqL K F D ((es.map fun e => ((Builtin.Int.intBits e.2 : Nat) : Int)).map V.int) := by
        rw [List.map_map]
        exact AU.sqL hD
      walk_at "st"
      refine ⟨D, _, rfl, hD2, by rw [List.length_map]; exact z1, fun m hm1 hm2 => ?_⟩
      obtain ⟨e, he, rfl⟩ := List.mem_map.mp hm1
      refine q _ F ⟨⟨e, he, rfl⟩, fun g hg => ?_⟩ sF
      have := hm2 _ (List.mem_map_of_mem hg)
      omega
/-- the number of bits of a digit -/
def Bits (es fs : List Ent) (n : Nat) : Prop := ∃ l1 l2, IsMx es l1 ∧ IsMx fs l2 ∧ n = l1 + l2 + Builtin.Int.intBits ((min es.length fs.length : Nat) : Int) + 1
theorem Bits.one {es fs : List Ent} {n m : Nat} (h : Bits es fs n) (k : Bits es fs m) : n = m := by
  obtain ⟨l1, l2, h1, h2, rfl⟩ := h
  obtain ⟨m1, m2, k1, k2, rfl⟩ := k
  rw [h1.one k1, h2.one k2]
def spDB (K : PySem.W.Frag) : Sp := fun vs H Q _ => ∃ (a b : Addr) (xs ys : List V) (es fs : List Ent), vs = [.ref a, .ref b] ∧ SqL K H a xs ∧ SqL K H b ys ∧ Ents H xs es ∧ Ents H ys fs ∧ 0 < es.length ∧ 0 < fs.length ∧ es.length ≤ 1000 ∧ fs.length ≤ 1000 ∧ ∀ n H', Bits es fs n → Same H H' → Q (.int (n : Nat)) H'
theorem c_digit_bits {f : Addr} {fd : FuncData} (D : C8.Def K mg "digit_bits" s_digit_bits f fd) (b : Binds K fd ["first", "second"] []) (T : Bi mg) (c_longest : C8.Cal P w K mg base 1 "longest" (spLg K) []) : C8.Cal P w K mg base 2 "digit_bits" (spDB K) [] := by
  refine C8.cal0 D b .nil sc_digit_bits (fun vs H Q E h => ?_) (fun cdv A outer s H vs Q E hr h => ?_)
  · obtain ⟨a, b, xs, ys, es, fs, rfl, _⟩ := h
    rfl
  · obtain ⟨a, b, xs, ys, es, fs, rfl, hS, hT, hE, hF, z1, z2, z3, z4, q⟩ := h
    refine ⟨_, (pss_cons (ps_set (i := 2) sc_digit_bits.nd rfl (Or.inl rfl) (pe_callB (call_min2 rfl) (by rfl) T.n_min OT.b_min (pa_cons (pe_callB call_len_seq (by rfl) T.n_len OT.b_len (pa_cons (pv 0) pa_nil)) (pa_cons (pe_callB call_len_seq (by rfl) T.n_len OT.b_len (pa_cons (pv 1) pa_nil)) pa_nil))))
  (pss_one (ps_ret (pe_op op_add (pe_op op_add (pe_op op_add (C8.pe_c c_longest hr (by decide) (by rfl) (pa_cons (pv 0) pa_nil)) (C8.pe_c c_longest hr (by decide) (by rfl) (pa_cons (pv 1) pa_nil))) (pe_bits (pv 2))) pe_int)))), ?_⟩
    have hx := hE.len
    have hy := hF.len
    walk_at "st"
    refine ⟨_, _, rfl, ?_⟩
    rw [hx, hy]
    have em : (if (fs.length : Int) < (es.length : Int) then (fs.length : Int) else (es.length : Int)) = ((min es.length fs.length : Nat) : Int) := by
      by_cases c : fs.length < es.length
      · rw [if_pos (by omega), Nat.min_eq_right (by omega)]
      · rw [if_neg (by omega), Nat.min_eq_left (by omega)]
    rw [em]
    walk_at "st"
    refine ⟨a, xs, es, rfl, hS, hE, z1, z3, fun l1 H1 h1 s1 => ?_⟩
    have hT1 := s1.seq hT
    walk_at "st"
    refine ⟨b, ys, fs, rfl, hT1, hF.mono s1, z2, z4, fun l2 H2 h2 s2 => ?_⟩
    walk_at "st"
    refine AU.bits_ ?_
    walk_at "st"
    refine ⟨_, rfl, ?_⟩
    walk_at "st"
    exact q (l1 + l2 + Builtin.Int.intBits ((min es.length fs.length : Nat) : Int) + 1) H2 ⟨l1, l2, h1, h2, rfl⟩ (s1.trans s2)
end

set_option Elab.async false
set_option linter.all false
set_option maxRecDepth 100000
set_option maxHeartbeats 2000000
theorem int_mul2 (n : Nat) : ((n : Nat) : Int) * 2 = ((n * 2 : Nat) : Int) := by omega
theorem pow_ge1 (j : Nat) : 1 ≤ 2 ^ j := Nat.pow_pos (by decide)
theorem flat_take {α β : Type} {l : List α} {i : Nat} {x : α} (h : l[i]? = some x) (g : α → List β) : (l.take (i + 1)).flatMap g = (l.take i).flatMap g ++ g x := by
  rw [take_snocI h, List.flatMap_append]
  show _ ++ (g x ++ []) = _
  rw [List.append_nil]
section
variable {P : Program} {w : World} {K : PySem.W.Frag} {mg : Str → Option Value} {base : Heap}
def spSplit : Sp := fun vs H Q _ => ∃ (f : Nat → Int) (b m : Nat), vs = [.int (CP.sumTo m fun t => f t * ((2 : Int) ^ b) ^ t), .int (b : Int), .int (m : Int)] ∧ 1 ≤ b ∧ b * m ≤ 200000 ∧ 1 ≤ m ∧ m ≤ 19000 ∧ (∀ i, -((2 : Int) ^ b - 2) ≤ 2 * f i ∧ 2 * f i ≤ (2 : Int) ^ b - 2) ∧ (∀ i, m ≤ i → f i = 0) ∧
  ∀ p k H', m ≤ k → k ≤ 40000 → Same H H' → H' p = some (.lst (((List.range k).map f).map V.int)) → Q (.ref p) H'
theorem c_split_digits {f : Addr} {fd : FuncData} (D : C8.Def K mg "split_digits" s_split_digits f fd) (b : Binds K fd ["number", "bits", "many"] []) (T : Bi mg) (c_low_digit : C8.Cal P w K mg base 1 "low_digit" spLow []) : C8.Cal P w K mg base 2 "split_digits" spSplit [] := by
  refine C8.cal0 D b .nil sc_split_digits (fun vs H Q E h => ?_) (fun cdv A outer s H vs Q E hr h => ?_)
  · obtain ⟨f, b, m, rfl, _⟩ := h
    rfl
  · obtain ⟨f, b, m, rfl, hb, hbm, hm1, hm2, hf, hz, q⟩ := h
    refine ⟨_, (pss_cons (ps_set (i := 3) sc_split_digits.nd rfl (Or.inl rfl) (pe_lst (pa_cons (pv 0) pa_nil)))
  (pss_cons (ps_set (i := 4) sc_split_digits.nd rfl (Or.inr rfl) (pv 1))
  (pss_cons (ps_while PassesOwn.never (pt_cmpR op_lt (pv 4) (pe_op op_mul (pv 1) (pv 2)) (nomark _)) (pss_one (ps_set (i := 4) sc_split_digits.nd rfl (Or.inr rfl) (pe_op op_mul (pv 4) pe_int))))
  (pss_cons (ps_while PassesOwn.never (pt_cmpR op_gt (pv 4) (pv 1) (nomark _)) (pss_cons (ps_set (i := 4) sc_split_digits.nd rfl (Or.inr rfl) (pe_op op_fdiv (pv 4) pe_int))
  (pss_cons (ps_setLc (i := 5) (own := [("digit", 6)]) (g := (gName 6)) (tt := tYes) rfl sc_split_digits.nd rfl rfl (sw_true rfl rfl rfl rfl) (pi_list (pv 3)) (blkOk_by (N := ["number", "bits", "many", "digits", "width", "lows", "digit", "part", "low"]) (sc := C8.fnScope s_split_digits) (by decide +kernel)) (fun _ _ _ _ _ => (pg_name (i := 6) sc_split_digits.nd rfl (Or.inl rfl))) (fun _ _ _ _ _ => pts_nil) (fun _ _ _ _ _ => (C8.pe_c c_low_digit hr (by decide) (by rfl) (pa_cons (pv 6) (pa_cons (pv 4) pa_nil)))))
  (pss_one (ps_setLc2 (i := 3) (own := [("digit", 6), ("low", 8), ("part", 7)]) (vs1 := [7]) (g := (gTup K 2 (gCons (gName 6) (gCons (gName 8) gNil)))) (g1 := (gName 7)) (tt := tYes) (tt1 := tYes) rfl sc_split_digits.nd rfl rfl (sw_true rfl rfl rfl rfl) (pi_zip (by rfl) T.n_zip (pa_cons (pv 3) (pa_cons (pv 5) pa_nil))) (blkOk_by (N := ["number", "bits", "many", "digits", "width", "lows", "digit", "part", "low"]) (sc := C8.fnScope s_split_digits) (by decide +kernel)) (by decide) (fun _ _ _ _ _ => (pg_tup rfl (pgs_cons (pg_name (i := 6) sc_split_digits.nd rfl (Or.inl rfl)) (pgs_cons (pg_name (i := 8) sc_split_digits.nd rfl (Or.inl rfl)) pgs_nil)))) (fun _ _ _ _ _ => pts_nil) (fun _ _ _ _ _ => (show PI _ _ _ (iTup K _) from pi_tup (pe_tup (pa_cons (pv 8) (pa_cons (pe_op op_shrN (pe_op op_sub (pv 6) (pv 8)) (pv 4)) pa_nil))))) (fun _ _ _ _ _ => (pg_name (i := 7) sc_split_digits.nd rfl (Or.inl rfl))) (fun _ _ _ _ _ => pts_nil) (fun _ _ _ _ _ => (pv 7)))))))
  (pss_one (ps_ret (pv 3))))))), ?_⟩
    generalize hN : (CP.sumTo m fun t => f t * ((2 : Int) ^ b) ^ t) = N
    walk_at "st"
    refine ⟨by walk_at "sz", fun d0 nd0 => ?_⟩; generalize eH1 : upd _ d0 _ = H1; have s1 := AU.newS nd0 eH1; have hd0 := AU.newH eH1; clear eH1
    walk_at "st"
    refine AU.while_ ⟨fun mm σ G => ∃ j : Nat, mm = m - 2 ^ j ∧ 2 ^ j ≤ 2 * m ∧ σ = [some (.int N), some (.int (b : Int)), some (.int (m : Int)), some (.ref d0), some (.int ((b * 2 ^ j : Nat) : Int)), none, none, none, none] ∧ G = H1, ⟨_, 0, rfl, by show 1 ≤ _; omega, by rw [Nat.pow_zero, Nat.mul_one]; rfl, rfl⟩, ?_⟩
    rintro mm σ G ⟨j, rfl, hj2, rfl, rfl⟩
    have hj1 := pow_ge1 j
    have hbj : b * 2 ^ j ≤ 400000 := Nat.le_trans (Nat.mul_le_mul_left b hj2) (by rw [Nat.mul_left_comm]; omega)
    have hbb : b ≤ 200000 := Nat.le_trans (Nat.le_mul_of_pos_right b (by omega)) hbm
    have e64 : (2 : Int) ^ 64 = 18446744073709551616 := by decide
    walk_at "st"
    have ebm : (b : Int) * (m : Int) = ((b * m : Nat) : Int) := (Int.natCast_mul b m).symm
    rw [ebm]
    refine iteD (fun z => ?_) (fun z => ?_)
    · have zn : b * 2 ^ j < b * m := by omega
      have zj : 2 ^ j < m := Nat.lt_of_mul_lt_mul_left zn
      refine ⟨_, fun _ _ h => h, ?_⟩
      walk_at "st"
      refine ⟨m - 2 ^ (j + 1), ?_, j + 1, rfl, ?_, ?_, rfl⟩
      · rw [Nat.pow_succ]; omega
      · rw [Nat.pow_succ]; omega
      · rw [int_mul2, Nat.mul_assoc, ← Nat.pow_succ]
        rfl
    have zj : m ≤ 2 ^ j := by
      apply Classical.byContradiction
      intro c
      exact z (by have := Nat.mul_lt_mul_of_pos_left (show 2 ^ j < m by omega) (show 0 < b by omega); omega)
    have top := CP.V_top ((2 : Int) ^ b) f (k := j) (n := m) zj hz
    rw [hN] at top
    walk_at "st"
    refine AU.while_ ⟨fun mm σ G => ∃ (t : Nat) (p : Addr) (y5 y6 y7 y8 : Option V), mm + t = j ∧ σ = [some (.int N), some (.int (b : Int)), some (.int (m : Int)), some (.ref p), some (.int ((b * 2 ^ mm : Nat) : Int)), y5, y6, y7, y8] ∧ Same H G ∧ G p = some (.lst (((List.range (2 ^ t)).map (CP.V ((2 : Int) ^ b) f mm)).map V.int)), ⟨j, 0, d0, none, none, none, none, rfl, rfl, s1, ?_⟩, ?_⟩
    · rw [hd0, ← top]
      rfl
    rintro mm σ G ⟨t, p, y5, y6, y7, y8, hmt, rfl, sG, hp⟩
    have h2m : 2 ^ mm ≤ 2 ^ j := Nat.pow_le_pow_right (by decide) (by omega)
    have h2t : 2 ^ t ≤ 2 ^ j := Nat.pow_le_pow_right (by decide) (by omega)
    have hbmm : b * 2 ^ mm ≤ 400000 := Nat.le_trans (Nat.mul_le_mul_left b h2m) hbj
    walk_at "st"
    refine iteD (fun z => ?_) (fun z => ?_)
    · obtain ⟨mm, rfl⟩ : ∃ k, mm = k + 1 := by
        cases mm with
        | zero => rw [Nat.pow_zero, Nat.mul_one] at z; omega
        | succ k => exact ⟨k, rfl⟩
      have ew : ((b * 2 ^ (mm + 1) : Nat) : Int) / 2 = ((b * 2 ^ mm : Nat) : Int) := by
        rw [Nat.pow_succ, ← Nat.mul_assoc]
        omega
      have hX : ((2 : Int) ^ b) ^ (2 ^ mm) = 2 ^ (b * 2 ^ mm) := Int.pow_mul.symm
      have hw1 : 1 ≤ b * 2 ^ mm := Nat.mul_pos (by omega) (pow_ge1 mm)
      have hw2 : b * 2 ^ mm ≤ 400000 := Nat.le_trans (Nat.mul_le_mul_left b (Nat.pow_le_pow_right (by decide) (Nat.le_succ mm))) hbmm
      have hlev := CP.split_step (B := (2 : Int) ^ b) (by
        obtain ⟨c, rfl⟩ : ∃ c, b = c + 1 := ⟨b - 1, by omega⟩
        rw [Int.pow_succ]
        have : 0 < (2 : Int) ^ c := Int.pow_pos (by decide)
        omega) (by
        obtain ⟨c, rfl⟩ : ∃ c, b = c + 1 := ⟨b - 1, by omega⟩
        rw [Int.pow_succ]
        omega) hf mm (2 ^ t)
      rw [hX] at hlev
      generalize hds : (List.range (2 ^ t)).map (CP.V ((2 : Int) ^ b) f (mm + 1)) = ds at hp hlev
      have hdl : ds.length = 2 ^ t := by rw [← hds, List.length_map, List.length_range]
      have htl : 2 * 2 ^ t = 2 ^ (t + 1) := by rw [Nat.pow_succ]; omega
      have htj : 2 ^ (t + 1) ≤ 2 ^ j := Nat.pow_le_pow_right (by decide) (by omega)
      refine ⟨_, fun _ _ h => h, ?_⟩
      walk_at "st"
      rw [ew]
      walk_at "st"
      refine ⟨p, rfl, ⟨_, AU.sqL hp⟩, fun D1 nD1 => ?_⟩
      refine lc_list (K := K) (xs := ds.map V.int) (fun i F => Same G F ∧ F D1 = some (.lst (((ds.take i).map (CP.low (2 ^ (b * 2 ^ mm)))).map V.int))) ⟨same_upd nD1, upd_same⟩ ?_ ?_ ?_
      · rintro i F _ ⟨sF, _⟩
        exact AU.sqL (sF _ _ hp)
      · rintro i x F hxi ⟨sF, hD⟩
        obtain ⟨d, rfl, hd, _⟩ := int_at hxi
        have hil := (List.getElem?_eq_some_iff.mp hd).1
        refine ⟨rfl, tYes_of ?_⟩
        walk_at "st"
        refine ⟨d, b * 2 ^ mm, rfl, hw1, by omega, ?_⟩
        refine ⟨_, hD, small100k (by rw [List.length_map, List.length_map, List.length_take]; omega), same_mut sF nD1, ?_⟩
        rw [upd_same, take_snocI hd, List.map_append, List.map_append]
        rfl
      · rintro F ⟨sF, hD⟩
        rw [List.length_map, List.take_length] at hD
        have hpF := sF _ _ hp
        walk_at "st"
        refine AU.zipL_ ?_
        walk_at "st"
        refine ⟨p, D1, _, _, rfl, AU.sqL hpF, AU.sqL hD, fun D2 nD2 => ?_⟩
        refine AU.lc2_itO (walk_zip (xs := ds.map V.int) (ys := (ds.map (CP.low (2 ^ (b * 2 ^ mm)))).map V.int) (n := ds.length) (by simp)) (fun i F2 => Same F F2 ∧ F2 D2 = some (.lst (((ds.take i).flatMap fun d => [CP.low (2 ^ (b * 2 ^ mm)) d, (d - CP.low (2 ^ (b * 2 ^ mm)) d) / 2 ^ (b * 2 ^ mm)]).map V.int))) ⟨same_upd nD2, upd_same⟩ ?_ ?_ ?_
        · rintro i F2 _ ⟨sF2, _⟩
          exact ⟨AU.sqL (sF2 _ _ hpF), AU.sqL (sF2 _ _ hD)⟩
        · rintro i x F2 F3 hi ⟨sF2, hD2⟩ ⟨t3, x1, x2, rfl, nt3, rfl, e1, e2⟩
          obtain ⟨d, rfl, hd, _⟩ := int_at e1
          obtain ⟨lw, rfl, hlw, _⟩ := int_at e2
          have elw : lw = CP.low (2 ^ (b * 2 ^ mm)) d := by
            rw [List.getElem?_map, hd] at hlw
            exact (Option.some.inj hlw).symm
          have st3 : Same F2 (upd F2 t3 (.tup [.int d, .int lw])) := same_upd nt3
          have ht3 : (upd F2 t3 (.tup [.int d, .int lw])) t3 = some (.tup [.int d, .int lw]) := upd_same
          generalize upd F2 t3 (.tup [.int d, .int lw]) = F3 at st3 ht3 ⊢
          have hD3 := st3 _ _ hD2
          refine ⟨t3, _, rfl, .inl (.inl ht3), rfl, _, _, rfl, _, _, rfl, rfl, rfl, tYes_of ?_⟩
          walk_at "st"
          refine ⟨_, _, rfl, rfl, ?_⟩
          walk_at "st"
          refine ⟨by walk_at "sz", fun t4 nt4 => ?_⟩; generalize eF4 : upd _ t4 _ = F4; have st4 := AU.newS nt4 eF4; have ht4 := AU.newH eF4; clear eF4
          have hD4 := st4 _ _ hD3
          have hD2t : D2 ≠ t4 := ne_of_none hD3 nt4
          walk_at "st"
          refine ⟨t4, rfl, ⟨_, AU.sqT ht4⟩, ?_⟩
          have ei := flat_take hd fun d => [CP.low (2 ^ (b * 2 ^ mm)) d, (d - CP.low (2 ^ (b * 2 ^ mm)) d) / 2 ^ (b * 2 ^ mm)]
          have fl : ((ds.take i).flatMap fun d => [CP.low (2 ^ (b * 2 ^ mm)) d, (d - CP.low (2 ^ (b * 2 ^ mm)) d) / 2 ^ (b * 2 ^ mm)]).length = 2 * i := by
            have : ∀ l : List Int, (l.flatMap fun d => [CP.low (2 ^ (b * 2 ^ mm)) d, (d - CP.low (2 ^ (b * 2 ^ mm)) d) / 2 ^ (b * 2 ^ mm)]).length = 2 * l.length := fun l => by
              induction l with
              | nil => rfl
              | cons a r ih => rw [List.flatMap_cons, List.length_append, ih]; show 2 + 2 * r.length = 2 * (r.length + 1); omega
            rw [this, List.length_take]
            omega
          generalize hL : ((ds.take i).flatMap fun d => [CP.low (2 ^ (b * 2 ^ mm)) d, (d - CP.low (2 ^ (b * 2 ^ mm)) d) / 2 ^ (b * 2 ^ mm)]) = L at hD4 ei fl
          have sF4 : Same F F4 := sF2.trans (st3.trans st4)
          refine AU.lc2_itI (walk_tup (xs := ([lw, (d - lw) / 2 ^ (b * 2 ^ mm)] : List Int).map V.int)) (fun k F5 => Same F F5 ∧ F5 t4 = some (.tup [.int lw, .int ((d - lw) / 2 ^ (b * 2 ^ mm))]) ∧ F5 D2 = some (.lst ((L ++ ([lw, (d - lw) / 2 ^ (b * 2 ^ mm)] : List Int).take k).map V.int))) ⟨sF4, ht4, by rw [hD4, List.take_zero, List.append_nil]⟩ ?_ ?_ ?_
          · rintro k F5 _ ⟨_, h5, _⟩
            exact AU.sqT h5
          · rintro k y F5 F6 hk ⟨s5, h5, hD5⟩ ⟨rfl, ey⟩
            obtain ⟨z, rfl, hz2, _⟩ := int_at ey
            refine ⟨rfl, tYes_of ?_⟩
            walk_at "st"
            have hk2 : k < 2 := hk
            refine ⟨_, hD5, small100k (by rw [List.length_map, List.length_append, List.length_take, fl]; show _ + min k 2 ≤ _; omega), same_mut s5 nD2, ?_, ?_⟩
            · rw [upd_ne hD2t.symm]
              exact h5
            · rw [upd_same, take_snocI hz2, ← List.append_assoc, List.map_append (l₂ := [z])]
              rfl
          · rintro F5 ⟨s5, _, hD5⟩
            refine ⟨s5, ?_⟩
            rw [hD5, ei, elw]
            rfl
        · rintro F2 ⟨sF2, hD2⟩
          rw [List.take_length, hlev] at hD2
          walk_at "st"
          refine ⟨mm, by omega, t + 1, D2, _, _, _, _, by omega, rfl, sG.trans (sF.trans sF2), ?_⟩
          rw [hD2, htl]
    · have hmm : mm = 0 := by
        apply Classical.byContradiction
        intro c
        obtain ⟨k, rfl⟩ : ∃ k, mm = k + 1 := ⟨mm - 1, by omega⟩
        refine z ?_
        have h1 := pow_ge1 k
        have h2 : b * 2 ≤ b * 2 ^ (k + 1) := Nat.mul_le_mul_left b (by rw [Nat.pow_succ]; omega)
        omega
      subst hmm
      obtain rfl : t = j := by omega
      walk_at "st"
      exact q p (2 ^ t) G zj (by omega) sG hp
end

set_option Elab.async false
set_option linter.all false
set_option maxRecDepth 100000
set_option maxHeartbeats 2000000
theorem box_snoc (s : Int) : ∀ ss : Pl, boxN2 (ss ++ [s]) = boxN2 ss * s
  | [] => by show s * 1 = 1 * s; omega
  | t :: ss => by
    show t * boxN2 (ss ++ [s]) = t * boxN2 ss * s
    rw [box_snoc s ss, Int.mul_assoc]
theorem low_top {es : List Ent} {lo hi : Pl} (h : IsLow es lo) (k : IsTop es hi) {i : Nat} {x y : Int} (hx : lo[i]? = some x) (hy : hi[i]? = some y) : x ≤ y := by
  obtain ⟨⟨e, he, hex⟩, _⟩ := h i x hx
  exact (k i y hy).2 e he x hex
theorem low_bd {es : List Ent} {lo : Pl} {C : Nat} (h : IsLow es lo) (c : ∀ e ∈ es, ∀ x ∈ e.1, x.natAbs ≤ C) {i : Nat} {x : Int} (hx : lo[i]? = some x) : x.natAbs ≤ C := by
  obtain ⟨⟨e, he, hex⟩, _⟩ := h i x hx
  exact c e he x (List.mem_of_getElem? hex)
theorem top_bd {es : List Ent} {lo : Pl} {C : Nat} (h : IsTop es lo) (c : ∀ e ∈ es, ∀ x ∈ e.1, x.natAbs ≤ C) {i : Nat} {x : Int} (hx : lo[i]? = some x) : x.natAbs ≤ C := by
  obtain ⟨⟨e, he, hex⟩, _⟩ := h i x hx
  exact c e he x (List.mem_of_getElem? hex)
/-- the box of a product -/
structure BoxS (es fs : List Ent) (n : Nat) (rl rh fl fh : Pl) : Prop where
  l1 : rl.length = n
  l2 : rh.length = n
  l3 : fl.length = n
  l4 : fh.length = n
  a : IsLow es rl
  b : IsTop es rh
  c : IsLow fs fl
  d : IsTop fs fh
theorem BoxS.mem {es fs : List Ent} {n C : Nat} {rl rh fl fh : Pl} (h : BoxS es fs n rl rh fl fh) (ce : ∀ e ∈ es, ∀ x ∈ e.1, x.natAbs ≤ C) (cf : ∀ e ∈ fs, ∀ x ∈ e.1, x.natAbs ≤ C) : ∀ s ∈ szP rl rh fl fh, 0 < s ∧ s ≤ 4 * (C : Int) + 1 := fun s hs => by
  obtain ⟨i, hi⟩ := List.getElem?_of_mem hs
  have hil := (List.getElem?_eq_some_iff.mp hi).1
  rw [szP_len h.l1 h.l2 h.l3 h.l4] at hil
  have e1 : rl[i]? = some (rl[i]'(by rw [h.l1]; exact hil)) := List.getElem?_eq_getElem _
  have e2 : rh[i]? = some (rh[i]'(by rw [h.l2]; exact hil)) := List.getElem?_eq_getElem _
  have e3 : fl[i]? = some (fl[i]'(by rw [h.l3]; exact hil)) := List.getElem?_eq_getElem _
  have e4 : fh[i]? = some (fh[i]'(by rw [h.l4]; exact hil)) := List.getElem?_eq_getElem _
  rw [szP_at e1 e2 e3 e4] at hi
  cases hi
  have k1 := low_top h.a h.b e1 e2
  have k2 := low_top h.c h.d e3 e4
  have b1 := low_bd h.a ce e1
  have b2 := top_bd h.b ce e2
  have b3 := low_bd h.c cf e3
  have b4 := top_bd h.d cf e4
  omega
theorem BoxS.one {es fs : List Ent} {n : Nat} {rl rh fl fh rl' rh' fl' fh' : Pl} (h : BoxS es fs n rl rh fl fh) (k : BoxS es fs n rl' rh' fl' fh') : szP rl rh fl fh = szP rl' rh' fl' fh' := by
  rw [h.a.one (h.l1.trans k.l1.symm) k.a, h.b.one (h.l2.trans k.l2.symm) k.b, h.c.one (h.l3.trans k.l3.symm) k.c, h.d.one (h.l4.trans k.l4.symm) k.d]
/-- great integers are the shorter way -/
def Crowd (es fs : List Ent) (n : Nat) : Prop := 2000 ≤ es.length * fs.length ∧ ∃ nb rl rh fl fh, Bits es fs nb ∧ BoxS es fs n rl rh fl fh ∧ (nb : Int) * boxN2 (szP rl rh fl fh) < 4 * ((es.length * fs.length : Nat) : Int)
section
variable {P : Program} {w : World} {K : PySem.W.Frag} {mg : Str → Option Value} {base : Heap}
def spIsCr : Sp := fun vs H Q _ => ∃ (a b : Addr) (xs ys : List V) (es fs : List Ent) (n m C : Nat), vs = [.ref a, .ref b] ∧ H a = some (.lst xs) ∧ H b = some (.lst ys) ∧ Ents H xs es ∧ Ents H ys fs ∧ es.length ≤ 1000 ∧ fs.length ≤ 1000 ∧ DimN n es ∧ DimN m fs ∧ (es ≠ [] → fs ≠ [] → n = m) ∧ n ≤ 3 ∧ (∀ e ∈ es, ∀ x ∈ e.1, x.natAbs ≤ C) ∧ (∀ e ∈ fs, ∀ x ∈ e.1, x.natAbs ≤ C) ∧ C ≤ 1000000 ∧
  (∀ H', Same H H' → Q (.bl false) H') ∧ (Crowd es fs n → ∀ H', Same H H' → Q (.bl true) H')
theorem c_is_crowdedF {f : Addr} {fd : FuncData} {tk : Tok} (D : C8.Def K mg "is_crowded" s_is_crowded f fd) (b : Binds K fd ["first", "second"] []) (T : Bi mg) (gF : mg "FEW_PAIRS" = some (.int 2000 tk)) (c_digit_bits : C8.Cal P w K mg base 2 "digit_bits" (spDB K) []) (c_product_sizes : C8.Cal P w K mg base 2 "product_sizes" (spPS K) []) : C8.Cal P w K mg base 3 "is_crowded" spIsCr [] := by
  refine C8.cal0 D b .nil sc_is_crowded (fun vs H Q E h => ?_) (fun cdv A outer s H vs Q E hr h => ?_)
  · obtain ⟨a, b, xs, ys, es, fs, n, m, C, rfl, _⟩ := h
    rfl
  · obtain ⟨a, b, xs, ys, es, fs, n, m, C, rfl, ha, hb, hE, hF, z1, z2, d1, d2, hnm, hn3, ce, cf, hC, q1, q2⟩ := h
    refine ⟨_, (pss_cons (ps_set (i := 2) sc_is_crowded.nd rfl (Or.inl rfl) (pe_op op_mul (pe_callB call_len_seq (by rfl) T.n_len OT.b_len (pa_cons (pv 0) pa_nil)) (pe_callB call_len_seq (by rfl) T.n_len OT.b_len (pa_cons (pv 1) pa_nil))))
  (pss_cons (ps_if (pt_cmpR op_lt (pv 2) (pe_glob (v := .int 2000) (by rfl) gF ⟨_, rfl⟩) (nomark _)) (pss_one (ps_ret pe_bl)) pss_nil)
  (pss_cons (ps_set (i := 3) sc_is_crowded.nd rfl (Or.inl rfl) (C8.pe_c c_digit_bits hr (by decide) (by rfl) (pa_cons (pv 0) (pa_cons (pv 1) pa_nil))))
  (pss_cons (ps_for PassesOwn.never rfl (pi_list (C8.pe_c c_product_sizes hr (by decide) (by rfl) (pa_cons (pv 0) (pa_cons (pv 1) pa_nil)))) (pg_name (i := 4) sc_is_crowded.nd rfl (Or.inl rfl)) (pss_one (ps_set (i := 3) sc_is_crowded.nd rfl (Or.inl rfl) (pe_op op_mul (pv 3) (pv 4)))))
  (pss_one (ps_ret (pe_cmpR op_lt (pv 3) (pe_op op_mul pe_int (pv 2)) (nomark _)))))))), ?_⟩
    have hx := hE.len
    have hy := hF.len
    have ha0 := ha
    have hb0 := hb
    walk_at "st"
    rw [hx, hy]
    have emn : (es.length : Int) * (fs.length : Int) = ((es.length * fs.length : Nat) : Int) := (Int.natCast_mul _ _).symm
    rw [emn]
    refine iteD (fun z => ?_) (fun z => ?_)
    · walk_at "st"
      exact q1 H (Same.refl _)
    have z' : 2000 ≤ es.length * fs.length := by omega
    have p1 : 0 < es.length := Nat.pos_of_ne_zero fun h => by rw [h, Nat.zero_mul] at z'; omega
    have p2 : 0 < fs.length := Nat.pos_of_ne_zero fun h => by rw [h, Nat.mul_zero] at z'; omega
    obtain rfl : n = m := hnm (List.length_pos_iff.mp p1) (List.length_pos_iff.mp p2)
    walk_at "st"
    refine ⟨a, b, xs, ys, es, fs, rfl, AU.sqL ha0, AU.sqL hb0, hE, hF, p1, p2, z1, z2, fun nb H1 hnb s1 => ?_⟩
    walk_at "st"
    refine ⟨a, b, xs, ys, es, fs, n, rfl, AU.sqL (s1 _ _ ha0), AU.sqL (s1 _ _ hb0), hE.mono s1, hF.mono s1, p1, p2, z1, z2, d1, d2, by omega, fun p H2 rl rh fl fh n1 n2 n3 n4 lR hR lF hF2 s2 hp => ?_⟩
    have B : BoxS es fs n rl rh fl fh := ⟨n1, n2, n3, n4, lR, hR, lF, hF2⟩
    have hmem := B.mem ce cf
    generalize hss : szP rl rh fl fh = ss at hp hmem
    walk_at "st"
    refine ⟨p, rfl, ⟨_, AU.sqL hp⟩, ?_⟩
    refine for_list (K := K) (xs := ss.map V.int) (fun i σ G => ∃ y4 : Option V, σ = [some (.ref a), some (.ref b), some (.int ((es.length * fs.length : Nat) : Int)), some (.int ((nb : Int) * boxN2 (ss.take i))), y4] ∧ G = H2) ⟨none, by rw [List.take_zero]; show _ = [_, _, _, some (V.int ((nb : Int) * 1)), none]; rw [Int.mul_one]; rfl, rfl⟩ ?_ ?_ ?_
    · rintro i σ G _ ⟨_, _, rfl⟩
      exact AU.sqL hp
    · rintro i x σ G hxi ⟨y4, rfl, rfl⟩
      obtain ⟨sz, rfl, hs, hsm⟩ := int_at hxi
      obtain ⟨s0, s1'⟩ := hmem sz hsm
      have e64 : (2 : Int) ^ 64 = 18446744073709551616 := by decide
      walk_at "st"
      refine ⟨some (.int sz), ?_, rfl⟩
      rw [take_snocI hs, box_snoc, Int.mul_assoc]
      rfl
    · rintro σ G ⟨y4, rfl, rfl⟩
      rw [List.length_map, List.take_length]
      walk_at "st"
      by_cases c : (nb : Int) * boxN2 ss < 4 * ((es.length * fs.length : Nat) : Int)
      · rw [decide_eq_true c]
        exact q2 ⟨z', nb, rl, rh, fl, fh, hnb, B, by rw [hss]; exact c⟩ _ (s1.trans s2)
      · rw [decide_eq_false c]
        exact q1 _ (s1.trans s2)
end

set_option Elab.async false
set_option linter.all false
set_option maxRecDepth 100000
set_option maxHeartbeats 2000000
theorem rep_fun (N : Nat) : (List.replicate N [V.int 0]).flatten = (List.range N).map fun i => V.int ((fun _ => (0 : Int)) i) := by
  induction N with
  | zero => rfl
  | succ N ih =>
    rw [List.replicate_succ', List.flatten_append, ih, List.range_succ, List.map_append]
    rfl
theorem val_bound {b : Nat} : ∀ {ds : List Int}, (∀ d ∈ ds, d.natAbs < 2 ^ b) → (CP.val ((2 : Int) ^ b) ds).natAbs < 2 ^ (b * ds.length)
  | [], _ => by show 0 < 2 ^ (b * 0); rw [Nat.mul_zero]; decide
  | a :: r, h => by
    have ih := val_bound fun x hx => h x (List.mem_cons_of_mem a hx)
    have ha := h a List.mem_cons_self
    show (a + (2 : Int) ^ b * CP.val ((2 : Int) ^ b) r).natAbs < 2 ^ (b * (r.length + 1))
    have h1 := Int.natAbs_add_le a ((2 : Int) ^ b * CP.val ((2 : Int) ^ b) r)
    have e : ((2 : Int) ^ b).natAbs = 2 ^ b := by rw [Int.natAbs_pow]; rfl
    rw [Int.natAbs_mul, e] at h1
    have h2 : 2 ^ b * ((CP.val ((2 : Int) ^ b) r).natAbs + 1) ≤ 2 ^ b * 2 ^ (b * r.length) := Nat.mul_le_mul_left _ ih
    rw [Nat.mul_add, Nat.mul_one, ← Nat.pow_add] at h2
    rw [Nat.mul_add, Nat.mul_one, Nat.add_comm (b * r.length)]
    omega
/-- a bound of bits -/
def bigE : Nat := 200000
theorem ixN_nat {n j : Nat} (h : j < n) : ixN n (j : Int) = some j := by
  unfold ixN
  simp
  omega
/-- nothing yet at the place of an entry that comes -/
theorem take_none {es : List Ent} (v : Valid es) {i : Nat} {e : Ent} (he : es[i]? = some e) : numAt (es.take i) e.1 = 0 := by
  refine numAt_out fun x hx z => ?_
  obtain ⟨j, hj⟩ := List.getElem?_of_mem hx
  have hjl := (List.getElem?_eq_some_iff.mp hj).1
  rw [List.length_take] at hjl
  rw [List.getElem?_take, if_pos (by omega)] at hj
  obtain ⟨hi, rfl⟩ := List.getElem?_eq_some_iff.mp he
  obtain ⟨hj2, rfl⟩ := List.getElem?_eq_some_iff.mp hj
  have := List.pairwise_iff_getElem.mp v.asc j i hj2 hi (by omega)
  exact lt_ne this z
theorem num_or {es : List Ent} (v : Valid es) (q : Pl) : numAt es q = 0 ∨ ∃ e ∈ es, numAt es q = e.2 := by
  by_cases c : ∃ e ∈ es, e.1 = q
  · obtain ⟨e, he, rfl⟩ := c
    exact .inr ⟨e, he, v.at e he⟩
  · exact .inl (numAt_out fun e he z => c ⟨e, he, z⟩)
theorem last_max {es : List Ent} (v : Valid es) {l : Ent} (hl : es[es.length - 1]? = some l) {e : Ent} (he : e ∈ es) : e = l ∨ HT.lexLt e.1 l.1 = true := by
  obtain ⟨j, hj⟩ := List.getElem?_of_mem he
  obtain ⟨hi, rfl⟩ := List.getElem?_eq_some_iff.mp hl
  obtain ⟨hj2, rfl⟩ := List.getElem?_eq_some_iff.mp hj
  by_cases c : j = es.length - 1
  · subst c
    exact .inl rfl
  · exact .inr (List.pairwise_iff_getElem.mp v.asc j _ hj2 hi (by omega))
theorem atI_end {xs : List V} {v : V} (h : xs[xs.length - 1]? = some v) : atI xs (-1) = some v := by
  have hl := (List.getElem?_eq_some_iff.mp h).1
  have e : xs = xs.take (xs.length - 1) ++ [v] := by
    have t := List.take_add_one (l := xs) (i := xs.length - 1)
    rw [h, show xs.length - 1 + 1 = xs.length by omega, List.take_length] at t
    exact t
  rw [e]
  exact atI_last _ _
theorem in_box {es fs : List Ent} {n : Nat} {rl rh fl fh : Pl} (h : BoxS es fs n rl rh fl fh) {e : Ent} (he : e ∈ es) (hn : e.1.length = n) : InD e.1 rl (szP rl rh fl fh) := by
  have key : ∀ (p l s : Pl), p.length = l.length → l.length = s.length → (∀ (i : Nat) (x y z : Int), p[i]? = some x → l[i]? = some y → s[i]? = some z → y ≤ x ∧ x < y + z) → InD p l s := by
    intro p
    induction p with
    | nil =>
      intro l s h1 h2 _
      obtain rfl := List.length_eq_zero_iff.mp h1.symm
      obtain rfl := List.length_eq_zero_iff.mp h2.symm
      exact .nil
    | cons x p ih =>
      intro l s h1 h2 h3
      obtain ⟨y, l, rfl⟩ : ∃ y l', l = y :: l' := List.exists_cons_of_length_eq_add_one h1.symm
      obtain ⟨z, s, rfl⟩ : ∃ y l', s = y :: l' := List.exists_cons_of_length_eq_add_one h2.symm
      obtain ⟨k1, k2⟩ := h3 0 x y z rfl rfl rfl
      exact .cons k1 k2 (ih l s (Nat.succ.inj h1) (Nat.succ.inj h2) fun i x y z a b c => h3 (i + 1) x y z a b c)
  refine key _ _ _ (by rw [hn, h.l1]) (by rw [szP_len h.l1 h.l2 h.l3 h.l4, h.l1]) fun i x y z hx hy hz => ?_
  have hil : i < n := by rw [← hn]; exact (List.getElem?_eq_some_iff.mp hx).1
  have e2 : rh[i]? = some (rh[i]'(by rw [h.l2]; exact hil)) := List.getElem?_eq_getElem _
  have e3 : fl[i]? = some (fl[i]'(by rw [h.l3]; exact hil)) := List.getElem?_eq_getElem _
  have e4 : fh[i]? = some (fh[i]'(by rw [h.l4]; exact hil)) := List.getElem?_eq_getElem _
  rw [szP_at hy e2 e3 e4] at hz
  cases hz
  have k1 := (h.a i y hy).2 e he x hx
  have k2 := (h.b i _ e2).2 e he x hx
  have k3 := low_top h.c h.d e3 e4
  omega
section
variable {P : Program} {w : World} {K : PySem.W.Frag} {mg : Str → Option Value} {base : Heap}
def spGI : Sp := fun vs H Q _ => ∃ (a c : Addr) (b : Nat) (xs : List V) (es : List Ent) (ss : Pl) (n C : Nat), vs = [.ref a, .ref c, .int (b : Int)] ∧ H a = some (.lst xs) ∧ Ents H xs es ∧ Valid es ∧ DimN n es ∧ n ≤ 3 ∧ 0 < es.length ∧ es.length ≤ 1000 ∧ (∀ e ∈ es, ∀ x ∈ e.1, x.natAbs ≤ C) ∧ C ≤ 1000000 ∧
  H c = some (.lst (ss.map V.int)) ∧ ss.length = n ∧ (∀ s ∈ ss, 0 < s) ∧ (∀ rl, rl.length = n → IsLow es rl → ∀ e ∈ es, InD e.1 rl ss) ∧ boxN2 ss ≤ 19000 ∧ 1 ≤ b ∧ b ≤ 200000 ∧ (b : Int) * boxN2 ss ≤ 200000 ∧ (∀ e ∈ es, e.2.natAbs < 2 ^ b) ∧
  ∀ rl v H', rl.length = n → IsLow es rl → v = wS (fun p => ((2 : Int) ^ b) ^ (dgA 0 p rl ss).toNat) es → v.natAbs < 2 ^ bigE → Same H H' → Q (.int v) H'
theorem c_great_integer {f : Addr} {fd : FuncData} (D : C8.Def K mg "great_integer" s_great_integer f fd) (b : Binds K fd ["row", "sizes", "bits"] []) (T : Bi mg) (c_bounds : C8.Cal P w K mg base 1 "bounds" (spBounds K) []) (c_digit_at : C8.Cal P w K mg base 1 "digit_at" (spDigAt K) []) (c_joined_digits : C8.Cal P w K mg base 1 "joined_digits" (spJoin K) []) : C8.Cal P w K mg base 2 "great_integer" spGI [] := by
  refine C8.cal0 D b .nil sc_great_integer (fun vs H Q E h => ?_) (fun cdv A outer s H vs Q E hr h => ?_)
  · obtain ⟨a, c, b, xs, es, ss, n, C, rfl, _⟩ := h
    rfl
  · obtain ⟨a, c, b, xs, es, ss, n, C, rfl, ha, hE, v, dn, hn3, z1, z2, ce, hC, hc, hsl, hsp, hin, hbx, hb1, hb2, hbb, hnb, q⟩ := h
    refine ⟨_, (pss_cons (ps_setLc (i := 3) (own := [("low", 7), ("high", 8)]) (g := (gTup K 2 (gCons (gName 7) (gCons (gName 8) gNil)))) (tt := tYes) rfl sc_great_integer.nd rfl rfl (sw_true rfl rfl rfl rfl) (pi_list (C8.pe_c c_bounds hr (by decide) (by rfl) (pa_cons (pv 0) pa_nil))) (blkOk_by (N := ["row", "sizes", "bits", "lows", "digits", "place", "number", "low", "high"]) (sc := C8.fnScope s_great_integer) (by decide +kernel)) (fun _ _ _ _ _ => (pg_tup rfl (pgs_cons (pg_name (i := 7) sc_great_integer.nd rfl (Or.inl rfl)) (pgs_cons (pg_name (i := 8) sc_great_integer.nd rfl (Or.inl rfl)) pgs_nil)))) (fun _ _ _ _ _ => pts_nil) (fun _ _ _ _ _ => (pv 7)))
  (pss_cons (ps_set (i := 4) sc_great_integer.nd rfl (Or.inl rfl) (pe_op op_rep (pe_lst (pa_cons pe_int pa_nil)) (pe_op op_add (C8.pe_c c_digit_at hr (by decide) (by rfl) (pa_cons (pe_ix ix_tup (pe_ix ix_list (pv 0) (pe_un un_neg pe_int) (fun _ _ => rfl)) pe_int (fun _ _ => rfl)) (pa_cons (pv 3) (pa_cons (pv 1) pa_nil)))) pe_int)))
  (pss_cons (ps_for PassesOwn.never rfl (pi_list (pv 0)) (pg_tup rfl (pgs_cons (pg_name (i := 5) sc_great_integer.nd rfl (Or.inl rfl)) (pgs_cons (pg_name (i := 6) sc_great_integer.nd rfl (Or.inl rfl)) pgs_nil))) (pss_one (ps_asg (pv 6) (pg_sub (pv 4) (C8.pe_c c_digit_at hr (by decide) (by rfl) (pa_cons (pv 5) (pa_cons (pv 3) (pa_cons (pv 1) pa_nil)))) set_list))))
  (pss_one (ps_ret (C8.pe_c c_joined_digits hr (by decide) (by rfl) (pa_cons (pv 4) (pa_cons (pv 2) pa_nil)))))))), ?_⟩
    have hx := hE.len
    walk_at "st"
    refine ⟨a, xs, es, n, rfl, AU.sqL ha, hE, z1, z2, dn, by omega, fun p1 ws1 H1 rl rh n1 lR hR s1 hp1 hW1 => ?_⟩
    have l1 := hW1.l1
    refine ⟨p1, rfl, ⟨_, AU.sqL hp1⟩, fun D1 nD1 => ?_⟩
    refine lc_list (K := K) (xs := ws1) (fun i F => Same H1 F ∧ F D1 = some (.lst ((rl.take i).map V.int))) ⟨same_upd nD1, upd_same⟩ ?_ ?_ ?_
    · rintro i F _ ⟨sF, _⟩
      exact AU.sqL (sF _ _ hp1)
    · rintro i x F hxi ⟨sF, hD⟩
      obtain ⟨t, y1, y2, rfl, q1, q2, ht⟩ := (hW1.mono sF).at_ i x hxi
      have hil := (List.getElem?_eq_some_iff.mp q1).1
      refine ⟨t, _, rfl, .inl (.inl ht), rfl, _, _, rfl, _, _, rfl, rfl, rfl, tYes_of ?_⟩
      walk_at "st"
      refine ⟨_, hD, small100k (by rw [List.length_map, List.length_take]; omega), same_mut sF nD1, ?_⟩
      rw [upd_same, take_snocI q1, List.map_append]
      rfl
    · rintro F ⟨sF, hD⟩
      rw [List.take_of_length_le (by omega)] at hD
      have sHF := s1.trans sF
      have haF := sHF _ _ ha
      have hcF := sHF _ _ hc
      have hEF := hE.mono sHF
      have hinl := hin rl n1 lR
      have hlo : ∀ x ∈ rl, x.natAbs ≤ 1000000000 := fun x hx => by
        obtain ⟨i, hi⟩ := List.getElem?_of_mem hx
        have := low_bd lR ce hi
        omega
      have hbx1 := box_pos hsp
      obtain ⟨l, hl⟩ : ∃ l, es[es.length - 1]? = some l := ⟨_, List.getElem?_eq_getElem (by omega)⟩
      have hlm : l ∈ es := List.mem_of_getElem? hl
      obtain ⟨v0, hv0, t0, q0, rfl, ht0, hq0⟩ := hEF.at (i := es.length - 1) (by omega)
      have el : es[es.length - 1]'(by omega) = l := (List.getElem?_eq_some_iff.mp hl).2
      rw [el] at ht0 hq0
      have at0 : atI xs (-1) = some (.ref t0) := atI_end (by rw [hx]; exact hv0)
      have at1 : atI [V.ref q0, V.int l.2] 0 = some (.ref q0) := rfl
      have hIl := hinl l hlm
      have d0 := dg_low hIl (a := 0) (by decide)
      have d1 := dg_high hIl (a := 0)
      rw [Int.zero_add, Int.one_mul] at d1
      have hcl : ∀ e ∈ es, ∀ x ∈ e.1, x.natAbs ≤ 1000000000 := fun e he x hx => by have := ce e he x hx; omega
      walk_at "st"
      refine ⟨by walk_at "sz", fun l2 nl2 => ?_⟩; generalize eF2 : upd _ l2 _ = F2; have s2 := AU.newS nl2 eF2; have hl2 := AU.newH eF2; clear eF2
      have haF2 := s2 _ _ haF
      have hcF2 := s2 _ _ hcF
      have hDF2 := s2 _ _ hD
      have ht02 := s2 _ _ ht0
      have hq02 := s2 _ _ hq0
      walk_at "st"
      refine ⟨true, q0, D1, c, l.1, rl, ss, rfl, AU.sqT hq02, AU.sqL hDF2, AU.sqL hcF2, hIl, by omega, hcl l hlm, hlo, fun F3 s3 => ?_⟩
      generalize hN : dgA 0 l.1 rl ss = dd at d0 d1
      obtain ⟨N, rfl⟩ := Int.eq_ofNat_of_zero_le d0
      have hle : ∀ e ∈ es, dgA 0 e.1 rl ss ≤ (N : Int) := fun e hem => by
        rcases last_max v hl hem with rfl | h
        · rw [hN]; exact Int.le_refl _
        · have := dg_mono (hinl e hem) hIl (a := 0) h
          omega
      have hl23 := s3 _ _ hl2
      walk_at "st"
      have e62 : (2 : Int) ^ 63 = 9223372036854775808 := by decide
      have hNb : N < 19000 := by omega
      refine ⟨l2, _, _, rfl, rfl, hl23, by omega, by omega, ?_, fun p4 np4 => ?_⟩
      · rw [show ((N : Int) + 1).toNat = N + 1 by omega]
        exact Nat.le_of_lt (small100k (by show 1 * (N + 1) ≤ _; omega))
      rw [show ((N : Int) + 1).toNat = N + 1 by omega, rep_fun]
      have s4 : Same F3 (upd F3 p4 (.lst ((List.range (N + 1)).map fun i => V.int ((fun _ => (0 : Int)) i)))) := same_upd np4
      have hp4 : (upd F3 p4 (.lst ((List.range (N + 1)).map fun i => V.int ((fun _ => (0 : Int)) i)))) p4 = some (.lst ((List.range (N + 1)).map fun i => V.int ((fun _ => (0 : Int)) i))) := upd_same
      generalize upd F3 p4 (.lst ((List.range (N + 1)).map fun i => V.int ((fun _ => (0 : Int)) i))) = F4 at s4 hp4 ⊢
      have s24 : Same F F4 := s2.trans (s3.trans s4)
      have s23 : Same F F3 := s2.trans s3
      have np4F : F p4 = none := AU.back s23 np4
      have haF4 := s24 _ _ haF
      have hneq : ∀ {z : Addr} {o : HO}, F z = some o → z ≠ p4 := fun h e => (by rw [e, np4F] at h; cases h)
      walk_at "st"
      refine ⟨a, rfl, ⟨_, AU.sqL haF4⟩, ?_⟩
      refine for_list (K := K) (xs := xs) (fun i σ G => ∃ y5 y6 : Option V, σ = [some (.ref a), some (.ref c), some (.int (b : Int)), some (.ref D1), some (.ref p4), y5, y6, none, none] ∧ Same F G ∧ G p4 = some (.lst ((List.range (N + 1)).map fun (t : Nat) => V.int (numAt (es.take i) (plA (t : Int) rl ss))))) ⟨none, none, rfl, s24, hp4⟩ ?_ ?_ ?_
      · rintro i σ G _ ⟨_, _, _, sG, _⟩
        exact AU.sqL (sG _ _ haF)
      · rintro i x σ G hxi ⟨y5, y6, rfl, sG, hG⟩
        obtain ⟨e, he, t, pe, rfl, ht, hpe⟩ := (hEF.mono sG).get hxi
        have hem := List.mem_of_getElem? he
        have hIe := hinl e hem
        have g0 := dg_low hIe (a := 0) (by decide)
        have g1 := hle e hem
        refine ⟨t, _, rfl, .inl (.inl ht), rfl, _, _, rfl, _, _, rfl, rfl, ?_⟩
        have hDG := sG _ _ hD
        have hcG := sG _ _ hcF
        walk_at "st"
        refine AU.gsub_ ?_
        walk_at "st"
        refine ⟨true, pe, D1, c, e.1, rl, ss, rfl, AU.sqT hpe, AU.sqL hDG, AU.sqL hcG, hIe, by omega, hcl e hem, hlo, fun G3 s3' => ?_⟩
        have hG3 := s3' _ _ hG
        generalize hj : dgA 0 e.1 rl ss = jj at g0 g1
        obtain ⟨j, rfl⟩ := Int.eq_ofNat_of_zero_le g0
        refine AU.setL_ hG3 (ixN_nat (by rw [List.length_map, List.length_range]; omega)) ?_
        rw [AU.set_fun]
        refine ⟨_, _, rfl, same_mut (sG.trans s3') np4F, ?_⟩
        rw [upd_same]
        refine congrArg (fun l => some (HO.lst l)) (List.map_congr_left fun t ht => ?_)
        have htN := List.mem_range.mp ht
        rw [take_snoc he, numAt_app]
        show V.int _ = V.int (_ + ((if e.1 = plA (t : Int) rl ss then e.2 else 0) + 0))
        have hlen : rl.length = ss.length := by omega
        by_cases ctj : t = j
        · subst ctj
          have e3 := plA_dg hIe
          rw [hj] at e3
          rw [if_pos rfl, e3, if_pos rfl, take_none v he]
          congr 1
          omega
        · rw [if_neg ctj, if_neg]
          · congr 1
            omega
          · intro z
            have e4 := (plA_in hlen hsp (i := (t : Int)) (by omega) (by omega)).2
            rw [← z, hj] at e4
            omega
      · rintro σ G ⟨y5, y6, rfl, sG, hG⟩
        rw [hx, List.take_length] at hG
        have hlen : rl.length = ss.length := by omega
        have hG2 : G p4 = some (.lst (((List.range (N + 1)).map fun (t : Nat) => numAt es (plA (t : Int) rl ss)).map V.int)) := by
          rw [hG, List.map_map]
          rfl
        generalize hds : ((List.range (N + 1)).map fun (t : Nat) => numAt es (plA (t : Int) rl ss)) = ds at hG2
        have hdl : ds.length = N + 1 := by rw [← hds, List.length_map, List.length_range]
        have hdb : ∀ d ∈ ds, d.natAbs < 2 ^ b := fun d hd => by
          rw [← hds] at hd
          obtain ⟨t, _, rfl⟩ := List.mem_map.mp hd
          rcases num_or v (plA (t : Int) rl ss) with h | ⟨e, he, h⟩
          · rw [h]
            exact Nat.pow_pos (by decide)
          · rw [h]
            exact hnb e he
        have hbN : b * (N + 1) ≤ 200000 := by
          have h1 : (b : Int) * ((N : Int) + 1) ≤ (b : Int) * boxN2 ss := Int.mul_le_mul_of_nonneg_left (by omega) (by omega)
          have h2 : ((b * (N + 1) : Nat) : Int) = (b : Int) * ((N : Int) + 1) := by rw [Int.natCast_mul]; rfl
          omega
        have hvb := val_bound hdb
        walk_at "st"
        refine ⟨p4, ds, b, rfl, hG2, fun z => by rw [z] at hdl; exact absurd hdl (by show ¬ (0 = N + 1); omega), by omega, hb1, by rw [hdl]; omega, hdb, fun G2 s5 => ?_⟩
        refine q rl _ G2 n1 lR ?_ (Nat.lt_of_lt_of_le hvb (Nat.pow_le_pow_right (by decide) (by rw [hdl]; exact hbN))) (sHF.trans (sG.trans s5))
        obtain ⟨bx, hbxn⟩ := Int.eq_ofNat_of_zero_le (show 0 ≤ boxN2 ss by omega)
        rw [wS_box (B := (2 : Int) ^ b) hlen hsp hbxn.symm hinl, CP.val_sum, hdl]
        obtain ⟨r, rfl⟩ : ∃ r, bx = (N + 1) + r := ⟨bx - (N + 1), by omega⟩
        rw [CP.sumTo_add (N + 1) _ r]
        have zr : (CP.sumTo r fun t => numAt es (plA ((N + 1 + t : Nat) : Int) rl ss) * ((2 : Int) ^ b) ^ (N + 1 + t)) = 0 := CP.sumTo_zero fun i hi => by
          rw [numAt_out fun e he z => ?_, Int.zero_mul]
          have e4 := (plA_in hlen hsp (i := ((N + 1 + i : Nat) : Int)) (by omega) (by omega)).2
          rw [← z] at e4
          have := hle e he
          omega
        rw [zr, Int.add_zero]
        refine CP.sumTo_congr fun i hi => ?_
        rw [← hds, List.getD_eq_getElem?_getD, List.getElem?_map, List.getElem?_range hi]
        rfl
end

set_option Elab.async false
set_option linter.all false
set_option maxRecDepth 100000
set_option maxHeartbeats 4000000
theorem szP_comm {rl rh fl fh : Pl} : szP rl rh fl fh = szP fl fh rl rh := by
  unfold szP
  rw [List.zipWith_comm]
  congr 1
  funext a b
  omega
theorem BoxS.swap {es fs : List Ent} {n : Nat} {rl rh fl fh : Pl} (h : BoxS es fs n rl rh fl fh) : BoxS fs es n fl fh rl rh := ⟨h.l3, h.l4, h.l1, h.l2, h.c, h.d, h.a, h.b⟩
theorem inD_of : ∀ (p l s : Pl), p.length = l.length → l.length = s.length → (∀ (i : Nat) (x y z : Int), p[i]? = some x → l[i]? = some y → s[i]? = some z → y ≤ x ∧ x < y + z) → InD p l s := by
  intro p
  induction p with
  | nil =>
    intro l s h1 h2 _
    obtain rfl := List.length_eq_zero_iff.mp h1.symm
    obtain rfl := List.length_eq_zero_iff.mp h2.symm
    exact .nil
  | cons x p ih =>
    intro l s h1 h2 h3
    obtain ⟨y, l, rfl⟩ : ∃ y l', l = y :: l' := List.exists_cons_of_length_eq_add_one h1.symm
    obtain ⟨z, s, rfl⟩ : ∃ y l', s = y :: l' := List.exists_cons_of_length_eq_add_one h2.symm
    obtain ⟨k1, k2⟩ := h3 0 x y z rfl rfl rfl
    exact .cons k1 k2 (ih l s (Nat.succ.inj h1) (Nat.succ.inj h2) fun i x y z a b c => h3 (i + 1) x y z a b c)
theorem plusP_at {k l : Pl} {i : Nat} {x y : Int} (hx : k[i]? = some x) (hy : l[i]? = some y) : (plusP k l)[i]? = some (x + y) := by
  unfold plusP
  rw [List.getElem?_zipWith, hx, hy]
theorem in_box2 {es fs : List Ent} {n : Nat} {rl rh fl fh : Pl} (h : BoxS es fs n rl rh fl fh) {e g : Ent} (he : e ∈ es) (hg : g ∈ fs) (hn : e.1.length = n) (hm : g.1.length = n) : InD (plusP e.1 g.1) (plusP rl fl) (szP rl rh fl fh) := by
  have e0 : (plusP e.1 g.1).length = n := by rw [plusP_len (by omega), hn]
  have e1 : (plusP rl fl).length = n := by rw [plusP_len (by rw [h.l1, h.l3]; exact Nat.le_refl _), h.l1]
  refine inD_of _ _ _ (by rw [e0, e1]) (by rw [szP_len h.l1 h.l2 h.l3 h.l4, e1]) fun i x y z hx hy hz => ?_
  have hil : i < n := by rw [← e0]; exact (List.getElem?_eq_some_iff.mp hx).1
  have a1 : e.1[i]? = some (e.1[i]'(by rw [hn]; exact hil)) := List.getElem?_eq_getElem _
  have a2 : g.1[i]? = some (g.1[i]'(by rw [hm]; exact hil)) := List.getElem?_eq_getElem _
  have b1 : rl[i]? = some (rl[i]'(by rw [h.l1]; exact hil)) := List.getElem?_eq_getElem _
  have b2 : rh[i]? = some (rh[i]'(by rw [h.l2]; exact hil)) := List.getElem?_eq_getElem _
  have b3 : fl[i]? = some (fl[i]'(by rw [h.l3]; exact hil)) := List.getElem?_eq_getElem _
  have b4 : fh[i]? = some (fh[i]'(by rw [h.l4]; exact hil)) := List.getElem?_eq_getElem _
  rw [plusP_at a1 a2] at hx
  rw [plusP_at b1 b3] at hy
  rw [szP_at b1 b2 b3 b4] at hz
  cases hx
  cases hy
  cases hz
  have k1 := (h.a i _ b1).2 e he _ a1
  have k2 := (h.b i _ b2).2 e he _ a1
  have k3 := (h.c i _ b3).2 g hg _ a2
  have k4 := (h.d i _ b4).2 g hg _ a2
  omega
/-- the last place of a box -/
def topP (ls ss : Pl) : Pl := List.zipWith (fun l s => l + s - 1) ls ss
theorem dg_top : ∀ {ls ss : Pl} {a : Int}, ls.length = ss.length → dgA a (topP ls ss) ls ss + 1 = (a + 1) * boxN2 ss
  | [], [], a, _ => by show a + 1 = (a + 1) * 1; omega
  | l :: ls, s :: ss, a, h => by
    show dgA (a * s + (l + s - 1) - l) (topP ls ss) ls ss + 1 = (a + 1) * (s * boxN2 ss)
    rw [dg_top (Nat.succ.inj h), ← Int.mul_assoc]
    congr 1
    rw [Int.add_mul, Int.one_mul]
    omega
theorem top_in : ∀ {ls ss : Pl}, ls.length = ss.length → (∀ s ∈ ss, 0 < s) → InD (topP ls ss) ls ss
  | [], [], _, _ => .nil
  | l :: ls, s :: ss, h, hp => by
    have := hp s List.mem_cons_self
    exact .cons (by show l ≤ l + s - 1; omega) (by show l + s - 1 < l + s; omega) (top_in (Nat.succ.inj h) fun x hx => hp x (List.mem_cons_of_mem _ hx))
theorem bits_pos {x : Int} (h : x ≠ 0) : 1 ≤ Builtin.Int.intBits x := by
  apply Classical.byContradiction
  intro c
  have := bits_lt (x := x) (m := 0) (by omega)
  rw [Nat.pow_zero] at this
  omega
theorem bits_two {x : Int} (h : 2 ≤ x) : 2 ≤ Builtin.Int.intBits x := by
  apply Classical.byContradiction
  intro c
  have := bits_lt (x := x) (m := 1) (by omega)
  rw [Nat.pow_one] at this
  omega
theorem IsMx.pos {es : List Ent} {l : Nat} (v : Valid es) (h : IsMx es l) : 1 ≤ l := by
  obtain ⟨⟨e, he, rfl⟩, _⟩ := h
  exact bits_pos (v.nz e he)
theorem IsMx.lt {es : List Ent} {l : Nat} (h : IsMx es l) : ∀ e ∈ es, e.2.natAbs < 2 ^ l := fun e he => bits_lt (h.2 e he)
/-- what the bits of a product are good for -/
theorem bits_good {n nb : Nat} {es fs : List Ent} (vE : Valid es) (vF : Valid fs) (dE : DimN n es) (dF : DimN n fs) (h : Bits es fs nb) (z : 2000 ≤ es.length * fs.length) (z1 : es.length ≤ 1000) (z2 : fs.length ≤ 1000) :
    5 ≤ nb ∧ (∀ e ∈ es, e.2.natAbs < 2 ^ nb) ∧ (∀ e ∈ fs, e.2.natAbs < 2 ^ nb) ∧ ∀ q, -((2 : Int) ^ nb - 2) ≤ 2 * numAt (timesL es fs) q ∧ 2 * numAt (timesL es fs) q ≤ (2 : Int) ^ nb - 2 := by
  obtain ⟨l1, l2, h1, h2, rfl⟩ := h
  have p1 := h1.pos vE
  have p2 := h2.pos vF
  have m2 : 2 ≤ min es.length fs.length := by
    apply Classical.byContradiction
    intro c
    rcases Nat.le_total es.length fs.length with h | h
    · rw [Nat.min_eq_left h] at c
      have : es.length * fs.length ≤ 1 * 1000 := Nat.mul_le_mul (by omega) z2
      omega
    · rw [Nat.min_eq_right h] at c
      have : es.length * fs.length ≤ 1000 * 1 := Nat.mul_le_mul z1 (by omega)
      omega
  have p3 := bits_two (x := ((min es.length fs.length : Nat) : Int)) (by omega)
  have k3 := bits_lt (x := ((min es.length fs.length : Nat) : Int)) (Nat.le_refl _)
  rw [Int.natAbs_natCast] at k3
  generalize Builtin.Int.intBits ((min es.length fs.length : Nat) : Int) = lm at p3 k3
  refine ⟨by omega, fun e he => Nat.lt_of_lt_of_le (h1.lt e he) (Nat.pow_le_pow_right (by decide) (by omega)), fun e he => Nat.lt_of_lt_of_le (h2.lt e he) (Nat.pow_le_pow_right (by decide) (by omega)), fun q => ?_⟩
  have b1 : 0 < 2 ^ l1 := Nat.pow_pos (by decide)
  have b2 : 0 < 2 ^ l2 := Nat.pow_pos (by decide)
  refine bits_ok (a := 2 ^ l1 - 1) (b := 2 ^ l2 - 1) (by omega) (by omega) k3 ?_
  exact times_bound vE vF dE dF (fun e he => by have := h1.lt e he; omega) (fun e he => by have := h2.lt e he; omega) q
theorem big_mul {x y : Int} (hx : x.natAbs < 2 ^ bigE) (hy : y.natAbs < 2 ^ bigE) : CMulX x y := mulx_ok hx hy (by decide)

set_option Elab.async false
set_option linter.all false
set_option maxRecDepth 100000
set_option maxHeartbeats 4000000
section
variable {P : Program} {w : World} {K : PySem.W.Frag} {mg : Str → Option Value} {base : Heap}
def spCP : Sp := fun vs H Q _ => ∃ (a b : Addr) (xs ys : List V) (es fs : List Ent) (n C : Nat), vs = [.ref a, .ref b] ∧ H a = some (.lst xs) ∧ H b = some (.lst ys) ∧ Ents H xs es ∧ Ents H ys fs ∧ Valid es ∧ Valid fs ∧ DimN n es ∧ DimN n fs ∧ n ≤ 3 ∧ es.length ≤ 1000 ∧ fs.length ≤ 1000 ∧ es.length * fs.length ≤ 20000 ∧ (∀ e ∈ es, ∀ x ∈ e.1, x.natAbs ≤ C) ∧ (∀ e ∈ fs, ∀ x ∈ e.1, x.natAbs ≤ C) ∧ C ≤ 1000000 ∧ Crowd es fs n ∧ wantRow H (timesL es fs) Q
theorem c_crowded_product {f : Addr} {fd : FuncData} (D : C8.Def K mg "crowded_product" s_crowded_product f fd) (b : Binds K fd ["first", "second"] []) (T : Bi mg) (c_product_sizes : C8.Cal P w K mg base 2 "product_sizes" (spPS K) []) (c_digit_bits : C8.Cal P w K mg base 2 "digit_bits" (spDB K) []) (c_bounds : C8.Cal P w K mg base 1 "bounds" (spBounds K) [])
    (c_great_integer : C8.Cal P w K mg base 2 "great_integer" spGI []) (c_digit_at : C8.Cal P w K mg base 1 "digit_at" (spDigAt K) []) (c_split_digits : C8.Cal P w K mg base 2 "split_digits" spSplit []) (c_place_at : C8.Cal P w K mg base 1 "place_at" (spPlaceAt K) []) : C8.Cal P w K mg base 3 "crowded_product" spCP [] := by
  refine C8.cal0 D b .nil sc_crowded_product (fun vs H Q E h => ?_) (fun cdv A outer s H vs Q E hr h => ?_)
  · obtain ⟨a, b, xs, ys, es, fs, n, C, rfl, _⟩ := h
    rfl
  · obtain ⟨a, b, xs, ys, es, fs, n, C, rfl, ha, hb, hE, hF, vE, vF, dE, dF, hn3, z1, z2, zz, ce, cf, hC, hcr, q⟩ := h
    refine ⟨_, (pss_cons (ps_set (i := 2) sc_crowded_product.nd rfl (Or.inr rfl) (C8.pe_c c_product_sizes hr (by decide) (by rfl) (pa_cons (pv 0) (pa_cons (pv 1) pa_nil))))
  (pss_cons (ps_set (i := 3) sc_crowded_product.nd rfl (Or.inl rfl) (C8.pe_c c_digit_bits hr (by decide) (by rfl) (pa_cons (pv 0) (pa_cons (pv 1) pa_nil))))
  (pss_cons (ps_set (i := 4) sc_crowded_product.nd rfl (Or.inr rfl) (pe_lc (own := [("low", 10), ("high", 11), ("other", 12), ("top", 13)]) (g := (gTup K 2 (gCons (gTup K 2 (gCons (gName 10) (gCons (gName 11) gNil))) (gCons (gTup K 2 (gCons (gName 12) (gCons (gName 13) gNil))) gNil)))) (tt := tYes) rfl sc_crowded_product.nd (pi_zip (by rfl) T.n_zip (pa_cons (C8.pe_c c_bounds hr (by decide) (by rfl) (pa_cons (pv 0) pa_nil)) (pa_cons (C8.pe_c c_bounds hr (by decide) (by rfl) (pa_cons (pv 1) pa_nil)) pa_nil))) (blkOk_by (N := ["first", "second", "sizes", "bits", "lows", "number", "many", "digits", "index", "digit", "low", "high", "other", "top", "size"]) (sc := C8.fnScope s_crowded_product) (by decide +kernel)) (fun _ _ _ _ _ => (pg_tup rfl (pgs_cons (pg_tup rfl (pgs_cons (pg_name (i := 10) sc_crowded_product.nd rfl (Or.inl rfl)) (pgs_cons (pg_name (i := 11) sc_crowded_product.nd rfl (Or.inl rfl)) pgs_nil))) (pgs_cons (pg_tup rfl (pgs_cons (pg_name (i := 12) sc_crowded_product.nd rfl (Or.inl rfl)) (pgs_cons (pg_name (i := 13) sc_crowded_product.nd rfl (Or.inl rfl)) pgs_nil))) pgs_nil)))) (fun _ _ _ _ _ => pts_nil) (fun _ _ _ _ _ => (pe_op op_add (pv 10) (pv 12)))))
  (pss_cons (ps_set (i := 5) sc_crowded_product.nd rfl (Or.inl rfl) (pe_op op_mulX (C8.pe_c c_great_integer hr (by decide) (by rfl) (pa_cons (pv 0) (pa_cons (pv 2) (pa_cons (pv 3) pa_nil)))) (C8.pe_c c_great_integer hr (by decide) (by rfl) (pa_cons (pv 1) (pa_cons (pv 2) (pa_cons (pv 3) pa_nil))))))
  (pss_cons (ps_set (i := 6) sc_crowded_product.nd rfl (Or.inl rfl) (pe_op op_add (C8.pe_c c_digit_at hr (by decide) (by rfl) (pa_cons (pe_lc (own := [("low", 10), ("size", 14)]) (g := (gTup K 2 (gCons (gName 10) (gCons (gName 14) gNil)))) (tt := tYes) rfl sc_crowded_product.nd (pi_zip (by rfl) T.n_zip (pa_cons (pv 4) (pa_cons (pv 2) pa_nil))) (blkOk_by (N := ["first", "second", "sizes", "bits", "lows", "number", "many", "digits", "index", "digit", "low", "high", "other", "top", "size"]) (sc := C8.fnScope s_crowded_product) (by decide +kernel)) (fun _ _ _ _ _ => (pg_tup rfl (pgs_cons (pg_name (i := 10) sc_crowded_product.nd rfl (Or.inl rfl)) (pgs_cons (pg_name (i := 14) sc_crowded_product.nd rfl (Or.inl rfl)) pgs_nil)))) (fun _ _ _ _ _ => pts_nil) (fun _ _ _ _ _ => (pe_op op_sub (pe_op op_add (pv 10) (pv 14)) pe_int))) (pa_cons (pv 4) (pa_cons (pv 2) pa_nil)))) pe_int))
  (pss_cons (ps_set (i := 7) sc_crowded_product.nd rfl (Or.inl rfl) (C8.pe_c c_split_digits hr (by decide) (by rfl) (pa_cons (pv 5) (pa_cons (pv 3) (pa_cons (pv 6) pa_nil)))))
  (pss_one (ps_ret (pe_lc (own := [("index", 8), ("digit", 9)]) (g := (gTup K 2 (gCons (gName 8) (gCons (gName 9) gNil)))) rfl sc_crowded_product.nd (pi_enum (by rfl) T.n_enumerate (pa_cons (pv 7) pa_nil)) (blkOk_by (N := ["first", "second", "sizes", "bits", "lows", "number", "many", "digits", "index", "digit", "low", "high", "other", "top", "size"]) (sc := C8.fnScope s_crowded_product) (by decide +kernel)) (fun _ _ _ _ _ => (pg_tup rfl (pgs_cons (pg_name (i := 8) sc_crowded_product.nd rfl (Or.inl rfl)) (pgs_cons (pg_name (i := 9) sc_crowded_product.nd rfl (Or.inl rfl)) pgs_nil)))) (fun _ _ _ _ _ => (pts_one (pt_cmpR op_ne (pv 9) pe_int (nomark _)))) (fun _ _ _ _ _ => (pe_tup (pa_cons (C8.pe_c c_place_at hr (by decide) (by rfl) (pa_cons (pv 8) (pa_cons (pv 4) (pa_cons (pv 2) pa_nil)))) (pa_cons (pv 9) pa_nil))))))))))))), ?_⟩
    obtain ⟨z', nb, rl0, rh0, fl0, fh0, hnb, B0, hlt⟩ := hcr
    have p1 : 0 < es.length := Nat.pos_of_ne_zero fun h => by rw [h, Nat.zero_mul] at z'; omega
    have p2 : 0 < fs.length := Nat.pos_of_ne_zero fun h => by rw [h, Nat.mul_zero] at z'; omega
    have hx := hE.len
    have hy := hF.len
    have ha0 := ha
    have hb0 := hb
    walk_at "st"
    refine ⟨a, b, xs, ys, es, fs, n, rfl, AU.sqL ha0, AU.sqL hb0, hE, hF, p1, p2, z1, z2, dE, dF, by omega, fun p H1 rl rh fl fh n1 n2 n3 n4 lR hR lF hF2 s1 hp => ?_⟩
    have B : BoxS es fs n rl rh fl fh := ⟨n1, n2, n3, n4, lR, hR, lF, hF2⟩
    rw [B0.one B] at hlt
    have hmem := B.mem ce cf
    have hsp : ∀ s ∈ szP rl rh fl fh, 0 < s := fun s hs => (hmem s hs).1
    have hbx1 := box_pos hsp
    have hsl := szP_len n1 n2 n3 n4
    obtain ⟨hb5, hne, hnf, hbd⟩ := bits_good vE vF dE dF hnb z' z1 z2
    obtain ⟨bx, hbx⟩ := Int.eq_ofNat_of_zero_le (show 0 ≤ boxN2 (szP rl rh fl fh) by omega)
    have hnbx : nb * bx < 80000 := by
      rw [hbx, ← Int.natCast_mul] at hlt
      omega
    have hbx1' : 1 ≤ bx := by omega
    have hbx2 : bx < 16000 := by
      have := Nat.mul_le_mul_right bx hb5
      omega
    have hnb2 : nb ≤ 80000 := by
      have := Nat.mul_le_mul_left nb hbx1'
      omega
    have hin1 := fun e (he : e ∈ es) => in_box B he (dE e he)
    have hin2 := fun e (he : e ∈ fs) => in_box B.swap he (dF e he)
    have hin3 : ∀ x ∈ timesL es fs, InD x.1 (plusP rl fl) (szP rl rh fl fh) := fun x hx => by
      unfold timesL rowT at hx
      obtain ⟨e, he, h⟩ := List.mem_flatMap.mp hx
      obtain ⟨g, hg, rfl⟩ := List.mem_map.mp h
      exact in_box2 B he hg (dE e he) (dF g hg)
    rw [← szP_comm] at hin2
    have eone : ∀ m, Bits es fs m → m = nb := fun m h => h.one hnb
    have hpl : (plusP rl fl).length = n := by rw [plusP_len (by omega), n1]
    have hcl : ∀ x ∈ rl, x.natAbs ≤ C := fun x hx => by obtain ⟨i, hi⟩ := List.getElem?_of_mem hx; exact low_bd lR ce hi
    have hcf : ∀ x ∈ fl, x.natAbs ≤ C := fun x hx => by obtain ⟨i, hi⟩ := List.getElem?_of_mem hx; exact low_bd lF cf hi
    have hcp : ∀ x ∈ plusP rl fl, x.natAbs ≤ 2 * C := fun x hx => by
      obtain ⟨u, hu, v, hv, rfl⟩ := plusP_mem hx
      have := hcl u hu
      have := hcf v hv
      omega
    generalize hss : szP rl rh fl fh = ss at hp hmem hsp hbx1 hsl hbx hin1 hin2 hin3
    have haH := s1 _ _ ha0
    have hbH := s1 _ _ hb0
    walk_at "st"
    refine ⟨a, b, xs, ys, es, fs, rfl, AU.sqL haH, AU.sqL hbH, hE.mono s1, hF.mono s1, p1, p2, z1, z2, fun nb' H2 hnb' s2 => ?_⟩
    obtain rfl := eone _ hnb'
    have s12 := s1.trans s2
    have haH2 := s12 _ _ ha0
    have hbH2 := s12 _ _ hb0
    walk_at "st"
    refine AU.zipL_ ?_
    walk_at "st"
    refine ⟨a, xs, es, n, rfl, AU.sqL haH2, hE.mono s12, p1, z1, dE, by omega, fun q1 ws1 H3 rl' rh' n1' lR' hR' s3 hq1 hW1 => ?_⟩
    obtain rfl := lR.one (n1.trans n1'.symm) lR'
    have hbH3 := s3 _ _ hbH2
    walk_at "st"
    refine ⟨b, ys, fs, n, rfl, AU.sqL hbH3, (hF.mono s12).mono s3, p2, z2, dF, by omega, fun q2 ws2 H4 fl' fh' n3' lF' hF2' s4 hq2 hW2 => ?_⟩
    obtain rfl := lF.one (n3.trans n3'.symm) lF'
    have s34 := s3.trans s4
    have hq1' := s4 _ _ hq1
    have l1 := hW1.l1
    have l2 := hW2.l1
    walk_at "st"
    refine ⟨q1, q2, _, _, rfl, AU.sqL hq1', AU.sqL hq2, fun D1 nD1 => ?_⟩
    refine lc_it (walk_zip (xs := ws1) (ys := ws2) (n := n) (by omega)) (fun i F => Same H4 F ∧ F D1 = some (.lst (((plusP rl fl).take i).map V.int))) ⟨same_upd nD1, upd_same⟩ ?_ ?_ ?_
    · rintro i F _ ⟨sF, _⟩
      exact ⟨AU.sqL (sF _ _ hq1'), AU.sqL (sF _ _ hq2)⟩
    · rintro i x F F2 hi ⟨sF, hD⟩ ⟨t, x1, x2, rfl, nt, rfl, e1, e2⟩
      obtain ⟨t1, a1, a2, rfl, k1, k2, ht1⟩ := (hW1.mono s4).at_ i x1 e1
      obtain ⟨t2, b1, b2, rfl, r1, r2, ht2⟩ := hW2.at_ i x2 e2
      have smt : Same F (upd F t (.tup [.ref t1, .ref t2])) := same_upd nt
      have ht : (upd F t (.tup [.ref t1, .ref t2])) t = some (.tup [.ref t1, .ref t2]) := upd_same
      generalize upd F t (.tup [.ref t1, .ref t2]) = F2 at smt ht
      have sm2 := sF.trans smt
      refine ⟨t, _, rfl, .inl (.inl ht), rfl, _, _, rfl, ?_⟩
      refine ⟨t1, _, rfl, .inl (.inl (sm2 _ _ ht1)), rfl, _, _, rfl, _, _, rfl, rfl, ?_⟩
      refine ⟨_, _, rfl, t2, _, rfl, .inl (.inl (sm2 _ _ ht2)), rfl, _, _, rfl, _, _, rfl, rfl, rfl, rfl, tYes_of ?_⟩
      have hD2 := smt _ _ hD
      walk_at "st"
      refine ⟨_, hD2, AU.line (by rw [List.length_map, List.length_take]; omega), same_mut (sF.trans smt) nD1, ?_⟩
      rw [upd_same, take_snocI (plusP_at k1 r1), List.map_append]
      rfl
    rintro F ⟨sF, hD⟩
    rw [List.take_of_length_le (by omega)] at hD
    have sHF : Same H F := s12.trans (s34.trans sF)
    have hpF : F p = some (.lst (ss.map V.int)) := sF _ _ (s34 _ _ (s2 _ _ hp))
    have haF := sHF _ _ ha0
    have hbF := sHF _ _ hb0
    have hbxi : (nb' : Int) * boxN2 ss ≤ 200000 := by
      rw [hbx, ← Int.natCast_mul]
      omega
    walk_at "st"
    refine ⟨a, p, nb', xs, es, ss, n, C, rfl, haF, hE.mono sHF, vE, dE, hn3, p1, z1, ce, hC, hpF, hsl, hsp, fun rl' n' lR' => ?_, by omega, by omega, by omega, hbxi, hne, fun rl' v1 F1 n' lR' hv1 hv1b sF1 => ?_⟩
    · obtain rfl := lR.one (n1.trans n'.symm) lR'
      exact hin1
    obtain rfl := lR.one (n1.trans n'.symm) lR'
    have sHF1 := sHF.trans sF1
    have hbF1 := sHF1 _ _ hb0
    have hpF1 := sF1 _ _ hpF
    walk_at "st"
    refine ⟨b, p, nb', ys, fs, ss, n, C, rfl, hbF1, hF.mono sHF1, vF, dF, hn3, p2, z2, cf, hC, hpF1, hsl, hsp, fun fl' n' lF' => ?_, by omega, by omega, by omega, hbxi, hnf, fun fl' v2 F2 n'' lF' hv2 hv2b sF2 => ?_⟩
    · obtain rfl := lF.one (n3.trans n'.symm) lF'
      exact hin2
    obtain rfl := lF.one (n3.trans n''.symm) lF'
    have sF12 := sF1.trans sF2
    refine ⟨_, _, rfl, rfl, big_mul hv1b hv2b, ?_⟩
    have hlen : (plusP rl fl).length = ss.length := by omega
    have hnum : v1 * v2 = CP.sumTo bx fun t => (fun t => if t < bx then numAt (timesL es fs) (plA (t : Int) (plusP rl fl) ss) else 0) t * ((2 : Int) ^ nb') ^ t := by
      rw [hv1, hv2, wS_times (w := fun p => ((2 : Int) ^ nb') ^ (dgA 0 p (plusP rl fl) ss).toNat), wS_box hlen hsp hbx.symm hin3]
      · refine CP.sumTo_congr fun i hi => ?_
        show _ = (if i < bx then _ else _) * _
        rw [if_pos hi]
      · intro e he g hg
        have u1 := dg_low (hin1 e he) (a := 0) (by decide)
        have u2 := dg_low (hin2 g hg) (a := 0) (by decide)
        have u3 := dg_plus (ss := ss) (p := e.1) (q := g.1) (ls := rl) (ms := fl) (a := 0) (b := 0) (by rw [dE e he, hsl]) (by rw [dF g hg, hsl]) (by omega) (by omega)
        rw [← Int.pow_add, ← Int.toNat_add u1 u2, u3]
        rfl
    generalize hT : (CP.sumTo bx fun t => (fun t => if t < bx then numAt (timesL es fs) (plA (t : Int) (plusP rl fl) ss) else 0) t * ((2 : Int) ^ nb') ^ t) = N12 at hnum
    rw [show ((fun (i j : Int) => V.int (i * j)) v1 v2) = V.int N12 from congrArg V.int hnum]
    clear hnum hv1 hv2 hv1b hv2b
    have hpF2 := sF12 _ _ hpF
    have hDF2 := sF12 _ _ hD
    walk_at "st"
    refine AU.zipL_ ?_
    walk_at "st"
    refine ⟨D1, p, _, _, rfl, AU.sqL hDF2, AU.sqL hpF2, fun D2 nD2 => ?_⟩
    refine lc_it (walk_zip (xs := (plusP rl fl).map V.int) (ys := ss.map V.int) (n := n) (by simp; omega)) (fun i G => Same F2 G ∧ G D2 = some (.lst (((topP (plusP rl fl) ss).take i).map V.int))) ⟨same_upd nD2, upd_same⟩ ?_ ?_ ?_
    · rintro i G _ ⟨sG, _⟩
      exact ⟨AU.sqL (sG _ _ hDF2), AU.sqL (sG _ _ hpF2)⟩
    · rintro i x G G2 hi ⟨sG, hD2⟩ ⟨t, x1, x2, rfl, nt, rfl, e1, e2⟩
      obtain ⟨k1, rfl, g1, _⟩ := int_at e1
      obtain ⟨k2, rfl, g2, _⟩ := int_at e2
      have smt : Same G (upd G t (.tup [.int k1, .int k2])) := same_upd nt
      have ht : (upd G t (.tup [.int k1, .int k2])) t = some (.tup [.int k1, .int k2]) := upd_same
      generalize upd G t (.tup [.int k1, .int k2]) = G2 at smt ht
      have hD3 := smt _ _ hD2
      refine ⟨t, _, rfl, .inl (.inl ht), rfl, _, _, rfl, _, _, rfl, rfl, rfl, tYes_of ?_⟩
      walk_at "st"
      refine ⟨_, hD3, AU.line (by rw [List.length_map, List.length_take]; omega), same_mut (sG.trans smt) nD2, ?_⟩
      rw [upd_same, take_snocI (x := k1 + k2 - 1) (by unfold topP; rw [List.getElem?_zipWith, g1, g2]), List.map_append]
      rfl
    rintro G ⟨sG, hG⟩
    have htl : (topP (plusP rl fl) ss).length = n := by unfold topP; rw [List.length_zipWith]; omega
    rw [List.take_of_length_le (by omega)] at hG
    have hDG := sG _ _ hDF2
    have hpG := sG _ _ hpF2
    have htop := dg_top (a := 0) hlen
    rw [hbx] at htop
    walk_at "st"
    refine ⟨false, D2, D1, p, _, plusP rl fl, ss, rfl, AU.sqL hG, AU.sqL hDG, AU.sqL hpG, top_in hlen hsp, by omega, fun x hx => ?_, fun x hx => by have := hcp x hx; omega, fun G2 sG2 => ?_⟩
    · obtain ⟨i, hi⟩ := List.getElem?_of_mem hx
      unfold topP at hi
      rw [List.getElem?_zipWith] at hi
      cases e1 : (plusP rl fl)[i]? with
      | none => rw [e1] at hi; cases hi
      | some u =>
        cases e2 : ss[i]? with
        | none => rw [e1, e2] at hi; cases hi
        | some v =>
          rw [e1, e2] at hi
          have hi : u + v - 1 = x := Option.some.inj hi
          have := hcp u (List.mem_of_getElem? e1)
          have := hmem v (List.mem_of_getElem? e2)
          omega
    have hDG2 := sG2 _ _ hDG
    have hpG2 := sG2 _ _ hpG
    walk_at "st"
    have e0 : dgA 0 (topP (plusP rl fl) ss) (plusP rl fl) ss + 1 = (bx : Int) := by omega
    rw [e0]
    walk_at "st"
    refine ⟨fun t => if t < bx then numAt (timesL es fs) (plA (t : Int) (plusP rl fl) ss) else 0, nb', bx, by rw [← hT]; rfl, by omega, by omega, hbx1', by omega, fun i => ?_, fun i hi => if_neg (by omega), fun p9 k G3 hk hk2 sG3 hp9 => ?_⟩
    · have h4 : 2 ≤ (2 : Int) ^ nb' := by
        obtain ⟨c, hc⟩ : ∃ c, nb' = c + 1 := ⟨nb' - 1, by omega⟩
        rw [hc, Int.pow_succ]
        have : 0 < (2 : Int) ^ c := Int.pow_pos (by decide)
        omega
      show _ ≤ 2 * (if i < bx then _ else _) ∧ 2 * (if i < bx then _ else _) ≤ _
      by_cases c : i < bx
      · rw [if_pos c]
        exact hbd _
      · rw [if_neg c]
        omega
    have hDG3 := sG3 _ _ hDG2
    have hpG3 := sG3 _ _ hpG2
    have sHG3 : Same H G3 := sHF.trans (sF12.trans (sG.trans (sG2.trans sG3)))
    have hcr := crowd_row hlen hsp hbx.symm hin3
    clear hT hbd hin1 hin2 hin3 htop e0 hG hpG hDG hpF2 hDF2 hpG2 hDG2 hD hpF haF hbF hbF1 hpF1 hq1 hq2 hq1' hW1 hW2 hne hnf
    generalize hTT : timesL es fs = TT at q hcr hp9
    generalize plusP rl fl = lo at hlen hpl hcp hDG3 hcr hp9
    walk_at "st"
    refine ⟨_, rfl, p9, _, rfl, AU.sqL hp9, fun D3 nD3 => ?_⟩
    refine lc_it (walk_enum (xs := ((List.range k).map fun t => if t < bx then numAt TT (plA (t : Int) lo ss) else 0).map V.int)) (fun i G => Same G3 G ∧ ∃ ws, G D3 = some (.lst ws) ∧ Ents G ws (mkR (numAt TT) ((List.range (min i bx)).map fun (t : Nat) => plA (t : Int) lo ss))) ⟨same_upd nD3, [], upd_same, by rw [Nat.zero_min]; exact .nil⟩ ?_ ?_ ?_
    · rintro i G4 _ ⟨sG4, _⟩
      exact AU.sqL (sG4 _ _ hp9)
    · rintro i x G4 G5 hi ⟨sG4, ws, hD4, hW4⟩ ⟨t, x1, x2, rfl, nt, rfl, e1, e2⟩
      cases e1
      rw [List.length_map, List.length_map, List.length_range] at hi
      obtain ⟨z2, rfl, g2, _⟩ := int_at e2
      rw [List.getElem?_map, List.getElem?_range hi] at g2
      have g2 : (if i < bx then numAt TT (plA (i : Int) lo ss) else 0) = z2 := Option.some.inj g2
      have smt : Same G4 (upd G4 t (.tup [.int (i : Nat), .int z2])) := same_upd nt
      have ht : (upd G4 t (.tup [.int (i : Nat), .int z2])) t = some (.tup [.int (i : Nat), .int z2]) := upd_same
      generalize upd G4 t (.tup [.int (i : Nat), .int z2]) = G5 at smt ht
      have sm5 := sG4.trans smt
      have hD5 := smt _ _ hD4
      have hW5 := hW4.mono smt
      have hDG5 := sm5 _ _ hDG3
      have hpG5 := sm5 _ _ hpG3
      have hwl := hW4.len
      have hml := mkR_len (numAt TT) ((List.range (min i bx)).map fun (t : Nat) => plA (t : Int) lo ss)
      rw [List.length_map, List.length_range] at hml
      refine ⟨t, _, rfl, .inl (.inl ht), rfl, _, _, rfl, _, _, rfl, rfl, rfl, ?_⟩
      walk_at "st"
      refine iteND (fun hz => ?_) (fun hz => ?_)
      · have hib : i < bx := by
          apply Classical.byContradiction
          intro c
          rw [if_neg c] at g2
          exact hz g2.symm
        rw [if_pos hib] at g2
        walk_at "st"
        refine ⟨D1, p, (i : Int), lo, ss, rfl, AU.sqL hDG5, AU.sqL hpG5, hlen, by omega, fun s hs => by have := hmem s hs; omega, fun x hx => by have := hcp x hx; omega, by omega, by omega, fun pp G6 s6 hpp => ?_⟩
        walk_at "st"
        refine ⟨by walk_at "sz", fun t7 nt7 => ?_⟩; generalize eG7 : upd _ t7 _ = G7; have s7 := AU.newS nt7 eG7; have ht7 := AU.newH eG7; clear eG7
        have s67 := s6.trans s7
        have hD7 := s67 _ _ hD5
        refine ⟨ws, hD7, small100k (by omega), same_mut (sm5.trans s67) nD3, ws ++ [.ref t7], upd_same, ?_⟩
        rw [show min (i + 1) bx = i + 1 by omega, List.range_succ, List.map_append, show min i bx = i by omega] at *
        show Ents _ _ (mkR _ (_ ++ [plA (i : Int) lo ss]))
        rw [mkR_snoc, if_neg (by rw [g2]; exact hz)]
        refine ((hW5.mono s67).updL hD7).app (.cons (EntAt.updL hD7 ⟨t7, pp, rfl, ?_, s7 _ _ hpp⟩) .nil)
        rw [g2]
        exact ht7
      · refine ⟨sm5, ws, hD5, ?_⟩
        by_cases hib : i < bx
        · rw [if_pos hib] at g2
          rw [show min (i + 1) bx = i + 1 by omega, List.range_succ, List.map_append]
          rw [show min i bx = i by omega] at hW5
          show Ents _ _ (mkR _ (_ ++ [plA (i : Int) lo ss]))
          rw [mkR_snoc, if_pos (by rw [g2]; exact hz), List.append_nil]
          exact hW5
        · rw [show min (i + 1) bx = min i bx by omega]
          exact hW5
    · rintro G4 ⟨sG4, ws, hD4, hW4⟩
      rw [List.length_map, List.length_map, List.length_range, show min k bx = bx by omega] at hW4
      walk_at "st"
      exact q _ D3 ws G4 hcr (sHG3.trans sG4) (AU.back sHG3 nD3) hD4 hW4
end

set_option Elab.async false
set_option linter.all false
set_option maxRecDepth 100000
set_option maxHeartbeats 4000000
section
variable {P : Program} {w : World} {K : PySem.W.Frag} {mg : Str → Option Value} {base : Heap}
/-- products of any rows, by both ways -/
def spMulF (K : PySem.W.Frag) (M : Addr) : Sp := fun vs H Q E => ∃ (a b : Addr) (xs ys : List V) (es fs : List Ent) (n m C : Nat), vs = [.ref a, .ref b] ∧ TwoR K H a b xs ys es fs n m C ∧ Valid es ∧ Valid fs ∧ es.length * fs.length ≤ 10000 ∧ (∀ g ∈ fs, -(2 ^ 64) < g.2 ∧ g.2 < 2 ^ 64) ∧
  (mixL ((dims [es, fs]).filter nz) = true → ∀ d H', Same H H' → H' d = some (.xd errM) → E (.ref M) (some d) H') ∧
  (mixL ((dims [es, fs]).filter nz) = false → (es ≠ [] → fs ≠ [] → n = m) ∧ wantRow H (timesL es fs) Q)
theorem ok_multiplyF {f M fD A0 : Addr} {fd fdD : FuncData} {ds : List Value} (D : C8.Def K mg "multiply" s_multiply f fd) (T : Bi mg) (DD : C8.Def K mg "same_dimension" s_same_dimension fD fdD) (bD : Binds K fdD ["rows", "places"] ds) (hdv : Vals [V.ref A0] ds) (hA0 : ∀ H, SqT K H A0 [])
    (GD : FnOk P w K mg base (L2N.CX P w) 4 fD fdD ["rows", "places"] (spSDT K M)) (c_key_base : C8.Cal P w K mg base 2 "key_base" (spKB K) []) (c_keyed : C8.Cal P w K mg base 2 "keyed" (spKeyed K) []) (c_unkeyed : C8.Cal P w K mg base 2 "unkeyed" spUnk []) (c_places_length : C8.Cal P w K mg base 1 "places_length" (spPLen K) []) (c_is_crowded : C8.Cal P w K mg base 3 "is_crowded" spIsCr []) (c_crowded_product : C8.Cal P w K mg base 3 "crowded_product" spCP []) : FnOk P w K mg base (L2N.CX P w) 5 f fd ["first", "second"] (spMulF K M) := by
  obtain ⟨oc, od, dV, kV, doc, pm, an, cdv, ct, osl, rfl, lk, hcd⟩ := D.fn.ex
  refine fn_of lk hcd sc_multiply (fun vs H Q E h => ?_) fun A outer s H vs Q E hr h => ?_
  · obtain ⟨a, b, xs, ys, es, fs, n, m, C, rfl, _⟩ := h
    rfl
  · obtain ⟨a, b, xs, ys, es, fs, n, m, C, rfl, R, vE, vF, hz, hnum, qE, qN⟩ := h
    refine ⟨_, (pss_cons (ps_expr (pe_callSD GD hr rfl DD.mgf DD.kp bD hdv (fun σ => L2N.passAt (L2N.takes_of rfl rfl rfl rfl) σ) (pa_cons (pe_lst (pa_cons (pv 0) (pa_cons (pv 1) pa_nil))) pa_nil)))
  (pss_cons (ps_if (pt_val (C8.pe_c c_is_crowded hr (by decide) (by rfl) (pa_cons (pv 0) (pa_cons (pv 1) pa_nil)))) (pss_one (ps_ret (C8.pe_c c_crowded_product hr (by decide) (by rfl) (pa_cons (pv 0) (pa_cons (pv 1) pa_nil))))) pss_nil)
  (pss_cons (ps_set (i := 2) sc_multiply.nd rfl (Or.inl rfl) (C8.pe_c c_key_base hr (by decide) (by rfl) (pa_cons (pv 0) (pa_cons (pv 1) pa_nil))))
  (pss_cons (ps_set (i := 3) sc_multiply.nd rfl (Or.inl rfl) (C8.pe_c c_keyed hr (by decide) (by rfl) (pa_cons (pv 1) (pa_cons (pv 2) pa_nil))))
  (pss_cons (ps_set (i := 4) sc_multiply.nd rfl (Or.inl rfl) pe_dnewK)
  (pss_cons (ps_for (passes_of rfl) rfl (pi_list (C8.pe_c c_keyed hr (by decide) (by rfl) (pa_cons (pv 0) (pa_cons (pv 2) pa_nil)))) (pg_tup rfl (pgs_cons (pg_name (i := 5) sc_multiply.nd rfl (Or.inl rfl)) (pgs_cons (pg_name (i := 6) sc_multiply.nd rfl (Or.inl rfl)) pgs_nil))) (pss_one (ps_for (passes_of rfl) rfl (pi_list (pv 3)) (pg_tup rfl (pgs_cons (pg_name (i := 7) sc_multiply.nd rfl (Or.inl rfl)) (pgs_cons (pg_name (i := 8) sc_multiply.nd rfl (Or.inl rfl)) pgs_nil))) (pss_one (ps_dput (hu_of hr) (pv 4) (pe_op op_add (pv 5) (pv 7)) (pe_op op_add (pe_dget2 (hu_of hr) (pv 4) (pe_op op_add (pv 5) (pv 7)) pe_int ⟨rfl, rfl, rfl, rfl⟩) (pe_op op_mul (pv 6) (pv 8))) rfl)))))
  (pss_one (ps_ret (C8.pe_c c_unkeyed hr (by decide) (by rfl) (pa_cons (pv 4) (pa_cons (pv 2) (pa_cons (C8.pe_c c_places_length hr (by decide) (by rfl) (pa_cons (pv 0) pa_nil)) pa_nil)))))))))))), ?_⟩
    refine ⟨_, rfl, _, rfl, (by show 2 ≤ sizeLine; decide), fun p1 np1 => ?_⟩
    have s1 : Same H (upd H p1 (.lst [.ref a, .ref b])) := same_upd np1
    refine ⟨p1, A0, [.ref a, .ref b], [es, fs], rfl, .inl (.inl upd_same), .cons (s1 _ _ R.ha) (R.e.mono s1) (.cons (s1 _ _ R.hb) (R.f.mono s1) .nil), hA0 _, (by show 2 ≤ 1000; decide), fun hm d H3 sm hd => qE hm d H3 (s1.trans sm) hd, fun hm H3 sm3 => ?_⟩
    have sA := s1.trans sm3
    obtain ⟨hnm, q⟩ := qN hm
    have R3 := R.mono sA
    clear hm qE qN
    refine ⟨_, rfl, _, rfl, a, b, xs, ys, es, fs, n, m, C, rfl, R3.ha, R3.hb, R3.e, R3.f, R3.ze, R3.zf, R3.de, R3.df, hnm, R3.n3, R3.ce, R3.cf, R3.c, fun H9 s9 => ⟨_, rfl, ?_⟩, fun hcr H9 s9 => ⟨_, rfl, iteT ?_⟩⟩
    rotate_left
    · have R9 := R3.mono s9
      have z' := hcr.1
      have p1 : 0 < es.length := Nat.pos_of_ne_zero fun h => by rw [h, Nat.zero_mul] at z'; omega
      have p2 : 0 < fs.length := Nat.pos_of_ne_zero fun h => by rw [h, Nat.mul_zero] at z'; omega
      obtain rfl : n = m := hnm (List.length_pos_iff.mp p1) (List.length_pos_iff.mp p2)
      exact ⟨_, rfl, _, rfl, a, b, xs, ys, es, fs, n, C, rfl, R9.ha, R9.hb, R9.e, R9.f, vE, vF, R9.de, R9.df, R9.n3, R9.ze, R9.zf, by omega, R9.ce, R9.cf, R9.c, hcr, wantRow.mono (sA.trans s9) q⟩
    refine iteF ?_
    have R3 := R3.mono s9
    have sA := sA.trans s9
    refine ⟨_, rfl, _, rfl, a, b, xs, ys, es, fs, rfl, ⟨.inl (.inl R3.ha), R3.e, R3.ze, fun e he => by rw [R3.de e he]; exact R3.n3⟩, ⟨.inl (.inl R3.hb), R3.f, R3.zf, fun e he => by rw [R3.df e he]; exact R3.m3⟩, fun h g H4 hh hg s4 => ?_⟩
    have hN : h + g ≤ 2000000 := by
      have := reach_le hh R.ce
      have := reach_le hg R.cf
      have := R.c
      omega
    have hG : ∀ e ∈ es, ∀ z ∈ fs, Gd (h + g) (dimE es) (plusP e.1 z.1) ∧ e.1.length = z.1.length := fun e he z hz' => by
      have hne : es ≠ [] := fun y => by rw [y] at he; cases he
      have hnf : fs ≠ [] := fun y => by rw [y] at hz'; cases hz'
      have l1 := R.de e he
      have l2 := R.df z hz'
      have hl : e.1.length = z.1.length := l1.trans ((hnm hne hnf).trans l2.symm)
      refine ⟨⟨?_, fun x hx => ?_⟩, hl⟩
      · rw [plusP_len (Nat.le_of_eq hl), l1, dimE_eq R.de hne]
      · obtain ⟨u, hu, v, hv, rfl⟩ := plusP_mem hx
        have := hh.1 e he u hu
        have := hg.1 z hz' v hv
        omega
    have hd3 : dimE es ≤ 1000 := by
      by_cases hne : es = []
      · rw [hne]
        exact Nat.zero_le _
      · rw [dimE_eq R.de hne]
        have := R.n3
        omega
    have inj : ∀ k l, Gd (h + g) (dimE es) k → Gd (h + g) (dimE es) l → keyP (2 * ((h + g : Nat) : Int) + 1) k = keyP (2 * ((h + g : Nat) : Int) + 1) l → k = l := fun k l hk hl e => keyP_inj rfl (hk.1.trans hl.1.symm) hk.2 hl.2 e
    have hb64 : -(2 ^ 64) < 2 * ((h + g : Nat) : Int) + 1 ∧ 2 * ((h + g : Nat) : Int) + 1 < 2 ^ 64 := by
      have e1 : (2 : Int) ^ 64 = 18446744073709551616 := by decide
      omega
    clear hh hg
    have R4 := R3.mono s4
    have sB := sA.trans s4
    refine ⟨_, rfl, _, rfl, b, ys, fs, _, rfl, .inl (.inl R4.hb), R4.f, R4.zf, hb64, fun r ws2 H5 s5 nr hr5 hK2 => ?_⟩
    have R5 := R4.mono s5
    have sC := sB.trans s5
    refine fun d nd => ?_
    have s6 : Same H5 (upd H5 d (.dK [])) := same_upd nd
    have hd6 : (upd H5 d (.dK [])) d = some (.dK []) := upd_same
    generalize upd H5 d (.dK []) = H6 at s6 hd6 ⊢
    have R6 := R5.mono s6
    refine ⟨_, rfl, _, rfl, a, xs, es, _, rfl, .inl (.inl R6.ha), R6.e, R6.ze, hb64, fun p7 ws1 H7 s7 np7 hp7 hK1 => ?_⟩
    have s57 := s6.trans s7
    have hd7 := s7 _ _ hd6
    generalize hB : (2 * ((h + g : Nat) : Int) + 1) = B at inj hK1 hK2 hb64 ⊢
    have pne : p7 ≠ d := fun z => by
      rw [z, hd7] at hp7
      cases hp7
    refine ⟨p7, rfl, ⟨_, .inl (.inl hp7)⟩, ?_⟩
    refine for_list (K := K) (xs := ws1) (fun i σ H8 => ∃ (kvs : List (Key × V)) (ks : List Pl) (y5 y6 y7 y8 : Option V), σ = [some (.ref a), some (.ref b), some (.int B), some (.ref r), some (.ref d), y5, y6, y7, y8] ∧ Same H5 H8 ∧ H8 p7 = some (.lst ws1) ∧ Kps H8 ws1 (keyL B es) ∧ H8 d = some (.dK kvs) ∧ KSums B (Gd (h + g) (dimE es)) kvs ks (numAt (timesL (es.take i) fs)) ∧ ks.length ≤ i * fs.length) ?_ ?_ ?_ ?_
    · exact ⟨[], [], none, none, none, none, rfl, s57, hp7, hK1, hd7, KSums.nil, Nat.zero_le _⟩
    · rintro i σ H8 _ ⟨_, _, _, _, _, _, _, _, hp, _⟩
      exact .inl (.inl hp)
    · rintro i x σ H8 hx ⟨kvs, ks, y5, y6, y7, y8, rfl, sm, hp8, hK8, hd8, hs, hl⟩
      obtain ⟨ke, he', t, rfl, ht⟩ := hK8.get hx
      have hi : i < es.length := by
        have := (List.getElem?_eq_some_iff.mp he').1
        unfold keyL at this
        rwa [List.length_map] at this
      obtain ⟨e, hee⟩ : ∃ e, es[i]? = some e := ⟨_, List.getElem?_eq_getElem hi⟩
      have hem : e ∈ es := List.mem_of_getElem? hee
      have hke : ke = (keyP B e.1, e.2) := by
        unfold keyL at he'
        rw [List.getElem?_map, hee] at he'
        exact (Option.some.inj he').symm
      subst hke
      refine ⟨t, _, rfl, .inl (.inl ht), rfl, _, _, rfl, _, _, rfl, rfl, ?_⟩
      refine ⟨_, rfl, r, rfl, ⟨_, .inl (.inl (sm _ _ hr5))⟩, ?_⟩
      refine for_list (K := K) (xs := ws2) (fun j σ H9 => ∃ (kvs : List (Key × V)) (ks : List Pl) (y7 y8 : Option V), σ = [some (.ref a), some (.ref b), some (.int B), some (.ref r), some (.ref d), some (.int (keyP B e.1)), some (.int e.2), y7, y8] ∧ Same H5 H9 ∧ H9 p7 = some (.lst ws1) ∧ Kps H9 ws1 (keyL B es) ∧ H9 d = some (.dK kvs) ∧ KSums B (Gd (h + g) (dimE es)) kvs ks (numAt (timesL (es.take i) fs ++ rowT e (fs.take j))) ∧ ks.length ≤ i * fs.length + j) ?_ ?_ ?_ ?_
      · refine ⟨kvs, ks, y7, y8, rfl, sm, hp8, hK8, hd8, ?_, hl⟩
        rw [show rowT e (fs.take 0) = [] from rfl, List.append_nil]
        exact hs
      · rintro j σ H9 _ ⟨_, _, _, _, _, sm9, _⟩
        exact .inl (.inl (sm9 _ _ hr5))
      · rintro j x σ H9 hx ⟨kvs, ks, y7, y8, rfl, sm9, hp9, hK9, hd9, hs9, hl9⟩
        obtain ⟨kg, hg', t2, rfl, ht2⟩ := (hK2.mono sm9).get hx
        have hj : j < fs.length := by
          have := (List.getElem?_eq_some_iff.mp hg').1
          unfold keyL at this
          rwa [List.length_map] at this
        obtain ⟨z, hzz⟩ : ∃ z, fs[j]? = some z := ⟨_, List.getElem?_eq_getElem hj⟩
        have hzm : z ∈ fs := List.mem_of_getElem? hzz
        have hkg : kg = (keyP B z.1, z.2) := by
          unfold keyL at hg'
          rw [List.getElem?_map, hzz] at hg'
          exact (Option.some.inj hg').symm
        subst hkg
        obtain ⟨gd, gl⟩ := hG e hem z hzm
        have hk : keyP B (plusP e.1 z.1) = keyP B e.1 + keyP B z.1 := keyP_plus B gl
        have hget : DGet H9 d (.int (keyP B e.1 + keyP B z.1)) (valV kvs (Sum.inl (keyP B (plusP e.1 z.1)))) := by
          rw [← hk]
          exact DGet.k (k := Sum.inl (keyP B (plusP e.1 z.1))) hd9
        have hlt : kvs.length < sizeLine := by
          rw [hs9.len]
          have h1 : i * fs.length + fs.length ≤ es.length * fs.length := by
            rw [← Nat.succ_mul]
            exact Nat.mul_le_mul_right _ hi
          exact small100k (by omega)
        have hput : DPut H9 d (.int (keyP B e.1 + keyP B z.1)) (.int (numAt (timesL (es.take i) fs ++ rowT e (fs.take j)) (plusP e.1 z.1) + e.2 * z.2)) (upd H9 d (.dK (putK kvs (Sum.inl (keyP B (plusP e.1 z.1))) (.int (numAt (timesL (es.take i) fs ++ rowT e (fs.take j)) (plusP e.1 z.1) + e.2 * z.2))))) := by
          rw [← hk]
          exact DPut.k (k := Sum.inl (keyP B (plusP e.1 z.1))) hd9 hlt
        refine ⟨t2, _, rfl, .inl (.inl ht2), rfl, _, _, rfl, _, _, rfl, rfl, ?_⟩
        refine ⟨_, rfl, d, rfl, .inl ⟨kvs, .inl hd9⟩, _, rfl, _, rfl, _, _, rfl, rfl, _, hget, _, rfl, _, rfl, _, _, rfl, rfl, .inr (hnum z hzm), _, _, hs9.getD _ gd, rfl, _, rfl, _, rfl, _, rfl, _, _, rfl, rfl, d, _, rfl, hput, ?_⟩
        refine ⟨_, _, _, _, rfl, same_mut sm9 nd, ?_, hK9.updK hd9, upd_same, ?_, put_klen (e := plusP e.1 z.1) hl9⟩
        · rw [upd_ne pne]
          exact hp9
        · have hf : numAt (timesL (es.take i) fs ++ rowT e (fs.take (j + 1))) = fun q => numAt (timesL (es.take i) fs ++ rowT e (fs.take j)) q + if plusP e.1 z.1 = q then e.2 * z.2 else 0 := by
            funext q
            rw [take_snoc hzz]
            show numAt (timesL (es.take i) fs ++ List.map _ (fs.take j ++ [z])) q = _
            rw [List.map_append, ← List.append_assoc, numAt_app]
            show _ + ((if plusP e.1 z.1 = q then e.2 * z.2 else 0) + 0) = _
            rw [Int.add_zero]
            rfl
          rw [hf]
          exact hs9.put inj _ gd _
      · rintro σ H9 ⟨kvs, ks, y7, y8, rfl, sm9, hp9, hK9, hd9, hs9, hl9⟩
        have hw2 : ws2.length = fs.length := by
          have := hK2.len
          unfold keyL at this
          rwa [List.length_map] at this
        rw [hw2, List.take_length] at hs9
        refine ⟨kvs, ks, _, _, y7, y8, rfl, sm9, hp9, hK9, hd9, ?_, ?_⟩
        · rw [take_snoc hee, timesL_snoc]
          exact hs9
        · rw [hw2] at hl9
          rw [Nat.succ_mul]
          exact hl9
    · rintro σ H8 ⟨kvs, ks, y5, y6, y7, y8, rfl, sm, hp8, hK8, hd8, hs, hl⟩
      have hw1 : ws1.length = es.length := by
        have := hK1.len
        unfold keyL at this
        rwa [List.length_map] at this
      rw [hw1] at hs hl
      rw [List.take_length] at hs
      have R8 := R5.mono sm
      subst hB
      refine ⟨_, rfl, _, rfl, _, rfl, a, xs, es, rfl, .inl (.inl R8.ha), R8.e, d, h + g, dimE es, kvs, ks, timesL es fs, rfl, hd8, hs, by omega, hd3, by omega, ?_⟩
      exact wantRow.mono (sC.trans sm) q
end

set_option Elab.async false
set_option linter.all false
set_option maxRecDepth 100000
set_option maxHeartbeats 4000000
theorem mix_two {ess : List (List Ent)} {E1 E2 : List Ent} (h1 : E1 ∈ ess) (h2 : E2 ∈ ess) (n1 : dimE E1 ≠ 0) (n2 : dimE E2 ≠ 0) (ne : dimE E1 ≠ dimE E2) : mixL ((dims ess).filter nz) = true := by
  have m : ∀ {F : List Ent}, F ∈ ess → dimE F ≠ 0 → ((dimE F : Nat) : Int) ∈ (dims ess).filter nz := fun {F} hF hn => List.mem_filter.mpr ⟨List.mem_map.mpr ⟨F, hF, rfl⟩, decide_eq_true (by omega)⟩
  have m1 := m h1 n1
  have m2 := m h2 n2
  generalize (dims ess).filter nz = l at m1 m2
  unfold mixL
  rw [List.any_eq_true]
  by_cases c : ((dimE E1 : Nat) : Int) = l.headD 0
  · refine ⟨_, List.mem_map.mpr ⟨_, m2, rfl⟩, ?_⟩
    rw [decide_eq_false (fun z => ne (by have := V.int.inj z; omega))]
    rfl
  · refine ⟨_, List.mem_map.mpr ⟨_, m1, rfl⟩, ?_⟩
    rw [decide_eq_false (fun z => c (V.int.inj z))]
    rfl
theorem mix_const {k : Nat} {ess : List (List Ent)} (h : ∀ es ∈ ess, dimE es = 0 ∨ dimE es = k) : mixL ((dims ess).filter nz) = false := by
  have all : ∀ m ∈ (dims ess).filter nz, m = (k : Int) := fun m hm => by
    obtain ⟨h1, h2⟩ := List.mem_filter.mp hm
    obtain ⟨es, he, rfl⟩ := List.mem_map.mp h1
    have := h es he
    have : ((dimE es : Nat) : Int) ≠ 0 := of_decide_eq_true h2
    omega
  generalize (dims ess).filter nz = l at all
  unfold mixL
  cases hc : (l.map fun m => !decide (V.int m = V.int (l.headD 0))).any id with
  | false => rfl
  | true =>
    obtain ⟨x, hx, hx2⟩ := List.any_eq_true.mp hc
    obtain ⟨m, hm, rfl⟩ := List.mem_map.mp hx
    have h1 := all m hm
    have h2 : l.headD 0 = (k : Int) := by
      cases l with
      | nil => cases hm
      | cons y r => exact all y List.mem_cons_self
    rw [h1, h2] at hx2
    simp at hx2
theorem eqv_cons (x y : PyData) (xs ys : List PyData) : PyData.eqvAll (x :: xs) (y :: ys) = (PyData.eqv x y && PyData.eqvAll xs ys) := by rw [PyData.eqvAll]
theorem eqv_ints : ∀ k l : Pl, PyData.eqvAll (k.map PyData.int) (l.map PyData.int) = decide (k = l)
  | [], [] => by simp [PyData.eqvAll]
  | [], y :: r => by simp [PyData.eqvAll]
  | x :: r, [] => by simp [PyData.eqvAll]
  | x :: r, y :: t => by
    rw [List.map_cons, List.map_cons, eqv_cons, eqv_ints r t, PyData.eqv]
    by_cases h : x = y
    · subst h
      simp
    · rw [show (x == y) = false from by simp [h], decide_eq_false (fun z => h (List.cons.inj z).1)]
      rfl
theorem eqv_ent (e f : Ent) : PyData.eqv (dEnt e) (dEnt f) = decide (e = f) := by
  unfold dEnt dPl
  obtain ⟨k, n⟩ := e
  obtain ⟨l, m⟩ := f
  show PyData.eqv (.tuple [.tuple (k.map .int), .int n]) (.tuple [.tuple (l.map .int), .int m]) = _
  have e1 : PyData.eqv (.tuple (k.map .int)) (.tuple (l.map .int)) = decide (k = l) := by rw [PyData.eqv, eqv_ints]
  have e2 : PyData.eqv (.int n) (.int m) = (n == m) := by rw [PyData.eqv]
  rw [PyData.eqv, eqv_cons, eqv_cons, e1, e2]
  by_cases h : k = l
  · subst h
    by_cases z : n = m
    · subst z
      simp [PyData.eqvAll]
    · rw [show (n == m) = false from by simp [z], decide_eq_false (fun q => z (Prod.mk.inj q).2)]
      simp
  · rw [decide_eq_false h, decide_eq_false (fun q => h (Prod.mk.inj q).1)]
    rfl
theorem eqv_row' : ∀ es fs : List Ent, PyData.eqvAll (es.map dEnt) (fs.map dEnt) = decide (es = fs)
  | [], [] => by simp [PyData.eqvAll]
  | [], y :: r => by simp [PyData.eqvAll]
  | x :: r, [] => by simp [PyData.eqvAll]
  | x :: r, y :: t => by
    rw [List.map_cons, List.map_cons, eqv_cons, eqv_row' r t, eqv_ent]
    by_cases h : x = y
    · subst h
      simp
    · rw [decide_eq_false h, decide_eq_false (fun z => h (List.cons.inj z).1)]
      rfl
theorem eqv_row (es fs : List Ent) : PyData.eqv (dRow es) (dRow fs) = decide (es = fs) := by
  unfold dRow
  rw [PyData.eqv, eqv_row']
theorem eqv_rows (es : List Ent) : PyData.eqv (dRow es) (dRow es) = true := SeqAt.eqv_refl _ (SeqAt.canLay_of_shaped (shaped_row es))
structure SR (n : Nat) (es : List Ent) : Prop where
  v : Valid es
  d : DimN n es
  z : es.length ≤ 40
  c : ∀ e ∈ es, ∀ x ∈ e.1, x.natAbs ≤ 2000
  u : ∀ e ∈ es, e.2.natAbs ≤ 2 ^ 60
theorem SR.nb {n : Nat} {es : List Ent} (h : SR n es) : ∀ e ∈ es, -(2 ^ 64) < e.2 ∧ e.2 < 2 ^ 64 := fun e he => by
  have h1 := h.u e he
  have h2 : (2 : Nat) ^ 60 = 1152921504606846976 := by decide
  have h3 : (2 : Int) ^ 64 = 18446744073709551616 := by decide
  rw [h2] at h1
  rw [h3]
  omega
theorem SR.nil {n : Nat} : SR n [] := ⟨⟨.nil, fun e h => by cases h⟩, fun e h => (by cases h), Nat.zero_le _, fun e h => (by cases h), fun e h => (by cases h)⟩
theorem SR.two {K : PySem.W.Frag} {H : Hp} {a b : Addr} {xs ys : List V} {n : Nat} {es fs : List Ent} (h : SR n es) (k : SR n fs) (hn : n ≤ 3) (ha : H a = some (.lst xs)) (hb : H b = some (.lst ys)) (hE : Ents H xs es) (hF : Ents H ys fs) : TwoR K H a b xs ys es fs n n 2000 :=
  ⟨ha, hb, hE, hF, by have := h.z; omega, by have := k.z; omega, h.d, k.d, hn, hn, h.c, k.c, by decide⟩
theorem SR.prod {n : Nat} {es fs : List Ent} (h : SR n es) (k : SR n fs) : es.length * fs.length < 2000 := Nat.lt_of_le_of_lt (Nat.mul_le_mul h.z k.z) (by decide)
section
variable {P : Program} {w : World} {K : PySem.W.Frag} {mg : Str → Option Value} {base : Heap}
def spCrF (K : PySem.W.Frag) (M : Addr) : Sp := fun vs H Q E => ∃ (a b : Addr) (xs ys : List V) (es fs : List Ent) (n m C : Nat), vs = [.ref a, .ref b] ∧ TwoR K H a b xs ys es fs n m C ∧ Valid es ∧ Valid fs ∧ es.length * fs.length ≤ 10000 ∧ (∀ g ∈ fs, -(2 ^ 64) < g.2 ∧ g.2 < 2 ^ 64) ∧
  (mixB es fs = true → ∀ d H', Same H H' → H' d = some (.xd errM) → E (.ref M) (some d) H') ∧
  (mixB es fs = false → (es ≠ [] → fs ≠ [] → n = m) ∧ wantRow H (timesL es (mirP fs)) Q)
theorem ok_cross_tableF {f M fM : Addr} {fd fdM : FuncData} (D : C8.Def K mg "cross_table" s_cross_table f fd) (T : Bi mg) (DM : C8.Def K mg "multiply" s_multiply fM fdM) (bM : Binds K fdM ["first", "second"] []) (GM : FnOk P w K mg base (L2N.CX P w) 5 fM fdM ["first", "second"] (spMulF K M))
    (c_mirror : C8.Cal P w K mg base 1 "mirror" spMirror []) : FnOk P w K mg base (L2N.CX P w) 6 f fd ["first", "second"] (spCrF K M) := by
  obtain ⟨oc, od, dV, kV, doc, pm, an, cdv, ct, osl, rfl, lk, hcd⟩ := D.fn.ex
  refine fn_of lk hcd sc_cross_table (fun vs H Q E h => ?_) fun A outer s H vs Q E hr h => ?_
  · obtain ⟨a, b, xs, ys, es, fs, n, m, C, rfl, _⟩ := h
    rfl
  · obtain ⟨a, b, xs, ys, es, fs, n, m, C, rfl, R, vE, vF, hz, hnb, qE, qN⟩ := h
    refine ⟨_, (pss_one (ps_ret (pe_callS GM hr rfl DM.mgf DM.kp bM (fun σ => L2N.passAt (L2N.takes_of rfl rfl rfl rfl) σ) (pa_cons (pv 0) (pa_cons (C8.pe_c c_mirror hr (by decide) (by rfl) (pa_cons (pv 1) pa_nil)) pa_nil))))), ?_⟩
    have m3 := R.m3
    refine ⟨_, rfl, _, rfl, b, ys, fs, rfl, R.hb, R.f, Nat.le_trans R.zf (by decide), fun e he => by rw [R.df e he]; omega, fun p ws H2 s2 np hp hW => ?_⟩
    have R2 := R.mono s2
    have T2 : TwoR K H2 a p xs ws es (mirP fs) n m C := ⟨R2.ha, hp, R2.e, hW, R2.ze, by rw [mirP_len]; exact R2.zf, R2.de, mirP_dim R2.df, R2.n3, R2.m3, R2.ce, mirP_c R2.cf, R2.c⟩
    have hdm : mixL ((dims [es, mirP fs]).filter nz) = mixB es fs := by
      rw [mixD]
      unfold mixB
      rw [dimE_mir R.df]
    refine ⟨a, p, xs, ws, es, mirP fs, n, m, C, rfl, T2, vE, (mirP_is vF R.df).v, by rw [mirP_len]; exact hz, mirP_u (P := fun z => -(2 ^ 64) < z ∧ z < 2 ^ 64) hnb, fun hm d H3 s3 hd => ?_, fun hm => ?_⟩
    · rw [hdm] at hm
      exact qE hm d H3 (s2.trans s3) hd
    · rw [hdm] at hm
      obtain ⟨h1, h2⟩ := qN hm
      refine ⟨fun z1 z2 => h1 z1 fun z => z2 (by rw [z]; rfl), wantRow.mono s2 h2⟩
def spSymF : Sp := fun vs H Q _ => ∃ (a : Addr) (xs : List V) (es : List Ent), vs = [.ref a] ∧ H a = some (.lst xs) ∧ Ents H xs es ∧ es.length ≤ 10000 ∧ (∀ e ∈ es, e.1.length ≤ 1000) ∧ ∀ H', Same H H' → Q (.bl (decide (es = mirP es))) H'
theorem c_is_symmetricF {f : Addr} {fd : FuncData} (D : C8.Def K mg "is_symmetric" s_is_symmetric f fd) (b : Binds K fd ["row"] []) (T : Bi mg) (c_mirror : C8.Cal P w K mg base 1 "mirror" spMirror []) : C8.Cal P w K mg base 2 "is_symmetric" spSymF [] := by
  refine C8.cal0 D b .nil sc_is_symmetric (fun vs H Q E h => ?_) (fun cdv A outer s H vs Q E hr h => ?_)
  · obtain ⟨a, xs, es, rfl, _⟩ := h
    rfl
  · obtain ⟨a, xs, es, rfl, ha, hE, hz, hle, q⟩ := h
    refine ⟨_, (pss_one (ps_ret (pe_cmpR (op_eqD hr.units) (pv 0) (C8.pe_c c_mirror hr (by decide) (by rfl) (pa_cons (pv 0) pa_nil)) (nomark _)))), ?_⟩
    refine ⟨_, rfl, _, rfl, a, xs, es, rfl, ha, hE, hz, hle, fun p ws H2 sm np hp hE2 => ?_⟩
    refine ⟨dRow es, dRow (mirP es), (hE.mono sm).dp (.inl (.inl (sm _ _ ha))), hE2.dp (.inl (.inl hp)), shaped_row _, shaped_row _, ?_⟩
    rw [eqv_row]
    exact q H2 sm
end
/-! ### on one line -/
/-- one row less another -/
def difL (b a : List Ent) : List Ent := b ++ negs a
theorem difL_num (b a : List Ent) (q : Pl) : numAt (difL b a) q = numAt b q - numAt a q := by
  unfold difL
  rw [numAt_app, numAt_negs]
  omega
/-- a number of a cross table -/
def Xn (a b : List Ent) (q : Pl) : Int := numAt (crossL a b) q
theorem Xn_congr {a b c d : List Ent} (h : ∀ q, numAt a q = numAt b q) (k : ∀ q, numAt c q = numAt d q) (q : Pl) : Xn a c q = Xn b d q := cross_congr h k q
theorem mirL_dif (b a : List Ent) : mirL (difL b a) = mirL b ++ negs (mirL a) := by
  unfold difL mirL negs
  rw [List.map_append, List.map_map, List.map_map]
  rfl
theorem Xn_left (b a c : List Ent) (q : Pl) : Xn (difL b a) c q = Xn b c q - Xn a c q := by
  unfold Xn crossL difL
  rw [times_comm, timesL_app2, timesL_neg2, times_comm _ b, times_comm _ a]
  omega
theorem Xn_right (b a c : List Ent) (q : Pl) : Xn c (difL b a) q = Xn c b q - Xn c a q := by
  unfold Xn crossL
  rw [mirL_dif, timesL_app2, timesL_neg2]
  omega
/-- the cross table of the differences to a is its own mirror -/
def Line (a b c : List Ent) : Prop := ∀ q, Xn (difL b a) (difL c a) q = Xn (difL c a) (difL b a) q
theorem line_iff {a b c : List Ent} : Line a b c ↔ ∀ q, Xn a b q + Xn b c q + Xn c a q = Xn b a q + Xn c b q + Xn a c q := by
  unfold Line
  constructor
  · intro h q
    have := h q
    rw [Xn_left, Xn_right, Xn_right, Xn_left, Xn_right, Xn_right] at this
    omega
  · intro h q
    have := h q
    rw [Xn_left, Xn_right, Xn_right, Xn_left, Xn_right, Xn_right]
    omega
theorem Line.rot {a b c : List Ent} : Line a b c ↔ Line b c a := by
  rw [line_iff, line_iff]
  exact ⟨fun h q => by have := h q; omega, fun h q => by have := h q; omega⟩
theorem Line.swap {a b c : List Ent} : Line a b c ↔ Line a c b := by
  rw [line_iff, line_iff]
  exact ⟨fun h q => by have := h q; omega, fun h q => by have := h q; omega⟩
theorem Line.same (a c : List Ent) : Line a a c := by
  rw [line_iff]
  intro q
  omega
/-- the row of the cross table is its own mirror just then -/
theorem line_row {a b c d e r : List Ent} {n : Nat} (hd : ∀ q, numAt d q = numAt (difL b a) q) (he : ∀ q, numAt e q = numAt (difL c a) q) (hr : RowIs r (crossL d e)) (hn : DimN n r) : r = mirP r ↔ Line a b c := by
  have h1 : ∀ q, numAt r q = Xn (difL b a) (difL c a) q := fun q => by rw [hr.s]; exact Xn_congr hd he q
  have h2 : ∀ q, numAt (mirP r) q = Xn (difL c a) (difL b a) q := fun q => by
    rw [(mirP_is hr.v hn).s, mir_congr hr.s, cross_mir]
    exact Xn_congr he hd q
  unfold Line
  constructor
  · intro h q
    rw [← h1, ← h2, ← h]
  · intro h
    exact hr.v.ext (mirP_is hr.v hn).v fun q => by rw [h1, h2, h]

set_option Elab.async false
set_option linter.all false
set_option maxRecDepth 100000
set_option maxHeartbeats 4000000
theorem room65 {k : Nat} {A : Around} (r : Room k A) : A.units + 65 < cLine := by
  have := r.un
  omega
theorem dim_of {n : Nat} {es : List Ent} (n1 : 1 ≤ n) (d : DimN n es) : dimE es = 0 ∨ dimE es = n := by
  by_cases c : es = []
  · subst c
    exact .inl rfl
  · exact .inr (dimE_eq d c)
theorem SR.any {n m : Nat} {es : List Ent} (h : SR n es) (k : es ≠ [] → n = m) : SR m es := by
  by_cases c : es = []
  · subst c
    exact SR.nil
  · rw [← k c]
    exact h
/-- rows of one dimension -/
theorem mix_none {ess : List (List Ent)} (hm : mixL ((dims ess).filter nz) = false) (h : ∀ es ∈ ess, ∃ n, 1 ≤ n ∧ n ≤ 3 ∧ SR n es) : ∃ n, 1 ≤ n ∧ n ≤ 3 ∧ ∀ es ∈ ess, SR n es := by
  by_cases c : ∃ es ∈ ess, es ≠ []
  · obtain ⟨e0, he0, hne⟩ := c
    obtain ⟨n, n1, n3, h0⟩ := h e0 he0
    refine ⟨n, n1, n3, fun es he => ?_⟩
    obtain ⟨m, m1, m3, h1⟩ := h es he
    refine h1.any fun z => ?_
    apply Classical.byContradiction
    intro w
    have d0 := dimE_eq h0.d hne
    have d1 := dimE_eq h1.d z
    rw [mix_two he0 he (by omega) (by omega) (by omega)] at hm
    cases hm
  · refine ⟨1, by decide, by decide, fun es he => ?_⟩
    have : es = [] := Classical.byContradiction fun z => c ⟨es, he, z⟩
    rw [this]
    exact SR.nil
/-- a difference of two rows -/
structure DR (n : Nat) (es : List Ent) : Prop where
  v : Valid es
  d : DimN n es
  z : es.length ≤ 80
  c : ∀ e ∈ es, ∀ x ∈ e.1, x.natAbs ≤ 2000
  u : ∀ e ∈ es, -(2 ^ 64) < e.2 ∧ e.2 < 2 ^ 64
theorem scaleP_neg (es : List Ent) : scaleP es (-1) = scaleL es (-1) := if_neg (by decide)
theorem dif_row {n : Nat} {es fs g : List Ent} (h : SR n es) (k : SR n fs) (hg : RowIs g (es ++ scaleP fs (-1))) : DR n g ∧ ∀ q, numAt g q = numAt (difL es fs) q := by
  rw [scaleP_neg] at hg
  have hs : ∀ q, numAt g q = numAt es q - numAt fs q := fun q => by
    rw [hg.s, numAt_app, scaleL_sum]
    omega
  have hm : ∀ e ∈ g, ∃ x ∈ es ++ fs, x.1 = e.1 := fun e he => by
    obtain ⟨x, hx, ex⟩ := hg.mem he
    rcases List.mem_append.mp hx with hx | hx
    · exact ⟨x, List.mem_append_left _ hx, ex⟩
    · obtain ⟨y, hy, rfl⟩ := List.mem_map.mp hx
      exact ⟨y, List.mem_append_right _ hy, ex⟩
  refine ⟨⟨hg.v, fun e he => ?_, ?_, fun e he x hx => ?_, fun e he => ?_⟩, fun q => by rw [hs, difL_num]⟩
  · obtain ⟨x, hx, ex⟩ := hm e he
    rw [← ex]
    exact (List.mem_append.mp hx).elim (h.d x) (k.d x)
  · have := hg.len
    have h1 := h.z
    have h2 := k.z
    rw [List.length_append, show (scaleL fs (-1)).length = fs.length from List.length_map _] at this
    omega
  · obtain ⟨y, hy, ey⟩ := hm e he
    rw [← ey] at hx
    exact (List.mem_append.mp hy).elim (fun z => h.c y z x hx) fun z => k.c y z x hx
  · have e1 := hg.v.at e he
    rw [hs] at e1
    have b : ∀ {rs : List Ent}, SR n rs → ∀ q, (numAt rs q).natAbs ≤ 2 ^ 60 := fun {rs} r q => by
      rcases num_or r.v q with z | ⟨x, hx, z⟩
      · rw [z]; decide
      · rw [z]; exact r.u x hx
    have b1 := b h e.1
    have b2 := b k e.1
    have e60 : (2 : Nat) ^ 60 = 1152921504606846976 := by decide
    have e64 : (2 : Int) ^ 64 = 18446744073709551616 := by decide
    omega
theorem DR.two {K : PySem.W.Frag} {H : Hp} {a b : Addr} {xs ys : List V} {n : Nat} {es fs : List Ent} (h : DR n es) (k : DR n fs) (hn : n ≤ 3) (ha : H a = some (.lst xs)) (hb : H b = some (.lst ys)) (hE : Ents H xs es) (hF : Ents H ys fs) : TwoR K H a b xs ys es fs n n 2000 :=
  ⟨ha, hb, hE, hF, by have := h.z; omega, by have := k.z; omega, h.d, k.d, hn, hn, h.c, k.c, by decide⟩
theorem SR.ne {n : Nat} {es : List Ent} (h : SR n es) (n1 : 1 ≤ n) : ∀ e ∈ es, e.1 ≠ [] := fun e he z => by
  have := h.d e he
  rw [z] at this
  have : 0 = n := this
  omega
section
variable {P : Program} {w : World} {K : PySem.W.Frag} {mg : Str → Option Value} {base : Heap}
def spLine (K : PySem.W.Frag) (M : Addr) : Sp := fun vs H Q E => ∃ (a b c : Addr) (xa xb xc : List V) (ra rb rc : List Ent), vs = [.ref a, .ref b, .ref c] ∧ H a = some (.lst xa) ∧ Ents H xa ra ∧ H b = some (.lst xb) ∧ Ents H xb rb ∧ H c = some (.lst xc) ∧ Ents H xc rc ∧ (∀ es ∈ [ra, rb, rc], ∃ n, 1 ≤ n ∧ n ≤ 3 ∧ SR n es) ∧
  (mixL ((dims [ra, rb, rc]).filter nz) = true → ∀ d H', Same H H' → H' d = some (.xd errM) → E (.ref M) (some d) H') ∧
  (mixL ((dims [ra, rb, rc]).filter nz) = false → ∀ t H', Same H H' → (t = true ↔ Line ra rb rc) → Q (.bl t) H')
theorem ok_on_one_line {f M fD fC fS A0 : Addr} {fd fdD fdC fdS : FuncData} {ds : List Value} (D : C8.Def K mg "on_one_line" s_on_one_line f fd) (T : Bi mg) (DD : C8.Def K mg "same_dimension" s_same_dimension fD fdD) (bD : Binds K fdD ["rows", "places"] ds) (hdv : Vals [V.ref A0] ds) (hA0 : ∀ H, SqT K H A0 []) (GD : FnOk P w K mg base (L2N.CX P w) 4 fD fdD ["rows", "places"] (spSDT K M))
    (DC : C8.Def K mg "cross_table" s_cross_table fC fdC) (bC : Binds K fdC ["first", "second"] []) (GC : FnOk P w K mg base (L2N.CX P w) 6 fC fdC ["first", "second"] (spCrF K M)) (DS : C8.Def K mg "subtract" s_subtract fS fdS) (bS : Binds K fdS ["first", "second"] []) (GS : FnOk P w K mg base (L2N.CX P w) 6 fS fdS ["first", "second"] (spDif K M)) (c_is_symmetric : C8.Cal P w K mg base 2 "is_symmetric" spSymF []) : FnOk P w K mg base (L2N.CX P w) 8 f fd ["first", "second", "third"] (spLine K M) := by
  obtain ⟨oc, od, dV, kV, doc, pm, an, cdv, ct, osl, rfl, lk, hcd⟩ := D.fn.ex
  refine fn_of lk hcd sc_on_one_line (fun vs H Q E h => ?_) fun A outer s H vs Q E hr h => ?_
  · obtain ⟨a, b, c, xa, xb, xc, ra, rb, rc, rfl, _⟩ := h
    rfl
  · obtain ⟨a, b, c, xa, xb, xc, ra, rb, rc, rfl, ha, hEa, hb, hEb, hc, hEc, hall, qM, q⟩ := h
    refine ⟨_, (pss_cons (ps_expr (pe_callSD (GD.mono (by decide : 4 ≤ 7)) hr rfl DD.mgf DD.kp bD hdv (fun σ => L2N.passAt (L2N.takes_of rfl rfl rfl rfl) σ) (pa_cons (pe_lst (pa_cons (pv 0) (pa_cons (pv 1) (pa_cons (pv 2) pa_nil)))) pa_nil)))
  (pss_one (ps_ret (C8.pe_c c_is_symmetric hr (by decide) (by rfl) (pa_cons (pe_callS (GC.mono (by decide : 6 ≤ 7)) hr rfl DC.mgf DC.kp bC (fun σ => L2N.passAt (L2N.takes_of rfl rfl rfl rfl) σ) (pa_cons (pe_callS (GS.mono (by decide : 6 ≤ 7)) hr rfl DS.mgf DS.kp bS (fun σ => L2N.passAt (L2N.takes_of rfl rfl rfl rfl) σ) (pa_cons (pv 1) (pa_cons (pv 0) pa_nil))) (pa_cons (pe_callS (GS.mono (by decide : 6 ≤ 7)) hr rfl DS.mgf DS.kp bS (fun σ => L2N.passAt (L2N.takes_of rfl rfl rfl rfl) σ) (pa_cons (pv 2) (pa_cons (pv 0) pa_nil))) pa_nil))) pa_nil))))), ?_⟩
    refine ⟨_, rfl, _, rfl, _, rfl, (by show 3 ≤ sizeLine; decide), fun p1 np1 => ?_⟩
    generalize ep : upd H p1 (.lst [.ref a, .ref b, .ref c]) = H1
    have s1 := AU.newS np1 ep
    have hp1 := AU.newH ep
    clear ep
    refine ⟨p1, A0, _, [ra, rb, rc], rfl, AU.sqL hp1, .cons (s1 _ _ ha) (hEa.mono s1) (.cons (s1 _ _ hb) (hEb.mono s1) (.cons (s1 _ _ hc) (hEc.mono s1) .nil)), hA0 _, by show 3 ≤ 1000; decide, fun hm d H3 sm hd => qM hm d H3 (s1.trans sm) hd, fun hm H3 sm3 => ?_⟩
    obtain ⟨n, n1, n3, hsr⟩ := mix_none hm hall
    have q := q hm
    have sa := hsr ra (by simp)
    have sb := hsr rb (by simp)
    have sc := hsr rc (by simp)
    have s03 := s1.trans sm3
    have ha3 := s03 _ _ ha
    have hb3 := s03 _ _ hb
    have hc3 := s03 _ _ hc
    have mz : ∀ {es fs : List Ent}, SR n es → SR n fs → mixL ((dims [es, fs]).filter nz) = false := fun {es fs} h k => mix_const (k := n) fun x hx => by
      simp only [List.mem_cons, List.not_mem_nil, or_false] at hx
      rcases hx with rfl | rfl
      · exact dim_of n1 h.d
      · exact dim_of n1 k.d
    have za := sa.z
    have zb := sb.z
    have zc := sc.z
    clear hm hall qM s1 hp1 np1
    walk_at "st"
    refine ⟨b, a, xb, xa, rb, ra, rfl, hb3, ha3, hEb.mono s03, hEa.mono s03, by omega, by omega, fun e he => (List.mem_append.mp he).elim (sb.ne n1 e) (sa.ne n1 e), fun h => (by rw [mz sb sa] at h; cases h), fun _ g1 p4 ws4 H4 hg1 s4 np4 hp4 hE4 => ?_⟩
    obtain ⟨D1, e1⟩ := dif_row sb sa hg1
    have ha4 := s4 _ _ ha3
    have hc4 := s4 _ _ hc3
    have s04 := s03.trans s4
    walk_at "st"
    refine ⟨c, a, xc, xa, rc, ra, rfl, hc4, ha4, hEc.mono s04, hEa.mono s04, by omega, by omega, fun e he => (List.mem_append.mp he).elim (sc.ne n1 e) (sa.ne n1 e), fun h => (by rw [mz sc sa] at h; cases h), fun _ g2 p5 ws5 H5 hg2 s5 np5 hp5 hE5 => ?_⟩
    obtain ⟨D2, e2⟩ := dif_row sc sa hg2
    have hp45 := s5 _ _ hp4
    have z1 := D1.z
    have z2 := D2.z
    refine ⟨p4, p5, ws4, ws5, g1, g2, n, n, 2000, rfl, D1.two D2 n3 hp45 hp5 (hE4.mono s5) hE5, D1.v, D2.v, Nat.le_trans (Nat.mul_le_mul z1 z2) (by decide), D2.u, fun h => ?_, fun _ => ⟨fun _ _ => rfl, fun r p6 ws6 H6 hr6 s6 np6 hp6 hE6 => ?_⟩⟩
    · rw [mixB_same (fun _ _ => rfl) D1.d D2.d] at h
      cases h
    have hr6' : RowIs r (crossL g1 g2) := hr6.congr (timesL_eq2 g1 (mirP_is D2.v D2.d).s)
    have hdr : DimN n r := DimN.of hr6 (DimN.times D1.d (mirP_dim D2.d))
    have hlr := hr6.len
    rw [timesL_len, mirP_len] at hlr
    have hlr2 := Nat.le_trans hlr (Nat.mul_le_mul z1 z2)
    refine ⟨p6, ws6, r, rfl, hp6, hE6, by omega, fun e he => by rw [hdr e he]; omega, fun H7 s7 => ?_⟩
    refine q _ H7 (s04.trans (s5.trans (s6.trans s7))) ?_
    rw [decide_eq_true_iff]
    exact line_row e1 e2 hr6' hdr
end

set_option Elab.async false
set_option linter.all false
set_option maxRecDepth 100000
set_option maxHeartbeats 4000000
theorem RowsAt.at_ {H : Hp} {us : List V} {ess : List (List Ent)} (h : RowsAt H us ess) {i : Nat} (hi : i < ess.length) : ∃ (a : Addr) (xs : List V), us[i]? = some (.ref a) ∧ H a = some (.lst xs) ∧ Ents H xs ess[i] := by
  have hl := h.len
  obtain ⟨a, xs, es, e1, e2, e3, e4⟩ := h.get (List.getElem?_eq_getElem (show i < us.length by omega))
  obtain ⟨_, rfl⟩ := List.getElem?_eq_some_iff.mp e2
  exact ⟨a, xs, by rw [List.getElem?_eq_getElem (by omega), e1], e3, e4⟩
theorem rows_dpAll {K : PySem.W.Frag} {H : Hp} {us : List V} {ess : List (List Ent)} (h : RowsAt H us ess) : DpAll K H us (ess.map dRow) := by
  induction h with
  | nil => exact .nil
  | cons h1 h2 _ ih => exact .cons (h2.dp (AU.sqL h1)) ih
theorem rows_shaped (ess : List (List Ent)) : SeqAt.shaped (.list (ess.map dRow)) = true := (DOk.list (n := 4) fun d hd => by
  obtain ⟨x, _, rfl⟩ := List.mem_map.mp hd
  exact DOk.row x).shaped (by decide)
theorem rows_in (es : List Ent) : ∀ ess : List (List Ent), ((ess.map dRow).any fun z => PyData.eqv z (dRow es)) = true ↔ es ∈ ess
  | [] => by simp
  | x :: r => by
    have ih := rows_in es r
    rw [List.map_cons, List.any_cons, Bool.or_eq_true, ih, eqv_row, decide_eq_true_iff, List.mem_cons]
    exact ⟨fun h => h.imp Eq.symm id, fun h => h.imp Eq.symm id⟩
/-- the reference raises the rank of the known ones -/
def Raises (ess : List (List Ent)) (es : List Ent) : Prop := (ess.length < 2 ∧ es ∉ ess) ∨ ∃ a b, ess = [a, b] ∧ ¬ Line a b es
section
variable {P : Program} {w : World} {K : PySem.W.Frag} {mg : Str → Option Value} {base : Heap}
def spLineQ (K : PySem.W.Frag) : Sp := fun vs H Q _ => ∃ (a b c : Addr) (xa xb xc : List V) (ra rb rc : List Ent) (n : Nat), vs = [.ref a, .ref b, .ref c] ∧ H a = some (.lst xa) ∧ Ents H xa ra ∧ H b = some (.lst xb) ∧ Ents H xb rb ∧ H c = some (.lst xc) ∧ Ents H xc rc ∧ 1 ≤ n ∧ n ≤ 3 ∧ SR n ra ∧ SR n rb ∧ SR n rc ∧
  ∀ t H', Same H H' → (t = true ↔ Line ra rb rc) → Q (.bl t) H'
theorem SR.mix {m : Nat} (m1 : 1 ≤ m) {ess : List (List Ent)} (h : ∀ es ∈ ess, SR m es) : mixL ((dims ess).filter nz) = false := mix_const (k := m) fun es he => dim_of m1 (h es he).d
theorem lineQ {M : Addr} : ∀ vs H Q E, spLineQ K vs H Q E → spLine K M vs H Q E0 := fun vs H Q E ⟨a, b, c, xa, xb, xc, ra, rb, rc, n, e, ha, hEa, hb, hEb, hc, hEc, n1, n3, sa, sb, sc, q⟩ => by
  have all : ∀ es ∈ [ra, rb, rc], SR n es := fun es he => by
    simp only [List.mem_cons, List.not_mem_nil, or_false] at he
    rcases he with rfl | rfl | rfl <;> assumption
  refine ⟨a, b, c, xa, xb, xc, ra, rb, rc, e, ha, hEa, hb, hEb, hc, hEc, fun es he => ⟨n, n1, n3, all es he⟩, fun h => ?_, fun _ => q⟩
  rw [SR.mix n1 all] at h
  cases h
def spRaise : Sp := fun vs H Q _ => ∃ (kn r : Addr) (us xs : List V) (ess : List (List Ent)) (es : List Ent) (n : Nat), vs = [.ref kn, .ref r] ∧ H kn = some (.lst us) ∧ RowsAt H us ess ∧ H r = some (.lst xs) ∧ Ents H xs es ∧ 1 ≤ n ∧ n ≤ 3 ∧ SR n es ∧ (∀ e ∈ ess, SR n e) ∧ ∀ t H', Same H H' → (t = true ↔ Raises ess es) → Q (.bl t) H'
theorem c_raises_rank {f : Addr} {fd : FuncData} (D : C8.Def K mg "raises_rank" s_raises_rank f fd) (b : Binds K fd ["known", "reference"] []) (T : Bi mg) (c_on_one_line : C8.Cal P w K mg base 8 "on_one_line" (spLineQ K) []) : C8.Cal P w K mg base 9 "raises_rank" spRaise [] := by
  refine C8.cal0 D b .nil sc_raises_rank (fun vs H Q E h => ?_) (fun cdv A outer s H vs Q E hr h => ?_)
  · obtain ⟨kn, r, us, xs, ess, es, n, rfl, _⟩ := h
    rfl
  · obtain ⟨kn, r, us, xs, ess, es, n, rfl, hk, hR, hr0, hE, n1, n3, se, sk, q⟩ := h
    refine ⟨_, (pss_cons (ps_if (pt_cmpR op_lt (pe_callB call_len_seq (by rfl) T.n_len OT.b_len (pa_cons (pv 0) pa_nil)) pe_int (nomark _)) (pss_one (ps_ret (pe_cmpR (show OpR _ _ (rNotInD K) from op_notInD (room65 hr)) (pv 1) (pv 0) rfl))) pss_nil)
  (pss_one (ps_ret (pe_and (pe_cmpR op_eq (pe_callB call_len_seq (by rfl) T.n_len OT.b_len (pa_cons (pv 0) pa_nil)) pe_int (nomark _)) (pe_one (pe_not (C8.pe_c c_on_one_line hr (by decide) (by rfl) (pa_cons (pe_ix ix_list (pv 0) pe_int (fun _ _ => rfl)) (pa_cons (pe_ix ix_list (pv 0) pe_int (fun _ _ => rfl)) (pa_cons (pv 1) pa_nil)))))))))), ?_⟩
    have hul := hR.len
    walk_at "st"
    rw [hul]
    refine iteD (fun z => ?_) (fun z => ?_)
    · walk_at "st"
      refine ⟨dRow es, ess.map dRow, hE.dp (AU.sqL hr0), .lst (AU.sqL hk) (rows_dpAll hR), shaped_row es, rows_shaped ess, ?_⟩
      refine q _ H (Same.refl _) ?_
      have hin := rows_in es ess
      have z' : ess.length < 2 := by omega
      rw [Bool.not_eq_true', ← Bool.not_eq_true, hin]
      unfold Raises
      constructor
      · exact fun h => .inl ⟨z', h⟩
      · rintro (⟨_, h⟩ | ⟨a, b, rfl, _⟩)
        · exact h
        · exact absurd z' (by show ¬ (2 < 2); omega)
    · walk_at "st"
      rw [hul]
      refine iteD (fun z2 => ?_) (fun z2 => ?_)
      · have e2 : ess.length = 2 := by omega
        obtain ⟨ra, rb, rfl⟩ : ∃ a b, ess = [a, b] := by
          match ess, e2 with
          | [a, b], _ => exact ⟨a, b, rfl⟩
        obtain ⟨a, xa, ea, ha, hEa⟩ := hR.at_ (i := 0) (show 0 < 2 by decide)
        obtain ⟨b, xb, eb, hb, hEb⟩ := hR.at_ (i := 1) (show 1 < 2 by decide)
        have at0 : atI us 0 = some (.ref a) := AU.atN (j := 0) rfl ea
        have at1 : atI us 1 = some (.ref b) := AU.atN (j := 1) rfl eb
        walk_at "st"
        refine ⟨a, b, r, xa, xb, xs, ra, rb, es, n, rfl, ha, hEa, hb, hEb, hr0, hE, n1, n3, sk ra (by simp), sk rb (by simp), se, fun t H' s' ht => ?_⟩
        walk_at "st"
        refine q _ H' s' ?_
        unfold Raises
        constructor
        · intro h
          refine .inr ⟨ra, rb, rfl, fun hl => ?_⟩
          rw [ht.mpr hl] at h
          cases h
        · rintro (⟨h, _⟩ | ⟨a2, b2, e2, hn⟩)
          · exact absurd h (by show ¬ (2 < 2); omega)
          · cases e2
            cases t with
            | true => exact absurd (ht.mp rfl) hn
            | false => rfl
      · walk_at "st"
        refine q _ H (Same.refl _) ?_
        unfold Raises
        constructor
        · intro h
          cases h
        · rintro (⟨h, _⟩ | ⟨a, b, rfl, _⟩)
          · omega
          · exact absurd rfl z2
end

set_option Elab.async false
set_option linter.all false
set_option maxRecDepth 100000
set_option maxHeartbeats 4000000
/-- the indexes of the references that raise the rank, below i -/
inductive IsBasis (rs : List (List Ent)) : Nat → List Nat → Prop
  | nil : IsBasis rs 0 []
  | yes {i : Nat} {f : List Nat} : IsBasis rs i f → Raises (f.map fun k => rs.getD k []) (rs.getD i []) → IsBasis rs (i + 1) (f ++ [i])
  | no {i : Nat} {f : List Nat} : IsBasis rs i f → ¬ Raises (f.map fun k => rs.getD k []) (rs.getD i []) → IsBasis rs (i + 1) f
theorem IsBasis.lt {rs : List (List Ent)} {i : Nat} {f : List Nat} (h : IsBasis rs i f) : ∀ k ∈ f, k < i := by
  induction h with
  | nil => intro k hk; cases hk
  | yes _ _ ih =>
    intro k hk
    rcases List.mem_append.mp hk with hk | hk
    · have := ih k hk
      omega
    · rw [List.mem_singleton.mp hk]
      omega
  | no _ _ ih =>
    intro k hk
    have := ih k hk
    omega
theorem IsBasis.len {rs : List (List Ent)} {i : Nat} {f : List Nat} (h : IsBasis rs i f) : f.length ≤ i := by
  induction h with
  | nil => exact Nat.le_refl _
  | yes _ _ ih => rw [List.length_append, List.length_singleton]; omega
  | no _ _ ih => omega
theorem RowsAt.snoc {H : Hp} {us : List V} {ess : List (List Ent)} {a : Addr} {xs : List V} {es : List Ent} (h : RowsAt H us ess) (ha : H a = some (.lst xs)) (hE : Ents H xs es) : RowsAt H (us ++ [.ref a]) (ess ++ [es]) := by
  induction h with
  | nil => exact .cons ha hE .nil
  | cons h1 h2 _ ih => exact .cons h1 h2 ih
theorem getD_at {ess : List (List Ent)} {i : Nat} {es : List Ent} (h : ess[i]? = some es) : ess.getD i [] = es := by
  rw [List.getD_eq_getElem?_getD, h]
  rfl
section
variable {P : Program} {w : World} {K : PySem.W.Frag} {mg : Str → Option Value} {base : Heap}
def spBasis (K : PySem.W.Frag) (M : Addr) : Sp := fun vs H Q E => ∃ (a : Addr) (us : List V) (ess : List (List Ent)), vs = [.ref a] ∧ H a = some (.lst us) ∧ RowsAt H us ess ∧ ess.length ≤ 100 ∧ (∀ es ∈ ess, ∃ n, 1 ≤ n ∧ n ≤ 3 ∧ SR n es) ∧
  (mixL ((dims ess).filter nz) = true → ∀ d H', Same H H' → H' d = some (.xd errM) → E (.ref M) (some d) H') ∧
  (mixL ((dims ess).filter nz) = false → ∀ f p H', IsBasis ess ess.length f → Same H H' → H p = none → H' p = some (.lst (f.map fun (k : Nat) => V.int (k : Int))) → Q (.ref p) H')
theorem ok_basis {f M fD A0 : Addr} {fd fdD : FuncData} {ds : List Value} (D : C8.Def K mg "basis" s_basis f fd) (T : Bi mg) (DD : C8.Def K mg "same_dimension" s_same_dimension fD fdD) (bD : Binds K fdD ["rows", "places"] ds) (hdv : Vals [V.ref A0] ds) (hA0 : ∀ H, SqT K H A0 []) (GD : FnOk P w K mg base (L2N.CX P w) 4 fD fdD ["rows", "places"] (spSDT K M))
    (c_raises_rank : C8.Cal P w K mg base 9 "raises_rank" spRaise []) : FnOk P w K mg base (L2N.CX P w) 10 f fd ["references"] (spBasis K M) := by
  obtain ⟨oc, od, dV, kV, doc, pm, an, cdv, ct, osl, rfl, lk, hcd⟩ := D.fn.ex
  refine fn_of lk hcd sc_basis (fun vs H Q E h => ?_) fun A outer s H vs Q E hr h => ?_
  · obtain ⟨a, us, ess, rfl, _⟩ := h
    rfl
  · obtain ⟨a, us, ess, rfl, ha, hR, hz, hall, qM, q⟩ := h
    refine ⟨_, (pss_cons (ps_expr (pe_callSD (GD.mono (by decide : 4 ≤ 9)) hr rfl DD.mgf DD.kp bD hdv (fun σ => L2N.passAt (L2N.takes_of rfl rfl rfl rfl) σ) (pa_cons (pv 0) pa_nil)))
  (pss_cons (ps_set (i := 1) sc_basis.nd rfl (Or.inl rfl) (pe_lst pa_nil))
  (pss_cons (ps_for (passes_of rfl) rfl (pi_enum (by rfl) T.n_enumerate (pa_cons (pv 0) pa_nil)) (pg_tup rfl (pgs_cons (pg_name (i := 2) sc_basis.nd rfl (Or.inl rfl)) (pgs_cons (pg_name (i := 3) sc_basis.nd rfl (Or.inl rfl)) pgs_nil))) (pss_one (ps_if (pt_val (C8.pe_c c_raises_rank hr (by decide) (by rfl) (pa_cons (pe_lc (own := [("k", 4)]) (g := (gName 4)) (tt := tYes) rfl sc_basis.nd (pi_list (pv 1)) (blkOk_by (N := ["references", "found", "index", "reference", "k"]) (sc := C8.fnScope s_basis) (by decide +kernel)) (fun _ _ _ _ _ => (pg_name (i := 4) sc_basis.nd rfl (Or.inl rfl))) (fun _ _ _ _ _ => pts_nil) (fun _ _ _ _ _ => (pe_ix (show IxR _ (rIxL K) from ix_list) (pv 0) (pv 4) (fun _ _ => rfl)))) (pa_cons (pv 3) pa_nil)))) (pss_one (ps_expr (pe_bm PySem.F.plainAttrs_list PySem.F.slot_list_append PySem.F.type_list_append mt_append (pv 1) (pa_cons (pv 2) pa_nil)))) pss_nil)))
  (pss_one (ps_ret (pv 1)))))), ?_⟩
    have hul := hR.len
    refine ⟨_, rfl, a, A0, us, ess, rfl, AU.sqL ha, hR, hA0 _, by omega, qM, fun hm H1 s1 => ?_⟩
    obtain ⟨n, n1, n3, hsr⟩ := mix_none hm hall
    have q := q hm
    have ha1 := s1 _ _ ha
    have hR1 := hR.mono s1
    clear qM hm hall
    walk_at "st"
    refine ⟨by walk_at "sz", fun p np => ?_⟩; generalize eH2 : upd _ p _ = H2; have s2 := AU.newS np eH2; have hp := AU.newH eH2; clear eH2
    have ha2 := s2 _ _ ha1
    walk_at "st"
    refine ⟨_, rfl, a, us, rfl, AU.sqL ha2, ?_⟩
    refine for_it (walk_enum (xs := us)) (fun i σ F => ∃ (y2 y3 : Option V) (fl : List Nat), σ = [some (.ref a), some (.ref p), y2, y3, none] ∧ Same H1 F ∧ F p = some (.lst (fl.map fun (k : Nat) => V.int (k : Int))) ∧ IsBasis ess i fl) ⟨none, none, [], rfl, s2, hp, .nil⟩ ?_ ?_ ?_
    · rintro i σ F _ ⟨_, _, _, _, sF, _⟩
      exact AU.sqL (sF _ _ ha1)
    · rintro i x σ F F2 hi ⟨y2, y3, fl, rfl, sF, hpF, hB⟩ ⟨t, x1, x2, rfl, nt, rfl, e1, e2⟩
      cases e1
      have smt : Same F (upd F t (.tup [.int (i : Nat), x2])) := same_upd nt
      have ht : (upd F t (.tup [.int (i : Nat), x2])) t = some (.tup [.int (i : Nat), x2]) := upd_same
      generalize upd F t (.tup [.int (i : Nat), x2]) = F2 at smt ht ⊢
      have sm2 := sF.trans smt
      obtain ⟨r, xs, es, rfl, hes, hr0, hE⟩ := (hR1.mono sm2).get e2
      have haF := sm2 _ _ ha1
      have hpF2 := smt _ _ hpF
      have hRF := hR1.mono sm2
      have hlt := hB.lt
      have hfl := hB.len
      have hil := (List.getElem?_eq_some_iff.mp hes).1
      refine ⟨t, _, rfl, .inl (.inl ht), rfl, _, _, rfl, _, _, rfl, rfl, ?_⟩
      walk_at "st"
      refine ⟨p, rfl, ⟨_, AU.sqL hpF2⟩, fun D3 nD3 => ?_⟩
      refine lc_list (K := K) (xs := fl.map fun (k : Nat) => V.int (k : Int)) (fun j G => Same F2 G ∧ ∃ ws, G D3 = some (.lst ws) ∧ RowsAt F2 ws ((fl.take j).map fun k => ess.getD k [])) ⟨same_upd nD3, [], upd_same, .nil⟩ ?_ ?_ ?_
      · rintro j G _ ⟨sG, _⟩
        exact AU.sqL (sG _ _ hpF2)
      · rintro j x G hxj ⟨sG, ws, hD, hW⟩
        rw [List.getElem?_map] at hxj
        cases ek : fl[j]? with
        | none => rw [ek] at hxj; cases hxj
        | some k =>
          rw [ek] at hxj
          cases hxj
          have hk := hlt k (List.mem_of_getElem? ek)
          have hjl := (List.getElem?_eq_some_iff.mp ek).1
          obtain ⟨ak, xk, hak, hak2, hEk⟩ := hRF.at_ (i := k) (by omega)
          have atk : atI us ((k : Nat) : Int) = some (.ref ak) := AU.atN (j := k) rfl hak
          have haG := sG _ _ haF
          have hwl := hW.len
          refine ⟨rfl, tYes_of ?_⟩
          walk_at "st"
          refine ⟨ws, hD, small100k (by rw [hwl, List.length_map, List.length_take]; omega), same_mut sG nD3, ws ++ [.ref ak], upd_same, ?_⟩
          rw [List.take_add_one, ek, List.map_append]
          show RowsAt _ _ (_ ++ [ess.getD k []])
          rw [getD_at (List.getElem?_eq_getElem (show k < ess.length by omega))]
          exact hW.snoc hak2 hEk
      · rintro G ⟨sG, ws, hD, hW⟩
        rw [List.length_map, List.take_length] at hW
        have hrG := sG _ _ hr0
        have hpG := sG _ _ hpF2
        walk_at "st"
        refine ⟨D3, r, ws, xs, _, es, n, rfl, hD, hW.mono sG, hrG, hE.mono sG, n1, n3, hsr es (List.mem_of_getElem? hes), fun e he => ?_, fun b G2 sG2 hb => ?_⟩
        · obtain ⟨k, hk, rfl⟩ := List.mem_map.mp he
          have hk2 := hlt k hk
          rw [getD_at (List.getElem?_eq_getElem (show k < ess.length by omega))]
          exact hsr _ (List.getElem_mem _)
        have hpG2 := sG2 _ _ hpG
        have ees := getD_at hes
        rw [← ees] at hb
        cases b with
        | true =>
          walk_at "st"
          refine ⟨_, _, fl ++ [i], rfl, same_mut (sm2.trans (sG.trans sG2)) np, ?_, hB.yes (hb.mp rfl)⟩
          rw [upd_same, List.map_append]
          rfl
        | false =>
          walk_at "st"
          exact ⟨_, _, fl, rfl, sm2.trans (sG.trans sG2), hpG2, hB.no fun z => by have := hb.mpr z; cases this⟩
    · rintro σ F ⟨y2, y3, fl, rfl, sF, hpF, hB⟩
      rw [hul] at hB
      walk_at "st"
      exact q fl p F hB (s1.trans sF) (AU.back s1 np) hpF
def spRank (K : PySem.W.Frag) (M : Addr) : Sp := fun vs H Q E => ∃ (a : Addr) (us : List V) (ess : List (List Ent)), vs = [.ref a] ∧ H a = some (.lst us) ∧ RowsAt H us ess ∧ ess.length ≤ 100 ∧ (∀ es ∈ ess, ∃ n, 1 ≤ n ∧ n ≤ 3 ∧ SR n es) ∧
  (mixL ((dims ess).filter nz) = true → ∀ d H', Same H H' → H' d = some (.xd errM) → E (.ref M) (some d) H') ∧
  (mixL ((dims ess).filter nz) = false → ∀ f H', IsBasis ess ess.length f → Same H H' → Q (.int (f.length : Int)) H')
theorem ok_rank {f M fB : Addr} {fd fdB : FuncData} (D : C8.Def K mg "rank" s_rank f fd) (T : Bi mg) (DB : C8.Def K mg "basis" s_basis fB fdB) (bB : Binds K fdB ["references"] []) (GB : FnOk P w K mg base (L2N.CX P w) 10 fB fdB ["references"] (spBasis K M)) : FnOk P w K mg base (L2N.CX P w) 11 f fd ["references"] (spRank K M) := by
  obtain ⟨oc, od, dV, kV, doc, pm, an, cdv, ct, osl, rfl, lk, hcd⟩ := D.fn.ex
  refine fn_of lk hcd sc_rank (fun vs H Q E h => ?_) fun A outer s H vs Q E hr h => ?_
  · obtain ⟨a, us, ess, rfl, _⟩ := h
    rfl
  · obtain ⟨a, us, ess, rfl, ha, hR, hz, hall, qM, q⟩ := h
    refine ⟨_, (pss_one (ps_ret (pe_callB call_len_seq (by rfl) T.n_len OT.b_len (pa_cons (pe_callS GB hr rfl DB.mgf DB.kp bB (fun σ => L2N.passAt (L2N.takes_of rfl rfl rfl rfl) σ) (pa_cons (pv 0) pa_nil)) pa_nil)))), ?_⟩
    walk_at "st"
    refine ⟨a, us, ess, rfl, ha, hR, hz, hall, qM, fun hm fl p H1 hB s1 np hp => ?_⟩
    walk_at "st"
    rw [List.length_map]
    exact q hm fl H1 hB s1
end

set_option Elab.async false
set_option linter.all false
set_option maxRecDepth 100000
set_option maxHeartbeats 4000000
section
variable {P : Program} {w : World} {K : PySem.W.Frag} {mg : Str → Option Value} {base : Heap}
structure MixK (K : PySem.W.Frag) (B M Z O : Addr) : Prop where
  t : OtErr K M "MixedDimensions"
  x : PySem.W.exmOne K (.ref M) (.ref B) = some true
  b : PySem.W.kitOne K (.ref M) (.ref B) = some true
  v : PySem.W.kitOne K (.ref M) (.type "ValueError") = some true
  m : PySem.W.kitOne K (.ref M) (.ref M) = some true
  z : PySem.W.kitOne K (.ref M) (.ref Z) = some false
  o : PySem.W.kitOne K (.ref M) (.ref O) = some false
def spMixE (K : PySem.W.Frag) (M : Addr) : SpE := fun a c d vs H Q _ => ∃ dd : Addr, vs = [.ref a] ∧ HeldF K H M dd c d errM ∧ Q (.bl true) H
theorem h__law_is_mixed {f B M Z O : Addr} {fd : FuncData} (D : C8.Def K mg "_law_is_mixed" s__law_is_mixed f fd) (b : Binds K fd ["_law_e"] []) (T : Bi mg) (gM : mg "MixedDimensions" = some (.ref M)) (gZ : mg "ZeroRow" = some (.ref Z)) (gO : mg "OneDirectionOnly" = some (.ref O)) (er : MixK K B M Z O)
    (h__law_is_error : HP.CalG P w K mg base 1 "_law_is_error" (spErrE K B)) : HP.CalG P w K mg base 2 "_law_is_mixed" (spMixE K M) := by
  refine .mk D b (HP.fnG_of D.fn sc__law_is_mixed (fun a c d vs H Q E h => ?_) (fun cdv A outer s H vs Q p c d hot zc fld hr h => ?_))
  · obtain ⟨dd, rfl, _⟩ := h
    rfl
  · obtain ⟨dd, rfl, hh, q⟩ := h
    have hp : p ∈ (L2H.cxH L2.CX0 P w K mg base ["_law_e", "_law_other"] "_law_is_mixed" (C8.fnScope s__law_is_mixed) f cdv A outer s H E0 p).pn := List.mem_cons_self
    refine ⟨_, (pss_cons (ps_set (i := 1) sc__law_is_mixed.nd rfl (Or.inl rfl) (pe_or (pe_callB (show CallR _ _ (rIsX K p.1 c d) from call_isX hp zc fld) (by rfl) T.n_isinstance OT.b_isinstance (pa_cons (pv 0) (pa_cons (pe_glob (v := .ref Z) (by rfl) gZ rfl) pa_nil))) (pe_one (pe_callB (show CallR _ _ (rIsX K p.1 c d) from call_isX hp zc fld) (by rfl) T.n_isinstance OT.b_isinstance (pa_cons (pv 0) (pa_cons (pe_glob (v := .ref O) (by rfl) gO rfl) pa_nil))))))
  (pss_one (ps_ret (pe_and (HP.pe_ch h__law_is_error hr (by decide) hot hp zc fld (by rfl) (pa_cons (pv 0) (pa_cons pe_str pa_nil))) (pe_and (pe_callB (show CallR _ _ (rIsX K p.1 c d) from call_isX hp zc fld) (by rfl) T.n_isinstance OT.b_isinstance (pa_cons (pv 0) (pa_cons (pe_glob (v := .ref M) (by rfl) gM rfl) pa_nil))) (pe_one (pe_not (pv 1)))))))), ?_⟩
    have k1 := er.z; have k2 := er.o; have k3 := er.m
    have lw : (errM).lookup ("word" : Str) = some (V.str "MixedDimensions") := rfl
    walk_at "st"
    refine ⟨M, dd, _, _, rfl, hh, er.t.nw, lw, er.b, er.v, ?_⟩
    walk_at "st"
    exact q
def spMixedL : Sp := fun vs H Q _ => ∃ (a : Addr) (us : List V) (ess : List (List Ent)), vs = [.ref a] ∧ H a = some (.lst us) ∧ RowsAt H us ess ∧ ess.length ≤ 100 ∧ (∀ es ∈ ess, ∃ n, 1 ≤ n ∧ n ≤ 3 ∧ DimN n es) ∧ ∀ H', Same H H' → Q (.bl (mixL ((dims ess).filter nz))) H'
theorem dimE_cons (e : Ent) (r : List Ent) : dimE (e :: r) = e.1.length := rfl
theorem c__law_mixed {f : Addr} {fd : FuncData} (D : C8.Def K mg "_law_mixed" s__law_mixed f fd) (b : Binds K fd ["_law_rows"] []) (T : Bi mg) : C8.Cal P w K mg base 1 "_law_mixed" spMixedL [] := by
  refine C8.cal0 D b .nil sc__law_mixed (fun vs H Q E h => ?_) (fun cdv A outer s H vs Q E hr h => ?_)
  · obtain ⟨a, us, ess, rfl, _⟩ := h
    rfl
  · obtain ⟨a, us, ess, rfl, ha, hR, hz, hd, q⟩ := h
    refine ⟨_, (pss_cons (ps_setLc (i := 1) (own := [("_law_row_here", 3)]) (g := (gName 3)) rfl sc__law_mixed.nd rfl rfl (sw_true rfl rfl rfl rfl) (pi_list (pv 0)) (blkOk_by (N := ["_law_rows", "_law_sizes", "_law_size", "_law_row_here"]) (sc := C8.fnScope s__law_mixed) (by decide +kernel)) (fun _ _ _ _ _ => (pg_name (i := 3) sc__law_mixed.nd rfl (Or.inl rfl))) (fun _ _ _ _ _ => (pts_one (pt_cmpR op_gt (pe_callB (show CallR _ _ (Evl.rLenS K) from call_len_seq) (by rfl) T.n_len OT.b_len (pa_cons (pv 3) pa_nil)) pe_int (nomark _)))) (fun _ _ _ _ _ => (pe_callB (show CallR _ _ (Evl.rLenS K) from call_len_seq) (by rfl) T.n_len OT.b_len (pa_cons (pe_ix (show IxR _ (rIxT K) from ix_tup) (pe_ix (show IxR _ (rIxL K) from ix_list) (pv 3) pe_int (fun _ _ => rfl)) pe_int (fun _ _ => rfl)) pa_nil))))
  (pss_cons (ps_for PassesOwn.never rfl (pi_list (pv 1)) (pg_name (i := 2) sc__law_mixed.nd rfl (Or.inl rfl)) (pss_one (ps_if (pt_cmpR op_ne (pv 2) (pe_ix ix_list (pv 1) pe_int (fun _ _ => rfl)) (nomark _)) (pss_one (ps_ret pe_bl)) pss_nil)))
  (pss_one (ps_ret pe_bl)))), ?_⟩
    have hul := hR.len
    walk_at "st"
    refine ⟨a, rfl, ⟨_, AU.sqL ha⟩, fun D1 nD1 => ?_⟩
    refine lc_list (K := K) (xs := us) (fun i F => Same H F ∧ F D1 = some (.lst (((dims (ess.take i)).filter nz).map V.int))) ⟨same_upd nD1, upd_same⟩ ?_ ?_ ?_
    · rintro i F _ ⟨sF, _⟩
      exact AU.sqL (sF _ _ ha)
    · rintro i x F hxi ⟨sF, hD⟩
      obtain ⟨r, xs, es, rfl, hes, hr0, hE⟩ := (hR.mono sF).get hxi
      have hil := (List.getElem?_eq_some_iff.mp hes).1
      have hel := hE.len
      have etk : ess.take (i + 1) = ess.take i ++ [es] := by rw [List.take_add_one, hes]; rfl
      have ed : dims (ess.take (i + 1)) = dims (ess.take i) ++ [((dimE es : Nat) : Int)] := by
        rw [etk]
        unfold dims
        rw [List.map_append]
        rfl
      have fl : (dims (ess.take i)).length ≤ 100 := by unfold dims; rw [List.length_map, List.length_take]; omega
      refine ⟨rfl, ?_⟩
      walk_at "st"
      refine iteD (fun z => ?_) (fun z => ?_)
      · obtain ⟨v0, hv0, t0, q0, rfl, ht0, hq0⟩ := hE.at (i := 0) (by omega)
        have at0 : atI xs 0 = some (.ref t0) := AU.atN (j := 0) rfl hv0
        have at1 : atI [V.ref q0, V.int (es[0]'(by omega)).2] 0 = some (.ref q0) := rfl
        have ed0 : dimE es = (es[0]'(by omega)).1.length := by
          cases es with
          | nil => exact absurd z (by rw [hel]; decide)
          | cons e r => rfl
        obtain ⟨n, n1, n3, hdn⟩ := hd es (List.mem_of_getElem? hes)
        have en := hdn _ (List.getElem_mem (show 0 < es.length by omega))
        walk_at "st"
        refine ⟨_, hD, small100k (by have := List.length_filter_le nz (dims (ess.take i)); rw [List.length_map]; omega), same_mut sF nD1, ?_⟩
        rw [upd_same, ed, List.filter_append, List.map_append, List.length_map, ← ed0]
        rw [show [((dimE es : Nat) : Int)].filter nz = [((dimE es : Nat) : Int)] from List.filter_cons_of_pos (decide_eq_true (by omega))]
        rfl
      · have h0 : es = [] := List.length_eq_zero_iff.mp (by omega)
        refine ⟨sF, ?_⟩
        rw [ed, List.filter_append, h0]
        show _ = some (HO.lst ((_ ++ [((0 : Nat) : Int)].filter nz).map V.int))
        rw [show [((0 : Nat) : Int)].filter nz = [] from rfl, List.append_nil]
        exact hD
    · rintro F ⟨sF, hD⟩
      rw [hul, List.take_length] at hD
      generalize (dims ess).filter nz = l at hD q
      walk_at "st"
      refine ⟨D1, rfl, ⟨_, AU.sqL hD⟩, ?_⟩
      refine for_list (K := K) (xs := l.map V.int) (fun i σ G => ∃ y2 : Option V, σ = [some (.ref a), some (.ref D1), y2, none] ∧ G = F ∧ ∀ x ∈ l.take i, x = l.headD 0) ⟨none, rfl, rfl, fun x h => by cases h⟩ ?_ ?_ ?_
      · rintro i σ G _ ⟨_, _, rfl, _⟩
        exact AU.sqL hD
      · rintro i x σ G hxi ⟨y2, rfl, rfl, hall⟩
        obtain ⟨d, rfl, hd2, hdm⟩ := int_at hxi
        obtain ⟨h0, r0, rfl⟩ : ∃ h r, l = h :: r := by
          cases l with
          | nil => cases hdm
          | cons h r => exact ⟨h, r, rfl⟩
        have at0 : atI ((h0 :: r0).map V.int) 0 = some (.int h0) := AU.atN (j := 0) rfl rfl
        walk_at "st"
        by_cases c : d = h0
        · subst c
          rw [decide_eq_true rfl]
          walk_at "st"
          refine ⟨_, rfl, rfl, fun x hx => ?_⟩
          rw [take_snocI hd2] at hx
          rcases List.mem_append.mp hx with hx | hx
          · exact hall x hx
          · rw [List.mem_singleton.mp hx]
            rfl
        · rw [decide_eq_false c]
          walk_at "st"
          have e : mixL (h0 :: r0) = true := by
            unfold mixL
            rw [List.any_eq_true]
            refine ⟨_, List.mem_map.mpr ⟨d, hdm, rfl⟩, ?_⟩
            rw [show (h0 :: r0).headD 0 = h0 from rfl, decide_eq_false (fun z => c (V.int.inj z))]
            rfl
          rw [e] at q
          exact q _ sF
      · rintro σ G ⟨y2, rfl, rfl, hall⟩
        rw [List.length_map, List.take_length] at hall
        walk_at "st"
        have e : mixL l = false := by
          unfold mixL
          cases hc : (l.map fun m => !decide (V.int m = V.int (l.headD 0))).any id with
          | false => rfl
          | true =>
            obtain ⟨x, hx, hx2⟩ := List.any_eq_true.mp hc
            obtain ⟨m, hm, rfl⟩ := List.mem_map.mp hx
            rw [hall m hm] at hx2
            simp at hx2
        rw [e] at q
        exact q _ sF
end

set_option Elab.async false
set_option linter.all false
set_option maxRecDepth 100000
set_option maxHeartbeats 4000000
/-- a row of n directions, at most Z entries, coordinates to C, numbers to U -/
structure SG (n Z C U : Nat) (es : List Ent) : Prop where
  v : Valid es
  d : DimN n es
  z : es.length ≤ Z
  c : ∀ e ∈ es, ∀ x ∈ e.1, x.natAbs ≤ C
  u : ∀ e ∈ es, e.2.natAbs ≤ U
theorem SG.nil {n Z C U : Nat} : SG n Z C U [] := ⟨⟨.nil, fun e h => by cases h⟩, fun e h => (by cases h), Nat.zero_le _, fun e h => (by cases h), fun e h => (by cases h)⟩
theorem SG.le {n Z C U Z2 C2 U2 : Nat} {es : List Ent} (h : SG n Z C U es) (hz : Z ≤ Z2) (hc : C ≤ C2) (hu : U ≤ U2) : SG n Z2 C2 U2 es := ⟨h.v, h.d, Nat.le_trans h.z hz, fun e he x hx => Nat.le_trans (h.c e he x hx) hc, fun e he => Nat.le_trans (h.u e he) hu⟩
/-- the row of the sums of entries -/
theorem SG.of {n Z C U : Nat} {r es : List Ent} (h : RowIs r es) (d : DimN n es) (z : es.length ≤ Z) (c : ∀ e ∈ es, ∀ x ∈ e.1, x.natAbs ≤ C) (u : ∀ e ∈ es, e.2.natAbs ≤ U) : SG n Z C (Z * U) r :=
  ⟨h.v, DimN.of h d, Nat.le_trans h.len z, fun e he x hx => by
    obtain ⟨y, hy, ey⟩ := h.mem he
    rw [← ey] at hx
    exact c y hy x hx, fun e he => Nat.le_trans (h.bound u e he) (Nat.mul_le_mul_right _ z)⟩
theorem SG.mov {n Z C U D : Nat} {es : List Ent} {l : Pl} (h : SG n Z C U es) (hl : l.length = n) (hd : ∀ x ∈ l, x.natAbs ≤ D) : SG n Z (C + D) U (movL es l) := by
  have hle : ∀ e ∈ es, e.1.length ≤ l.length := fun e he => by rw [h.d e he, hl]; exact Nat.le_refl _
  refine ⟨movL_valid h.v hle, fun e he => ?_, by unfold movL; rw [List.length_map]; exact h.z, fun e he x hx => ?_, fun e he => ?_⟩
  all_goals obtain ⟨y, hy, rfl⟩ := List.mem_map.mp he
  · show (plusP y.1 l).length = n
    rw [plusP_len (hle y hy), h.d y hy]
  · obtain ⟨a, ha, b, hb, rfl⟩ := plusP_mem hx
    have := h.c y hy a ha
    have := hd b hb
    omega
  · exact h.u y hy
/-- blocks in a row -/
def blks (k : Nat) (b : List Int) : List Int := (List.replicate k b).flatten
theorem blks_succ (k : Nat) (b : List Int) : blks (k + 1) b = blks k b ++ b := by
  unfold blks
  rw [List.replicate_succ', List.flatten_append]
  show _ ++ (b ++ []) = _
  rw [List.append_nil]
theorem blks_len (b : List Int) : ∀ k : Nat, (blks k b).length = k * b.length
  | 0 => by rw [Nat.zero_mul]; rfl
  | k + 1 => by rw [blks_succ, List.length_append, blks_len b k, Nat.succ_mul]
theorem blks_at {b : List Int} {j : Nat} (hj : j < b.length) : ∀ {k i : Nat}, i < k → (blks k b)[i * b.length + j]? = b[j]?
  | k + 1, i, hi => by
    rw [blks_succ]
    by_cases c : i < k
    · have h1 : i * b.length + j < k * b.length := by
        have := Nat.mul_le_mul_right b.length (show i + 1 ≤ k by omega)
        rw [Nat.succ_mul] at this
        omega
      rw [List.getElem?_append_left (by rw [blks_len]; exact h1)]
      exact blks_at hj c
    · obtain rfl : i = k := by omega
      rw [List.getElem?_append_right (by rw [blks_len]; omega), blks_len]
      congr 1
      omega
theorem blks_mem {b : List Int} {x : Int} {k : Nat} (h : x ∈ blks k b) : x ∈ b := by
  obtain ⟨l, hl, hx⟩ := List.mem_flatten.mp h
  rw [List.eq_of_mem_replicate hl] at hx
  exact hx
section
variable {P : Program} {w : World} {K : PySem.W.Frag} {mg : Str → Option Value} {base : Heap}
def wantSG (H : Hp) (n Z C U : Nat) (Q : VK) : Prop := ∀ es p ws H', SG n Z C U es → Same H H' → H p = none → H' p = some (.lst ws) → Ents H' ws es → Q (.ref p) H'
def spSparse : Sp := fun vs H Q _ => ∃ (c : Int) (n many R W mv : Nat), vs = [.int c, .int (n : Int), .int (many : Int), .int (R : Int), .int (W : Int), .int (mv : Int)] ∧ 1 ≤ n ∧ n ≤ 3 ∧ many ≤ 20 ∧ R ≤ 1000000000 ∧ 1 ≤ W ∧ W ≤ 1000 ∧ mv ≤ 1000 ∧ wantSG H n many (W + mv) (many * R) Q
theorem c__law_sparse {f : Addr} {fd : FuncData} (D : C8.Def K mg "_law_sparse" s__law_sparse f fd) (b : Binds K fd ["_law_cell_here", "_law_count", "_law_many", "_law_reach", "_law_wide", "_law_moves"] []) (T : Bi mg) (c__law_draws : C8.Cal P w K mg base 1 "_law_draws" (spDraws K) []) (c__law_row : C8.Cal P w K mg base 1 "_law_row" (spGather K) []) (c__law_moved : C8.Cal P w K mg base 2 "_law_moved" (spMoved K) []) : C8.Cal P w K mg base 3 "_law_sparse" spSparse [] := by
  refine C8.cal0 D b .nil sc__law_sparse (fun vs H Q E h => ?_) (fun cdv A outer s H vs Q E hr h => ?_)
  · obtain ⟨c, n, many, R, W, mv, rfl, _⟩ := h
    rfl
  · obtain ⟨c, n, many, R, W, mv, rfl, n1, n3, hm, hR, W1, W2, hmv, q⟩ := h
    refine ⟨_, (pss_cons (ps_set (i := 6) sc__law_sparse.nd rfl (Or.inl rfl) (pe_lst pa_nil))
  (pss_cons (ps_for PassesOwn.never rfl (pi_range1 rfl T.n_range (pa_cons (pv 2) pa_nil)) (pg_name (i := 7) sc__law_sparse.nd rfl (Or.inl rfl)) (pss_one (ps_set (i := 6) sc__law_sparse.nd rfl (Or.inl rfl) (pe_op op_cat (pe_op op_cat (pv 6) (pe_lst (pa_cons (pe_op op_add (pe_op op_mul pe_int (pv 3)) pe_int) pa_nil))) (pe_lc (own := [("_law_j", 12)]) (g := (gName 12)) (tt := tYes) rfl sc__law_sparse.nd (pi_range1 rfl T.n_range (pa_cons (pv 1) pa_nil)) (blkOk_by (N := ["_law_cell_here", "_law_count", "_law_many", "_law_reach", "_law_wide", "_law_moves", "_law_sizes", "_law_k", "_law_draws_here", "_law_pairs", "_law_by", "_law_at", "_law_j"]) (sc := C8.fnScope s__law_sparse) (by decide +kernel)) (fun _ _ _ _ _ => (pg_name (i := 12) sc__law_sparse.nd rfl (Or.inl rfl))) (fun _ _ _ _ _ => pts_nil) (fun _ _ _ _ _ => (pv 4)))))))
  (pss_cons (ps_set (i := 8) sc__law_sparse.nd rfl (Or.inr rfl) (C8.pe_c c__law_draws hr (by decide) (by rfl) (pa_cons (pv 0) (pa_cons (pe_op op_cat (pv 6) (pe_lc (own := [("_law_j", 12)]) (g := (gName 12)) (tt := tYes) rfl sc__law_sparse.nd (pi_range1 rfl T.n_range (pa_cons (pv 1) pa_nil)) (blkOk_by (N := ["_law_cell_here", "_law_count", "_law_many", "_law_reach", "_law_wide", "_law_moves", "_law_sizes", "_law_k", "_law_draws_here", "_law_pairs", "_law_by", "_law_at", "_law_j"]) (sc := C8.fnScope s__law_sparse) (by decide +kernel)) (fun _ _ _ _ _ => (pg_name (i := 12) sc__law_sparse.nd rfl (Or.inl rfl))) (fun _ _ _ _ _ => pts_nil) (fun _ _ _ _ _ => (pe_op op_add (pe_op op_mul pe_int (pv 5)) pe_int)))) pa_nil))))
  (pss_cons (ps_set (i := 9) sc__law_sparse.nd rfl (Or.inl rfl) (pe_lst pa_nil))
  (pss_cons (ps_for PassesOwn.never rfl (pi_range1 rfl T.n_range (pa_cons (pv 2) pa_nil)) (pg_name (i := 7) sc__law_sparse.nd rfl (Or.inl rfl)) (pss_cons (ps_set (i := 11) sc__law_sparse.nd rfl (Or.inl rfl) (pe_op op_mul (pv 7) (pe_op op_add (pv 1) pe_int)))
  (pss_one (ps_expr (pe_bm PySem.F.plainAttrs_list PySem.F.slot_list_append PySem.F.type_list_append mt_append (pv 9) (pa_cons (pe_tup (pa_cons (pe_callTy call_tuple_of (by rfl) T.n_tuple OT.b_tuple (pa_cons (pe_slice sl_list (pv 8) (po_some (pe_op op_add (pv 11) pe_int)) (po_some (pe_op op_add (pe_op op_add (pv 11) pe_int) (pv 1)))) pa_nil)) (pa_cons (pe_op op_sub (pe_ix ix_list (pv 8) (pv 11) (fun _ _ => rfl)) (pv 3)) pa_nil))) pa_nil))))))
  (pss_cons (ps_set (i := 10) sc__law_sparse.nd rfl (Or.inl rfl) (pe_callTy call_tuple_of (by rfl) T.n_tuple OT.b_tuple (pa_cons (pe_lc (own := [("_law_j", 12)]) (g := (gName 12)) (tt := tYes) rfl sc__law_sparse.nd (pi_range1 rfl T.n_range (pa_cons (pv 1) pa_nil)) (blkOk_by (N := ["_law_cell_here", "_law_count", "_law_many", "_law_reach", "_law_wide", "_law_moves", "_law_sizes", "_law_k", "_law_draws_here", "_law_pairs", "_law_by", "_law_at", "_law_j"]) (sc := C8.fnScope s__law_sparse) (by decide +kernel)) (fun _ _ _ _ _ => (pg_name (i := 12) sc__law_sparse.nd rfl (Or.inl rfl))) (fun _ _ _ _ _ => pts_nil) (fun _ _ _ _ _ => (pe_op op_sub (pe_ix (show IxR _ (rIxL K) from ix_list) (pv 8) (pe_op op_add (pe_op op_mul (pv 2) (pe_op op_add (pv 1) pe_int)) (pv 12)) (fun _ _ => rfl)) (pv 5)))) pa_nil)))
  (pss_one (ps_ret (C8.pe_c c__law_moved hr (by decide) (by rfl) (pa_cons (C8.pe_c c__law_row hr (by decide) (by rfl) (pa_cons (pv 9) pa_nil)) (pa_cons (pv 10) pa_nil))))))))))), ?_⟩
    generalize hblk : ((2 * (R : Int) + 1) :: List.replicate n (W : Int)) = blk
    have hbl : blk.length = n + 1 := by rw [← hblk, List.length_cons, List.length_replicate]
    walk_at "st"
    refine ⟨by walk_at "sz", fun p0 np0 => ?_⟩; generalize eH1 : upd _ p0 _ = H1; have s1 := AU.newS np0 eH1; have hp0 := AU.newH eH1; clear eH1
    walk_at "st"
    refine ⟨_, rfl, by omega, by omega, ?_⟩
    rw [Int.toNat_natCast]
    refine for_range (lo := 0) (n := many) (fun k σ G => ∃ (p : Addr) (y7 : Option V), σ = [some (.int c), some (.int (n : Int)), some (.int (many : Int)), some (.int (R : Int)), some (.int (W : Int)), some (.int (mv : Int)), some (.ref p), y7, none, none, none, none, none] ∧ Same H G ∧ G p = some (.lst ((blks k blk).map V.int))) ⟨p0, none, rfl, s1, hp0⟩ ?_ ?_
    · rintro k σ G hk ⟨p, y7, rfl, sG, hp⟩
      have hln := blks_len blk k
      rw [hbl] at hln
      have hln2 : (blks k blk).length ≤ 80 := by rw [hln]; exact Nat.le_trans (Nat.mul_le_mul (show k ≤ 20 by omega) (show n + 1 ≤ 4 by omega)) (by decide)
      walk_at "st"
      refine ⟨by walk_at "sz", fun p2 np2 => ?_⟩; generalize eG2 : upd _ p2 _ = G2; have s2 := AU.newS np2 eG2; have hp2 := AU.newH eG2; clear eG2
      have hpG2 := s2 _ _ hp
      walk_at "st"
      intro p3 np3; generalize eG3 : upd _ p3 _ = G3; have s3 := AU.newS np3 eG3; have hp3 := AU.newH eG3; clear eG3
      walk_at "st"
      refine ⟨_, rfl, by omega, by omega, fun D4 nD4 => ?_⟩
      rw [Int.toNat_natCast]
      refine lc_range (lo := 0) (n := n) (fun j F => Same G3 F ∧ F D4 = some (.lst ((List.replicate j (W : Int)).map V.int))) ⟨same_upd nD4, upd_same⟩ ?_ ?_
      · rintro j F hj ⟨sF, hD⟩
        refine ⟨rfl, tYes_of ?_⟩
        walk_at "st"
        refine ⟨_, hD, small100k (by rw [List.length_map, List.length_replicate]; omega), same_mut sF nD4, ?_⟩
        rw [upd_same, List.replicate_succ', List.map_append]
        rfl
      · rintro F ⟨sF, hD⟩
        have hp3F := sF _ _ hp3
        walk_at "st"
        intro p5 np5; generalize eF5 : upd _ p5 _ = F5; have s5 := AU.newS np5 eF5; have hp5 := AU.newH eF5; clear eF5
        refine ⟨p5, _, rfl, sG.trans (s2.trans (s3.trans (sF.trans s5))), ?_⟩
        rw [hp5, blks_succ, ← hblk, List.map_append, List.append_assoc]
        rfl
    · rintro σ G ⟨p, y7, rfl, sG, hp⟩
      have hln := blks_len blk many
      rw [hbl] at hln
      have hln2 : (blks many blk).length ≤ 80 := by rw [hln]; exact Nat.le_trans (Nat.mul_le_mul hm (show n + 1 ≤ 4 by omega)) (by decide)
      walk_at "st"
      refine ⟨_, rfl, by omega, by omega, fun D1 nD1 => ?_⟩
      rw [Int.toNat_natCast]
      refine lc_range (lo := 0) (n := n) (fun j F => Same G F ∧ F D1 = some (.lst ((List.replicate j (2 * (mv : Int) + 1)).map V.int))) ⟨same_upd nD1, upd_same⟩ ?_ ?_
      · rintro j F hj ⟨sF, hD⟩
        refine ⟨rfl, tYes_of ?_⟩
        walk_at "st"
        refine ⟨_, hD, small100k (by rw [List.length_map, List.length_replicate]; omega), same_mut sF nD1, ?_⟩
        rw [upd_same, List.replicate_succ', List.map_append]
        rfl
      rintro F ⟨sF, hD⟩
      have hpF := sF _ _ hp
      walk_at "st"
      intro p6 np6; generalize eH6 : upd _ p6 _ = H6; have s6 := AU.newS np6 eH6; have hp6 := AU.newH eH6; clear eH6
      rw [← List.map_append] at hp6
      generalize hzs : blks many blk ++ List.replicate n (2 * (mv : Int) + 1) = zs at hp6
      have hzl : zs.length = many * (n + 1) + n := by rw [← hzs, List.length_append, List.length_replicate, hln]
      have hzb : ∀ z ∈ zs, 0 < z ∧ z < 1000000000000000 := fun z hz => by
        rw [← hzs] at hz
        rcases List.mem_append.mp hz with h | h
        · have h := blks_mem h
          rw [← hblk] at h
          rcases List.mem_cons.mp h with rfl | h
          · omega
          · rw [List.eq_of_mem_replicate h]
            omega
        · rw [List.eq_of_mem_replicate h]
          omega
      have hz0 : ∀ k, k < many → zs[k * (n + 1)]? = some (2 * (R : Int) + 1) := fun k hk => by
        have h1 := blks_at (b := blk) (j := 0) (by omega) hk
        have h2 := (List.getElem?_eq_some_iff.mp (h1.trans (show blk[0]? = some (2 * (R : Int) + 1) by rw [← hblk]; rfl))).1
        rw [hbl, Nat.add_zero] at h1 h2
        rw [← hzs, List.getElem?_append_left h2, h1, ← hblk]
        rfl
      have hz1 : ∀ k j, k < many → j < n → zs[k * (n + 1) + 1 + j]? = some (W : Int) := fun k j hk hj => by
        have e0 : blk[1 + j]? = some (W : Int) := by
          rw [← hblk, Nat.add_comm, List.getElem?_cons_succ, List.getElem?_replicate, if_pos hj]
        have h1 := blks_at (b := blk) (j := 1 + j) (by omega) hk
        have h2 := (List.getElem?_eq_some_iff.mp (h1.trans e0)).1
        rw [hbl, ← Nat.add_assoc] at h1 h2
        rw [← hzs, List.getElem?_append_left h2, h1, e0]
      have hz2 : ∀ j, j < n → zs[many * (n + 1) + j]? = some (2 * (mv : Int) + 1) := fun j hj => by
        rw [← hzs, List.getElem?_append_right (by omega), hln, List.getElem?_replicate, if_pos (by omega)]
      have hzl2 : zs.length ≤ 1000 := by omega
      clear hzs hln hln2 hblk hbl
      walk_at "st"
      refine ⟨p6, zs, c, rfl, AU.sqL hp6, hzl2, hzb, fun ds H7 pd hin s7 npd hpd => ?_⟩
      have hdl := hin.1
      have s07 : Same H H7 := sG.trans (sF.trans (s6.trans s7))
      have dat : ∀ (i : Nat) (z : Int), zs[i]? = some z → ∃ d, ds[i]? = some d ∧ 0 ≤ d ∧ d < z := fun i z hz => by
        have hi := (List.getElem?_eq_some_iff.mp hz).1
        have e : ds[i]? = some (ds[i]'(by omega)) := List.getElem?_eq_getElem _
        exact ⟨_, e, hin.2 i _ z e hz⟩
      clear hp6 np6 hD hpF hp sG sF s6 s7
      walk_at "st"
      refine ⟨by walk_at "sz", fun p8 np8 => ?_⟩; generalize eH8 : upd _ p8 _ = H8; have s8 := AU.newS np8 eH8; have hp8 := AU.newH eH8; clear eH8
      have hpd8 := s8 _ _ hpd
      walk_at "st"
      refine ⟨_, rfl, by omega, by omega, ?_⟩
      rw [Int.toNat_natCast]
      refine for_range (lo := 0) (n := many) (fun k σ G => ∃ (pz : Addr) (y7 y11 : Option V), σ = [some (.int c), some (.int (n : Int)), some (.int (many : Int)), some (.int (R : Int)), some (.int (W : Int)), some (.int (mv : Int)), some (.ref pz), y7, some (.ref pd), some (.ref p8), none, y11, none] ∧ AU.EntsG H7 p8 (fun _ e => e.1.length = n ∧ (∀ x ∈ e.1, x.natAbs ≤ W) ∧ e.2.natAbs ≤ R) k G) ⟨p, _, none, rfl, s8, [], [], hp8, .nil, rfl, fun k e h => by simp at h⟩ ?_ ?_
      · rintro k σ G hk ⟨pz, y7, y11, rfl, sG, ws, es, hG, hE, hl, hes⟩
        have hpdG := sG _ _ hpd
        obtain ⟨d0, hd0, d01, d02⟩ := dat _ _ (hz0 k hk)
        have ek : (0 + (k : Int)) * ((n : Int) + 1) = ((k * (n + 1) : Nat) : Int) := by rw [Int.zero_add, Int.natCast_mul]; rfl
        have atd : atI (ds.map V.int) ((0 + (k : Int)) * ((n : Int) + 1)) = some (.int d0) := AU.atN ek (by rw [List.getElem?_map, hd0]; rfl)
        have hwl := hE.len
        walk_at "st"
        intro p9 np9; generalize eG9 : upd _ p9 _ = G9; have s9 := AU.newS np9 eG9; have hp9 := AU.newH eG9; clear eG9
        rw [show (0 + (k : Int)) * ((n : Int) + 1) + 1 = ((k * (n + 1) + 1 : Nat) : Int) by rw [ek]; omega, show ((k * (n + 1) + 1 : Nat) : Int) + (n : Int) = ((k * (n + 1) + 1 + n : Nat) : Int) by omega, AU.cut_mid2, ← List.map_drop, ← List.map_take] at hp9
        have hG9 := s9 _ _ hG
        have hpd9 := s9 _ _ hpdG
        walk_at "st"
        intro pa npa; generalize eGa : upd _ pa _ = Ga; have sa := AU.newS npa eGa; have hpa := AU.newH eGa; clear eGa
        have hGa := sa _ _ hG9
        have hpda := sa _ _ hpd9
        walk_at "st"
        refine ⟨by walk_at "sz", fun pb npb => ?_⟩; generalize eGb : upd _ pb _ = Gb; have sb := AU.newS npb eGb; have hpb := AU.newH eGb; clear eGb
        have hGb := sb _ _ hGa
        walk_at "st"
        have hpab := sb _ _ hpa
        generalize hPl : (ds.drop (k * (n + 1) + 1)).take n = Pp at hpab
        have hpl : Pp.length = n := by
          have := hz1 k (n - 1) hk (by omega)
          have := (List.getElem?_eq_some_iff.mp this).1
          rw [← hPl, List.length_take, List.length_drop]
          omega
        have hpc : ∀ x ∈ Pp, x.natAbs ≤ W := fun x hx => by
          obtain ⟨j, hj⟩ := List.getElem?_of_mem hx
          have hjl := (List.getElem?_eq_some_iff.mp hj).1
          rw [← hPl, List.getElem?_take, if_pos (by omega), List.getElem?_drop] at hj
          obtain ⟨d, e1, e2, e3⟩ := dat _ _ (hz1 k j hk (by omega))
          rw [e1] at hj
          cases hj
          omega
        have s9b : Same G Gb := s9.trans (sa.trans sb)
        refine ⟨_, _, _, rfl, AU.mutS (sG.trans s9b) np8, ws ++ [.ref pb], es ++ [(Pp, d0 - (R : Int))], upd_same, AU.ents_upd hGb ((hE.mono s9b).app (.cons ⟨pb, pa, rfl, hpb, hpab⟩ .nil)), by rw [List.length_append, hl]; rfl, fun i e hi => ?_⟩
        by_cases ci : i < es.length
        · rw [List.getElem?_append_left ci] at hi
          exact hes i e hi
        · have hil := (List.getElem?_eq_some_iff.mp hi).1
          rw [List.length_append, List.length_singleton] at hil
          obtain rfl : i = es.length := by omega
          rw [List.getElem?_append_right (Nat.le_refl _), Nat.sub_self] at hi
          cases hi
          exact ⟨hpl, hpc, by show (d0 - (R : Int)).natAbs ≤ R; omega⟩
      · rintro σ G ⟨pz, y7, y11, rfl, sG, ws, es, hG, hE, hl, hes⟩
        have hpdG := sG _ _ hpd
        walk_at "st"
        refine ⟨_, rfl, by omega, by omega, fun D2 nD2 => ?_⟩
        rw [Int.toNat_natCast]
        refine lc_range (lo := 0) (n := n) (AU.IntsAt G D2 fun _ z => z.natAbs ≤ mv) (AU.IntsAt.start nD2) ?_ ?_
        · rintro j F hj hP
          obtain ⟨d0, hd0, d01, d02⟩ := dat _ _ (hz2 j hj)
          have ek : (many : Int) * ((n : Int) + 1) + (0 + (j : Int)) = ((many * (n + 1) + j : Nat) : Int) := by rw [Int.zero_add, Int.natCast_add, Int.natCast_mul]; rfl
          have atd : atI (ds.map V.int) ((many : Int) * ((n : Int) + 1) + (0 + (j : Int))) = some (.int d0) := AU.atN ek (by rw [List.getElem?_map, hd0]; rfl)
          have hpdF := hP.1 _ _ hpdG
          refine ⟨rfl, tYes_of ?_⟩
          walk_at "st"
          exact hP.step nD2 (Same.refl _) (by omega) (by show (d0 - (mv : Int)).natAbs ≤ mv; omega)
        rintro F ⟨sF, by0, hby, hbl, hbp⟩
        have hGF := sF _ _ hG
        walk_at "st"
        intro pe npe; generalize eFe : upd _ pe _ = Fe; have se := AU.newS npe eFe; have hpe := AU.newH eFe; clear eFe
        have hGe := se _ _ hGF
        have hEe := hE.mono (sF.trans se)
        walk_at "st"
        have hes2 : ∀ e ∈ es, e.1.length = n ∧ (∀ x ∈ e.1, x.natAbs ≤ W) ∧ e.2.natAbs ≤ R := fun e he => by
          obtain ⟨i, hi⟩ := List.getElem?_of_mem he
          exact hes i e hi
        refine ⟨p8, ws, es, rfl, ⟨AU.sqL hGe, hEe, small100k (by omega)⟩, fun e he z => ?_, fun r pr wr Hr hr sr npr hpr hEr => ?_⟩
        · have := (hes2 e he).1
          rw [z] at this
          have : 0 = n := this
          omega
        have hr2 := SG.of (n := n) (Z := many) (C := W) (U := R) hr (fun e he => (hes2 e he).1) (by omega) (fun e he => (hes2 e he).2.1) fun e he => (hes2 e he).2.2
        have hpeR := sr _ _ hpe
        walk_at "st"
        refine ⟨pr, pe, wr, r, by0, rfl, ⟨AU.sqL hpr, hEr, small100k (by have := hr2.z; omega)⟩, AU.sqT hpeR, fun e he => by rw [hr2.d e he, hbl]; exact Nat.le_refl _, by omega, fun p9 w9 H9 s9 np9 hp9 hE9 => ?_⟩
        have sall : Same H Hr := s07.trans (sG.trans (sF.trans (se.trans sr)))
        exact q _ p9 w9 H9 (hr2.mov hbl fun x hx => by
          obtain ⟨i, hi⟩ := List.getElem?_of_mem hx
          exact hbp i x hi) (sall.trans s9) (AU.back sall np9) hp9 hE9
end

set_option Elab.async false
set_option linter.all false
set_option maxRecDepth 100000
set_option maxHeartbeats 4000000
theorem SG.lst {n Z C U : Nat} {H : Hp} {a : Addr} {xs : List V} {es : List Ent} (h : SG n Z C U es) (n1 : 1 ≤ n) (hz : Z ≤ 5000) (ha : H a = some (.lst xs)) (hE : Ents H xs es) : Lst H a xs es :=
  ⟨ha, hE, Nat.le_trans h.z hz, fun e he z => by
    have := h.d e he
    rw [z] at this
    have : 0 = n := this
    omega⟩
theorem SG.mir {n Z C U : Nat} {es m : List Ent} (h : SG n Z C U es) (hm : RowIs m (mirL es)) : SG n Z C U m := by
  have e := hm.one (mirP_is h.v h.d)
  subst e
  refine ⟨hm.v, mirP_dim h.d, by rw [mirP_len]; exact h.z, mirP_c h.c, fun e he => ?_⟩
  obtain ⟨y, hy, rfl⟩ := List.mem_map.mp he
  exact h.u y (List.mem_reverse.mp hy)
theorem SG.app {n Z C U Z2 C2 U2 : Nat} {a b r : List Ent} (h : SG n Z C U a) (k : SG n Z2 C2 U2 b) (hr : RowIs r (a ++ b)) : SG n (Z + Z2) (max C C2) ((Z + Z2) * max U U2) r := by
  refine SG.of hr (DimN.app h.d k.d) (by have := h.z; have := k.z; rw [List.length_append]; omega) (fun e he x hx => ?_) fun e he => ?_
  · rcases List.mem_append.mp he with he | he
    · exact Nat.le_trans (h.c e he x hx) (Nat.le_max_left _ _)
    · exact Nat.le_trans (k.c e he x hx) (Nat.le_max_right _ _)
  · rcases List.mem_append.mp he with he | he
    · exact Nat.le_trans (h.u e he) (Nat.le_max_left _ _)
    · exact Nat.le_trans (k.u e he) (Nat.le_max_right _ _)
theorem SG.scale {n Z C U F : Nat} {f : Int} {es r : List Ent} (h : SG n Z C U es) (hf : f.natAbs ≤ F) (hr : RowIs r (scaleL es f)) : SG n Z C (Z * (U * F)) r := by
  refine SG.of hr (fun e he => ?_) (by unfold scaleL; rw [List.length_map]; exact h.z) (fun e he x hx => ?_) fun e he => ?_
  all_goals obtain ⟨y, hy, rfl⟩ := List.mem_map.mp he
  · exact h.d y hy
  · exact h.c y hy x hx
  · show (y.2 * f).natAbs ≤ _
    rw [Int.natAbs_mul]
    exact Nat.mul_le_mul (h.u y hy) hf
section
variable {P : Program} {w : World} {K : PySem.W.Frag} {mg : Str → Option Value} {base : Heap}
def spTurned (K : PySem.W.Frag) : Sp := fun vs H Q _ => ∃ (a b : Addr) (s : Int) (xs : List V) (es : List Ent) (l : Pl) (n Z C U D : Nat), vs = [.ref a, .int s, .ref b] ∧ H a = some (.lst xs) ∧ Ents H xs es ∧ SG n Z C U es ∧ 1 ≤ n ∧ n ≤ 3 ∧ Z ≤ 100 ∧ SqT K H b (l.map V.int) ∧ l.length = n ∧ (∀ x ∈ l, x.natAbs ≤ D) ∧ s.natAbs ≤ 1 ∧ wantSG H n (2 * Z) (C + D) (2 * Z * (U + Z * U)) Q
theorem c__law_turned {f : Addr} {fd : FuncData} (D : C8.Def K mg "_law_turned" s__law_turned f fd) (b : Binds K fd ["_law_row_here", "_law_sign", "_law_by"] []) (T : Bi mg) (c__law_add : C8.Cal P w K mg base 2 "_law_add" spAdd []) (c__law_scaled : C8.Cal P w K mg base 2 "_law_scaled" spScaled []) (c__law_moved : C8.Cal P w K mg base 2 "_law_moved" (spMoved K) []) (c__law_mirror : C8.Cal P w K mg base 2 "_law_mirror" spMir []) : C8.Cal P w K mg base 3 "_law_turned" (spTurned K) [] := by
  refine C8.cal0 D b .nil sc__law_turned (fun vs H Q E h => ?_) (fun cdv A outer s H vs Q E hr h => ?_)
  · obtain ⟨a, b, s, xs, es, l, n, Z, C, U, D, rfl, _⟩ := h
    rfl
  · obtain ⟨a, b, s, xs, es, l, n, Z, C, U, D, rfl, ha, hE, g, n1, n3, hZ, hb, hl, hlD, hs, q⟩ := h
    refine ⟨_, (pss_one (ps_ret (C8.pe_c c__law_add hr (by decide) (by rfl) (pa_cons (pv 0) (pa_cons (C8.pe_c c__law_scaled hr (by decide) (by rfl) (pa_cons (C8.pe_c c__law_moved hr (by decide) (by rfl) (pa_cons (C8.pe_c c__law_mirror hr (by decide) (by rfl) (pa_cons (pv 0) pa_nil)) (pa_cons (pv 2) pa_nil))) (pa_cons (pv 1) pa_nil))) pa_nil))))), ?_⟩
    have hz := g.z
    walk_at "st"
    refine ⟨a, xs, es, rfl, (g.lst n1 (by omega) ha hE).m, fun e he => by rw [g.d e he]; omega, fun m p1 w1 H1 hm s1 np1 hp1 hE1 => ?_⟩
    have gm := g.mir hm
    have hb1 := AU.sqTS s1 hb
    walk_at "st"
    refine ⟨p1, b, w1, m, l, rfl, ⟨AU.sqL hp1, hE1, small100k (by have := gm.z; omega)⟩, hb1, fun e he => by rw [gm.d e he, hl]; exact Nat.le_refl _, by omega, fun p2 w2 H2 s2 np2 hp2 hE2 => ?_⟩
    have gv := gm.mov hl hlD
    walk_at "st"
    refine ⟨p2, w2, _, s, rfl, gv.lst n1 (by omega) hp2 hE2, by have : (2 : Int) ^ 64 = 18446744073709551616 := (by decide); omega, fun r p3 w3 H3 hr3 s3 np3 hp3 hE3 => ?_⟩
    have gs := gv.scale hs hr3
    have s13 := s1.trans (s2.trans s3)
    refine ⟨a, p3, xs, w3, es, r, rfl, g.lst n1 (by omega) (s13 _ _ ha) (hE.mono s13), gs.lst n1 (by omega) hp3 hE3, fun r2 p4 w4 H4 hr4 s4 np4 hp4 hE4 => ?_⟩
    have gf := g.app gs hr4
    have s14 := s13.trans s4
    exact q r2 p4 w4 H4 (gf.le (by omega) (by omega) (by
      rw [Nat.mul_one, ← Nat.two_mul]
      exact Nat.mul_le_mul_left _ (by omega))) s14 (AU.back s13 np4) hp4 hE4
def spFar : Sp := fun vs H Q _ => ∃ (c : Int) (n : Nat), vs = [.int c, .int (n : Int)] ∧ 1 ≤ n ∧ n ≤ 3 ∧ ∀ (l : Pl) p H', l.length = n → (∀ x ∈ l, x.natAbs ≤ 900) → Same H H' → H' p = some (.tup (l.map V.int)) → Q (.ref p) H'
theorem c__law_far {f : Addr} {fd : FuncData} (D : C8.Def K mg "_law_far" s__law_far f fd) (b : Binds K fd ["_law_cell_here", "_law_count"] []) (T : Bi mg) (c__law_draws : C8.Cal P w K mg base 1 "_law_draws" (spDraws K) []) : C8.Cal P w K mg base 2 "_law_far" spFar [] := by
  refine C8.cal0 D b .nil sc__law_far (fun vs H Q E h => ?_) (fun cdv A outer s H vs Q E hr h => ?_)
  · obtain ⟨c, n, rfl, _⟩ := h
    rfl
  · obtain ⟨c, n, rfl, n1, n3, q⟩ := h
    refine ⟨_, (pss_cons (ps_set (i := 2) sc__law_far.nd rfl (Or.inl rfl) (C8.pe_c c__law_draws hr (by decide) (by rfl) (pa_cons (pv 0) (pa_cons (pe_op op_cat (pe_lst (pa_cons pe_int pa_nil)) (pe_lc (own := [("_law_k", 4)]) (g := (gName 4)) (tt := tYes) rfl sc__law_far.nd (pi_range1 rfl T.n_range (pa_cons (pv 1) pa_nil)) (blkOk_by (N := ["_law_cell_here", "_law_count", "_law_draws_here", "_law_x", "_law_k"]) (sc := C8.fnScope s__law_far) (by decide +kernel)) (fun _ _ _ _ _ => (pg_name (i := 4) sc__law_far.nd rfl (Or.inl rfl))) (fun _ _ _ _ _ => pts_nil) (fun _ _ _ _ _ => pe_int))) pa_nil))))
  (pss_cons (ps_if (pt_cmpR op_gt (pe_ix ix_list (pv 2) pe_int (fun _ _ => rfl)) pe_int (nomark _)) (pss_one (ps_ret (pe_callTy call_tuple_of (by rfl) T.n_tuple OT.b_tuple (pa_cons (pe_lc (own := [("_law_k", 4)]) (g := (gName 4)) (tt := tYes) rfl sc__law_far.nd (pi_range1 rfl T.n_range (pa_cons (pv 1) pa_nil)) (blkOk_by (N := ["_law_cell_here", "_law_count", "_law_draws_here", "_law_x", "_law_k"]) (sc := C8.fnScope s__law_far) (by decide +kernel)) (fun _ _ _ _ _ => (pg_name (i := 4) sc__law_far.nd rfl (Or.inl rfl))) (fun _ _ _ _ _ => pts_nil) (fun _ _ _ _ _ => pe_int)) pa_nil)))) pss_nil)
  (pss_one (ps_ret (pe_callTy call_tuple_of (by rfl) T.n_tuple OT.b_tuple (pa_cons (pe_lc (own := [("_law_x", 3)]) (g := (gName 3)) (tt := tYes) rfl sc__law_far.nd (pi_list (pe_slice sl_list (pv 2) (po_some pe_int) po_none)) (blkOk_by (N := ["_law_cell_here", "_law_count", "_law_draws_here", "_law_x", "_law_k"]) (sc := C8.fnScope s__law_far) (by decide +kernel)) (fun _ _ _ _ _ => (pg_name (i := 3) sc__law_far.nd rfl (Or.inl rfl))) (fun _ _ _ _ _ => pts_nil) (fun _ _ _ _ _ => (pe_op op_sub (pv 3) pe_int))) pa_nil)))))), ?_⟩
    walk_at "st"
    refine ⟨by walk_at "sz", fun p0 np0 => ?_⟩; generalize eH1 : upd _ p0 _ = H1; have s1 := AU.newS np0 eH1; have hp0 := AU.newH eH1; clear eH1
    walk_at "st"
    refine ⟨_, rfl, by omega, by omega, fun D1 nD1 => ?_⟩
    rw [Int.toNat_natCast]
    refine lc_range (lo := 0) (n := n) (fun j F => Same H1 F ∧ F D1 = some (.lst ((List.replicate j (1801 : Int)).map V.int))) ⟨same_upd nD1, upd_same⟩ ?_ ?_
    · rintro j F hj ⟨sF, hD⟩
      refine ⟨rfl, tYes_of ?_⟩
      walk_at "st"
      refine ⟨_, hD, small100k (by rw [List.length_map, List.length_replicate]; omega), same_mut sF nD1, ?_⟩
      rw [upd_same, List.replicate_succ', List.map_append]
      rfl
    rintro F ⟨sF, hD⟩
    have hpF := sF _ _ hp0
    walk_at "st"
    intro p2 np2; generalize eH2 : upd _ p2 _ = H2; have s2 := AU.newS np2 eH2; have hp2 := AU.newH eH2; clear eH2
    have hz : H2 p2 = some (.lst (((8 : Int) :: List.replicate n 1801).map V.int)) := hp2
    walk_at "st"
    refine ⟨p2, _, c, rfl, AU.sqL hz, by rw [List.length_cons, List.length_replicate]; omega, fun z hz => ?_, fun ds H3 pd hin s3 npd hpd => ?_⟩
    · rcases List.mem_cons.mp hz with rfl | h
      · decide
      · rw [List.eq_of_mem_replicate h]
        decide
    have hdl := hin.1
    rw [List.length_cons, List.length_replicate] at hdl
    obtain ⟨d0, dr, rfl⟩ : ∃ d r, ds = d :: r := by
      cases ds with
      | nil => cases hdl
      | cons d r => exact ⟨d, r, rfl⟩
    have hdr : dr.length = n := Nat.succ.inj hdl
    have hdb : ∀ x ∈ dr, 0 ≤ x ∧ x < 1801 := fun x hx => by
      obtain ⟨i, hi⟩ := List.getElem?_of_mem hx
      have hil := (List.getElem?_eq_some_iff.mp hi).1
      exact hin.2 (i + 1) x 1801 hi (by rw [List.getElem?_cons_succ, List.getElem?_replicate, if_pos (by omega)])
    have at0 : atI ((d0 :: dr).map V.int) 0 = some (.int d0) := AU.atN (j := 0) rfl rfl
    have sall : Same H H3 := s1.trans (sF.trans (s2.trans s3))
    walk_at "st"
    refine iteD (fun z => ?_) (fun z => ?_)
    · walk_at "st"
      refine ⟨_, rfl, by omega, by omega, fun D4 nD4 => ?_⟩
      rw [Int.toNat_natCast]
      refine lc_range (lo := 0) (n := n) (AU.IntsAt H3 D4 fun _ z => z.natAbs ≤ 900) (AU.IntsAt.start nD4) ?_ ?_
      · rintro j G hj hP
        refine ⟨rfl, tYes_of ?_⟩
        walk_at "st"
        exact hP.step nD4 (Same.refl _) (by omega) (by decide)
      rintro G ⟨sG, zs, hzs, hzl, hzp⟩
      walk_at "st"
      intro p5 np5; generalize eG5 : upd _ p5 _ = G5; have s5 := AU.newS np5 eG5; have hp5 := AU.newH eG5; clear eG5
      exact q zs p5 G5 hzl (fun x hx => by
        obtain ⟨i, hi⟩ := List.getElem?_of_mem hx
        exact hzp i x hi) (sall.trans (sG.trans s5)) hp5
    · walk_at "st"
      intro p4 np4
      rw [show (some (1 : Int)) = some ((1 : Nat) : Int) from rfl, AU.cut_drop2, show List.drop 1 ((d0 :: dr).map V.int) = dr.map V.int from rfl]
      have s4 : Same H3 (upd H3 p4 (.lst (dr.map V.int))) := same_upd np4
      have hp4 : (upd H3 p4 (.lst (dr.map V.int))) p4 = some (.lst (dr.map V.int)) := upd_same
      generalize upd H3 p4 (.lst (dr.map V.int)) = G4 at s4 hp4 ⊢
      refine ⟨p4, rfl, ⟨_, AU.sqL hp4⟩, fun D5 nD5 => ?_⟩
      refine lc_list (K := K) (xs := dr.map V.int) (AU.IntsAt G4 D5 fun _ z => z.natAbs ≤ 900) (AU.IntsAt.start nD5) ?_ ?_ ?_
      · rintro j G _ hP
        exact AU.sqL (hP.1 _ _ hp4)
      · rintro j x G hxj hP
        obtain ⟨d, rfl, hd, hdm⟩ := int_at hxj
        obtain ⟨d1, d2⟩ := hdb d hdm
        have hjl := (List.getElem?_eq_some_iff.mp hd).1
        refine ⟨rfl, tYes_of ?_⟩
        walk_at "st"
        exact hP.step nD5 (Same.refl _) (by omega) (by omega)
      rintro G ⟨sG, zs, hzs, hzl, hzp⟩
      rw [List.length_map, hdr] at hzl
      walk_at "st"
      intro p6 np6; generalize eG6 : upd _ p6 _ = G6; have s6 := AU.newS np6 eG6; have hp6 := AU.newH eG6; clear eG6
      exact q zs p6 G6 hzl (fun x hx => by
        obtain ⟨i, hi⟩ := List.getElem?_of_mem hx
        exact hzp i x hi) (sall.trans (s4.trans (sG.trans s6))) hp6
def spChg : Sp := fun vs H Q _ => ∃ (a : Addr) (i : Int) (xs : List V) (es : List Ent) (n Z C U : Nat), vs = [.ref a, .int i] ∧ H a = some (.lst xs) ∧ Ents H xs es ∧ SG n Z C U es ∧ 1 ≤ n ∧ Z ≤ 100 ∧ wantSG H n (Z + 1) C ((Z + 1) * (U + 1)) Q
theorem c__law_changed {f : Addr} {fd : FuncData} (D : C8.Def K mg "_law_changed" s__law_changed f fd) (b : Binds K fd ["_law_row_here", "_law_at"] []) (T : Bi mg) (c__law_add : C8.Cal P w K mg base 2 "_law_add" spAdd []) : C8.Cal P w K mg base 3 "_law_changed" spChg [] := by
  refine C8.cal0 D b .nil sc__law_changed (fun vs H Q E h => ?_) (fun cdv A outer s H vs Q E hr h => ?_)
  · obtain ⟨a, i, xs, es, n, Z, C, U, rfl, _⟩ := h
    rfl
  · obtain ⟨a, i, xs, es, n, Z, C, U, rfl, ha, hE, g, n1, hZ, q⟩ := h
    refine ⟨_, (pss_cons (ps_if (pt_cmpR op_eq (pe_callB call_len_seq (by rfl) T.n_len OT.b_len (pa_cons (pv 0) pa_nil)) pe_int (nomark _)) (pss_one (ps_ret (pe_lst pa_nil))) pss_nil)
  (pss_one (ps_ret (C8.pe_c c__law_add hr (by decide) (by rfl) (pa_cons (pv 0) (pa_cons (pe_lst (pa_cons (pe_tup (pa_cons (pe_ix ix_tup (pe_ix ix_list (pv 0) (pe_op op_mod (pe_callTy call_int1 (by rfl) T.n_int OT.b_int (pa_cons (pv 1) pa_nil)) (pe_callB call_len_seq (by rfl) T.n_len OT.b_len (pa_cons (pv 0) pa_nil))) (fun _ _ => rfl)) pe_int (fun _ _ => rfl)) (pa_cons pe_int pa_nil))) pa_nil)) pa_nil)))))), ?_⟩
    have hx := hE.len
    have hz := g.z
    walk_at "st"
    rw [hx]
    by_cases c : es.length = 0
    · rw [decide_eq_true (by omega)]
      walk_at "st"
      refine ⟨by walk_at "sz", fun p1 np1 => ?_⟩; generalize eH1 : upd _ p1 _ = H1; have s1 := AU.newS np1 eH1; have hp1 := AU.newH eH1; clear eH1
      exact q [] p1 [] H1 SG.nil s1 np1 hp1 .nil
    · rw [decide_eq_false (by omega)]
      have m0 := Int.emod_nonneg i (show (es.length : Int) ≠ 0 by omega)
      have m1 := Int.emod_lt_of_pos i (show 0 < (es.length : Int) by omega)
      obtain ⟨j, hj⟩ := Int.eq_ofNat_of_zero_le m0
      obtain ⟨v0, hv0, t0, q0, rfl, ht0, hq0⟩ := hE.at (i := j) (by omega)
      have at0 : atI xs (i % (xs.length : Int)) = some (.ref t0) := AU.atN (by rw [hx]; exact hj) hv0
      have at1 : atI [V.ref q0, V.int (es[j]'(by omega)).2] 0 = some (.ref q0) := rfl
      walk_at "st"
      refine ⟨by walk_at "sz", fun p1 np1 => ?_⟩; generalize eH1 : upd _ p1 _ = H1; have s1 := AU.newS np1 eH1; have hp1 := AU.newH eH1; clear eH1
      walk_at "st"
      refine ⟨by walk_at "sz", fun p2 np2 => ?_⟩; generalize eH2 : upd _ p2 _ = H2; have s2 := AU.newS np2 eH2; have hp2 := AU.newH eH2; clear eH2
      have hp1' := s2 _ _ hp1
      have s12 := s1.trans s2
      have hem := List.getElem_mem (show j < es.length by omega)
      have g2 : SG n 1 C 1 [((es[j]'(by omega)).1, 1)] := ⟨⟨List.pairwise_singleton _ _, fun e he => by rw [List.mem_singleton.mp he]; exact (by decide : (1 : Int) ≠ 0)⟩, fun e he => by rw [List.mem_singleton.mp he]; exact g.d (es[j]'(by omega)) hem, Nat.le_refl _, fun e he x hx => by rw [List.mem_singleton.mp he] at hx; exact g.c _ hem x hx, fun e he => by rw [List.mem_singleton.mp he]; exact (by decide : (1 : Int).natAbs ≤ 1)⟩
      refine ⟨a, p2, xs, _, es, [((es[j]'(by omega)).1, 1)], rfl, g.lst n1 (by omega) (s12 _ _ ha) (hE.mono s12), g2.lst n1 (by decide) hp2 (.cons ⟨p1, q0, rfl, hp1', s12 _ _ hq0⟩ .nil), fun r p3 w3 H3 hr s3 np3 hp3 hE3 => ?_⟩
      have gf := g.app g2 hr
      exact q r p3 w3 H3 (gf.le (Nat.le_refl _) (by omega) (Nat.mul_le_mul_left _ (by omega))) (s12.trans s3) (AU.back s12 np3) hp3 hE3
end

set_option Elab.async false
set_option linter.all false
set_option maxRecDepth 100000
set_option maxHeartbeats 4000000
theorem RowsAt.app2 {H : Hp} {us vs : List V} {ess fss : List (List Ent)} (h : RowsAt H us ess) (k : RowsAt H vs fss) : RowsAt H (us ++ vs) (ess ++ fss) := by
  induction h with
  | nil => exact k
  | cons h1 h2 _ ih => exact .cons h1 h2 ih
theorem RowsAt.set2 {H : Hp} {us : List V} {ess : List (List Ent)} {a : Addr} {xs : List V} {es : List Ent} (h : RowsAt H us ess) (ha : H a = some (.lst xs)) (hE : Ents H xs es) : ∀ k, RowsAt H (us.set k (.ref a)) (ess.set k es) := by
  induction h with
  | nil => intro k; exact .nil
  | cons h1 h2 h3 ih =>
    intro k
    match k with
    | 0 => exact .cons ha hE h3
    | k + 1 => exact .cons h1 h2 (ih k)
theorem RowsAt.upd2 {H : Hp} {us : List V} {ess : List (List Ent)} {D : Addr} {l l' : List V} (h : RowsAt H us ess) (hD : H D = some (.lst l)) (hn : V.ref D ∉ us) : RowsAt (upd H D (.lst l')) us ess := by
  induction h with
  | nil => exact .nil
  | cons h1 h2 h3 ih =>
    rename_i a xs es us' ess'
    refine .cons ?_ (h2.updL hD) (ih fun z => hn (List.mem_cons_of_mem _ z))
    rw [upd_ne (fun z => hn (by rw [← z]; exact List.mem_cons_self))]
    exact h1
def rListOf (K : PySem.W.Frag) : List V → Hp → VK → Prop := fun xs H Q => ∃ p ys, xs = [.ref p] ∧ (SqL K H p ys ∨ SqT K H p ys) ∧ ∀ l, H l = none → Q (.ref l) (upd H l (.lst ys))
theorem pick3 (x y z : Int) {k : Int} (h0 : 0 ≤ k) (h3 : k < 3) : ∃ v, atI [V.int x, V.int y, V.int z] k = some (.int v) ∧ (v = x ∨ v = y ∨ v = z) := by
  rcases (show k = 0 ∨ k = 1 ∨ k = 2 by omega) with rfl | rfl | rfl
  · exact ⟨x, AU.atN (j := 0) rfl rfl, .inl rfl⟩
  · exact ⟨y, AU.atN (j := 1) rfl rfl, .inr (.inl rfl)⟩
  · exact ⟨z, AU.atN (j := 2) rfl rfl, .inr (.inr rfl)⟩
/-- the rows of the script: n directions, small -/
abbrev S3 (n : Nat) (es : List Ent) : Prop := SG n 35 100 10000000000000 es
abbrev S2 (n : Nat) (es : List Ent) : Prop := SG n 34 100 100000000000 es
/-- three rows in a list of their own -/
structure R3 (H0 H : Hp) (p : Addr) (us : List V) (ess : List (List Ent)) : Prop where
  s : Same H0 H
  np : H0 p = none
  hp : H p = some (.lst us)
  r : RowsAt H us ess
  pn : V.ref p ∉ us
theorem R3.set {H0 H G : Hp} {p q : Addr} {us : List V} {ess : List (List Ent)} {xs : List V} {es : List Ent} (h : R3 H0 H p us ess) (s : Same H G) (nq : q ≠ p) (hq : G q = some (.lst xs)) (hE : Ents G xs es) (j : Nat) : R3 H0 (upd G p (.lst (us.set j (.ref q)))) p (us.set j (.ref q)) (ess.set j es) := by
  have hpG := s _ _ h.hp
  have hn : V.ref p ∉ us.set j (.ref q) := fun z => by
    rcases List.mem_or_eq_of_mem_set z with z | z
    · exact h.pn z
    · exact nq (V.ref.inj z).symm
  refine ⟨same_mut (h.s.trans s) h.np, h.np, upd_same, ?_, hn⟩
  exact ((h.r.mono s).set2 hq hE j).upd2 hpG hn
theorem R3.mono {H0 H G : Hp} {p : Addr} {us : List V} {ess : List (List Ent)} (h : R3 H0 H p us ess) (s : Same H G) : R3 H0 G p us ess := ⟨h.s.trans s, h.np, s _ _ h.hp, h.r.mono s, h.pn⟩
theorem R3.ne {H0 H : Hp} {p q : Addr} {us : List V} {ess : List (List Ent)} (h : R3 H0 H p us ess) (nq : H q = none) : q ≠ p := fun e => by
  rw [e, h.hp] at nq
  cases nq
theorem R3.base {H0 H1 G : Hp} {p : Addr} {us : List V} {ess : List (List Ent)} (s : Same H0 H1) (h : R3 H1 G p us ess) : R3 H0 G p us ess := ⟨s.trans h.s, AU.back s h.np, h.hp, h.r, h.pn⟩
theorem R3.start {H0 : Hp} {D : Addr} (nD : H0 D = none) : R3 H0 (upd H0 D (.lst [])) D [] [] := ⟨same_upd nD, nD, upd_same, .nil, fun h => by cases h⟩
theorem R3.push {H0 H G : Hp} {p q : Addr} {us : List V} {ess : List (List Ent)} {xs : List V} {es : List Ent} (h : R3 H0 H p us ess) (s : Same H G) (nq : q ≠ p) (hq : G q = some (.lst xs)) (hE : Ents G xs es) : R3 H0 (upd G p (.lst (us ++ [.ref q]))) p (us ++ [.ref q]) (ess ++ [es]) := by
  have hpG := s _ _ h.hp
  have hn : V.ref p ∉ us ++ [.ref q] := fun z => by
    rcases List.mem_append.mp z with z | z
    · exact h.pn z
    · exact nq (V.ref.inj (List.mem_singleton.mp z)).symm
  exact ⟨same_mut (h.s.trans s) h.np, h.np, upd_same, ((h.r.mono s).snoc hq hE).upd2 hpG hn, hn⟩
theorem SG.times {n Z C U Z2 C2 U2 : Nat} {a b r : List Ent} (h : SG n Z C U a) (k : SG n Z2 C2 U2 b) (hr : RowIs r (timesL a b)) : SG n (Z * Z2) (C + C2) (Z * Z2 * (U * U2)) r := by
  refine SG.of hr (DimN.times h.d k.d) (by rw [timesL_len]; exact Nat.mul_le_mul h.z k.z) (fun e he x hx => ?_) fun e he => ?_
  all_goals obtain ⟨y, hy, g, hg, rfl⟩ := timesL_mem he
  · obtain ⟨u, hu, v, hv, rfl⟩ := plusP_mem hx
    have := h.c y hy u hu
    have := k.c g hg v hv
    omega
  · show (y.2 * g.2).natAbs ≤ _
    rw [Int.natAbs_mul]
    exact Nat.mul_le_mul (h.u y hy) (k.u g hg)
theorem SG.sr {n Z C U : Nat} {es : List Ent} (h : SG n Z C U es) (hz : Z ≤ 40) (hc : C ≤ 2000) (hu : U ≤ 2 ^ 60) : SR n es := ⟨h.v, h.d, Nat.le_trans h.z hz, fun e he x hx => Nat.le_trans (h.c e he x hx) hc, fun e he => Nat.le_trans (h.u e he) hu⟩
theorem set_all {ess : List (List Ent)} {P : List Ent → Prop} {es : List Ent} (h : ∀ x ∈ ess, P x) (he : P es) (j : Nat) : ∀ x ∈ ess.set j es, P x := fun x hx => by
  rcases List.mem_or_eq_of_mem_set hx with hx | rfl
  · exact h x hx
  · exact he
section
variable {P : Program} {w : World} {K : PySem.W.Frag} {mg : Str → Option Value} {base : Heap}
def spThree (K : PySem.W.Frag) : Sp := fun vs H Q _ => ∃ (a b : Addr) (ns : List Int) (k0 k1 k2 k3 k4 k5 k6 : Int), vs = [.ref a, .ref b] ∧ SqL K H a (ns.map V.int) ∧ H b = some (.lst [.int k0, .int k1, .int k2, .int k3, .int k4, .int k5, .int k6]) ∧ (0 ≤ k0 ∧ k0 < 3) ∧ (0 ≤ k1 ∧ k1 < 9) ∧ (0 ≤ k2 ∧ k2 < 2) ∧ (0 ≤ k3 ∧ k3 < 8) ∧ (0 ≤ k4 ∧ k4 < 3) ∧ (0 ≤ k5 ∧ k5 < 3) ∧ (0 ≤ k6 ∧ k6 < 12) ∧
  ∀ p us ess H', ess.length = 3 → (∀ es ∈ ess, ∃ n, 1 ≤ n ∧ n ≤ 3 ∧ SR n es) → Same H H' → H' p = some (.lst us) → RowsAt H' us ess → Q (.ref p) H'
theorem c__law_three {f : Addr} {fd : FuncData} (D : C8.Def K mg "_law_three" s__law_three f fd) (b : Binds K fd ["_law_script", "_law_kinds"] []) (T : Bi mg) (c__law_cell : C8.Cal P w K mg base 1 "_law_cell" (spCell K) []) (c__law_draws : C8.Cal P w K mg base 1 "_law_draws" (spDraws K) []) (c__law_sparse : C8.Cal P w K mg base 3 "_law_sparse" spSparse []) (c__law_add : C8.Cal P w K mg base 2 "_law_add" spAdd []) (c__law_times : C8.Cal P w K mg base 2 "_law_times" (spTimes K) []) (c__law_turned : C8.Cal P w K mg base 3 "_law_turned" (spTurned K) []) (c__law_changed : C8.Cal P w K mg base 3 "_law_changed" spChg []) (c__law_far : C8.Cal P w K mg base 2 "_law_far" spFar []) (c__law_moved : C8.Cal P w K mg base 2 "_law_moved" (spMoved K) []) : C8.Cal P w K mg base 4 "_law_three" (spThree K) [] := by
  refine C8.cal0 D b .nil sc__law_three (fun vs H Q E h => ?_) (fun cdv A outer s H vs Q E hr h => ?_)
  · obtain ⟨a, b, ns, k0, k1, k2, k3, k4, k5, k6, rfl, _⟩ := h
    rfl
  · obtain ⟨a, b, ns, k0, k1, k2, k3, k4, k5, k6, rfl, ha, hb, h0, h1, h2, h3, h4, h5, h6, q⟩ := h
    refine ⟨_, (pss_cons (ps_set (i := 2) sc__law_three.nd rfl (Or.inl rfl) (pe_op op_add (pe_ix ix_list (pv 1) pe_int (fun _ _ => rfl)) pe_int))
  (pss_cons (ps_set (i := 3) sc__law_three.nd rfl (Or.inl rfl) (pe_lst (pa_cons pe_int (pa_cons pe_int (pa_cons (pe_ix ix_list (pe_lst (pa_cons pe_int (pa_cons pe_int (pa_cons pe_int pa_nil)))) (pe_ix ix_list (pv 1) pe_int (fun _ _ => rfl)) (fun _ _ => rfl)) (pa_cons (pe_ix ix_list (pe_lst (pa_cons pe_int (pa_cons pe_int (pa_cons pe_int pa_nil)))) (pe_ix ix_list (pv 1) pe_int (fun _ _ => rfl)) (fun _ _ => rfl)) pa_nil))))))
  (C8.pss_cut (ps_if (pt_cmpR op_eq (pe_ix ix_list (pv 1) pe_int (fun _ _ => rfl)) pe_int (nomark _)) (pss_one (ps_set (i := 3) sc__law_three.nd rfl (Or.inl rfl) (pe_lst (pa_cons pe_int (pa_cons pe_int (pa_cons (pe_ix ix_list (pe_lst (pa_cons pe_int (pa_cons pe_int (pa_cons pe_int pa_nil)))) (pe_ix ix_list (pv 1) pe_int (fun _ _ => rfl)) (fun _ _ => rfl)) (pa_cons (pe_ix ix_list (pe_lst (pa_cons pe_int (pa_cons pe_int (pa_cons pe_int pa_nil)))) (pe_ix ix_list (pv 1) pe_int (fun _ _ => rfl)) (fun _ _ => rfl)) pa_nil))))))) pss_nil)
  (pss_cons (ps_set (i := 4) sc__law_three.nd rfl (Or.inl rfl) (pe_ix ix_list (pe_lst (pa_cons pe_int (pa_cons pe_int (pa_cons pe_int pa_nil)))) (pe_ix ix_list (pv 1) pe_int (fun _ _ => rfl)) (fun _ _ => rfl)))
  (pss_cons (ps_set (i := 5) sc__law_three.nd rfl (Or.inl rfl) pe_int)
  (C8.pss_cut (ps_if (pt_cmpR op_eq (pe_ix ix_list (pv 1) pe_int (fun _ _ => rfl)) pe_int (nomark _)) (pss_one (ps_set (i := 5) sc__law_three.nd rfl (Or.inl rfl) (pe_op op_pow pe_int pe_int))) pss_nil)
  (pss_cons (ps_set (i := 6) sc__law_three.nd rfl (Or.inl rfl) (C8.pe_c c__law_sparse hr (by decide) (by rfl) (pa_cons (C8.pe_c c__law_cell hr (by decide) (by rfl) (pa_cons (pv 0) (pa_cons pe_int pa_nil))) (pa_cons (pv 2) (pa_cons (pe_ix ix_list (pv 3) pe_int (fun _ _ => rfl)) (pa_cons (pv 5) (pa_cons (pe_ix ix_list (pv 3) pe_int (fun _ _ => rfl)) (pa_cons (pe_ix ix_list (pe_lst (pa_cons pe_int (pa_cons pe_int (pa_cons pe_int pa_nil)))) (pe_ix ix_list (pv 1) pe_int (fun _ _ => rfl)) (fun _ _ => rfl)) pa_nil))))))))
  (pss_cons (ps_set (i := 7) sc__law_three.nd rfl (Or.inl rfl) (C8.pe_c c__law_sparse hr (by decide) (by rfl) (pa_cons (C8.pe_c c__law_cell hr (by decide) (by rfl) (pa_cons (pv 0) (pa_cons pe_int pa_nil))) (pa_cons (pv 2) (pa_cons pe_int (pa_cons pe_int (pa_cons (pe_ix ix_list (pv 3) pe_int (fun _ _ => rfl)) (pa_cons (pv 4) pa_nil))))))))
  (pss_cons (ps_set (i := 8) sc__law_three.nd rfl (Or.inl rfl) (pe_callTy call_tuple_of (by rfl) T.n_tuple OT.b_tuple (pa_cons (pe_lc (own := [("_law_x", 17)]) (g := (gName 17)) (tt := tYes) rfl sc__law_three.nd (pi_list (C8.pe_c c__law_draws hr (by decide) (by rfl) (pa_cons (C8.pe_c c__law_cell hr (by decide) (by rfl) (pa_cons (pv 0) (pa_cons pe_int pa_nil))) (pa_cons (pe_lc (own := [("_law_j", 18)]) (g := (gName 18)) (tt := tYes) rfl sc__law_three.nd (pi_range1 rfl T.n_range (pa_cons (pv 2) pa_nil)) (blkOk_by (N := ["_law_script", "_law_kinds", "_law_count", "_law_sizes", "_law_moves", "_law_reach", "_law_start", "_law_factor", "_law_by", "_law_first", "_law_second", "_law_sign", "_law_other", "_law_rows", "_law_far_here", "_law_k", "_law_row_here", "_law_x", "_law_j"]) (sc := C8.fnScope s__law_three) (by decide +kernel)) (fun _ _ _ _ _ => (pg_name (i := 18) sc__law_three.nd rfl (Or.inl rfl))) (fun _ _ _ _ _ => pts_nil) (fun _ _ _ _ _ => pe_int)) pa_nil)))) (blkOk_by (N := ["_law_script", "_law_kinds", "_law_count", "_law_sizes", "_law_moves", "_law_reach", "_law_start", "_law_factor", "_law_by", "_law_first", "_law_second", "_law_sign", "_law_other", "_law_rows", "_law_far_here", "_law_k", "_law_row_here", "_law_x", "_law_j"]) (sc := C8.fnScope s__law_three) (by decide +kernel)) (fun _ _ _ _ _ => (pg_name (i := 17) sc__law_three.nd rfl (Or.inl rfl))) (fun _ _ _ _ _ => pts_nil) (fun _ _ _ _ _ => (pe_op op_sub (pv 17) pe_int))) pa_nil)))
  (pss_cons (ps_set (i := 9) sc__law_three.nd rfl (Or.inl rfl) (C8.pe_c c__law_sparse hr (by decide) (by rfl) (pa_cons (C8.pe_c c__law_cell hr (by decide) (by rfl) (pa_cons (pv 0) (pa_cons pe_int pa_nil))) (pa_cons (pv 2) (pa_cons (pe_ix ix_list (pv 3) pe_int (fun _ _ => rfl)) (pa_cons pe_int (pa_cons (pe_ix ix_list (pv 3) pe_int (fun _ _ => rfl)) (pa_cons (pv 4) pa_nil))))))))
  (pss_cons (ps_set (i := 10) sc__law_three.nd rfl (Or.inl rfl) (C8.pe_c c__law_sparse hr (by decide) (by rfl) (pa_cons (C8.pe_c c__law_cell hr (by decide) (by rfl) (pa_cons (pv 0) (pa_cons pe_int pa_nil))) (pa_cons (pv 2) (pa_cons (pe_ix ix_list (pv 3) pe_int (fun _ _ => rfl)) (pa_cons pe_int (pa_cons (pe_ix ix_list (pv 3) pe_int (fun _ _ => rfl)) (pa_cons (pv 4) pa_nil))))))))
  (pss_cons (ps_set (i := 11) sc__law_three.nd rfl (Or.inl rfl) (pe_op op_sub pe_int (pe_op op_mul pe_int (pe_ix ix_list (pv 1) pe_int (fun _ _ => rfl)))))
  (pss_cons (ps_set (i := 12) sc__law_three.nd rfl (Or.inl rfl) (pv 11))
  (C8.pss_cut (ps_if (pt_cmpR op_eq (pe_ix ix_list (pv 1) pe_int (fun _ _ => rfl)) pe_int (nomark _)) (pss_one (ps_set (i := 12) sc__law_three.nd rfl (Or.inl rfl) (pe_un un_neg (pv 11)))) pss_nil)
  (pss_cons (ps_set (i := 13) sc__law_three.nd rfl (Or.inr rfl) (pe_lst (pa_cons (pv 6) (pa_cons (C8.pe_c c__law_add hr (by decide) (by rfl) (pa_cons (pv 6) (pa_cons (C8.pe_c c__law_times hr (by decide) (by rfl) (pa_cons (pv 7) (pa_cons (C8.pe_c c__law_turned hr (by decide) (by rfl) (pa_cons (pv 9) (pa_cons (pv 11) (pa_cons (pv 8) pa_nil)))) pa_nil))) pa_nil))) pa_nil))))
  (pss_cons (ps_expr (pe_bm PySem.F.plainAttrs_list PySem.F.slot_list_append PySem.F.type_list_append mt_append (pv 13) (pa_cons (C8.pe_c c__law_add hr (by decide) (by rfl) (pa_cons (pv 6) (pa_cons (C8.pe_c c__law_times hr (by decide) (by rfl) (pa_cons (pv 7) (pa_cons (C8.pe_c c__law_turned hr (by decide) (by rfl) (pa_cons (pv 10) (pa_cons (pv 12) (pa_cons (pv 8) pa_nil)))) pa_nil))) pa_nil))) pa_nil)))
  (C8.pss_cut (ps_if (PW.pt (pw_or (pt_cmpR op_eq (pe_ix ix_list (pv 1) pe_int (fun _ _ => rfl)) pe_int (nomark _)) (pw_or1 (pt_cmpR op_eq (pe_ix ix_list (pv 1) pe_int (fun _ _ => rfl)) pe_int (nomark _))))) (pss_cons (ps_set (i := 13) sc__law_three.nd rfl (Or.inr rfl) (pe_lst (pa_cons (pv 6) pa_nil)))
  (pss_one (ps_for PassesOwn.never rfl (pi_range1 rfl T.n_range (pa_cons pe_int pa_nil)) (pg_name (i := 15) sc__law_three.nd rfl (Or.inl rfl)) (pss_one (ps_expr (pe_bm PySem.F.plainAttrs_list PySem.F.slot_list_append PySem.F.type_list_append mt_append (pv 13) (pa_cons (C8.pe_c c__law_sparse hr (by decide) (by rfl) (pa_cons (C8.pe_c c__law_cell hr (by decide) (by rfl) (pa_cons (pv 0) (pa_cons (pe_op op_add pe_int (pv 15)) pa_nil))) (pa_cons (pv 2) (pa_cons (pe_ix ix_list (pv 3) pe_int (fun _ _ => rfl)) (pa_cons (pv 5) (pa_cons (pe_ix ix_list (pv 3) pe_int (fun _ _ => rfl)) (pa_cons (pe_ix ix_list (pe_lst (pa_cons pe_int (pa_cons pe_int (pa_cons pe_int pa_nil)))) (pe_ix ix_list (pv 1) pe_int (fun _ _ => rfl)) (fun _ _ => rfl)) pa_nil))))))) pa_nil))))))) pss_nil)
  (C8.pss_cut (ps_if (pt_cmpR op_eq (pe_ix ix_list (pv 1) pe_int (fun _ _ => rfl)) pe_int (nomark _)) (pss_one (ps_asg (C8.pe_c c__law_changed hr (by decide) (by rfl) (pa_cons (pe_ix ix_list (pv 13) (pe_ix ix_list (pv 1) pe_int (fun _ _ => rfl)) (fun _ _ => rfl)) (pa_cons (pe_ix ix_list (pv 1) pe_int (fun _ _ => rfl)) pa_nil))) (pg_sub (pv 13) (pe_ix ix_list (pv 1) pe_int (fun _ _ => rfl)) set_list))) pss_nil)
  (C8.pss_cut (ps_if (pt_cmpR op_eq (pe_ix ix_list (pv 1) pe_int (fun _ _ => rfl)) pe_int (nomark _)) (pss_one (ps_asg (pe_callTy call_list_of (by rfl) T.n_list OT.b_list (pa_cons (pe_ix ix_list (pv 13) (pe_op op_mod (pe_callTy call_int1 (by rfl) T.n_int OT.b_int (pa_cons (pe_op op_add (pe_op op_add (pe_ix ix_list (pv 1) pe_int (fun _ _ => rfl)) pe_int) (pe_ix ix_list (pv 1) pe_int (fun _ _ => rfl))) pa_nil)) pe_int) (fun _ _ => rfl)) pa_nil)) (pg_sub (pv 13) (pe_ix ix_list (pv 1) pe_int (fun _ _ => rfl)) set_list))) pss_nil)
  (C8.pss_cut (ps_if (pt_cmpR op_eq (pe_ix ix_list (pv 1) pe_int (fun _ _ => rfl)) pe_int (nomark _)) (pss_one (ps_set (i := 13) sc__law_three.nd rfl (Or.inr rfl) (pe_lc (own := [("_law_k", 15)]) (g := (gName 15)) (tt := tYes) rfl sc__law_three.nd (pi_range1 rfl T.n_range (pa_cons pe_int pa_nil)) (blkOk_by (N := ["_law_script", "_law_kinds", "_law_count", "_law_sizes", "_law_moves", "_law_reach", "_law_start", "_law_factor", "_law_by", "_law_first", "_law_second", "_law_sign", "_law_other", "_law_rows", "_law_far_here", "_law_k", "_law_row_here", "_law_x", "_law_j"]) (sc := C8.fnScope s__law_three) (by decide +kernel)) (fun _ _ _ _ _ => (pg_name (i := 15) sc__law_three.nd rfl (Or.inl rfl))) (fun _ _ _ _ _ => pts_nil) (fun _ _ _ _ _ => (pe_callTy (show CallR _ _ (rListOf K) from call_list_of) (by rfl) T.n_list OT.b_list (pa_cons (pe_ix (show IxR _ (rIxL K) from ix_list) (pv 13) (pe_ix (show IxR _ (rIxL K) from ix_list) (pv 1) pe_int (fun _ _ => rfl)) (fun _ _ => rfl)) pa_nil)))))) pss_nil)
  (pss_cons (ps_set (i := 14) sc__law_three.nd rfl (Or.inr rfl) (C8.pe_c c__law_far hr (by decide) (by rfl) (pa_cons (C8.pe_c c__law_cell hr (by decide) (by rfl) (pa_cons (pv 0) (pa_cons pe_int pa_nil))) (pa_cons (pv 2) pa_nil))))
  (pss_cons (ps_set (i := 13) sc__law_three.nd rfl (Or.inr rfl) (pe_lc (own := [("_law_row_here", 16)]) (g := (gName 16)) (tt := tYes) rfl sc__law_three.nd (pi_list (pv 13)) (blkOk_by (N := ["_law_script", "_law_kinds", "_law_count", "_law_sizes", "_law_moves", "_law_reach", "_law_start", "_law_factor", "_law_by", "_law_first", "_law_second", "_law_sign", "_law_other", "_law_rows", "_law_far_here", "_law_k", "_law_row_here", "_law_x", "_law_j"]) (sc := C8.fnScope s__law_three) (by decide +kernel)) (fun _ _ _ _ _ => (pg_name (i := 16) sc__law_three.nd rfl (Or.inl rfl))) (fun _ _ _ _ _ => pts_nil) (fun _ _ _ _ _ => (C8.pe_c c__law_moved hr (by decide) (by rfl) (pa_cons (pv 16) (pa_cons (pv 14) pa_nil))))))
  (C8.pss_cut (ps_if (pt_cmpR op_eq (pe_ix ix_list (pv 1) pe_int (fun _ _ => rfl)) pe_int (nomark _)) (pss_cons (ps_asg (C8.pe_c c__law_sparse hr (by decide) (by rfl) (pa_cons (C8.pe_c c__law_cell hr (by decide) (by rfl) (pa_cons (pv 0) (pa_cons pe_int pa_nil))) (pa_cons (pe_op op_add pe_int (pe_op op_mod (pe_callTy call_int1 (by rfl) T.n_int OT.b_int (pa_cons (pe_op op_add (pv 2) (pe_ix ix_list (pv 1) pe_int (fun _ _ => rfl))) pa_nil)) pe_int)) (pa_cons pe_int (pa_cons pe_int (pa_cons pe_int (pa_cons pe_int pa_nil))))))) (pg_sub (pv 13) (pe_ix ix_list (pv 1) pe_int (fun _ _ => rfl)) set_list))
  (C8.pss_cut (ps_if (pt_cmpR op_gt (pe_ix ix_list (pv 1) pe_int (fun _ _ => rfl)) pe_int (nomark _)) (pss_one (ps_asg (pe_lst pa_nil) (pg_sub (pv 13) (pe_op op_mod (pe_callTy call_int1 (by rfl) T.n_int OT.b_int (pa_cons (pe_op op_add (pe_ix ix_list (pv 1) pe_int (fun _ _ => rfl)) pe_int) pa_nil)) pe_int) set_list))) pss_nil)
  (pss_one (ps_if (pt_cmpR op_gt (pe_ix ix_list (pv 1) pe_int (fun _ _ => rfl)) pe_int (nomark _)) (pss_one (ps_asg (pe_lst pa_nil) (pg_sub (pv 13) (pe_op op_mod (pe_callTy call_int1 (by rfl) T.n_int OT.b_int (pa_cons (pe_op op_add (pe_ix ix_list (pv 1) pe_int (fun _ _ => rfl)) pe_int) pa_nil)) pe_int) set_list))) pss_nil)))) pss_nil)
  (pss_one (ps_ret (pv 13)))))))))))))))))))))))))), ?_⟩
    obtain ⟨n, hn⟩ := Int.eq_ofNat_of_zero_le h0.1
    obtain ⟨g2, at2, hg2⟩ := pick3 4 3 2 h0.1 h0.2
    obtain ⟨g3, at3, hg3⟩ := pick3 3 2 2 h0.1 h0.2
    obtain ⟨l2, al2, hl2⟩ := pick3 20 5 2 h0.1 h0.2
    obtain ⟨l3, al3, hl3⟩ := pick3 12 3 2 h0.1 h0.2
    obtain ⟨mv, amv, hmv⟩ := pick3 2 1 0 h0.1 h0.2
    obtain ⟨md, amd, hmd⟩ := pick3 4 2 1 h0.1 h0.2
    walk_at "st"
    refine ⟨by walk_at "sz", fun p1 np1 => ?_⟩; generalize eH1 : upd _ p1 _ = H1; have s1 := AU.newS np1 eH1; have hp1 := AU.newH eH1; clear eH1
    have hb1 := s1 _ _ hb
    walk_at "st"
    refine ⟨by walk_at "sz", fun p2 np2 => ?_⟩; generalize eH2 : upd _ p2 _ = H2; have s2 := AU.newS np2 eH2; have hp2 := AU.newH eH2; clear eH2
    have hb2 := s2 _ _ hb1
    walk_at "st"
    refine ⟨by walk_at "sz", fun p3 np3 => ?_⟩; generalize eH3 : upd _ p3 _ = H3; have s3 := AU.newS np3 eH3; have hp3 := AU.newH eH3; clear eH3
    have hb3 := s3 _ _ hb2
    have ha3 := (s1.trans (s2.trans s3)).seq ha
    have s03 := s1.trans (s2.trans s3)
    have ecount : k0 + 1 = ((n + 1 : Nat) : Int) := by omega
    rw [ecount]
    clear hp1 hp2
    walk_at "st"
    refine ⟨fun σ' H' => ∃ (ps : Addr) (z0 z1 z2 z3 : Nat), σ' = [some (.ref a), some (.ref b), some (.int ((n + 1 : Nat) : Int)), some (.ref ps), none, none, none, none, none, none, none, none, none, none, none, none, none, none, none] ∧ Same H3 H' ∧ H' ps = some (.lst [.int (z0 : Int), .int (z1 : Int), .int (z2 : Int), .int (z3 : Int)]) ∧ z0 ≤ 10 ∧ z1 ≤ 6 ∧ 1 ≤ z2 ∧ z2 ≤ 20 ∧ 1 ≤ z3 ∧ z3 ≤ 12, ?_, ?_⟩
    · walk_at "st"
      by_cases c : k3 = 2
      · rw [decide_eq_true c]
        walk_at "st"
        refine ⟨by walk_at "sz", fun p4 np4 => ?_⟩; generalize eH4 : upd _ p4 _ = H4; have s4 := AU.newS np4 eH4; have hp4 := AU.newH eH4; clear eH4
        have hb4 := s4 _ _ hb3
        walk_at "st"
        refine ⟨by walk_at "sz", fun p5 np5 => ?_⟩; generalize eH5 : upd _ p5 _ = H5; have s5 := AU.newS np5 eH5; have hp5 := AU.newH eH5; clear eH5
        have hb5 := s5 _ _ hb4
        walk_at "st"
        refine ⟨by walk_at "sz", fun p6 np6 => ?_⟩; generalize eH6 : upd _ p6 _ = H6; have s6 := AU.newS np6 eH6; have hp6 := AU.newH eH6; clear eH6
        obtain ⟨z2, rfl⟩ := Int.eq_ofNat_of_zero_le (show 0 ≤ l2 by omega)
        obtain ⟨z3, rfl⟩ := Int.eq_ofNat_of_zero_le (show 0 ≤ l3 by omega)
        walk_at "st"
        exact ⟨p6, 10, 6, z2, z3, rfl, s4.trans (s5.trans s6), hp6, by omega, by omega, by omega, by omega, by omega, by omega⟩
      · rw [decide_eq_false c]
        obtain ⟨z2, rfl⟩ := Int.eq_ofNat_of_zero_le (show 0 ≤ g2 by omega)
        obtain ⟨z3, rfl⟩ := Int.eq_ofNat_of_zero_le (show 0 ≤ g3 by omega)
        walk_at "st"
        exact ⟨p3, 3, 2, z2, z3, rfl, Same.refl _, hp3, by omega, by omega, by omega, by omega, by omega, by omega⟩
    clear at2 at3 al2 al3 hg2 hg3 hl2 hl3 g2 g3 l2 l3 hp3
    rintro σ' H4 ⟨ps, z0, z1, z2, z3, rfl, s4, hps, b0, b1, b2, b2', b3, b3'⟩
    have hb4 := s4 _ _ hb3
    have ha4 := s4.seq ha3
    have s04 := s03.trans s4
    clear hb3 ha3 s03 s4 hb2 hb1 s1 s2 s3
    obtain ⟨mvn, rfl⟩ := Int.eq_ofNat_of_zero_le (show 0 ≤ mv by omega)
    obtain ⟨mdn, rfl⟩ := Int.eq_ofNat_of_zero_le (show 0 ≤ md by omega)
    walk_at "st"
    refine ⟨by walk_at "sz", fun p5 np5 => ?_⟩; generalize eH5 : upd _ p5 _ = H5; have s5 := AU.newS np5 eH5; have hp5 := AU.newH eH5; clear eH5
    have hb5 := s5 _ _ hb4
    have ha5 := s5.seq ha4
    have hps5 := s5 _ _ hps
    walk_at "st"
    refine ⟨fun σ' H' => ∃ R : Nat, σ' = [some (.ref a), some (.ref b), some (.int ((n + 1 : Nat) : Int)), some (.ref ps), some (.int (mvn : Int)), some (.int (R : Int)), none, none, none, none, none, none, none, none, none, none, none, none, none] ∧ H' = H5 ∧ R ≤ 100000000, ?_, ?_⟩
    · walk_at "st"
      by_cases c : k3 = 0
      · rw [decide_eq_true c]
        walk_at "st"
        refine AU.i_ (by exact ⟨by decide, by decide, by decide⟩) ?_
        walk_at "st"
        exact ⟨100000000, rfl, rfl, Nat.le_refl _⟩
      · rw [decide_eq_false c]
        walk_at "st"
        exact ⟨3, rfl, rfl, by decide⟩
    rintro σ' _ ⟨R, rfl, rfl, hR⟩
    have sA := s04.trans s5
    clear s04 s5 hb4 ha4 hps
    have n1 : 1 ≤ n + 1 := by omega
    have n3 : n + 1 ≤ 3 := by omega
    walk_at "st"
    refine ⟨a, ns, 1, rfl, ha5, by decide, fun c1 => ?_⟩
    walk_at "st"
    refine ⟨by walk_at "sz", fun p6 np6 => ?_⟩; generalize eH6 : upd _ p6 _ = H6; have s6 := AU.newS np6 eH6; have hp6 := AU.newH eH6; clear eH6
    walk_at "st"
    refine ⟨c1, n + 1, z0, R, z2, mdn, rfl, n1, n3, by omega, by omega, b2, by omega, by omega, fun e1 q1 w1 H7 g1 s7 nq1 hq1 hE1 => ?_⟩
    have sB := s6.trans s7
    have haB := sB.seq ha5
    have hbB := sB _ _ hb5
    have hpsB := sB _ _ hps5
    have g1 := g1.le (Z2 := 10) (C2 := 24) (U2 := 1000000000) b0 (by omega) (by
      have := Nat.mul_le_mul b0 hR
      omega)
    walk_at "st"
    refine ⟨a, ns, 2, rfl, haB, by decide, fun c2 => ?_⟩
    walk_at "st"
    refine ⟨c2, n + 1, 2, 3, z3, mvn, rfl, n1, n3, by omega, by omega, b3, by omega, by omega, fun e2 q2 w2 H8 g2 s8 nq2 hq2 hE2 => ?_⟩
    have g2 := g2.le (Z2 := 2) (C2 := 14) (U2 := 6) (Nat.le_refl _) (by omega) (by omega)
    have haC := s8.seq haB
    have hbC := s8 _ _ hbB
    have hpsC := s8 _ _ hpsB
    have sC := sB.trans s8
    clear haB hbB hpsB
    walk_at "st"
    refine ⟨a, ns, 3, rfl, haC, by decide, fun c3 => ?_⟩
    walk_at "st"
    refine ⟨_, rfl, by omega, by omega, fun D1 nD1 => ?_⟩
    rw [Int.toNat_natCast]
    refine lc_range (lo := 0) (n := n + 1) (fun j F => Same H8 F ∧ F D1 = some (.lst ((List.replicate j (3 : Int)).map V.int))) ⟨same_upd nD1, upd_same⟩ ?_ ?_
    · rintro j F hj ⟨sF, hD⟩
      refine ⟨rfl, tYes_of ?_⟩
      walk_at "st"
      refine ⟨_, hD, small100k (by rw [List.length_map, List.length_replicate]; omega), same_mut sF nD1, ?_⟩
      rw [upd_same, List.replicate_succ', List.map_append]
      rfl
    rintro F ⟨sF, hD⟩
    walk_at "st"
    refine ⟨D1, _, c3, rfl, AU.sqL hD, by rw [List.length_replicate]; omega, fun z hz => by rw [List.eq_of_mem_replicate hz]; decide, fun ds H9 pd hin s9 npd hpd => ?_⟩
    have hdl : ds.length = n + 1 := by rw [hin.1, List.length_replicate]
    refine ⟨pd, rfl, ⟨_, AU.sqL hpd⟩, fun D2 nD2 => ?_⟩
    refine lc_list (K := K) (xs := ds.map V.int) (AU.IntsAt H9 D2 fun _ z => z.natAbs ≤ 1) (AU.IntsAt.start nD2) ?_ ?_ ?_
    · rintro j G _ hP
      exact AU.sqL (hP.1 _ _ hpd)
    · rintro j x G hxj hP
      obtain ⟨d, rfl, hd, hdm⟩ := int_at hxj
      have hjl := (List.getElem?_eq_some_iff.mp hd).1
      obtain ⟨d1, d2⟩ := hin.2 j d 3 hd (by rw [List.getElem?_replicate, if_pos (by omega)])
      refine ⟨rfl, tYes_of ?_⟩
      walk_at "st"
      exact hP.step nD2 (Same.refl _) (by omega) (by omega)
    rintro G ⟨sG, by0, hby, hbyl, hbyp⟩
    rw [List.length_map, hdl] at hbyl
    walk_at "st"
    intro pb npb; generalize eG2 : upd _ pb _ = G2; have sb := AU.newS npb eG2; have hpb := AU.newH eG2; clear eG2
    have sD : Same H8 G2 := sF.trans (s9.trans (sG.trans sb))
    have haD := sD.seq haC
    have hbD := sD _ _ hbC
    have hpsD := sD _ _ hpsC
    have hq1D := (s8.trans sD) _ _ hq1
    have hE1D := hE1.mono (s8.trans sD)
    have hq2D := sD _ _ hq2
    have hE2D := hE2.mono sD
    have sDD := sA.trans (sC.trans sD)
    have hby2 : ∀ x ∈ by0, x.natAbs ≤ 1 := fun x hx => by
      obtain ⟨i, hi⟩ := List.getElem?_of_mem hx
      exact hbyp i x hi
    clear haC hbC hpsC hD hpd hby hq1 hq2 hE1 hE2 sF s9 sG sb s8 s7 s6 hbyp hin hdl
    walk_at "st"
    refine ⟨a, ns, 4, rfl, haD, by decide, fun c4 => ?_⟩
    walk_at "st"
    refine ⟨c4, n + 1, z1, 3, z3, mvn, rfl, n1, n3, by omega, by omega, b3, by omega, by omega, fun e3 q3 w3 H10 g3 s10 nq3 hq3 hE3 => ?_⟩
    have g3 := g3.le (Z2 := 6) (C2 := 14) (U2 := 18) b1 (by omega) (by omega)
    have haE := s10.seq haD
    have hpsE := s10 _ _ hpsD
    walk_at "st"
    refine ⟨a, ns, 5, rfl, haE, by decide, fun c5 => ?_⟩
    walk_at "st"
    refine ⟨c5, n + 1, z1, 3, z3, mvn, rfl, n1, n3, by omega, by omega, b3, by omega, by omega, fun e4 q4 w4 H11 g4 s11 nq4 hq4 hE4 => ?_⟩
    have g4 := g4.le (Z2 := 6) (C2 := 14) (U2 := 18) b1 (by omega) (by omega)
    have sE := s10.trans s11
    have haF := sE.seq haD
    have hbF := sE _ _ hbD
    have hpsF := sE _ _ hpsD
    have hq3F := s11 _ _ hq3
    have hE3F := hE3.mono s11
    have hq1F := sE _ _ hq1D
    have hE1F := hE1D.mono sE
    have hq2F := sE _ _ hq2D
    have hE2F := hE2D.mono sE
    have hpbF : SqT K H11 pb (by0.map V.int) := AU.sqT (sE _ _ hpb)
    have sFF := sDD.trans sE
    clear haD hbD hpsD haE hpsE hq3 hE3 hq1D hE1D hq2D hE2D hpb
    walk_at "st"
    refine ⟨fun σ' H' => ∃ oth : Int, σ' = [some (.ref a), some (.ref b), some (.int ((n + 1 : Nat) : Int)), some (.ref ps), some (.int (mvn : Int)), some (.int (R : Int)), some (.ref q1), some (.ref q2), some (.ref pb), some (.ref q3), some (.ref q4), some (.int (1 - 2 * k2)), some (.int oth), none, none, none, none, none, none] ∧ H' = H11 ∧ oth.natAbs ≤ 1, ?_, ?_⟩
    · walk_at "st"
      by_cases c : k1 = 5
      · rw [decide_eq_true c]
        walk_at "st"
        exact ⟨_, rfl, rfl, by omega⟩
      · rw [decide_eq_false c]
        walk_at "st"
        exact ⟨_, rfl, rfl, by omega⟩
    rintro σ' H11b ⟨oth, rfl, e11, hoth⟩
    have e11 := e11.symm
    subst e11
    have num64 : ∀ {m Z C U : Nat} {es : List Ent}, SG m Z C U es → U ≤ 10000000000000 → ∀ e ∈ es, -(2 ^ 64) < e.2 ∧ e.2 < 2 ^ 64 := fun {m Z C U es} g hU e he => by
      have := g.u e he
      have e64 : (2 : Int) ^ 64 = 18446744073709551616 := by decide
      omega
    walk_at "st"
    refine ⟨q3, pb, 1 - 2 * k2, w3, e3, by0, n + 1, 6, 14, 18, 1, rfl, hq3F, hE3F, g3, n1, n3, by decide, hpbF, hbyl, hby2, by omega, fun et pt wt H12 gt s12 npt hpt hEt => ?_⟩
    walk_at "st"
    have l2 := g2.z
    have lt := gt.z
    refine ⟨q2, pt, w2, wt, e2, et, rfl, AU.sqL (s12 _ _ hq2F), AU.sqL hpt, hE2F.mono s12, hEt, Nat.le_trans (Nat.mul_le_mul l2 lt) (by decide), fun e he g hg => by rw [g2.d e he, gt.d g hg], fun e he => ⟨fun z => by have := g2.d e he; rw [z] at this; have : 0 = n + 1 := this; omega, by rw [g2.d e he]; omega⟩, num64 gt (by decide), fun x px wx H13 hx s13 npx hpx hEx => ?_⟩
    have gx := g2.times gt hx
    have s23 := s12.trans s13
    walk_at "st"
    refine ⟨q1, px, w1, wx, e1, x, rfl, g1.lst n1 (by decide) (s23 _ _ hq1F) (hE1F.mono s23), gx.lst n1 (by decide) hpx hEx, fun r pr wr H14 hr14 s14 npr hpr hEr => ?_⟩
    have gr := g1.app gx hr14
    have s24 := s23.trans s14
    walk_at "st"
    refine ⟨by walk_at "sz", fun p15 np15 => ?_⟩; generalize eH15 : upd _ p15 _ = H15; have s15 := AU.newS np15 eH15; have hp15 := AU.newH eH15; clear eH15
    have s25 := s24.trans s15
    have np15b := AU.back s24 np15
    have R0 : R3 H11 H15 p15 [.ref q1, .ref pr] [e1, r] := ⟨s25, np15b, hp15, .cons (s25 _ _ hq1F) (hE1F.mono s25) (.cons (s15 _ _ hpr) (hEr.mono s15) .nil), fun z => by
      simp only [List.mem_cons, List.not_mem_nil, or_false] at z
      rcases z with z | z
      · cases z
        rw [hq1F] at np15b
        cases np15b
      · cases z
        rw [hpr] at np15
        cases np15⟩
    walk_at "st"
    refine ⟨q4, pb, oth, w4, e4, by0, n + 1, 6, 14, 18, 1, rfl, s25 _ _ hq4, hE4.mono s25, g4, n1, n3, by decide, AU.sqTS s25 hpbF, hbyl, hby2, hoth, fun et2 pt2 wt2 H16 gt2 s16 npt2 hpt2 hEt2 => ?_⟩
    have s26 := s25.trans s16
    walk_at "st"
    have lt2 := gt2.z
    refine ⟨q2, pt2, w2, wt2, e2, et2, rfl, AU.sqL (s26 _ _ hq2F), AU.sqL hpt2, hE2F.mono s26, hEt2, Nat.le_trans (Nat.mul_le_mul l2 lt2) (by decide), fun e he g hg => by rw [g2.d e he, gt2.d g hg], fun e he => ⟨fun z => by have := g2.d e he; rw [z] at this; have : 0 = n + 1 := this; omega, by rw [g2.d e he]; omega⟩, num64 gt2 (by decide), fun x2 px2 wx2 H17 hx2 s17 npx2 hpx2 hEx2 => ?_⟩
    have gx2 := g2.times gt2 hx2
    have s27 := s26.trans s17
    walk_at "st"
    refine ⟨q1, px2, w1, wx2, e1, x2, rfl, g1.lst n1 (by decide) (s27 _ _ hq1F) (hE1F.mono s27), gx2.lst n1 (by decide) hpx2 hEx2, fun r2 pr2 wr2 H18 hr18 s18 npr2 hpr2 hEr2 => ?_⟩
    have gr2 := g1.app gx2 hr18
    have s58 := s16.trans (s17.trans s18)
    have R1 := R0.push s58 ((R0.mono (s16.trans s17)).ne npr2) hpr2 hEr2
    have hp18 := s58 _ _ hp15
    walk_at "st"
    have hS : ∀ es ∈ [e1, r] ++ [r2], S2 (n + 1) es := fun es he => by
      simp only [List.mem_append, List.mem_cons, List.not_mem_nil, or_false] at he
      rcases he with (rfl | rfl) | rfl
      · exact g1.le (by decide) (by decide) (by decide)
      · exact gr.le (by decide) (by decide) (by decide)
      · exact gr2.le (by decide) (by decide) (by decide)
    generalize hH19 : upd H18 p15 (.lst ([V.ref q1, V.ref pr] ++ [V.ref pr2])) = H19 at R1 ⊢
    generalize hus : ([V.ref q1, V.ref pr] ++ [V.ref pr2]) = us0 at R1
    generalize hess : [e1, r] ++ [r2] = ess0 at R1 hS
    have hl3 : ess0.length = 3 := by rw [← hess]; rfl
    clear hess hus hH19 R0 hp18 hr18 hx2 hx hr14 gr gr2 gx gx2 gt gt2 hEr2 hpr2 hEx2 hpx2 hEt2 hpt2 hEr hpr hEx hpx hEt hpt s58 s27 s26 s25 s24 s23 hq2F hE2F hq3F hE3F hq4 hE4 hpbF hby2 hbyl g2 g3 g4
    refine ⟨fun σ' H' => ∃ (p : Addr) (us : List V) (ess : List (List Ent)) (y15 : Option V), σ' = [some (.ref a), some (.ref b), some (.int ((n + 1 : Nat) : Int)), some (.ref ps), some (.int (mvn : Int)), some (.int (R : Int)), some (.ref q1), some (.ref q2), some (.ref pb), some (.ref q3), some (.ref q4), some (.int (1 - 2 * k2)), some (.int oth), some (.ref p), none, y15, none, none, none] ∧ R3 H11 H' p us ess ∧ ess.length = 3 ∧ ∀ es ∈ ess, S2 (n + 1) es, ?_, ?_⟩
    · have hb19 := R1.s _ _ hbF
      walk_at "st"
      rcases (show k1 = 0 ∨ (k1 ≠ 0 ∧ k1 = 8) ∨ (k1 ≠ 0 ∧ k1 ≠ 8) by omega) with c | ⟨c, c8⟩ | ⟨c, c8⟩
      · rw [decide_eq_true c]
        walk_at "st"
        refine ⟨by walk_at "sz", fun p20 np20 => ?_⟩; generalize eH20 : upd _ p20 _ = H20; have s20 := AU.newS np20 eH20; have hp20 := AU.newH eH20; clear eH20
        have s120 := R1.s.trans s20
        have np20b := AU.back R1.s np20
        have R2 : R3 H11 H20 p20 [.ref q1] [e1] := ⟨s120, np20b, hp20, .cons (s120 _ _ hq1F) (hE1F.mono s120) .nil, fun z => by
          cases List.mem_singleton.mp z
          rw [hq1F] at np20b
          cases np20b⟩
        walk_at "st"
        refine ⟨_, rfl, by decide, by decide, ?_⟩
        rw [show (2 : Int).toNat = 2 from rfl]
        refine for_range (lo := 0) (n := 2) (fun k σ G => ∃ (us : List V) (ess : List (List Ent)) (y15 : Option V), σ = [some (.ref a), some (.ref b), some (.int ((n + 1 : Nat) : Int)), some (.ref ps), some (.int (mvn : Int)), some (.int (R : Int)), some (.ref q1), some (.ref q2), some (.ref pb), some (.ref q3), some (.ref q4), some (.int (1 - 2 * k2)), some (.int oth), some (.ref p20), none, y15, none, none, none] ∧ R3 H11 G p20 us ess ∧ ess.length = 1 + k ∧ ∀ es ∈ ess, S2 (n + 1) es) ⟨_, _, none, rfl, R2, rfl, fun es he => by rw [List.mem_singleton.mp he]; exact g1.le (by decide) (by decide) (by decide)⟩ ?_ ?_
        · rintro k σ G hk ⟨us, ess, y15, rfl, RG, hle, hSG⟩
          have haG := RG.s.seq haF
          have hbG := RG.s _ _ hbF
          have hpsG := RG.s _ _ hpsF
          have hpG := RG.hp
          have hul := RG.r.len
          walk_at "st"
          refine ⟨a, ns, 6 + (0 + (k : Int)), rfl, haG, by omega, fun c6 => ?_⟩
          walk_at "st"
          refine ⟨by walk_at "sz", fun p21 np21 => ?_⟩; generalize eG1 : upd _ p21 _ = G1; have s21 := AU.newS np21 eG1; have hp21 := AU.newH eG1; clear eG1
          walk_at "st"
          refine ⟨c6, n + 1, z0, R, z2, mdn, rfl, n1, n3, by omega, by omega, b2, by omega, by omega, fun e5 q5 w5 G2 g5 s22 nq5 hq5 hE5 => ?_⟩
          have g5 := g5.le (Z2 := 34) (C2 := 100) (U2 := 100000000000) (by omega) (by omega) (by
            have := Nat.mul_le_mul b0 hR
            omega)
          have sG2 := s21.trans s22
          have hpG2 := sG2 _ _ hpG
          walk_at "st"
          exact ⟨us ++ [.ref q5], ess ++ [e5], _, rfl, RG.push sG2 ((RG.mono s21).ne nq5) hq5 hE5, by rw [List.length_append, hle]; rfl, fun es he => (List.mem_append.mp he).elim (hSG es) fun he => by rw [List.mem_singleton.mp he]; exact g5⟩
        · rintro σ G ⟨us, ess, y15, rfl, RG, hle, hSG⟩
          walk_at "st"
          exact ⟨p20, us, ess, y15, rfl, RG, hle, hSG⟩
      · rw [decide_eq_false c]
        walk_at "st"
        rw [decide_eq_true c8]
        walk_at "st"
        refine ⟨by walk_at "sz", fun p20 np20 => ?_⟩; generalize eH20 : upd _ p20 _ = H20; have s20 := AU.newS np20 eH20; have hp20 := AU.newH eH20; clear eH20
        have s120 := R1.s.trans s20
        have np20b := AU.back R1.s np20
        have R2 : R3 H11 H20 p20 [.ref q1] [e1] := ⟨s120, np20b, hp20, .cons (s120 _ _ hq1F) (hE1F.mono s120) .nil, fun z => by
          cases List.mem_singleton.mp z
          rw [hq1F] at np20b
          cases np20b⟩
        walk_at "st"
        refine ⟨_, rfl, by decide, by decide, ?_⟩
        rw [show (2 : Int).toNat = 2 from rfl]
        refine for_range (lo := 0) (n := 2) (fun k σ G => ∃ (us : List V) (ess : List (List Ent)) (y15 : Option V), σ = [some (.ref a), some (.ref b), some (.int ((n + 1 : Nat) : Int)), some (.ref ps), some (.int (mvn : Int)), some (.int (R : Int)), some (.ref q1), some (.ref q2), some (.ref pb), some (.ref q3), some (.ref q4), some (.int (1 - 2 * k2)), some (.int oth), some (.ref p20), none, y15, none, none, none] ∧ R3 H11 G p20 us ess ∧ ess.length = 1 + k ∧ ∀ es ∈ ess, S2 (n + 1) es) ⟨_, _, none, rfl, R2, rfl, fun es he => by rw [List.mem_singleton.mp he]; exact g1.le (by decide) (by decide) (by decide)⟩ ?_ ?_
        · rintro k σ G hk ⟨us, ess, y15, rfl, RG, hle, hSG⟩
          have haG := RG.s.seq haF
          have hbG := RG.s _ _ hbF
          have hpsG := RG.s _ _ hpsF
          have hpG := RG.hp
          have hul := RG.r.len
          walk_at "st"
          refine ⟨a, ns, 6 + (0 + (k : Int)), rfl, haG, by omega, fun c6 => ?_⟩
          walk_at "st"
          refine ⟨by walk_at "sz", fun p21 np21 => ?_⟩; generalize eG1 : upd _ p21 _ = G1; have s21 := AU.newS np21 eG1; have hp21 := AU.newH eG1; clear eG1
          walk_at "st"
          refine ⟨c6, n + 1, z0, R, z2, mdn, rfl, n1, n3, by omega, by omega, b2, by omega, by omega, fun e5 q5 w5 G2 g5 s22 nq5 hq5 hE5 => ?_⟩
          have g5 := g5.le (Z2 := 34) (C2 := 100) (U2 := 100000000000) (by omega) (by omega) (by
            have := Nat.mul_le_mul b0 hR
            omega)
          have sG2 := s21.trans s22
          have hpG2 := sG2 _ _ hpG
          walk_at "st"
          exact ⟨us ++ [.ref q5], ess ++ [e5], _, rfl, RG.push sG2 ((RG.mono s21).ne nq5) hq5 hE5, by rw [List.length_append, hle]; rfl, fun es he => (List.mem_append.mp he).elim (hSG es) fun he => by rw [List.mem_singleton.mp he]; exact g5⟩
        · rintro σ G ⟨us, ess, y15, rfl, RG, hle, hSG⟩
          walk_at "st"
          exact ⟨p20, us, ess, y15, rfl, RG, hle, hSG⟩
      · rw [decide_eq_false c]
        walk_at "st"
        rw [decide_eq_false c8]
        walk_at "st"
        exact ⟨p15, us0, ess0, none, rfl, R1, hl3, hS⟩
    clear R1 hS hl3 hE1F hq1F g1
    rintro σ' H20 ⟨p, us, ess, y15, rfl, RR, hl, hS⟩
    have hb20 := RR.s _ _ hbF
    have hp20 := RR.hp
    have hul := RR.r.len
    obtain ⟨j4, rfl⟩ := Int.eq_ofNat_of_zero_le h4.1
    walk_at "st"
    refine ⟨fun σ' H' => ∃ (us : List V) (ess : List (List Ent)), σ' = [some (.ref a), some (.ref b), some (.int ((n + 1 : Nat) : Int)), some (.ref ps), some (.int (mvn : Int)), some (.int (R : Int)), some (.ref q1), some (.ref q2), some (.ref pb), some (.ref q3), some (.ref q4), some (.int (1 - 2 * k2)), some (.int oth), some (.ref p), none, y15, none, none, none] ∧ R3 H11 H' p us ess ∧ ess.length = 3 ∧ ∀ es ∈ ess, S3 (n + 1) es, ?_, ?_⟩
    · walk_at "st"
      by_cases c : k1 = 3
      · rw [decide_eq_true c]
        obtain ⟨ax, xx, eax, hax, hEx⟩ := RR.r.at_ (i := j4) (by omega)
        have at4 : atI us (j4 : Int) = some (.ref ax) := AU.atN rfl eax
        walk_at "st"
        refine ⟨ax, k6, xx, _, n + 1, 34, 100, 100000000000, rfl, hax, hEx, hS _ (List.getElem_mem _), n1, by decide, fun es2 pz wz Hz gz sz npz hpz hEz => ?_⟩
        have hbz := sz _ _ hb20
        walk_at "st"
        refine AU.gsub_ ?_
        walk_at "st"
        refine AU.setL_ (sz _ _ hp20) (ixN_nat (by omega)) ?_
        exact ⟨_, _, rfl, RR.set sz (RR.ne npz) hpz hEz j4, by rw [List.length_set]; exact hl, set_all (fun x hx => (hS x hx).le (by decide) (by decide) (by decide)) (gz.le (by decide) (by decide) (by decide)) j4⟩
      · rw [decide_eq_false c]
        walk_at "st"
        exact ⟨us, ess, rfl, RR, hl, fun x hx => (hS x hx).le (by decide) (by decide) (by decide)⟩
    clear RR hl hS hb20 hp20 hul
    rintro σ' H20 ⟨us, ess, rfl, RR, hl, hS⟩
    have hb20 := RR.s _ _ hbF
    have hp20 := RR.hp
    have hul := RR.r.len
    walk_at "st"
    refine ⟨fun σ' H' => ∃ (us : List V) (ess : List (List Ent)), σ' = [some (.ref a), some (.ref b), some (.int ((n + 1 : Nat) : Int)), some (.ref ps), some (.int (mvn : Int)), some (.int (R : Int)), some (.ref q1), some (.ref q2), some (.ref pb), some (.ref q3), some (.ref q4), some (.int (1 - 2 * k2)), some (.int oth), some (.ref p), none, y15, none, none, none] ∧ R3 H11 H' p us ess ∧ ess.length = 3 ∧ ∀ es ∈ ess, S3 (n + 1) es, ?_, ?_⟩
    · walk_at "st"
      by_cases c : k1 = 4
      · rw [decide_eq_true c]
        have m0 := Int.emod_nonneg ((j4 : Int) + 1 + k2) (show (3 : Int) ≠ 0 by decide)
        have m1 := Int.emod_lt_of_pos ((j4 : Int) + 1 + k2) (show 0 < (3 : Int) by decide)
        obtain ⟨j5, hj5⟩ := Int.eq_ofNat_of_zero_le m0
        obtain ⟨ax, xx, eax, hax, hEx⟩ := RR.r.at_ (i := j5) (by omega)
        have at5 : atI us (((j4 : Int) + 1 + k2) % 3) = some (.ref ax) := AU.atN hj5 eax
        walk_at "st"
        intro pz npz; generalize eHz : upd _ pz _ = Hz; have sz := AU.newS npz eHz; have hpz := AU.newH eHz; clear eHz
        have hbz := sz _ _ hb20
        walk_at "st"
        refine AU.gsub_ ?_
        walk_at "st"
        refine AU.setL_ (sz _ _ hp20) (ixN_nat (by omega)) ?_
        exact ⟨_, _, rfl, RR.set sz (RR.ne npz) hpz (hEx.mono sz) j4, by rw [List.length_set]; exact hl, set_all hS (hS _ (List.getElem_mem _)) j4⟩
      · rw [decide_eq_false c]
        walk_at "st"
        exact ⟨us, ess, rfl, RR, hl, hS⟩
    clear RR hl hS hb20 hp20 hul
    rintro σ' H20 ⟨us, ess, rfl, RR, hl, hS⟩
    have hb20 := RR.s _ _ hbF
    have hp20 := RR.hp
    have hul := RR.r.len
    walk_at "st"
    refine ⟨fun σ' H' => ∃ (p : Addr) (us : List V) (ess : List (List Ent)), σ' = [some (.ref a), some (.ref b), some (.int ((n + 1 : Nat) : Int)), some (.ref ps), some (.int (mvn : Int)), some (.int (R : Int)), some (.ref q1), some (.ref q2), some (.ref pb), some (.ref q3), some (.ref q4), some (.int (1 - 2 * k2)), some (.int oth), some (.ref p), none, y15, none, none, none] ∧ R3 H11 H' p us ess ∧ ess.length = 3 ∧ ∀ es ∈ ess, S3 (n + 1) es, ?_, ?_⟩
    · walk_at "st"
      by_cases c : k1 = 6
      · rw [decide_eq_true c]
        obtain ⟨ax, xx, eax, hax, hEx⟩ := RR.r.at_ (i := j4) (by omega)
        have at4 : atI us (j4 : Int) = some (.ref ax) := AU.atN rfl eax
        walk_at "st"
        refine ⟨_, rfl, by decide, by decide, fun D1 nD1 => ?_⟩
        rw [show (3 : Int).toNat = 3 from rfl]
        refine lc_range (lo := 0) (n := 3) (fun j G => ∃ (us' : List V) (ess' : List (List Ent)), R3 H20 G D1 us' ess' ∧ ess'.length = j ∧ ∀ es ∈ ess', S3 (n + 1) es) ⟨[], [], R3.start nD1, rfl, fun es he => by cases he⟩ ?_ ?_
        · rintro j G hj ⟨us', ess', RG, hle, hSG⟩
          have hbG := RG.s _ _ hb20
          have hpG := RG.s _ _ hp20
          have haxG := RG.s _ _ hax
          have hul' := RG.r.len
          refine ⟨rfl, tYes_of ?_⟩
          walk_at "st"
          refine ⟨ax, xx, rfl, .inl (AU.sqL haxG), fun pz npz => ?_⟩
          generalize ez : upd G pz (.lst xx) = Hz
          have sz := AU.newS npz ez
          have hpz := AU.newH ez
          clear ez
          exact ⟨us', sz _ _ RG.hp, small100k (by omega), us' ++ [.ref pz], ess' ++ [_], RG.push sz (RG.ne npz) hpz ((hEx.mono RG.s).mono sz), by rw [List.length_append, hle]; rfl, fun es he => (List.mem_append.mp he).elim (hSG es) fun he => by rw [List.mem_singleton.mp he]; exact hS _ (List.getElem_mem _)⟩
        · rintro G ⟨us', ess', RG, hle, hSG⟩
          walk_at "st"
          exact ⟨D1, us', ess', rfl, RG.base RR.s, hle, hSG⟩
      · rw [decide_eq_false c]
        walk_at "st"
        exact ⟨p, us, ess, rfl, RR, hl, hS⟩
    clear RR hl hS hb20 hp20 hul us ess p
    rintro σ' H20 ⟨p, us, ess, rfl, RR, hl, hS⟩
    have ha20 := RR.s.seq haF
    have hb20 := RR.s _ _ hbF
    have hp20 := RR.hp
    have hul := RR.r.len
    walk_at "st"
    refine ⟨a, ns, 30, rfl, ha20, by decide, fun c30 => ?_⟩
    walk_at "st"
    refine ⟨c30, n + 1, rfl, n1, n3, fun l pf Hf hll hlb sf hpf => ?_⟩
    have hpf2 := sf _ _ hp20
    walk_at "st"
    refine ⟨p, rfl, ⟨_, AU.sqL hpf2⟩, fun D2 nD2 => ?_⟩
    refine lc_list (K := K) (xs := us) (fun j G => ∃ (us' : List V) (ess' : List (List Ent)), R3 Hf G D2 us' ess' ∧ ess'.length = j ∧ ∀ es ∈ ess', SR (n + 1) es) ⟨[], [], R3.start nD2, rfl, fun es he => by cases he⟩ ?_ ?_ ?_
    · rintro j G _ ⟨_, _, RG, _⟩
      exact AU.sqL (RG.s _ _ hpf2)
    · rintro j x G hxj ⟨us', ess', RG, hle, hSG⟩
      have hjl := (List.getElem?_eq_some_iff.mp hxj).1
      obtain ⟨ar, xr, er, rfl, her, har, hEr⟩ := (RR.r.mono (sf.trans RG.s)).get hxj
      have ger := hS er (List.mem_of_getElem? her)
      have hpfG := RG.s _ _ hpf
      have hul' := RG.r.len
      refine ⟨rfl, tYes_of ?_⟩
      walk_at "st"
      refine ⟨ar, pf, xr, er, l, rfl, ⟨AU.sqL har, hEr, small100k (by have := ger.z; omega)⟩, AU.sqT hpfG, fun e he => by rw [ger.d e he, hll]; exact Nat.le_refl _, by omega, fun pm wm Hm sm npm hpm hEm => ?_⟩
      exact ⟨us', sm _ _ RG.hp, small100k (by omega), us' ++ [.ref pm], ess' ++ [_], RG.push sm (RG.ne npm) hpm hEm, by rw [List.length_append, hle]; rfl, fun es he => (List.mem_append.mp he).elim (hSG es) fun he => by rw [List.mem_singleton.mp he]; exact (ger.mov hll hlb).sr (by decide) (by decide) (by decide)⟩
    rintro G ⟨us', ess', RG, hle, hSG⟩
    have RG := RG.base (RR.s.trans sf)
    rw [hul, hl] at hle
    clear RR hl hS hb20 hp20 hul ha20 hpf2
    have haG := RG.s.seq haF
    have hbG := RG.s _ _ hbF
    have hpG := RG.hp
    have hul := RG.r.len
    walk_at "st"
    refine ⟨fun σ' H' => ∃ (us : List V) (ess : List (List Ent)), σ' = [some (.ref a), some (.ref b), some (.int ((n + 1 : Nat) : Int)), some (.ref ps), some (.int (mvn : Int)), some (.int (R : Int)), some (.ref q1), some (.ref q2), some (.ref pb), some (.ref q3), some (.ref q4), some (.int (1 - 2 * k2)), some (.int oth), some (.ref D2), some (.ref pf), y15, none, none, none] ∧ R3 H11 H' D2 us ess ∧ ess.length = 3 ∧ ∀ es ∈ ess, ∃ n, 1 ≤ n ∧ n ≤ 3 ∧ SR n es, ?_, ?_⟩
    · have hSG : ∀ es ∈ ess', ∃ n, 1 ≤ n ∧ n ≤ 3 ∧ SR n es := fun es he => ⟨n + 1, n1, n3, hSG es he⟩
      walk_at "st"
      by_cases c : k1 = 7
      · rw [decide_eq_true c]
        walk_at "st"
        refine ⟨a, ns, 8, rfl, haG, by decide, fun c8 => ?_⟩
        walk_at "st"
        have m0 := Int.emod_nonneg (((n + 1 : Nat) : Int) + k2) (show (3 : Int) ≠ 0 by decide)
        have m1 := Int.emod_lt_of_pos (((n + 1 : Nat) : Int) + k2) (show 0 < (3 : Int) by decide)
        obtain ⟨m, hm⟩ := Int.eq_ofNat_of_zero_le m0
        rw [hm, show (1 : Int) + (m : Int) = ((m + 1 : Nat) : Int) by omega]
        refine ⟨c8, m + 1, 2, 3, 3, 0, rfl, by omega, by omega, by decide, by decide, by decide, by decide, by decide, fun e8 q8 w8 G8 g8 s8 nq8 hq8 hE8 => ?_⟩
        have hbG8 := s8 _ _ hbG
        walk_at "st"
        refine AU.gsub_ ?_
        walk_at "st"
        refine AU.setL_ (s8 _ _ hpG) (ixN_nat (by omega)) ?_
        have R8 := RG.set s8 (RG.ne nq8) hq8 hE8 j4
        have hl8 : (ess'.set j4 e8).length = 3 := by rw [List.length_set]; exact hle
        have hS8 : ∀ es ∈ ess'.set j4 e8, ∃ n, 1 ≤ n ∧ n ≤ 3 ∧ SR n es := set_all hSG ⟨m + 1, by omega, by omega, g8.sr (by decide) (by decide) (by decide)⟩ j4
        generalize upd G8 D2 (.lst (us'.set j4 (.ref q8))) = G9 at R8 ⊢
        generalize us'.set j4 (V.ref q8) = us8 at R8
        generalize ess'.set j4 e8 = ess8 at R8 hl8 hS8
        have hb9 := R8.s _ _ hbF
        have hp9 := R8.hp
        have hu8 := R8.r.len
        have nilS : ∃ n, 1 ≤ n ∧ n ≤ 3 ∧ SR n [] := ⟨1, by decide, by decide, SR.nil⟩
        walk_at "st"
        refine ⟨fun σ' H' => ∃ (us : List V) (ess : List (List Ent)), σ' = [some (.ref a), some (.ref b), some (.int ((n + 1 : Nat) : Int)), some (.ref ps), some (.int (mvn : Int)), some (.int (R : Int)), some (.ref q1), some (.ref q2), some (.ref pb), some (.ref q3), some (.ref q4), some (.int (1 - 2 * k2)), some (.int oth), some (.ref D2), some (.ref pf), y15, none, none, none] ∧ R3 H11 H' D2 us ess ∧ ess.length = 3 ∧ ∀ es ∈ ess, ∃ n, 1 ≤ n ∧ n ≤ 3 ∧ SR n es, ?_, ?_⟩
        · walk_at "st"
          by_cases c5 : k5 > 0
          · rw [decide_eq_true c5]
            walk_at "st"
            refine ⟨by walk_at "sz", fun pz npz => ?_⟩; generalize eHz : upd _ pz _ = Hz; have sz := AU.newS npz eHz; have hpz := AU.newH eHz; clear eHz
            have hbz := sz _ _ hb9
            walk_at "st"
            refine AU.gsub_ ?_
            walk_at "st"
            have m0 := Int.emod_nonneg ((j4 : Int) + 1) (show (3 : Int) ≠ 0 by decide)
            have m1 := Int.emod_lt_of_pos ((j4 : Int) + 1) (show 0 < (3 : Int) by decide)
            obtain ⟨j6, hj6⟩ := Int.eq_ofNat_of_zero_le m0
            refine AU.setL_ (sz _ _ hp9) (by rw [hj6]; exact ixN_nat (by omega)) ?_
            exact ⟨_, _, rfl, R8.set sz (R8.ne npz) hpz .nil j6, by rw [List.length_set]; exact hl8, set_all hS8 nilS j6⟩
          · rw [decide_eq_false c5]
            walk_at "st"
            exact ⟨us8, ess8, rfl, R8, hl8, hS8⟩
        clear R8 hl8 hS8 hb9 hp9 hu8
        rintro σ' G9 ⟨us8, ess8, rfl, R8, hl8, hS8⟩
        have hb9 := R8.s _ _ hbF
        have hp9 := R8.hp
        have hu8 := R8.r.len
        walk_at "st"
        by_cases c5 : k5 > 1
        · rw [decide_eq_true c5]
          walk_at "st"
          refine ⟨by walk_at "sz", fun pz npz => ?_⟩; generalize eHz : upd _ pz _ = Hz; have sz := AU.newS npz eHz; have hpz := AU.newH eHz; clear eHz
          have hbz := sz _ _ hb9
          walk_at "st"
          refine AU.gsub_ ?_
          walk_at "st"
          have m0 := Int.emod_nonneg ((j4 : Int) + 2) (show (3 : Int) ≠ 0 by decide)
          have m1 := Int.emod_lt_of_pos ((j4 : Int) + 2) (show 0 < (3 : Int) by decide)
          obtain ⟨j6, hj6⟩ := Int.eq_ofNat_of_zero_le m0
          refine AU.setL_ (sz _ _ hp9) (by rw [hj6]; exact ixN_nat (by omega)) ?_
          exact ⟨_, _, rfl, R8.set sz (R8.ne npz) hpz .nil j6, by rw [List.length_set]; exact hl8, set_all hS8 nilS j6⟩
        · rw [decide_eq_false c5]
          walk_at "st"
          exact ⟨us8, ess8, rfl, R8, hl8, hS8⟩
      · rw [decide_eq_false c]
        walk_at "st"
        exact ⟨us', ess', rfl, RG, hle, hSG⟩
    rintro σ' H30 ⟨us, ess, rfl, R9, hl9, hS9⟩
    walk_at "st"
    exact q D2 us ess H30 hl9 hS9 (sFF.trans R9.s) R9.hp R9.r
end

set_option Elab.async false
set_option linter.all false
set_option maxRecDepth 100000
set_option maxHeartbeats 4000000
structure FrL (H0 H : Hp) (p : Addr) (as : List Addr) (ess : List (List Ent)) : Prop where
  s : Same H0 H
  np : H0 p = none
  na : ∀ a ∈ as, H0 a = none
  hp : H p = some (.lst (as.map V.ref))
  nd : as.Nodup
  pn : p ∉ as
  l : as.length = ess.length
  rows : ∀ (i : Nat) (a : Addr) (es : List Ent), as[i]? = some a → ess[i]? = some es → ∃ xs, H a = some (.lst xs) ∧ Ents H xs es
theorem FrL.at_ {H0 H : Hp} {p : Addr} {as : List Addr} {ess : List (List Ent)} (h : FrL H0 H p as ess) {a : Addr} (ha : a ∈ as) : ∃ (i : Nat) (es : List Ent) (xs : List V), as[i]? = some a ∧ ess[i]? = some es ∧ H a = some (.lst xs) ∧ Ents H xs es := by
  obtain ⟨i, hi⟩ := List.getElem?_of_mem ha
  have hl := (List.getElem?_eq_some_iff.mp hi).1
  have he : ess[i]? = some (ess[i]'(by rw [← h.l]; exact hl)) := List.getElem?_eq_getElem _
  obtain ⟨xs, h1, h2⟩ := h.rows i a _ hi he
  exact ⟨i, _, xs, hi, he, h1, h2⟩
theorem FrL.start {H0 : Hp} {D : Addr} (nD : H0 D = none) : FrL H0 (upd H0 D (.lst [])) D [] [] :=
  ⟨same_upd nD, nD, fun a h => (by cases h), upd_same, .nil, fun h => (by cases h), rfl, fun i a es h => (by simp at h)⟩
theorem FrL.mono {H0 G G2 : Hp} {D : Addr} {as : List Addr} {ess : List (List Ent)} (s : Same G G2) (h : FrL H0 G D as ess) : FrL H0 G2 D as ess :=
  ⟨h.s.trans s, h.np, h.na, s _ _ h.hp, h.nd, h.pn, h.l, fun i a es hi he => by
    obtain ⟨xs, h1, h2⟩ := h.rows i a es hi he
    exact ⟨xs, s _ _ h1, h2.mono s⟩⟩
theorem FrL.keep {H0 G : Hp} {D q : Addr} {as : List Addr} {ess : List (List Ent)} {xs ys : List V} (h : FrL H0 G D as ess) (nq : H0 q = none) (hq : G q = some (.lst xs)) (qa : q ∉ as) (qD : q ≠ D) : FrL H0 (upd G q (.lst ys)) D as ess :=
  ⟨same_mut h.s nq, h.np, h.na, by rw [upd_ne qD.symm]; exact h.hp, h.nd, h.pn, h.l, fun i a es hi he => by
    obtain ⟨zs, h1, h2⟩ := h.rows i a es hi he
    have aq : a ≠ q := fun z => qa (by rw [← z]; exact List.mem_of_getElem? hi)
    exact ⟨zs, by rw [upd_ne aq]; exact h1, h2.updL hq⟩⟩
theorem FrL.pushR {H0 G : Hp} {D q : Addr} {as : List Addr} {ess : List (List Ent)} {xs : List V} {es : List Ent} (h : FrL H0 G D as ess) (nq : H0 q = none) (hq : G q = some (.lst xs)) (hE : Ents G xs es) (qa : q ∉ as) (qD : q ≠ D) : FrL H0 (upd G D (.lst (as.map V.ref ++ [.ref q]))) D (as ++ [q]) (ess ++ [es]) := by
  refine ⟨same_mut h.s h.np, h.np, fun a ha => ?_, by rw [upd_same, List.map_append]; rfl, ?_, fun z => ?_, by rw [List.length_append, List.length_append, h.l]; rfl, fun i a fs hi he => ?_⟩
  · rcases List.mem_append.mp ha with ha | ha
    · exact h.na a ha
    · rw [List.mem_singleton.mp ha]
      exact nq
  · refine List.nodup_append.mpr ⟨h.nd, List.nodup_cons.mpr ⟨fun z => (by cases z), .nil⟩, fun a ha b hb => ?_⟩
    rw [List.mem_singleton.mp hb]
    rintro rfl
    exact qa ha
  · rcases List.mem_append.mp z with z | z
    · exact h.pn z
    · exact qD (List.mem_singleton.mp z).symm
  · by_cases c : i < as.length
    · rw [List.getElem?_append_left c] at hi
      rw [List.getElem?_append_left (by rw [← h.l]; exact c)] at he
      obtain ⟨ys, h1, h2⟩ := h.rows i a fs hi he
      have aD : a ≠ D := fun z => h.pn (by rw [← z]; exact List.mem_of_getElem? hi)
      exact ⟨ys, by rw [upd_ne aD]; exact h1, h2.updL h.hp⟩
    · have hil := (List.getElem?_eq_some_iff.mp hi).1
      rw [List.length_append, List.length_singleton] at hil
      obtain rfl : i = as.length := by omega
      rw [List.getElem?_append_right (Nat.le_refl _), Nat.sub_self] at hi
      rw [h.l, List.getElem?_append_right (Nat.le_refl _), Nat.sub_self] at he
      cases hi
      cases he
      exact ⟨xs, by rw [upd_ne qD]; exact hq, hE.updL h.hp⟩
theorem rowsAt_of {H : Hp} : ∀ {as : List Addr} {ess : List (List Ent)}, as.length = ess.length → (∀ (i : Nat) (a : Addr) (es : List Ent), as[i]? = some a → ess[i]? = some es → ∃ xs, H a = some (.lst xs) ∧ Ents H xs es) → RowsAt H (as.map V.ref) ess
  | [], [], _, _ => .nil
  | [], _ :: _, h, _ => by cases h
  | _ :: _, [], h, _ => by cases h
  | a :: as, es :: ess, h, k => by
    obtain ⟨xs, h1, h2⟩ := k 0 a es rfl rfl
    exact .cons h1 h2 (rowsAt_of (Nat.succ.inj h) fun i b fs hi hf => k (i + 1) b fs hi hf)
theorem FrL.at_rows {H0 H : Hp} {p : Addr} {as : List Addr} {ess : List (List Ent)} (h : FrL H0 H p as ess) : RowsAt H (as.map V.ref) ess := rowsAt_of h.l h.rows
/-- what line_told says -/
def LineC (ess : List (List Ent)) (z : Int) : Prop := (mixL ((dims ess).filter nz) = true ∧ z = 2) ∨ (mixL ((dims ess).filter nz) = false ∧ ∃ a b c, ess = [a, b, c] ∧ ((Line a b c ∧ z = 1) ∨ (¬ Line a b c ∧ z = 0)))
/-- what rank_told says -/
def RankC (ess : List (List Ent)) (z : Int) : Prop := (mixL ((dims ess).filter nz) = true ∧ z = -1) ∨ (mixL ((dims ess).filter nz) = false ∧ ∃ f, IsBasis ess ess.length f ∧ z = (f.length : Int))
theorem len3 {α : Type} {l : List α} (h : l.length = 3) : ∃ a b c, l = [a, b, c] := by
  match l, h with
  | [a, b, c], _ => exact ⟨a, b, c, rfl⟩
theorem rows_eqv (ess : List (List Ent)) : PyData.eqv (.list (ess.map dRow)) (.list (ess.map dRow)) = true := eqvD (rows_shaped ess)
section
variable {P : Program} {w : World} {K : PySem.W.Frag} {mg : Str → Option Value} {base : Heap}
def spTold (C : List (List Ent) → Int → Prop) : Sp := fun vs H Q _ => ∃ (a : Addr) (us : List V) (ess : List (List Ent)), vs = [.ref a] ∧ H a = some (.lst us) ∧ RowsAt H us ess ∧ ess.length = 3 ∧ (∀ es ∈ ess, ∃ n, 1 ≤ n ∧ n ≤ 3 ∧ SR n es) ∧ ∀ z H', Same H H' → C ess z → Q (.int z) H'
theorem c__law_line_told {f B M Z O fL : Addr} {fd fdL : FuncData} (D : C8.Def K mg "_law_line_told" s__law_line_told f fd) (b : Binds K fd ["_law_rows"] []) (T : Bi mg) (gB : mg "TableError" = some (.ref B)) (er : MixK K B M Z O)
    (DL : C8.Def K mg "on_one_line" s_on_one_line fL fdL) (bL : Binds K fdL ["first", "second", "third"] []) (GL : FnOk P w K mg base (L2N.CX P w) 8 fL fdL ["first", "second", "third"] (spLine K M))
    (h__law_is_mixed : HP.CalG P w K mg base 2 "_law_is_mixed" (spMixE K M)) : C8.Cal P w K mg base 9 "_law_line_told" (spTold LineC) [] := by
  refine C8.cal0 D b .nil sc__law_line_told (fun vs H Q E h => ?_) (fun cdv A outer s H vs Q E hr h => ?_)
  · obtain ⟨a, us, ess, rfl, _⟩ := h
    rfl
  · obtain ⟨a, us, ess, rfl, ha, hR, hl3, hsr, q⟩ := h
    refine ⟨_, (pss_cons (ps_setLc (i := 1) (own := [("_law_row_here", 5)]) (g := (gName 5)) (tt := tYes) rfl sc__law_line_told.nd rfl rfl (sw_true rfl rfl rfl rfl) (pi_list (pv 0)) (blkOk_by (N := ["_law_rows", "_law_handed", "_law_code", "_law_e", "_law_told", "_law_row_here"]) (sc := C8.fnScope s__law_line_told) (by decide +kernel)) (fun _ _ _ _ _ => (pg_name (i := 5) sc__law_line_told.nd rfl (Or.inl rfl))) (fun _ _ _ _ _ => pts_nil) (fun _ _ _ _ _ => (pe_callTy (show CallR _ _ (rListOf K) from call_list_of) (by rfl) T.n_list OT.b_list (pa_cons (pv 5) pa_nil))))
  (pss_cons (ps_set (i := 2) sc__law_line_told.nd rfl (Or.inl rfl) pe_int)
  (C8.pss_cut (L2N.ps_try_as (i := 3) (tb := fun W => _) (ts := fun a cls d => _) (Wout := fun _ _ _ _ => False) rfl rfl sc__law_line_told.nd rfl rfl ⟨rfl, by decide, Or.inl gB⟩ HP.takes0N (fun W pn xe tk _ => (pss_cons (ps_set (i := 4) sc__law_line_told.nd rfl (Or.inl rfl) (pe_callS GL hr rfl DL.mgf DL.kp bL (fun σ => L2N.passAt tk σ) (pa_cons (pe_ix (show IxR _ (rIxL K) from ix_list) (pv 1) pe_int (fun _ _ => rfl)) (pa_cons (pe_ix (show IxR _ (rIxL K) from ix_list) (pv 1) pe_int (fun _ _ => rfl)) (pa_cons (pe_ix (show IxR _ (rIxL K) from ix_list) (pv 1) pe_int (fun _ _ => rfl)) pa_nil)))))   (pss_cons (ps_if (pt_cmpR op_isBl (pv 4) pe_bl (nomark _)) (pss_one (ps_set (i := 2) sc__law_line_told.nd rfl (Or.inl rfl) pe_int)) pss_nil)   (pss_one (ps_if (pt_cmpR op_isBl (pv 4) pe_bl (nomark _)) (pss_one (ps_set (i := 2) sc__law_line_told.nd rfl (Or.inl rfl) pe_int)) pss_nil))))) (fun a oe cls d pn hz hf => by exact (pss_one (ps_if (pt_val (by exact HP.pe_chs h__law_is_mixed hr (by decide) hz hf (by rfl) (pa_cons (pv 3) pa_nil))) (pss_one (ps_set (i := 2) sc__law_line_told.nd rfl (Or.inl rfl) pe_int)) pss_nil))))
  (pss_cons (ps_if (pt_cmpR (op_neD hr.units) (pv 1) (pv 0) (nomark _)) (pss_one (ps_set (i := 2) sc__law_line_told.nd rfl (Or.inl rfl) pe_int)) pss_nil)
  (pss_cons (ps_expr (pe_bm PySem.F.plainAttrs_list PySem.F.slot_list_append PySem.F.type_list_append mt_append (pe_ix ix_list (pv 1) pe_int (fun _ _ => rfl)) (pa_cons (pe_tup (pa_cons (pe_tup (pa_cons pe_int pa_nil)) (pa_cons pe_int pa_nil))) pa_nil)))
  (pss_one (ps_ret (pv 2)))))))), ?_⟩
    have hul := hR.len
    walk_at "st"
    refine ⟨a, rfl, ⟨_, AU.sqL ha⟩, fun D0 nD => ?_⟩
    refine lc_list (K := K) (xs := us) (fun i G => ∃ as, FrL H G D0 as (ess.take i)) ⟨[], FrL.start nD⟩ ?_ ?_ ?_
    · rintro i G _ ⟨as, hF⟩
      exact AU.sqL (hF.s _ _ ha)
    · rintro i x G hx ⟨as, hF⟩
      obtain ⟨r, xs, es, rfl, hes, hr0, hE⟩ := (hR.mono hF.s).get hx
      have hil := (List.getElem?_eq_some_iff.mp hes).1
      have hl := hF.l
      rw [List.length_take] at hl
      have hD := hF.hp
      refine ⟨rfl, tYes_of ?_⟩
      walk_at "st"
      refine ⟨r, xs, rfl, .inl (AU.sqL hr0), fun q1 nq => ?_⟩
      have sq : Same G (upd G q1 (.lst xs)) := same_upd nq
      have hq : (upd G q1 (.lst xs)) q1 = some (.lst xs) := upd_same
      have qa : q1 ∉ as := fun z => by
        obtain ⟨_, _, _, _, _, e, _⟩ := hF.at_ z
        rw [nq] at e
        cases e
      have qD : q1 ≠ D0 := (ne_of_none hD nq).symm
      refine ⟨_, sq _ _ hD, by rw [List.length_map]; exact small1000 (by omega), as ++ [q1], ?_⟩
      rw [List.take_add_one, hes]
      exact (hF.mono sq).pushR (AU.back hF.s nq) hq (hE.mono sq) qa qD
    rintro G ⟨as, hF⟩
    rw [hul, List.take_length] at hF
    obtain ⟨r0, r1, r2, rfl⟩ := len3 hl3
    obtain ⟨c0, c1, c2, rfl⟩ := len3 hF.l
    obtain ⟨x0, hx0, hE0⟩ := hF.rows 0 c0 r0 rfl rfl
    obtain ⟨x1, hx1, hE1⟩ := hF.rows 1 c1 r1 rfl rfl
    obtain ⟨x2, hx2, hE2⟩ := hF.rows 2 c2 r2 rfl rfl
    have hD := hF.hp
    have hD : G D0 = some (.lst [.ref c0, .ref c1, .ref c2]) := hD
    have at0 : atI [V.ref c0, V.ref c1, V.ref c2] 0 = some (.ref c0) := rfl
    have at1 : atI [V.ref c0, V.ref c1, V.ref c2] 1 = some (.ref c1) := rfl
    have at2 : atI [V.ref c0, V.ref c1, V.ref c2] 2 = some (.ref c2) := rfl
    walk_at "st"
    refine ⟨fun σ' H' => ∃ (z : Int) (y4 : Option V), σ' = [some (.ref a), some (.ref D0), some (.int z), none, y4, none] ∧ Same G H' ∧ LineC [r0, r1, r2] z, ?_, ?_⟩
    · walk_at "st"
      refine ⟨c0, c1, c2, x0, x1, x2, r0, r1, r2, rfl, hx0, hE0, hx1, hE1, hx2, hE2, hsr, fun hm dd H5 s5 hdd => ?_, fun hm t H5 s5 ht => ?_⟩
      · refine AU.wAs_ er.x fun ea nea => ?_
        have hh : HeldF K H5 M dd (.ref M) (some dd) errM := ⟨rfl, rfl, er.t.oc, hdd⟩
        walk_at "st"
        refine ⟨dd, rfl, hh, ?_⟩
        walk_at "st"
        exact ⟨2, _, rfl, s5, .inl ⟨hm, rfl⟩⟩
      · walk_at "st"
        refine ⟨t, true, rfl, rfl, ?_⟩
        cases t with
        | true =>
          rw [decide_eq_true (rfl : true = true)]
          walk_at "st"
          refine ⟨true, false, rfl, rfl, ?_⟩
          rw [decide_eq_false (by decide : ¬ (true = false))]
          walk_at "st"
          exact ⟨1, _, rfl, s5, .inr ⟨hm, r0, r1, r2, rfl, .inl ⟨ht.mp rfl, rfl⟩⟩⟩
        | false =>
          rw [decide_eq_false (by decide : ¬ (false = true))]
          walk_at "st"
          refine ⟨false, false, rfl, rfl, ?_⟩
          rw [decide_eq_true (rfl : false = false)]
          walk_at "st"
          exact ⟨0, _, rfl, s5, .inr ⟨hm, r0, r1, r2, rfl, .inr ⟨fun z => (by have := ht.mpr z; cases this), rfl⟩⟩⟩
    rintro σ' H6 ⟨z, y4, rfl, s6, hz⟩
    have hF6 := hF.mono s6
    have s06 := hF6.s
    have hD6 := s6 _ _ hD
    walk_at "st"
    refine AU.neD_ (.lst (AU.sqL hD6) (rows_dpAll hF6.at_rows)) (.lst (AU.sqL (s06 _ _ ha)) (rows_dpAll (hR.mono s06))) (rows_shaped _) (rows_shaped _) ?_
    rw [rows_eqv]
    have hx06 := s6 _ _ hx0
    have nc0 := hF.na c0 (by simp)
    walk_at "st"
    refine ⟨by walk_at "sz", fun t1 nt1 => ?_⟩; generalize eH7 : upd _ t1 _ = H7; have s7 := AU.newS nt1 eH7; have ht1 := AU.newH eH7; clear eH7
    have hx07 := s7 _ _ hx06
    walk_at "st"
    refine ⟨by walk_at "sz", fun t2 nt2 => ?_⟩; generalize eH8 : upd _ t2 _ = H8; have s8 := AU.newS nt2 eH8; have ht2 := AU.newH eH8; clear eH8
    have hx08 := s8 _ _ hx07
    have zl := hE0.len
    obtain ⟨n0, _, _, sr0⟩ := hsr r0 (by simp)
    have zl2 := sr0.z
    walk_at "st"
    exact q z _ (AU.mutS (s06.trans (s7.trans s8)) nc0) hz
theorem c__law_rank_told {f B M Z O fR : Addr} {fd fdR : FuncData} (D : C8.Def K mg "_law_rank_told" s__law_rank_told f fd) (b : Binds K fd ["_law_rows"] []) (T : Bi mg) (gB : mg "TableError" = some (.ref B)) (er : MixK K B M Z O)
    (DR : C8.Def K mg "rank" s_rank fR fdR) (bR : Binds K fdR ["references"] []) (GR : FnOk P w K mg base (L2N.CX P w) 11 fR fdR ["references"] (spRank K M))
    (h__law_is_mixed : HP.CalG P w K mg base 2 "_law_is_mixed" (spMixE K M)) (c__law_is_integer : C8.Cal P w K mg base 1 "_law_is_integer" spIsInt []) : C8.Cal P w K mg base 12 "_law_rank_told" (spTold RankC) [] := by
  refine C8.cal0 D b .nil sc__law_rank_told (fun vs H Q E h => ?_) (fun cdv A outer s H vs Q E hr h => ?_)
  · obtain ⟨a, us, ess, rfl, _⟩ := h
    rfl
  · obtain ⟨a, us, ess, rfl, ha, hR, hl3, hsr, q⟩ := h
    refine ⟨_, (pss_cons (ps_setLc (i := 1) (own := [("_law_row_here", 5)]) (g := (gName 5)) (tt := tYes) rfl sc__law_rank_told.nd rfl rfl (sw_true rfl rfl rfl rfl) (pi_list (pv 0)) (blkOk_by (N := ["_law_rows", "_law_handed", "_law_code", "_law_e", "_law_told", "_law_row_here"]) (sc := C8.fnScope s__law_rank_told) (by decide +kernel)) (fun _ _ _ _ _ => (pg_name (i := 5) sc__law_rank_told.nd rfl (Or.inl rfl))) (fun _ _ _ _ _ => pts_nil) (fun _ _ _ _ _ => (pe_callTy (show CallR _ _ (rListOf K) from call_list_of) (by rfl) T.n_list OT.b_list (pa_cons (pv 5) pa_nil))))
  (pss_cons (ps_set (i := 2) sc__law_rank_told.nd rfl (Or.inl rfl) (pe_un un_neg pe_int))
  (C8.pss_cut (L2N.ps_try_as (i := 3) (tb := fun W => _) (ts := fun a cls d => _) (Wout := fun _ _ _ _ => False) rfl rfl sc__law_rank_told.nd rfl rfl ⟨rfl, by decide, Or.inl gB⟩ HP.takes0N (fun W pn xe tk _ => (pss_cons (ps_set (i := 4) sc__law_rank_told.nd rfl (Or.inl rfl) (pe_callS GR hr rfl DR.mgf DR.kp bR (fun σ => L2N.passAt tk σ) (pa_cons (pv 1) pa_nil)))   (pss_one (ps_if (PW.pt (pw_and (pt_val (C8.pe_c c__law_is_integer hr (by decide) (by rfl) (pa_cons (pv 4) pa_nil))) (pw_and1 (pt_cmpR op_ge (pv 4) pe_int (nomark _))))) (pss_one (ps_set (i := 2) sc__law_rank_told.nd rfl (Or.inl rfl) (pv 4))) pss_nil)))) (fun a oe cls d pn hz hf => by exact (pss_one (ps_if (pt_val (by exact HP.pe_chs h__law_is_mixed hr (by decide) hz hf (by rfl) (pa_cons (pv 3) pa_nil))) (pss_one (ps_set (i := 2) sc__law_rank_told.nd rfl (Or.inl rfl) (pe_un un_neg pe_int))) pss_nil))))
  (pss_cons (ps_if (pt_cmpR (op_neD hr.units) (pv 1) (pv 0) (nomark _)) (pss_one (ps_set (i := 2) sc__law_rank_told.nd rfl (Or.inl rfl) (pe_un un_neg pe_int))) pss_nil)
  (pss_cons (ps_expr (pe_bm PySem.F.plainAttrs_list PySem.F.slot_list_append PySem.F.type_list_append mt_append (pe_ix ix_list (pv 1) pe_int (fun _ _ => rfl)) (pa_cons (pe_tup (pa_cons (pe_tup (pa_cons pe_int pa_nil)) (pa_cons pe_int pa_nil))) pa_nil)))
  (pss_one (ps_ret (pv 2)))))))), ?_⟩
    have hul := hR.len
    walk_at "st"
    refine ⟨a, rfl, ⟨_, AU.sqL ha⟩, fun D0 nD => ?_⟩
    refine lc_list (K := K) (xs := us) (fun i G => ∃ as, FrL H G D0 as (ess.take i)) ⟨[], FrL.start nD⟩ ?_ ?_ ?_
    · rintro i G _ ⟨as, hF⟩
      exact AU.sqL (hF.s _ _ ha)
    · rintro i x G hx ⟨as, hF⟩
      obtain ⟨r, xs, es, rfl, hes, hr0, hE⟩ := (hR.mono hF.s).get hx
      have hil := (List.getElem?_eq_some_iff.mp hes).1
      have hl := hF.l
      rw [List.length_take] at hl
      have hD := hF.hp
      refine ⟨rfl, tYes_of ?_⟩
      walk_at "st"
      refine ⟨r, xs, rfl, .inl (AU.sqL hr0), fun q1 nq => ?_⟩
      have sq : Same G (upd G q1 (.lst xs)) := same_upd nq
      have hq : (upd G q1 (.lst xs)) q1 = some (.lst xs) := upd_same
      have qa : q1 ∉ as := fun z => by
        obtain ⟨_, _, _, _, _, e, _⟩ := hF.at_ z
        rw [nq] at e
        cases e
      have qD : q1 ≠ D0 := (ne_of_none hD nq).symm
      refine ⟨_, sq _ _ hD, by rw [List.length_map]; exact small1000 (by omega), as ++ [q1], ?_⟩
      rw [List.take_add_one, hes]
      exact (hF.mono sq).pushR (AU.back hF.s nq) hq (hE.mono sq) qa qD
    rintro G ⟨as, hF⟩
    rw [hul, List.take_length] at hF
    obtain ⟨r0, r1, r2, rfl⟩ := len3 hl3
    obtain ⟨c0, c1, c2, rfl⟩ := len3 hF.l
    obtain ⟨x0, hx0, hE0⟩ := hF.rows 0 c0 r0 rfl rfl
    have hD := hF.hp
    have hD2 : G D0 = some (.lst [.ref c0, .ref c1, .ref c2]) := hD
    have at0 : atI [V.ref c0, V.ref c1, V.ref c2] 0 = some (.ref c0) := rfl
    walk_at "st"
    refine ⟨fun σ' H' => ∃ (z : Int) (y4 : Option V), σ' = [some (.ref a), some (.ref D0), some (.int z), none, y4, none] ∧ Same G H' ∧ RankC [r0, r1, r2] z, ?_, ?_⟩
    · walk_at "st"
      refine ⟨D0, _, _, rfl, hD, hF.at_rows, by show 3 ≤ 100; decide, hsr, fun hm dd H5 s5 hdd => ?_, fun hm fl H5 hB s5 => ?_⟩
      · refine AU.wAs_ er.x fun ea nea => ?_
        have hh : HeldF K H5 M dd (.ref M) (some dd) errM := ⟨rfl, rfl, er.t.oc, hdd⟩
        walk_at "st"
        refine ⟨dd, rfl, hh, ?_⟩
        walk_at "st"
        exact ⟨-1, _, rfl, s5, .inl ⟨hm, rfl⟩⟩
      · walk_at "st"
        refine ⟨_, rfl, ?_⟩
        walk_at "st"
        rw [decide_eq_true (show (0 : Int) ≤ (fl.length : Int) by omega)]
        walk_at "st"
        exact ⟨_, _, rfl, s5, .inr ⟨hm, fl, hB, rfl⟩⟩
    rintro σ' H6 ⟨z, y4, rfl, s6, hz⟩
    have hF6 := hF.mono s6
    have s06 := hF6.s
    have hD6 := s6 _ _ hD2
    walk_at "st"
    refine AU.neD_ (.lst (AU.sqL hD6) (rows_dpAll hF6.at_rows)) (.lst (AU.sqL (s06 _ _ ha)) (rows_dpAll (hR.mono s06))) (rows_shaped _) (rows_shaped _) ?_
    rw [rows_eqv]
    have hx06 := s6 _ _ hx0
    have nc0 := hF.na c0 (by simp)
    walk_at "st"
    refine ⟨by walk_at "sz", fun t1 nt1 => ?_⟩; generalize eH7 : upd _ t1 _ = H7; have s7 := AU.newS nt1 eH7; have ht1 := AU.newH eH7; clear eH7
    have hx07 := s7 _ _ hx06
    walk_at "st"
    refine ⟨by walk_at "sz", fun t2 nt2 => ?_⟩; generalize eH8 : upd _ t2 _ = H8; have s8 := AU.newS nt2 eH8; have ht2 := AU.newH eH8; clear eH8
    have hx08 := s8 _ _ hx07
    have zl := hE0.len
    obtain ⟨n0, _, _, sr0⟩ := hsr r0 (by simp)
    have zl2 := sr0.z
    walk_at "st"
    exact q z _ (AU.mutS (s06.trans (s7.trans s8)) nc0) hz
end

set_option Elab.async false
set_option linter.all false
set_option maxRecDepth 100000
set_option maxHeartbeats 4000000
theorem mix_iff {ess : List (List Ent)} : mixL ((dims ess).filter nz) = false ↔ ∃ k, ∀ es ∈ ess, dimE es = 0 ∨ dimE es = k := by
  constructor
  · intro h
    by_cases c : ∃ e0 ∈ ess, dimE e0 ≠ 0
    · obtain ⟨e0, h0, n0⟩ := c
      refine ⟨dimE e0, fun es he => ?_⟩
      apply Classical.byContradiction
      intro w
      rw [mix_two (E1 := es) (E2 := e0) he h0 (by omega) n0 (by omega)] at h
      cases h
    · exact ⟨0, fun es he => .inl (Classical.byContradiction fun z => c ⟨es, he, z⟩)⟩
  · rintro ⟨k, h⟩
    exact mix_const h
theorem mix_perm {ess fss : List (List Ent)} (h : ∀ es, es ∈ ess ↔ es ∈ fss) : mixL ((dims ess).filter nz) = mixL ((dims fss).filter nz) := by
  have key : ∀ {a b : List (List Ent)}, (∀ es, es ∈ a ↔ es ∈ b) → mixL ((dims a).filter nz) = false → mixL ((dims b).filter nz) = false := fun {a b} h k => by
    obtain ⟨n, hn⟩ := mix_iff.mp k
    exact mix_iff.mpr ⟨n, fun es he => hn es ((h es).mpr he)⟩
  cases c : mixL ((dims fss).filter nz) with
  | false => exact key (fun es => (h es).symm) c
  | true =>
    cases d : mixL ((dims ess).filter nz) with
    | true => rfl
    | false =>
      rw [key h d] at c
      cases c
theorem raises0 (x : List Ent) : Raises [] x := .inl ⟨by decide, by simp⟩
theorem raises1 {y x : List Ent} : Raises [y] x ↔ x ≠ y := by
  unfold Raises
  constructor
  · rintro (⟨_, h⟩ | ⟨a, b, h, _⟩)
    · exact fun z => h (by rw [z]; exact List.mem_singleton.mpr rfl)
    · cases h
  · exact fun h => .inl ⟨by show 1 < 2; decide, fun z => h (List.mem_singleton.mp z)⟩
theorem raises2 {y z x : List Ent} : Raises [y, z] x ↔ ¬ Line y z x := by
  unfold Raises
  constructor
  · rintro (⟨h, _⟩ | ⟨a, b, h, k⟩)
    · exact absurd h (by show ¬ (2 < 2); omega)
    · cases h
      exact k
  · exact fun h => .inr ⟨y, z, rfl, h⟩
theorem basis1 {rs : List (List Ent)} {f : List Nat} (h : IsBasis rs 1 f) : f = [0] := by
  cases h with
  | yes h r =>
    cases h
    rfl
  | no h r =>
    cases h
    exact absurd (raises0 _) r
theorem basis2 {a b : List Ent} {rs : List (List Ent)} {f : List Nat} (h : IsBasis (a :: b :: rs) 2 f) : (b ≠ a ∧ f = [0, 1]) ∨ (b = a ∧ f = [0]) := by
  cases h with
  | yes h r =>
    obtain rfl := basis1 h
    exact .inl ⟨raises1.mp r, rfl⟩
  | no h r =>
    obtain rfl := basis1 h
    exact .inr ⟨Classical.byContradiction fun z => r (raises1.mpr z), rfl⟩
theorem basis3 {a b c : List Ent} {f : List Nat} (h : IsBasis [a, b, c] 3 f) : (¬ Line a b c ∧ f.length = 3) ∨ (Line a b c ∧ (a ≠ b ∨ a ≠ c) ∧ f.length = 2) ∨ (a = b ∧ a = c ∧ f.length = 1) := by
  cases h with
  | yes h r =>
    rcases basis2 h with ⟨n, rfl⟩ | ⟨rfl, rfl⟩
    · exact .inl ⟨raises2.mp r, rfl⟩
    · have r : c ≠ b := raises1.mp r
      exact .inr (.inl ⟨Line.same b c, .inr fun z => r z.symm, rfl⟩)
  | no h r =>
    rcases basis2 h with ⟨n, rfl⟩ | ⟨rfl, rfl⟩
    · exact .inr (.inl ⟨Classical.byContradiction fun z => r (raises2.mpr z), .inl fun z => n z.symm, rfl⟩)
    · have r : ¬ (c ≠ b) := fun z => r (raises1.mpr z)
      exact .inr (.inr ⟨rfl, (Classical.byContradiction r).symm, rfl⟩)
/-- what the law expects -/
def DueC (a b c : List Ent) (zl zd : Int) : Prop := (mixL ((dims [a, b, c]).filter nz) = true ∧ zl = 2 ∧ zd = -1) ∨
  (mixL ((dims [a, b, c]).filter nz) = false ∧ ((Line a b c ∧ zl = 1) ∨ (¬ Line a b c ∧ zl = 0)) ∧ ((a = b ∧ a = c ∧ zd = 1) ∨ (¬ (a = b ∧ a = c) ∧ zd = 3 - zl)))
theorem LineC.one {a b c : List Ent} {zl zd z : Int} (h : DueC a b c zl zd) (k : LineC [a, b, c] z) : z = zl := by
  rcases h with ⟨h1, h2, _⟩ | ⟨h1, h2, _⟩
  · rcases k with ⟨_, k⟩ | ⟨k, _⟩
    · rw [k, h2]
    · rw [h1] at k; cases k
  · rcases k with ⟨k, _⟩ | ⟨_, x, y, w, e, k⟩
    · rw [h1] at k; cases k
    · cases e
      rcases h2 with ⟨h2, e⟩ | ⟨h2, e⟩ <;> rcases k with ⟨k, e2⟩ | ⟨k, e2⟩
      · rw [e, e2]
      · exact absurd h2 k
      · exact absurd k h2
      · rw [e, e2]
theorem RankC.one {a b c : List Ent} {zl zd z : Int} (h : DueC a b c zl zd) (k : RankC [a, b, c] z) : z = zd := by
  rcases h with ⟨h1, _, h2⟩ | ⟨h1, h2, h3⟩
  · rcases k with ⟨_, k⟩ | ⟨k, _⟩
    · rw [k, h2]
    · rw [h1] at k; cases k
  · rcases k with ⟨k, _⟩ | ⟨_, f, hB, e⟩
    · rw [h1] at k; cases k
    · rcases basis3 hB with ⟨n, l⟩ | ⟨n, m, l⟩ | ⟨e1, e2, l⟩
      · rcases h2 with ⟨h2, _⟩ | ⟨_, e0⟩
        · exact absurd h2 n
        · rcases h3 with ⟨e1, e2, _⟩ | ⟨_, e3⟩
          · subst e1
            exact absurd (Line.same a c) n
          · omega
      · rcases h2 with ⟨_, e0⟩ | ⟨h2, _⟩
        · rcases h3 with ⟨e1, e2, _⟩ | ⟨_, e3⟩
          · rcases m with m | m
            · exact absurd e1 m
            · exact absurd e2 m
          · omega
        · exact absurd n h2
      · rcases h3 with ⟨_, _, e3⟩ | ⟨e3, _⟩
        · omega
        · exact absurd ⟨e1, e2⟩ e3
theorem DueC.swap {a b c : List Ent} {zl zd : Int} (h : DueC a b c zl zd) : DueC a c b zl zd := by
  have m := mix_perm (ess := [a, c, b]) (fss := [a, b, c]) fun es => by simp only [List.mem_cons, List.not_mem_nil, or_false]; exact ⟨fun h => by rcases h with h | h | h <;> simp [h], fun h => by rcases h with h | h | h <;> simp [h]⟩
  unfold DueC at *
  rw [m, ← Line.swap (a := a) (b := b) (c := c)]
  rcases h with h | ⟨h1, h2, h3⟩
  · exact .inl h
  · refine .inr ⟨h1, h2, ?_⟩
    rcases h3 with ⟨x, y, z⟩ | ⟨x, y⟩
    · exact .inl ⟨y, x, z⟩
    · exact .inr ⟨fun w => x ⟨w.2, w.1⟩, y⟩
theorem DueC.rot {a b c : List Ent} {zl zd : Int} (h : DueC a b c zl zd) : DueC b c a zl zd := by
  have m := mix_perm (ess := [b, c, a]) (fss := [a, b, c]) fun es => by simp only [List.mem_cons, List.not_mem_nil, or_false]; exact ⟨fun h => by rcases h with h | h | h <;> simp [h], fun h => by rcases h with h | h | h <;> simp [h]⟩
  unfold DueC at *
  rw [m, ← Line.rot (a := a) (b := b) (c := c)]
  rcases h with h | ⟨h1, h2, h3⟩
  · exact .inl h
  · refine .inr ⟨h1, h2, ?_⟩
    rcases h3 with ⟨x, y, z⟩ | ⟨x, y⟩
    · exact .inl ⟨x.symm.trans y, x.symm, z⟩
    · exact .inr ⟨fun w => x ⟨w.2.symm, w.2.symm.trans w.1⟩, y⟩
/-- the orders -/
def Perm3 (i j k : Nat) : Prop := (i = 0 ∧ j = 1 ∧ k = 2) ∨ (i = 0 ∧ j = 2 ∧ k = 1) ∨ (i = 1 ∧ j = 0 ∧ k = 2) ∨ (i = 1 ∧ j = 2 ∧ k = 0) ∨ (i = 2 ∧ j = 0 ∧ k = 1) ∨ (i = 2 ∧ j = 1 ∧ k = 0)
theorem DueC.perm {a b c : List Ent} {zl zd : Int} {i j k : Nat} (h : DueC a b c zl zd) (p : Perm3 i j k) : DueC ([a, b, c].getD i []) ([a, b, c].getD j []) ([a, b, c].getD k []) zl zd := by
  rcases p with ⟨rfl, rfl, rfl⟩ | ⟨rfl, rfl, rfl⟩ | ⟨rfl, rfl, rfl⟩ | ⟨rfl, rfl, rfl⟩ | ⟨rfl, rfl, rfl⟩ | ⟨rfl, rfl, rfl⟩
  · exact h
  · exact h.swap
  · exact h.swap.rot.rot
  · exact h.rot
  · exact h.rot.rot
  · exact h.rot.rot.swap
theorem Perm3.lt {i j k : Nat} (p : Perm3 i j k) : i < 3 ∧ j < 3 ∧ k < 3 := by
  unfold Perm3 at p
  omega

set_option Elab.async false
set_option linter.all false
set_option maxRecDepth 100000
set_option maxHeartbeats 4000000
theorem SR.lst {n : Nat} {H : Hp} {a : Addr} {xs : List V} {es : List Ent} (h : SR n es) (n1 : 1 ≤ n) (ha : H a = some (.lst xs)) (hE : Ents H xs es) : Lst H a xs es := ⟨ha, hE, by have := h.z; omega, h.ne n1⟩
section
variable {P : Program} {w : World} {K : PySem.W.Frag} {mg : Str → Option Value} {base : Heap}
def spRankQ : Sp := fun vs H Q _ => ∃ (a : Addr) (us : List V) (ess : List (List Ent)) (n : Nat), vs = [.ref a] ∧ H a = some (.lst us) ∧ RowsAt H us ess ∧ ess.length ≤ 100 ∧ 1 ≤ n ∧ n ≤ 3 ∧ (∀ es ∈ ess, SR n es) ∧ ∀ f H', IsBasis ess ess.length f → Same H H' → Q (.int (f.length : Int)) H'
theorem rankQ {M : Addr} : ∀ vs H Q E, spRankQ vs H Q E → spRank K M vs H Q E0 := fun vs H Q E ⟨a, us, ess, n, e, ha, hR, hz, n1, n3, hs, q⟩ => by
  refine ⟨a, us, ess, e, ha, hR, hz, fun es he => ⟨n, n1, n3, hs es he⟩, fun h => ?_, fun _ => q⟩
  rw [SR.mix n1 hs] at h
  cases h
def spLaw (K : PySem.W.Frag) : Sp := fun vs H Q _ => ∃ (a : Addr) (ns : List Int), vs = [.ref a] ∧ SqL K H a (ns.map V.int) ∧ ns.length ≤ 63 ∧ ∀ H', Q (.bl true) H'
theorem c_law {f : Addr} {fd : FuncData} (D : C8.Def K mg "law" s_law f fd) (b : Binds K fd ["_law_script"] []) (T : Bi mg) (c__law_cell : C8.Cal P w K mg base 1 "_law_cell" (spCell K) []) (c__law_draws : C8.Cal P w K mg base 1 "_law_draws" (spDraws K) []) (c__law_three : C8.Cal P w K mg base 4 "_law_three" (spThree K) []) (c__law_mixed : C8.Cal P w K mg base 1 "_law_mixed" spMixedL []) (c__law_cross : C8.Cal P w K mg base 3 "_law_cross" (spCross K) []) (c__law_minus : C8.Cal P w K mg base 3 "_law_minus" spMinus []) (c__law_mirror : C8.Cal P w K mg base 2 "_law_mirror" spMir [])
    (c__law_line_told : C8.Cal P w K mg base 9 "_law_line_told" (spTold LineC) []) (c__law_rank_told : C8.Cal P w K mg base 12 "_law_rank_told" (spTold RankC) []) (c__law_is_integer : C8.Cal P w K mg base 1 "_law_is_integer" spIsInt []) (c_rank : C8.Cal P w K mg base 11 "rank" spRankQ []) (c_on_one_line : C8.Cal P w K mg base 8 "on_one_line" (spLineQ K) []) : FnOk P w K mg base L2.CX0 13 f fd ["_law_script"] (spLaw K) := by
  refine C8.fn0 D.fn sc_law (fun vs H Q E h => ?_) (fun cdv A outer s H vs Q E hr h => ?_)
  · obtain ⟨a, ns, rfl, _⟩ := h
    rfl
  · obtain ⟨a, ns, rfl, ha, hlen, q⟩ := h
    refine ⟨_, (pss_cons (ps_set (i := 1) sc_law.nd rfl (Or.inl rfl) (C8.pe_c c__law_draws hr (by decide) (by rfl) (pa_cons (C8.pe_c c__law_cell hr (by decide) (by rfl) (pa_cons (pv 0) (pa_cons pe_int pa_nil))) (pa_cons (pe_lst (pa_cons pe_int (pa_cons pe_int (pa_cons pe_int (pa_cons pe_int (pa_cons pe_int (pa_cons pe_int (pa_cons pe_int pa_nil)))))))) pa_nil))))
  (pss_cons (ps_set (i := 2) sc_law.nd rfl (Or.inr rfl) (C8.pe_c c__law_three hr (by decide) (by rfl) (pa_cons (pv 0) (pa_cons (pv 1) pa_nil))))
  (pss_cons (ps_set (i := 3) sc_law.nd rfl (Or.inl rfl) pe_int)
  (pss_cons (ps_set (i := 4) sc_law.nd rfl (Or.inl rfl) (pe_un un_neg pe_int))
  (C8.pss_cut (ps_if (pt_not (pt_val (C8.pe_c c__law_mixed hr (by decide) (by rfl) (pa_cons (pv 2) pa_nil)))) (pss_cons (ps_set (i := 6) sc_law.nd rfl (Or.inl rfl) (C8.pe_c c__law_cross hr (by decide) (by rfl) (pa_cons (C8.pe_c c__law_minus hr (by decide) (by rfl) (pa_cons (pe_ix ix_list (pv 2) pe_int (fun _ _ => rfl)) (pa_cons (pe_ix ix_list (pv 2) pe_int (fun _ _ => rfl)) pa_nil))) (pa_cons (C8.pe_c c__law_minus hr (by decide) (by rfl) (pa_cons (pe_ix ix_list (pv 2) pe_int (fun _ _ => rfl)) (pa_cons (pe_ix ix_list (pv 2) pe_int (fun _ _ => rfl)) pa_nil))) pa_nil))))
  (pss_cons (ps_set (i := 3) sc_law.nd rfl (Or.inl rfl) (pe_callTy call_int1 (by rfl) T.n_int OT.b_int (pa_cons (pe_cmpR (op_eqD hr.units) (pv 6) (C8.pe_c c__law_mirror hr (by decide) (by rfl) (pa_cons (pv 6) pa_nil)) (nomark _)) pa_nil)))
  (pss_cons (ps_set (i := 4) sc_law.nd rfl (Or.inl rfl) (pe_op op_sub pe_int (pv 3)))
  (pss_one (ps_if (PW.pt (pw_and (pt_cmpR (op_eqD hr.units) (pe_ix ix_list (pv 2) pe_int (fun _ _ => rfl)) (pe_ix ix_list (pv 2) pe_int (fun _ _ => rfl)) (nomark _)) (pw_and1 (pt_cmpR (op_eqD hr.units) (pe_ix ix_list (pv 2) pe_int (fun _ _ => rfl)) (pe_ix ix_list (pv 2) pe_int (fun _ _ => rfl)) (nomark _))))) (pss_one (ps_set (i := 4) sc_law.nd rfl (Or.inl rfl) pe_int)) pss_nil))))) pss_nil)
  (pss_cons (ps_for PassesOwn.never rfl (pi_list (pe_lst (pa_cons (pe_lst (pa_cons pe_int (pa_cons pe_int (pa_cons pe_int pa_nil)))) (pa_cons (pe_lst (pa_cons pe_int (pa_cons pe_int (pa_cons pe_int pa_nil)))) (pa_cons (pe_lst (pa_cons pe_int (pa_cons pe_int (pa_cons pe_int pa_nil)))) (pa_cons (pe_lst (pa_cons pe_int (pa_cons pe_int (pa_cons pe_int pa_nil)))) (pa_cons (pe_lst (pa_cons pe_int (pa_cons pe_int (pa_cons pe_int pa_nil)))) (pa_cons (pe_lst (pa_cons pe_int (pa_cons pe_int (pa_cons pe_int pa_nil)))) pa_nil)))))))) (pg_name (i := 5) sc_law.nd rfl (Or.inl rfl)) (pss_cons (ps_setLc (i := 7) (own := [("_law_k", 10)]) (g := (gName 10)) (tt := tYes) rfl sc_law.nd rfl rfl (sw_true rfl rfl rfl rfl) (pi_list (pv 5)) (blkOk_by (N := ["_law_script", "_law_kinds", "_law_rows", "_law_line", "_law_due", "_law_order", "_law_cross_here", "_law_asked", "_law_same", "_law_told", "_law_k"]) (sc := C8.fnScope s_law) (by decide +kernel)) (fun _ _ _ _ _ => (pg_name (i := 10) sc_law.nd rfl (Or.inl rfl))) (fun _ _ _ _ _ => pts_nil) (fun _ _ _ _ _ => (pe_ix (show IxR _ (rIxL K) from ix_list) (pv 2) (pv 10) (fun _ _ => rfl))))
  (pss_one (ps_if (PW.pt (pw_or (pt_cmpR op_ne (C8.pe_c c__law_line_told hr (by decide) (by rfl) (pa_cons (pv 7) pa_nil)) (pv 3) (nomark _)) (pw_or1 (pt_cmpR op_ne (C8.pe_c c__law_rank_told hr (by decide) (by rfl) (pa_cons (pv 7) pa_nil)) (pv 4) (nomark _))))) (pss_one (ps_ret pe_bl)) pss_nil))))
  (C8.pss_cut (ps_if (pt_cmpR op_lt (pv 3) pe_int (nomark _)) (pss_cons (ps_set (i := 8) sc_law.nd rfl (Or.inl rfl) (pe_callTy call_list_of (by rfl) T.n_list OT.b_list (pa_cons (pe_ix ix_list (pv 2) pe_int (fun _ _ => rfl)) pa_nil)))
  (pss_cons (ps_set (i := 9) sc_law.nd rfl (Or.inl rfl) (C8.pe_c c_rank hr (by decide) (by rfl) (pa_cons (pe_lst (pa_cons (pv 8) (pa_cons (pv 8) pa_nil))) pa_nil)))
  (pss_cons (ps_if (PW.pt (pw_or (pt_not (pt_val (C8.pe_c c__law_is_integer hr (by decide) (by rfl) (pa_cons (pv 9) pa_nil)))) (pw_or1 (pt_cmpR op_ne (pv 9) pe_int (nomark _))))) (pss_one (ps_ret pe_bl)) pss_nil)
  (pss_one (ps_if (PW.pt (pw_or (pt_cmpR op_notBl (C8.pe_c c_on_one_line hr (by decide) (by rfl) (pa_cons (pv 8) (pa_cons (pv 8) (pa_cons (pe_callTy call_list_of (by rfl) T.n_list OT.b_list (pa_cons (pe_ix ix_list (pv 2) pe_int (fun _ _ => rfl)) pa_nil)) pa_nil)))) pe_bl (nomark _)) (pw_or1 (pt_cmpR (op_neD hr.units) (pv 8) (pe_ix ix_list (pv 2) pe_int (fun _ _ => rfl)) (nomark _))))) (pss_one (ps_ret pe_bl)) pss_nil))))) pss_nil)
  (pss_one (ps_ret (pe_and (pe_cmpR op_eq (C8.pe_c c__law_line_told hr (by decide) (by rfl) (pa_cons (pv 2) pa_nil)) (pv 3) (nomark _)) (pe_one (pe_cmpR op_eq (C8.pe_c c__law_rank_told hr (by decide) (by rfl) (pa_cons (pv 2) pa_nil)) (pv 4) (nomark _))))))))))))), ?_⟩
    walk_at "st"
    refine ⟨a, ns, 0, rfl, ha, by decide, fun c0 => ?_⟩
    walk_at "st"
    refine ⟨by walk_at "sz", fun pz npz => ?_⟩; generalize eH1 : upd _ pz _ = H1; have s1 := AU.newS npz eH1; have hpz := AU.newH eH1; clear eH1
    have hpz' : H1 pz = some (.lst (([3, 9, 2, 8, 3, 3, 12] : List Int).map V.int)) := hpz
    walk_at "st"
    refine ⟨pz, _, c0, rfl, AU.sqL hpz', by decide, by decide, fun ds H2 pk hin s2 npk hpk => ?_⟩
    obtain ⟨k0, k1, k2, k3, k4, k5, k6, rfl⟩ : ∃ k0 k1 k2 k3 k4 k5 k6, ds = [k0, k1, k2, k3, k4, k5, k6] := by
      match ds, hin.1 with
      | [k0, k1, k2, k3, k4, k5, k6], _ => exact ⟨k0, k1, k2, k3, k4, k5, k6, rfl⟩
    have ha2 := (s1.trans s2).seq ha
    walk_at "st"
    refine ⟨a, pk, ns, k0, k1, k2, k3, k4, k5, k6, rfl, ha2, hpk, hin.2 0 _ _ rfl rfl, hin.2 1 _ _ rfl rfl, hin.2 2 _ _ rfl rfl, hin.2 3 _ _ rfl rfl, hin.2 4 _ _ rfl rfl, hin.2 5 _ _ rfl rfl, hin.2 6 _ _ rfl rfl, fun pr us ess H3 hl3 hsr s3 hpr hR => ?_⟩
    clear hin hpz hpz' ha2 ha
    obtain ⟨r0, r1, r2, rfl⟩ := len3 hl3
    obtain ⟨u0, u1, u2, rfl⟩ : ∃ a b c, us = [a, b, c] := len3 (hR.len.trans hl3)
    cases hR with
    | cons h0 e0 hR =>
    cases hR with
    | cons h1 e1 hR =>
    cases hR with
    | cons h2 e2 hR =>
    cases hR
    rename_i a0 x0 a1 x1 a2 x2
    have hR : RowsAt H3 [.ref a0, .ref a1, .ref a2] [r0, r1, r2] := .cons h0 e0 (.cons h1 e1 (.cons h2 e2 .nil))
    have i0 : atI [V.ref a0, V.ref a1, V.ref a2] 0 = some (.ref a0) := rfl
    have i1 : atI [V.ref a0, V.ref a1, V.ref a2] 1 = some (.ref a1) := rfl
    have i2 : atI [V.ref a0, V.ref a1, V.ref a2] 2 = some (.ref a2) := rfl
    walk_at "st"
    refine ⟨fun σ' H' => ∃ (zl zd : Int) (y6 : Option V), σ' = [some (.ref a), some (.ref pk), some (.ref pr), some (.int zl), some (.int zd), none, y6, none, none, none, none] ∧ Same H3 H' ∧ DueC r0 r1 r2 zl zd, ?_, ?_⟩
    · walk_at "st"
      refine ⟨pr, _, _, rfl, hpr, hR, by show 3 ≤ 100; decide, fun es he => by obtain ⟨n, n1, n3, h⟩ := hsr es he; exact ⟨n, n1, n3, h.d⟩, fun H4 s4 => ?_⟩
      cases hm : mixL ((dims [r0, r1, r2]).filter nz) with
      | true =>
        walk_at "st"
        exact ⟨2, -1, none, rfl, s4, .inl ⟨hm, rfl, rfl⟩⟩
      | false =>
        obtain ⟨n, n1, n3, hs⟩ := mix_none hm hsr
        have S0 := hs r0 (by simp)
        have S1 := hs r1 (by simp)
        have S2 := hs r2 (by simp)
        have hpr4 := s4 _ _ hpr
        have dd : ∀ {es fs g d : List Ent}, SR n es → SR n fs → RowIs g (scaleL fs (-1)) → RowIs d (es ++ g) → DR n d ∧ ∀ q, numAt d q = numAt (difL es fs) q := fun {es fs g d} h k hg hd => dif_row h k (hd.congr fun q => by rw [numAt_app, numAt_app, hg.s, scaleP_neg])
        walk_at "st"
        refine ⟨a1, a0, x1, x0, r1, r0, rfl, S1.lst n1 (s4 _ _ h1) (e1.mono s4), S0.lst n1 (s4 _ _ h0) (e0.mono s4), fun g5 hg5 H5 s5 d5 p6 w6 H6 hd5 s6 np6 hp6 hE6 => ?_⟩
        obtain ⟨D5, N5⟩ := dd S1 S0 hg5 hd5
        have s46 := s4.trans (s5.trans s6)
        have hpr6 := s46 _ _ hpr
        walk_at "st"
        refine ⟨a2, a0, x2, x0, r2, r0, rfl, S2.lst n1 (s46 _ _ h2) (e2.mono s46), S0.lst n1 (s46 _ _ h0) (e0.mono s46), fun g7 hg7 H7 s7 d7 p8 w8 H8 hd7 s8 np8 hp8 hE8 => ?_⟩
        obtain ⟨D7, N7⟩ := dd S2 S0 hg7 hd7
        have s78 := s7.trans s8
        have z5 := D5.z
        have z7 := D7.z
        have L5 : Lst H8 p6 w6 d5 := ⟨s78 _ _ hp6, hE6.mono s78, by omega, fun e he z => by have := D5.d e he; rw [z] at this; have : 0 = n := this; omega⟩
        have L7 : Lst H8 p8 w8 d7 := ⟨hp8, hE8, by omega, fun e he z => by have := D7.d e he; rw [z] at this; have : 0 = n := this; omega⟩
        refine ⟨p6, p8, w6, w8, d5, d7, n, rfl, L5, L7, D7.v, D5.d, D7.d, by omega, Nat.le_trans (Nat.mul_le_mul z5 z7) (by decide), D7.u, fun r p9 w9 H9 hr9 s9 np9 hp9 hE9 => ?_⟩
        have hdr : DimN n r := DimN.of hr9 (DimN.times D5.d fun e he => by
          obtain ⟨y, hy, rfl⟩ := List.mem_map.mp he
          show (negP y.1).length = n
          rw [negP_len, D7.d y hy])
        have hrl := hr9.len
        rw [timesL_len, show (mirL d7).length = d7.length from List.length_map _] at hrl
        have hrl2 := Nat.le_trans hrl (Nat.mul_le_mul z5 z7)
        walk_at "st"
        refine ⟨p9, w9, r, rfl, ⟨hp9, hE9, by omega, fun e he z => by have := hdr e he; rw [z] at this; have : 0 = n := this; omega⟩, fun e he => by rw [hdr e he]; omega, fun m pm wm Hm hm2 sm npm hpm hEm => ?_⟩
        have em : m = mirP r := hm2.one (mirP_is hr9.v hdr)
        subst em
        refine AU.eqD_ ((hE9.mono sm).dp (AU.sqL (sm _ _ hp9))) (hEm.dp (AU.sqL hpm)) (shaped_row _) (shaped_row _) ?_
        rw [eqv_row]
        have hline : r = mirP r ↔ Line r0 r1 r2 := line_row N5 N7 hr9 hdr
        have sAll : Same H3 Hm := s46.trans (s78.trans (s9.trans sm))
        have hprm := sAll _ _ hpr
        have E0 := (e0.mono sAll).dp (K := K) (AU.sqL (sAll _ _ h0))
        have E1 := (e1.mono sAll).dp (K := K) (AU.sqL (sAll _ _ h1))
        have E2 := (e2.mono sAll).dp (K := K) (AU.sqL (sAll _ _ h2))
        obtain ⟨zl, hzl, hzd⟩ : ∃ zl : Int, (if decide (r = mirP r) = true then (1 : Int) else 0) = zl ∧ ((Line r0 r1 r2 ∧ zl = 1) ∨ (¬ Line r0 r1 r2 ∧ zl = 0)) := by
          by_cases c : r = mirP r
          · exact ⟨1, by rw [decide_eq_true c]; rfl, .inl ⟨hline.mp c, rfl⟩⟩
          · exact ⟨0, by rw [decide_eq_false c]; rfl, .inr ⟨fun z => c (hline.mpr z), rfl⟩⟩
        walk_at "st"
        rw [hzl]
        walk_at "st"
        refine AU.eqD_ E0 E1 (shaped_row _) (shaped_row _) ?_
        rw [eqv_row]
        by_cases c1 : r0 = r1
        · rw [decide_eq_true c1]
          walk_at "st"
          refine AU.eqD_ E0 E2 (shaped_row _) (shaped_row _) ?_
          rw [eqv_row]
          by_cases c2 : r0 = r2
          · rw [decide_eq_true c2]
            walk_at "st"
            exact ⟨zl, 1, _, rfl, sAll, .inr ⟨hm, hzd, .inl ⟨c1, c2, rfl⟩⟩⟩
          · rw [decide_eq_false c2]
            walk_at "st"
            exact ⟨zl, 3 - zl, _, rfl, sAll, .inr ⟨hm, hzd, .inr ⟨fun z => c2 z.2, rfl⟩⟩⟩
        · rw [decide_eq_false c1]
          walk_at "st"
          exact ⟨zl, 3 - zl, _, rfl, sAll, .inr ⟨hm, hzd, .inr ⟨fun z => c1 z.1, rfl⟩⟩⟩
    rintro σ' H4 ⟨zl, zd, y6, rfl, s4, hdue⟩
    walk_at "st"
    refine ⟨by walk_at "sz", fun o0 no0 => ?_⟩; generalize eG0 : upd _ o0 _ = G0; have t0 := AU.newS no0 eG0; have ho0 := AU.newH eG0; clear eG0
    walk_at "st"
    refine ⟨by walk_at "sz", fun o1 no1 => ?_⟩; generalize eG1 : upd _ o1 _ = G1; have t1 := AU.newS no1 eG1; have ho1 := AU.newH eG1; clear eG1
    walk_at "st"
    refine ⟨by walk_at "sz", fun o2 no2 => ?_⟩; generalize eG2 : upd _ o2 _ = G2; have t2 := AU.newS no2 eG2; have ho2 := AU.newH eG2; clear eG2
    walk_at "st"
    refine ⟨by walk_at "sz", fun o3 no3 => ?_⟩; generalize eG3 : upd _ o3 _ = G3; have t3 := AU.newS no3 eG3; have ho3 := AU.newH eG3; clear eG3
    walk_at "st"
    refine ⟨by walk_at "sz", fun o4 no4 => ?_⟩; generalize eG4 : upd _ o4 _ = G4; have t4 := AU.newS no4 eG4; have ho4 := AU.newH eG4; clear eG4
    walk_at "st"
    refine ⟨by walk_at "sz", fun o5 no5 => ?_⟩; generalize eG5 : upd _ o5 _ = G5; have t5 := AU.newS no5 eG5; have ho5 := AU.newH eG5; clear eG5
    walk_at "st"
    refine ⟨by walk_at "sz", fun ol nol => ?_⟩; generalize eG6 : upd _ ol _ = G6; have t6 := AU.newS nol eG6; have hol := AU.newH eG6; clear eG6
    have u5 := t6
    have u4 := t5.trans u5
    have u3 := t4.trans u4
    have u2 := t3.trans u3
    have u1 := t2.trans u2
    have u0 := t1.trans u1
    have hO : ∀ (i : Nat) (x : V), ([V.ref o0, V.ref o1, V.ref o2, V.ref o3, V.ref o4, V.ref o5] : List V)[i]? = some x → ∃ (o : Addr) (i j k : Nat), x = .ref o ∧ G6 o = some (.lst [.int (i : Int), .int (j : Int), .int (k : Int)]) ∧ Perm3 i j k := fun i x hx => by
      match i, hx with
      | 0, hx => cases hx; exact ⟨o0, 0, 1, 2, rfl, u0 _ _ ho0, .inl ⟨rfl, rfl, rfl⟩⟩
      | 1, hx => cases hx; exact ⟨o1, 0, 2, 1, rfl, u1 _ _ ho1, .inr (.inl ⟨rfl, rfl, rfl⟩)⟩
      | 2, hx => cases hx; exact ⟨o2, 1, 0, 2, rfl, u2 _ _ ho2, .inr (.inr (.inl ⟨rfl, rfl, rfl⟩))⟩
      | 3, hx => cases hx; exact ⟨o3, 1, 2, 0, rfl, u3 _ _ ho3, .inr (.inr (.inr (.inl ⟨rfl, rfl, rfl⟩)))⟩
      | 4, hx => cases hx; exact ⟨o4, 2, 0, 1, rfl, u4 _ _ ho4, .inr (.inr (.inr (.inr (.inl ⟨rfl, rfl, rfl⟩))))⟩
      | 5, hx => cases hx; exact ⟨o5, 2, 1, 0, rfl, u5 _ _ ho5, .inr (.inr (.inr (.inr (.inr ⟨rfl, rfl, rfl⟩))))⟩
      | i + 6, hx => simp at hx
    have sG : Same H3 G6 := s4.trans (t0.trans u0)
    clear u0 u1 u2 u3 u4 u5 t0 t1 t2 t3 t4 t5 t6 ho0 ho1 ho2 ho3 ho4 ho5
    have hR6 := hR.mono sG
    have hpr6 := sG _ _ hpr
    walk_at "st"
    refine ⟨ol, rfl, ⟨_, AU.sqL hol⟩, ?_⟩
    refine for_list (K := K) (xs := [V.ref o0, V.ref o1, V.ref o2, V.ref o3, V.ref o4, V.ref o5]) (fun i σ G => ∃ y5 y7 : Option V, σ = [some (.ref a), some (.ref pk), some (.ref pr), some (.int zl), some (.int zd), y5, y6, y7, none, none, none] ∧ Same G6 G) ⟨none, none, rfl, Same.refl _⟩ ?_ ?_ ?_
    · rintro i σ G _ ⟨_, _, _, tG⟩
      exact AU.sqL (tG _ _ hol)
    · rintro i x σ G hx ⟨y5, y7, rfl, tG⟩
      obtain ⟨o, i, j, k, rfl, ho, hP⟩ := hO i x hx
      have hoG := tG _ _ ho
      have hprG := tG _ _ hpr6
      have hRG := hR6.mono tG
      have hlt := hP.lt
      walk_at "st"
      refine ⟨o, rfl, ⟨_, AU.sqL hoG⟩, fun D1 nD1 => ?_⟩
      refine lc_list (K := K) (xs := [V.int (i : Int), V.int (j : Int), V.int (k : Int)]) (fun m F => Same G F ∧ ∃ ws, F D1 = some (.lst ws) ∧ RowsAt G ws (([i, j, k].take m).map fun k => [r0, r1, r2].getD k [])) ⟨same_upd nD1, [], upd_same, .nil⟩ ?_ ?_ ?_
      · rintro m F _ ⟨sF, _⟩
        exact AU.sqL (sF _ _ hoG)
      · rintro m x F hxm ⟨sF, ws, hD, hW⟩
        have hml : m < 3 := (List.getElem?_eq_some_iff.mp hxm).1
        obtain ⟨v, rfl, hv, hv3⟩ : ∃ v : Nat, x = .int (v : Int) ∧ ([i, j, k] : List Nat)[m]? = some v ∧ v < 3 := by
          match m, hxm with
          | 0, hx => cases hx; exact ⟨i, rfl, rfl, hlt.1⟩
          | 1, hx => cases hx; exact ⟨j, rfl, rfl, hlt.2.1⟩
          | 2, hx => cases hx; exact ⟨k, rfl, rfl, hlt.2.2⟩
        obtain ⟨av, xv, hav, hav2, hEv⟩ := hRG.at_ (i := v) hv3
        have atv : atI [V.ref a0, V.ref a1, V.ref a2] (v : Int) = some (.ref av) := AU.atN (j := v) rfl hav
        have hprF := sF _ _ hprG
        have hwl := hW.len
        rw [List.length_map, List.length_take] at hwl
        refine ⟨rfl, tYes_of ?_⟩
        walk_at "st"
        refine ⟨ws, hD, small100k (by omega), same_mut sF nD1, ws ++ [.ref av], upd_same, ?_⟩
        rw [List.take_add_one, hv, List.map_append]
        show RowsAt _ _ (_ ++ [[r0, r1, r2].getD v []])
        rw [getD_at (List.getElem?_eq_getElem (show v < [r0, r1, r2].length from hv3))]
        exact hW.snoc hav2 hEv
      · rintro F ⟨sF, ws, hD, hW⟩
        have hW : RowsAt G ws [[r0, r1, r2].getD i [], [r0, r1, r2].getD j [], [r0, r1, r2].getD k []] := hW
        have hdp := hdue.perm hP
        have hsp : ∀ es ∈ [[r0, r1, r2].getD i [], [r0, r1, r2].getD j [], [r0, r1, r2].getD k []], ∃ n, 1 ≤ n ∧ n ≤ 3 ∧ SR n es := fun es he => by
          have key : ∀ v, v < 3 → ∃ n, 1 ≤ n ∧ n ≤ 3 ∧ SR n ([r0, r1, r2].getD v []) := fun v hv => by
            rw [getD_at (List.getElem?_eq_getElem (show v < [r0, r1, r2].length from hv))]
            exact hsr _ (List.getElem_mem _)
          simp only [List.mem_cons, List.not_mem_nil, or_false] at he
          rcases he with rfl | rfl | rfl
          · exact key i hlt.1
          · exact key j hlt.2.1
          · exact key k hlt.2.2
        walk_at "st"
        refine ⟨D1, ws, _, rfl, hD, hW.mono sF, rfl, hsp, fun z H7 s7 hz => ?_⟩
        obtain rfl := hz.one hdp
        have hD7 := s7 _ _ hD
        walk_at "st"
        rw [decide_eq_true rfl]
        walk_at "st"
        refine ⟨D1, ws, _, rfl, hD7, hW.mono (sF.trans s7), rfl, hsp, fun z2 H8 s8 hz2 => ?_⟩
        obtain rfl := hz2.one hdp
        walk_at "st"
        rw [decide_eq_true rfl]
        walk_at "st"
        exact ⟨_, _, rfl, tG.trans (sF.trans (s7.trans s8))⟩
    · rintro σ G ⟨y5, y7, rfl, tG⟩
      have sAll : Same H3 G := sG.trans tG
      have hprG := sAll _ _ hpr
      have hRG := hR.mono sAll
      have h0G := sAll _ _ h0
      have h2G := sAll _ _ h2
      walk_at "st"
      refine ⟨fun σ' H' => ∃ y8 y9 : Option V, σ' = [some (.ref a), some (.ref pk), some (.ref pr), some (.int zl), some (.int zd), y5, y6, y7, y8, y9, none] ∧ Same H3 H', ?_, ?_⟩
      · walk_at "st"
        by_cases c : zl < 2
        · rw [decide_eq_true c]
          obtain ⟨hm, hdue2⟩ : mixL ((dims [r0, r1, r2]).filter nz) = false ∧ True := by
            rcases hdue with ⟨_, e, _⟩ | ⟨h, _⟩
            · omega
            · exact ⟨h, trivial⟩
          obtain ⟨n, n1, n3, hs⟩ := mix_none hm hsr
          have S0 := hs r0 (by simp)
          have S2 := hs r2 (by simp)
          walk_at "st"
          intro ps nps; generalize eHs : upd _ ps _ = Hs; have ss := AU.newS nps eHs; have hps := AU.newH eHs; clear eHs
          have E0s := e0.mono (sAll.trans ss)
          walk_at "st"
          refine ⟨by walk_at "sz", fun pl npl => ?_⟩; generalize eHl : upd _ pl _ = Hl; have sl := AU.newS npl eHl; have hpl := AU.newH eHl; clear eHl
          have hpsl := sl _ _ hps
          refine ⟨pl, _, [r0, r0], n, rfl, hpl, .cons hpsl (E0s.mono sl) (.cons hpsl (E0s.mono sl) .nil), by show 2 ≤ 100; decide, n1, n3, fun es he => ?_, fun f H' hB s' => ?_⟩
          · simp only [List.mem_cons, List.not_mem_nil, or_false, or_self] at he
            rw [he]
            exact S0
          obtain rfl : f = [0] := by
            rcases basis2 hB with ⟨z, _⟩ | ⟨_, e⟩
            · exact absurd rfl z
            · exact e
          have hprl := (ss.trans (sl.trans s')) _ _ hprG
          have h2l := (ss.trans (sl.trans s')) _ _ h2G
          have hpsl' := s' _ _ hpsl
          walk_at "st"
          refine ⟨_, rfl, ?_⟩
          walk_at "st"
          rw [decide_eq_true (show ((([0] : List Nat).length : Nat) : Int) = 1 from rfl)]
          walk_at "st"
          intro p2 np2; generalize eHp : upd _ p2 _ = Hp; have sp := AU.newS np2 eHp; have hp2 := AU.newH eHp; clear eHp
          have sX : Same H3 Hp := sAll.trans (ss.trans (sl.trans (s'.trans sp)))
          have E0p := e0.mono sX
          have hps2 := sp _ _ hpsl'
          walk_at "st"
          refine ⟨ps, ps, p2, x0, x0, x2, r0, r0, r2, n, rfl, hps2, E0p, hps2, E0p, hp2, e2.mono sX, n1, n3, S0, S0, S2, fun t Ht st ht => ?_⟩
          obtain rfl : t = true := ht.mpr (Line.same r0 r2)
          have sY := sX.trans st
          have hprt := sY _ _ hpr
          have hpst := st _ _ hps2
          walk_at "st"
          refine ⟨true, true, rfl, rfl, ?_⟩
          rw [decide_eq_true (rfl : true = true)]
          walk_at "st"
          refine AU.neD_ ((e0.mono sY).dp (AU.sqL hpst)) ((e0.mono sY).dp (AU.sqL (sY _ _ h0))) (shaped_row _) (shaped_row _) ?_
          rw [eqv_row, decide_eq_true rfl]
          walk_at "st"
          exact ⟨_, _, rfl, sY⟩
        · rw [decide_eq_false c]
          walk_at "st"
          exact ⟨_, _, rfl, sAll⟩
      rintro σ' H9 ⟨y8, y9, rfl, s9⟩
      walk_at "st"
      refine ⟨pr, _, _, rfl, s9 _ _ hpr, hR.mono s9, rfl, hsr, fun z H7 s7 hz => ?_⟩
      obtain rfl := hz.one hdue
      have s97 := s9.trans s7
      walk_at "st"
      refine ⟨pr, _, _, rfl, s97 _ _ hpr, hR.mono s97, rfl, hsr, fun z2 H8 s8 hz2 => ?_⟩
      obtain rfl := hz2.one hdue
      walk_at "st"
      exact q H8
end

set_option Elab.async false
set_option linter.all false
set_option maxRecDepth 100000
set_option maxHeartbeats 4000000
theorem all_mk {l : PySem.W.OpenLaw} {w : World} {K : PySem.W.Frag} {h : Heap} {mg : Str → Option Value} {fa : Addr} {f_places_length f_same_lengths f_same_dimension f_bounds f_product_sizes f_longest f_digit_bits f_is_crowded f_digit_at f_place_at f_joined_digits f_low_digit f_split_digits f_great_integer f_crowded_product f_row_of f_gather f_reach f_key_base f_key_of f_place_of f_keyed f_unkeyed f_add f_subtract f_negate f_scale f_multiply f_mirror f_is_symmetric f_cross_table f_on_one_line f_raises_rank f_basis f_rank f__law_cell f__law_draws f__law_is_integer f__law_plus f__law_back f__law_row f__law_add f__law_scaled f__law_minus f__law_times f__law_mirror f__law_moved f__law_cross f__law_is_error f__law_sparse f__law_turned f__law_mixed f__law_is_mixed f__law_far f__law_changed f__law_three f__law_line_told f__law_rank_told f_law f_te B M Z O : Addr} (X : K.In h) (G : h.Ns mainGlobals mg) (hfa : mg "law" = some (.ref fa))
    {tk_FEW : Tok}
    {od_places_length an_places_length : Option Addr} {sl_places_length : Array (Option Value)} {oc_places_length kV_places_length dc_places_length pm_places_length cd_places_length ct_places_length : Value}
    {od_same_lengths an_same_lengths : Option Addr} {sl_same_lengths : Array (Option Value)} {oc_same_lengths kV_same_lengths dc_same_lengths pm_same_lengths cd_same_lengths ct_same_lengths : Value}
    {od_same_dimension an_same_dimension : Option Addr} {sl_same_dimension : Array (Option Value)} {oc_same_dimension kV_same_dimension dc_same_dimension pm_same_dimension cd_same_dimension ct_same_dimension : Value}
    {TD_same_dimension A0_same_dimension : Addr} {to_same_dimension uo_same_dimension : Option Addr} {tn_same_dimension un_same_dimension : Nat} {ts_same_dimension us_same_dimension : Array (Option Value)}
    {tc_same_dimension : Value}
    {od_bounds an_bounds : Option Addr} {sl_bounds : Array (Option Value)} {oc_bounds kV_bounds dc_bounds pm_bounds cd_bounds ct_bounds : Value}
    {od_product_sizes an_product_sizes : Option Addr} {sl_product_sizes : Array (Option Value)} {oc_product_sizes kV_product_sizes dc_product_sizes pm_product_sizes cd_product_sizes ct_product_sizes : Value}
    {od_longest an_longest : Option Addr} {sl_longest : Array (Option Value)} {oc_longest kV_longest dc_longest pm_longest cd_longest ct_longest : Value}
    {od_digit_bits an_digit_bits : Option Addr} {sl_digit_bits : Array (Option Value)} {oc_digit_bits kV_digit_bits dc_digit_bits pm_digit_bits cd_digit_bits ct_digit_bits : Value}
    {od_is_crowded an_is_crowded : Option Addr} {sl_is_crowded : Array (Option Value)} {oc_is_crowded kV_is_crowded dc_is_crowded pm_is_crowded cd_is_crowded ct_is_crowded : Value}
    {od_digit_at an_digit_at : Option Addr} {sl_digit_at : Array (Option Value)} {oc_digit_at kV_digit_at dc_digit_at pm_digit_at cd_digit_at ct_digit_at : Value}
    {od_place_at an_place_at : Option Addr} {sl_place_at : Array (Option Value)} {oc_place_at kV_place_at dc_place_at pm_place_at cd_place_at ct_place_at : Value}
    {od_joined_digits an_joined_digits : Option Addr} {sl_joined_digits : Array (Option Value)} {oc_joined_digits kV_joined_digits dc_joined_digits pm_joined_digits cd_joined_digits ct_joined_digits : Value}
    {od_low_digit an_low_digit : Option Addr} {sl_low_digit : Array (Option Value)} {oc_low_digit kV_low_digit dc_low_digit pm_low_digit cd_low_digit ct_low_digit : Value}
    {od_split_digits an_split_digits : Option Addr} {sl_split_digits : Array (Option Value)} {oc_split_digits kV_split_digits dc_split_digits pm_split_digits cd_split_digits ct_split_digits : Value}
    {od_great_integer an_great_integer : Option Addr} {sl_great_integer : Array (Option Value)} {oc_great_integer kV_great_integer dc_great_integer pm_great_integer cd_great_integer ct_great_integer : Value}
    {od_crowded_product an_crowded_product : Option Addr} {sl_crowded_product : Array (Option Value)} {oc_crowded_product kV_crowded_product dc_crowded_product pm_crowded_product cd_crowded_product ct_crowded_product : Value}
    {od_row_of an_row_of : Option Addr} {sl_row_of : Array (Option Value)} {oc_row_of kV_row_of dc_row_of pm_row_of cd_row_of ct_row_of : Value}
    {od_gather an_gather : Option Addr} {sl_gather : Array (Option Value)} {oc_gather kV_gather dc_gather pm_gather cd_gather ct_gather : Value}
    {od_reach an_reach : Option Addr} {sl_reach : Array (Option Value)} {oc_reach kV_reach dc_reach pm_reach cd_reach ct_reach : Value}
    {od_key_base an_key_base : Option Addr} {sl_key_base : Array (Option Value)} {oc_key_base kV_key_base dc_key_base pm_key_base cd_key_base ct_key_base : Value}
    {od_key_of an_key_of : Option Addr} {sl_key_of : Array (Option Value)} {oc_key_of kV_key_of dc_key_of pm_key_of cd_key_of ct_key_of : Value}
    {od_place_of an_place_of : Option Addr} {sl_place_of : Array (Option Value)} {oc_place_of kV_place_of dc_place_of pm_place_of cd_place_of ct_place_of : Value}
    {od_keyed an_keyed : Option Addr} {sl_keyed : Array (Option Value)} {oc_keyed kV_keyed dc_keyed pm_keyed cd_keyed ct_keyed : Value}
    {od_unkeyed an_unkeyed : Option Addr} {sl_unkeyed : Array (Option Value)} {oc_unkeyed kV_unkeyed dc_unkeyed pm_unkeyed cd_unkeyed ct_unkeyed : Value}
    {od_add an_add : Option Addr} {sl_add : Array (Option Value)} {oc_add kV_add dc_add pm_add cd_add ct_add : Value}
    {od_subtract an_subtract : Option Addr} {sl_subtract : Array (Option Value)} {oc_subtract kV_subtract dc_subtract pm_subtract cd_subtract ct_subtract : Value}
    {od_negate an_negate : Option Addr} {sl_negate : Array (Option Value)} {oc_negate kV_negate dc_negate pm_negate cd_negate ct_negate : Value}
    {od_scale an_scale : Option Addr} {sl_scale : Array (Option Value)} {oc_scale kV_scale dc_scale pm_scale cd_scale ct_scale : Value}
    {od_multiply an_multiply : Option Addr} {sl_multiply : Array (Option Value)} {oc_multiply kV_multiply dc_multiply pm_multiply cd_multiply ct_multiply : Value}
    {od_mirror an_mirror : Option Addr} {sl_mirror : Array (Option Value)} {oc_mirror kV_mirror dc_mirror pm_mirror cd_mirror ct_mirror : Value}
    {od_is_symmetric an_is_symmetric : Option Addr} {sl_is_symmetric : Array (Option Value)} {oc_is_symmetric kV_is_symmetric dc_is_symmetric pm_is_symmetric cd_is_symmetric ct_is_symmetric : Value}
    {od_cross_table an_cross_table : Option Addr} {sl_cross_table : Array (Option Value)} {oc_cross_table kV_cross_table dc_cross_table pm_cross_table cd_cross_table ct_cross_table : Value}
    {od_on_one_line an_on_one_line : Option Addr} {sl_on_one_line : Array (Option Value)} {oc_on_one_line kV_on_one_line dc_on_one_line pm_on_one_line cd_on_one_line ct_on_one_line : Value}
    {od_raises_rank an_raises_rank : Option Addr} {sl_raises_rank : Array (Option Value)} {oc_raises_rank kV_raises_rank dc_raises_rank pm_raises_rank cd_raises_rank ct_raises_rank : Value}
    {od_basis an_basis : Option Addr} {sl_basis : Array (Option Value)} {oc_basis kV_basis dc_basis pm_basis cd_basis ct_basis : Value}
    {od_rank an_rank : Option Addr} {sl_rank : Array (Option Value)} {oc_rank kV_rank dc_rank pm_rank cd_rank ct_rank : Value}
    {od__law_cell an__law_cell : Option Addr} {sl__law_cell : Array (Option Value)} {oc__law_cell kV__law_cell dc__law_cell pm__law_cell cd__law_cell ct__law_cell : Value}
    {od__law_draws an__law_draws : Option Addr} {sl__law_draws : Array (Option Value)} {oc__law_draws kV__law_draws dc__law_draws pm__law_draws cd__law_draws ct__law_draws : Value}
    {od__law_is_integer an__law_is_integer : Option Addr} {sl__law_is_integer : Array (Option Value)} {oc__law_is_integer kV__law_is_integer dc__law_is_integer pm__law_is_integer cd__law_is_integer ct__law_is_integer : Value}
    {od__law_plus an__law_plus : Option Addr} {sl__law_plus : Array (Option Value)} {oc__law_plus kV__law_plus dc__law_plus pm__law_plus cd__law_plus ct__law_plus : Value}
    {od__law_back an__law_back : Option Addr} {sl__law_back : Array (Option Value)} {oc__law_back kV__law_back dc__law_back pm__law_back cd__law_back ct__law_back : Value}
    {od__law_row an__law_row : Option Addr} {sl__law_row : Array (Option Value)} {oc__law_row kV__law_row dc__law_row pm__law_row cd__law_row ct__law_row : Value}
    {od__law_add an__law_add : Option Addr} {sl__law_add : Array (Option Value)} {oc__law_add kV__law_add dc__law_add pm__law_add cd__law_add ct__law_add : Value}
    {od__law_scaled an__law_scaled : Option Addr} {sl__law_scaled : Array (Option Value)} {oc__law_scaled kV__law_scaled dc__law_scaled pm__law_scaled cd__law_scaled ct__law_scaled : Value}
    {od__law_minus an__law_minus : Option Addr} {sl__law_minus : Array (Option Value)} {oc__law_minus kV__law_minus dc__law_minus pm__law_minus cd__law_minus ct__law_minus : Value}
    {od__law_times an__law_times : Option Addr} {sl__law_times : Array (Option Value)} {oc__law_times kV__law_times dc__law_times pm__law_times cd__law_times ct__law_times : Value}
    {od__law_mirror an__law_mirror : Option Addr} {sl__law_mirror : Array (Option Value)} {oc__law_mirror kV__law_mirror dc__law_mirror pm__law_mirror cd__law_mirror ct__law_mirror : Value}
    {od__law_moved an__law_moved : Option Addr} {sl__law_moved : Array (Option Value)} {oc__law_moved kV__law_moved dc__law_moved pm__law_moved cd__law_moved ct__law_moved : Value}
    {od__law_cross an__law_cross : Option Addr} {sl__law_cross : Array (Option Value)} {oc__law_cross kV__law_cross dc__law_cross pm__law_cross cd__law_cross ct__law_cross : Value}
    {od__law_is_error an__law_is_error : Option Addr} {sl__law_is_error : Array (Option Value)} {oc__law_is_error kV__law_is_error dc__law_is_error pm__law_is_error cd__law_is_error ct__law_is_error : Value}
    {od__law_sparse an__law_sparse : Option Addr} {sl__law_sparse : Array (Option Value)} {oc__law_sparse kV__law_sparse dc__law_sparse pm__law_sparse cd__law_sparse ct__law_sparse : Value}
    {od__law_turned an__law_turned : Option Addr} {sl__law_turned : Array (Option Value)} {oc__law_turned kV__law_turned dc__law_turned pm__law_turned cd__law_turned ct__law_turned : Value}
    {od__law_mixed an__law_mixed : Option Addr} {sl__law_mixed : Array (Option Value)} {oc__law_mixed kV__law_mixed dc__law_mixed pm__law_mixed cd__law_mixed ct__law_mixed : Value}
    {od__law_is_mixed an__law_is_mixed : Option Addr} {sl__law_is_mixed : Array (Option Value)} {oc__law_is_mixed kV__law_is_mixed dc__law_is_mixed pm__law_is_mixed cd__law_is_mixed ct__law_is_mixed : Value}
    {od__law_far an__law_far : Option Addr} {sl__law_far : Array (Option Value)} {oc__law_far kV__law_far dc__law_far pm__law_far cd__law_far ct__law_far : Value}
    {od__law_changed an__law_changed : Option Addr} {sl__law_changed : Array (Option Value)} {oc__law_changed kV__law_changed dc__law_changed pm__law_changed cd__law_changed ct__law_changed : Value}
    {od__law_three an__law_three : Option Addr} {sl__law_three : Array (Option Value)} {oc__law_three kV__law_three dc__law_three pm__law_three cd__law_three ct__law_three : Value}
    {od__law_line_told an__law_line_told : Option Addr} {sl__law_line_told : Array (Option Value)} {oc__law_line_told kV__law_line_told dc__law_line_told pm__law_line_told cd__law_line_told ct__law_line_told : Value}
    {od__law_rank_told an__law_rank_told : Option Addr} {sl__law_rank_told : Array (Option Value)} {oc__law_rank_told kV__law_rank_told dc__law_rank_told pm__law_rank_told cd__law_rank_told ct__law_rank_told : Value}
    {od_law an_law : Option Addr} {sl_law : Array (Option Value)} {oc_law kV_law dc_law pm_law cd_law ct_law : Value}
    {od_te an_te : Option Addr} {sl_te : Array (Option Value)} {oc_te kV_te dc_te pm_te cd_te ct_te : Value}
    {nm_M q_M : Str} {N_M : Addr} {bs_M bm_M : List Value} {sn_M : List Str} {sub_M : List Value} {ab_M : Bool} {col_M : Option Bool} {dd_M : Option Addr} {m0_M m1_M m3_M m5_M : Option Value} {tk_M : Tok}
    (z_len : PySem.W.nsIn K mainGlobals "len" = some none)
    (z_int : PySem.W.nsIn K mainGlobals "int" = some none)
    (z_str : PySem.W.nsIn K mainGlobals "str" = some none)
    (z_bool : PySem.W.nsIn K mainGlobals "bool" = some none)
    (z_list : PySem.W.nsIn K mainGlobals "list" = some none)
    (z_tuple : PySem.W.nsIn K mainGlobals "tuple" = some none)
    (z_range : PySem.W.nsIn K mainGlobals "range" = some none)
    (z_enumerate : PySem.W.nsIn K mainGlobals "enumerate" = some none)
    (z_isinstance : PySem.W.nsIn K mainGlobals "isinstance" = some none)
    (z_sorted : PySem.W.nsIn K mainGlobals "sorted" = some none)
    (z_abs : PySem.W.nsIn K mainGlobals "abs" = some none)
    (z_any : PySem.W.nsIn K mainGlobals "any" = some none)
    (z_all : PySem.W.nsIn K mainGlobals "all" = some none)
    (z_sum : PySem.W.nsIn K mainGlobals "sum" = some none)
    (z_min : PySem.W.nsIn K mainGlobals "min" = some none)
    (z_max : PySem.W.nsIn K mainGlobals "max" = some none)
    (z_zip : PySem.W.nsIn K mainGlobals "zip" = some none)
    (z_set : PySem.W.nsIn K mainGlobals "set" = some none)
    (z_ValueError : PySem.W.nsIn K mainGlobals "ValueError" = some none)
    (a_places_length : PySem.W.nsIn K mainGlobals "places_length" = some (some (.ref f_places_length)))
    (l_places_length : K.lookup f_places_length = some ⟨oc_places_length, od_places_length, .func (PySem.W.fnOf "places_length" "places_length" (C8.fnArgs s_places_length) (C8.fnBody s_places_length) (C8.fnScope s_places_length) .none kV_places_length dc_places_length pm_places_length an_places_length cd_places_length ct_places_length), sl_places_length⟩)
    (co_places_length : PySem.W.codeIn K cd_places_length "places_length" = true)
    (k_places_length : PySem.W.keepIn K (.ref f_places_length) = true)
    (a_same_lengths : PySem.W.nsIn K mainGlobals "same_lengths" = some (some (.ref f_same_lengths)))
    (l_same_lengths : K.lookup f_same_lengths = some ⟨oc_same_lengths, od_same_lengths, .func (PySem.W.fnOf "same_lengths" "same_lengths" (C8.fnArgs s_same_lengths) (C8.fnBody s_same_lengths) (C8.fnScope s_same_lengths) .none kV_same_lengths dc_same_lengths pm_same_lengths an_same_lengths cd_same_lengths ct_same_lengths), sl_same_lengths⟩)
    (co_same_lengths : PySem.W.codeIn K cd_same_lengths "same_lengths" = true)
    (k_same_lengths : PySem.W.keepIn K (.ref f_same_lengths) = true)
    (a_same_dimension : PySem.W.nsIn K mainGlobals "same_dimension" = some (some (.ref f_same_dimension)))
    (l_same_dimension : K.lookup f_same_dimension = some ⟨oc_same_dimension, od_same_dimension, .func (PySem.W.fnOf "same_dimension" "same_dimension" (C8.fnArgs s_same_dimension) (C8.fnBody s_same_dimension) (C8.fnScope s_same_dimension) (.ref TD_same_dimension) kV_same_dimension dc_same_dimension pm_same_dimension an_same_dimension cd_same_dimension ct_same_dimension), sl_same_dimension⟩)
    (lt_same_dimension : K.lookup TD_same_dimension = some ⟨tc_same_dimension, to_same_dimension, .seq #[.ref A0_same_dimension] tn_same_dimension, ts_same_dimension⟩)
    (lu_same_dimension : K.lookup A0_same_dimension = some ⟨.type "tuple", uo_same_dimension, .seq #[] un_same_dimension, us_same_dimension⟩)
    (co_same_dimension : PySem.W.codeIn K cd_same_dimension "same_dimension" = true)
    (k_same_dimension : PySem.W.keepIn K (.ref f_same_dimension) = true)
    (a_bounds : PySem.W.nsIn K mainGlobals "bounds" = some (some (.ref f_bounds)))
    (l_bounds : K.lookup f_bounds = some ⟨oc_bounds, od_bounds, .func (PySem.W.fnOf "bounds" "bounds" (C8.fnArgs s_bounds) (C8.fnBody s_bounds) (C8.fnScope s_bounds) .none kV_bounds dc_bounds pm_bounds an_bounds cd_bounds ct_bounds), sl_bounds⟩)
    (co_bounds : PySem.W.codeIn K cd_bounds "bounds" = true)
    (k_bounds : PySem.W.keepIn K (.ref f_bounds) = true)
    (a_product_sizes : PySem.W.nsIn K mainGlobals "product_sizes" = some (some (.ref f_product_sizes)))
    (l_product_sizes : K.lookup f_product_sizes = some ⟨oc_product_sizes, od_product_sizes, .func (PySem.W.fnOf "product_sizes" "product_sizes" (C8.fnArgs s_product_sizes) (C8.fnBody s_product_sizes) (C8.fnScope s_product_sizes) .none kV_product_sizes dc_product_sizes pm_product_sizes an_product_sizes cd_product_sizes ct_product_sizes), sl_product_sizes⟩)
    (co_product_sizes : PySem.W.codeIn K cd_product_sizes "product_sizes" = true)
    (k_product_sizes : PySem.W.keepIn K (.ref f_product_sizes) = true)
    (a_longest : PySem.W.nsIn K mainGlobals "longest" = some (some (.ref f_longest)))
    (l_longest : K.lookup f_longest = some ⟨oc_longest, od_longest, .func (PySem.W.fnOf "longest" "longest" (C8.fnArgs s_longest) (C8.fnBody s_longest) (C8.fnScope s_longest) .none kV_longest dc_longest pm_longest an_longest cd_longest ct_longest), sl_longest⟩)
    (co_longest : PySem.W.codeIn K cd_longest "longest" = true)
    (k_longest : PySem.W.keepIn K (.ref f_longest) = true)
    (a_digit_bits : PySem.W.nsIn K mainGlobals "digit_bits" = some (some (.ref f_digit_bits)))
    (l_digit_bits : K.lookup f_digit_bits = some ⟨oc_digit_bits, od_digit_bits, .func (PySem.W.fnOf "digit_bits" "digit_bits" (C8.fnArgs s_digit_bits) (C8.fnBody s_digit_bits) (C8.fnScope s_digit_bits) .none kV_digit_bits dc_digit_bits pm_digit_bits an_digit_bits cd_digit_bits ct_digit_bits), sl_digit_bits⟩)
    (co_digit_bits : PySem.W.codeIn K cd_digit_bits "digit_bits" = true)
    (k_digit_bits : PySem.W.keepIn K (.ref f_digit_bits) = true)
    (a_is_crowded : PySem.W.nsIn K mainGlobals "is_crowded" = some (some (.ref f_is_crowded)))
    (l_is_crowded : K.lookup f_is_crowded = some ⟨oc_is_crowded, od_is_crowded, .func (PySem.W.fnOf "is_crowded" "is_crowded" (C8.fnArgs s_is_crowded) (C8.fnBody s_is_crowded) (C8.fnScope s_is_crowded) .none kV_is_crowded dc_is_crowded pm_is_crowded an_is_crowded cd_is_crowded ct_is_crowded), sl_is_crowded⟩)
    (co_is_crowded : PySem.W.codeIn K cd_is_crowded "is_crowded" = true)
    (k_is_crowded : PySem.W.keepIn K (.ref f_is_crowded) = true)
    (a_digit_at : PySem.W.nsIn K mainGlobals "digit_at" = some (some (.ref f_digit_at)))
    (l_digit_at : K.lookup f_digit_at = some ⟨oc_digit_at, od_digit_at, .func (PySem.W.fnOf "digit_at" "digit_at" (C8.fnArgs s_digit_at) (C8.fnBody s_digit_at) (C8.fnScope s_digit_at) .none kV_digit_at dc_digit_at pm_digit_at an_digit_at cd_digit_at ct_digit_at), sl_digit_at⟩)
    (co_digit_at : PySem.W.codeIn K cd_digit_at "digit_at" = true)
    (k_digit_at : PySem.W.keepIn K (.ref f_digit_at) = true)
    (a_place_at : PySem.W.nsIn K mainGlobals "place_at" = some (some (.ref f_place_at)))
    (l_place_at : K.lookup f_place_at = some ⟨oc_place_at, od_place_at, .func (PySem.W.fnOf "place_at" "place_at" (C8.fnArgs s_place_at) (C8.fnBody s_place_at) (C8.fnScope s_place_at) .none kV_place_at dc_place_at pm_place_at an_place_at cd_place_at ct_place_at), sl_place_at⟩)
    (co_place_at : PySem.W.codeIn K cd_place_at "place_at" = true)
    (k_place_at : PySem.W.keepIn K (.ref f_place_at) = true)
    (a_joined_digits : PySem.W.nsIn K mainGlobals "joined_digits" = some (some (.ref f_joined_digits)))
    (l_joined_digits : K.lookup f_joined_digits = some ⟨oc_joined_digits, od_joined_digits, .func (PySem.W.fnOf "joined_digits" "joined_digits" (C8.fnArgs s_joined_digits) (C8.fnBody s_joined_digits) (C8.fnScope s_joined_digits) .none kV_joined_digits dc_joined_digits pm_joined_digits an_joined_digits cd_joined_digits ct_joined_digits), sl_joined_digits⟩)
    (co_joined_digits : PySem.W.codeIn K cd_joined_digits "joined_digits" = true)
    (k_joined_digits : PySem.W.keepIn K (.ref f_joined_digits) = true)
    (a_low_digit : PySem.W.nsIn K mainGlobals "low_digit" = some (some (.ref f_low_digit)))
    (l_low_digit : K.lookup f_low_digit = some ⟨oc_low_digit, od_low_digit, .func (PySem.W.fnOf "low_digit" "low_digit" (C8.fnArgs s_low_digit) (C8.fnBody s_low_digit) (C8.fnScope s_low_digit) .none kV_low_digit dc_low_digit pm_low_digit an_low_digit cd_low_digit ct_low_digit), sl_low_digit⟩)
    (co_low_digit : PySem.W.codeIn K cd_low_digit "low_digit" = true)
    (k_low_digit : PySem.W.keepIn K (.ref f_low_digit) = true)
    (a_split_digits : PySem.W.nsIn K mainGlobals "split_digits" = some (some (.ref f_split_digits)))
    (l_split_digits : K.lookup f_split_digits = some ⟨oc_split_digits, od_split_digits, .func (PySem.W.fnOf "split_digits" "split_digits" (C8.fnArgs s_split_digits) (C8.fnBody s_split_digits) (C8.fnScope s_split_digits) .none kV_split_digits dc_split_digits pm_split_digits an_split_digits cd_split_digits ct_split_digits), sl_split_digits⟩)
    (co_split_digits : PySem.W.codeIn K cd_split_digits "split_digits" = true)
    (k_split_digits : PySem.W.keepIn K (.ref f_split_digits) = true)
    (a_great_integer : PySem.W.nsIn K mainGlobals "great_integer" = some (some (.ref f_great_integer)))
    (l_great_integer : K.lookup f_great_integer = some ⟨oc_great_integer, od_great_integer, .func (PySem.W.fnOf "great_integer" "great_integer" (C8.fnArgs s_great_integer) (C8.fnBody s_great_integer) (C8.fnScope s_great_integer) .none kV_great_integer dc_great_integer pm_great_integer an_great_integer cd_great_integer ct_great_integer), sl_great_integer⟩)
    (co_great_integer : PySem.W.codeIn K cd_great_integer "great_integer" = true)
    (k_great_integer : PySem.W.keepIn K (.ref f_great_integer) = true)
    (a_crowded_product : PySem.W.nsIn K mainGlobals "crowded_product" = some (some (.ref f_crowded_product)))
    (l_crowded_product : K.lookup f_crowded_product = some ⟨oc_crowded_product, od_crowded_product, .func (PySem.W.fnOf "crowded_product" "crowded_product" (C8.fnArgs s_crowded_product) (C8.fnBody s_crowded_product) (C8.fnScope s_crowded_product) .none kV_crowded_product dc_crowded_product pm_crowded_product an_crowded_product cd_crowded_product ct_crowded_product), sl_crowded_product⟩)
    (co_crowded_product : PySem.W.codeIn K cd_crowded_product "crowded_product" = true)
    (k_crowded_product : PySem.W.keepIn K (.ref f_crowded_product) = true)
    (a_row_of : PySem.W.nsIn K mainGlobals "row_of" = some (some (.ref f_row_of)))
    (l_row_of : K.lookup f_row_of = some ⟨oc_row_of, od_row_of, .func (PySem.W.fnOf "row_of" "row_of" (C8.fnArgs s_row_of) (C8.fnBody s_row_of) (C8.fnScope s_row_of) .none kV_row_of dc_row_of pm_row_of an_row_of cd_row_of ct_row_of), sl_row_of⟩)
    (co_row_of : PySem.W.codeIn K cd_row_of "row_of" = true)
    (k_row_of : PySem.W.keepIn K (.ref f_row_of) = true)
    (a_gather : PySem.W.nsIn K mainGlobals "gather" = some (some (.ref f_gather)))
    (l_gather : K.lookup f_gather = some ⟨oc_gather, od_gather, .func (PySem.W.fnOf "gather" "gather" (C8.fnArgs s_gather) (C8.fnBody s_gather) (C8.fnScope s_gather) .none kV_gather dc_gather pm_gather an_gather cd_gather ct_gather), sl_gather⟩)
    (co_gather : PySem.W.codeIn K cd_gather "gather" = true)
    (k_gather : PySem.W.keepIn K (.ref f_gather) = true)
    (a_reach : PySem.W.nsIn K mainGlobals "reach" = some (some (.ref f_reach)))
    (l_reach : K.lookup f_reach = some ⟨oc_reach, od_reach, .func (PySem.W.fnOf "reach" "reach" (C8.fnArgs s_reach) (C8.fnBody s_reach) (C8.fnScope s_reach) .none kV_reach dc_reach pm_reach an_reach cd_reach ct_reach), sl_reach⟩)
    (co_reach : PySem.W.codeIn K cd_reach "reach" = true)
    (k_reach : PySem.W.keepIn K (.ref f_reach) = true)
    (a_key_base : PySem.W.nsIn K mainGlobals "key_base" = some (some (.ref f_key_base)))
    (l_key_base : K.lookup f_key_base = some ⟨oc_key_base, od_key_base, .func (PySem.W.fnOf "key_base" "key_base" (C8.fnArgs s_key_base) (C8.fnBody s_key_base) (C8.fnScope s_key_base) .none kV_key_base dc_key_base pm_key_base an_key_base cd_key_base ct_key_base), sl_key_base⟩)
    (co_key_base : PySem.W.codeIn K cd_key_base "key_base" = true)
    (k_key_base : PySem.W.keepIn K (.ref f_key_base) = true)
    (a_key_of : PySem.W.nsIn K mainGlobals "key_of" = some (some (.ref f_key_of)))
    (l_key_of : K.lookup f_key_of = some ⟨oc_key_of, od_key_of, .func (PySem.W.fnOf "key_of" "key_of" (C8.fnArgs s_key_of) (C8.fnBody s_key_of) (C8.fnScope s_key_of) .none kV_key_of dc_key_of pm_key_of an_key_of cd_key_of ct_key_of), sl_key_of⟩)
    (co_key_of : PySem.W.codeIn K cd_key_of "key_of" = true)
    (k_key_of : PySem.W.keepIn K (.ref f_key_of) = true)
    (a_place_of : PySem.W.nsIn K mainGlobals "place_of" = some (some (.ref f_place_of)))
    (l_place_of : K.lookup f_place_of = some ⟨oc_place_of, od_place_of, .func (PySem.W.fnOf "place_of" "place_of" (C8.fnArgs s_place_of) (C8.fnBody s_place_of) (C8.fnScope s_place_of) .none kV_place_of dc_place_of pm_place_of an_place_of cd_place_of ct_place_of), sl_place_of⟩)
    (co_place_of : PySem.W.codeIn K cd_place_of "place_of" = true)
    (k_place_of : PySem.W.keepIn K (.ref f_place_of) = true)
    (a_keyed : PySem.W.nsIn K mainGlobals "keyed" = some (some (.ref f_keyed)))
    (l_keyed : K.lookup f_keyed = some ⟨oc_keyed, od_keyed, .func (PySem.W.fnOf "keyed" "keyed" (C8.fnArgs s_keyed) (C8.fnBody s_keyed) (C8.fnScope s_keyed) .none kV_keyed dc_keyed pm_keyed an_keyed cd_keyed ct_keyed), sl_keyed⟩)
    (co_keyed : PySem.W.codeIn K cd_keyed "keyed" = true)
    (k_keyed : PySem.W.keepIn K (.ref f_keyed) = true)
    (a_unkeyed : PySem.W.nsIn K mainGlobals "unkeyed" = some (some (.ref f_unkeyed)))
    (l_unkeyed : K.lookup f_unkeyed = some ⟨oc_unkeyed, od_unkeyed, .func (PySem.W.fnOf "unkeyed" "unkeyed" (C8.fnArgs s_unkeyed) (C8.fnBody s_unkeyed) (C8.fnScope s_unkeyed) .none kV_unkeyed dc_unkeyed pm_unkeyed an_unkeyed cd_unkeyed ct_unkeyed), sl_unkeyed⟩)
    (co_unkeyed : PySem.W.codeIn K cd_unkeyed "unkeyed" = true)
    (k_unkeyed : PySem.W.keepIn K (.ref f_unkeyed) = true)
    (a_add : PySem.W.nsIn K mainGlobals "add" = some (some (.ref f_add)))
    (l_add : K.lookup f_add = some ⟨oc_add, od_add, .func (PySem.W.fnOf "add" "add" (C8.fnArgs s_add) (C8.fnBody s_add) (C8.fnScope s_add) .none kV_add dc_add pm_add an_add cd_add ct_add), sl_add⟩)
    (co_add : PySem.W.codeIn K cd_add "add" = true)
    (k_add : PySem.W.keepIn K (.ref f_add) = true)
    (a_subtract : PySem.W.nsIn K mainGlobals "subtract" = some (some (.ref f_subtract)))
    (l_subtract : K.lookup f_subtract = some ⟨oc_subtract, od_subtract, .func (PySem.W.fnOf "subtract" "subtract" (C8.fnArgs s_subtract) (C8.fnBody s_subtract) (C8.fnScope s_subtract) .none kV_subtract dc_subtract pm_subtract an_subtract cd_subtract ct_subtract), sl_subtract⟩)
    (co_subtract : PySem.W.codeIn K cd_subtract "subtract" = true)
    (k_subtract : PySem.W.keepIn K (.ref f_subtract) = true)
    (a_negate : PySem.W.nsIn K mainGlobals "negate" = some (some (.ref f_negate)))
    (l_negate : K.lookup f_negate = some ⟨oc_negate, od_negate, .func (PySem.W.fnOf "negate" "negate" (C8.fnArgs s_negate) (C8.fnBody s_negate) (C8.fnScope s_negate) .none kV_negate dc_negate pm_negate an_negate cd_negate ct_negate), sl_negate⟩)
    (co_negate : PySem.W.codeIn K cd_negate "negate" = true)
    (k_negate : PySem.W.keepIn K (.ref f_negate) = true)
    (a_scale : PySem.W.nsIn K mainGlobals "scale" = some (some (.ref f_scale)))
    (l_scale : K.lookup f_scale = some ⟨oc_scale, od_scale, .func (PySem.W.fnOf "scale" "scale" (C8.fnArgs s_scale) (C8.fnBody s_scale) (C8.fnScope s_scale) .none kV_scale dc_scale pm_scale an_scale cd_scale ct_scale), sl_scale⟩)
    (co_scale : PySem.W.codeIn K cd_scale "scale" = true)
    (k_scale : PySem.W.keepIn K (.ref f_scale) = true)
    (a_multiply : PySem.W.nsIn K mainGlobals "multiply" = some (some (.ref f_multiply)))
    (l_multiply : K.lookup f_multiply = some ⟨oc_multiply, od_multiply, .func (PySem.W.fnOf "multiply" "multiply" (C8.fnArgs s_multiply) (C8.fnBody s_multiply) (C8.fnScope s_multiply) .none kV_multiply dc_multiply pm_multiply an_multiply cd_multiply ct_multiply), sl_multiply⟩)
    (co_multiply : PySem.W.codeIn K cd_multiply "multiply" = true)
    (k_multiply : PySem.W.keepIn K (.ref f_multiply) = true)
    (a_mirror : PySem.W.nsIn K mainGlobals "mirror" = some (some (.ref f_mirror)))
    (l_mirror : K.lookup f_mirror = some ⟨oc_mirror, od_mirror, .func (PySem.W.fnOf "mirror" "mirror" (C8.fnArgs s_mirror) (C8.fnBody s_mirror) (C8.fnScope s_mirror) .none kV_mirror dc_mirror pm_mirror an_mirror cd_mirror ct_mirror), sl_mirror⟩)
    (co_mirror : PySem.W.codeIn K cd_mirror "mirror" = true)
    (k_mirror : PySem.W.keepIn K (.ref f_mirror) = true)
    (a_is_symmetric : PySem.W.nsIn K mainGlobals "is_symmetric" = some (some (.ref f_is_symmetric)))
    (l_is_symmetric : K.lookup f_is_symmetric = some ⟨oc_is_symmetric, od_is_symmetric, .func (PySem.W.fnOf "is_symmetric" "is_symmetric" (C8.fnArgs s_is_symmetric) (C8.fnBody s_is_symmetric) (C8.fnScope s_is_symmetric) .none kV_is_symmetric dc_is_symmetric pm_is_symmetric an_is_symmetric cd_is_symmetric ct_is_symmetric), sl_is_symmetric⟩)
    (co_is_symmetric : PySem.W.codeIn K cd_is_symmetric "is_symmetric" = true)
    (k_is_symmetric : PySem.W.keepIn K (.ref f_is_symmetric) = true)
    (a_cross_table : PySem.W.nsIn K mainGlobals "cross_table" = some (some (.ref f_cross_table)))
    (l_cross_table : K.lookup f_cross_table = some ⟨oc_cross_table, od_cross_table, .func (PySem.W.fnOf "cross_table" "cross_table" (C8.fnArgs s_cross_table) (C8.fnBody s_cross_table) (C8.fnScope s_cross_table) .none kV_cross_table dc_cross_table pm_cross_table an_cross_table cd_cross_table ct_cross_table), sl_cross_table⟩)
    (co_cross_table : PySem.W.codeIn K cd_cross_table "cross_table" = true)
    (k_cross_table : PySem.W.keepIn K (.ref f_cross_table) = true)
    (a_on_one_line : PySem.W.nsIn K mainGlobals "on_one_line" = some (some (.ref f_on_one_line)))
    (l_on_one_line : K.lookup f_on_one_line = some ⟨oc_on_one_line, od_on_one_line, .func (PySem.W.fnOf "on_one_line" "on_one_line" (C8.fnArgs s_on_one_line) (C8.fnBody s_on_one_line) (C8.fnScope s_on_one_line) .none kV_on_one_line dc_on_one_line pm_on_one_line an_on_one_line cd_on_one_line ct_on_one_line), sl_on_one_line⟩)
    (co_on_one_line : PySem.W.codeIn K cd_on_one_line "on_one_line" = true)
    (k_on_one_line : PySem.W.keepIn K (.ref f_on_one_line) = true)
    (a_raises_rank : PySem.W.nsIn K mainGlobals "raises_rank" = some (some (.ref f_raises_rank)))
    (l_raises_rank : K.lookup f_raises_rank = some ⟨oc_raises_rank, od_raises_rank, .func (PySem.W.fnOf "raises_rank" "raises_rank" (C8.fnArgs s_raises_rank) (C8.fnBody s_raises_rank) (C8.fnScope s_raises_rank) .none kV_raises_rank dc_raises_rank pm_raises_rank an_raises_rank cd_raises_rank ct_raises_rank), sl_raises_rank⟩)
    (co_raises_rank : PySem.W.codeIn K cd_raises_rank "raises_rank" = true)
    (k_raises_rank : PySem.W.keepIn K (.ref f_raises_rank) = true)
    (a_basis : PySem.W.nsIn K mainGlobals "basis" = some (some (.ref f_basis)))
    (l_basis : K.lookup f_basis = some ⟨oc_basis, od_basis, .func (PySem.W.fnOf "basis" "basis" (C8.fnArgs s_basis) (C8.fnBody s_basis) (C8.fnScope s_basis) .none kV_basis dc_basis pm_basis an_basis cd_basis ct_basis), sl_basis⟩)
    (co_basis : PySem.W.codeIn K cd_basis "basis" = true)
    (k_basis : PySem.W.keepIn K (.ref f_basis) = true)
    (a_rank : PySem.W.nsIn K mainGlobals "rank" = some (some (.ref f_rank)))
    (l_rank : K.lookup f_rank = some ⟨oc_rank, od_rank, .func (PySem.W.fnOf "rank" "rank" (C8.fnArgs s_rank) (C8.fnBody s_rank) (C8.fnScope s_rank) .none kV_rank dc_rank pm_rank an_rank cd_rank ct_rank), sl_rank⟩)
    (co_rank : PySem.W.codeIn K cd_rank "rank" = true)
    (k_rank : PySem.W.keepIn K (.ref f_rank) = true)
    (a__law_cell : PySem.W.nsIn K mainGlobals "_law_cell" = some (some (.ref f__law_cell)))
    (l__law_cell : K.lookup f__law_cell = some ⟨oc__law_cell, od__law_cell, .func (PySem.W.fnOf "_law_cell" "_law_cell" (C8.fnArgs s__law_cell) (C8.fnBody s__law_cell) (C8.fnScope s__law_cell) .none kV__law_cell dc__law_cell pm__law_cell an__law_cell cd__law_cell ct__law_cell), sl__law_cell⟩)
    (co__law_cell : PySem.W.codeIn K cd__law_cell "_law_cell" = true)
    (k__law_cell : PySem.W.keepIn K (.ref f__law_cell) = true)
    (a__law_draws : PySem.W.nsIn K mainGlobals "_law_draws" = some (some (.ref f__law_draws)))
    (l__law_draws : K.lookup f__law_draws = some ⟨oc__law_draws, od__law_draws, .func (PySem.W.fnOf "_law_draws" "_law_draws" (C8.fnArgs s__law_draws) (C8.fnBody s__law_draws) (C8.fnScope s__law_draws) .none kV__law_draws dc__law_draws pm__law_draws an__law_draws cd__law_draws ct__law_draws), sl__law_draws⟩)
    (co__law_draws : PySem.W.codeIn K cd__law_draws "_law_draws" = true)
    (k__law_draws : PySem.W.keepIn K (.ref f__law_draws) = true)
    (a__law_is_integer : PySem.W.nsIn K mainGlobals "_law_is_integer" = some (some (.ref f__law_is_integer)))
    (l__law_is_integer : K.lookup f__law_is_integer = some ⟨oc__law_is_integer, od__law_is_integer, .func (PySem.W.fnOf "_law_is_integer" "_law_is_integer" (C8.fnArgs s__law_is_integer) (C8.fnBody s__law_is_integer) (C8.fnScope s__law_is_integer) .none kV__law_is_integer dc__law_is_integer pm__law_is_integer an__law_is_integer cd__law_is_integer ct__law_is_integer), sl__law_is_integer⟩)
    (co__law_is_integer : PySem.W.codeIn K cd__law_is_integer "_law_is_integer" = true)
    (k__law_is_integer : PySem.W.keepIn K (.ref f__law_is_integer) = true)
    (a__law_plus : PySem.W.nsIn K mainGlobals "_law_plus" = some (some (.ref f__law_plus)))
    (l__law_plus : K.lookup f__law_plus = some ⟨oc__law_plus, od__law_plus, .func (PySem.W.fnOf "_law_plus" "_law_plus" (C8.fnArgs s__law_plus) (C8.fnBody s__law_plus) (C8.fnScope s__law_plus) .none kV__law_plus dc__law_plus pm__law_plus an__law_plus cd__law_plus ct__law_plus), sl__law_plus⟩)
    (co__law_plus : PySem.W.codeIn K cd__law_plus "_law_plus" = true)
    (k__law_plus : PySem.W.keepIn K (.ref f__law_plus) = true)
    (a__law_back : PySem.W.nsIn K mainGlobals "_law_back" = some (some (.ref f__law_back)))
    (l__law_back : K.lookup f__law_back = some ⟨oc__law_back, od__law_back, .func (PySem.W.fnOf "_law_back" "_law_back" (C8.fnArgs s__law_back) (C8.fnBody s__law_back) (C8.fnScope s__law_back) .none kV__law_back dc__law_back pm__law_back an__law_back cd__law_back ct__law_back), sl__law_back⟩)
    (co__law_back : PySem.W.codeIn K cd__law_back "_law_back" = true)
    (k__law_back : PySem.W.keepIn K (.ref f__law_back) = true)
    (a__law_row : PySem.W.nsIn K mainGlobals "_law_row" = some (some (.ref f__law_row)))
    (l__law_row : K.lookup f__law_row = some ⟨oc__law_row, od__law_row, .func (PySem.W.fnOf "_law_row" "_law_row" (C8.fnArgs s__law_row) (C8.fnBody s__law_row) (C8.fnScope s__law_row) .none kV__law_row dc__law_row pm__law_row an__law_row cd__law_row ct__law_row), sl__law_row⟩)
    (co__law_row : PySem.W.codeIn K cd__law_row "_law_row" = true)
    (k__law_row : PySem.W.keepIn K (.ref f__law_row) = true)
    (a__law_add : PySem.W.nsIn K mainGlobals "_law_add" = some (some (.ref f__law_add)))
    (l__law_add : K.lookup f__law_add = some ⟨oc__law_add, od__law_add, .func (PySem.W.fnOf "_law_add" "_law_add" (C8.fnArgs s__law_add) (C8.fnBody s__law_add) (C8.fnScope s__law_add) .none kV__law_add dc__law_add pm__law_add an__law_add cd__law_add ct__law_add), sl__law_add⟩)
    (co__law_add : PySem.W.codeIn K cd__law_add "_law_add" = true)
    (k__law_add : PySem.W.keepIn K (.ref f__law_add) = true)
    (a__law_scaled : PySem.W.nsIn K mainGlobals "_law_scaled" = some (some (.ref f__law_scaled)))
    (l__law_scaled : K.lookup f__law_scaled = some ⟨oc__law_scaled, od__law_scaled, .func (PySem.W.fnOf "_law_scaled" "_law_scaled" (C8.fnArgs s__law_scaled) (C8.fnBody s__law_scaled) (C8.fnScope s__law_scaled) .none kV__law_scaled dc__law_scaled pm__law_scaled an__law_scaled cd__law_scaled ct__law_scaled), sl__law_scaled⟩)
    (co__law_scaled : PySem.W.codeIn K cd__law_scaled "_law_scaled" = true)
    (k__law_scaled : PySem.W.keepIn K (.ref f__law_scaled) = true)
    (a__law_minus : PySem.W.nsIn K mainGlobals "_law_minus" = some (some (.ref f__law_minus)))
    (l__law_minus : K.lookup f__law_minus = some ⟨oc__law_minus, od__law_minus, .func (PySem.W.fnOf "_law_minus" "_law_minus" (C8.fnArgs s__law_minus) (C8.fnBody s__law_minus) (C8.fnScope s__law_minus) .none kV__law_minus dc__law_minus pm__law_minus an__law_minus cd__law_minus ct__law_minus), sl__law_minus⟩)
    (co__law_minus : PySem.W.codeIn K cd__law_minus "_law_minus" = true)
    (k__law_minus : PySem.W.keepIn K (.ref f__law_minus) = true)
    (a__law_times : PySem.W.nsIn K mainGlobals "_law_times" = some (some (.ref f__law_times)))
    (l__law_times : K.lookup f__law_times = some ⟨oc__law_times, od__law_times, .func (PySem.W.fnOf "_law_times" "_law_times" (C8.fnArgs s__law_times) (C8.fnBody s__law_times) (C8.fnScope s__law_times) .none kV__law_times dc__law_times pm__law_times an__law_times cd__law_times ct__law_times), sl__law_times⟩)
    (co__law_times : PySem.W.codeIn K cd__law_times "_law_times" = true)
    (k__law_times : PySem.W.keepIn K (.ref f__law_times) = true)
    (a__law_mirror : PySem.W.nsIn K mainGlobals "_law_mirror" = some (some (.ref f__law_mirror)))
    (l__law_mirror : K.lookup f__law_mirror = some ⟨oc__law_mirror, od__law_mirror, .func (PySem.W.fnOf "_law_mirror" "_law_mirror" (C8.fnArgs s__law_mirror) (C8.fnBody s__law_mirror) (C8.fnScope s__law_mirror) .none kV__law_mirror dc__law_mirror pm__law_mirror an__law_mirror cd__law_mirror ct__law_mirror), sl__law_mirror⟩)
    (co__law_mirror : PySem.W.codeIn K cd__law_mirror "_law_mirror" = true)
    (k__law_mirror : PySem.W.keepIn K (.ref f__law_mirror) = true)
    (a__law_moved : PySem.W.nsIn K mainGlobals "_law_moved" = some (some (.ref f__law_moved)))
    (l__law_moved : K.lookup f__law_moved = some ⟨oc__law_moved, od__law_moved, .func (PySem.W.fnOf "_law_moved" "_law_moved" (C8.fnArgs s__law_moved) (C8.fnBody s__law_moved) (C8.fnScope s__law_moved) .none kV__law_moved dc__law_moved pm__law_moved an__law_moved cd__law_moved ct__law_moved), sl__law_moved⟩)
    (co__law_moved : PySem.W.codeIn K cd__law_moved "_law_moved" = true)
    (k__law_moved : PySem.W.keepIn K (.ref f__law_moved) = true)
    (a__law_cross : PySem.W.nsIn K mainGlobals "_law_cross" = some (some (.ref f__law_cross)))
    (l__law_cross : K.lookup f__law_cross = some ⟨oc__law_cross, od__law_cross, .func (PySem.W.fnOf "_law_cross" "_law_cross" (C8.fnArgs s__law_cross) (C8.fnBody s__law_cross) (C8.fnScope s__law_cross) .none kV__law_cross dc__law_cross pm__law_cross an__law_cross cd__law_cross ct__law_cross), sl__law_cross⟩)
    (co__law_cross : PySem.W.codeIn K cd__law_cross "_law_cross" = true)
    (k__law_cross : PySem.W.keepIn K (.ref f__law_cross) = true)
    (a__law_is_error : PySem.W.nsIn K mainGlobals "_law_is_error" = some (some (.ref f__law_is_error)))
    (l__law_is_error : K.lookup f__law_is_error = some ⟨oc__law_is_error, od__law_is_error, .func (PySem.W.fnOf "_law_is_error" "_law_is_error" (C8.fnArgs s__law_is_error) (C8.fnBody s__law_is_error) (C8.fnScope s__law_is_error) .none kV__law_is_error dc__law_is_error pm__law_is_error an__law_is_error cd__law_is_error ct__law_is_error), sl__law_is_error⟩)
    (co__law_is_error : PySem.W.codeIn K cd__law_is_error "_law_is_error" = true)
    (k__law_is_error : PySem.W.keepIn K (.ref f__law_is_error) = true)
    (a__law_sparse : PySem.W.nsIn K mainGlobals "_law_sparse" = some (some (.ref f__law_sparse)))
    (l__law_sparse : K.lookup f__law_sparse = some ⟨oc__law_sparse, od__law_sparse, .func (PySem.W.fnOf "_law_sparse" "_law_sparse" (C8.fnArgs s__law_sparse) (C8.fnBody s__law_sparse) (C8.fnScope s__law_sparse) .none kV__law_sparse dc__law_sparse pm__law_sparse an__law_sparse cd__law_sparse ct__law_sparse), sl__law_sparse⟩)
    (co__law_sparse : PySem.W.codeIn K cd__law_sparse "_law_sparse" = true)
    (k__law_sparse : PySem.W.keepIn K (.ref f__law_sparse) = true)
    (a__law_turned : PySem.W.nsIn K mainGlobals "_law_turned" = some (some (.ref f__law_turned)))
    (l__law_turned : K.lookup f__law_turned = some ⟨oc__law_turned, od__law_turned, .func (PySem.W.fnOf "_law_turned" "_law_turned" (C8.fnArgs s__law_turned) (C8.fnBody s__law_turned) (C8.fnScope s__law_turned) .none kV__law_turned dc__law_turned pm__law_turned an__law_turned cd__law_turned ct__law_turned), sl__law_turned⟩)
    (co__law_turned : PySem.W.codeIn K cd__law_turned "_law_turned" = true)
    (k__law_turned : PySem.W.keepIn K (.ref f__law_turned) = true)
    (a__law_mixed : PySem.W.nsIn K mainGlobals "_law_mixed" = some (some (.ref f__law_mixed)))
    (l__law_mixed : K.lookup f__law_mixed = some ⟨oc__law_mixed, od__law_mixed, .func (PySem.W.fnOf "_law_mixed" "_law_mixed" (C8.fnArgs s__law_mixed) (C8.fnBody s__law_mixed) (C8.fnScope s__law_mixed) .none kV__law_mixed dc__law_mixed pm__law_mixed an__law_mixed cd__law_mixed ct__law_mixed), sl__law_mixed⟩)
    (co__law_mixed : PySem.W.codeIn K cd__law_mixed "_law_mixed" = true)
    (k__law_mixed : PySem.W.keepIn K (.ref f__law_mixed) = true)
    (a__law_is_mixed : PySem.W.nsIn K mainGlobals "_law_is_mixed" = some (some (.ref f__law_is_mixed)))
    (l__law_is_mixed : K.lookup f__law_is_mixed = some ⟨oc__law_is_mixed, od__law_is_mixed, .func (PySem.W.fnOf "_law_is_mixed" "_law_is_mixed" (C8.fnArgs s__law_is_mixed) (C8.fnBody s__law_is_mixed) (C8.fnScope s__law_is_mixed) .none kV__law_is_mixed dc__law_is_mixed pm__law_is_mixed an__law_is_mixed cd__law_is_mixed ct__law_is_mixed), sl__law_is_mixed⟩)
    (co__law_is_mixed : PySem.W.codeIn K cd__law_is_mixed "_law_is_mixed" = true)
    (k__law_is_mixed : PySem.W.keepIn K (.ref f__law_is_mixed) = true)
    (a__law_far : PySem.W.nsIn K mainGlobals "_law_far" = some (some (.ref f__law_far)))
    (l__law_far : K.lookup f__law_far = some ⟨oc__law_far, od__law_far, .func (PySem.W.fnOf "_law_far" "_law_far" (C8.fnArgs s__law_far) (C8.fnBody s__law_far) (C8.fnScope s__law_far) .none kV__law_far dc__law_far pm__law_far an__law_far cd__law_far ct__law_far), sl__law_far⟩)
    (co__law_far : PySem.W.codeIn K cd__law_far "_law_far" = true)
    (k__law_far : PySem.W.keepIn K (.ref f__law_far) = true)
    (a__law_changed : PySem.W.nsIn K mainGlobals "_law_changed" = some (some (.ref f__law_changed)))
    (l__law_changed : K.lookup f__law_changed = some ⟨oc__law_changed, od__law_changed, .func (PySem.W.fnOf "_law_changed" "_law_changed" (C8.fnArgs s__law_changed) (C8.fnBody s__law_changed) (C8.fnScope s__law_changed) .none kV__law_changed dc__law_changed pm__law_changed an__law_changed cd__law_changed ct__law_changed), sl__law_changed⟩)
    (co__law_changed : PySem.W.codeIn K cd__law_changed "_law_changed" = true)
    (k__law_changed : PySem.W.keepIn K (.ref f__law_changed) = true)
    (a__law_three : PySem.W.nsIn K mainGlobals "_law_three" = some (some (.ref f__law_three)))
    (l__law_three : K.lookup f__law_three = some ⟨oc__law_three, od__law_three, .func (PySem.W.fnOf "_law_three" "_law_three" (C8.fnArgs s__law_three) (C8.fnBody s__law_three) (C8.fnScope s__law_three) .none kV__law_three dc__law_three pm__law_three an__law_three cd__law_three ct__law_three), sl__law_three⟩)
    (co__law_three : PySem.W.codeIn K cd__law_three "_law_three" = true)
    (k__law_three : PySem.W.keepIn K (.ref f__law_three) = true)
    (a__law_line_told : PySem.W.nsIn K mainGlobals "_law_line_told" = some (some (.ref f__law_line_told)))
    (l__law_line_told : K.lookup f__law_line_told = some ⟨oc__law_line_told, od__law_line_told, .func (PySem.W.fnOf "_law_line_told" "_law_line_told" (C8.fnArgs s__law_line_told) (C8.fnBody s__law_line_told) (C8.fnScope s__law_line_told) .none kV__law_line_told dc__law_line_told pm__law_line_told an__law_line_told cd__law_line_told ct__law_line_told), sl__law_line_told⟩)
    (co__law_line_told : PySem.W.codeIn K cd__law_line_told "_law_line_told" = true)
    (k__law_line_told : PySem.W.keepIn K (.ref f__law_line_told) = true)
    (a__law_rank_told : PySem.W.nsIn K mainGlobals "_law_rank_told" = some (some (.ref f__law_rank_told)))
    (l__law_rank_told : K.lookup f__law_rank_told = some ⟨oc__law_rank_told, od__law_rank_told, .func (PySem.W.fnOf "_law_rank_told" "_law_rank_told" (C8.fnArgs s__law_rank_told) (C8.fnBody s__law_rank_told) (C8.fnScope s__law_rank_told) .none kV__law_rank_told dc__law_rank_told pm__law_rank_told an__law_rank_told cd__law_rank_told ct__law_rank_told), sl__law_rank_told⟩)
    (co__law_rank_told : PySem.W.codeIn K cd__law_rank_told "_law_rank_told" = true)
    (k__law_rank_told : PySem.W.keepIn K (.ref f__law_rank_told) = true)
    (a_law : PySem.W.nsIn K mainGlobals "law" = some (some (.ref f_law)))
    (l_law : K.lookup f_law = some ⟨oc_law, od_law, .func (PySem.W.fnOf "law" "law" (C8.fnArgs s_law) (C8.fnBody s_law) (C8.fnScope s_law) .none kV_law dc_law pm_law an_law cd_law ct_law), sl_law⟩)
    (co_law : PySem.W.codeIn K cd_law "law" = true)
    (k_law : PySem.W.keepIn K (.ref f_law) = true)
    (a_te : PySem.W.findIn K (.ref B) "__init__" = some (some (.ref f_te)))
    (l_te : K.lookup f_te = some ⟨oc_te, od_te, .func (PySem.W.fnOf "__init__" "TableError.__init__" (C8.fnArgs s_TableError___init__) (C8.fnBody s_TableError___init__) (C8.fnScope s_TableError___init__) .none kV_te dc_te pm_te an_te cd_te ct_te), sl_te⟩)
    (co_te : PySem.W.codeIn K cd_te "TableError.__init__" = true)
    (k_te : PySem.W.keepIn K (.ref f_te) = true)
    (g_B : PySem.W.nsIn K mainGlobals "TableError" = some (some (.ref B)))
    (g_M : PySem.W.nsIn K mainGlobals "MixedDimensions" = some (some (.ref M)))
    (g_Z : PySem.W.nsIn K mainGlobals "ZeroRow" = some (some (.ref Z)))
    (g_O : PySem.W.nsIn K mainGlobals "OneDirectionOnly" = some (some (.ref O)))
    (xl_M : K.lookup M = some (excClassObj nm_M q_M M N_M bs_M bm_M true sn_M sub_M ab_M col_M dd_M m0_M m1_M (some (.str "MixedDimensions" tk_M)) m3_M m5_M "ValueError.__new__"))
    (vb_M : PySem.HandSPX.refsVE bm_M = true)
    (sa_M : PySem.W.findIn K (.ref M) "__setattr__" = some (some (.builtin "object.__setattr__")))
    (ex_M : PySem.W.subIn K (.ref M) (.type "BaseException") = some true)
    (ty_M : PySem.W.typeIn K (.ref M) = some (.type "type"))
    (kc_M : PySem.W.keepIn K (.ref M) = true)
    (ga_M : PySem.W.findIn K (.ref M) "__getattribute__" = some (some (.builtin "BaseException.__getattribute__")))
    (gg_M : PySem.W.findIn K (.ref M) "__getattr__" = some none)
    (hd_M : PySem.W.hasDictIn K M = true)
    (ha_M : PySem.W.findIn K (.ref M) "__class__" = some (some (.builtin "object.__class__")))
    (mr_M : PySem.W.mroIn K M (.type "object") = some true)
    (rd_M : PySem.W.readsIn K M (.type "type") = true)
    (fn_M : PySem.W.findCls K (.ref M) (.type "type") "__name__" = some (.get (.builtin "getset_descriptor.__get__") (.builtin "type.__name__") (.ref M) (.type "type")))
    (nw_M : PySem.W.findIn K (.ref M) "word" = some none)
    (ni_M : PySem.W.findIn K (.ref M) "index" = some none)
    (in_M : PySem.W.findIn K (.ref M) "__init__" = some (some (.ref f_te)))
    (hn : PySem.W.specialIn K (.builtin "object.__class__") "__get__" = some (some (.builtin "getset_descriptor.__get__")))
    (ht : PySem.W.takesIn K (.builtin "object.__class__") = some true)
    (g_FEW : PySem.W.nsIn K mainGlobals "FEW_PAIRS" = some (some (.int 2000 tk_FEW)))
    (ti_te : PySem.W.typeIn K (.ref f_te) = some (.type "function"))
    (xM : PySem.W.exmOne K (.ref M) (.ref B) = some true)
    (vM : PySem.W.kitOne K (.ref M) (.type "ValueError") = some true)
    (bM : PySem.W.kitOne K (.ref M) (.ref B) = some true)
    (k1 : PySem.W.kitOne K (.ref M) (.ref M) = some true)
    (k2 : PySem.W.kitOne K (.ref M) (.ref Z) = some false)
    (k3 : PySem.W.kitOne K (.ref M) (.ref O) = some false) :
    ∃ fd : FuncData, (∀ (s : Shared) (v : Value), BindsTo s fd ⟨[v], []⟩ [("_law_script", v)]) ∧ ∀ base : Heap, K.In base → base.Ns mainGlobals mg → FnOk l.prog w K mg base L2.CX0 13 fa fd ["_law_script"] (spLaw K) := by
  have e := hfa.symm.trans (PySem.W.mg_of X G a_law)
  cases e
  have T : Bi mg := ⟨PySem.W.mg_none_of X G z_len, PySem.W.mg_none_of X G z_int, PySem.W.mg_none_of X G z_str, PySem.W.mg_none_of X G z_bool, PySem.W.mg_none_of X G z_list, PySem.W.mg_none_of X G z_tuple, PySem.W.mg_none_of X G z_range, PySem.W.mg_none_of X G z_enumerate, PySem.W.mg_none_of X G z_isinstance, PySem.W.mg_none_of X G z_sorted, PySem.W.mg_none_of X G z_abs, PySem.W.mg_none_of X G z_any, PySem.W.mg_none_of X G z_all, PySem.W.mg_none_of X G z_sum, PySem.W.mg_none_of X G z_min, PySem.W.mg_none_of X G z_max, PySem.W.mg_none_of X G z_zip, PySem.W.mg_none_of X G z_set⟩
  have D_places_length : C8.Def K mg "places_length" s_places_length f_places_length _ := ⟨⟨⟨_, _, _, _, _, _, _, _, _, _, rfl, l_places_length, co_places_length⟩⟩, PySem.W.mg_of X G a_places_length, k_places_length⟩
  have b_places_length := D_places_length.fn.binds (ps := ["row"]) rfl fun _ _ _ _ _ _ us hl => match us, hl with | [_], _ => rfl
  have D_same_lengths : C8.Def K mg "same_lengths" s_same_lengths f_same_lengths _ := ⟨⟨⟨_, _, _, _, _, _, _, _, _, _, rfl, l_same_lengths, co_same_lengths⟩⟩, PySem.W.mg_of X G a_same_lengths, k_same_lengths⟩
  have b_same_lengths := D_same_lengths.fn.binds (ps := ["lengths"]) rfl fun _ _ _ _ _ _ us hl => match us, hl with | [_], _ => rfl
  have D_same_dimension : C8.Def K mg "same_dimension" s_same_dimension f_same_dimension _ := ⟨⟨⟨_, _, _, _, _, _, _, _, _, _, rfl, l_same_dimension, co_same_dimension⟩⟩, PySem.W.mg_of X G a_same_dimension, k_same_dimension⟩
  have D_bounds : C8.Def K mg "bounds" s_bounds f_bounds _ := ⟨⟨⟨_, _, _, _, _, _, _, _, _, _, rfl, l_bounds, co_bounds⟩⟩, PySem.W.mg_of X G a_bounds, k_bounds⟩
  have b_bounds := D_bounds.fn.binds (ps := ["row"]) rfl fun _ _ _ _ _ _ us hl => match us, hl with | [_], _ => rfl
  have D_product_sizes : C8.Def K mg "product_sizes" s_product_sizes f_product_sizes _ := ⟨⟨⟨_, _, _, _, _, _, _, _, _, _, rfl, l_product_sizes, co_product_sizes⟩⟩, PySem.W.mg_of X G a_product_sizes, k_product_sizes⟩
  have b_product_sizes := D_product_sizes.fn.binds (ps := ["first", "second"]) rfl fun _ _ _ _ _ _ us hl => match us, hl with | [_, _], _ => rfl
  have D_longest : C8.Def K mg "longest" s_longest f_longest _ := ⟨⟨⟨_, _, _, _, _, _, _, _, _, _, rfl, l_longest, co_longest⟩⟩, PySem.W.mg_of X G a_longest, k_longest⟩
  have b_longest := D_longest.fn.binds (ps := ["row"]) rfl fun _ _ _ _ _ _ us hl => match us, hl with | [_], _ => rfl
  have D_digit_bits : C8.Def K mg "digit_bits" s_digit_bits f_digit_bits _ := ⟨⟨⟨_, _, _, _, _, _, _, _, _, _, rfl, l_digit_bits, co_digit_bits⟩⟩, PySem.W.mg_of X G a_digit_bits, k_digit_bits⟩
  have b_digit_bits := D_digit_bits.fn.binds (ps := ["first", "second"]) rfl fun _ _ _ _ _ _ us hl => match us, hl with | [_, _], _ => rfl
  have D_is_crowded : C8.Def K mg "is_crowded" s_is_crowded f_is_crowded _ := ⟨⟨⟨_, _, _, _, _, _, _, _, _, _, rfl, l_is_crowded, co_is_crowded⟩⟩, PySem.W.mg_of X G a_is_crowded, k_is_crowded⟩
  have b_is_crowded := D_is_crowded.fn.binds (ps := ["first", "second"]) rfl fun _ _ _ _ _ _ us hl => match us, hl with | [_, _], _ => rfl
  have D_digit_at : C8.Def K mg "digit_at" s_digit_at f_digit_at _ := ⟨⟨⟨_, _, _, _, _, _, _, _, _, _, rfl, l_digit_at, co_digit_at⟩⟩, PySem.W.mg_of X G a_digit_at, k_digit_at⟩
  have b_digit_at := D_digit_at.fn.binds (ps := ["place", "lows", "sizes"]) rfl fun _ _ _ _ _ _ us hl => match us, hl with | [_, _, _], _ => rfl
  have D_place_at : C8.Def K mg "place_at" s_place_at f_place_at _ := ⟨⟨⟨_, _, _, _, _, _, _, _, _, _, rfl, l_place_at, co_place_at⟩⟩, PySem.W.mg_of X G a_place_at, k_place_at⟩
  have b_place_at := D_place_at.fn.binds (ps := ["index", "lows", "sizes"]) rfl fun _ _ _ _ _ _ us hl => match us, hl with | [_, _, _], _ => rfl
  have D_joined_digits : C8.Def K mg "joined_digits" s_joined_digits f_joined_digits _ := ⟨⟨⟨_, _, _, _, _, _, _, _, _, _, rfl, l_joined_digits, co_joined_digits⟩⟩, PySem.W.mg_of X G a_joined_digits, k_joined_digits⟩
  have b_joined_digits := D_joined_digits.fn.binds (ps := ["digits", "bits"]) rfl fun _ _ _ _ _ _ us hl => match us, hl with | [_, _], _ => rfl
  have D_low_digit : C8.Def K mg "low_digit" s_low_digit f_low_digit _ := ⟨⟨⟨_, _, _, _, _, _, _, _, _, _, rfl, l_low_digit, co_low_digit⟩⟩, PySem.W.mg_of X G a_low_digit, k_low_digit⟩
  have b_low_digit := D_low_digit.fn.binds (ps := ["number", "bits"]) rfl fun _ _ _ _ _ _ us hl => match us, hl with | [_, _], _ => rfl
  have D_split_digits : C8.Def K mg "split_digits" s_split_digits f_split_digits _ := ⟨⟨⟨_, _, _, _, _, _, _, _, _, _, rfl, l_split_digits, co_split_digits⟩⟩, PySem.W.mg_of X G a_split_digits, k_split_digits⟩
  have b_split_digits := D_split_digits.fn.binds (ps := ["number", "bits", "many"]) rfl fun _ _ _ _ _ _ us hl => match us, hl with | [_, _, _], _ => rfl
  have D_great_integer : C8.Def K mg "great_integer" s_great_integer f_great_integer _ := ⟨⟨⟨_, _, _, _, _, _, _, _, _, _, rfl, l_great_integer, co_great_integer⟩⟩, PySem.W.mg_of X G a_great_integer, k_great_integer⟩
  have b_great_integer := D_great_integer.fn.binds (ps := ["row", "sizes", "bits"]) rfl fun _ _ _ _ _ _ us hl => match us, hl with | [_, _, _], _ => rfl
  have D_crowded_product : C8.Def K mg "crowded_product" s_crowded_product f_crowded_product _ := ⟨⟨⟨_, _, _, _, _, _, _, _, _, _, rfl, l_crowded_product, co_crowded_product⟩⟩, PySem.W.mg_of X G a_crowded_product, k_crowded_product⟩
  have b_crowded_product := D_crowded_product.fn.binds (ps := ["first", "second"]) rfl fun _ _ _ _ _ _ us hl => match us, hl with | [_, _], _ => rfl
  have D_row_of : C8.Def K mg "row_of" s_row_of f_row_of _ := ⟨⟨⟨_, _, _, _, _, _, _, _, _, _, rfl, l_row_of, co_row_of⟩⟩, PySem.W.mg_of X G a_row_of, k_row_of⟩
  have b_row_of := D_row_of.fn.binds (ps := ["numbers"]) rfl fun _ _ _ _ _ _ us hl => match us, hl with | [_], _ => rfl
  have D_gather : C8.Def K mg "gather" s_gather f_gather _ := ⟨⟨⟨_, _, _, _, _, _, _, _, _, _, rfl, l_gather, co_gather⟩⟩, PySem.W.mg_of X G a_gather, k_gather⟩
  have b_gather := D_gather.fn.binds (ps := ["entries"]) rfl fun _ _ _ _ _ _ us hl => match us, hl with | [_], _ => rfl
  have D_reach : C8.Def K mg "reach" s_reach f_reach _ := ⟨⟨⟨_, _, _, _, _, _, _, _, _, _, rfl, l_reach, co_reach⟩⟩, PySem.W.mg_of X G a_reach, k_reach⟩
  have b_reach := D_reach.fn.binds (ps := ["row"]) rfl fun _ _ _ _ _ _ us hl => match us, hl with | [_], _ => rfl
  have D_key_base : C8.Def K mg "key_base" s_key_base f_key_base _ := ⟨⟨⟨_, _, _, _, _, _, _, _, _, _, rfl, l_key_base, co_key_base⟩⟩, PySem.W.mg_of X G a_key_base, k_key_base⟩
  have b_key_base := D_key_base.fn.binds (ps := ["first", "second"]) rfl fun _ _ _ _ _ _ us hl => match us, hl with | [_, _], _ => rfl
  have D_key_of : C8.Def K mg "key_of" s_key_of f_key_of _ := ⟨⟨⟨_, _, _, _, _, _, _, _, _, _, rfl, l_key_of, co_key_of⟩⟩, PySem.W.mg_of X G a_key_of, k_key_of⟩
  have b_key_of := D_key_of.fn.binds (ps := ["place", "base"]) rfl fun _ _ _ _ _ _ us hl => match us, hl with | [_, _], _ => rfl
  have D_place_of : C8.Def K mg "place_of" s_place_of f_place_of _ := ⟨⟨⟨_, _, _, _, _, _, _, _, _, _, rfl, l_place_of, co_place_of⟩⟩, PySem.W.mg_of X G a_place_of, k_place_of⟩
  have b_place_of := D_place_of.fn.binds (ps := ["key", "base", "length"]) rfl fun _ _ _ _ _ _ us hl => match us, hl with | [_, _, _], _ => rfl
  have D_keyed : C8.Def K mg "keyed" s_keyed f_keyed _ := ⟨⟨⟨_, _, _, _, _, _, _, _, _, _, rfl, l_keyed, co_keyed⟩⟩, PySem.W.mg_of X G a_keyed, k_keyed⟩
  have b_keyed := D_keyed.fn.binds (ps := ["row", "base"]) rfl fun _ _ _ _ _ _ us hl => match us, hl with | [_, _], _ => rfl
  have D_unkeyed : C8.Def K mg "unkeyed" s_unkeyed f_unkeyed _ := ⟨⟨⟨_, _, _, _, _, _, _, _, _, _, rfl, l_unkeyed, co_unkeyed⟩⟩, PySem.W.mg_of X G a_unkeyed, k_unkeyed⟩
  have b_unkeyed := D_unkeyed.fn.binds (ps := ["numbers", "base", "length"]) rfl fun _ _ _ _ _ _ us hl => match us, hl with | [_, _, _], _ => rfl
  have D_add : C8.Def K mg "add" s_add f_add _ := ⟨⟨⟨_, _, _, _, _, _, _, _, _, _, rfl, l_add, co_add⟩⟩, PySem.W.mg_of X G a_add, k_add⟩
  have b_add := D_add.fn.binds (ps := ["first", "second"]) rfl fun _ _ _ _ _ _ us hl => match us, hl with | [_, _], _ => rfl
  have D_subtract : C8.Def K mg "subtract" s_subtract f_subtract _ := ⟨⟨⟨_, _, _, _, _, _, _, _, _, _, rfl, l_subtract, co_subtract⟩⟩, PySem.W.mg_of X G a_subtract, k_subtract⟩
  have b_subtract := D_subtract.fn.binds (ps := ["first", "second"]) rfl fun _ _ _ _ _ _ us hl => match us, hl with | [_, _], _ => rfl
  have D_negate : C8.Def K mg "negate" s_negate f_negate _ := ⟨⟨⟨_, _, _, _, _, _, _, _, _, _, rfl, l_negate, co_negate⟩⟩, PySem.W.mg_of X G a_negate, k_negate⟩
  have b_negate := D_negate.fn.binds (ps := ["row"]) rfl fun _ _ _ _ _ _ us hl => match us, hl with | [_], _ => rfl
  have D_scale : C8.Def K mg "scale" s_scale f_scale _ := ⟨⟨⟨_, _, _, _, _, _, _, _, _, _, rfl, l_scale, co_scale⟩⟩, PySem.W.mg_of X G a_scale, k_scale⟩
  have b_scale := D_scale.fn.binds (ps := ["row", "factor"]) rfl fun _ _ _ _ _ _ us hl => match us, hl with | [_, _], _ => rfl
  have D_multiply : C8.Def K mg "multiply" s_multiply f_multiply _ := ⟨⟨⟨_, _, _, _, _, _, _, _, _, _, rfl, l_multiply, co_multiply⟩⟩, PySem.W.mg_of X G a_multiply, k_multiply⟩
  have b_multiply := D_multiply.fn.binds (ps := ["first", "second"]) rfl fun _ _ _ _ _ _ us hl => match us, hl with | [_, _], _ => rfl
  have D_mirror : C8.Def K mg "mirror" s_mirror f_mirror _ := ⟨⟨⟨_, _, _, _, _, _, _, _, _, _, rfl, l_mirror, co_mirror⟩⟩, PySem.W.mg_of X G a_mirror, k_mirror⟩
  have b_mirror := D_mirror.fn.binds (ps := ["row"]) rfl fun _ _ _ _ _ _ us hl => match us, hl with | [_], _ => rfl
  have D_is_symmetric : C8.Def K mg "is_symmetric" s_is_symmetric f_is_symmetric _ := ⟨⟨⟨_, _, _, _, _, _, _, _, _, _, rfl, l_is_symmetric, co_is_symmetric⟩⟩, PySem.W.mg_of X G a_is_symmetric, k_is_symmetric⟩
  have b_is_symmetric := D_is_symmetric.fn.binds (ps := ["row"]) rfl fun _ _ _ _ _ _ us hl => match us, hl with | [_], _ => rfl
  have D_cross_table : C8.Def K mg "cross_table" s_cross_table f_cross_table _ := ⟨⟨⟨_, _, _, _, _, _, _, _, _, _, rfl, l_cross_table, co_cross_table⟩⟩, PySem.W.mg_of X G a_cross_table, k_cross_table⟩
  have b_cross_table := D_cross_table.fn.binds (ps := ["first", "second"]) rfl fun _ _ _ _ _ _ us hl => match us, hl with | [_, _], _ => rfl
  have D_on_one_line : C8.Def K mg "on_one_line" s_on_one_line f_on_one_line _ := ⟨⟨⟨_, _, _, _, _, _, _, _, _, _, rfl, l_on_one_line, co_on_one_line⟩⟩, PySem.W.mg_of X G a_on_one_line, k_on_one_line⟩
  have b_on_one_line := D_on_one_line.fn.binds (ps := ["first", "second", "third"]) rfl fun _ _ _ _ _ _ us hl => match us, hl with | [_, _, _], _ => rfl
  have D_raises_rank : C8.Def K mg "raises_rank" s_raises_rank f_raises_rank _ := ⟨⟨⟨_, _, _, _, _, _, _, _, _, _, rfl, l_raises_rank, co_raises_rank⟩⟩, PySem.W.mg_of X G a_raises_rank, k_raises_rank⟩
  have b_raises_rank := D_raises_rank.fn.binds (ps := ["known", "reference"]) rfl fun _ _ _ _ _ _ us hl => match us, hl with | [_, _], _ => rfl
  have D_basis : C8.Def K mg "basis" s_basis f_basis _ := ⟨⟨⟨_, _, _, _, _, _, _, _, _, _, rfl, l_basis, co_basis⟩⟩, PySem.W.mg_of X G a_basis, k_basis⟩
  have b_basis := D_basis.fn.binds (ps := ["references"]) rfl fun _ _ _ _ _ _ us hl => match us, hl with | [_], _ => rfl
  have D_rank : C8.Def K mg "rank" s_rank f_rank _ := ⟨⟨⟨_, _, _, _, _, _, _, _, _, _, rfl, l_rank, co_rank⟩⟩, PySem.W.mg_of X G a_rank, k_rank⟩
  have b_rank := D_rank.fn.binds (ps := ["references"]) rfl fun _ _ _ _ _ _ us hl => match us, hl with | [_], _ => rfl
  have D__law_cell : C8.Def K mg "_law_cell" s__law_cell f__law_cell _ := ⟨⟨⟨_, _, _, _, _, _, _, _, _, _, rfl, l__law_cell, co__law_cell⟩⟩, PySem.W.mg_of X G a__law_cell, k__law_cell⟩
  have b__law_cell := D__law_cell.fn.binds (ps := ["_law_script", "_law_k"]) rfl fun _ _ _ _ _ _ us hl => match us, hl with | [_, _], _ => rfl
  have D__law_draws : C8.Def K mg "_law_draws" s__law_draws f__law_draws _ := ⟨⟨⟨_, _, _, _, _, _, _, _, _, _, rfl, l__law_draws, co__law_draws⟩⟩, PySem.W.mg_of X G a__law_draws, k__law_draws⟩
  have b__law_draws := D__law_draws.fn.binds (ps := ["_law_cell_here", "_law_sizes"]) rfl fun _ _ _ _ _ _ us hl => match us, hl with | [_, _], _ => rfl
  have D__law_is_integer : C8.Def K mg "_law_is_integer" s__law_is_integer f__law_is_integer _ := ⟨⟨⟨_, _, _, _, _, _, _, _, _, _, rfl, l__law_is_integer, co__law_is_integer⟩⟩, PySem.W.mg_of X G a__law_is_integer, k__law_is_integer⟩
  have b__law_is_integer := D__law_is_integer.fn.binds (ps := ["_law_actual"]) rfl fun _ _ _ _ _ _ us hl => match us, hl with | [_], _ => rfl
  have D__law_plus : C8.Def K mg "_law_plus" s__law_plus f__law_plus _ := ⟨⟨⟨_, _, _, _, _, _, _, _, _, _, rfl, l__law_plus, co__law_plus⟩⟩, PySem.W.mg_of X G a__law_plus, k__law_plus⟩
  have b__law_plus := D__law_plus.fn.binds (ps := ["_law_place", "_law_other"]) rfl fun _ _ _ _ _ _ us hl => match us, hl with | [_, _], _ => rfl
  have D__law_back : C8.Def K mg "_law_back" s__law_back f__law_back _ := ⟨⟨⟨_, _, _, _, _, _, _, _, _, _, rfl, l__law_back, co__law_back⟩⟩, PySem.W.mg_of X G a__law_back, k__law_back⟩
  have b__law_back := D__law_back.fn.binds (ps := ["_law_place"]) rfl fun _ _ _ _ _ _ us hl => match us, hl with | [_], _ => rfl
  have D__law_row : C8.Def K mg "_law_row" s__law_row f__law_row _ := ⟨⟨⟨_, _, _, _, _, _, _, _, _, _, rfl, l__law_row, co__law_row⟩⟩, PySem.W.mg_of X G a__law_row, k__law_row⟩
  have b__law_row := D__law_row.fn.binds (ps := ["_law_pairs"]) rfl fun _ _ _ _ _ _ us hl => match us, hl with | [_], _ => rfl
  have D__law_add : C8.Def K mg "_law_add" s__law_add f__law_add _ := ⟨⟨⟨_, _, _, _, _, _, _, _, _, _, rfl, l__law_add, co__law_add⟩⟩, PySem.W.mg_of X G a__law_add, k__law_add⟩
  have b__law_add := D__law_add.fn.binds (ps := ["_law_first", "_law_second"]) rfl fun _ _ _ _ _ _ us hl => match us, hl with | [_, _], _ => rfl
  have D__law_scaled : C8.Def K mg "_law_scaled" s__law_scaled f__law_scaled _ := ⟨⟨⟨_, _, _, _, _, _, _, _, _, _, rfl, l__law_scaled, co__law_scaled⟩⟩, PySem.W.mg_of X G a__law_scaled, k__law_scaled⟩
  have b__law_scaled := D__law_scaled.fn.binds (ps := ["_law_row_here", "_law_factor"]) rfl fun _ _ _ _ _ _ us hl => match us, hl with | [_, _], _ => rfl
  have D__law_minus : C8.Def K mg "_law_minus" s__law_minus f__law_minus _ := ⟨⟨⟨_, _, _, _, _, _, _, _, _, _, rfl, l__law_minus, co__law_minus⟩⟩, PySem.W.mg_of X G a__law_minus, k__law_minus⟩
  have b__law_minus := D__law_minus.fn.binds (ps := ["_law_first", "_law_second"]) rfl fun _ _ _ _ _ _ us hl => match us, hl with | [_, _], _ => rfl
  have D__law_times : C8.Def K mg "_law_times" s__law_times f__law_times _ := ⟨⟨⟨_, _, _, _, _, _, _, _, _, _, rfl, l__law_times, co__law_times⟩⟩, PySem.W.mg_of X G a__law_times, k__law_times⟩
  have b__law_times := D__law_times.fn.binds (ps := ["_law_first", "_law_second"]) rfl fun _ _ _ _ _ _ us hl => match us, hl with | [_, _], _ => rfl
  have D__law_mirror : C8.Def K mg "_law_mirror" s__law_mirror f__law_mirror _ := ⟨⟨⟨_, _, _, _, _, _, _, _, _, _, rfl, l__law_mirror, co__law_mirror⟩⟩, PySem.W.mg_of X G a__law_mirror, k__law_mirror⟩
  have b__law_mirror := D__law_mirror.fn.binds (ps := ["_law_row_here"]) rfl fun _ _ _ _ _ _ us hl => match us, hl with | [_], _ => rfl
  have D__law_moved : C8.Def K mg "_law_moved" s__law_moved f__law_moved _ := ⟨⟨⟨_, _, _, _, _, _, _, _, _, _, rfl, l__law_moved, co__law_moved⟩⟩, PySem.W.mg_of X G a__law_moved, k__law_moved⟩
  have b__law_moved := D__law_moved.fn.binds (ps := ["_law_row_here", "_law_by"]) rfl fun _ _ _ _ _ _ us hl => match us, hl with | [_, _], _ => rfl
  have D__law_cross : C8.Def K mg "_law_cross" s__law_cross f__law_cross _ := ⟨⟨⟨_, _, _, _, _, _, _, _, _, _, rfl, l__law_cross, co__law_cross⟩⟩, PySem.W.mg_of X G a__law_cross, k__law_cross⟩
  have b__law_cross := D__law_cross.fn.binds (ps := ["_law_first", "_law_second"]) rfl fun _ _ _ _ _ _ us hl => match us, hl with | [_, _], _ => rfl
  have D__law_is_error : C8.Def K mg "_law_is_error" s__law_is_error f__law_is_error _ := ⟨⟨⟨_, _, _, _, _, _, _, _, _, _, rfl, l__law_is_error, co__law_is_error⟩⟩, PySem.W.mg_of X G a__law_is_error, k__law_is_error⟩
  have b__law_is_error := D__law_is_error.fn.binds (ps := ["_law_e", "_law_word"]) rfl fun _ _ _ _ _ _ us hl => match us, hl with | [_, _], _ => rfl
  have D__law_sparse : C8.Def K mg "_law_sparse" s__law_sparse f__law_sparse _ := ⟨⟨⟨_, _, _, _, _, _, _, _, _, _, rfl, l__law_sparse, co__law_sparse⟩⟩, PySem.W.mg_of X G a__law_sparse, k__law_sparse⟩
  have b__law_sparse := D__law_sparse.fn.binds (ps := ["_law_cell_here", "_law_count", "_law_many", "_law_reach", "_law_wide", "_law_moves"]) rfl fun _ _ _ _ _ _ us hl => match us, hl with | [_, _, _, _, _, _], _ => rfl
  have D__law_turned : C8.Def K mg "_law_turned" s__law_turned f__law_turned _ := ⟨⟨⟨_, _, _, _, _, _, _, _, _, _, rfl, l__law_turned, co__law_turned⟩⟩, PySem.W.mg_of X G a__law_turned, k__law_turned⟩
  have b__law_turned := D__law_turned.fn.binds (ps := ["_law_row_here", "_law_sign", "_law_by"]) rfl fun _ _ _ _ _ _ us hl => match us, hl with | [_, _, _], _ => rfl
  have D__law_mixed : C8.Def K mg "_law_mixed" s__law_mixed f__law_mixed _ := ⟨⟨⟨_, _, _, _, _, _, _, _, _, _, rfl, l__law_mixed, co__law_mixed⟩⟩, PySem.W.mg_of X G a__law_mixed, k__law_mixed⟩
  have b__law_mixed := D__law_mixed.fn.binds (ps := ["_law_rows"]) rfl fun _ _ _ _ _ _ us hl => match us, hl with | [_], _ => rfl
  have D__law_is_mixed : C8.Def K mg "_law_is_mixed" s__law_is_mixed f__law_is_mixed _ := ⟨⟨⟨_, _, _, _, _, _, _, _, _, _, rfl, l__law_is_mixed, co__law_is_mixed⟩⟩, PySem.W.mg_of X G a__law_is_mixed, k__law_is_mixed⟩
  have b__law_is_mixed := D__law_is_mixed.fn.binds (ps := ["_law_e"]) rfl fun _ _ _ _ _ _ us hl => match us, hl with | [_], _ => rfl
  have D__law_far : C8.Def K mg "_law_far" s__law_far f__law_far _ := ⟨⟨⟨_, _, _, _, _, _, _, _, _, _, rfl, l__law_far, co__law_far⟩⟩, PySem.W.mg_of X G a__law_far, k__law_far⟩
  have b__law_far := D__law_far.fn.binds (ps := ["_law_cell_here", "_law_count"]) rfl fun _ _ _ _ _ _ us hl => match us, hl with | [_, _], _ => rfl
  have D__law_changed : C8.Def K mg "_law_changed" s__law_changed f__law_changed _ := ⟨⟨⟨_, _, _, _, _, _, _, _, _, _, rfl, l__law_changed, co__law_changed⟩⟩, PySem.W.mg_of X G a__law_changed, k__law_changed⟩
  have b__law_changed := D__law_changed.fn.binds (ps := ["_law_row_here", "_law_at"]) rfl fun _ _ _ _ _ _ us hl => match us, hl with | [_, _], _ => rfl
  have D__law_three : C8.Def K mg "_law_three" s__law_three f__law_three _ := ⟨⟨⟨_, _, _, _, _, _, _, _, _, _, rfl, l__law_three, co__law_three⟩⟩, PySem.W.mg_of X G a__law_three, k__law_three⟩
  have b__law_three := D__law_three.fn.binds (ps := ["_law_script", "_law_kinds"]) rfl fun _ _ _ _ _ _ us hl => match us, hl with | [_, _], _ => rfl
  have D__law_line_told : C8.Def K mg "_law_line_told" s__law_line_told f__law_line_told _ := ⟨⟨⟨_, _, _, _, _, _, _, _, _, _, rfl, l__law_line_told, co__law_line_told⟩⟩, PySem.W.mg_of X G a__law_line_told, k__law_line_told⟩
  have b__law_line_told := D__law_line_told.fn.binds (ps := ["_law_rows"]) rfl fun _ _ _ _ _ _ us hl => match us, hl with | [_], _ => rfl
  have D__law_rank_told : C8.Def K mg "_law_rank_told" s__law_rank_told f__law_rank_told _ := ⟨⟨⟨_, _, _, _, _, _, _, _, _, _, rfl, l__law_rank_told, co__law_rank_told⟩⟩, PySem.W.mg_of X G a__law_rank_told, k__law_rank_told⟩
  have b__law_rank_told := D__law_rank_told.fn.binds (ps := ["_law_rows"]) rfl fun _ _ _ _ _ _ us hl => match us, hl with | [_], _ => rfl
  have D_law : C8.Def K mg "law" s_law fa _ := ⟨⟨⟨_, _, _, _, _, _, _, _, _, _, rfl, l_law, co_law⟩⟩, hfa, k_law⟩
  have b_law := D_law.fn.binds (ps := ["_law_script"]) rfl fun _ _ _ _ _ _ us hl => match us, hl with | [_], _ => rfl
  have D_te : C8.Fun K "__init__" "TableError.__init__" s_TableError___init__ f_te _ := ⟨⟨_, _, _, _, _, _, _, _, _, _, rfl, l_te, co_te⟩⟩
  have b_te := D_te.binds (ps := ["self"]) rfl fun _ _ _ _ _ _ us hl => match us, hl with | [_], _ => rfl
  have oc_M : PySem.W.OtCls K M := ⟨ga_M, gg_M, ex_M, hd_M, ha_M, hn, ht, mr_M⟩
  have er_M : OtErr K M "MixedDimensions" := ⟨⟨⟨_, _, _, _, _, _, _, _, _, _, _, _, _, _, _, xl_M, vb_M⟩, sa_M, ex_M, ty_M, kc_M⟩, oc_M, ⟨⟨_, _, _, _, _, xl_M, rfl⟩, rd_M, ty_M, fn_M⟩, nw_M, ni_M⟩
  have ei_M : ErrI K mg "MixedDimensions" M f_te := ⟨PySem.W.mg_of X G g_M, er_M, in_M, ti_te⟩
  refine ⟨PySem.W.fnOf "law" "law" (C8.fnArgs s_law) (C8.fnBody s_law) (C8.fnScope s_law) .none kV_law dc_law pm_law an_law cd_law ct_law, fun s v => .of_eq rfl, fun base _ _ => ?_⟩
  have FD : FunD K "same_dimension" "same_dimension" (C8.fnArgs s_same_dimension) (C8.fnBody s_same_dimension) (C8.fnScope s_same_dimension) [V.ref A0_same_dimension] [] f_same_dimension _ := ⟨⟨_, _, _, _, _, _, _, _, _, _, rfl, l_same_dimension, co_same_dimension, .inr ⟨by simp, TD_same_dimension, _, [.ref A0_same_dimension], _, rfl, lt_same_dimension, rfl, .cons rfl .nil⟩, .inl rfl⟩, k_same_dimension⟩
  obtain ⟨ds1, vd1, bD1⟩ := FD.binds1 (ps := ["rows", "places"]) 1 0 (by simp) rfl fun T kV doc pm an cdv ct us its h1 h2 => match us, its, h1, h2 with | [_], [_], _, _ => ⟨_, rfl, rfl⟩
  have hA0 : ∀ H, SqT K H A0_same_dimension [] := fun H => .inr (⟨_, _, _, lu_same_dimension, rfl, rfl, Nat.zero_le _, .nil⟩)
  have GT : FnOk l.prog w K mg base L2.CX0 1 f_te _ ["self"] (spTE K) := ok_te D_te
  have gB := PySem.W.mg_of X G g_B
  have gM := PySem.W.mg_of X G g_M
  have gZ := PySem.W.mg_of X G g_Z
  have gO := PySem.W.mg_of X G g_O
  have c1 := c__law_cell (P := l.prog) (w := w) (base := base) D__law_cell b__law_cell T
  have c2 : C8.Cal l.prog w K mg base 1 "_law_draws" (spDraws K) [] := c__law_draws D__law_draws b__law_draws T
  have c3 := c__law_is_integer (P := l.prog) (w := w) (base := base) D__law_is_integer b__law_is_integer T
  have c4 := c__law_plus (P := l.prog) (w := w) (base := base) D__law_plus b__law_plus T
  have c5 := c__law_back (P := l.prog) (w := w) (base := base) D__law_back b__law_back T
  have c6 := c__law_row (P := l.prog) (w := w) (base := base) D__law_row b__law_row T
  have c7 := c__law_add D__law_add b__law_add T c6
  have c8 := c__law_scaled D__law_scaled b__law_scaled T c6
  have c9 := c__law_minus D__law_minus b__law_minus T c6 c8
  have c10 := c__law_times D__law_times b__law_times T c4 c6
  have c11 := c__law_mirror D__law_mirror b__law_mirror T c6 c5
  have c12 := c__law_moved D__law_moved b__law_moved T c4
  have c13 := c__law_cross D__law_cross b__law_cross T c10 c11
  have c14 := c__law_mixed (P := l.prog) (w := w) (base := base) D__law_mixed b__law_mixed T
  have c15 := c__law_sparse D__law_sparse b__law_sparse T c2 c6 c12
  have c16 := c__law_turned D__law_turned b__law_turned T c7 c8 c12 c11
  have c17 := c__law_far D__law_far b__law_far T c2
  have c18 := c__law_changed D__law_changed b__law_changed T c7
  have c19 := c__law_three D__law_three b__law_three T c1 c2 c15 c7 c10 c16 c18 c17 c12
  have d1 := c_places_length (P := l.prog) (w := w) (base := base) D_places_length b_places_length T
  have d2 := c_bounds (P := l.prog) (w := w) (base := base) D_bounds b_bounds T
  have d3 := c_reach (P := l.prog) (w := w) (base := base) D_reach b_reach T
  have d4 := c_key_base D_key_base b_key_base T d3
  have d5 := c_key_of (P := l.prog) (w := w) (base := base) D_key_of b_key_of T
  have d6 := c_place_of (P := l.prog) (w := w) (base := base) D_place_of b_place_of T
  have d7 := c_keyed D_keyed b_keyed T d5
  have d8 := c_unkeyed D_unkeyed b_unkeyed T d6
  have d9 := c_row_of (P := l.prog) (w := w) (base := base) D_row_of b_row_of T
  have d10 := c_gather D_gather b_gather T d9
  have d11 := c_mirror (P := l.prog) (w := w) (base := base) D_mirror b_mirror T
  have d12 := c_scale (P := l.prog) (w := w) (base := base) D_scale b_scale T
  have d13 := c_negate D_negate b_negate T d12
  have GS := ok_same_lengths D_same_lengths T ei_M GT b_te
  have GDT := ok_same_dimensionT D_same_dimension T D_same_lengths b_same_lengths GS d1
  have p1 := c_product_sizes D_product_sizes b_product_sizes T d2
  have p2 := c_longest (P := l.prog) (w := w) (base := base) D_longest b_longest T
  have p3 := c_digit_bits D_digit_bits b_digit_bits T p2
  have p4 := c_digit_at (P := l.prog) (w := w) (base := base) D_digit_at b_digit_at T
  have p5 := c_place_at (P := l.prog) (w := w) (base := base) D_place_at b_place_at T
  have p6 := c_low_digit (P := l.prog) (w := w) (base := base) D_low_digit b_low_digit T
  have p7 := c_joined_digits (P := l.prog) (w := w) (base := base) D_joined_digits b_joined_digits T
  have p8 := c_split_digits D_split_digits b_split_digits T p6
  have p9 := c_great_integer D_great_integer b_great_integer T d2 p4 p7
  have p10 := c_is_crowdedF D_is_crowded b_is_crowded T (PySem.W.mg_of X G g_FEW) p3 p1
  have p11 := c_crowded_product D_crowded_product b_crowded_product T p1 p3 d2 p9 p4 p8 p5
  have GMu := ok_multiplyF D_multiply T D_same_dimension bD1 vd1 hA0 GDT d4 d7 d8 d1 p10 p11
  have GAd := ok_add D_add T D_same_dimension bD1 vd1 hA0 GDT d10
  have GSu := ok_subtract D_subtract T D_add b_add GAd d13
  have GCr := ok_cross_tableF D_cross_table T D_multiply b_multiply GMu d11
  have d14 := c_is_symmetricF D_is_symmetric b_is_symmetric T d11
  have GLi := ok_on_one_line D_on_one_line T D_same_dimension bD1 vd1 hA0 GDT D_cross_table b_cross_table GCr D_subtract b_subtract GSu d14
  have q1 := quietC D_on_one_line b_on_one_line .nil GLi lineQ
  have d15 := c_raises_rank D_raises_rank b_raises_rank T q1
  have GBa := ok_basis D_basis T D_same_dimension bD1 vd1 hA0 GDT d15
  have GRa := ok_rank D_rank T D_basis b_basis GBa
  have q2 := quietC D_rank b_rank .nil GRa rankQ
  have er : MixK K B M Z O := ⟨er_M, xM, bM, vM, k1, k2, k3⟩
  have h1 := h__law_is_error (P := l.prog) (w := w) (base := base) D__law_is_error b__law_is_error T gB (PySem.W.mg_none_of X G z_ValueError)
  have h2 := h__law_is_mixed D__law_is_mixed b__law_is_mixed T gM gZ gO er h1
  have c20 := c__law_line_told D__law_line_told b__law_line_told T gB er D_on_one_line b_on_one_line GLi h2
  have c21 := c__law_rank_told D__law_rank_told b__law_rank_told T gB er D_rank b_rank GRa h2 c3
  exact c_law D_law b_law T c1 c2 c19 c14 c13 c9 c11 c20 c21 c3 q2 q1
theorem walk {l : PySem.W.OpenLaw} {q : Program} {loose : List Str} {XP : (Str → Option Value) → Heap → Prop} {YP : World → Heap → Prop} {d : DefRec} {K : Params → PySem.W.Frag} (hn : l.most = some 63) (hdf : d.params.defaults = [])
    (hY : ∀ (w : World) (h : Heap), YP w h → (K w.params).In h)
    (F : ∀ (w : World) (mg : Str → Option Value) (fa : Addr) (h : Heap), (K w.params).In h → h.Ns mainGlobals mg → mg d.name = some (.ref fa) →
      ∃ fd : FuncData, (∀ (s : Shared) (u : Value), BindsTo s fd ⟨[u], []⟩ [("_law_script", u)]) ∧ ∀ base : Heap, (K w.params).In base → base.Ns mainGlobals mg → FnOk l.prog w (K w.params) mg base L2.CX0 13 fa fd ["_law_script"] (spLaw (K w.params))) :
    PySem.W.WalkO q loose XP YP l.row.toRowW d [] (fun f vs => PySem.call f vs) :=
  L2.walk_ofK (n := 63) (k := 13) (x := "_law_script") (CX := L2.CX0) (sp := spLaw) hn (by decide) hdf ⟨rfl, by decide, by decide⟩ hY F (fun _ _ a ns hl _ hS => ⟨a, ns, rfl, hS, hl, fun _ => rfl⟩) fun _ _ _ _ z => z
end OT
open PySem PySem.W PyProof.Rows
set_option maxRecDepth 100000 in
set_option maxHeartbeats 0 in
theorem PySem.Challenge.cw_owntables_k10_on_one_line_holds : PySem.Challenge.rw_owntables_k10_on_one_line.Holds := by
  w_on; o_law; k_head; (case hw => w_witness2)
  k_fill
  refine OT.walk (l := PySem.Challenge.rw_owntables_k10_on_one_line) rfl rfl (fun w h Y => PySem.W.kIn_of Y) ?F
  case F =>
    intro w mg fa h KX G hmg
    refine' OT.all_mk KX G hmg ?z_len ?z_int ?z_str ?z_bool ?z_list ?z_tuple ?z_range ?z_enumerate ?z_isinstance ?z_sorted ?z_abs ?z_any ?z_all ?z_sum ?z_min ?z_max ?z_zip ?z_set ?z_ValueError ?a_places_length ?l_places_length ?co_places_length ?k_places_length ?a_same_lengths ?l_same_lengths ?co_same_lengths ?k_same_lengths ?a_same_dimension ?l_same_dimension ?lt_same_dimension ?lu_same_dimension ?co_same_dimension ?k_same_dimension ?a_bounds ?l_bounds ?co_bounds ?k_bounds ?a_product_sizes ?l_product_sizes ?co_product_sizes ?k_product_sizes ?a_longest ?l_longest ?co_longest ?k_longest ?a_digit_bits ?l_digit_bits ?co_digit_bits ?k_digit_bits ?a_is_crowded ?l_is_crowded ?co_is_crowded ?k_is_crowded ?a_digit_at ?l_digit_at ?co_digit_at ?k_digit_at ?a_place_at ?l_place_at ?co_place_at ?k_place_at ?a_joined_digits ?l_joined_digits ?co_joined_digits ?k_joined_digits ?a_low_digit ?l_low_digit ?co_low_digit ?k_low_digit ?a_split_digits ?l_split_digits ?co_split_digits ?k_split_digits ?a_great_integer ?l_great_integer ?co_great_integer ?k_great_integer ?a_crowded_product ?l_crowded_product ?co_crowded_product ?k_crowded_product ?a_row_of ?l_row_of ?co_row_of ?k_row_of ?a_gather ?l_gather ?co_gather ?k_gather ?a_reach ?l_reach ?co_reach ?k_reach ?a_key_base ?l_key_base ?co_key_base ?k_key_base ?a_key_of ?l_key_of ?co_key_of ?k_key_of ?a_place_of ?l_place_of ?co_place_of ?k_place_of ?a_keyed ?l_keyed ?co_keyed ?k_keyed ?a_unkeyed ?l_unkeyed ?co_unkeyed ?k_unkeyed ?a_add ?l_add ?co_add ?k_add ?a_subtract ?l_subtract ?co_subtract ?k_subtract ?a_negate ?l_negate ?co_negate ?k_negate ?a_scale ?l_scale ?co_scale ?k_scale ?a_multiply ?l_multiply ?co_multiply ?k_multiply ?a_mirror ?l_mirror ?co_mirror ?k_mirror ?a_is_symmetric ?l_is_symmetric ?co_is_symmetric ?k_is_symmetric ?a_cross_table ?l_cross_table ?co_cross_table ?k_cross_table ?a_on_one_line ?l_on_one_line ?co_on_one_line ?k_on_one_line ?a_raises_rank ?l_raises_rank ?co_raises_rank ?k_raises_rank ?a_basis ?l_basis ?co_basis ?k_basis ?a_rank ?l_rank ?co_rank ?k_rank ?a__law_cell ?l__law_cell ?co__law_cell ?k__law_cell ?a__law_draws ?l__law_draws ?co__law_draws ?k__law_draws ?a__law_is_integer ?l__law_is_integer ?co__law_is_integer ?k__law_is_integer ?a__law_plus ?l__law_plus ?co__law_plus ?k__law_plus ?a__law_back ?l__law_back ?co__law_back ?k__law_back ?a__law_row ?l__law_row ?co__law_row ?k__law_row ?a__law_add ?l__law_add ?co__law_add ?k__law_add ?a__law_scaled ?l__law_scaled ?co__law_scaled ?k__law_scaled ?a__law_minus ?l__law_minus ?co__law_minus ?k__law_minus ?a__law_times ?l__law_times ?co__law_times ?k__law_times ?a__law_mirror ?l__law_mirror ?co__law_mirror ?k__law_mirror ?a__law_moved ?l__law_moved ?co__law_moved ?k__law_moved ?a__law_cross ?l__law_cross ?co__law_cross ?k__law_cross ?a__law_is_error ?l__law_is_error ?co__law_is_error ?k__law_is_error ?a__law_sparse ?l__law_sparse ?co__law_sparse ?k__law_sparse ?a__law_turned ?l__law_turned ?co__law_turned ?k__law_turned ?a__law_mixed ?l__law_mixed ?co__law_mixed ?k__law_mixed ?a__law_is_mixed ?l__law_is_mixed ?co__law_is_mixed ?k__law_is_mixed ?a__law_far ?l__law_far ?co__law_far ?k__law_far ?a__law_changed ?l__law_changed ?co__law_changed ?k__law_changed ?a__law_three ?l__law_three ?co__law_three ?k__law_three ?a__law_line_told ?l__law_line_told ?co__law_line_told ?k__law_line_told ?a__law_rank_told ?l__law_rank_told ?co__law_rank_told ?k__law_rank_told ?a_law ?l_law ?co_law ?k_law ?a_te ?l_te ?co_te ?k_te ?g_B ?g_M ?g_Z ?g_O ?xl_M ?vb_M ?sa_M ?ex_M ?ty_M ?kc_M ?ga_M ?gg_M ?hd_M ?ha_M ?mr_M ?rd_M ?fn_M ?nw_M ?ni_M ?in_M ?hn ?ht ?g_FEW ?ti_te ?xM ?vM ?bM ?k1 ?k2 ?k3
    (case g_B => k_is)
    (case g_M => k_is)
    (case g_Z => k_is)
    (case g_O => k_is)
    (case g_FEW => k_is)
    (case a_places_length => k_is)
    (case a_same_lengths => k_is)
    (case a_same_dimension => k_is)
    (case a_bounds => k_is)
    (case a_product_sizes => k_is)
    (case a_longest => k_is)
    (case a_digit_bits => k_is)
    (case a_is_crowded => k_is)
    (case a_digit_at => k_is)
    (case a_place_at => k_is)
    (case a_joined_digits => k_is)
    (case a_low_digit => k_is)
    (case a_split_digits => k_is)
    (case a_great_integer => k_is)
    (case a_crowded_product => k_is)
    (case a_row_of => k_is)
    (case a_gather => k_is)
    (case a_reach => k_is)
    (case a_key_base => k_is)
    (case a_key_of => k_is)
    (case a_place_of => k_is)
    (case a_keyed => k_is)
    (case a_unkeyed => k_is)
    (case a_add => k_is)
    (case a_subtract => k_is)
    (case a_negate => k_is)
    (case a_scale => k_is)
    (case a_multiply => k_is)
    (case a_mirror => k_is)
    (case a_is_symmetric => k_is)
    (case a_cross_table => k_is)
    (case a_on_one_line => k_is)
    (case a_raises_rank => k_is)
    (case a_basis => k_is)
    (case a_rank => k_is)
    (case a__law_cell => k_is)
    (case a__law_draws => k_is)
    (case a__law_is_integer => k_is)
    (case a__law_plus => k_is)
    (case a__law_back => k_is)
    (case a__law_row => k_is)
    (case a__law_add => k_is)
    (case a__law_scaled => k_is)
    (case a__law_minus => k_is)
    (case a__law_times => k_is)
    (case a__law_mirror => k_is)
    (case a__law_moved => k_is)
    (case a__law_cross => k_is)
    (case a__law_is_error => k_is)
    (case a__law_sparse => k_is)
    (case a__law_turned => k_is)
    (case a__law_mixed => k_is)
    (case a__law_is_mixed => k_is)
    (case a__law_far => k_is)
    (case a__law_changed => k_is)
    (case a__law_three => k_is)
    (case a__law_line_told => k_is)
    (case a__law_rank_told => k_is)
    (case a_law => k_is)
    (case a_te => k_is)
    (case xl_M => k_is)
    (case in_M => k_is)
    (case z_len => k_is)
    (case z_int => k_is)
    (case z_str => k_is)
    (case z_bool => k_is)
    (case z_list => k_is)
    (case z_tuple => k_is)
    (case z_range => k_is)
    (case z_enumerate => k_is)
    (case z_isinstance => k_is)
    (case z_sorted => k_is)
    (case z_abs => k_is)
    (case z_any => k_is)
    (case z_all => k_is)
    (case z_sum => k_is)
    (case z_min => k_is)
    (case z_max => k_is)
    (case z_zip => k_is)
    (case z_set => k_is)
    (case z_ValueError => k_is)
    (case l_places_length => k_is)
    (case co_places_length => k_is)
    (case k_places_length => k_is)
    (case l_same_lengths => k_is)
    (case co_same_lengths => k_is)
    (case k_same_lengths => k_is)
    (case l_same_dimension => k_is)
    (case lt_same_dimension => first | rfl | k_is)
    (case lu_same_dimension => first | rfl | k_is)
    (case co_same_dimension => k_is)
    (case k_same_dimension => k_is)
    (case l_bounds => k_is)
    (case co_bounds => k_is)
    (case k_bounds => k_is)
    (case l_product_sizes => k_is)
    (case co_product_sizes => k_is)
    (case k_product_sizes => k_is)
    (case l_longest => k_is)
    (case co_longest => k_is)
    (case k_longest => k_is)
    (case l_digit_bits => k_is)
    (case co_digit_bits => k_is)
    (case k_digit_bits => k_is)
    (case l_is_crowded => k_is)
    (case co_is_crowded => k_is)
    (case k_is_crowded => k_is)
    (case l_digit_at => k_is)
    (case co_digit_at => k_is)
    (case k_digit_at => k_is)
    (case l_place_at => k_is)
    (case co_place_at => k_is)
    (case k_place_at => k_is)
    (case l_joined_digits => k_is)
    (case co_joined_digits => k_is)
    (case k_joined_digits => k_is)
    (case l_low_digit => k_is)
    (case co_low_digit => k_is)
    (case k_low_digit => k_is)
    (case l_split_digits => k_is)
    (case co_split_digits => k_is)
    (case k_split_digits => k_is)
    (case l_great_integer => k_is)
    (case co_great_integer => k_is)
    (case k_great_integer => k_is)
    (case l_crowded_product => k_is)
    (case co_crowded_product => k_is)
    (case k_crowded_product => k_is)
    (case l_row_of => k_is)
    (case co_row_of => k_is)
    (case k_row_of => k_is)
    (case l_gather => k_is)
    (case co_gather => k_is)
    (case k_gather => k_is)
    (case l_reach => k_is)
    (case co_reach => k_is)
    (case k_reach => k_is)
    (case l_key_base => k_is)
    (case co_key_base => k_is)
    (case k_key_base => k_is)
    (case l_key_of => k_is)
    (case co_key_of => k_is)
    (case k_key_of => k_is)
    (case l_place_of => k_is)
    (case co_place_of => k_is)
    (case k_place_of => k_is)
    (case l_keyed => k_is)
    (case co_keyed => k_is)
    (case k_keyed => k_is)
    (case l_unkeyed => k_is)
    (case co_unkeyed => k_is)
    (case k_unkeyed => k_is)
    (case l_add => k_is)
    (case co_add => k_is)
    (case k_add => k_is)
    (case l_subtract => k_is)
    (case co_subtract => k_is)
    (case k_subtract => k_is)
    (case l_negate => k_is)
    (case co_negate => k_is)
    (case k_negate => k_is)
    (case l_scale => k_is)
    (case co_scale => k_is)
    (case k_scale => k_is)
    (case l_multiply => k_is)
    (case co_multiply => k_is)
    (case k_multiply => k_is)
    (case l_mirror => k_is)
    (case co_mirror => k_is)
    (case k_mirror => k_is)
    (case l_is_symmetric => k_is)
    (case co_is_symmetric => k_is)
    (case k_is_symmetric => k_is)
    (case l_cross_table => k_is)
    (case co_cross_table => k_is)
    (case k_cross_table => k_is)
    (case l_on_one_line => k_is)
    (case co_on_one_line => k_is)
    (case k_on_one_line => k_is)
    (case l_raises_rank => k_is)
    (case co_raises_rank => k_is)
    (case k_raises_rank => k_is)
    (case l_basis => k_is)
    (case co_basis => k_is)
    (case k_basis => k_is)
    (case l_rank => k_is)
    (case co_rank => k_is)
    (case k_rank => k_is)
    (case l__law_cell => k_is)
    (case co__law_cell => k_is)
    (case k__law_cell => k_is)
    (case l__law_draws => k_is)
    (case co__law_draws => k_is)
    (case k__law_draws => k_is)
    (case l__law_is_integer => k_is)
    (case co__law_is_integer => k_is)
    (case k__law_is_integer => k_is)
    (case l__law_plus => k_is)
    (case co__law_plus => k_is)
    (case k__law_plus => k_is)
    (case l__law_back => k_is)
    (case co__law_back => k_is)
    (case k__law_back => k_is)
    (case l__law_row => k_is)
    (case co__law_row => k_is)
    (case k__law_row => k_is)
    (case l__law_add => k_is)
    (case co__law_add => k_is)
    (case k__law_add => k_is)
    (case l__law_scaled => k_is)
    (case co__law_scaled => k_is)
    (case k__law_scaled => k_is)
    (case l__law_minus => k_is)
    (case co__law_minus => k_is)
    (case k__law_minus => k_is)
    (case l__law_times => k_is)
    (case co__law_times => k_is)
    (case k__law_times => k_is)
    (case l__law_mirror => k_is)
    (case co__law_mirror => k_is)
    (case k__law_mirror => k_is)
    (case l__law_moved => k_is)
    (case co__law_moved => k_is)
    (case k__law_moved => k_is)
    (case l__law_cross => k_is)
    (case co__law_cross => k_is)
    (case k__law_cross => k_is)
    (case l__law_is_error => k_is)
    (case co__law_is_error => k_is)
    (case k__law_is_error => k_is)
    (case l__law_sparse => k_is)
    (case co__law_sparse => k_is)
    (case k__law_sparse => k_is)
    (case l__law_turned => k_is)
    (case co__law_turned => k_is)
    (case k__law_turned => k_is)
    (case l__law_mixed => k_is)
    (case co__law_mixed => k_is)
    (case k__law_mixed => k_is)
    (case l__law_is_mixed => k_is)
    (case co__law_is_mixed => k_is)
    (case k__law_is_mixed => k_is)
    (case l__law_far => k_is)
    (case co__law_far => k_is)
    (case k__law_far => k_is)
    (case l__law_changed => k_is)
    (case co__law_changed => k_is)
    (case k__law_changed => k_is)
    (case l__law_three => k_is)
    (case co__law_three => k_is)
    (case k__law_three => k_is)
    (case l__law_line_told => k_is)
    (case co__law_line_told => k_is)
    (case k__law_line_told => k_is)
    (case l__law_rank_told => k_is)
    (case co__law_rank_told => k_is)
    (case k__law_rank_told => k_is)
    (case l_law => k_is)
    (case co_law => k_is)
    (case k_law => k_is)
    (case l_te => k_is)
    (case co_te => k_is)
    (case k_te => k_is)
    (case vb_M => decide +kernel)
    (case sa_M => k_is)
    (case ex_M => k_is)
    (case ty_M => k_is)
    (case kc_M => k_is)
    (case ga_M => k_is)
    (case gg_M => k_is)
    (case hd_M => k_is)
    (case ha_M => k_is)
    (case mr_M => k_is)
    (case rd_M => k_is)
    (case fn_M => k_is)
    (case nw_M => k_is)
    (case ni_M => k_is)
    (case hn => k_is)
    (case ht => k_is)
    (case ti_te => k_is)
    (case xM => first | rfl | k_is)
    (case vM => first | rfl | k_is)
    (case bM => first | rfl | k_is)
    (case k1 => first | rfl | k_is)
    (case k2 => first | rfl | k_is)
    (case k3 => first | rfl | k_is)

